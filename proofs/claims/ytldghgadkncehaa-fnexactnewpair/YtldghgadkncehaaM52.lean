/- Contracts of this seat's functions, and their mathematics (LinC). -/
import Derived.Test.YtldghgadkncehaaM51
import Derived.Test.YtldghgadkncehaaM25
set_option linter.unusedVariables false
set_option linter.unusedSimpArgs false
set_option maxRecDepth 10000
set_option maxHeartbeats 4000000
namespace Go.Proofs.Ytldghgadkncehaa.Lin
open Go.RowKit RowG Hop
/-- A hop's rows can be read. -/
structure RL (w : World) (x : Ha) : Prop where
  p : Tak.partE.Lies w x.aT x.h.t.l
  l : letE.Lies w x.aW x.h.ws
  np : x.aT = none → x.cT = 0
  nl : x.aW = none → x.cW = 0
structure LL (w : World) (a : Option Addr) (xs : List Ha) : Prop where
  row : hopE.Lies w a xs
  rows : ∀ x ∈ xs, RL w x
theorem RL.later {w w' : World} {x : Ha} (h : RL w x) (b : Below w.heap.size w w') : RL w' x := ⟨h.p.later b, h.l.later b, h.np, h.nl⟩
theorem LL.later {w w' : World} {a : Option Addr} {xs : List Ha} (h : LL w a xs) (b : Below w.heap.size w w') : LL w' a xs := ⟨h.row.later b, fun x hx => (h.rows x hx).later b⟩
theorem LL.drew {w : World} {a : Option Addr} {xs : List Ha} (h : LL w a xs) : LL w.drew a xs := ⟨h.row.drew, fun x hx => ⟨(h.rows x hx).p.drew, (h.rows x hx).l.drew, (h.rows x hx).np, (h.rows x hx).nl⟩⟩
theorem LineLay.ll {w : World} {B : Nat} {a : Option Addr} {c : Nat} {xs : List Ha} (L : LineLay w B a c xs) : LL w a xs := ⟨L.row.lies, fun x hx => ⟨(L.rows x hx).p.lies, (L.rows x hx).l.lies, (L.rows x hx).p.none_cap, (L.rows x hx).l.none_cap⟩⟩
/-- Not too great to be copied. -/
def Few (x : Ha) : Prop := x.h.t.l.length ≤ 524288 ∧ x.h.ws.length ≤ 524288
/-- While a hop is copied onto the end of a line (operation 9 appends, 11 stores). -/
structure CpW (w : World) (S0 k3 : Nat) (l1 l2 : List Value) (a : Option Addr) (xs : List Ha) (g' c'' : Nat) (rs : List Roa.Rd) (k : Nat) (ao : Option Addr) (co : Nat) (ys : List Ha) (h : Hp) (d : Nat → Bool) (wr : World) : Prop where
  v1 : Var 37 wr w.heap.size l1
  v2 : Var 37 wr (w.heap.size + 1) l2
  L : LL wr a xs
  R : Roa.E.Own 97 wr w.heap.size (some ⟨g', 0, none⟩) c'' rs
  b : Below w.heap.size w wr
  z : S0 ≤ wr.heap.size
  old : d 9 = false → LineLay wr w.heap.size ao co ys
  var : d 11 = false → Var 37 wr k3 [.slice ao k co, .slice (some ⟨g', 0, none⟩) rs.length c'']
  new : d 11 = true → ∃ a' c' y, y.h = h ∧ Var 37 wr k3 [.slice a' (k + 1) c', .slice (some ⟨g', 0, none⟩) rs.length c''] ∧ LineLay wr w.heap.size a' c' (ys ++ [y])
/-- A hop's value, its rows at or above S. -/
def TieV (S : Nat) (h : Hp) (v : Value) (w : World) : Prop := ∃ y : Ha, y.h = h ∧ v = .agg y.c.toArray ∧ Rows w S y
def TieS (S : Nat) (h : Hp) (v : Value) (w : World) : Prop := ∃ (y : Ha) (m : Nat), S ≤ m ∧ y.h = h ∧ v = .slice (some ⟨m, 0, none⟩) 1 1 ∧ Var 85 w m y.c ∧ Rows w S y
def TieL (B : Nat) (n : Nat) (ys : List Ha) (h : Hp) (v : Value) (w : World) : Prop := ∃ (y : Ha) (a : Option Addr) (c : Nat), y.h = h ∧ v = .slice a n c ∧ LineLay w B a c (ys ++ [y])
theorem TieV.later {S : Nat} {h : Hp} {v : Value} {w w' : World} (t : TieV S h v w) (b : Below w.heap.size w w') : TieV S h v w' := by
  obtain ⟨y, h1, h2, h3⟩ := t
  exact ⟨y, h1, h2, h3.later b⟩
theorem TieS.later {S : Nat} {h : Hp} {v : Value} {w w' : World} (t : TieS S h v w) (b : Below w.heap.size w w') : TieS S h v w' := by
  obtain ⟨y, m, h0, h1, h2, h3, h4⟩ := t
  exact ⟨y, m, h0, h1, h2, h3.later b, h4.later b⟩
theorem TieL.later {B n : Nat} {ys : List Ha} {h : Hp} {v : Value} {w w' : World} (t : TieL B n ys h v w) (b : Below w.heap.size w w') : TieL B n ys h v w' := by
  obtain ⟨y, a, c, h1, h2, h3⟩ := t
  exact ⟨y, a, c, h1, h2, h3.later b⟩
theorem CpW.later {w : World} {S0 k3 : Nat} {l1 l2 : List Value} {a : Option Addr} {xs : List Ha} {g' c'' : Nat} {rs : List Roa.Rd} {k : Nat} {ao : Option Addr} {co : Nat} {ys : List Ha} {h : Hp} {d d' : Nat → Bool} {wr w' : World}
    (q : CpW w S0 k3 l1 l2 a xs g' c'' rs k ao co ys h d wr) (b : Below wr.heap.size wr w') (h9 : d' 9 = d 9) (h11 : d' 11 = d 11) : CpW w S0 k3 l1 l2 a xs g' c'' rs k ao co ys h d' w' :=
  ⟨q.v1.later b, q.v2.later b, q.L.later b, q.R.later b, q.b.trans (b.mono q.b.size), Nat.le_trans q.z b.size, fun e => (q.old (h9 ▸ e)).later b, fun e => (q.var (h11 ▸ e)).later b, fun e => by
    obtain ⟨a', c', y, h1, h2, h3⟩ := q.new (h11 ▸ e)
    exact ⟨a', c', y, h1, h2.later b, h3.later b⟩⟩
/-- A hop more at the end of a line. -/
theorem LineLay.snoc {w w' : World} {B S : Nat} {ao a' : Option Addr} {co c' : Nat} {ys : List Ha} {y : Ha} (L : LineLay w B ao co ys) (o : hopE.Own 85 w' B a' c' (ys ++ [y])) (g : w.grownBy w' (blk ao)) (R : Rows w S y) (hS : B ≤ S) (hy : ∀ z ∈ ys, ∀ p, z.aW = some p → p.block < S) : LineLay w' B a' c' (ys ++ [y]) := by
  have hne : ∀ {α : Type} {E : El α} {T : TypeId} {B' c : Nat} {a : Option Addr} {l : List α}, T ≠ 85 → E.Own T w B' a c l → E.Own T w' B' a c l := by
    intro α E T B' c a l hT h
    refine h.grown g (fun x hx e => ?_)
    cases hao : ao with
    | none => rw [hao] at e; cases e
    | some p =>
      rw [hao] at e
      simp only [blk, Option.map_some, Option.some.injEq] at e
      obtain ⟨cs, h1⟩ := own_row h x hx
      obtain ⟨cs', h2⟩ := own_row L.row p hao
      rw [e] at h1
      rw [h1] at h2
      injection h2 with h2
      injection h2 with _ h3 _
      exact hT h3
  refine ⟨o, fun x hx => ?_, ?_⟩
  · rcases List.mem_append.1 hx with hx | hx
    · exact ⟨hne (by decide) (L.rows x hx).p, hne (by decide) (L.rows x hx).l⟩
    · obtain rfl : x = y := by simpa using hx
      exact ⟨(hne (by decide) R.p).mono hS, (hne (by decide) R.l).mono hS⟩
  · have key : ∀ z ∈ ys, Off z y ∧ Off y z := by
      intro z hz
      have : Off z y := fun p q hp hq => by
        have h1 := hy z hz p hp
        have h2 := (R.l.lt q hq).1
        omega
      exact ⟨this, fun p q hp hq => Ne.symm (this q p hq hp)⟩
    intro i j x z hij hx hz
    rcases Nat.lt_or_ge i ys.length with hi | hi <;> rcases Nat.lt_or_ge j ys.length with hj | hj
    · rw [List.getElem?_append_left hi] at hx
      rw [List.getElem?_append_left hj] at hz
      exact L.off i j x z hij hx hz
    · rw [List.getElem?_append_left hi] at hx
      rw [List.getElem?_append_right hj] at hz
      obtain rfl : z = y := by
        rcases Nat.eq_zero_or_pos (j - ys.length) with e | e
        · rw [e] at hz; simpa using hz.symm
        · rw [List.getElem?_eq_none (by simp; omega)] at hz; cases hz
      exact (key x (List.mem_of_getElem? hx)).1
    · rw [List.getElem?_append_right hi] at hx
      rw [List.getElem?_append_left hj] at hz
      obtain rfl : x = y := by
        rcases Nat.eq_zero_or_pos (i - ys.length) with e | e
        · rw [e] at hx; simpa using hx.symm
        · rw [List.getElem?_eq_none (by simp; omega)] at hx; cases hx
      exact (key z (List.mem_of_getElem? hz)).2
    · rw [List.getElem?_append_right hi] at hx
      rw [List.getElem?_append_right hj] at hz
      have h1 := (List.getElem?_eq_some_iff.1 hx).1
      have h2 := (List.getElem?_eq_some_iff.1 hz).1
      simp at h1 h2
      omega
theorem LineLay.keptV {T : TypeId} {w w' : World} {B k : Nat} {a : Option Addr} {c : Nat} {xs : List Ha} {vs : List Value} (L : LineLay w B a c xs) (v : Var T w k vs) (h1 : T ≠ 85) (h2 : T ≠ 136) (h3 : T ≠ 87) (b : Draw.Kept k w w') : LineLay w' B a c xs :=
  ⟨L.row.kept b (own_win h1 L.row v.win), fun x hx => ⟨(L.rows x hx).p.kept b (own_win h2 (L.rows x hx).p v.win), (L.rows x hx).l.kept b (own_win h3 (L.rows x hx).l v.win)⟩, L.off⟩
theorem lies_var {w : World} {m : Nat} {y : Ha} (v : Var 85 w m y.c) : hopE.Lies w (some ⟨m, 0, none⟩) [y] := by
  refine .inr ⟨m, 0, rfl, fun j u hu => ?_⟩
  rw [El.vals_one] at hu
  rw [Nat.zero_add]
  exact v.cell hu
theorem or_ne {d : Nat → Bool} {n q : Nat} (h : n ≠ q) : (n == q || d n) = d n := by simp [h]
theorem LineLay.nil (w : World) (B : Nat) : LineLay w B none 0 [] := ⟨El.Own.none _ _, (fun x hx => by simp at hx), (fun i j x y _ hx => by simp at hx)⟩
theorem infoHop2 : (Try.prog.info? 85).map (·.size) = some 13 := by kernel_rfl
theorem structHop2 : ∃ fs, Try.prog.underlying 85 = some (.struct fs) := ⟨_, Try.underlying85⟩
theorem l13Copy (a aR : Option Addr) (n m cH cR : Nat) (xs : List Ha) (rs : List Roa.Rd) (w : World) (hn : n = xs.length) (hm : m = rs.length) (L : LL w a xs) (R : Roa.E.Lies w aR rs) (hR : aR = none → cR = 0) (hl : xs.length ≤ 1000) (hr : rs.length ≤ 1000) (hf : ∀ x ∈ xs, Few x) :
    Calls Try.prog 43 #[.agg #[.slice a n cH, .slice aR m cR]] w fun e w' => ∃ a' c' ys g' c'', e = .returned (.agg #[.slice a' n c', .slice (some ⟨g', 0, none⟩) m c'']) ∧ LineLay w' w.heap.size a' c' ys ∧ ys.map (·.h) = xs.map (·.h) ∧ Roa.E.Own 97 w' w.heap.size (some ⟨g', 0, none⟩) c'' rs ∧ Below w.heap.size w w' := by
  subst hn hm
  have hmix := Roa.mix
  have v1 : Var 37 ((w.alloc (.cells #[.slice a xs.length cH, .slice aR rs.length cR] 37)).alloc (.cells #[.slice none 0 0, .slice none 0 0] 37)) w.heap.size [.slice a xs.length cH, .slice aR rs.length cR] := (Var.new w _).alloc _
  have v2 : Var 37 ((w.alloc (.cells #[.slice a xs.length cH, .slice aR rs.length cR] 37)).alloc (.cells #[.slice none 0 0, .slice none 0 0] 37)) (w.heap.size + 1) [.slice none 0 0, .slice none 0 0] := by
    have q := Var.new (T := 37) (w.alloc (.cells #[.slice a xs.length cH, .slice aR rs.length cR] 37)) [.slice none 0 0, .slice none 0 0]
    simpa using q
  have b0 : Below w.heap.size w ((w.alloc (.cells #[.slice a xs.length cH, .slice aR rs.length cR] 37)).alloc (.cells #[.slice none 0 0, .slice none 0 0] 37)) := ((Below.refl _ _).alloc (Nat.le_refl _) _).alloc (by simp) _
  go_enter Try.func43, Try.ntmps43
  go_wp2_with fail
  generalize (w.alloc (.cells #[.slice a xs.length cH, .slice aR rs.length cR] 37)).alloc (.cells #[.slice none 0 0, .slice none 0 0] 37) = V at *
  have v2V := v2.lt
  refine (Roa.l10Copy _ _ _ rs _ rfl (R.later b0) hR (by omega)).mono ?_
  rintro e w1 ⟨g', c'', rfl, oR, b1⟩
  replace v1 := v1.later b1
  replace v2 := v2.later b1
  have B1 := b0.trans (b1.mono b0.size)
  have hV : w.heap.size + 1 < V.heap.size := v2V
  clear b0 b1
  have v3 : Var 37 (w1.alloc (.cells #[.slice none 0 0, .slice (some ⟨g', 0, none⟩) rs.length c''] 37)) w1.heap.size [.slice none 0 0, .slice (some ⟨g', 0, none⟩) rs.length c''] := Var.new w1 _
  have R1 := (El.Own.mono (E := Roa.E) oR (Nat.le_of_lt (Nat.lt_of_lt_of_le (Nat.lt_succ_self _) (Nat.le_of_lt hV)))).alloc (.cells #[.slice none 0 0, .slice (some ⟨g', 0, none⟩) rs.length c''] 37)
  have b2 := B1.alloc B1.size (.cells #[.slice none 0 0, .slice (some ⟨g', 0, none⟩) rs.length c''] 37)
  replace v1 := v1.alloc (.cells #[.slice none 0 0, .slice (some ⟨g', 0, none⟩) rs.length c''] 37)
  have hk2 := v2.lt
  replace v2 := v2.alloc (.cells #[.slice none 0 0, .slice (some ⟨g', 0, none⟩) rs.length c''] 37)
  go_wp2_with fail
  generalize w1.alloc (.cells #[.slice none 0 0, .slice (some ⟨g', 0, none⟩) rs.length c''] 37) = V3 at *
  generalize w1.heap.size = k3 at *
  clear B1 oR
  go_loopw [4] (fun iv wr => ∃ (k co : Nat) (ao : Option Addr) (ys : List Ha), k ≤ xs.length ∧ iv = .int .i64 k ∧ Hid (ys.map (·.h) = (xs.take k).map (·.h)) ∧ Var 37 wr w.heap.size [.slice a xs.length cH, .slice aR rs.length cR] ∧ Var 37 wr (w.heap.size + 1) [.slice none 0 0, .slice none 0 0] ∧ Var 37 wr k3 [.slice ao k co, .slice (some ⟨g', 0, none⟩) rs.length c''] ∧ LineLay wr w.heap.size ao co ys ∧ Roa.E.Own 97 wr w.heap.size (some ⟨g', 0, none⟩) c'' rs ∧ Below w.heap.size w wr) (fun iv _ => xs.length - (intOf iv).toNat)
  case atStart => exact ⟨0, 0, none, [], by omega, rfl, rfl, v1, v2, v3, LineLay.nil _ _, R1, b2⟩
  case round =>
    clear v1 v2 v3 R1 b2
    obtain ⟨k, co, ao, ys, hk, rfl, hmap, v1, v2, v3, L1, R1, B1⟩ := hrel
    have e1 := v1.cell (i := 0) rfl
    by_cases hkx : k < xs.length
    · have i0 : (k : Int) < (xs.length : Int) := by omega
      have i1 : (0 : Int) ≤ (k : Int) := by omega
      obtain ⟨x0, hx⟩ : ∃ x, xs[k]? = some x := ⟨xs[k], List.getElem?_eq_getElem hkx⟩
      have hxm := List.mem_of_getElem? hx
      have Lw := L.later B1
      obtain ⟨b, off, rfl⟩ : ∃ b off, a = some ⟨b, off, none⟩ := by
        rcases Lw.row with hs | ⟨b, off, rfl, _⟩
        · simp [hs] at hkx
        · exact ⟨b, off, rfl⟩
      have hkl : Hid (k = ys.length) := by
        show _ = _
        have := congrArg List.length hmap.out
        simp at this
        omega
      obtain ⟨S0, hS0, hS1, hS2, hys⟩ : ∃ S0, S0 ≤ wr.drew.heap.size ∧ k3 < S0 ∧ w.heap.size ≤ S0 ∧ ∀ z ∈ ys, ∀ p, z.aW = some p → p.block < S0 := ⟨wr.heap.size, Nat.le_refl _, v3.lt, B1.size, fun z hz p hp => ((L1.rows z hz).l.lt p hp).2⟩
      have hst : ∀ q ∈ ([(7, 8, TieV S0 x0.h), (8, 9, TieS S0 x0.h), (9, 11, TieL w.heap.size (k + 1) ys x0.h)] : List RegJ.Tie), ∀ v (w1 w2 : World), Below w1.heap.size w1 w2 → q.2.2 v w1 → q.2.2 v w2 := by
        intro q hq v wa wb ba h
        simp only [List.mem_cons, List.not_mem_nil, or_false] at hq
        rcases hq with rfl | rfl | rfl
        · exact TieV.later h ba
        · exact TieS.later h ba
        · exact TieL.later h ba
      have keepW : ∀ (q : Nat) (d : Nat → Bool) (w' : World), CpW w S0 k3 [.slice (some ⟨b, off, none⟩) xs.length cH, .slice aR rs.length cR] [.slice none 0 0, .slice none 0 0] (some ⟨b, off, none⟩) xs g' c'' rs k ao co ys x0.h d w' → q ≠ 9 ∧ q ≠ 11 → CpW w S0 k3 [.slice (some ⟨b, off, none⟩) xs.length cH, .slice aR rs.length cR] [.slice none 0 0, .slice none 0 0] (some ⟨b, off, none⟩) xs g' c'' rs k ao co ys x0.h (fun j => j == q || d j) w' := fun q d w' h hq => h.later (Below.refl _ _) (or_ne (Ne.symm hq.1)) (or_ne (Ne.symm hq.2))
      go_wp2_with fail
      refine RegJ.wp_region_J (W := CpW w S0 k3 [.slice (some ⟨b, off, none⟩) xs.length cH, .slice aR rs.length cR] [.slice none 0 0, .slice none 0 0] (some ⟨b, off, none⟩) xs g' c'' rs k ao co ys x0.h) (RegJ.ValP [some (.pointer (some ⟨k3, 0, none⟩)), some (.slice ao k co), some (.pointer (some ⟨w.heap.size, 0, none⟩)), some (.slice (some ⟨b, off, none⟩) xs.length cH), some (.int .i64 (k : Int)), some (.pointer (some ⟨b, off + k * 13, none⟩)), some (x0.h.v x0.aT x0.cT x0.aW x0.cW), none, none, none, some (.pointer (some ⟨k3, 0, none⟩)), none] ([(7, 8, TieV S0 x0.h), (8, 9, TieS S0 x0.h), (9, 11, TieL w.heap.size (k + 1) ys x0.h)])) [some 16, some 17, some 18, some 19, some 20, some 21, some 22, some 23, some 24, some 25, some 26, none] (F := ?_) (is := [0, 1, 2, 3, 4, 5, 6, 7, 8, 9, 10, 11]) hmix (by kernel_rfl) (by kernel_rfl) (by kernel_rfl) (by kernel_rfl) (fun x => ?_) (⟨v1.drew, v2.drew, Lw.drew, R1.drew, B1.drew, hS0, fun _ => L1.drew, fun _ => v3.drew, fun e => by cases e⟩) ?_ (fun dR xR wR hWR hdR hJR => ?_)
      rotate_left 1
      focus (simp only [RegJ.lay, Act.put, Nat.reduceAdd, Nat.zero_add, List.getElem_toArray, List.getElem_cons_zero, List.getElem_cons_succ, List.setIfInBounds_toArray, List.set_cons_zero, List.set_cons_succ]; rfl)
      focus
        refine RegJ.Steps.cons (RegJ.StepAt.mk rfl (fun d x w1 hW1 hJ1 hx1 K hK => ?_)) (RegJ.Steps.cons (RegJ.StepAt.mk rfl (fun d x w1 hW1 hJ1 hx1 K hK => ?_)) (RegJ.Steps.cons (RegJ.StepAt.mk rfl (fun d x w1 hW1 hJ1 hx1 K hK => ?_)) (RegJ.Steps.cons (RegJ.StepAt.mk rfl (fun d x w1 hW1 hJ1 hx1 K hK => ?_)) (RegJ.Steps.cons (RegJ.StepAt.mk rfl (fun d x w1 hW1 hJ1 hx1 K hK => ?_)) (RegJ.Steps.cons (RegJ.StepAt.mk rfl (fun d x w1 hW1 hJ1 hx1 K hK => ?_)) (RegJ.Steps.cons (RegJ.StepAt.mk rfl (fun d x w1 hW1 hJ1 hx1 K hK => ?_)) (RegJ.Steps.cons (RegJ.StepAt.mk rfl (fun d x w1 hW1 hJ1 hx1 K hK => ?_)) (RegJ.Steps.cons (RegJ.StepAt.mk rfl (fun d x w1 hW1 hJ1 hx1 K hK => ?_)) (RegJ.Steps.cons (RegJ.StepAt.mk rfl (fun d x w1 hW1 hJ1 hx1 K hK => ?_)) (RegJ.Steps.cons (RegJ.StepAt.mk rfl (fun d x w1 hW1 hJ1 hx1 K hK => ?_)) (RegJ.Steps.cons (RegJ.StepAt.mk rfl (fun d x w1 hW1 hJ1 hx1 K hK => ?_)) (RegJ.Steps.nil))))))))))))
        focus (simp only [List.getElem_toArray, List.getElem_cons_succ, List.getElem_cons_zero] at hK; go_simp; exact hK.out _ _ (keepW 0 d _ hW1 (by decide)) RegJ.ValP.same (RegJ.ValP.free (Or.inl rfl) rfl))
        focus (simp only [List.getElem_toArray, List.getElem_cons_succ, List.getElem_cons_zero] at hK; have j0 : x 0 = _ := (hJ1.out 0 (by kernel_rfl)).val rfl; rw [j0] at hK; have c0 := (hW1.var (hx1.out 11 (.inr (by kernel_rfl))).1).cell (i := 0) rfl; go_simp; exact hK.out _ _ (keepW 1 d _ hW1 (by decide)) RegJ.ValP.same (RegJ.ValP.free (Or.inl rfl) rfl))
        focus (simp only [List.getElem_toArray, List.getElem_cons_succ, List.getElem_cons_zero] at hK; go_simp; exact hK.out _ _ (keepW 2 d _ hW1 (by decide)) RegJ.ValP.same (RegJ.ValP.free (Or.inl rfl) rfl))
        focus (simp only [List.getElem_toArray, List.getElem_cons_succ, List.getElem_cons_zero] at hK; have j2 : x 2 = _ := (hJ1.out 2 (by kernel_rfl)).val rfl; rw [j2] at hK; have c0 := hW1.v1.cell (i := 0) rfl; go_simp; exact hK.out _ _ (keepW 3 d _ hW1 (by decide)) RegJ.ValP.same (RegJ.ValP.free (Or.inl rfl) rfl))
        focus (simp only [List.getElem_toArray, List.getElem_cons_succ, List.getElem_cons_zero] at hK; go_simp; exact hK.out _ _ (keepW 4 d _ hW1 (by decide)) RegJ.ValP.same (RegJ.ValP.free (Or.inl rfl) rfl))
        focus (simp only [List.getElem_toArray, List.getElem_cons_succ, List.getElem_cons_zero] at hK; have j3 : x 3 = _ := (hJ1.out 3 (by kernel_rfl)).val rfl; rw [j3] at hK; have j4 : x 4 = _ := (hJ1.out 4 (by kernel_rfl)).val rfl; rw [j4] at hK; go_simp; exact hK.out _ _ (keepW 5 d _ hW1 (by decide)) RegJ.ValP.same (RegJ.ValP.free (Or.inl rfl) rfl))
        focus (simp only [List.getElem_toArray, List.getElem_cons_succ, List.getElem_cons_zero] at hK; have j5 : x 5 = _ := (hJ1.out 5 (by kernel_rfl)).val rfl; exact step_load_cells (by rfl) _ (by rfl) (by exact j5) (vs := x0.c) infoHop2 structHop2 (El.Lies.cells hW1.L.row hx) (hK.out _ _ (keepW 6 d _ hW1 (by decide)) RegJ.ValP.same (RegJ.ValP.free (Or.inl rfl) rfl)))
        focus (simp only [List.getElem_toArray, List.getElem_cons_succ, List.getElem_cons_zero] at hK; obtain ⟨q1, q2, qL, qR, qb, qz, qo, qv, qn⟩ := id hW1; have j6 : x 6 = _ := (hJ1.out 6 (by kernel_rfl)).val rfl; rw [j6] at hK; go_simp; refine (Hop.l7Copy x0.h x0.aT x0.cT x0.aW x0.cW _ (qL.rows x0 hxm).p (qL.rows x0 hxm).l (qL.rows x0 hxm).np (qL.rows x0 hxm).nl (hf x0 hxm).1 (hf x0 hxm).2).mono ?_; rintro e wa ⟨aT, cT, aW, cW, rfl, oT, oW, ba⟩; go_simp; exact hK.out _ _ (hW1.later ba rfl rfl) (RegJ.ValP.keep (fun q hq => .inr (.inr (.inr fun v h => hst q hq v _ _ ba h)))) (RegJ.ValP.this (Or.inr rfl) (by intro q hq he; simp only [List.mem_cons, List.not_mem_nil, or_false] at hq; rcases hq with rfl | rfl | rfl; exact ⟨⟨x0.h, aT, cT, aW, cW⟩, rfl, rfl, oT.mono qz, oW.mono qz⟩; cases he; cases he)))
        focus (simp only [List.getElem_toArray, List.getElem_cons_succ, List.getElem_cons_zero] at hK; obtain ⟨y, hy, j7, Ry⟩ := (hJ1.out 7 (by kernel_rfl)).tie (7, 8, TieV S0 x0.h) (by simp) rfl (hx1.out 8 (.inl rfl)).1; have HY : Hid (y.h = x0.h) := hy; clear hy; rw [j7] at hK; go_simp; have ba := (Below.refl w1.heap.size w1).alloc (Nat.le_refl _) (.cells y.c.toArray 85); exact hK.out _ _ (hW1.later ba rfl rfl) (RegJ.ValP.keep (fun q hq => .inr (.inr (.inr fun v h => hst q hq v _ _ ba h)))) (RegJ.ValP.this (Or.inr rfl) (by intro q hq he; simp only [List.mem_cons, List.not_mem_nil, or_false] at hq; rcases hq with rfl | rfl | rfl; cases he; exact ⟨y, w1.heap.size, hW1.z, HY.out, rfl, Var.new _ _, Ry.later ba⟩; cases he)))
        focus (simp only [List.getElem_toArray, List.getElem_cons_succ, List.getElem_cons_zero] at hK; obtain ⟨q1, q2, qL, qR, qb, qz, qo, qv, qn⟩ := id hW1; have j1 : x 1 = _ := (hJ1.out 1 (by kernel_rfl)).val rfl; obtain ⟨y, m, hm, hy, j8, vy, Ry⟩ := (hJ1.out 8 (by kernel_rfl)).tie (8, 9, TieS S0 x0.h) (by simp) rfl (hx1.out 9 (.inl rfl)).1; have Lo := qo (hx1.out 9 (.inl rfl)).1; have Vo := qv (hx1.out 11 (.inr (by kernel_rfl))).1; refine step_app typ (by decide) (by rfl) _ _ (by rfl) w.heap.size ao co k ys [y] hkl.out (by exact j1) Lo.row qb.size (some ⟨m, 0, none⟩) 1 1 rfl (by exact j8) (lies_var vy) (fun e => by cases e) (by rw [← hkl.out]; simp; omega) ?_; intro a' c' wa oa ga; have La := Lo.snoc oa ga Ry (by omega) hys; have hgk : ∀ g, blk ao = some g → w.heap.size ≤ g := blk_ge Lo.row; have ba := grown_below qb (Nat.le_refl _) hgk ga; have nv : ∀ {T : TypeId} {kk : Nat} {vs : List Value}, T ≠ 85 → Var T w1 kk vs → Var T wa kk vs := (fun {T kk vs} hT v => v.grown ga (fun g hg e => by cases hao : ao with | none => rw [hao] at hg; cases hg | some p => (rw [hao] at hg; cases hg; exact own_win hT Lo.row v.win p hao e.symm))); exact hK.out _ _ ⟨nv (by decide) q1, nv (by decide) q2, L.later ba, qR.grown ga (fun y' hy' e => by cases hao : ao with | none => rw [hao] at e; cases e | some p => (rw [hao] at e; simp only [blk, Option.map_some, Option.some.injEq] at e; cases hy'; exact own_two (by decide) qR Lo.row _ rfl (by rw [hao]; simp only [blk, Option.map_some, Option.some.injEq]; exact e))), ba, Nat.le_trans qz ga.size, fun e => absurd e (by simp), fun e => nv (by decide) (qv (by simpa using e)), fun e => absurd e (by simp [(hx1.out 11 (.inr (by kernel_rfl))).1])⟩ (RegJ.ValP.keep (by intro q hq; simp only [List.mem_cons, List.not_mem_nil, or_false] at hq; rcases hq with rfl | rfl | rfl; exact .inr (.inr (.inl (hJ1.out 8 (by kernel_rfl)).done)); exact .inr (.inl rfl); exact .inl rfl)) (RegJ.ValP.this (Or.inr rfl) (by intro q hq he; simp only [List.mem_cons, List.not_mem_nil, or_false] at hq; rcases hq with rfl | rfl | rfl; cases he; cases he; exact ⟨y, a', c', hy, rfl, La⟩)))
        focus (simp only [List.getElem_toArray, List.getElem_cons_succ, List.getElem_cons_zero] at hK; go_simp; exact hK.out _ _ (keepW 10 d _ hW1 (by decide)) RegJ.ValP.same (RegJ.ValP.free (Or.inl rfl) rfl))
        focus (simp only [List.getElem_toArray, List.getElem_cons_succ, List.getElem_cons_zero] at hK; obtain ⟨q1, q2, qL, qR, qb, qz, qo, qv, qn⟩ := id hW1; have j10 : x 10 = _ := (hJ1.out 10 (by kernel_rfl)).val rfl; rw [j10] at hK; obtain ⟨y, a', c', hy, j9, La⟩ := (hJ1.out 9 (by kernel_rfl)).tie (9, 11, TieL w.heap.size (k + 1) ys x0.h) (by simp) rfl (hx1.out 11 (.inl rfl)).1; have HY : Hid (y.h = x0.h) := hy; clear hy; rw [j9] at hK; have Vo := qv (hx1.out 11 (.inl rfl)).1; have c0 := Vo.cell (i := 0) rfl; have f0 := Vo.free 0; go_simp; have ka : Draw.Kept k3 w1 (w1.setCell ⟨k3, 0, none⟩ (.slice a' (k + 1) c')) := (Draw.Kept.refl _ _).setCell (p := ⟨k3, 0, none⟩) (.inl rfl) _; have ba := qb.trans (ka.below (by omega) qb.size); exact hK.out undef _ ⟨q1.kept ka (by omega), q2.kept ka (by omega), L.later ba, qR.kept ka (own_win (by decide) qR Vo.win), ba, Nat.le_trans qz ka.size, fun e => absurd e (by simp [(hJ1.out 9 (by kernel_rfl)).done]), fun e => absurd e (by simp), fun _ => ⟨a', c', y, HY.out, Vo.set 0 _, La.keptV Vo (by decide) (by decide) (by decide) ka⟩⟩ (RegJ.ValP.keep (by intro q hq; simp only [List.mem_cons, List.not_mem_nil, or_false] at hq; rcases hq with rfl | rfl | rfl; exact .inr (.inr (.inl (hJ1.out 8 (by kernel_rfl)).done)); exact .inr (.inr (.inl (hJ1.out 9 (by kernel_rfl)).done)); exact .inr (.inl rfl))) (RegJ.ValP.free (Or.inr rfl) rfl))
      obtain ⟨a', c', y, hy, v3', L3⟩ := hWR.new (hdR 11 (by simp))
      have hmap' : (ys ++ [y]).map (·.h) = (xs.take (k + 1)).map (·.h) := by
        rw [List.map_append, hmap.out, List.take_add_one, hx, List.map_append]
        simp [hy]
      have q1 := hWR.v1
      have q2 := hWR.v2
      have qR := hWR.R
      have qb := hWR.b
      clear hWR hJR hdR hst keepW v1 v2 v3 L1 R1 B1 e1 hmap
      have HM : Hid _ := hmap'
      clear hmap'
      go_wp2_with fail
      go_roundw
      case rel => exact ⟨k + 1, c', a', ys ++ [y], by omega, by simp, HM.out, q1, q2, v3', L3, qR, qb⟩
      case measure => simp [intOf]; omega
    · obtain rfl : k = xs.length := by omega
      have i0 : ¬ (xs.length : Int) < (xs.length : Int) := by omega
      have f0 := v2.free 0
      have f1 := v2.free 1
      have z0 := v2.cell (i := 0) rfl
      have z1 := v2.cell (i := 1) rfl
      have y0 := v3.cell (i := 0) rfl
      have y1 := v3.cell (i := 1) rfl
      have ka : Draw.Kept (w.heap.size + 1) wr ((wr.setCell ⟨w.heap.size + 1, 0, none⟩ (.slice ao xs.length co)).setCell ⟨w.heap.size + 1, 1, none⟩ (.slice (some ⟨g', 0, none⟩) rs.length c'')) := ((Draw.Kept.refl _ _).setCell (p := ⟨w.heap.size + 1, 0, none⟩) (.inl rfl) _).setCell (p := ⟨w.heap.size + 1, 1, none⟩) (.inl rfl) _
      have LZ := L1.keptV v2 (by decide) (by decide) (by decide) ka
      have RZ := R1.kept ka (own_win (by decide) R1 v2.win)
      have BZ := B1.trans (ka.below (by omega) B1.size)
      have hm := hmap.out
      rw [List.take_length] at hm
      have HM : Hid _ := hm
      clear hmap hm
      go_wp2_with fail
      refine bodyPost_ret (v := .agg #[.slice ao xs.length co, .slice (some ⟨g', 0, none⟩) rs.length c'']) (by rw [Hop.res_one rfl]; go_simp) rfl ⟨ao, co, ys, g', c'', rfl, LZ, HM.out, RZ, BZ⟩
end Go.Proofs.Ytldghgadkncehaa.Lin

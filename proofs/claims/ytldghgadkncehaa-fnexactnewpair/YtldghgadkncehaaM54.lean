/- Contracts of this seat's functions, and their mathematics (LinY LawIn). -/
import Derived.Test.YtldghgadkncehaaM53
import Derived.Test.YtldghgadkncehaaM51
import Derived.Test.YtldghgadkncehaaM27
set_option linter.unusedVariables false
set_option linter.unusedSimpArgs false
set_option maxRecDepth 20000
set_option maxHeartbeats 8000000
namespace Go.Proofs.Ytldghgadkncehaa.Lin
open Go.RowKit RowG Hop Wor
/-- A copy of a new line's rows. -/
structure NL2 (w : World) (B : Nat) (l : List Int) (n : Nat) (a : Option Addr) (c g d : Nat) (ys : List Ha) : Prop where
  L : LineLay w B a c ys
  hs : ys.map (·.h) = (newHs l 3).map toHp
  R : Roa.E.Own 97 w B (some ⟨g, 0, none⟩) d (newRs n)
theorem NL2.later {w w' : World} {B : Nat} {l : List Int} {n c g d : Nat} {a : Option Addr} {ys : List Ha} (h : NL2 w B l n a c g d ys) (b : Below w.heap.size w w') : NL2 w' B l n a c g d ys := ⟨h.L.later b, h.hs, h.R.later b⟩
theorem NL2.keptV {T : TypeId} {w w' : World} {B : Nat} {l : List Int} {n c g d k : Nat} {a : Option Addr} {ys : List Ha} {vs : List Value} (h : NL2 w B l n a c g d ys) (v : Var T w k vs) (h1 : T ≠ 85) (h2 : T ≠ 136) (h3 : T ≠ 87) (h4 : T ≠ 97) (b : Draw.Kept k w w') : NL2 w' B l n a c g d ys :=
  ⟨h.L.keptV v h1 h2 h3 b, h.hs, h.R.kept b (own_win h4 h.R v.win)⟩
def TieN (B : Nat) (l : List Int) (n : Nat) (v : Value) (w : World) : Prop := ∃ a2 c2 g2 d2 ys, v = .agg #[.slice a2 3 c2, .slice (some ⟨g2, 0, none⟩) n d2] ∧ NL2 w B l n a2 c2 g2 d2 ys
def TieM (B : Nat) (l : List Int) (n : Nat) (v : Value) (w : World) : Prop := ∃ a2 c2 g2 d2 ys, v = .agg #[.slice a2 3 c2, .slice (some ⟨g2, 0, none⟩) n d2, .string ⟨#[]⟩, .int .i64 0, .bool false, .bool false, .bool false] ∧ NL2 w B l n a2 c2 g2 d2 ys
theorem TieN.later {B : Nat} {l : List Int} {n : Nat} {v : Value} {w w' : World} (t : TieN B l n v w) (b : Below w.heap.size w w') : TieN B l n v w' := by
  obtain ⟨a2, c2, g2, d2, ys, h, q⟩ := t
  exact ⟨a2, c2, g2, d2, ys, h, q.later b⟩
theorem TieM.later {B : Nat} {l : List Int} {n : Nat} {v : Value} {w w' : World} (t : TieM B l n v w) (b : Below w.heap.size w w') : TieM B l n v w' := by
  obtain ⟨a2, c2, g2, d2, ys, h, q⟩ := t
  exact ⟨a2, c2, g2, d2, ys, h, q.later b⟩
structure CoN (w : World) (l1 : List Value) (l : List Int) (n : Nat) (d : Nat → Bool) (wr : World) : Prop where
  v1 : Var 40 wr w.heap.size l1
  b : Below w.heap.size w wr
  var : d 6 = false → Var 40 wr (w.heap.size + 1) [.slice none 0 0, .slice none 0 0, .string ⟨#[]⟩, .int .i64 0, .bool false, .bool false, .bool false]
  new : d 6 = true → ∃ a2 c2 g2 d2 ys, Var 40 wr (w.heap.size + 1) [.slice a2 3 c2, .slice (some ⟨g2, 0, none⟩) n d2, .string ⟨#[]⟩, .int .i64 0, .bool false, .bool false, .bool false] ∧ NL2 wr w.heap.size l n a2 c2 g2 d2 ys
theorem CoN.later {w : World} {l1 : List Value} {l : List Int} {n : Nat} {d d' : Nat → Bool} {wr w' : World} (q : CoN w l1 l n d wr) (b : Below wr.heap.size wr w') (h6 : d' 6 = d 6) : CoN w l1 l n d' w' :=
  ⟨q.v1.later b, q.b.trans (b.mono q.b.size), fun e => (q.var (h6 ▸ e)).later b, fun e => by
    obtain ⟨a2, c2, g2, d2, ys, h1, h2⟩ := q.new (h6 ▸ e)
    exact ⟨a2, c2, g2, d2, ys, h1.later b, h2.later b⟩⟩
theorem infoWorldN : (Try.prog.info? 40).map (·.size) = some 7 := by kernel_rfl
theorem infoPairN : (Try.prog.info? 42).map (·.size) = some 14 := by kernel_rfl
theorem one7 (a : Option Addr) (n c : Nat) (a' : Option Addr) (n' c' : Nat) : ∀ v ∈ [Value.slice a n c, .slice a' n' c', .string ⟨#[]⟩, .int .i64 0, .bool false, .bool false, .bool false], v.oneCell' = true := by
  intro u hu
  simp only [List.mem_cons, List.not_mem_nil, or_false] at hu
  rcases hu with rfl | rfl | rfl | rfl | rfl | rfl | rfl <;> rfl
theorem few_newN {l : List Int} {k : Nat} : ∀ x ∈ (newHs l k).map toHa, Few x := by
  intro x hx
  obtain ⟨z, _, rfl⟩ := List.mem_map.1 hx
  exact ⟨Nat.zero_le _, Nat.zero_le _⟩
theorem l16CopyN (B g c g' c' n : Nat) (l : List Int) (w : World) (oH : H0.Own 85 w B (some ⟨g, 0, none⟩) c (newHs l 3)) (oR : Roa.E.Own 97 w B (some ⟨g', 0, none⟩) c' (newRs n)) (hn : n ≤ 4) :
    Calls Try.prog 26 #[.agg #[.slice (some ⟨g, 0, none⟩) 3 c, .slice (some ⟨g', 0, none⟩) n c', .string ⟨#[]⟩, .int .i64 0, .bool false, .bool false, .bool false]] w fun e w' => ∃ a2 c2 g2 d2 ys, e = .returned (.agg #[.slice a2 3 c2, .slice (some ⟨g2, 0, none⟩) n d2, .string ⟨#[]⟩, .int .i64 0, .bool false, .bool false, .bool false]) ∧ NL2 w' w.heap.size l n a2 c2 g2 d2 ys ∧ Below w.heap.size w w' := by
  have hmix := Roa.mix
  have hC := fun w' (b : Below w.heap.size w w') => Lin.l13Copy (some ⟨g, 0, none⟩) (some ⟨g', 0, none⟩) 3 n c c' ((newHs l 3).map toHa) (newRs n) w' (by simp [newHs_len]) (newRs_len n).symm ((lay_new oH).ll.later b) (oR.lies.later b) (fun h => by cases h) (by simp [newHs_len]) (by rw [newRs_len]; omega) few_newN
  have HC : Hid (∀ w', Below w.heap.size w w' → Calls Try.prog 43 #[.agg #[.slice (some ⟨g, 0, none⟩) 3 c, .slice (some ⟨g', 0, none⟩) n c']] w' fun e w'' => ∃ a' c' ys g' c'', e = .returned (.agg #[.slice a' 3 c', .slice (some ⟨g', 0, none⟩) n c'']) ∧ LineLay w'' w'.heap.size a' c' ys ∧ ys.map (·.h) = ((newHs l 3).map toHa).map (·.h) ∧ Roa.E.Own 97 w'' w'.heap.size (some ⟨g', 0, none⟩) c'' (newRs n) ∧ Below w'.heap.size w' w'') := hC
  have hmm : ((newHs l 3).map toHa).map (·.h) = (newHs l 3).map toHp := by rw [List.map_map]; rfl
  have HM : Hid (((newHs l 3).map toHa).map (·.h) = (newHs l 3).map toHp) := hmm
  clear hC hmm oH oR hn
  have v1 : Var 40 ((w.alloc (.cells #[.slice (some ⟨g, 0, none⟩) 3 c, .slice (some ⟨g', 0, none⟩) n c', .string ⟨#[]⟩, .int .i64 0, .bool false, .bool false, .bool false] 40)).alloc (.cells #[.slice none 0 0, .slice none 0 0, .string ⟨#[]⟩, .int .i64 0, .bool false, .bool false, .bool false] 40)) w.heap.size [.slice (some ⟨g, 0, none⟩) 3 c, .slice (some ⟨g', 0, none⟩) n c', .string ⟨#[]⟩, .int .i64 0, .bool false, .bool false, .bool false] := (Var.new w _).alloc _
  have v2 : Var 40 ((w.alloc (.cells #[.slice (some ⟨g, 0, none⟩) 3 c, .slice (some ⟨g', 0, none⟩) n c', .string ⟨#[]⟩, .int .i64 0, .bool false, .bool false, .bool false] 40)).alloc (.cells #[.slice none 0 0, .slice none 0 0, .string ⟨#[]⟩, .int .i64 0, .bool false, .bool false, .bool false] 40)) (w.heap.size + 1) [.slice none 0 0, .slice none 0 0, .string ⟨#[]⟩, .int .i64 0, .bool false, .bool false, .bool false] := by
    have q := Var.new (T := 40) (w.alloc (.cells #[.slice (some ⟨g, 0, none⟩) 3 c, .slice (some ⟨g', 0, none⟩) n c', .string ⟨#[]⟩, .int .i64 0, .bool false, .bool false, .bool false] 40)) [.slice none 0 0, .slice none 0 0, .string ⟨#[]⟩, .int .i64 0, .bool false, .bool false, .bool false]
    simpa using q
  have b0 : Below w.heap.size w ((w.alloc (.cells #[.slice (some ⟨g, 0, none⟩) 3 c, .slice (some ⟨g', 0, none⟩) n c', .string ⟨#[]⟩, .int .i64 0, .bool false, .bool false, .bool false] 40)).alloc (.cells #[.slice none 0 0, .slice none 0 0, .string ⟨#[]⟩, .int .i64 0, .bool false, .bool false, .bool false] 40)) := ((Below.refl _ _).alloc (Nat.le_refl _) _).alloc (by simp) _
  have hst : ∀ q ∈ ([(2, 5, TieN w.heap.size l n), (5, 6, TieM w.heap.size l n)] : List RegJ.Tie), ∀ v (w1 w2 : World), Below w1.heap.size w1 w2 → q.2.2 v w1 → q.2.2 v w2 := by
    intro q hq v wa wb ba h
    simp only [List.mem_cons, List.not_mem_nil, or_false] at hq
    rcases hq with rfl | rfl
    · exact TieN.later h ba
    · exact TieM.later h ba
  have keepW : ∀ (q : Nat) (d : Nat → Bool) (w' : World), CoN w [.slice (some ⟨g, 0, none⟩) 3 c, .slice (some ⟨g', 0, none⟩) n c', .string ⟨#[]⟩, .int .i64 0, .bool false, .bool false, .bool false] l n d w' → q ≠ 6 → CoN w [.slice (some ⟨g, 0, none⟩) 3 c, .slice (some ⟨g', 0, none⟩) n c', .string ⟨#[]⟩, .int .i64 0, .bool false, .bool false, .bool false] l n (fun j => j == q || d j) w' := fun q d w' h hq => h.later (Below.refl _ _) (or_ne (Ne.symm hq))
  go_enter Try.func26, Try.ntmps26
  go_wp2_with fail
  generalize ((w.alloc (.cells #[.slice (some ⟨g, 0, none⟩) 3 c, .slice (some ⟨g', 0, none⟩) n c', .string ⟨#[]⟩, .int .i64 0, .bool false, .bool false, .bool false] 40)).alloc (.cells #[.slice none 0 0, .slice none 0 0, .string ⟨#[]⟩, .int .i64 0, .bool false, .bool false, .bool false] 40)) = V at *
  refine RegJ.wp_region_J (W := CoN w [.slice (some ⟨g, 0, none⟩) 3 c, .slice (some ⟨g', 0, none⟩) n c', .string ⟨#[]⟩, .int .i64 0, .bool false, .bool false, .bool false] l n) (RegJ.ValP [some (.pointer (some ⟨w.heap.size, 0, none⟩)), some (.agg #[.slice (some ⟨g, 0, none⟩) 3 c, .slice (some ⟨g', 0, none⟩) n c']), none, some (.pointer (some ⟨w.heap.size, 2, none⟩)), some (.agg #[.string ⟨#[]⟩, .int .i64 0, .bool false, .bool false, .bool false]), none, none] ([(2, 5, TieN w.heap.size l n), (5, 6, TieM w.heap.size l n)])) [some 3, some 4, some 5, some 6, some 7, some 8, none] (F := ?_) (is := [0, 1, 2, 3, 4, 5, 6]) hmix (by kernel_rfl) (by kernel_rfl) (by kernel_rfl) (by kernel_rfl) (fun x => ?_) (⟨v1.drew, b0.drew, fun _ => v2.drew, fun e => by cases e⟩) ?_ (fun dR xR wR hWR hdR hJR => ?_)
  rotate_left 1
  focus (simp only [RegJ.lay, Act.put, Nat.reduceAdd, Nat.zero_add, List.getElem_toArray, List.getElem_cons_zero, List.getElem_cons_succ, List.setIfInBounds_toArray, List.set_cons_zero, List.set_cons_succ]; rfl)
  focus
    refine RegJ.Steps.cons (RegJ.StepAt.mk rfl (fun d x w1 hW1 hJ1 hx1 K hK => ?_)) (RegJ.Steps.cons (RegJ.StepAt.mk rfl (fun d x w1 hW1 hJ1 hx1 K hK => ?_)) (RegJ.Steps.cons (RegJ.StepAt.mk rfl (fun d x w1 hW1 hJ1 hx1 K hK => ?_)) (RegJ.Steps.cons (RegJ.StepAt.mk rfl (fun d x w1 hW1 hJ1 hx1 K hK => ?_)) (RegJ.Steps.cons (RegJ.StepAt.mk rfl (fun d x w1 hW1 hJ1 hx1 K hK => ?_)) (RegJ.Steps.cons (RegJ.StepAt.mk rfl (fun d x w1 hW1 hJ1 hx1 K hK => ?_)) (RegJ.Steps.cons (RegJ.StepAt.mk rfl (fun d x w1 hW1 hJ1 hx1 K hK => ?_)) (RegJ.Steps.nil)))))))
    focus (simp only [List.getElem_toArray, List.getElem_cons_succ, List.getElem_cons_zero] at hK; go_simp; exact hK.out _ _ (keepW 0 d _ hW1 (by decide)) RegJ.ValP.same (RegJ.ValP.free (Or.inl rfl) rfl))
    focus (simp only [List.getElem_toArray, List.getElem_cons_succ, List.getElem_cons_zero] at hK; have j0 : x 0 = _ := (hJ1.out 0 (by kernel_rfl)).val rfl; rw [j0] at hK; have c0 := hW1.v1.cell (i := 0) rfl; have c1 := hW1.v1.cell (i := 1) rfl; go_simp; exact hK.out _ _ (keepW 1 d _ hW1 (by decide)) RegJ.ValP.same (RegJ.ValP.free (Or.inl rfl) rfl))
    focus (simp only [List.getElem_toArray, List.getElem_cons_succ, List.getElem_cons_zero] at hK; have j1 : x 1 = _ := (hJ1.out 1 (by kernel_rfl)).val rfl; rw [j1] at hK; go_simp; refine (HC.out _ hW1.b).mono ?_; rintro e wa ⟨a', c', ys, g', c'', rfl, La, hma, Ra, ba⟩; have t : TieN w.heap.size l n (.agg #[.slice a' 3 c', .slice (some ⟨g', 0, none⟩) n c'']) wa := ⟨a', c', g', c'', ys, rfl, La.mono hW1.b.size, hma.trans HM.out, Ra.mono hW1.b.size⟩; go_simp; exact hK.out _ _ (hW1.later ba rfl) (RegJ.ValP.keep (fun q hq => .inr (.inr (.inr fun v h => hst q hq v _ _ ba h)))) (RegJ.ValP.this (Or.inr rfl) (by intro q hq he; simp only [List.mem_cons, List.not_mem_nil, or_false] at hq; rcases hq with rfl | rfl; exact t; cases he)))
    focus (simp only [List.getElem_toArray, List.getElem_cons_succ, List.getElem_cons_zero] at hK; go_simp; exact hK.out _ _ (keepW 3 d _ hW1 (by decide)) RegJ.ValP.same (RegJ.ValP.free (Or.inl rfl) rfl))
    focus (simp only [List.getElem_toArray, List.getElem_cons_succ, List.getElem_cons_zero] at hK; have j3 : x 3 = _ := (hJ1.out 3 (by kernel_rfl)).val rfl; rw [j3] at hK; have c2 := hW1.v1.cell (i := 2) rfl; have c3 := hW1.v1.cell (i := 3) rfl; have c4 := hW1.v1.cell (i := 4) rfl; have c5 := hW1.v1.cell (i := 5) rfl; have c6 := hW1.v1.cell (i := 6) rfl; go_simp; exact hK.out _ _ (keepW 4 d _ hW1 (by decide)) RegJ.ValP.same (RegJ.ValP.free (Or.inl rfl) rfl))
    focus (simp only [List.getElem_toArray, List.getElem_cons_succ, List.getElem_cons_zero] at hK; have j4 : x 4 = _ := (hJ1.out 4 (by kernel_rfl)).val rfl; rw [j4] at hK; obtain ⟨a2, c2, g2, d2, ys, j2, A2⟩ := (hJ1.out 2 (by kernel_rfl)).tie (2, 5, TieN w.heap.size l n) (by simp) rfl (hx1.out 5 (.inl rfl)).1; rw [j2] at hK; go_simp; exact hK.out _ _ (keepW 5 d _ hW1 (by decide)) RegJ.ValP.same (RegJ.ValP.this (Or.inr rfl) (by intro q hq he; simp only [List.mem_cons, List.not_mem_nil, or_false] at hq; rcases hq with rfl | rfl; cases he; exact ⟨a2, c2, g2, d2, ys, rfl, A2⟩)))
    focus (simp only [List.getElem_toArray, List.getElem_cons_succ, List.getElem_cons_zero] at hK; obtain ⟨a2, c2, g2, d2, ys, j5, A5⟩ := (hJ1.out 5 (by kernel_rfl)).tie (5, 6, TieM w.heap.size l n) (by simp) rfl (hx1.out 6 (.inl rfl)).1; have Vo := hW1.var (hx1.out 6 (.inl rfl)).1; refine step_store_win (by rfl) _ _ (by rfl) (k := w.heap.size + 1) (vs := [.slice a2 3 c2, .slice (some ⟨g2, 0, none⟩) n d2, .string ⟨#[]⟩, .int .i64 0, .bool false, .bool false, .bool false]) (by rfl) (by exact j5) infoWorldN Vo.win rfl (one7 _ _ _ _ _ _) ?_; intro wa va ka; exact hK.out undef _ ⟨hW1.v1.kept ka (by omega), hW1.b.trans (ka.below (by omega) hW1.b.size), fun e => absurd e (by simp), fun _ => ⟨a2, c2, g2, d2, ys, va.whole, A5.keptV Vo (by decide) (by decide) (by decide) (by decide) ka⟩⟩ (RegJ.ValP.keep (by intro q hq; simp only [List.mem_cons, List.not_mem_nil, or_false] at hq; rcases hq with rfl | rfl; exact .inr (.inr (.inl (hJ1.out 5 (by kernel_rfl)).done)); exact .inr (.inl rfl))) (RegJ.ValP.free (Or.inr rfl) rfl))
  obtain ⟨a2, c2, g2, d2, ys, v3, A3⟩ := hWR.new (hdR 6 (by simp))
  have b3 := hWR.b
  clear hWR hJR hdR hst keepW HC HM
  have e0 := v3.cell (i := 0) rfl
  have e1 := v3.cell (i := 1) rfl
  have e2 := v3.cell (i := 2) rfl
  have e3 := v3.cell (i := 3) rfl
  have e4 := v3.cell (i := 4) rfl
  have e5 := v3.cell (i := 5) rfl
  have e6 := v3.cell (i := 6) rfl
  go_wp2_with fail
  refine bodyPost_ret (v := .agg #[.slice a2 3 c2, .slice (some ⟨g2, 0, none⟩) n d2, .string ⟨#[]⟩, .int .i64 0, .bool false, .bool false, .bool false]) (by rw [Hop.res_one rfl]; go_simp) rfl ⟨a2, c2, g2, d2, ys, rfl, A3, b3⟩
theorem NL2.mono {w : World} {B B' : Nat} {l : List Int} {n c g d : Nat} {a : Option Addr} {ys : List Ha} (h : NL2 w B' l n a c g d ys) (hB : B ≤ B') : NL2 w B l n a c g d ys := ⟨h.L.mono hB, h.hs, h.R.mono hB⟩
def TieQ (B : Nat) (l : List Int) (n g c g' c' : Nat) (v : Value) (w : World) : Prop := ∃ a2 c2 g2 d2 ys, v = .agg #[.slice (some ⟨g, 0, none⟩) 3 c, .slice (some ⟨g', 0, none⟩) n c', .string ⟨#[]⟩, .int .i64 0, .bool false, .bool false, .bool false, .slice a2 3 c2, .slice (some ⟨g2, 0, none⟩) n d2, .string ⟨#[]⟩, .int .i64 0, .bool false, .bool false, .bool false] ∧ NL2 w B l n a2 c2 g2 d2 ys
theorem TieQ.later {B : Nat} {l : List Int} {n g c g' c' : Nat} {v : Value} {w w' : World} (t : TieQ B l n g c g' c' v w) (b : Below w.heap.size w w') : TieQ B l n g c g' c' v w' := by
  obtain ⟨a2, c2, g2, d2, ys, h, q⟩ := t
  exact ⟨a2, c2, g2, d2, ys, h, q.later b⟩
structure CoP (w : World) (k1 : Nat) (l1 : List Value) (l : List Int) (n g c g' c' : Nat) (d : Nat → Bool) (wr : World) : Prop where
  v1 : Var 40 wr k1 l1
  b : Below w.heap.size w wr
  oH : H0.Own 85 wr w.heap.size (some ⟨g, 0, none⟩) c (newHs l 3)
  oR : Roa.E.Own 97 wr w.heap.size (some ⟨g', 0, none⟩) c' (newRs n)
  var : d 4 = false → Var 42 wr w.heap.size [.slice none 0 0, .slice none 0 0, .string ⟨#[]⟩, .int .i64 0, .bool false, .bool false, .bool false, .slice none 0 0, .slice none 0 0, .string ⟨#[]⟩, .int .i64 0, .bool false, .bool false, .bool false]
  new : d 4 = true → ∃ a2 c2 g2 d2 ys, Var 42 wr w.heap.size [.slice (some ⟨g, 0, none⟩) 3 c, .slice (some ⟨g', 0, none⟩) n c', .string ⟨#[]⟩, .int .i64 0, .bool false, .bool false, .bool false, .slice a2 3 c2, .slice (some ⟨g2, 0, none⟩) n d2, .string ⟨#[]⟩, .int .i64 0, .bool false, .bool false, .bool false] ∧ NL2 wr w.heap.size l n a2 c2 g2 d2 ys
theorem CoP.later {w : World} {k1 : Nat} {l1 : List Value} {l : List Int} {n g c g' c' : Nat} {d d' : Nat → Bool} {wr w' : World} (q : CoP w k1 l1 l n g c g' c' d wr) (b : Below wr.heap.size wr w') (h6 : d' 4 = d 4) : CoP w k1 l1 l n g c g' c' d' w' :=
  ⟨q.v1.later b, q.b.trans (b.mono q.b.size), q.oH.later b, q.oR.later b, fun e => (q.var (h6 ▸ e)).later b, fun e => by
    obtain ⟨a2, c2, g2, d2, ys, h1, h2⟩ := q.new (h6 ▸ e)
    exact ⟨a2, c2, g2, d2, ys, h1.later b, h2.later b⟩⟩
theorem one14 (a : Option Addr) (n c : Nat) (a' : Option Addr) (n' c' : Nat) (e : Option Addr) (m d : Nat) (e' : Option Addr) (m' d' : Nat) : ∀ v ∈ [Value.slice a n c, .slice a' n' c', .string ⟨#[]⟩, .int .i64 0, .bool false, .bool false, .bool false, .slice e m d, .slice e' m' d', .string ⟨#[]⟩, .int .i64 0, .bool false, .bool false, .bool false], v.oneCell' = true := by
  intro u hu
  simp only [List.mem_cons, List.not_mem_nil, or_false] at hu
  rcases hu with rfl | rfl | rfl | rfl | rfl | rfl | rfl | rfl | rfl | rfl | rfl | rfl | rfl | rfl <;> rfl
abbrev put14 (w : World) (k : Nat) (x0 x1 x2 x3 x4 x5 x6 x7 x8 x9 x10 x11 x12 x13 : Value) : World := ((((((((((((((w.setCell ⟨k, 0, none⟩ (x0)).setCell ⟨k, 1, none⟩ (x1)).setCell ⟨k, 2, none⟩ (x2)).setCell ⟨k, 3, none⟩ (x3)).setCell ⟨k, 4, none⟩ (x4)).setCell ⟨k, 5, none⟩ (x5)).setCell ⟨k, 6, none⟩ (x6)).setCell ⟨k, 7, none⟩ (x7)).setCell ⟨k, 8, none⟩ (x8)).setCell ⟨k, 9, none⟩ (x9)).setCell ⟨k, 10, none⟩ (x10)).setCell ⟨k, 11, none⟩ (x11)).setCell ⟨k, 12, none⟩ (x12)).setCell ⟨k, 13, none⟩ (x13))
theorem var14 {T : TypeId} {w : World} {k : Nat} {a0 a1 a2 a3 a4 a5 a6 a7 a8 a9 a10 a11 a12 a13 : Value} (h : Var T w k [a0, a1, a2, a3, a4, a5, a6, a7, a8, a9, a10, a11, a12, a13]) (x0 x1 x2 x3 x4 x5 x6 x7 x8 x9 x10 x11 x12 x13 : Value) : Var T (put14 w k x0 x1 x2 x3 x4 x5 x6 x7 x8 x9 x10 x11 x12 x13) k [x0, x1, x2, x3, x4, x5, x6, x7, x8, x9, x10, x11, x12, x13] := ((((((((((((((h.set 0 x0).set 1 x1).set 2 x2).set 3 x3).set 4 x4).set 5 x5).set 6 x6).set 7 x7).set 8 x8).set 9 x9).set 10 x10).set 11 x11).set 12 x12).set 13 x13)
theorem kept14 (w : World) (k : Nat) (x0 x1 x2 x3 x4 x5 x6 x7 x8 x9 x10 x11 x12 x13 : Value) : Draw.Kept k w (put14 w k x0 x1 x2 x3 x4 x5 x6 x7 x8 x9 x10 x11 x12 x13) :=
  Draw.Kept.setCell (p := ⟨k, 13, none⟩) (Draw.Kept.setCell (p := ⟨k, 12, none⟩) (Draw.Kept.setCell (p := ⟨k, 11, none⟩) (Draw.Kept.setCell (p := ⟨k, 10, none⟩) (Draw.Kept.setCell (p := ⟨k, 9, none⟩) (Draw.Kept.setCell (p := ⟨k, 8, none⟩) (Draw.Kept.setCell (p := ⟨k, 7, none⟩) (Draw.Kept.setCell (p := ⟨k, 6, none⟩) (Draw.Kept.setCell (p := ⟨k, 5, none⟩) (Draw.Kept.setCell (p := ⟨k, 4, none⟩) (Draw.Kept.setCell (p := ⟨k, 3, none⟩) (Draw.Kept.setCell (p := ⟨k, 2, none⟩) (Draw.Kept.setCell (p := ⟨k, 1, none⟩) (Draw.Kept.setCell (p := ⟨k, 0, none⟩) (Draw.Kept.refl _ _) (.inl rfl) _) (.inl rfl) _) (.inl rfl) _) (.inl rfl) _) (.inl rfl) _) (.inl rfl) _) (.inl rfl) _) (.inl rfl) _) (.inl rfl) _) (.inl rfl) _) (.inl rfl) _) (.inl rfl) _) (.inl rfl) _) (.inl rfl) _
theorem specNewPair0 (a : Option Addr) (cap : Nat) (l : List Int) (n : Int) (w : World) (h : Roa.EI.Lies w a l) (hl : l.length ≤ 2097152) :
    Calls Try.prog 11 #[.slice a l.length cap, .int .i64 n] w fun x w' => Below w.heap.size w w' ∧ ((capsB l n = false ∧ x = .returned (.tuple #[.agg #[.slice none 0 0, .slice none 0 0, .string ⟨#[]⟩, .int .i64 0, .bool false, .bool false, .bool false, .slice none 0 0, .slice none 0 0, .string ⟨#[]⟩, .int .i64 0, .bool false, .bool false, .bool false], .bool false])) ∨
      (capsB l n = true ∧ ∃ g c g' c' a2 c2 g2 d2 ys, x = .returned (.tuple #[.agg #[.slice (some ⟨g, 0, none⟩) 3 c, .slice (some ⟨g', 0, none⟩) n.toNat c', .string ⟨#[]⟩, .int .i64 0, .bool false, .bool false, .bool false, .slice a2 3 c2, .slice (some ⟨g2, 0, none⟩) n.toNat d2, .string ⟨#[]⟩, .int .i64 0, .bool false, .bool false, .bool false], .bool true]) ∧ H0.Own 85 w' w.heap.size (some ⟨g, 0, none⟩) c (newHs l 3) ∧ Roa.E.Own 97 w' w.heap.size (some ⟨g', 0, none⟩) c' (newRs n.toNat) ∧ NL2 w' w.heap.size l n.toNat a2 c2 g2 d2 ys)) := by
  have hmix := Roa.mix
  have v0 : Var 42 (w.alloc (.cells #[.slice none 0 0, .slice none 0 0, .string ⟨#[]⟩, .int .i64 0, .bool false, .bool false, .bool false, .slice none 0 0, .slice none 0 0, .string ⟨#[]⟩, .int .i64 0, .bool false, .bool false, .bool false] 42)) w.heap.size [.slice none 0 0, .slice none 0 0, .string ⟨#[]⟩, .int .i64 0, .bool false, .bool false, .bool false, .slice none 0 0, .slice none 0 0, .string ⟨#[]⟩, .int .i64 0, .bool false, .bool false, .bool false] := Var.new w _
  have b0 : Below w.heap.size w (w.alloc (.cells #[.slice none 0 0, .slice none 0 0, .string ⟨#[]⟩, .int .i64 0, .bool false, .bool false, .bool false, .slice none 0 0, .slice none 0 0, .string ⟨#[]⟩, .int .i64 0, .bool false, .bool false, .bool false] 42)) := (Below.refl _ _).alloc (Nat.le_refl _) _
  go_enter Try.func11, Try.ntmps11
  go_upto_region 1 with (fail)
  generalize (w.alloc (.cells #[.slice none 0 0, .slice none 0 0, .string ⟨#[]⟩, .int .i64 0, .bool false, .bool false, .bool false, .slice none 0 0, .slice none 0 0, .string ⟨#[]⟩, .int .i64 0, .bool false, .bool false, .bool false] 42)) = V at *
  go_wp2_with fail
  refine (specNewWorld0 a cap l n _ (h.later b0) hl).mono ?_
  rintro x w1 ⟨b1, hx⟩
  have zV := b0.size
  replace v0 := v0.later b1
  have B1 := b0.trans (b1.mono b0.size)
  clear b0 b1
  rcases hx with ⟨hc, rfl⟩ | ⟨hc, g, c, g', c', rfl, oH, oR⟩
  · have v1 : Var 40 (w1.alloc (.cells #[.slice none 0 0, .slice none 0 0, .string ⟨#[]⟩, .int .i64 0, .bool false, .bool false, .bool false] 40)) w1.heap.size [.slice none 0 0, .slice none 0 0, .string ⟨#[]⟩, .int .i64 0, .bool false, .bool false, .bool false] := Var.new w1 _
    replace v0 := v0.alloc (.cells #[.slice none 0 0, .slice none 0 0, .string ⟨#[]⟩, .int .i64 0, .bool false, .bool false, .bool false] 40)
    replace B1 := B1.alloc B1.size (.cells #[.slice none 0 0, .slice none 0 0, .string ⟨#[]⟩, .int .i64 0, .bool false, .bool false, .bool false] 40)
    go_upto_region 3 with (fail)
    generalize w1.alloc (.cells #[.slice none 0 0, .slice none 0 0, .string ⟨#[]⟩, .int .i64 0, .bool false, .bool false, .bool false] 40) = V1 at *
    have c0 := v0.cell (i := 0) rfl
    have c1 := v0.cell (i := 1) rfl
    have c2 := v0.cell (i := 2) rfl
    have c3 := v0.cell (i := 3) rfl
    have c4 := v0.cell (i := 4) rfl
    have c5 := v0.cell (i := 5) rfl
    have c6 := v0.cell (i := 6) rfl
    have c7 := v0.cell (i := 7) rfl
    have c8 := v0.cell (i := 8) rfl
    have c9 := v0.cell (i := 9) rfl
    have c10 := v0.cell (i := 10) rfl
    have c11 := v0.cell (i := 11) rfl
    have c12 := v0.cell (i := 12) rfl
    have c13 := v0.cell (i := 13) rfl
    have y0 := v0.free 0
    have y1 := v0.free 1
    have y2 := v0.free 2
    have y3 := v0.free 3
    have y4 := v0.free 4
    have y5 := v0.free 5
    have y6 := v0.free 6
    have y7 := v0.free 7
    have y8 := v0.free 8
    have y9 := v0.free 9
    have y10 := v0.free 10
    have y11 := v0.free 11
    have y12 := v0.free 12
    have y13 := v0.free 13
    go_wp2_with fail
    have ka : Draw.Kept w.heap.size V1 ((((((((((((((V1.setCell ⟨w.heap.size, 0, none⟩ (.slice none 0 0)).setCell ⟨w.heap.size, 1, none⟩ (.slice none 0 0)).setCell ⟨w.heap.size, 2, none⟩ (.string ⟨#[]⟩)).setCell ⟨w.heap.size, 3, none⟩ (.int .i64 0)).setCell ⟨w.heap.size, 4, none⟩ (.bool false)).setCell ⟨w.heap.size, 5, none⟩ (.bool false)).setCell ⟨w.heap.size, 6, none⟩ (.bool false)).setCell ⟨w.heap.size, 7, none⟩ (.slice none 0 0)).setCell ⟨w.heap.size, 8, none⟩ (.slice none 0 0)).setCell ⟨w.heap.size, 9, none⟩ (.string ⟨#[]⟩)).setCell ⟨w.heap.size, 10, none⟩ (.int .i64 0)).setCell ⟨w.heap.size, 11, none⟩ (.bool false)).setCell ⟨w.heap.size, 12, none⟩ (.bool false)).setCell ⟨w.heap.size, 13, none⟩ (.bool false)) := kept14 _ _ _ _ _ _ _ _ _ _ _ _ _ _ _ _
    have vv : Var 42 ((((((((((((((V1.setCell ⟨w.heap.size, 0, none⟩ (.slice none 0 0)).setCell ⟨w.heap.size, 1, none⟩ (.slice none 0 0)).setCell ⟨w.heap.size, 2, none⟩ (.string ⟨#[]⟩)).setCell ⟨w.heap.size, 3, none⟩ (.int .i64 0)).setCell ⟨w.heap.size, 4, none⟩ (.bool false)).setCell ⟨w.heap.size, 5, none⟩ (.bool false)).setCell ⟨w.heap.size, 6, none⟩ (.bool false)).setCell ⟨w.heap.size, 7, none⟩ (.slice none 0 0)).setCell ⟨w.heap.size, 8, none⟩ (.slice none 0 0)).setCell ⟨w.heap.size, 9, none⟩ (.string ⟨#[]⟩)).setCell ⟨w.heap.size, 10, none⟩ (.int .i64 0)).setCell ⟨w.heap.size, 11, none⟩ (.bool false)).setCell ⟨w.heap.size, 12, none⟩ (.bool false)).setCell ⟨w.heap.size, 13, none⟩ (.bool false)) w.heap.size [.slice none 0 0, .slice none 0 0, .string ⟨#[]⟩, .int .i64 0, .bool false, .bool false, .bool false, .slice none 0 0, .slice none 0 0, .string ⟨#[]⟩, .int .i64 0, .bool false, .bool false, .bool false] := var14 v0 _ _ _ _ _ _ _ _ _ _ _ _ _ _
    have B3 := B1.trans (ka.below (Nat.le_refl _) B1.size)
    clear ka v0 B1 c0 c1 c2 c3 c4 c5 c6 c7 c8 c9 c10 c11 c12 c13 y0 y1 y2 y3 y4 y5 y6 y7 y8 y9 y10 y11 y12 y13
    generalize ((((((((((((((V1.setCell ⟨w.heap.size, 0, none⟩ (.slice none 0 0)).setCell ⟨w.heap.size, 1, none⟩ (.slice none 0 0)).setCell ⟨w.heap.size, 2, none⟩ (.string ⟨#[]⟩)).setCell ⟨w.heap.size, 3, none⟩ (.int .i64 0)).setCell ⟨w.heap.size, 4, none⟩ (.bool false)).setCell ⟨w.heap.size, 5, none⟩ (.bool false)).setCell ⟨w.heap.size, 6, none⟩ (.bool false)).setCell ⟨w.heap.size, 7, none⟩ (.slice none 0 0)).setCell ⟨w.heap.size, 8, none⟩ (.slice none 0 0)).setCell ⟨w.heap.size, 9, none⟩ (.string ⟨#[]⟩)).setCell ⟨w.heap.size, 10, none⟩ (.int .i64 0)).setCell ⟨w.heap.size, 11, none⟩ (.bool false)).setCell ⟨w.heap.size, 12, none⟩ (.bool false)).setCell ⟨w.heap.size, 13, none⟩ (.bool false)) = WZ at *
    have c0 := vv.cell (i := 0) rfl
    have c1 := vv.cell (i := 1) rfl
    have c2 := vv.cell (i := 2) rfl
    have c3 := vv.cell (i := 3) rfl
    have c4 := vv.cell (i := 4) rfl
    have c5 := vv.cell (i := 5) rfl
    have c6 := vv.cell (i := 6) rfl
    have c7 := vv.cell (i := 7) rfl
    have c8 := vv.cell (i := 8) rfl
    have c9 := vv.cell (i := 9) rfl
    have c10 := vv.cell (i := 10) rfl
    have c11 := vv.cell (i := 11) rfl
    have c12 := vv.cell (i := 12) rfl
    have c13 := vv.cell (i := 13) rfl
    refine bodyPost_ret (v := .tuple #[.agg #[.slice none 0 0, .slice none 0 0, .string ⟨#[]⟩, .int .i64 0, .bool false, .bool false, .bool false, .slice none 0 0, .slice none 0 0, .string ⟨#[]⟩, .int .i64 0, .bool false, .bool false, .bool false], .bool false]) (by rw [Tak.res_cell_tmp rfl]; go_simp) rfl ⟨B3, .inl ⟨hc, rfl⟩⟩
  · have hk0 := v0.lt
    have v1 : Var 40 (w1.alloc (.cells #[.slice (some ⟨g, 0, none⟩) 3 c, .slice (some ⟨g', 0, none⟩) n.toNat c', .string ⟨#[]⟩, .int .i64 0, .bool false, .bool false, .bool false] 40)) w1.heap.size [.slice (some ⟨g, 0, none⟩) 3 c, .slice (some ⟨g', 0, none⟩) n.toNat c', .string ⟨#[]⟩, .int .i64 0, .bool false, .bool false, .bool false] := Var.new w1 _
    replace v0 := v0.alloc (.cells #[.slice (some ⟨g, 0, none⟩) 3 c, .slice (some ⟨g', 0, none⟩) n.toNat c', .string ⟨#[]⟩, .int .i64 0, .bool false, .bool false, .bool false] 40)
    replace oH := oH.alloc (.cells #[.slice (some ⟨g, 0, none⟩) 3 c, .slice (some ⟨g', 0, none⟩) n.toNat c', .string ⟨#[]⟩, .int .i64 0, .bool false, .bool false, .bool false] 40)
    replace oR := oR.alloc (.cells #[.slice (some ⟨g, 0, none⟩) 3 c, .slice (some ⟨g', 0, none⟩) n.toNat c', .string ⟨#[]⟩, .int .i64 0, .bool false, .bool false, .bool false] 40)
    replace B1 := B1.alloc B1.size (.cells #[.slice (some ⟨g, 0, none⟩) 3 c, .slice (some ⟨g', 0, none⟩) n.toNat c', .string ⟨#[]⟩, .int .i64 0, .bool false, .bool false, .bool false] 40)
    replace oH := oH.mono zV
    replace oR := oR.mono zV
    have hn4 : n.toNat ≤ 4 := (caps_n hc).2
    have hk : w.heap.size < w1.heap.size := hk0
    go_upto_region 4 with (fail)
    generalize w1.alloc (.cells #[.slice (some ⟨g, 0, none⟩) 3 c, .slice (some ⟨g', 0, none⟩) n.toNat c', .string ⟨#[]⟩, .int .i64 0, .bool false, .bool false, .bool false] 40) = V1 at *
    generalize w1.heap.size = k1 at *
    have hst : ∀ q ∈ ([(2, 3, TieM w.heap.size l n.toNat), (3, 4, TieQ w.heap.size l n.toNat g c g' c')] : List RegJ.Tie), ∀ v (w1 w2 : World), Below w1.heap.size w1 w2 → q.2.2 v w1 → q.2.2 v w2 := by
      intro q hq v wa wb ba h
      simp only [List.mem_cons, List.not_mem_nil, or_false] at hq
      rcases hq with rfl | rfl
      · exact TieM.later h ba
      · exact TieQ.later h ba
    have keepW : ∀ (q : Nat) (d : Nat → Bool) (w' : World), CoP w k1 [.slice (some ⟨g, 0, none⟩) 3 c, .slice (some ⟨g', 0, none⟩) n.toNat c', .string ⟨#[]⟩, .int .i64 0, .bool false, .bool false, .bool false] l n.toNat g c g' c' d w' → q ≠ 4 → CoP w k1 [.slice (some ⟨g, 0, none⟩) 3 c, .slice (some ⟨g', 0, none⟩) n.toNat c', .string ⟨#[]⟩, .int .i64 0, .bool false, .bool false, .bool false] l n.toNat g c g' c' (fun j => j == q || d j) w' := fun q d w' h hq => h.later (Below.refl _ _) (or_ne (Ne.symm hq))
    refine RegJ.wp_region_J (W := CoP w k1 [.slice (some ⟨g, 0, none⟩) 3 c, .slice (some ⟨g', 0, none⟩) n.toNat c', .string ⟨#[]⟩, .int .i64 0, .bool false, .bool false, .bool false] l n.toNat g c g' c') (RegJ.ValP [some (.agg #[.slice (some ⟨g, 0, none⟩) 3 c, .slice (some ⟨g', 0, none⟩) n.toNat c', .string ⟨#[]⟩, .int .i64 0, .bool false, .bool false, .bool false]), some (.agg #[.slice (some ⟨g, 0, none⟩) 3 c, .slice (some ⟨g', 0, none⟩) n.toNat c', .string ⟨#[]⟩, .int .i64 0, .bool false, .bool false, .bool false]), none, none, none, some (.bool true)] ([(2, 3, TieM w.heap.size l n.toNat), (3, 4, TieQ w.heap.size l n.toNat g c g' c')])) [some 17, some 18, some 19, some 20, none, some 5] (F := ?_) (is := [0, 1, 2, 3, 4, 5]) hmix (by kernel_rfl) (by kernel_rfl) (by kernel_rfl) (by kernel_rfl) (fun x => ?_) (⟨v1.drew, B1.drew, oH.drew, oR.drew, fun _ => v0.drew, fun e => by cases e⟩) ?_ (fun dR xR wR hWR hdR hJR => ?_)
    rotate_left 1
    focus (simp only [RegJ.lay, Act.put, Nat.reduceAdd, Nat.zero_add, List.getElem_toArray, List.getElem_cons_zero, List.getElem_cons_succ, List.setIfInBounds_toArray, List.set_cons_zero, List.set_cons_succ]; rfl)
    focus
      refine RegJ.Steps.cons (RegJ.StepAt.mk rfl (fun d x w1 hW1 hJ1 hx1 K hK => ?_)) (RegJ.Steps.cons (RegJ.StepAt.mk rfl (fun d x w1 hW1 hJ1 hx1 K hK => ?_)) (RegJ.Steps.cons (RegJ.StepAt.mk rfl (fun d x w1 hW1 hJ1 hx1 K hK => ?_)) (RegJ.Steps.cons (RegJ.StepAt.mk rfl (fun d x w1 hW1 hJ1 hx1 K hK => ?_)) (RegJ.Steps.cons (RegJ.StepAt.mk rfl (fun d x w1 hW1 hJ1 hx1 K hK => ?_)) (RegJ.Steps.cons (RegJ.StepAt.mk rfl (fun d x w1 hW1 hJ1 hx1 K hK => ?_)) (RegJ.Steps.nil))))))
      focus (simp only [List.getElem_toArray, List.getElem_cons_succ, List.getElem_cons_zero] at hK; have c0 := hW1.v1.cell (i := 0) rfl; have c1 := hW1.v1.cell (i := 1) rfl; have c2 := hW1.v1.cell (i := 2) rfl; have c3 := hW1.v1.cell (i := 3) rfl; have c4 := hW1.v1.cell (i := 4) rfl; have c5 := hW1.v1.cell (i := 5) rfl; have c6 := hW1.v1.cell (i := 6) rfl; go_simp; exact hK.out _ _ (keepW 0 d _ hW1 (by decide)) RegJ.ValP.same (RegJ.ValP.free (Or.inl rfl) rfl))
      focus (simp only [List.getElem_toArray, List.getElem_cons_succ, List.getElem_cons_zero] at hK; have c0 := hW1.v1.cell (i := 0) rfl; have c1 := hW1.v1.cell (i := 1) rfl; have c2 := hW1.v1.cell (i := 2) rfl; have c3 := hW1.v1.cell (i := 3) rfl; have c4 := hW1.v1.cell (i := 4) rfl; have c5 := hW1.v1.cell (i := 5) rfl; have c6 := hW1.v1.cell (i := 6) rfl; go_simp; exact hK.out _ _ (keepW 1 d _ hW1 (by decide)) RegJ.ValP.same (RegJ.ValP.free (Or.inl rfl) rfl))
      focus (simp only [List.getElem_toArray, List.getElem_cons_succ, List.getElem_cons_zero] at hK; have j1 : x 1 = _ := (hJ1.out 1 (by kernel_rfl)).val rfl; rw [j1] at hK; go_simp; refine (l16CopyN w.heap.size g c g' c' n.toNat l _ hW1.oH hW1.oR hn4).mono ?_; rintro e wa ⟨a2, c2, g2, d2, ys, rfl, A, ba⟩; have t : TieM w.heap.size l n.toNat (.agg #[.slice a2 3 c2, .slice (some ⟨g2, 0, none⟩) n.toNat d2, .string ⟨#[]⟩, .int .i64 0, .bool false, .bool false, .bool false]) wa := ⟨a2, c2, g2, d2, ys, rfl, A.mono hW1.b.size⟩; go_simp; exact hK.out _ _ (hW1.later ba rfl) (RegJ.ValP.keep (fun q hq => .inr (.inr (.inr fun v h => hst q hq v _ _ ba h)))) (RegJ.ValP.this (Or.inr rfl) (by intro q hq he; simp only [List.mem_cons, List.not_mem_nil, or_false] at hq; rcases hq with rfl | rfl; exact t; cases he)))
      focus (simp only [List.getElem_toArray, List.getElem_cons_succ, List.getElem_cons_zero] at hK; have j0 : x 0 = _ := (hJ1.out 0 (by kernel_rfl)).val rfl; rw [j0] at hK; obtain ⟨a2, c2, g2, d2, ys, j2, A2⟩ := (hJ1.out 2 (by kernel_rfl)).tie (2, 3, TieM w.heap.size l n.toNat) (by simp) rfl (hx1.out 3 (.inl rfl)).1; rw [j2] at hK; go_simp; exact hK.out _ _ (keepW 3 d _ hW1 (by decide)) RegJ.ValP.same (RegJ.ValP.this (Or.inr rfl) (by intro q hq he; simp only [List.mem_cons, List.not_mem_nil, or_false] at hq; rcases hq with rfl | rfl; cases he; exact ⟨a2, c2, g2, d2, ys, rfl, A2⟩)))
      focus (simp only [List.getElem_toArray, List.getElem_cons_succ, List.getElem_cons_zero] at hK; obtain ⟨a2, c2, g2, d2, ys, j3, A3⟩ := (hJ1.out 3 (by kernel_rfl)).tie (3, 4, TieQ w.heap.size l n.toNat g c g' c') (by simp) rfl (hx1.out 4 (.inl rfl)).1; have Vo := hW1.var (hx1.out 4 (.inl rfl)).1; refine step_store_win (by rfl) _ _ (by rfl) (k := w.heap.size) (vs := [.slice (some ⟨g, 0, none⟩) 3 c, .slice (some ⟨g', 0, none⟩) n.toNat c', .string ⟨#[]⟩, .int .i64 0, .bool false, .bool false, .bool false, .slice a2 3 c2, .slice (some ⟨g2, 0, none⟩) n.toNat d2, .string ⟨#[]⟩, .int .i64 0, .bool false, .bool false, .bool false]) (by rfl) (by exact j3) infoPairN Vo.win rfl (one14 _ _ _ _ _ _ _ _ _ _ _ _) ?_; intro wa va ka; exact hK.out undef _ ⟨hW1.v1.kept ka (by omega), hW1.b.trans (ka.below (Nat.le_refl _) hW1.b.size), hW1.oH.kept ka (own_win (by decide) hW1.oH Vo.win), hW1.oR.kept ka (own_win (by decide) hW1.oR Vo.win), fun e => absurd e (by simp), fun _ => ⟨a2, c2, g2, d2, ys, va.whole, A3.keptV Vo (by decide) (by decide) (by decide) (by decide) ka⟩⟩ (RegJ.ValP.keep (by intro q hq; simp only [List.mem_cons, List.not_mem_nil, or_false] at hq; rcases hq with rfl | rfl; exact .inr (.inr (.inl (hJ1.out 3 (by kernel_rfl)).done)); exact .inr (.inl rfl))) (RegJ.ValP.free (Or.inr rfl) rfl))
      focus (simp only [List.getElem_toArray, List.getElem_cons_succ, List.getElem_cons_zero] at hK; go_simp; exact hK.out _ _ (keepW 5 d _ hW1 (by decide)) RegJ.ValP.same (RegJ.ValP.free (Or.inl rfl) rfl))
    obtain ⟨a2, c2, g2, d2, ys, v3, A3⟩ := hWR.new (hdR 4 (by simp))
    have b3 := hWR.b
    have p1 := hWR.oH
    have p2 := hWR.oR
    have j5 : xR 5 = .bool true := (hJR 5 (by simp)).val rfl
    rw [j5]
    clear hWR hJR hdR hst keepW
    have e0 := v3.cell (i := 0) rfl
    have e1 := v3.cell (i := 1) rfl
    have e2 := v3.cell (i := 2) rfl
    have e3 := v3.cell (i := 3) rfl
    have e4 := v3.cell (i := 4) rfl
    have e5 := v3.cell (i := 5) rfl
    have e6 := v3.cell (i := 6) rfl
    have e7 := v3.cell (i := 7) rfl
    have e8 := v3.cell (i := 8) rfl
    have e9 := v3.cell (i := 9) rfl
    have e10 := v3.cell (i := 10) rfl
    have e11 := v3.cell (i := 11) rfl
    have e12 := v3.cell (i := 12) rfl
    have e13 := v3.cell (i := 13) rfl
    go_wp2_with fail
    refine bodyPost_ret (v := .tuple #[.agg #[.slice (some ⟨g, 0, none⟩) 3 c, .slice (some ⟨g', 0, none⟩) n.toNat c', .string ⟨#[]⟩, .int .i64 0, .bool false, .bool false, .bool false, .slice a2 3 c2, .slice (some ⟨g2, 0, none⟩) n.toNat d2, .string ⟨#[]⟩, .int .i64 0, .bool false, .bool false, .bool false], .bool true]) (by rw [Tak.res_cell_tmp rfl]; go_simp) rfl ⟨b3, .inr ⟨hc, g, c, g', c', a2, c2, g2, d2, ys, rfl, p1, p2, A3⟩⟩
theorem implNewPair0 (a : Option Addr) (cap : Nat) (l : List Int) (n : Int) (w : World) (h : Roa.EI.Lies w a l) (hl : l.length ≤ 2097152) :
    Calls Try.prog 13 #[.slice a l.length cap, .int .i64 n] w fun x w' => Below w.heap.size w w' ∧ ((capsB l n = false ∧ x = .returned (.tuple #[.agg #[.slice none 0 0, .slice none 0 0, .string ⟨#[]⟩, .int .i64 0, .bool false, .bool false, .bool false, .slice none 0 0, .slice none 0 0, .string ⟨#[]⟩, .int .i64 0, .bool false, .bool false, .bool false], .bool false])) ∨
      (capsB l n = true ∧ ∃ M g c g' c' f d f' d', x = .returned (.tuple #[.agg #[.slice (some ⟨g, 0, none⟩) 3 c, .slice (some ⟨g', 0, none⟩) n.toNat c', .string ⟨#[]⟩, .int .i64 0, .bool false, .bool false, .bool false, .slice (some ⟨f, 0, none⟩) 3 d, .slice (some ⟨f', 0, none⟩) n.toNat d', .string ⟨#[]⟩, .int .i64 0, .bool false, .bool false, .bool false], .bool true]) ∧ w.heap.size ≤ M ∧ g < M ∧ g' < M ∧ H0.Own 85 w' w.heap.size (some ⟨g, 0, none⟩) c (newHs l 3) ∧ Roa.E.Own 97 w' w.heap.size (some ⟨g', 0, none⟩) c' (newRs n.toNat) ∧ H0.Own 85 w' M (some ⟨f, 0, none⟩) d (newHs l 3) ∧ Roa.E.Own 97 w' M (some ⟨f', 0, none⟩) d' (newRs n.toNat))) := by
  have hmix := Roa.mix
  have v0 : Var 42 (w.alloc (.cells #[.slice none 0 0, .slice none 0 0, .string ⟨#[]⟩, .int .i64 0, .bool false, .bool false, .bool false, .slice none 0 0, .slice none 0 0, .string ⟨#[]⟩, .int .i64 0, .bool false, .bool false, .bool false] 42)) w.heap.size [.slice none 0 0, .slice none 0 0, .string ⟨#[]⟩, .int .i64 0, .bool false, .bool false, .bool false, .slice none 0 0, .slice none 0 0, .string ⟨#[]⟩, .int .i64 0, .bool false, .bool false, .bool false] := Var.new w _
  have b0 : Below w.heap.size w (w.alloc (.cells #[.slice none 0 0, .slice none 0 0, .string ⟨#[]⟩, .int .i64 0, .bool false, .bool false, .bool false, .slice none 0 0, .slice none 0 0, .string ⟨#[]⟩, .int .i64 0, .bool false, .bool false, .bool false] 42)) := (Below.refl _ _).alloc (Nat.le_refl _) _
  go_enter Try.func13, Try.ntmps13
  go_upto_region 1 with (fail)
  generalize (w.alloc (.cells #[.slice none 0 0, .slice none 0 0, .string ⟨#[]⟩, .int .i64 0, .bool false, .bool false, .bool false, .slice none 0 0, .slice none 0 0, .string ⟨#[]⟩, .int .i64 0, .bool false, .bool false, .bool false] 42)) = V at *
  go_wp2_with fail
  refine (implNewWorld0 a cap l n _ (h.later b0) hl).mono ?_
  rintro x w1 ⟨b1, hx⟩
  have zV := b0.size
  replace v0 := v0.later b1
  have B1 := b0.trans (b1.mono b0.size)
  clear b0 b1
  rcases hx with ⟨hc, rfl⟩ | ⟨hc, g, c, g', c', rfl, oH, oR⟩
  · have v1 : Var 40 (w1.alloc (.cells #[.slice none 0 0, .slice none 0 0, .string ⟨#[]⟩, .int .i64 0, .bool false, .bool false, .bool false] 40)) w1.heap.size [.slice none 0 0, .slice none 0 0, .string ⟨#[]⟩, .int .i64 0, .bool false, .bool false, .bool false] := Var.new w1 _
    replace v0 := v0.alloc (.cells #[.slice none 0 0, .slice none 0 0, .string ⟨#[]⟩, .int .i64 0, .bool false, .bool false, .bool false] 40)
    replace B1 := B1.alloc B1.size (.cells #[.slice none 0 0, .slice none 0 0, .string ⟨#[]⟩, .int .i64 0, .bool false, .bool false, .bool false] 40)
    have z1 : w1.heap.size < (w1.alloc (.cells #[.slice none 0 0, .slice none 0 0, .string ⟨#[]⟩, .int .i64 0, .bool false, .bool false, .bool false] 40)).heap.size := by simp
    go_upto_region 2 with (fail)
    generalize w1.alloc (.cells #[.slice none 0 0, .slice none 0 0, .string ⟨#[]⟩, .int .i64 0, .bool false, .bool false, .bool false] 40) = V1 at *
    generalize w1.heap.size = k1 at *
    go_wp2_with fail
    refine (implNewWorld0 a cap l n _ (h.later B1) hl).mono ?_
    rintro x w2 ⟨b2, hx⟩
    have zM := B1.size
    replace v0 := v0.later b2
    replace v1 := v1.later b2
    replace B1 := B1.trans (b2.mono B1.size)
    clear b2
    obtain rfl : x = .returned (.tuple #[.agg #[.slice none 0 0, .slice none 0 0, .string ⟨#[]⟩, .int .i64 0, .bool false, .bool false, .bool false], .bool false]) := by
      rcases hx with ⟨_, h⟩ | ⟨hc', _⟩
      · exact h
      · rw [hc] at hc'; cases hc'
    have v2 : Var 40 (w2.alloc (.cells #[.slice none 0 0, .slice none 0 0, .string ⟨#[]⟩, .int .i64 0, .bool false, .bool false, .bool false] 40)) w2.heap.size [.slice none 0 0, .slice none 0 0, .string ⟨#[]⟩, .int .i64 0, .bool false, .bool false, .bool false] := Var.new w2 _
    replace v0 := v0.alloc (.cells #[.slice none 0 0, .slice none 0 0, .string ⟨#[]⟩, .int .i64 0, .bool false, .bool false, .bool false] 40)
    replace v1 := v1.alloc (.cells #[.slice none 0 0, .slice none 0 0, .string ⟨#[]⟩, .int .i64 0, .bool false, .bool false, .bool false] 40)
    replace B1 := B1.alloc B1.size (.cells #[.slice none 0 0, .slice none 0 0, .string ⟨#[]⟩, .int .i64 0, .bool false, .bool false, .bool false] 40)
    go_upto_region 3 with (fail)
    generalize w2.alloc (.cells #[.slice none 0 0, .slice none 0 0, .string ⟨#[]⟩, .int .i64 0, .bool false, .bool false, .bool false] 40) = V2 at *
    generalize w2.heap.size = k2 at *
    have p0 := v1.cell (i := 0) rfl
    have p1 := v1.cell (i := 1) rfl
    have p2 := v1.cell (i := 2) rfl
    have p3 := v1.cell (i := 3) rfl
    have p4 := v1.cell (i := 4) rfl
    have p5 := v1.cell (i := 5) rfl
    have p6 := v1.cell (i := 6) rfl
    have q0 := v2.cell (i := 0) rfl
    have q1 := v2.cell (i := 1) rfl
    have q2 := v2.cell (i := 2) rfl
    have q3 := v2.cell (i := 3) rfl
    have q4 := v2.cell (i := 4) rfl
    have q5 := v2.cell (i := 5) rfl
    have q6 := v2.cell (i := 6) rfl
    clear v1 v2 h
    have c0 := v0.cell (i := 0) rfl
    have c1 := v0.cell (i := 1) rfl
    have c2 := v0.cell (i := 2) rfl
    have c3 := v0.cell (i := 3) rfl
    have c4 := v0.cell (i := 4) rfl
    have c5 := v0.cell (i := 5) rfl
    have c6 := v0.cell (i := 6) rfl
    have c7 := v0.cell (i := 7) rfl
    have c8 := v0.cell (i := 8) rfl
    have c9 := v0.cell (i := 9) rfl
    have c10 := v0.cell (i := 10) rfl
    have c11 := v0.cell (i := 11) rfl
    have c12 := v0.cell (i := 12) rfl
    have c13 := v0.cell (i := 13) rfl
    have y0 := v0.free 0
    have y1 := v0.free 1
    have y2 := v0.free 2
    have y3 := v0.free 3
    have y4 := v0.free 4
    have y5 := v0.free 5
    have y6 := v0.free 6
    have y7 := v0.free 7
    have y8 := v0.free 8
    have y9 := v0.free 9
    have y10 := v0.free 10
    have y11 := v0.free 11
    have y12 := v0.free 12
    have y13 := v0.free 13
    go_wp2_with fail
    have ka : Draw.Kept w.heap.size V2 ((((((((((((((V2.setCell ⟨w.heap.size, 0, none⟩ (.slice none 0 0)).setCell ⟨w.heap.size, 1, none⟩ (.slice none 0 0)).setCell ⟨w.heap.size, 2, none⟩ (.string ⟨#[]⟩)).setCell ⟨w.heap.size, 3, none⟩ (.int .i64 0)).setCell ⟨w.heap.size, 4, none⟩ (.bool false)).setCell ⟨w.heap.size, 5, none⟩ (.bool false)).setCell ⟨w.heap.size, 6, none⟩ (.bool false)).setCell ⟨w.heap.size, 7, none⟩ (.slice none 0 0)).setCell ⟨w.heap.size, 8, none⟩ (.slice none 0 0)).setCell ⟨w.heap.size, 9, none⟩ (.string ⟨#[]⟩)).setCell ⟨w.heap.size, 10, none⟩ (.int .i64 0)).setCell ⟨w.heap.size, 11, none⟩ (.bool false)).setCell ⟨w.heap.size, 12, none⟩ (.bool false)).setCell ⟨w.heap.size, 13, none⟩ (.bool false)) := kept14 _ _ _ _ _ _ _ _ _ _ _ _ _ _ _ _
    have vv : Var 42 ((((((((((((((V2.setCell ⟨w.heap.size, 0, none⟩ (.slice none 0 0)).setCell ⟨w.heap.size, 1, none⟩ (.slice none 0 0)).setCell ⟨w.heap.size, 2, none⟩ (.string ⟨#[]⟩)).setCell ⟨w.heap.size, 3, none⟩ (.int .i64 0)).setCell ⟨w.heap.size, 4, none⟩ (.bool false)).setCell ⟨w.heap.size, 5, none⟩ (.bool false)).setCell ⟨w.heap.size, 6, none⟩ (.bool false)).setCell ⟨w.heap.size, 7, none⟩ (.slice none 0 0)).setCell ⟨w.heap.size, 8, none⟩ (.slice none 0 0)).setCell ⟨w.heap.size, 9, none⟩ (.string ⟨#[]⟩)).setCell ⟨w.heap.size, 10, none⟩ (.int .i64 0)).setCell ⟨w.heap.size, 11, none⟩ (.bool false)).setCell ⟨w.heap.size, 12, none⟩ (.bool false)).setCell ⟨w.heap.size, 13, none⟩ (.bool false)) w.heap.size [.slice none 0 0, .slice none 0 0, .string ⟨#[]⟩, .int .i64 0, .bool false, .bool false, .bool false, .slice none 0 0, .slice none 0 0, .string ⟨#[]⟩, .int .i64 0, .bool false, .bool false, .bool false] := var14 v0 _ _ _ _ _ _ _ _ _ _ _ _ _ _
    have B3 := B1.trans (ka.below (Nat.le_refl _) B1.size)
    clear ka v0 B1 c0 c1 c2 c3 c4 c5 c6 c7 c8 c9 c10 c11 c12 c13 y0 y1 y2 y3 y4 y5 y6 y7 y8 y9 y10 y11 y12 y13
    generalize ((((((((((((((V2.setCell ⟨w.heap.size, 0, none⟩ (.slice none 0 0)).setCell ⟨w.heap.size, 1, none⟩ (.slice none 0 0)).setCell ⟨w.heap.size, 2, none⟩ (.string ⟨#[]⟩)).setCell ⟨w.heap.size, 3, none⟩ (.int .i64 0)).setCell ⟨w.heap.size, 4, none⟩ (.bool false)).setCell ⟨w.heap.size, 5, none⟩ (.bool false)).setCell ⟨w.heap.size, 6, none⟩ (.bool false)).setCell ⟨w.heap.size, 7, none⟩ (.slice none 0 0)).setCell ⟨w.heap.size, 8, none⟩ (.slice none 0 0)).setCell ⟨w.heap.size, 9, none⟩ (.string ⟨#[]⟩)).setCell ⟨w.heap.size, 10, none⟩ (.int .i64 0)).setCell ⟨w.heap.size, 11, none⟩ (.bool false)).setCell ⟨w.heap.size, 12, none⟩ (.bool false)).setCell ⟨w.heap.size, 13, none⟩ (.bool false)) = WZ at *
    have c0 := vv.cell (i := 0) rfl
    have c1 := vv.cell (i := 1) rfl
    have c2 := vv.cell (i := 2) rfl
    have c3 := vv.cell (i := 3) rfl
    have c4 := vv.cell (i := 4) rfl
    have c5 := vv.cell (i := 5) rfl
    have c6 := vv.cell (i := 6) rfl
    have c7 := vv.cell (i := 7) rfl
    have c8 := vv.cell (i := 8) rfl
    have c9 := vv.cell (i := 9) rfl
    have c10 := vv.cell (i := 10) rfl
    have c11 := vv.cell (i := 11) rfl
    have c12 := vv.cell (i := 12) rfl
    have c13 := vv.cell (i := 13) rfl
    refine bodyPost_ret (v := .tuple #[.agg #[.slice none 0 0, .slice none 0 0, .string ⟨#[]⟩, .int .i64 0, .bool false, .bool false, .bool false, .slice none 0 0, .slice none 0 0, .string ⟨#[]⟩, .int .i64 0, .bool false, .bool false, .bool false], .bool false]) (by rw [Tak.res_cell_tmp rfl]; go_simp) rfl ⟨B3, .inl ⟨hc, rfl⟩⟩
  · have v1 : Var 40 (w1.alloc (.cells #[.slice (some ⟨g, 0, none⟩) 3 c, .slice (some ⟨g', 0, none⟩) n.toNat c', .string ⟨#[]⟩, .int .i64 0, .bool false, .bool false, .bool false] 40)) w1.heap.size [.slice (some ⟨g, 0, none⟩) 3 c, .slice (some ⟨g', 0, none⟩) n.toNat c', .string ⟨#[]⟩, .int .i64 0, .bool false, .bool false, .bool false] := Var.new w1 _
    replace v0 := v0.alloc (.cells #[.slice (some ⟨g, 0, none⟩) 3 c, .slice (some ⟨g', 0, none⟩) n.toNat c', .string ⟨#[]⟩, .int .i64 0, .bool false, .bool false, .bool false] 40)
    replace oH := oH.alloc (.cells #[.slice (some ⟨g, 0, none⟩) 3 c, .slice (some ⟨g', 0, none⟩) n.toNat c', .string ⟨#[]⟩, .int .i64 0, .bool false, .bool false, .bool false] 40)
    replace oR := oR.alloc (.cells #[.slice (some ⟨g, 0, none⟩) 3 c, .slice (some ⟨g', 0, none⟩) n.toNat c', .string ⟨#[]⟩, .int .i64 0, .bool false, .bool false, .bool false] 40)
    replace B1 := B1.alloc B1.size (.cells #[.slice (some ⟨g, 0, none⟩) 3 c, .slice (some ⟨g', 0, none⟩) n.toNat c', .string ⟨#[]⟩, .int .i64 0, .bool false, .bool false, .bool false] 40)
    replace oH := oH.mono zV
    replace oR := oR.mono zV
    have z1 : w1.heap.size < (w1.alloc (.cells #[.slice (some ⟨g, 0, none⟩) 3 c, .slice (some ⟨g', 0, none⟩) n.toNat c', .string ⟨#[]⟩, .int .i64 0, .bool false, .bool false, .bool false] 40)).heap.size := by simp
    go_upto_region 2 with (fail)
    generalize w1.alloc (.cells #[.slice (some ⟨g, 0, none⟩) 3 c, .slice (some ⟨g', 0, none⟩) n.toNat c', .string ⟨#[]⟩, .int .i64 0, .bool false, .bool false, .bool false] 40) = V1 at *
    generalize w1.heap.size = k1 at *
    have hgM := (oH.lt _ rfl).2
    have hgM' := (oR.lt _ rfl).2
    simp only at hgM hgM'
    go_wp2_with fail
    refine (implNewWorld0 a cap l n _ (h.later B1) hl).mono ?_
    rintro x w2 ⟨b2, hx⟩
    have zM := B1.size
    replace v0 := v0.later b2
    replace v1 := v1.later b2
    replace oH := oH.later b2
    replace oR := oR.later b2
    replace B1 := B1.trans (b2.mono B1.size)
    clear b2
    obtain ⟨f, d, f', d', rfl, pH, pR⟩ : ∃ f d f' d', x = .returned (.tuple #[.agg #[.slice (some ⟨f, 0, none⟩) 3 d, .slice (some ⟨f', 0, none⟩) n.toNat d', .string ⟨#[]⟩, .int .i64 0, .bool false, .bool false, .bool false], .bool true]) ∧ H0.Own 85 w2 V1.heap.size (some ⟨f, 0, none⟩) d (newHs l 3) ∧ Roa.E.Own 97 w2 V1.heap.size (some ⟨f', 0, none⟩) d' (newRs n.toNat) := by
      rcases hx with ⟨hc', _⟩ | ⟨_, h⟩
      · rw [hc] at hc'; cases hc'
      · exact h
    have v2 : Var 40 (w2.alloc (.cells #[.slice (some ⟨f, 0, none⟩) 3 d, .slice (some ⟨f', 0, none⟩) n.toNat d', .string ⟨#[]⟩, .int .i64 0, .bool false, .bool false, .bool false] 40)) w2.heap.size [.slice (some ⟨f, 0, none⟩) 3 d, .slice (some ⟨f', 0, none⟩) n.toNat d', .string ⟨#[]⟩, .int .i64 0, .bool false, .bool false, .bool false] := Var.new w2 _
    replace v0 := v0.alloc (.cells #[.slice (some ⟨f, 0, none⟩) 3 d, .slice (some ⟨f', 0, none⟩) n.toNat d', .string ⟨#[]⟩, .int .i64 0, .bool false, .bool false, .bool false] 40)
    replace v1 := v1.alloc (.cells #[.slice (some ⟨f, 0, none⟩) 3 d, .slice (some ⟨f', 0, none⟩) n.toNat d', .string ⟨#[]⟩, .int .i64 0, .bool false, .bool false, .bool false] 40)
    replace oH := oH.alloc (.cells #[.slice (some ⟨f, 0, none⟩) 3 d, .slice (some ⟨f', 0, none⟩) n.toNat d', .string ⟨#[]⟩, .int .i64 0, .bool false, .bool false, .bool false] 40)
    replace oR := oR.alloc (.cells #[.slice (some ⟨f, 0, none⟩) 3 d, .slice (some ⟨f', 0, none⟩) n.toNat d', .string ⟨#[]⟩, .int .i64 0, .bool false, .bool false, .bool false] 40)
    replace pH := pH.alloc (.cells #[.slice (some ⟨f, 0, none⟩) 3 d, .slice (some ⟨f', 0, none⟩) n.toNat d', .string ⟨#[]⟩, .int .i64 0, .bool false, .bool false, .bool false] 40)
    replace pR := pR.alloc (.cells #[.slice (some ⟨f, 0, none⟩) 3 d, .slice (some ⟨f', 0, none⟩) n.toNat d', .string ⟨#[]⟩, .int .i64 0, .bool false, .bool false, .bool false] 40)
    replace B1 := B1.alloc B1.size (.cells #[.slice (some ⟨f, 0, none⟩) 3 d, .slice (some ⟨f', 0, none⟩) n.toNat d', .string ⟨#[]⟩, .int .i64 0, .bool false, .bool false, .bool false] 40)
    go_upto_region 3 with (fail)
    generalize w2.alloc (.cells #[.slice (some ⟨f, 0, none⟩) 3 d, .slice (some ⟨f', 0, none⟩) n.toNat d', .string ⟨#[]⟩, .int .i64 0, .bool false, .bool false, .bool false] 40) = V2 at *
    generalize w2.heap.size = k2 at *
    have p0 := v1.cell (i := 0) rfl
    have p1 := v1.cell (i := 1) rfl
    have p2 := v1.cell (i := 2) rfl
    have p3 := v1.cell (i := 3) rfl
    have p4 := v1.cell (i := 4) rfl
    have p5 := v1.cell (i := 5) rfl
    have p6 := v1.cell (i := 6) rfl
    have q0 := v2.cell (i := 0) rfl
    have q1 := v2.cell (i := 1) rfl
    have q2 := v2.cell (i := 2) rfl
    have q3 := v2.cell (i := 3) rfl
    have q4 := v2.cell (i := 4) rfl
    have q5 := v2.cell (i := 5) rfl
    have q6 := v2.cell (i := 6) rfl
    clear v1 v2 h
    have c0 := v0.cell (i := 0) rfl
    have c1 := v0.cell (i := 1) rfl
    have c2 := v0.cell (i := 2) rfl
    have c3 := v0.cell (i := 3) rfl
    have c4 := v0.cell (i := 4) rfl
    have c5 := v0.cell (i := 5) rfl
    have c6 := v0.cell (i := 6) rfl
    have c7 := v0.cell (i := 7) rfl
    have c8 := v0.cell (i := 8) rfl
    have c9 := v0.cell (i := 9) rfl
    have c10 := v0.cell (i := 10) rfl
    have c11 := v0.cell (i := 11) rfl
    have c12 := v0.cell (i := 12) rfl
    have c13 := v0.cell (i := 13) rfl
    have y0 := v0.free 0
    have y1 := v0.free 1
    have y2 := v0.free 2
    have y3 := v0.free 3
    have y4 := v0.free 4
    have y5 := v0.free 5
    have y6 := v0.free 6
    have y7 := v0.free 7
    have y8 := v0.free 8
    have y9 := v0.free 9
    have y10 := v0.free 10
    have y11 := v0.free 11
    have y12 := v0.free 12
    have y13 := v0.free 13
    go_wp2_with fail
    have ka : Draw.Kept w.heap.size V2 ((((((((((((((V2.setCell ⟨w.heap.size, 0, none⟩ (.slice (some ⟨g, 0, none⟩) 3 c)).setCell ⟨w.heap.size, 1, none⟩ (.slice (some ⟨g', 0, none⟩) n.toNat c')).setCell ⟨w.heap.size, 2, none⟩ (.string ⟨#[]⟩)).setCell ⟨w.heap.size, 3, none⟩ (.int .i64 0)).setCell ⟨w.heap.size, 4, none⟩ (.bool false)).setCell ⟨w.heap.size, 5, none⟩ (.bool false)).setCell ⟨w.heap.size, 6, none⟩ (.bool false)).setCell ⟨w.heap.size, 7, none⟩ (.slice (some ⟨f, 0, none⟩) 3 d)).setCell ⟨w.heap.size, 8, none⟩ (.slice (some ⟨f', 0, none⟩) n.toNat d')).setCell ⟨w.heap.size, 9, none⟩ (.string ⟨#[]⟩)).setCell ⟨w.heap.size, 10, none⟩ (.int .i64 0)).setCell ⟨w.heap.size, 11, none⟩ (.bool false)).setCell ⟨w.heap.size, 12, none⟩ (.bool false)).setCell ⟨w.heap.size, 13, none⟩ (.bool false)) := kept14 _ _ _ _ _ _ _ _ _ _ _ _ _ _ _ _
    have vv : Var 42 ((((((((((((((V2.setCell ⟨w.heap.size, 0, none⟩ (.slice (some ⟨g, 0, none⟩) 3 c)).setCell ⟨w.heap.size, 1, none⟩ (.slice (some ⟨g', 0, none⟩) n.toNat c')).setCell ⟨w.heap.size, 2, none⟩ (.string ⟨#[]⟩)).setCell ⟨w.heap.size, 3, none⟩ (.int .i64 0)).setCell ⟨w.heap.size, 4, none⟩ (.bool false)).setCell ⟨w.heap.size, 5, none⟩ (.bool false)).setCell ⟨w.heap.size, 6, none⟩ (.bool false)).setCell ⟨w.heap.size, 7, none⟩ (.slice (some ⟨f, 0, none⟩) 3 d)).setCell ⟨w.heap.size, 8, none⟩ (.slice (some ⟨f', 0, none⟩) n.toNat d')).setCell ⟨w.heap.size, 9, none⟩ (.string ⟨#[]⟩)).setCell ⟨w.heap.size, 10, none⟩ (.int .i64 0)).setCell ⟨w.heap.size, 11, none⟩ (.bool false)).setCell ⟨w.heap.size, 12, none⟩ (.bool false)).setCell ⟨w.heap.size, 13, none⟩ (.bool false)) w.heap.size [.slice (some ⟨g, 0, none⟩) 3 c, .slice (some ⟨g', 0, none⟩) n.toNat c', .string ⟨#[]⟩, .int .i64 0, .bool false, .bool false, .bool false, .slice (some ⟨f, 0, none⟩) 3 d, .slice (some ⟨f', 0, none⟩) n.toNat d', .string ⟨#[]⟩, .int .i64 0, .bool false, .bool false, .bool false] := var14 v0 _ _ _ _ _ _ _ _ _ _ _ _ _ _
    have B3 := B1.trans (ka.below (Nat.le_refl _) B1.size)
    replace oH := oH.kept ka (fun y hy => by cases hy; exact RowG.own_varS (by decide) oH v0)
    replace oR := oR.kept ka (fun y hy => by cases hy; exact RowG.own_varS (by decide) oR v0)
    replace pH := pH.kept ka (fun y hy => by cases hy; exact RowG.own_varS (by decide) pH v0)
    replace pR := pR.kept ka (fun y hy => by cases hy; exact RowG.own_varS (by decide) pR v0)
    clear ka v0 B1 c0 c1 c2 c3 c4 c5 c6 c7 c8 c9 c10 c11 c12 c13 y0 y1 y2 y3 y4 y5 y6 y7 y8 y9 y10 y11 y12 y13
    generalize ((((((((((((((V2.setCell ⟨w.heap.size, 0, none⟩ (.slice (some ⟨g, 0, none⟩) 3 c)).setCell ⟨w.heap.size, 1, none⟩ (.slice (some ⟨g', 0, none⟩) n.toNat c')).setCell ⟨w.heap.size, 2, none⟩ (.string ⟨#[]⟩)).setCell ⟨w.heap.size, 3, none⟩ (.int .i64 0)).setCell ⟨w.heap.size, 4, none⟩ (.bool false)).setCell ⟨w.heap.size, 5, none⟩ (.bool false)).setCell ⟨w.heap.size, 6, none⟩ (.bool false)).setCell ⟨w.heap.size, 7, none⟩ (.slice (some ⟨f, 0, none⟩) 3 d)).setCell ⟨w.heap.size, 8, none⟩ (.slice (some ⟨f', 0, none⟩) n.toNat d')).setCell ⟨w.heap.size, 9, none⟩ (.string ⟨#[]⟩)).setCell ⟨w.heap.size, 10, none⟩ (.int .i64 0)).setCell ⟨w.heap.size, 11, none⟩ (.bool false)).setCell ⟨w.heap.size, 12, none⟩ (.bool false)).setCell ⟨w.heap.size, 13, none⟩ (.bool false)) = WZ at *
    have c0 := vv.cell (i := 0) rfl
    have c1 := vv.cell (i := 1) rfl
    have c2 := vv.cell (i := 2) rfl
    have c3 := vv.cell (i := 3) rfl
    have c4 := vv.cell (i := 4) rfl
    have c5 := vv.cell (i := 5) rfl
    have c6 := vv.cell (i := 6) rfl
    have c7 := vv.cell (i := 7) rfl
    have c8 := vv.cell (i := 8) rfl
    have c9 := vv.cell (i := 9) rfl
    have c10 := vv.cell (i := 10) rfl
    have c11 := vv.cell (i := 11) rfl
    have c12 := vv.cell (i := 12) rfl
    have c13 := vv.cell (i := 13) rfl
    refine bodyPost_ret (v := .tuple #[.agg #[.slice (some ⟨g, 0, none⟩) 3 c, .slice (some ⟨g', 0, none⟩) n.toNat c', .string ⟨#[]⟩, .int .i64 0, .bool false, .bool false, .bool false, .slice (some ⟨f, 0, none⟩) 3 d, .slice (some ⟨f', 0, none⟩) n.toNat d', .string ⟨#[]⟩, .int .i64 0, .bool false, .bool false, .bool false], .bool true]) (by rw [Tak.res_cell_tmp rfl]; go_simp) rfl ⟨B3, .inr ⟨hc, V1.heap.size, g, c, g', c', f, d, f', d', rfl, zM, hgM, hgM', oH, oR, pH, pR⟩⟩
end Go.Proofs.Ytldghgadkncehaa.Lin
namespace Go.Proofs.Ytldghgadkncehaa.Lin
open Go.RowKit RowG
theorem valsI (l : List Int) : Roa.EI.vals l = l.map (Value.int .i64) := by
  induction l with
  | nil => rfl
  | cons x l ih => rw [El.vals_cons, ih]; rfl
theorem intAt {w : World} {B g c : Nat} {l : List Int} (h : Roa.EI.Own 2 w B (some ⟨g, 0, none⟩) c l) {k : Nat} (hk : k < l.length) : w.cell? ⟨g, k, none⟩ = some (.int .i64 (capAt l k)) ∧ w.frozen? ⟨g, k, none⟩ = false := by
  refine ⟨?_, World.ownsRow.frozenAt h k⟩
  have := capCell h.lies hk
  rwa [Nat.zero_add] at this
theorem intPut {w : World} {B g c : Nat} {l : List Int} (h : Roa.EI.Own 2 w B (some ⟨g, 0, none⟩) c l) (k : Nat) (x : Int) : Roa.EI.Own 2 (w.setCell ⟨g, k, none⟩ (.int .i64 x)) B (some ⟨g, 0, none⟩) c (l.set k x) := by
  have h1 := (World.ownsRow.stored h k (.int .i64 x)).1
  unfold El.Own
  rw [List.length_set, valsI, List.map_set, ← valsI]
  exact h1
theorem toInts (a : Option Addr) (n cap : Nat) (l : List Int) (w : World) (hn : n = l.length) (h : Roa.EI.Lies w a l) (hl : l.length ≤ 2097152) :
    Calls Try.prog 12 #[.slice a n cap] w fun x w' => ∃ g c, x = .returned (.slice (some ⟨g, 0, none⟩) l.length c) ∧ Roa.EI.Own 2 w' w.heap.size (some ⟨g, 0, none⟩) c l ∧ Below w.heap.size w w' := by
  subst hn
  obtain ⟨i, hi, hz0, hz1, hz2⟩ := info_parts Roa.infoInt
  have hby : i.bytes * l.length ≤ 281474976710656 := by rw [hz2]; omega
  have hmx : l.length ≤ maxLen := by unfold maxLen; omega
  go_enter Try.func12, Try.ntmps12
  go_wp2_with (at_make; refine wpList_make_full _ (by rfl) _ _ 46 (by rfl) w.heap.size 2 i (.int .i64 0) 1 Try.underlying46 hi hz0 hz1 .i64 .i64 _ _ l.length (by rfl) (by rfl) rfl rfl hby hmx (Nat.le_refl _) ?_; intro w1 hown hgrow)
  have o1 : Roa.EI.Own 2 w1 w.heap.size (some ⟨w.heap.size, 0, none⟩) l.length (List.replicate l.length 0) := by
    unfold El.Own
    have e : (madeCells #[Value.int .i64 0] (l.length * 1)).toList = Roa.EI.vals (List.replicate l.length 0) := by
      rw [valsI, List.map_replicate]
      apply List.ext_getElem?
      intro i
      by_cases hi : i < l.length
      · simp [madeCells, hi, Nat.mod_one]
      · simp [madeCells, hi]
    rw [List.length_replicate, ← e]
    exact hown
  have b1 : Below w.heap.size w w1 := (Below.refl _ _).grown hgrow (Nat.le_refl _) (fun _ h => by cases h)
  clear hown hgrow
  generalize hG : w.heap.size = g at *
  have HG : Hid _ := hG
  clear hG
  go_wp2_with fail
  go_loopw [4] (fun iv wr => ∃ k : Nat, k ≤ l.length ∧ iv = .int .i64 k ∧ Roa.EI.Own 2 wr g (some ⟨g, 0, none⟩) l.length (l.take k ++ List.replicate (l.length - k) 0) ∧ Below g w wr) (fun iv _ => l.length - (intOf iv).toNat)
  case atStart => exact ⟨0, Nat.zero_le _, rfl, by simpa using o1, b1⟩
  case round =>
    clear o1 b1
    obtain ⟨k, hk, rfl, hown, hB⟩ := hrel
    by_cases hlt : k < l.length
    · have h1 := h.later (HG.out ▸ hB)
      obtain ⟨b, off, rfl⟩ : ∃ b off, a = some ⟨b, off, none⟩ := by
        rcases h1 with hs | ⟨b, off, rfl, _⟩
        · simp [hs] at hlt
        · exact ⟨b, off, rfl⟩
      have d0 := capCell h1 hlt
      have i0 : (0 : Int) ≤ (k : Int) := by omega
      have i1 : (k : Int) < (l.length : Int) := by omega
      obtain ⟨c0, f0⟩ := intAt hown (k := k) (by simp; omega)
      have o2 := intPut hown k (capAt l k)
      have e : (l.take k ++ List.replicate (l.length - k) 0).set k (capAt l k) = l.take (k + 1) ++ List.replicate (l.length - (k + 1)) 0 := by
        have ek : l.length - k = l.length - (k + 1) + 1 := by omega
        have hlk : (l.take k).length = k := by simp; omega
        have hx : capAt l k = l[k] := by simp [capAt, hlt]
        rw [List.set_append_right _ _ (by omega), hlk, Nat.sub_self, ek, List.replicate_succ, List.set_cons_zero, List.take_succ_eq_append_getElem hlt, hx, List.append_assoc]
        rfl
      rw [e] at o2
      have b2 := hB.setCell (p := ⟨g, k, none⟩) (Nat.le_refl _) (.int .i64 (capAt l k))
      clear e hown h1
      generalize capAt (l.take k ++ List.replicate (l.length - k) 0) k = y0 at *
      go_wp2_with fail
      go_roundw
      case rel => exact ⟨k + 1, by omega, by go_num, o2, b2⟩
      case measure => simp [intOf]; omega
    · have hkl : k = l.length := by omega
      subst hkl
      have e : l.take l.length ++ List.replicate (l.length - l.length) 0 = l := by simp
      rw [e] at hown
      have i1 : ¬ (l.length : Int) < (l.length : Int) := by omega
      go_wp2_with fail
      go_ret
      exact ⟨g, l.length, rfl, by rw [HG.out]; exact hown, by rw [HG.out]; exact hB⟩
theorem eqInts (B B' g g' c c' n n' : Nat) (l : List Int) (w : World) (hn : n = l.length) (hn' : n' = l.length) (h : Roa.EI.Own 2 w B (some ⟨g, 0, none⟩) c l) (h' : Roa.EI.Own 2 w B' (some ⟨g', 0, none⟩) c' l) (hl : l.length ≤ 4194304) :
    Calls Try.prog 14 #[.slice (some ⟨g, 0, none⟩) n c, .slice (some ⟨g', 0, none⟩) n' c'] w fun x w' => x = .returned (.bool true) ∧ Below w.heap.size w w' := by
  subst hn
  subst hn'
  have hmix := Roa.mix
  go_enter Try.func14, Try.ntmps14
  go_wp2_with fail
  go_loopw [5] (fun iv wr => ∃ k : Nat, k ≤ l.length ∧ iv = .int .i64 k ∧ Below w.heap.size w wr) (fun iv _ => l.length - (intOf iv).toNat)
  case atStart => exact ⟨0, Nat.zero_le _, rfl, Below.refl _ _⟩
  case round =>
    obtain ⟨k, hk, rfl, hB⟩ := hrel
    by_cases hlt : k < l.length
    · have d0 := Draw.Later.cell (intAt (h.later hB) hlt).1
      have d1 := Draw.Later.cell (intAt (h'.later hB) hlt).1
      have i0 : (0 : Int) ≤ (k : Int) := by omega
      have i1 : (k : Int) < (l.length : Int) := by omega
      generalize capAt l k = s at *
      go_wp2_with fail
      refine Draw.wp_region_later hmix (by kernel_rfl) ?_
      repeat (go_big_quiet_step (fail))
      refine wpQuiet_nil ?_
      intro _ hw'
      obtain ⟨⟨wq, hBq⟩, hw''⟩ := hw'
      subst hw''
      go_wp2_with fail
      go_roundw
      case rel => exact ⟨k + 1, by omega, by go_num, hB.trans (hBq.mono hB.size)⟩
      case measure => simp [intOf]; omega
    · have i1 : ¬ (k : Int) < (l.length : Int) := by omega
      go_wp2_with fail
      go_ret
      exact ⟨rfl, hB⟩
theorem markInts (B g n cap : Nat) (l : List Int) (w : World) (hn : n = l.length) (h : Roa.EI.Own 2 w B (some ⟨g, 0, none⟩) cap l) (hl : l.length ≤ 4194304) :
    Calls Try.prog 15 #[.slice (some ⟨g, 0, none⟩) n cap, .int .i64 1] w fun x w' => x = .returned (.int .i64 (1 + (l.length : Int))) ∧ Draw.Kept g w w' := by
  subst hn
  go_enter Try.func15, Try.ntmps15
  go_wp2_with fail
  go_loopw [1, 5] (fun qv iv wr => ∃ (k : Nat) (L : List Int), k ≤ l.length ∧ L.length = l.length ∧ iv = .int .i64 k ∧ qv = .int .i64 (1 + (k : Int)) ∧ Roa.EI.Own 2 wr B (some ⟨g, 0, none⟩) cap L ∧ Draw.Kept g w wr) (fun _ iv _ => l.length - (intOf iv).toNat)
  case atStart => exact ⟨0, l, Nat.zero_le _, rfl, rfl, by simp, h, Draw.Kept.refl _ _⟩
  case round =>
    clear h
    obtain ⟨k, L, hk, hL, rfl, rfl, hown, hkept⟩ := hrel
    by_cases hlt : k < l.length
    · obtain ⟨c0, f0⟩ := intAt hown (k := k) (by omega)
      have o2 := intPut hown k (1 + (k : Int))
      have i0 : (0 : Int) ≤ (k : Int) := by omega
      have i1 : (k : Int) < (l.length : Int) := by omega
      have O2 : Hid (Roa.EI.Own _ _ _ _ _ _) := o2
      have HL : Hid _ := hL
      clear hown o2 hL
      generalize capAt L k = y0 at *
      go_wp2_with fail
      go_roundw
      case rel => exact ⟨k + 1, L.set k (1 + (k : Int)), by omega, by rw [List.length_set]; exact HL.out, by go_num, by go_num, O2.out, hkept.setCell (.inl rfl) _⟩
      case measure => simp [intOf]; omega
    · have hkl : k = l.length := by omega
      subst hkl
      have i1 : ¬ (l.length : Int) < (l.length : Int) := by omega
      clear hown hL
      go_wp2_with fail
      go_ret
      exact ⟨rfl, hkept⟩
/-- What a law is told of numbers that came in. -/
theorem ints_row {w : World} {a : Option Addr} {len cap : Nat} {zs : List Int} (h : (a = none ∧ len = 0 ∧ cap = 0 ∧ zs = []) ∨ ∃ x, a = some x ∧ len ≤ cap ∧ cap ≤ maxLen ∧ zs.length = cap ∧ (∀ i, i < zs.length → w.cell? (x.add i) = some (.int .i64 (zs.getD i 0))) ∧ ∀ n ∈ zs, (Lit.int .i64 n).wf = true) :
    ∃ l : List Int, len = l.length ∧ len ≤ maxLen ∧ Roa.EI.Lies w a l ∧ (a = none → cap = 0) := by
  rcases h with ⟨rfl, rfl, rfl, rfl⟩ | ⟨x, rfl, h1, h2, h3, h4, _⟩
  · exact ⟨[], rfl, Nat.zero_le _, .inl rfl, fun _ => rfl⟩
  · refine ⟨zs.take len, by simp; omega, by omega, ?_, fun h => by cases h⟩
    by_cases h0 : len = 0
    · exact .inl (by simp [h0])
    · obtain ⟨b, off, spot⟩ := x
      have hspot : spot = none := by simpa [Addr.add] using World.cell?_spot (h4 0 (by omega))
      subst hspot
      refine .inr ⟨b, off, rfl, fun j u hu => ?_⟩
      rw [valsI] at hu
      have hj : j < ((zs.take len).map (Value.int .i64)).length := (List.getElem?_eq_some_iff.1 hu).1
      simp at hj
      have := h4 j (by omega)
      rw [add_lit] at this
      rw [this, ← hu]
      have hj1 : j < len := by omega
      have hj2 : j < zs.length := by omega
      simp [List.getElem?_take, hj1, hj2]
end Go.Proofs.Ytldghgadkncehaa.Lin

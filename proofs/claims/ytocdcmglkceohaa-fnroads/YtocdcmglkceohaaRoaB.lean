/- Contracts of the specification's Turn, Used, OpenOnes (chapter 10); lists of at most 2^21 roads. -/
import Derived.Test.YtocdcmglkceohaaRoaA
namespace Go.Proofs.Ytocdcmglkceohaa.Roa
open Go.RowKit RowG
set_option linter.unusedVariables false
set_option linter.unusedSimpArgs false

/-- Is there a road r? -/
def hasB (l : List Rd) (r : Int) : Bool := decide (0 ≤ r ∧ r < (l.length : Int))
def turnB (l : List Rd) (r : Int) (o : Bool) : Bool := roadsB l && (hasB l r && ((at' l r.toNat).op != o))
def turnL (l : List Rd) (r : Int) (o : Bool) : List Rd := if roadsB l then (if turnB l r o then l.set r.toNat { at' l r.toNat with op := o } else l) else []
def usedB (l : List Rd) (r : Int) : Bool := roadsB l && (hasB l r && ((at' l r.toNat).se != 1000000000))
def usedR (x : Rd) (lost : Bool) : Rd := ⟨x.op, x.co, x.se + 1, if lost then x.lo + 1 else x.lo⟩
def usedL (l : List Rd) (r : Int) (lost : Bool) : List Rd := if roadsB l then (if usedB l r then l.set r.toNat (usedR (at' l r.toNat) lost) else l) else []
/-- The numbers of those that are open, rising. -/
def openN : Nat → List Rd → List Int
  | _, [] => []
  | k, x :: l => if x.op then (k : Int) :: openN (k + 1) l else openN (k + 1) l
def openL (l : List Rd) : List Int := if roadsB l then openN 0 l else []
theorem openN_append : ∀ (l l' : List Rd) (k : Nat), openN k (l ++ l') = openN k l ++ openN (k + l.length) l'
  | [], l', k => by simp [openN]
  | x :: l, l', k => by
    have := openN_append l l' (k + 1)
    simp only [List.cons_append, openN, List.length_cons]
    rw [this, show k + 1 + l.length = k + (l.length + 1) by omega]
    split <;> simp
theorem take_at {l : List Rd} {k : Nat} (h : k < l.length) : l.take (k + 1) = l.take k ++ [at' l k] := by
  rw [List.take_add_one, at_some h]
  rfl
theorem openN_step {l : List Rd} {k : Nat} (h : k < l.length) : openN 0 (l.take (k + 1)) = openN 0 (l.take k) ++ (if (at' l k).op then [(k : Int)] else []) := by
  rw [take_at h, openN_append, List.length_take, Nat.min_eq_left (by omega)]
  simp [openN]
theorem openN_len : ∀ (l : List Rd) (k : Nat), (openN k l).length ≤ l.length
  | [], k => by simp [openN]
  | x :: l, k => by
    have := openN_len l (k + 1)
    simp only [openN, List.length_cons]
    split
    · simp only [List.length_cons]; omega
    · omega

/-- A row of numbers. -/
def EI : El Int where
  enc n := [.int .i64 n]
  size := 1
  len _ := rfl
  one x u hu := by simp at hu; rw [hu]; rfl
  pos := by decide
theorem infoInt : (Try.prog.info? 2).map (fun i => (i.zero, i.size, i.bytes)) = some (some (.int .i64 0), 1, 8) := by kernel_rfl
theorem tyI : Typ Try.prog 33 2 EI 8 := ⟨Try.underlying33, by
  obtain ⟨i, hi, h0, h1, h2⟩ := info_parts infoInt
  exact ⟨i, _, hi, h0, h1, h2, rfl⟩⟩
def OwnI (w : World) (B g c : Nat) (l : List Int) : Prop := EI.Own 2 w B (some ⟨g, 0, none⟩) c l
theorem ownI_empty (w : World) : EI.Own 2 (w.alloc (.cells #[] 2)) w.heap.size (some ⟨w.heap.size, 0, none⟩) 0 [] := El.Own.made w
theorem tne : (2 : Nat) ≠ 37 := by decide
theorem tne' : (37 : Nat) ≠ 2 := by decide

set_option maxHeartbeats 1000000 in
theorem l10Copy (a : Option Addr) (n cap : Nat) (l : List Rd) (w : World) (hn : n = l.length) (h : E.Lies w a l) (ha : a = none → cap = 0) (hl : l.length ≤ 2097152) :
    Calls Try.prog 41 #[.slice a n cap] w fun x w' => ∃ g c, x = .returned (.slice (some ⟨g, 0, none⟩) l.length c) ∧ Own w' w.heap.size g c l ∧ Below w.heap.size w w' := by
  subst hn
  have b0 : Below w.heap.size w (w.alloc (.cells #[] 37)) := (Below.refl _ _).alloc (Nat.le_refl _) _
  have o0 := own_empty w
  have L0 := h.alloc (.cells #[] 37)
  have n0 : w.heap.size ≤ (w.alloc (.cells #[] 37)).heap.size := b0.size
  go_enter Try.func41, Try.ntmps41
  go_wp2_with (at_builtin; refine wpList_appS ty (by decide) (by rfl) _ _ (by rfl) w.heap.size w.heap.size 0 0 [] l rfl (by rfl) o0 n0 a _ cap rfl (by rfl) L0 ha (by simp only [List.length_nil]; omega) ?_; intro g1 c1 w3 o3 gr3)
  have b3 : Below w.heap.size w w3 := grown_below b0 (Nat.le_refl _) (fun j hj => by cases hj; exact Nat.le_refl _) gr3
  go_ret
  exact ⟨g1, c1, rfl, o3, b3⟩

set_option maxHeartbeats 1000000 in
theorem l10Has (a : Option Addr) (n cap : Nat) (r : Int) (v : Bool) (w : World) (hv : decide (0 ≤ r ∧ r < (n : Int)) = v) :
    Calls Try.prog 42 #[.slice a n cap, .int .i64 r] w fun x w' => x = .returned (.bool v) ∧ w = w' := by
  subst hv
  by_cases h0 : 0 ≤ r
  · by_cases h1 : r < (n : Int)
    all_goals
      go_enter Try.func42, Try.ntmps42
      go_wp2_with fail
      go_ret
      exact ⟨Num.ret_bool (by simp [h0, h1]), rfl⟩
  · go_enter Try.func42, Try.ntmps42
    go_wp2_with fail
    go_ret
    exact ⟨Num.ret_bool (by rw [decide_eq_false (show ¬ (0 : Int) ≤ r by omega)]; rfl), rfl⟩

set_option maxHeartbeats 2000000 in
theorem specTurn (a : Option Addr) (n cap : Nat) (l : List Rd) (r : Int) (o : Bool) (w : World) (hn : n = l.length) (h : E.Lies w a l) (ha : a = none → cap = 0) (hl : l.length ≤ 2097152) :
    Calls Try.prog 14 #[.slice a n cap, .int .i64 r, .bool o] w fun x w' => ∃ g c, x = .returned (.tuple #[.slice (some ⟨g, 0, none⟩) (turnL l r o).length c, .bool (turnB l r o)]) ∧ Own w' w.heap.size g c (turnL l r o) ∧ Below w.heap.size w w' := by
  subst hn
  go_enter Try.func14, Try.ntmps14
  go_wp2_with fail
  refine (specRoadsOk _ _ _ l _ rfl h hl).mono ?_
  rintro x w1 ⟨rfl, b1⟩
  cases hok : roadsB l
  · have e1 : turnL l r o = [] := by simp [turnL, hok]
    have e2 : turnB l r o = false := by simp [turnB, hok]
    have o1 := (own_empty w1).mono b1.size
    have b2 := b1.alloc b1.size (.cells #[] 37)
    go_wp2_with fail
    go_ret2
    exact ⟨_, 0, by rw [e1, e2]; rfl, by rw [e1]; exact o1, b2⟩
  have h1 := h.later b1
  go_wp2_with fail
  refine (l10Copy _ _ _ l _ rfl h1 ha hl).mono ?_
  rintro x w2 ⟨g, c, rfl, o2, b2⟩
  have h2 := h1.later b2
  have O2 : Own w2 w.heap.size g c l := El.Own.mono (E := E) o2 b1.size
  have B2 := b1.trans (b2.mono b1.size)
  clear h1 o2 b2 b1 h
  by_cases hr : 0 ≤ r ∧ r < (l.length : Int)
  · obtain ⟨k, rfl⟩ : ∃ k : Nat, r = (k : Int) := ⟨r.toNat, by omega⟩
    have hlt : k < l.length := by omega
    have i0 : (0 : Int) ≤ (k : Int) := by omega
    have i1 : (k : Int) < (l.length : Int) := by omega
    rcases h2 with hs | ⟨b, off, rfl, hs⟩
    · simp [hs] at hlt
    obtain ⟨c0, c1, c2, c3⟩ := cells4 hs hlt
    have f0 := El.Own.frozen (E := E) O2 (k * 4 + 0)
    have hb := El.Own.lies (E := E) O2
    rcases hb with hs' | ⟨b', off', he, hs'⟩
    · simp [hs'] at hlt
    cases he
    obtain ⟨d0, _, _, _⟩ := cells4 hs' hlt
    rw [Nat.zero_add] at d0
    rw [Nat.add_zero] at f0
    clear hs hs' c1 c2 c3
    cases hop : ((at' l k).op == o)
    · have e2 : turnB l (k : Int) o = true := by
        simp only [turnB, hok, hasB, Int.toNat_natCast, Bool.true_and, bne, hop, decide_eq_true (And.intro i0 i1)]
        rfl
      have e1 : turnL l (k : Int) o = l.set k { at' l k with op := o } := by simp [turnL, hok, e2]
      have O3 : Own (w2.setCell ⟨g, k * 4 + 0, none⟩ (.bool o)) w.heap.size g c (l.set k { at' l k with op := o }) := El.Own.put (E := E) O2 (at_some hlt) (j := 0) (u := .bool o) (by decide) rfl
      rw [Nat.add_zero] at O3
      have HO : Hid (Own _ _ _ _ _) := O3
      have hne : ((at' l k).op == o) = false := hop
      have HR : Hid (turnL l (k : Int) o = _) := e1
      have HL : Hid ((turnL l (k : Int) o).length = l.length) := by show _ = _; rw [e1, List.length_set]
      clear O3 e1 hop
      generalize (at' l k).op = oo at *
      go_wp2_with fail
      refine (l10Has _ _ _ _ true _ (by simp [i0, i1])).mono ?_
      rintro x w3 ⟨rfl, rfl⟩
      go_wp2_with fail
      go_ret2
      exact ⟨g, c, by rw [HL.out, e2]; rfl, by rw [HR.out]; exact HO.out, Draw.Kept.below ((Draw.Kept.refl g w2).setCell (.inl rfl) _) (El.Own.lt (E := E) O2 _ rfl).1 B2.size |> B2.trans⟩
    · have e2 : turnB l (k : Int) o = false := by
        simp only [turnB, hok, hasB, Int.toNat_natCast, Bool.true_and, bne, hop, decide_eq_true (And.intro i0 i1)]
        rfl
      have e1 : turnL l (k : Int) o = l := by simp [turnL, hok, e2]
      have hne : ((at' l k).op == o) = true := hop
      clear hop
      generalize (at' l k).op = oo at *
      go_wp2_with fail
      refine (l10Has _ _ _ _ true _ (by simp [i0, i1])).mono ?_
      rintro x w3 ⟨rfl, rfl⟩
      go_wp2_with fail
      go_ret2
      exact ⟨g, c, by rw [e1, e2]; rfl, by rw [e1]; exact O2, B2⟩
  · have hv : decide (0 ≤ r ∧ r < (l.length : Int)) = false := decide_eq_false hr
    have e2 : turnB l r o = false := by simp [turnB, hasB, hv]
    have e1 : turnL l r o = l := by simp [turnL, hok, e2]
    go_wp2_with fail
    refine (l10Has _ _ _ _ false _ hv).mono ?_
    rintro x w3 ⟨rfl, rfl⟩
    go_wp2_with fail
    go_ret2
    exact ⟨g, c, by rw [e1, e2]; rfl, by rw [e1]; exact O2, B2⟩

set_option maxHeartbeats 2000000 in
theorem specUsed (a : Option Addr) (n cap : Nat) (l : List Rd) (r : Int) (o : Bool) (w : World) (hn : n = l.length) (h : E.Lies w a l) (ha : a = none → cap = 0) (hl : l.length ≤ 2097152) :
    Calls Try.prog 22 #[.slice a n cap, .int .i64 r, .bool o] w fun x w' => ∃ g c, x = .returned (.tuple #[.slice (some ⟨g, 0, none⟩) (usedL l r o).length c, .bool (usedB l r)]) ∧ Own w' w.heap.size g c (usedL l r o) ∧ Below w.heap.size w w' := by
  subst hn
  go_enter Try.func22, Try.ntmps22
  go_wp2_with fail
  refine (specRoadsOk _ _ _ l _ rfl h hl).mono ?_
  rintro x w1 ⟨rfl, b1⟩
  cases hok : roadsB l
  · have e1 : usedL l r o = [] := by simp [usedL, hok]
    have e2 : usedB l r = false := by simp [usedB, hok]
    have o1 := (own_empty w1).mono b1.size
    have b2 := b1.alloc b1.size (.cells #[] 37)
    go_wp2_with fail
    go_ret2
    exact ⟨_, 0, by rw [e1, e2]; rfl, by rw [e1]; exact o1, b2⟩
  have h1 := h.later b1
  go_wp2_with fail
  refine (l10Copy _ _ _ l _ rfl h1 ha hl).mono ?_
  rintro x w2 ⟨g, c, rfl, o2, b2⟩
  have h2 := h1.later b2
  have O2 : Own w2 w.heap.size g c l := El.Own.mono (E := E) o2 b1.size
  have B2 := b1.trans (b2.mono b1.size)
  have hgb : ∀ x, a = some x → x.block < w1.heap.size → x.block ≠ g := fun x hx hlt => by have := (El.Own.lt (E := E) o2 _ rfl).1; simp only at this; omega
  by_cases hr : 0 ≤ r ∧ r < (l.length : Int)
  · obtain ⟨k, rfl⟩ : ∃ k : Nat, r = (k : Int) := ⟨r.toNat, by omega⟩
    have hlt : k < l.length := by omega
    have i0 : (0 : Int) ≤ (k : Int) := by omega
    have i1 : (k : Int) < (l.length : Int) := by omega
    have hrd : rdB (at' l k) = true := by
      cases q : rdB (at' l k)
      · rw [rd_false hlt q] at hok; cases hok
      · rfl
    rcases h1 with hs | ⟨b, off, rfl, hs1⟩
    · simp [hs] at hlt
    have hbg : b ≠ g := hgb ⟨b, off, none⟩ rfl (Draw.lt_of_cell (p := ⟨b, off + k * 4, none⟩) (cells4 hs1 hlt).1)
    clear hgb hs1 o2 b2 b1 h
    rcases h2 with hs | ⟨b_, off_, he, hs⟩
    · simp [hs] at hlt
    cases he
    obtain ⟨c0, c1, c2, c3⟩ := cells4 hs hlt
    have f2 := El.Own.frozen (E := E) O2 (k * 4 + 2)
    have f3 := El.Own.frozen (E := E) O2 (k * 4 + 3)
    have hb := El.Own.lies (E := E) O2
    rcases hb with hs' | ⟨b', off', he, hs'⟩
    · simp [hs'] at hlt
    cases he
    obtain ⟨_, _, d2, d3⟩ := cells4 hs' hlt
    rw [Nat.zero_add] at d2 d3
    have O3 : Own (w2.setCell ⟨g, k * 4 + 2, none⟩ (.int .i64 ((at' l k).se + 1))) w.heap.size g c (l.set k { at' l k with se := (at' l k).se + 1 }) := El.Own.put (E := E) O2 (at_some hlt) (j := 2) (u := .int .i64 ((at' l k).se + 1)) (by decide) rfl
    have O4 : Own ((w2.setCell ⟨g, k * 4 + 2, none⟩ (.int .i64 ((at' l k).se + 1))).setCell ⟨g, k * 4 + 3, none⟩ (.int .i64 ((at' l k).lo + 1))) w.heap.size g c ((l.set k { at' l k with se := (at' l k).se + 1 }).set k (usedR (at' l k) true)) := El.Own.put (E := E) O3 (x := { at' l k with se := (at' l k).se + 1 }) (by simp [hlt]) (j := 3) (u := .int .i64 ((at' l k).lo + 1)) (by decide) rfl
    rw [List.set_set] at O4
    have HO3 : Hid (Own _ _ _ _ _) := O3
    have HO4 : Hid (Own _ _ _ _ _) := O4
    have hB3 := Draw.Kept.below ((Draw.Kept.refl g w2).setCell (p := ⟨g, k * 4 + 2, none⟩) (.inl rfl) (.int .i64 ((at' l k).se + 1))) (El.Own.lt (E := E) O2 _ rfl).1 B2.size |> B2.trans
    have hB4 := Draw.Kept.below (((Draw.Kept.refl g w2).setCell (p := ⟨g, k * 4 + 2, none⟩) (.inl rfl) (.int .i64 ((at' l k).se + 1))).setCell (p := ⟨g, k * 4 + 3, none⟩) (.inl rfl) (.int .i64 ((at' l k).lo + 1))) (El.Own.lt (E := E) O2 _ rfl).1 B2.size |> B2.trans
    have HB3 : Hid (Below _ _ _) := hB3
    have HB4 : Hid (Below _ _ _) := hB4
    have q1 : usedB l (k : Int) = ((at' l k).se != 1000000000) := by
      simp only [usedB, hok, hasB, Int.toNat_natCast, Bool.true_and, decide_eq_true (And.intro i0 i1)]
    have q2 : usedL l (k : Int) o = if ((at' l k).se != 1000000000) then l.set k (usedR (at' l k) o) else l := by
      simp only [usedL, hok, q1, Int.toNat_natCast, if_true]
    have Q1 : Hid _ := q1
    have Q2 : Hid _ := q2
    have hpl : (at' l k).se ≤ 1000000000 ∧ 0 ≤ (at' l k).lo ∧ (at' l k).lo ≤ (at' l k).se := by
      simp only [rdB, Bool.and_eq_true, decide_eq_true_eq, Num.plB] at hrd
      omega
    clear hB3 hB4 q1 q2 O3 O4 hs hs' c0 c1 hok hrd
    generalize at' l k = x at *
    obtain ⟨oo, co, se, lo⟩ := x
    simp only at hpl c2 c3 d2 d3 HO3 HO4 HB3 HB4 Q1 Q2
    by_cases hse : se = 1000000000
    · subst hse
      have e1 : usedL l (k : Int) o = l := by rw [Q2.out]; rfl
      have e2 : usedB l (k : Int) = false := by rw [Q1.out]; rfl
      clear HO3 HO4 HB3 HB4 Q1 Q2
      go_wp2_with fail
      refine (l10Has _ _ _ _ true _ (by simp [i0, i1])).mono ?_
      rintro x w3 ⟨rfl, rfl⟩
      go_wp2_with fail
      go_ret2
      exact ⟨g, c, by rw [e1, e2]; rfl, by rw [e1]; exact O2, B2⟩
    · have hse' : (se == 1000000000) = false := by simpa using hse
      have e1 : usedL l (k : Int) o = l.set k (usedR ⟨oo, co, se, lo⟩ o) := by rw [Q2.out]; simp [bne, hse']
      have e2 : usedB l (k : Int) = true := by rw [Q1.out]; simp [bne, hse']
      have HL : Hid ((usedL l (k : Int) o).length = l.length) := by show _ = _; rw [e1, List.length_set]
      have E1 : Hid _ := e1
      clear Q1 Q2 e1
      cases o
      · go_wp2_with fail
        refine (l10Has _ _ _ _ true _ (by simp [i0, i1])).mono ?_
        rintro x w3 ⟨rfl, rfl⟩
        go_wp2_with fail
        go_ret2
        exact ⟨g, c, by rw [HL.out, e2]; rfl, by rw [E1.out]; exact HO3.out, HB3.out⟩
      · go_wp2_with fail
        refine (l10Has _ _ _ _ true _ (by simp [i0, i1])).mono ?_
        rintro x w3 ⟨rfl, rfl⟩
        go_wp2_with fail
        go_ret2
        exact ⟨g, c, by rw [HL.out, e2]; rfl, by rw [E1.out]; exact HO4.out, HB4.out⟩
  · have hv : decide (0 ≤ r ∧ r < (l.length : Int)) = false := decide_eq_false hr
    have e2 : usedB l r = false := by simp [usedB, hasB, hv]
    have e1 : usedL l r o = l := by simp [usedL, hok, e2]
    go_wp2_with fail
    refine (l10Has _ _ _ _ false _ hv).mono ?_
    rintro x w3 ⟨rfl, rfl⟩
    go_wp2_with fail
    go_ret2
    exact ⟨g, c, by rw [e1, e2]; rfl, by rw [e1]; exact O2, B2⟩

set_option maxHeartbeats 2000000 in
theorem specOpenOnes (a : Option Addr) (n cap : Nat) (l : List Rd) (w : World) (hn : n = l.length) (h : E.Lies w a l) (hl : l.length ≤ 2097152) :
    Calls Try.prog 20 #[.slice a n cap] w fun x w' => ∃ g c, x = .returned (.slice (some ⟨g, 0, none⟩) (openL l).length c) ∧ OwnI w' w.heap.size g c (openL l) ∧ Below w.heap.size w w' := by
  subst hn
  have b0 : Below w.heap.size w (w.alloc (.cells #[] 2)) := (Below.refl _ _).alloc (Nat.le_refl _) _
  have o0 := ownI_empty w
  have hL : ∀ k, (openN 0 (l.take k)).length ≤ k := fun k => by have := openN_len (l.take k) 0; rw [List.length_take] at this; omega
  have HL : Hid _ := hL
  clear hL
  go_enter Try.func20, Try.ntmps20
  go_wp2_with fail
  go_loopw [3, 4] (fun v iv wr => ∃ (k g c : Nat) (out : List Int), k ≤ l.length ∧ iv = .int .i64 k ∧ v = .slice (some ⟨g, 0, none⟩) out.length c ∧ Hid (out = openN 0 (l.take k)) ∧ Hid (0 < k → roadsB l = true) ∧ EI.Own 2 wr w.heap.size (some ⟨g, 0, none⟩) c out ∧ Below w.heap.size w wr) (fun _ iv _ => l.length - (intOf iv).toNat)
  case atStart => exact ⟨0, _, 0, [], Nat.zero_le _, rfl, rfl, by show _ = _; simp [openN], fun q => absurd q (by omega), o0, b0⟩
  case round =>
    clear o0 b0
    obtain ⟨k, g, c, out, hk, rfl, rfl, hout, hyes, o1, b1⟩ := hrel
    by_cases hlt : k < l.length
    · have i0 : (0 : Int) ≤ (k : Int) := by omega
      have i1 : (k : Int) < (l.length : Int) := by omega
      have h1 := h.later b1
      go_wp2_with fail
      refine (specRoadsOk _ _ _ l _ rfl h1 hl).mono ?_
      rintro x w2 ⟨rfl, b2⟩
      have h2 := h1.later b2
      have o2 := o1.later b2
      have B2 := b1.trans (b2.mono b1.size)
      clear h1 o1 b2 b1
      cases hok : roadsB l
      · have hk0 : k = 0 := by
          rcases Nat.eq_zero_or_pos k with e | e
          · exact e
          · have := hyes.out e; rw [hok] at this; cases this
        subst hk0
        have hout0 : out = [] := by rw [hout.out]; simp [openN]
        subst hout0
        have e1 : openL l = [] := by simp [openL, hok]
        go_wp2_with fail
        go_ret
        exact ⟨g, c, by rw [e1]; rfl, by rw [e1]; exact o2, B2⟩
      · rcases h2 with hs | ⟨b, off, rfl, hs⟩
        · simp [hs] at hlt
        obtain ⟨c0, _, _, _⟩ := cells4 hs hlt
        have hst := openN_step hlt
        have HS : Hid _ := hst
        have hol : out.length ≤ k := by rw [hout.out]; exact HL.out k
        clear hs hst
        have HOK : Hid (roadsB l = true) := hok
        clear hok
        cases hop : (at' l k).op
        · rw [hop] at c0
          have HF : Hid (out = openN 0 (l.take (k + 1))) := by show _ = _; rw [HS.out, hop, hout.out]; simp
          clear HS hout
          go_wp2_with fail
          go_roundw
          case rel => exact ⟨k + 1, g, c, out, by omega, by go_num, rfl, HF, fun _ => HOK.out, o2, B2⟩
          case measure => simp [intOf]; omega
        · rw [hop] at c0
          have HF : Hid (out ++ [(k : Int)] = openN 0 (l.take (k + 1))) := by show _ = _; rw [HS.out, hop, hout.out]; simp
          clear HS hout
          have n2 : w.heap.size ≤ (w2.alloc (.cells #[.int .i64 (k : Int)] 2)).heap.size := by have := B2.size; simp; omega
          have q2 := o2.alloc (.cells #[.int .i64 (k : Int)] 2)
          have L2 : EI.Lies (w2.alloc (.cells #[.int .i64 (k : Int)] 2)) (some ⟨w2.heap.size, 0, none⟩) [(k : Int)] := El.lies_new rfl
          go_wp2_with (at_builtin; refine wpList_appS tyI (by decide) (by rfl) _ _ (by rfl) w.heap.size g c _ out [(k : Int)] rfl (by rfl) q2 n2 (some ⟨w2.heap.size, 0, none⟩) 1 1 rfl (by rfl) L2 (fun e => by cases e) (by simp only [List.length_cons, List.length_nil]; omega) ?_; intro g1 c1 w3 q3 gr3)
          have b3 : Below w.heap.size w w3 := grown_below (B2.alloc B2.size _) (Nat.le_refl _) (fun j hj => by cases hj; exact (o2.lt _ rfl).1) gr3
          have hlen : (out ++ [(k : Int)]).length = out.length + 1 := by simp
          go_roundw
          case rel => exact ⟨k + 1, g1, c1, out ++ [(k : Int)], by omega, by go_num, by rw [hlen], HF, fun _ => HOK.out, q3, b3⟩
          case measure => simp [intOf]; omega
    · have hkl : l.take k = l := List.take_of_length_le (by omega)
      have i1 : ¬ (k : Int) < (l.length : Int) := by omega
      have HF : Hid (openL l = out) := by
        show _ = _
        rw [hout.out, hkl, openL]
        rcases Nat.eq_zero_or_pos k with e | e
        · have : l = [] := List.eq_nil_of_length_eq_zero (by omega)
          subst this
          split <;> rfl
        · rw [if_pos (hyes.out e)]
      clear hout
      go_wp2_with fail
      go_ret
      exact ⟨g, c, by rw [HF.out]; rfl, by rw [HF.out]; exact o1, b1⟩

end Go.Proofs.Ytocdcmglkceohaa.Roa

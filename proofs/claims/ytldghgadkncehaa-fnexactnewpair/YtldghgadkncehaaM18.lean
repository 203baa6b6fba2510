/- Contracts of this seat's functions, and their mathematics (GivA). -/
import Derived.Test.YtldghgadkncehaaM3
import Derived.Test.YtldghgadkncehaaM5
import Derived.Deep.Cut
set_option linter.unusedVariables false
set_option linter.unusedSimpArgs false
set_option maxHeartbeats 4000000
namespace Go.Proofs.Ytldghgadkncehaa.Giv
open Go.RowKit RowG
theorem mix : Try.prog.follows .mixedOrders = true := by kernel_rfl
structure Gv where
  ba : Int
  bs : ByteArray
  cp : Int
  lm : Int
  en : Bool
  dn : Bool
abbrev Gv.c (g : Gv) : List Value := [.int .i64 g.ba, .string g.bs, .int .i64 g.cp, .int .i64 g.lm, .bool g.en, .bool g.dn]
abbrev Gv.v (g : Gv) : Value := .agg #[.int .i64 g.ba, .string g.bs, .int .i64 g.cp, .int .i64 g.lm, .bool g.en, .bool g.dn]
abbrev zeroG : Gv := ⟨0, ⟨#[]⟩, 0, 0, false, false⟩
def Gv.ok (g : Gv) : Bool := decide (1 ≤ g.cp ∧ g.cp ≤ 400) && (Num.plB g.ba && (decide ((g.bs.size : Int) ≤ g.cp) && (Num.plB (g.ba + g.bs.size) && (Num.plB g.lm && (decide (g.ba ≤ g.lm) && (!g.dn || (g.en && decide (g.bs.size = 0))))))))
theorem ok_iff {g : Gv} : g.ok = true ↔ (1 ≤ g.cp ∧ g.cp ≤ 400) ∧ (0 ≤ g.ba ∧ g.ba ≤ 1000000000) ∧ ((g.bs.size : Int) ≤ g.cp) ∧ (g.ba + g.bs.size ≤ 1000000000) ∧ (0 ≤ g.lm ∧ g.lm ≤ 1000000000) ∧ g.ba ≤ g.lm ∧ (g.dn = true → g.en = true ∧ g.bs.size = 0) := by
  simp only [Gv.ok, Num.plB, Bool.and_eq_true, decide_eq_true_eq, Bool.or_eq_true, Bool.not_eq_true']
  constructor
  · rintro ⟨h1, h2, h3, h4, h5, h6, h7⟩
    refine ⟨h1, h2, h3, by omega, h5, h6, fun hd => ?_⟩
    rcases h7 with h7 | h7
    · rw [hd] at h7; cases h7
    · exact h7
  · rintro ⟨h1, h2, h3, h4, h5, h6, h7⟩
    refine ⟨h1, h2, h3, by omega, h5, h6, ?_⟩
    cases hd : g.dn
    · exact .inl rfl
    · exact .inr (h7 hd)
/-- No number far out, the bytes not too many. -/
def small (g : Gv) : Prop := (-4611686018427387904 ≤ g.ba ∧ g.ba ≤ 4611686018427387904) ∧ g.bs.size ≤ 2097152
theorem toList_nil {b : ByteArray} (h : b.size = 0) : b = ⟨#[]⟩ := by
  obtain ⟨d⟩ := b
  have : d = #[] := Array.eq_empty_of_size_eq_zero h
  rw [this]
theorem nil_iff (b : ByteArray) : b.toList = [] ↔ b.size = 0 := by
  rw [ByteArray.toList_eq, ← List.length_eq_zero_iff, Array.length_toList]
  rfl
theorem isEmpty_eq (b : ByteArray) : b.toList.isEmpty = decide (b.size = 0) := by
  cases h : b.toList with
  | nil => rw [decide_eq_true ((nil_iff b).1 h)]; rfl
  | cons x r => rw [decide_eq_false (fun q => by rw [(nil_iff b).2 q] at h; cases h)]; rfl
theorem l6End (g : Gv) (w : World) (h : small g) :
    Calls Try.prog 91 #[g.v] w fun x w' => x = .returned (.int .i64 (g.ba + g.bs.size)) ∧ Below w.heap.size w w' := by
  obtain ⟨⟨h0, h1⟩, h2⟩ := h
  obtain ⟨ba, bs, cp, lm, en, dn⟩ := g
  dsimp only [Gv.v] at *
  go_enter Try.func91, Try.ntmps91
  go_wp2_with fail
  go_ret
  exact ⟨rfl, (Below.refl _ _).alloc (Nat.le_refl _) _⟩
theorem specGiverOk (g : Gv) (w : World) (hs : g.bs.size ≤ 2097152) :
    Calls Try.prog 69 #[g.v] w fun x w' => x = .returned (.bool g.ok) ∧ Below w.heap.size w w' := by
  obtain ⟨ba, bs, cp, lm, en, dn⟩ := g
  dsimp only [Gv.v, Gv.c] at *
  have v1 : Var 79 (w.alloc (.cells #[.int .i64 ba, .string bs, .int .i64 cp, .int .i64 lm, .bool en, .bool dn] 79)) w.heap.size [.int .i64 ba, .string bs, .int .i64 cp, .int .i64 lm, .bool en, .bool dn] := Var.new w _
  have b1 : Below w.heap.size w (w.alloc (.cells #[.int .i64 ba, .string bs, .int .i64 cp, .int .i64 lm, .bool en, .bool dn] 79)) := (Below.refl _ _).alloc (Nat.le_refl _) _
  go_enter Try.func69, Try.ntmps69
  go_upto_region 1 with (fail)
  generalize (w.alloc (.cells #[.int .i64 ba, .string bs, .int .i64 cp, .int .i64 lm, .bool en, .bool dn] 79)) = V at *
  have e0 := v1.cell (i := 0) rfl
  have e1 := v1.cell (i := 1) rfl
  have e2 := v1.cell (i := 2) rfl
  have e3 := v1.cell (i := 3) rfl
  have e4 := v1.cell (i := 4) rfl
  have e5 := v1.cell (i := 5) rfl
  go_wp2_with fail
  refine (Tak.l1In cp 1 400 _).mono ?_
  rintro x w1 ⟨rfl, rfl⟩
  cases h1 : decide (1 ≤ cp ∧ cp ≤ 400)
  case false =>
    have HF : Hid (Gv.ok ⟨ba, bs, cp, lm, en, dn⟩ = false) := by show _ = _; simp only [Gv.ok, h1, Bool.false_and]
    clear h1
    go_wp2_with fail
    go_ret
    exact ⟨by rw [HF.out]; rfl, b1⟩
  go_wp2_with fail
  refine (Num.l1Place ba _).mono ?_
  rintro x w1 ⟨rfl, rfl⟩
  cases h2 : Num.plB ba
  case false =>
    have HF : Hid (Gv.ok ⟨ba, bs, cp, lm, en, dn⟩ = false) := by show _ = _; simp only [Gv.ok, h2, Bool.false_and, Bool.and_false]
    clear h1 h2
    go_wp2_with fail
    go_ret
    exact ⟨by rw [HF.out]; rfl, b1⟩
  by_cases h3 : (bs.size : Int) ≤ cp
  case neg =>
    have HF : Hid (Gv.ok ⟨ba, bs, cp, lm, en, dn⟩ = false) := by show _ = _; simp only [Gv.ok, decide_eq_false h3, Bool.false_and, Bool.and_false]
    have h3' : cp < (bs.size : Int) := by omega
    clear h1 h2 h3
    go_wp2_with fail
    go_ret
    exact ⟨by rw [HF.out]; rfl, b1⟩
  have h3' : ¬ cp < (bs.size : Int) := by omega
  have H1 : Hid (decide (1 ≤ cp ∧ cp ≤ 400) = true) := h1
  have H2 : Hid (Num.plB ba = true) := h2
  have H3 : Hid ((bs.size : Int) ≤ cp) := h3
  have hb0 := (Num.pl_t h2).1
  have hb1 := (Num.pl_t h2).2
  clear h1 h2 h3
  go_wp2_with fail
  refine (l6End ⟨ba, bs, cp, lm, en, dn⟩ _ ⟨⟨by dsimp only; omega, by dsimp only; omega⟩, hs⟩).mono ?_
  rintro x w2 ⟨rfl, b2⟩
  have v2 := v1.later b2
  have B2 := b1.trans (b2.mono b1.size)
  clear e0 e1 e2 e3 e4 e5 b1 b2 v1
  have e0 := v2.cell (i := 0) rfl
  have e1 := v2.cell (i := 1) rfl
  have e2 := v2.cell (i := 2) rfl
  have e3 := v2.cell (i := 3) rfl
  have e4 := v2.cell (i := 4) rfl
  have e5 := v2.cell (i := 5) rfl
  go_wp2_with fail
  refine (Num.l1Place _ _).mono ?_
  rintro x w1 ⟨rfl, rfl⟩
  cases h4 : Num.plB (ba + bs.size)
  case false =>
    have HF : Hid (Gv.ok ⟨ba, bs, cp, lm, en, dn⟩ = false) := by show _ = _; simp only [Gv.ok, h4, Bool.false_and, Bool.and_false]
    clear h4
    go_wp2_with fail
    go_ret
    exact ⟨by rw [HF.out]; rfl, B2⟩
  have H4 : Hid (Num.plB (ba + bs.size) = true) := h4
  clear h4
  go_wp2_with fail
  refine (Num.l1Place _ _).mono ?_
  rintro x w1 ⟨rfl, rfl⟩
  cases h5 : Num.plB lm
  case false =>
    have HF : Hid (Gv.ok ⟨ba, bs, cp, lm, en, dn⟩ = false) := by show _ = _; simp only [Gv.ok, h5, Bool.false_and, Bool.and_false]
    clear h5
    go_wp2_with fail
    go_ret
    exact ⟨by rw [HF.out]; rfl, B2⟩
  have H5 : Hid (Num.plB lm = true) := h5
  clear h5
  by_cases h6 : ba ≤ lm
  case neg =>
    have HF : Hid (Gv.ok ⟨ba, bs, cp, lm, en, dn⟩ = false) := by show _ = _; simp only [Gv.ok, decide_eq_false h6, Bool.false_and, Bool.and_false]
    have h6' : lm < ba := by omega
    clear h6
    go_wp2_with fail
    go_ret
    exact ⟨by rw [HF.out]; rfl, B2⟩
  have h6' : ¬ lm < ba := by omega
  have HT : Hid (Gv.ok ⟨ba, bs, cp, lm, en, dn⟩ = (!dn || (en && decide (bs.size = 0)))) := by
    show _ = _
    simp only [Gv.ok, H1.out, H2.out, decide_eq_true H3.out, H4.out, H5.out, decide_eq_true h6, Bool.true_and]
  cases hd : dn
  case false =>
    go_wp2_with fail
    go_ret
    exact ⟨by rw [HT.out, hd]; rfl, B2⟩
  cases hn : en
  case false =>
    go_wp2_with fail
    go_ret
    exact ⟨by rw [HT.out, hd, hn]; rfl, B2⟩
  go_wp2_with fail
  go_ret
  exact ⟨Num.ret_bool (show bs.toList.isEmpty = _ by rw [HT.out, hd, hn, isEmpty_eq]; rfl), B2⟩
/-- A new giver. -/
def newG (n : Int) : Gv × Bool := if Tak.capB n then (⟨0, ⟨#[]⟩, n, 0, false, false⟩, true) else (zeroG, false)
def endsG (g : Gv) : Gv × Bool := if g.ok then (⟨g.ba, g.bs, g.cp, g.lm, true, g.dn⟩, !g.en) else (zeroG, false)
theorem specNewGiver (n : Int) (w : World) :
    Calls Try.prog 78 #[.int .i64 n] w fun x w' => x = .returned (.tuple #[(newG n).1.v, .bool (newG n).2]) ∧ Below w.heap.size w w' := by
  unfold newG
  cases h : Tak.capB n
  · go_enter Try.func78, Try.ntmps78
    go_wp2_with (go_at_call 51; refine (Tak.l1InEq h _).mono ?_; rintro x w' ⟨rfl, rfl⟩)
    exact bodyPost_ret (v := .tuple #[.agg #[.int .i64 0, .string ⟨#[]⟩, .int .i64 0, .int .i64 0, .bool false, .bool false], .bool false]) (by rw [Tak.res_cell_tmp rfl]; go_simp; try rfl) rfl ⟨rfl, by repeat (first | exact (Below.refl _ _).alloc (Nat.le_refl _) _ | refine Below.setCell ?_ (Nat.le_refl _) _)⟩
  · go_enter Try.func78, Try.ntmps78
    go_wp2_with (go_at_call 51; refine (Tak.l1InEq h _).mono ?_; rintro x w' ⟨rfl, rfl⟩)
    exact bodyPost_ret (v := .tuple #[Gv.v ⟨0, ⟨#[]⟩, n, 0, false, false⟩, .bool true]) (by rw [Tak.res_cell_tmp rfl]; go_simp; try rfl) rfl ⟨rfl, by repeat (first | exact (Below.refl _ _).alloc (Nat.le_refl _) _ | refine Below.setCell ?_ (Nat.le_refl _) _)⟩
end Go.Proofs.Ytldghgadkncehaa.Giv

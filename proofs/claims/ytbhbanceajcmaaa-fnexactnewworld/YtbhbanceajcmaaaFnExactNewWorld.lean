/- At every list of Caps and every number of roads the program's NewWorld answers as the specification's NewWorld, in memory of its own, behind another call too, and leaves the list as it was (lists of more than 2^20 numbers the law itself lets by), so FnExactNewWorld returns true; no condition. (Its frame is the guide's shell; the walk is mine.) -/
import Derived.Test.YtbhbanceajcmaaaRows
import Derived.Test.YtbhbanceajcmaaaLinW
import Derived.Test.YtbhbanceajcmaaaLawIn
import Derived.WalkKit
import Derived.ProofKit
import Derived.OpenShut
import Derived.ShutString
import Derived.ChangeOld
import Derived.Below
namespace Go.Proofs.Ytbhbanceajcmaaa.fnExactNewWorld
open Go.ChangeShapes Go.WideShapes Go.ChangeAt Go.RowKit
open Go.ChangeMaps (open_string shut_string)
set_option linter.unusedVariables false

theorem own : ownKnob Try.prog.godebug = none := by kernel_rfl
theorem laidOut : laidOutB Try.prog = true := by kernel_rfl

/-- WHAT THE WALK IS TOLD OF A SLICE OF INTEGERS THAT CAME IN: it is nil; or it leads to a row of 'cap' cells, the numbers 'zs' (the first 'len' are its elements, the rest its spare room), each fitting its kind. -/
def IsRow (k : IntKind) (w : World) (a : Option Addr) (len cap : Nat) (zs : List Int) : Prop :=
  (a = none ∧ len = 0 ∧ cap = 0 ∧ zs = []) ∨
  ∃ x, a = some x ∧ len ≤ cap ∧ cap ≤ maxLen ∧ zs.length = cap ∧ (∀ i, i < zs.length → w.cell? (x.add i) = some (.int k (zs.getD i 0))) ∧ ∀ n ∈ zs, (Lit.int k n).wf = true

/-! ### STEP 1: THE WALK: the Go text returns true, AND WRITES NOTHING THAT WAS THERE: 'Below w.heap.size w w'' (Derived/Below.lean: '.refl', '.alloc', '.drew', '.setCell' at a new block, '.trans'). Open each 'IsRow' by 'rcases' AHEAD of 'go_enter'; part every test ahead of the walk. -/
set_option linter.unusedSimpArgs false in
set_option maxRecDepth 20000 in
set_option maxHeartbeats 40000000 in
theorem walk (a0 : Option Addr) (len0 cap0 : Nat) (z0 : List Int) (a1 : Int) (w : World) (w0 : IsRow .i64 w a0 len0 cap0 z0) (w1 : (Lit.int .i64 a1).wf = true) :
    Calls Try.prog 3 #[.slice a0 len0 cap0, .int .i64 a1] w fun e w' => e = .returned (.bool true) ∧ Below w.heap.size w w' := by
  obtain ⟨l, rfl, hmax, hs, ha⟩ := Lin.ints_row w0
  clear w0
  by_cases h : l.length ≤ 1048576
  case neg =>
    have hif : (1048576 : Int) < (l.length : Int) := by omega
    go_enter Try.func3, Try.ntmps3
    go_wp2_with fail
    go_ret
    exact ⟨rfl, Below.refl _ _⟩
  have hif : ¬ (1048576 : Int) < (l.length : Int) := by omega
  have hl : l.length ≤ 2097152 := by omega
  go_enter Try.func3, Try.ntmps3
  go_wp2_with fail
  refine (Lin.toInts _ _ _ l _ rfl hs hl).mono ?_
  rintro x w1 ⟨g1, c1, rfl, o1, b1⟩
  go_wp2_with fail
  refine (Lin.specNewWorld0 _ _ l _ _ o1.lies hl).mono ?_
  rintro x w2 ⟨b2, hx⟩
  have B2 := b1.trans (b2.mono b1.size)
  clear b1 b2 o1
  rcases hx with ⟨hc, rfl⟩ | ⟨hc, g, c, g', c', rfl, oH, oR⟩
  · have b3 := B2.alloc B2.size (.cells #[.slice none 0 0, .slice none 0 0, .string ⟨#[]⟩, .int .i64 0, .bool false, .bool false, .bool false] 30)
    have v0 : RowG.Var 30 (w2.alloc (.cells #[.slice none 0 0, .slice none 0 0, .string ⟨#[]⟩, .int .i64 0, .bool false, .bool false, .bool false] 30)) w2.heap.size [.slice none 0 0, .slice none 0 0, .string ⟨#[]⟩, .int .i64 0, .bool false, .bool false, .bool false] := RowG.Var.new w2 _
    go_wp2_with fail
    generalize w2.alloc (.cells #[.slice none 0 0, .slice none 0 0, .string ⟨#[]⟩, .int .i64 0, .bool false, .bool false, .bool false] 30) = V at *
    generalize w2.heap.size = k0 at *
    have zV := b3.size
    clear B2
    refine (Lin.toInts _ _ _ l _ rfl (hs.later b3) hl).mono ?_
    rintro x w3 ⟨g3, c3, rfl, o3, b4⟩
    replace v0 := v0.later b4
    have B3 := b3.trans (b4.mono b3.size)
    clear b3 b4
    go_wp2_with fail
    refine (Lin.implNewWorld0 _ _ l _ _ o3.lies hl).mono ?_
    rintro x w4 ⟨b5, hx⟩
    have hk0 := v0.lt
    replace v0 := v0.later b5
    replace o3 := o3.later b5
    have B4 := B3.trans (b5.mono B3.size)
    have z3 := b5.size
    clear b5
    obtain rfl : x = .returned (.tuple #[.agg #[.slice none 0 0, .slice none 0 0, .string ⟨#[]⟩, .int .i64 0, .bool false, .bool false, .bool false], .bool false]) := by
      rcases hx with ⟨_, h⟩ | ⟨hc', _⟩
      · exact h
      · rw [hc] at hc'; cases hc'
    replace v0 := v0.alloc (.cells #[.slice none 0 0, .slice none 0 0, .string ⟨#[]⟩, .int .i64 0, .bool false, .bool false, .bool false] 30)
    replace o3 := o3.alloc (.cells #[.slice none 0 0, .slice none 0 0, .string ⟨#[]⟩, .int .i64 0, .bool false, .bool false, .bool false] 30)
    replace B4 := B4.alloc B4.size (.cells #[.slice none 0 0, .slice none 0 0, .string ⟨#[]⟩, .int .i64 0, .bool false, .bool false, .bool false] 30)
    have v1 : RowG.Var 30 (w4.alloc (.cells #[.slice none 0 0, .slice none 0 0, .string ⟨#[]⟩, .int .i64 0, .bool false, .bool false, .bool false] 30)) w4.heap.size [.slice none 0 0, .slice none 0 0, .string ⟨#[]⟩, .int .i64 0, .bool false, .bool false, .bool false] := RowG.Var.new w4 _
    have x0 := v0.cell (i := 0) rfl
    have x1 := v0.cell (i := 1) rfl
    have x2 := v0.cell (i := 2) rfl
    have x3 := v0.cell (i := 3) rfl
    have x4 := v0.cell (i := 4) rfl
    have x5 := v0.cell (i := 5) rfl
    have x6 := v0.cell (i := 6) rfl
    have y0 := v1.cell (i := 0) rfl
    have y1 := v1.cell (i := 1) rfl
    have y2 := v1.cell (i := 2) rfl
    have y3 := v1.cell (i := 3) rfl
    have y4 := v1.cell (i := 4) rfl
    have y5 := v1.cell (i := 5) rfl
    have y6 := v1.cell (i := 6) rfl
    have z4 : w4.heap.size < (w4.alloc (.cells #[.slice none 0 0, .slice none 0 0, .string ⟨#[]⟩, .int .i64 0, .bool false, .bool false, .bool false] 30)).heap.size := by simp
    go_wp2_with fail
    generalize w4.alloc (.cells #[.slice none 0 0, .slice none 0 0, .string ⟨#[]⟩, .int .i64 0, .bool false, .bool false, .bool false] 30) = V4 at *
    refine (Lin.eqWorld0 none none none none 0 0 0 0 0 0 [] [] _ rfl rfl (.inl rfl) (.inl rfl) (.inl rfl) (.inl rfl) (by simp) (by simp)).mono ?_
    rintro x w5 ⟨rfl, b5⟩
    replace v0 := v0.later b5
    replace v1 := v1.later b5
    replace o3 := o3.later b5
    replace B4 := B4.trans (b5.mono B4.size)
    replace z4 := Nat.lt_of_lt_of_le z4 b5.size
    clear b5
    clear x0 x1 x2 x3 x4 x5 x6 y0 y1 y2 y3 y4 y5 y6
    go_wp2_with fail
    refine (Lin.toInts _ _ _ l _ rfl (hs.later B4) hl).mono ?_
    rintro x w6 ⟨g6, c6, rfl, o6, b5⟩
    replace v0 := v0.later b5
    replace v1 := v1.later b5
    replace o3 := o3.later b5
    replace B4 := B4.trans (b5.mono B4.size)
    replace z4 := Nat.lt_of_lt_of_le z4 b5.size
    clear b5
    go_wp2_with fail
    refine (Lin.eqInts _ _ _ _ _ _ _ _ l _ rfl rfl o3 o6 (by omega)).mono ?_
    rintro x w7 ⟨rfl, b5⟩
    replace v0 := v0.later b5
    replace v1 := v1.later b5
    replace o3 := o3.later b5
    replace B4 := B4.trans (b5.mono B4.size)
    replace z4 := Nat.lt_of_lt_of_le z4 b5.size
    clear b5
    clear o6
    go_wp2_with fail
    refine (Lin.markInts _ _ _ _ l _ rfl o3 (by omega)).mono ?_
    rintro x w8 ⟨rfl, k8⟩
    have h3 := o3.lt _ rfl
    simp only at h3
    replace v0 := v0.kept k8 (Ne.symm (RowG.own_varS (by decide) o3 v0))
    replace v1 := v1.kept k8 (Ne.symm (RowG.own_varS (by decide) o3 v1))
    replace B4 := B4.trans (k8.below (by have := B3.size; omega) B4.size)
    replace z4 := Nat.lt_of_lt_of_le z4 k8.size
    clear k8 o3 h3
    have hneg : ¬ (1 + (l.length : Int)) < 0 := by omega
    have x0 := v0.cell (i := 0) rfl
    have x1 := v0.cell (i := 1) rfl
    have x2 := v0.cell (i := 2) rfl
    have x3 := v0.cell (i := 3) rfl
    have x4 := v0.cell (i := 4) rfl
    have x5 := v0.cell (i := 5) rfl
    have x6 := v0.cell (i := 6) rfl
    have y0 := v1.cell (i := 0) rfl
    have y1 := v1.cell (i := 1) rfl
    have y2 := v1.cell (i := 2) rfl
    have y3 := v1.cell (i := 3) rfl
    have y4 := v1.cell (i := 4) rfl
    have y5 := v1.cell (i := 5) rfl
    have y6 := v1.cell (i := 6) rfl
    go_wp2_with fail
    refine (Lin.eqWorld0 none none none none 0 0 0 0 0 0 [] [] _ rfl rfl (.inl rfl) (.inl rfl) (.inl rfl) (.inl rfl) (by simp) (by simp)).mono ?_
    rintro x w9 ⟨rfl, b5⟩
    replace v0 := v0.later b5
    replace v1 := v1.later b5
    replace B4 := B4.trans (b5.mono B4.size)
    replace z4 := Nat.lt_of_lt_of_le z4 b5.size
    clear b5
    clear x0 x1 x2 x3 x4 x5 x6 y0 y1 y2 y3 y4 y5 y6 hneg
    have y0 := v1.cell (i := 0) rfl
    have y1 := v1.cell (i := 1) rfl
    have y2 := v1.cell (i := 2) rfl
    have y3 := v1.cell (i := 3) rfl
    have y4 := v1.cell (i := 4) rfl
    have y5 := v1.cell (i := 5) rfl
    have y6 := v1.cell (i := 6) rfl
    go_wp2_with fail
    refine (Lin.markWorldNil _).mono ?_
    rintro x wA ⟨rfl, b5⟩
    replace v0 := v0.later b5
    replace v1 := v1.later b5
    replace B4 := B4.trans (b5.mono B4.size)
    replace z4 := Nat.lt_of_lt_of_le z4 b5.size
    clear b5
    have B5 := B4
    clear B4
    clear y0 y1 y2 y3 y4 y5 y6
    have y0 := v1.cell (i := 0) rfl
    have y1 := v1.cell (i := 1) rfl
    have y2 := v1.cell (i := 2) rfl
    have y3 := v1.cell (i := 3) rfl
    have y4 := v1.cell (i := 4) rfl
    have y5 := v1.cell (i := 5) rfl
    have y6 := v1.cell (i := 6) rfl
    go_wp2_with fail
    refine (Lin.heldWorld0 none none 0 0 0 0 1 _ (.inl rfl) (.inl rfl) (by decide) (by decide) (by decide) (by decide)).mono ?_
    rintro x wB ⟨rfl, b5⟩
    replace v0 := v0.later b5
    replace v1 := v1.later b5
    replace B5 := B5.trans (b5.mono B5.size)
    clear b5
    clear y0 y1 y2 y3 y4 y5 y6
    go_wp2_with fail
    refine (Lin.toInts _ _ _ l _ rfl (hs.later B5) hl).mono ?_
    rintro x wC ⟨gI, cI, rfl, oI, b5⟩
    replace v0 := v0.later b5
    replace v1 := v1.later b5
    replace B5 := B5.trans (b5.mono B5.size)
    clear b5
    go_wp2_with fail
    refine (Lin.implNewWorld0 _ _ l _ _ oI.lies hl).mono ?_
    rintro x wD ⟨b5, hx⟩
    clear oI
    replace v0 := v0.later b5
    replace v1 := v1.later b5
    replace B5 := B5.trans (b5.mono B5.size)
    clear b5
    obtain rfl : x = .returned (.tuple #[.agg #[.slice none 0 0, .slice none 0 0, .string ⟨#[]⟩, .int .i64 0, .bool false, .bool false, .bool false], .bool false]) := by
      rcases hx with ⟨_, h⟩ | ⟨hc', _⟩
      · exact h
      · rw [hc] at hc'; cases hc'
    replace v0 := v0.alloc (.cells #[.slice none 0 0, .slice none 0 0, .string ⟨#[]⟩, .int .i64 0, .bool false, .bool false, .bool false] 30)
    replace v1 := v1.alloc (.cells #[.slice none 0 0, .slice none 0 0, .string ⟨#[]⟩, .int .i64 0, .bool false, .bool false, .bool false] 30)
    replace B5 := B5.alloc B5.size (.cells #[.slice none 0 0, .slice none 0 0, .string ⟨#[]⟩, .int .i64 0, .bool false, .bool false, .bool false] 30)
    have x0 := v0.cell (i := 0) rfl
    have x1 := v0.cell (i := 1) rfl
    have x2 := v0.cell (i := 2) rfl
    have x3 := v0.cell (i := 3) rfl
    have x4 := v0.cell (i := 4) rfl
    have x5 := v0.cell (i := 5) rfl
    have x6 := v0.cell (i := 6) rfl
    have v2 : RowG.Var 30 (wD.alloc (.cells #[.slice none 0 0, .slice none 0 0, .string ⟨#[]⟩, .int .i64 0, .bool false, .bool false, .bool false] 30)) wD.heap.size [.slice none 0 0, .slice none 0 0, .string ⟨#[]⟩, .int .i64 0, .bool false, .bool false, .bool false] := RowG.Var.new wD _
    have y0 := v2.cell (i := 0) rfl
    have y1 := v2.cell (i := 1) rfl
    have y2 := v2.cell (i := 2) rfl
    have y3 := v2.cell (i := 3) rfl
    have y4 := v2.cell (i := 4) rfl
    have y5 := v2.cell (i := 5) rfl
    have y6 := v2.cell (i := 6) rfl
    go_wp2_with fail
    generalize wD.alloc (.cells #[.slice none 0 0, .slice none 0 0, .string ⟨#[]⟩, .int .i64 0, .bool false, .bool false, .bool false] 30) = V6 at *
    refine (Lin.eqWorld0 none none none none 0 0 0 0 0 0 [] [] _ rfl rfl (.inl rfl) (.inl rfl) (.inl rfl) (.inl rfl) (by simp) (by simp)).mono ?_
    rintro x wE ⟨rfl, b5⟩
    replace v0 := v0.later b5
    replace v1 := v1.later b5
    replace B5 := B5.trans (b5.mono B5.size)
    clear b5 x0 x1 x2 x3 x4 x5 x6 y0 y1 y2 y3 y4 y5 y6 v2
    have y0 := v1.cell (i := 0) rfl
    have y1 := v1.cell (i := 1) rfl
    have y2 := v1.cell (i := 2) rfl
    have y3 := v1.cell (i := 3) rfl
    have y4 := v1.cell (i := 4) rfl
    have y5 := v1.cell (i := 5) rfl
    have y6 := v1.cell (i := 6) rfl
    go_wp2_with fail
    refine (Lin.heldWorld0 none none 0 0 0 0 1 _ (.inl rfl) (.inl rfl) (by decide) (by decide) (by decide) (by decide)).mono ?_
    rintro x wF ⟨rfl, b5⟩
    replace B5 := B5.trans (b5.mono B5.size)
    go_wp2_with fail
    go_ret
    exact ⟨rfl, B5⟩
  · have b3 := B2.alloc B2.size (.cells #[.slice (some ⟨g, 0, none⟩) 3 c, .slice (some ⟨g', 0, none⟩) a1.toNat c', .string ⟨#[]⟩, .int .i64 0, .bool false, .bool false, .bool false] 30)
    have v0 : RowG.Var 30 (w2.alloc (.cells #[.slice (some ⟨g, 0, none⟩) 3 c, .slice (some ⟨g', 0, none⟩) a1.toNat c', .string ⟨#[]⟩, .int .i64 0, .bool false, .bool false, .bool false] 30)) w2.heap.size [.slice (some ⟨g, 0, none⟩) 3 c, .slice (some ⟨g', 0, none⟩) a1.toNat c', .string ⟨#[]⟩, .int .i64 0, .bool false, .bool false, .bool false] := RowG.Var.new w2 _
    have OH := oH.alloc (.cells #[.slice (some ⟨g, 0, none⟩) 3 c, .slice (some ⟨g', 0, none⟩) a1.toNat c', .string ⟨#[]⟩, .int .i64 0, .bool false, .bool false, .bool false] 30)
    have OR := oR.alloc (.cells #[.slice (some ⟨g, 0, none⟩) 3 c, .slice (some ⟨g', 0, none⟩) a1.toNat c', .string ⟨#[]⟩, .int .i64 0, .bool false, .bool false, .bool false] 30)
    clear oH oR
    go_wp2_with fail
    generalize w2.alloc (.cells #[.slice (some ⟨g, 0, none⟩) 3 c, .slice (some ⟨g', 0, none⟩) a1.toNat c', .string ⟨#[]⟩, .int .i64 0, .bool false, .bool false, .bool false] 30) = V at *
    generalize w2.heap.size = k0 at *
    have zV := b3.size
    clear B2
    refine (Lin.toInts _ _ _ l _ rfl (hs.later b3) hl).mono ?_
    rintro x w3 ⟨g3, c3, rfl, o3, b4⟩
    replace v0 := v0.later b4
    replace OH := OH.later b4
    replace OR := OR.later b4
    have B3 := b3.trans (b4.mono b3.size)
    clear b3 b4
    go_wp2_with fail
    refine (Lin.implNewWorld0 _ _ l _ _ o3.lies hl).mono ?_
    rintro x w4 ⟨b5, hx⟩
    have hk0 := v0.lt
    have hg := (OH.lt _ rfl).2
    have hg' := (OR.lt _ rfl).2
    simp only at hg hg'
    replace v0 := v0.later b5
    replace o3 := o3.later b5
    replace OH := OH.later b5
    replace OR := OR.later b5
    have B4 := B3.trans (b5.mono B3.size)
    have z3 := b5.size
    clear b5
    obtain ⟨gA, cA, gB, cB, rfl, oA, oB⟩ : ∃ gA cA gB cB, x = .returned (.tuple #[.agg #[.slice (some ⟨gA, 0, none⟩) 3 cA, .slice (some ⟨gB, 0, none⟩) a1.toNat cB, .string ⟨#[]⟩, .int .i64 0, .bool false, .bool false, .bool false], .bool true]) ∧ Lin.H0.Own 69 w4 w3.heap.size (some ⟨gA, 0, none⟩) cA (Lin.newHs l 3) ∧ Roa.E.Own 73 w4 w3.heap.size (some ⟨gB, 0, none⟩) cB (Lin.newRs a1.toNat) := by
      rcases hx with ⟨hc', _⟩ | ⟨_, h⟩
      · rw [hc] at hc'; cases hc'
      · exact h
    have hA := oA.lt _ rfl
    have hB := oB.lt _ rfl
    simp only at hA hB
    replace oA := oA.alloc (.cells #[.slice (some ⟨gA, 0, none⟩) 3 cA, .slice (some ⟨gB, 0, none⟩) a1.toNat cB, .string ⟨#[]⟩, .int .i64 0, .bool false, .bool false, .bool false] 30)
    replace oB := oB.alloc (.cells #[.slice (some ⟨gA, 0, none⟩) 3 cA, .slice (some ⟨gB, 0, none⟩) a1.toNat cB, .string ⟨#[]⟩, .int .i64 0, .bool false, .bool false, .bool false] 30)
    replace v0 := v0.alloc (.cells #[.slice (some ⟨gA, 0, none⟩) 3 cA, .slice (some ⟨gB, 0, none⟩) a1.toNat cB, .string ⟨#[]⟩, .int .i64 0, .bool false, .bool false, .bool false] 30)
    replace o3 := o3.alloc (.cells #[.slice (some ⟨gA, 0, none⟩) 3 cA, .slice (some ⟨gB, 0, none⟩) a1.toNat cB, .string ⟨#[]⟩, .int .i64 0, .bool false, .bool false, .bool false] 30)
    replace B4 := B4.alloc B4.size (.cells #[.slice (some ⟨gA, 0, none⟩) 3 cA, .slice (some ⟨gB, 0, none⟩) a1.toNat cB, .string ⟨#[]⟩, .int .i64 0, .bool false, .bool false, .bool false] 30)
    replace OH := OH.alloc (.cells #[.slice (some ⟨gA, 0, none⟩) 3 cA, .slice (some ⟨gB, 0, none⟩) a1.toNat cB, .string ⟨#[]⟩, .int .i64 0, .bool false, .bool false, .bool false] 30)
    replace OR := OR.alloc (.cells #[.slice (some ⟨gA, 0, none⟩) 3 cA, .slice (some ⟨gB, 0, none⟩) a1.toNat cB, .string ⟨#[]⟩, .int .i64 0, .bool false, .bool false, .bool false] 30)
    have v1 : RowG.Var 30 (w4.alloc (.cells #[.slice (some ⟨gA, 0, none⟩) 3 cA, .slice (some ⟨gB, 0, none⟩) a1.toNat cB, .string ⟨#[]⟩, .int .i64 0, .bool false, .bool false, .bool false] 30)) w4.heap.size [.slice (some ⟨gA, 0, none⟩) 3 cA, .slice (some ⟨gB, 0, none⟩) a1.toNat cB, .string ⟨#[]⟩, .int .i64 0, .bool false, .bool false, .bool false] := RowG.Var.new w4 _
    have x0 := v0.cell (i := 0) rfl
    have x1 := v0.cell (i := 1) rfl
    have x2 := v0.cell (i := 2) rfl
    have x3 := v0.cell (i := 3) rfl
    have x4 := v0.cell (i := 4) rfl
    have x5 := v0.cell (i := 5) rfl
    have x6 := v0.cell (i := 6) rfl
    have y0 := v1.cell (i := 0) rfl
    have y1 := v1.cell (i := 1) rfl
    have y2 := v1.cell (i := 2) rfl
    have y3 := v1.cell (i := 3) rfl
    have y4 := v1.cell (i := 4) rfl
    have y5 := v1.cell (i := 5) rfl
    have y6 := v1.cell (i := 6) rfl
    have z4 : w4.heap.size < (w4.alloc (.cells #[.slice (some ⟨gA, 0, none⟩) 3 cA, .slice (some ⟨gB, 0, none⟩) a1.toNat cB, .string ⟨#[]⟩, .int .i64 0, .bool false, .bool false, .bool false] 30)).heap.size := by simp
    go_wp2_with fail
    generalize w4.alloc (.cells #[.slice (some ⟨gA, 0, none⟩) 3 cA, .slice (some ⟨gB, 0, none⟩) a1.toNat cB, .string ⟨#[]⟩, .int .i64 0, .bool false, .bool false, .bool false] 30) = V4 at *
    refine (Lin.eqWorld0 _ _ _ _ _ _ _ _ 3 a1.toNat (Lin.newHs l 3) (Lin.newRs a1.toNat) _ (Lin.newHs_len l 3).symm (Lin.newRs_len _).symm oA.lies OH.lies oB.lies OR.lies (by rw [Lin.newHs_len]; decide) (by rw [Lin.newRs_len]; have := Lin.caps_n hc; omega)).mono ?_
    rintro x w5 ⟨rfl, b5⟩
    replace v0 := v0.later b5
    replace v1 := v1.later b5
    replace o3 := o3.later b5
    replace OH := OH.later b5
    replace OR := OR.later b5
    replace oA := oA.later b5
    replace oB := oB.later b5
    replace B4 := B4.trans (b5.mono B4.size)
    replace z4 := Nat.lt_of_lt_of_le z4 b5.size
    clear b5
    clear x0 x1 x2 x3 x4 x5 x6 y0 y1 y2 y3 y4 y5 y6
    go_wp2_with fail
    refine (Lin.toInts _ _ _ l _ rfl (hs.later B4) hl).mono ?_
    rintro x w6 ⟨g6, c6, rfl, o6, b5⟩
    replace v0 := v0.later b5
    replace v1 := v1.later b5
    replace o3 := o3.later b5
    replace OH := OH.later b5
    replace OR := OR.later b5
    replace oA := oA.later b5
    replace oB := oB.later b5
    replace B4 := B4.trans (b5.mono B4.size)
    replace z4 := Nat.lt_of_lt_of_le z4 b5.size
    clear b5
    go_wp2_with fail
    refine (Lin.eqInts _ _ _ _ _ _ _ _ l _ rfl rfl o3 o6 (by omega)).mono ?_
    rintro x w7 ⟨rfl, b5⟩
    replace v0 := v0.later b5
    replace v1 := v1.later b5
    replace o3 := o3.later b5
    replace OH := OH.later b5
    replace OR := OR.later b5
    replace oA := oA.later b5
    replace oB := oB.later b5
    replace B4 := B4.trans (b5.mono B4.size)
    replace z4 := Nat.lt_of_lt_of_le z4 b5.size
    clear b5
    clear o6
    go_wp2_with fail
    refine (Lin.markInts _ _ _ _ l _ rfl o3 (by omega)).mono ?_
    rintro x w8 ⟨rfl, k8⟩
    have h3 := o3.lt _ rfl
    simp only at h3
    replace v0 := v0.kept k8 (Ne.symm (RowG.own_varS (by decide) o3 v0))
    replace v1 := v1.kept k8 (Ne.symm (RowG.own_varS (by decide) o3 v1))
    replace OH := OH.kept k8 (fun y hy => by cases hy; exact RowG.own_twoS (by decide) OH o3)
    replace OR := OR.kept k8 (fun y hy => by cases hy; exact RowG.own_twoS (by decide) OR o3)
    replace oA := oA.kept k8 (fun y hy => by cases hy; exact RowG.own_twoS (by decide) oA o3)
    replace oB := oB.kept k8 (fun y hy => by cases hy; exact RowG.own_twoS (by decide) oB o3)
    replace B4 := B4.trans (k8.below (by have := B3.size; omega) B4.size)
    replace z4 := Nat.lt_of_lt_of_le z4 k8.size
    clear k8 o3 h3
    have hneg : ¬ (1 + (l.length : Int)) < 0 := by omega
    have x0 := v0.cell (i := 0) rfl
    have x1 := v0.cell (i := 1) rfl
    have x2 := v0.cell (i := 2) rfl
    have x3 := v0.cell (i := 3) rfl
    have x4 := v0.cell (i := 4) rfl
    have x5 := v0.cell (i := 5) rfl
    have x6 := v0.cell (i := 6) rfl
    have y0 := v1.cell (i := 0) rfl
    have y1 := v1.cell (i := 1) rfl
    have y2 := v1.cell (i := 2) rfl
    have y3 := v1.cell (i := 3) rfl
    have y4 := v1.cell (i := 4) rfl
    have y5 := v1.cell (i := 5) rfl
    have y6 := v1.cell (i := 6) rfl
    go_wp2_with fail
    refine (Lin.eqWorld0 _ _ _ _ _ _ _ _ 3 a1.toNat (Lin.newHs l 3) (Lin.newRs a1.toNat) _ (Lin.newHs_len l 3).symm (Lin.newRs_len _).symm oA.lies OH.lies oB.lies OR.lies (by rw [Lin.newHs_len]; decide) (by rw [Lin.newRs_len]; have := Lin.caps_n hc; omega)).mono ?_
    rintro x w9 ⟨rfl, b5⟩
    replace v0 := v0.later b5
    replace v1 := v1.later b5
    replace OH := OH.later b5
    replace OR := OR.later b5
    replace oA := oA.later b5
    replace oB := oB.later b5
    replace B4 := B4.trans (b5.mono B4.size)
    replace z4 := Nat.lt_of_lt_of_le z4 b5.size
    clear b5
    clear x0 x1 x2 x3 x4 x5 x6 y0 y1 y2 y3 y4 y5 y6 hneg
    have y0 := v1.cell (i := 0) rfl
    have y1 := v1.cell (i := 1) rfl
    have y2 := v1.cell (i := 2) rfl
    have y3 := v1.cell (i := 3) rfl
    have y4 := v1.cell (i := 4) rfl
    have y5 := v1.cell (i := 5) rfl
    have y6 := v1.cell (i := 6) rfl
    go_wp2_with fail
    refine (Lin.markWorld0 w3.heap.size gA cA gB cB 3 a1.toNat _ _ 1 _ (Lin.newHs_len l 3).symm (Lin.newRs_len _).symm oA oB (by omega) (by rw [Lin.newHs_len]; decide) (by rw [Lin.newRs_len]; have := Lin.caps_n hc; omega) (by decide) (by decide)).mono ?_
    rintro x wA ⟨rfl, mA, mB, bA, sA⟩
    have n1 := RowG.own_varS (by decide) oA v1
    have n2 := RowG.own_varS (by decide) oB v1
    replace v0 := v0.same (sA k0 v0.lt (by omega) (by omega))
    replace v1 := v1.same (sA _ v1.lt (Ne.symm n1) (Ne.symm n2))
    replace OH := OH.same (fun y hy => by cases hy; exact bA.block g (by omega))
    replace OR := OR.same (fun y hy => by cases hy; exact bA.block g' (by omega))
    have B5 := B4.trans (bA.mono B3.size)
    have zA := bA.size
    clear oA oB bA sA n1 n2 B4
    clear y0 y1 y2 y3 y4 y5 y6
    have y0 := v1.cell (i := 0) rfl
    have y1 := v1.cell (i := 1) rfl
    have y2 := v1.cell (i := 2) rfl
    have y3 := v1.cell (i := 3) rfl
    have y4 := v1.cell (i := 4) rfl
    have y5 := v1.cell (i := 5) rfl
    have y6 := v1.cell (i := 6) rfl
    have hm := Lin.caps_n hc
    have hq : ¬ (1 + 11 * ((3 : Nat) : Int) + 4 * (a1.toNat : Int)) < 0 := by omega
    go_wp2_with fail
    refine (Lin.heldWorld0 _ _ _ _ 3 a1.toNat 1 _ mA.lies mB.lies (by decide) (by omega) (by decide) (by decide)).mono ?_
    rintro x wB ⟨rfl, b5⟩
    replace v0 := v0.later b5
    replace v1 := v1.later b5
    replace OH := OH.later b5
    replace OR := OR.later b5
    replace mA := mA.later b5
    replace mB := mB.later b5
    replace B5 := B5.trans (b5.mono B5.size)
    clear b5
    clear y0 y1 y2 y3 y4 y5 y6
    go_wp2_with fail
    refine (Lin.toInts _ _ _ l _ rfl (hs.later B5) hl).mono ?_
    rintro x wC ⟨gI, cI, rfl, oI, b5⟩
    replace v0 := v0.later b5
    replace v1 := v1.later b5
    replace OH := OH.later b5
    replace OR := OR.later b5
    replace mA := mA.later b5
    replace mB := mB.later b5
    replace B5 := B5.trans (b5.mono B5.size)
    clear b5
    go_wp2_with fail
    refine (Lin.implNewWorld0 _ _ l _ _ oI.lies hl).mono ?_
    rintro x wD ⟨b5, hx⟩
    clear oI
    replace v0 := v0.later b5
    replace v1 := v1.later b5
    replace OH := OH.later b5
    replace OR := OR.later b5
    replace mA := mA.later b5
    replace mB := mB.later b5
    replace B5 := B5.trans (b5.mono B5.size)
    clear b5
    obtain ⟨gC, cC, gD, cD, rfl, oC, oD⟩ : ∃ gA cA gB cB, x = .returned (.tuple #[.agg #[.slice (some ⟨gA, 0, none⟩) 3 cA, .slice (some ⟨gB, 0, none⟩) a1.toNat cB, .string ⟨#[]⟩, .int .i64 0, .bool false, .bool false, .bool false], .bool true]) ∧ Lin.H0.Own 69 wD wC.heap.size (some ⟨gA, 0, none⟩) cA (Lin.newHs l 3) ∧ Roa.E.Own 73 wD wC.heap.size (some ⟨gB, 0, none⟩) cB (Lin.newRs a1.toNat) := by
      rcases hx with ⟨hc', _⟩ | ⟨_, h⟩
      · rw [hc] at hc'; cases hc'
      · exact h
    replace v0 := v0.alloc (.cells #[.slice (some ⟨gC, 0, none⟩) 3 cC, .slice (some ⟨gD, 0, none⟩) a1.toNat cD, .string ⟨#[]⟩, .int .i64 0, .bool false, .bool false, .bool false] 30)
    replace v1 := v1.alloc (.cells #[.slice (some ⟨gC, 0, none⟩) 3 cC, .slice (some ⟨gD, 0, none⟩) a1.toNat cD, .string ⟨#[]⟩, .int .i64 0, .bool false, .bool false, .bool false] 30)
    replace OH := OH.alloc (.cells #[.slice (some ⟨gC, 0, none⟩) 3 cC, .slice (some ⟨gD, 0, none⟩) a1.toNat cD, .string ⟨#[]⟩, .int .i64 0, .bool false, .bool false, .bool false] 30)
    replace OR := OR.alloc (.cells #[.slice (some ⟨gC, 0, none⟩) 3 cC, .slice (some ⟨gD, 0, none⟩) a1.toNat cD, .string ⟨#[]⟩, .int .i64 0, .bool false, .bool false, .bool false] 30)
    replace mA := mA.alloc (.cells #[.slice (some ⟨gC, 0, none⟩) 3 cC, .slice (some ⟨gD, 0, none⟩) a1.toNat cD, .string ⟨#[]⟩, .int .i64 0, .bool false, .bool false, .bool false] 30)
    replace mB := mB.alloc (.cells #[.slice (some ⟨gC, 0, none⟩) 3 cC, .slice (some ⟨gD, 0, none⟩) a1.toNat cD, .string ⟨#[]⟩, .int .i64 0, .bool false, .bool false, .bool false] 30)
    replace oC := oC.alloc (.cells #[.slice (some ⟨gC, 0, none⟩) 3 cC, .slice (some ⟨gD, 0, none⟩) a1.toNat cD, .string ⟨#[]⟩, .int .i64 0, .bool false, .bool false, .bool false] 30)
    replace oD := oD.alloc (.cells #[.slice (some ⟨gC, 0, none⟩) 3 cC, .slice (some ⟨gD, 0, none⟩) a1.toNat cD, .string ⟨#[]⟩, .int .i64 0, .bool false, .bool false, .bool false] 30)
    replace B5 := B5.alloc B5.size (.cells #[.slice (some ⟨gC, 0, none⟩) 3 cC, .slice (some ⟨gD, 0, none⟩) a1.toNat cD, .string ⟨#[]⟩, .int .i64 0, .bool false, .bool false, .bool false] 30)
    have x0 := v0.cell (i := 0) rfl
    have x1 := v0.cell (i := 1) rfl
    have x2 := v0.cell (i := 2) rfl
    have x3 := v0.cell (i := 3) rfl
    have x4 := v0.cell (i := 4) rfl
    have x5 := v0.cell (i := 5) rfl
    have x6 := v0.cell (i := 6) rfl
    have v2 : RowG.Var 30 (wD.alloc (.cells #[.slice (some ⟨gC, 0, none⟩) 3 cC, .slice (some ⟨gD, 0, none⟩) a1.toNat cD, .string ⟨#[]⟩, .int .i64 0, .bool false, .bool false, .bool false] 30)) wD.heap.size [.slice (some ⟨gC, 0, none⟩) 3 cC, .slice (some ⟨gD, 0, none⟩) a1.toNat cD, .string ⟨#[]⟩, .int .i64 0, .bool false, .bool false, .bool false] := RowG.Var.new wD _
    have y0 := v2.cell (i := 0) rfl
    have y1 := v2.cell (i := 1) rfl
    have y2 := v2.cell (i := 2) rfl
    have y3 := v2.cell (i := 3) rfl
    have y4 := v2.cell (i := 4) rfl
    have y5 := v2.cell (i := 5) rfl
    have y6 := v2.cell (i := 6) rfl
    go_wp2_with fail
    generalize wD.alloc (.cells #[.slice (some ⟨gC, 0, none⟩) 3 cC, .slice (some ⟨gD, 0, none⟩) a1.toNat cD, .string ⟨#[]⟩, .int .i64 0, .bool false, .bool false, .bool false] 30) = V6 at *
    refine (Lin.eqWorld0 _ _ _ _ _ _ _ _ 3 a1.toNat (Lin.newHs l 3) (Lin.newRs a1.toNat) _ (Lin.newHs_len l 3).symm (Lin.newRs_len _).symm oC.lies OH.lies oD.lies OR.lies (by rw [Lin.newHs_len]; decide) (by rw [Lin.newRs_len]; have := Lin.caps_n hc; omega)).mono ?_
    rintro x wE ⟨rfl, b5⟩
    replace v0 := v0.later b5
    replace v1 := v1.later b5
    replace mA := mA.later b5
    replace mB := mB.later b5
    replace B5 := B5.trans (b5.mono B5.size)
    clear b5 x0 x1 x2 x3 x4 x5 x6 y0 y1 y2 y3 y4 y5 y6 v2
    have y0 := v1.cell (i := 0) rfl
    have y1 := v1.cell (i := 1) rfl
    have y2 := v1.cell (i := 2) rfl
    have y3 := v1.cell (i := 3) rfl
    have y4 := v1.cell (i := 4) rfl
    have y5 := v1.cell (i := 5) rfl
    have y6 := v1.cell (i := 6) rfl
    go_wp2_with fail
    refine (Lin.heldWorld0 _ _ _ _ 3 a1.toNat 1 _ mA.lies mB.lies (by decide) (by omega) (by decide) (by decide)).mono ?_
    rintro x wF ⟨rfl, b5⟩
    replace B5 := B5.trans (b5.mono B5.size)
    go_wp2_with fail
    go_ret
    exact ⟨rfl, B5⟩

/-! ### THE ROW's STEP: WRITTEN OUT: LEAVE IT -/
set_option maxRecDepth 100000 in
theorem lifted (os : Os) (started : os.Started) (H : Type) (enc : TypeId × Value → H) :
    ReturnsInHanded {} Try.checked os 3 .any (Rows.fnExactNewWorldSpec.pre6 enc Try.prog Try.f3 Rows.fnExactNewWorldRow.domain false) (Rows.fnExactNewWorldSpec.post enc Try.prog Try.f3 false true false false) := by
  refine returnsInHanded_of_change (C := Try.checked) own started (by kernel_rfl) Try.func3
    (ChangeSpec.witness6 (enc := enc) (C := Try.checked) false ⟨#[], #[.slice none 0 0, .int .i64 0], []⟩ 8 (by kernel_rfl) (by kernel_rfl) (by kernel_rfl) (by kernel_rfl)) ?_
  intro W base args ds gs before hval0 hW hcnd _
  have hval : ∀ (j : Nat) t v, Try.f3.params[j]? = some t → args[j]? = some v → Value.okWide Try.prog W .any base t v := hval0
  have hW' := hW
  obtain ⟨p, q, hA0, hV, rfl, hfz, hnd⟩ := hW
  have hA : DataW.TrodAll enc Try.prog W 0 (fun _ => true) true Try.f3.params.toList args.toList ds p := hA0
  rw [Try.params3] at hA hval
  obtain ⟨v0, vs0, d0, ds0, p0, q0, hargs, rfl, rfl, h0, r0⟩ := trodAll_cons hA
  obtain ⟨v1, vs1, d1, ds1, p1, q1, rfl, rfl, rfl, h1, r1⟩ := trodAll_cons r0
  obtain ⟨rfl, rfl, rfl⟩ := trodAll_nil r1
  obtain rfl : args = #[v0, v1] := by cases args; simp_all
  obtain ⟨rfl, rfl⟩ := trodVars_none hV
  obtain ⟨a0, len0, cap0, rfl⟩ := okWide_slice Try.underlying22 (hval 0 22 v0 rfl rfl)
  have k0 := h0
  have lt0 : ∀ x ∈ p0, x.block < W.heap.size := by obtain ⟨m, hm⟩ := k0; exact DataW.trod_lt m _ _ _ hm
  obtain ⟨z0, w0⟩ : ∃ zs, IsRow .i64 W a0 len0 cap0 zs := by
    obtain ⟨fuel, hf⟩ := h0
    rcases open_ints Try.underlying22 Try.underlying2 (by kernel_rfl) hf with ⟨hcs, _⟩ | ⟨x, l, c, zs, hcs, _, hl, hm, hz, _, hcell, hwz⟩
    · simp [Value.cells] at hcs
      obtain ⟨rfl, rfl, rfl⟩ := hcs
      exact ⟨[], .inl ⟨rfl, rfl, rfl, rfl⟩⟩
    · simp [Value.cells] at hcs
      obtain ⟨rfl, rfl, rfl⟩ := hcs
      exact ⟨zs, .inr ⟨_, rfl, hl, hm, by simpa using hz, hcell, hwz⟩⟩
  obtain ⟨a1, rfl, rfl, rfl, w1⟩ := open_int Try.underlying2 (hval 1 2 v1 rfl rfl) h1
  clear hA0 hval0
  refine (walk a0 len0 cap0 z0 a1 W w0 w1).mono fun e W' ⟨he, bel⟩ => ?_
  subst he
  exact ⟨_, rfl, _, _, _, [], _, [], hW', trodAll_mk1 (shut_bool Try.underlying4 _), (trodAll_cons_mk (Below.trod laidOut (by kernel_rfl) (of_decide_eq_true (by kernel_rfl)) k0 bel lt0) (trodAll_cons_mk (shut_int Try.underlying2 w1) trodAll_mk0)), rfl, bel.frame _, fun h => by cases h⟩

theorem over : Rows.fnExactNewWorldRow.holds Try.pinned (OpenSpec.ofChange Rows.fnExactNewWorldSpec) :=
  OpenClaim.holds_of_wide 3 Try.f3 rfl rfl rfl rfl rfl rfl rfl ⟨rfl, rfl, rfl, rfl, rfl⟩ rfl rfl rfl rfl rfl (by kernel_rfl) Try.func3 (by kernel_rfl)
    (of_decide_eq_true (by kernel_rfl)) (by unfold Func.isWrapper; first | (rw [if_pos (by decide +kernel)]; kernel_rfl) | (rw [if_neg (by decide +kernel)]; exact ⟨rfl, rfl⟩))
    (fun os started H enc _ => lifted os started H enc)

/-- THE STATEMENT. -/
theorem proved : Rows.FnExactNewWorldSaid := over
end Go.Proofs.Ytbhbanceajcmaaa.fnExactNewWorld
namespace Go.Proofs.Ytbhbanceajcmaaa
theorem fnExactNewWorld_holds : Rows.FnExactNewWorldSaid := fnExactNewWorld.proved
#print axioms fnExactNewWorld_holds
end Go.Proofs.Ytbhbanceajcmaaa

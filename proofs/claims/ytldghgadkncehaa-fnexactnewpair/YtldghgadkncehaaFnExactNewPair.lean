/- At every list of Caps and every number of roads the program's NewPair answers as the specification's NewPair, two worlds in memory of their own, behind another call too, and leaves the list as it was (lists of more than 2^20 numbers the law itself lets by), so FnExactNewPair returns true; no condition. (Its frame is the guide's shell; the walk is mine.) -/
import Derived.Test.YtldghgadkncehaaRows
import Derived.Test.YtldghgadkncehaaM54
import Derived.WalkKit
import Derived.ProofKit
import Derived.OpenShut
import Derived.ShutString
import Derived.ChangeOld
import Derived.Below
namespace Go.Proofs.Ytldghgadkncehaa.fnExactNewPair
open Go.ChangeShapes Go.WideShapes Go.ChangeAt Go.RowKit
open Go.ChangeMaps (open_string shut_string)
set_option linter.unusedVariables false

theorem own : ownKnob Try.prog.godebug = none := by kernel_rfl
theorem laidOut : laidOutB Try.prog = true := by kernel_rfl

/-- WHAT THE WALK IS TOLD OF A SLICE OF INTEGERS THAT CAME IN: it is nil; or it leads to a row of 'cap' cells, the numbers 'zs' (the first 'len' are its elements, the rest its spare room), each fitting its kind. -/
def IsRow (k : IntKind) (w : World) (a : Option Addr) (len cap : Nat) (zs : List Int) : Prop :=
  (a = none ∧ len = 0 ∧ cap = 0 ∧ zs = []) ∨
  ∃ x, a = some x ∧ len ≤ cap ∧ cap ≤ maxLen ∧ zs.length = cap ∧ (∀ i, i < zs.length → w.cell? (x.add i) = some (.int k (zs.getD i 0))) ∧ ∀ n ∈ zs, (Lit.int k n).wf = true

/-! ### STEP 1: THE WALK: the Go text returns true, AND WRITES NOTHING THAT WAS THERE: 'Below w.heap.size w w'' (Derived/Below.lean: '.refl', '.alloc', '.drew', '.setCell' at a new block, '.trans'). Open each 'IsRow' by 'rcases' AHEAD of 'go_enter'; part every test ahead of the walk. -/
set_option linter.unusedSimpArgs false in
set_option maxRecDepth 20000 in
set_option maxHeartbeats 40000000 in
theorem walk (a0 : Option Addr) (len0 cap0 : Nat) (z0 : List Int) (a1 : Int) (w : World) (w0 : IsRow .i64 w a0 len0 cap0 z0) (w1 : (Lit.int .i64 a1).wf = true) :
    Calls Try.prog 4 #[.slice a0 len0 cap0, .int .i64 a1] w fun e w' => e = .returned (.bool true) ∧ Below w.heap.size w w' := by
  obtain ⟨l, rfl, hmax, hs, ha⟩ := Lin.ints_row w0
  clear w0
  by_cases h : l.length ≤ 1048576
  case neg =>
    have hif : (1048576 : Int) < (l.length : Int) := by omega
    go_enter Try.func4, Try.ntmps4
    go_wp2_with fail
    go_ret
    exact ⟨rfl, Below.refl _ _⟩
  have hif : ¬ (1048576 : Int) < (l.length : Int) := by omega
  have hl : l.length ≤ 2097152 := by omega
  go_enter Try.func4, Try.ntmps4
  go_wp2_with fail
  refine (Lin.toInts _ _ _ l _ rfl hs hl).mono ?_
  rintro x w1 ⟨g1, c1, rfl, o1, b1⟩
  go_wp2_with fail
  refine (Lin.specNewPair0 _ _ l _ _ o1.lies hl).mono ?_
  rintro x w2 ⟨b2, hx⟩
  have B2 := b1.trans (b2.mono b1.size)
  clear b1 b2 o1
  rcases hx with ⟨hc, rfl⟩ | ⟨hc, g, c, g', c', a2, c2, g2, d2, ys, rfl, oH, oR, N⟩
  · as_aux_lemma =>
    have b3 := B2.alloc B2.size (.cells #[.slice none 0 0, .slice none 0 0, .string ⟨#[]⟩, .int .i64 0, .bool false, .bool false, .bool false, .slice none 0 0, .slice none 0 0, .string ⟨#[]⟩, .int .i64 0, .bool false, .bool false, .bool false] 42)
    have v0 : RowG.Var 42 (w2.alloc (.cells #[.slice none 0 0, .slice none 0 0, .string ⟨#[]⟩, .int .i64 0, .bool false, .bool false, .bool false, .slice none 0 0, .slice none 0 0, .string ⟨#[]⟩, .int .i64 0, .bool false, .bool false, .bool false] 42)) w2.heap.size [.slice none 0 0, .slice none 0 0, .string ⟨#[]⟩, .int .i64 0, .bool false, .bool false, .bool false, .slice none 0 0, .slice none 0 0, .string ⟨#[]⟩, .int .i64 0, .bool false, .bool false, .bool false] := RowG.Var.new w2 _
    go_wp2_with fail
    generalize w2.alloc (.cells #[.slice none 0 0, .slice none 0 0, .string ⟨#[]⟩, .int .i64 0, .bool false, .bool false, .bool false, .slice none 0 0, .slice none 0 0, .string ⟨#[]⟩, .int .i64 0, .bool false, .bool false, .bool false] 42) = V at *
    generalize w2.heap.size = k0 at *
    clear B2
    refine (Lin.toInts _ _ _ l _ rfl (hs.later b3) hl).mono ?_
    rintro x w3 ⟨g3, c3, rfl, o3, BV⟩
    go_wp2_with fail
    refine (Lin.implNewPair0 _ _ l _ _ o3.lies hl).mono ?_
    rintro x w4 ⟨b5, hx⟩
    replace o3 := o3.later b5
    have z3 := BV.size
    replace BV := BV.trans (b5.mono BV.size)
    have z4 := b5.size
    clear b5
    obtain rfl : x = .returned (.tuple #[.agg #[.slice none 0 0, .slice none 0 0, .string ⟨#[]⟩, .int .i64 0, .bool false, .bool false, .bool false, .slice none 0 0, .slice none 0 0, .string ⟨#[]⟩, .int .i64 0, .bool false, .bool false, .bool false], .bool false]) := by
      rcases hx with ⟨_, h⟩ | ⟨hc', _⟩
      · exact h
      · rw [hc] at hc'; cases hc'
    replace o3 := o3.alloc (.cells #[.slice none 0 0, .slice none 0 0, .string ⟨#[]⟩, .int .i64 0, .bool false, .bool false, .bool false, .slice none 0 0, .slice none 0 0, .string ⟨#[]⟩, .int .i64 0, .bool false, .bool false, .bool false] 42)
    replace BV := BV.alloc BV.size (.cells #[.slice none 0 0, .slice none 0 0, .string ⟨#[]⟩, .int .i64 0, .bool false, .bool false, .bool false, .slice none 0 0, .slice none 0 0, .string ⟨#[]⟩, .int .i64 0, .bool false, .bool false, .bool false] 42)
    have v1 : RowG.Var 42 (w4.alloc (.cells #[.slice none 0 0, .slice none 0 0, .string ⟨#[]⟩, .int .i64 0, .bool false, .bool false, .bool false, .slice none 0 0, .slice none 0 0, .string ⟨#[]⟩, .int .i64 0, .bool false, .bool false, .bool false] 42)) w4.heap.size [.slice none 0 0, .slice none 0 0, .string ⟨#[]⟩, .int .i64 0, .bool false, .bool false, .bool false, .slice none 0 0, .slice none 0 0, .string ⟨#[]⟩, .int .i64 0, .bool false, .bool false, .bool false] := RowG.Var.new w4 _
    have u0 := v0.later BV
    have x0 := u0.cell (i := 0) rfl
    have x1 := u0.cell (i := 1) rfl
    have x2 := u0.cell (i := 2) rfl
    have x3 := u0.cell (i := 3) rfl
    have x4 := u0.cell (i := 4) rfl
    have x5 := u0.cell (i := 5) rfl
    have x6 := u0.cell (i := 6) rfl
    have x7 := u0.cell (i := 7) rfl
    have x8 := u0.cell (i := 8) rfl
    have x9 := u0.cell (i := 9) rfl
    have x10 := u0.cell (i := 10) rfl
    have x11 := u0.cell (i := 11) rfl
    have x12 := u0.cell (i := 12) rfl
    have x13 := u0.cell (i := 13) rfl
    have y0 := v1.cell (i := 0) rfl
    have y1 := v1.cell (i := 1) rfl
    have y2 := v1.cell (i := 2) rfl
    have y3 := v1.cell (i := 3) rfl
    have y4 := v1.cell (i := 4) rfl
    have y5 := v1.cell (i := 5) rfl
    have y6 := v1.cell (i := 6) rfl
    have y7 := v1.cell (i := 7) rfl
    have y8 := v1.cell (i := 8) rfl
    have y9 := v1.cell (i := 9) rfl
    have y10 := v1.cell (i := 10) rfl
    have y11 := v1.cell (i := 11) rfl
    have y12 := v1.cell (i := 12) rfl
    have y13 := v1.cell (i := 13) rfl
    go_wp2_with fail
    generalize w4.alloc (.cells #[.slice none 0 0, .slice none 0 0, .string ⟨#[]⟩, .int .i64 0, .bool false, .bool false, .bool false, .slice none 0 0, .slice none 0 0, .string ⟨#[]⟩, .int .i64 0, .bool false, .bool false, .bool false] 42) = V4 at *
    refine (Lin.eqPairNil _).mono ?_
    rintro x w5 ⟨rfl, b5⟩
    replace v1 := v1.later b5
    replace o3 := o3.later b5
    replace BV := BV.trans (b5.mono BV.size)
    clear b5
    clear u0 x0 x1 x2 x3 x4 x5 x6 x7 x8 x9 x10 x11 x12 x13 y0 y1 y2 y3 y4 y5 y6 y7 y8 y9 y10 y11 y12 y13
    as_aux_lemma =>
    go_wp2_with fail
    refine (Lin.toInts _ _ _ l _ rfl (hs.later (b3.trans (BV.mono b3.size))) hl).mono ?_
    rintro x w6 ⟨g6, c6, rfl, o6, b5⟩
    replace v1 := v1.later b5
    replace o3 := o3.later b5
    replace BV := BV.trans (b5.mono BV.size)
    clear b5
    go_wp2_with fail
    refine (Lin.eqInts _ _ _ _ _ _ _ _ l _ rfl rfl o3 o6 (by omega)).mono ?_
    rintro x w7 ⟨rfl, b5⟩
    replace v1 := v1.later b5
    replace o3 := o3.later b5
    replace BV := BV.trans (b5.mono BV.size)
    clear b5
    clear o6
    go_wp2_with fail
    refine (Lin.markInts _ _ _ _ l _ rfl o3 (by omega)).mono ?_
    rintro x w8 ⟨rfl, k8⟩
    have h3 := (o3.lt _ rfl).1
    simp only at h3
    replace v1 := v1.kept k8 (Ne.symm (RowG.own_varS (by decide) o3 v1))
    replace BV := BV.trans (k8.below h3 BV.size)
    have z8 := k8.size
    clear k8 o3 h3
    have hneg : ¬ (1 + (l.length : Int)) < 0 := by omega
    have u0 := v0.later BV
    have x0 := u0.cell (i := 0) rfl
    have x1 := u0.cell (i := 1) rfl
    have x2 := u0.cell (i := 2) rfl
    have x3 := u0.cell (i := 3) rfl
    have x4 := u0.cell (i := 4) rfl
    have x5 := u0.cell (i := 5) rfl
    have x6 := u0.cell (i := 6) rfl
    have x7 := u0.cell (i := 7) rfl
    have x8 := u0.cell (i := 8) rfl
    have x9 := u0.cell (i := 9) rfl
    have x10 := u0.cell (i := 10) rfl
    have x11 := u0.cell (i := 11) rfl
    have x12 := u0.cell (i := 12) rfl
    have x13 := u0.cell (i := 13) rfl
    have y0 := v1.cell (i := 0) rfl
    have y1 := v1.cell (i := 1) rfl
    have y2 := v1.cell (i := 2) rfl
    have y3 := v1.cell (i := 3) rfl
    have y4 := v1.cell (i := 4) rfl
    have y5 := v1.cell (i := 5) rfl
    have y6 := v1.cell (i := 6) rfl
    have y7 := v1.cell (i := 7) rfl
    have y8 := v1.cell (i := 8) rfl
    have y9 := v1.cell (i := 9) rfl
    have y10 := v1.cell (i := 10) rfl
    have y11 := v1.cell (i := 11) rfl
    have y12 := v1.cell (i := 12) rfl
    have y13 := v1.cell (i := 13) rfl
    as_aux_lemma =>
    go_wp2_with fail
    refine (Lin.eqPairNil _).mono ?_
    rintro x w9 ⟨rfl, b5⟩
    replace v1 := v1.later b5
    replace BV := BV.trans (b5.mono BV.size)
    clear b5
    clear u0 x0 x1 x2 x3 x4 x5 x6 x7 x8 x9 x10 x11 x12 x13 y0 y1 y2 y3 y4 y5 y6 y7 y8 y9 y10 y11 y12 y13 hneg
    have y0 := v1.cell (i := 0) rfl
    have y1 := v1.cell (i := 1) rfl
    have y2 := v1.cell (i := 2) rfl
    have y3 := v1.cell (i := 3) rfl
    have y4 := v1.cell (i := 4) rfl
    have y5 := v1.cell (i := 5) rfl
    have y6 := v1.cell (i := 6) rfl
    have y7 := v1.cell (i := 7) rfl
    have y8 := v1.cell (i := 8) rfl
    have y9 := v1.cell (i := 9) rfl
    have y10 := v1.cell (i := 10) rfl
    have y11 := v1.cell (i := 11) rfl
    have y12 := v1.cell (i := 12) rfl
    have y13 := v1.cell (i := 13) rfl
    as_aux_lemma =>
    go_wp2_with fail
    refine (Lin.markPairNil _).mono ?_
    rintro x wA ⟨rfl, b5⟩
    replace v1 := v1.later b5
    replace BV := BV.trans (b5.mono BV.size)
    clear b5
    clear y0 y1 y2 y3 y4 y5 y6 y7 y8 y9 y10 y11 y12 y13
    have y0 := v1.cell (i := 0) rfl
    have y1 := v1.cell (i := 1) rfl
    have y2 := v1.cell (i := 2) rfl
    have y3 := v1.cell (i := 3) rfl
    have y4 := v1.cell (i := 4) rfl
    have y5 := v1.cell (i := 5) rfl
    have y6 := v1.cell (i := 6) rfl
    have y7 := v1.cell (i := 7) rfl
    have y8 := v1.cell (i := 8) rfl
    have y9 := v1.cell (i := 9) rfl
    have y10 := v1.cell (i := 10) rfl
    have y11 := v1.cell (i := 11) rfl
    have y12 := v1.cell (i := 12) rfl
    have y13 := v1.cell (i := 13) rfl
    as_aux_lemma =>
    go_wp2_with fail
    refine (Lin.heldPairNil _).mono ?_
    rintro x wB ⟨rfl, b5⟩
    replace v1 := v1.later b5
    replace BV := BV.trans (b5.mono BV.size)
    clear b5
    clear y0 y1 y2 y3 y4 y5 y6 y7 y8 y9 y10 y11 y12 y13
    as_aux_lemma =>
    go_wp2_with fail
    refine (Lin.toInts _ _ _ l _ rfl (hs.later (b3.trans (BV.mono b3.size))) hl).mono ?_
    rintro x wC ⟨gI, cI, rfl, oI, b5⟩
    replace v1 := v1.later b5
    replace BV := BV.trans (b5.mono BV.size)
    clear b5
    go_wp2_with fail
    refine (Lin.implNewPair0 _ _ l _ _ oI.lies hl).mono ?_
    rintro x wD ⟨b5, hx⟩
    clear oI
    replace v1 := v1.later b5
    replace BV := BV.trans (b5.mono BV.size)
    clear b5
    obtain rfl : x = .returned (.tuple #[.agg #[.slice none 0 0, .slice none 0 0, .string ⟨#[]⟩, .int .i64 0, .bool false, .bool false, .bool false, .slice none 0 0, .slice none 0 0, .string ⟨#[]⟩, .int .i64 0, .bool false, .bool false, .bool false], .bool false]) := by
      rcases hx with ⟨_, h⟩ | ⟨hc', _⟩
      · exact h
      · rw [hc] at hc'; cases hc'
    replace v1 := v1.alloc (.cells #[.slice none 0 0, .slice none 0 0, .string ⟨#[]⟩, .int .i64 0, .bool false, .bool false, .bool false, .slice none 0 0, .slice none 0 0, .string ⟨#[]⟩, .int .i64 0, .bool false, .bool false, .bool false] 42)
    replace BV := BV.alloc BV.size (.cells #[.slice none 0 0, .slice none 0 0, .string ⟨#[]⟩, .int .i64 0, .bool false, .bool false, .bool false, .slice none 0 0, .slice none 0 0, .string ⟨#[]⟩, .int .i64 0, .bool false, .bool false, .bool false] 42)
    have u0 := v0.later BV
    have x0 := u0.cell (i := 0) rfl
    have x1 := u0.cell (i := 1) rfl
    have x2 := u0.cell (i := 2) rfl
    have x3 := u0.cell (i := 3) rfl
    have x4 := u0.cell (i := 4) rfl
    have x5 := u0.cell (i := 5) rfl
    have x6 := u0.cell (i := 6) rfl
    have x7 := u0.cell (i := 7) rfl
    have x8 := u0.cell (i := 8) rfl
    have x9 := u0.cell (i := 9) rfl
    have x10 := u0.cell (i := 10) rfl
    have x11 := u0.cell (i := 11) rfl
    have x12 := u0.cell (i := 12) rfl
    have x13 := u0.cell (i := 13) rfl
    have v2 : RowG.Var 42 (wD.alloc (.cells #[.slice none 0 0, .slice none 0 0, .string ⟨#[]⟩, .int .i64 0, .bool false, .bool false, .bool false, .slice none 0 0, .slice none 0 0, .string ⟨#[]⟩, .int .i64 0, .bool false, .bool false, .bool false] 42)) wD.heap.size [.slice none 0 0, .slice none 0 0, .string ⟨#[]⟩, .int .i64 0, .bool false, .bool false, .bool false, .slice none 0 0, .slice none 0 0, .string ⟨#[]⟩, .int .i64 0, .bool false, .bool false, .bool false] := RowG.Var.new wD _
    have y0 := v2.cell (i := 0) rfl
    have y1 := v2.cell (i := 1) rfl
    have y2 := v2.cell (i := 2) rfl
    have y3 := v2.cell (i := 3) rfl
    have y4 := v2.cell (i := 4) rfl
    have y5 := v2.cell (i := 5) rfl
    have y6 := v2.cell (i := 6) rfl
    have y7 := v2.cell (i := 7) rfl
    have y8 := v2.cell (i := 8) rfl
    have y9 := v2.cell (i := 9) rfl
    have y10 := v2.cell (i := 10) rfl
    have y11 := v2.cell (i := 11) rfl
    have y12 := v2.cell (i := 12) rfl
    have y13 := v2.cell (i := 13) rfl
    go_wp2_with fail
    generalize wD.alloc (.cells #[.slice none 0 0, .slice none 0 0, .string ⟨#[]⟩, .int .i64 0, .bool false, .bool false, .bool false, .slice none 0 0, .slice none 0 0, .string ⟨#[]⟩, .int .i64 0, .bool false, .bool false, .bool false] 42) = V6 at *
    as_aux_lemma =>
    refine (Lin.eqPairNil _).mono ?_
    rintro x wE ⟨rfl, b5⟩
    replace v1 := v1.later b5
    replace BV := BV.trans (b5.mono BV.size)
    clear b5
    clear u0 v2 x0 x1 x2 x3 x4 x5 x6 x7 x8 x9 x10 x11 x12 x13 y0 y1 y2 y3 y4 y5 y6 y7 y8 y9 y10 y11 y12 y13
    have y0 := v1.cell (i := 0) rfl
    have y1 := v1.cell (i := 1) rfl
    have y2 := v1.cell (i := 2) rfl
    have y3 := v1.cell (i := 3) rfl
    have y4 := v1.cell (i := 4) rfl
    have y5 := v1.cell (i := 5) rfl
    have y6 := v1.cell (i := 6) rfl
    have y7 := v1.cell (i := 7) rfl
    have y8 := v1.cell (i := 8) rfl
    have y9 := v1.cell (i := 9) rfl
    have y10 := v1.cell (i := 10) rfl
    have y11 := v1.cell (i := 11) rfl
    have y12 := v1.cell (i := 12) rfl
    have y13 := v1.cell (i := 13) rfl
    go_wp2_with fail
    refine (Lin.heldPairNil _).mono ?_
    rintro x wF ⟨rfl, b5⟩
    replace v1 := v1.later b5
    replace BV := BV.trans (b5.mono BV.size)
    clear b5
    go_wp2_with fail
    go_ret
    exact ⟨rfl, b3.trans (BV.mono b3.size)⟩
  · as_aux_lemma =>
    have b3 := B2.alloc B2.size (.cells #[.slice (some ⟨g, 0, none⟩) 3 c, .slice (some ⟨g', 0, none⟩) a1.toNat c', .string ⟨#[]⟩, .int .i64 0, .bool false, .bool false, .bool false, .slice a2 3 c2, .slice (some ⟨g2, 0, none⟩) a1.toNat d2, .string ⟨#[]⟩, .int .i64 0, .bool false, .bool false, .bool false] 42)
    have v0 : RowG.Var 42 (w2.alloc (.cells #[.slice (some ⟨g, 0, none⟩) 3 c, .slice (some ⟨g', 0, none⟩) a1.toNat c', .string ⟨#[]⟩, .int .i64 0, .bool false, .bool false, .bool false, .slice a2 3 c2, .slice (some ⟨g2, 0, none⟩) a1.toNat d2, .string ⟨#[]⟩, .int .i64 0, .bool false, .bool false, .bool false] 42)) w2.heap.size [.slice (some ⟨g, 0, none⟩) 3 c, .slice (some ⟨g', 0, none⟩) a1.toNat c', .string ⟨#[]⟩, .int .i64 0, .bool false, .bool false, .bool false, .slice a2 3 c2, .slice (some ⟨g2, 0, none⟩) a1.toNat d2, .string ⟨#[]⟩, .int .i64 0, .bool false, .bool false, .bool false] := RowG.Var.new w2 _
    have OH := oH.alloc (.cells #[.slice (some ⟨g, 0, none⟩) 3 c, .slice (some ⟨g', 0, none⟩) a1.toNat c', .string ⟨#[]⟩, .int .i64 0, .bool false, .bool false, .bool false, .slice a2 3 c2, .slice (some ⟨g2, 0, none⟩) a1.toNat d2, .string ⟨#[]⟩, .int .i64 0, .bool false, .bool false, .bool false] 42)
    have OR := oR.alloc (.cells #[.slice (some ⟨g, 0, none⟩) 3 c, .slice (some ⟨g', 0, none⟩) a1.toNat c', .string ⟨#[]⟩, .int .i64 0, .bool false, .bool false, .bool false, .slice a2 3 c2, .slice (some ⟨g2, 0, none⟩) a1.toNat d2, .string ⟨#[]⟩, .int .i64 0, .bool false, .bool false, .bool false] 42)
    have N2 := N.later ((Below.refl _ _).alloc (Nat.le_refl _) (.cells #[.slice (some ⟨g, 0, none⟩) 3 c, .slice (some ⟨g', 0, none⟩) a1.toNat c', .string ⟨#[]⟩, .int .i64 0, .bool false, .bool false, .bool false, .slice a2 3 c2, .slice (some ⟨g2, 0, none⟩) a1.toNat d2, .string ⟨#[]⟩, .int .i64 0, .bool false, .bool false, .bool false] 42))
    have hn4 := Lin.caps_n hc
    clear oH oR N
    go_wp2_with fail
    generalize w2.alloc (.cells #[.slice (some ⟨g, 0, none⟩) 3 c, .slice (some ⟨g', 0, none⟩) a1.toNat c', .string ⟨#[]⟩, .int .i64 0, .bool false, .bool false, .bool false, .slice a2 3 c2, .slice (some ⟨g2, 0, none⟩) a1.toNat d2, .string ⟨#[]⟩, .int .i64 0, .bool false, .bool false, .bool false] 42) = V at *
    generalize w2.heap.size = k0 at *
    clear B2
    refine (Lin.toInts _ _ _ l _ rfl (hs.later b3) hl).mono ?_
    rintro x w3 ⟨g3, c3, rfl, o3, BV⟩
    go_wp2_with fail
    refine (Lin.implNewPair0 _ _ l _ _ o3.lies hl).mono ?_
    rintro x w4 ⟨b5, hx⟩
    replace o3 := o3.later b5
    have z3 := BV.size
    replace BV := BV.trans (b5.mono BV.size)
    have z4 := b5.size
    clear b5
    obtain ⟨pM, p1, pc1, p2, pc2, p3, pc3, p4, pc4, rfl, pz0, pz1, pz2, pA, pB, pC, pD⟩ : ∃ M g c g' c' f d f' d', x = .returned (.tuple #[.agg #[.slice (some ⟨g, 0, none⟩) 3 c, .slice (some ⟨g', 0, none⟩) a1.toNat c', .string ⟨#[]⟩, .int .i64 0, .bool false, .bool false, .bool false, .slice (some ⟨f, 0, none⟩) 3 d, .slice (some ⟨f', 0, none⟩) a1.toNat d', .string ⟨#[]⟩, .int .i64 0, .bool false, .bool false, .bool false], .bool true]) ∧ w3.heap.size ≤ M ∧ g < M ∧ g' < M ∧ Lin.H0.Own 85 w4 w3.heap.size (some ⟨g, 0, none⟩) c (Lin.newHs l 3) ∧ Roa.E.Own 97 w4 w3.heap.size (some ⟨g', 0, none⟩) c' (Lin.newRs a1.toNat) ∧ Lin.H0.Own 85 w4 M (some ⟨f, 0, none⟩) d (Lin.newHs l 3) ∧ Roa.E.Own 97 w4 M (some ⟨f', 0, none⟩) d' (Lin.newRs a1.toNat) := by
      rcases hx with ⟨hc', _⟩ | ⟨_, h⟩
      · rw [hc] at hc'; cases hc'
      · exact h
    have hp1 := (pA.lt _ rfl).2
    have hp2 := (pB.lt _ rfl).2
    have hp3 := pC.lt _ rfl
    have hp4 := pD.lt _ rfl
    simp only at hp1 hp2 hp3 hp4
    replace o3 := o3.alloc (.cells #[.slice (some ⟨p1, 0, none⟩) 3 pc1, .slice (some ⟨p2, 0, none⟩) a1.toNat pc2, .string ⟨#[]⟩, .int .i64 0, .bool false, .bool false, .bool false, .slice (some ⟨p3, 0, none⟩) 3 pc3, .slice (some ⟨p4, 0, none⟩) a1.toNat pc4, .string ⟨#[]⟩, .int .i64 0, .bool false, .bool false, .bool false] 42)
    replace pA := pA.alloc (.cells #[.slice (some ⟨p1, 0, none⟩) 3 pc1, .slice (some ⟨p2, 0, none⟩) a1.toNat pc2, .string ⟨#[]⟩, .int .i64 0, .bool false, .bool false, .bool false, .slice (some ⟨p3, 0, none⟩) 3 pc3, .slice (some ⟨p4, 0, none⟩) a1.toNat pc4, .string ⟨#[]⟩, .int .i64 0, .bool false, .bool false, .bool false] 42)
    replace pB := pB.alloc (.cells #[.slice (some ⟨p1, 0, none⟩) 3 pc1, .slice (some ⟨p2, 0, none⟩) a1.toNat pc2, .string ⟨#[]⟩, .int .i64 0, .bool false, .bool false, .bool false, .slice (some ⟨p3, 0, none⟩) 3 pc3, .slice (some ⟨p4, 0, none⟩) a1.toNat pc4, .string ⟨#[]⟩, .int .i64 0, .bool false, .bool false, .bool false] 42)
    replace pC := pC.alloc (.cells #[.slice (some ⟨p1, 0, none⟩) 3 pc1, .slice (some ⟨p2, 0, none⟩) a1.toNat pc2, .string ⟨#[]⟩, .int .i64 0, .bool false, .bool false, .bool false, .slice (some ⟨p3, 0, none⟩) 3 pc3, .slice (some ⟨p4, 0, none⟩) a1.toNat pc4, .string ⟨#[]⟩, .int .i64 0, .bool false, .bool false, .bool false] 42)
    replace pD := pD.alloc (.cells #[.slice (some ⟨p1, 0, none⟩) 3 pc1, .slice (some ⟨p2, 0, none⟩) a1.toNat pc2, .string ⟨#[]⟩, .int .i64 0, .bool false, .bool false, .bool false, .slice (some ⟨p3, 0, none⟩) 3 pc3, .slice (some ⟨p4, 0, none⟩) a1.toNat pc4, .string ⟨#[]⟩, .int .i64 0, .bool false, .bool false, .bool false] 42)
    replace BV := BV.alloc BV.size (.cells #[.slice (some ⟨p1, 0, none⟩) 3 pc1, .slice (some ⟨p2, 0, none⟩) a1.toNat pc2, .string ⟨#[]⟩, .int .i64 0, .bool false, .bool false, .bool false, .slice (some ⟨p3, 0, none⟩) 3 pc3, .slice (some ⟨p4, 0, none⟩) a1.toNat pc4, .string ⟨#[]⟩, .int .i64 0, .bool false, .bool false, .bool false] 42)
    have v1 : RowG.Var 42 (w4.alloc (.cells #[.slice (some ⟨p1, 0, none⟩) 3 pc1, .slice (some ⟨p2, 0, none⟩) a1.toNat pc2, .string ⟨#[]⟩, .int .i64 0, .bool false, .bool false, .bool false, .slice (some ⟨p3, 0, none⟩) 3 pc3, .slice (some ⟨p4, 0, none⟩) a1.toNat pc4, .string ⟨#[]⟩, .int .i64 0, .bool false, .bool false, .bool false] 42)) w4.heap.size [.slice (some ⟨p1, 0, none⟩) 3 pc1, .slice (some ⟨p2, 0, none⟩) a1.toNat pc2, .string ⟨#[]⟩, .int .i64 0, .bool false, .bool false, .bool false, .slice (some ⟨p3, 0, none⟩) 3 pc3, .slice (some ⟨p4, 0, none⟩) a1.toNat pc4, .string ⟨#[]⟩, .int .i64 0, .bool false, .bool false, .bool false] := RowG.Var.new w4 _
    have u0 := v0.later BV
    have x0 := u0.cell (i := 0) rfl
    have x1 := u0.cell (i := 1) rfl
    have x2 := u0.cell (i := 2) rfl
    have x3 := u0.cell (i := 3) rfl
    have x4 := u0.cell (i := 4) rfl
    have x5 := u0.cell (i := 5) rfl
    have x6 := u0.cell (i := 6) rfl
    have x7 := u0.cell (i := 7) rfl
    have x8 := u0.cell (i := 8) rfl
    have x9 := u0.cell (i := 9) rfl
    have x10 := u0.cell (i := 10) rfl
    have x11 := u0.cell (i := 11) rfl
    have x12 := u0.cell (i := 12) rfl
    have x13 := u0.cell (i := 13) rfl
    have y0 := v1.cell (i := 0) rfl
    have y1 := v1.cell (i := 1) rfl
    have y2 := v1.cell (i := 2) rfl
    have y3 := v1.cell (i := 3) rfl
    have y4 := v1.cell (i := 4) rfl
    have y5 := v1.cell (i := 5) rfl
    have y6 := v1.cell (i := 6) rfl
    have y7 := v1.cell (i := 7) rfl
    have y8 := v1.cell (i := 8) rfl
    have y9 := v1.cell (i := 9) rfl
    have y10 := v1.cell (i := 10) rfl
    have y11 := v1.cell (i := 11) rfl
    have y12 := v1.cell (i := 12) rfl
    have y13 := v1.cell (i := 13) rfl
    go_wp2_with fail
    generalize w4.alloc (.cells #[.slice (some ⟨p1, 0, none⟩) 3 pc1, .slice (some ⟨p2, 0, none⟩) a1.toNat pc2, .string ⟨#[]⟩, .int .i64 0, .bool false, .bool false, .bool false, .slice (some ⟨p3, 0, none⟩) 3 pc3, .slice (some ⟨p4, 0, none⟩) a1.toNat pc4, .string ⟨#[]⟩, .int .i64 0, .bool false, .bool false, .bool false] 42) = V4 at *
    refine (Lin.eqPair1 _ _ _ _ _ _ _ _ _ _ _ _ _ _ _ _ 3 a1.toNat (Lin.newHs l 3) _ (Lin.newRs a1.toNat) _ (Lin.newHs_len l 3).symm (Lin.newRs_len _).symm pA.lies (OH.later BV).lies pB.lies (OR.later BV).lies pC.lies (N2.later BV).L.row.lies N2.hs pD.lies (N2.later BV).R.lies (by rw [Lin.newHs_len]; decide) (by rw [Lin.newRs_len]; omega)).mono ?_
    rintro x w5 ⟨rfl, b5⟩
    replace v1 := v1.later b5
    replace pA := pA.later b5
    replace pB := pB.later b5
    replace pC := pC.later b5
    replace pD := pD.later b5
    replace o3 := o3.later b5
    replace BV := BV.trans (b5.mono BV.size)
    clear b5
    clear u0 x0 x1 x2 x3 x4 x5 x6 x7 x8 x9 x10 x11 x12 x13 y0 y1 y2 y3 y4 y5 y6 y7 y8 y9 y10 y11 y12 y13
    as_aux_lemma =>
    go_wp2_with fail
    refine (Lin.toInts _ _ _ l _ rfl (hs.later (b3.trans (BV.mono b3.size))) hl).mono ?_
    rintro x w6 ⟨g6, c6, rfl, o6, b5⟩
    replace v1 := v1.later b5
    replace pA := pA.later b5
    replace pB := pB.later b5
    replace pC := pC.later b5
    replace pD := pD.later b5
    replace o3 := o3.later b5
    replace BV := BV.trans (b5.mono BV.size)
    clear b5
    go_wp2_with fail
    refine (Lin.eqInts _ _ _ _ _ _ _ _ l _ rfl rfl o3 o6 (by omega)).mono ?_
    rintro x w7 ⟨rfl, b5⟩
    replace v1 := v1.later b5
    replace pA := pA.later b5
    replace pB := pB.later b5
    replace pC := pC.later b5
    replace pD := pD.later b5
    replace o3 := o3.later b5
    replace BV := BV.trans (b5.mono BV.size)
    clear b5
    clear o6
    go_wp2_with fail
    refine (Lin.markInts _ _ _ _ l _ rfl o3 (by omega)).mono ?_
    rintro x w8 ⟨rfl, k8⟩
    have h3 := (o3.lt _ rfl).1
    simp only at h3
    replace v1 := v1.kept k8 (Ne.symm (RowG.own_varS (by decide) o3 v1))
    replace pA := pA.kept k8 (fun y hy => by cases hy; exact RowG.own_twoS (by decide) pA o3)
    replace pB := pB.kept k8 (fun y hy => by cases hy; exact RowG.own_twoS (by decide) pB o3)
    replace pC := pC.kept k8 (fun y hy => by cases hy; exact RowG.own_twoS (by decide) pC o3)
    replace pD := pD.kept k8 (fun y hy => by cases hy; exact RowG.own_twoS (by decide) pD o3)
    replace BV := BV.trans (k8.below h3 BV.size)
    have z8 := k8.size
    clear k8 o3 h3
    have hneg : ¬ (1 + (l.length : Int)) < 0 := by omega
    have u0 := v0.later BV
    have x0 := u0.cell (i := 0) rfl
    have x1 := u0.cell (i := 1) rfl
    have x2 := u0.cell (i := 2) rfl
    have x3 := u0.cell (i := 3) rfl
    have x4 := u0.cell (i := 4) rfl
    have x5 := u0.cell (i := 5) rfl
    have x6 := u0.cell (i := 6) rfl
    have x7 := u0.cell (i := 7) rfl
    have x8 := u0.cell (i := 8) rfl
    have x9 := u0.cell (i := 9) rfl
    have x10 := u0.cell (i := 10) rfl
    have x11 := u0.cell (i := 11) rfl
    have x12 := u0.cell (i := 12) rfl
    have x13 := u0.cell (i := 13) rfl
    have y0 := v1.cell (i := 0) rfl
    have y1 := v1.cell (i := 1) rfl
    have y2 := v1.cell (i := 2) rfl
    have y3 := v1.cell (i := 3) rfl
    have y4 := v1.cell (i := 4) rfl
    have y5 := v1.cell (i := 5) rfl
    have y6 := v1.cell (i := 6) rfl
    have y7 := v1.cell (i := 7) rfl
    have y8 := v1.cell (i := 8) rfl
    have y9 := v1.cell (i := 9) rfl
    have y10 := v1.cell (i := 10) rfl
    have y11 := v1.cell (i := 11) rfl
    have y12 := v1.cell (i := 12) rfl
    have y13 := v1.cell (i := 13) rfl
    as_aux_lemma =>
    go_wp2_with fail
    refine (Lin.eqPair1 _ _ _ _ _ _ _ _ _ _ _ _ _ _ _ _ 3 a1.toNat (Lin.newHs l 3) _ (Lin.newRs a1.toNat) _ (Lin.newHs_len l 3).symm (Lin.newRs_len _).symm pA.lies (OH.later BV).lies pB.lies (OR.later BV).lies pC.lies (N2.later BV).L.row.lies N2.hs pD.lies (N2.later BV).R.lies (by rw [Lin.newHs_len]; decide) (by rw [Lin.newRs_len]; omega)).mono ?_
    rintro x w9 ⟨rfl, b5⟩
    replace v1 := v1.later b5
    replace pA := pA.later b5
    replace pB := pB.later b5
    replace pC := pC.later b5
    replace pD := pD.later b5
    replace BV := BV.trans (b5.mono BV.size)
    clear b5
    clear u0 x0 x1 x2 x3 x4 x5 x6 x7 x8 x9 x10 x11 x12 x13 y0 y1 y2 y3 y4 y5 y6 y7 y8 y9 y10 y11 y12 y13 hneg
    have y0 := v1.cell (i := 0) rfl
    have y1 := v1.cell (i := 1) rfl
    have y2 := v1.cell (i := 2) rfl
    have y3 := v1.cell (i := 3) rfl
    have y4 := v1.cell (i := 4) rfl
    have y5 := v1.cell (i := 5) rfl
    have y6 := v1.cell (i := 6) rfl
    have y7 := v1.cell (i := 7) rfl
    have y8 := v1.cell (i := 8) rfl
    have y9 := v1.cell (i := 9) rfl
    have y10 := v1.cell (i := 10) rfl
    have y11 := v1.cell (i := 11) rfl
    have y12 := v1.cell (i := 12) rfl
    have y13 := v1.cell (i := 13) rfl
    as_aux_lemma =>
    have hv1 := v1.lt
    have n1 := RowG.own_varS (by decide) pA v1
    have n2 := RowG.own_varS (by decide) pB v1
    have n3 := RowG.own_varS (by decide) pC v1
    have n4 := RowG.own_varS (by decide) pD v1
    have hMs : pM ≤ w9.heap.size := by have := (pC.lt _ rfl); simp only at this; omega
    go_wp2_with fail
    refine (Lin.markPair0 w3.heap.size pM p1 pc1 p2 pc2 p3 pc3 p4 pc4 3 a1.toNat _ _ _ (Lin.newHs_len l 3).symm (Lin.newRs_len _).symm pA pB pC pD pz0 hMs pz1 pz2 (by rw [Lin.newHs_len]; decide) (by rw [Lin.newRs_len]; omega)).mono ?_
    rintro x wA ⟨rfl, mA, mB, mC, mD, bA, sA⟩
    replace v1 := v1.same (sA _ hv1 (Ne.symm n1) (Ne.symm n2) (Ne.symm n3) (Ne.symm n4))
    replace BV := BV.trans (bA.mono z3)
    clear pA pB pC pD bA sA n1 n2 n3 n4 hv1 hMs
    clear y0 y1 y2 y3 y4 y5 y6 y7 y8 y9 y10 y11 y12 y13
    have y0 := v1.cell (i := 0) rfl
    have y1 := v1.cell (i := 1) rfl
    have y2 := v1.cell (i := 2) rfl
    have y3 := v1.cell (i := 3) rfl
    have y4 := v1.cell (i := 4) rfl
    have y5 := v1.cell (i := 5) rfl
    have y6 := v1.cell (i := 6) rfl
    have y7 := v1.cell (i := 7) rfl
    have y8 := v1.cell (i := 8) rfl
    have y9 := v1.cell (i := 9) rfl
    have y10 := v1.cell (i := 10) rfl
    have y11 := v1.cell (i := 11) rfl
    have y12 := v1.cell (i := 12) rfl
    have y13 := v1.cell (i := 13) rfl
    have hq : ¬ (1 + 11 * ((3 : Nat) : Int) + 4 * (a1.toNat : Int) + 11 * ((3 : Nat) : Int) + 4 * (a1.toNat : Int)) < 0 := by omega
    as_aux_lemma =>
    go_wp2_with fail
    refine (Lin.heldPair0 _ _ _ _ _ _ _ _ 3 a1.toNat _ mA mB mC mD (by decide) (by omega)).mono ?_
    rintro x wB ⟨rfl, b5⟩
    replace v1 := v1.later b5
    replace mA := mA.later b5
    replace mB := mB.later b5
    replace mC := mC.later b5
    replace mD := mD.later b5
    replace BV := BV.trans (b5.mono BV.size)
    clear b5
    clear y0 y1 y2 y3 y4 y5 y6 y7 y8 y9 y10 y11 y12 y13
    as_aux_lemma =>
    go_wp2_with fail
    refine (Lin.toInts _ _ _ l _ rfl (hs.later (b3.trans (BV.mono b3.size))) hl).mono ?_
    rintro x wC ⟨gI, cI, rfl, oI, b5⟩
    replace v1 := v1.later b5
    replace mA := mA.later b5
    replace mB := mB.later b5
    replace mC := mC.later b5
    replace mD := mD.later b5
    replace BV := BV.trans (b5.mono BV.size)
    clear b5
    go_wp2_with fail
    refine (Lin.implNewPair0 _ _ l _ _ oI.lies hl).mono ?_
    rintro x wD ⟨b5, hx⟩
    clear oI
    replace v1 := v1.later b5
    replace mA := mA.later b5
    replace mB := mB.later b5
    replace mC := mC.later b5
    replace mD := mD.later b5
    replace BV := BV.trans (b5.mono BV.size)
    clear b5
    obtain ⟨qM, q1, qc1, q2, qc2, q3, qc3, q4, qc4, rfl, qz0, qz1, qz2, qA, qB, qC, qD⟩ : ∃ M g c g' c' f d f' d', x = .returned (.tuple #[.agg #[.slice (some ⟨g, 0, none⟩) 3 c, .slice (some ⟨g', 0, none⟩) a1.toNat c', .string ⟨#[]⟩, .int .i64 0, .bool false, .bool false, .bool false, .slice (some ⟨f, 0, none⟩) 3 d, .slice (some ⟨f', 0, none⟩) a1.toNat d', .string ⟨#[]⟩, .int .i64 0, .bool false, .bool false, .bool false], .bool true]) ∧ wC.heap.size ≤ M ∧ g < M ∧ g' < M ∧ Lin.H0.Own 85 wD wC.heap.size (some ⟨g, 0, none⟩) c (Lin.newHs l 3) ∧ Roa.E.Own 97 wD wC.heap.size (some ⟨g', 0, none⟩) c' (Lin.newRs a1.toNat) ∧ Lin.H0.Own 85 wD M (some ⟨f, 0, none⟩) d (Lin.newHs l 3) ∧ Roa.E.Own 97 wD M (some ⟨f', 0, none⟩) d' (Lin.newRs a1.toNat) := by
      rcases hx with ⟨hc', _⟩ | ⟨_, h⟩
      · rw [hc] at hc'; cases hc'
      · exact h
    replace v1 := v1.alloc (.cells #[.slice (some ⟨q1, 0, none⟩) 3 qc1, .slice (some ⟨q2, 0, none⟩) a1.toNat qc2, .string ⟨#[]⟩, .int .i64 0, .bool false, .bool false, .bool false, .slice (some ⟨q3, 0, none⟩) 3 qc3, .slice (some ⟨q4, 0, none⟩) a1.toNat qc4, .string ⟨#[]⟩, .int .i64 0, .bool false, .bool false, .bool false] 42)
    replace mA := mA.later ((Below.refl _ _).alloc (Nat.le_refl _) (.cells #[.slice (some ⟨q1, 0, none⟩) 3 qc1, .slice (some ⟨q2, 0, none⟩) a1.toNat qc2, .string ⟨#[]⟩, .int .i64 0, .bool false, .bool false, .bool false, .slice (some ⟨q3, 0, none⟩) 3 qc3, .slice (some ⟨q4, 0, none⟩) a1.toNat qc4, .string ⟨#[]⟩, .int .i64 0, .bool false, .bool false, .bool false] 42))
    replace mB := mB.later ((Below.refl _ _).alloc (Nat.le_refl _) (.cells #[.slice (some ⟨q1, 0, none⟩) 3 qc1, .slice (some ⟨q2, 0, none⟩) a1.toNat qc2, .string ⟨#[]⟩, .int .i64 0, .bool false, .bool false, .bool false, .slice (some ⟨q3, 0, none⟩) 3 qc3, .slice (some ⟨q4, 0, none⟩) a1.toNat qc4, .string ⟨#[]⟩, .int .i64 0, .bool false, .bool false, .bool false] 42))
    replace mC := mC.later ((Below.refl _ _).alloc (Nat.le_refl _) (.cells #[.slice (some ⟨q1, 0, none⟩) 3 qc1, .slice (some ⟨q2, 0, none⟩) a1.toNat qc2, .string ⟨#[]⟩, .int .i64 0, .bool false, .bool false, .bool false, .slice (some ⟨q3, 0, none⟩) 3 qc3, .slice (some ⟨q4, 0, none⟩) a1.toNat qc4, .string ⟨#[]⟩, .int .i64 0, .bool false, .bool false, .bool false] 42))
    replace mD := mD.later ((Below.refl _ _).alloc (Nat.le_refl _) (.cells #[.slice (some ⟨q1, 0, none⟩) 3 qc1, .slice (some ⟨q2, 0, none⟩) a1.toNat qc2, .string ⟨#[]⟩, .int .i64 0, .bool false, .bool false, .bool false, .slice (some ⟨q3, 0, none⟩) 3 qc3, .slice (some ⟨q4, 0, none⟩) a1.toNat qc4, .string ⟨#[]⟩, .int .i64 0, .bool false, .bool false, .bool false] 42))
    replace qA := qA.alloc (.cells #[.slice (some ⟨q1, 0, none⟩) 3 qc1, .slice (some ⟨q2, 0, none⟩) a1.toNat qc2, .string ⟨#[]⟩, .int .i64 0, .bool false, .bool false, .bool false, .slice (some ⟨q3, 0, none⟩) 3 qc3, .slice (some ⟨q4, 0, none⟩) a1.toNat qc4, .string ⟨#[]⟩, .int .i64 0, .bool false, .bool false, .bool false] 42)
    replace qB := qB.alloc (.cells #[.slice (some ⟨q1, 0, none⟩) 3 qc1, .slice (some ⟨q2, 0, none⟩) a1.toNat qc2, .string ⟨#[]⟩, .int .i64 0, .bool false, .bool false, .bool false, .slice (some ⟨q3, 0, none⟩) 3 qc3, .slice (some ⟨q4, 0, none⟩) a1.toNat qc4, .string ⟨#[]⟩, .int .i64 0, .bool false, .bool false, .bool false] 42)
    replace qC := qC.alloc (.cells #[.slice (some ⟨q1, 0, none⟩) 3 qc1, .slice (some ⟨q2, 0, none⟩) a1.toNat qc2, .string ⟨#[]⟩, .int .i64 0, .bool false, .bool false, .bool false, .slice (some ⟨q3, 0, none⟩) 3 qc3, .slice (some ⟨q4, 0, none⟩) a1.toNat qc4, .string ⟨#[]⟩, .int .i64 0, .bool false, .bool false, .bool false] 42)
    replace qD := qD.alloc (.cells #[.slice (some ⟨q1, 0, none⟩) 3 qc1, .slice (some ⟨q2, 0, none⟩) a1.toNat qc2, .string ⟨#[]⟩, .int .i64 0, .bool false, .bool false, .bool false, .slice (some ⟨q3, 0, none⟩) 3 qc3, .slice (some ⟨q4, 0, none⟩) a1.toNat qc4, .string ⟨#[]⟩, .int .i64 0, .bool false, .bool false, .bool false] 42)
    replace BV := BV.alloc BV.size (.cells #[.slice (some ⟨q1, 0, none⟩) 3 qc1, .slice (some ⟨q2, 0, none⟩) a1.toNat qc2, .string ⟨#[]⟩, .int .i64 0, .bool false, .bool false, .bool false, .slice (some ⟨q3, 0, none⟩) 3 qc3, .slice (some ⟨q4, 0, none⟩) a1.toNat qc4, .string ⟨#[]⟩, .int .i64 0, .bool false, .bool false, .bool false] 42)
    have u0 := v0.later BV
    have x0 := u0.cell (i := 0) rfl
    have x1 := u0.cell (i := 1) rfl
    have x2 := u0.cell (i := 2) rfl
    have x3 := u0.cell (i := 3) rfl
    have x4 := u0.cell (i := 4) rfl
    have x5 := u0.cell (i := 5) rfl
    have x6 := u0.cell (i := 6) rfl
    have x7 := u0.cell (i := 7) rfl
    have x8 := u0.cell (i := 8) rfl
    have x9 := u0.cell (i := 9) rfl
    have x10 := u0.cell (i := 10) rfl
    have x11 := u0.cell (i := 11) rfl
    have x12 := u0.cell (i := 12) rfl
    have x13 := u0.cell (i := 13) rfl
    have v2 : RowG.Var 42 (wD.alloc (.cells #[.slice (some ⟨q1, 0, none⟩) 3 qc1, .slice (some ⟨q2, 0, none⟩) a1.toNat qc2, .string ⟨#[]⟩, .int .i64 0, .bool false, .bool false, .bool false, .slice (some ⟨q3, 0, none⟩) 3 qc3, .slice (some ⟨q4, 0, none⟩) a1.toNat qc4, .string ⟨#[]⟩, .int .i64 0, .bool false, .bool false, .bool false] 42)) wD.heap.size [.slice (some ⟨q1, 0, none⟩) 3 qc1, .slice (some ⟨q2, 0, none⟩) a1.toNat qc2, .string ⟨#[]⟩, .int .i64 0, .bool false, .bool false, .bool false, .slice (some ⟨q3, 0, none⟩) 3 qc3, .slice (some ⟨q4, 0, none⟩) a1.toNat qc4, .string ⟨#[]⟩, .int .i64 0, .bool false, .bool false, .bool false] := RowG.Var.new wD _
    have y0 := v2.cell (i := 0) rfl
    have y1 := v2.cell (i := 1) rfl
    have y2 := v2.cell (i := 2) rfl
    have y3 := v2.cell (i := 3) rfl
    have y4 := v2.cell (i := 4) rfl
    have y5 := v2.cell (i := 5) rfl
    have y6 := v2.cell (i := 6) rfl
    have y7 := v2.cell (i := 7) rfl
    have y8 := v2.cell (i := 8) rfl
    have y9 := v2.cell (i := 9) rfl
    have y10 := v2.cell (i := 10) rfl
    have y11 := v2.cell (i := 11) rfl
    have y12 := v2.cell (i := 12) rfl
    have y13 := v2.cell (i := 13) rfl
    go_wp2_with fail
    generalize wD.alloc (.cells #[.slice (some ⟨q1, 0, none⟩) 3 qc1, .slice (some ⟨q2, 0, none⟩) a1.toNat qc2, .string ⟨#[]⟩, .int .i64 0, .bool false, .bool false, .bool false, .slice (some ⟨q3, 0, none⟩) 3 qc3, .slice (some ⟨q4, 0, none⟩) a1.toNat qc4, .string ⟨#[]⟩, .int .i64 0, .bool false, .bool false, .bool false] 42) = V6 at *
    as_aux_lemma =>
    refine (Lin.eqPair1 _ _ _ _ _ _ _ _ _ _ _ _ _ _ _ _ 3 a1.toNat (Lin.newHs l 3) _ (Lin.newRs a1.toNat) _ (Lin.newHs_len l 3).symm (Lin.newRs_len _).symm qA.lies (OH.later BV).lies qB.lies (OR.later BV).lies qC.lies (N2.later BV).L.row.lies N2.hs qD.lies (N2.later BV).R.lies (by rw [Lin.newHs_len]; decide) (by rw [Lin.newRs_len]; omega)).mono ?_
    rintro x wE ⟨rfl, b5⟩
    replace v1 := v1.later b5
    replace mA := mA.later b5
    replace mB := mB.later b5
    replace mC := mC.later b5
    replace mD := mD.later b5
    replace BV := BV.trans (b5.mono BV.size)
    clear b5
    clear u0 v2 x0 x1 x2 x3 x4 x5 x6 x7 x8 x9 x10 x11 x12 x13 y0 y1 y2 y3 y4 y5 y6 y7 y8 y9 y10 y11 y12 y13
    have y0 := v1.cell (i := 0) rfl
    have y1 := v1.cell (i := 1) rfl
    have y2 := v1.cell (i := 2) rfl
    have y3 := v1.cell (i := 3) rfl
    have y4 := v1.cell (i := 4) rfl
    have y5 := v1.cell (i := 5) rfl
    have y6 := v1.cell (i := 6) rfl
    have y7 := v1.cell (i := 7) rfl
    have y8 := v1.cell (i := 8) rfl
    have y9 := v1.cell (i := 9) rfl
    have y10 := v1.cell (i := 10) rfl
    have y11 := v1.cell (i := 11) rfl
    have y12 := v1.cell (i := 12) rfl
    have y13 := v1.cell (i := 13) rfl
    go_wp2_with fail
    refine (Lin.heldPair0 _ _ _ _ _ _ _ _ 3 a1.toNat _ mA mB mC mD (by decide) (by omega)).mono ?_
    rintro x wF ⟨rfl, b5⟩
    replace v1 := v1.later b5
    replace mA := mA.later b5
    replace mB := mB.later b5
    replace mC := mC.later b5
    replace mD := mD.later b5
    replace BV := BV.trans (b5.mono BV.size)
    clear b5
    go_wp2_with fail
    go_ret
    exact ⟨rfl, b3.trans (BV.mono b3.size)⟩

/-! ### THE ROW's STEP: WRITTEN OUT: LEAVE IT -/
set_option maxRecDepth 100000 in
theorem lifted (os : Os) (started : os.Started) (H : Type) (enc : TypeId × Value → H) :
    ReturnsInHanded {} Try.checked os 4 .any (Rows.fnExactNewPairSpec.pre6 enc Try.prog Try.f4 Rows.fnExactNewPairRow.domain false) (Rows.fnExactNewPairSpec.post enc Try.prog Try.f4 false true false false) := by
  refine returnsInHanded_of_change (C := Try.checked) own started (by kernel_rfl) Try.func4
    (ChangeSpec.witness6 (enc := enc) (C := Try.checked) false ⟨#[], #[.slice none 0 0, .int .i64 0], []⟩ 8 (by kernel_rfl) (by kernel_rfl) (by kernel_rfl) (by kernel_rfl)) ?_
  intro W base args ds gs before hval0 hW hcnd _
  have hval : ∀ (j : Nat) t v, Try.f4.params[j]? = some t → args[j]? = some v → Value.okWide Try.prog W .any base t v := hval0
  have hW' := hW
  obtain ⟨p, q, hA0, hV, rfl, hfz, hnd⟩ := hW
  have hA : DataW.TrodAll enc Try.prog W 0 (fun _ => true) true Try.f4.params.toList args.toList ds p := hA0
  rw [Try.params4] at hA hval
  obtain ⟨v0, vs0, d0, ds0, p0, q0, hargs, rfl, rfl, h0, r0⟩ := trodAll_cons hA
  obtain ⟨v1, vs1, d1, ds1, p1, q1, rfl, rfl, rfl, h1, r1⟩ := trodAll_cons r0
  obtain ⟨rfl, rfl, rfl⟩ := trodAll_nil r1
  obtain rfl : args = #[v0, v1] := by cases args; simp_all
  obtain ⟨rfl, rfl⟩ := trodVars_none hV
  obtain ⟨a0, len0, cap0, rfl⟩ := okWide_slice Try.underlying46 (hval 0 46 v0 rfl rfl)
  have k0 := h0
  have lt0 : ∀ x ∈ p0, x.block < W.heap.size := by obtain ⟨m, hm⟩ := k0; exact DataW.trod_lt m _ _ _ hm
  obtain ⟨z0, w0⟩ : ∃ zs, IsRow .i64 W a0 len0 cap0 zs := by
    obtain ⟨fuel, hf⟩ := h0
    rcases open_ints Try.underlying46 Try.underlying2 (by kernel_rfl) hf with ⟨hcs, _⟩ | ⟨x, l, c, zs, hcs, _, hl, hm, hz, _, hcell, hwz⟩
    · simp [Value.cells] at hcs
      obtain ⟨rfl, rfl, rfl⟩ := hcs
      exact ⟨[], .inl ⟨rfl, rfl, rfl, rfl⟩⟩
    · simp [Value.cells] at hcs
      obtain ⟨rfl, rfl, rfl⟩ := hcs
      exact ⟨zs, .inr ⟨_, rfl, hl, hm, by simpa using hz, hcell, hwz⟩⟩
  obtain ⟨a1, rfl, rfl, rfl, w1⟩ := open_int Try.underlying2 (hval 1 2 v1 rfl rfl) h1
  clear hA0 hval0
  refine (walk a0 len0 cap0 z0 a1 W w0 w1).mono fun e W' ⟨he, bel⟩ => ?_
  subst he
  exact ⟨_, rfl, _, _, _, [], _, [], hW', trodAll_mk1 (shut_bool Try.underlying4 _), (trodAll_cons_mk (Below.trod laidOut (by kernel_rfl) (of_decide_eq_true (by kernel_rfl)) k0 bel lt0) (trodAll_cons_mk (shut_int Try.underlying2 w1) trodAll_mk0)), rfl, bel.frame _, fun h => by cases h⟩

theorem over : Rows.fnExactNewPairRow.holds Try.pinned (OpenSpec.ofChange Rows.fnExactNewPairSpec) :=
  OpenClaim.holds_of_wide 4 Try.f4 rfl rfl rfl rfl rfl rfl rfl ⟨rfl, rfl, rfl, rfl, rfl⟩ rfl rfl rfl rfl rfl (by kernel_rfl) Try.func4 (by kernel_rfl)
    (of_decide_eq_true (by kernel_rfl)) (by unfold Func.isWrapper; first | (rw [if_pos (by decide +kernel)]; kernel_rfl) | (rw [if_neg (by decide +kernel)]; exact ⟨rfl, rfl⟩))
    (fun os started H enc _ => lifted os started H enc)

/-- THE STATEMENT. -/
theorem proved : Rows.FnExactNewPairSaid := over
end Go.Proofs.Ytldghgadkncehaa.fnExactNewPair
namespace Go.Proofs.Ytldghgadkncehaa
theorem fnExactNewPair_holds : Rows.FnExactNewPairSaid := fnExactNewPair.proved
#print axioms fnExactNewPair_holds
end Go.Proofs.Ytldghgadkncehaa

/- At every stream and text the program's WasRead answers as the specification's WasRead (texts of more than 2^20 bytes the law itself lets by), so FnExactWasRead returns true; the package's error variables hold what the program's text lays (the tie is given). (Its frame is the guide's shell; the walk is mine.) -/
import Derived.Test.YtddicibpfmjgfaaDoorRows
import Derived.Test.YtddicibpfmjgfaaDoorStrB
import Derived.Test.YtddicibpfmjgfaaDoorStrQ
import Derived.Test.YtddicibpfmjgfaaDoorLawSt
import Derived.Test.YtddicibpfmjgfaaDoorLaidSt
import Derived.WalkKit
import Derived.ProofKit
import Derived.OpenShut
import Derived.ShutString
import Derived.ChangeOld
import Derived.Below
import Derived.Test.YtddicibpfmjgfaaDoorShape
import Derived.Test.YtddicibpfmjgfaaDoorCards
import Derived.Test.YtddicibpfmjgfaaDoorTie
import Derived.LaidMore
import Derived.SevenTiedAt
namespace Go.Proofs.YtddicibpfmjgfaaDoor.fnExactWasRead
open Go.ChangeShapes Go.WideShapes Go.ChangeAt Go.RowKit
open Go.ChangeMaps (open_string shut_string)
set_option linter.unusedVariables false
set_option linter.unusedSimpArgs false

theorem own : ownKnob Tryd.prog.godebug = none := by kernel_rfl
theorem laidOut : laidOutB Tryd.prog = true := by kernel_rfl
/-- What the walk is told of a slice of integers that came in. -/
def IsRow (k : IntKind) (w : World) (a : Option Addr) (len cap : Nat) (zs : List Int) : Prop :=
  (a = none ∧ len = 0 ∧ cap = 0 ∧ zs = []) ∨
  ∃ x, a = some x ∧ len ≤ cap ∧ cap ≤ maxLen ∧ zs.length = cap ∧ (∀ i, i < zs.length → w.cell? (x.add i) = some (.int k (zs.getD i 0))) ∧ ∀ n ∈ zs, (Lit.int k n).wf = true

theorem gW : Tryd.prog.globalNamed "loop.example/g00450/impl.errWrongStream" = some 0 := by kernel_rfl
theorem tW : (Tryd.prog.globals[0]?).map (·.type) = some 52 := by kernel_rfl
theorem gO : Tryd.prog.globalNamed "loop.example/g00450/impl.errOtherBytes" = some 1 := by kernel_rfl
theorem tO : (Tryd.prog.globals[1]?).map (·.type) = some 52 := by kernel_rfl

set_option linter.unusedSimpArgs false in
set_option maxRecDepth 20000 in
set_option maxHeartbeats 40000000 in
theorem walk (cs0 : Array Value) (a1 : ByteArray) (w : World) (aW aO : Addr) (H : Str.Hnd w) (SW : Str.Sen 0 aW w) (SO : Str.Sen 1 aO w) (nO : aO ≠ aW) (w0 : Shp.Shape.Holds w (.struct (.cons (.str) (.cons (.int .i64) (.cons (.bool) (.cons (.bool) (.cons (.bool) (.nil))))))) cs0.toList) (w1 : a1.size ≤ maxLen) :
    Calls Tryd.prog 5 #[.agg cs0, .string a1] w fun e w' => e = .returned (.bool true) ∧ Below w.heap.size w w' := by
  obtain ⟨s, rfl, hb⟩ := Str.stream_of w0
  clear w0
  have hw1 : (a1.size : Int) ≤ 9223372036854775807 := by unfold maxLen at w1; omega
  clear w1
  by_cases ht : (1048576 : Int) < (a1.size : Int)
  case pos =>
    obtain ⟨tx, rd, en, dn, sn⟩ := s
    dsimp only [Str.Sm.v] at *
    go_enter Tryd.func5, Tryd.ntmps5
    go_wp2_with fail
    go_ret
    exact ⟨rfl, (Below.refl _ _).alloc (Nat.le_refl _) _⟩
  have hs1 : a1.size ≤ 2097152 := by omega
  by_cases h : (s.tx.size : Int) ≤ 1048576
  case neg =>
    have hif : Hid ((if (1048576 : Int) < (s.tx.size : Int) then (-1 : Int) else 1048576 - (s.tx.size : Int)) = -1) := if_pos (by omega)
    have hZ := fun w' => Str.szStream s 1048576 w' hb (by decide) (by decide)
    rw [hif.out] at hZ
    obtain ⟨tx, rd, en, dn, sn⟩ := s
    dsimp only [Str.Sm.v] at *
    go_enter Tryd.func5, Tryd.ntmps5
    go_wp2_with fail
    refine (hZ _).mono ?_
    rintro x w1 ⟨rfl, hB1⟩
    go_wp2_with fail
    go_ret
    exact ⟨rfl, ((Below.refl _ _).alloc (Nat.le_refl _) _).trans (hB1.mono (by simp))⟩
  have hs : s.tx.size ≤ 2097152 := by omega
  have hif : Hid ((if (1048576 : Int) < (s.tx.size : Int) then (-1 : Int) else 1048576 - (s.tx.size : Int)) = 1048576 - (s.tx.size : Int)) := if_neg (by omega)
  have hpos : ¬ (1048576 : Int) - (s.tx.size : Int) < 0 := by omega
  have hZ := fun w' => Str.szStream s 1048576 w' hb (by decide) (by decide)
  have hT := fun w' => Str.toStream s w'
  have hS := fun w' => Str.specWasRead s a1 w' hs hs1
  have hI := fun w' (q : Below w.heap.size w w') => Str.implWasRead s a1 w' aW aO (H.below q (Nat.le_refl _)) (SW.below q (Nat.le_refl _)) (SO.below q (Nat.le_refl _)) nO hs hs1
  rw [hif.out] at hZ
  generalize Str.wasS s a1 = R at *
  obtain ⟨⟨rt, rr, re, rn, rs⟩, rc⟩ := R
  have hE := fun w' => Str.eqStream ⟨rt, rr, re, rn, rs⟩ w'
  obtain ⟨tx, rd, en, dn, sn⟩ := s
  dsimp only [Str.Sm.v] at *
  have v0 : RowG.Var 35 (w.alloc (.cells #[.string tx, .int .i64 rd, .bool en, .bool dn, .bool sn] 35)) w.heap.size [.string tx, .int .i64 rd, .bool en, .bool dn, .bool sn] := RowG.Var.new w _
  have b0 : Below w.heap.size w (w.alloc (.cells #[.string tx, .int .i64 rd, .bool en, .bool dn, .bool sn] 35)) := (Below.refl _ _).alloc (Nat.le_refl _) _
  go_enter Tryd.func5, Tryd.ntmps5
  go_wp2_with fail
  generalize w.alloc (.cells #[.string tx, .int .i64 rd, .bool en, .bool dn, .bool sn] 35) = V at *
  refine (hZ _).mono ?_
  rintro x w1 ⟨rfl, hB1⟩
  have v1 := v0.later hB1
  have B1 := b0.trans (hB1.mono b0.size)
  clear v0 b0 hB1 hif hb hZ
  have c0 := v1.cell (i := 0) rfl
  have c1 := v1.cell (i := 1) rfl
  have c2 := v1.cell (i := 2) rfl
  have c3 := v1.cell (i := 3) rfl
  have c4 := v1.cell (i := 4) rfl
  go_wp2_with fail
  refine (hT _).mono ?_
  rintro x w2 ⟨rfl, hB2⟩
  have v2 := v1.later hB2
  have B2 := B1.trans (hB2.mono B1.size)
  clear v1 B1 hB2 c0 c1 c2 c3 c4
  go_wp2_with fail
  refine (hS _).mono ?_
  rintro x w3 ⟨rfl, hB3⟩
  have v3 := v2.later hB3
  have B3 := B2.trans (hB3.mono B2.size)
  clear v2 B2 hB3 hS
  have v4 : RowG.Var 25 (w3.alloc (.cells #[.string rt, .int .i64 rr, .bool re, .bool rn, .bool rs] 25)) w3.heap.size [.string rt, .int .i64 rr, .bool re, .bool rn, .bool rs] := RowG.Var.new w3 _
  have v3 := v3.alloc (.cells #[.string rt, .int .i64 rr, .bool re, .bool rn, .bool rs] 25)
  have B4 : Below w.heap.size w (w3.alloc (.cells #[.string rt, .int .i64 rr, .bool re, .bool rn, .bool rs] 25)) := B3.alloc B3.size _
  clear B3
  go_upto_region 8 with (fail)
  generalize w3.alloc (.cells #[.string rt, .int .i64 rr, .bool re, .bool rn, .bool rs] 25) = W4 at *
  generalize w3.heap.size = k4 at *
  have c0 := v3.cell (i := 0) rfl
  have c1 := v3.cell (i := 1) rfl
  have c2 := v3.cell (i := 2) rfl
  have c3 := v3.cell (i := 3) rfl
  have c4 := v3.cell (i := 4) rfl
  go_wp2_with fail
  refine (hT _).mono ?_
  rintro x w5 ⟨rfl, hB5⟩
  have v5 := v4.later hB5
  have B5 := B4.trans (hB5.mono B4.size)
  clear v3 v4 B4 hB5 hT c0 c1 c2 c3 c4
  go_wp2_with fail
  refine (hI _ B5).mono ?_
  rintro x w6 ⟨rfl, hB6⟩
  have v6 := v5.later hB6
  have B6 := B5.trans (hB6.mono B5.size)
  clear v5 B5 hB6 hI
  have v7 : RowG.Var 25 (w6.alloc (.cells #[.string rt, .int .i64 rr, .bool re, .bool rn, .bool rs] 25)) w6.heap.size [.string rt, .int .i64 rr, .bool re, .bool rn, .bool rs] := RowG.Var.new w6 _
  have v6 := v6.alloc (.cells #[.string rt, .int .i64 rr, .bool re, .bool rn, .bool rs] 25)
  have B7 : Below w.heap.size w (w6.alloc (.cells #[.string rt, .int .i64 rr, .bool re, .bool rn, .bool rs] 25)) := B6.alloc B6.size _
  clear B6
  go_upto_region 9 with (fail)
  generalize w6.alloc (.cells #[.string rt, .int .i64 rr, .bool re, .bool rn, .bool rs] 25) = W7 at *
  generalize w6.heap.size = k7 at *
  have c0 := v6.cell (i := 0) rfl
  have c1 := v6.cell (i := 1) rfl
  have c2 := v6.cell (i := 2) rfl
  have c3 := v6.cell (i := 3) rfl
  have c4 := v6.cell (i := 4) rfl
  have d0 := v7.cell (i := 0) rfl
  have d1 := v7.cell (i := 1) rfl
  have d2 := v7.cell (i := 2) rfl
  have d3 := v7.cell (i := 3) rfl
  have d4 := v7.cell (i := 4) rfl
  go_wp2_with fail
  refine (hE _).mono ?_
  rintro x w8 ⟨rfl, hB8⟩
  have B8 := B7.trans (hB8.mono B7.size)
  clear B7 hB8 v6 v7 c0 c1 c2 c3 c4 d0 d1 d2 d3 d4
  cases rc
  · go_wp2_with fail
    go_ret
    exact ⟨rfl, B8⟩
  · go_wp2_with fail
    go_ret
    exact ⟨rfl, B8⟩

/-- The door's own heap meets the condition. -/
theorem door_met (os : Os) (args : Array Value) : laidMetH Tryd.prog Rows.fnExactWasReadRow.laid ((World.doorLaid Tryd.prog 130 os).forCall (fun _ _ => 0) ⟨#[], args, []⟩).memory :=
  laidMetH_of_parts3 (fuel := 8) (laidMet_of_run' 8 (by kernel_rfl) (by kernel_rfl)) (by kernel_rfl) (by kernel_rfl)

set_option maxRecDepth 100000 in
theorem lifted (os : Os) (started : os.Started) (H : Type) (enc : TypeId × Value → H) :
    ReturnsInHanded {} Tryd.checked os 5 .any (fun w args => (Rows.fnExactWasReadSpec.pre enc Tryd.prog Tryd.f5 [] false w args ∧ laidMetH Tryd.prog Rows.fnExactWasReadRow.laid w) ∧ sizedMet enc Tryd.prog Tryd.f5 (OpenSpec.ofChange Rows.fnExactWasReadSpec) false w args)
      (Rows.fnExactWasReadSpec.post enc Tryd.prog Tryd.f5 false true false false) := by
  refine returnsInHanded_of_change_and (C := Tryd.checked) (X := fun w _ => laidMetH Tryd.prog Rows.fnExactWasReadRow.laid w) (fun _ _ _ hh h => h.of_heap hh) own started (by kernel_rfl) Tryd.func5
    (ChangeSpec.witness_shaped (enc := enc) (C := Tryd.checked) (os := os) (X := fun w _ => laidMetH Tryd.prog Rows.fnExactWasReadRow.laid w) false (World.doorLaid Tryd.prog 130 os) #[.agg #[.string ByteArray.empty, .int .i64 0, .bool false, .bool false, .bool false], .string ByteArray.empty] 8 rfl (World.shaped_of_RefB (by kernel_rfl) (by kernel_rfl)) (by kernel_rfl) (by kernel_rfl) (by kernel_rfl) (door_met os _)) ?_
  intro W base args ds gs before hval0 hW _ _ hL _
  have hval : ∀ (j : Nat) t v, Tryd.f5.params[j]? = some t → args[j]? = some v → Value.okWide Tryd.prog W .any base t v := hval0
  have hW' := hW
  obtain ⟨p, q, hA0, hV0, rfl, hfz, hnd⟩ := hW
  have hV : DataW.TrodVars enc Tryd.prog W (fun _ => true) ["loop.example/g00450/impl.errWrongStream", "loop.example/g00450/impl.errOtherBytes"] gs q := hV0
  have hA : DataW.TrodAll enc Tryd.prog W 0 (fun _ => true) true Tryd.f5.params.toList args.toList ds p := hA0
  rw [Tryd.params5] at hA hval
  obtain ⟨v0, vs0, d0, ds0, p0, q0, hargs, rfl, rfl, h0, r0⟩ := trodAll_cons hA
  obtain ⟨v1, vs1, d1, ds1, p1, q1, rfl, rfl, rfl, h1, r1⟩ := trodAll_cons r0
  obtain ⟨rfl, rfl, rfl⟩ := trodAll_nil r1
  obtain rfl : args = #[v0, v1] := by cases args; simp_all
  have hLL : laidMet Tryd.prog [("loop.example/g00450/impl.errWrongStream", Rows.laid_loop_example_g00450_impl_errWrongStream), ("loop.example/g00450/impl.errOtherBytes", Rows.laid_loop_example_g00450_impl_errOtherBytes)] W ∧ handlesMet Tryd.prog [("errors.errorType", Rows.laid_errors_errorType)] W := hL
  have hH := Str.hnd_of hLL.2
  have l1 := hLL.1
  obtain ⟨aW, aO, uW, uO, SW, SO, nO⟩ := Str.pair_of l1 gW tW gO tO
  obtain ⟨rfl, rfl⟩ := hV.unique (Str.vars_cons enc gW tW uW (Str.vars_cons enc gO tO uO (Str.vars_nil enc _)))
  obtain ⟨cs0, rfl, _⟩ := okWide_struct Tryd.underlying35 (hval 0 35 v0 rfl rfl)
  have k0 := h0
  have lt0 : ∀ x ∈ p0, x.block < W.heap.size := by obtain ⟨m, hm⟩ := k0; exact DataW.trod_lt m _ _ _ hm
  have w0 : Shp.Shape.Holds W (.struct (.cons (.str) (.cons (.int .i64) (.cons (.bool) (.cons (.bool) (.cons (.bool) (.nil))))))) cs0.toList := by obtain ⟨fuel, hf⟩ := h0; exact (Shp.Shape.reads _ (by kernel_rfl) hf).1
  obtain ⟨a1, rfl, rfl, rfl, w1⟩ := open_string Tryd.underlying9 (hval 1 9 v1 rfl rfl) h1
  clear hA0 hval0 hV0
  refine (walk cs0 a1 W aW aO hH SW SO nO w0 w1).mono fun e W' ⟨he, bel⟩ => ?_
  subst he
  exact ⟨_, rfl, _, _, _, [], _, [.cell 0 0, .cell 1 0], hW', (trodAll_cons_mk (shut_bool Tryd.underlying4 _) trodAll_mk0), (trodAll_cons_mk (Below.trod laidOut (by kernel_rfl) (of_decide_eq_true (by kernel_rfl)) k0 bel lt0) (trodAll_cons_mk (shut_string Tryd.underlying9 w1) trodAll_mk0)), (Str.vars_cons enc gW tW (Str.var_later uW bel) (Str.vars_cons enc gO tO (Str.var_later uO bel) (Str.vars_nil enc _))), bel.frame _, fun h => by cases h⟩

theorem over : Rows.fnExactWasReadRow.holds Tryd.pinned (OpenSpec.ofChange Rows.fnExactWasReadSpec) :=
  OpenClaim.holds_of_wide 5 Tryd.f5 rfl rfl rfl rfl rfl rfl rfl ⟨rfl, rfl, rfl, rfl, rfl⟩ rfl rfl rfl rfl rfl (by kernel_rfl) Tryd.func5 (by kernel_rfl)
    (of_decide_eq_true (by kernel_rfl)) (by unfold Func.isWrapper; first | (rw [if_pos (by decide +kernel)]; kernel_rfl) | (rw [if_neg (by decide +kernel)]; exact ⟨rfl, rfl⟩))
    (fun os started H enc _ => lifted os started H enc)

/-- THE STATEMENT: the tied card. -/
theorem proved : Rows.FnExactWasReadCardSaid :=
  Claim7.holds_tied_plain_at .later [] [.handle, .sentinel, .sentinel] true (true, "bad8f9d35a3ef393a4d677c7f7755b6f24d44ef503af568fc77452cdd9b82c1d") true
    over (fun _ h => by cases h) (by kernel_rfl) (fun _ h => by cases h) fnExactWasRead_row_tie rfl ⟨rfl, rfl⟩ (by kernel_rfl) rfl
    (fun f fn hf hfn => by
      obtain rfl : f = 5 := Option.some.inj ((show Tryd.prog.funcNamed "loop.example/g00450/laws.FnExactWasRead" = some 5 by kernel_rfl).symm.trans hf) |>.symm
      obtain rfl : fn = Tryd.f5 := (Option.some.inj (Tryd.func5.symm.trans hfn)).symm
      exact ⟨by kernel_rfl, fun j t ht => by
        rw [Tryd.params5] at ht
        have hm : t ∈ [35, 9] := by simpa using Array.mem_of_getElem? ht
        have hall : ([35, 9].all fun u => !Tryd.prog.wantsStandIn u) = true := by kernel_rfl
        exact (show Tryd.prog.wantsStandIn t = false by simpa using List.all_eq_true.1 hall t hm)⟩)
    (by kernel_rfl)
end Go.Proofs.YtddicibpfmjgfaaDoor.fnExactWasRead
namespace Go.Proofs.YtddicibpfmjgfaaDoor
theorem fnExactWasRead_holds : Rows.FnExactWasReadCardSaid := fnExactWasRead.proved
#print axioms fnExactWasRead_holds
end Go.Proofs.YtddicibpfmjgfaaDoor

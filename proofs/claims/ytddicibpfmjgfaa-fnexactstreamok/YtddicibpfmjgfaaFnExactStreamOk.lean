/- At every stream the program's StreamOk answers as the specification's StreamOk (texts of more than 2^20 bytes the law itself lets by), so FnExactStreamOk returns true; no condition. (Its frame is the guide's shell; the walk is mine.) -/
import Derived.Test.YtddicibpfmjgfaaRows
import Derived.Test.YtddicibpfmjgfaaStrB
import Derived.Test.YtddicibpfmjgfaaStrP
import Derived.Test.YtddicibpfmjgfaaLawSt
import Derived.WalkKit
import Derived.ProofKit
import Derived.OpenShut
import Derived.ShutString
import Derived.ChangeOld
import Derived.Below
import Derived.Test.YtddicibpfmjgfaaShape
namespace Go.Proofs.Ytddicibpfmjgfaa.fnExactStreamOk
open Go.ChangeShapes Go.WideShapes Go.ChangeAt Go.RowKit
open Go.ChangeMaps (open_string shut_string)
set_option linter.unusedVariables false
set_option linter.unusedSimpArgs false

theorem own : ownKnob Try.prog.godebug = none := by kernel_rfl
theorem laidOut : laidOutB Try.prog = true := by kernel_rfl

set_option linter.unusedSimpArgs false in
set_option maxRecDepth 20000 in
set_option maxHeartbeats 40000000 in
theorem walk (cs0 : Array Value) (w : World) (w0 : Shp.Shape.Holds w (.struct (.cons (.str) (.cons (.int .i64) (.cons (.bool) (.cons (.bool) (.cons (.bool) (.nil))))))) cs0.toList) :
    Calls Try.prog 3 #[.agg cs0] w fun e w' => e = .returned (.bool true) ∧ Below w.heap.size w w' := by
  obtain ⟨s, rfl, hb⟩ := Str.stream_of w0
  clear w0
  by_cases h : (s.tx.size : Int) ≤ 1048576
  case neg =>
    have hif : Hid ((if (1048576 : Int) < (s.tx.size : Int) then (-1 : Int) else 1048576 - (s.tx.size : Int)) = -1) := if_pos (by omega)
    have hZ := fun w' => Str.szStream s 1048576 w' hb (by decide) (by decide)
    rw [hif.out] at hZ
    obtain ⟨tx, rd, en, dn, sn⟩ := s
    dsimp only [Str.Sm.v] at *
    go_enter Try.func3, Try.ntmps3
    go_wp2_with fail
    refine (hZ _).mono ?_
    rintro x w1 ⟨rfl, hB1⟩
    go_wp2_with fail
    go_ret
    exact ⟨rfl, ((Below.refl _ _).alloc (Nat.le_refl _) _).trans (hB1.mono (by simp))⟩
  have hs : s.tx.size ≤ 2097152 := by omega
  have hif : Hid ((if (1048576 : Int) < (s.tx.size : Int) then (-1 : Int) else 1048576 - (s.tx.size : Int)) = 1048576 - (s.tx.size : Int)) := if_neg (by omega)
  have hpos : ¬ (1048576 : Int) - (s.tx.size : Int) < 0 := by omega
  have hZ := fun w' => Str.szStream s 1048576 w' hb (by decide) (by decide)
  have hT := fun w' => Str.toStream s w'
  have hS := fun w' => Str.specStreamOk s w' hs
  have hI := fun w' (q : Below w.heap.size w w') => Str.implStreamOk s w' hs
  rw [hif.out] at hZ
  generalize s.ok = R at *
  obtain ⟨tx, rd, en, dn, sn⟩ := s
  dsimp only [Str.Sm.v] at *
  have v0 : RowG.Var 23 (w.alloc (.cells #[.string tx, .int .i64 rd, .bool en, .bool dn, .bool sn] 23)) w.heap.size [.string tx, .int .i64 rd, .bool en, .bool dn, .bool sn] := RowG.Var.new w _
  have b0 : Below w.heap.size w (w.alloc (.cells #[.string tx, .int .i64 rd, .bool en, .bool dn, .bool sn] 23)) := (Below.refl _ _).alloc (Nat.le_refl _) _
  go_enter Try.func3, Try.ntmps3
  go_wp2_with fail
  generalize w.alloc (.cells #[.string tx, .int .i64 rd, .bool en, .bool dn, .bool sn] 23) = V at *
  refine (hZ _).mono ?_
  rintro x w1 ⟨rfl, hB1⟩
  have v1 := v0.later hB1
  have B1 := b0.trans (hB1.mono b0.size)
  clear v0 b0 hB1 hif hb hZ
  have c0 := v1.cell (i := 0) rfl
  have c1 := v1.cell (i := 1) rfl
  have c2 := v1.cell (i := 2) rfl
  have c3 := v1.cell (i := 3) rfl
  have c4 := v1.cell (i := 4) rfl
  go_wp2_with fail
  refine (hT _).mono ?_
  rintro x w2 ⟨rfl, hB2⟩
  have v2 := v1.later hB2
  have B2 := B1.trans (hB2.mono B1.size)
  clear v1 B1 hB2 c0 c1 c2 c3 c4
  go_wp2_with fail
  refine (hS _).mono ?_
  rintro x w3 ⟨rfl, hB3⟩
  have v3 := v2.later hB3
  have B3 := B2.trans (hB3.mono B2.size)
  clear v2 B2 hB3 hS
  have c0 := v3.cell (i := 0) rfl
  have c1 := v3.cell (i := 1) rfl
  have c2 := v3.cell (i := 2) rfl
  have c3 := v3.cell (i := 3) rfl
  have c4 := v3.cell (i := 4) rfl
  go_wp2_with fail
  refine (hT _).mono ?_
  rintro x w4 ⟨rfl, hB4⟩
  have B4 := B3.trans (hB4.mono B3.size)
  clear B3 hB4 hT c0 c1 c2 c3 c4
  go_wp2_with fail
  refine (hI _ B4).mono ?_
  rintro x w5 ⟨rfl, hB5⟩
  have B5 := B4.trans (hB5.mono B4.size)
  clear B4 hB5 hI
  cases R
  · go_wp2_with fail
    go_ret
    exact ⟨rfl, B5⟩
  · go_wp2_with fail
    go_ret
    exact ⟨rfl, B5⟩

set_option maxRecDepth 100000 in
theorem lifted (os : Os) (started : os.Started) (H : Type) (enc : TypeId × Value → H) :
    ReturnsInHanded {} Try.checked os 3 .any (Rows.fnExactStreamOkSpec.pre6 enc Try.prog Try.f3 Rows.fnExactStreamOkRow.domain false) (Rows.fnExactStreamOkSpec.post enc Try.prog Try.f3 false true false false) := by
  refine returnsInHanded_of_change (C := Try.checked) own started (by kernel_rfl) Try.func3
    (ChangeSpec.witness6 (enc := enc) (C := Try.checked) false ⟨#[], #[.agg #[.string ByteArray.empty, .int .i64 0, .bool false, .bool false, .bool false]], []⟩ 8 (by kernel_rfl) (by kernel_rfl) (by kernel_rfl) (by kernel_rfl)) ?_
  intro W base args ds gs before hval0 hW hcnd _
  have hval : ∀ (j : Nat) t v, Try.f3.params[j]? = some t → args[j]? = some v → Value.okWide Try.prog W .any base t v := hval0
  have hW' := hW
  obtain ⟨p, q, hA0, hV, rfl, hfz, hnd⟩ := hW
  have hA : DataW.TrodAll enc Try.prog W 0 (fun _ => true) true Try.f3.params.toList args.toList ds p := hA0
  rw [Try.params3] at hA hval
  obtain ⟨v0, vs0, d0, ds0, p0, q0, hargs, rfl, rfl, h0, r0⟩ := trodAll_cons hA
  obtain ⟨rfl, rfl, rfl⟩ := trodAll_nil r0
  obtain rfl : args = #[v0] := by cases args; simp_all
  obtain ⟨rfl, rfl⟩ := trodVars_none hV
  obtain ⟨cs0, rfl, _⟩ := okWide_struct Try.underlying23 (hval 0 23 v0 rfl rfl)
  have k0 := h0
  have lt0 : ∀ x ∈ p0, x.block < W.heap.size := by obtain ⟨m, hm⟩ := k0; exact DataW.trod_lt m _ _ _ hm
  have w0 : Shp.Shape.Holds W (.struct (.cons (.str) (.cons (.int .i64) (.cons (.bool) (.cons (.bool) (.cons (.bool) (.nil))))))) cs0.toList := by obtain ⟨fuel, hf⟩ := h0; exact (Shp.Shape.reads _ (by kernel_rfl) hf).1
  clear hA0 hval0
  refine (walk cs0 W w0).mono fun e W' ⟨he, bel⟩ => ?_
  subst he
  exact ⟨_, rfl, _, _, _, [], _, [], hW', (trodAll_cons_mk (shut_bool Try.underlying4 _) trodAll_mk0), (trodAll_cons_mk (Below.trod laidOut (by kernel_rfl) (of_decide_eq_true (by kernel_rfl)) k0 bel lt0) trodAll_mk0), rfl, bel.frame _, fun h => by cases h⟩

theorem over : Rows.fnExactStreamOkRow.holds Try.pinned (OpenSpec.ofChange Rows.fnExactStreamOkSpec) :=
  OpenClaim.holds_of_wide 3 Try.f3 rfl rfl rfl rfl rfl rfl rfl ⟨rfl, rfl, rfl, rfl, rfl⟩ rfl rfl rfl rfl rfl (by kernel_rfl) Try.func3 (by kernel_rfl)
    (of_decide_eq_true (by kernel_rfl)) (by unfold Func.isWrapper; first | (rw [if_pos (by decide +kernel)]; kernel_rfl) | (rw [if_neg (by decide +kernel)]; exact ⟨rfl, rfl⟩))
    (fun os started H enc _ => lifted os started H enc)

/-- THE STATEMENT. -/
theorem proved : Rows.FnExactStreamOkSaid := over
end Go.Proofs.Ytddicibpfmjgfaa.fnExactStreamOk
namespace Go.Proofs.Ytddicibpfmjgfaa
theorem fnExactStreamOk_holds : Rows.FnExactStreamOkSaid := fnExactStreamOk.proved
#print axioms fnExactStreamOk_holds
end Go.Proofs.Ytddicibpfmjgfaa

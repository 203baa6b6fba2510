/- For every code of bytes FnSpoilt returns true: Spoilt answers as the specification; where it turns a byte of a letter's text the text is another, as long, no letter any more, and the turn back gives the letter's text again; elsewhere the text stays; no condition. (Its frame is the guide's shell; the walk is mine.) -/
import Derived.Test.YthdapibkfdpejaaRows
import Derived.Test.YthdapibkfdpejaaSegS
import Derived.Test.YthdapibkfdpejaaSegT
import Derived.Test.YthdapibkfdpejaaDrawL
import Derived.Test.YthdapibkfdpejaaLawL
import Derived.WalkKit
import Derived.ProofKit
import Derived.OpenShut
import Derived.ShutString
import Derived.ChangeOld
import Derived.Below
namespace Go.Proofs.Ythdapibkfdpejaa.fnSpoilt
open Go.ChangeShapes Go.WideShapes Go.ChangeAt Go.RowKit
open Go.ChangeMaps (open_string shut_string)
set_option linter.unusedVariables false

theorem own : ownKnob Try.prog.godebug = none := by kernel_rfl
theorem laidOut : laidOutB Try.prog = true := by kernel_rfl

/-- WHAT THE WALK IS TOLD OF A SLICE OF INTEGERS THAT CAME IN: it is nil; or it leads to a row of 'cap' cells, the numbers 'zs' (the first 'len' are its elements, the rest its spare room), each fitting its kind. -/
def IsRow (k : IntKind) (w : World) (a : Option Addr) (len cap : Nat) (zs : List Int) : Prop :=
  (a = none ∧ len = 0 ∧ cap = 0 ∧ zs = []) ∨
  ∃ x, a = some x ∧ len ≤ cap ∧ cap ≤ maxLen ∧ zs.length = cap ∧ (∀ i, i < zs.length → w.cell? (x.add i) = some (.int k (zs.getD i 0))) ∧ ∀ n ∈ zs, (Lit.int k n).wf = true

/-! ### STEP 1: THE WALK: the Go text returns true, AND WRITES NOTHING THAT WAS THERE: 'Below w.heap.size w w'' (Derived/Below.lean: '.refl', '.alloc', '.drew', '.setCell' at a new block, '.trans'). Open each 'IsRow' by 'rcases' AHEAD of 'go_enter'; part every test ahead of the walk. -/
set_option maxHeartbeats 4000000 in
theorem walk (a0 : Option Addr) (len0 cap0 : Nat) (z0 : List Int) (w : World) (w0 : IsRow .u8 w a0 len0 cap0 z0) :
    Calls Try.prog 3 #[.slice a0 len0 cap0] w fun e w' => e = .returned (.bool true) ∧ Below w.heap.size w w' := by
  obtain ⟨hb, hm⟩ := Draw.bytes_of_row w0
  clear w0
  by_cases hl : len0 ≤ 4096
  · have hd : decide (4096 < (len0 : Int)) = false := by simp; omega
    go_enter Try.func3, Try.ntmps3
    go_wp2_with fail
    refine (Draw.big _ _ _ _ hm).mono ?_
    rintro e w1 ⟨rfl, rfl⟩
    clear hd
    go_wp2_with fail
    refine (Draw.drawSpoilt _ _ _ _ hb hl).mono ?_
    rintro x w1 ⟨f, t, b, e, a, r, p, q, hbz, rfl, hB1⟩
    have HA : Hid _ := Seg.spoil_all f t b.data.toList e a r p q
    have hz := Seg.show_len_le f t b.data.toList e a r
    have hbl : b.data.toList.length = b.size := by simp
    generalize Seg.showSegL f t b.data.toList e a r = L at *
    have hL : (⟨L.toArray⟩ : ByteArray).size ≤ 1048576 := by show L.length ≤ _; omega
    have HO : Hid _ := Seg.spoil_out (L := L) (p := p) (q := q)
    clear hbl hz hbz
    go_wp2_with fail
    refine (Seg.implSpoilt _ _ _ _ hL).mono ?_
    rintro x w2 ⟨rfl, hB2⟩
    have hB02 := hB1.trans (hB2.mono hB1.size)
    clear hB1 hB2
    by_cases hin : 0 ≤ p ∧ p < L.length ∧ 1 ≤ q ∧ q ≤ 255
    · obtain ⟨M, hM, hne, hlen, hno, hback⟩ := HA.out hin.1 hin.2.1 hin.2.2.1 hin.2.2.2
      have HM : Hid _ := hM
      have HK : Hid _ := hback
      rw [hM]
      clear HA HO hM hback
      go_wp2_with fail
      refine (Seg.specSpoilt _ _ _ _ hL).mono ?_
      rintro x w3 ⟨rfl, hB3⟩
      have hB03 := hB02.trans (hB3.mono hB02.size)
      clear hB3 hB02
      rw [HM.out]
      obtain ⟨p0, p1, q0, q1⟩ := hin
      have hML : (⟨M.toArray⟩ : ByteArray).size ≤ 1048576 := by show M.length ≤ _; rw [hlen]; exact hL
      have hne' : (M == L) = false := by simpa using hne
      have e0 : IntKind.i64.wrap (256 - q) = 256 - q := by rw [IntKind.wrap_i64]; omega
      clear hne
      go_wp2_with fail
      refine (Seg.implReadSeg _ _ hML).mono ?_
      rintro x w4 ⟨rfl, hB4⟩
      have hB04 := hB03.trans (hB4.mono hB03.size)
      clear hB4 hB03
      have e1 : (⟨M.toArray⟩ : ByteArray).data.toList = M := rfl
      rw [e1, Seg.seg_no hno, hno]
      unfold Seg.segNo
      clear e1 hno
      have HL : Hid (M.length = L.length) := hlen
      go_wp2_with fail
      refine (Seg.implSpoilt _ _ _ _ hML).mono ?_
      rintro x w5 ⟨rfl, hB5⟩
      have hB05 : Below w.heap.size w w5 := (hB04.alloc hB04.size _).trans (hB5.mono (by have := hB04.size; simp; omega))
      clear hB5 hB04
      rw [HK.out]
      go_wp2_with fail
      go_ret
      exact ⟨rfl, hB05⟩
    · have HE : Hid _ := HO.out hin
      clear HA HO
      rw [HE.out]
      go_wp2_with fail
      refine (Seg.specSpoilt _ _ _ _ hL).mono ?_
      rintro x w3 ⟨rfl, hB3⟩
      have hB03 := hB02.trans (hB3.mono hB02.size)
      clear hB3 hB02
      rw [HE.out]
      by_cases p0 : p < 0
      · go_wp2_with fail
        go_ret
        exact ⟨rfl, hB03⟩
      · by_cases p1 : (L.length : Int) ≤ p
        · go_wp2_with fail
          go_ret
          exact ⟨rfl, hB03⟩
        · by_cases q0 : q < 1
          · go_wp2_with fail
            go_ret
            exact ⟨rfl, hB03⟩
          · have q1 : 255 < q := by omega
            go_wp2_with fail
            go_ret
            exact ⟨rfl, hB03⟩
  · have hd : decide (4096 < (len0 : Int)) = true := by simp; omega
    go_enter Try.func3, Try.ntmps3
    go_wp2_with fail
    refine (Draw.big _ _ _ _ hm).mono ?_
    rintro e w1 ⟨rfl, rfl⟩
    go_wp2_with fail
    go_ret
    exact ⟨rfl, Below.refl _ _⟩

/-! ### THE ROW's STEP: WRITTEN OUT: LEAVE IT -/
set_option maxRecDepth 100000 in
theorem lifted (os : Os) (started : os.Started) (H : Type) (enc : TypeId × Value → H) :
    ReturnsInHanded {} Try.checked os 3 .any (Rows.fnSpoiltSpec.pre6 enc Try.prog Try.f3 Rows.fnSpoiltRow.domain false) (Rows.fnSpoiltSpec.post enc Try.prog Try.f3 false true false false) := by
  refine returnsInHanded_of_change (C := Try.checked) own started (by kernel_rfl) Try.func3
    (ChangeSpec.witness6 (enc := enc) (C := Try.checked) false ⟨#[], #[.slice none 0 0], []⟩ 8 (by kernel_rfl) (by kernel_rfl) (by kernel_rfl) (by kernel_rfl)) ?_
  intro W base args ds gs before hval0 hW hcnd _
  have hval : ∀ (j : Nat) t v, Try.f3.params[j]? = some t → args[j]? = some v → Value.okWide Try.prog W .any base t v := hval0
  have hW' := hW
  obtain ⟨p, q, hA0, hV, rfl, hfz, hnd⟩ := hW
  have hA : DataW.TrodAll enc Try.prog W 0 (fun _ => true) true Try.f3.params.toList args.toList ds p := hA0
  rw [Try.params3] at hA hval
  obtain ⟨v0, vs0, d0, ds0, p0, q0, hargs, rfl, rfl, h0, r0⟩ := trodAll_cons hA
  obtain ⟨rfl, rfl, rfl⟩ := trodAll_nil r0
  obtain rfl : args = #[v0] := by cases args; simp_all
  obtain ⟨rfl, rfl⟩ := trodVars_none hV
  obtain ⟨a0, len0, cap0, rfl⟩ := okWide_slice Try.underlying22 (hval 0 22 v0 rfl rfl)
  have k0 := h0
  have lt0 : ∀ x ∈ p0, x.block < W.heap.size := by obtain ⟨m, hm⟩ := k0; exact DataW.trod_lt m _ _ _ hm
  obtain ⟨z0, w0⟩ : ∃ zs, IsRow .u8 W a0 len0 cap0 zs := by
    obtain ⟨fuel, hf⟩ := h0
    rcases open_ints Try.underlying22 Try.underlying5 (by kernel_rfl) hf with ⟨hcs, _⟩ | ⟨x, l, c, zs, hcs, _, hl, hm, hz, _, hcell, hwz⟩
    · simp [Value.cells] at hcs
      obtain ⟨rfl, rfl, rfl⟩ := hcs
      exact ⟨[], .inl ⟨rfl, rfl, rfl, rfl⟩⟩
    · simp [Value.cells] at hcs
      obtain ⟨rfl, rfl, rfl⟩ := hcs
      exact ⟨zs, .inr ⟨_, rfl, hl, hm, by simpa using hz, hcell, hwz⟩⟩
  clear hA0 hval0
  refine (walk a0 len0 cap0 z0 W w0).mono fun e W' ⟨he, bel⟩ => ?_
  subst he
  exact ⟨_, rfl, _, _, _, [], _, [], hW', trodAll_mk1 (shut_bool Try.underlying4 _), (trodAll_cons_mk (Below.trod laidOut (by kernel_rfl) (of_decide_eq_true (by kernel_rfl)) k0 bel lt0) trodAll_mk0), rfl, bel.frame _, fun h => by cases h⟩

theorem over : Rows.fnSpoiltRow.holds Try.pinned (OpenSpec.ofChange Rows.fnSpoiltSpec) :=
  OpenClaim.holds_of_wide 3 Try.f3 rfl rfl rfl rfl rfl rfl rfl ⟨rfl, rfl, rfl, rfl, rfl⟩ rfl rfl rfl rfl rfl (by kernel_rfl) Try.func3 (by kernel_rfl)
    (of_decide_eq_true (by kernel_rfl)) (by unfold Func.isWrapper; first | (rw [if_pos (by decide +kernel)]; kernel_rfl) | (rw [if_neg (by decide +kernel)]; exact ⟨rfl, rfl⟩))
    (fun os started H enc _ => lifted os started H enc)

/-- THE STATEMENT. -/
theorem proved : Rows.FnSpoiltSaid := over
end Go.Proofs.Ythdapibkfdpejaa.fnSpoilt
namespace Go.Proofs.Ythdapibkfdpejaa
theorem fnSpoilt_holds : Rows.FnSpoiltSaid := fnSpoilt.proved
#print axioms fnSpoilt_holds
end Go.Proofs.Ythdapibkfdpejaa

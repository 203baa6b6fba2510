/- For every code of bytes FnSum returns true: a sum does not mind the order of pairs, one byte changed is another sum, and Sum and Right answer as the specification; no condition. (Its frame is the shell that the guide's program writes; the walk is mine.) -/
import Derived.Test.YtpiecbkcnpkdcaaRows
import Derived.Test.YtpiecbkcnpkdcaaSumB
import Derived.Test.YtpiecbkcnpkdcaaSumD
import Derived.Test.YtpiecbkcnpkdcaaDrawR
import Derived.WalkKit
import Derived.ProofKit
import Derived.OpenShut
import Derived.ShutString
import Derived.ChangeOld
import Derived.Below
namespace Go.Proofs.Ytpiecbkcnpkdcaa.fnSum
open Go.ChangeShapes Go.WideShapes Go.ChangeAt Go.RowKit
open Go.ChangeMaps (open_string shut_string)
set_option linter.unusedVariables false

theorem own : ownKnob Try.prog.godebug = none := by kernel_rfl
theorem laidOut : laidOutB Try.prog = true := by kernel_rfl

/-- WHAT THE WALK IS TOLD OF A SLICE OF INTEGERS THAT CAME IN: it is nil; or it leads to a row of 'cap' cells, the numbers 'zs' (the first 'len' are its elements, the rest its spare room), each fitting its kind. -/
def IsRow (k : IntKind) (w : World) (a : Option Addr) (len cap : Nat) (zs : List Int) : Prop :=
  (a = none ∧ len = 0 ∧ cap = 0 ∧ zs = []) ∨
  ∃ x, a = some x ∧ len ≤ cap ∧ cap ≤ maxLen ∧ zs.length = cap ∧ (∀ i, i < zs.length → w.cell? (x.add i) = some (.int k (zs.getD i 0))) ∧ ∀ n ∈ zs, (Lit.int k n).wf = true

/-! ### STEP 1: THE WALK: the Go text returns true, AND WRITES NOTHING THAT WAS THERE: 'Below w.heap.size w w'' (Derived/Below.lean: '.refl', '.alloc', '.drew', '.setCell' at a new block, '.trans'). Open each 'IsRow' by 'rcases' AHEAD of 'go_enter'; part every test ahead of the walk. -/
set_option maxHeartbeats 4000000 in
theorem walk (a0 : Option Addr) (len0 cap0 : Nat) (z0 : List Int) (w : World) (w0 : IsRow .u8 w a0 len0 cap0 z0) :
    Calls Try.prog 3 #[.slice a0 len0 cap0] w fun e w' => e = .returned (.bool true) ∧ Below w.heap.size w w' := by
  obtain ⟨hb, hm⟩ := Draw.bytes_of_row w0
  clear w0
  by_cases hl : len0 ≤ 4096
  · have hd : decide (4096 < (len0 : Int)) = false := by simp; omega
    go_enter Try.func3, Try.ntmps3
    go_wp2_with fail
    refine (Draw.big _ _ _ _ hm).mono ?_
    rintro e w1 ⟨rfl, rfl⟩
    clear hd
    go_wp2_with fail
    refine (Draw.drawSum _ _ _ _ hb hl).mono ?_
    rintro e w1 ⟨s, hs, rfl, hB1⟩
    have HB : Hid (Draw.Bytes w a0 len0) := hb
    have hb1 := hb.below hB1 (Nat.le_refl _)
    have hs30 : s.size ≤ 1073741824 := by omega
    go_wp2_with fail
    refine (Sum.implSum s _ hs30).mono ?_
    rintro e w2 ⟨rfl, hB2⟩
    have hb2 := hb1.below hB2 (Nat.le_refl _)
    have hB02 := hB1.trans (hB2.mono hB1.size)
    clear hb1 hb hB1 hB2
    go_wp2_with fail
    refine (Draw.drawRight _ _ _ _ hb2 hl).mono ?_
    rintro e w3 ⟨t, u, ht, rfl, hB3⟩
    have ht30 : t.size ≤ 1073741824 := by omega
    have hb3 := hb2.below hB3 (Nat.le_refl _)
    have hB03 := hB02.trans (hB3.mono hB02.size)
    clear hb2 hB02 hB3
    have hsb := Sum.sumOf_bd s
    have hsum : Hid (Sum.sumOf s = 65535 - Sum.fold (Sum.sumB s.data.toList)) := rfl
    go_wp2_with fail
    refine (Sum.specSum s _ hs30).mono ?_
    rintro e w4 ⟨rfl, rfl⟩
    go_wp2_with fail
    refine (Sum.implRight t _ _ ht30).mono ?_
    rintro e w4 ⟨rfl, hB4⟩
    have hb4 := hb3.below hB4 (Nat.le_refl _)
    have hB04 := hB03.trans (hB4.mono hB03.size)
    clear hb3 hB03 hB4
    go_wp2_with fail
    refine (Sum.specRight t _ _ ht30).mono ?_
    rintro e w5 ⟨rfl, rfl⟩
    generalize (Sum.sumOf t == u) = q
    have hqq : (q != q) = false := by cases q <;> rfl
    go_wp2_with fail
    refine (Sum.implRight s _ _ hs30).mono ?_
    rintro e w5 ⟨rfl, hB5⟩
    have hb5 := hb4.below hB5 (Nat.le_refl _)
    have hB05 := hB04.trans (hB5.mono hB04.size)
    clear hb4 hB04 hB5 hqq
    obtain ⟨cap, w6, hconv, hrow, hB6, hz6⟩ := Draw.byteRow_text s w5
    have hB06 := hB05.trans (hB6.mono hB05.size)
    have hg : w.heap.size ≤ w5.heap.size := hB05.size
    clear hb5 hB05 hB6
    generalize w5.heap.size = g at *
    have hsl : s.data.toList.length = s.size := by simp
    go_wp2_with fail
    clear hconv
    go_loopw [8] (fun iv wr => ∃ (k : Nat) (l : List UInt8), k ≤ s.size + 3 ∧ Hid (k % 2 = 0) ∧ Hid (l.length = s.size) ∧ iv = .int .i64 k ∧ Hid (Sum.sumB l = Sum.sumB s.data.toList) ∧ Draw.Row wr g l ∧ Below w.heap.size w wr) (fun iv _ => s.size + 4 - (intOf iv).toNat)
    case atStart => exact ⟨0, s.data.toList, by omega, rfl, hsl, rfl, rfl, hrow, hB06⟩
    case round =>
      clear hrow hB06
      obtain ⟨k, l, hk, hk2, hll, rfl, hsl2, hrow, hBr⟩ := hrel
      by_cases hlt : k + 3 < s.size
      · have h3 : k + 3 < l.length := by have := hll.out; omega
        have r0 := hrow k (by omega)
        have r1 := hrow (k + 1) (by omega)
        have r2 := hrow (k + 2) (by omega)
        have r3 := hrow (k + 3) (by omega)
        have f0 := r0.2
        have f1 := r1.2
        have f2 := r2.2
        have f3 := r3.2
        have c0 := r0.1
        have c1 := r1.1
        have c2 := r2.1
        have c3 := r3.1
        clear r0 r1 r2 r3
        have i0 : (k : Int) + 3 < (s.size : Int) := by omega
        have HR : Hid _ := Sum.row_swap hrow h3
        clear hrow
        go_wp2_with fail
        go_roundw
        case rel => exact ⟨k + 4, Sum.swap4 l k h3, by omega, by have := hk2.out; show _ = _; omega, (Sum.swap4_len _ _ _).trans hll.out, by go_num, (Sum.swap4_sum l k h3 hk2.out).trans hsl2.out, HR.out, (((hBr.setCell hg _).setCell hg _).setCell hg _).setCell hg _⟩
        case measure => simp [intOf]; omega
      · have hback := Draw.text_byteRow hrow s.size cap hll.out.symm
        have hlsz : (⟨l.toArray⟩ : ByteArray).size ≤ 1073741824 := by show l.length ≤ _; have := hll.out; omega
        have HL : Hid (Sum.sumOf ⟨l.toArray⟩ = Sum.sumOf s) := by show _ = _; rw [Sum.sumOf_list, hsl2.out]; rfl
        have i0 : ¬ (k : Int) + 3 < (s.size : Int) := by omega
        clear hrow hsl2 hk2 hll hsum
        go_wp2_with fail
        refine (Sum.implSum _ _ hlsz).mono ?_
        rintro e w7 ⟨rfl, hB7⟩
        rw [HL.out]
        have hB07 := hBr.trans (hB7.mono hBr.size)
        clear hback HL hlsz hBr hB7
        by_cases h0 : s.size = 0
        · have he : Sum.sumOf s = 65535 := Sum.sumOf_empty h0
          have h0i : (s.size : Int) = 0 := by omega
          rw [he]
          go_wp2_with fail
          go_ret
          exact ⟨rfl, hB07⟩
        · have h0i : ¬ (s.size : Int) = 0 := by omega
          have hpos : (0 : Int) < (s.size : Int) := by omega
          obtain ⟨cap2, w8, hconv, hrow, hB8, hz8⟩ := Draw.byteRow_text s w7
          have hB08 := hB07.trans (hB8.mono hB07.size)
          have hg2 : w.heap.size ≤ w7.heap.size := hB07.size
          clear hB07 hB8
          generalize w7.heap.size = g2 at *
          go_wp2_with fail
          clear hconv
          refine (Draw.pick _ _ _ _ _ _ (HB.out.below hB08 (Nat.le_refl _)) hl (by decide) (by decide) hpos).mono ?_
          rintro e w9 ⟨⟨p, p0, p1, rfl⟩, rfl⟩
          obtain ⟨i, rfl⟩ := Int.eq_ofNat_of_zero_le p0
          go_wp2_with fail
          refine (Draw.pick _ _ _ _ _ _ (HB.out.below hB08 (Nat.le_refl _)) hl (by decide) (by decide) (by decide)).mono ?_
          rintro e w9 ⟨⟨x, x0, x1, rfl⟩, rfl⟩
          have e1 : IntKind.u8.wrap x = x := by rw [IntKind.wrap_u8]; omega
          obtain ⟨b, hb⟩ : ∃ b : UInt8, (b.toNat : Int) = x := ⟨_, Draw.u8_of x0 (by omega)⟩
          subst hb
          have hi : i < s.data.toList.length := by omega
          have fz := (hrow i hi).2
          have cc := (hrow i hi).1
          have hrow2 := hrow.set i hi b
          have hB09 : Below w.heap.size w (w8.setCell ⟨g2, i, none⟩ (.int .u8 (b.toNat : Int))) := hB08.setCell hg2 _
          have hsz9 : (w8.setCell ⟨g2, i, none⟩ (.int .u8 (b.toNat : Int))).heap.size = g2 + 1 := by simp [World.setCell, hz8]
          have HC : Hid _ := Sum.change_same hi b
          clear hrow hB08 x0 x1
          have hbk := Draw.text_byteRow hrow2.drew s.size cap2 (by simp)
          have hsz2 : (⟨(s.data.toList.set i b).toArray⟩ : ByteArray).size ≤ 1073741824 := by show (s.data.toList.set i b).length ≤ _; simp; omega
          have hlen : s.size = (s.data.toList.set i b).length := by simp
          have HLEN : Hid _ := hlen
          clear hlen
          go_wp2_with fail
          generalize w8.setCell ⟨g2, i, none⟩ (.int .u8 (b.toNat : Int)) = W at *
          have hlt9 : g2 < W.drew.heap.size := by show g2 < W.heap.size; omega
          have HR2 : Hid (Draw.Row W.drew g2 (s.data.toList.set i b)) := hrow2.drew
          clear hrow2 cc fz hsz9
          go_region_with ((go_at_call 10; refine (Sum.implSum _ _ hsz2).mono ?_; rintro e wq ⟨rfl, hBq⟩; have hbq := Draw.text_byteRow (HR2.out.below hBq hlt9) s.size cap2 HLEN.out))
          all_goals
            rw [HC.out]
            generalize (s.data.toList.set i b == s.toList) = Q
            go_wp2_with fail
            go_ret
            exact ⟨by cases Q <;> rfl, hB09.drew.trans (hBq.mono hB09.size)⟩
  · have hd : decide (4096 < (len0 : Int)) = true := by simp; omega
    go_enter Try.func3, Try.ntmps3
    go_wp2_with fail
    refine (Draw.big _ _ _ _ hm).mono ?_
    rintro e w1 ⟨rfl, rfl⟩
    go_wp2_with fail
    go_ret
    exact ⟨rfl, Below.refl _ _⟩

/-! ### THE ROW's STEP: WRITTEN OUT: LEAVE IT -/
set_option maxRecDepth 100000 in
theorem lifted (os : Os) (started : os.Started) (H : Type) (enc : TypeId × Value → H) :
    ReturnsInHanded {} Try.checked os 3 .any (Rows.fnSumSpec.pre6 enc Try.prog Try.f3 Rows.fnSumRow.domain false) (Rows.fnSumSpec.post enc Try.prog Try.f3 false true false false) := by
  refine returnsInHanded_of_change (C := Try.checked) own started (by kernel_rfl) Try.func3
    (ChangeSpec.witness6 (enc := enc) (C := Try.checked) false ⟨#[], #[.slice none 0 0], []⟩ 8 (by kernel_rfl) (by kernel_rfl) (by kernel_rfl) (by kernel_rfl)) ?_
  intro W base args ds gs before hval0 hW hcnd _
  have hval : ∀ (j : Nat) t v, Try.f3.params[j]? = some t → args[j]? = some v → Value.okWide Try.prog W .any base t v := hval0
  have hW' := hW
  obtain ⟨p, q, hA0, hV, rfl, hfz, hnd⟩ := hW
  have hA : DataW.TrodAll enc Try.prog W 0 (fun _ => true) true Try.f3.params.toList args.toList ds p := hA0
  rw [Try.params3] at hA hval
  obtain ⟨v0, vs0, d0, ds0, p0, q0, hargs, rfl, rfl, h0, r0⟩ := trodAll_cons hA
  obtain ⟨rfl, rfl, rfl⟩ := trodAll_nil r0
  obtain rfl : args = #[v0] := by cases args; simp_all
  obtain ⟨rfl, rfl⟩ := trodVars_none hV
  obtain ⟨a0, len0, cap0, rfl⟩ := okWide_slice Try.underlying22 (hval 0 22 v0 rfl rfl)
  have k0 := h0
  have lt0 : ∀ x ∈ p0, x.block < W.heap.size := by obtain ⟨m, hm⟩ := k0; exact DataW.trod_lt m _ _ _ hm
  obtain ⟨z0, w0⟩ : ∃ zs, IsRow .u8 W a0 len0 cap0 zs := by
    obtain ⟨fuel, hf⟩ := h0
    rcases open_ints Try.underlying22 Try.underlying5 (by kernel_rfl) hf with ⟨hcs, _⟩ | ⟨x, l, c, zs, hcs, _, hl, hm, hz, _, hcell, hwz⟩
    · simp [Value.cells] at hcs
      obtain ⟨rfl, rfl, rfl⟩ := hcs
      exact ⟨[], .inl ⟨rfl, rfl, rfl, rfl⟩⟩
    · simp [Value.cells] at hcs
      obtain ⟨rfl, rfl, rfl⟩ := hcs
      exact ⟨zs, .inr ⟨_, rfl, hl, hm, by simpa using hz, hcell, hwz⟩⟩
  clear hA0 hval0
  refine (walk a0 len0 cap0 z0 W w0).mono fun e W' ⟨he, bel⟩ => ?_
  subst he
  exact ⟨_, rfl, _, _, _, [], _, [], hW', trodAll_mk1 (shut_bool Try.underlying4 _), (trodAll_cons_mk (Below.trod laidOut (by kernel_rfl) (of_decide_eq_true (by kernel_rfl)) k0 bel lt0) trodAll_mk0), rfl, bel.frame _, fun h => by cases h⟩

theorem over : Rows.fnSumRow.holds Try.pinned (OpenSpec.ofChange Rows.fnSumSpec) :=
  OpenClaim.holds_of_wide 3 Try.f3 rfl rfl rfl rfl rfl rfl rfl ⟨rfl, rfl, rfl, rfl, rfl⟩ rfl rfl rfl rfl rfl (by kernel_rfl) Try.func3 (by kernel_rfl)
    (of_decide_eq_true (by kernel_rfl)) (by unfold Func.isWrapper; first | (rw [if_pos (by decide +kernel)]; kernel_rfl) | (rw [if_neg (by decide +kernel)]; exact ⟨rfl, rfl⟩))
    (fun os started H enc _ => lifted os started H enc)

/-- THE STATEMENT. -/
theorem proved : Rows.FnSumSaid := over
end Go.Proofs.Ytpiecbkcnpkdcaa.fnSum
namespace Go.Proofs.Ytpiecbkcnpkdcaa
theorem fnSum_holds : Rows.FnSumSaid := fnSum.proved
#print axioms fnSum_holds
end Go.Proofs.Ytpiecbkcnpkdcaa

/- For every code of bytes FnTurned returns true: where two bytes turn into others Turned tells the sum of the turned text, but where all are nought, and it answers as the specification; no condition. (Its frame is the shell that the guide's program writes; the walk is mine.) -/
import Derived.Test.YtpiecbkcnpkdcaaRows
import Derived.Test.YtpiecbkcnpkdcaaSumE
import Derived.Test.YtpiecbkcnpkdcaaDrawS
import Derived.Deep.RegionHeld3
import Derived.WalkKit
import Derived.ProofKit
import Derived.OpenShut
import Derived.ShutString
import Derived.ChangeOld
import Derived.Below
namespace Go.Proofs.Ytpiecbkcnpkdcaa.fnTurned
open Go.ChangeShapes Go.WideShapes Go.ChangeAt Go.RowKit
open Go.ChangeMaps (open_string shut_string)
set_option linter.unusedVariables false

theorem own : ownKnob Try.prog.godebug = none := by kernel_rfl
theorem laidOut : laidOutB Try.prog = true := by kernel_rfl

/-- WHAT THE WALK IS TOLD OF A SLICE OF INTEGERS THAT CAME IN: it is nil; or it leads to a row of 'cap' cells, the numbers 'zs' (the first 'len' are its elements, the rest its spare room), each fitting its kind. -/
def IsRow (k : IntKind) (w : World) (a : Option Addr) (len cap : Nat) (zs : List Int) : Prop :=
  (a = none ∧ len = 0 ∧ cap = 0 ∧ zs = []) ∨
  ∃ x, a = some x ∧ len ≤ cap ∧ cap ≤ maxLen ∧ zs.length = cap ∧ (∀ i, i < zs.length → w.cell? (x.add i) = some (.int k (zs.getD i 0))) ∧ ∀ n ∈ zs, (Lit.int k n).wf = true

/-! ### STEP 1: THE WALK: the Go text returns true, AND WRITES NOTHING THAT WAS THERE: 'Below w.heap.size w w'' (Derived/Below.lean: '.refl', '.alloc', '.drew', '.setCell' at a new block, '.trans'). Open each 'IsRow' by 'rcases' AHEAD of 'go_enter'; part every test ahead of the walk. -/
set_option maxHeartbeats 4000000 in
theorem walk (a0 : Option Addr) (len0 cap0 : Nat) (z0 : List Int) (w : World) (w0 : IsRow .u8 w a0 len0 cap0 z0) :
    Calls Try.prog 4 #[.slice a0 len0 cap0] w fun e w' => e = .returned (.bool true) ∧ Below w.heap.size w w' := by
  obtain ⟨hb, hm⟩ := Draw.bytes_of_row w0
  clear w0
  by_cases hl : len0 ≤ 4096
  · have hd : decide (4096 < (len0 : Int)) = false := by simp; omega
    go_enter Try.func4, Try.ntmps4
    go_wp2_with fail
    refine (Draw.big _ _ _ _ hm).mono ?_
    rintro e w1 ⟨rfl, rfl⟩
    clear hd
    go_wp2_with fail
    refine (Draw.drawTurned _ _ _ _ hb hl).mono ?_
    rintro e w1 ⟨x, y, z, rfl, hB1⟩
    have HB : Hid (Draw.Bytes w a0 len0) := hb
    clear hb
    have ht := Sum.turn_bd x y z
    go_wp2_with fail
    refine (Sum.implTurned _ _ _ _).mono ?_
    rintro e w2 ⟨rfl, hB2⟩
    have hB02 := hB1.trans (hB2.mono hB1.size)
    clear hB1 hB2
    generalize hT : Sum.turnOf x y z = T at *
    have HT : Hid _ := hT
    clear hT
    go_wp2_with fail
    refine (Sum.specTurned _ _ _ _).mono ?_
    rintro e w3 ⟨rfl, rfl⟩
    rw [HT.out]
    go_wp2_with fail
    refine (Draw.drawSum _ _ _ _ (HB.out.below hB02 (Nat.le_refl _)) hl).mono ?_
    rintro e w3 ⟨s, hs, rfl, hB3⟩
    have hs30 : s.size ≤ 1073741824 := by omega
    have hB03 := hB02.trans (hB3.mono hB02.size)
    clear hB02 hB3
    by_cases h2 : s.size < 2
    · have h2i : (s.size : Int) < 2 := by omega
      go_wp2_with fail
      go_ret
      exact ⟨rfl, hB03⟩
    · have h2i : ¬ (s.size : Int) < 2 := by omega
      have hh : (0 : Int) < (s.size : Int) / 2 := by omega
      go_wp2_with fail
      refine (Draw.pick _ _ _ _ _ _ (HB.out.below hB03 (Nat.le_refl _)) hl (by decide) (by decide) hh).mono ?_
      rintro e w4 ⟨⟨p, p0, p1, rfl⟩, rfl⟩
      obtain ⟨cap, w4, hconv, hrow, hB4, hz4⟩ := Draw.byteRow_text s w3
      have hB04 := hB03.trans (hB4.mono hB03.size)
      have hg : w.heap.size ≤ w3.heap.size := hB03.size
      clear hB03 hB4
      generalize w3.heap.size = g at *
      go_wp2_with fail
      clear hconv
      obtain ⟨i, hi⟩ : ∃ i : Nat, (i : Int) = 2 * p := ⟨(2 * p).toNat, by omega⟩
      rw [← hi]
      have hi2 : Hid (i % 2 = 0) := by show _ = _; omega
      have i1 : (i : Int) + 1 < (s.size : Int) := by omega
      have hsl : s.data.toList.length = s.size := by simp
      have hil : i + 1 < s.data.toList.length := by omega
      clear hi p1 p0 hh
      have c0 := (hrow i (by omega)).1
      have c1 := (hrow (i + 1) hil).1
      have f0 := (hrow i (by omega)).2
      have f1 := (hrow (i + 1) hil).2
      have b0 := Sum.byte_bd s.data.toList[i]
      have b1 := Sum.byte_bd s.data.toList[i + 1]
      have HR : Hid (Draw.Row w4 g s.data.toList) := hrow
      clear hrow
      have HO : Hid (∀ (u v : UInt8) (hz : ¬ ∀ b ∈ (s.data.toList.set i u).set (i + 1) v, b = 0), _) := Sum.turn_text hil hi2.out
      generalize hx0 : s.data.toList[i] = x0 at *
      generalize hx1 : s.data.toList[i + 1] = x1 at *
      have X0 : Hid _ := hx0
      have X1 : Hid _ := hx1
      clear hx0 hx1
      go_quiet (fail)
      go_wp2_with fail
      have hB05 := Draw.below_drewN hB04 nq
      refine (Draw.pick _ _ _ _ _ _ (HB.out.below hB05 (Nat.le_refl _)) hl (by decide) (by decide) (by decide)).mono ?_
      rintro e w9 ⟨⟨q, q0, q1, rfl⟩, rfl⟩
      have e1 : IntKind.u8.wrap q = q := by rw [IntKind.wrap_u8]; omega
      obtain ⟨u, hu⟩ : ∃ u : UInt8, (u.toNat : Int) = q := ⟨_, Draw.u8_of q0 (by omega)⟩
      subst hu
      have HR2 : Hid (Draw.Row ((w4.drewN nq).setCell ⟨g, i, none⟩ (.int .u8 (u.toNat : Int))) g (s.data.toList.set i u)) := (HR.out.drewN nq).set i (by omega) u
      have hB06 : Below w.heap.size w ((w4.drewN nq).setCell ⟨g, i, none⟩ (.int .u8 (u.toNat : Int))) := hB05.setCell hg _
      clear hB05 hB04 HR q0 q1
      go_wp2_with fail
      refine (Draw.pick _ _ _ _ _ _ (HB.out.below hB06 (Nat.le_refl _)) hl (by decide) (by decide) (by decide)).mono ?_
      rintro e w9 ⟨⟨q, q0, q1, rfl⟩, rfl⟩
      have e2 : IntKind.u8.wrap q = q := by rw [IntKind.wrap_u8]; omega
      obtain ⟨v, hv⟩ : ∃ v : UInt8, (v.toNat : Int) = q := ⟨_, Draw.u8_of q0 (by omega)⟩
      subst hv
      have HR3 := HR2.out.set (i + 1) (by simpa using hil) v
      have hB07 := hB06.setCell (p := ⟨g, i + 1, none⟩) hg (.int .u8 (v.toNat : Int))
      have hsz7 : g < (((w4.drewN nq).setCell ⟨g, i, none⟩ (.int .u8 (u.toNat : Int))).setCell ⟨g, i + 1, none⟩ (.int .u8 (v.toNat : Int))).heap.size := by simp [World.setCell]; omega
      have HO2 : Hid _ := HO.out u v
      have HLEN : Hid (s.size = ((s.data.toList.set i u).set (i + 1) v).length) := by show _ = _; simp
      have g0 := (HR3 i (by simp; omega)).1
      have g1 := (HR3 (i + 1) (by simp; omega)).1
      simp only [List.getElem_set_self, List.getElem_set_ne (show i + 1 ≠ i by omega)] at g0 g1
      have HR4 : Hid (Draw.Row _ g ((s.data.toList.set i u).set (i + 1) v)) := HR3
      clear hB06 HR2 HO q0 q1 HR3
      go_wp2_with fail
      clear c0 c1 f0 f1
      generalize ((w4.drewN nq).setCell ⟨g, i, none⟩ (.int .u8 (u.toNat : Int))).setCell ⟨g, i + 1, none⟩ (.int .u8 (v.toNat : Int)) = W at *
      generalize (s.data.toList.set i u).set (i + 1) v = L at *
      have bu := Sum.byte_bd u
      have bv := Sum.byte_bd v
      go_quiet (fail)
      go_wp2_with fail
      have HR5 : Hid (Draw.Row (W.drewN nq) g L) := HR4.out.drewN nq
      have hB08 := Draw.below_drewN hB07 nq
      have hsz8 : g < (W.drewN nq).heap.size := hsz7
      clear HR4 hB07 hsz7 g0 g1 e1 e2
      generalize W.drewN nq = V at *
      go_loop [12, 13] (fun sv iv => ∃ (k : Nat) (sb : Bool), k ≤ s.size ∧ iv = .int .i64 k ∧ sv = .bool sb ∧ Hid (sb = !((L.take k).all (· == 0)))) (fun _ iv => s.size - (intOf iv).toNat)
      case atStart => exact ⟨0, false, Nat.zero_le _, rfl, rfl, by show _ = _; simp⟩
      case round =>
        obtain ⟨k, sb, hk, rfl, rfl, hsb⟩ := hrel
        by_cases hlt : k < s.size
        · have hkl : k < L.length := by have := HLEN.out; omega
          have ck := (HR5.out k hkl).1
          have HA : Hid _ := Sum.all_take hkl
          have HN : Hid _ := Sum.neq_zero L[k]
          have hki : (k : Int) < (s.size : Int) := by omega
          cases sb
          · go_wp2_with fail
            go_round
            case rel => exact ⟨k + 1, _, by omega, by go_num, rfl, by show _ = _; rw [HN.out, HA.out]; have h := hsb.out; revert h; cases (L.take k).all (· == 0) <;> cases (L[k] == 0) <;> simp⟩
            case measure => simp [intOf]; omega
          · go_wp2_with fail
            go_round
            case rel => exact ⟨k + 1, true, by omega, by go_num, rfl, by show _ = _; rw [HA.out]; have h := hsb.out; revert h; cases (L.take k).all (· == 0) <;> cases (L[k] == 0) <;> simp⟩
            case measure => simp [intOf]; omega
        · have hki : ¬ (k : Int) < (s.size : Int) := by omega
          have hkl : L.take k = L := List.take_of_length_le (by have := HLEN.out; omega)
          have HS : Hid (sb = !(L.all (· == 0))) := by have := hsb.out; rw [hkl] at this; exact this
          clear hkl hsb
          cases sb
          · go_wp2_with fail
            go_quiet (fail)
            go_wp2_with fail
            go_ret
            exact ⟨rfl, Draw.below_drewN hB08 _⟩
          · have hnz : ¬ ∀ b ∈ L, b = 0 := by
              intro h
              have h1 := HS.out
              have h2 : L.all (· == 0) = true := by rw [List.all_eq_true]; intro b hb; simp [h b hb]
              rw [h2] at h1
              simp at h1
            have HE : Hid _ := HO2.out hnz
            have hLs : (⟨L.toArray⟩ : ByteArray).size ≤ 1073741824 := by show L.length ≤ _; have := HLEN.out; omega
            have hbk := Draw.text_byteRow HR5.out.drew s.size cap HLEN.out
            have HR6 : Hid (Draw.Row V.drew g L) := HR5.out.drew
            have hsz9 : g < V.drew.heap.size := hsz8
            clear hnz HO2 HR5 hsz8
            go_wp2_with fail
            go_region_held3 (fun w' => (convert 22 9 (.slice (some ⟨g, 0, none⟩) s.size cap)).run Try.prog w' = .ok (.string ⟨L.toArray⟩) w') (first | exact hbk | exact hbt | exact hbu) ((first | (go_at_call 12; refine (Sum.specSum s _ hs30).mono ?_; rintro e wq ⟨rfl, rfl⟩) | (go_at_call 17; refine (Sum.implTurned _ _ _ _).mono ?_; rintro e wt ⟨rfl, hBt⟩; have hbt := Draw.text_byteRow (HR6.out.below hBt hsz9) s.size cap HLEN.out) | (go_at_call 10; refine (Sum.implSum _ _ hLs).mono ?_; rintro e wu ⟨rfl, hBu⟩; have hbu := Draw.text_byteRow (Draw.Row.below (Draw.Row.below HR6.out hBt hsz9) hBu (Nat.lt_of_lt_of_le hsz9 hBt.size)) s.size cap HLEN.out)))
            rw [HE.out]
            go_wp2_with fail
            go_ret
            exact ⟨Sum.ret_bool (by simp), (hB08.drew.trans (hBt.mono hB08.size)).trans (hBu.mono (Nat.le_trans hB08.size hBt.size))⟩
  · have hd : decide (4096 < (len0 : Int)) = true := by simp; omega
    go_enter Try.func4, Try.ntmps4
    go_wp2_with fail
    refine (Draw.big _ _ _ _ hm).mono ?_
    rintro e w1 ⟨rfl, rfl⟩
    go_wp2_with fail
    go_ret
    exact ⟨rfl, Below.refl _ _⟩

/-! ### THE ROW's STEP: WRITTEN OUT: LEAVE IT -/
set_option maxRecDepth 100000 in
theorem lifted (os : Os) (started : os.Started) (H : Type) (enc : TypeId × Value → H) :
    ReturnsInHanded {} Try.checked os 4 .any (Rows.fnTurnedSpec.pre6 enc Try.prog Try.f4 Rows.fnTurnedRow.domain false) (Rows.fnTurnedSpec.post enc Try.prog Try.f4 false true false false) := by
  refine returnsInHanded_of_change (C := Try.checked) own started (by kernel_rfl) Try.func4
    (ChangeSpec.witness6 (enc := enc) (C := Try.checked) false ⟨#[], #[.slice none 0 0], []⟩ 8 (by kernel_rfl) (by kernel_rfl) (by kernel_rfl) (by kernel_rfl)) ?_
  intro W base args ds gs before hval0 hW hcnd _
  have hval : ∀ (j : Nat) t v, Try.f4.params[j]? = some t → args[j]? = some v → Value.okWide Try.prog W .any base t v := hval0
  have hW' := hW
  obtain ⟨p, q, hA0, hV, rfl, hfz, hnd⟩ := hW
  have hA : DataW.TrodAll enc Try.prog W 0 (fun _ => true) true Try.f4.params.toList args.toList ds p := hA0
  rw [Try.params4] at hA hval
  obtain ⟨v0, vs0, d0, ds0, p0, q0, hargs, rfl, rfl, h0, r0⟩ := trodAll_cons hA
  obtain ⟨rfl, rfl, rfl⟩ := trodAll_nil r0
  obtain rfl : args = #[v0] := by cases args; simp_all
  obtain ⟨rfl, rfl⟩ := trodVars_none hV
  obtain ⟨a0, len0, cap0, rfl⟩ := okWide_slice Try.underlying22 (hval 0 22 v0 rfl rfl)
  have k0 := h0
  have lt0 : ∀ x ∈ p0, x.block < W.heap.size := by obtain ⟨m, hm⟩ := k0; exact DataW.trod_lt m _ _ _ hm
  obtain ⟨z0, w0⟩ : ∃ zs, IsRow .u8 W a0 len0 cap0 zs := by
    obtain ⟨fuel, hf⟩ := h0
    rcases open_ints Try.underlying22 Try.underlying5 (by kernel_rfl) hf with ⟨hcs, _⟩ | ⟨x, l, c, zs, hcs, _, hl, hm, hz, _, hcell, hwz⟩
    · simp [Value.cells] at hcs
      obtain ⟨rfl, rfl, rfl⟩ := hcs
      exact ⟨[], .inl ⟨rfl, rfl, rfl, rfl⟩⟩
    · simp [Value.cells] at hcs
      obtain ⟨rfl, rfl, rfl⟩ := hcs
      exact ⟨zs, .inr ⟨_, rfl, hl, hm, by simpa using hz, hcell, hwz⟩⟩
  clear hA0 hval0
  refine (walk a0 len0 cap0 z0 W w0).mono fun e W' ⟨he, bel⟩ => ?_
  subst he
  exact ⟨_, rfl, _, _, _, [], _, [], hW', trodAll_mk1 (shut_bool Try.underlying4 _), (trodAll_cons_mk (Below.trod laidOut (by kernel_rfl) (of_decide_eq_true (by kernel_rfl)) k0 bel lt0) trodAll_mk0), rfl, bel.frame _, fun h => by cases h⟩

theorem over : Rows.fnTurnedRow.holds Try.pinned (OpenSpec.ofChange Rows.fnTurnedSpec) :=
  OpenClaim.holds_of_wide 4 Try.f4 rfl rfl rfl rfl rfl rfl rfl ⟨rfl, rfl, rfl, rfl, rfl⟩ rfl rfl rfl rfl rfl (by kernel_rfl) Try.func4 (by kernel_rfl)
    (of_decide_eq_true (by kernel_rfl)) (by unfold Func.isWrapper; first | (rw [if_pos (by decide +kernel)]; kernel_rfl) | (rw [if_neg (by decide +kernel)]; exact ⟨rfl, rfl⟩))
    (fun os started H enc _ => lifted os started H enc)

/-- THE STATEMENT. -/
theorem proved : Rows.FnTurnedSaid := over
end Go.Proofs.Ytpiecbkcnpkdcaa.fnTurned
namespace Go.Proofs.Ytpiecbkcnpkdcaa
theorem fnTurned_holds : Rows.FnTurnedSaid := fnTurned.proved
#print axioms fnTurned_holds
end Go.Proofs.Ytpiecbkcnpkdcaa

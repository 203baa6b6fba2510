/- For every code of bytes FnAlarms returns true: the program's SetAlarm, AlarmsOk, StopAlarms and RingBy answer as the specification's; who rings was set and is due, the soonest first, and all others stay; none of who is left behind a stop; what was set is there once; no condition. (Its frame is the guide's shell; the walk is mine.) -/
import Derived.Test.YtdipdenekhffcaaRows
import Derived.Test.YtdipdenekhffcaaAlmZ
import Derived.Test.YtdipdenekhffcaaAlmR
import Derived.Test.YtdipdenekhffcaaLawR
import Derived.WalkKit
import Derived.ProofKit
import Derived.OpenShut
import Derived.ShutString
import Derived.ChangeOld
import Derived.Below
namespace Go.Proofs.Ytdipdenekhffcaa.fnAlarms
open Go.ChangeShapes Go.WideShapes Go.ChangeAt Go.RowKit
open Go.ChangeMaps (open_string shut_string)
set_option linter.unusedVariables false

theorem own : ownKnob Try.prog.godebug = none := by kernel_rfl
theorem laidOut : laidOutB Try.prog = true := by kernel_rfl

/-- WHAT THE WALK IS TOLD OF A SLICE OF INTEGERS THAT CAME IN: it is nil; or it leads to a row of 'cap' cells, the numbers 'zs' (the first 'len' are its elements, the rest its spare room), each fitting its kind. -/
def IsRow (k : IntKind) (w : World) (a : Option Addr) (len cap : Nat) (zs : List Int) : Prop :=
  (a = none ∧ len = 0 ∧ cap = 0 ∧ zs = []) ∨
  ∃ x, a = some x ∧ len ≤ cap ∧ cap ≤ maxLen ∧ zs.length = cap ∧ (∀ i, i < zs.length → w.cell? (x.add i) = some (.int k (zs.getD i 0))) ∧ ∀ n ∈ zs, (Lit.int k n).wf = true

/-! ### STEP 1: THE WALK: the Go text returns true, AND WRITES NOTHING THAT WAS THERE: 'Below w.heap.size w w'' (Derived/Below.lean: '.refl', '.alloc', '.drew', '.setCell' at a new block, '.trans'). Open each 'IsRow' by 'rcases' AHEAD of 'go_enter'; part every test ahead of the walk. -/
set_option linter.unusedSimpArgs false in
set_option maxRecDepth 20000 in
set_option maxHeartbeats 4000000 in
theorem walk (a0 : Option Addr) (len0 cap0 : Nat) (z0 : List Int) (w : World) (w0 : IsRow .u8 w a0 len0 cap0 z0) :
    Calls Try.prog 3 #[.slice a0 len0 cap0] w fun e w' => e = .returned (.bool true) ∧ Below w.heap.size w w' := by
  obtain ⟨hb, hm⟩ := Draw.bytes_of_row w0
  clear w0
  by_cases hl : len0 ≤ 4096
  case neg =>
    have hd : decide (4096 < (len0 : Int)) = true := by simp; omega
    go_enter Try.func3, Try.ntmps3
    go_wp2_with fail
    refine (Draw.big _ _ _ _ hm).mono ?_
    rintro e w1 ⟨rfl, rfl⟩
    go_wp2_with fail
    go_ret
    exact ⟨rfl, Below.refl _ _⟩
  have hd : decide (4096 < (len0 : Int)) = false := by simp; omega
  have hmix := Alm.mix
  go_enter Try.func3, Try.ntmps3
  go_wp2_with fail
  refine (Draw.big _ _ _ _ hm).mono ?_
  rintro e w1 ⟨rfl, rfl⟩
  clear hd
  go_wp2_with fail
  refine (Alm.drawSetAlarm _ _ _ _ hb hl).mono ?_
  rintro x w1 ⟨l, g1, c1, f, t, rfl, hl1, o1, B1⟩
  have hl2 : l.length ≤ 2097152 := by omega
  have V1 : RowG.Var 26 (w1.alloc (.cells #[.int .i64 f, .int .i64 t] 26)) w1.heap.size [.int .i64 f, .int .i64 t] := RowG.Var.new w1 _
  have bA : Below w1.heap.size w1 (w1.alloc (.cells #[.int .i64 f, .int .i64 t] 26)) := (Below.refl _ _).alloc (Nat.le_refl _) _
  have BA := B1.trans (bA.mono B1.size)
  have o1 := o1.later bA
  clear bA B1
  go_wp2_with fail
  generalize w1.alloc (.cells #[.int .i64 f, .int .i64 t] 26) = wA at *
  generalize w1.heap.size = N1 at *
  refine (Alm.implSetAlarm _ _ _ l f t _ rfl o1.alarms hl2 (by simp)).mono ?_
  rintro x w2 ⟨g2, c2, rfl, o2, b2⟩
  have B2 := BA.trans (b2.mono BA.size)
  have o1 := o1.later b2
  have V1 := V1.later b2
  have hb2 := Draw.Bytes.below hb B2 (Nat.le_refl _)
  clear b2 BA
  go_wp2_with fail
  refine (Alm.drawRingBy _ _ _ _ hb2 hl).mono ?_
  rintro x w3 ⟨q, g3, c3, now, rfl, hq1, o3, b3⟩
  have hq2 : q.length ≤ 2097152 := by omega
  have B3 := B2.trans (b3.mono B2.size)
  have o1 := o1.later b3
  have o2 := o2.later b3
  have V1 := V1.later b3
  clear b3 B2 hb2
  go_wp2_with fail
  refine (Alm.implRingBy _ _ _ q now _ rfl o3.alarms hq2 (by simp)).mono ?_
  rintro x w4 ⟨g4, c4, h4, d4, rfl, o4, p4, b4⟩
  have B4 := B3.trans (b4.mono B3.size)
  have o1 := o1.later b4
  have o2 := o2.later b4
  have o3 := o3.later b4
  have V1 := V1.later b4
  have hb4 := Draw.Bytes.below hb B4 (Nat.le_refl _)
  clear b4 B3
  go_wp2_with fail
  refine (Alm.drawStopAlarms _ _ _ _ hb4 hl).mono ?_
  rintro x w5 ⟨s, g5, c5, wh, rfl, hs1, o5, b5⟩
  have hs2 : s.length ≤ 2097152 := by omega
  have B5 := B4.trans (b5.mono B4.size)
  have o1 := o1.later b5
  have o2 := o2.later b5
  have o3 := o3.later b5
  have o4 := o4.later b5
  have p4 := p4.later b5
  have V1 := V1.later b5
  clear b5 B4 hb4 hb hm hl
  go_wp2_with fail
  refine (Alm.implStopAlarms _ _ _ s wh _ rfl o5.alarms hs2 (by simp)).mono ?_
  rintro x w6 ⟨g6, c6, rfl, o6, b6⟩
  have B6 := B5.trans (b6.mono B5.size)
  have o1 := o1.later b6
  have o2 := o2.later b6
  have o3 := o3.later b6
  have o4 := o4.later b6
  have p4 := p4.later b6
  have o5 := o5.later b6
  have V1 := V1.later b6
  clear b6 B5
  have HXL : Hid ((Alm.setL l (f, t)).length ≤ 100) := by show _ ≤ _; have := Alm.set_len l (f, t); omega
  have HYL : Hid ((Alm.ringL q now).length ≤ 100) := by
    show _ ≤ _
    unfold Alm.ringL
    split
    · have := List.length_filter_le (fun a : Alm.Al => decide (now < a.1)) q; omega
    · simp
  have HWL : Hid ((Alm.ringW q now).length ≤ 100) := by
    show _ ≤ _
    unfold Alm.ringW
    split
    · rw [List.length_map]; have := List.length_filter_le (fun a : Alm.Al => decide (a.1 ≤ now)) q; omega
    · simp
  have HZL : Hid ((Alm.stopL s wh).length ≤ 100) := by
    show _ ≤ _
    unfold Alm.stopL
    split
    · have := List.length_filter_le (fun a : Alm.Al => decide (a.2 ≠ wh)) s; omega
    · simp
  have HZ : Hid (∀ k, k < (Alm.stopL s wh).length → (Alm.at' (Alm.stopL s wh) k).2 ≠ wh) := fun k hk => Alm.stop_no hk
  have HRA : Hid (Alm.alarmsB q = true → Num.plB now = true → ∃ k, k ≤ q.length ∧ Alm.ringL q now = q.drop k ∧ Alm.ringW q now = (q.take k).map (·.2) ∧ (∀ i, i < k → (Alm.at' q i).1 ≤ now) ∧ (∀ i, k ≤ i → i < q.length → now < (Alm.at' q i).1)) := Alm.ring_all
  have HOK : Hid (Alm.setB l (f, t) = true → Alm.alarmsB (Alm.setL l (f, t)) = true ∧ (Alm.setL l (f, t)).length = l.length + 1 ∧ (Alm.setL l (f, t)).countP (fun b => decide (b = (f, t))) = 1) := Alm.set_ok
  have HNO : Hid (Alm.setB l (f, t) = false → (Alm.alarmsB l = false → Alm.setL l (f, t) = []) ∧ (Alm.alarmsB l = true → Alm.setL l (f, t) = l)) := Alm.set_no
  have s0 := V1.cell (i := 0) rfl
  have s1 := V1.cell (i := 1) rfl
  go_wp2_with fail
  refine (Alm.specSetAlarm _ _ _ l f t _ rfl o1.alarms hl2 o1.cap (by simp)).mono ?_
  rintro x w7 ⟨g7, c7, rfl, o7, b7⟩
  have B7 := B6.trans (b7.mono B6.size)
  have o1 := o1.later b7
  have o2 := o2.later b7
  have o3 := o3.later b7
  have o4 := o4.later b7
  have p4 := p4.later b7
  have o5 := o5.later b7
  have o6 := o6.later b7
  have V1 := V1.later b7
  clear b7 B6 s0 s1
  generalize hX : Alm.setL l (f, t) = X at *
  generalize hY : Alm.ringL q now = Y at *
  generalize hW : Alm.ringW q now = D at *
  generalize hZ : Alm.stopL s wh = Z at *
  generalize hI : Alm.setB l (f, t) = is at *
  have KX : Hid _ := hX
  have KY : Hid _ := hY
  have KW : Hid _ := hW
  have KZ : Hid _ := hZ
  have KI : Hid _ := hI
  clear hX hY hW hZ hI
  have hx1 := HXL.out
  have hy1 := HYL.out
  have hw1 := HWL.out
  have hz1 := HZL.out
  have hii : (is == is) = true := by simp
  go_wp2_with fail
  refine (Alm.likeAlarms _ _ _ _ _ _ X X _ rfl rfl o2.alarms o7.alarms (by omega) rfl).mono ?_
  rintro x w8 ⟨rfl, b8⟩
  have B8 := B7.trans (b8.mono B7.size)
  have o1 := o1.later b8
  have o2 := o2.later b8
  have o3 := o3.later b8
  have o4 := o4.later b8
  have p4 := p4.later b8
  have o5 := o5.later b8
  have o6 := o6.later b8
  have V1 := V1.later b8
  clear b8 B7 o7
  go_wp2_with fail
  refine (Alm.implAlarmsOk _ _ _ l _ rfl o1.alarms hl2).mono ?_
  rintro x w9 ⟨rfl, b9⟩
  have B9 := B8.trans (b9.mono B8.size)
  have o1 := o1.later b9
  have o2 := o2.later b9
  have o3 := o3.later b9
  have o4 := o4.later b9
  have p4 := p4.later b9
  have o5 := o5.later b9
  have o6 := o6.later b9
  have V1 := V1.later b9
  clear b9 B8
  go_wp2_with fail
  refine (Alm.specAlarmsOk _ _ _ l _ rfl o1.alarms hl2).mono ?_
  rintro x wA ⟨rfl, bA⟩
  have BA := B9.trans (bA.mono B9.size)
  have o1 := o1.later bA
  have o2 := o2.later bA
  have o3 := o3.later bA
  have o4 := o4.later bA
  have p4 := p4.later bA
  have o5 := o5.later bA
  have o6 := o6.later bA
  have V1 := V1.later bA
  clear bA B9
  generalize hL : Alm.alarmsB l = okl at *
  have KL : Hid _ := hL
  clear hL
  have hll : (okl == okl) = true := by simp
  go_wp2_with fail
  -- MARK
  refine (Alm.specStopAlarms _ _ _ s wh _ rfl o5.alarms hs2).mono ?_
  rintro x wB ⟨gB, cB, rfl, oB, bB⟩
  rw [KZ.out] at oB ⊢
  have BB := BA.trans (bB.mono BA.size)
  have o1 := o1.later bB
  have o2 := o2.later bB
  have o3 := o3.later bB
  have o4 := o4.later bB
  have p4 := p4.later bB
  have o5 := o5.later bB
  have o6 := o6.later bB
  have V1 := V1.later bB
  clear bB BA o5
  go_wp2_with fail
  refine (Alm.likeAlarms _ _ _ _ _ _ Z Z _ rfl rfl o6.alarms oB.alarms (by omega) rfl).mono ?_
  rintro x wC ⟨rfl, bC⟩
  have BC := BB.trans (bC.mono BB.size)
  have o1 := o1.later bC
  have o2 := o2.later bC
  have o3 := o3.later bC
  have o4 := o4.later bC
  have p4 := p4.later bC
  have o6 := o6.later bC
  have V1 := V1.later bC
  clear bC BB oB
  go_wp2_with fail
  refine (Alm.specRingBy _ _ _ q now _ rfl o3.alarms hq2).mono ?_
  rintro x wD ⟨gD, cD, hD, dD, rfl, oD, pD, bD⟩
  rw [KY.out] at oD ⊢
  rw [KW.out] at pD ⊢
  have BD := BC.trans (bD.mono BC.size)
  have o1 := o1.later bD
  have o2 := o2.later bD
  have o3 := o3.later bD
  have o4 := o4.later bD
  have p4 := p4.later bD
  have o6 := o6.later bD
  have V1 := V1.later bD
  clear bD BC
  go_wp2_with fail
  refine (Alm.likeAlarms _ _ _ _ _ _ Y Y _ rfl rfl o4.alarms oD.alarms (by omega) rfl).mono ?_
  rintro x wE ⟨rfl, bE⟩
  have BE := BD.trans (bE.mono BD.size)
  have o1 := o1.later bE
  have o2 := o2.later bE
  have o3 := o3.later bE
  have o4 := o4.later bE
  have p4 := p4.later bE
  have o6 := o6.later bE
  have V1 := V1.later bE
  have pD := pD.later bE
  clear bE BD oD
  go_wp2_with fail
  refine (Alm.likeInts _ _ _ _ _ _ _ _ D _ rfl rfl p4 pD (by omega)).mono ?_
  rintro x wF ⟨rfl, bF⟩
  have BF := BE.trans (bF.mono BE.size)
  have o1 := o1.later bF
  have o2 := o2.later bF
  have o3 := o3.later bF
  have o4 := o4.later bF
  have p4 := p4.later bF
  have o6 := o6.later bF
  have V1 := V1.later bF
  clear bF BE pD KX KY KW KZ
  go_wp2_with fail
  go_loop [18] (fun iv => ∃ k : Nat, k ≤ Z.length ∧ iv = .int .i64 k) (fun iv => Z.length - (intOf iv).toNat)
  case atStart => exact ⟨0, Nat.zero_le _, rfl⟩
  case round =>
    obtain ⟨k, hk, rfl⟩ := hrel
    have i0 : (0 : Int) ≤ (k : Int) := by omega
    by_cases hlt : k < Z.length
    · have i1 : (k : Int) < (Z.length : Int) := by omega
      obtain ⟨⟨d0, d1⟩, _, _⟩ := o6.at hlt
      rw [Alm.getD_at] at d0 d1
      have hne := beq_eq_false_iff_ne.2 (HZ.out k hlt)
      generalize Alm.at' Z k = y at *
      obtain ⟨yf, yt⟩ := y
      simp only at d0 d1 hne
      go_wp2_with fail
      go_round
      case rel => exact ⟨k + 1, by omega, by go_num⟩
      case measure => simp [intOf]; omega
    · have i1 : ¬ (k : Int) < (Z.length : Int) := by omega
      clear HZ o6 HZL hz1 i0 hlt
      go_upto_region 20 with (fail)
      go_cut [122] from 113 (fun v wr => ∃ b : Bool, v = .bool b ∧ Hid (b = true → Alm.alarmsB q = true ∧ Num.plB now = true) ∧ Below wF.heap.size wF wr)
      case first =>

        go_wp2_with fail
        refine (Alm.specAlarmsOk _ _ _ q _ rfl o3.alarms hq2).mono ?_
        rintro x wG ⟨rfl, bG⟩
        cases hok : Alm.alarmsB q
        · go_wp2_with fail
          go_meet
          exact ⟨false, rfl, fun e => (by cases e), bG⟩
        · by_cases n0 : 0 ≤ now
          · by_cases n1 : now ≤ 1000000000
            · have HPL : Hid (Num.plB now = true) := by show _ = _; simp [Num.plB, n0, n1]
              go_wp2_with fail
              go_meet
              exact ⟨true, rfl, fun _ => ⟨hok, HPL.out⟩, bG⟩
            · go_wp2_with fail
              go_meet
              exact ⟨_, rfl, fun e => absurd e (by simp; omega), bG⟩
          · go_wp2_with fail
            go_meet
            exact ⟨false, rfl, fun e => (by cases e), bG⟩
      case rest =>
        obtain ⟨b, rfl, hbb, bG⟩ := hcut
        generalize wc = wG at *
        have BG := BF.trans (bG.mono BF.size)
        have o1 := o1.later bG
        have o2 := o2.later bG
        have o3 := o3.later bG
        have o4 := o4.later bG
        have p4 := p4.later bG
        have V1 := V1.later bG
        clear bG BF i1
        go_upto_if 122 with (fail)
        go_cut [] from 123 (fun wr => Below wG.heap.size wG wr)
        case first =>
          cases b
          · go_wp2_with fail
            go_meet
            exact Below.refl _ _
          · obtain ⟨k, hk, hYk, hDk, hlo, hhi⟩ := HRA.out (hbb.out rfl).1 (hbb.out rfl).2
            have HYK : Hid _ := hYk
            have HDK : Hid _ := hDk
            have HLO : Hid _ := hlo
            have HHI : Hid _ := hhi
            have HYO : Hid (Alm.alarmsB Y = true) := by rw [hYk]; exact Alm.ok_drop (hbb.out rfl).1 k
            have hYlen : Y.length = q.length - k := by rw [hYk, List.length_drop]
            have hDlen : D.length = k := by rw [hDk, List.length_map, List.length_take]; omega
            have HYL2 : Hid _ := hYlen
            have HDL2 : Hid _ := hDlen
            have hsum : (Y.length : Int) + (D.length : Int) = (q.length : Int) := by omega
            clear hYk hDk hlo hhi hYlen hDlen hbb HRA
            go_wp2_with fail
            refine (Alm.implAlarmsOk _ _ _ Y _ rfl o4.alarms (by omega)).mono ?_
            rintro x wH ⟨rfl, bH⟩
            rw [HYO.out]
            have o3 := o3.later bH
            have o4 := o4.later bH
            have p4 := p4.later bH
            clear hsum
            go_wp2_with fail
            go_loopw [19] (fun iv wr => ∃ i : Nat, i ≤ q.length ∧ iv = .int .i64 i ∧ Below wH.heap.size wH wr) (fun iv _ => q.length - (intOf iv).toNat)
            case atStart => exact ⟨0, Nat.zero_le _, rfl, Below.refl _ _⟩
            case round =>
              obtain ⟨i, hi, rfl, hB⟩ := hrel
              by_cases hlt : i < q.length
              · have i0 : (0 : Int) ≤ (i : Int) := by omega
                have i1 : (i : Int) < (q.length : Int) := by omega
                obtain ⟨⟨d0, d1⟩, _, _⟩ := (o3.later hB).at hlt
                rw [Alm.getD_at] at d0 d1
                replace d0 := Draw.Later.cell d0
                replace d1 := Draw.Later.cell d1
                by_cases hik : i < k
                · have hDl := HDL2.out
                  have j1 : (i : Int) < (D.length : Int) := by omega
                  have j2 : ¬ (D.length : Int) ≤ (i : Int) := by omega
                  have e0 := Draw.Later.cell ((p4.later hB).at (k := i) (by omega)).1
                  rw [HDK.out, Alm.who_at q k i hik hk] at e0
                  have n1 : ¬ now < (Alm.at' q i).1 := by have := HLO.out i hik; omega
                  clear hDl
                  generalize Alm.at' q i = y at *
                  obtain ⟨yf, yt⟩ := y
                  simp only at d0 d1 e0 n1
                  have n2 : decide (now < yf) = false := decide_eq_false n1
                  have j3 : decide (i < D.length) = true := decide_eq_true (by omega)
                  have j4 : decide (D.length ≤ i) = false := decide_eq_false (by omega)
                  clear n1
                  go_wp2_with fail
                  refine Draw.wp_region_later hmix (by kernel_rfl) ?_
                  repeat (go_big_quiet_step (fail))
                  refine wpQuiet_nil ?_
                  intro _ hw'
                  obtain ⟨⟨wq, hBq⟩, hw''⟩ := hw'
                  subst hw''
                  go_wp2_with fail
                  go_roundw
                  case rel => exact ⟨i + 1, by omega, by go_num, hB.trans (hBq.mono hB.size)⟩
                  case measure => simp [intOf]; omega
                · obtain ⟨m, hm⟩ : ∃ m, m = i - D.length := ⟨_, rfl⟩
                  have hDl := HDL2.out
                  have hYl := HYL2.out
                  have j1 : ¬ (i : Int) < (D.length : Int) := by omega
                  have j2 : (D.length : Int) ≤ (i : Int) := by omega
                  have j3 : (i : Int) - (D.length : Int) = (m : Int) := by omega
                  have j4 : (0 : Int) ≤ (m : Int) := by omega
                  have j5 : (m : Int) < (Y.length : Int) := by omega
                  obtain ⟨⟨e0, e1⟩, _, _⟩ := (o4.later hB).at (k := m) (by omega)
                  have hat : Alm.at' Y m = Alm.at' q i := by
                    rw [HYK.out, show m = i - k by omega]
                    exact Alm.at_dropk q k i (by omega)
                  rw [Alm.getD_at, hat] at e0 e1
                  replace e0 := Draw.Later.cell e0
                  replace e1 := Draw.Later.cell e1
                  have n1 : ¬ (Alm.at' q i).1 ≤ now := by have := HHI.out i (by omega) hlt; omega
                  clear hDl hYl hm hat
                  generalize Alm.at' q i = y at *
                  obtain ⟨yf, yt⟩ := y
                  simp only at d0 d1 e0 e1 n1
                  have n2 : decide (yf ≤ now) = false := decide_eq_false n1
                  have j6 : decide (i < D.length) = false := decide_eq_false (by omega)
                  have j7 : decide (D.length ≤ i) = true := decide_eq_true (by omega)
                  clear n1
                  go_wp2_with fail
                  refine Draw.wp_region_later hmix (by kernel_rfl) ?_
                  repeat (go_big_quiet_step (fail))
                  refine wpQuiet_nil ?_
                  intro _ hw'
                  obtain ⟨⟨wq, hBq⟩, hw''⟩ := hw'
                  subst hw''
                  go_wp2_with fail
                  go_roundw
                  case rel => exact ⟨i + 1, by omega, by go_num, hB.trans (hBq.mono hB.size)⟩
                  case measure => simp [intOf]; omega
              · have i1 : ¬ (i : Int) < (q.length : Int) := by omega
                go_wp2_with fail
                go_meet
                exact bH.trans (hB.mono bH.size)
        case rest =>
          generalize wc = wK at *
          have bK := hcut
          have BK := BG.trans (bK.mono BG.size)
          have o1 := o1.later bK
          have o2 := o2.later bK
          have V1 := V1.later bK
          clear hcut bK BG o3 o4 p4 HRA hbb
          cases is
          · have HN1 : Hid (okl = false → X.length = 0) := fun e => by rw [(HNO.out rfl).1 e]; rfl
            have HN2 : Hid (okl = true → X = l) := (HNO.out rfl).2
            clear HNO HOK
            go_wp2_with fail
            refine (Alm.specAlarmsOk _ _ _ l _ rfl o1.alarms hl2).mono ?_
            rintro x wL ⟨rfl, bL⟩
            have BL := BK.trans (bL.mono BK.size)
            have o1 := o1.later bL
            have o2 := o2.later bL
            rw [KL.out]
            cases okl
            · have hX0 := HN1.out rfl
              have hX1 : ((X.length : Int) == 0) = true := by rw [beq_iff_eq]; omega
              clear hX0 HN1 HN2
              go_wp2_with fail
              go_ret
              exact ⟨rfl, BL⟩
            · have HXL2 : Hid (X = l) := HN2.out rfl
              clear HN1 HN2
              go_wp2_with fail
              refine (Alm.likeAlarms _ _ _ _ _ _ X l _ rfl rfl o2.alarms o1.alarms (by omega) HXL2.out).mono ?_
              rintro x wM ⟨rfl, bM⟩
              go_wp2_with fail
              go_ret
              exact ⟨rfl, BL.trans (bM.mono BL.size)⟩
          · obtain ⟨x1, x2, x3⟩ := HOK.out rfl
            have X1 : Hid _ := x1
            have X2 : Hid _ := x2
            have X3 : Hid _ := x3
            clear x1 x2 x3 HNO HOK
            go_wp2_with fail
            go_loopw [20, 21] (fun cv iv wr => ∃ (k : Nat), k ≤ X.length ∧ iv = .int .i64 k ∧ Hid (cv = .int .i64 ((X.take k).countP (fun b => decide (b = (f, t))) : Int)) ∧ Below wK.heap.size wK wr) (fun _ iv _ => X.length - (intOf iv).toNat)
            case atStart => exact ⟨0, Nat.zero_le _, rfl, by show _ = _; simp, Below.refl _ _⟩
            case round =>
              obtain ⟨k, hk, rfl, hcv, hB⟩ := hrel
              have HCL : Hid ((X.take k).countP (fun b => decide (b = (f, t))) ≤ k) := by
                show _ ≤ _
                have := List.countP_le_length (p := fun b => decide (b = (f, t))) (l := X.take k)
                rw [List.length_take] at this
                omega
              by_cases hlt : k < X.length
              · have i0 : (0 : Int) ≤ (k : Int) := by omega
                have i1 : (k : Int) < (X.length : Int) := by omega
                obtain ⟨⟨d0, d1⟩, _, _⟩ := (o2.later hB).at hlt
                rw [Alm.getD_at] at d0 d1
                replace d0 := Draw.Later.cell d0
                replace d1 := Draw.Later.cell d1
                have V2 := V1.later hB
                have s0 := Draw.Later.cell (V2.cell (i := 0) rfl)
                have s1 := Draw.Later.cell (V2.cell (i := 1) rfl)
                have HC : Hid _ := Alm.count_step hlt (fun b => decide (b = (f, t)))
                generalize Alm.at' X k = y at *
                obtain ⟨yf, yt⟩ := y
                simp only at d0 d1
                have e' : (yf = f ∧ yt = t) ∨ yf ≠ f ∨ yf = f ∧ yt ≠ t := by
                  by_cases q1 : yf = f
                  · by_cases q2 : yt = t
                    · exact .inl ⟨q1, q2⟩
                    · exact .inr (.inr ⟨q1, q2⟩)
                  · exact .inr (.inl q1)
                have hcv2 := hcv.out
                subst hcv2
                clear hcv
                generalize hn : (X.take k).countP (fun b => decide (b = (f, t))) = n at *
                have hn2 : n ≤ k := HCL.out
                have HNN : Hid _ := hn
                clear hn HCL
                rcases e' with ⟨rfl, rfl⟩ | e1 | ⟨rfl, e1⟩
                · have HC2 : Hid (((X.take (k + 1)).countP (fun b => decide (b = (yf, yt))) : Int) = (n : Int) + 1) := by show _ = _; rw [HC.out]; simp
                  clear HC
                  go_wp2_with fail
                  refine Draw.wp_region_later hmix (by kernel_rfl) ?_
                  repeat (go_big_quiet_step (fail))
                  refine wpQuiet_nil ?_
                  intro _ hw'
                  obtain ⟨⟨wq, hBq⟩, hw''⟩ := hw'
                  subst hw''
                  go_wp2_with fail
                  go_roundw
                  case rel => exact ⟨k + 1, by omega, by go_num, by show _ = _; rw [HC2.out], hB.trans (hBq.mono hB.size)⟩
                  case measure => simp [intOf]; omega
                · have HC2 : Hid (((X.take (k + 1)).countP (fun b => decide (b = (f, t))) : Int) = (n : Int)) := by show _ = _; rw [HC.out]; simp [e1]
                  have e2 := beq_eq_false_iff_ne.2 e1
                  clear HC
                  go_wp2_with fail
                  refine Draw.wp_region_later hmix (by kernel_rfl) ?_
                  repeat (go_big_quiet_step (fail))
                  refine wpQuiet_nil ?_
                  intro _ hw'
                  obtain ⟨⟨wq, hBq⟩, hw''⟩ := hw'
                  subst hw''
                  go_wp2_with fail
                  go_roundw
                  case rel => exact ⟨k + 1, by omega, by go_num, by show _ = _; rw [HC2.out], hB.trans (hBq.mono hB.size)⟩
                  case measure => simp [intOf]; omega
                · have HC2 : Hid (((X.take (k + 1)).countP (fun b => decide (b = (yf, t))) : Int) = (n : Int)) := by show _ = _; rw [HC.out]; simp [e1]
                  have e2 := beq_eq_false_iff_ne.2 e1
                  clear HC
                  go_wp2_with fail
                  refine Draw.wp_region_later hmix (by kernel_rfl) ?_
                  repeat (go_big_quiet_step (fail))
                  refine wpQuiet_nil ?_
                  intro _ hw'
                  obtain ⟨⟨wq, hBq⟩, hw''⟩ := hw'
                  subst hw''
                  go_wp2_with fail
                  go_roundw
                  case rel => exact ⟨k + 1, by omega, by go_num, by show _ = _; rw [HC2.out], hB.trans (hBq.mono hB.size)⟩
                  case measure => simp [intOf]; omega
              · have i1 : ¬ (k : Int) < (X.length : Int) := by omega
                have hcv2 := hcv.out
                rw [List.take_of_length_le (by omega), X3.out] at hcv2
                subst hcv2
                clear hcv HCL
                have hlen : ((X.length : Int) == (l.length : Int) + 1) = true := by rw [beq_iff_eq]; have := X2.out; omega
                go_wp2_with fail
                refine (Alm.implAlarmsOk _ _ _ X _ rfl (o2.later hB).alarms (by omega)).mono ?_
                rintro x wP ⟨rfl, bP⟩
                rw [X1.out]
                go_wp2_with fail
                go_ret
                exact ⟨rfl, (BK.trans (hB.mono BK.size)).trans (bP.mono (BK.trans (hB.mono BK.size)).size)⟩

/-! ### THE ROW's STEP: WRITTEN OUT: LEAVE IT -/
set_option maxRecDepth 100000 in
theorem lifted (os : Os) (started : os.Started) (H : Type) (enc : TypeId × Value → H) :
    ReturnsInHanded {} Try.checked os 3 .any (Rows.fnAlarmsSpec.pre6 enc Try.prog Try.f3 Rows.fnAlarmsRow.domain false) (Rows.fnAlarmsSpec.post enc Try.prog Try.f3 false true false false) := by
  refine returnsInHanded_of_change (C := Try.checked) own started (by kernel_rfl) Try.func3
    (ChangeSpec.witness6 (enc := enc) (C := Try.checked) false ⟨#[], #[.slice none 0 0], []⟩ 8 (by kernel_rfl) (by kernel_rfl) (by kernel_rfl) (by kernel_rfl)) ?_
  intro W base args ds gs before hval0 hW hcnd _
  have hval : ∀ (j : Nat) t v, Try.f3.params[j]? = some t → args[j]? = some v → Value.okWide Try.prog W .any base t v := hval0
  have hW' := hW
  obtain ⟨p, q, hA0, hV, rfl, hfz, hnd⟩ := hW
  have hA : DataW.TrodAll enc Try.prog W 0 (fun _ => true) true Try.f3.params.toList args.toList ds p := hA0
  rw [Try.params3] at hA hval
  obtain ⟨v0, vs0, d0, ds0, p0, q0, hargs, rfl, rfl, h0, r0⟩ := trodAll_cons hA
  obtain ⟨rfl, rfl, rfl⟩ := trodAll_nil r0
  obtain rfl : args = #[v0] := by cases args; simp_all
  obtain ⟨rfl, rfl⟩ := trodVars_none hV
  obtain ⟨a0, len0, cap0, rfl⟩ := okWide_slice Try.underlying22 (hval 0 22 v0 rfl rfl)
  have k0 := h0
  have lt0 : ∀ x ∈ p0, x.block < W.heap.size := by obtain ⟨m, hm⟩ := k0; exact DataW.trod_lt m _ _ _ hm
  obtain ⟨z0, w0⟩ : ∃ zs, IsRow .u8 W a0 len0 cap0 zs := by
    obtain ⟨fuel, hf⟩ := h0
    rcases open_ints Try.underlying22 Try.underlying5 (by kernel_rfl) hf with ⟨hcs, _⟩ | ⟨x, l, c, zs, hcs, _, hl, hm, hz, _, hcell, hwz⟩
    · simp [Value.cells] at hcs
      obtain ⟨rfl, rfl, rfl⟩ := hcs
      exact ⟨[], .inl ⟨rfl, rfl, rfl, rfl⟩⟩
    · simp [Value.cells] at hcs
      obtain ⟨rfl, rfl, rfl⟩ := hcs
      exact ⟨zs, .inr ⟨_, rfl, hl, hm, by simpa using hz, hcell, hwz⟩⟩
  clear hA0 hval0
  refine (walk a0 len0 cap0 z0 W w0).mono fun e W' ⟨he, bel⟩ => ?_
  subst he
  exact ⟨_, rfl, _, _, _, [], _, [], hW', trodAll_mk1 (shut_bool Try.underlying4 _), (trodAll_cons_mk (Below.trod laidOut (by kernel_rfl) (of_decide_eq_true (by kernel_rfl)) k0 bel lt0) trodAll_mk0), rfl, bel.frame _, fun h => by cases h⟩

theorem over : Rows.fnAlarmsRow.holds Try.pinned (OpenSpec.ofChange Rows.fnAlarmsSpec) :=
  OpenClaim.holds_of_wide 3 Try.f3 rfl rfl rfl rfl rfl rfl rfl ⟨rfl, rfl, rfl, rfl, rfl⟩ rfl rfl rfl rfl rfl (by kernel_rfl) Try.func3 (by kernel_rfl)
    (of_decide_eq_true (by kernel_rfl)) (by unfold Func.isWrapper; first | (rw [if_pos (by decide +kernel)]; kernel_rfl) | (rw [if_neg (by decide +kernel)]; exact ⟨rfl, rfl⟩))
    (fun os started H enc _ => lifted os started H enc)

/-- THE STATEMENT. -/
theorem proved : Rows.FnAlarmsSaid := over
end Go.Proofs.Ytdipdenekhffcaa.fnAlarms
namespace Go.Proofs.Ytdipdenekhffcaa
theorem fnAlarms_holds : Rows.FnAlarmsSaid := fnAlarms.proved
#print axioms fnAlarms_holds
end Go.Proofs.Ytdipdenekhffcaa

/- For every code of bytes FnLines returns true: the program's NewLine, RoomOf, LineOk and AtDesk answer as the specification's at what is drawn, a new line is right and empty, with as much room as its desks, and its roads are open; codes of more than 4096 bytes are passed by. (Its frame is the guide's shell; the walk is mine.) -/
import Derived.Test.YtanfnphdgcnojaaGreatRows
import Derived.Test.YtanfnphdgcnojaaGreatQ54
import Derived.Test.YtanfnphdgcnojaaGreatQ55
import Derived.WalkKit
import Derived.ProofKit
import Derived.OpenShut
import Derived.ShutString
import Derived.ChangeOld
import Derived.Below
namespace Go.Proofs.YtanfnphdgcnojaaGreat.fnLines
open Go.ChangeShapes Go.WideShapes Go.ChangeAt Go.RowKit
open Go.ChangeMaps (open_string shut_string)
set_option linter.unusedVariables false

theorem own : ownKnob Tryz.prog.godebug = none := by kernel_rfl
theorem laidOut : laidOutB Tryz.prog = true := by kernel_rfl

def IsRow (k : IntKind) (w : World) (a : Option Addr) (len cap : Nat) (zs : List Int) : Prop :=
 (a = none ∧ len = 0 ∧ cap = 0 ∧ zs = []) ∨
 ∃ x, a = some x ∧ len ≤ cap ∧ cap ≤ maxLen ∧ zs.length = cap ∧ (∀ i, i < zs.length → w.cell? (x.add i) = some (.int k (zs.getD i 0))) ∧ ∀ n ∈ zs, (Lit.int k n).wf = true

/-! ### STEP 1: THE WALK: the Go text returns true, AND WRITES NOTHING THAT WAS THERE: 'Below w.heap.size w w'' (Derived/Below.lean: '.refl', '.alloc', '.drew', '.setCell' at a new block, '.trans'). Open each 'IsRow' by 'rcases' AHEAD of 'go_enter'; part every test ahead of the walk. -/
set_option linter.unusedSimpArgs false in
set_option maxRecDepth 20000 in
set_option maxHeartbeats 40000000 in
theorem walk (a0 : Option Addr) (len0 cap0 : Nat) (z0 : List Int) (w : World) (w0 : IsRow .u8 w a0 len0 cap0 z0) :
  Calls Tryz.prog 3 #[.slice a0 len0 cap0] w fun e w' => e = .returned (.bool true) ∧ Below w.heap.size w w' := by
 obtain ⟨hb, hm⟩ := Draw.bytes_of_row w0
 clear w0
 by_cases hl : len0 ≤ 4096
 case neg =>
  have hd : decide (4096 < (len0 : Int)) = true := by simp; omega
  go_enter Tryz.func3, Tryz.ntmps3
  go_wp2_with fail
  refine (Draw.big _ _ _ _ hm).mono ?_
  rintro e w1 ⟨rfl, rfl⟩
  go_wp2_with fail
  go_ret
  exact ⟨rfl, Below.refl _ _⟩
 have hd : decide (4096 < (len0 : Int)) = false := by simp; omega
 have hmix := Roa.mix
 go_enter Tryz.func3, Tryz.ntmps3
 go_wp2_with fail
 refine (Draw.big _ _ _ _ hm).mono ?_
 rintro e w1 ⟨rfl, rfl⟩
 clear hd
 go_wp2_with fail
 refine (Wor.drawNewLine _ _ _ _ hb hl).mono ?_
 rintro e w1 ⟨L, g, cp, n, rfl, hL7, o1, B1⟩
 have HL7 : Hid (L.length ≤ 7) := hL7
 have hb1 := Draw.Bytes.below hb B1 (Nat.le_refl _)
 obtain ⟨nbx, nbr, nbs⟩ := Wor.nl_bd L n
 have HNX : Hid _ := nbx
 have HNR : Hid _ := nbr
 have HNS : Hid _ := nbs
 clear hL7 nbx nbr nbs
 go_wp2_with fail
 refine (Wor.implNewLineD _ cp L n _ o1.lies (by have := HL7.out; omega)).mono ?_
 rintro e w2 ⟨aH, aR, cH, cR, rfl, N1, b2⟩
 replace o1 := o1.later b2
 replace B1 := B1.trans (b2.mono B1.size)
 replace hb1 := Draw.Bytes.below hb1 b2 (Nat.le_refl _)
 clear b2
 have v5 : RowG.Var 30 (w2.alloc (.cells #[.slice aH (Wor.nlH L n).length cH, .slice aR (Wor.nlR L n).length cR] 30)) w2.heap.size [.slice aH (Wor.nlH L n).length cH, .slice aR (Wor.nlR L n).length cR] := RowG.Var.new w2 _
 have b2 := (Below.refl w2.heap.size w2).alloc (Nat.le_refl _) (.cells #[.slice aH (Wor.nlH L n).length cH, .slice aR (Wor.nlR L n).length cR] 30)
 replace o1 := o1.later b2
 replace N1 := N1.later b2
 replace B1 := B1.trans (b2.mono B1.size)
 replace hb1 := Draw.Bytes.below hb1 b2 (Nat.le_refl _)
 clear b2
 go_upto_region 5 with (fail)
 generalize w2.alloc (.cells #[.slice aH (Wor.nlH L n).length cH, .slice aR (Wor.nlR L n).length cR] 30) = V2 at *
 generalize w2.heap.size = k5 at *
 go_wp2_with fail
 refine (Wor.drawRoomOf _ _ _ _ hb1 hl).mono ?_
 rintro e w3 ⟨qH, qR, cqH, cqR, xs, rs, rfl, D, b3⟩
 have v7 : RowG.Var 30 (w3.alloc (.cells #[.slice qH xs.length cqH, .slice qR rs.length cqR] 30)) w3.heap.size [.slice qH xs.length cqH, .slice qR rs.length cqR] := RowG.Var.new w3 _
 replace b3 := b3.alloc b3.size (.cells #[.slice qH xs.length cqH, .slice qR rs.length cqR] 30)
 replace D := D.later ((Below.refl w3.heap.size w3).alloc (Nat.le_refl _) (.cells #[.slice qH xs.length cqH, .slice qR rs.length cqR] 30))
 replace o1 := o1.later b3
 replace N1 := N1.later b3
 replace v5 := v5.later b3
 replace B1 := B1.trans (b3.mono B1.size)
 replace hb1 := Draw.Bytes.below hb1 b3 (Nat.le_refl _)
 clear b3
 go_upto_region 6 with (fail)
 generalize w3.alloc (.cells #[.slice qH xs.length cqH, .slice qR rs.length cqR] 30) = V3 at *
 generalize w3.heap.size = k7 at *
 have e0 := v7.cell (i := 0) rfl
 have e1 := v7.cell (i := 1) rfl
 have hxl := D.nx
 have hrl := D.nr
 have HSM : Hid _ := D.sm
 have hRi := fun w' (d : Wor.DL w' qH xs qR rs) => Lin.implRoomOf qH qR xs.length rs.length cqH cqR xs rs w' rfl rfl d.L d.R (by omega) (by omega) HSM.out
 go_wp2_with fail
 refine (hRi _ D).mono ?_
 rintro e w4 ⟨rfl, b4⟩
 replace D := D.later b4
 replace o1 := o1.later b4
 replace N1 := N1.later b4
 replace v5 := v5.later b4
 replace v7 := v7.later b4
 replace B1 := B1.trans (b4.mono B1.size)
 replace hb1 := Draw.Bytes.below hb1 b4 (Nat.le_refl _)
 clear b4 e0 e1 hRi
 go_wp2_with fail
 refine (Wor.drawAtDesk _ _ _ _ hb1 hl).mono ?_
 rintro e w5 ⟨dH, dR, cdH, cdR, ys, ss, rfl, E, b5⟩
 have v9 : RowG.Var 30 (w5.alloc (.cells #[.slice dH ys.length cdH, .slice dR ss.length cdR] 30)) w5.heap.size [.slice dH ys.length cdH, .slice dR ss.length cdR] := RowG.Var.new w5 _
 replace b5 := b5.alloc b5.size (.cells #[.slice dH ys.length cdH, .slice dR ss.length cdR] 30)
 replace E := E.later ((Below.refl w5.heap.size w5).alloc (Nat.le_refl _) (.cells #[.slice dH ys.length cdH, .slice dR ss.length cdR] 30))
 replace D := D.later b5
 replace o1 := o1.later b5
 replace N1 := N1.later b5
 replace v5 := v5.later b5
 replace v7 := v7.later b5
 replace B1 := B1.trans (b5.mono B1.size)
 clear b5 hb1
 go_upto_region 8 with (fail)
 generalize w5.alloc (.cells #[.slice dH ys.length cdH, .slice dR ss.length cdR] 30) = V5 at *
 generalize w5.heap.size = k9 at *
 go_wp2_with fail
 refine (Wor.specNewLineD _ cp L n _ o1.lies (by have := HL7.out; omega)).mono ?_
 rintro e w6 ⟨yH, yR, cyH, cyR, rfl, N2, b6⟩
 have v10 : RowG.Var 30 (w6.alloc (.cells #[.slice yH (Wor.nlH L n).length cyH, .slice yR (Wor.nlR L n).length cyR] 30)) w6.heap.size [.slice yH (Wor.nlH L n).length cyH, .slice yR (Wor.nlR L n).length cyR] := RowG.Var.new w6 _
 replace b6 := b6.alloc b6.size (.cells #[.slice yH (Wor.nlH L n).length cyH, .slice yR (Wor.nlR L n).length cyR] 30)
 replace N2 := N2.later ((Below.refl w6.heap.size w6).alloc (Nat.le_refl _) (.cells #[.slice yH (Wor.nlH L n).length cyH, .slice yR (Wor.nlR L n).length cyR] 30))
 replace D := D.later b6
 replace E := E.later b6
 replace o1 := o1.later b6
 replace N1 := N1.later b6
 replace v5 := v5.later b6
 replace v7 := v7.later b6
 replace v9 := v9.later b6
 replace B1 := B1.trans (b6.mono B1.size)
 clear b6
 go_upto_region 9 with (fail)
 generalize w6.alloc (.cells #[.slice yH (Wor.nlH L n).length cyH, .slice yR (Wor.nlR L n).length cyR] 30) = V6 at *
 generalize w6.heap.size = k10 at *
 have hyl := E.nx
 have hsl := E.nr
 have HSE : Hid _ := E.sm
 have HLL : Hid (∀ p : Draw.Later V6, Calls Tryz.prog 12 #[.agg #[.slice aH (Wor.nlH L n).length cH, .slice aR (Wor.nlR L n).length cR], .agg #[.slice yH (Wor.nlH L n).length cyH, .slice yR (Wor.nlR L n).length cyR]] p.v fun e w' => e = .returned (.bool true) ∧ Below p.v.heap.size p.v w') := fun p => Lin.likeLine aH yH aR yR cH cyH cR cyR _ _ _ _ (Wor.nlH L n) (Wor.nlH L n) (Wor.nlR L n) p.v rfl rfl rfl rfl rfl (N1.later p.h).L (N2.later p.h).L (N1.later p.h).R (N2.later p.h).R (Nat.le_trans HNX.out (by decide)) (Nat.le_trans HNR.out (by decide)) HNS.out
 have HRS : Hid _ := fun p : Draw.Later V6 => Lin.specRoomOf qH qR xs.length rs.length cqH cqR xs rs p.v rfl rfl (D.later p.h).L (D.later p.h).R (by omega) (by omega) HSM.out
 have HOI : Hid _ := fun p : Draw.Later V6 => Lin.implLineOk qH qR xs.length rs.length cqH cqR xs rs p.v rfl rfl (D.later p.h).L (D.later p.h).R (by omega) HSM.out
 have HOS : Hid _ := fun p : Draw.Later V6 => Lin.specLineOk qH qR xs.length rs.length cqH cqR xs rs p.v rfl rfl (D.later p.h).L (D.later p.h).R (by omega) (by omega) HSM.out
 have HDI : Hid _ := fun p : Draw.Later V6 => Lin.implAtDesk dH dR ys.length ss.length cdH cdR ys ss p.v rfl rfl (E.later p.h).L (E.later p.h).R (by omega) (by omega) HSE.out
 have HDS : Hid _ := fun p : Draw.Later V6 => Lin.specAtDesk dH dR ys.length ss.length cdH cdR ys ss p.v rfl rfl (E.later p.h).L (E.later p.h).R (by omega) (by omega) HSE.out
 have z0 := v5.cell (i := 0) rfl
 have z1 := v5.cell (i := 1) rfl
 have y0 := v7.cell (i := 0) rfl
 have y1 := v7.cell (i := 1) rfl
 have x0 := v9.cell (i := 0) rfl
 have x1 := v9.cell (i := 1) rfl
 have u0 := v10.cell (i := 0) rfl
 have u1 := v10.cell (i := 1) rfl
 have z0' := Draw.Later.cell z0
 have z1' := Draw.Later.cell z1
 have y0' := Draw.Later.cell y0
 have y1' := Draw.Later.cell y1
 have x0' := Draw.Later.cell x0
 have x1' := Draw.Later.cell x1
 have u0' := Draw.Later.cell u0
 have u1' := Draw.Later.cell u1
 refine Draw.wp_region_later hmix (by kernel_rfl) ?_
 repeat (go_big_quiet_step (first | (go_at_call 12; exact Draw.later_of (HLL.out _)) | (go_at_call 13; exact Draw.later_of (HRS.out _)) | (go_at_call 14; exact Draw.later_of (HOI.out _)) | (go_at_call 15; exact Draw.later_of (HOS.out _)) | (go_at_call 16; exact Draw.later_of (HDI.out _)) | (go_at_call 17; exact Draw.later_of (HDS.out _))))
 refine wpQuiet_nil ?_
 intro _ hw'
 obtain ⟨⟨wq, hBq⟩, hw''⟩ := hw'
 subst hw''
 replace D := D.later hBq
 replace o1 := o1.later hBq
 replace N1 := N1.later hBq
 replace v5 := v5.later hBq
 replace v7 := v7.later hBq
 replace B1 := B1.trans (hBq.mono B1.size)
 clear hBq z0 z1 y0 y1 x0 x1 u0 u1 z0' z1' y0' y1' x0' x1' u0' u1' HLL HRS HOI HOS HDI HDS E v9 v10 N2 HSE hyl hsl V6
 have hOS := fun w' (d : Wor.DL w' qH xs qR rs) => Lin.specLineOk qH qR xs.length rs.length cqH cqR xs rs w' rfl rfl d.L d.R (by omega) (by omega) HSM.out
 obtain ⟨Rm, hRm⟩ : ∃ Rm, Lin.roomB (xs.map (·.h)) rs = Rm := ⟨_, rfl⟩
 have HR1 : Hid (Wor.hopsB (xs.map (·.h)) rs = true → 6 ≤ Rm) := fun h => by
  have q := (Lin.sumC_bd h 3 (by omega)).1
  rw [← hRm, Lin.roomB, h, if_pos rfl]
  omega
 have HR2 : Hid (Wor.hopsB (xs.map (·.h)) rs = false → Rm = -1) := fun h => by
  rw [← hRm, Lin.roomB, h]
  rfl
 rw [hRm]
 clear hRm
 go_upto_region 11 with (fail)
 go_cut [81] from 68 to 80 (fun cv wr => cv = .bool false ∧ RowG.Var 30 wr k5 [.slice aH (Wor.nlH L n).length cH, .slice aR (Wor.nlR L n).length cR] ∧ Wor.NL wr aH aR L n ∧ Roa.EI.Own 2 wr w.heap.size (some ⟨g, 0, none⟩) cp L ∧ Below w.heap.size w wr)
 case first =>
  by_cases hq : Wor.hopsB (xs.map (·.h)) rs = true
  case pos =>
   have r6 := HR1.out hq
   have q1 : ¬ Rm < 0 := by omega
   have q2 : 0 ≤ Rm := by omega
   have q3 : ¬ Rm < 6 := by omega
   clear r6 hOS hq
   go_wp2_with fail
   go_meet
   exact ⟨rfl, v5, N1, o1, B1⟩
  case neg =>
   rw [Bool.not_eq_true] at hq
   have r6 := HR2.out hq
   rw [hq] at hOS
   have q1 : Rm < 0 := by omega
   have q2 : ¬ 0 ≤ Rm := by omega
   clear r6 hq
   have e0 := v7.cell (i := 0) rfl
   have e1 := v7.cell (i := 1) rfl
   go_wp2_with fail
   refine (hOS _ D).mono ?_
   rintro e wz ⟨rfl, bz⟩
   clear e0 e1
   go_wp2_with fail
   go_meet
   exact ⟨rfl, v5.later bz, N1.later bz, o1.later bz, B1.trans (bz.mono B1.size)⟩
 case rest =>
  clear v5 N1 o1 B1 D v7 hOS HR1 HR2
  obtain ⟨rfl, v5, N1, o1, B1⟩ := hcut
  have e0 := v5.cell (i := 0) rfl
  have e1 := v5.cell (i := 1) rfl
  cases hC : Lin.capsB L n
  case false =>
   have hz : (Wor.nlH L n).length = 0 ∧ (Wor.nlR L n).length = 0 := by simp [Wor.nlH, Wor.nlR, hC]
   have hLk := fun w' (N : Wor.NL w' aH aR L n) => Lin.likeLine aH none aR none cH 0 cR 0 (Wor.nlH L n).length (Wor.nlR L n).length 0 0 (Wor.nlH L n) [] (Wor.nlR L n) w' rfl hz.1.symm rfl hz.2.symm (by simp [Wor.nlH, hC]) N.L ⟨.inl rfl, fun x hx => by cases hx⟩ N.R (.inl (by simp [Wor.nlR, hC])) (by omega) (by omega) HNS.out
   clear hz
   go_wp2_with fail
   refine (hLk _ N1).mono ?_
   rintro e wz ⟨rfl, bz⟩
   go_wp2_with fail
   go_ret
   exact ⟨rfl, B1.trans (bz.mono B1.size)⟩
  case true =>
   obtain ⟨h6, n1, n4, hcap⟩ := Wor.nl_caps hC
   have H6 : Hid _ := h6
   have HCA : Hid _ := hcap
   have HOK : Hid _ := Wor.nl_ok hC
   have HRM : Hid _ := Wor.nl_room hC
   have HDK : Hid _ := Wor.nl_desk hC
   have HOP : Hid _ := Wor.nl_open hC
   have HLn : Hid (L.length ≤ 4096) := by show _ ≤ _; omega
   clear h6 hcap hC n1 n4
   go_wp2_with fail
   clear e0 e1
   go_loopw [12, 13] (fun sv iv wr => ∃ (k : Nat) (s : Int), k ≤ L.length ∧ iv = .int .i64 k ∧ sv = .int .i64 s ∧ Hid (s = (L.take k).sum) ∧ wc = wr) (fun _ iv _ => L.length - (intOf iv).toNat)
   case atStart => exact ⟨0, 0, by omega, rfl, rfl, rfl, rfl⟩
   case round =>
    obtain ⟨k, s, hk, rfl, rfl, hsum, rfl⟩ := hrel
    by_cases hkl : k < L.length
    case pos =>
     have i0 : (k : Int) < (L.length : Int) := by omega
     have i1 : (0 : Int) ≤ (k : Int) := by omega
     have ck := (Lin.intAt o1 hkl).1
     have HS : Hid ((L.take (k + 1)).sum = s + Lin.capAt L k) := by show _ = _; rw [Wor.sum_take (Lin.cap_some hkl), hsum.out]
     have hbd := Wor.sum_bd HCA.out k (by omega)
     rw [← hsum.out] at hbd
     have hcp := HCA.out (Lin.capAt L k) (List.mem_of_getElem? (Lin.cap_some hkl))
     have h4 := HLn.out
     have z1 : -9223372036854775808 ≤ s + Lin.capAt L k ∧ s + Lin.capAt L k ≤ 9223372036854775807 := by omega
     have h5 : (k : Int) < 4096 := by omega
     clear hbd hcp h4 hsum
     go_wp2_with fail
     go_roundw
     case rel => exact ⟨k + 1, s + Lin.capAt L k, by omega, by go_num, by go_num, HS.out.symm, trivial⟩
     case measure => simp [intOf]; omega
    case neg =>
     have i0 : ¬ (k : Int) < (L.length : Int) := by omega
     have HSM2 : Hid (s = L.sum) := by show _ = _; rw [hsum.out, List.take_of_length_le (by omega)]
     have e0 := v5.cell (i := 0) rfl
     have e1 := v5.cell (i := 1) rfl
     have hx3 := HNX.out
     have hr4 := HNR.out
     have hOI := fun w' (N : Wor.NL w' aH aR L n) => Lin.implLineOk aH aR _ _ cH cR (Wor.nlH L n) (Wor.nlR L n) w' rfl rfl N.L N.R (by omega) HNS.out
     have hRI := fun w' (N : Wor.NL w' aH aR L n) => Lin.implRoomOf aH aR _ _ cH cR (Wor.nlH L n) (Wor.nlR L n) w' rfl rfl N.L N.R (by omega) (by omega) HNS.out
     have hDI := fun w' (N : Wor.NL w' aH aR L n) => Lin.implAtDesk aH aR _ _ cH cR (Wor.nlH L n) (Wor.nlR L n) w' rfl rfl N.L N.R (by omega) (by omega) HNS.out
     have hOO := fun w' (N : Wor.NL w' aH aR L n) => Roa.specOpenOnes aR _ cR (Wor.nlR L n) w' rfl N.R (by omega)
     rw [HOK.out] at hOI
     rw [HRM.out] at hRI
     rw [HDK.out] at hDI
     rw [← HSM2.out] at hRI
     clear hsum hx3 hr4
     go_wp2_with fail
     refine (hOI _ N1).mono ?_
     rintro e w7 ⟨rfl, b7⟩
     replace N1 := N1.later b7
     replace v5 := v5.later b7
     have B7 := B1.trans (b7.mono B1.size)
     clear b7 e0 e1 hOI
     have e0 := v5.cell (i := 0) rfl
     have e1 := v5.cell (i := 1) rfl
     go_wp2_with fail
     refine (hRI _ N1).mono ?_
     rintro e w8 ⟨rfl, b8⟩
     replace N1 := N1.later b8
     replace v5 := v5.later b8
     replace B7 := B7.trans (b8.mono B7.size)
     clear b8 e0 e1 hRI
     have e1 := v5.cell (i := 1) rfl
     go_wp2_with fail
     refine (hOO _ N1).mono ?_
     rintro e w9 ⟨gO, cO, rfl, oO, b9⟩
     replace N1 := N1.later b9
     replace v5 := v5.later b9
     replace B7 := B7.trans (b9.mono B7.size)
     have hop := HOP.out
     clear b9 e1 hOO oO
     have e0 := v5.cell (i := 0) rfl
     have e1 := v5.cell (i := 1) rfl
     go_wp2_with fail
     refine (hDI _ N1).mono ?_
     rintro e w10 ⟨rfl, b10⟩
     clear e0 e1
     go_wp2_with fail
     go_ret
     exact ⟨rfl, B7.trans (b10.mono B7.size)⟩

/-! ### THE ROW's STEP: WRITTEN OUT: LEAVE IT -/
set_option maxRecDepth 100000 in
theorem lifted (os : Os) (started : os.Started) (H : Type) (enc : TypeId × Value → H) :
  ReturnsInHanded {} Tryz.checked os 3 .any (Rows.fnLinesSpec.pre6 enc Tryz.prog Tryz.f3 Rows.fnLinesRow.domain false) (Rows.fnLinesSpec.post enc Tryz.prog Tryz.f3 false true false false) := by
 refine returnsInHanded_of_change (C := Tryz.checked) own started (by kernel_rfl) Tryz.func3
  (ChangeSpec.witness6 (enc := enc) (C := Tryz.checked) false ⟨#[], #[.slice none 0 0], []⟩ 8 (by kernel_rfl) (by kernel_rfl) (by kernel_rfl) (by kernel_rfl)) ?_
 intro W base args ds gs before hval0 hW hcnd _
 have hval : ∀ (j : Nat) t v, Tryz.f3.params[j]? = some t → args[j]? = some v → Value.okWide Tryz.prog W .any base t v := hval0
 have hW' := hW
 obtain ⟨p, q, hA0, hV, rfl, hfz, hnd⟩ := hW
 have hA : DataW.TrodAll enc Tryz.prog W 0 (fun _ => true) true Tryz.f3.params.toList args.toList ds p := hA0
 rw [Tryz.params3] at hA hval
 obtain ⟨v0, vs0, d0, ds0, p0, q0, hargs, rfl, rfl, h0, r0⟩ := trodAll_cons hA
 obtain ⟨rfl, rfl, rfl⟩ := trodAll_nil r0
 obtain rfl : args = #[v0] := by cases args; simp_all
 obtain ⟨rfl, rfl⟩ := trodVars_none hV
 obtain ⟨a0, len0, cap0, rfl⟩ := okWide_slice Tryz.underlying22 (hval 0 22 v0 rfl rfl)
 have k0 := h0
 have lt0 : ∀ x ∈ p0, x.block < W.heap.size := by obtain ⟨m, hm⟩ := k0; exact DataW.trod_lt m _ _ _ hm
 obtain ⟨z0, w0⟩ : ∃ zs, IsRow .u8 W a0 len0 cap0 zs := by
  obtain ⟨fuel, hf⟩ := h0
  rcases open_ints Tryz.underlying22 Tryz.underlying5 (by kernel_rfl) hf with ⟨hcs, _⟩ | ⟨x, l, c, zs, hcs, _, hl, hm, hz, _, hcell, hwz⟩
  ·simp [Value.cells] at hcs
   obtain ⟨rfl, rfl, rfl⟩ := hcs
   exact ⟨[], .inl ⟨rfl, rfl, rfl, rfl⟩⟩
  ·simp [Value.cells] at hcs
   obtain ⟨rfl, rfl, rfl⟩ := hcs
   exact ⟨zs, .inr ⟨_, rfl, hl, hm, by simpa using hz, hcell, hwz⟩⟩
 clear hA0 hval0
 refine (walk a0 len0 cap0 z0 W w0).mono fun e W' ⟨he, bel⟩ => ?_
 subst he
 exact ⟨_, rfl, _, _, _, [], _, [], hW', trodAll_mk1 (shut_bool Tryz.underlying4 _), (trodAll_cons_mk (Below.trod laidOut (by kernel_rfl) (of_decide_eq_true (by kernel_rfl)) k0 bel lt0) trodAll_mk0), rfl, bel.frame _, fun h => by cases h⟩

theorem over : Rows.fnLinesRow.holds Tryz.pinned (OpenSpec.ofChange Rows.fnLinesSpec) :=
 OpenClaim.holds_of_wide 3 Tryz.f3 rfl rfl rfl rfl rfl rfl rfl ⟨rfl, rfl, rfl, rfl, rfl⟩ rfl rfl rfl rfl rfl (by kernel_rfl) Tryz.func3 (by kernel_rfl)
  (of_decide_eq_true (by kernel_rfl)) (by unfold Func.isWrapper; first | (rw [if_pos (by decide +kernel)]; kernel_rfl) | (rw [if_neg (by decide +kernel)]; exact ⟨rfl, rfl⟩))
  (fun os started H enc _ => lifted os started H enc)

theorem proved : Rows.FnLinesSaid := over
end Go.Proofs.YtanfnphdgcnojaaGreat.fnLines
namespace Go.Proofs.YtanfnphdgcnojaaGreat
theorem fnLines_holds : Rows.FnLinesSaid := fnLines.proved
#print axioms fnLines_holds
end Go.Proofs.YtanfnphdgcnojaaGreat

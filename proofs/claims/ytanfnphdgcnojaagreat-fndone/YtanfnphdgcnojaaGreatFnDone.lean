/- For every code of bytes FnDone returns true: the program's MayTell, WriterDone and ReaderAtEnd answer as the specification's at what is drawn; the reader is at its end only when its desk has nothing left and is Ended, the writer is done only when it was at its end, and a desk may tell when all came and the next one is done; codes of more than 4096 bytes are passed by. (Its frame is the guide's shell; the walk is mine.) -/
import Derived.Test.YtanfnphdgcnojaaGreatRows
import Derived.Test.YtanfnphdgcnojaaGreatR50
import Derived.Test.YtanfnphdgcnojaaGreatR55
import Derived.Deep.CutRange
import Derived.WalkKit
import Derived.ProofKit
import Derived.OpenShut
import Derived.ShutString
import Derived.ChangeOld
import Derived.Below
namespace Go.Proofs.YtanfnphdgcnojaaGreat.fnDone
open Go.ChangeShapes Go.WideShapes Go.ChangeAt Go.RowKit
open Go.ChangeMaps (open_string shut_string)
set_option linter.unusedVariables false

theorem own : ownKnob Tryz.prog.godebug = none := by kernel_rfl
theorem laidOut : laidOutB Tryz.prog = true := by kernel_rfl

def IsRow (k : IntKind) (w : World) (a : Option Addr) (len cap : Nat) (zs : List Int) : Prop :=
 (a = none ∧ len = 0 ∧ cap = 0 ∧ zs = []) ∨
 ∃ x, a = some x ∧ len ≤ cap ∧ cap ≤ maxLen ∧ zs.length = cap ∧ (∀ i, i < zs.length → w.cell? (x.add i) = some (.int k (zs.getD i 0))) ∧ ∀ n ∈ zs, (Lit.int k n).wf = true

/-! ### STEP 1: THE WALK: the Go text returns true, AND WRITES NOTHING THAT WAS THERE: 'Below w.heap.size w w'' (Derived/Below.lean: '.refl', '.alloc', '.drew', '.setCell' at a new block, '.trans'). Open each 'IsRow' by 'rcases' AHEAD of 'go_enter'; part every test ahead of the walk. -/
set_option linter.unusedSimpArgs false in
set_option maxRecDepth 20000 in
set_option maxHeartbeats 40000000 in
theorem walk (a0 : Option Addr) (len0 cap0 : Nat) (z0 : List Int) (w : World) (w0 : IsRow .u8 w a0 len0 cap0 z0) :
  Calls Tryz.prog 4 #[.slice a0 len0 cap0] w fun e w' => e = .returned (.bool true) ∧ Below w.heap.size w w' := by
 obtain ⟨hb, hm⟩ := Draw.bytes_of_row w0
 clear w0
 by_cases hl : len0 ≤ 4096
 case neg =>
  have hd : decide (4096 < (len0 : Int)) = true := by simp; omega
  go_enter Tryz.func4, Tryz.ntmps4
  go_wp2_with fail
  refine (Draw.big _ _ _ _ hm).mono ?_
  rintro e w1 ⟨rfl, rfl⟩
  go_wp2_with fail
  go_ret
  exact ⟨rfl, Below.refl _ _⟩
 have hd : decide (4096 < (len0 : Int)) = false := by simp; omega
 have hmix := Roa.mix
 go_enter Tryz.func4, Tryz.ntmps4
 go_wp2_with fail
 refine (Draw.big _ _ _ _ hm).mono ?_
 rintro e w1 ⟨rfl, rfl⟩
 clear hd
 go_wp2_with fail
 refine (Wor.drawMayTell _ _ _ _ hb hl).mono ?_
 rintro e w1 ⟨aH, aR, cH, cR, xs, rs, h, rfl, D, B1⟩
 have v3 : RowG.Var 30 (w1.alloc (.cells #[.slice aH xs.length cH, .slice aR rs.length cR] 30)) w1.heap.size [.slice aH xs.length cH, .slice aR rs.length cR] := RowG.Var.new w1 _
 have b1 := (Below.refl w1.heap.size w1).alloc (Nat.le_refl _) (.cells #[.slice aH xs.length cH, .slice aR rs.length cR] 30)
 replace D := D.later b1
 replace B1 := B1.trans (b1.mono B1.size)
 clear b1
 have hb1 := Draw.Bytes.below hb B1 (Nat.le_refl _)
 go_upto_region 4 with (fail)
 generalize w1.alloc (.cells #[.slice aH xs.length cH, .slice aR rs.length cR] 30) = V1 at *
 generalize w1.heap.size = k3 at *
 have hxl := D.nx
 have hrl := D.nr
 have HSM : Hid _ := D.sm
 have e0 := v3.cell (i := 0) rfl
 have e1 := v3.cell (i := 1) rfl
 have hMi := fun w' (d : Wor.DL w' aH xs aR rs) => Wor.implMayTell aH aR xs.length rs.length cH cR xs rs h w' rfl rfl d.L d.R (by omega) (by omega) HSM.out
 go_wp2_with fail
 refine (hMi _ D).mono ?_
 rintro e w2 ⟨rfl, b2⟩
 replace D := D.later b2
 replace v3 := v3.later b2
 replace B1 := B1.trans (b2.mono B1.size)
 replace hb1 := Draw.Bytes.below hb1 b2 (Nat.le_refl _)
 clear b2 e0 e1 hMi
 go_wp2_with fail
 refine (Wor.drawWriterDone _ _ _ _ hb1 hl).mono ?_
 rintro e w3 ⟨qH, qR, cqH, cqR, ys, ss, rfl, Q, b3⟩
 have v6 : RowG.Var 30 (w3.alloc (.cells #[.slice qH ys.length cqH, .slice qR ss.length cqR] 30)) w3.heap.size [.slice qH ys.length cqH, .slice qR ss.length cqR] := RowG.Var.new w3 _
 replace b3 := b3.alloc b3.size (.cells #[.slice qH ys.length cqH, .slice qR ss.length cqR] 30)
 replace Q := Q.later ((Below.refl w3.heap.size w3).alloc (Nat.le_refl _) (.cells #[.slice qH ys.length cqH, .slice qR ss.length cqR] 30))
 replace D := D.later b3
 replace v3 := v3.later b3
 replace B1 := B1.trans (b3.mono B1.size)
 replace hb1 := Draw.Bytes.below hb1 b3 (Nat.le_refl _)
 clear b3
 go_upto_region 6 with (fail)
 generalize w3.alloc (.cells #[.slice qH ys.length cqH, .slice qR ss.length cqR] 30) = V3 at *
 generalize w3.heap.size = k6 at *
 go_wp2_with fail
 refine (Wor.drawReaderAtEnd _ _ _ _ hb1 hl).mono ?_
 rintro e w4 ⟨eH, eR, ceH, ceR, zs, ts, rfl, E, b4⟩
 have v7 : RowG.Var 30 (w4.alloc (.cells #[.slice eH zs.length ceH, .slice eR ts.length ceR] 30)) w4.heap.size [.slice eH zs.length ceH, .slice eR ts.length ceR] := RowG.Var.new w4 _
 replace b4 := b4.alloc b4.size (.cells #[.slice eH zs.length ceH, .slice eR ts.length ceR] 30)
 replace E := E.later ((Below.refl w4.heap.size w4).alloc (Nat.le_refl _) (.cells #[.slice eH zs.length ceH, .slice eR ts.length ceR] 30))
 replace D := D.later b4
 replace Q := Q.later b4
 replace v3 := v3.later b4
 replace v6 := v6.later b4
 replace B1 := B1.trans (b4.mono B1.size)
 clear b4 hb1
 go_upto_region 7 with (fail)
 generalize w4.alloc (.cells #[.slice eH zs.length ceH, .slice eR ts.length ceR] 30) = V4 at *
 generalize w4.heap.size = k7 at *
 have hyl := Q.nx
 have hsl := Q.nr
 have HSQ : Hid _ := Q.sm
 have hzl := E.nx
 have htl := E.nr
 have HSE : Hid _ := E.sm
 have HMS : Hid _ := fun p : Draw.Later V4 => Wor.specMayTell aH aR xs.length rs.length cH cR xs rs h p.v rfl rfl (D.later p.h).L (D.later p.h).R (by omega) (by omega) HSM.out
 have HWI : Hid _ := fun p : Draw.Later V4 => Wor.implWriterDone qH qR ys.length ss.length cqH cqR ys ss p.v rfl rfl (Q.later p.h).L (Q.later p.h).R (by omega) (by omega) HSQ.out
 have HWS : Hid _ := fun p : Draw.Later V4 => Wor.specWriterDone qH qR ys.length ss.length cqH cqR ys ss p.v rfl rfl (Q.later p.h).L (Q.later p.h).R (by omega) (by omega) HSQ.out
 have HEI : Hid _ := fun p : Draw.Later V4 => Wor.implReaderAtEnd eH eR zs.length ts.length ceH ceR zs ts p.v rfl rfl (E.later p.h).L (E.later p.h).R (by omega) (by omega) HSE.out
 have HES : Hid _ := fun p : Draw.Later V4 => Wor.specReaderAtEnd eH eR zs.length ts.length ceH ceR zs ts p.v rfl rfl (E.later p.h).L (E.later p.h).R (by omega) (by omega) HSE.out
 have z0' := Draw.Later.cell (v3.cell (i := 0) rfl)
 have z1' := Draw.Later.cell (v3.cell (i := 1) rfl)
 have y0' := Draw.Later.cell (v6.cell (i := 0) rfl)
 have y1' := Draw.Later.cell (v6.cell (i := 1) rfl)
 have x0' := Draw.Later.cell (v7.cell (i := 0) rfl)
 have x1' := Draw.Later.cell (v7.cell (i := 1) rfl)
 refine Draw.wp_region_later hmix (by kernel_rfl) ?_
 repeat (go_big_quiet_step (first | (go_at_call 23; exact Draw.later_of (HMS.out _)) | (go_at_call 24; exact Draw.later_of (HWI.out _)) | (go_at_call 25; exact Draw.later_of (HWS.out _)) | (go_at_call 26; exact Draw.later_of (HEI.out _)) | (go_at_call 27; exact Draw.later_of (HES.out _))))
 refine wpQuiet_nil ?_
 intro _ hw'
 obtain ⟨⟨wq, hBq⟩, hw''⟩ := hw'
 subst hw''
 replace D := D.later hBq
 replace Q := Q.later hBq
 replace E := E.later hBq
 replace v3 := v3.later hBq
 replace v6 := v6.later hBq
 replace v7 := v7.later hBq
 replace B1 := B1.trans (hBq.mono B1.size)
 clear hBq z0' z1' y0' y1' x0' x1' HMS HWI HWS HEI HES V4
 have hEI := fun w' (d : Wor.DL w' eH zs eR ts) => Wor.implReaderAtEnd eH eR zs.length ts.length ceH ceR zs ts w' rfl rfl d.L d.R (by omega) (by omega) HSE.out
 have hAD := fun w' (d : Wor.DL w' eH zs eR ts) => Lin.implAtDesk eH eR zs.length ts.length ceH ceR zs ts w' rfl rfl d.L d.R (by omega) (by omega) HSE.out
 have hWI := fun w' (d : Wor.DL w' qH ys qR ss) => Wor.implWriterDone qH qR ys.length ss.length cqH cqR ys ss w' rfl rfl d.L d.R (by omega) (by omega) HSQ.out
 have hOS := fun w' (d : Wor.DL w' aH xs aR rs) => Lin.specLineOk aH aR xs.length rs.length cH cR xs rs w' rfl rfl d.L d.R (by omega) (by omega) HSM.out
 go_upto_region 9 with (fail)
 go_cut [70] from 42 to 69 (fun cv wr => cv = .bool false ∧ RowG.Var 30 wr k3 [.slice aH xs.length cH, .slice aR rs.length cR] ∧ Wor.DL wr aH xs aR rs ∧ Below w.heap.size w wr)
 case first =>
  have c0 := v7.cell (i := 0) rfl
  have c1 := v7.cell (i := 1) rfl
  by_cases hE : Wor.endL zs ts = true
  case neg =>
   rw [Bool.not_eq_true] at hE
   have hEI2 := hEI
   rw [hE] at hEI2
   clear hE
   go_wp2_with fail
   refine (hEI2 _ E).mono ?_
   rintro e wx ⟨rfl, bx⟩
   replace v3 := v3.later bx
   replace v6 := v6.later bx
   replace D := D.later bx
   replace Q := Q.later bx
   replace B1 := B1.trans (bx.mono B1.size)
   clear c0 c1 E v7 bx hEI2
   have d0 := v6.cell (i := 0) rfl
   have d1 := v6.cell (i := 1) rfl
   by_cases hW : Wor.writL ys ss = true
   case pos =>
    have hWI2 := hWI
    rw [hW] at hWI2
    obtain ⟨a0, a1, a2, hys, hgo⟩ := Wor.writ_facts hW
    have HYS : Hid (ys = [a0, a1, a2]) := hys
    have hy0 : ys[0]? = some a0 := by rw [hys]; rfl
    have hy3 : (0 : Int) < (ys.length : Int) := by rw [hys]; simp
    have HY0 : Hid (ys[0]? = some a0) := hy0
    have HGO : Hid (a0.h.g.en = true) := hgo
    clear hys hW hy0 hgo
    go_wp2_with fail
    refine (hWI2 _ Q).mono ?_
    rintro e wy ⟨rfl, by1⟩
    replace v6 := v6.later by1
    replace Q := Q.later by1
    obtain ⟨bq, oq, rfl, hLq⟩ : ∃ b off, qH = some ⟨b, off, none⟩ ∧ ∀ j u, (Lin.hopE.vals ys)[j]? = some u → wy.cell? ⟨b, off + j, none⟩ = some u := by
     rcases Q.L.row with h0 | h0
     ·have hy0 := HY0.out; rw [h0] at hy0; cases hy0
     ·exact h0
    have q4 : wy.cell? ⟨bq, oq + 4, none⟩ = some (.bool true) := by
     have := RowG.El.Lies.cell hLq HY0.out (j := 4) rfl
     rw [HGO.out] at this
     exact this
    clear hLq HY0 HGO d0 d1
    have d0 := v6.cell (i := 0) rfl
    go_wp2_with fail
    go_meet
    exact ⟨rfl, v3.later by1, D.later by1, B1.trans (by1.mono B1.size)⟩
   case neg =>
    rw [Bool.not_eq_true] at hW
    have hWI2 := hWI
    rw [hW] at hWI2
    clear hW
    go_wp2_with fail
    refine (hWI2 _ Q).mono ?_
    rintro e wy ⟨rfl, by1⟩
    clear d0 d1
    go_wp2_with fail
    go_meet
    exact ⟨rfl, v3.later by1, D.later by1, B1.trans (by1.mono B1.size)⟩
  case pos =>
   have hEI2 := hEI
   rw [hE] at hEI2
   obtain ⟨x0, x1, x2, hzs, hen, hsz, hds⟩ := Wor.end_facts hE
   have hz2 : zs[2]? = some x2 := by rw [hzs]; rfl
   have hz3 : (2 : Int) < (zs.length : Int) := by rw [hzs]; simp
   have hAD2 := hAD
   rw [hds, hsz] at hAD2
   have HZ2 : Hid (zs[2]? = some x2) := hz2
   have HEN : Hid (x2.h.t.en = true) := hen
   clear hzs hE hds hz2 hen hsz
   go_wp2_with fail
   refine (hEI2 _ E).mono ?_
   rintro e wx ⟨rfl, bx⟩
   replace v3 := v3.later bx
   replace v6 := v6.later bx
   replace v7 := v7.later bx
   replace D := D.later bx
   replace Q := Q.later bx
   replace E := E.later bx
   replace B1 := B1.trans (bx.mono B1.size)
   clear c0 c1 bx hEI2
   have c0 := v7.cell (i := 0) rfl
   have c1 := v7.cell (i := 1) rfl
   go_wp2_with fail
   refine (hAD2 _ E).mono ?_
   rintro e wu ⟨rfl, bu⟩
   replace v3 := v3.later bu
   replace v6 := v6.later bu
   replace v7 := v7.later bu
   replace D := D.later bu
   replace Q := Q.later bu
   replace E := E.later bu
   replace B1 := B1.trans (bu.mono B1.size)
   clear c0 c1 bu hAD2
   obtain ⟨be, oe, rfl, hLe⟩ : ∃ b off, eH = some ⟨b, off, none⟩ ∧ ∀ j u, (Lin.hopE.vals zs)[j]? = some u → wu.cell? ⟨b, off + j, none⟩ = some u := by
    rcases E.L.row with h0 | h0
    ·have hz2 := HZ2.out
     rw [h0] at hz2; cases hz2
    ·exact h0
   have q11 : wu.cell? ⟨be, oe + 26 + 11, none⟩ = some (.bool true) := by
    have := RowG.El.Lies.cell hLe HZ2.out (j := 11) rfl
    rw [HEN.out] at this
    exact this
   have c0 := v7.cell (i := 0) rfl
   clear hLe HZ2 HEN
   have d0 := v6.cell (i := 0) rfl
   have d1 := v6.cell (i := 1) rfl
   by_cases hW : Wor.writL ys ss = true
   case pos =>
    have hWI2 := hWI
    rw [hW] at hWI2
    obtain ⟨a0, a1, a2, hys, hgo⟩ := Wor.writ_facts hW
    have HYS : Hid (ys = [a0, a1, a2]) := hys
    have hy0 : ys[0]? = some a0 := by rw [hys]; rfl
    have hy3 : (0 : Int) < (ys.length : Int) := by rw [hys]; simp
    have HY0 : Hid (ys[0]? = some a0) := hy0
    have HGO : Hid (a0.h.g.en = true) := hgo
    clear hys hW hy0 hgo
    go_wp2_with fail
    refine (hWI2 _ Q).mono ?_
    rintro e wy ⟨rfl, by1⟩
    replace v6 := v6.later by1
    replace Q := Q.later by1
    obtain ⟨bq, oq, rfl, hLq⟩ : ∃ b off, qH = some ⟨b, off, none⟩ ∧ ∀ j u, (Lin.hopE.vals ys)[j]? = some u → wy.cell? ⟨b, off + j, none⟩ = some u := by
     rcases Q.L.row with h0 | h0
     ·have hy0 := HY0.out; rw [h0] at hy0; cases hy0
     ·exact h0
    have q4 : wy.cell? ⟨bq, oq + 4, none⟩ = some (.bool true) := by
     have := RowG.El.Lies.cell hLq HY0.out (j := 4) rfl
     rw [HGO.out] at this
     exact this
    clear hLq HY0 HGO d0 d1
    have d0 := v6.cell (i := 0) rfl
    go_wp2_with fail
    go_meet
    exact ⟨rfl, v3.later by1, D.later by1, B1.trans (by1.mono B1.size)⟩
   case neg =>
    rw [Bool.not_eq_true] at hW
    have hWI2 := hWI
    rw [hW] at hWI2
    clear hW
    go_wp2_with fail
    refine (hWI2 _ Q).mono ?_
    rintro e wy ⟨rfl, by1⟩
    clear d0 d1
    go_wp2_with fail
    go_meet
    exact ⟨rfl, v3.later by1, D.later by1, B1.trans (by1.mono B1.size)⟩
 case rest =>
  clear v3 D B1 Q E v6 v7 hEI hAD hWI
  obtain ⟨rfl, v3, D, B1⟩ := hcut
  have e0 := v3.cell (i := 0) rfl
  have e1 := v3.cell (i := 1) rfl
  cases hq : Wor.hopsB (xs.map (·.h)) rs
  case false =>
   have hOS2 := hOS
   rw [hq] at hOS2
   have hmf : Wor.mayL xs rs h = false := by simp [Wor.mayL, hq]
   rw [hmf]
   clear hmf hq
   go_wp2_with fail
   refine (hOS2 _ D).mono ?_
   rintro e wo ⟨rfl, bo⟩
   go_wp2_with fail
   go_ret
   exact ⟨rfl, B1.trans (bo.mono B1.size)⟩
  case true =>
   have hOS2 := hOS
   rw [hq] at hOS2
   by_cases hh : 0 ≤ h ∧ h ≤ 2
   case neg =>
    have hmf : Wor.mayL xs rs h = false := by simp [Wor.mayL, hh]
    rw [hmf]
    clear hmf hq
    by_cases h0 : h < 0
    ·clear hh
     go_wp2_with fail
     refine (hOS2 _ D).mono ?_
     rintro e wo ⟨rfl, bo⟩
     go_wp2_with fail
     go_ret
     exact ⟨rfl, B1.trans (bo.mono B1.size)⟩
    ·have h2 : 2 < h := by omega
     clear hh
     go_wp2_with fail
     refine (hOS2 _ D).mono ?_
     rintro e wo ⟨rfl, bo⟩
     go_wp2_with fail
     go_ret
     exact ⟨rfl, B1.trans (bo.mono B1.size)⟩
   case pos =>
    obtain ⟨x0, x1, x2, hxs, f0, f1, f2, hmay⟩ := Wor.may_facts hq hh
    have hxs3 : (xs.length : Int) = 3 := by rw [hxs]; rfl
    have hx0 : xs[0]? = some x0 := by rw [hxs]; rfl
    have hx1 : xs[1]? = some x1 := by rw [hxs]; rfl
    have hx2 : xs[2]? = some x2 := by rw [hxs]; rfl
    have hxs3' : xs.length = 3 := by omega
    have HX3 : Hid (xs.length = 3) := hxs3'
    rw [hmay]
    clear hxs hmay hq
    have g0 : ¬ h < 0 := by omega
    have g1 : ¬ 2 < h := by omega
    have HF0 : Hid _ := f0
    have HF1 : Hid _ := f1
    have HF2 : Hid _ := f2
    have HX0 : Hid _ := hx0
    have HX1 : Hid _ := hx1
    have HX2 : Hid _ := hx2
    have HHH : Hid _ := hh
    clear f0 f1 f2 hx0 hx1 hx2 hxs3 hxs3' hh
    go_wp2_with fail
    refine (hOS2 _ D).mono ?_
    rintro e wo ⟨rfl, bo⟩
    replace v3 := v3.later bo
    replace D := D.later bo
    replace B1 := B1.trans (bo.mono B1.size)
    clear e0 e1 bo hOS2 hOS
    obtain ⟨bx, ox, rfl, hLx⟩ : ∃ b off, aH = some ⟨b, off, none⟩ ∧ ∀ j u, (Lin.hopE.vals xs)[j]? = some u → wo.cell? ⟨b, off + j, none⟩ = some u := by
     rcases D.L.row with h0 | h0
     ·have hx0 := HX0.out
      rw [h0] at hx0; cases hx0
     ·exact h0
    have e0 := v3.cell (i := 0) rfl
    have hh3 : h = 0 ∨ h = 1 ∨ h = 2 := by have := HHH.out; omega
    clear g0 g1 HHH
    have l0 : (0 : Int) < (xs.length : Int) := by rw [HX3.out]; decide
    have l1 : (1 : Int) < (xs.length : Int) := by rw [HX3.out]; decide
    have l2 : (2 : Int) < (xs.length : Int) := by rw [HX3.out]; decide
    rcases hh3 with rfl | rfl | rfl
    focus
     have t0 : wo.cell? ⟨bx, ox + 6, none⟩ = some (.int .i64 x0.h.t.nx) := RowG.El.Lies.cell hLx HX0.out (j := 6) rfl
     have t1 : wo.cell? ⟨bx, ox + 7, none⟩ = some (.string x0.h.t.bs) := RowG.El.Lies.cell hLx HX0.out (j := 7) rfl
     have t2 : wo.cell? ⟨bx, ox + 8, none⟩ = some (.slice x0.aT x0.h.t.l.length x0.cT) := RowG.El.Lies.cell hLx HX0.out (j := 8) rfl
     have t3 : wo.cell? ⟨bx, ox + 9, none⟩ = some (.int .i64 x0.h.t.cp) := RowG.El.Lies.cell hLx HX0.out (j := 9) rfl
     have t4 : wo.cell? ⟨bx, ox + 10, none⟩ = some (.int .i64 x0.h.t.fi) := RowG.El.Lies.cell hLx HX0.out (j := 10) rfl
     have t5 : wo.cell? ⟨bx, ox + 11, none⟩ = some (.bool x0.h.t.en) := RowG.El.Lies.cell hLx HX0.out (j := 11) rfl
     have gd : wo.cell? ⟨bx, ox + 13 + 5, none⟩ = some (.bool x1.h.g.dn) := RowG.El.Lies.cell hLx HX1.out (j := 5) rfl
     clear hLx HX0 HX1 HX2
     have v8 : RowG.Var 44 (wo.alloc (.cells #[.int .i64 x0.h.t.nx, .string x0.h.t.bs, .slice x0.aT x0.h.t.l.length x0.cT, .int .i64 x0.h.t.cp, .int .i64 x0.h.t.fi, .bool x0.h.t.en] 44)) wo.heap.size [.int .i64 x0.h.t.nx, .string x0.h.t.bs, .slice x0.aT x0.h.t.l.length x0.cT, .int .i64 x0.h.t.cp, .int .i64 x0.h.t.fi, .bool x0.h.t.en] := RowG.Var.new wo _
     have b8 := (Below.refl wo.heap.size wo).alloc (Nat.le_refl _) (.cells #[.int .i64 x0.h.t.nx, .string x0.h.t.bs, .slice x0.aT x0.h.t.l.length x0.cT, .int .i64 x0.h.t.cp, .int .i64 x0.h.t.fi, .bool x0.h.t.en] 44)
     go_upto_region 14 with (fail)
     replace v3 := v3.later b8
     replace gd := (b8.cell (Draw.lt_of_cell gd)).trans gd
     have B8 := B1.trans (b8.mono B1.size)
     clear t0 t1 t2 t3 t4 t5 e0 b8 B1
     generalize wo.alloc (.cells #[.int .i64 x0.h.t.nx, .string x0.h.t.bs, .slice x0.aT x0.h.t.l.length x0.cT, .int .i64 x0.h.t.cp, .int .i64 x0.h.t.fi, .bool x0.h.t.en] 44) = V8 at *
     generalize wo.heap.size = k8 at *
     have u0 := v8.cell (i := 0) rfl
     have u4 := v8.cell (i := 4) rfl
     have e0 := v3.cell (i := 0) rfl
     have hf := HF0.out
     clear HF0 HF1 HF2
     rw [show Wor.mayX x0 x1 x2 0 = (x0.h.t.en && x1.h.g.dn) from rfl]
     cases he : x0.h.t.en
     ·rw [he] at hf
      go_wp2_with fail
      go_ret
      exact ⟨rfl, B8⟩
     ·rw [he] at hf
      cases hdn : x1.h.g.dn
      ·rw [hdn] at gd
       go_wp2_with fail
       go_ret
       exact ⟨rfl, B8⟩
      ·rw [hdn] at gd
       go_wp2_with fail
       go_ret
       exact ⟨rfl, B8⟩
    focus
     have t0 : wo.cell? ⟨bx, ox + 13 + 6, none⟩ = some (.int .i64 x1.h.t.nx) := RowG.El.Lies.cell hLx HX1.out (j := 6) rfl
     have t1 : wo.cell? ⟨bx, ox + 13 + 7, none⟩ = some (.string x1.h.t.bs) := RowG.El.Lies.cell hLx HX1.out (j := 7) rfl
     have t2 : wo.cell? ⟨bx, ox + 13 + 8, none⟩ = some (.slice x1.aT x1.h.t.l.length x1.cT) := RowG.El.Lies.cell hLx HX1.out (j := 8) rfl
     have t3 : wo.cell? ⟨bx, ox + 13 + 9, none⟩ = some (.int .i64 x1.h.t.cp) := RowG.El.Lies.cell hLx HX1.out (j := 9) rfl
     have t4 : wo.cell? ⟨bx, ox + 13 + 10, none⟩ = some (.int .i64 x1.h.t.fi) := RowG.El.Lies.cell hLx HX1.out (j := 10) rfl
     have t5 : wo.cell? ⟨bx, ox + 13 + 11, none⟩ = some (.bool x1.h.t.en) := RowG.El.Lies.cell hLx HX1.out (j := 11) rfl
     have gd : wo.cell? ⟨bx, ox + 26 + 5, none⟩ = some (.bool x2.h.g.dn) := RowG.El.Lies.cell hLx HX2.out (j := 5) rfl
     clear hLx HX0 HX1 HX2
     have v8 : RowG.Var 44 (wo.alloc (.cells #[.int .i64 x1.h.t.nx, .string x1.h.t.bs, .slice x1.aT x1.h.t.l.length x1.cT, .int .i64 x1.h.t.cp, .int .i64 x1.h.t.fi, .bool x1.h.t.en] 44)) wo.heap.size [.int .i64 x1.h.t.nx, .string x1.h.t.bs, .slice x1.aT x1.h.t.l.length x1.cT, .int .i64 x1.h.t.cp, .int .i64 x1.h.t.fi, .bool x1.h.t.en] := RowG.Var.new wo _
     have b8 := (Below.refl wo.heap.size wo).alloc (Nat.le_refl _) (.cells #[.int .i64 x1.h.t.nx, .string x1.h.t.bs, .slice x1.aT x1.h.t.l.length x1.cT, .int .i64 x1.h.t.cp, .int .i64 x1.h.t.fi, .bool x1.h.t.en] 44)
     go_upto_region 14 with (fail)
     replace v3 := v3.later b8
     replace gd := (b8.cell (Draw.lt_of_cell gd)).trans gd
     have B8 := B1.trans (b8.mono B1.size)
     clear t0 t1 t2 t3 t4 t5 e0 b8 B1
     generalize wo.alloc (.cells #[.int .i64 x1.h.t.nx, .string x1.h.t.bs, .slice x1.aT x1.h.t.l.length x1.cT, .int .i64 x1.h.t.cp, .int .i64 x1.h.t.fi, .bool x1.h.t.en] 44) = V8 at *
     generalize wo.heap.size = k8 at *
     have u0 := v8.cell (i := 0) rfl
     have u4 := v8.cell (i := 4) rfl
     have e0 := v3.cell (i := 0) rfl
     have hf := HF1.out
     clear HF0 HF1 HF2
     rw [show Wor.mayX x0 x1 x2 1 = (x1.h.t.en && x2.h.g.dn) from rfl]
     cases he : x1.h.t.en
     ·rw [he] at hf
      go_wp2_with fail
      go_ret
      exact ⟨rfl, B8⟩
     ·rw [he] at hf
      cases hdn : x2.h.g.dn
      ·rw [hdn] at gd
       go_wp2_with fail
       go_ret
       exact ⟨rfl, B8⟩
      ·rw [hdn] at gd
       go_wp2_with fail
       go_ret
       exact ⟨rfl, B8⟩
    focus
     have t0 : wo.cell? ⟨bx, ox + 26 + 6, none⟩ = some (.int .i64 x2.h.t.nx) := RowG.El.Lies.cell hLx HX2.out (j := 6) rfl
     have t1 : wo.cell? ⟨bx, ox + 26 + 7, none⟩ = some (.string x2.h.t.bs) := RowG.El.Lies.cell hLx HX2.out (j := 7) rfl
     have t2 : wo.cell? ⟨bx, ox + 26 + 8, none⟩ = some (.slice x2.aT x2.h.t.l.length x2.cT) := RowG.El.Lies.cell hLx HX2.out (j := 8) rfl
     have t3 : wo.cell? ⟨bx, ox + 26 + 9, none⟩ = some (.int .i64 x2.h.t.cp) := RowG.El.Lies.cell hLx HX2.out (j := 9) rfl
     have t4 : wo.cell? ⟨bx, ox + 26 + 10, none⟩ = some (.int .i64 x2.h.t.fi) := RowG.El.Lies.cell hLx HX2.out (j := 10) rfl
     have t5 : wo.cell? ⟨bx, ox + 26 + 11, none⟩ = some (.bool x2.h.t.en) := RowG.El.Lies.cell hLx HX2.out (j := 11) rfl
     clear hLx HX0 HX1 HX2
     have v8 : RowG.Var 44 (wo.alloc (.cells #[.int .i64 x2.h.t.nx, .string x2.h.t.bs, .slice x2.aT x2.h.t.l.length x2.cT, .int .i64 x2.h.t.cp, .int .i64 x2.h.t.fi, .bool x2.h.t.en] 44)) wo.heap.size [.int .i64 x2.h.t.nx, .string x2.h.t.bs, .slice x2.aT x2.h.t.l.length x2.cT, .int .i64 x2.h.t.cp, .int .i64 x2.h.t.fi, .bool x2.h.t.en] := RowG.Var.new wo _
     have b8 := (Below.refl wo.heap.size wo).alloc (Nat.le_refl _) (.cells #[.int .i64 x2.h.t.nx, .string x2.h.t.bs, .slice x2.aT x2.h.t.l.length x2.cT, .int .i64 x2.h.t.cp, .int .i64 x2.h.t.fi, .bool x2.h.t.en] 44)
     go_upto_region 14 with (fail)
     replace v3 := v3.later b8
     skip
     have B8 := B1.trans (b8.mono B1.size)
     clear t0 t1 t2 t3 t4 t5 e0 b8 B1
     generalize wo.alloc (.cells #[.int .i64 x2.h.t.nx, .string x2.h.t.bs, .slice x2.aT x2.h.t.l.length x2.cT, .int .i64 x2.h.t.cp, .int .i64 x2.h.t.fi, .bool x2.h.t.en] 44) = V8 at *
     generalize wo.heap.size = k8 at *
     have u0 := v8.cell (i := 0) rfl
     have u4 := v8.cell (i := 4) rfl
     have e0 := v3.cell (i := 0) rfl
     have hf := HF2.out
     clear HF0 HF1 HF2
     rw [show Wor.mayX x0 x1 x2 2 = x2.h.t.en from rfl]
     cases he : x2.h.t.en
     ·rw [he] at hf
      go_wp2_with fail
      go_ret
      exact ⟨rfl, B8⟩
     ·rw [he] at hf
      go_wp2_with fail
      go_ret
      exact ⟨rfl, B8⟩

/-! ### THE ROW's STEP: WRITTEN OUT: LEAVE IT -/
set_option maxRecDepth 100000 in
theorem lifted (os : Os) (started : os.Started) (H : Type) (enc : TypeId × Value → H) :
  ReturnsInHanded {} Tryz.checked os 4 .any (Rows.fnDoneSpec.pre6 enc Tryz.prog Tryz.f4 Rows.fnDoneRow.domain false) (Rows.fnDoneSpec.post enc Tryz.prog Tryz.f4 false true false false) := by
 refine returnsInHanded_of_change (C := Tryz.checked) own started (by kernel_rfl) Tryz.func4
  (ChangeSpec.witness6 (enc := enc) (C := Tryz.checked) false ⟨#[], #[.slice none 0 0], []⟩ 8 (by kernel_rfl) (by kernel_rfl) (by kernel_rfl) (by kernel_rfl)) ?_
 intro W base args ds gs before hval0 hW hcnd _
 have hval : ∀ (j : Nat) t v, Tryz.f4.params[j]? = some t → args[j]? = some v → Value.okWide Tryz.prog W .any base t v := hval0
 have hW' := hW
 obtain ⟨p, q, hA0, hV, rfl, hfz, hnd⟩ := hW
 have hA : DataW.TrodAll enc Tryz.prog W 0 (fun _ => true) true Tryz.f4.params.toList args.toList ds p := hA0
 rw [Tryz.params4] at hA hval
 obtain ⟨v0, vs0, d0, ds0, p0, q0, hargs, rfl, rfl, h0, r0⟩ := trodAll_cons hA
 obtain ⟨rfl, rfl, rfl⟩ := trodAll_nil r0
 obtain rfl : args = #[v0] := by cases args; simp_all
 obtain ⟨rfl, rfl⟩ := trodVars_none hV
 obtain ⟨a0, len0, cap0, rfl⟩ := okWide_slice Tryz.underlying22 (hval 0 22 v0 rfl rfl)
 have k0 := h0
 have lt0 : ∀ x ∈ p0, x.block < W.heap.size := by obtain ⟨m, hm⟩ := k0; exact DataW.trod_lt m _ _ _ hm
 obtain ⟨z0, w0⟩ : ∃ zs, IsRow .u8 W a0 len0 cap0 zs := by
  obtain ⟨fuel, hf⟩ := h0
  rcases open_ints Tryz.underlying22 Tryz.underlying5 (by kernel_rfl) hf with ⟨hcs, _⟩ | ⟨x, l, c, zs, hcs, _, hl, hm, hz, _, hcell, hwz⟩
  ·simp [Value.cells] at hcs
   obtain ⟨rfl, rfl, rfl⟩ := hcs
   exact ⟨[], .inl ⟨rfl, rfl, rfl, rfl⟩⟩
  ·simp [Value.cells] at hcs
   obtain ⟨rfl, rfl, rfl⟩ := hcs
   exact ⟨zs, .inr ⟨_, rfl, hl, hm, by simpa using hz, hcell, hwz⟩⟩
 clear hA0 hval0
 refine (walk a0 len0 cap0 z0 W w0).mono fun e W' ⟨he, bel⟩ => ?_
 subst he
 exact ⟨_, rfl, _, _, _, [], _, [], hW', trodAll_mk1 (shut_bool Tryz.underlying4 _), (trodAll_cons_mk (Below.trod laidOut (by kernel_rfl) (of_decide_eq_true (by kernel_rfl)) k0 bel lt0) trodAll_mk0), rfl, bel.frame _, fun h => by cases h⟩

theorem over : Rows.fnDoneRow.holds Tryz.pinned (OpenSpec.ofChange Rows.fnDoneSpec) :=
 OpenClaim.holds_of_wide 4 Tryz.f4 rfl rfl rfl rfl rfl rfl rfl ⟨rfl, rfl, rfl, rfl, rfl⟩ rfl rfl rfl rfl rfl (by kernel_rfl) Tryz.func4 (by kernel_rfl)
  (of_decide_eq_true (by kernel_rfl)) (by unfold Func.isWrapper; first | (rw [if_pos (by decide +kernel)]; kernel_rfl) | (rw [if_neg (by decide +kernel)]; exact ⟨rfl, rfl⟩))
  (fun os started H enc _ => lifted os started H enc)

theorem proved : Rows.FnDoneSaid := over
end Go.Proofs.YtanfnphdgcnojaaGreat.fnDone
namespace Go.Proofs.YtanfnphdgcnojaaGreat
theorem fnDone_holds : Rows.FnDoneSaid := fnDone.proved
#print axioms fnDone_holds
end Go.Proofs.YtanfnphdgcnojaaGreat

/- For every code of bytes FnSegs returns true: a letter is read from its bytes, and what is read has just those; ReadSeg, ShowSeg and SegOk answer as the specification; no condition. (Its frame is the guide's shell; the walk is mine.) -/
import Derived.Test.YtecgfnpniklhhaaRows
import Derived.Test.YtecgfnpniklhhaaSegU
import Derived.Test.YtecgfnpniklhhaaDrawM
import Derived.WalkKit
import Derived.ProofKit
import Derived.OpenShut
import Derived.ShutString
import Derived.ChangeOld
import Derived.Below
namespace Go.Proofs.Ytecgfnpniklhhaa.fnSegs
open Go.ChangeShapes Go.WideShapes Go.ChangeAt Go.RowKit
open Go.ChangeMaps (open_string shut_string)
set_option linter.unusedVariables false

theorem own : ownKnob Try.prog.godebug = none := by kernel_rfl
theorem laidOut : laidOutB Try.prog = true := by kernel_rfl

/-- WHAT THE WALK IS TOLD OF A SLICE OF INTEGERS THAT CAME IN: it is nil; or it leads to a row of 'cap' cells, the numbers 'zs' (the first 'len' are its elements, the rest its spare room), each fitting its kind. -/
def IsRow (k : IntKind) (w : World) (a : Option Addr) (len cap : Nat) (zs : List Int) : Prop :=
  (a = none ∧ len = 0 ∧ cap = 0 ∧ zs = []) ∨
  ∃ x, a = some x ∧ len ≤ cap ∧ cap ≤ maxLen ∧ zs.length = cap ∧ (∀ i, i < zs.length → w.cell? (x.add i) = some (.int k (zs.getD i 0))) ∧ ∀ n ∈ zs, (Lit.int k n).wf = true

/-! ### STEP 1: THE WALK: the Go text returns true, AND WRITES NOTHING THAT WAS THERE: 'Below w.heap.size w w'' (Derived/Below.lean: '.refl', '.alloc', '.drew', '.setCell' at a new block, '.trans'). Open each 'IsRow' by 'rcases' AHEAD of 'go_enter'; part every test ahead of the walk. -/
set_option maxHeartbeats 4000000 in
theorem walk (a0 : Option Addr) (len0 cap0 : Nat) (z0 : List Int) (w : World) (w0 : IsRow .u8 w a0 len0 cap0 z0) :
    Calls Try.prog 3 #[.slice a0 len0 cap0] w fun e w' => e = .returned (.bool true) ∧ Below w.heap.size w w' := by
  obtain ⟨hb, hm⟩ := Draw.bytes_of_row w0
  clear w0
  by_cases hl : len0 ≤ 4096
  · have hd : decide (4096 < (len0 : Int)) = false := by simp; omega
    go_enter Try.func3, Try.ntmps3
    go_wp2_with fail
    refine (Draw.big _ _ _ _ hm).mono ?_
    rintro e w1 ⟨rfl, rfl⟩
    clear hd
    go_wp2_with fail
    refine (Draw.drawShowSeg _ _ _ _ hb hl).mono ?_
    rintro x w1 ⟨f, t, b, e, a, r, hbz, rfl, hB1⟩
    have hbs : b.size ≤ 1048576 := by omega
    go_wp2_with fail
    refine (Seg.implShowSeg f t b e a r _ hbs).mono ?_
    rintro x w2 ⟨rfl, hB2⟩
    have kG := (Seg.block_cells hB2).1
    have h12 : w1.heap.size < w2.heap.size := by have := hB2.size; simp at this; omega
    have b02 : Below w.heap.size w w2 := (hB1.alloc hB1.size _).trans (hB2.mono (by have := hB1.size; simp; omega))
    have hb2 := hb.below b02 (Nat.le_refl _)
    have HB : Hid (Draw.Bytes w a0 len0) := hb
    clear hb hB1 hB2
    go_wp2_with fail
    refine (Draw.drawReadSeg _ _ _ _ hb2 hl).mono ?_
    rintro x w3 ⟨s, hs, rfl, b23⟩
    clear hb2
    obtain ⟨F, T, B, E, A, R, hV, hBz, hYes, hNo⟩ := Seg.read_all s hs
    have HV : Hid (Seg.segV s.data.toList = _) := hV
    have HYes : Hid _ := hYes
    have HNo : Hid _ := hNo
    clear hV hYes hNo
    go_wp2_with fail
    refine (Seg.implReadSeg _ _ hs).mono ?_
    rintro x w4 ⟨rfl, b34⟩
    rw [HV.out]
    generalize hq : Seg.rdL s.data.toList = q
    have HQ : Hid _ := hq
    clear hq
    have b24 := b23.trans (b34.mono b23.size)
    clear b23 b34
    go_wp2_with fail
    refine (Seg.specReadSeg _ _ hs).mono ?_
    rintro x w5 ⟨rfl, hB5⟩
    rw [HV.out, HQ.out]
    have kX := (Seg.block_cells hB5).1
    have h45 : w4.heap.size < w5.heap.size := by have := hB5.size; simp at this; omega
    have b25 : Below w2.heap.size w2 w5 := (b24.alloc b24.size _).trans (hB5.mono (by have := b24.size; simp; omega))
    have h24 := b24.size
    clear hB5 b24
    have kY := (Seg.block_cells (Below.refl _ (w5.alloc (.cells #[.int .i64 F, .int .i64 T, .string B, .bool E, .int .i64 A, .int .i64 R] 25)))).1
    go_wp2_with fail
    have b2W : Below w2.heap.size w2 (w5.alloc (.cells #[.int .i64 F, .int .i64 T, .string B, .bool E, .int .i64 A, .int .i64 R] 25)) := b25.alloc b25.size _
    have b5W : Below w5.heap.size w5 (w5.alloc (.cells #[.int .i64 F, .int .i64 T, .string B, .bool E, .int .i64 A, .int .i64 R] 25)) := (Below.refl _ _).alloc (Nat.le_refl _) _
    generalize w5.alloc (.cells #[.int .i64 F, .int .i64 T, .string B, .bool E, .int .i64 A, .int .i64 R] 25) = W at *
    have cG : ∀ i, W.cell? ⟨w1.heap.size, i, none⟩ = _ := fun i => (b2W.cell (p := ⟨w1.heap.size, i, none⟩) h12).trans (kG i)
    have cX : ∀ i, W.cell? ⟨w4.heap.size, i, none⟩ = _ := fun i => (b5W.cell (p := ⟨w4.heap.size, i, none⟩) h45).trans (kX i)
    have g0 := Draw.Later.cell (cG 0)
    have g1 := Draw.Later.cell (cG 1)
    have g2 := Draw.Later.cell (cG 2)
    have g3 := Draw.Later.cell (cG 3)
    have g4 := Draw.Later.cell (cG 4)
    have g5 := Draw.Later.cell (cG 5)
    have x0 := Draw.Later.cell (cX 0)
    have x1 := Draw.Later.cell (cX 1)
    have x2 := Draw.Later.cell (cX 2)
    have x3 := Draw.Later.cell (cX 3)
    have x4 := Draw.Later.cell (cX 4)
    have x5 := Draw.Later.cell (cX 5)
    have y0 := Draw.Later.cell (kY 0)
    have y1 := Draw.Later.cell (kY 1)
    have y2 := Draw.Later.cell (kY 2)
    have y3 := Draw.Later.cell (kY 3)
    have y4 := Draw.Later.cell (kY 4)
    have y5 := Draw.Later.cell (kY 5)
    have hW := b2W.size
    have b0W := b02.trans (b2W.mono b02.size)
    clear kG kX kY cG cX b25 b2W b5W b02
    refine Draw.wp_region_later (by kernel_rfl) (by kernel_rfl) ?_
    repeat (go_big_quiet_step ((first | (go_at_call 10; exact Draw.later_of (Seg.specShowSeg f t b e a r _ hbs)) | (go_at_call 11; exact Draw.later_of (Seg.implSegOk f t b e a r _ hbs)) | (go_at_call 12; exact Draw.later_of (Seg.specSegOk f t b e a r _ hbs)))))
    refine wpQuiet_nil ?_
    intro wq hw'
    have hBq : Below W.heap.size W wq := by obtain ⟨p, rfl⟩ := hw'; exact p.h
    clear hw'
    have b0q := b0W.trans (hBq.mono b0W.size)
    have hWq : W.heap.size ≤ wq.heap.size := hBq.size
    replace g0 := g0 ⟨wq, hBq⟩
    replace g1 := g1 ⟨wq, hBq⟩
    replace g2 := g2 ⟨wq, hBq⟩
    replace g3 := g3 ⟨wq, hBq⟩
    replace g4 := g4 ⟨wq, hBq⟩
    replace g5 := g5 ⟨wq, hBq⟩
    replace x0 := x0 ⟨wq, hBq⟩
    replace x1 := x1 ⟨wq, hBq⟩
    replace x2 := x2 ⟨wq, hBq⟩
    replace x3 := x3 ⟨wq, hBq⟩
    replace x4 := x4 ⟨wq, hBq⟩
    replace x5 := x5 ⟨wq, hBq⟩
    simp only at g0 g1 g2 g3 g4 g5 x0 x1 x2 x3 x4 x5
    have hGq : w1.heap.size < wq.heap.size := by omega
    clear y0 y1 y2 y3 y4 y5 b0W hBq
    have hbs' : b.data.toList.length = b.size := by simp
    have HSL : Hid (Seg.showSegL f t b.data.toList e a r = if Seg.okB f t b.size a r = true then Seg.showL f t b.data.toList e a r else []) := by show _ = _; unfold Seg.showSegL; rw [hbs']
    have HRS : Hid (Seg.okB f t b.size a r = true → Seg.rdL (Seg.showL f t b.data.toList e a r) = true ∧ Seg.segV (Seg.showL f t b.data.toList e a r) = #[.int .i64 f, .int .i64 t, .string ⟨b.data.toList.toArray⟩, .bool e, .int .i64 a, .int .i64 r]) := fun h => Seg.rd_show (by rw [hbs']; exact h)
    have HLN : Hid ((Seg.showL f t b.data.toList e a r).length = 18 + b.size) := by show _ = _; rw [← hbs']; exact Seg.showL_len f t b.data.toList e a r
    clear hbs'
    cases q
    · obtain ⟨rfl, rfl, rfl, rfl, rfl, rfl⟩ := HNo.out HQ.out
      clear HYes HNo
      have b0z := b0q
      have hGz := hGq
      clear b0q hGq
      cases hok : Seg.okB f t b.size a r
      · rw [hok] at HSL
        have hS : Seg.showSegL f t b.data.toList e a r = [] := HSL.out
        rw [hS]
        go_wp2_with fail
        refine (Seg.implSegOk f t b e a r _ hbs).mono ?_
        rintro x w7 ⟨rfl, hB7⟩
        rw [hok]
        have b07 := b0z.trans (hB7.mono b0z.size)
        clear hB7 b0z
        go_wp2_with fail
        go_ret
        exact ⟨rfl, b07⟩
      · rw [hok] at HSL
        have hS : Seg.showSegL f t b.data.toList e a r = Seg.showL f t b.data.toList e a r := HSL.out
        obtain ⟨hr1, hr2⟩ := HRS.out hok
        rw [hS]
        have hln := HLN.out
        clear hS HSL HRS HLN
        generalize Seg.showL f t b.data.toList e a r = L at *
        have hne : ¬ L = [] := by intro c; rw [c] at hln; simp at hln; omega
        have hne' : (L == []) = false := by simpa using hne
        have hLz : (⟨L.toArray⟩ : ByteArray).size ≤ 1048576 := by show L.length ≤ _; omega
        have hli : (L.length : Int) = 18 + (b.size : Int) := by omega
        have e0 : IntKind.i64.wrap (18 + (b.size : Int)) = 18 + (b.size : Int) := by rw [IntKind.wrap_i64]; omega
        have HLN : Hid (L.length = 18 + b.size) := hln
        clear hln
        go_wp2_with fail
        refine (Seg.implReadSeg _ _ hLz).mono ?_
        rintro x w7 ⟨rfl, hB7⟩
        have e1 : (⟨L.toArray⟩ : ByteArray).data.toList = L := rfl
        rw [e1, hr1, hr2, Seg.mk_toList]
        replace g0 := (hB7.cell (p := ⟨w1.heap.size, 0, none⟩) hGz).trans g0
        replace g1 := (hB7.cell (p := ⟨w1.heap.size, 1, none⟩) hGz).trans g1
        replace g2 := (hB7.cell (p := ⟨w1.heap.size, 2, none⟩) hGz).trans g2
        replace g3 := (hB7.cell (p := ⟨w1.heap.size, 3, none⟩) hGz).trans g3
        replace g4 := (hB7.cell (p := ⟨w1.heap.size, 4, none⟩) hGz).trans g4
        replace g5 := (hB7.cell (p := ⟨w1.heap.size, 5, none⟩) hGz).trans g5
        have b07 := b0z.trans (hB7.mono b0z.size)
        have h17 : w1.heap.size < w7.heap.size := Nat.lt_of_lt_of_le hGz hB7.size
        have h17a : ¬ w1.heap.size = w7.heap.size := by omega
        have h17b : ¬ w7.heap.size = w1.heap.size := by omega
        clear hB7 b0z e1 hr1 hr2
        go_wp2_with fail
        go_ret
        exact ⟨by first | rfl | (simp; done), b07.alloc b07.size _⟩
    · have hSs := HYes.out HQ.out
      clear HYes HNo
      go_wp2_with fail
      refine (Seg.implShowSeg F T B E A R _ hBz).mono ?_
      rintro x wz ⟨rfl, hBz'⟩
      rw [hSs]
      have b0z := b0q.trans (hBz'.mono b0q.size)
      have hGz : w1.heap.size < wz.heap.size := Nat.lt_of_lt_of_le hGq hBz'.size
      replace g0 := (hBz'.cell (p := ⟨w1.heap.size, 0, none⟩) hGq).trans g0
      replace g1 := (hBz'.cell (p := ⟨w1.heap.size, 1, none⟩) hGq).trans g1
      replace g2 := (hBz'.cell (p := ⟨w1.heap.size, 2, none⟩) hGq).trans g2
      replace g3 := (hBz'.cell (p := ⟨w1.heap.size, 3, none⟩) hGq).trans g3
      replace g4 := (hBz'.cell (p := ⟨w1.heap.size, 4, none⟩) hGq).trans g4
      replace g5 := (hBz'.cell (p := ⟨w1.heap.size, 5, none⟩) hGq).trans g5
      clear hBz' b0q x0 x1 x2 x3 x4 x5 hGq hWq
      cases hok : Seg.okB f t b.size a r
      · rw [hok] at HSL
        have hS : Seg.showSegL f t b.data.toList e a r = [] := HSL.out
        rw [hS]
        go_wp2_with fail
        refine (Seg.implSegOk f t b e a r _ hbs).mono ?_
        rintro x w7 ⟨rfl, hB7⟩
        rw [hok]
        have b07 := b0z.trans (hB7.mono b0z.size)
        clear hB7 b0z
        go_wp2_with fail
        go_ret
        exact ⟨rfl, b07⟩
      · rw [hok] at HSL
        have hS : Seg.showSegL f t b.data.toList e a r = Seg.showL f t b.data.toList e a r := HSL.out
        obtain ⟨hr1, hr2⟩ := HRS.out hok
        rw [hS]
        have hln := HLN.out
        clear hS HSL HRS HLN
        generalize Seg.showL f t b.data.toList e a r = L at *
        have hne : ¬ L = [] := by intro c; rw [c] at hln; simp at hln; omega
        have hne' : (L == []) = false := by simpa using hne
        have hLz : (⟨L.toArray⟩ : ByteArray).size ≤ 1048576 := by show L.length ≤ _; omega
        have hli : (L.length : Int) = 18 + (b.size : Int) := by omega
        have e0 : IntKind.i64.wrap (18 + (b.size : Int)) = 18 + (b.size : Int) := by rw [IntKind.wrap_i64]; omega
        have HLN : Hid (L.length = 18 + b.size) := hln
        clear hln
        go_wp2_with fail
        refine (Seg.implReadSeg _ _ hLz).mono ?_
        rintro x w7 ⟨rfl, hB7⟩
        have e1 : (⟨L.toArray⟩ : ByteArray).data.toList = L := rfl
        rw [e1, hr1, hr2, Seg.mk_toList]
        replace g0 := (hB7.cell (p := ⟨w1.heap.size, 0, none⟩) hGz).trans g0
        replace g1 := (hB7.cell (p := ⟨w1.heap.size, 1, none⟩) hGz).trans g1
        replace g2 := (hB7.cell (p := ⟨w1.heap.size, 2, none⟩) hGz).trans g2
        replace g3 := (hB7.cell (p := ⟨w1.heap.size, 3, none⟩) hGz).trans g3
        replace g4 := (hB7.cell (p := ⟨w1.heap.size, 4, none⟩) hGz).trans g4
        replace g5 := (hB7.cell (p := ⟨w1.heap.size, 5, none⟩) hGz).trans g5
        have b07 := b0z.trans (hB7.mono b0z.size)
        have h17 : w1.heap.size < w7.heap.size := Nat.lt_of_lt_of_le hGz hB7.size
        have h17a : ¬ w1.heap.size = w7.heap.size := by omega
        have h17b : ¬ w7.heap.size = w1.heap.size := by omega
        clear hB7 b0z e1 hr1 hr2
        go_wp2_with fail
        go_ret
        exact ⟨by first | rfl | (simp; done), b07.alloc b07.size _⟩
  · have hd : decide (4096 < (len0 : Int)) = true := by simp; omega
    go_enter Try.func3, Try.ntmps3
    go_wp2_with fail
    refine (Draw.big _ _ _ _ hm).mono ?_
    rintro e w1 ⟨rfl, rfl⟩
    go_wp2_with fail
    go_ret
    exact ⟨rfl, Below.refl _ _⟩

/-! ### THE ROW's STEP: WRITTEN OUT: LEAVE IT -/
set_option maxRecDepth 100000 in
theorem lifted (os : Os) (started : os.Started) (H : Type) (enc : TypeId × Value → H) :
    ReturnsInHanded {} Try.checked os 3 .any (Rows.fnSegsSpec.pre6 enc Try.prog Try.f3 Rows.fnSegsRow.domain false) (Rows.fnSegsSpec.post enc Try.prog Try.f3 false true false false) := by
  refine returnsInHanded_of_change (C := Try.checked) own started (by kernel_rfl) Try.func3
    (ChangeSpec.witness6 (enc := enc) (C := Try.checked) false ⟨#[], #[.slice none 0 0], []⟩ 8 (by kernel_rfl) (by kernel_rfl) (by kernel_rfl) (by kernel_rfl)) ?_
  intro W base args ds gs before hval0 hW hcnd _
  have hval : ∀ (j : Nat) t v, Try.f3.params[j]? = some t → args[j]? = some v → Value.okWide Try.prog W .any base t v := hval0
  have hW' := hW
  obtain ⟨p, q, hA0, hV, rfl, hfz, hnd⟩ := hW
  have hA : DataW.TrodAll enc Try.prog W 0 (fun _ => true) true Try.f3.params.toList args.toList ds p := hA0
  rw [Try.params3] at hA hval
  obtain ⟨v0, vs0, d0, ds0, p0, q0, hargs, rfl, rfl, h0, r0⟩ := trodAll_cons hA
  obtain ⟨rfl, rfl, rfl⟩ := trodAll_nil r0
  obtain rfl : args = #[v0] := by cases args; simp_all
  obtain ⟨rfl, rfl⟩ := trodVars_none hV
  obtain ⟨a0, len0, cap0, rfl⟩ := okWide_slice Try.underlying22 (hval 0 22 v0 rfl rfl)
  have k0 := h0
  have lt0 : ∀ x ∈ p0, x.block < W.heap.size := by obtain ⟨m, hm⟩ := k0; exact DataW.trod_lt m _ _ _ hm
  obtain ⟨z0, w0⟩ : ∃ zs, IsRow .u8 W a0 len0 cap0 zs := by
    obtain ⟨fuel, hf⟩ := h0
    rcases open_ints Try.underlying22 Try.underlying5 (by kernel_rfl) hf with ⟨hcs, _⟩ | ⟨x, l, c, zs, hcs, _, hl, hm, hz, _, hcell, hwz⟩
    · simp [Value.cells] at hcs
      obtain ⟨rfl, rfl, rfl⟩ := hcs
      exact ⟨[], .inl ⟨rfl, rfl, rfl, rfl⟩⟩
    · simp [Value.cells] at hcs
      obtain ⟨rfl, rfl, rfl⟩ := hcs
      exact ⟨zs, .inr ⟨_, rfl, hl, hm, by simpa using hz, hcell, hwz⟩⟩
  clear hA0 hval0
  refine (walk a0 len0 cap0 z0 W w0).mono fun e W' ⟨he, bel⟩ => ?_
  subst he
  exact ⟨_, rfl, _, _, _, [], _, [], hW', trodAll_mk1 (shut_bool Try.underlying4 _), (trodAll_cons_mk (Below.trod laidOut (by kernel_rfl) (of_decide_eq_true (by kernel_rfl)) k0 bel lt0) trodAll_mk0), rfl, bel.frame _, fun h => by cases h⟩

theorem over : Rows.fnSegsRow.holds Try.pinned (OpenSpec.ofChange Rows.fnSegsSpec) :=
  OpenClaim.holds_of_wide 3 Try.f3 rfl rfl rfl rfl rfl rfl rfl ⟨rfl, rfl, rfl, rfl, rfl⟩ rfl rfl rfl rfl rfl (by kernel_rfl) Try.func3 (by kernel_rfl)
    (of_decide_eq_true (by kernel_rfl)) (by unfold Func.isWrapper; first | (rw [if_pos (by decide +kernel)]; kernel_rfl) | (rw [if_neg (by decide +kernel)]; exact ⟨rfl, rfl⟩))
    (fun os started H enc _ => lifted os started H enc)

/-- THE STATEMENT. -/
theorem proved : Rows.FnSegsSaid := over
end Go.Proofs.Ytecgfnpniklhhaa.fnSegs
namespace Go.Proofs.Ytecgfnpniklhhaa
theorem fnSegs_holds : Rows.FnSegsSaid := fnSegs.proved
#print axioms fnSegs_holds
end Go.Proofs.Ytecgfnpniklhhaa

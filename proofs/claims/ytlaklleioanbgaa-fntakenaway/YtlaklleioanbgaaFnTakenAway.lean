/- For every code of bytes FnTakenAway returns true: the program's TakenAway answers as the specification's on every drawn taker and number, and what is taken away are the first bytes, as many as asked, with as much more room behind; no condition. (Its frame is the guide's shell; the walk is mine.) -/
import Derived.Test.YtlaklleioanbgaaRows
import Derived.Test.YtlaklleioanbgaaTakU
import Derived.Test.YtlaklleioanbgaaLawU
import Derived.Test.YtlaklleioanbgaaDrawW
import Derived.WalkKit
import Derived.ProofKit
import Derived.OpenShut
import Derived.ShutString
import Derived.ChangeOld
import Derived.Below
namespace Go.Proofs.Ytlaklleioanbgaa.fnTakenAway
open Go.ChangeShapes Go.WideShapes Go.ChangeAt Go.RowKit
open Go.ChangeMaps (open_string shut_string)
set_option linter.unusedVariables false

theorem own : ownKnob Try.prog.godebug = none := by kernel_rfl
theorem laidOut : laidOutB Try.prog = true := by kernel_rfl

/-- WHAT THE WALK IS TOLD OF A SLICE OF INTEGERS THAT CAME IN: it is nil; or it leads to a row of 'cap' cells, the numbers 'zs' (the first 'len' are its elements, the rest its spare room), each fitting its kind. -/
def IsRow (k : IntKind) (w : World) (a : Option Addr) (len cap : Nat) (zs : List Int) : Prop :=
  (a = none ∧ len = 0 ∧ cap = 0 ∧ zs = []) ∨
  ∃ x, a = some x ∧ len ≤ cap ∧ cap ≤ maxLen ∧ zs.length = cap ∧ (∀ i, i < zs.length → w.cell? (x.add i) = some (.int k (zs.getD i 0))) ∧ ∀ n ∈ zs, (Lit.int k n).wf = true

/-! ### STEP 1: THE WALK: the Go text returns true, AND WRITES NOTHING THAT WAS THERE: 'Below w.heap.size w w'' (Derived/Below.lean: '.refl', '.alloc', '.drew', '.setCell' at a new block, '.trans'). Open each 'IsRow' by 'rcases' AHEAD of 'go_enter'; part every test ahead of the walk. -/
set_option maxHeartbeats 4000000 in
theorem walk (a0 : Option Addr) (len0 cap0 : Nat) (z0 : List Int) (w : World) (w0 : IsRow .u8 w a0 len0 cap0 z0) :
    Calls Try.prog 5 #[.slice a0 len0 cap0] w fun e w' => e = .returned (.bool true) ∧ Below w.heap.size w w' := by
  obtain ⟨hb, hm⟩ := Draw.bytes_of_row w0
  clear w0
  by_cases hl : len0 ≤ 4096
  case neg =>
    have hd : decide (4096 < (len0 : Int)) = true := by simp; omega
    go_enter Try.func5, Try.ntmps5
    go_wp2_with fail
    refine (Draw.big _ _ _ _ hm).mono ?_
    rintro e w1 ⟨rfl, rfl⟩
    go_wp2_with fail
    go_ret
    exact ⟨rfl, Below.refl _ _⟩
  have hd : decide (4096 < (len0 : Int)) = false := by simp; omega
  go_enter Try.func5, Try.ntmps5
  go_wp2_with fail
  refine (Draw.big _ _ _ _ hm).mono ?_
  rintro e w1 ⟨rfl, rfl⟩
  clear hd
  go_wp2_with fail
  refine (Tak.drawTakenAway _ _ _ _ hb hl).mono ?_
  rintro x w1 ⟨⟨nx, bs, l, cp, fi, en⟩, hg, a1, c1, n, rfl, o1, b1⟩
  obtain ⟨hbd, hll, hbb, hn0, hn1⟩ := hg
  dsimp only at hbd hll hbb hn0 hn1 o1
  have hl2 : l.length ≤ 2097152 := by omega
  have hb2 : bs.size ≤ 2097152 := by omega
  have hI := fun w' (hL : Tak.partE.Lies w' a1 l) => Tak.implTakenAway nx bs a1 l.length c1 cp fi en l n w' rfl hL hl2 hb2 hbd o1.none_cap
  have hS := fun w' (hL : Tak.partE.Lies w' a1 l) => Tak.specTakenAway nx bs a1 l.length c1 cp fi en l n w' rfl hL hl2 hb2 hbd o1.none_cap
  have hT := fun w' (hL : Tak.partE.Lies w' a1 l) => Tak.specTakerOk nx bs a1 l.length c1 cp fi en l w' rfl hL hl2 hb2 hbd.up
  have HLm := fun w' (hL : Tak.partE.Lies w' a1 l) => Tak.implLimitOf nx bs a1 l.length c1 cp fi en l w' rfl hL hl2 hb2 hbd
  obtain ⟨ok, hok⟩ : ∃ ok, Tak.takerB nx bs l cp fi en = ok := ⟨_, rfl⟩
  rw [hok] at hT
  obtain ⟨ta, hta⟩ : ∃ ta, Tak.takenAway ⟨nx, bs, l, cp, fi, en⟩ n = ta := ⟨_, rfl⟩
  rw [hta] at hI hS
  obtain ⟨⟨xn, xb, xl, xc, xf, xe⟩, out⟩ := ta
  have HTA : Hid _ := hta
  have HOK : Hid _ := hok
  have hxl : xl.length ≤ 2097152 := by
    have e : (Tak.takenAway ⟨nx, bs, l, cp, fi, en⟩ n).1.l.length ≤ l.length := by
      simp only [Tak.takenAway]
      split
      · split <;> simp
      · simp [Tak.zeroK]
    rw [hta] at e
    dsimp only at e
    omega
  dsimp only [Tak.Tk.v] at hI hS ⊢
  clear hta hok hll hbb
  have v3 : RowG.Var 26 (w1.alloc (.cells #[.int .i64 nx, .string bs, .slice a1 l.length c1, .int .i64 cp, .int .i64 fi, .bool en] 26)) w1.heap.size [.int .i64 nx, .string bs, .slice a1 l.length c1, .int .i64 cp, .int .i64 fi, .bool en] := RowG.Var.new _ _
  have o3 := o1.alloc (.cells #[.int .i64 nx, .string bs, .slice a1 l.length c1, .int .i64 cp, .int .i64 fi, .bool en] 26)
  have B3 : Below _ _ (w1.alloc (.cells #[.int .i64 nx, .string bs, .slice a1 l.length c1, .int .i64 cp, .int .i64 fi, .bool en] 26)) := b1.alloc b1.size _
  clear b1 o1
  go_upto_region 4 with (fail)
  generalize w1.alloc (.cells #[.int .i64 nx, .string bs, .slice a1 l.length c1, .int .i64 cp, .int .i64 fi, .bool en] 26) = W at *
  generalize w1.heap.size = k3 at *
  have e0 := v3.cell (i := 0) rfl
  have e1 := v3.cell (i := 1) rfl
  have e2 := v3.cell (i := 2) rfl
  have e3 := v3.cell (i := 3) rfl
  have e4 := v3.cell (i := 4) rfl
  have e5 := v3.cell (i := 5) rfl
  go_wp2_with fail
  refine (hI _ o3.lies).mono ?_
  rintro x w2 ⟨a2, c2, rfl, o2, b2⟩
  have v3 := v3.later b2
  have o3 := o3.later b2
  have B2 := B3.trans (b2.mono B3.size)
  have v5 : RowG.Var 26 (w2.alloc (.cells #[.int .i64 xn, .string xb, .slice a2 xl.length c2, .int .i64 xc, .int .i64 xf, .bool xe] 26)) w2.heap.size [.int .i64 xn, .string xb, .slice a2 xl.length c2, .int .i64 xc, .int .i64 xf, .bool xe] := RowG.Var.new _ _
  have v3 := v3.alloc (.cells #[.int .i64 xn, .string xb, .slice a2 xl.length c2, .int .i64 xc, .int .i64 xf, .bool xe] 26)
  have o3 := o3.alloc (.cells #[.int .i64 xn, .string xb, .slice a2 xl.length c2, .int .i64 xc, .int .i64 xf, .bool xe] 26)
  have o5 := o2.alloc (.cells #[.int .i64 xn, .string xb, .slice a2 xl.length c2, .int .i64 xc, .int .i64 xf, .bool xe] 26)
  have B5 : Below _ _ (w2.alloc (.cells #[.int .i64 xn, .string xb, .slice a2 xl.length c2, .int .i64 xc, .int .i64 xf, .bool xe] 26)) := B2.alloc B2.size _
  clear b2 B2 B3 o2
  clear e0 e1 e2 e3 e4 e5
  go_upto_region 5 with (fail)
  generalize w2.alloc (.cells #[.int .i64 xn, .string xb, .slice a2 xl.length c2, .int .i64 xc, .int .i64 xf, .bool xe] 26) = W at *
  generalize w2.heap.size = k5 at *
  have e0 := v3.cell (i := 0) rfl
  have e1 := v3.cell (i := 1) rfl
  have e2 := v3.cell (i := 2) rfl
  have e3 := v3.cell (i := 3) rfl
  have e4 := v3.cell (i := 4) rfl
  have e5 := v3.cell (i := 5) rfl
  go_wp2_with fail
  refine (hS _ o3.lies).mono ?_
  rintro x w4 ⟨a3, c3, rfl, o4, b4⟩
  have v3 := v3.later b4
  have v5 := v5.later b4
  have o3 := o3.later b4
  have o5 := o5.later b4
  have B4 := B5.trans (b4.mono B5.size)
  have v7 : RowG.Var 26 (w4.alloc (.cells #[.int .i64 xn, .string xb, .slice a3 xl.length c3, .int .i64 xc, .int .i64 xf, .bool xe] 26)) w4.heap.size [.int .i64 xn, .string xb, .slice a3 xl.length c3, .int .i64 xc, .int .i64 xf, .bool xe] := RowG.Var.new _ _
  have v3 := v3.alloc (.cells #[.int .i64 xn, .string xb, .slice a3 xl.length c3, .int .i64 xc, .int .i64 xf, .bool xe] 26)
  have v5 := v5.alloc (.cells #[.int .i64 xn, .string xb, .slice a3 xl.length c3, .int .i64 xc, .int .i64 xf, .bool xe] 26)
  have o3 := o3.alloc (.cells #[.int .i64 xn, .string xb, .slice a3 xl.length c3, .int .i64 xc, .int .i64 xf, .bool xe] 26)
  have o5 := o5.alloc (.cells #[.int .i64 xn, .string xb, .slice a3 xl.length c3, .int .i64 xc, .int .i64 xf, .bool xe] 26)
  have o7 := o4.alloc (.cells #[.int .i64 xn, .string xb, .slice a3 xl.length c3, .int .i64 xc, .int .i64 xf, .bool xe] 26)
  have B7 : Below _ _ (w4.alloc (.cells #[.int .i64 xn, .string xb, .slice a3 xl.length c3, .int .i64 xc, .int .i64 xf, .bool xe] 26)) := B4.alloc B4.size _
  clear b4 B4 B5 o4
  clear e0 e1 e2 e3 e4 e5
  go_upto_region 6 with (fail)
  generalize w4.alloc (.cells #[.int .i64 xn, .string xb, .slice a3 xl.length c3, .int .i64 xc, .int .i64 xf, .bool xe] 26) = W at *
  generalize w4.heap.size = k7 at *
  have p0 := v5.cell (i := 0) rfl
  have p1 := v5.cell (i := 1) rfl
  have p2 := v5.cell (i := 2) rfl
  have p3 := v5.cell (i := 3) rfl
  have p4 := v5.cell (i := 4) rfl
  have p5 := v5.cell (i := 5) rfl
  have q0 := v7.cell (i := 0) rfl
  have q1 := v7.cell (i := 1) rfl
  have q2 := v7.cell (i := 2) rfl
  have q3 := v7.cell (i := 3) rfl
  have q4 := v7.cell (i := 4) rfl
  have q5 := v7.cell (i := 5) rfl
  go_wp2_with fail
  refine (Tak.likeTaker xn xb a2 a3 _ _ c2 c3 xc xf xe xl _ rfl rfl o5.lies o7.lies hxl).mono ?_
  rintro x w8 ⟨rfl, b8⟩
  have v3 := v3.later b8
  have v5 := v5.later b8
  have o3 := o3.later b8
  have o5 := o5.later b8
  have B8 := B7.trans (b8.mono B7.size)
  clear b8 B7 v7 o7
  clear p0 p1 p2 p3 p4 p5 q0 q1 q2 q3 q4 q5
  have e0 := v3.cell (i := 0) rfl
  have e1 := v3.cell (i := 1) rfl
  have e2 := v3.cell (i := 2) rfl
  have e3 := v3.cell (i := 3) rfl
  have e4 := v3.cell (i := 4) rfl
  have e5 := v3.cell (i := 5) rfl
  go_wp2_with fail
  refine (hT _ o3.lies).mono ?_
  rintro x w9 ⟨rfl, b9⟩
  have v3 := v3.later b9
  have v5 := v5.later b9
  have o3 := o3.later b9
  have o5 := o5.later b9
  have B9 := B8.trans (b9.mono B8.size)
  clear b9 B8 hT hI hS
  clear e0 e1 e2 e3 e4 e5
  have e0 := v3.cell (i := 0) rfl
  have e1 := v3.cell (i := 1) rfl
  have e2 := v3.cell (i := 2) rfl
  have e3 := v3.cell (i := 3) rfl
  have e4 := v3.cell (i := 4) rfl
  have e5 := v3.cell (i := 5) rfl
  have p0 := v5.cell (i := 0) rfl
  have p1 := v5.cell (i := 1) rfl
  have p2 := v5.cell (i := 2) rfl
  have p3 := v5.cell (i := 3) rfl
  have p4 := v5.cell (i := 4) rfl
  have p5 := v5.cell (i := 5) rfl
  cases ok
  case false =>
    have hz := Tak.away_bad (t := ⟨nx, bs, l, cp, fi, en⟩) (n := n) HOK.out
    rw [HTA.out] at hz
    cases hz
    go_wp2_with fail
    refine (Tak.likeTaker _ _ a2 none _ _ c2 0 _ _ _ [] _ rfl rfl (.inl rfl) (.inl rfl) (by simp)).mono ?_
    rintro x wa ⟨rfl, ba⟩
    go_wp2_with fail
    go_ret
    exact ⟨rfl, B9.trans (ba.mono B9.size)⟩
  by_cases hn : n < 0 ∨ (bs.size : Int) < n
  case pos =>
    have hz := Tak.away_out (t := ⟨nx, bs, l, cp, fi, en⟩) HOK.out hn
    rw [HTA.out] at hz
    cases hz
    have o3l := o3.lies
    have o5l := o5.lies
    by_cases hn0 : n < 0
    · go_wp2_with fail
      refine (Tak.likeTaker _ _ a2 a1 _ _ c2 c1 _ _ _ l _ rfl rfl o5l o3l hl2).mono ?_
      rintro x wa ⟨rfl, ba⟩
      go_wp2_with fail
      go_ret
      exact ⟨rfl, B9.trans (ba.mono B9.size)⟩
    · have hn1' : (bs.size : Int) < n := by omega
      clear hn
      go_wp2_with fail
      refine (Tak.likeTaker _ _ a2 a1 _ _ c2 c1 _ _ _ l _ rfl rfl o5l o3l hl2).mono ?_
      rintro x wa ⟨rfl, ba⟩
      go_wp2_with fail
      go_ret
      exact ⟨rfl, B9.trans (ba.mono B9.size)⟩
  have hn2 : 0 ≤ n := by omega
  have hn3 : n ≤ (bs.size : Int) := by omega
  obtain ⟨f1, f2, f3, f4, f5⟩ := Tak.away_all (t := ⟨nx, bs, l, cp, fi, en⟩) HOK.out hn2 hn3
  have hz := Tak.away_in (t := ⟨nx, bs, l, cp, fi, en⟩) HOK.out hn2 hn3
  rw [HTA.out] at f1 f2 f3 f4 f5 hz
  dsimp only at f1 f2 f3 f4 f5 hz
  simp only [Prod.mk.injEq, Tak.Tk.mk.injEq] at hz
  obtain ⟨⟨h1, h2, h3, h4, h5, h6⟩, h7⟩ := hz
  subst h1 h3 h4 h5 h6
  have hxb : out.size + xb.size = bs.size := by rw [← f2, ByteArray.size_append]
  have hxs : xb.size ≤ 2097152 := by omega
  have hos : out.size + xb.size ≤ 2097152 := by omega
  obtain ⟨⟨i1, i2⟩, ⟨i3, i4⟩, ⟨i5, i6⟩, i7⟩ := (Tak.ok_iff (t := ⟨xn, bs, xl, xc, xf, xe⟩)).1 HOK.out |>.1
  dsimp only at i1 i2 i3 i4 i5 i6
  have hA : Tak.limitOf xn xb xl xc xf xe = Tak.limT xn bs xc + n := by
    rw [Tak.limitOf, show Tak.takerB xn xb xl xc xf xe = true from f1, ← f5]
    rfl
  have hBv : Tak.limitOf xn bs xl xc xf xe = Tak.limT xn bs xc := by
    rw [Tak.limitOf, show Tak.takerB xn bs xl xc xf xe = true from HOK.out]
    rfl
  have hTx := fun w' (hL : Tak.partE.Lies w' a2 xl) => Tak.implTakerOk xn xb a2 xl.length c2 xc xf xe xl w' rfl hL hl2 hxs hbd
  have hLx := fun w' (hL : Tak.partE.Lies w' a2 xl) => Tak.implLimitOf xn xb a2 xl.length c2 xc xf xe xl w' rfl hL hl2 hxs hbd
  have hLt := HLm
  rw [hA] at hLx
  rw [hBv] at hLt
  rw [show Tak.takerB xn xb xl xc xf xe = true from f1] at hTx
  have hL0 : 0 ≤ Tak.limT xn bs xc ∧ Tak.limT xn bs xc ≤ 2000000000 := by simp only [Tak.limT]; omega
  have L5 := o5.lies
  have L3 := o3.lies
  generalize Tak.limT xn bs xc = Lm at *
  obtain ⟨j1, j2⟩ := hL0
  have ew : IntKind.i64.wrap (Lm + n) = Lm + n := by rw [IntKind.wrap_i64]; omega
  have EQ1 : Hid (out ++ xb = bs) := f2
  have EQ2 : (out ++ xb).toList = bs.toList := by rw [f2]
  have EQ3 : (out.size : Int) = n := f3
  have hmix := Tak.mix
  have d0 := Draw.Later.cell e0
  have d1 := Draw.Later.cell e1
  have d2 := Draw.Later.cell e2
  have d3 := Draw.Later.cell e3
  have d4 := Draw.Later.cell e4
  have d5 := Draw.Later.cell e5
  have r0 := Draw.Later.cell p0
  have r1 := Draw.Later.cell p1
  have r2 := Draw.Later.cell p2
  have r3 := Draw.Later.cell p3
  have r4 := Draw.Later.cell p4
  have r5 := Draw.Later.cell p5
  have HI : Hid _ := hTx
  have HL1 : Hid _ := hLx
  have HL2 : Hid _ := hLt
  have H5 : Hid (Tak.partE.Lies w9 a2 xl) := L5
  have H3 : Hid (Tak.partE.Lies w9 a1 xl) := L3
  clear hTx hLx hLt L5 L3 HLm hA hBv f1 f2 f3 f4 f5 h2 h7 HTA HOK o3 o5 v3 v5 hxb i1 i2 i3 i4 i5 i6 i7 hbd hn
  go_wp2_with fail
  refine Draw.wp_region_later hmix (by kernel_rfl) ?_
  repeat (go_big_quiet_step (first | (go_at_call 17; exact Draw.later_of (HI.out _ (H5.out.later (Draw.Later.h _)))) | (go_at_call 19; first | (with_reducible exact Draw.later_of (HL1.out _ (H5.out.later (Draw.Later.h _)))) | (with_reducible exact Draw.later_of (HL2.out _ (H3.out.later (Draw.Later.h _)))))))
  refine wpQuiet_nil ?_
  intro wq hw'
  obtain ⟨q, hq⟩ := hw'
  have hBq := q.h
  rw [← hq] at hBq
  clear hq q
  go_wp2_with fail
  go_ret
  exact ⟨rfl, B9.trans (hBq.mono B9.size)⟩

/-! ### THE ROW's STEP: WRITTEN OUT: LEAVE IT -/
set_option maxRecDepth 100000 in
theorem lifted (os : Os) (started : os.Started) (H : Type) (enc : TypeId × Value → H) :
    ReturnsInHanded {} Try.checked os 5 .any (Rows.fnTakenAwaySpec.pre6 enc Try.prog Try.f5 Rows.fnTakenAwayRow.domain false) (Rows.fnTakenAwaySpec.post enc Try.prog Try.f5 false true false false) := by
  refine returnsInHanded_of_change (C := Try.checked) own started (by kernel_rfl) Try.func5
    (ChangeSpec.witness6 (enc := enc) (C := Try.checked) false ⟨#[], #[.slice none 0 0], []⟩ 8 (by kernel_rfl) (by kernel_rfl) (by kernel_rfl) (by kernel_rfl)) ?_
  intro W base args ds gs before hval0 hW hcnd _
  have hval : ∀ (j : Nat) t v, Try.f5.params[j]? = some t → args[j]? = some v → Value.okWide Try.prog W .any base t v := hval0
  have hW' := hW
  obtain ⟨p, q, hA0, hV, rfl, hfz, hnd⟩ := hW
  have hA : DataW.TrodAll enc Try.prog W 0 (fun _ => true) true Try.f5.params.toList args.toList ds p := hA0
  rw [Try.params5] at hA hval
  obtain ⟨v0, vs0, d0, ds0, p0, q0, hargs, rfl, rfl, h0, r0⟩ := trodAll_cons hA
  obtain ⟨rfl, rfl, rfl⟩ := trodAll_nil r0
  obtain rfl : args = #[v0] := by cases args; simp_all
  obtain ⟨rfl, rfl⟩ := trodVars_none hV
  obtain ⟨a0, len0, cap0, rfl⟩ := okWide_slice Try.underlying22 (hval 0 22 v0 rfl rfl)
  have k0 := h0
  have lt0 : ∀ x ∈ p0, x.block < W.heap.size := by obtain ⟨m, hm⟩ := k0; exact DataW.trod_lt m _ _ _ hm
  obtain ⟨z0, w0⟩ : ∃ zs, IsRow .u8 W a0 len0 cap0 zs := by
    obtain ⟨fuel, hf⟩ := h0
    rcases open_ints Try.underlying22 Try.underlying5 (by kernel_rfl) hf with ⟨hcs, _⟩ | ⟨x, l, c, zs, hcs, _, hl, hm, hz, _, hcell, hwz⟩
    · simp [Value.cells] at hcs
      obtain ⟨rfl, rfl, rfl⟩ := hcs
      exact ⟨[], .inl ⟨rfl, rfl, rfl, rfl⟩⟩
    · simp [Value.cells] at hcs
      obtain ⟨rfl, rfl, rfl⟩ := hcs
      exact ⟨zs, .inr ⟨_, rfl, hl, hm, by simpa using hz, hcell, hwz⟩⟩
  clear hA0 hval0
  refine (walk a0 len0 cap0 z0 W w0).mono fun e W' ⟨he, bel⟩ => ?_
  subst he
  exact ⟨_, rfl, _, _, _, [], _, [], hW', trodAll_mk1 (shut_bool Try.underlying4 _), (trodAll_cons_mk (Below.trod laidOut (by kernel_rfl) (of_decide_eq_true (by kernel_rfl)) k0 bel lt0) trodAll_mk0), rfl, bel.frame _, fun h => by cases h⟩

theorem over : Rows.fnTakenAwayRow.holds Try.pinned (OpenSpec.ofChange Rows.fnTakenAwaySpec) :=
  OpenClaim.holds_of_wide 5 Try.f5 rfl rfl rfl rfl rfl rfl rfl ⟨rfl, rfl, rfl, rfl, rfl⟩ rfl rfl rfl rfl rfl (by kernel_rfl) Try.func5 (by kernel_rfl)
    (of_decide_eq_true (by kernel_rfl)) (by unfold Func.isWrapper; first | (rw [if_pos (by decide +kernel)]; kernel_rfl) | (rw [if_neg (by decide +kernel)]; exact ⟨rfl, rfl⟩))
    (fun os started H enc _ => lifted os started H enc)

/-- THE STATEMENT. -/
theorem proved : Rows.FnTakenAwaySaid := over
end Go.Proofs.Ytlaklleioanbgaa.fnTakenAway
namespace Go.Proofs.Ytlaklleioanbgaa
theorem fnTakenAway_holds : Rows.FnTakenAwaySaid := fnTakenAway.proved
#print axioms fnTakenAway_holds
end Go.Proofs.Ytlaklleioanbgaa

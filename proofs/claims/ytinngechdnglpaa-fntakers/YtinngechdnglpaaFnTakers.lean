/- For every code of bytes FnTakers returns true: the program's Takes, NewTaker, TakerOk and LimitOf answer as the specification's on every drawn taker, what comes is there where there is room, nothing that was there changes, and what comes again changes nothing; no condition. (Its frame is the guide's shell; the walk is mine.) -/
import Derived.Test.YtinngechdnglpaaRows
import Derived.Test.YtinngechdnglpaaTakU
import Derived.Test.YtinngechdnglpaaLawU
import Derived.Test.YtinngechdnglpaaDrawW
import Derived.Test.YtinngechdnglpaaDrawX
import Derived.Test.YtinngechdnglpaaDrawY
import Derived.Test.YtinngechdnglpaaTko
import Derived.Test.YtinngechdnglpaaTkp
import Derived.Test.YtinngechdnglpaaTkq
import Derived.Test.YtinngechdnglpaaSrn
import Derived.WalkKit
import Derived.ProofKit
import Derived.OpenShut
import Derived.ShutString
import Derived.ChangeOld
import Derived.Below
namespace Go.Proofs.Ytinngechdnglpaa.fnTakers
open Go.ChangeShapes Go.WideShapes Go.ChangeAt Go.RowKit
open Go.ChangeMaps (open_string shut_string)
set_option linter.unusedVariables false

theorem own : ownKnob Try.prog.godebug = none := by kernel_rfl
theorem laidOut : laidOutB Try.prog = true := by kernel_rfl

/-- WHAT THE WALK IS TOLD OF A SLICE OF INTEGERS THAT CAME IN: it is nil; or it leads to a row of 'cap' cells, the numbers 'zs' (the first 'len' are its elements, the rest its spare room), each fitting its kind. -/
def IsRow (k : IntKind) (w : World) (a : Option Addr) (len cap : Nat) (zs : List Int) : Prop :=
  (a = none ∧ len = 0 ∧ cap = 0 ∧ zs = []) ∨
  ∃ x, a = some x ∧ len ≤ cap ∧ cap ≤ maxLen ∧ zs.length = cap ∧ (∀ i, i < zs.length → w.cell? (x.add i) = some (.int k (zs.getD i 0))) ∧ ∀ n ∈ zs, (Lit.int k n).wf = true

/-! ### STEP 1: THE WALK: the Go text returns true, AND WRITES NOTHING THAT WAS THERE: 'Below w.heap.size w w'' (Derived/Below.lean: '.refl', '.alloc', '.drew', '.setCell' at a new block, '.trans'). Open each 'IsRow' by 'rcases' AHEAD of 'go_enter'; part every test ahead of the walk. -/
set_option linter.unusedSimpArgs false in
set_option maxRecDepth 20000 in
set_option maxHeartbeats 4000000 in
theorem walk (a0 : Option Addr) (len0 cap0 : Nat) (z0 : List Int) (w : World) (w0 : IsRow .u8 w a0 len0 cap0 z0) :
    Calls Try.prog 3 #[.slice a0 len0 cap0] w fun e w' => e = .returned (.bool true) ∧ Below w.heap.size w w' := by
  obtain ⟨hb, hm⟩ := Draw.bytes_of_row w0
  clear w0
  by_cases hl : len0 ≤ 4096
  case neg =>
    have hd : decide (4096 < (len0 : Int)) = true := by simp; omega
    go_enter Try.func3, Try.ntmps3
    go_wp2_with fail
    refine (Draw.big _ _ _ _ hm).mono ?_
    rintro e w1 ⟨rfl, rfl⟩
    go_wp2_with fail
    go_ret
    exact ⟨rfl, Below.refl _ _⟩
  have hd : decide (4096 < (len0 : Int)) = false := by simp; omega
  go_enter Try.func3, Try.ntmps3
  go_wp2_with fail
  refine (Draw.big _ _ _ _ hm).mono ?_
  rintro e w1 ⟨rfl, rfl⟩
  clear hd
  go_wp2_with fail
  refine (Tak.drawTakes _ _ _ _ hb hl).mono ?_
  rintro x w1 ⟨⟨nx, bs, l, cp, fi, en⟩, hg, a1, c1, p, bz, e, ⟨pm, p1⟩, hz41, rfl, o3, b1⟩
  obtain ⟨hbd, hll, hbb, hn0, hn1⟩ := hg
  dsimp only at hbd hll hbb hn0 hn1 o3
  have hl2 : l.length ≤ 2097152 := by omega
  have hl3 : l.length ≤ 524288 := by omega
  have hb2 : bs.size ≤ 2097152 := by omega
  have hz2 : bz.size ≤ 1048576 := by omega
  have hI := fun w' (hL : Tak.partE.Lies w' a1 l) => Tak.implTakes Tak.sortNil nx bs a1 l.length c1 cp fi en l p bz e w' rfl hL hl2 hb2 hbd o3.none_cap hz2
  have hS := fun w' (hL : Tak.partE.Lies w' a1 l) => (show Calls Try.prog 11 #[.agg #[.int .i64 nx, .string bs, .slice a1 l.length c1, .int .i64 cp, .int .i64 fi, .bool en], .int .i64 p, .string bz, .bool e] w' fun x w'' => ∃ a' c', x = .returned (.tuple #[(Tak.takes ⟨nx, bs, l, cp, fi, en⟩ p bz e).1.v a' c', .bool (Tak.takes ⟨nx, bs, l, cp, fi, en⟩ p bz e).2]) ∧ Tak.partE.Own 53 w'' w'.heap.size a' c' (Tak.takes ⟨nx, bs, l, cp, fi, en⟩ p bz e).1.l ∧ Below w'.heap.size w' w'' by
    cases hpl : Num.plB p
    · exact Tak.specTakesFar nx bs a1 l.length c1 cp fi en l p bz e w' rfl hL hl3 hb2 hbd o3.none_cap hpl hz2
    · have hp := Num.pl_t hpl
      exact Tak.specTakes nx bs a1 l.length c1 cp fi en l p bz e w' rfl hL hl3 hb2 hbd o3.none_cap ⟨by omega, by omega⟩ hz2)
  have hT := fun w' (hL : Tak.partE.Lies w' a1 l) => Tak.specTakerOk nx bs a1 l.length c1 cp fi en l w' rfl hL hl2 hb2 hbd.up
  have hU := fun w' (hL : Tak.partE.Lies w' a1 l) => Tak.implTakerOk nx bs a1 l.length c1 cp fi en l w' rfl hL hl2 hb2 hbd
  have HLm : Hid _ := fun w' (hL : Tak.partE.Lies w' a1 l) => Tak.implLimitOf nx bs a1 l.length c1 cp fi en l w' rfl hL hl2 hb2 hbd
  obtain ⟨ok, hok⟩ : ∃ ok, Tak.takerB nx bs l cp fi en = ok := ⟨_, rfl⟩
  rw [hok] at hT hU
  have hxl := Tak.takes_len ⟨nx, bs, l, cp, fi, en⟩ p bz e
  obtain ⟨ta, hta⟩ : ∃ ta, Tak.takes ⟨nx, bs, l, cp, fi, en⟩ p bz e = ta := ⟨_, rfl⟩
  rw [hta] at hI hS hxl
  obtain ⟨⟨xn, xb, xl, xc, xf, xe⟩, is⟩ := ta
  have HTA : Hid _ := hta
  have HOK : Hid _ := hok
  dsimp only at hxl
  dsimp only [Tak.Tk.v] at hI hS ⊢
  have HB : Hid (Draw.Bytes w a0 len0) := hb
  have HBD : Hid (Tak.Bd l) := hbd
  clear hta hok hll hbb hb hm hbd pm p1
  have v3 : RowG.Var 26 (w1.alloc (.cells #[.int .i64 nx, .string bs, .slice a1 l.length c1, .int .i64 cp, .int .i64 fi, .bool en] 26)) w1.heap.size [.int .i64 nx, .string bs, .slice a1 l.length c1, .int .i64 cp, .int .i64 fi, .bool en] := RowG.Var.new _ _
  replace o3 := o3.alloc (.cells #[.int .i64 nx, .string bs, .slice a1 l.length c1, .int .i64 cp, .int .i64 fi, .bool en] 26)
  have B3 : Below _ _ (w1.alloc (.cells #[.int .i64 nx, .string bs, .slice a1 l.length c1, .int .i64 cp, .int .i64 fi, .bool en] 26)) := b1.alloc b1.size _
  clear b1
  go_upto_region 4 with (fail)
  generalize w1.alloc (.cells #[.int .i64 nx, .string bs, .slice a1 l.length c1, .int .i64 cp, .int .i64 fi, .bool en] 26) = W at *
  generalize w1.heap.size = k3 at *
  have e0 := v3.cell (i := 0) rfl
  have e1 := v3.cell (i := 1) rfl
  have e2 := v3.cell (i := 2) rfl
  have e3 := v3.cell (i := 3) rfl
  have e4 := v3.cell (i := 4) rfl
  have e5 := v3.cell (i := 5) rfl
  go_wp2_with fail
  refine (hI _ o3.lies).mono ?_
  rintro x w2 ⟨a2, c2, rfl, o5, b2⟩
  replace v3 := v3.later b2
  replace o3 := o3.later b2
  have B2 := B3.trans (b2.mono B3.size)
  clear b2 B3 hI
  clear e0 e1 e2 e3 e4 e5
  have v5 : RowG.Var 26 (w2.alloc (.cells #[.int .i64 xn, .string xb, .slice a2 xl.length c2, .int .i64 xc, .int .i64 xf, .bool xe] 26)) w2.heap.size [.int .i64 xn, .string xb, .slice a2 xl.length c2, .int .i64 xc, .int .i64 xf, .bool xe] := RowG.Var.new _ _
  replace v3 := v3.alloc (.cells #[.int .i64 xn, .string xb, .slice a2 xl.length c2, .int .i64 xc, .int .i64 xf, .bool xe] 26)
  replace o3 := o3.alloc (.cells #[.int .i64 xn, .string xb, .slice a2 xl.length c2, .int .i64 xc, .int .i64 xf, .bool xe] 26)
  replace o5 := o5.alloc (.cells #[.int .i64 xn, .string xb, .slice a2 xl.length c2, .int .i64 xc, .int .i64 xf, .bool xe] 26)
  have B5 : Below _ _ (w2.alloc (.cells #[.int .i64 xn, .string xb, .slice a2 xl.length c2, .int .i64 xc, .int .i64 xf, .bool xe] 26)) := B2.alloc B2.size _
  clear B2
  go_upto_region 5 with (fail)
  generalize w2.alloc (.cells #[.int .i64 xn, .string xb, .slice a2 xl.length c2, .int .i64 xc, .int .i64 xf, .bool xe] 26) = W at *
  generalize w2.heap.size = k5 at *
  have hb5 := Draw.Bytes.below HB.out B5 (Nat.le_refl _)
  go_wp2_with fail
  refine (Tak.drawNewTaker _ _ _ _ hb5 hl).mono ?_
  rintro x w3 ⟨lim, rfl, b3⟩
  replace v3 := v3.later b3
  replace o3 := o3.later b3
  replace v5 := v5.later b3
  replace o5 := o5.later b3
  have B6 := B5.trans (b3.mono B5.size)
  clear b3 B5 hb5
  have hN := fun w' => Tak.implNewTaker lim w'
  have hM := fun w' => Tak.specNewTaker lim w'
  obtain ⟨cN, fN, hNe⟩ : ∃ cN fN, (if Tak.capB lim then Tak.newT lim else Tak.zeroT) = .agg #[.int .i64 0, .string ⟨#[]⟩, .slice none 0 0, .int .i64 cN, .int .i64 fN, .bool false] := by
    cases Tak.capB lim
    · exact ⟨0, 0, rfl⟩
    · exact ⟨lim, -1, rfl⟩
  have HNO : Hid (Tak.capB lim = true → Tak.takerB 0 ⟨#[]⟩ [] cN fN false = true) := fun hc => by
    have h9 := Tak.new_ok (n := lim) (by simpa [Tak.capB] using hc)
    rw [if_pos hc] at hNe
    simp only [Tak.newT, Value.agg.injEq] at hNe
    simp at hNe
    obtain ⟨rfl, rfl⟩ := hNe
    exact h9
  rw [hNe] at hN hM
  clear hNe
  obtain ⟨made, hmade⟩ : ∃ made, Tak.capB lim = made := ⟨_, rfl⟩
  rw [hmade] at hN hM
  have HMD : Hid (Tak.capB lim = made) := hmade
  clear hmade
  go_wp2_with fail
  refine (hN _).mono ?_
  rintro x w4 ⟨rfl, b4⟩
  replace v3 := v3.later b4
  replace o3 := o3.later b4
  replace v5 := v5.later b4
  replace o5 := o5.later b4
  have B7 := B6.trans (b4.mono B6.size)
  clear b4 B6 hN
  have v10 : RowG.Var 26 (w4.alloc (.cells #[.int .i64 0, .string ⟨#[]⟩, .slice none 0 0, .int .i64 cN, .int .i64 fN, .bool false] 26)) w4.heap.size [.int .i64 0, .string ⟨#[]⟩, .slice none 0 0, .int .i64 cN, .int .i64 fN, .bool false] := RowG.Var.new _ _
  replace v3 := v3.alloc (.cells #[.int .i64 0, .string ⟨#[]⟩, .slice none 0 0, .int .i64 cN, .int .i64 fN, .bool false] 26)
  replace v5 := v5.alloc (.cells #[.int .i64 0, .string ⟨#[]⟩, .slice none 0 0, .int .i64 cN, .int .i64 fN, .bool false] 26)
  replace o3 := o3.alloc (.cells #[.int .i64 0, .string ⟨#[]⟩, .slice none 0 0, .int .i64 cN, .int .i64 fN, .bool false] 26)
  replace o5 := o5.alloc (.cells #[.int .i64 0, .string ⟨#[]⟩, .slice none 0 0, .int .i64 cN, .int .i64 fN, .bool false] 26)
  have B8 : Below _ _ (w4.alloc (.cells #[.int .i64 0, .string ⟨#[]⟩, .slice none 0 0, .int .i64 cN, .int .i64 fN, .bool false] 26)) := B7.alloc B7.size _
  clear B7
  go_upto_region 7 with (fail)
  generalize w4.alloc (.cells #[.int .i64 0, .string ⟨#[]⟩, .slice none 0 0, .int .i64 cN, .int .i64 fN, .bool false] 26) = W at *
  generalize w4.heap.size = k10 at *
  have hb5 := Draw.Bytes.below HB.out B8 (Nat.le_refl _)
  go_wp2_with fail
  refine (Tak.drawLimitOf _ _ _ _ hb5 hl).mono ?_
  rintro x w5 ⟨⟨qn, qb, ql, qc, qf, qe⟩, hg, a7, c7, rfl, o12, b5⟩
  obtain ⟨hqd, hql, hqb, hq0, hq1⟩ := hg
  dsimp only at hqd hql hqb o12
  clear hq0 hq1
  have hQ1 := fun w' (hL : Tak.partE.Lies w' a7 ql) => Tak.implLimitOf qn qb a7 ql.length c7 qc qf qe ql w' rfl hL (by omega) (by omega) hqd
  have hQ2 := fun w' (hL : Tak.partE.Lies w' a7 ql) => Tak.specLimitOf qn qb a7 ql.length c7 qc qf qe ql w' rfl hL (by omega) (by omega) hqd.up
  generalize Tak.limitOf qn qb ql qc qf qe = Lq at *
  have HQ1 : Hid _ := hQ1
  have HQ2 : Hid _ := hQ2
  clear hQ1 hQ2 hqd hql hqb
  dsimp only [Tak.Tk.v]
  replace v3 := v3.later b5
  replace o3 := o3.later b5
  replace v5 := v5.later b5
  replace o5 := o5.later b5
  replace v10 := v10.later b5
  have B9 := B8.trans (b5.mono B8.size)
  clear b5 B8 hb5
  have v12 : RowG.Var 26 (w5.alloc (.cells #[.int .i64 qn, .string qb, .slice a7 ql.length c7, .int .i64 qc, .int .i64 qf, .bool qe] 26)) w5.heap.size [.int .i64 qn, .string qb, .slice a7 ql.length c7, .int .i64 qc, .int .i64 qf, .bool qe] := RowG.Var.new _ _
  replace v3 := v3.alloc (.cells #[.int .i64 qn, .string qb, .slice a7 ql.length c7, .int .i64 qc, .int .i64 qf, .bool qe] 26)
  replace v5 := v5.alloc (.cells #[.int .i64 qn, .string qb, .slice a7 ql.length c7, .int .i64 qc, .int .i64 qf, .bool qe] 26)
  replace v10 := v10.alloc (.cells #[.int .i64 qn, .string qb, .slice a7 ql.length c7, .int .i64 qc, .int .i64 qf, .bool qe] 26)
  replace o3 := o3.alloc (.cells #[.int .i64 qn, .string qb, .slice a7 ql.length c7, .int .i64 qc, .int .i64 qf, .bool qe] 26)
  replace o5 := o5.alloc (.cells #[.int .i64 qn, .string qb, .slice a7 ql.length c7, .int .i64 qc, .int .i64 qf, .bool qe] 26)
  replace o12 := o12.alloc (.cells #[.int .i64 qn, .string qb, .slice a7 ql.length c7, .int .i64 qc, .int .i64 qf, .bool qe] 26)
  have B10 : Below _ _ (w5.alloc (.cells #[.int .i64 qn, .string qb, .slice a7 ql.length c7, .int .i64 qc, .int .i64 qf, .bool qe] 26)) := B9.alloc B9.size _
  clear B9
  go_upto_region 8 with (fail)
  generalize w5.alloc (.cells #[.int .i64 qn, .string qb, .slice a7 ql.length c7, .int .i64 qc, .int .i64 qf, .bool qe] 26) = W at *
  generalize w5.heap.size = k12 at *
  have e0 := v3.cell (i := 0) rfl
  have e1 := v3.cell (i := 1) rfl
  have e2 := v3.cell (i := 2) rfl
  have e3 := v3.cell (i := 3) rfl
  have e4 := v3.cell (i := 4) rfl
  have e5 := v3.cell (i := 5) rfl
  go_wp2_with fail
  refine (hS _ o3.lies).mono ?_
  rintro x w6 ⟨a3, c3, rfl, o13, b6⟩
  replace v3 := v3.later b6
  replace o3 := o3.later b6
  replace v5 := v5.later b6
  replace o5 := o5.later b6
  replace v10 := v10.later b6
  replace v12 := v12.later b6
  replace o12 := o12.later b6
  have B11 := B10.trans (b6.mono B10.size)
  clear b6 B10 hS
  clear e0 e1 e2 e3 e4 e5
  have v13 : RowG.Var 26 (w6.alloc (.cells #[.int .i64 xn, .string xb, .slice a3 xl.length c3, .int .i64 xc, .int .i64 xf, .bool xe] 26)) w6.heap.size [.int .i64 xn, .string xb, .slice a3 xl.length c3, .int .i64 xc, .int .i64 xf, .bool xe] := RowG.Var.new _ _
  replace v3 := v3.alloc (.cells #[.int .i64 xn, .string xb, .slice a3 xl.length c3, .int .i64 xc, .int .i64 xf, .bool xe] 26)
  replace v5 := v5.alloc (.cells #[.int .i64 xn, .string xb, .slice a3 xl.length c3, .int .i64 xc, .int .i64 xf, .bool xe] 26)
  replace v10 := v10.alloc (.cells #[.int .i64 xn, .string xb, .slice a3 xl.length c3, .int .i64 xc, .int .i64 xf, .bool xe] 26)
  replace v12 := v12.alloc (.cells #[.int .i64 xn, .string xb, .slice a3 xl.length c3, .int .i64 xc, .int .i64 xf, .bool xe] 26)
  replace o3 := o3.alloc (.cells #[.int .i64 xn, .string xb, .slice a3 xl.length c3, .int .i64 xc, .int .i64 xf, .bool xe] 26)
  replace o5 := o5.alloc (.cells #[.int .i64 xn, .string xb, .slice a3 xl.length c3, .int .i64 xc, .int .i64 xf, .bool xe] 26)
  replace o12 := o12.alloc (.cells #[.int .i64 xn, .string xb, .slice a3 xl.length c3, .int .i64 xc, .int .i64 xf, .bool xe] 26)
  replace o13 := o13.alloc (.cells #[.int .i64 xn, .string xb, .slice a3 xl.length c3, .int .i64 xc, .int .i64 xf, .bool xe] 26)
  have B12 : Below _ _ (w6.alloc (.cells #[.int .i64 xn, .string xb, .slice a3 xl.length c3, .int .i64 xc, .int .i64 xf, .bool xe] 26)) := B11.alloc B11.size _
  clear B11
  go_upto_region 9 with (fail)
  generalize w6.alloc (.cells #[.int .i64 xn, .string xb, .slice a3 xl.length c3, .int .i64 xc, .int .i64 xf, .bool xe] 26) = W at *
  generalize w6.heap.size = k13 at *
  have e0 := v3.cell (i := 0) rfl
  have e1 := v3.cell (i := 1) rfl
  have e2 := v3.cell (i := 2) rfl
  have e3 := v3.cell (i := 3) rfl
  have e4 := v3.cell (i := 4) rfl
  have e5 := v3.cell (i := 5) rfl
  have p0 := v5.cell (i := 0) rfl
  have p1 := v5.cell (i := 1) rfl
  have p2 := v5.cell (i := 2) rfl
  have p3 := v5.cell (i := 3) rfl
  have p4 := v5.cell (i := 4) rfl
  have p5 := v5.cell (i := 5) rfl
  have q0 := v12.cell (i := 0) rfl
  have q1 := v12.cell (i := 1) rfl
  have q2 := v12.cell (i := 2) rfl
  have q3 := v12.cell (i := 3) rfl
  have q4 := v12.cell (i := 4) rfl
  have q5 := v12.cell (i := 5) rfl
  have r0 := v13.cell (i := 0) rfl
  have r1 := v13.cell (i := 1) rfl
  have r2 := v13.cell (i := 2) rfl
  have r3 := v13.cell (i := 3) rfl
  have r4 := v13.cell (i := 4) rfl
  have r5 := v13.cell (i := 5) rfl
  have d0 := Draw.Later.cell e0
  have d1 := Draw.Later.cell e1
  have d2 := Draw.Later.cell e2
  have d3 := Draw.Later.cell e3
  have d4 := Draw.Later.cell e4
  have d5 := Draw.Later.cell e5
  have f0 := Draw.Later.cell p0
  have f1 := Draw.Later.cell p1
  have f2 := Draw.Later.cell p2
  have f3 := Draw.Later.cell p3
  have f4 := Draw.Later.cell p4
  have f5 := Draw.Later.cell p5
  have g0 := Draw.Later.cell q0
  have g1 := Draw.Later.cell q1
  have g2 := Draw.Later.cell q2
  have g3 := Draw.Later.cell q3
  have g4 := Draw.Later.cell q4
  have g5 := Draw.Later.cell q5
  have h0 := Draw.Later.cell r0
  have h1 := Draw.Later.cell r1
  have h2 := Draw.Later.cell r2
  have h3 := Draw.Later.cell r3
  have h4 := Draw.Later.cell r4
  have h5 := Draw.Later.cell r5
  clear e0 e1 e2 e3 e4 e5 p0 p1 p2 p3 p4 p5 q0 q1 q2 q3 q4 q5 r0 r1 r2 r3 r4 r5
  have hLK := fun w' (h1 : Tak.partE.Lies w' a2 xl) (h2 : Tak.partE.Lies w' a3 xl) => Tak.likeTaker xn xb a2 a3 _ _ c2 c3 xc xf xe xl w' rfl rfl h1 h2 hxl
  have HLK : Hid _ := hLK
  have HU : Hid _ := hU
  have HT : Hid _ := hT
  clear hLK hU hT
  have H3 : Hid (Tak.partE.Lies W a1 l) := o3.lies
  have H5 : Hid (Tak.partE.Lies W a2 xl) := o5.lies
  have H12 : Hid (Tak.partE.Lies W a7 ql) := o12.lies
  have H13 : Hid (Tak.partE.Lies W a3 xl) := o13.lies
  have hmix := Tak.mix
  go_wp2_with fail
  refine Draw.wp_region_later hmix (by kernel_rfl) ?_
  repeat (go_big_quiet_step (first | (go_at_call 12; exact Draw.later_of (HLK.out _ (H5.out.later (Draw.Later.h _)) (H13.out.later (Draw.Later.h _)))) | (go_at_call 13; exact Draw.later_of (HU.out _ (H3.out.later (Draw.Later.h _)))) | (go_at_call 14; exact Draw.later_of (HT.out _ (H3.out.later (Draw.Later.h _)))) | (go_at_call 15; exact Draw.later_of (HQ1.out _ (H12.out.later (Draw.Later.h _)))) | (go_at_call 16; exact Draw.later_of (HQ2.out _ (H12.out.later (Draw.Later.h _))))))
  refine wpQuiet_nil ?_
  intro wq hw'
  obtain ⟨q9, hq⟩ := hw'
  have hBq := q9.h
  rw [← hq] at hBq
  clear hq q9 H12 H13 HQ1 HQ2 HLK HU H3 H5 v12 o12 v13 o13
  clear d0 d1 d2 d3 d4 d5 f0 f1 f2 f3 f4 f5 g0 g1 g2 g3 g4 g5 h0 h1 h2 h3 h4 h5
  replace v3 := v3.later hBq
  replace o3 := o3.later hBq
  replace v5 := v5.later hBq
  replace o5 := o5.later hBq
  replace v10 := v10.later hBq
  have B13 := B12.trans (hBq.mono B12.size)
  clear hBq B12
  go_wp2_with fail
  refine (hM _).mono ?_
  rintro x w7 ⟨rfl, b7⟩
  replace v3 := v3.later b7
  replace o3 := o3.later b7
  replace v5 := v5.later b7
  replace o5 := o5.later b7
  replace v10 := v10.later b7
  have B14 := B13.trans (b7.mono B13.size)
  clear b7 B13 hM
  have v15 : RowG.Var 26 (w7.alloc (.cells #[.int .i64 0, .string ⟨#[]⟩, .slice none 0 0, .int .i64 cN, .int .i64 fN, .bool false] 26)) w7.heap.size [.int .i64 0, .string ⟨#[]⟩, .slice none 0 0, .int .i64 cN, .int .i64 fN, .bool false] := RowG.Var.new _ _
  replace v3 := v3.alloc (.cells #[.int .i64 0, .string ⟨#[]⟩, .slice none 0 0, .int .i64 cN, .int .i64 fN, .bool false] 26)
  replace v5 := v5.alloc (.cells #[.int .i64 0, .string ⟨#[]⟩, .slice none 0 0, .int .i64 cN, .int .i64 fN, .bool false] 26)
  replace v10 := v10.alloc (.cells #[.int .i64 0, .string ⟨#[]⟩, .slice none 0 0, .int .i64 cN, .int .i64 fN, .bool false] 26)
  replace o3 := o3.alloc (.cells #[.int .i64 0, .string ⟨#[]⟩, .slice none 0 0, .int .i64 cN, .int .i64 fN, .bool false] 26)
  replace o5 := o5.alloc (.cells #[.int .i64 0, .string ⟨#[]⟩, .slice none 0 0, .int .i64 cN, .int .i64 fN, .bool false] 26)
  have B15 : Below _ _ (w7.alloc (.cells #[.int .i64 0, .string ⟨#[]⟩, .slice none 0 0, .int .i64 cN, .int .i64 fN, .bool false] 26)) := B14.alloc B14.size _
  clear B14
  go_upto_region 12 with (fail)
  generalize w7.alloc (.cells #[.int .i64 0, .string ⟨#[]⟩, .slice none 0 0, .int .i64 cN, .int .i64 fN, .bool false] 26) = W at *
  generalize w7.heap.size = k15 at *
  have e0 := v10.cell (i := 0) rfl
  have e1 := v10.cell (i := 1) rfl
  have e2 := v10.cell (i := 2) rfl
  have e3 := v10.cell (i := 3) rfl
  have e4 := v10.cell (i := 4) rfl
  have e5 := v10.cell (i := 5) rfl
  have p0 := v15.cell (i := 0) rfl
  have p1 := v15.cell (i := 1) rfl
  have p2 := v15.cell (i := 2) rfl
  have p3 := v15.cell (i := 3) rfl
  have p4 := v15.cell (i := 4) rfl
  have p5 := v15.cell (i := 5) rfl
  go_wp2_with fail
  refine (Tak.likeTaker _ _ none none _ _ 0 0 _ _ _ [] _ rfl rfl (.inl rfl) (.inl rfl) (by simp)).mono ?_
  rintro x w8 ⟨rfl, b8⟩
  replace v3 := v3.later b8
  replace o3 := o3.later b8
  replace v5 := v5.later b8
  replace o5 := o5.later b8
  replace v10 := v10.later b8
  have B16 := B15.trans (b8.mono B15.size)
  clear b8 B15 v15
  clear e0 e1 e2 e3 e4 e5 p0 p1 p2 p3 p4 p5
  cases made
  focus
    clear HNO HMD v10
    have e0 := v3.cell (i := 0) rfl
    have e1 := v3.cell (i := 1) rfl
    have e2 := v3.cell (i := 2) rfl
    have e3 := v3.cell (i := 3) rfl
    have e4 := v3.cell (i := 4) rfl
    have e5 := v3.cell (i := 5) rfl
    go_wp2_with fail
  rotate_left
  focus
    have hno := HNO.out HMD.out
    have hNT := fun w' => Tak.implTakerOk 0 ⟨#[]⟩ none 0 0 cN fN false [] w' rfl (.inl rfl) (by simp) (by decide) (fun q hq => by cases hq)
    rw [hno] at hNT
    have e0 := v10.cell (i := 0) rfl
    have e1 := v10.cell (i := 1) rfl
    have e2 := v10.cell (i := 2) rfl
    have e3 := v10.cell (i := 3) rfl
    have e4 := v10.cell (i := 4) rfl
    have e5 := v10.cell (i := 5) rfl
    go_wp2_with fail
    refine (hNT _).mono ?_
    rintro x w9 ⟨rfl, b9⟩
    replace v3 := v3.later b9
    replace o3 := o3.later b9
    replace v5 := v5.later b9
    replace o5 := o5.later b9
    replace B16 := B16.trans (b9.mono B16.size)
    clear b9 HNO HMD hno hNT v10
    clear e0 e1 e2 e3 e4 e5
    have e0 := v3.cell (i := 0) rfl
    have e1 := v3.cell (i := 1) rfl
    have e2 := v3.cell (i := 2) rfl
    have e3 := v3.cell (i := 3) rfl
    have e4 := v3.cell (i := 4) rfl
    have e5 := v3.cell (i := 5) rfl
    go_wp2_with fail
  all_goals
    refine (HT.out _ o3.lies).mono ?_
    rintro x w10 ⟨rfl, b10⟩
    replace v3 := v3.later b10
    replace o3 := o3.later b10
    replace v5 := v5.later b10
    replace o5 := o5.later b10
    have B17 := B16.trans (b10.mono B16.size)
    clear b10 B16
    clear e0 e1 e2 e3 e4 e5
    have e0 := v3.cell (i := 0) rfl
    have e1 := v3.cell (i := 1) rfl
    have e2 := v3.cell (i := 2) rfl
    have e3 := v3.cell (i := 3) rfl
    have e4 := v3.cell (i := 4) rfl
    have e5 := v3.cell (i := 5) rfl
    have p0 := v5.cell (i := 0) rfl
    have p1 := v5.cell (i := 1) rfl
    have p2 := v5.cell (i := 2) rfl
    have p3 := v5.cell (i := 3) rfl
    have p4 := v5.cell (i := 4) rfl
    have p5 := v5.cell (i := 5) rfl
    cases ok
    case false =>
      have hz := Tak.takes_no (t := ⟨nx, bs, l, cp, fi, en⟩) HOK.out p bz e
      rw [HTA.out] at hz
      cases hz
      go_wp2_with fail
      refine (Tak.likeTaker _ _ a2 none _ _ c2 0 _ _ _ [] _ rfl rfl (.inl rfl) (.inl rfl) (by simp)).mono ?_
      rintro x wa ⟨rfl, ba⟩
      go_wp2_with fail
      go_ret
      exact ⟨rfl, B17.trans (ba.mono B17.size)⟩
    cases is
    case false =>
      have hz := Tak.takes_same (t := ⟨nx, bs, l, cp, fi, en⟩) HOK.out HTA.out
      cases hz
      have L3 := o3.lies
      have L5 := o5.lies
      go_wp2_with fail
      refine (Tak.likeTaker _ _ a2 a1 _ _ c2 c1 _ _ _ l _ rfl rfl L5 L3 hl2).mono ?_
      rintro x wa ⟨rfl, ba⟩
      go_wp2_with fail
      go_ret
      exact ⟨rfl, B17.trans (ba.mono B17.size)⟩
    obtain ⟨m1, m2, m3, m4, m5, m6, m7⟩ := Tak.takes_more (t := ⟨nx, bs, l, cp, fi, en⟩) HOK.out HTA.out
    dsimp only at m2 m3 m4 m5 m6
    obtain ⟨s1, s2⟩ := Tak.ok_small (t := ⟨xn, xb, xl, xc, xf, xe⟩) m1
    replace s1 : Tak.Bd xl := s1
    replace s2 : xb.size + Tak.tot xl ≤ 1000000 := s2
    have hxs : xb.size ≤ 2097152 := by omega
    have hTx := fun w' (hL : Tak.partE.Lies w' a2 xl) => Tak.implTakerOk xn xb a2 xl.length c2 xc xf xe xl w' rfl hL hxl hxs s1
    have hLx := fun w' (hL : Tak.partE.Lies w' a2 xl) => Tak.implLimitOf xn xb a2 xl.length c2 xc xf xe xl w' rfl hL hxl hxs s1
    have hLt := HLm.out
    have hIx := fun w' (hL : Tak.partE.Lies w' a2 xl) => Tak.implTakes Tak.sortNil xn xb a2 xl.length c2 xc xf xe xl p bz e w' rfl hL hxl hxs s1 o5.none_cap hz2
    rw [show Tak.takerB xn xb xl xc xf xe = true from m1] at hTx
    rw [m5] at hLx
    rw [m6] at hLt
    rw [m7] at hIx
    dsimp only [Tak.Tk.v] at hIx
    generalize Tak.limT nx bs cp = Lm at *
    have hn9 : xn ≤ 1000000000 := ((Tak.ok_iff (t := ⟨xn, xb, xl, xc, xf, xe⟩)).1 m1).1.2.1.2
    have t1 : decide (xn < nx) = false := decide_eq_false (by omega)
    have t2 : decide ((xb.size : Int) < (bs.size : Int)) = false := decide_eq_false (by omega)
    have t2' : (bs.size : Int) ≤ (xb.size : Int) := by omega
    have t2n : decide (xb.size < bs.size) = false := decide_eq_false (by omega)
    have t2m : bs.size ≤ xb.size := by omega
    have t3 : xn - nx = (xb.size : Int) - (bs.size : Int) := by omega
    have t4 : (xb.extract 0 bs.size).toList = bs.toList := by rw [m3]
    have d0 := Draw.Later.cell e0
    have d1 := Draw.Later.cell e1
    have d2 := Draw.Later.cell e2
    have d3 := Draw.Later.cell e3
    have d4 := Draw.Later.cell e4
    have d5 := Draw.Later.cell e5
    have f0 := Draw.Later.cell p0
    have f1 := Draw.Later.cell p1
    have f2 := Draw.Later.cell p2
    have f3 := Draw.Later.cell p3
    have f4 := Draw.Later.cell p4
    have f5 := Draw.Later.cell p5
    have H3 : Hid (Tak.partE.Lies w10 a1 l) := o3.lies
    have H5 : Hid (Tak.partE.Lies w10 a2 xl) := o5.lies
    have HI : Hid _ := hTx
    have HL1 : Hid _ := hLx
    have HL2 : Hid _ := hLt
    have HIX : Hid _ := hIx
    clear hTx hLx hLt hIx m1 m2 m4 m5 m6 m7 s1 s2 HLm HTA HOK v3 o3
    clear e0 e1 e2 e3 e4 e5 p0 p1 p2 p3 p4 p5
    go_wp2_with fail
    refine Draw.wp_region_later hmix (by kernel_rfl) ?_
    repeat (go_big_quiet_step (first | (go_at_call 13; exact Draw.later_of (HI.out _ (H5.out.later (Draw.Later.h _)))) | (go_at_call 15; first | (with_reducible exact Draw.later_of (HL1.out _ (H5.out.later (Draw.Later.h _)))) | (with_reducible exact Draw.later_of (HL2.out _ (H3.out.later (Draw.Later.h _)))))))
    refine wpQuiet_nil ?_
    intro wq hw'
    obtain ⟨q9, hq⟩ := hw'
    have hBq := q9.h
    rw [← hq] at hBq
    clear hq q9 HI HL1 HL2 H3
    clear d0 d1 d2 d3 d4 d5 f0 f1 f2 f3 f4 f5
    replace v5 := v5.later hBq
    replace o5 := o5.later hBq
    have B18 := B17.trans (hBq.mono B17.size)
    clear hBq B17 H5
    have p0 := v5.cell (i := 0) rfl
    have p1 := v5.cell (i := 1) rfl
    have p2 := v5.cell (i := 2) rfl
    have p3 := v5.cell (i := 3) rfl
    have p4 := v5.cell (i := 4) rfl
    have p5 := v5.cell (i := 5) rfl
    go_wp2_with fail
    refine (HIX.out _ o5.lies).mono ?_
    rintro x w11 ⟨a9, c9, rfl, o17, b11⟩
    replace v5 := v5.later b11
    replace o5 := o5.later b11
    have B19 := B18.trans (b11.mono B18.size)
    clear b11 B18 HIX
    clear p0 p1 p2 p3 p4 p5
    have v17 : RowG.Var 26 (w11.alloc (.cells #[.int .i64 xn, .string xb, .slice a9 xl.length c9, .int .i64 xc, .int .i64 xf, .bool xe] 26)) w11.heap.size [.int .i64 xn, .string xb, .slice a9 xl.length c9, .int .i64 xc, .int .i64 xf, .bool xe] := RowG.Var.new _ _
    replace v5 := v5.alloc (.cells #[.int .i64 xn, .string xb, .slice a9 xl.length c9, .int .i64 xc, .int .i64 xf, .bool xe] 26)
    replace o5 := o5.alloc (.cells #[.int .i64 xn, .string xb, .slice a9 xl.length c9, .int .i64 xc, .int .i64 xf, .bool xe] 26)
    replace o17 := o17.alloc (.cells #[.int .i64 xn, .string xb, .slice a9 xl.length c9, .int .i64 xc, .int .i64 xf, .bool xe] 26)
    have B20 : Below _ _ (w11.alloc (.cells #[.int .i64 xn, .string xb, .slice a9 xl.length c9, .int .i64 xc, .int .i64 xf, .bool xe] 26)) := B19.alloc B19.size _
    clear B19
    go_upto_region 21 with (fail)
    generalize w11.alloc (.cells #[.int .i64 xn, .string xb, .slice a9 xl.length c9, .int .i64 xc, .int .i64 xf, .bool xe] 26) = W at *
    generalize w11.heap.size = k17 at *
    have e0 := v17.cell (i := 0) rfl
    have e1 := v17.cell (i := 1) rfl
    have e2 := v17.cell (i := 2) rfl
    have e3 := v17.cell (i := 3) rfl
    have e4 := v17.cell (i := 4) rfl
    have e5 := v17.cell (i := 5) rfl
    have p0 := v5.cell (i := 0) rfl
    have p1 := v5.cell (i := 1) rfl
    have p2 := v5.cell (i := 2) rfl
    have p3 := v5.cell (i := 3) rfl
    have p4 := v5.cell (i := 4) rfl
    have p5 := v5.cell (i := 5) rfl
    go_wp2_with fail
    refine (Tak.likeTaker xn xb a9 a2 _ _ c9 c2 xc xf xe xl _ rfl rfl o17.lies o5.lies hxl).mono ?_
    rintro x wa ⟨rfl, ba⟩
    go_wp2_with fail
    go_ret
    exact ⟨rfl, B20.trans (ba.mono B20.size)⟩

/-! ### THE ROW's STEP: WRITTEN OUT: LEAVE IT -/
set_option maxRecDepth 100000 in
theorem lifted (os : Os) (started : os.Started) (H : Type) (enc : TypeId × Value → H) :
    ReturnsInHanded {} Try.checked os 3 .any (Rows.fnTakersSpec.pre6 enc Try.prog Try.f3 Rows.fnTakersRow.domain false) (Rows.fnTakersSpec.post enc Try.prog Try.f3 false true false false) := by
  refine returnsInHanded_of_change (C := Try.checked) own started (by kernel_rfl) Try.func3
    (ChangeSpec.witness6 (enc := enc) (C := Try.checked) false ⟨#[], #[.slice none 0 0], []⟩ 8 (by kernel_rfl) (by kernel_rfl) (by kernel_rfl) (by kernel_rfl)) ?_
  intro W base args ds gs before hval0 hW hcnd _
  have hval : ∀ (j : Nat) t v, Try.f3.params[j]? = some t → args[j]? = some v → Value.okWide Try.prog W .any base t v := hval0
  have hW' := hW
  obtain ⟨p, q, hA0, hV, rfl, hfz, hnd⟩ := hW
  have hA : DataW.TrodAll enc Try.prog W 0 (fun _ => true) true Try.f3.params.toList args.toList ds p := hA0
  rw [Try.params3] at hA hval
  obtain ⟨v0, vs0, d0, ds0, p0, q0, hargs, rfl, rfl, h0, r0⟩ := trodAll_cons hA
  obtain ⟨rfl, rfl, rfl⟩ := trodAll_nil r0
  obtain rfl : args = #[v0] := by cases args; simp_all
  obtain ⟨rfl, rfl⟩ := trodVars_none hV
  obtain ⟨a0, len0, cap0, rfl⟩ := okWide_slice Try.underlying22 (hval 0 22 v0 rfl rfl)
  have k0 := h0
  have lt0 : ∀ x ∈ p0, x.block < W.heap.size := by obtain ⟨m, hm⟩ := k0; exact DataW.trod_lt m _ _ _ hm
  obtain ⟨z0, w0⟩ : ∃ zs, IsRow .u8 W a0 len0 cap0 zs := by
    obtain ⟨fuel, hf⟩ := h0
    rcases open_ints Try.underlying22 Try.underlying5 (by kernel_rfl) hf with ⟨hcs, _⟩ | ⟨x, l, c, zs, hcs, _, hl, hm, hz, _, hcell, hwz⟩
    · simp [Value.cells] at hcs
      obtain ⟨rfl, rfl, rfl⟩ := hcs
      exact ⟨[], .inl ⟨rfl, rfl, rfl, rfl⟩⟩
    · simp [Value.cells] at hcs
      obtain ⟨rfl, rfl, rfl⟩ := hcs
      exact ⟨zs, .inr ⟨_, rfl, hl, hm, by simpa using hz, hcell, hwz⟩⟩
  clear hA0 hval0
  refine (walk a0 len0 cap0 z0 W w0).mono fun e W' ⟨he, bel⟩ => ?_
  subst he
  exact ⟨_, rfl, _, _, _, [], _, [], hW', trodAll_mk1 (shut_bool Try.underlying4 _), (trodAll_cons_mk (Below.trod laidOut (by kernel_rfl) (of_decide_eq_true (by kernel_rfl)) k0 bel lt0) trodAll_mk0), rfl, bel.frame _, fun h => by cases h⟩

theorem over : Rows.fnTakersRow.holds Try.pinned (OpenSpec.ofChange Rows.fnTakersSpec) :=
  OpenClaim.holds_of_wide 3 Try.f3 rfl rfl rfl rfl rfl rfl rfl ⟨rfl, rfl, rfl, rfl, rfl⟩ rfl rfl rfl rfl rfl (by kernel_rfl) Try.func3 (by kernel_rfl)
    (of_decide_eq_true (by kernel_rfl)) (by unfold Func.isWrapper; first | (rw [if_pos (by decide +kernel)]; kernel_rfl) | (rw [if_neg (by decide +kernel)]; exact ⟨rfl, rfl⟩))
    (fun os started H enc _ => lifted os started H enc)

/-- THE STATEMENT. -/
theorem proved : Rows.FnTakersSaid := over
end Go.Proofs.Ytinngechdnglpaa.fnTakers
namespace Go.Proofs.Ytinngechdnglpaa
theorem fnTakers_holds : Rows.FnTakersSaid := fnTakers.proved
#print axioms fnTakers_holds
end Go.Proofs.Ytinngechdnglpaa

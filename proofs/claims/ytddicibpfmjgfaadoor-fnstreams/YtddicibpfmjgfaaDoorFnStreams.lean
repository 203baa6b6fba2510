/- For every code of bytes FnStreams returns true: the program's WasRead, Grew, Ended, TellEnd and StreamOk answer as the specification's, what was read is what was written there, a right stream stays right, the end is told behind all of it alone, and what is refused changes nothing; the package's error variables hold what the program's text lays (the tie is given). (Its frame is the guide's shell; the walk is mine.) -/
import Derived.Test.YtddicibpfmjgfaaDoorRows
import Derived.Test.YtddicibpfmjgfaaDoorStrB
import Derived.Test.YtddicibpfmjgfaaDoorStrQ
import Derived.Test.YtddicibpfmjgfaaDoorStrM
import Derived.Test.YtddicibpfmjgfaaDoorLawSt
import Derived.Test.YtddicibpfmjgfaaDoorLaidSt
import Derived.Test.YtddicibpfmjgfaaDoorDrawSu
import Derived.WalkKit
import Derived.ProofKit
import Derived.OpenShut
import Derived.ShutString
import Derived.ChangeOld
import Derived.Below
import Derived.Test.YtddicibpfmjgfaaDoorShape
import Derived.Test.YtddicibpfmjgfaaDoorCards
import Derived.Test.YtddicibpfmjgfaaDoorTie
import Derived.LaidMore
import Derived.SevenTiedAt
namespace Go.Proofs.YtddicibpfmjgfaaDoor.fnStreams
open Go.ChangeShapes Go.WideShapes Go.ChangeAt Go.RowKit
open Go.ChangeMaps (open_string shut_string)
set_option linter.unusedVariables false
set_option linter.unusedSimpArgs false

theorem own : ownKnob Tryd.prog.godebug = none := by kernel_rfl
theorem laidOut : laidOutB Tryd.prog = true := by kernel_rfl
/-- What the walk is told of a slice of integers that came in. -/
def IsRow (k : IntKind) (w : World) (a : Option Addr) (len cap : Nat) (zs : List Int) : Prop :=
  (a = none ∧ len = 0 ∧ cap = 0 ∧ zs = []) ∨
  ∃ x, a = some x ∧ len ≤ cap ∧ cap ≤ maxLen ∧ zs.length = cap ∧ (∀ i, i < zs.length → w.cell? (x.add i) = some (.int k (zs.getD i 0))) ∧ ∀ n ∈ zs, (Lit.int k n).wf = true

theorem gW : Tryd.prog.globalNamed "loop.example/g00450/impl.errWrongStream" = some 0 := by kernel_rfl
theorem tW : (Tryd.prog.globals[0]?).map (·.type) = some 52 := by kernel_rfl
theorem gE : Tryd.prog.globalNamed "loop.example/g00450/impl.errEnded" = some 2 := by kernel_rfl
theorem tE : (Tryd.prog.globals[2]?).map (·.type) = some 52 := by kernel_rfl
theorem gL : Tryd.prog.globalNamed "loop.example/g00450/impl.errTooLong" = some 3 := by kernel_rfl
theorem tL : (Tryd.prog.globals[3]?).map (·.type) = some 52 := by kernel_rfl
theorem gO : Tryd.prog.globalNamed "loop.example/g00450/impl.errOtherBytes" = some 1 := by kernel_rfl
theorem tO : (Tryd.prog.globals[1]?).map (·.type) = some 52 := by kernel_rfl
theorem gA : Tryd.prog.globalNamed "loop.example/g00450/impl.errToldAlready" = some 4 := by kernel_rfl
theorem tA : (Tryd.prog.globals[4]?).map (·.type) = some 52 := by kernel_rfl
theorem gT : Tryd.prog.globalNamed "loop.example/g00450/impl.errTooSoon" = some 5 := by kernel_rfl
theorem tT : (Tryd.prog.globals[5]?).map (·.type) = some 52 := by kernel_rfl

set_option linter.unusedSimpArgs false in
set_option maxRecDepth 20000 in
set_option maxHeartbeats 40000000 in
theorem walk (a0 : Option Addr) (len0 cap0 : Nat) (z0 : List Int) (w : World) (aW aE aL aO aA aT : Addr) (H : Str.Hnd w) (SW : Str.Sen 0 aW w) (SE : Str.Sen 2 aE w) (SL : Str.Sen 3 aL w) (SO : Str.Sen 1 aO w) (SA : Str.Sen 4 aA w) (ST : Str.Sen 5 aT w) (nE : aE ≠ aW) (nL : aL ≠ aW) (nO : aO ≠ aW) (nA : aA ≠ aW) (nT : aT ≠ aW) (w0 : IsRow .u8 w a0 len0 cap0 z0) :
    Calls Tryd.prog 3 #[.slice a0 len0 cap0] w fun e w' => e = .returned (.bool true) ∧ Below w.heap.size w w' := by
  obtain ⟨hb, hm⟩ := Draw.bytes_of_row w0
  clear w0
  by_cases hl : len0 ≤ 4096
  case neg =>
    have hd : decide (4096 < (len0 : Int)) = true := by simp; omega
    go_enter Tryd.func3, Tryd.ntmps3
    go_wp2_with fail
    refine (Draw.big _ _ _ _ hm).mono ?_
    rintro e w1 ⟨rfl, rfl⟩
    go_wp2_with fail
    go_ret
    exact ⟨rfl, Below.refl _ _⟩
  have hd : decide (4096 < (len0 : Int)) = false := by simp; omega
  have hmix := Tak.mix
  have HD := fun w' (B : Below w.heap.size w w') => Str.drawWasRead a0 len0 cap0 w' (Draw.Bytes.below hb B (Nat.le_refl _)) hl
  have HG := fun w' (B : Below w.heap.size w w') => Str.drawGrew a0 len0 cap0 w' (Draw.Bytes.below hb B (Nat.le_refl _)) hl
  have HE := fun w' (B : Below w.heap.size w w') => Str.drawEnded a0 len0 cap0 w' (Draw.Bytes.below hb B (Nat.le_refl _)) hl
  have HT := fun w' (B : Below w.heap.size w w') => Str.drawTellEnd a0 len0 cap0 w' (Draw.Bytes.below hb B (Nat.le_refl _)) hl
  have IW := fun s b hs hb w' (q : Below w.heap.size w w') => Str.implWasRead s b w' aW aO (H.below q (Nat.le_refl _)) (SW.below q (Nat.le_refl _)) (SO.below q (Nat.le_refl _)) nO hs hb
  have IG := fun s b hs hb w' (q : Below w.heap.size w w') => Str.implGrew s b w' aW aE aL (H.below q (Nat.le_refl _)) (SW.below q (Nat.le_refl _)) (SE.below q (Nat.le_refl _)) (SL.below q (Nat.le_refl _)) nE nL hs hb
  have IE := fun s hs w' (q : Below w.heap.size w w') => Str.implEnded s w' aW aE (H.below q (Nat.le_refl _)) (SW.below q (Nat.le_refl _)) (SE.below q (Nat.le_refl _)) nE hs
  have IT := fun s b hs w' (q : Below w.heap.size w w') => Str.implTellEnd s b w' aW aA aT (H.below q (Nat.le_refl _)) (SW.below q (Nat.le_refl _)) (SA.below q (Nat.le_refl _)) (ST.below q (Nat.le_refl _)) nA nT hs
  clear H SW SE SL SO SA ST nE nL nO nA nT
  go_enter Tryd.func3, Tryd.ntmps3
  go_wp2_with fail
  refine (Draw.big _ _ _ _ hm).mono ?_
  rintro e w1 ⟨rfl, rfl⟩
  have B1 := Below.refl w.heap.size w
  clear hd hb hm
  go_wp2_with fail
  refine (HD _ B1).mono ?_
  rintro r0 w2 ⟨s, b, hz, hbs, rfl, b1⟩
  have hs : s.tx.size ≤ 2097152 := by have := hz.1; omega
  have hb2 : b.size ≤ 2097152 := by omega
  clear hz hbs HD
  have v3 : RowG.Var 25 (w2.alloc (.cells #[.string s.tx, .int .i64 s.rd, .bool s.en, .bool s.dn, .bool s.sn] 25)) w2.heap.size [.string s.tx, .int .i64 s.rd, .bool s.en, .bool s.dn, .bool s.sn] := RowG.Var.new w2 _
  replace B1 := (B1.trans (b1.mono B1.size)).alloc (B1.trans (b1.mono B1.size)).size (.cells #[.string s.tx, .int .i64 s.rd, .bool s.en, .bool s.dn, .bool s.sn] 25)
  clear b1
  go_upto_region 4 with (fail)
  generalize w2.alloc (.cells #[.string s.tx, .int .i64 s.rd, .bool s.en, .bool s.dn, .bool s.sn] 25) = W1 at *
  generalize w2.heap.size = kv3 at *
  have c0 := v3.cell (i := 0) rfl
  have c1 := v3.cell (i := 1) rfl
  have c2 := v3.cell (i := 2) rfl
  have c3 := v3.cell (i := 3) rfl
  have c4 := v3.cell (i := 4) rfl
  go_wp2_with fail
  refine (IW s b hs hb2 _ B1).mono ?_
  rintro r0 w3 ⟨rfl, b1⟩
  have X0 : Hid (s.ok = false → (Str.wasS s b).1 = Str.zeroS ∧ (Str.wasS s b).2 = false) := fun h => by rw [Str.was_no b h]; exact ⟨rfl, rfl⟩
  have X1 : Hid (s.ok = true → (Str.wasS s b).2 = false → (Str.wasS s b).1 = s) := fun h h2 => Str.was_fail h h2
  have X2 : Hid (s.ok = true → (Str.wasS s b).2 = true → (Str.wasS s b).1 = { s with rd := s.rd + b.size } ∧ Str.Sm.ok { s with rd := s.rd + b.size } = true ∧ 0 ≤ s.rd ∧ s.rd + b.size ≤ (s.tx.size : Int) ∧ s.tx.extract s.rd.toNat (s.rd + b.size).toNat = b) := fun h h2 => Str.was_yes h h2
  have hSW := fun w' => Str.specWasRead s b w' hs hb2
  generalize Str.wasS s b = R at *
  obtain ⟨x, is⟩ := R
  dsimp only [Str.Sm.v] at *
  clear IW
  replace v3 := (v3.later b1).alloc (.cells #[.string x.tx, .int .i64 x.rd, .bool x.en, .bool x.dn, .bool x.sn] 25)
  have v5 : RowG.Var 25 (w3.alloc (.cells #[.string x.tx, .int .i64 x.rd, .bool x.en, .bool x.dn, .bool x.sn] 25)) w3.heap.size [.string x.tx, .int .i64 x.rd, .bool x.en, .bool x.dn, .bool x.sn] := RowG.Var.new w3 _
  replace B1 := (B1.trans (b1.mono B1.size)).alloc (B1.trans (b1.mono B1.size)).size (.cells #[.string x.tx, .int .i64 x.rd, .bool x.en, .bool x.dn, .bool x.sn] 25)
  clear b1 c0 c1 c2 c3 c4
  go_upto_region 5 with (fail)
  generalize w3.alloc (.cells #[.string x.tx, .int .i64 x.rd, .bool x.en, .bool x.dn, .bool x.sn] 25) = W2 at *
  generalize w3.heap.size = kv5 at *
  go_wp2_with fail
  refine (HG _ B1).mono ?_
  rintro r0 w4 ⟨g, m, hz, hms, rfl, b1⟩
  have hg : g.tx.size ≤ 2097152 := by have := hz.1; omega
  have hm2 : m.size ≤ 2097152 := by omega
  clear hz hms HG
  replace v3 := (v3.later b1).alloc (.cells #[.string g.tx, .int .i64 g.rd, .bool g.en, .bool g.dn, .bool g.sn] 25)
  replace v5 := (v5.later b1).alloc (.cells #[.string g.tx, .int .i64 g.rd, .bool g.en, .bool g.dn, .bool g.sn] 25)
  have v7 : RowG.Var 25 (w4.alloc (.cells #[.string g.tx, .int .i64 g.rd, .bool g.en, .bool g.dn, .bool g.sn] 25)) w4.heap.size [.string g.tx, .int .i64 g.rd, .bool g.en, .bool g.dn, .bool g.sn] := RowG.Var.new w4 _
  replace B1 := (B1.trans (b1.mono B1.size)).alloc (B1.trans (b1.mono B1.size)).size (.cells #[.string g.tx, .int .i64 g.rd, .bool g.en, .bool g.dn, .bool g.sn] 25)
  clear b1
  go_upto_region 6 with (fail)
  generalize w4.alloc (.cells #[.string g.tx, .int .i64 g.rd, .bool g.en, .bool g.dn, .bool g.sn] 25) = W3 at *
  generalize w4.heap.size = kv7 at *
  have c0 := v7.cell (i := 0) rfl
  have c1 := v7.cell (i := 1) rfl
  have c2 := v7.cell (i := 2) rfl
  have c3 := v7.cell (i := 3) rfl
  have c4 := v7.cell (i := 4) rfl
  go_wp2_with fail
  refine (IG g m hg hm2 _ B1).mono ?_
  rintro r0 w5 ⟨rfl, b1⟩
  have Y2 : Hid ((Str.grewS g m).2 = true → (Str.grewS g m).1 = { g with tx := g.tx ++ m } ∧ Str.Sm.ok { g with tx := g.tx ++ m } = true ∧ g.en = false ∧ (g.tx ++ m).size ≤ 2000) := fun h2 => Str.grew_yes h2
  have hSG := fun w' => Str.specGrew g m w' hg hm2
  generalize Str.grewS g m = R at *
  obtain ⟨y, gr⟩ := R
  dsimp only [Str.Sm.v] at *
  clear IG
  replace v3 := (v3.later b1).alloc (.cells #[.string y.tx, .int .i64 y.rd, .bool y.en, .bool y.dn, .bool y.sn] 25)
  replace v5 := (v5.later b1).alloc (.cells #[.string y.tx, .int .i64 y.rd, .bool y.en, .bool y.dn, .bool y.sn] 25)
  replace v7 := (v7.later b1).alloc (.cells #[.string y.tx, .int .i64 y.rd, .bool y.en, .bool y.dn, .bool y.sn] 25)
  have v9 : RowG.Var 25 (w5.alloc (.cells #[.string y.tx, .int .i64 y.rd, .bool y.en, .bool y.dn, .bool y.sn] 25)) w5.heap.size [.string y.tx, .int .i64 y.rd, .bool y.en, .bool y.dn, .bool y.sn] := RowG.Var.new w5 _
  replace B1 := (B1.trans (b1.mono B1.size)).alloc (B1.trans (b1.mono B1.size)).size (.cells #[.string y.tx, .int .i64 y.rd, .bool y.en, .bool y.dn, .bool y.sn] 25)
  clear b1 c0 c1 c2 c3 c4
  go_upto_region 7 with (fail)
  generalize w5.alloc (.cells #[.string y.tx, .int .i64 y.rd, .bool y.en, .bool y.dn, .bool y.sn] 25) = W4 at *
  generalize w5.heap.size = kv9 at *
  go_wp2_with fail
  refine (HE _ B1).mono ?_
  rintro r0 w6 ⟨e, hz, rfl, b1⟩
  have he : e.tx.size ≤ 2097152 := by have := hz.1; omega
  clear hz HE
  replace v3 := (v3.later b1).alloc (.cells #[.string e.tx, .int .i64 e.rd, .bool e.en, .bool e.dn, .bool e.sn] 25)
  replace v5 := (v5.later b1).alloc (.cells #[.string e.tx, .int .i64 e.rd, .bool e.en, .bool e.dn, .bool e.sn] 25)
  replace v7 := (v7.later b1).alloc (.cells #[.string e.tx, .int .i64 e.rd, .bool e.en, .bool e.dn, .bool e.sn] 25)
  replace v9 := (v9.later b1).alloc (.cells #[.string e.tx, .int .i64 e.rd, .bool e.en, .bool e.dn, .bool e.sn] 25)
  have v11 : RowG.Var 25 (w6.alloc (.cells #[.string e.tx, .int .i64 e.rd, .bool e.en, .bool e.dn, .bool e.sn] 25)) w6.heap.size [.string e.tx, .int .i64 e.rd, .bool e.en, .bool e.dn, .bool e.sn] := RowG.Var.new w6 _
  replace B1 := (B1.trans (b1.mono B1.size)).alloc (B1.trans (b1.mono B1.size)).size (.cells #[.string e.tx, .int .i64 e.rd, .bool e.en, .bool e.dn, .bool e.sn] 25)
  clear b1
  go_upto_region 8 with (fail)
  generalize w6.alloc (.cells #[.string e.tx, .int .i64 e.rd, .bool e.en, .bool e.dn, .bool e.sn] 25) = W5 at *
  generalize w6.heap.size = kv11 at *
  have c0 := v11.cell (i := 0) rfl
  have c1 := v11.cell (i := 1) rfl
  have c2 := v11.cell (i := 2) rfl
  have c3 := v11.cell (i := 3) rfl
  have c4 := v11.cell (i := 4) rfl
  go_wp2_with fail
  refine (IE e he _ B1).mono ?_
  rintro r0 w7 ⟨rfl, b1⟩
  have Z2 : Hid ((Str.endS e).2 = true → (Str.endS e).1 = { e with en := true } ∧ Str.Sm.ok { e with en := true } = true) := fun h2 => Str.end_yes h2
  have hSE := fun w' => Str.specEnded e w' he
  generalize Str.endS e = R at *
  obtain ⟨z, nd⟩ := R
  dsimp only [Str.Sm.v] at *
  clear IE
  replace v3 := (v3.later b1).alloc (.cells #[.string z.tx, .int .i64 z.rd, .bool z.en, .bool z.dn, .bool z.sn] 25)
  replace v5 := (v5.later b1).alloc (.cells #[.string z.tx, .int .i64 z.rd, .bool z.en, .bool z.dn, .bool z.sn] 25)
  replace v7 := (v7.later b1).alloc (.cells #[.string z.tx, .int .i64 z.rd, .bool z.en, .bool z.dn, .bool z.sn] 25)
  replace v9 := (v9.later b1).alloc (.cells #[.string z.tx, .int .i64 z.rd, .bool z.en, .bool z.dn, .bool z.sn] 25)
  replace v11 := (v11.later b1).alloc (.cells #[.string z.tx, .int .i64 z.rd, .bool z.en, .bool z.dn, .bool z.sn] 25)
  have v12 : RowG.Var 25 (w7.alloc (.cells #[.string z.tx, .int .i64 z.rd, .bool z.en, .bool z.dn, .bool z.sn] 25)) w7.heap.size [.string z.tx, .int .i64 z.rd, .bool z.en, .bool z.dn, .bool z.sn] := RowG.Var.new w7 _
  replace B1 := (B1.trans (b1.mono B1.size)).alloc (B1.trans (b1.mono B1.size)).size (.cells #[.string z.tx, .int .i64 z.rd, .bool z.en, .bool z.dn, .bool z.sn] 25)
  clear b1 c0 c1 c2 c3 c4
  go_upto_region 9 with (fail)
  generalize w7.alloc (.cells #[.string z.tx, .int .i64 z.rd, .bool z.en, .bool z.dn, .bool z.sn] 25) = W6 at *
  generalize w7.heap.size = kv12 at *
  go_wp2_with fail
  refine (HT _ B1).mono ?_
  rintro r0 w8 ⟨q, seen, hz, rfl, b1⟩
  have hq : q.tx.size ≤ 2097152 := by have := hz.1; omega
  clear hz HT hl
  replace v3 := (v3.later b1).alloc (.cells #[.string q.tx, .int .i64 q.rd, .bool q.en, .bool q.dn, .bool q.sn] 25)
  replace v5 := (v5.later b1).alloc (.cells #[.string q.tx, .int .i64 q.rd, .bool q.en, .bool q.dn, .bool q.sn] 25)
  replace v7 := (v7.later b1).alloc (.cells #[.string q.tx, .int .i64 q.rd, .bool q.en, .bool q.dn, .bool q.sn] 25)
  replace v9 := (v9.later b1).alloc (.cells #[.string q.tx, .int .i64 q.rd, .bool q.en, .bool q.dn, .bool q.sn] 25)
  replace v11 := (v11.later b1).alloc (.cells #[.string q.tx, .int .i64 q.rd, .bool q.en, .bool q.dn, .bool q.sn] 25)
  replace v12 := (v12.later b1).alloc (.cells #[.string q.tx, .int .i64 q.rd, .bool q.en, .bool q.dn, .bool q.sn] 25)
  have v14 : RowG.Var 25 (w8.alloc (.cells #[.string q.tx, .int .i64 q.rd, .bool q.en, .bool q.dn, .bool q.sn] 25)) w8.heap.size [.string q.tx, .int .i64 q.rd, .bool q.en, .bool q.dn, .bool q.sn] := RowG.Var.new w8 _
  replace B1 := (B1.trans (b1.mono B1.size)).alloc (B1.trans (b1.mono B1.size)).size (.cells #[.string q.tx, .int .i64 q.rd, .bool q.en, .bool q.dn, .bool q.sn] 25)
  clear b1
  go_upto_region 10 with (fail)
  generalize w8.alloc (.cells #[.string q.tx, .int .i64 q.rd, .bool q.en, .bool q.dn, .bool q.sn] 25) = W7 at *
  generalize w8.heap.size = kv14 at *
  have c0 := v14.cell (i := 0) rfl
  have c1 := v14.cell (i := 1) rfl
  have c2 := v14.cell (i := 2) rfl
  have c3 := v14.cell (i := 3) rfl
  have c4 := v14.cell (i := 4) rfl
  go_wp2_with fail
  refine (IT q seen hq _ B1).mono ?_
  rintro r0 w9 ⟨rfl, b1⟩
  have T2 : Hid ((Str.toldS q seen).2 = true → (Str.toldS q seen).1.ok = true ∧ (Str.toldS q seen).1.tx = q.tx ∧ (seen = true → (Str.toldS q seen).1.rd = (q.tx.size : Int))) := fun h2 => Str.told_yes h2
  have hST := fun w' => Str.specTellEnd q seen w' hq
  generalize Str.toldS q seen = R at *
  obtain ⟨t, td⟩ := R
  dsimp only [Str.Sm.v] at *
  clear IT
  replace v3 := (v3.later b1).alloc (.cells #[.string t.tx, .int .i64 t.rd, .bool t.en, .bool t.dn, .bool t.sn] 25)
  replace v5 := (v5.later b1).alloc (.cells #[.string t.tx, .int .i64 t.rd, .bool t.en, .bool t.dn, .bool t.sn] 25)
  replace v7 := (v7.later b1).alloc (.cells #[.string t.tx, .int .i64 t.rd, .bool t.en, .bool t.dn, .bool t.sn] 25)
  replace v9 := (v9.later b1).alloc (.cells #[.string t.tx, .int .i64 t.rd, .bool t.en, .bool t.dn, .bool t.sn] 25)
  replace v11 := (v11.later b1).alloc (.cells #[.string t.tx, .int .i64 t.rd, .bool t.en, .bool t.dn, .bool t.sn] 25)
  replace v12 := (v12.later b1).alloc (.cells #[.string t.tx, .int .i64 t.rd, .bool t.en, .bool t.dn, .bool t.sn] 25)
  replace v14 := (v14.later b1).alloc (.cells #[.string t.tx, .int .i64 t.rd, .bool t.en, .bool t.dn, .bool t.sn] 25)
  have v16 : RowG.Var 25 (w9.alloc (.cells #[.string t.tx, .int .i64 t.rd, .bool t.en, .bool t.dn, .bool t.sn] 25)) w9.heap.size [.string t.tx, .int .i64 t.rd, .bool t.en, .bool t.dn, .bool t.sn] := RowG.Var.new w9 _
  replace B1 := (B1.trans (b1.mono B1.size)).alloc (B1.trans (b1.mono B1.size)).size (.cells #[.string t.tx, .int .i64 t.rd, .bool t.en, .bool t.dn, .bool t.sn] 25)
  clear b1 c0 c1 c2 c3 c4
  go_upto_region 11 with (fail)
  generalize w9.alloc (.cells #[.string t.tx, .int .i64 t.rd, .bool t.en, .bool t.dn, .bool t.sn] 25) = W8 at *
  generalize w9.heap.size = kv16 at *
  have c0 := v3.cell (i := 0) rfl
  have c1 := v3.cell (i := 1) rfl
  have c2 := v3.cell (i := 2) rfl
  have c3 := v3.cell (i := 3) rfl
  have c4 := v3.cell (i := 4) rfl
  go_wp2_with fail
  refine (hSW _).mono ?_
  rintro r0 w10 ⟨rfl, b1⟩
  clear hSW
  replace v3 := (v3.later b1).alloc (.cells #[.string x.tx, .int .i64 x.rd, .bool x.en, .bool x.dn, .bool x.sn] 25)
  replace v5 := (v5.later b1).alloc (.cells #[.string x.tx, .int .i64 x.rd, .bool x.en, .bool x.dn, .bool x.sn] 25)
  replace v7 := (v7.later b1).alloc (.cells #[.string x.tx, .int .i64 x.rd, .bool x.en, .bool x.dn, .bool x.sn] 25)
  replace v9 := (v9.later b1).alloc (.cells #[.string x.tx, .int .i64 x.rd, .bool x.en, .bool x.dn, .bool x.sn] 25)
  replace v11 := (v11.later b1).alloc (.cells #[.string x.tx, .int .i64 x.rd, .bool x.en, .bool x.dn, .bool x.sn] 25)
  replace v12 := (v12.later b1).alloc (.cells #[.string x.tx, .int .i64 x.rd, .bool x.en, .bool x.dn, .bool x.sn] 25)
  replace v14 := (v14.later b1).alloc (.cells #[.string x.tx, .int .i64 x.rd, .bool x.en, .bool x.dn, .bool x.sn] 25)
  replace v16 := (v16.later b1).alloc (.cells #[.string x.tx, .int .i64 x.rd, .bool x.en, .bool x.dn, .bool x.sn] 25)
  have v18 : RowG.Var 25 (w10.alloc (.cells #[.string x.tx, .int .i64 x.rd, .bool x.en, .bool x.dn, .bool x.sn] 25)) w10.heap.size [.string x.tx, .int .i64 x.rd, .bool x.en, .bool x.dn, .bool x.sn] := RowG.Var.new w10 _
  replace B1 := (B1.trans (b1.mono B1.size)).alloc (B1.trans (b1.mono B1.size)).size (.cells #[.string x.tx, .int .i64 x.rd, .bool x.en, .bool x.dn, .bool x.sn] 25)
  clear b1 c0 c1 c2 c3 c4
  go_upto_region 12 with (fail)
  generalize w10.alloc (.cells #[.string x.tx, .int .i64 x.rd, .bool x.en, .bool x.dn, .bool x.sn] 25) = W9 at *
  generalize w10.heap.size = kv18 at *
  have hI := fun w' => Str.implStreamOk s w' hs
  have hP := fun w' => Str.specStreamOk s w' hs
  have qx := Str.eqSame x
  generalize hsok : s.ok = so at *
  dsimp only [Str.Sm.v] at *
  have c0 := Draw.Later.cell (v3.cell (i := 0) rfl)
  have c1 := Draw.Later.cell (v3.cell (i := 1) rfl)
  have c2 := Draw.Later.cell (v3.cell (i := 2) rfl)
  have c3 := Draw.Later.cell (v3.cell (i := 3) rfl)
  have c4 := Draw.Later.cell (v3.cell (i := 4) rfl)
  have d0 := Draw.Later.cell (v5.cell (i := 0) rfl)
  have d1 := Draw.Later.cell (v5.cell (i := 1) rfl)
  have d2 := Draw.Later.cell (v5.cell (i := 2) rfl)
  have d3 := Draw.Later.cell (v5.cell (i := 3) rfl)
  have d4 := Draw.Later.cell (v5.cell (i := 4) rfl)
  have f0 := Draw.Later.cell (v18.cell (i := 0) rfl)
  have f1 := Draw.Later.cell (v18.cell (i := 1) rfl)
  have f2 := Draw.Later.cell (v18.cell (i := 2) rfl)
  have f3 := Draw.Later.cell (v18.cell (i := 3) rfl)
  have f4 := Draw.Later.cell (v18.cell (i := 4) rfl)
  have hne : ∀ (a : Bool), (a != a) = false := fun a => by simp
  refine Draw.wp_region_later hmix (by kernel_rfl) ?_
  repeat (go_big_quiet_step ((first | (go_at_call 18; exact Draw.later_of (hI _)) | (go_at_call 19; exact Draw.later_of (hP _)))))
  refine wpQuiet_nil ?_
  intro wq hw'
  have hBq : Below W9.heap.size W9 wq := by obtain ⟨p, rfl⟩ := hw'; exact p.h
  clear hw' v18 c0 c1 c2 c3 c4 d0 d1 d2 d3 d4 f0 f1 f2 f3 f4
  replace v3 := v3.later hBq
  replace v5 := v5.later hBq
  replace v7 := v7.later hBq
  replace v9 := v9.later hBq
  replace v11 := v11.later hBq
  replace v12 := v12.later hBq
  replace v14 := v14.later hBq
  replace v16 := v16.later hBq
  replace B1 := B1.trans (hBq.mono B1.size)
  clear hBq hI qx
  have c0 := v7.cell (i := 0) rfl
  have c1 := v7.cell (i := 1) rfl
  have c2 := v7.cell (i := 2) rfl
  have c3 := v7.cell (i := 3) rfl
  have c4 := v7.cell (i := 4) rfl
  go_wp2_with fail
  refine (hSG _).mono ?_
  rintro r0 w11 ⟨rfl, b1⟩
  clear hSG
  replace v3 := (v3.later b1).alloc (.cells #[.string y.tx, .int .i64 y.rd, .bool y.en, .bool y.dn, .bool y.sn] 25)
  replace v5 := (v5.later b1).alloc (.cells #[.string y.tx, .int .i64 y.rd, .bool y.en, .bool y.dn, .bool y.sn] 25)
  replace v7 := (v7.later b1).alloc (.cells #[.string y.tx, .int .i64 y.rd, .bool y.en, .bool y.dn, .bool y.sn] 25)
  replace v9 := (v9.later b1).alloc (.cells #[.string y.tx, .int .i64 y.rd, .bool y.en, .bool y.dn, .bool y.sn] 25)
  replace v11 := (v11.later b1).alloc (.cells #[.string y.tx, .int .i64 y.rd, .bool y.en, .bool y.dn, .bool y.sn] 25)
  replace v12 := (v12.later b1).alloc (.cells #[.string y.tx, .int .i64 y.rd, .bool y.en, .bool y.dn, .bool y.sn] 25)
  replace v14 := (v14.later b1).alloc (.cells #[.string y.tx, .int .i64 y.rd, .bool y.en, .bool y.dn, .bool y.sn] 25)
  replace v16 := (v16.later b1).alloc (.cells #[.string y.tx, .int .i64 y.rd, .bool y.en, .bool y.dn, .bool y.sn] 25)
  have v20 : RowG.Var 25 (w11.alloc (.cells #[.string y.tx, .int .i64 y.rd, .bool y.en, .bool y.dn, .bool y.sn] 25)) w11.heap.size [.string y.tx, .int .i64 y.rd, .bool y.en, .bool y.dn, .bool y.sn] := RowG.Var.new w11 _
  replace B1 := (B1.trans (b1.mono B1.size)).alloc (B1.trans (b1.mono B1.size)).size (.cells #[.string y.tx, .int .i64 y.rd, .bool y.en, .bool y.dn, .bool y.sn] 25)
  clear b1 c0 c1 c2 c3 c4
  go_upto_region 15 with (fail)
  generalize w11.alloc (.cells #[.string y.tx, .int .i64 y.rd, .bool y.en, .bool y.dn, .bool y.sn] 25) = W10 at *
  generalize w11.heap.size = kv20 at *
  go_cut [123] from 95 (fun v wr => v = .bool false ∧ Below W10.heap.size W10 wr)
  case first =>
    have qy := Str.eqSame y
    
    cases gr
    case false =>
      have c0 := v9.cell (i := 0) rfl
      have c1 := v9.cell (i := 1) rfl
      have c2 := v9.cell (i := 2) rfl
      have c3 := v9.cell (i := 3) rfl
      have c4 := v9.cell (i := 4) rfl
      have d0 := v20.cell (i := 0) rfl
      have d1 := v20.cell (i := 1) rfl
      have d2 := v20.cell (i := 2) rfl
      have d3 := v20.cell (i := 3) rfl
      have d4 := v20.cell (i := 4) rfl
      have f0 := v7.cell (i := 0) rfl
      have f1 := v7.cell (i := 1) rfl
      have f2 := v7.cell (i := 2) rfl
      have f3 := v7.cell (i := 3) rfl
      have f4 := v7.cell (i := 4) rfl
      go_wp2_with fail
      go_meet
      exact ⟨rfl, Below.refl _ _⟩
    case true =>
      obtain ⟨h1, h2, h3, h4⟩ := Y2.out rfl
      subst h1
      have hJ := fun w' => Str.implStreamOk { g with tx := g.tx ++ m } w' (by dsimp only; omega)
      rw [h2] at hJ
      dsimp only [Str.Sm.v] at *
      obtain ⟨gt, gr', ge, gd, gs⟩ := g
      dsimp only at *
      subst h3
      clear h2 h4
      have c0 := v9.cell (i := 0) rfl
      have c1 := v9.cell (i := 1) rfl
      have c2 := v9.cell (i := 2) rfl
      have c3 := v9.cell (i := 3) rfl
      have c4 := v9.cell (i := 4) rfl
      have d0 := v20.cell (i := 0) rfl
      have d1 := v20.cell (i := 1) rfl
      have d2 := v20.cell (i := 2) rfl
      have d3 := v20.cell (i := 3) rfl
      have d4 := v20.cell (i := 4) rfl
      have f0 := v7.cell (i := 0) rfl
      have f1 := v7.cell (i := 1) rfl
      have f2 := v7.cell (i := 2) rfl
      have f3 := v7.cell (i := 3) rfl
      have f4 := v7.cell (i := 4) rfl
      go_wp2_with fail
      refine (hJ _).mono ?_
      rintro r0 wa ⟨rfl, ba⟩
      replace v9 := v9.later ba
      replace v7 := v7.later ba
      clear c0 c1 c2 c3 c4 d0 d1 d2 d3 d4 f0 f1 f2 f3 f4
      have c0 := v9.cell (i := 0) rfl
      have c1 := v9.cell (i := 1) rfl
      have c2 := v9.cell (i := 2) rfl
      have c3 := v9.cell (i := 3) rfl
      have c4 := v9.cell (i := 4) rfl
      have f0 := v7.cell (i := 0) rfl
      have f1 := v7.cell (i := 1) rfl
      have f2 := v7.cell (i := 2) rfl
      have f3 := v7.cell (i := 3) rfl
      have f4 := v7.cell (i := 4) rfl
      clear hJ
      go_wp2_with fail
      go_meet
      exact ⟨by first | rfl | simp, ba⟩
  case rest =>
  obtain ⟨rfl, ba⟩ := hcut
  replace v3 := v3.later ba
  replace v5 := v5.later ba
  replace v11 := v11.later ba
  replace v12 := v12.later ba
  replace v14 := v14.later ba
  replace v16 := v16.later ba
  replace B1 := B1.trans (ba.mono B1.size)
  clear ba v7 v9 v20
  clear Y2 hg hm2
  have c0 := v11.cell (i := 0) rfl
  have c1 := v11.cell (i := 1) rfl
  have c2 := v11.cell (i := 2) rfl
  have c3 := v11.cell (i := 3) rfl
  have c4 := v11.cell (i := 4) rfl
  go_wp2_with fail
  refine (hSE _).mono ?_
  rintro r0 w12 ⟨rfl, b1⟩
  clear hSE
  replace v3 := (v3.later b1).alloc (.cells #[.string z.tx, .int .i64 z.rd, .bool z.en, .bool z.dn, .bool z.sn] 25)
  replace v5 := (v5.later b1).alloc (.cells #[.string z.tx, .int .i64 z.rd, .bool z.en, .bool z.dn, .bool z.sn] 25)
  replace v11 := (v11.later b1).alloc (.cells #[.string z.tx, .int .i64 z.rd, .bool z.en, .bool z.dn, .bool z.sn] 25)
  replace v12 := (v12.later b1).alloc (.cells #[.string z.tx, .int .i64 z.rd, .bool z.en, .bool z.dn, .bool z.sn] 25)
  replace v14 := (v14.later b1).alloc (.cells #[.string z.tx, .int .i64 z.rd, .bool z.en, .bool z.dn, .bool z.sn] 25)
  replace v16 := (v16.later b1).alloc (.cells #[.string z.tx, .int .i64 z.rd, .bool z.en, .bool z.dn, .bool z.sn] 25)
  have v22 : RowG.Var 25 (w12.alloc (.cells #[.string z.tx, .int .i64 z.rd, .bool z.en, .bool z.dn, .bool z.sn] 25)) w12.heap.size [.string z.tx, .int .i64 z.rd, .bool z.en, .bool z.dn, .bool z.sn] := RowG.Var.new w12 _
  replace B1 := (B1.trans (b1.mono B1.size)).alloc (B1.trans (b1.mono B1.size)).size (.cells #[.string z.tx, .int .i64 z.rd, .bool z.en, .bool z.dn, .bool z.sn] 25)
  clear b1 c0 c1 c2 c3 c4
  go_upto_region 18 with (fail)
  generalize w12.alloc (.cells #[.string z.tx, .int .i64 z.rd, .bool z.en, .bool z.dn, .bool z.sn] 25) = W11 at *
  generalize w12.heap.size = kv22 at *
  go_cut [149] from 129 (fun v wr => v = .bool false ∧ Below W11.heap.size W11 wr)
  case first =>
    have qy := Str.eqSame z
    
    cases nd
    case false =>
      have c0 := v12.cell (i := 0) rfl
      have c1 := v12.cell (i := 1) rfl
      have c2 := v12.cell (i := 2) rfl
      have c3 := v12.cell (i := 3) rfl
      have c4 := v12.cell (i := 4) rfl
      have d0 := v22.cell (i := 0) rfl
      have d1 := v22.cell (i := 1) rfl
      have d2 := v22.cell (i := 2) rfl
      have d3 := v22.cell (i := 3) rfl
      have d4 := v22.cell (i := 4) rfl
      go_wp2_with fail
      go_meet
      exact ⟨rfl, Below.refl _ _⟩
    case true =>
      obtain ⟨h1, h2⟩ := Z2.out rfl
      subst h1
      have hJ := fun w' => Str.implStreamOk { e with en := true } w' he
      rw [h2] at hJ
      dsimp only [Str.Sm.v] at *
      clear h2
      have c0 := v12.cell (i := 0) rfl
      have c1 := v12.cell (i := 1) rfl
      have c2 := v12.cell (i := 2) rfl
      have c3 := v12.cell (i := 3) rfl
      have c4 := v12.cell (i := 4) rfl
      have d0 := v22.cell (i := 0) rfl
      have d1 := v22.cell (i := 1) rfl
      have d2 := v22.cell (i := 2) rfl
      have d3 := v22.cell (i := 3) rfl
      have d4 := v22.cell (i := 4) rfl
      go_wp2_with fail
      refine (hJ _).mono ?_
      rintro r0 wa ⟨rfl, ba⟩
      replace v12 := v12.later ba
    
      clear c0 c1 c2 c3 c4 d0 d1 d2 d3 d4
      have c0 := v12.cell (i := 0) rfl
      have c1 := v12.cell (i := 1) rfl
      have c2 := v12.cell (i := 2) rfl
      have c3 := v12.cell (i := 3) rfl
      have c4 := v12.cell (i := 4) rfl
      clear hJ
      go_wp2_with fail
      go_meet
      exact ⟨by first | rfl | simp, ba⟩
  case rest =>
  obtain ⟨rfl, ba⟩ := hcut
  replace v3 := v3.later ba
  replace v5 := v5.later ba
  replace v14 := v14.later ba
  replace v16 := v16.later ba
  replace B1 := B1.trans (ba.mono B1.size)
  clear ba v11 v12 v22
  clear Z2 he
  have c0 := v14.cell (i := 0) rfl
  have c1 := v14.cell (i := 1) rfl
  have c2 := v14.cell (i := 2) rfl
  have c3 := v14.cell (i := 3) rfl
  have c4 := v14.cell (i := 4) rfl
  go_wp2_with fail
  refine (hST _).mono ?_
  rintro r0 w13 ⟨rfl, b1⟩
  clear hST
  replace v3 := (v3.later b1).alloc (.cells #[.string t.tx, .int .i64 t.rd, .bool t.en, .bool t.dn, .bool t.sn] 25)
  replace v5 := (v5.later b1).alloc (.cells #[.string t.tx, .int .i64 t.rd, .bool t.en, .bool t.dn, .bool t.sn] 25)
  replace v14 := (v14.later b1).alloc (.cells #[.string t.tx, .int .i64 t.rd, .bool t.en, .bool t.dn, .bool t.sn] 25)
  replace v16 := (v16.later b1).alloc (.cells #[.string t.tx, .int .i64 t.rd, .bool t.en, .bool t.dn, .bool t.sn] 25)
  have v24 : RowG.Var 25 (w13.alloc (.cells #[.string t.tx, .int .i64 t.rd, .bool t.en, .bool t.dn, .bool t.sn] 25)) w13.heap.size [.string t.tx, .int .i64 t.rd, .bool t.en, .bool t.dn, .bool t.sn] := RowG.Var.new w13 _
  replace B1 := (B1.trans (b1.mono B1.size)).alloc (B1.trans (b1.mono B1.size)).size (.cells #[.string t.tx, .int .i64 t.rd, .bool t.en, .bool t.dn, .bool t.sn] 25)
  clear b1 c0 c1 c2 c3 c4
  go_upto_region 21 with (fail)
  generalize w13.alloc (.cells #[.string t.tx, .int .i64 t.rd, .bool t.en, .bool t.dn, .bool t.sn] 25) = W12 at *
  generalize w13.heap.size = kv24 at *
  go_cut [182] from 156 (fun v wr => v = .bool false ∧ Below W12.heap.size W12 wr)
  case first =>
    have qy := Str.eqSame t
    
    cases td
    case false =>
      have c0 := v16.cell (i := 0) rfl
      have c1 := v16.cell (i := 1) rfl
      have c2 := v16.cell (i := 2) rfl
      have c3 := v16.cell (i := 3) rfl
      have c4 := v16.cell (i := 4) rfl
      have d0 := v24.cell (i := 0) rfl
      have d1 := v24.cell (i := 1) rfl
      have d2 := v24.cell (i := 2) rfl
      have d3 := v24.cell (i := 3) rfl
      have d4 := v24.cell (i := 4) rfl
      go_wp2_with fail
      go_meet
      exact ⟨rfl, Below.refl _ _⟩
    case true =>
      obtain ⟨h1, h2, h3⟩ := T2.out rfl
      have hJ := fun w' => Str.implStreamOk t w' (by rw [h2]; exact hq)
      rw [h1] at hJ
      dsimp only [Str.Sm.v] at *
      have h5 : seen = true → t.rd = (t.tx.size : Int) := fun h => by rw [h2]; exact h3 h
      have hts : t.tx.size ≤ 2097152 := by rw [h2]; exact hq
      clear h1 h2 h3
      have c0 := v16.cell (i := 0) rfl
      have c1 := v16.cell (i := 1) rfl
      have c2 := v16.cell (i := 2) rfl
      have c3 := v16.cell (i := 3) rfl
      have c4 := v16.cell (i := 4) rfl
      have d0 := v24.cell (i := 0) rfl
      have d1 := v24.cell (i := 1) rfl
      have d2 := v24.cell (i := 2) rfl
      have d3 := v24.cell (i := 3) rfl
      have d4 := v24.cell (i := 4) rfl
      go_wp2_with fail
      refine (hJ _).mono ?_
      rintro r0 wa ⟨rfl, ba⟩
      replace v16 := v16.later ba
    
      clear c0 c1 c2 c3 c4 d0 d1 d2 d3 d4
      have c0 := v16.cell (i := 0) rfl
      have c1 := v16.cell (i := 1) rfl
      have c2 := v16.cell (i := 2) rfl
      have c3 := v16.cell (i := 3) rfl
      have c4 := v16.cell (i := 4) rfl
      clear hJ
      cases seen
      case true =>
        obtain ⟨t0, t1, t2, t3, t4⟩ := t
        dsimp only at *
        obtain rfl := h5 rfl
        go_wp2_with fail
        go_meet
        exact ⟨by first | rfl | simp, ba⟩
      go_wp2_with fail
      go_meet
      exact ⟨by first | rfl | simp, ba⟩
  case rest =>
  obtain ⟨rfl, ba⟩ := hcut
  replace v3 := v3.later ba
  replace v5 := v5.later ba
  replace B1 := B1.trans (ba.mono B1.size)
  clear ba v14 v16 v24
  clear T2 hq
  have c0 := v3.cell (i := 0) rfl
  have c1 := v3.cell (i := 1) rfl
  have c2 := v3.cell (i := 2) rfl
  have c3 := v3.cell (i := 3) rfl
  have c4 := v3.cell (i := 4) rfl
  go_wp2_with fail
  refine (hP _).mono ?_
  rintro r0 wb ⟨rfl, bb⟩
  replace v3 := v3.later bb
  replace v5 := v5.later bb
  replace B1 := B1.trans (bb.mono B1.size)
  clear bb hP c0 c1 c2 c3 c4
  cases so
  case false =>
    obtain ⟨h1, h2⟩ := X0.out rfl
    subst h1 h2
    have qz := Str.eqSame Str.zeroS
    dsimp only at *
    have d0 := v5.cell (i := 0) rfl
    have d1 := v5.cell (i := 1) rfl
    have d2 := v5.cell (i := 2) rfl
    have d3 := v5.cell (i := 3) rfl
    have d4 := v5.cell (i := 4) rfl
    go_wp2_with fail
    go_ret
    exact ⟨rfl, B1⟩
  cases is
  case false =>
    have h1 := X1.out rfl rfl
    subst h1
    have qz := Str.eqSame x
    have c0 := v3.cell (i := 0) rfl
    have c1 := v3.cell (i := 1) rfl
    have c2 := v3.cell (i := 2) rfl
    have c3 := v3.cell (i := 3) rfl
    have c4 := v3.cell (i := 4) rfl
    have d0 := v5.cell (i := 0) rfl
    have d1 := v5.cell (i := 1) rfl
    have d2 := v5.cell (i := 2) rfl
    have d3 := v5.cell (i := 3) rfl
    have d4 := v5.cell (i := 4) rfl
    go_wp2_with fail
    go_ret
    exact ⟨rfl, B1⟩
  obtain ⟨h1, h2, h3, h4, h5⟩ := X2.out rfl rfl
  subst h1
  have hJ := fun w' => Str.implStreamOk { s with rd := s.rd + b.size } w' hs
  rw [h2] at hJ
  dsimp only [Str.Sm.v] at *
  clear h2
  have c0 := v3.cell (i := 0) rfl
  have c1 := v3.cell (i := 1) rfl
  have c2 := v3.cell (i := 2) rfl
  have c3 := v3.cell (i := 3) rfl
  have c4 := v3.cell (i := 4) rfl
  have d0 := v5.cell (i := 0) rfl
  have d1 := v5.cell (i := 1) rfl
  have d2 := v5.cell (i := 2) rfl
  have d3 := v5.cell (i := 3) rfl
  have d4 := v5.cell (i := 4) rfl
  go_wp2_with fail
  refine (hJ _).mono ?_
  rintro r0 wc ⟨rfl, bc⟩
  replace v3 := v3.later bc
  replace v5 := v5.later bc
  replace B1 := B1.trans (bc.mono B1.size)
  clear bc hJ c0 c1 c2 c3 c4 d0 d1 d2 d3 d4
  have c0 := v3.cell (i := 0) rfl
  have c1 := v3.cell (i := 1) rfl
  have c2 := v3.cell (i := 2) rfl
  have c3 := v3.cell (i := 3) rfl
  have c4 := v3.cell (i := 4) rfl
  have d0 := v5.cell (i := 0) rfl
  have d1 := v5.cell (i := 1) rfl
  have d2 := v5.cell (i := 2) rfl
  have d3 := v5.cell (i := 3) rfl
  have d4 := v5.cell (i := 4) rfl
  obtain ⟨s0, s1, s2, s3, s4⟩ := s
  dsimp only at *
  obtain ⟨r, rfl⟩ : ∃ r : Nat, s1 = (r : Int) := ⟨s1.toNat, by omega⟩
  rw [show ((r : Int)).toNat = r by omega, show ((r : Int) + (b.size : Int)).toNat = r + b.size by omega] at h5
  have i1 : (r : Int) ≤ (r : Int) + (b.size : Int) := by omega
  go_wp2_with fail
  go_ret
  exact ⟨by rw [h5]; simp, B1⟩

/-- The door's own heap meets the condition. -/
theorem door_met (os : Os) (args : Array Value) : laidMetH Tryd.prog Rows.fnStreamsRow.laid ((World.doorLaid Tryd.prog 130 os).forCall (fun _ _ => 0) ⟨#[], args, []⟩).memory :=
  laidMetH_of_parts3 (fuel := 8) (laidMet_of_run' 8 (by kernel_rfl) (by kernel_rfl)) (by kernel_rfl) (by kernel_rfl)

set_option maxRecDepth 100000 in
theorem lifted (os : Os) (started : os.Started) (H : Type) (enc : TypeId × Value → H) :
    ReturnsInHanded {} Tryd.checked os 3 .any (fun w args => (Rows.fnStreamsSpec.pre enc Tryd.prog Tryd.f3 [] false w args ∧ laidMetH Tryd.prog Rows.fnStreamsRow.laid w) ∧ sizedMet enc Tryd.prog Tryd.f3 (OpenSpec.ofChange Rows.fnStreamsSpec) false w args)
      (Rows.fnStreamsSpec.post enc Tryd.prog Tryd.f3 false true false false) := by
  refine returnsInHanded_of_change_and (C := Tryd.checked) (X := fun w _ => laidMetH Tryd.prog Rows.fnStreamsRow.laid w) (fun _ _ _ hh h => h.of_heap hh) own started (by kernel_rfl) Tryd.func3
    (ChangeSpec.witness_shaped (enc := enc) (C := Tryd.checked) (os := os) (X := fun w _ => laidMetH Tryd.prog Rows.fnStreamsRow.laid w) false (World.doorLaid Tryd.prog 130 os) #[.slice none 0 0] 8 rfl (World.shaped_of_RefB (by kernel_rfl) (by kernel_rfl)) (by kernel_rfl) (by kernel_rfl) (by kernel_rfl) (door_met os _)) ?_
  intro W base args ds gs before hval0 hW _ _ hL _
  have hval : ∀ (j : Nat) t v, Tryd.f3.params[j]? = some t → args[j]? = some v → Value.okWide Tryd.prog W .any base t v := hval0
  have hW' := hW
  obtain ⟨p, q, hA0, hV0, rfl, hfz, hnd⟩ := hW
  have hV : DataW.TrodVars enc Tryd.prog W (fun _ => true) ["loop.example/g00450/impl.errWrongStream", "loop.example/g00450/impl.errOtherBytes", "loop.example/g00450/impl.errEnded", "loop.example/g00450/impl.errTooLong", "loop.example/g00450/impl.errToldAlready", "loop.example/g00450/impl.errTooSoon"] gs q := hV0
  have hA : DataW.TrodAll enc Tryd.prog W 0 (fun _ => true) true Tryd.f3.params.toList args.toList ds p := hA0
  rw [Tryd.params3] at hA hval
  obtain ⟨v0, vs0, d0, ds0, p0, q0, hargs, rfl, rfl, h0, r0⟩ := trodAll_cons hA
  obtain ⟨rfl, rfl, rfl⟩ := trodAll_nil r0
  obtain rfl : args = #[v0] := by cases args; simp_all
  have hLL : laidMet Tryd.prog [("loop.example/g00450/impl.errWrongStream", Rows.laid_loop_example_g00450_impl_errWrongStream), ("loop.example/g00450/impl.errEnded", Rows.laid_loop_example_g00450_impl_errEnded), ("loop.example/g00450/impl.errTooLong", Rows.laid_loop_example_g00450_impl_errTooLong), ("loop.example/g00450/impl.errOtherBytes", Rows.laid_loop_example_g00450_impl_errOtherBytes), ("loop.example/g00450/impl.errToldAlready", Rows.laid_loop_example_g00450_impl_errToldAlready), ("loop.example/g00450/impl.errTooSoon", Rows.laid_loop_example_g00450_impl_errTooSoon)] W ∧ handlesMet Tryd.prog [("errors.errorType", Rows.laid_errors_errorType)] W := hL
  have hH := Str.hnd_of hLL.2
  have l1 := hLL.1
  obtain ⟨aW, aE, uW, uE, SW, SE, nE⟩ := Str.pair_of l1 gW tW gE tE
  have l2 := Str.laid_drop2 l1
  obtain ⟨bW, aL, vW, uL, -, SL, nL⟩ := Str.pair_of l2 gW tW gL tL
  obtain rfl := Str.var_one uW vW
  clear vW
  have l3 := Str.laid_drop2 l2
  obtain ⟨bW, aO, vW, uO, -, SO, nO⟩ := Str.pair_of l3 gW tW gO tO
  obtain rfl := Str.var_one uW vW
  clear vW
  have l4 := Str.laid_drop2 l3
  obtain ⟨bW, aA, vW, uA, -, SA, nA⟩ := Str.pair_of l4 gW tW gA tA
  obtain rfl := Str.var_one uW vW
  clear vW
  have l5 := Str.laid_drop2 l4
  obtain ⟨bW, aT, vW, uT, -, ST, nT⟩ := Str.pair_of l5 gW tW gT tT
  obtain rfl := Str.var_one uW vW
  clear vW
  obtain ⟨rfl, rfl⟩ := hV.unique (Str.vars_cons enc gW tW uW (Str.vars_cons enc gO tO uO (Str.vars_cons enc gE tE uE (Str.vars_cons enc gL tL uL (Str.vars_cons enc gA tA uA (Str.vars_cons enc gT tT uT (Str.vars_nil enc _)))))))
  obtain ⟨a0, len0, cap0, rfl⟩ := okWide_slice Tryd.underlying22 (hval 0 22 v0 rfl rfl)
  have k0 := h0
  have lt0 : ∀ x ∈ p0, x.block < W.heap.size := by obtain ⟨m, hm⟩ := k0; exact DataW.trod_lt m _ _ _ hm
  obtain ⟨z0, w0⟩ : ∃ zs, IsRow .u8 W a0 len0 cap0 zs := by
    obtain ⟨fuel, hf⟩ := h0
    rcases open_ints Tryd.underlying22 Tryd.underlying5 (by kernel_rfl) hf with ⟨hcs, _⟩ | ⟨x, l, c, zs, hcs, _, hl, hm, hz, _, hcell, hwz⟩
    · simp [Value.cells] at hcs
      obtain ⟨rfl, rfl, rfl⟩ := hcs
      exact ⟨[], .inl ⟨rfl, rfl, rfl, rfl⟩⟩
    · simp [Value.cells] at hcs
      obtain ⟨rfl, rfl, rfl⟩ := hcs
      exact ⟨zs, .inr ⟨_, rfl, hl, hm, by simpa using hz, hcell, hwz⟩⟩
  clear hA0 hval0 hV0
  refine (walk a0 len0 cap0 z0 W aW aE aL aO aA aT hH SW SE SL SO SA ST nE nL nO nA nT w0).mono fun e W' ⟨he, bel⟩ => ?_
  subst he
  exact ⟨_, rfl, _, _, _, [], _, [.cell 0 0, .cell 1 0, .cell 2 0, .cell 3 0, .cell 4 0, .cell 5 0], hW', (trodAll_cons_mk (shut_bool Tryd.underlying4 _) trodAll_mk0), (trodAll_cons_mk (Below.trod laidOut (by kernel_rfl) (of_decide_eq_true (by kernel_rfl)) k0 bel lt0) trodAll_mk0), (Str.vars_cons enc gW tW (Str.var_later uW bel) (Str.vars_cons enc gO tO (Str.var_later uO bel) (Str.vars_cons enc gE tE (Str.var_later uE bel) (Str.vars_cons enc gL tL (Str.var_later uL bel) (Str.vars_cons enc gA tA (Str.var_later uA bel) (Str.vars_cons enc gT tT (Str.var_later uT bel) (Str.vars_nil enc _))))))), bel.frame _, fun h => by cases h⟩

theorem over : Rows.fnStreamsRow.holds Tryd.pinned (OpenSpec.ofChange Rows.fnStreamsSpec) :=
  OpenClaim.holds_of_wide 3 Tryd.f3 rfl rfl rfl rfl rfl rfl rfl ⟨rfl, rfl, rfl, rfl, rfl⟩ rfl rfl rfl rfl rfl (by kernel_rfl) Tryd.func3 (by kernel_rfl)
    (of_decide_eq_true (by kernel_rfl)) (by unfold Func.isWrapper; first | (rw [if_pos (by decide +kernel)]; kernel_rfl) | (rw [if_neg (by decide +kernel)]; exact ⟨rfl, rfl⟩))
    (fun os started H enc _ => lifted os started H enc)

/-- THE STATEMENT: the tied card. -/
theorem proved : Rows.FnStreamsCardSaid :=
  Claim7.holds_tied_plain_at .later [] [.handle, .sentinel, .sentinel, .sentinel, .sentinel, .sentinel, .sentinel] true (true, "bad8f9d35a3ef393a4d677c7f7755b6f24d44ef503af568fc77452cdd9b82c1d") true
    over (fun _ h => by cases h) (by kernel_rfl) (fun _ h => by cases h) fnStreams_row_tie rfl ⟨rfl, rfl⟩ (by kernel_rfl) rfl
    (fun f fn hf hfn => by
      obtain rfl : f = 3 := Option.some.inj ((show Tryd.prog.funcNamed "loop.example/g00450/laws.FnStreams" = some 3 by kernel_rfl).symm.trans hf) |>.symm
      obtain rfl : fn = Tryd.f3 := (Option.some.inj (Tryd.func3.symm.trans hfn)).symm
      exact ⟨by kernel_rfl, fun j t ht => by
        rw [Tryd.params3] at ht
        have hm : t ∈ [22] := by simpa using Array.mem_of_getElem? ht
        have hall : ([22].all fun u => !Tryd.prog.wantsStandIn u) = true := by kernel_rfl
        exact (show Tryd.prog.wantsStandIn t = false by simpa using List.all_eq_true.1 hall t hm)⟩)
    (by kernel_rfl)
end Go.Proofs.YtddicibpfmjgfaaDoor.fnStreams
namespace Go.Proofs.YtddicibpfmjgfaaDoor
theorem fnStreams_holds : Rows.FnStreamsCardSaid := fnStreams.proved
#print axioms fnStreams_holds
end Go.Proofs.YtddicibpfmjgfaaDoor

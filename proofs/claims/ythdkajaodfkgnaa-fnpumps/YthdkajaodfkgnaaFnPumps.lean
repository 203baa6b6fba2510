/- For every code of bytes FnPumps returns true: the program's Pumps and CanPump answer as the specification's on every drawn taker, giver and number, and what is pumped goes from the one's beginning to the other's end; no condition. (Its frame is the guide's shell; the walk is mine.) -/
import Derived.Test.YthdkajaodfkgnaaRows
import Derived.Test.YthdkajaodfkgnaaPumS
import Derived.Test.YthdkajaodfkgnaaDrawPu
import Derived.Test.YthdkajaodfkgnaaLawU
import Derived.WalkKit
import Derived.ProofKit
import Derived.OpenShut
import Derived.ShutString
import Derived.ChangeOld
import Derived.Below
namespace Go.Proofs.Ythdkajaodfkgnaa.fnPumps
open Go.ChangeShapes Go.WideShapes Go.ChangeAt Go.RowKit
open Go.ChangeMaps (open_string shut_string)
set_option linter.unusedVariables false

theorem own : ownKnob Try.prog.godebug = none := by kernel_rfl
theorem laidOut : laidOutB Try.prog = true := by kernel_rfl

/-- WHAT THE WALK IS TOLD OF A SLICE OF INTEGERS THAT CAME IN: it is nil; or it leads to a row of 'cap' cells, the numbers 'zs' (the first 'len' are its elements, the rest its spare room), each fitting its kind. -/
def IsRow (k : IntKind) (w : World) (a : Option Addr) (len cap : Nat) (zs : List Int) : Prop :=
  (a = none ∧ len = 0 ∧ cap = 0 ∧ zs = []) ∨
  ∃ x, a = some x ∧ len ≤ cap ∧ cap ≤ maxLen ∧ zs.length = cap ∧ (∀ i, i < zs.length → w.cell? (x.add i) = some (.int k (zs.getD i 0))) ∧ ∀ n ∈ zs, (Lit.int k n).wf = true

/-! ### STEP 1: THE WALK: the Go text returns true, AND WRITES NOTHING THAT WAS THERE: 'Below w.heap.size w w'' (Derived/Below.lean: '.refl', '.alloc', '.drew', '.setCell' at a new block, '.trans'). Open each 'IsRow' by 'rcases' AHEAD of 'go_enter'; part every test ahead of the walk. -/
set_option linter.unusedSimpArgs false in
set_option maxRecDepth 20000 in
set_option maxHeartbeats 40000000 in
theorem walk (a0 : Option Addr) (len0 cap0 : Nat) (z0 : List Int) (w : World) (w0 : IsRow .u8 w a0 len0 cap0 z0) :
    Calls Try.prog 3 #[.slice a0 len0 cap0] w fun e w' => e = .returned (.bool true) ∧ Below w.heap.size w w' := by
  obtain ⟨hb, hm⟩ := Draw.bytes_of_row w0
  clear w0
  by_cases hl : len0 ≤ 4096
  case neg =>
    have hd : decide (4096 < (len0 : Int)) = true := by simp; omega
    go_enter Try.func3, Try.ntmps3
    go_wp2_with fail
    refine (Draw.big _ _ _ _ hm).mono ?_
    rintro e w1 ⟨rfl, rfl⟩
    go_wp2_with fail
    go_ret
    exact ⟨rfl, Below.refl _ _⟩
  have hd : decide (4096 < (len0 : Int)) = false := by simp; omega
  go_enter Try.func3, Try.ntmps3
  go_wp2_with fail
  refine (Draw.big _ _ _ _ hm).mono ?_
  rintro e w1 ⟨rfl, rfl⟩
  clear hd
  go_wp2_with fail
  refine (Pum.drawPumps _ _ _ _ hb hl).mono ?_
  rintro x w1 ⟨⟨t0, t1, t2, t3, t4, t5⟩, hgd, ⟨g0, g1, g2, g3, g4, g5⟩, hgs, n, a1, c1, rfl, o1, BW⟩
  obtain ⟨hbd, hll, hbb⟩ := hgd
  dsimp only at hbd hll hbb hgs o1
  have hl2 : t2.length ≤ 2097152 := by omega
  have hb2 : t1.size ≤ 2097152 := by omega
  have hg2 : g1.size ≤ 2097152 := by omega
  have hI := fun w' (hL : Tak.partE.Lies w' a1 t2) => Pum.implPumps ⟨t0, t1, t2, t3, t4, t5⟩ a1 c1 ⟨g0, g1, g2, g3, g4, g5⟩ n w' hL o1.none_cap hl2 hb2 hbd hg2
  have hS := fun w' (hL : Tak.partE.Lies w' a1 t2) => Pum.specPumps ⟨t0, t1, t2, t3, t4, t5⟩ a1 c1 ⟨g0, g1, g2, g3, g4, g5⟩ n w' hL o1.none_cap hl2 hb2 hbd hg2
  have hC := fun w' (hL : Tak.partE.Lies w' a1 t2) => Pum.implCanPump ⟨t0, t1, t2, t3, t4, t5⟩ a1 c1 ⟨g0, g1, g2, g3, g4, g5⟩ w' hL o1.none_cap hl2 hb2 hbd hg2
  obtain ⟨⟨x0, x1, x2, x3, x4, x5⟩, hT⟩ : ∃ T, Pum.pumpT ⟨t0, t1, t2, t3, t4, t5⟩ ⟨g0, g1, g2, g3, g4, g5⟩ n = T := ⟨_, rfl⟩
  obtain ⟨⟨y0, y1, y2, y3, y4, y5⟩, hG⟩ : ∃ G, Pum.pumpG ⟨t0, t1, t2, t3, t4, t5⟩ ⟨g0, g1, g2, g3, g4, g5⟩ n = G := ⟨_, rfl⟩
  obtain ⟨k, hK⟩ : ∃ k, Pum.pumpI ⟨t0, t1, t2, t3, t4, t5⟩ ⟨g0, g1, g2, g3, g4, g5⟩ n = k := ⟨_, rfl⟩
  obtain ⟨ca, hCa⟩ : ∃ k, Pum.canI ⟨t0, t1, t2, t3, t4, t5⟩ ⟨g0, g1, g2, g3, g4, g5⟩ = k := ⟨_, rfl⟩
  rw [hT, hG, hK] at hI hS
  rw [hCa] at hC
  have HT : Hid (Pum.pumpT ⟨t0, t1, t2, t3, t4, t5⟩ ⟨g0, g1, g2, g3, g4, g5⟩ n = ⟨x0, x1, x2, x3, x4, x5⟩) := hT
  have HG : Hid (Pum.pumpG ⟨t0, t1, t2, t3, t4, t5⟩ ⟨g0, g1, g2, g3, g4, g5⟩ n = ⟨y0, y1, y2, y3, y4, y5⟩) := hG
  have HK : Hid (Pum.pumpI ⟨t0, t1, t2, t3, t4, t5⟩ ⟨g0, g1, g2, g3, g4, g5⟩ n = k) := hK
  have HCA : Hid (Pum.canI ⟨t0, t1, t2, t3, t4, t5⟩ ⟨g0, g1, g2, g3, g4, g5⟩ = ca) := hCa
  clear hT hG hK hCa
  dsimp only [Tak.Tk.v, Giv.Gv.v] at hI hS hC ⊢
  have HI : Hid _ := hI
  have HS : Hid _ := hS
  have HC : Hid _ := hC
  clear hI hS hC
  have vt : RowG.Var 26 (w1.alloc (.cells #[.int .i64 t0, .string t1, .slice a1 t2.length c1, .int .i64 t3, .int .i64 t4, .bool t5] 26)) w1.heap.size [.int .i64 t0, .string t1, .slice a1 t2.length c1, .int .i64 t3, .int .i64 t4, .bool t5] := RowG.Var.new _ _
  replace vt := vt.alloc (.cells #[.int .i64 g0, .string g1, .int .i64 g2, .int .i64 g3, .bool g4, .bool g5] 28)
  have vg : RowG.Var 28 ((w1.alloc (.cells #[.int .i64 t0, .string t1, .slice a1 t2.length c1, .int .i64 t3, .int .i64 t4, .bool t5] 26)).alloc (.cells #[.int .i64 g0, .string g1, .int .i64 g2, .int .i64 g3, .bool g4, .bool g5] 28)) (w1.heap.size + 1) [.int .i64 g0, .string g1, .int .i64 g2, .int .i64 g3, .bool g4, .bool g5] := by
    have := RowG.Var.new (T := 28) (w1.alloc (.cells #[.int .i64 t0, .string t1, .slice a1 t2.length c1, .int .i64 t3, .int .i64 t4, .bool t5] 26)) [.int .i64 g0, .string g1, .int .i64 g2, .int .i64 g3, .bool g4, .bool g5]
    simpa using this
  replace o1 := (o1.alloc (.cells #[.int .i64 t0, .string t1, .slice a1 t2.length c1, .int .i64 t3, .int .i64 t4, .bool t5] 26)).alloc (.cells #[.int .i64 g0, .string g1, .int .i64 g2, .int .i64 g3, .bool g4, .bool g5] 28)
  have BN : Below _ _ ((w1.alloc (.cells #[.int .i64 t0, .string t1, .slice a1 t2.length c1, .int .i64 t3, .int .i64 t4, .bool t5] 26)).alloc (.cells #[.int .i64 g0, .string g1, .int .i64 g2, .int .i64 g3, .bool g4, .bool g5] 28)) := (BW.alloc BW.size _).alloc (by have := BW.size; simp; omega) _
  clear BW
  go_upto_region 4 with (fail)
  generalize (w1.alloc (.cells #[.int .i64 t0, .string t1, .slice a1 t2.length c1, .int .i64 t3, .int .i64 t4, .bool t5] 26)).alloc (.cells #[.int .i64 g0, .string g1, .int .i64 g2, .int .i64 g3, .bool g4, .bool g5] 28) = W at *
  generalize w1.heap.size = kt at *
  have BW := BN
  clear BN
  have e0 := vt.cell (i := 0) rfl
  have e1 := vt.cell (i := 1) rfl
  have e2 := vt.cell (i := 2) rfl
  have e3 := vt.cell (i := 3) rfl
  have e4 := vt.cell (i := 4) rfl
  have e5 := vt.cell (i := 5) rfl
  have f0 := vg.cell (i := 0) rfl
  have f1 := vg.cell (i := 1) rfl
  have f2 := vg.cell (i := 2) rfl
  have f3 := vg.cell (i := 3) rfl
  have f4 := vg.cell (i := 4) rfl
  have f5 := vg.cell (i := 5) rfl
  go_wp2_with fail
  refine (HI.out _ o1.lies).mono ?_
  rintro x w2 ⟨a2, c2, rfl, o2, b2⟩
  replace vt := vt.later b2
  replace vg := vg.later b2
  replace o1 := o1.later b2
  replace BW := BW.trans (b2.mono BW.size)
  clear e0 e1 e2 e3 e4 e5 f0 f1 f2 f3 f4 f5 b2
  (try dsimp only at o2)
  have vx : RowG.Var 26 (w2.alloc (.cells #[.int .i64 x0, .string x1, .slice a2 x2.length c2, .int .i64 x3, .int .i64 x4, .bool x5] 26)) w2.heap.size [.int .i64 x0, .string x1, .slice a2 x2.length c2, .int .i64 x3, .int .i64 x4, .bool x5] := RowG.Var.new _ _
  replace vx := vx.alloc (.cells #[.int .i64 y0, .string y1, .int .i64 y2, .int .i64 y3, .bool y4, .bool y5] 28)
  have vy : RowG.Var 28 ((w2.alloc (.cells #[.int .i64 x0, .string x1, .slice a2 x2.length c2, .int .i64 x3, .int .i64 x4, .bool x5] 26)).alloc (.cells #[.int .i64 y0, .string y1, .int .i64 y2, .int .i64 y3, .bool y4, .bool y5] 28)) (w2.heap.size + 1) [.int .i64 y0, .string y1, .int .i64 y2, .int .i64 y3, .bool y4, .bool y5] := by
    have := RowG.Var.new (T := 28) (w2.alloc (.cells #[.int .i64 x0, .string x1, .slice a2 x2.length c2, .int .i64 x3, .int .i64 x4, .bool x5] 26)) [.int .i64 y0, .string y1, .int .i64 y2, .int .i64 y3, .bool y4, .bool y5]
    simpa using this
  replace vt := (vt.alloc (.cells #[.int .i64 x0, .string x1, .slice a2 x2.length c2, .int .i64 x3, .int .i64 x4, .bool x5] 26)).alloc (.cells #[.int .i64 y0, .string y1, .int .i64 y2, .int .i64 y3, .bool y4, .bool y5] 28)
  replace vg := (vg.alloc (.cells #[.int .i64 x0, .string x1, .slice a2 x2.length c2, .int .i64 x3, .int .i64 x4, .bool x5] 26)).alloc (.cells #[.int .i64 y0, .string y1, .int .i64 y2, .int .i64 y3, .bool y4, .bool y5] 28)
  replace o1 := (o1.alloc (.cells #[.int .i64 x0, .string x1, .slice a2 x2.length c2, .int .i64 x3, .int .i64 x4, .bool x5] 26)).alloc (.cells #[.int .i64 y0, .string y1, .int .i64 y2, .int .i64 y3, .bool y4, .bool y5] 28)
  replace o2 := (o2.alloc (.cells #[.int .i64 x0, .string x1, .slice a2 x2.length c2, .int .i64 x3, .int .i64 x4, .bool x5] 26)).alloc (.cells #[.int .i64 y0, .string y1, .int .i64 y2, .int .i64 y3, .bool y4, .bool y5] 28)
  have BN : Below _ _ ((w2.alloc (.cells #[.int .i64 x0, .string x1, .slice a2 x2.length c2, .int .i64 x3, .int .i64 x4, .bool x5] 26)).alloc (.cells #[.int .i64 y0, .string y1, .int .i64 y2, .int .i64 y3, .bool y4, .bool y5] 28)) := (BW.alloc BW.size _).alloc (by have := BW.size; simp; omega) _
  clear BW
  go_upto_region 5 with (fail)
  generalize (w2.alloc (.cells #[.int .i64 x0, .string x1, .slice a2 x2.length c2, .int .i64 x3, .int .i64 x4, .bool x5] 26)).alloc (.cells #[.int .i64 y0, .string y1, .int .i64 y2, .int .i64 y3, .bool y4, .bool y5] 28) = W2 at *
  generalize w2.heap.size = kx at *
  have BW := BN
  clear BN
  go_wp2_with fail
  refine (Pum.drawCanPump _ _ _ _ (hb.below BW (Nat.le_refl _)) hl).mono ?_
  rintro x w3 ⟨⟨s0, s1, s2, s3, s4, s5⟩, hsd, ⟨h0, h1, h2, h3, h4, h5⟩, hhs, a3, c3, rfl, o3, b3⟩
  obtain ⟨hsb, hsl, hss⟩ := hsd
  dsimp only at hsb hsl hss hhs o3
  have hsl2 : s2.length ≤ 2097152 := by omega
  have hss2 : s1.size ≤ 2097152 := by omega
  have hhs2 : h1.size ≤ 2097152 := by omega
  have hC1 := fun w' (hL : Tak.partE.Lies w' a3 s2) => Pum.implCanPump ⟨s0, s1, s2, s3, s4, s5⟩ a3 c3 ⟨h0, h1, h2, h3, h4, h5⟩ w' hL o3.none_cap hsl2 hss2 hsb hhs2
  have hC2 := fun w' (hL : Tak.partE.Lies w' a3 s2) => Pum.specCanPump ⟨s0, s1, s2, s3, s4, s5⟩ a3 c3 ⟨h0, h1, h2, h3, h4, h5⟩ w' hL hsl2 hss2 hsb hhs2
  obtain ⟨cb, hCb⟩ : ∃ k, Pum.canI ⟨s0, s1, s2, s3, s4, s5⟩ ⟨h0, h1, h2, h3, h4, h5⟩ = k := ⟨_, rfl⟩
  rw [hCb] at hC1 hC2
  clear hCb
  dsimp only [Tak.Tk.v, Giv.Gv.v] at hC1 hC2 ⊢
  have HC1 : Hid _ := hC1
  have HC2 : Hid _ := hC2
  clear hC1 hC2 hsb hsl hss hhs hsl2 hss2 hhs2
  replace vt := vt.later b3
  replace vg := vg.later b3
  replace vx := vx.later b3
  replace vy := vy.later b3
  replace o1 := o1.later b3
  replace o2 := o2.later b3
  replace BW := BW.trans (b3.mono BW.size)
  clear b3
  have va : RowG.Var 26 (w3.alloc (.cells #[.int .i64 s0, .string s1, .slice a3 s2.length c3, .int .i64 s3, .int .i64 s4, .bool s5] 26)) w3.heap.size [.int .i64 s0, .string s1, .slice a3 s2.length c3, .int .i64 s3, .int .i64 s4, .bool s5] := RowG.Var.new _ _
  replace va := va.alloc (.cells #[.int .i64 h0, .string h1, .int .i64 h2, .int .i64 h3, .bool h4, .bool h5] 28)
  have vb : RowG.Var 28 ((w3.alloc (.cells #[.int .i64 s0, .string s1, .slice a3 s2.length c3, .int .i64 s3, .int .i64 s4, .bool s5] 26)).alloc (.cells #[.int .i64 h0, .string h1, .int .i64 h2, .int .i64 h3, .bool h4, .bool h5] 28)) (w3.heap.size + 1) [.int .i64 h0, .string h1, .int .i64 h2, .int .i64 h3, .bool h4, .bool h5] := by
    have := RowG.Var.new (T := 28) (w3.alloc (.cells #[.int .i64 s0, .string s1, .slice a3 s2.length c3, .int .i64 s3, .int .i64 s4, .bool s5] 26)) [.int .i64 h0, .string h1, .int .i64 h2, .int .i64 h3, .bool h4, .bool h5]
    simpa using this
  replace vt := (vt.alloc (.cells #[.int .i64 s0, .string s1, .slice a3 s2.length c3, .int .i64 s3, .int .i64 s4, .bool s5] 26)).alloc (.cells #[.int .i64 h0, .string h1, .int .i64 h2, .int .i64 h3, .bool h4, .bool h5] 28)
  replace vg := (vg.alloc (.cells #[.int .i64 s0, .string s1, .slice a3 s2.length c3, .int .i64 s3, .int .i64 s4, .bool s5] 26)).alloc (.cells #[.int .i64 h0, .string h1, .int .i64 h2, .int .i64 h3, .bool h4, .bool h5] 28)
  replace vx := (vx.alloc (.cells #[.int .i64 s0, .string s1, .slice a3 s2.length c3, .int .i64 s3, .int .i64 s4, .bool s5] 26)).alloc (.cells #[.int .i64 h0, .string h1, .int .i64 h2, .int .i64 h3, .bool h4, .bool h5] 28)
  replace vy := (vy.alloc (.cells #[.int .i64 s0, .string s1, .slice a3 s2.length c3, .int .i64 s3, .int .i64 s4, .bool s5] 26)).alloc (.cells #[.int .i64 h0, .string h1, .int .i64 h2, .int .i64 h3, .bool h4, .bool h5] 28)
  replace o1 := (o1.alloc (.cells #[.int .i64 s0, .string s1, .slice a3 s2.length c3, .int .i64 s3, .int .i64 s4, .bool s5] 26)).alloc (.cells #[.int .i64 h0, .string h1, .int .i64 h2, .int .i64 h3, .bool h4, .bool h5] 28)
  replace o2 := (o2.alloc (.cells #[.int .i64 s0, .string s1, .slice a3 s2.length c3, .int .i64 s3, .int .i64 s4, .bool s5] 26)).alloc (.cells #[.int .i64 h0, .string h1, .int .i64 h2, .int .i64 h3, .bool h4, .bool h5] 28)
  replace o3 := (o3.alloc (.cells #[.int .i64 s0, .string s1, .slice a3 s2.length c3, .int .i64 s3, .int .i64 s4, .bool s5] 26)).alloc (.cells #[.int .i64 h0, .string h1, .int .i64 h2, .int .i64 h3, .bool h4, .bool h5] 28)
  have BN : Below _ _ ((w3.alloc (.cells #[.int .i64 s0, .string s1, .slice a3 s2.length c3, .int .i64 s3, .int .i64 s4, .bool s5] 26)).alloc (.cells #[.int .i64 h0, .string h1, .int .i64 h2, .int .i64 h3, .bool h4, .bool h5] 28)) := (BW.alloc BW.size _).alloc (by have := BW.size; simp; omega) _
  clear BW
  go_upto_region 6 with (fail)
  generalize (w3.alloc (.cells #[.int .i64 s0, .string s1, .slice a3 s2.length c3, .int .i64 s3, .int .i64 s4, .bool s5] 26)).alloc (.cells #[.int .i64 h0, .string h1, .int .i64 h2, .int .i64 h3, .bool h4, .bool h5] 28) = W3 at *
  generalize w3.heap.size = ka at *
  have BW := BN
  clear BN
  have e0 := vt.cell (i := 0) rfl
  have e1 := vt.cell (i := 1) rfl
  have e2 := vt.cell (i := 2) rfl
  have e3 := vt.cell (i := 3) rfl
  have e4 := vt.cell (i := 4) rfl
  have e5 := vt.cell (i := 5) rfl
  have f0 := vg.cell (i := 0) rfl
  have f1 := vg.cell (i := 1) rfl
  have f2 := vg.cell (i := 2) rfl
  have f3 := vg.cell (i := 3) rfl
  have f4 := vg.cell (i := 4) rfl
  have f5 := vg.cell (i := 5) rfl
  go_wp2_with fail
  refine (HS.out _ o1.lies).mono ?_
  rintro x w4 ⟨a4, c4, rfl, o4, b4⟩
  replace vt := vt.later b4
  replace vg := vg.later b4
  replace vx := vx.later b4
  replace vy := vy.later b4
  replace va := va.later b4
  replace vb := vb.later b4
  replace o1 := o1.later b4
  replace o2 := o2.later b4
  replace o3 := o3.later b4
  replace BW := BW.trans (b4.mono BW.size)
  clear e0 e1 e2 e3 e4 e5 f0 f1 f2 f3 f4 f5 b4
  have vu : RowG.Var 26 (w4.alloc (.cells #[.int .i64 x0, .string x1, .slice a4 x2.length c4, .int .i64 x3, .int .i64 x4, .bool x5] 26)) w4.heap.size [.int .i64 x0, .string x1, .slice a4 x2.length c4, .int .i64 x3, .int .i64 x4, .bool x5] := RowG.Var.new _ _
  replace vu := vu.alloc (.cells #[.int .i64 y0, .string y1, .int .i64 y2, .int .i64 y3, .bool y4, .bool y5] 28)
  have vv : RowG.Var 28 ((w4.alloc (.cells #[.int .i64 x0, .string x1, .slice a4 x2.length c4, .int .i64 x3, .int .i64 x4, .bool x5] 26)).alloc (.cells #[.int .i64 y0, .string y1, .int .i64 y2, .int .i64 y3, .bool y4, .bool y5] 28)) (w4.heap.size + 1) [.int .i64 y0, .string y1, .int .i64 y2, .int .i64 y3, .bool y4, .bool y5] := by
    have := RowG.Var.new (T := 28) (w4.alloc (.cells #[.int .i64 x0, .string x1, .slice a4 x2.length c4, .int .i64 x3, .int .i64 x4, .bool x5] 26)) [.int .i64 y0, .string y1, .int .i64 y2, .int .i64 y3, .bool y4, .bool y5]
    simpa using this
  replace vt := (vt.alloc (.cells #[.int .i64 x0, .string x1, .slice a4 x2.length c4, .int .i64 x3, .int .i64 x4, .bool x5] 26)).alloc (.cells #[.int .i64 y0, .string y1, .int .i64 y2, .int .i64 y3, .bool y4, .bool y5] 28)
  replace vg := (vg.alloc (.cells #[.int .i64 x0, .string x1, .slice a4 x2.length c4, .int .i64 x3, .int .i64 x4, .bool x5] 26)).alloc (.cells #[.int .i64 y0, .string y1, .int .i64 y2, .int .i64 y3, .bool y4, .bool y5] 28)
  replace vx := (vx.alloc (.cells #[.int .i64 x0, .string x1, .slice a4 x2.length c4, .int .i64 x3, .int .i64 x4, .bool x5] 26)).alloc (.cells #[.int .i64 y0, .string y1, .int .i64 y2, .int .i64 y3, .bool y4, .bool y5] 28)
  replace vy := (vy.alloc (.cells #[.int .i64 x0, .string x1, .slice a4 x2.length c4, .int .i64 x3, .int .i64 x4, .bool x5] 26)).alloc (.cells #[.int .i64 y0, .string y1, .int .i64 y2, .int .i64 y3, .bool y4, .bool y5] 28)
  replace va := (va.alloc (.cells #[.int .i64 x0, .string x1, .slice a4 x2.length c4, .int .i64 x3, .int .i64 x4, .bool x5] 26)).alloc (.cells #[.int .i64 y0, .string y1, .int .i64 y2, .int .i64 y3, .bool y4, .bool y5] 28)
  replace vb := (vb.alloc (.cells #[.int .i64 x0, .string x1, .slice a4 x2.length c4, .int .i64 x3, .int .i64 x4, .bool x5] 26)).alloc (.cells #[.int .i64 y0, .string y1, .int .i64 y2, .int .i64 y3, .bool y4, .bool y5] 28)
  replace o1 := (o1.alloc (.cells #[.int .i64 x0, .string x1, .slice a4 x2.length c4, .int .i64 x3, .int .i64 x4, .bool x5] 26)).alloc (.cells #[.int .i64 y0, .string y1, .int .i64 y2, .int .i64 y3, .bool y4, .bool y5] 28)
  replace o2 := (o2.alloc (.cells #[.int .i64 x0, .string x1, .slice a4 x2.length c4, .int .i64 x3, .int .i64 x4, .bool x5] 26)).alloc (.cells #[.int .i64 y0, .string y1, .int .i64 y2, .int .i64 y3, .bool y4, .bool y5] 28)
  replace o3 := (o3.alloc (.cells #[.int .i64 x0, .string x1, .slice a4 x2.length c4, .int .i64 x3, .int .i64 x4, .bool x5] 26)).alloc (.cells #[.int .i64 y0, .string y1, .int .i64 y2, .int .i64 y3, .bool y4, .bool y5] 28)
  replace o4 := (o4.alloc (.cells #[.int .i64 x0, .string x1, .slice a4 x2.length c4, .int .i64 x3, .int .i64 x4, .bool x5] 26)).alloc (.cells #[.int .i64 y0, .string y1, .int .i64 y2, .int .i64 y3, .bool y4, .bool y5] 28)
  have BN : Below _ _ ((w4.alloc (.cells #[.int .i64 x0, .string x1, .slice a4 x2.length c4, .int .i64 x3, .int .i64 x4, .bool x5] 26)).alloc (.cells #[.int .i64 y0, .string y1, .int .i64 y2, .int .i64 y3, .bool y4, .bool y5] 28)) := (BW.alloc BW.size _).alloc (by have := BW.size; simp; omega) _
  clear BW
  go_upto_region 7 with (fail)
  generalize (w4.alloc (.cells #[.int .i64 x0, .string x1, .slice a4 x2.length c4, .int .i64 x3, .int .i64 x4, .bool x5] 26)).alloc (.cells #[.int .i64 y0, .string y1, .int .i64 y2, .int .i64 y3, .bool y4, .bool y5] 28) = W4 at *
  generalize w4.heap.size = ku at *
  have BW := BN
  clear BN
  have hx2 : x2.length ≤ 2097152 := by
    have e : (Pum.pumpT ⟨t0, t1, t2, t3, t4, t5⟩ ⟨g0, g1, g2, g3, g4, g5⟩ n).l.length ≤ t2.length := by
      unfold Pum.pumpT
      split
      · simp [Pum.leftT]
      · simp [Tak.zeroK]
    rw [HT.out] at e
    dsimp only at e
    omega
  have hmix := Tak.mix
  have hLK := fun w' (h1 : Tak.partE.Lies w' a2 x2) (h2 : Tak.partE.Lies w' a4 x2) => Tak.likeTaker x0 x1 a2 a4 _ _ c2 c4 x3 x4 x5 x2 w' rfl rfl h1 h2 hx2
  have HLK : Hid _ := hLK
  clear hLK
  have L2 : Hid (Tak.partE.Lies W4 a2 x2) := o2.lies
  have L3 : Hid (Tak.partE.Lies W4 a3 s2) := o3.lies
  have L4 : Hid (Tak.partE.Lies W4 a4 x2) := o4.lies
  have d0 := Draw.Later.cell (vx.cell (i := 0) rfl)
  have d1 := Draw.Later.cell (vx.cell (i := 1) rfl)
  have d2 := Draw.Later.cell (vx.cell (i := 2) rfl)
  have d3 := Draw.Later.cell (vx.cell (i := 3) rfl)
  have d4 := Draw.Later.cell (vx.cell (i := 4) rfl)
  have d5 := Draw.Later.cell (vx.cell (i := 5) rfl)
  have f0 := Draw.Later.cell (vy.cell (i := 0) rfl)
  have f1 := Draw.Later.cell (vy.cell (i := 1) rfl)
  have f2 := Draw.Later.cell (vy.cell (i := 2) rfl)
  have f3 := Draw.Later.cell (vy.cell (i := 3) rfl)
  have f4 := Draw.Later.cell (vy.cell (i := 4) rfl)
  have f5 := Draw.Later.cell (vy.cell (i := 5) rfl)
  have i0 := Draw.Later.cell (vu.cell (i := 0) rfl)
  have i1 := Draw.Later.cell (vu.cell (i := 1) rfl)
  have i2 := Draw.Later.cell (vu.cell (i := 2) rfl)
  have i3 := Draw.Later.cell (vu.cell (i := 3) rfl)
  have i4 := Draw.Later.cell (vu.cell (i := 4) rfl)
  have i5 := Draw.Later.cell (vu.cell (i := 5) rfl)
  have j0 := Draw.Later.cell (vv.cell (i := 0) rfl)
  have j1 := Draw.Later.cell (vv.cell (i := 1) rfl)
  have j2 := Draw.Later.cell (vv.cell (i := 2) rfl)
  have j3 := Draw.Later.cell (vv.cell (i := 3) rfl)
  have j4 := Draw.Later.cell (vv.cell (i := 4) rfl)
  have j5 := Draw.Later.cell (vv.cell (i := 5) rfl)
  have m0 := Draw.Later.cell (va.cell (i := 0) rfl)
  have m1 := Draw.Later.cell (va.cell (i := 1) rfl)
  have m2 := Draw.Later.cell (va.cell (i := 2) rfl)
  have m3 := Draw.Later.cell (va.cell (i := 3) rfl)
  have m4 := Draw.Later.cell (va.cell (i := 4) rfl)
  have m5 := Draw.Later.cell (va.cell (i := 5) rfl)
  have p0 := Draw.Later.cell (vb.cell (i := 0) rfl)
  have p1 := Draw.Later.cell (vb.cell (i := 1) rfl)
  have p2 := Draw.Later.cell (vb.cell (i := 2) rfl)
  have p3 := Draw.Later.cell (vb.cell (i := 3) rfl)
  have p4 := Draw.Later.cell (vb.cell (i := 4) rfl)
  have p5 := Draw.Later.cell (vb.cell (i := 5) rfl)
  refine Draw.wp_region_later hmix (by kernel_rfl) ?_
  repeat (go_big_quiet_step (first | (go_at_call 11; exact Draw.later_of (HLK.out _ (L2.out.later (Draw.Later.h _)) (L4.out.later (Draw.Later.h _)))) | (go_at_call 12; exact Draw.later_of (HC1.out _ (L3.out.later (Draw.Later.h _)))) | (go_at_call 13; exact Draw.later_of (HC2.out _ (L3.out.later (Draw.Later.h _))))))
  refine wpQuiet_nil ?_
  intro wq hw'
  obtain ⟨q9, hq⟩ := hw'
  have hBq := q9.h
  rw [← hq] at hBq
  clear hq q9
  clear d0 d1 d2 d3 d4 d5 f0 f1 f2 f3 f4 f5 i0 i1 i2 i3 i4 i5 j0 j1 j2 j3 j4 j5 m0 m1 m2 m3 m4 m5 p0 p1 p2 p3 p4 p5 L2 L3 L4 HLK HC1 HC2 va vb vu vv o3 o4
  replace vt := vt.later hBq
  replace vg := vg.later hBq
  replace vx := vx.later hBq
  replace vy := vy.later hBq
  replace o1 := o1.later hBq
  replace o2 := o2.later hBq
  replace BW := BW.trans (hBq.mono BW.size)
  clear hBq
  by_cases hpb : Pum.pumpB ⟨t0, t1, t2, t3, t4, t5⟩ ⟨g0, g1, g2, g3, g4, g5⟩ n = true
  case neg =>
    obtain ⟨z1, z2, z3, z4⟩ := Pum.pump_no (by simpa using hpb)
    rw [HT.out] at z1
    rw [HG.out] at z2
    rw [HK.out] at z3
    clear HT HG HK HI HS HC HCA hpb
    simp only [Tak.zeroK, Tak.Tk.mk.injEq] at z1
    simp only [Giv.zeroG, Giv.Gv.mk.injEq] at z2
    obtain ⟨rfl, rfl, rfl, rfl, rfl, rfl⟩ := z1
    obtain ⟨rfl, rfl, rfl, rfl, rfl, rfl⟩ := z2
    subst z3
    obtain ⟨tb, htb⟩ : ∃ b, Tak.Tk.ok ⟨t0, t1, t2, t3, t4, t5⟩ = b := ⟨_, rfl⟩
    obtain ⟨gb, hgb⟩ : ∃ b, Giv.Gv.ok ⟨g0, g1, g2, g3, g4, g5⟩ = b := ⟨_, rfl⟩
    have hTO := fun w' (hL : Tak.partE.Lies w' a1 t2) => Tak.specTakerOk t0 t1 a1 t2.length c1 t3 t4 t5 t2 w' rfl hL hl2 hb2 hbd.up
    rw [show Tak.takerB t0 t1 t2 t3 t4 t5 = tb from htb] at hTO
    have hGO := fun w' => Giv.specGiverOk ⟨g0, g1, g2, g3, g4, g5⟩ w' hg2
    rw [hgb] at hGO
    rw [htb, hgb] at z4
    dsimp only [Giv.Gv.v] at hGO
    have HTO : Hid _ := hTO
    have HGO : Hid _ := hGO
    clear hTO hGO htb hgb
    have hLK := fun w' (h1 : Tak.partE.Lies w' a2 []) => Tak.likeTaker 0 ⟨#[]⟩ a2 none 0 0 c2 0 0 0 false [] w' rfl rfl h1 (RowG.El.Lies.nil _ _) (by simp)
    have HLK : Hid _ := hLK
    clear hLK
    have L1 : Hid (Tak.partE.Lies wq a1 t2) := o1.lies
    have L2 : Hid (Tak.partE.Lies wq a2 []) := o2.lies
    have h4 : tb = false ∨ tb = true ∧ (gb = false ∨ gb = true ∧ (n < 0 ∨ ¬ n < 0 ∧ 400 < n)) := by
      cases tb <;> cases gb <;> simp at z4 ⊢
      omega
    clear z4
    simp only [List.length_nil] at *
    have d0 := vx.cell (i := 0) rfl
    have d1 := vx.cell (i := 1) rfl
    have d2 := vx.cell (i := 2) rfl
    have d3 := vx.cell (i := 3) rfl
    have d4 := vx.cell (i := 4) rfl
    have d5 := vx.cell (i := 5) rfl
    go_wp2_with fail
    refine (HLK.out _ L2.out).mono ?_
    rintro x wr ⟨rfl, b5⟩
    replace vt := vt.later b5
    replace vg := vg.later b5
    replace vx := vx.later b5
    replace vy := vy.later b5
    replace o1 := o1.later b5
    replace o2 := o2.later b5
    replace BW := BW.trans (b5.mono BW.size)
    clear b5 d0 d1 d2 d3 d4 d5 L1 L2 HLK
    have d0 := vy.cell (i := 0) rfl
    have d1 := vy.cell (i := 1) rfl
    have d2 := vy.cell (i := 2) rfl
    have d3 := vy.cell (i := 3) rfl
    have d4 := vy.cell (i := 4) rfl
    have d5 := vy.cell (i := 5) rfl
    have e0 := vt.cell (i := 0) rfl
    have e1 := vt.cell (i := 1) rfl
    have e2 := vt.cell (i := 2) rfl
    have e3 := vt.cell (i := 3) rfl
    have e4 := vt.cell (i := 4) rfl
    have e5 := vt.cell (i := 5) rfl
    go_wp2_with fail
    refine (HTO.out _ o1.lies).mono ?_
    rintro x ws ⟨rfl, b5⟩
    replace vt := vt.later b5
    replace vg := vg.later b5
    replace vx := vx.later b5
    replace vy := vy.later b5
    replace o1 := o1.later b5
    replace o2 := o2.later b5
    replace BW := BW.trans (b5.mono BW.size)
    clear b5 d0 d1 d2 d3 d4 d5 e0 e1 e2 e3 e4 e5
    have d0 := vg.cell (i := 0) rfl
    have d1 := vg.cell (i := 1) rfl
    have d2 := vg.cell (i := 2) rfl
    have d3 := vg.cell (i := 3) rfl
    have d4 := vg.cell (i := 4) rfl
    have d5 := vg.cell (i := 5) rfl
    rcases h4 with rfl | ⟨rfl, h4⟩
    · go_wp2_with fail
      go_ret
      exact ⟨rfl, BW⟩
    go_wp2_with fail
    refine (HGO.out _).mono ?_
    rintro x wu ⟨rfl, b5⟩
    replace BW := BW.trans (b5.mono BW.size)
    clear b5
    rcases h4 with rfl | ⟨rfl, hn | ⟨hn, hn2⟩⟩
    · go_wp2_with fail
      go_ret
      exact ⟨rfl, BW⟩
    · have hd1 : decide (n < 0) = true := by simpa using hn
      go_wp2_with fail
      go_ret
      exact ⟨rfl, BW⟩
    · have hd1 : decide (n < 0) = false := by simpa using hn
      have hd2 : decide (400 < n) = true := by simpa using hn2
      go_wp2_with fail
      go_ret
      exact ⟨rfl, BW⟩
  obtain ⟨kk, z1, z2, z3, z4, z5, z6, z7, z8, z9⟩ := Pum.pump_facts hpb
  rw [HK.out] at z1
  rw [HCA.out] at z4 z5
  rw [HT.out] at z6 z7
  rw [HG.out] at z8 z9
  dsimp only at z2 z6 z9
  simp only [Tak.Tk.mk.injEq] at z6
  simp only [Giv.Gv.mk.injEq] at z9
  clear HT HG HK HI HS HCA hpb
  obtain ⟨rfl, rfl, rfl, rfl, rfl, rfl⟩ := z6
  obtain ⟨rfl, rfl, rfl, rfl, rfl, rfl⟩ := z9
  subst z1
  have hxz : (t1.extract kk t1.size).size ≤ 2097152 := by
    rw [ByteArray.size_extract]
    omega
  have hyz : (g1 ++ t1.extract 0 kk).size ≤ 2097152 := by
    obtain ⟨i1, i2, i3, i4, i5, i6, i7⟩ := Giv.ok_iff.1 z8
    dsimp only at *
    omega
  have hTX := fun w' (hL : Tak.partE.Lies w' a2 x2) => Tak.implTakerOk x0 (t1.extract kk t1.size) a2 x2.length c2 x3 x4 x5 x2 w' rfl hL hl2 hxz hbd
  rw [show Tak.takerB x0 (t1.extract kk t1.size) x2 x3 x4 x5 = true from z7] at hTX
  have hGX := fun w' => Giv.implGiverOk ⟨y0, g1 ++ t1.extract 0 kk, y2, y3, (g4 || (x5 && decide ((t1.size : Int) = (kk : Int)))), y5⟩ w' hyz
  rw [z8] at hGX
  dsimp only [Giv.Gv.v] at hGX
  have HTX : Hid _ := hTX
  clear hTX z7 z8 hxz hyz
  obtain ⟨q, hq⟩ : ∃ q, decide ((t1.size : Int) = (kk : Int)) = q := ⟨_, rfl⟩
  have hq2 : ((t1.size : Int) == (kk : Int)) = q := by
    rw [← hq]
    rfl
  rw [hq] at hGX vy
  clear hq
  have h5 : (decide ((kk : Int) < n) = false) ∨ (decide ((kk : Int) < n) = true ∧ decide ((kk : Int) < ca) = false) := by
    by_cases e1 : (kk : Int) < n
    · exact .inr ⟨by simpa using e1, by simp; omega⟩
    · exact .inl (by simpa using e1)
  have hd1 : decide (n < (kk : Int)) = false := by simp; omega
  have hd2 : decide (ca < (kk : Int)) = false := by simp; omega
  have hd3 : decide ((kk : Int) < 0) = false := by simp
  have hk1 : kk ≤ t1.size := z2
  clear z3 z4 z5
  have e0 := vt.cell (i := 0) rfl
  have e1 := vt.cell (i := 1) rfl
  have e2 := vt.cell (i := 2) rfl
  have e3 := vt.cell (i := 3) rfl
  have e4 := vt.cell (i := 4) rfl
  have e5 := vt.cell (i := 5) rfl
  have f0 := vg.cell (i := 0) rfl
  have f1 := vg.cell (i := 1) rfl
  have f2 := vg.cell (i := 2) rfl
  have f3 := vg.cell (i := 3) rfl
  have f4 := vg.cell (i := 4) rfl
  have f5 := vg.cell (i := 5) rfl
  go_wp2_with fail
  refine (HC.out _ o1.lies).mono ?_
  rintro x wr ⟨rfl, b5⟩
  replace vt := vt.later b5
  replace vg := vg.later b5
  replace vx := vx.later b5
  replace vy := vy.later b5
  replace o1 := o1.later b5
  replace o2 := o2.later b5
  replace BW := BW.trans (b5.mono BW.size)
  clear b5 e0 e1 e2 e3 e4 e5 f0 f1 f2 f3 f4 f5 HC
  have e0 := vt.cell (i := 0) rfl
  have e1 := vt.cell (i := 1) rfl
  have e2 := vt.cell (i := 2) rfl
  have e3 := vt.cell (i := 3) rfl
  have e4 := vt.cell (i := 4) rfl
  have e5 := vt.cell (i := 5) rfl
  have h6 : (x5 = false ∧ q = q) ∨ (x5 = true ∧ q = false) ∨ (x5 = true ∧ q = true) := by
    cases x5 <;> cases q <;> simp
  have h7 : g4 = false ∨ g4 = true := by cases g4 <;> simp
  have L2 : Hid (Tak.partE.Lies wr a2 x2) := o2.lies
  rcases h5 with h5 | ⟨h5, h5b⟩ <;> rcases h6 with ⟨rfl, h6⟩ | ⟨rfl, rfl⟩ | ⟨rfl, rfl⟩ <;> rcases h7 with rfl | rfl
  all_goals
    simp only [Bool.false_and, Bool.true_and, Bool.or_false, Bool.or_true, Bool.true_or, Bool.false_or, Bool.and_false, Bool.and_true] at hGX vy
    have HGX : Hid _ := hGX
    clear hGX
    go_upto_region 15 with (fail)
    clear e0 e1 e2 e3 e4 e5
    have d0 := Draw.Later.cell (vx.cell (i := 0) rfl)
    have d1 := Draw.Later.cell (vx.cell (i := 1) rfl)
    have d2 := Draw.Later.cell (vx.cell (i := 2) rfl)
    have d3 := Draw.Later.cell (vx.cell (i := 3) rfl)
    have d4 := Draw.Later.cell (vx.cell (i := 4) rfl)
    have d5 := Draw.Later.cell (vx.cell (i := 5) rfl)
    have f0 := Draw.Later.cell (vy.cell (i := 0) rfl)
    have f1 := Draw.Later.cell (vy.cell (i := 1) rfl)
    have f2 := Draw.Later.cell (vy.cell (i := 2) rfl)
    have f3 := Draw.Later.cell (vy.cell (i := 3) rfl)
    have f4 := Draw.Later.cell (vy.cell (i := 4) rfl)
    have f5 := Draw.Later.cell (vy.cell (i := 5) rfl)
    have i0 := Draw.Later.cell (vt.cell (i := 0) rfl)
    have i1 := Draw.Later.cell (vt.cell (i := 1) rfl)
    have i2 := Draw.Later.cell (vt.cell (i := 2) rfl)
    have i3 := Draw.Later.cell (vt.cell (i := 3) rfl)
    have i4 := Draw.Later.cell (vt.cell (i := 4) rfl)
    have i5 := Draw.Later.cell (vt.cell (i := 5) rfl)
    have j0 := Draw.Later.cell (vg.cell (i := 0) rfl)
    have j1 := Draw.Later.cell (vg.cell (i := 1) rfl)
    have j2 := Draw.Later.cell (vg.cell (i := 2) rfl)
    have j3 := Draw.Later.cell (vg.cell (i := 3) rfl)
    have j4 := Draw.Later.cell (vg.cell (i := 4) rfl)
    have j5 := Draw.Later.cell (vg.cell (i := 5) rfl)
    refine Draw.wp_region_later hmix (by kernel_rfl) ?_
    repeat (go_big_quiet_step (first | (go_at_call 16; exact Draw.later_of (HTX.out _ (L2.out.later (Draw.Later.h _)))) | (go_at_call 17; exact Draw.later_of (HGX.out _))))
    refine wpQuiet_nil ?_
    intro wz hw'
    obtain ⟨q9, hq⟩ := hw'
    have hBq := q9.h
    rw [← hq] at hBq
    clear hq q9
    go_wp2_with fail
    go_ret
    exact ⟨rfl, BW.trans (hBq.mono BW.size)⟩

/-! ### THE ROW's STEP: WRITTEN OUT: LEAVE IT -/
set_option maxRecDepth 100000 in
theorem lifted (os : Os) (started : os.Started) (H : Type) (enc : TypeId × Value → H) :
    ReturnsInHanded {} Try.checked os 3 .any (Rows.fnPumpsSpec.pre6 enc Try.prog Try.f3 Rows.fnPumpsRow.domain false) (Rows.fnPumpsSpec.post enc Try.prog Try.f3 false true false false) := by
  refine returnsInHanded_of_change (C := Try.checked) own started (by kernel_rfl) Try.func3
    (ChangeSpec.witness6 (enc := enc) (C := Try.checked) false ⟨#[], #[.slice none 0 0], []⟩ 8 (by kernel_rfl) (by kernel_rfl) (by kernel_rfl) (by kernel_rfl)) ?_
  intro W base args ds gs before hval0 hW hcnd _
  have hval : ∀ (j : Nat) t v, Try.f3.params[j]? = some t → args[j]? = some v → Value.okWide Try.prog W .any base t v := hval0
  have hW' := hW
  obtain ⟨p, q, hA0, hV, rfl, hfz, hnd⟩ := hW
  have hA : DataW.TrodAll enc Try.prog W 0 (fun _ => true) true Try.f3.params.toList args.toList ds p := hA0
  rw [Try.params3] at hA hval
  obtain ⟨v0, vs0, d0, ds0, p0, q0, hargs, rfl, rfl, h0, r0⟩ := trodAll_cons hA
  obtain ⟨rfl, rfl, rfl⟩ := trodAll_nil r0
  obtain rfl : args = #[v0] := by cases args; simp_all
  obtain ⟨rfl, rfl⟩ := trodVars_none hV
  obtain ⟨a0, len0, cap0, rfl⟩ := okWide_slice Try.underlying22 (hval 0 22 v0 rfl rfl)
  have k0 := h0
  have lt0 : ∀ x ∈ p0, x.block < W.heap.size := by obtain ⟨m, hm⟩ := k0; exact DataW.trod_lt m _ _ _ hm
  obtain ⟨z0, w0⟩ : ∃ zs, IsRow .u8 W a0 len0 cap0 zs := by
    obtain ⟨fuel, hf⟩ := h0
    rcases open_ints Try.underlying22 Try.underlying5 (by kernel_rfl) hf with ⟨hcs, _⟩ | ⟨x, l, c, zs, hcs, _, hl, hm, hz, _, hcell, hwz⟩
    · simp [Value.cells] at hcs
      obtain ⟨rfl, rfl, rfl⟩ := hcs
      exact ⟨[], .inl ⟨rfl, rfl, rfl, rfl⟩⟩
    · simp [Value.cells] at hcs
      obtain ⟨rfl, rfl, rfl⟩ := hcs
      exact ⟨zs, .inr ⟨_, rfl, hl, hm, by simpa using hz, hcell, hwz⟩⟩
  clear hA0 hval0
  refine (walk a0 len0 cap0 z0 W w0).mono fun e W' ⟨he, bel⟩ => ?_
  subst he
  exact ⟨_, rfl, _, _, _, [], _, [], hW', trodAll_mk1 (shut_bool Try.underlying4 _), (trodAll_cons_mk (Below.trod laidOut (by kernel_rfl) (of_decide_eq_true (by kernel_rfl)) k0 bel lt0) trodAll_mk0), rfl, bel.frame _, fun h => by cases h⟩

theorem over : Rows.fnPumpsRow.holds Try.pinned (OpenSpec.ofChange Rows.fnPumpsSpec) :=
  OpenClaim.holds_of_wide 3 Try.f3 rfl rfl rfl rfl rfl rfl rfl ⟨rfl, rfl, rfl, rfl, rfl⟩ rfl rfl rfl rfl rfl (by kernel_rfl) Try.func3 (by kernel_rfl)
    (of_decide_eq_true (by kernel_rfl)) (by unfold Func.isWrapper; first | (rw [if_pos (by decide +kernel)]; kernel_rfl) | (rw [if_neg (by decide +kernel)]; exact ⟨rfl, rfl⟩))
    (fun os started H enc _ => lifted os started H enc)

/-- THE STATEMENT. -/
theorem proved : Rows.FnPumpsSaid := over
end Go.Proofs.Ythdkajaodfkgnaa.fnPumps
namespace Go.Proofs.Ythdkajaodfkgnaa
theorem fnPumps_holds : Rows.FnPumpsSaid := fnPumps.proved
#print axioms fnPumps_holds
end Go.Proofs.Ythdkajaodfkgnaa

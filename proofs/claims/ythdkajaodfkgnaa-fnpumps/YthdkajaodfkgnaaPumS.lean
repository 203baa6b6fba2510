/- The program's porter: giveUpUnless, readyOf, writtenTo, Pumps, CanPump: as the specification's; no condition but that texts and parts are not too great. (PumP, PumQ and PumR laid together: a claim may hold 60 files.) -/
import Derived.Test.YthdkajaodfkgnaaPumM
import Derived.Test.YthdkajaodfkgnaaTakS
import Derived.Test.YthdkajaodfkgnaaTakU
import Derived.Test.YthdkajaodfkgnaaGivP
import Derived.Test.YthdkajaodfkgnaaGivS
import Derived.WalkLawsBesides
import Derived.Recover
import Derived.Defers
import Derived.Laws.Cover1
namespace Go.Proofs.Ythdkajaodfkgnaa.Pum
open Go.RowKit RowG Tak Giv
set_option linter.unusedVariables false
set_option linter.unusedSimpArgs false

theorem giveYes (w : World) : Calls Try.prog 60 #[.bool true] w fun x w' => x = .returned (.tuple #[]) ∧ w' = w := by
  go_enter Try.func60, Try.ntmps60
  go_wp2_with fail
  go_end0
  exact ⟨rfl, rfl⟩

theorem giveNo (w : World) : Calls Try.prog 60 #[.bool false] w fun x w' => (∃ T u, x = .panicked [{ v := .iface T u, recovered := false }]) ∧ w' = w := by
  go_enter Try.func60, Try.ntmps60
  go_wp2_with fail
  exact ⟨rfl, ⟨_, _, rfl⟩, rfl⟩

set_option maxRecDepth 10000 in
set_option maxHeartbeats 4000000 in
theorem readyYes (t : Tk) (a : Option Addr) (c : Nat) (n : Int) (w : World) (h : partE.Lies w a t.l) (hl : t.l.length ≤ 2097152) (hbs : t.bs.size ≤ 2097152) (hp : Bd t.l) (hok : t.ok = true) (h0 : 0 ≤ n) (h1 : n ≤ 400) :
    Calls Try.prog 31 #[.agg #[.int .i64 t.nx, .string t.bs, .slice a t.l.length c, .int .i64 t.cp, .int .i64 t.fi, .bool t.en], .int .i64 n] w fun x w' => x = .returned (.string (t.bs.extract 0 (min n t.bs.size).toNat)) ∧ Below w.heap.size w w' := by
  have bW := (Below.refl w.heap.size w).alloc (Nat.le_refl _) (.cells #[.int .i64 t.nx, .string t.bs, .slice a t.l.length c, .int .i64 t.cp, .int .i64 t.fi, .bool t.en] 26)
  have v1 : Var 26 (w.alloc (.cells #[.int .i64 t.nx, .string t.bs, .slice a t.l.length c, .int .i64 t.cp, .int .i64 t.fi, .bool t.en] 26)) w.heap.size [.int .i64 t.nx, .string t.bs, .slice a t.l.length c, .int .i64 t.cp, .int .i64 t.fi, .bool t.en] := Var.new w _
  go_enter Try.func31, Try.ntmps31
  go_wp2_with fail
  generalize w.alloc (.cells #[.int .i64 t.nx, .string t.bs, .slice a t.l.length c, .int .i64 t.cp, .int .i64 t.fi, .bool t.en] 26) = V at *
  refine (implTakerOk t.nx t.bs a t.l.length c t.cp t.fi t.en t.l _ rfl (h.later bW) hl hbs hp).mono ?_
  rintro x w1 ⟨rfl, b1⟩
  have B1 := bW.trans (b1.mono bW.size)
  rw [show takerB t.nx t.bs t.l t.cp t.fi t.en = true from hok]
  replace v1 := v1.later b1
  have e1 := v1.cell (i := 1) rfl
  have hn : ∃ m : Nat, min n (t.bs.size : Int) = (m : Int) ∧ m ≤ t.bs.size := ⟨(min n (t.bs.size : Int)).toNat, by omega, by omega⟩
  obtain ⟨m, hm, hm1⟩ := hn
  have HM : Hid (min n (t.bs.size : Int) = (m : Int)) := hm
  go_wp2_with fail
  refine (giveYes _).mono ?_
  rintro x w2 ⟨rfl, rfl⟩
  go_wp2_with fail
  · go_ret
    refine ⟨?_, B1⟩
    have hm2 : m = t.bs.size := by omega
    rw [hm2, ByteArray.extract_zero_size]
    rfl
  · go_ret
    refine ⟨?_, B1⟩
    rw [show n.toNat = m by omega]
    rfl

set_option maxRecDepth 10000 in
set_option maxHeartbeats 4000000 in
theorem readyNo (t : Tk) (a : Option Addr) (c : Nat) (n : Int) (w : World) (h : partE.Lies w a t.l) (hl : t.l.length ≤ 2097152) (hbs : t.bs.size ≤ 2097152) (hp : Bd t.l) (hno : t.ok = false ∨ t.ok = true ∧ n < 0 ∨ t.ok = true ∧ 0 ≤ n ∧ 400 < n) :
    Calls Try.prog 31 #[.agg #[.int .i64 t.nx, .string t.bs, .slice a t.l.length c, .int .i64 t.cp, .int .i64 t.fi, .bool t.en], .int .i64 n] w fun x w' => (∃ T u, x = .panicked [{ v := .iface T u, recovered := false }]) ∧ Below w.heap.size w w' := by
  have bW := (Below.refl w.heap.size w).alloc (Nat.le_refl _) (.cells #[.int .i64 t.nx, .string t.bs, .slice a t.l.length c, .int .i64 t.cp, .int .i64 t.fi, .bool t.en] 26)
  go_enter Try.func31, Try.ntmps31
  go_wp2_with fail
  generalize w.alloc (.cells #[.int .i64 t.nx, .string t.bs, .slice a t.l.length c, .int .i64 t.cp, .int .i64 t.fi, .bool t.en] 26) = V at *
  refine (implTakerOk t.nx t.bs a t.l.length c t.cp t.fi t.en t.l _ rfl (h.later bW) hl hbs hp).mono ?_
  rintro x w1 ⟨rfl, b1⟩
  have B1 := bW.trans (b1.mono bW.size)
  rcases hno with hno | ⟨hok, hno⟩ | ⟨hok, h0, hno⟩
  · rw [show takerB t.nx t.bs t.l t.cp t.fi t.en = false from hno]
    go_wp2_with fail
    refine (giveNo _).mono ?_
    rintro x w2 ⟨⟨T, u, rfl⟩, rfl⟩
    go_wp2_with fail
    exact ⟨rfl, ⟨_, _, rfl⟩, B1⟩
  · rw [show takerB t.nx t.bs t.l t.cp t.fi t.en = true from hok]
    have hd : ¬ (0 ≤ n) := by omega
    go_wp2_with fail
    refine (giveNo _).mono ?_
    rintro x w2 ⟨⟨T, u, rfl⟩, rfl⟩
    go_wp2_with fail
    exact ⟨rfl, ⟨_, _, rfl⟩, B1⟩
  · rw [show takerB t.nx t.bs t.l t.cp t.fi t.en = true from hok]
    have hd : decide (n ≤ 400) = false := by simp; omega
    go_wp2_with fail
    refine (giveNo _).mono ?_
    rintro x w2 ⟨⟨T, u, rfl⟩, rfl⟩
    go_wp2_with fail
    exact ⟨rfl, ⟨_, _, rfl⟩, B1⟩

set_option maxRecDepth 10000 in
set_option maxHeartbeats 4000000 in
theorem writtenYes (g : Gv) (s : ByteArray) (w : World) (hg : g.bs.size ≤ 2097152) (hs : s.size ≤ 2097152) (hok : g.ok = true) :
    Calls Try.prog 32 #[g.v, .string s] w fun x w' => x = .returned (.tuple #[(writeG g s).1.v, .int .i64 (writeG g s).2]) ∧ Below w.heap.size w w' := by
  have bW := ((Below.refl w.heap.size w).alloc (Nat.le_refl _) (.cells #[.int .i64 g.ba, .string g.bs, .int .i64 g.cp, .int .i64 g.lm, .bool g.en, .bool g.dn] 28)).alloc (by simp) (.cells #[.int .i64 0, .string ⟨#[]⟩, .int .i64 0, .int .i64 0, .bool false, .bool false] 28)
  have v1 : Var 28 ((w.alloc (.cells #[.int .i64 g.ba, .string g.bs, .int .i64 g.cp, .int .i64 g.lm, .bool g.en, .bool g.dn] 28)).alloc (.cells #[.int .i64 0, .string ⟨#[]⟩, .int .i64 0, .int .i64 0, .bool false, .bool false] 28)) (w.heap.size + 1) [.int .i64 0, .string ⟨#[]⟩, .int .i64 0, .int .i64 0, .bool false, .bool false] := by
    have := Var.new (T := 28) (w.alloc (.cells #[.int .i64 g.ba, .string g.bs, .int .i64 g.cp, .int .i64 g.lm, .bool g.en, .bool g.dn] 28)) [.int .i64 0, .string ⟨#[]⟩, .int .i64 0, .int .i64 0, .bool false, .bool false]
    simpa using this
  obtain ⟨x1, k1, hx⟩ : ∃ x1 k1, writeG g s = (x1, k1) := ⟨_, _, rfl⟩
  have hk : ¬ k1 = -1 := by
    have e : k1 = (writeG g s).2 := by rw [hx]
    rw [e]
    unfold writeG
    split
    · dsimp only
      omega
    · have := (fit_in hok s).1
      dsimp only
      omega
  have hW := fun w' => implWrites g s w' hg hs
  simp only [writesG, hok, if_true, hx] at hW
  rw [hx]
  dsimp only
  obtain ⟨y0, y1, y2, y3, y4, y5⟩ := x1
  have HX : Hid (writeG g s = (⟨y0, y1, y2, y3, y4, y5⟩, k1)) := hx
  clear hx
  dsimp only [Gv.v] at hW ⊢
  go_enter Try.func32, Try.ntmps32
  go_wp2_with fail
  generalize (w.alloc (.cells #[.int .i64 g.ba, .string g.bs, .int .i64 g.cp, .int .i64 g.lm, .bool g.en, .bool g.dn] 28)).alloc (.cells #[.int .i64 0, .string ⟨#[]⟩, .int .i64 0, .int .i64 0, .bool false, .bool false] 28) = V at *
  refine (hW _).mono ?_
  rintro x w1 ⟨rfl, b1⟩
  have B1 := bW.trans (b1.mono bW.size)
  have bX := b1.alloc b1.size (.cells #[.int .i64 y0, .string y1, .int .i64 y2, .int .i64 y3, .bool y4, .bool y5] 28)
  have B2 := bW.trans (bX.mono bW.size)
  have v2 : Var 28 (w1.alloc (.cells #[.int .i64 y0, .string y1, .int .i64 y2, .int .i64 y3, .bool y4, .bool y5] 28)) w1.heap.size [.int .i64 y0, .string y1, .int .i64 y2, .int .i64 y3, .bool y4, .bool y5] := Var.new w1 _
  replace v1 := v1.later bX
  have hkb : (k1 != -1) = true := by simpa using hk
  go_wp2_with fail
  generalize w1.alloc (.cells #[.int .i64 y0, .string y1, .int .i64 y2, .int .i64 y3, .bool y4, .bool y5] 28) = V2 at *
  refine (giveYes _).mono ?_
  rintro x w2 ⟨rfl, rfl⟩
  have e0 := v2.cell (i := 0) rfl
  have e1 := v2.cell (i := 1) rfl
  have e2 := v2.cell (i := 2) rfl
  have e3 := v2.cell (i := 3) rfl
  have e4 := v2.cell (i := 4) rfl
  have e5 := v2.cell (i := 5) rfl
  have r0 := v1.cell (i := 0) rfl
  have r1 := v1.cell (i := 1) rfl
  have r2 := v1.cell (i := 2) rfl
  have r3 := v1.cell (i := 3) rfl
  have r4 := v1.cell (i := 4) rfl
  have r5 := v1.cell (i := 5) rfl
  have q0 := v1.free 0
  have q1 := v1.free 1
  have q2 := v1.free 2
  have q3 := v1.free 3
  have q4 := v1.free 4
  have q5 := v1.free 5
  go_wp2_with fail
  refine bodyPost_ret (v := .tuple #[.agg #[.int .i64 y0, .string y1, .int .i64 y2, .int .i64 y3, .bool y4, .bool y5], .int .i64 k1]) (by rw [Tak.res_cell_tmp rfl]; go_simp; try rfl) rfl ⟨rfl, ?_⟩
  iterate 6 (refine Below.setCell ?_ (by dsimp only; omega) _)
  exact B2

set_option maxRecDepth 10000 in
set_option maxHeartbeats 4000000 in
theorem writtenNo (g : Gv) (s : ByteArray) (w : World) (hg : g.bs.size ≤ 2097152) (hs : s.size ≤ 2097152) (hok : g.ok = false) :
    Calls Try.prog 32 #[g.v, .string s] w fun x w' => (∃ T u, x = .panicked [{ v := .iface T u, recovered := false }]) ∧ Below w.heap.size w w' := by
  have bW := ((Below.refl w.heap.size w).alloc (Nat.le_refl _) (.cells #[.int .i64 g.ba, .string g.bs, .int .i64 g.cp, .int .i64 g.lm, .bool g.en, .bool g.dn] 28)).alloc (by simp) (.cells #[.int .i64 0, .string ⟨#[]⟩, .int .i64 0, .int .i64 0, .bool false, .bool false] 28)
  have hW := fun w' => implWrites g s w' hg hs
  simp only [writesG, hok] at hW
  dsimp only [Gv.v, zeroG] at hW ⊢
  go_enter Try.func32, Try.ntmps32
  go_wp2_with fail
  generalize (w.alloc (.cells #[.int .i64 g.ba, .string g.bs, .int .i64 g.cp, .int .i64 g.lm, .bool g.en, .bool g.dn] 28)).alloc (.cells #[.int .i64 0, .string ⟨#[]⟩, .int .i64 0, .int .i64 0, .bool false, .bool false] 28) = V at *
  refine (hW _).mono ?_
  rintro x w1 ⟨rfl, b1⟩
  have B1 := bW.trans (b1.mono bW.size)
  have B2 := B1.alloc B1.size (.cells #[.int .i64 0, .string ⟨#[]⟩, .int .i64 0, .int .i64 0, .bool false, .bool false] 28)
  go_wp2_with fail
  refine (giveNo _).mono ?_
  rintro x w2 ⟨⟨T, u, rfl⟩, rfl⟩
  go_wp2_with fail
  exact ⟨rfl, ⟨_, _, rfl⟩, B2⟩
end Go.Proofs.Ythdkajaodfkgnaa.Pum

namespace Go.Proofs.Ythdkajaodfkgnaa.Pum
open Go.RowKit RowG Tak Giv
set_option linter.unusedVariables false
set_option linter.unusedSimpArgs false

theorem catch_idle (p q r : Addr) (w : World) :
    CallsD Try.prog 30 #[.pointer (some p), .pointer (some q), .pointer (some r)] .returning w fun e u' w' => e = .returned (.tuple #[]) ∧ u' = .returning ∧ w' = w := by
  refine callsD_of_wpS Try.func30 rfl fun c₀ cs hu => ?_
  apply wpS_seq
  apply wpS_region
  simp [wpOpsS, go_sem, recoverD, hu, Try.ntmps30, Exit.thenS]
  refine wpS_cond (t := false) (by simp [Act.eval, Array.replicate]) ?_
  simp only [Bool.false_eq_true, if_false]
  refine wpS_of_wp (wp_skip ?_)
  cases c₀
  simp_all [bodyPostS, results, Try.results30]

set_option maxRecDepth 10000 in
set_option maxHeartbeats 4000000 in
theorem catch_panicking (k1 k2 k3 : Nat) (a0 a1 a2 a3 a4 a5 b0 b1 b2 b3 b4 b5 : Value) (x : Int) (u : TypeId) (pv : Value) (older : List PanicEntry) (w : World) (h1 : Var 26 w k1 [a0, a1, a2, a3, a4, a5]) (h2 : Var 28 w k2 [b0, b1, b2, b3, b4, b5]) (h3 : Var 2 w k3 [.int .i64 x]) (h12 : k1 ≠ k2) (h13 : k1 ≠ k3) (h23 : k2 ≠ k3) :
    CallsD Try.prog 30 #[.pointer (some ⟨k1, 0, none⟩), .pointer (some ⟨k2, 0, none⟩), .pointer (some ⟨k3, 0, none⟩)] (.panicking ({ v := .iface u pv, recovered := false } :: older)) w fun e u' w' =>
      e = .returned (.tuple #[]) ∧ u' = .panicking ({ v := .iface u pv, recovered := true } :: older) ∧ Var 26 w' k1 [.int .i64 0, .string ⟨#[]⟩, .slice none 0 0, .int .i64 0, .int .i64 0, .bool false] ∧ Var 28 w' k2 [.int .i64 0, .string ⟨#[]⟩, .int .i64 0, .int .i64 0, .bool false, .bool false] ∧ Var 2 w' k3 [.int .i64 (-1)] ∧ ∀ B : Nat, B ≤ k1 → B ≤ k2 → B ≤ k3 → B ≤ w.heap.size → Below B w w' := by
  refine callsD_of_wpS Try.func30 rfl fun c₀ cs hu => ?_
  apply wpS_seq
  apply wpS_region
  simp [wpOpsS, go_sem, recoverD, hu, Try.ntmps30, Exit.thenS]
  refine wpS_cond (t := true) (by simp [Act.eval, Array.replicate]) ?_
  simp only [if_true]
  refine wpS_of_wp ?_
  have e0 := h1.cell (i := 0) rfl
  have e1 := h1.cell (i := 1) rfl
  have e2 := h1.cell (i := 2) rfl
  have e3 := h1.cell (i := 3) rfl
  have e4 := h1.cell (i := 4) rfl
  have e5 := h1.cell (i := 5) rfl
  have r0 := h2.cell (i := 0) rfl
  have r1 := h2.cell (i := 1) rfl
  have r2 := h2.cell (i := 2) rfl
  have r3 := h2.cell (i := 3) rfl
  have r4 := h2.cell (i := 4) rfl
  have r5 := h2.cell (i := 5) rfl
  have f0 := h1.free 0
  have f1 := h1.free 1
  have f2 := h1.free 2
  have f3 := h1.free 3
  have f4 := h1.free 4
  have f5 := h1.free 5
  have q0 := h2.free 0
  have q1 := h2.free 1
  have q2 := h2.free 2
  have q3 := h2.free 3
  have q4 := h2.free 4
  have q5 := h2.free 5
  have s0 := h3.cell (i := 0) rfl
  have s1 := h3.free 0
  simp only [show (#[Value.pointer (some (⟨k1, 0, none⟩ : Addr)), Value.pointer (some ⟨k2, 0, none⟩), Value.pointer (some ⟨k3, 0, none⟩)] ++ ((Array.replicate 4 undef).setIfInBounds 0 (Value.iface u pv)).setIfInBounds 1 (Value.bool true)) = #[Value.pointer (some (⟨k1, 0, none⟩ : Addr)), Value.pointer (some ⟨k2, 0, none⟩), Value.pointer (some ⟨k3, 0, none⟩), Value.iface u pv, Value.bool true, undef, undef] from rfl]
  go_wp2_with fail
  refine ⟨rfl, _, rfl, .tuple #[], results_none rfl _ _ _, rfl, rfl, ?_, ?_, ?_, ?_⟩
  · exact (var_other6 (var_put6 h1 _ _ _ _ _ _) h12 _ _ _ _ _ _).other (p := ⟨k3, 0, none⟩) h13 _
  · exact (var_put6 (var_other6 h2 h12.symm _ _ _ _ _ _) _ _ _ _ _ _).other (p := ⟨k3, 0, none⟩) h23 _
  · exact (var_other6 (var_other6 h3 h13.symm _ _ _ _ _ _) h23.symm _ _ _ _ _ _).set 0 _
  · intro B g1 g2 g3 g4
    exact (below_put6 (below_put6 (Below.refl B w) g1 _ _ _ _ _ _) g2 _ _ _ _ _ _).setCell (p := ⟨k3, 0, none⟩) g3 _

set_option maxRecDepth 10000 in
set_option maxHeartbeats 4000000 in
theorem implPumps (t : Tk) (a : Option Addr) (c : Nat) (g : Gv) (n : Int) (w : World) (h : partE.Lies w a t.l) (ha : a = none → c = 0) (hl : t.l.length ≤ 2097152) (hbs : t.bs.size ≤ 2097152) (hp : Bd t.l) (hg : g.bs.size ≤ 2097152) :
    Calls Try.prog 8 #[.agg #[.int .i64 t.nx, .string t.bs, .slice a t.l.length c, .int .i64 t.cp, .int .i64 t.fi, .bool t.en], g.v, .int .i64 n] w fun x w' => ∃ a' c', x = .returned (.tuple #[(pumpT t g n).v a' c', (pumpG t g n).v, .int .i64 (pumpI t g n)]) ∧ partE.Own 69 w' w.heap.size a' c' (pumpT t g n).l ∧ Below w.heap.size w w' := by
  have hmf : ∀ (fn : Fn) (first cap : Array Value) (w : World), (Instr.makeFunc fn first cap).run Try.prog w = .ok (.func fn first cap) w := fun _ _ _ _ => rfl
  have bW := ((((((Below.refl w.heap.size w).alloc (by simp) (.cells #[.int .i64 t.nx, .string t.bs, .slice a t.l.length c, .int .i64 t.cp, .int .i64 t.fi, .bool t.en] 26)).alloc (by simp <;> omega) (.cells #[.int .i64 g.ba, .string g.bs, .int .i64 g.cp, .int .i64 g.lm, .bool g.en, .bool g.dn] 28)).alloc (by simp <;> omega) (.cells #[.int .i64 0, .string ⟨#[]⟩, .slice none 0 0, .int .i64 0, .int .i64 0, .bool false] 26)).alloc (by simp <;> omega) (.cells #[.int .i64 0, .string ⟨#[]⟩, .int .i64 0, .int .i64 0, .bool false, .bool false] 28)).alloc (by simp <;> omega) (.cells #[.int .i64 0] 2))
  have v0 : Var 26 (w.alloc (.cells #[.int .i64 t.nx, .string t.bs, .slice a t.l.length c, .int .i64 t.cp, .int .i64 t.fi, .bool t.en] 26)) w.heap.size [.int .i64 t.nx, .string t.bs, .slice a t.l.length c, .int .i64 t.cp, .int .i64 t.fi, .bool t.en] := by
    have := Var.new (T := 26) w [.int .i64 t.nx, .string t.bs, .slice a t.l.length c, .int .i64 t.cp, .int .i64 t.fi, .bool t.en]
    simpa using this
  replace v0 := v0.alloc (.cells #[.int .i64 g.ba, .string g.bs, .int .i64 g.cp, .int .i64 g.lm, .bool g.en, .bool g.dn] 28)
  replace v0 := v0.alloc (.cells #[.int .i64 0, .string ⟨#[]⟩, .slice none 0 0, .int .i64 0, .int .i64 0, .bool false] 26)
  replace v0 := v0.alloc (.cells #[.int .i64 0, .string ⟨#[]⟩, .int .i64 0, .int .i64 0, .bool false, .bool false] 28)
  replace v0 := v0.alloc (.cells #[.int .i64 0] 2)
  have v1 : Var 28 ((w.alloc (.cells #[.int .i64 t.nx, .string t.bs, .slice a t.l.length c, .int .i64 t.cp, .int .i64 t.fi, .bool t.en] 26)).alloc (.cells #[.int .i64 g.ba, .string g.bs, .int .i64 g.cp, .int .i64 g.lm, .bool g.en, .bool g.dn] 28)) (w.heap.size + 1) [.int .i64 g.ba, .string g.bs, .int .i64 g.cp, .int .i64 g.lm, .bool g.en, .bool g.dn] := by
    have := Var.new (T := 28) (w.alloc (.cells #[.int .i64 t.nx, .string t.bs, .slice a t.l.length c, .int .i64 t.cp, .int .i64 t.fi, .bool t.en] 26)) [.int .i64 g.ba, .string g.bs, .int .i64 g.cp, .int .i64 g.lm, .bool g.en, .bool g.dn]
    simpa using this
  replace v1 := v1.alloc (.cells #[.int .i64 0, .string ⟨#[]⟩, .slice none 0 0, .int .i64 0, .int .i64 0, .bool false] 26)
  replace v1 := v1.alloc (.cells #[.int .i64 0, .string ⟨#[]⟩, .int .i64 0, .int .i64 0, .bool false, .bool false] 28)
  replace v1 := v1.alloc (.cells #[.int .i64 0] 2)
  have v2 : Var 26 (((w.alloc (.cells #[.int .i64 t.nx, .string t.bs, .slice a t.l.length c, .int .i64 t.cp, .int .i64 t.fi, .bool t.en] 26)).alloc (.cells #[.int .i64 g.ba, .string g.bs, .int .i64 g.cp, .int .i64 g.lm, .bool g.en, .bool g.dn] 28)).alloc (.cells #[.int .i64 0, .string ⟨#[]⟩, .slice none 0 0, .int .i64 0, .int .i64 0, .bool false] 26)) (w.heap.size + 1 + 1) [.int .i64 0, .string ⟨#[]⟩, .slice none 0 0, .int .i64 0, .int .i64 0, .bool false] := by
    have := Var.new (T := 26) ((w.alloc (.cells #[.int .i64 t.nx, .string t.bs, .slice a t.l.length c, .int .i64 t.cp, .int .i64 t.fi, .bool t.en] 26)).alloc (.cells #[.int .i64 g.ba, .string g.bs, .int .i64 g.cp, .int .i64 g.lm, .bool g.en, .bool g.dn] 28)) [.int .i64 0, .string ⟨#[]⟩, .slice none 0 0, .int .i64 0, .int .i64 0, .bool false]
    simpa using this
  replace v2 := v2.alloc (.cells #[.int .i64 0, .string ⟨#[]⟩, .int .i64 0, .int .i64 0, .bool false, .bool false] 28)
  replace v2 := v2.alloc (.cells #[.int .i64 0] 2)
  have v3 : Var 28 ((((w.alloc (.cells #[.int .i64 t.nx, .string t.bs, .slice a t.l.length c, .int .i64 t.cp, .int .i64 t.fi, .bool t.en] 26)).alloc (.cells #[.int .i64 g.ba, .string g.bs, .int .i64 g.cp, .int .i64 g.lm, .bool g.en, .bool g.dn] 28)).alloc (.cells #[.int .i64 0, .string ⟨#[]⟩, .slice none 0 0, .int .i64 0, .int .i64 0, .bool false] 26)).alloc (.cells #[.int .i64 0, .string ⟨#[]⟩, .int .i64 0, .int .i64 0, .bool false, .bool false] 28)) (w.heap.size + 1 + 1 + 1) [.int .i64 0, .string ⟨#[]⟩, .int .i64 0, .int .i64 0, .bool false, .bool false] := by
    have := Var.new (T := 28) (((w.alloc (.cells #[.int .i64 t.nx, .string t.bs, .slice a t.l.length c, .int .i64 t.cp, .int .i64 t.fi, .bool t.en] 26)).alloc (.cells #[.int .i64 g.ba, .string g.bs, .int .i64 g.cp, .int .i64 g.lm, .bool g.en, .bool g.dn] 28)).alloc (.cells #[.int .i64 0, .string ⟨#[]⟩, .slice none 0 0, .int .i64 0, .int .i64 0, .bool false] 26)) [.int .i64 0, .string ⟨#[]⟩, .int .i64 0, .int .i64 0, .bool false, .bool false]
    simpa using this
  replace v3 := v3.alloc (.cells #[.int .i64 0] 2)
  have v4 : Var 2 (((((w.alloc (.cells #[.int .i64 t.nx, .string t.bs, .slice a t.l.length c, .int .i64 t.cp, .int .i64 t.fi, .bool t.en] 26)).alloc (.cells #[.int .i64 g.ba, .string g.bs, .int .i64 g.cp, .int .i64 g.lm, .bool g.en, .bool g.dn] 28)).alloc (.cells #[.int .i64 0, .string ⟨#[]⟩, .slice none 0 0, .int .i64 0, .int .i64 0, .bool false] 26)).alloc (.cells #[.int .i64 0, .string ⟨#[]⟩, .int .i64 0, .int .i64 0, .bool false, .bool false] 28)).alloc (.cells #[.int .i64 0] 2)) (w.heap.size + 1 + 1 + 1 + 1) [.int .i64 0] := by
    have := Var.new (T := 2) ((((w.alloc (.cells #[.int .i64 t.nx, .string t.bs, .slice a t.l.length c, .int .i64 t.cp, .int .i64 t.fi, .bool t.en] 26)).alloc (.cells #[.int .i64 g.ba, .string g.bs, .int .i64 g.cp, .int .i64 g.lm, .bool g.en, .bool g.dn] 28)).alloc (.cells #[.int .i64 0, .string ⟨#[]⟩, .slice none 0 0, .int .i64 0, .int .i64 0, .bool false] 26)).alloc (.cells #[.int .i64 0, .string ⟨#[]⟩, .int .i64 0, .int .i64 0, .bool false, .bool false] 28)) [.int .i64 0]
    simpa using this
  have hmix := Tak.mix
  go_enter_defers Try.func8, Try.ntmps8
  go_wp2_with fail
  generalize (((((w.alloc (.cells #[.int .i64 t.nx, .string t.bs, .slice a t.l.length c, .int .i64 t.cp, .int .i64 t.fi, .bool t.en] 26)).alloc (.cells #[.int .i64 g.ba, .string g.bs, .int .i64 g.cp, .int .i64 g.lm, .bool g.en, .bool g.dn] 28)).alloc (.cells #[.int .i64 0, .string ⟨#[]⟩, .slice none 0 0, .int .i64 0, .int .i64 0, .bool false] 26)).alloc (.cells #[.int .i64 0, .string ⟨#[]⟩, .int .i64 0, .int .i64 0, .bool false, .bool false] 28)).alloc (.cells #[.int .i64 0] 2)) = V at *
  by_cases hr : t.ok = true ∧ 0 ≤ n ∧ n ≤ 400
  case neg =>
    have hpb : pumpB t g n = false := by
      cases ht : t.ok <;> cases hg : g.ok <;> simp [pumpB, ht, hg]
      simp only [ht, true_and] at hr
      omega
    have hr' : t.ok = false ∨ t.ok = true ∧ n < 0 ∨ t.ok = true ∧ 0 ≤ n ∧ 400 < n := by
      cases ht : t.ok
      · exact .inl rfl
      · simp only [ht, true_and] at hr ⊢
        omega
    refine (readyNo t a c n _ (h.later bW) hl hbs hp hr').mono ?_
    rintro x w1 ⟨⟨T, u, rfl⟩, b1⟩
    have B1 := bW.trans (b1.mono bW.size)
    replace v0 := v0.later b1
    replace v1 := v1.later b1
    replace v2 := v2.later b1
    replace v3 := v3.later b1
    replace v4 := v4.later b1
    go_wp2_with fail
    refine leaves_cons (f := 30) (args := #[.pointer (some ⟨w.heap.size + 1 + 1, 0, none⟩), .pointer (some ⟨w.heap.size + 1 + 1 + 1, 0, none⟩), .pointer (some ⟨w.heap.size + 1 + 1 + 1 + 1, 0, none⟩)]) (by simp) (by simp [go_sem]) ?_
    refine (catch_panicking _ _ _ _ _ _ _ _ _ _ _ _ _ _ _ _ T _ [] _ v2 v3 v4 (by omega) (by omega) (by omega)).mono ?_
    rintro e u' w'' ⟨rfl, rfl, z2, z3, z4, hB⟩
    have BB := B1.trans (hB w.heap.size (by omega) (by omega) (by omega) B1.size)
    obtain ⟨hT, hG, hI, _⟩ := pump_no hpb
    rw [hT, hG, hI]
    have y0 := z2.cell (i := 0) rfl
    have y1 := z2.cell (i := 1) rfl
    have y2 := z2.cell (i := 2) rfl
    have y3 := z2.cell (i := 3) rfl
    have y4 := z2.cell (i := 4) rfl
    have y5 := z2.cell (i := 5) rfl
    have x0 := z3.cell (i := 0) rfl
    have x1 := z3.cell (i := 1) rfl
    have x2 := z3.cell (i := 2) rfl
    have x3 := z3.cell (i := 3) rfl
    have x4 := z3.cell (i := 4) rfl
    have x5 := z3.cell (i := 5) rfl
    have z0 := z4.cell (i := 0) rfl
    simp [Leaves, settle, results, Try.results8, go_sem, y0, y1, y2, y3, y4, y5, z0, x0, x1, x2, x3, x4, x5]
    exact ⟨none, 0, rfl, El.Own.none _ _, BB⟩
  obtain ⟨hok, n0, n1⟩ := hr
  refine (readyYes t a c n _ (h.later bW) hl hbs hp hok n0 n1).mono ?_
  rintro x w1 ⟨rfl, b1⟩
  have B1 := bW.trans (b1.mono bW.size)
  replace v0 := v0.later b1
  replace v1 := v1.later b1
  replace v2 := v2.later b1
  replace v3 := v3.later b1
  replace v4 := v4.later b1
  have d0 := v1.cell (i := 0) rfl
  have d1 := v1.cell (i := 1) rfl
  have d2 := v1.cell (i := 2) rfl
  have d3 := v1.cell (i := 3) rfl
  have d4 := v1.cell (i := 4) rfl
  have d5 := v1.cell (i := 5) rfl
  have hrs : (t.bs.extract 0 (min n (t.bs.size : Int)).toNat).size ≤ 2097152 := by
    rw [ByteArray.size_extract]
    omega
  have hmv : (writeG g (t.bs.extract 0 (min n (t.bs.size : Int)).toNat)).2 = moveN t g n := by
    unfold writeG moveN canP
    cases g.en
    · simp only [Bool.false_eq_true, if_false, fitN, ByteArray.size_extract]
      omega
    · simp only [if_true]
      omega
  have hwr : ∀ hk : g.ok = true, (writeG g (t.bs.extract 0 (min n (t.bs.size : Int)).toNat)).1 = ⟨g.ba, g.bs ++ t.bs.extract 0 (moveN t g n).toNat, g.cp, g.lm, g.en, g.dn⟩ := by
    intro hk
    obtain ⟨m0, m1, m2⟩ := move_in (t := t) (n := n) hk n0
    cases he : g.en
    · have hfit : fitN g (t.bs.extract 0 (min n (t.bs.size : Int)).toNat) = moveN t g n := by
        rw [← hmv]
        simp [writeG, he]
      have hle : moveN t g n ≤ min n (t.bs.size : Int) := by omega
      simp only [writeG, he, Bool.false_eq_true, if_false]
      rw [hfit]
      congr 2
      apply ByteArray.ext
      simp only [ByteArray.data_extract, Array.extract_extract]
      congr 1
      omega
    · have h0 : moveN t g n = 0 := by
        have h2 : canP t g = 0 := by unfold canP; rw [he]; rfl
        unfold moveN at m0 ⊢
        rw [h2] at m0 ⊢
        omega
      have hx : g.bs ++ t.bs.extract 0 (0 : Int).toNat = g.bs := by
        apply ByteArray.ext
        simp [ByteArray.data_extract]
      simp only [writeG, he, if_true]
      rw [h0, hx, ← he]
  generalize hrd : t.bs.extract 0 (min n (t.bs.size : Int)).toNat = rd at *
  go_wp2_with fail
  by_cases hgo : g.ok = true
  case neg =>
    have hgf : g.ok = false := by simpa using hgo
    have hpb : pumpB t g n = false := by simp [pumpB, hok, hgf]
    refine (writtenNo g rd _ hg hrs hgf).mono ?_
    rintro x w2 ⟨⟨T, u, rfl⟩, b2⟩
    have B2 := B1.trans (b2.mono B1.size)
    replace v0 := v0.later b2
    replace v1 := v1.later b2
    replace v2 := v2.later b2
    replace v3 := v3.later b2
    replace v4 := v4.later b2
    go_wp2_with fail
    refine leaves_cons (f := 30) (args := #[.pointer (some ⟨w.heap.size + 1 + 1, 0, none⟩), .pointer (some ⟨w.heap.size + 1 + 1 + 1, 0, none⟩), .pointer (some ⟨w.heap.size + 1 + 1 + 1 + 1, 0, none⟩)]) (by simp) (by simp [go_sem]) ?_
    refine (catch_panicking _ _ _ _ _ _ _ _ _ _ _ _ _ _ _ _ T _ [] _ v2 v3 v4 (by omega) (by omega) (by omega)).mono ?_
    rintro e u' w'' ⟨rfl, rfl, z2, z3, z4, hB⟩
    have BB := B2.trans (hB w.heap.size (by omega) (by omega) (by omega) B2.size)
    obtain ⟨hT, hG, hI, _⟩ := pump_no hpb
    rw [hT, hG, hI]
    have y0 := z2.cell (i := 0) rfl
    have y1 := z2.cell (i := 1) rfl
    have y2 := z2.cell (i := 2) rfl
    have y3 := z2.cell (i := 3) rfl
    have y4 := z2.cell (i := 4) rfl
    have y5 := z2.cell (i := 5) rfl
    have x0 := z3.cell (i := 0) rfl
    have x1 := z3.cell (i := 1) rfl
    have x2 := z3.cell (i := 2) rfl
    have x3 := z3.cell (i := 3) rfl
    have x4 := z3.cell (i := 4) rfl
    have x5 := z3.cell (i := 5) rfl
    have z0 := z4.cell (i := 0) rfl
    simp [Leaves, settle, results, Try.results8, go_sem, y0, y1, y2, y3, y4, y5, z0, x0, x1, x2, x3, x4, x5]
    exact ⟨none, 0, rfl, El.Own.none _ _, BB⟩
  refine (writtenYes g rd _ hg hrs hgo).mono ?_
  rintro x w2 ⟨rfl, b2⟩
  have B2 := B1.trans (b2.mono B1.size)
  rw [hmv, hwr hgo]
  replace v0 := v0.later b2
  replace v1 := v1.later b2
  replace v2 := v2.later b2
  replace v3 := v3.later b2
  replace v4 := v4.later b2
  have e0 := v0.cell (i := 0) rfl
  have e1 := v0.cell (i := 1) rfl
  have e2 := v0.cell (i := 2) rfl
  have e3 := v0.cell (i := 3) rfl
  have e4 := v0.cell (i := 4) rfl
  have e5 := v0.cell (i := 5) rfl
  have r0 := v3.cell (i := 0) rfl
  have r1 := v3.cell (i := 1) rfl
  have r2 := v3.cell (i := 2) rfl
  have r3 := v3.cell (i := 3) rfl
  have r4 := v3.cell (i := 4) rfl
  have r5 := v3.cell (i := 5) rfl
  have q0 := v3.free 0
  have q1 := v3.free 1
  have q2 := v3.free 2
  have q3 := v3.free 3
  have q4 := v3.free 4
  have q5 := v3.free 5
  have s0 := v4.cell (i := 0) rfl
  have s1 := v4.free 0
  generalize hmn : moveN t g n = k at *
  have hk := move_in (t := t) (n := n) hgo n0
  rw [hmn] at hk
  obtain ⟨m0, m1, m2⟩ := hk
  have hTA := fun w' (hL : partE.Lies w' a t.l) => implTakenAway t.nx t.bs a t.l.length c t.cp t.fi t.en t.l k w' rfl hL hl hbs hp ha
  rw [show takenAway ⟨t.nx, t.bs, t.l, t.cp, t.fi, t.en⟩ k = ({ t with bs := t.bs.extract k.toNat t.bs.size }, t.bs.extract 0 k.toNat) from away_in hok m0 m1] at hTA
  dsimp only [Gv.v]
  dsimp only [Tk.v] at hTA
  have X0 := ((var_other6 v0 (show w.heap.size ≠ w.heap.size + 1 + 1 + 1 by omega) (.int .i64 g.ba) (.string (g.bs ++ t.bs.extract 0 k.toNat)) (.int .i64 g.cp) (.int .i64 g.lm) (.bool g.en) (.bool g.dn))).other (p := ⟨w.heap.size + 1 + 1 + 1 + 1, 0, none⟩) (by dsimp only; omega) (.int .i64 k)
  have X2 := ((var_other6 v2 (show w.heap.size + 1 + 1 ≠ w.heap.size + 1 + 1 + 1 by omega) (.int .i64 g.ba) (.string (g.bs ++ t.bs.extract 0 k.toNat)) (.int .i64 g.cp) (.int .i64 g.lm) (.bool g.en) (.bool g.dn))).other (p := ⟨w.heap.size + 1 + 1 + 1 + 1, 0, none⟩) (by dsimp only; omega) (.int .i64 k)
  have X3 := ((var_put6 v3 (.int .i64 g.ba) (.string (g.bs ++ t.bs.extract 0 k.toNat)) (.int .i64 g.cp) (.int .i64 g.lm) (.bool g.en) (.bool g.dn))).other (p := ⟨w.heap.size + 1 + 1 + 1 + 1, 0, none⟩) (by dsimp only; omega) (.int .i64 k)
  have X4 := ((var_other6 v4 (show w.heap.size + 1 + 1 + 1 + 1 ≠ w.heap.size + 1 + 1 + 1 by omega) (.int .i64 g.ba) (.string (g.bs ++ t.bs.extract 0 k.toNat)) (.int .i64 g.cp) (.int .i64 g.lm) (.bool g.en) (.bool g.dn))).set 0 (.int .i64 k)
  have X5 := ((below_put6 B2 (show w.heap.size ≤ w.heap.size + 1 + 1 + 1 by omega) (.int .i64 g.ba) (.string (g.bs ++ t.bs.extract 0 k.toNat)) (.int .i64 g.cp) (.int .i64 g.lm) (.bool g.en) (.bool g.dn))).setCell (p := ⟨w.heap.size + 1 + 1 + 1 + 1, 0, none⟩) (by dsimp only; omega) (.int .i64 k)
  clear d0 d1 d2 d3 d4 d5
  have HH : Hid ((Var 26 _ _ _ ∧ Var 26 _ _ _ ∧ Var 28 _ _ _) ∧ Var 2 _ _ _ ∧ Below _ _ _) := ⟨⟨X0, X2, X3⟩, X4, X5⟩
  clear X0 X2 X3 X4 X5
  go_wp2_with fail
  unfold put6 at HH
  generalize (((((((w2.setCell ⟨w.heap.size + 1 + 1 + 1, 0, none⟩ (.int .i64 g.ba)).setCell ⟨w.heap.size + 1 + 1 + 1, 1, none⟩ (.string (g.bs ++ t.bs.extract 0 k.toNat))).setCell ⟨w.heap.size + 1 + 1 + 1, 2, none⟩ (.int .i64 g.cp)).setCell ⟨w.heap.size + 1 + 1 + 1, 3, none⟩ (.int .i64 g.lm)).setCell ⟨w.heap.size + 1 + 1 + 1, 4, none⟩ (.bool g.en)).setCell ⟨w.heap.size + 1 + 1 + 1, 5, none⟩ (.bool g.dn)).setCell ⟨w.heap.size + 1 + 1 + 1 + 1, 0, none⟩ (.int .i64 k)) = U at *
  obtain ⟨⟨X0, X2, X3⟩, X4, X5⟩ := HH.out
  clear HH v0 v1 v2 v3 v4 e0 e1 e2 e3 e4 e5 r0 r1 r2 r3 r4 r5 q0 q1 q2 q3 q4 q5 s0 s1
  simp only [List.set_cons_zero] at X4
  refine (hTA _ (h.later X5)).mono ?_
  rintro x w3 ⟨a', c', rfl, o3, b3⟩
  have B3 := X5.trans (b3.mono X5.size)
  have hlt : ∀ x, a' = some x → w.heap.size + 1 + 1 + 1 + 1 < x.block ∧ x.block < w3.heap.size := fun x hx => by
    have h1 := o3.lt x hx
    have h2 := X4.lt
    exact ⟨by omega, h1.2⟩
  replace X2 := X2.later b3
  replace X3 := X3.later b3
  replace X4 := X4.later b3
  replace o3 := o3.mono X5.size
  have e0 := X2.cell (i := 0) rfl
  have e1 := X2.cell (i := 1) rfl
  have e2 := X2.cell (i := 2) rfl
  have e3 := X2.cell (i := 3) rfl
  have e4 := X2.cell (i := 4) rfl
  have e5 := X2.cell (i := 5) rfl
  have f0 := X2.free 0
  have f1 := X2.free 1
  have f2 := X2.free 2
  have f3 := X2.free 3
  have f4 := X2.free 4
  have f5 := X2.free 5
  go_upto_region 5 with (fail)
  have Y2 := var_put6 X2 (.int .i64 t.nx) (.string (t.bs.extract k.toNat t.bs.size)) (.slice a' t.l.length c') (.int .i64 t.cp) (.int .i64 t.fi) (.bool t.en)
  have Y3 := var_other6 X3 (show w.heap.size + 1 + 1 + 1 ≠ w.heap.size + 1 + 1 by omega) (.int .i64 t.nx) (.string (t.bs.extract k.toNat t.bs.size)) (.slice a' t.l.length c') (.int .i64 t.cp) (.int .i64 t.fi) (.bool t.en)
  have Y4 := var_other6 X4 (show w.heap.size + 1 + 1 + 1 + 1 ≠ w.heap.size + 1 + 1 by omega) (.int .i64 t.nx) (.string (t.bs.extract k.toNat t.bs.size)) (.slice a' t.l.length c') (.int .i64 t.cp) (.int .i64 t.fi) (.bool t.en)
  have Y5 := below_put6 B3 (show w.heap.size ≤ w.heap.size + 1 + 1 by omega) (.int .i64 t.nx) (.string (t.bs.extract k.toNat t.bs.size)) (.slice a' t.l.length c') (.int .i64 t.cp) (.int .i64 t.fi) (.bool t.en)
  have Yo := own_put6 o3 (k := w.heap.size + 1 + 1) (fun x hx => by have := (hlt x hx).1; omega) (.int .i64 t.nx) (.string (t.bs.extract k.toNat t.bs.size)) (.slice a' t.l.length c') (.int .i64 t.cp) (.int .i64 t.fi) (.bool t.en)
  unfold put6 at Y2 Y3 Y4 Y5 Yo
  generalize (((((w3.setCell ⟨w.heap.size + 1 + 1, 0, none⟩ (.int .i64 t.nx)).setCell ⟨w.heap.size + 1 + 1, 1, none⟩ (.string (t.bs.extract k.toNat t.bs.size))).setCell ⟨w.heap.size + 1 + 1, 2, none⟩ (.slice a' t.l.length c')).setCell ⟨w.heap.size + 1 + 1, 3, none⟩ (.int .i64 t.cp)).setCell ⟨w.heap.size + 1 + 1, 4, none⟩ (.int .i64 t.fi)).setCell ⟨w.heap.size + 1 + 1, 5, none⟩ (.bool t.en) = U2 at *
  clear e0 e1 e2 e3 e4 e5 f0 f1 f2 f3 f4 f5 X0 X2 X3 X4 b3 B3 X5 o3
  have HA : Hid (∀ x, a' = some x → w.heap.size + 1 + 1 + 1 + 1 < x.block) := fun x hx => (hlt x hx).1
  clear hlt
  have hpb : pumpB t g n = true := by simp [pumpB, hok, hgo, n0, n1]
  have eT : pumpT t g n = leftT t k := by simp [pumpT, hpb, hmn]
  have eG : pumpG t g n = moreG t g k := by simp [pumpG, hpb, hmn]
  have eI : pumpI t g n = k := by simp [pumpI, hpb, hmn]
  have HP : Hid (pumpT t g n = leftT t k ∧ pumpG t g n = moreG t g k ∧ pumpI t g n = k) := ⟨eT, eG, eI⟩
  clear eT eG eI
  have hEMP : (t.bs.extract k.toNat t.bs.size).toList.isEmpty = decide ((t.bs.size : Int) = k) := by
    rw [Giv.isEmpty_eq, ByteArray.size_extract]
    apply decide_eq_decide.2
    omega
  have HE : Hid _ := hEMP
  have h3 : t.en = false ∨ t.en = true ∧ ¬ (t.bs.size : Int) = k ∨ t.en = true ∧ (t.bs.size : Int) = k := by
    cases t.en <;> simp
    omega
  have e0 := Y2.cell (i := 0) rfl
  have e1 := Y2.cell (i := 1) rfl
  have e2 := Y2.cell (i := 2) rfl
  have e3 := Y2.cell (i := 3) rfl
  have e4 := Y2.cell (i := 4) rfl
  have e5 := Y2.cell (i := 5) rfl
  have r0 := Y3.cell (i := 0) rfl
  have r1 := Y3.cell (i := 1) rfl
  have r2 := Y3.cell (i := 2) rfl
  have r3 := Y3.cell (i := 3) rfl
  have r4 := Y3.cell (i := 4) rfl
  have r5 := Y3.cell (i := 5) rfl
  rcases h3 with hE | ⟨hE, hne⟩ | ⟨hE, heq⟩
  · go_wp2_with fail
    rw [hE] at Y2
    have HQ : Hid (t.en = false) := hE
    clear hE
    clear e0 e1 e2 e3 e4 e5 r0 r1 r2 r3 r4 r5
    have keepW : ∀ (q : Nat) (d : Nat → Bool) (w' : World), (fun d w' => Var 26 w' (w.heap.size + 1 + 1) [.int .i64 t.nx, .string (t.bs.extract k.toNat t.bs.size), .slice a' t.l.length c', .int .i64 t.cp, .int .i64 t.fi, .bool false] ∧ Var 28 w' (w.heap.size + 1 + 1 + 1) [.int .i64 g.ba, .string (g.bs ++ t.bs.extract 0 k.toNat), .int .i64 g.cp, .int .i64 g.lm, .bool g.en, .bool g.dn] ∧ Var 2 w' (w.heap.size + 1 + 1 + 1 + 1) [.int .i64 k] ∧ partE.Own 69 w' w.heap.size a' c' t.l ∧ Below w.heap.size w w') d w' → True → (fun d w' => Var 26 w' (w.heap.size + 1 + 1) [.int .i64 t.nx, .string (t.bs.extract k.toNat t.bs.size), .slice a' t.l.length c', .int .i64 t.cp, .int .i64 t.fi, .bool false] ∧ Var 28 w' (w.heap.size + 1 + 1 + 1) [.int .i64 g.ba, .string (g.bs ++ t.bs.extract 0 k.toNat), .int .i64 g.cp, .int .i64 g.lm, .bool g.en, .bool g.dn] ∧ Var 2 w' (w.heap.size + 1 + 1 + 1 + 1) [.int .i64 k] ∧ partE.Own 69 w' w.heap.size a' c' t.l ∧ Below w.heap.size w w') (fun j => j == q || d j) w' := fun _ _ _ h _ => h
    refine RegJ.wp_region_J (W := (fun d w' => Var 26 w' (w.heap.size + 1 + 1) [.int .i64 t.nx, .string (t.bs.extract k.toNat t.bs.size), .slice a' t.l.length c', .int .i64 t.cp, .int .i64 t.fi, .bool false] ∧ Var 28 w' (w.heap.size + 1 + 1 + 1) [.int .i64 g.ba, .string (g.bs ++ t.bs.extract 0 k.toNat), .int .i64 g.cp, .int .i64 g.lm, .bool g.en, .bool g.dn] ∧ Var 2 w' (w.heap.size + 1 + 1 + 1 + 1) [.int .i64 k] ∧ partE.Own 69 w' w.heap.size a' c' t.l ∧ Below w.heap.size w w')) (RegJ.Val [some (.agg #[.int .i64 t.nx, .string (t.bs.extract k.toNat t.bs.size), .slice a' t.l.length c', .int .i64 t.cp, .int .i64 t.fi, .bool false]), some (.agg #[.int .i64 g.ba, .string (g.bs ++ t.bs.extract 0 k.toNat), .int .i64 g.cp, .int .i64 g.lm, .bool g.en, .bool g.dn]), some (.int .i64 k), none, none, none]) [some 38, some 39, some 40, none, none, none] (F := ?_) (is := [0, 1, 2, 3, 4, 5]) hmix (by kernel_rfl) (by kernel_rfl) (by kernel_rfl) (by kernel_rfl) (fun x => ?_) (⟨Y2.drew, Y3.drew, Y4.drew, Yo.drew, Y5.drew⟩) ?_ (fun dz xz wz hWz hdz hJz => ?_)
    rotate_left 1
    focus (simp only [RegJ.lay, Act.put, Nat.reduceAdd, Nat.zero_add, List.getElem_toArray, List.getElem_cons_zero, List.getElem_cons_succ, List.setIfInBounds_toArray, List.set_cons_zero, List.set_cons_succ]; rfl)
    focus
      refine RegJ.Steps.cons (RegJ.StepAt.mk rfl (fun d x w1 hW1 hJ1 hx1 K hK => ?_)) (RegJ.Steps.cons (RegJ.StepAt.mk rfl (fun d x w1 hW1 hJ1 hx1 K hK => ?_)) (RegJ.Steps.cons (RegJ.StepAt.mk rfl (fun d x w1 hW1 hJ1 hx1 K hK => ?_)) (RegJ.Steps.cons (RegJ.StepAt.mk rfl (fun d x w1 hW1 hJ1 hx1 K hK => ?_)) (RegJ.Steps.cons (RegJ.StepAt.mk rfl (fun d x w1 hW1 hJ1 hx1 K hK => ?_)) (RegJ.Steps.cons (RegJ.StepAt.mk rfl (fun d x w1 hW1 hJ1 hx1 K hK => ?_)) (RegJ.Steps.nil))))))
      focus (simp only [List.getElem_toArray, List.getElem_cons_succ, List.getElem_cons_zero] at hK; have hw := hW1; obtain ⟨z2, z3, z4, zo, zb⟩ := hw; have y0 := z2.cell (i := 0) rfl; have y1 := z2.cell (i := 1) rfl; have y2 := z2.cell (i := 2) rfl; have y3 := z2.cell (i := 3) rfl; have y4 := z2.cell (i := 4) rfl; have y5 := z2.cell (i := 5) rfl; go_simp; exact hK.out _ _ (keepW 0 d _ hW1 (by decide)) RegJ.Val.keep (RegJ.Val.this (Or.inl rfl)))
      focus (simp only [List.getElem_toArray, List.getElem_cons_succ, List.getElem_cons_zero] at hK; have hw := hW1; obtain ⟨z2, z3, z4, zo, zb⟩ := hw; have y0 := z3.cell (i := 0) rfl; have y1 := z3.cell (i := 1) rfl; have y2 := z3.cell (i := 2) rfl; have y3 := z3.cell (i := 3) rfl; have y4 := z3.cell (i := 4) rfl; have y5 := z3.cell (i := 5) rfl; go_simp; exact hK.out _ _ (keepW 1 d _ hW1 (by decide)) RegJ.Val.keep (RegJ.Val.this (Or.inl rfl)))
      focus (simp only [List.getElem_toArray, List.getElem_cons_succ, List.getElem_cons_zero] at hK; have hw := hW1; obtain ⟨z2, z3, z4, zo, zb⟩ := hw; have y0 := z4.cell (i := 0) rfl; go_simp; exact hK.out _ _ (keepW 2 d _ hW1 (by decide)) RegJ.Val.keep (RegJ.Val.this (Or.inl rfl)))
      focus (simp only [List.getElem_toArray, List.getElem_cons_succ, List.getElem_cons_zero] at hK; have j0 : x 0 = _ := (hJ1.out 0 (by kernel_rfl)).2 _ rfl; rw [j0] at hK; have hw := hW1; obtain ⟨z2, z3, z4, zo, zb⟩ := hw; have y0 := z2.cell (i := 0) rfl; have y1 := z2.cell (i := 1) rfl; have y2 := z2.cell (i := 2) rfl; have y3 := z2.cell (i := 3) rfl; have y4 := z2.cell (i := 4) rfl; have y5 := z2.cell (i := 5) rfl; have u0 := z2.free 0; have u1 := z2.free 1; have u2 := z2.free 2; have u3 := z2.free 3; have u4 := z2.free 4; have u5 := z2.free 5; go_simp; exact hK.out undef _ ⟨var_put6 z2 _ _ _ _ _ _, var_other6 z3 (by omega) _ _ _ _ _ _, var_other6 z4 (by omega) _ _ _ _ _ _, own_put6 zo (fun x hx => by have := HA.out x hx; omega) _ _ _ _ _ _, below_put6 zb (by omega) _ _ _ _ _ _⟩ RegJ.Val.keep (RegJ.Val.this (Or.inr rfl)))
      focus (simp only [List.getElem_toArray, List.getElem_cons_succ, List.getElem_cons_zero] at hK; have j1 : x 1 = _ := (hJ1.out 1 (by kernel_rfl)).2 _ rfl; rw [j1] at hK; have hw := hW1; obtain ⟨z2, z3, z4, zo, zb⟩ := hw; have y0 := z3.cell (i := 0) rfl; have y1 := z3.cell (i := 1) rfl; have y2 := z3.cell (i := 2) rfl; have y3 := z3.cell (i := 3) rfl; have y4 := z3.cell (i := 4) rfl; have y5 := z3.cell (i := 5) rfl; have u0 := z3.free 0; have u1 := z3.free 1; have u2 := z3.free 2; have u3 := z3.free 3; have u4 := z3.free 4; have u5 := z3.free 5; go_simp; exact hK.out undef _ ⟨var_other6 z2 (by omega) _ _ _ _ _ _, var_put6 z3 _ _ _ _ _ _, var_other6 z4 (by omega) _ _ _ _ _ _, own_put6 zo (fun x hx => by have := HA.out x hx; omega) _ _ _ _ _ _, below_put6 zb (by omega) _ _ _ _ _ _⟩ RegJ.Val.keep (RegJ.Val.this (Or.inr rfl)))
      focus (simp only [List.getElem_toArray, List.getElem_cons_succ, List.getElem_cons_zero] at hK; have j2 : x 2 = _ := (hJ1.out 2 (by kernel_rfl)).2 _ rfl; rw [j2] at hK; have hw := hW1; obtain ⟨z2, z3, z4, zo, zb⟩ := hw; have y0 := z4.cell (i := 0) rfl; have u0 := z4.free 0; go_simp; exact hK.out undef _ ⟨z2.other (p := ⟨(w.heap.size + 1 + 1 + 1 + 1), 0, none⟩) (by dsimp only; omega) _, z3.other (p := ⟨(w.heap.size + 1 + 1 + 1 + 1), 0, none⟩) (by dsimp only; omega) _, z4.set 0 _, zo.setCell (p := ⟨(w.heap.size + 1 + 1 + 1 + 1), 0, none⟩) (fun x hx => by have := HA.out x hx; dsimp only; omega) _, zb.setCell (p := ⟨(w.heap.size + 1 + 1 + 1 + 1), 0, none⟩) (by dsimp only; omega) _⟩ RegJ.Val.keep (RegJ.Val.this (Or.inr rfl)))
    obtain ⟨z2, z3, z4, zo, zb⟩ := hWz
    go_wp2_with fail
    refine leaves_cons (f := 30) (args := #[.pointer (some ⟨w.heap.size + 1 + 1, 0, none⟩), .pointer (some ⟨w.heap.size + 1 + 1 + 1, 0, none⟩), .pointer (some ⟨w.heap.size + 1 + 1 + 1 + 1, 0, none⟩)]) (by simp) (by simp [go_sem]) ?_
    refine (catch_idle _ _ _ _).mono ?_
    rintro e u' w'' ⟨rfl, rfl, rfl⟩
    have y0 := z2.cell (i := 0) rfl
    have y1 := z2.cell (i := 1) rfl
    have y2 := z2.cell (i := 2) rfl
    have y3 := z2.cell (i := 3) rfl
    have y4 := z2.cell (i := 4) rfl
    have y5 := z2.cell (i := 5) rfl
    have x0 := z3.cell (i := 0) rfl
    have x1 := z3.cell (i := 1) rfl
    have x2 := z3.cell (i := 2) rfl
    have x3 := z3.cell (i := 3) rfl
    have x4 := z3.cell (i := 4) rfl
    have x5 := z3.cell (i := 5) rfl
    have z0 := z4.cell (i := 0) rfl
    simp [Leaves, settle, results, Try.results8, go_sem, y0, y1, y2, y3, y4, y5, z0, x0, x1, x2, x3, x4, x5]
    obtain ⟨eT, eG, eI⟩ := HP.out
    rw [eT, eG, eI]
    refine ⟨a', c', ⟨?_, ⟨rfl, rfl, rfl, rfl, ?_, rfl⟩, rfl⟩, zo, zb⟩
    · simp [leftT, Tk.v, HQ.out]
    · simp [moreG, HQ.out]
  · have hq : (t.bs.extract k.toNat t.bs.size).toList.isEmpty = false := by rw [hEMP]; simpa using hne
    go_wp2_with fail
    rw [hE] at Y2
    have HQ : Hid (t.en = true ∧ ¬ (t.bs.size : Int) = k) := ⟨hE, hne⟩
    clear hE hne
    clear e0 e1 e2 e3 e4 e5 r0 r1 r2 r3 r4 r5
    have keepW : ∀ (q : Nat) (d : Nat → Bool) (w' : World), (fun d w' => Var 26 w' (w.heap.size + 1 + 1) [.int .i64 t.nx, .string (t.bs.extract k.toNat t.bs.size), .slice a' t.l.length c', .int .i64 t.cp, .int .i64 t.fi, .bool true] ∧ Var 28 w' (w.heap.size + 1 + 1 + 1) [.int .i64 g.ba, .string (g.bs ++ t.bs.extract 0 k.toNat), .int .i64 g.cp, .int .i64 g.lm, .bool g.en, .bool g.dn] ∧ Var 2 w' (w.heap.size + 1 + 1 + 1 + 1) [.int .i64 k] ∧ partE.Own 69 w' w.heap.size a' c' t.l ∧ Below w.heap.size w w') d w' → True → (fun d w' => Var 26 w' (w.heap.size + 1 + 1) [.int .i64 t.nx, .string (t.bs.extract k.toNat t.bs.size), .slice a' t.l.length c', .int .i64 t.cp, .int .i64 t.fi, .bool true] ∧ Var 28 w' (w.heap.size + 1 + 1 + 1) [.int .i64 g.ba, .string (g.bs ++ t.bs.extract 0 k.toNat), .int .i64 g.cp, .int .i64 g.lm, .bool g.en, .bool g.dn] ∧ Var 2 w' (w.heap.size + 1 + 1 + 1 + 1) [.int .i64 k] ∧ partE.Own 69 w' w.heap.size a' c' t.l ∧ Below w.heap.size w w') (fun j => j == q || d j) w' := fun _ _ _ h _ => h
    refine RegJ.wp_region_J (W := (fun d w' => Var 26 w' (w.heap.size + 1 + 1) [.int .i64 t.nx, .string (t.bs.extract k.toNat t.bs.size), .slice a' t.l.length c', .int .i64 t.cp, .int .i64 t.fi, .bool true] ∧ Var 28 w' (w.heap.size + 1 + 1 + 1) [.int .i64 g.ba, .string (g.bs ++ t.bs.extract 0 k.toNat), .int .i64 g.cp, .int .i64 g.lm, .bool g.en, .bool g.dn] ∧ Var 2 w' (w.heap.size + 1 + 1 + 1 + 1) [.int .i64 k] ∧ partE.Own 69 w' w.heap.size a' c' t.l ∧ Below w.heap.size w w')) (RegJ.Val [some (.agg #[.int .i64 t.nx, .string (t.bs.extract k.toNat t.bs.size), .slice a' t.l.length c', .int .i64 t.cp, .int .i64 t.fi, .bool true]), some (.agg #[.int .i64 g.ba, .string (g.bs ++ t.bs.extract 0 k.toNat), .int .i64 g.cp, .int .i64 g.lm, .bool g.en, .bool g.dn]), some (.int .i64 k), none, none, none]) [some 38, some 39, some 40, none, none, none] (F := ?_) (is := [0, 1, 2, 3, 4, 5]) hmix (by kernel_rfl) (by kernel_rfl) (by kernel_rfl) (by kernel_rfl) (fun x => ?_) (⟨Y2.drew, Y3.drew, Y4.drew, Yo.drew, Y5.drew⟩) ?_ (fun dz xz wz hWz hdz hJz => ?_)
    rotate_left 1
    focus (simp only [RegJ.lay, Act.put, Nat.reduceAdd, Nat.zero_add, List.getElem_toArray, List.getElem_cons_zero, List.getElem_cons_succ, List.setIfInBounds_toArray, List.set_cons_zero, List.set_cons_succ]; rfl)
    focus
      refine RegJ.Steps.cons (RegJ.StepAt.mk rfl (fun d x w1 hW1 hJ1 hx1 K hK => ?_)) (RegJ.Steps.cons (RegJ.StepAt.mk rfl (fun d x w1 hW1 hJ1 hx1 K hK => ?_)) (RegJ.Steps.cons (RegJ.StepAt.mk rfl (fun d x w1 hW1 hJ1 hx1 K hK => ?_)) (RegJ.Steps.cons (RegJ.StepAt.mk rfl (fun d x w1 hW1 hJ1 hx1 K hK => ?_)) (RegJ.Steps.cons (RegJ.StepAt.mk rfl (fun d x w1 hW1 hJ1 hx1 K hK => ?_)) (RegJ.Steps.cons (RegJ.StepAt.mk rfl (fun d x w1 hW1 hJ1 hx1 K hK => ?_)) (RegJ.Steps.nil))))))
      focus (simp only [List.getElem_toArray, List.getElem_cons_succ, List.getElem_cons_zero] at hK; have hw := hW1; obtain ⟨z2, z3, z4, zo, zb⟩ := hw; have y0 := z2.cell (i := 0) rfl; have y1 := z2.cell (i := 1) rfl; have y2 := z2.cell (i := 2) rfl; have y3 := z2.cell (i := 3) rfl; have y4 := z2.cell (i := 4) rfl; have y5 := z2.cell (i := 5) rfl; go_simp; exact hK.out _ _ (keepW 0 d _ hW1 (by decide)) RegJ.Val.keep (RegJ.Val.this (Or.inl rfl)))
      focus (simp only [List.getElem_toArray, List.getElem_cons_succ, List.getElem_cons_zero] at hK; have hw := hW1; obtain ⟨z2, z3, z4, zo, zb⟩ := hw; have y0 := z3.cell (i := 0) rfl; have y1 := z3.cell (i := 1) rfl; have y2 := z3.cell (i := 2) rfl; have y3 := z3.cell (i := 3) rfl; have y4 := z3.cell (i := 4) rfl; have y5 := z3.cell (i := 5) rfl; go_simp; exact hK.out _ _ (keepW 1 d _ hW1 (by decide)) RegJ.Val.keep (RegJ.Val.this (Or.inl rfl)))
      focus (simp only [List.getElem_toArray, List.getElem_cons_succ, List.getElem_cons_zero] at hK; have hw := hW1; obtain ⟨z2, z3, z4, zo, zb⟩ := hw; have y0 := z4.cell (i := 0) rfl; go_simp; exact hK.out _ _ (keepW 2 d _ hW1 (by decide)) RegJ.Val.keep (RegJ.Val.this (Or.inl rfl)))
      focus (simp only [List.getElem_toArray, List.getElem_cons_succ, List.getElem_cons_zero] at hK; have j0 : x 0 = _ := (hJ1.out 0 (by kernel_rfl)).2 _ rfl; rw [j0] at hK; have hw := hW1; obtain ⟨z2, z3, z4, zo, zb⟩ := hw; have y0 := z2.cell (i := 0) rfl; have y1 := z2.cell (i := 1) rfl; have y2 := z2.cell (i := 2) rfl; have y3 := z2.cell (i := 3) rfl; have y4 := z2.cell (i := 4) rfl; have y5 := z2.cell (i := 5) rfl; have u0 := z2.free 0; have u1 := z2.free 1; have u2 := z2.free 2; have u3 := z2.free 3; have u4 := z2.free 4; have u5 := z2.free 5; go_simp; exact hK.out undef _ ⟨var_put6 z2 _ _ _ _ _ _, var_other6 z3 (by omega) _ _ _ _ _ _, var_other6 z4 (by omega) _ _ _ _ _ _, own_put6 zo (fun x hx => by have := HA.out x hx; omega) _ _ _ _ _ _, below_put6 zb (by omega) _ _ _ _ _ _⟩ RegJ.Val.keep (RegJ.Val.this (Or.inr rfl)))
      focus (simp only [List.getElem_toArray, List.getElem_cons_succ, List.getElem_cons_zero] at hK; have j1 : x 1 = _ := (hJ1.out 1 (by kernel_rfl)).2 _ rfl; rw [j1] at hK; have hw := hW1; obtain ⟨z2, z3, z4, zo, zb⟩ := hw; have y0 := z3.cell (i := 0) rfl; have y1 := z3.cell (i := 1) rfl; have y2 := z3.cell (i := 2) rfl; have y3 := z3.cell (i := 3) rfl; have y4 := z3.cell (i := 4) rfl; have y5 := z3.cell (i := 5) rfl; have u0 := z3.free 0; have u1 := z3.free 1; have u2 := z3.free 2; have u3 := z3.free 3; have u4 := z3.free 4; have u5 := z3.free 5; go_simp; exact hK.out undef _ ⟨var_other6 z2 (by omega) _ _ _ _ _ _, var_put6 z3 _ _ _ _ _ _, var_other6 z4 (by omega) _ _ _ _ _ _, own_put6 zo (fun x hx => by have := HA.out x hx; omega) _ _ _ _ _ _, below_put6 zb (by omega) _ _ _ _ _ _⟩ RegJ.Val.keep (RegJ.Val.this (Or.inr rfl)))
      focus (simp only [List.getElem_toArray, List.getElem_cons_succ, List.getElem_cons_zero] at hK; have j2 : x 2 = _ := (hJ1.out 2 (by kernel_rfl)).2 _ rfl; rw [j2] at hK; have hw := hW1; obtain ⟨z2, z3, z4, zo, zb⟩ := hw; have y0 := z4.cell (i := 0) rfl; have u0 := z4.free 0; go_simp; exact hK.out undef _ ⟨z2.other (p := ⟨(w.heap.size + 1 + 1 + 1 + 1), 0, none⟩) (by dsimp only; omega) _, z3.other (p := ⟨(w.heap.size + 1 + 1 + 1 + 1), 0, none⟩) (by dsimp only; omega) _, z4.set 0 _, zo.setCell (p := ⟨(w.heap.size + 1 + 1 + 1 + 1), 0, none⟩) (fun x hx => by have := HA.out x hx; dsimp only; omega) _, zb.setCell (p := ⟨(w.heap.size + 1 + 1 + 1 + 1), 0, none⟩) (by dsimp only; omega) _⟩ RegJ.Val.keep (RegJ.Val.this (Or.inr rfl)))
    obtain ⟨z2, z3, z4, zo, zb⟩ := hWz
    go_wp2_with fail
    refine leaves_cons (f := 30) (args := #[.pointer (some ⟨w.heap.size + 1 + 1, 0, none⟩), .pointer (some ⟨w.heap.size + 1 + 1 + 1, 0, none⟩), .pointer (some ⟨w.heap.size + 1 + 1 + 1 + 1, 0, none⟩)]) (by simp) (by simp [go_sem]) ?_
    refine (catch_idle _ _ _ _).mono ?_
    rintro e u' w'' ⟨rfl, rfl, rfl⟩
    have y0 := z2.cell (i := 0) rfl
    have y1 := z2.cell (i := 1) rfl
    have y2 := z2.cell (i := 2) rfl
    have y3 := z2.cell (i := 3) rfl
    have y4 := z2.cell (i := 4) rfl
    have y5 := z2.cell (i := 5) rfl
    have x0 := z3.cell (i := 0) rfl
    have x1 := z3.cell (i := 1) rfl
    have x2 := z3.cell (i := 2) rfl
    have x3 := z3.cell (i := 3) rfl
    have x4 := z3.cell (i := 4) rfl
    have x5 := z3.cell (i := 5) rfl
    have z0 := z4.cell (i := 0) rfl
    simp [Leaves, settle, results, Try.results8, go_sem, y0, y1, y2, y3, y4, y5, z0, x0, x1, x2, x3, x4, x5]
    obtain ⟨eT, eG, eI⟩ := HP.out
    rw [eT, eG, eI]
    refine ⟨a', c', ⟨?_, ⟨rfl, rfl, rfl, rfl, ?_, rfl⟩, rfl⟩, zo, zb⟩
    · simp [leftT, Tk.v, HQ.out]
    · simp [moreG, HQ.out]
  · have hq : (t.bs.extract k.toNat t.bs.size).toList.isEmpty = true := by rw [hEMP]; simpa using heq
    have hgk : Gv.ok ⟨g.ba, g.bs ++ t.bs.extract 0 k.toNat, g.cp, g.lm, g.en, g.dn⟩ = true := by
      have := write_ok hgo rd
      rw [hwr hgo] at this
      exact this
    have hgz : (g.bs ++ t.bs.extract 0 k.toNat).size ≤ 2097152 := by
      obtain ⟨i1, i2, i3, i4, i5, i6, i7⟩ := Giv.ok_iff.1 hgk
      dsimp only at *
      omega
    have hEn := fun w' => implEnds ⟨g.ba, g.bs ++ t.bs.extract 0 k.toNat, g.cp, g.lm, g.en, g.dn⟩ w' hgz
    simp only [endsG, hgk, if_true] at hEn
    dsimp only [Gv.v] at hEn
    have HEN : Hid _ := hEn
    clear hEn
    go_wp2_with fail
    refine (HEN.out _).mono ?_
    rintro x w4 ⟨rfl, b4⟩
    rw [hE] at Y2
    have HQ : Hid (t.en = true ∧ (t.bs.size : Int) = k) := ⟨hE, heq⟩
    clear hE heq e0 e1 e2 e3 e4 e5 r0 r1 r2 r3 r4 r5
    replace Y2 := Y2.later b4
    replace Y3 := Y3.later b4
    replace Y4 := Y4.later b4
    replace Yo := Yo.later b4
    replace Y5 := Y5.trans (b4.mono Y5.size)
    have r0 := Y3.cell (i := 0) rfl
    have r1 := Y3.cell (i := 1) rfl
    have r2 := Y3.cell (i := 2) rfl
    have r3 := Y3.cell (i := 3) rfl
    have r4 := Y3.cell (i := 4) rfl
    have r5 := Y3.cell (i := 5) rfl
    have q0 := Y3.free 0
    have q1 := Y3.free 1
    have q2 := Y3.free 2
    have q3 := Y3.free 3
    have q4 := Y3.free 4
    have q5 := Y3.free 5
    go_upto_region 7 with (fail)
    clear q0 q1 q2 q3 q4 q5 r0 r1 r2 r3 r4 r5
    replace Y2 := var_other6 Y2 (show w.heap.size + 1 + 1 ≠ w.heap.size + 1 + 1 + 1 by omega) (.int .i64 g.ba) (.string (g.bs ++ t.bs.extract 0 k.toNat)) (.int .i64 g.cp) (.int .i64 g.lm) (.bool true) (.bool g.dn)
    replace Y3 := var_put6 Y3 (.int .i64 g.ba) (.string (g.bs ++ t.bs.extract 0 k.toNat)) (.int .i64 g.cp) (.int .i64 g.lm) (.bool true) (.bool g.dn)
    replace Y4 := var_other6 Y4 (show w.heap.size + 1 + 1 + 1 + 1 ≠ w.heap.size + 1 + 1 + 1 by omega) (.int .i64 g.ba) (.string (g.bs ++ t.bs.extract 0 k.toNat)) (.int .i64 g.cp) (.int .i64 g.lm) (.bool true) (.bool g.dn)
    replace Y5 := below_put6 Y5 (show w.heap.size ≤ w.heap.size + 1 + 1 + 1 by omega) (.int .i64 g.ba) (.string (g.bs ++ t.bs.extract 0 k.toNat)) (.int .i64 g.cp) (.int .i64 g.lm) (.bool true) (.bool g.dn)
    replace Yo := own_put6 Yo (k := w.heap.size + 1 + 1 + 1) (fun x hx => by have := HA.out x hx; omega) (.int .i64 g.ba) (.string (g.bs ++ t.bs.extract 0 k.toNat)) (.int .i64 g.cp) (.int .i64 g.lm) (.bool true) (.bool g.dn)
    unfold put6 at Y2 Y3 Y4 Y5 Yo
    generalize (((((w4.setCell ⟨w.heap.size + 1 + 1 + 1, 0, none⟩ (.int .i64 g.ba)).setCell ⟨w.heap.size + 1 + 1 + 1, 1, none⟩ (.string (g.bs ++ t.bs.extract 0 k.toNat))).setCell ⟨w.heap.size + 1 + 1 + 1, 2, none⟩ (.int .i64 g.cp)).setCell ⟨w.heap.size + 1 + 1 + 1, 3, none⟩ (.int .i64 g.lm)).setCell ⟨w.heap.size + 1 + 1 + 1, 4, none⟩ (.bool true)).setCell ⟨w.heap.size + 1 + 1 + 1, 5, none⟩ (.bool g.dn) = U3 at *
    have keepW : ∀ (q : Nat) (d : Nat → Bool) (w' : World), (fun d w' => Var 26 w' (w.heap.size + 1 + 1) [.int .i64 t.nx, .string (t.bs.extract k.toNat t.bs.size), .slice a' t.l.length c', .int .i64 t.cp, .int .i64 t.fi, .bool true] ∧ Var 28 w' (w.heap.size + 1 + 1 + 1) [.int .i64 g.ba, .string (g.bs ++ t.bs.extract 0 k.toNat), .int .i64 g.cp, .int .i64 g.lm, .bool true, .bool g.dn] ∧ Var 2 w' (w.heap.size + 1 + 1 + 1 + 1) [.int .i64 k] ∧ partE.Own 69 w' w.heap.size a' c' t.l ∧ Below w.heap.size w w') d w' → True → (fun d w' => Var 26 w' (w.heap.size + 1 + 1) [.int .i64 t.nx, .string (t.bs.extract k.toNat t.bs.size), .slice a' t.l.length c', .int .i64 t.cp, .int .i64 t.fi, .bool true] ∧ Var 28 w' (w.heap.size + 1 + 1 + 1) [.int .i64 g.ba, .string (g.bs ++ t.bs.extract 0 k.toNat), .int .i64 g.cp, .int .i64 g.lm, .bool true, .bool g.dn] ∧ Var 2 w' (w.heap.size + 1 + 1 + 1 + 1) [.int .i64 k] ∧ partE.Own 69 w' w.heap.size a' c' t.l ∧ Below w.heap.size w w') (fun j => j == q || d j) w' := fun _ _ _ h _ => h
    refine RegJ.wp_region_J (W := (fun d w' => Var 26 w' (w.heap.size + 1 + 1) [.int .i64 t.nx, .string (t.bs.extract k.toNat t.bs.size), .slice a' t.l.length c', .int .i64 t.cp, .int .i64 t.fi, .bool true] ∧ Var 28 w' (w.heap.size + 1 + 1 + 1) [.int .i64 g.ba, .string (g.bs ++ t.bs.extract 0 k.toNat), .int .i64 g.cp, .int .i64 g.lm, .bool true, .bool g.dn] ∧ Var 2 w' (w.heap.size + 1 + 1 + 1 + 1) [.int .i64 k] ∧ partE.Own 69 w' w.heap.size a' c' t.l ∧ Below w.heap.size w w')) (RegJ.Val [some (.agg #[.int .i64 t.nx, .string (t.bs.extract k.toNat t.bs.size), .slice a' t.l.length c', .int .i64 t.cp, .int .i64 t.fi, .bool true]), some (.agg #[.int .i64 g.ba, .string (g.bs ++ t.bs.extract 0 k.toNat), .int .i64 g.cp, .int .i64 g.lm, .bool true, .bool g.dn]), some (.int .i64 k), none, none, none]) [some 38, some 39, some 40, none, none, none] (F := ?_) (is := [0, 1, 2, 3, 4, 5]) hmix (by kernel_rfl) (by kernel_rfl) (by kernel_rfl) (by kernel_rfl) (fun x => ?_) (⟨Y2.drew, Y3.drew, Y4.drew, Yo.drew, Y5.drew⟩) ?_ (fun dz xz wz hWz hdz hJz => ?_)
    rotate_left 1
    focus (simp only [RegJ.lay, Act.put, Nat.reduceAdd, Nat.zero_add, List.getElem_toArray, List.getElem_cons_zero, List.getElem_cons_succ, List.setIfInBounds_toArray, List.set_cons_zero, List.set_cons_succ]; rfl)
    focus
      refine RegJ.Steps.cons (RegJ.StepAt.mk rfl (fun d x w1 hW1 hJ1 hx1 K hK => ?_)) (RegJ.Steps.cons (RegJ.StepAt.mk rfl (fun d x w1 hW1 hJ1 hx1 K hK => ?_)) (RegJ.Steps.cons (RegJ.StepAt.mk rfl (fun d x w1 hW1 hJ1 hx1 K hK => ?_)) (RegJ.Steps.cons (RegJ.StepAt.mk rfl (fun d x w1 hW1 hJ1 hx1 K hK => ?_)) (RegJ.Steps.cons (RegJ.StepAt.mk rfl (fun d x w1 hW1 hJ1 hx1 K hK => ?_)) (RegJ.Steps.cons (RegJ.StepAt.mk rfl (fun d x w1 hW1 hJ1 hx1 K hK => ?_)) (RegJ.Steps.nil))))))
      focus (simp only [List.getElem_toArray, List.getElem_cons_succ, List.getElem_cons_zero] at hK; have hw := hW1; obtain ⟨z2, z3, z4, zo, zb⟩ := hw; have y0 := z2.cell (i := 0) rfl; have y1 := z2.cell (i := 1) rfl; have y2 := z2.cell (i := 2) rfl; have y3 := z2.cell (i := 3) rfl; have y4 := z2.cell (i := 4) rfl; have y5 := z2.cell (i := 5) rfl; go_simp; exact hK.out _ _ (keepW 0 d _ hW1 (by decide)) RegJ.Val.keep (RegJ.Val.this (Or.inl rfl)))
      focus (simp only [List.getElem_toArray, List.getElem_cons_succ, List.getElem_cons_zero] at hK; have hw := hW1; obtain ⟨z2, z3, z4, zo, zb⟩ := hw; have y0 := z3.cell (i := 0) rfl; have y1 := z3.cell (i := 1) rfl; have y2 := z3.cell (i := 2) rfl; have y3 := z3.cell (i := 3) rfl; have y4 := z3.cell (i := 4) rfl; have y5 := z3.cell (i := 5) rfl; go_simp; exact hK.out _ _ (keepW 1 d _ hW1 (by decide)) RegJ.Val.keep (RegJ.Val.this (Or.inl rfl)))
      focus (simp only [List.getElem_toArray, List.getElem_cons_succ, List.getElem_cons_zero] at hK; have hw := hW1; obtain ⟨z2, z3, z4, zo, zb⟩ := hw; have y0 := z4.cell (i := 0) rfl; go_simp; exact hK.out _ _ (keepW 2 d _ hW1 (by decide)) RegJ.Val.keep (RegJ.Val.this (Or.inl rfl)))
      focus (simp only [List.getElem_toArray, List.getElem_cons_succ, List.getElem_cons_zero] at hK; have j0 : x 0 = _ := (hJ1.out 0 (by kernel_rfl)).2 _ rfl; rw [j0] at hK; have hw := hW1; obtain ⟨z2, z3, z4, zo, zb⟩ := hw; have y0 := z2.cell (i := 0) rfl; have y1 := z2.cell (i := 1) rfl; have y2 := z2.cell (i := 2) rfl; have y3 := z2.cell (i := 3) rfl; have y4 := z2.cell (i := 4) rfl; have y5 := z2.cell (i := 5) rfl; have u0 := z2.free 0; have u1 := z2.free 1; have u2 := z2.free 2; have u3 := z2.free 3; have u4 := z2.free 4; have u5 := z2.free 5; go_simp; exact hK.out undef _ ⟨var_put6 z2 _ _ _ _ _ _, var_other6 z3 (by omega) _ _ _ _ _ _, var_other6 z4 (by omega) _ _ _ _ _ _, own_put6 zo (fun x hx => by have := HA.out x hx; omega) _ _ _ _ _ _, below_put6 zb (by omega) _ _ _ _ _ _⟩ RegJ.Val.keep (RegJ.Val.this (Or.inr rfl)))
      focus (simp only [List.getElem_toArray, List.getElem_cons_succ, List.getElem_cons_zero] at hK; have j1 : x 1 = _ := (hJ1.out 1 (by kernel_rfl)).2 _ rfl; rw [j1] at hK; have hw := hW1; obtain ⟨z2, z3, z4, zo, zb⟩ := hw; have y0 := z3.cell (i := 0) rfl; have y1 := z3.cell (i := 1) rfl; have y2 := z3.cell (i := 2) rfl; have y3 := z3.cell (i := 3) rfl; have y4 := z3.cell (i := 4) rfl; have y5 := z3.cell (i := 5) rfl; have u0 := z3.free 0; have u1 := z3.free 1; have u2 := z3.free 2; have u3 := z3.free 3; have u4 := z3.free 4; have u5 := z3.free 5; go_simp; exact hK.out undef _ ⟨var_other6 z2 (by omega) _ _ _ _ _ _, var_put6 z3 _ _ _ _ _ _, var_other6 z4 (by omega) _ _ _ _ _ _, own_put6 zo (fun x hx => by have := HA.out x hx; omega) _ _ _ _ _ _, below_put6 zb (by omega) _ _ _ _ _ _⟩ RegJ.Val.keep (RegJ.Val.this (Or.inr rfl)))
      focus (simp only [List.getElem_toArray, List.getElem_cons_succ, List.getElem_cons_zero] at hK; have j2 : x 2 = _ := (hJ1.out 2 (by kernel_rfl)).2 _ rfl; rw [j2] at hK; have hw := hW1; obtain ⟨z2, z3, z4, zo, zb⟩ := hw; have y0 := z4.cell (i := 0) rfl; have u0 := z4.free 0; go_simp; exact hK.out undef _ ⟨z2.other (p := ⟨(w.heap.size + 1 + 1 + 1 + 1), 0, none⟩) (by dsimp only; omega) _, z3.other (p := ⟨(w.heap.size + 1 + 1 + 1 + 1), 0, none⟩) (by dsimp only; omega) _, z4.set 0 _, zo.setCell (p := ⟨(w.heap.size + 1 + 1 + 1 + 1), 0, none⟩) (fun x hx => by have := HA.out x hx; dsimp only; omega) _, zb.setCell (p := ⟨(w.heap.size + 1 + 1 + 1 + 1), 0, none⟩) (by dsimp only; omega) _⟩ RegJ.Val.keep (RegJ.Val.this (Or.inr rfl)))
    obtain ⟨z2, z3, z4, zo, zb⟩ := hWz
    go_wp2_with fail
    refine leaves_cons (f := 30) (args := #[.pointer (some ⟨w.heap.size + 1 + 1, 0, none⟩), .pointer (some ⟨w.heap.size + 1 + 1 + 1, 0, none⟩), .pointer (some ⟨w.heap.size + 1 + 1 + 1 + 1, 0, none⟩)]) (by simp) (by simp [go_sem]) ?_
    refine (catch_idle _ _ _ _).mono ?_
    rintro e u' w'' ⟨rfl, rfl, rfl⟩
    have y0 := z2.cell (i := 0) rfl
    have y1 := z2.cell (i := 1) rfl
    have y2 := z2.cell (i := 2) rfl
    have y3 := z2.cell (i := 3) rfl
    have y4 := z2.cell (i := 4) rfl
    have y5 := z2.cell (i := 5) rfl
    have x0 := z3.cell (i := 0) rfl
    have x1 := z3.cell (i := 1) rfl
    have x2 := z3.cell (i := 2) rfl
    have x3 := z3.cell (i := 3) rfl
    have x4 := z3.cell (i := 4) rfl
    have x5 := z3.cell (i := 5) rfl
    have z0 := z4.cell (i := 0) rfl
    simp [Leaves, settle, results, Try.results8, go_sem, y0, y1, y2, y3, y4, y5, z0, x0, x1, x2, x3, x4, x5]
    obtain ⟨eT, eG, eI⟩ := HP.out
    rw [eT, eG, eI]
    refine ⟨a', c', ⟨?_, ⟨rfl, rfl, rfl, rfl, ?_, rfl⟩, rfl⟩, zo, zb⟩
    · simp [leftT, Tk.v, HQ.out]
    · simp [moreG, HQ.out]

end Go.Proofs.Ythdkajaodfkgnaa.Pum

namespace Go.Proofs.Ythdkajaodfkgnaa.Pum
open Go.RowKit RowG Tak Giv
set_option linter.unusedVariables false
set_option linter.unusedSimpArgs false

theorem pump_can (t : Tk) (g : Gv) : pumpI t g 400 = canI t g := by
  unfold pumpI canI pumpB
  cases ht : t.ok
  · simp
  cases hg : g.ok
  · simp
  simp only [Bool.and_self, if_true, Bool.true_and, show decide ((0 : Int) ≤ 400 ∧ (400 : Int) ≤ 400) = true from rfl]
  obtain ⟨c0, c1⟩ := can_in (t := t) hg
  have := (ok_iff.1 ht).1
  unfold inT at this
  unfold moveN
  omega

set_option maxRecDepth 10000 in
set_option maxHeartbeats 4000000 in
theorem implCanPump (t : Tk) (a : Option Addr) (c : Nat) (g : Gv) (w : World) (h : partE.Lies w a t.l) (ha : a = none → c = 0) (hl : t.l.length ≤ 2097152) (hbs : t.bs.size ≤ 2097152) (hp : Bd t.l) (hg : g.bs.size ≤ 2097152) :
    Calls Try.prog 12 #[.agg #[.int .i64 t.nx, .string t.bs, .slice a t.l.length c, .int .i64 t.cp, .int .i64 t.fi, .bool t.en], g.v] w fun x w' => x = .returned (.int .i64 (canI t g)) ∧ Below w.heap.size w w' := by
  have bW := ((Below.refl w.heap.size w).alloc (Nat.le_refl _) (.cells #[.int .i64 t.nx, .string t.bs, .slice a t.l.length c, .int .i64 t.cp, .int .i64 t.fi, .bool t.en] 26)).alloc (by simp) (.cells #[.int .i64 g.ba, .string g.bs, .int .i64 g.cp, .int .i64 g.lm, .bool g.en, .bool g.dn] 28)
  go_enter Try.func12, Try.ntmps12
  go_wp2_with fail
  generalize (w.alloc (.cells #[.int .i64 t.nx, .string t.bs, .slice a t.l.length c, .int .i64 t.cp, .int .i64 t.fi, .bool t.en] 26)).alloc (.cells #[.int .i64 g.ba, .string g.bs, .int .i64 g.cp, .int .i64 g.lm, .bool g.en, .bool g.dn] 28) = V at *
  have hP := implPumps t a c g 400 V (h.later bW) ha hl hbs hp hg
  rw [pump_can] at hP
  obtain ⟨⟨x0, x1, x2, x3, x4, x5⟩, hT⟩ : ∃ T, pumpT t g 400 = T := ⟨_, rfl⟩
  obtain ⟨⟨y0, y1, y2, y3, y4, y5⟩, hG⟩ : ∃ G, pumpG t g 400 = G := ⟨_, rfl⟩
  rw [hT, hG] at hP
  clear hT hG
  dsimp only [Tk.v, Gv.v] at hP ⊢
  refine hP.mono ?_
  clear hP
  rintro x w1 ⟨a', c', rfl, o1, b1⟩
  have B1 := bW.trans (b1.mono bW.size)
  have hs := B1.size
  go_wp2_with fail
  go_ret
  refine ⟨rfl, ?_⟩
  exact (B1.alloc B1.size _).alloc (by simp; omega) _

end Go.Proofs.Ythdkajaodfkgnaa.Pum

/- The porter (chapter 12): contracts of the specification's CanPump and Pumps; lists of at most 2^21 parts, none beyond 2^62. -/
import Derived.Test.YthdkajaodfkgnaaPumA
import Derived.Test.YthdkajaodfkgnaaRegV
namespace Go.Proofs.Ythdkajaodfkgnaa.Pum
open Go.RowKit RowG Tak Giv
set_option linter.unusedVariables false
set_option linter.unusedSimpArgs false

def canI (t : Tk) (g : Gv) : Int := if t.ok && g.ok then canP t g else -1
def pumpB (t : Tk) (g : Gv) (n : Int) : Bool := t.ok && (g.ok && decide (0 ≤ n ∧ n ≤ 400))
def pumpT (t : Tk) (g : Gv) (n : Int) : Tk := if pumpB t g n then leftT t (moveN t g n) else zeroK
def pumpG (t : Tk) (g : Gv) (n : Int) : Gv := if pumpB t g n then moreG t g (moveN t g n) else zeroG
def pumpI (t : Tk) (g : Gv) (n : Int) : Int := if pumpB t g n then moveN t g n else -1

theorem var_put6 {T : TypeId} {w : World} {k : Nat} {o0 o1 o2 o3 o4 o5 : Value} (h : Var T w k [o0, o1, o2, o3, o4, o5]) (v0 v1 v2 v3 v4 v5 : Value) : Var T (put6 w k v0 v1 v2 v3 v4 v5) k [v0, v1, v2, v3, v4, v5] :=
  (((((h.set 0 v0).set 1 v1).set 2 v2).set 3 v3).set 4 v4).set 5 v5
theorem var_other6 {T : TypeId} {w : World} {j k : Nat} {vs : List Value} (h : Var T w j vs) (hne : j ≠ k) (v0 v1 v2 v3 v4 v5 : Value) : Var T (put6 w k v0 v1 v2 v3 v4 v5) j vs := h.same (heap_put6 _ _ _ _ _ _ _ _ _ hne)
theorem res_cells_tmp {fn : Func} {p q u : Tmp} {ty ty' : TypeId} (h : fn.results = #[.cell p ty, .cell q ty', .tmp u]) (tmps : Array Value) (P : Program) (w : World) :
    (results fn tmps).run P w = ((asAddr (tmps.getD p undef)).run P w).andThen fun a w₁ => ((loadVar ty a).run P w₁).andThen fun r w₂ => ((asAddr (tmps.getD q undef)).run P w₂).andThen fun b w₃ => ((loadVar ty' b).run P w₃).andThen fun v w₄ => .ok (.tuple #[r, v, tmps.getD u undef]) w₄ := by
  simp only [results, h]
  simp [Sem.run_bind, Result.andThen]

set_option maxRecDepth 10000 in
set_option maxHeartbeats 4000000 in
theorem specCanPump (t : Tk) (a : Option Addr) (c : Nat) (g : Gv) (w : World) (h : partE.Lies w a t.l) (hl : t.l.length ≤ 2097152) (hbs : t.bs.size ≤ 2097152) (hp : Bd t.l) (hg : g.bs.size ≤ 2097152) :
    Calls Try.prog 13 #[.agg #[.int .i64 t.nx, .string t.bs, .slice a t.l.length c, .int .i64 t.cp, .int .i64 t.fi, .bool t.en], g.v] w fun x w' => x = .returned (.int .i64 (canI t g)) ∧ Below w.heap.size w w' := by
  have hmix := Tak.mix
  have HI : Hid (canI t g = if t.ok && g.ok then canP t g else -1) := rfl
  have hT := fun w' (h : partE.Lies w' a t.l) => specTakerOk t.nx t.bs a t.l.length c t.cp t.fi t.en t.l w' rfl h hl hbs hp.up
  have hG := fun w' => specGiverOk g w' hg
  have hC := fun w' (hok : g.ok = true) => l12Can t a c g w' hok hbs
  have HT : Hid _ := hT
  have HG : Hid _ := hG
  have HC : Hid _ := hC
  clear hT hG hC
  have bW := ((Below.refl w.heap.size w).alloc (Nat.le_refl _) (.cells #[.int .i64 t.nx, .string t.bs, .slice a t.l.length c, .int .i64 t.cp, .int .i64 t.fi, .bool t.en] 26)).alloc (by simp) (.cells #[.int .i64 g.ba, .string g.bs, .int .i64 g.cp, .int .i64 g.lm, .bool g.en, .bool g.dn] 28)
  have v0 : Var 26 (w.alloc (.cells #[.int .i64 t.nx, .string t.bs, .slice a t.l.length c, .int .i64 t.cp, .int .i64 t.fi, .bool t.en] 26)) w.heap.size [.int .i64 t.nx, .string t.bs, .slice a t.l.length c, .int .i64 t.cp, .int .i64 t.fi, .bool t.en] := Var.new w _
  replace v0 := v0.alloc (.cells #[.int .i64 g.ba, .string g.bs, .int .i64 g.cp, .int .i64 g.lm, .bool g.en, .bool g.dn] 28)
  have v1 : Var 28 ((w.alloc (.cells #[.int .i64 t.nx, .string t.bs, .slice a t.l.length c, .int .i64 t.cp, .int .i64 t.fi, .bool t.en] 26)).alloc (.cells #[.int .i64 g.ba, .string g.bs, .int .i64 g.cp, .int .i64 g.lm, .bool g.en, .bool g.dn] 28)) (w.heap.size + 1) [.int .i64 g.ba, .string g.bs, .int .i64 g.cp, .int .i64 g.lm, .bool g.en, .bool g.dn] := by
    have := Var.new (T := 28) (w.alloc (.cells #[.int .i64 t.nx, .string t.bs, .slice a t.l.length c, .int .i64 t.cp, .int .i64 t.fi, .bool t.en] 26)) [.int .i64 g.ba, .string g.bs, .int .i64 g.cp, .int .i64 g.lm, .bool g.en, .bool g.dn]
    simpa using this
  go_enter Try.func13, Try.ntmps13
  go_wp2_with fail
  generalize (w.alloc (.cells #[.int .i64 t.nx, .string t.bs, .slice a t.l.length c, .int .i64 t.cp, .int .i64 t.fi, .bool t.en] 26)).alloc (.cells #[.int .i64 g.ba, .string g.bs, .int .i64 g.cp, .int .i64 g.lm, .bool g.en, .bool g.dn] 28) = V at *
  refine (HT.out _ (h.later bW)).mono ?_
  rintro x w1 ⟨rfl, b1⟩
  have B1 := bW.trans (b1.mono bW.size)
  replace v0 := v0.later b1
  replace v1 := v1.later b1
  clear b1 bW
  cases hok : takerB t.nx t.bs t.l t.cp t.fi t.en
  · have e : canI t g = -1 := by rw [HI.out, show t.ok = false from hok]; rfl
    go_wp2_with fail
    go_ret
    exact ⟨by rw [e]; rfl, B1⟩
  · have f0 := v1.cell (i := 0) rfl
    have f1 := v1.cell (i := 1) rfl
    have f2 := v1.cell (i := 2) rfl
    have f3 := v1.cell (i := 3) rfl
    have f4 := v1.cell (i := 4) rfl
    have f5 := v1.cell (i := 5) rfl
    go_wp2_with fail
    refine (HG.out _).mono ?_
    rintro x w2 ⟨rfl, b2⟩
    have B2 := B1.trans (b2.mono B1.size)
    replace v0 := v0.later b2
    replace v1 := v1.later b2
    clear b2 B1 f0 f1 f2 f3 f4 f5
    cases hgk : g.ok
    · have e : canI t g = -1 := by rw [HI.out, hgk, Bool.and_false]; rfl
      go_wp2_with fail
      go_ret
      exact ⟨by rw [e]; rfl, B2⟩
    · have e : canI t g = canP t g := by rw [HI.out, show t.ok = true from hok, hgk]; rfl
      have e0 := v0.cell (i := 0) rfl
      have e1 := v0.cell (i := 1) rfl
      have e2 := v0.cell (i := 2) rfl
      have e3 := v0.cell (i := 3) rfl
      have e4 := v0.cell (i := 4) rfl
      have e5 := v0.cell (i := 5) rfl
      have f0 := v1.cell (i := 0) rfl
      have f1 := v1.cell (i := 1) rfl
      have f2 := v1.cell (i := 2) rfl
      have f3 := v1.cell (i := 3) rfl
      have f4 := v1.cell (i := 4) rfl
      have f5 := v1.cell (i := 5) rfl
      go_wp2_with fail
      refine (HC.out _ hgk).mono ?_
      rintro x w3 ⟨rfl, b3⟩
      have B3 := B2.trans (b3.mono B2.size)
      clear e0 e1 e2 e3 e4 e5 f0 f1 f2 f3 f4 f5
      go_wp2_with fail
      go_ret
      exact ⟨by rw [e]; rfl, B3⟩

set_option maxRecDepth 10000 in
set_option maxHeartbeats 4000000 in
theorem specPumps (t : Tk) (a : Option Addr) (c : Nat) (g : Gv) (n : Int) (w : World) (h : partE.Lies w a t.l) (ha : a = none → c = 0) (hl : t.l.length ≤ 2097152) (hbs : t.bs.size ≤ 2097152) (hp : Bd t.l) (hg : g.bs.size ≤ 2097152) :
    Calls Try.prog 10 #[.agg #[.int .i64 t.nx, .string t.bs, .slice a t.l.length c, .int .i64 t.cp, .int .i64 t.fi, .bool t.en], g.v, .int .i64 n] w fun x w' => ∃ a' c', x = .returned (.tuple #[(pumpT t g n).v a' c', (pumpG t g n).v, .int .i64 (pumpI t g n)]) ∧ partE.Own 69 w' w.heap.size a' c' (pumpT t g n).l ∧ Below w.heap.size w w' := by
  have hmix := Tak.mix
  have hT := fun w' (h : partE.Lies w' a t.l) => specTakerOk t.nx t.bs a t.l.length c t.cp t.fi t.en t.l w' rfl h hl hbs hp.up
  have hG := fun w' => specGiverOk g w' hg
  have HT : Hid _ := hT
  have HG : Hid _ := hG
  clear hT hG
  have bW := ((((Below.refl w.heap.size w).alloc (Nat.le_refl _) (.cells #[.int .i64 t.nx, .string t.bs, .slice a t.l.length c, .int .i64 t.cp, .int .i64 t.fi, .bool t.en] 26)).alloc (by simp) (.cells #[.int .i64 g.ba, .string g.bs, .int .i64 g.cp, .int .i64 g.lm, .bool g.en, .bool g.dn] 28)).alloc (by simp; omega) (.cells #[.int .i64 0, .string ⟨#[]⟩, .slice none 0 0, .int .i64 0, .int .i64 0, .bool false] 26)).alloc (by simp; omega) (.cells #[.int .i64 0, .string ⟨#[]⟩, .int .i64 0, .int .i64 0, .bool false, .bool false] 28)
  have v0 : Var 26 (w.alloc (.cells #[.int .i64 t.nx, .string t.bs, .slice a t.l.length c, .int .i64 t.cp, .int .i64 t.fi, .bool t.en] 26)) w.heap.size [.int .i64 t.nx, .string t.bs, .slice a t.l.length c, .int .i64 t.cp, .int .i64 t.fi, .bool t.en] := Var.new w _
  replace v0 := ((v0.alloc (.cells #[.int .i64 g.ba, .string g.bs, .int .i64 g.cp, .int .i64 g.lm, .bool g.en, .bool g.dn] 28)).alloc (.cells #[.int .i64 0, .string ⟨#[]⟩, .slice none 0 0, .int .i64 0, .int .i64 0, .bool false] 26)).alloc (.cells #[.int .i64 0, .string ⟨#[]⟩, .int .i64 0, .int .i64 0, .bool false, .bool false] 28)
  have v1 : Var 28 ((w.alloc (.cells #[.int .i64 t.nx, .string t.bs, .slice a t.l.length c, .int .i64 t.cp, .int .i64 t.fi, .bool t.en] 26)).alloc (.cells #[.int .i64 g.ba, .string g.bs, .int .i64 g.cp, .int .i64 g.lm, .bool g.en, .bool g.dn] 28)) (w.heap.size + 1) [.int .i64 g.ba, .string g.bs, .int .i64 g.cp, .int .i64 g.lm, .bool g.en, .bool g.dn] := by
    have := Var.new (T := 28) (w.alloc (.cells #[.int .i64 t.nx, .string t.bs, .slice a t.l.length c, .int .i64 t.cp, .int .i64 t.fi, .bool t.en] 26)) [.int .i64 g.ba, .string g.bs, .int .i64 g.cp, .int .i64 g.lm, .bool g.en, .bool g.dn]
    simpa using this
  replace v1 := (v1.alloc (.cells #[.int .i64 0, .string ⟨#[]⟩, .slice none 0 0, .int .i64 0, .int .i64 0, .bool false] 26)).alloc (.cells #[.int .i64 0, .string ⟨#[]⟩, .int .i64 0, .int .i64 0, .bool false, .bool false] 28)
  have v2 : Var 26 (((w.alloc (.cells #[.int .i64 t.nx, .string t.bs, .slice a t.l.length c, .int .i64 t.cp, .int .i64 t.fi, .bool t.en] 26)).alloc (.cells #[.int .i64 g.ba, .string g.bs, .int .i64 g.cp, .int .i64 g.lm, .bool g.en, .bool g.dn] 28)).alloc (.cells #[.int .i64 0, .string ⟨#[]⟩, .slice none 0 0, .int .i64 0, .int .i64 0, .bool false] 26)) (w.heap.size + 1 + 1) [.int .i64 0, .string ⟨#[]⟩, .slice none 0 0, .int .i64 0, .int .i64 0, .bool false] := by
    have := Var.new (T := 26) ((w.alloc (.cells #[.int .i64 t.nx, .string t.bs, .slice a t.l.length c, .int .i64 t.cp, .int .i64 t.fi, .bool t.en] 26)).alloc (.cells #[.int .i64 g.ba, .string g.bs, .int .i64 g.cp, .int .i64 g.lm, .bool g.en, .bool g.dn] 28)) [.int .i64 0, .string ⟨#[]⟩, .slice none 0 0, .int .i64 0, .int .i64 0, .bool false]
    simpa using this
  replace v2 := v2.alloc (.cells #[.int .i64 0, .string ⟨#[]⟩, .int .i64 0, .int .i64 0, .bool false, .bool false] 28)
  have v3 : Var 28 ((((w.alloc (.cells #[.int .i64 t.nx, .string t.bs, .slice a t.l.length c, .int .i64 t.cp, .int .i64 t.fi, .bool t.en] 26)).alloc (.cells #[.int .i64 g.ba, .string g.bs, .int .i64 g.cp, .int .i64 g.lm, .bool g.en, .bool g.dn] 28)).alloc (.cells #[.int .i64 0, .string ⟨#[]⟩, .slice none 0 0, .int .i64 0, .int .i64 0, .bool false] 26)).alloc (.cells #[.int .i64 0, .string ⟨#[]⟩, .int .i64 0, .int .i64 0, .bool false, .bool false] 28)) (w.heap.size + 1 + 1 + 1) [.int .i64 0, .string ⟨#[]⟩, .int .i64 0, .int .i64 0, .bool false, .bool false] := by
    have := Var.new (T := 28) (((w.alloc (.cells #[.int .i64 t.nx, .string t.bs, .slice a t.l.length c, .int .i64 t.cp, .int .i64 t.fi, .bool t.en] 26)).alloc (.cells #[.int .i64 g.ba, .string g.bs, .int .i64 g.cp, .int .i64 g.lm, .bool g.en, .bool g.dn] 28)).alloc (.cells #[.int .i64 0, .string ⟨#[]⟩, .slice none 0 0, .int .i64 0, .int .i64 0, .bool false] 26)) [.int .i64 0, .string ⟨#[]⟩, .int .i64 0, .int .i64 0, .bool false, .bool false]
    simpa using this
  go_enter Try.func10, Try.ntmps10
  go_wp2_with fail
  generalize (((w.alloc (.cells #[.int .i64 t.nx, .string t.bs, .slice a t.l.length c, .int .i64 t.cp, .int .i64 t.fi, .bool t.en] 26)).alloc (.cells #[.int .i64 g.ba, .string g.bs, .int .i64 g.cp, .int .i64 g.lm, .bool g.en, .bool g.dn] 28)).alloc (.cells #[.int .i64 0, .string ⟨#[]⟩, .slice none 0 0, .int .i64 0, .int .i64 0, .bool false] 26)).alloc (.cells #[.int .i64 0, .string ⟨#[]⟩, .int .i64 0, .int .i64 0, .bool false, .bool false] 28) = V at *
  refine (HT.out _ (h.later bW)).mono ?_
  rintro x w1 ⟨rfl, b1⟩
  have B1 := bW.trans (b1.mono bW.size)
  replace v0 := v0.later b1
  replace v1 := v1.later b1
  replace v2 := v2.later b1
  replace v3 := v3.later b1
  clear b1 bW
  cases hok : takerB t.nx t.bs t.l t.cp t.fi t.en
  · have e : pumpB t g n = false := by unfold pumpB; rw [show t.ok = false from hok]; rfl
    have r0 := v2.cell (i := 0) rfl
    have r1 := v2.cell (i := 1) rfl
    have r2 := v2.cell (i := 2) rfl
    have r3 := v2.cell (i := 3) rfl
    have r4 := v2.cell (i := 4) rfl
    have r5 := v2.cell (i := 5) rfl
    have q0 := v3.cell (i := 0) rfl
    have q1 := v3.cell (i := 1) rfl
    have q2 := v3.cell (i := 2) rfl
    have q3 := v3.cell (i := 3) rfl
    have q4 := v3.cell (i := 4) rfl
    have q5 := v3.cell (i := 5) rfl
    have y0 := v2.free 0
    have y1 := v2.free 1
    have y2 := v2.free 2
    have y3 := v2.free 3
    have y4 := v2.free 4
    have y5 := v2.free 5
    have z0 := v3.free 0
    have z1 := v3.free 1
    have z2 := v3.free 2
    have z3 := v3.free 3
    have z4 := v3.free 4
    have z5 := v3.free 5
    clear v0 v1 v2 v3
    go_wp2_with fail
    refine bodyPost_ret (v := .tuple #[zeroK.v none 0, zeroG.v, .int .i64 (-1)]) (by rw [res_cells_tmp rfl]; go_simp; rfl) rfl ⟨none, 0, by simp only [pumpT, pumpG, pumpI, e, Bool.false_eq_true, if_false], by simp only [pumpT, e, Bool.false_eq_true, if_false]; exact El.Own.none _ _, ?_⟩
    iterate 12 (refine Below.setCell ?_ (by dsimp only; omega) _)
    exact B1
  · have f0 := v1.cell (i := 0) rfl
    have f1 := v1.cell (i := 1) rfl
    have f2 := v1.cell (i := 2) rfl
    have f3 := v1.cell (i := 3) rfl
    have f4 := v1.cell (i := 4) rfl
    have f5 := v1.cell (i := 5) rfl
    go_wp2_with fail
    refine (HG.out _).mono ?_
    rintro x w2 ⟨rfl, b2⟩
    have B2 := B1.trans (b2.mono B1.size)
    replace v0 := v0.later b2
    replace v1 := v1.later b2
    replace v2 := v2.later b2
    replace v3 := v3.later b2
    clear b2 B1 f0 f1 f2 f3 f4 f5
    cases hgk : g.ok
    · have e : pumpB t g n = false := by unfold pumpB; rw [hgk, Bool.false_and, Bool.and_false]
      have r0 := v2.cell (i := 0) rfl
      have r1 := v2.cell (i := 1) rfl
      have r2 := v2.cell (i := 2) rfl
      have r3 := v2.cell (i := 3) rfl
      have r4 := v2.cell (i := 4) rfl
      have r5 := v2.cell (i := 5) rfl
      have q0 := v3.cell (i := 0) rfl
      have q1 := v3.cell (i := 1) rfl
      have q2 := v3.cell (i := 2) rfl
      have q3 := v3.cell (i := 3) rfl
      have q4 := v3.cell (i := 4) rfl
      have q5 := v3.cell (i := 5) rfl
      have y0 := v2.free 0
      have y1 := v2.free 1
      have y2 := v2.free 2
      have y3 := v2.free 3
      have y4 := v2.free 4
      have y5 := v2.free 5
      have z0 := v3.free 0
      have z1 := v3.free 1
      have z2 := v3.free 2
      have z3 := v3.free 3
      have z4 := v3.free 4
      have z5 := v3.free 5
      clear v0 v1 v2 v3
      go_wp2_with fail
      refine bodyPost_ret (v := .tuple #[zeroK.v none 0, zeroG.v, .int .i64 (-1)]) (by rw [res_cells_tmp rfl]; go_simp; rfl) rfl ⟨none, 0, by simp only [pumpT, pumpG, pumpI, e, Bool.false_eq_true, if_false], by simp only [pumpT, e, Bool.false_eq_true, if_false]; exact El.Own.none _ _, ?_⟩
      iterate 12 (refine Below.setCell ?_ (by dsimp only; omega) _)
      exact B2
    · obtain ⟨u, hu⟩ : ∃ u, decide (0 ≤ n ∧ n ≤ 400) = u := ⟨_, rfl⟩
      go_wp2_with fail
      refine (Tak.l1InEq hu _).mono ?_
      rintro x w3 ⟨rfl, rfl⟩
      cases u
      · have e : pumpB t g n = false := by unfold pumpB; rw [hu, Bool.and_false, Bool.and_false]
        have r0 := v2.cell (i := 0) rfl
        have r1 := v2.cell (i := 1) rfl
        have r2 := v2.cell (i := 2) rfl
        have r3 := v2.cell (i := 3) rfl
        have r4 := v2.cell (i := 4) rfl
        have r5 := v2.cell (i := 5) rfl
        have q0 := v3.cell (i := 0) rfl
        have q1 := v3.cell (i := 1) rfl
        have q2 := v3.cell (i := 2) rfl
        have q3 := v3.cell (i := 3) rfl
        have q4 := v3.cell (i := 4) rfl
        have q5 := v3.cell (i := 5) rfl
        have y0 := v2.free 0
        have y1 := v2.free 1
        have y2 := v2.free 2
        have y3 := v2.free 3
        have y4 := v2.free 4
        have y5 := v2.free 5
        have z0 := v3.free 0
        have z1 := v3.free 1
        have z2 := v3.free 2
        have z3 := v3.free 3
        have z4 := v3.free 4
        have z5 := v3.free 5
        clear v0 v1 v2 v3
        go_wp2_with fail
        refine bodyPost_ret (v := .tuple #[zeroK.v none 0, zeroG.v, .int .i64 (-1)]) (by rw [res_cells_tmp rfl]; go_simp; rfl) rfl ⟨none, 0, by simp only [pumpT, pumpG, pumpI, e, Bool.false_eq_true, if_false], by simp only [pumpT, e, Bool.false_eq_true, if_false]; exact El.Own.none _ _, ?_⟩
        iterate 12 (refine Below.setCell ?_ (by dsimp only; omega) _)
        exact B2
      · have e : pumpB t g n = true := by unfold pumpB; rw [hu, hgk, show t.ok = true from hok]; rfl
        obtain ⟨n0, n1⟩ := of_decide_eq_true hu
        have e0 := v0.cell (i := 0) rfl
        have e1 := v0.cell (i := 1) rfl
        have e2 := v0.cell (i := 2) rfl
        have e3 := v0.cell (i := 3) rfl
        have e4 := v0.cell (i := 4) rfl
        have e5 := v0.cell (i := 5) rfl
        go_wp2_with fail
        refine (l5Copy t.nx t.bs a _ c t.cp t.fi t.en t.l _ rfl (h.later B2) hl ha).mono ?_
        rintro x w4 ⟨a', c', rfl, o4, b4⟩
        clear e0 e1 e2 e3 e4 e5
        have B4 := B2.trans (b4.mono B2.size)
        have hx' : ∀ x, a' = some x → w.heap.size + 1 + 1 + 1 < x.block := fun x hx => by have := (o4.lt x hx).1; have := v3.lt; omega
        have o4' : ∀ x, a' = some x → x.block < w4.heap.size := fun x hx => (o4.lt x hx).2
        replace o4 := o4.mono B2.size
        replace v1 := v1.later b4
        replace v2 := v2.later b4
        replace v3 := v3.later b4
        have hs4 : w.heap.size + 1 + 1 + 1 < w4.heap.size := v3.lt
        clear v0 b4 B2
        have x4 : Var 26 (w4.alloc (.cells #[.int .i64 t.nx, .string t.bs, .slice a' t.l.length c', .int .i64 t.cp, .int .i64 t.fi, .bool t.en] 26)) w4.heap.size [.int .i64 t.nx, .string t.bs, .slice a' t.l.length c', .int .i64 t.cp, .int .i64 t.fi, .bool t.en] := Var.new w4 _
        replace v1 := v1.alloc (.cells #[.int .i64 t.nx, .string t.bs, .slice a' t.l.length c', .int .i64 t.cp, .int .i64 t.fi, .bool t.en] 26)
        replace v2 := v2.alloc (.cells #[.int .i64 t.nx, .string t.bs, .slice a' t.l.length c', .int .i64 t.cp, .int .i64 t.fi, .bool t.en] 26)
        replace v3 := v3.alloc (.cells #[.int .i64 t.nx, .string t.bs, .slice a' t.l.length c', .int .i64 t.cp, .int .i64 t.fi, .bool t.en] 26)
        replace o4 := o4.alloc (.cells #[.int .i64 t.nx, .string t.bs, .slice a' t.l.length c', .int .i64 t.cp, .int .i64 t.fi, .bool t.en] 26)
        have B5 := B4.alloc B4.size (.cells #[.int .i64 t.nx, .string t.bs, .slice a' t.l.length c', .int .i64 t.cp, .int .i64 t.fi, .bool t.en] 26)
        clear B4
        have hxw : ∀ x, a' = some x → x.block < w4.heap.size := fun x hx => (o4' x hx)
        go_wp2_with fail
        refine (l12Pump (duo_two (T := 26) (T' := 28) (pre := []) (post := []) (pre' := []) (post' := []) (kt := w4.heap.size) (ot := 0) (kg := w.heap.size + 1) (og := 0) (by omega)) t a' c' g n _ ⟨x4.win, v1.win⟩ hgk hbs n0).mono ?_
        rintro x w6 ⟨rfl, ⟨y0, y1⟩, k6⟩
        replace y0 := y0.whole
        replace y1 := y1.whole
        replace v2 := v2.same (k6.block _ v2.lt (by omega) (by omega))
        replace v3 := v3.same (k6.block _ v3.lt (by omega) (by omega))
        have o6 := Kept2.own o4 k6 (fun x hx => by have := hxw x hx; omega) (fun x hx => by have := hx' x hx; omega)
        have B6 := B5.trans (k6.below (by omega) (by omega) B5.size)
        clear k6 o4 v1 x4 B5
        have eT : Hid (pumpT t g n = leftT t (moveN t g n)) := by show _ = _; simp only [pumpT, e, if_true]
        have eG : Hid (pumpG t g n = moreG t g (moveN t g n)) := by show _ = _; simp only [pumpG, e, if_true]
        have eI : Hid (pumpI t g n = moveN t g n) := by show _ = _; simp only [pumpI, e, if_true]
        replace o6 : partE.Own 69 w6 w.heap.size a' c' (leftT t (moveN t g n)).l := o6
        clear e HT HG hok hu
        generalize w4.heap.size = k4 at *
        generalize moreG t g (moveN t g n) = G at *
        generalize leftT t (moveN t g n) = P at *
        generalize moveN t g n = I at *
        obtain ⟨p0, p1, p2, p3, p4, p5⟩ := P
        obtain ⟨q0, q1, q2, q3, q4, q5⟩ := G
        dsimp only [tc] at *
        go_upto_region 5 with (fail)
        have keepW : ∀ (i : Nat) (d : Nat → Bool) (w1 : World), (fun d w' => Var 26 w' k4 [.int .i64 p0, .string p1, .slice a' p2.length c', .int .i64 p3, .int .i64 p4, .bool p5] ∧ Var 28 w' (w.heap.size + 1) [.int .i64 q0, .string q1, .int .i64 q2, .int .i64 q3, .bool q4, .bool q5] ∧ Var 26 w' (w.heap.size + 1 + 1) (if d 3 = true then [.int .i64 p0, .string p1, .slice a' p2.length c', .int .i64 p3, .int .i64 p4, .bool p5] else [.int .i64 0, .string ⟨#[]⟩, .slice none 0 0, .int .i64 0, .int .i64 0, .bool false]) ∧ Var 28 w' (w.heap.size + 1 + 1 + 1) (if d 4 = true then [.int .i64 q0, .string q1, .int .i64 q2, .int .i64 q3, .bool q4, .bool q5] else [.int .i64 0, .string ⟨#[]⟩, .int .i64 0, .int .i64 0, .bool false, .bool false]) ∧ partE.Own 69 w' w.heap.size a' c' p2 ∧ Below w.heap.size w w') d w1 → (i ≠ 3 ∧ i ≠ 4) → (fun d w' => Var 26 w' k4 [.int .i64 p0, .string p1, .slice a' p2.length c', .int .i64 p3, .int .i64 p4, .bool p5] ∧ Var 28 w' (w.heap.size + 1) [.int .i64 q0, .string q1, .int .i64 q2, .int .i64 q3, .bool q4, .bool q5] ∧ Var 26 w' (w.heap.size + 1 + 1) (if d 3 = true then [.int .i64 p0, .string p1, .slice a' p2.length c', .int .i64 p3, .int .i64 p4, .bool p5] else [.int .i64 0, .string ⟨#[]⟩, .slice none 0 0, .int .i64 0, .int .i64 0, .bool false]) ∧ Var 28 w' (w.heap.size + 1 + 1 + 1) (if d 4 = true then [.int .i64 q0, .string q1, .int .i64 q2, .int .i64 q3, .bool q4, .bool q5] else [.int .i64 0, .string ⟨#[]⟩, .int .i64 0, .int .i64 0, .bool false, .bool false]) ∧ partE.Own 69 w' w.heap.size a' c' p2 ∧ Below w.heap.size w w') (fun j => j == i || d j) w1 := fun i d w1 hW hi => by
          have e3 : ((3 : Nat) == i) = false := beq_eq_false_iff_ne.2 (Ne.symm hi.1)
          have e4 : ((4 : Nat) == i) = false := beq_eq_false_iff_ne.2 (Ne.symm hi.2)
          simp only [e3, e4, Bool.false_or]
          exact hW
        refine RegJ.wp_region_J (W := (fun d w' => Var 26 w' k4 [.int .i64 p0, .string p1, .slice a' p2.length c', .int .i64 p3, .int .i64 p4, .bool p5] ∧ Var 28 w' (w.heap.size + 1) [.int .i64 q0, .string q1, .int .i64 q2, .int .i64 q3, .bool q4, .bool q5] ∧ Var 26 w' (w.heap.size + 1 + 1) (if d 3 = true then [.int .i64 p0, .string p1, .slice a' p2.length c', .int .i64 p3, .int .i64 p4, .bool p5] else [.int .i64 0, .string ⟨#[]⟩, .slice none 0 0, .int .i64 0, .int .i64 0, .bool false]) ∧ Var 28 w' (w.heap.size + 1 + 1 + 1) (if d 4 = true then [.int .i64 q0, .string q1, .int .i64 q2, .int .i64 q3, .bool q4, .bool q5] else [.int .i64 0, .string ⟨#[]⟩, .int .i64 0, .int .i64 0, .bool false, .bool false]) ∧ partE.Own 69 w' w.heap.size a' c' p2 ∧ Below w.heap.size w w')) (RegJ.Val [some (.agg #[.int .i64 p0, .string p1, .slice a' p2.length c', .int .i64 p3, .int .i64 p4, .bool p5]), some (.agg #[.int .i64 q0, .string q1, .int .i64 q2, .int .i64 q3, .bool q4, .bool q5]), some (.int .i64 I), none, none, some (.int .i64 I)]) [some 30, some 31, some 32, none, none, some 8] (F := ?_) (is := [0, 1, 2, 3, 4, 5]) hmix (by kernel_rfl) (by kernel_rfl) (by kernel_rfl) (by kernel_rfl) (fun x => ?_) (⟨y0.drew, y1.drew, v2.drew, v3.drew, o6.drew, B6.drew⟩) ?_ (fun dR xR wR hWR hdR hJR => ?_)
        rotate_left 1
        focus (simp only [RegJ.lay, Act.put, Nat.reduceAdd, Nat.zero_add, List.getElem_toArray, List.getElem_cons_zero, List.getElem_cons_succ, List.setIfInBounds_toArray, List.set_cons_zero, List.set_cons_succ]; rfl)
        focus
          refine RegJ.Steps.cons (RegJ.StepAt.mk rfl (fun d x w1 hW1 hJ1 hx1 K hK => ?_)) (RegJ.Steps.cons (RegJ.StepAt.mk rfl (fun d x w1 hW1 hJ1 hx1 K hK => ?_)) (RegJ.Steps.cons (RegJ.StepAt.mk rfl (fun d x w1 hW1 hJ1 hx1 K hK => ?_)) (RegJ.Steps.cons (RegJ.StepAt.mk rfl (fun d x w1 hW1 hJ1 hx1 K hK => ?_)) (RegJ.Steps.cons (RegJ.StepAt.mk rfl (fun d x w1 hW1 hJ1 hx1 K hK => ?_)) (RegJ.Steps.cons (RegJ.StepAt.mk rfl (fun d x w1 hW1 hJ1 hx1 K hK => ?_)) (RegJ.Steps.nil))))))
          focus (simp only [List.getElem_toArray, List.getElem_cons_succ, List.getElem_cons_zero] at hK; obtain ⟨u0, u1, u2, u3, u4, u5⟩ := id hW1; have e0 := u0.cell (i := 0) rfl; have e1 := u0.cell (i := 1) rfl; have e2 := u0.cell (i := 2) rfl; have e3 := u0.cell (i := 3) rfl; have e4 := u0.cell (i := 4) rfl; have e5 := u0.cell (i := 5) rfl; go_simp; exact hK.out _ _ (keepW 0 d _ hW1 (by decide)) RegJ.Val.keep (RegJ.Val.this (Or.inl rfl)))
          focus (simp only [List.getElem_toArray, List.getElem_cons_succ, List.getElem_cons_zero] at hK; obtain ⟨u0, u1, u2, u3, u4, u5⟩ := id hW1; have e0 := u1.cell (i := 0) rfl; have e1 := u1.cell (i := 1) rfl; have e2 := u1.cell (i := 2) rfl; have e3 := u1.cell (i := 3) rfl; have e4 := u1.cell (i := 4) rfl; have e5 := u1.cell (i := 5) rfl; go_simp; exact hK.out _ _ (keepW 1 d _ hW1 (by decide)) RegJ.Val.keep (RegJ.Val.this (Or.inl rfl)))
          focus (simp only [List.getElem_toArray, List.getElem_cons_succ, List.getElem_cons_zero] at hK; go_simp; exact hK.out _ _ (keepW 2 d _ hW1 (by decide)) RegJ.Val.keep (RegJ.Val.this (Or.inl rfl)))
          focus (simp only [List.getElem_toArray, List.getElem_cons_succ, List.getElem_cons_zero] at hK; obtain ⟨u0, u1, u2, u3, u4, u5⟩ := id hW1; rw [if_neg (by rw [(hx1.out 3 (.inl rfl)).1]; decide)] at u2; have j0 : x 0 = _ := (hJ1.out 0 (by kernel_rfl)).2 _ rfl; rw [j0] at hK; have r0 := u2.cell (i := 0) rfl; have r1 := u2.cell (i := 1) rfl; have r2 := u2.cell (i := 2) rfl; have r3 := u2.cell (i := 3) rfl; have r4 := u2.cell (i := 4) rfl; have r5 := u2.cell (i := 5) rfl; have z0 := u2.free 0; have z1 := u2.free 1; have z2 := u2.free 2; have z3 := u2.free 3; have z4 := u2.free 4; have z5 := u2.free 5; have h0 : Hid _ := var_put6 u2 (.int .i64 p0) (.string p1) (.slice a' p2.length c') (.int .i64 p3) (.int .i64 p4) (.bool p5); have h1 : Hid _ := var_other6 u0 (k := w.heap.size + 1 + 1) (by omega) (.int .i64 p0) (.string p1) (.slice a' p2.length c') (.int .i64 p3) (.int .i64 p4) (.bool p5); have h2 : Hid _ := var_other6 u1 (k := w.heap.size + 1 + 1) (by omega) (.int .i64 p0) (.string p1) (.slice a' p2.length c') (.int .i64 p3) (.int .i64 p4) (.bool p5); have h3 : Hid _ := var_other6 u3 (k := w.heap.size + 1 + 1) (by omega) (.int .i64 p0) (.string p1) (.slice a' p2.length c') (.int .i64 p3) (.int .i64 p4) (.bool p5); have h4 : Hid _ := own_put6 u4 (k := w.heap.size + 1 + 1) (fun x hx => by have := hx' x hx; omega) (.int .i64 p0) (.string p1) (.slice a' p2.length c') (.int .i64 p3) (.int .i64 p4) (.bool p5); have h5 : Hid _ := below_put6 u5 (k := w.heap.size + 1 + 1) (by omega) (.int .i64 p0) (.string p1) (.slice a' p2.length c') (.int .i64 p3) (.int .i64 p4) (.bool p5); clear u0 u1 u2 u3 u4 u5; go_simp; exact hK.out undef _ ⟨h1.out, h2.out, by rw [if_pos (by simp)]; exact h0.out, h3.out, h4.out, h5.out⟩ RegJ.Val.keep (RegJ.Val.this (Or.inr rfl)))
          focus (simp only [List.getElem_toArray, List.getElem_cons_succ, List.getElem_cons_zero] at hK; obtain ⟨u0, u1, u2, u3, u4, u5⟩ := id hW1; rw [if_neg (by rw [(hx1.out 4 (.inl rfl)).1]; decide)] at u3; have j1 : x 1 = _ := (hJ1.out 1 (by kernel_rfl)).2 _ rfl; rw [j1] at hK; have r0 := u3.cell (i := 0) rfl; have r1 := u3.cell (i := 1) rfl; have r2 := u3.cell (i := 2) rfl; have r3 := u3.cell (i := 3) rfl; have r4 := u3.cell (i := 4) rfl; have r5 := u3.cell (i := 5) rfl; have z0 := u3.free 0; have z1 := u3.free 1; have z2 := u3.free 2; have z3 := u3.free 3; have z4 := u3.free 4; have z5 := u3.free 5; rw [if_pos (hJ1.out 3 (by kernel_rfl)).1] at u2; have hd3 : Hid _ := (hJ1.out 3 (by kernel_rfl)).1; have h0 : Hid _ := var_put6 u3 (.int .i64 q0) (.string q1) (.int .i64 q2) (.int .i64 q3) (.bool q4) (.bool q5); have h1 : Hid _ := var_other6 u0 (k := w.heap.size + 1 + 1 + 1) (by omega) (.int .i64 q0) (.string q1) (.int .i64 q2) (.int .i64 q3) (.bool q4) (.bool q5); have h2 : Hid _ := var_other6 u1 (k := w.heap.size + 1 + 1 + 1) (by omega) (.int .i64 q0) (.string q1) (.int .i64 q2) (.int .i64 q3) (.bool q4) (.bool q5); have h3 : Hid _ := var_other6 u2 (k := w.heap.size + 1 + 1 + 1) (by omega) (.int .i64 q0) (.string q1) (.int .i64 q2) (.int .i64 q3) (.bool q4) (.bool q5); have h4 : Hid _ := own_put6 u4 (k := w.heap.size + 1 + 1 + 1) (fun x hx => by have := hx' x hx; omega) (.int .i64 q0) (.string q1) (.int .i64 q2) (.int .i64 q3) (.bool q4) (.bool q5); have h5 : Hid _ := below_put6 u5 (k := w.heap.size + 1 + 1 + 1) (by omega) (.int .i64 q0) (.string q1) (.int .i64 q2) (.int .i64 q3) (.bool q4) (.bool q5); clear u0 u1 u2 u3 u4 u5; go_simp; exact hK.out undef _ ⟨h1.out, h2.out, by rw [if_pos (by simp [hd3.out])]; exact h3.out, by rw [if_pos (by simp)]; exact h0.out, h4.out, h5.out⟩ RegJ.Val.keep (RegJ.Val.this (Or.inr rfl)))
          focus (simp only [List.getElem_toArray, List.getElem_cons_succ, List.getElem_cons_zero] at hK; have j2 : x 2 = _ := (hJ1.out 2 (by kernel_rfl)).2 _ rfl; rw [j2] at hK; go_simp; exact hK.out _ _ (keepW 5 d _ hW1 (by decide)) RegJ.Val.keep (RegJ.Val.this (Or.inl rfl)))
        obtain ⟨-, -, u2, u3, u4, u5⟩ := hWR
        rw [if_pos (hdR 3 (by simp))] at u2
        rw [if_pos (hdR 4 (by simp))] at u3
        have j5 : xR 5 = .int .i64 I := (hJR 5 (by simp)).2 _ rfl
        rw [j5]
        clear hJR hdR keepW y0 y1 v2 v3 o6 B6 j5
        have r0 := u2.cell (i := 0) rfl
        have r1 := u2.cell (i := 1) rfl
        have r2 := u2.cell (i := 2) rfl
        have r3 := u2.cell (i := 3) rfl
        have r4 := u2.cell (i := 4) rfl
        have r5 := u2.cell (i := 5) rfl
        have s0 := u3.cell (i := 0) rfl
        have s1 := u3.cell (i := 1) rfl
        have s2 := u3.cell (i := 2) rfl
        have s3 := u3.cell (i := 3) rfl
        have s4 := u3.cell (i := 4) rfl
        have s5 := u3.cell (i := 5) rfl
        go_wp2_with fail
        refine bodyPost_ret (v := .tuple #[.agg #[.int .i64 p0, .string p1, .slice a' p2.length c', .int .i64 p3, .int .i64 p4, .bool p5], .agg #[.int .i64 q0, .string q1, .int .i64 q2, .int .i64 q3, .bool q4, .bool q5], .int .i64 I]) (by rw [res_cells_tmp rfl]; go_simp) rfl ⟨a', c', by rw [eT.out, eG.out, eI.out]; rfl, by rw [eT.out]; exact u4, u5⟩

end Go.Proofs.Ythdkajaodfkgnaa.Pum

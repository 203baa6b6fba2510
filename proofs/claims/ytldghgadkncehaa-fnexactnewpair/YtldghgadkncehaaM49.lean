/- Contracts of this seat's functions, and their mathematics (RegV PumB). -/
import Derived.Test.YtldghgadkncehaaM26
import Derived.Test.YtldghgadkncehaaM48
set_option linter.unusedVariables false
set_option linter.unusedSimpArgs false
namespace Go.Proofs.Ytldghgadkncehaa.RegJ
open Go.RowKit
/-- Operation j is done and gave this value (where one is told). -/
def Val (vs : List (Option Value)) (d : Nat → Bool) (j : Nat) (v : Value) (_ : World) : Prop := d j = true ∧ ∀ u, vs[j]? = some (some u) → v = u
theorem Val.keep {vs : List (Option Value)} {d : Nat → Bool} {x : Nat → Value} {w w' : World} {i : Nat} : ∀ j, j ≠ i → Val vs d j (x j) w → Val vs (fun j => j == i || d j) j (x j) w' :=
  fun j _ h => ⟨by simp [h.1], h.2⟩
theorem Val.this {vs : List (Option Value)} {d : Nat → Bool} {w : World} {i : Nat} {v : Value} (h : vs[i]? = some (some v) ∨ vs[i]? = some none) : Val vs (fun j => j == i || d j) i v w :=
  ⟨by simp, fun u hu => by
    rcases h with h | h
    · rw [h] at hu; cases hu; rfl
    · rw [h] at hu; cases hu⟩
end Go.Proofs.Ytldghgadkncehaa.RegJ
namespace Go.Proofs.Ytldghgadkncehaa.Pum
open Go.RowKit RowG Tak Giv
def canI (t : Tk) (g : Gv) : Int := if t.ok && g.ok then canP t g else -1
def pumpB (t : Tk) (g : Gv) (n : Int) : Bool := t.ok && (g.ok && decide (0 ≤ n ∧ n ≤ 400))
def pumpT (t : Tk) (g : Gv) (n : Int) : Tk := if pumpB t g n then leftT t (moveN t g n) else zeroK
def pumpG (t : Tk) (g : Gv) (n : Int) : Gv := if pumpB t g n then moreG t g (moveN t g n) else zeroG
def pumpI (t : Tk) (g : Gv) (n : Int) : Int := if pumpB t g n then moveN t g n else -1
theorem var_put6 {T : TypeId} {w : World} {k : Nat} {o0 o1 o2 o3 o4 o5 : Value} (h : Var T w k [o0, o1, o2, o3, o4, o5]) (v0 v1 v2 v3 v4 v5 : Value) : Var T (put6 w k v0 v1 v2 v3 v4 v5) k [v0, v1, v2, v3, v4, v5] :=
  (((((h.set 0 v0).set 1 v1).set 2 v2).set 3 v3).set 4 v4).set 5 v5
theorem var_other6 {T : TypeId} {w : World} {j k : Nat} {vs : List Value} (h : Var T w j vs) (hne : j ≠ k) (v0 v1 v2 v3 v4 v5 : Value) : Var T (put6 w k v0 v1 v2 v3 v4 v5) j vs := h.same (heap_put6 _ _ _ _ _ _ _ _ _ hne)
theorem res_cells_tmp {fn : Func} {p q u : Tmp} {ty ty' : TypeId} (h : fn.results = #[.cell p ty, .cell q ty', .tmp u]) (tmps : Array Value) (P : Program) (w : World) :
    (results fn tmps).run P w = ((asAddr (tmps.getD p undef)).run P w).andThen fun a w₁ => ((loadVar ty a).run P w₁).andThen fun r w₂ => ((asAddr (tmps.getD q undef)).run P w₂).andThen fun b w₃ => ((loadVar ty' b).run P w₃).andThen fun v w₄ => .ok (.tuple #[r, v, tmps.getD u undef]) w₄ := by
  simp only [results, h]
  simp [Sem.run_bind, Result.andThen]
end Go.Proofs.Ytldghgadkncehaa.Pum

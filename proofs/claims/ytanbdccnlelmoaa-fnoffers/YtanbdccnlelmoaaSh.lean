/- What is told of an operation's value in a region that draws its order (for RegJ): shapes, and that they stay while only the cursor's block, or one block below, turns. Plain. -/
import Derived.Test.YtanbdccnlelmoaaRegJ
import Derived.Test.YtanbdccnlelmoaaRowG
namespace Go.Proofs.Ytanbdccnlelmoaa.RegJ
open Go.RowKit RowG
set_option linter.unusedVariables false

/-- any: nothing is told; eq: this very value; int: a number from lo to hi; num: a number; flag: a Boolean; str: a text of at most n bytes; row: a slice of vs, in a block of its own behind c; elem: the address of one of these; one: one of vs; at: nothing of the value, but block k holds vs. -/
inductive Sh where
  | any
  | eq (u : Value)
  | int (lo hi : Int)
  | num
  | flag
  | str (n : Nat)
  | row (T : TypeId) (vs : List Value)
  | elem (T : TypeId) (vs : List Value)
  | one (vs : List Value)
  | at (T : TypeId) (k : Nat) (vs : List Value)
  | sat (p : Value → Prop)
def Sh.ok (c : Nat) : Sh → Value → World → Prop
  | .any, _, _ => True
  | .eq u, v, _ => v = u
  | .int lo hi, v, _ => ∃ y : Int, lo ≤ y ∧ y ≤ hi ∧ v = .int .i64 y
  | .num, v, _ => ∃ y : Int, v = .int .i64 y
  | .flag, v, _ => ∃ b : Bool, v = .bool b
  | .str n, v, _ => ∃ s : ByteArray, s.size ≤ n ∧ v = .string s
  | .row T vs, v, w => ∃ b : Nat, c < b ∧ v = .slice (some ⟨b, 0, none⟩) vs.length vs.length ∧ Var T w b vs
  | .elem T vs, v, w => ∃ b i : Nat, c < b ∧ i < vs.length ∧ v = .pointer (some ⟨b, i, none⟩) ∧ Var T w b vs
  | .one vs, v, _ => v ∈ vs
  | .at T k vs, _, w => k ≠ c ∧ Var T w k vs
  | .sat p, v, _ => p v
def Sh.isAt : Sh → Bool
  | .at _ _ _ => true
  | _ => false
theorem Sh.kept {c : Nat} {w w' : World} (k : Draw.Kept c w w') : ∀ (s : Sh) (u : Value), s.ok c u w → s.ok c u w'
  | .any, _, h => h
  | .eq _, _, h => h
  | .int _ _, _, h => h
  | .num, _, h => h
  | .flag, _, h => h
  | .str _, _, h => h
  | .row T vs, v, ⟨b, hb, hv, hr⟩ => ⟨b, hb, hv, hr.kept k (by omega)⟩
  | .elem T vs, v, ⟨b, i, hb, hi, hv, hr⟩ => ⟨b, i, hb, hi, hv, hr.kept k (by omega)⟩
  | .one _, _, h => h
  | .at T k' vs, v, ⟨hk, hr⟩ => ⟨hk, hr.kept k hk⟩
  | .sat _, _, h => h
theorem Sh.store {c k0 : Nat} {w w' : World} (k : Draw.Kept k0 w w') (hk0 : k0 ≤ c) : ∀ (s : Sh) (u : Value), s.isAt = false → s.ok c u w → s.ok c u w'
  | .any, _, _, h => h
  | .eq _, _, _, h => h
  | .int _ _, _, _, h => h
  | .num, _, _, h => h
  | .flag, _, _, h => h
  | .str _, _, _, h => h
  | .row T vs, v, _, ⟨b, hb, hv, hr⟩ => ⟨b, hb, hv, hr.kept k (by omega)⟩
  | .elem T vs, v, _, ⟨b, i, hb, hi, hv, hr⟩ => ⟨b, i, hb, hi, hv, hr.kept k (by omega)⟩
  | .one _, _, _, h => h
  | .at _ _ _, _, h, _ => by simp [Sh.isAt] at h
  | .sat _, _, _, h => h
/-- What is told of operation i. -/
abbrev Tell (c : Nat) (shs : List Sh) (i : Nat) (v : Value) (w : World) : Prop := (shs.getD i .any).ok c v w
theorem Tell.keep {c : Nat} {shs : List Sh} {w w' : World} {i : Nat} (k : Draw.Kept c w w') : ∀ j, j ≠ i → ∀ u, Tell c shs j u w → Tell c shs j u w' := fun j _ u h => Sh.kept k _ u h
theorem Tell.same {c : Nat} {shs : List Sh} {w : World} {i : Nat} : ∀ j, j ≠ i → ∀ u, Tell c shs j u w → Tell c shs j u w := fun _ _ _ h => h
def noAt (shs : List Sh) (z : Nat) : Bool := (List.range shs.length).all fun j => j == z || !(shs.getD j .any).isAt
theorem Tell.stored {c k0 : Nat} {shs : List Sh} {w w' : World} {z : Nat} (hn : noAt shs z = true) (k : Draw.Kept k0 w w') (hk0 : k0 ≤ c) : ∀ j, j ≠ z → ∀ u, Tell c shs j u w → Tell c shs j u w' := by
  intro j hj u h
  refine Sh.store k hk0 _ u ?_ h
  simp only [noAt, List.all_eq_true, List.mem_range] at hn
  rcases Nat.lt_or_ge j shs.length with hl | hl
  · have := hn j hl
    simpa [hj] using this
  · simp [List.getD, List.getElem?_eq_none hl, Sh.isAt]
theorem int_cell {T : TypeId} {w : World} {b i : Nat} {ns : List Int} (h : Var T w b (ns.map (Value.int .i64))) (hi : i < (ns.map (Value.int .i64)).length) : ∃ n : Int, w.cell? ⟨b, i, none⟩ = some (.int .i64 n) := by
  have hi' : i < ns.length := by simpa using hi
  exact ⟨ns[i], h.cell (by simp [hi'])⟩
theorem six_mem {α : Type} {l : List α} {i : Nat} (h : i < l.length) : ∃ x, l[i]? = some x ∧ x ∈ l := ⟨l[i], by simp [h], List.getElem_mem h⟩

end Go.Proofs.Ytanbdccnlelmoaa.RegJ

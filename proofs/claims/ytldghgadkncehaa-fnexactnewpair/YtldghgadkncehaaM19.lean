/- Contracts of this seat's functions, and their mathematics (Shape). -/
import Derived.Test.YtldghgadkncehaaRows
import Derived.Deep.Slices
import Derived.ChangeArms
import Derived.WideShapes
set_option linter.unusedVariables false
set_option linter.unusedSimpArgs false
namespace Go.Proofs.Ytldghgadkncehaa.Shp
open Go.ChangeShapes Go.WideShapes Go.Deep
mutual
inductive Shape where
  | int (k : IntKind) | str | bool | struct (fs : Shapes) | slice (e : Shape)
inductive Shapes where
  | nil | cons (s : Shape) (r : Shapes)
end
mutual
def Shape.size : Shape → Nat
  | .struct fs => fs.size
  | .int _ => 1
  | .str => 1
  | .bool => 1
  | .slice _ => 1
def Shapes.size : Shapes → Nat
  | .nil => 0
  | .cons s r => s.size + r.size
end
mutual
/-- These cells hold a datum of this shape. -/
def Shape.Holds (w : World) : Shape → List Value → Prop
  | .int k, cs => ∃ n, cs = [.int k n] ∧ (Lit.int k n).wf = true
  | .str, cs => ∃ s : ByteArray, cs = [.string s] ∧ s.size ≤ maxLen
  | .bool, cs => ∃ b, cs = [.bool b]
  | .struct fs, cs => fs.Holds w cs
  | .slice e, cs => cs = [.slice none 0 0] ∨ ∃ (a : Addr) (len cap : Nat), cs = [.slice (some a) len cap] ∧ len ≤ cap ∧ cap ≤ maxLen ∧ ∀ i, i < len → ∃ cs' : List Value, cs'.length = e.size ∧ (∀ j u, cs'[j]? = some u → w.cell? (a.add (i * e.size + j)) = some u) ∧ e.Holds w cs'
def Shapes.Holds (w : World) : Shapes → List Value → Prop
  | .nil, cs => cs = []
  | .cons s r, cs => ∃ c1 c2, cs = c1 ++ c2 ∧ s.Holds w c1 ∧ r.Holds w c2
end
mutual
/-- The type t of the program is of this shape. -/
def Shape.fits (P : Program) : Shape → TypeId → Bool
  | .int k, t => match P.underlying t with | some (.int k') => k == k' | _ => false
  | .str, t => match P.underlying t with | some .string => true | _ => false
  | .bool, t => match P.underlying t with | some .bool => true | _ => false
  | .struct fs, t => match P.underlying t with | some (.struct arr) => fs.fits P arr.toList 0 && P.cellsOf t == fs.size | _ => false
  | .slice e, t => match P.underlying t with | some (.slice u) => e.fits P u && P.cellsOf u == e.size | _ => false
def Shapes.fits (P : Program) : Shapes → List Field → Nat → Bool
  | .nil, [], _ => true
  | .cons s r, f :: fs, o => f.offset == o && (P.cellsOf f.type == s.size && (s.fits P f.type && r.fits P fs (o + s.size)))
  | _, _, _ => false
end
section
variable {H : Type} {enc : TypeId × Value → H} {P : Program} {w : World} {base : Nat} {spare : Nat → Bool} {held : Bool}
mutual
theorem Shape.reads : ∀ (sh : Shape) {t : TypeId} {fuel : Nat} {cs : List Value} {x : DataW H × List MemPlace}, sh.fits P t = true → DataW.trod enc P w base spare held fuel t cs = some x → sh.Holds w cs ∧ cs.length = sh.size
  | .int k, t, fuel, cs, x, hf, h => by
    unfold Shape.fits at hf
    split at hf
    · rename_i k' hu
      have e : k = k' := by simpa using hf
      subst e
      obtain ⟨n, rfl, _, hw⟩ := DataW.trod_int hu h
      exact ⟨⟨n, rfl, hw⟩, rfl⟩
    · cases hf
  | .str, t, fuel, cs, x, hf, h => by
    unfold Shape.fits at hf
    split at hf
    · rename_i hu
      obtain ⟨s, rfl, _, hw⟩ := DataW.trod_string hu h
      exact ⟨⟨s, rfl, hw⟩, rfl⟩
    · cases hf
  | .bool, t, fuel, cs, x, hf, h => by
    unfold Shape.fits at hf
    split at hf
    · rename_i hu
      obtain ⟨b, rfl, _⟩ := DataW.trod_bool hu h
      exact ⟨⟨b, rfl⟩, rfl⟩
    · cases hf
  | .struct fs, t, fuel, cs, x, hf, h => by
    unfold Shape.fits at hf
    split at hf
    · rename_i arr hu
      rw [Bool.and_eq_true, beq_iff_eq] at hf
      obtain ⟨xs, n, _, _, hl, hxl, hp⟩ := DataW.trod_struct hu h
      have hg := Shapes.reads fs (l := arr.toList) (o := 0) (n := n) (cs := cs) hf.1 (by rw [hl, hf.2]; omega) (fun i f hi => by
        have := hp i f (by simpa using hi)
        have hx : i < xs.length := by
          have : i < arr.toList.length := (List.getElem?_eq_some_iff.1 hi).1
          rw [hxl]; simpa using this
        rw [List.getElem?_eq_getElem hx] at this
        exact ⟨_, this⟩)
      refine ⟨?_, by rw [hl, hf.2]; rfl⟩
      have e : (cs.drop 0).take fs.size = cs := by rw [List.drop_zero]; exact List.take_of_length_le (by rw [hl, hf.2]; exact Nat.le_refl _)
      rw [e] at hg
      exact hg
    · cases hf
  | .slice e, t, fuel, cs, x, hf, h => by
    unfold Shape.fits at hf
    split at hf
    · rename_i u hu
      rw [Bool.and_eq_true, beq_iff_eq] at hf
      rcases open_slice hu h with ⟨rfl, _⟩ | ⟨a, len, cap, m, n, D, Pl, rfl, _, hl, hm, hmm, _, hx⟩
      · exact ⟨.inl rfl, rfl⟩
      · refine ⟨.inr ⟨a, len, cap, rfl, hl, hm, fun i hi => ?_⟩, rfl⟩
        obtain ⟨cs', h1, h2⟩ := hx i (by rw [hmm]; split <;> omega)
        rw [hf.2] at h1
        obtain ⟨_, hlen, hcell⟩ := World.cells?_some h1
        refine ⟨cs', hlen, fun j v hj => ?_, (Shape.reads e hf.1 h2).1⟩
        have hjl : j < cs'.length := (List.getElem?_eq_some_iff.1 hj).1
        have := hcell j (by omega)
        rw [add_add] at this
        rw [this, hj]
    · cases hf
theorem Shapes.reads : ∀ (sh : Shapes) {l : List Field} {o n : Nat} {cs : List Value}, sh.fits P l o = true → o + sh.size ≤ cs.length → (∀ (i : Nat) (f : Field), l[i]? = some f → ∃ x, DataW.trod enc P w base spare held n f.type ((cs.drop f.offset).take (P.cellsOf f.type)) = some x) → sh.Holds w ((cs.drop o).take sh.size)
  | .nil, l, o, n, cs, hf, hl, h => by simp [Shapes.size, Shapes.Holds]
  | .cons s r, [], o, n, cs, hf, hl, h => by simp [Shapes.fits] at hf
  | .cons s r, f :: fs, o, n, cs, hf, hl, h => by
    simp only [Shapes.fits, Bool.and_eq_true, beq_iff_eq] at hf
    obtain ⟨h1, h2, h3, h4⟩ := hf
    simp only [Shapes.size] at hl
    obtain ⟨x, hx⟩ := h 0 f rfl
    rw [h1, h2] at hx
    have r1 := Shape.reads s h3 hx
    have r2 := Shapes.reads r (o := o + s.size) (n := n) (cs := cs) h4 (by omega) (fun i g hi => h (i + 1) g (by simpa using hi))
    refine ⟨(cs.drop o).take s.size, (cs.drop (o + s.size)).take r.size, ?_, r1.1, r2⟩
    rw [Shapes.size, List.take_add, List.drop_drop]
end
end
end Go.Proofs.Ytldghgadkncehaa.Shp

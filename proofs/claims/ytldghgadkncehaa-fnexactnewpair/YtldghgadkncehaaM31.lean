/- Contracts of this seat's functions, and their mathematics (RowB RowW). -/
import Derived.Test.YtldghgadkncehaaM1
import Derived.Laws.IdiomStrings
import Derived.Test.YtldghgadkncehaaM5
set_option linter.unusedVariables false
set_option linter.unusedSimpArgs false
namespace Go.Proofs.Ytldghgadkncehaa.Draw
open Go.RowKit
/-- The bytes l lie from the head of block g on, and may be written. -/
def Row (w : World) (g : Nat) (l : List UInt8) : Prop := ∀ j (hj : j < l.length), w.cell? ⟨g, j, none⟩ = some (.int .u8 (l[j].toNat : Int)) ∧ w.frozen? ⟨g, j, none⟩ = false
theorem Row.same {w w' : World} {g : Nat} {l : List UInt8} (h : Row w g l) (e : w'.heap[g]? = w.heap[g]?) : Row w' g l := fun j hj =>
  ⟨(World.cell?_of_block (w := w) (a := ⟨g, j, none⟩) e).trans (h j hj).1, (World.frozen?_of_block (w := w) (a := ⟨g, j, none⟩) e).trans (h j hj).2⟩
theorem Row.below {w w' : World} {g B : Nat} {l : List UInt8} (h : Row w g l) (k : Below B w w') (hg : g < B) : Row w' g l := h.same (k.block g hg)
theorem Row.drew {w : World} {g : Nat} {l : List UInt8} (h : Row w g l) : Row w.drew g l := h
theorem Row.lt {w : World} {g : Nat} {l : List UInt8} (h : Row w g l) (h0 : 0 < l.length) : g < w.heap.size := lt_of_cell (h 0 h0).1
theorem Row.set {w : World} {g : Nat} {l : List UInt8} (h : Row w g l) (i : Nat) (hi : i < l.length) (b : UInt8) : Row (w.setCell ⟨g, i, none⟩ (.int .u8 (b.toNat : Int))) g (l.set i b) := fun j hj => by
  have hj' : j < l.length := by simpa using hj
  refine ⟨?_, (World.frozen?_setCell w _ _ _).trans (h j hj').2⟩
  by_cases e : j = i
  · subst e
    rw [World.cell?_setCell_same w _ _ (h j hj').1]
    simp
  · rw [World.cell?_setCell_other _ _ _ _ (by intro c; cases c; exact e rfl), (h j hj').1]
    simp [Ne.symm e]
theorem below_drewN {B : Nat} {a w : World} (h : Below B a w) (n : Nat) : Below B a (w.drewN n) := ⟨h.os, h.tape, h.output, h.size, h.block⟩
theorem Row.drewN {w : World} {g : Nat} {l : List UInt8} (h : Row w g l) (n : Nat) : Row (w.drewN n) g l := h
theorem byteRow_text (s : ByteArray) (w : World) : ∃ (cap : Nat) (w2 : World), (convert 9 146 (.string s)).run Try.prog w = .ok (.slice (some ⟨w.heap.size, 0, none⟩) s.size cap) w2 ∧ Row w2 w.heap.size s.data.toList ∧ Below w.heap.size w w2 ∧ w2.heap.size = w.heap.size + 1 := by
  refine ⟨_, _, run_bytes_of_string w 9 146 5 s Try.underlying9 Try.underlying146 Try.underlying5, ?_, ?_, ?_⟩
  · intro j hj
    have hj' : j < s.data.size := by simpa using hj
    have hlt : j < (bytesRow s (grownCap w s.size 0 5)).size := by unfold bytesRow; simp; have : s.data.size = s.size := rfl; omega
    refine ⟨?_, ?_⟩
    · have e := World.cell?_alloc_mark w.drew (bytesRow s (grownCap w s.size 0 5)) 5 ((bytesRow s (grownCap w s.size 0 5)).size, (bytesRow s (grownCap w s.size 0 5)).size + 1) j
      refine e.trans ?_
      rw [bytesRow_at s _ j hj']
      simp
    · have e := World.frozen?_alloc_mark w.drew (bytesRow s (grownCap w s.size 0 5)) 5 (bytesRow s (grownCap w s.size 0 5)).size ((bytesRow s (grownCap w s.size 0 5)).size + 1) j
      refine e.trans ?_
      rw [Bool.and_eq_false_iff]
      left
      simp
      exact hlt
  · exact ((Below.refl _ _).drew).alloc (Nat.le_refl _) _
  · show (w.heap.push _).size = _
    simp
theorem text_byteRow {w : World} {g : Nat} {l : List UInt8} (h : Row w g l) (n cap : Nat) (hn : n = l.length) : (convert 146 9 (.slice (some ⟨g, 0, none⟩) n cap)).run Try.prog w = .ok (.string ⟨l.toArray⟩) w := by
  subst hn
  refine run_convert_bytes_back w 146 9 5 ⟨g, 0, none⟩ cap l Try.underlying146 Try.underlying5 Try.underlying9 fun j hj => ?_
  have e : (⟨g, 0, none⟩ : Addr).add j = ⟨g, j, none⟩ := by unfold Addr.add; split <;> simp_all
  rw [e]
  exact (h j hj).1
/-- A row that the call owns, read as bytes. -/
theorem Row.ofOwn {w : World} {B g n cap : Nat} {l : List UInt8} (h : w.ownsRow B 5 1 (.slice (some ⟨g, 0, none⟩) n cap) n (l.map fun b => Value.int .u8 (b.toNat : Int))) : n = l.length ∧ B ≤ g ∧ Row w g l := by
  have hl : n = l.length := by have := h.1; simpa using this.symm
  refine ⟨hl, (h.lt g rfl).1, fun j hj => ⟨?_, ?_⟩⟩
  · have hc := h.cells (g := g) rfl j (.int .u8 (l[j].toNat : Int)) (by simp [hj])
    have e : (⟨g, 0, none⟩ : Addr).add j = ⟨g, j, none⟩ := by unfold Addr.add; split <;> simp_all
    rw [← e]; exact hc
  · rcases h.2 with ⟨hv, _⟩ | ⟨g', cap', cur, hv, _, hb, _⟩
    · simp at hv
    · simp at hv
      obtain ⟨rfl, rfl⟩ := hv
      simp [World.frozen?, hb]
end Go.Proofs.Ytldghgadkncehaa.Draw
namespace Go.Proofs.Ytldghgadkncehaa.RowG
open Go.RowKit
theorem El.vals_split {α : Type} (E : El α) {l : List α} {i : Nat} {x : α} (hx : l[i]? = some x) : E.vals l = E.vals (l.take i) ++ E.enc x ++ E.vals (l.drop (i + 1)) := by
  have hi := (List.getElem?_eq_some_iff.1 hx).1
  have hl : l = l.take i ++ x :: l.drop (i + 1) := by
    have h1 := List.take_append_drop i l
    have h2 : l.drop i = x :: l.drop (i + 1) := by
      rw [List.drop_eq_getElem_cons hi]
      have := (List.getElem?_eq_some_iff.1 hx).2
      rw [this]
    rw [h2] at h1
    exact h1.symm
  conv => lhs; rw [hl]
  simp [El.vals]
theorem El.vals_setTo {α : Type} (E : El α) {l : List α} {i : Nat} (hi : i < l.length) (y : α) : E.vals (l.set i y) = E.vals (l.take i) ++ E.enc y ++ E.vals (l.drop (i + 1)) := by
  have := El.vals_split E (l := l.set i y) (i := i) (x := y) (by rw [List.getElem?_set_self (by simpa using hi)])
  rw [this, List.take_set_of_le (by omega), List.drop_set_of_lt (by omega)]
theorem El.Own.win {α : Type} {E : El α} {T : TypeId} {w : World} {B g c : Nat} {l : List α} (h : E.Own T w B (some ⟨g, 0, Option.none⟩) c l) {i : Nat} {x : α} (hx : l[i]? = some x) :
    ∃ pre post, Win T pre post (i * E.size) w g (E.enc x) ∧ ∀ w' y, Win T pre post (i * E.size) w' g (E.enc y) → E.Own T w' B (some ⟨g, 0, Option.none⟩) c (l.set i y) := by
  have hi := (List.getElem?_eq_some_iff.1 hx).1
  obtain ⟨h1, h2⟩ := h
  rcases h2 with ⟨e, _⟩ | ⟨g', cap, cur, e, hB, hg, hc, hm, hs, ht⟩
  · simp at e
  injection e with e1 e2 e3
  injection e1 with e1
  injection e1 with e1
  subst e1 e3
  have hp : (E.vals (l.take i)).length = i * E.size := by rw [E.vals_len, List.length_take, Nat.min_eq_left (by omega)]
  have hcur : cur.toList = E.vals l ++ cur.toList.drop (l.length * E.size) := by
    conv => lhs; rw [← List.take_append_drop (l.length * E.size) cur.toList, ht]
  refine ⟨E.vals (l.take i), E.vals (l.drop (i + 1)) ++ cur.toList.drop (l.length * E.size), ⟨hp, ?_⟩, ?_⟩
  · have : cur = (E.vals (l.take i) ++ E.enc x ++ (E.vals (l.drop (i + 1)) ++ cur.toList.drop (l.length * E.size))).toArray := by
      apply Array.ext'
      rw [List.toList_toArray, ← List.append_assoc, ← El.vals_split E hx]
      exact hcur
    rw [hg, ← this]
  · intro w' y v
    have hb := v.blk
    have hv := E.vals_setTo hi y
    refine ⟨by rw [E.vals_len], .inr ⟨g, c, _, by rw [List.length_set], hB, hb, by rw [List.length_set]; exact hc, hm, ?_, ?_⟩⟩
    · have hx' : (E.enc x).length = (E.enc y).length := by rw [E.len, E.len]
      have h3 := congrArg List.length hcur
      rw [El.vals_split E hx] at h3
      simp only [List.length_append, Array.length_toList] at h3
      simp only [List.size_toArray, List.length_append]
      omega
    · rw [List.length_set, List.toList_toArray, ← List.append_assoc, ← hv, List.take_left' (by rw [E.vals_len, List.length_set])]
end Go.Proofs.Ytldghgadkncehaa.RowG

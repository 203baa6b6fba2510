/- Rows of bytes in memory (what []byte of a text lays, and a text made of bytes): plain facts, no condition. · Contracts of the draws of texts: l1DrawBytes; they return and turn no block but the cursor's. -/
import Derived.Test.YtinngechdnglpaaFrame
import Derived.Laws.IdiomStrings
import Derived.Test.YtinngechdnglpaaDrawB
import Derived.Deep.AppendLies
namespace Go.Proofs.Ytinngechdnglpaa.Draw
open Go.RowKit

/-- The bytes l lie from the head of block g on, and may be written. -/
def Row (w : World) (g : Nat) (l : List UInt8) : Prop := ∀ j (hj : j < l.length), w.cell? ⟨g, j, none⟩ = some (.int .u8 (l[j].toNat : Int)) ∧ w.frozen? ⟨g, j, none⟩ = false

theorem Row.same {w w' : World} {g : Nat} {l : List UInt8} (h : Row w g l) (e : w'.heap[g]? = w.heap[g]?) : Row w' g l := fun j hj =>
  ⟨(World.cell?_of_block (w := w) (a := ⟨g, j, none⟩) e).trans (h j hj).1, (World.frozen?_of_block (w := w) (a := ⟨g, j, none⟩) e).trans (h j hj).2⟩
theorem Row.below {w w' : World} {g B : Nat} {l : List UInt8} (h : Row w g l) (k : Below B w w') (hg : g < B) : Row w' g l := h.same (k.block g hg)
theorem Row.drew {w : World} {g : Nat} {l : List UInt8} (h : Row w g l) : Row w.drew g l := h
theorem Row.lt {w : World} {g : Nat} {l : List UInt8} (h : Row w g l) (h0 : 0 < l.length) : g < w.heap.size := lt_of_cell (h 0 h0).1
theorem Row.set {w : World} {g : Nat} {l : List UInt8} (h : Row w g l) (i : Nat) (hi : i < l.length) (b : UInt8) : Row (w.setCell ⟨g, i, none⟩ (.int .u8 (b.toNat : Int))) g (l.set i b) := fun j hj => by
  have hj' : j < l.length := by simpa using hj
  refine ⟨?_, (World.frozen?_setCell w _ _ _).trans (h j hj').2⟩
  by_cases e : j = i
  · subst e
    rw [World.cell?_setCell_same w _ _ (h j hj').1]
    simp
  · rw [World.cell?_setCell_other _ _ _ _ (by intro c; cases c; exact e rfl), (h j hj').1]
    simp [Ne.symm e]

theorem below_drewN {B : Nat} {a w : World} (h : Below B a w) (n : Nat) : Below B a (w.drewN n) := ⟨h.os, h.tape, h.output, h.size, h.block⟩
theorem Row.drewN {w : World} {g : Nat} {l : List UInt8} (h : Row w g l) (n : Nat) : Row (w.drewN n) g l := h

theorem byteRow_text (s : ByteArray) (w : World) : ∃ (cap : Nat) (w2 : World), (convert 9 22 (.string s)).run Try.prog w = .ok (.slice (some ⟨w.heap.size, 0, none⟩) s.size cap) w2 ∧ Row w2 w.heap.size s.data.toList ∧ Below w.heap.size w w2 ∧ w2.heap.size = w.heap.size + 1 := by
  refine ⟨_, _, run_bytes_of_string w 9 22 5 s Try.underlying9 Try.underlying22 Try.underlying5, ?_, ?_, ?_⟩
  · intro j hj
    have hj' : j < s.data.size := by simpa using hj
    have hlt : j < (bytesRow s (grownCap w s.size 0 5)).size := by unfold bytesRow; simp; have : s.data.size = s.size := rfl; omega
    refine ⟨?_, ?_⟩
    · have e := World.cell?_alloc_mark w.drew (bytesRow s (grownCap w s.size 0 5)) 5 ((bytesRow s (grownCap w s.size 0 5)).size, (bytesRow s (grownCap w s.size 0 5)).size + 1) j
      refine e.trans ?_
      rw [bytesRow_at s _ j hj']
      simp
    · have e := World.frozen?_alloc_mark w.drew (bytesRow s (grownCap w s.size 0 5)) 5 (bytesRow s (grownCap w s.size 0 5)).size ((bytesRow s (grownCap w s.size 0 5)).size + 1) j
      refine e.trans ?_
      rw [Bool.and_eq_false_iff]
      left
      simp
      exact hlt
  · exact ((Below.refl _ _).drew).alloc (Nat.le_refl _) _
  · show (w.heap.push _).size = _
    simp

theorem text_byteRow {w : World} {g : Nat} {l : List UInt8} (h : Row w g l) (n cap : Nat) (hn : n = l.length) : (convert 22 9 (.slice (some ⟨g, 0, none⟩) n cap)).run Try.prog w = .ok (.string ⟨l.toArray⟩) w := by
  subst hn
  refine run_convert_bytes_back w 22 9 5 ⟨g, 0, none⟩ cap l Try.underlying22 Try.underlying5 Try.underlying9 fun j hj => ?_
  have e : (⟨g, 0, none⟩ : Addr).add j = ⟨g, j, none⟩ := by unfold Addr.add; split <;> simp_all
  rw [e]
  exact (h j hj).1

/-- A row that the call owns, read as bytes. -/
theorem Row.ofOwn {w : World} {B g n cap : Nat} {l : List UInt8} (h : w.ownsRow B 5 1 (.slice (some ⟨g, 0, none⟩) n cap) n (l.map fun b => Value.int .u8 (b.toNat : Int))) : n = l.length ∧ B ≤ g ∧ Row w g l := by
  have hl : n = l.length := by have := h.1; simpa using this.symm
  refine ⟨hl, (h.lt g rfl).1, fun j hj => ⟨?_, ?_⟩⟩
  · have hc := h.cells (g := g) rfl j (.int .u8 (l[j].toNat : Int)) (by simp [hj])
    have e : (⟨g, 0, none⟩ : Addr).add j = ⟨g, j, none⟩ := by unfold Addr.add; split <;> simp_all
    rw [← e]; exact hc
  · rcases h.2 with ⟨hv, _⟩ | ⟨g', cap', cur, hv, _, hb, _⟩
    · simp at hv
    · simp at hv
      obtain ⟨rfl, rfl⟩ := hv
      simp [World.frozen?, hb]

end Go.Proofs.Ytinngechdnglpaa.Draw

namespace Go.Proofs.Ytinngechdnglpaa.Draw
open Go.RowKit
set_option linter.unusedVariables false

theorem infoU8 : (Try.prog.info? 5).map (fun i => (i.zero, i.size, i.bytes)) = some (some (.int .u8 0), 1, 1) := by kernel_rfl
theorem one_u8 (z : Int) : ∀ u ∈ [Value.int .u8 z], u.oneCell' = true := by
  intro u hu
  simp at hu
  subst hu
  rfl
/-- A row of the call's own stays while a block below it turns. -/
theorem own_kept {w w' : World} {B c g n cap k : Nat} {T : TypeId} {xs : List Value} (h : w.ownsRow B T k (.slice (some ⟨g, 0, none⟩) n cap) n xs) (hk : Kept c w w') (hc : c < B) : w'.ownsRow B T k (.slice (some ⟨g, 0, none⟩) n cap) n xs := by
  refine h.kept (row := some c) ⟨hk.os, hk.tape, hk.output, hk.size, fun i hi hne => hk.block i hi (fun e => hne (by rw [e]))⟩ (.inr ?_)
  have := (h.lt g rfl).1
  simp [Value.ownBlock]
  omega
theorem Kept.grownBy {c g n cap : Nat} {a w w' : World} (h : Kept c a w) (hg : w.grownBy w' (Value.slice (some ⟨g, 0, none⟩) n cap).ownBlock) (hs : a.heap.size ≤ g) : Kept c a w' :=
  ⟨hg.os.trans h.os, hg.tape.trans h.tape, hg.output.trans h.output, Nat.le_trans h.size hg.size, fun k hk hne => (hg.block k (Nat.lt_of_lt_of_le hk h.size) (by intro e; simp [Value.ownBlock] at e; omega)).trans (h.block k hk hne)⟩
theorem Cur.grownBy {c g n cap : Nat} {w w' : World} (h : Cur w c) (hg : w.grownBy w' (Value.slice (some ⟨g, 0, none⟩) n cap).ownBlock) (hs : c < g) : Cur w' c :=
  h.upto fun i hi => hg.block i (Nat.lt_of_le_of_lt hi h.lt) (by intro e; simp [Value.ownBlock] at e; omega)
theorem Cur.alloc {c : Nat} {w : World} (h : Cur w c) (o : Obj) : Cur (w.alloc o) c :=
  h.upto fun i hi => Below.heap_alloc _ _ _ (Nat.lt_of_le_of_lt hi h.lt)
theorem u8_of {x : Int} (h0 : 0 ≤ x) (h1 : x ≤ 255) : ((UInt8.ofNat x.toNat).toNat : Int) = x := by
  simp; omega
theorem bytes_snoc (l : List UInt8) (b : UInt8) : (l.map fun b => Value.int .u8 (b.toNat : Int)) ++ [Value.int .u8 (b.toNat : Int)] = (l ++ [b]).map fun b => Value.int .u8 (b.toNat : Int) := by simp

theorem four (a b c d : Int) (x : Int) (h0 : 0 ≤ x) (h1 : x < 4) : ∃ v : Int, (#[.int .i64 a, .int .i64 b, .int .i64 c, .int .i64 d] : Array Value)[x.toNat]? = some (.int .i64 v) ∧ ∀ h, ([.int .i64 a, .int .i64 b, .int .i64 c, .int .i64 d] : List Value)[x.toNat]'h = .int .i64 v := by
  have h : x = 0 ∨ x = 1 ∨ x = 2 ∨ x = 3 := by omega
  rcases h with rfl | rfl | rfl | rfl
  · exact ⟨a, rfl, fun _ => rfl⟩
  · exact ⟨b, rfl, fun _ => rfl⟩
  · exact ⟨c, rfl, fun _ => rfl⟩
  · exact ⟨d, rfl, fun _ => rfl⟩

end Go.Proofs.Ytinngechdnglpaa.Draw

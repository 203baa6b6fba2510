/- Contracts of the draws of texts: l1DrawBytes; they return and turn no block but the cursor's. -/
import Derived.Test.YtddicibpfmjgfaaDoorDrawB
import Derived.Test.YtddicibpfmjgfaaDoorRowB
import Derived.Deep.AppendLies
namespace Go.Proofs.YtddicibpfmjgfaaDoor.Draw
open Go.RowKit
set_option linter.unusedVariables false

theorem infoU8 : (Tryd.prog.info? 5).map (fun i => (i.zero, i.size, i.bytes)) = some (some (.int .u8 0), 1, 1) := by kernel_rfl
theorem one_u8 (z : Int) : ∀ u ∈ [Value.int .u8 z], u.oneCell' = true := by
  intro u hu
  simp at hu
  subst hu
  rfl
/-- A row of the call's own stays while a block below it turns. -/
theorem own_kept {w w' : World} {B c g n cap k : Nat} {T : TypeId} {xs : List Value} (h : w.ownsRow B T k (.slice (some ⟨g, 0, none⟩) n cap) n xs) (hk : Kept c w w') (hc : c < B) : w'.ownsRow B T k (.slice (some ⟨g, 0, none⟩) n cap) n xs := by
  refine h.kept (row := some c) ⟨hk.os, hk.tape, hk.output, hk.size, fun i hi hne => hk.block i hi (fun e => hne (by rw [e]))⟩ (.inr ?_)
  have := (h.lt g rfl).1
  simp [Value.ownBlock]
  omega
theorem Kept.grownBy {c g n cap : Nat} {a w w' : World} (h : Kept c a w) (hg : w.grownBy w' (Value.slice (some ⟨g, 0, none⟩) n cap).ownBlock) (hs : a.heap.size ≤ g) : Kept c a w' :=
  ⟨hg.os.trans h.os, hg.tape.trans h.tape, hg.output.trans h.output, Nat.le_trans h.size hg.size, fun k hk hne => (hg.block k (Nat.lt_of_lt_of_le hk h.size) (by intro e; simp [Value.ownBlock] at e; omega)).trans (h.block k hk hne)⟩
theorem Cur.grownBy {c g n cap : Nat} {w w' : World} (h : Cur w c) (hg : w.grownBy w' (Value.slice (some ⟨g, 0, none⟩) n cap).ownBlock) (hs : c < g) : Cur w' c :=
  h.upto fun i hi => hg.block i (Nat.lt_of_le_of_lt hi h.lt) (by intro e; simp [Value.ownBlock] at e; omega)
theorem Cur.alloc {c : Nat} {w : World} (h : Cur w c) (o : Obj) : Cur (w.alloc o) c :=
  h.upto fun i hi => Below.heap_alloc _ _ _ (Nat.lt_of_le_of_lt hi h.lt)
theorem u8_of {x : Int} (h0 : 0 ≤ x) (h1 : x ≤ 255) : ((UInt8.ofNat x.toNat).toNat : Int) = x := by
  simp; omega
theorem bytes_snoc (l : List UInt8) (b : UInt8) : (l.map fun b => Value.int .u8 (b.toNat : Int)) ++ [Value.int .u8 (b.toNat : Int)] = (l ++ [b]).map fun b => Value.int .u8 (b.toNat : Int) := by simp

theorem four (a b c d : Int) (x : Int) (h0 : 0 ≤ x) (h1 : x < 4) : ∃ v : Int, (#[.int .i64 a, .int .i64 b, .int .i64 c, .int .i64 d] : Array Value)[x.toNat]? = some (.int .i64 v) ∧ ∀ h, ([.int .i64 a, .int .i64 b, .int .i64 c, .int .i64 d] : List Value)[x.toNat]'h = .int .i64 v := by
  have h : x = 0 ∨ x = 1 ∨ x = 2 ∨ x = 3 := by omega
  rcases h with rfl | rfl | rfl | rfl
  · exact ⟨a, rfl, fun _ => rfl⟩
  · exact ⟨b, rfl, fun _ => rfl⟩
  · exact ⟨c, rfl, fun _ => rfl⟩
  · exact ⟨d, rfl, fun _ => rfl⟩

end Go.Proofs.YtddicibpfmjgfaaDoor.Draw

/- Plain facts: four bytes of a row in memory change places, pair by pair; no condition. -/
import Derived.Test.YthdapibkfdpejaaSumC
import Derived.Test.YthdapibkfdpejaaRowB
namespace Go.Proofs.Ythdapibkfdpejaa.Sum
open Go.RowKit

theorem row_swap {w : World} {g k : Nat} {l : List UInt8} (h : Draw.Row w g l) (hk : k + 3 < l.length) :
    Draw.Row ((((w.setCell ⟨g, k, none⟩ (.int .u8 (l[k + 2].toNat : Int))).setCell ⟨g, k + 1, none⟩ (.int .u8 (l[k + 3].toNat : Int))).setCell ⟨g, k + 2, none⟩ (.int .u8 (l[k].toNat : Int))).setCell ⟨g, k + 3, none⟩ (.int .u8 (l[k + 1].toNat : Int))) g (swap4 l k hk) :=
  (((h.set k (by omega) _).set (k + 1) (by simp; omega) _).set (k + 2) (by simp; omega) _).set (k + 3) (by simp; omega) _

theorem sumOf_list (l : List UInt8) : sumOf ⟨l.toArray⟩ = 65535 - fold (sumB l) := rfl
theorem sumOf_empty {s : ByteArray} (h : s.size = 0) : sumOf s = 65535 := by
  obtain ⟨⟨l⟩⟩ := s
  have h' : l.length = 0 := h
  match l, h' with
  | [], _ => rfl
theorem text_eq (l : List UInt8) (s : ByteArray) : ((⟨l.toArray⟩ : ByteArray).toList == s.toList) = decide (l = s.data.toList) := by
  rw [ByteArray.toList_eq, ByteArray.toList_eq]
  simp only
  by_cases h : l = s.data.toList <;> simp [h]
theorem set_eq {l : List UInt8} {i : Nat} (h : i < l.length) (c : UInt8) : l.set i c = l ↔ c = l[i] := by
  constructor
  · intro e
    have := congrArg (fun x => x[i]?) e
    simpa [h] using this
  · rintro rfl
    simp
/-- One byte turned: the sums are the same just where the texts are. -/
theorem change_same {s : ByteArray} {i : Nat} (h : i < s.data.toList.length) (c : UInt8) :
    (sumOf ⟨(s.data.toList.set i c).toArray⟩ == sumOf s) = (s.data.toList.set i c == s.toList) := by
  have e0 := text_eq (s.data.toList.set i c) s
  rw [ByteArray.toList_mk] at e0
  rw [e0, sumOf_list]
  have e : (65535 - fold (sumB (s.data.toList.set i c)) = sumOf s) ↔ s.data.toList.set i c = s.data.toList := by
    rw [set_eq h, ← fold_change h]
    unfold sumOf
    omega
  rw [Bool.eq_iff_iff]
  simp only [beq_iff_eq, decide_eq_true_eq]
  exact e

end Go.Proofs.Ythdapibkfdpejaa.Sum

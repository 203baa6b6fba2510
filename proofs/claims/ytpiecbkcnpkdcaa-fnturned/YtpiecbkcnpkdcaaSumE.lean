/- Plain mathematics: Turned tells the sum of the turned text, where that is not all noughts; no condition but that the two bytes lie in the text. -/
import Derived.Test.YtpiecbkcnpkdcaaSumB
import Derived.Test.YtpiecbkcnpkdcaaSumD
namespace Go.Proofs.Ytpiecbkcnpkdcaa.Sum

theorem pair_bd (a b : UInt8) : 0 ≤ 256 * (a.toNat : Int) + (b.toNat : Int) ∧ 256 * (a.toNat : Int) + (b.toNat : Int) ≤ 65535 := by
  have := byte_bd a
  have := byte_bd b
  omega
theorem turn_text {s : ByteArray} {i : Nat} (h : i + 1 < s.data.toList.length) (hi : i % 2 = 0) (b1 b2 : UInt8) (hz : ¬ ∀ b ∈ (s.data.toList.set i b1).set (i + 1) b2, b = 0) :
    turnOf (sumOf s) (256 * (s.data.toList[i].toNat : Int) + (s.data.toList[i + 1].toNat : Int)) (256 * (b1.toNat : Int) + (b2.toNat : Int)) = sumOf ⟨((s.data.toList.set i b1).set (i + 1) b2).toArray⟩ := by
  have hs := sumOf_bd s
  have ho := pair_bd s.data.toList[i] s.data.toList[i + 1]
  have hn := pair_bd b1 b2
  rw [turn_yes (tw_yes hs) (tw_yes ho) (tw_yes hn), sumOf_list ((s.data.toList.set i b1).set (i + 1) b2)]
  have e1 := sumB_set b1 s.data.toList i (by omega)
  have e2 := sumB_set b2 (s.data.toList.set i b1) (i + 1) (by simpa using h)
  rw [if_pos hi] at e1
  rw [if_neg (by omega), e1] at e2
  have g1 : (s.data.toList.set i b1)[i + 1]'(by simpa using h) = s.data.toList[i + 1] := by simp
  rw [g1] at e2
  have hp := sumB_pair h hi
  have hb := sumB_bd ((s.data.toList.set i b1).set (i + 1) b2)
  have hnz : sumB ((s.data.toList.set i b1).set (i + 1) b2) ≠ 0 := fun e => hz ((sumB_zero _).1 e)
  have e3 : sumB ((s.data.toList.set i b1).set (i + 1) b2) = sumB s.data.toList - (256 * (s.data.toList[i].toNat : Int) + (s.data.toList[i + 1].toNat : Int)) + (256 * (b1.toNat : Int) + (b2.toNat : Int)) := by omega
  rw [e3]
  rw [e3] at hnz hb
  have e4 : 65535 - sumOf s = fold (sumB s.data.toList) := by unfold sumOf; omega
  rw [e4, turned_fold ho.1 ho.2 hn.1 hn.2 hp (by omega)]

theorem all_take {l : List UInt8} {k : Nat} (h : k < l.length) : (l.take (k + 1)).all (· == 0) = ((l.take k).all (· == 0) && (l[k] == 0)) := by
  rw [List.take_succ_eq_append_getElem h, List.all_append, List.all_cons, List.all_nil, Bool.and_true]
theorem neq_zero (b : UInt8) : ((b.toNat : Int) != 0) = !(b == 0) := by
  rw [Bool.eq_iff_iff]
  simp [← UInt8.toNat_inj]

end Go.Proofs.Ytpiecbkcnpkdcaa.Sum

/- Plain mathematics: a letter of which one byte was spoilt is none; what was spoilt back is as it was; no condition but that the byte lies in the text. -/
import Derived.Test.YthdapibkfdpejaaSegC
import Derived.Test.YthdapibkfdpejaaSumD
namespace Go.Proofs.Ythdapibkfdpejaa.Seg
set_option linter.unusedVariables false

/-- The last two bytes are the sum of all ahead of them. -/
def Sealed (l : List UInt8) : Prop := ∃ body : List UInt8, l = body ++ numB (Sum.sumOf ⟨body.toArray⟩) 2

theorem sealed_show (f t : Int) (b : List UInt8) (e : Bool) (a r : Int) : Sealed (showL f t b e a r) := ⟨bodyL f t b e a r, rfl⟩
theorem sealed_read {l : List UInt8} (h : rdL l = true) : Sealed l := by
  simp only [rdL, Bool.and_eq_true, decide_eq_true_eq] at h
  rw [← h.2]
  exact sealed_show _ _ _ _ _ _

theorem sealed_spoilt {l : List UInt8} (h : Sealed l) {k : Nat} (hk : k < l.length) {c : UInt8} (hc : c ≠ l[k]) : ¬ Sealed (l.set k c) := by
  obtain ⟨body, hl⟩ := h
  subst hl
  rintro ⟨body', h'⟩
  have hlen := congrArg List.length h'
  simp [numB_len] at hlen
  by_cases hb : k < body.length
  · rw [List.set_append_left _ _ hb] at h'
    have h1 := List.append_inj h' (by simpa using hlen)
    obtain ⟨e1, e2⟩ := h1
    subst e1
    have b1 := Sum.sumOf_bd ⟨body.toArray⟩
    have b2 := Sum.sumOf_bd ⟨(body.set k c).toArray⟩
    have e3 := numB_inj b1.1 (by omega) b2.1 (by omega) e2
    rw [Sum.sumOf_list, Sum.sumOf_list] at e3
    have e4 := (Sum.fold_change hb c).1 (by omega)
    exact hc (by rw [e4, List.getElem_append_left hb])
  · rw [List.set_append_right _ _ (by omega)] at h'
    have h1 := List.append_inj h' (by omega)
    obtain ⟨e1, e2⟩ := h1
    subst e1
    have hn : k - body.length < (numB (Sum.sumOf ⟨body.toArray⟩) 2).length := by
      simp [numB_len] at hk ⊢
      omega
    have e3 := (Sum.set_eq hn c).1 e2
    exact hc (by rw [e3, List.getElem_append_right (by omega)])

theorem low_ne {b : UInt8} {q : Int} (h1 : 1 ≤ q) (h2 : q ≤ 255) : low ((b.toNat : Int) + q) ≠ b := by
  intro e
  have h := low_nat ((b.toNat : Int) + q)
  rw [e] at h
  have := Sum.byte_bd b
  omega
theorem low_back {b : UInt8} {q : Int} (h1 : 1 ≤ q) (h2 : q ≤ 255) : low (((low ((b.toNat : Int) + q)).toNat : Int) + (256 - q)) = b := by
  apply UInt8.toNat_inj.1
  have h := low_nat ((b.toNat : Int) + q)
  have h' := low_nat (((low ((b.toNat : Int) + q)).toNat : Int) + (256 - q))
  have := Sum.byte_bd b
  omega
theorem getD_at {l : List UInt8} {k : Nat} (h : k < l.length) : l.getD k 0 = l[k] := by rw [List.getD_eq_getElem?_getD, List.getElem?_eq_getElem h]; rfl
theorem spoil_ne {l : List UInt8} {k : Nat} (h : k < l.length) {q : Int} (h1 : 1 ≤ q) (h2 : q ≤ 255) : spoilL l k q ≠ l := by
  unfold spoilL
  rw [getD_at h]
  intro e
  exact low_ne h1 h2 ((Sum.set_eq h _).1 e)
theorem spoil_none {l : List UInt8} (hs : Sealed l) {k : Nat} (h : k < l.length) {q : Int} (h1 : 1 ≤ q) (h2 : q ≤ 255) : rdL (spoilL l k q) = false := by
  cases hr : rdL (spoilL l k q)
  · rfl
  · exfalso
    have := sealed_read hr
    unfold spoilL at this
    rw [getD_at h] at this
    exact sealed_spoilt hs h (low_ne h1 h2) this
theorem spoil_len (l : List UInt8) (k : Nat) (q : Int) : (spoilL l k q).length = l.length := by simp [spoilL]
theorem spoil_back {l : List UInt8} {k : Nat} (h : k < l.length) {q : Int} (h1 : 1 ≤ q) (h2 : q ≤ 255) : spoilL (spoilL l k q) k (256 - q) = l := by
  have h' : k < (spoilL l k q).length := by rw [spoil_len]; exact h
  have e : (spoilL l k q)[k] = low ((l[k].toNat : Int) + q) := by
    simp only [spoilL, getD_at h, List.getElem_set_self]
  have u : spoilL (spoilL l k q) k (256 - q) = (spoilL l k q).set k (low (((spoilL l k q)[k].toNat : Int) + (256 - q))) := by
    rw [spoilL, getD_at h']
  rw [u, e, low_back h1 h2]
  simp [spoilL]

end Go.Proofs.Ythdapibkfdpejaa.Seg

/- Chapter 15: the mathematics of FnStreams: what was read is what was written, a right stream stays right. Made by tools/gen/genstreams.py. -/
import Derived.Test.YtddicibpfmjgfaaDoorStrB
import Derived.Test.YtddicibpfmjgfaaDoorStrE
namespace Go.Proofs.YtddicibpfmjgfaaDoor.Str
open Go.RowKit RowG
set_option linter.unusedVariables false
set_option linter.unusedSimpArgs false

theorem eqSame (s : Sm) (w : World) : (Op.equalIn 10000 25 (.agg #[.string s.tx, .int .i64 s.rd, .bool s.en, .bool s.dn, .bool s.sn]) (.agg #[.string s.tx, .int .i64 s.rd, .bool s.en, .bool s.dn, .bool s.sn])).run Tryd.prog w = .ok true w := by
  rw [eqStreamV]
  simp

theorem was_no {s : Sm} (b : ByteArray) (h : s.ok = false) : wasS s b = (zeroS, false) := by simp [wasS, h]
theorem was_fail {s : Sm} {b : ByteArray} (h : s.ok = true) (h2 : (wasS s b).2 = false) : (wasS s b).1 = s := by
  simp only [wasS, h, if_true] at h2 ⊢
  simp [readS, h2]
theorem was_yes {s : Sm} {b : ByteArray} (h : s.ok = true) (h2 : (wasS s b).2 = true) :
    (wasS s b).1 = { s with rd := s.rd + b.size } ∧ Sm.ok { s with rd := s.rd + b.size } = true ∧ 0 ≤ s.rd ∧ s.rd + b.size ≤ (s.tx.size : Int) ∧ s.tx.extract s.rd.toNat (s.rd + b.size).toNat = b := by
  simp only [wasS, h, if_true] at h2 ⊢
  have h3 := h2
  simp only [readB, Bool.not_eq_true', Bool.or_eq_false_iff, decide_eq_false_iff_not, Decidable.not_not] at h3
  obtain ⟨h4, h5⟩ := h3
  have hi := ok_in h
  refine ⟨by simp [readS, h2], ?_, hi.1, by omega, h5⟩
  obtain ⟨tx, rd, en, dn, sn⟩ := s
  dsimp only at *
  simp only [Sm.ok, Bool.and_eq_true, decide_eq_true_eq] at h ⊢
  obtain ⟨q1, q2, q3, q4⟩ := h
  refine ⟨q1, ⟨by omega, by omega⟩, ?_, q4⟩
  cases sn
  · rfl
  · simp only [Bool.not_true, Bool.false_or, Bool.and_eq_true, decide_eq_true_eq] at q3 ⊢
    exact ⟨q3.1, by omega⟩
theorem grew_yes {g : Sm} {m : ByteArray} (h2 : (grewS g m).2 = true) : (grewS g m).1 = { g with tx := g.tx ++ m } ∧ Sm.ok { g with tx := g.tx ++ m } = true ∧ g.en = false ∧ (g.tx ++ m).size ≤ 2000 := by
  cases h : g.ok
  · simp [grewS, h] at h2
  simp only [grewS, h, if_true] at h2 ⊢
  have h3 := h2
  simp only [growB, Bool.not_eq_true', Bool.or_eq_false_iff, decide_eq_false_iff_not] at h3
  obtain ⟨h4, h5⟩ := h3
  have hs : (g.tx ++ m).size = g.tx.size + m.size := ByteArray.size_append
  refine ⟨by simp [growS, h2], ?_, h4, by omega⟩
  obtain ⟨tx, rd, en, dn, sn⟩ := g
  dsimp only at *
  subst h4
  simp only [Sm.ok, Bool.and_eq_true, decide_eq_true_eq] at h ⊢
  obtain ⟨q1, q2, q3, q4⟩ := h
  refine ⟨by omega, ⟨by omega, by omega⟩, ?_, q4⟩
  cases sn
  · rfl
  · simp at q3
theorem end_yes {e : Sm} (h2 : (endS e).2 = true) : (endS e).1 = { e with en := true } ∧ Sm.ok { e with en := true } = true := by
  cases h : e.ok
  · simp [endS, h] at h2
  simp only [endS, h, if_true, Bool.not_eq_true'] at h2 ⊢
  refine ⟨trivial, ?_⟩
  obtain ⟨tx, rd, en, dn, sn⟩ := e
  dsimp only at *
  subst h2
  simp only [Sm.ok, Bool.and_eq_true, decide_eq_true_eq] at h ⊢
  obtain ⟨q1, q2, q3, q4⟩ := h
  refine ⟨q1, q2, ?_, by simp⟩
  cases sn
  · rfl
  · simp at q3
theorem told_yes {q : Sm} {seen : Bool} (h2 : (toldS q seen).2 = true) : (toldS q seen).1.ok = true ∧ (toldS q seen).1.tx = q.tx ∧ (seen = true → (toldS q seen).1.rd = (q.tx.size : Int)) := by
  cases h : q.ok
  · simp [toldS, h] at h2
  simp only [toldS, h, if_true] at h2 ⊢
  obtain ⟨tx, rd, en, dn, sn⟩ := q
  simp only [tellS, h2, if_true]
  simp only [Sm.ok, Bool.and_eq_true, decide_eq_true_eq] at h
  simp only [tellB] at h2
  obtain ⟨q1, ⟨q2, q2'⟩, q3, q4⟩ := h
  cases seen
  · refine ⟨?_, rfl, fun e => by cases e⟩
    simp only [Sm.ok, Bool.and_eq_true, decide_eq_true_eq, Bool.false_eq_true, if_false]
    cases en
    · simp at h2
    · exact ⟨q1, ⟨q2, q2'⟩, q3, by simp⟩
  · cases en
    · simp at h2
    cases sn
    case true => simp at h2
    have hr : ¬ rd < (tx.size : Int) := by simpa using h2
    refine ⟨?_, rfl, fun _ => by simp; omega⟩
    simp only [Sm.ok, Bool.and_eq_true, decide_eq_true_eq, if_true]
    exact ⟨q1, ⟨q2, q2'⟩, by simp; omega, by simp⟩

end Go.Proofs.YtddicibpfmjgfaaDoor.Str

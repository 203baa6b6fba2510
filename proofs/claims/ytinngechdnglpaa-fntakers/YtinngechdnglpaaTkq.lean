/- Mathematics of FnTakers in one piece; plain. -/
import Derived.Test.YtinngechdnglpaaTakL
import Derived.Test.YtinngechdnglpaaTakH
namespace Go.Proofs.Ytinngechdnglpaa.Tak
open RowG
set_option linter.unusedVariables false
set_option linter.unusedSimpArgs false

theorem takes_yes {t : Tk} (h : t.ok = true) (p : Int) (bz : ByteArray) (e : Bool) : takes t p bz e = takeT t p bz e := by unfold takes; rw [if_pos h]
theorem takes_no {t : Tk} (h : t.ok = false) (p : Int) (bz : ByteArray) (e : Bool) : takes t p bz e = (zeroK, false) := by unfold takes; rw [if_neg (by rw [h]; decide)]
theorem takes_len (t : Tk) (p : Int) (bz : ByteArray) (e : Bool) : (takes t p bz e).1.l.length ≤ 2097152 := by
  cases h : t.ok
  · rw [takes_no h]
    exact Nat.zero_le _
  · rw [takes_yes h]
    have := (ok_iff.1 (take_ok h p bz e)).1.2.2.2
    omega
theorem takes_same {t x : Tk} {p : Int} {bz : ByteArray} {e : Bool} (h : t.ok = true) (hx : takes t p bz e = (x, false)) : x = t := by
  rw [takes_yes h] at hx
  have h1 : (takeT t p bz e).2 = false := by rw [hx]
  have h2 := take_same h h1
  rw [hx] at h2
  exact h2
theorem takes_more {t x : Tk} {p : Int} {bz : ByteArray} {e : Bool} (h : t.ok = true) (hx : takes t p bz e = (x, true)) :
    x.ok = true ∧ t.nx ≤ x.nx ∧ x.bs.extract 0 t.bs.size = t.bs ∧ (x.bs.size : Int) = t.bs.size + (x.nx - t.nx) ∧ limitOf x.nx x.bs x.l x.cp x.fi x.en = limT t.nx t.bs t.cp ∧ limitOf t.nx t.bs t.l t.cp t.fi t.en = limT t.nx t.bs t.cp ∧ takes x p bz e = (x, false) := by
  rw [takes_yes h] at hx
  have hb : ¬ takeBad t p bz e := fun hb => by rw [take_bad hb] at hx; cases hx
  obtain ⟨f1, ⟨tl, f2⟩, f3, f4, _, _, _⟩ := take_facts h hb
  have hok := take_ok h p bz e
  have hag := take_again h hb
  rw [hx] at f1 f2 f3 f4 hok hag
  dsimp only at f1 f2 f3 f4 hok hag
  refine ⟨hok, f1, ?_, f3, ?_, ?_, ?_⟩
  · rw [f2]
    exact ByteArray.extract_append_eq_left rfl
  · rw [limitOf, show takerB x.nx x.bs x.l x.cp x.fi x.en = true from hok, ← f4]; rfl
  · rw [limitOf, show takerB t.nx t.bs t.l t.cp t.fi t.en = true from h]; rfl
  · rw [takes_yes hok]
    exact Prod.ext (take_same hok hag) hag

end Go.Proofs.Ytinngechdnglpaa.Tak

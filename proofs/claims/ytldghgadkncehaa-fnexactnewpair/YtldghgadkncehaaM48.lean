/- Contracts of this seat's functions, and their mathematics (TakU PumA). -/
import Derived.Test.YtldghgadkncehaaM16
import Derived.Deep.Cut
import Derived.Test.YtldghgadkncehaaM35
import Derived.Test.YtldghgadkncehaaM47
set_option linter.unusedVariables false
set_option linter.unusedSimpArgs false
namespace Go.Proofs.Ytldghgadkncehaa.Tak
open Go.RowKit RowG Rng
end Go.Proofs.Ytldghgadkncehaa.Tak
namespace Go.Proofs.Ytldghgadkncehaa.Pum
open Go.RowKit RowG Tak Giv
def canP (t : Tk) (g : Gv) : Int := if g.en then 0 else fitN g t.bs
def moveN (t : Tk) (g : Gv) (n : Int) : Int := min n (canP t g)
def leftT (t : Tk) (k : Int) : Tk := { t with bs := t.bs.extract k.toNat t.bs.size }
def moreG (t : Tk) (g : Gv) (k : Int) : Gv := ⟨g.ba, g.bs ++ t.bs.extract 0 k.toNat, g.cp, g.lm, g.en || (t.en && decide ((t.bs.size : Int) = k)), g.dn⟩
theorem can_in {t : Tk} {g : Gv} (hg : g.ok = true) : 0 ≤ canP t g ∧ canP t g ≤ t.bs.size := by
  unfold canP
  split
  · omega
  · have := fit_in hg t.bs
    omega
theorem move_in {t : Tk} {g : Gv} {n : Int} (hg : g.ok = true) (hn : 0 ≤ n) : 0 ≤ moveN t g n ∧ moveN t g n ≤ t.bs.size ∧ moveN t g n ≤ n := by
  have := can_in (t := t) hg
  unfold moveN
  omega
abbrev tc (t : Tk) (a : Option Addr) (c : Nat) : List Value := [.int .i64 t.nx, .string t.bs, .slice a t.l.length c, .int .i64 t.cp, .int .i64 t.fi, .bool t.en]
/-- Of the blocks of w none has turned but, it may be, blocks k and j. -/
structure Kept2 (k j : Nat) (w w' : World) : Prop where
  os : w'.os = w.os
  tape : w'.tape = w.tape
  output : w'.output = w.output
  size : w.heap.size ≤ w'.heap.size
  block : ∀ i, i < w.heap.size → i ≠ k → i ≠ j → w'.heap[i]? = w.heap[i]?
theorem Kept2.refl (k j : Nat) (w : World) : Kept2 k j w w := ⟨rfl, rfl, rfl, Nat.le_refl _, fun _ _ _ _ => rfl⟩
theorem Kept2.trans {k j : Nat} {a b d : World} (h : Kept2 k j a b) (q : Kept2 k j b d) : Kept2 k j a d :=
  ⟨q.os.trans h.os, q.tape.trans h.tape, q.output.trans h.output, Nat.le_trans h.size q.size, fun i hi h1 h2 => (q.block i (Nat.lt_of_lt_of_le hi h.size) h1 h2).trans (h.block i hi h1 h2)⟩
theorem Kept2.fst {k j : Nat} {w w' : World} (h : Draw.Kept k w w') : Kept2 k j w w' := ⟨h.os, h.tape, h.output, h.size, fun i hi h1 _ => h.block i hi h1⟩
theorem Kept2.snd {k j : Nat} {w w' : World} (h : Draw.Kept j w w') : Kept2 k j w w' := ⟨h.os, h.tape, h.output, h.size, fun i hi _ h2 => h.block i hi h2⟩
theorem Kept2.one {k : Nat} {w w' : World} (h : Kept2 k k w w') : Draw.Kept k w w' := ⟨h.os, h.tape, h.output, h.size, fun i hi h1 => h.block i hi h1 h1⟩
theorem Kept2.below {k j B : Nat} {w w' : World} (h : Kept2 k j w w') (h1 : B ≤ k) (h2 : B ≤ j) (h3 : B ≤ w.heap.size) : Below B w w' := ⟨h.os, h.tape, h.output, h.size, fun i hi => h.block i (by omega) (by omega) (by omega)⟩
theorem Kept2.own {α : Type} {E : El α} {T : TypeId} {w w' : World} {B k j : Nat} {a : Option Addr} {c : Nat} {l : List α} (h : E.Own T w B a c l) (q : Kept2 k j w w') (h1 : ∀ x, a = some x → x.block ≠ k) (h2 : ∀ x, a = some x → x.block ≠ j) : E.Own T w' B a c l :=
  h.same fun x hx => q.block x.block (h.lt x hx).2 (h1 x hx) (h2 x hx)
/-- Two windows, of one block or of two: what is done in the one leaves the other. -/
structure Duo (kt ot kg og : Nat) (R : World → List Value → List Value → Prop) : Prop where
  t : ∀ {w tv gv}, R w tv gv → ∃ T pre post, Win T pre post ot w kt tv ∧ ∀ w' tv', tv'.length = tv.length → Win T pre post ot w' kt tv' → Draw.Kept kt w w' → R w' tv' gv
  g : ∀ {w tv gv}, R w tv gv → ∃ T pre post, Win T pre post og w kg gv ∧ ∀ w' gv', gv'.length = gv.length → Win T pre post og w' kg gv' → Draw.Kept kg w w' → R w' tv gv'
theorem Duo.later {kt ot kg og : Nat} {R : World → List Value → List Value → Prop} (d : Duo kt ot kg og R) {w w' : World} {tv gv : List Value} (h : R w tv gv) (b : Below w.heap.size w w') : R w' tv gv := by
  obtain ⟨T, pre, post, v, q⟩ := d.t h
  exact q w' tv rfl (v.later b) (Draw.Kept.ofBelow b (Nat.le_refl _))
theorem duo_two {T T' : TypeId} {pre post pre' post' : List Value} {kt ot kg og : Nat} (hne : kt ≠ kg) : Duo kt ot kg og (fun w tv gv => Win T pre post ot w kt tv ∧ Win T' pre' post' og w kg gv) where
  t h := ⟨T, pre, post, h.1, fun w' tv' _ v k => ⟨v, h.2.kept k (Ne.symm hne)⟩⟩
  g h := ⟨T', pre', post', h.2, fun w' gv' _ v k => ⟨h.1.kept k hne, v⟩⟩
theorem duo_one {T : TypeId} {a b c : List Value} {k ot og n : Nat} (ha : a.length = ot) (hb : ot + n + b.length = og) : Duo k ot k og (fun w tv gv => tv.length = n ∧ Var T w k (a ++ tv ++ (b ++ gv ++ c))) where
  t h := ⟨T, a, _, Win.of ha h.2, fun w' tv' e v _ => ⟨e.trans h.1, v.var⟩⟩
  g {w tv gv} h := ⟨T, a ++ tv ++ b, c, Win.of (by simp only [List.length_append]; omega) (by have := h.2; simpa [List.append_assoc] using this), fun w' gv' e v _ => ⟨h.1, by have := v.var; simpa [List.append_assoc] using this⟩⟩
theorem more_eq {t : Tk} {g : Gv} {n : Int} (hg : g.ok = true) (hn : 0 ≤ n) :
    (⟨(writeG g (t.bs.extract 0 (moveN t g n).toNat)).1.ba, (writeG g (t.bs.extract 0 (moveN t g n).toNat)).1.bs, (writeG g (t.bs.extract 0 (moveN t g n).toNat)).1.cp, (writeG g (t.bs.extract 0 (moveN t g n).toNat)).1.lm, g.en || (t.en && decide ((t.bs.size : Int) = moveN t g n)), (writeG g (t.bs.extract 0 (moveN t g n).toNat)).1.dn⟩ : Gv) = moreG t g (moveN t g n) := by
  obtain ⟨m0, m1, m2⟩ := move_in (t := t) (n := n) hg hn
  have hsz : (t.bs.extract 0 (moveN t g n).toNat).size = (moveN t g n).toNat := by rw [Giv.ext_size _ _ _ (by omega)]; omega
  unfold moreG writeG
  cases he : g.en
  · have hfit : fitN g (t.bs.extract 0 (moveN t g n).toNat) = moveN t g n := by
      have h1 : moveN t g n ≤ canP t g := by unfold moveN; omega
      have h2 : canP t g = fitN g t.bs := by unfold canP; rw [he]; rfl
      rw [h2] at h1
      unfold fitN at h1 ⊢
      rw [hsz]
      omega
    simp only [Bool.false_eq_true, if_false]
    rw [hfit]
    congr 2
    apply ByteArray.ext
    simp [ByteArray.data_extract]
  · have h0 : moveN t g n = 0 := by
      have h2 : canP t g = 0 := by unfold canP; rw [he]; rfl
      unfold moveN at m0 ⊢
      rw [h2] at m0 ⊢
      omega
    simp only [if_true, h0]
    congr 1
    · apply ByteArray.ext
      simp [ByteArray.data_extract]
end Go.Proofs.Ytldghgadkncehaa.Pum

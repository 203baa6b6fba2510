/- Contracts of this seat's functions, and their mathematics (HopD GivW). -/
import Derived.Test.YtldghgadkncehaaM37
import Derived.Test.YtldghgadkncehaaM5
import Derived.Test.YtldghgadkncehaaM7
import Derived.Test.YtldghgadkncehaaM38
import Derived.Test.YtldghgadkncehaaM35
set_option linter.unusedVariables false
set_option linter.unusedSimpArgs false
namespace Go.Proofs.Ytldghgadkncehaa.Hop
open Go.RowKit RowG
/-- Of the blocks of w none has turned but, it may be, block k and that of a row r; none has gone. -/
structure Keep (k : Nat) (r : Option Nat) (w w' : World) : Prop where
  os : w'.os = w.os
  tape : w'.tape = w.tape
  output : w'.output = w.output
  size : w.heap.size ≤ w'.heap.size
  block : ∀ i, i < w.heap.size → i ≠ k → some i ≠ r → w'.heap[i]? = w.heap[i]?
theorem Keep.ofKept {k : Nat} {r : Option Nat} {w w' : World} (h : Draw.Kept k w w') : Keep k r w w' := ⟨h.os, h.tape, h.output, h.size, fun i hi hk _ => h.block i hi hk⟩
theorem Keep.ofBelow {k : Nat} {r : Option Nat} {w w' : World} (h : Below w.heap.size w w') : Keep k r w w' := ⟨h.os, h.tape, h.output, h.size, fun i hi _ _ => h.block i hi⟩
theorem Keep.refl (k : Nat) (r : Option Nat) (w : World) : Keep k r w w := ⟨rfl, rfl, rfl, Nat.le_refl _, fun _ _ _ _ => rfl⟩
theorem Keep.trans {k : Nat} {r r' : Option Nat} {a b d : World} (h : Keep k r a b) (h' : Keep k r' b d) (hr : ∀ i, r' = some i → a.heap.size ≤ i ∨ r = some i) : Keep k r a d :=
  ⟨h'.os.trans h.os, h'.tape.trans h.tape, h'.output.trans h.output, Nat.le_trans h.size h'.size, fun i hi hk hn => (h'.block i (Nat.lt_of_lt_of_le hi h.size) hk (fun e => by rcases hr i e.symm with q | q <;> first | omega | exact hn q.symm)).trans (h.block i hi hk hn)⟩
theorem Keep.below {k B : Nat} {r : Option Nat} {w w' : World} (h : Keep k r w w') (hB : B ≤ k) (hr : ∀ i, r = some i → B ≤ i) (hs : B ≤ w.heap.size) : Below B w w' :=
  ⟨h.os, h.tape, h.output, h.size, fun i hi => h.block i (by omega) (by omega) (fun e => by have := hr i e.symm; omega)⟩
theorem Keep.kept {k c : Nat} {w w' : World} (h : Keep k none w w') (hc : k = c) : Draw.Kept c w w' := by
  subst hc
  exact ⟨h.os, h.tape, h.output, h.size, fun i hi hk => h.block i hi hk (by simp)⟩
theorem Keep.grown {k : Nat} {r : Option Nat} {w0 w w' : World} (h : Keep k r w0 w) (g : w.grownBy w' r) : Keep k r w0 w' :=
  ⟨g.os.trans h.os, g.tape.trans h.tape, g.output.trans h.output, Nat.le_trans h.size g.size, fun i hi hk hn => (g.block i (Nat.lt_of_lt_of_le hi h.size) hn).trans (h.block i hi hk hn)⟩
theorem Keep.alloc {k : Nat} {r : Option Nat} {w0 w : World} (h : Keep k r w0 w) (o : Obj) : Keep k r w0 (w.alloc o) :=
  ⟨h.os, h.tape, h.output, by have := h.size; simp; omega, fun i hi hk hn => (Below.heap_alloc _ _ _ (Nat.lt_of_lt_of_le hi h.size)).trans (h.block i hi hk hn)⟩
theorem Keep.setCell {k : Nat} {r : Option Nat} {w0 w : World} (h : Keep k r w0 w) {p : Addr} (hp : p.block = k ∨ w0.heap.size ≤ p.block) (v : Value) : Keep k r w0 (w.setCell p v) :=
  ⟨h.os, h.tape, h.output, by simpa [World.setCell] using h.size, fun i hi hk hn => (Below.heap_setCell _ _ _ _ (by omega)).trans (h.block i hi hk hn)⟩
theorem Keep.drew {k : Nat} {r : Option Nat} {w0 w : World} (h : Keep k r w0 w) : Keep k r w0 w.drew := ⟨h.os, h.tape, h.output, h.size, h.block⟩
theorem _root_.Go.Proofs.Ytldghgadkncehaa.RowG.El.Own.keep {α : Type} {E : El α} {T : TypeId} {w w' : World} {B k : Nat} {r : Option Nat} {a : Option Addr} {c : Nat} {l : List α} (h : E.Own T w B a c l) (hk : Keep k r w w') (h1 : ∀ x, a = some x → x.block ≠ k) (h2 : ∀ x, a = some x → some x.block ≠ r) : E.Own T w' B a c l :=
  h.same fun x hx => hk.block x.block (h.lt x hx).2 (h1 x hx) (h2 x hx)
/-- A row's block is of its elements' type. -/
theorem own_row {α : Type} {E : El α} {e : TypeId} {w : World} {B : Nat} {a : Option Addr} {c : Nat} {l : List α} (o : E.Own e w B a c l) : ∀ x, a = some x → ∃ cs, w.heap[x.block]? = some (.cells cs e (0, 0)) := by
  intro x hx
  subst hx
  unfold El.Own at o
  rcases o.2 with ⟨h1, _⟩ | ⟨g, cap, cur, h1, _, hgb, _⟩
  · cases h1
  · cases h1
    exact ⟨_, hgb⟩
theorem own_two {α β : Type} {E : El α} {E' : El β} {e e' : TypeId} {w : World} {B B' : Nat} {a a' : Option Addr} {c c' : Nat} {l : List α} {l' : List β} (hne : e ≠ e') (o : E.Own e w B a c l) (o' : E'.Own e' w B' a' c' l') : ∀ x, a = some x → some x.block ≠ blk a' := by
  intro x hx he
  obtain ⟨cs, h1⟩ := own_row o x hx
  cases a' with
  | none => simp [blk] at he
  | some y =>
    simp [blk] at he
    obtain ⟨cs', h2⟩ := own_row o' y rfl
    rw [he, h2] at h1
    cases h1
    exact hne rfl
theorem own_win {α : Type} {E : El α} {e T : TypeId} {pre post : List Value} {ow : Nat} {w : World} {B k : Nat} {a : Option Addr} {c : Nat} {l : List α} {vs : List Value} (hne : T ≠ e) (o : E.Own e w B a c l) (v : Win T pre post ow w k vs) : ∀ x, a = some x → x.block ≠ k := by
  intro x hx hk
  obtain ⟨cs, h1⟩ := own_row o x hx
  have h2 := v.blk
  rw [hk, h2] at h1
  cases h1
  exact hne rfl
/-- A letter more, where there is room and it is right. -/
def postB (h : Hp) (x : Lt) : Bool := !decide (h.ws.length = 30) && letB x
def postH (h : Hp) (x : Lt) : Hp := if postB h x then ⟨h.g, h.t, h.ws ++ [x]⟩ else h
end Go.Proofs.Ytldghgadkncehaa.Hop
namespace Go.Proofs.Ytldghgadkncehaa.Giv
open Go.RowKit RowG
theorem offers_none {g : Gv} {p n xa : Int} {xb : ByteArray} {xe : Bool} (h : offersG g p n = ((xa, xb), xe, false)) : xa = 0 ∧ xb = ⟨#[]⟩ ∧ xe = false := by
  unfold offersG at h
  split at h
  · unfold offerG at h
    split at h
    · simp only [Prod.mk.injEq] at h
      exact ⟨h.1.1.symm, h.1.2.symm, h.2.1.symm⟩
    · split at h
      · simp only [Prod.mk.injEq] at h
        exact ⟨h.1.1.symm, h.1.2.symm, h.2.1.symm⟩
      · simp only [Prod.mk.injEq] at h
        exact absurd h.2.2 (by decide)
  · simp only [Prod.mk.injEq] at h
    exact ⟨h.1.1.symm, h.1.2.symm, h.2.1.symm⟩
theorem offers_some {g : Gv} {p n xa : Int} {xb : ByteArray} {xe : Bool} (h : offersG g p n = ((xa, xb), xe, true)) :
    g.ok = true ∧ xa = p ∧ ∃ st : Int, g.ba ≤ p ∧ p ≤ st ∧ st ≤ g.ba + g.bs.size ∧ st ≤ p + n ∧ 0 ≤ n ∧ n ≤ 40 ∧ (st = p ∨ st ≤ g.lm) ∧ xb = g.bs.extract (p - g.ba).toNat (st - g.ba).toNat ∧ (xb.size : Int) = st - p ∧ xe = (g.en && decide (st = g.ba + g.bs.size)) ∧ (st = p → xe = true) := by
  unfold offersG at h
  split at h
  · rename_i hok
    refine ⟨hok, ?_⟩
    unfold offerG at h
    split at h
    · simp only [Prod.mk.injEq] at h
      exact absurd h.2.2 (by decide)
    · rename_i hin
      split at h
      · simp only [Prod.mk.injEq] at h
        exact absurd h.2.2 (by decide)
      · rename_i hst
        simp only [Prod.mk.injEq] at h
        obtain ⟨⟨rfl, rfl⟩, rfl, -⟩ := h
        have e1 : stopG g p n = min (p + n) (min (g.ba + g.bs.size) (max p g.lm)) := rfl
        generalize stopG g p n = st at *
        refine ⟨rfl, st, by omega, by omega, by omega, by omega, by omega, by omega, by omega, rfl, ?_, rfl, ?_⟩
        · rw [ByteArray.size_extract]
          omega
        · intro he
          cases hx : (g.en && decide (st = g.ba + g.bs.size))
          · exact absurd ⟨he, hx⟩ hst
          · rfl
  · simp only [Prod.mk.injEq] at h
    exact absurd h.2.2 (by decide)
end Go.Proofs.Ytldghgadkncehaa.Giv

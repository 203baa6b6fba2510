/- Takers and their parts (chapter 5): plain mathematics, how they lie in memory, and the small functions of the specification; no condition but on sizes. -/
import Derived.Test.YtddicibpfmjgfaaDoorRowG
import Derived.Test.YtddicibpfmjgfaaDoorNumA
import Derived.Test.YtddicibpfmjgfaaDoorDrawB
import Derived.BigQuiet
namespace Go.Proofs.YtddicibpfmjgfaaDoor.Tak
open Go.RowKit RowG
set_option linter.unusedVariables false
set_option linter.unusedSimpArgs false

theorem mix : Tryd.prog.follows .mixedOrders = true := by kernel_rfl

/-- A part: its place and its bytes. -/
abbrev Pt := Int × ByteArray
def partE : El Pt where
  enc p := [.int .i64 p.1, .string p.2]
  size := 2
  len _ := rfl
  one p u hu := by
    simp at hu
    rcases hu with rfl | rfl <;> rfl
  pos := by decide
def endP (p : Pt) : Int := p.1 + p.2.size
/-- Where the last of the parts ends, if each of them is right behind 'last'. -/
def scan (nx lim : Int) : Int → List Pt → Option Int
  | last, [] => some last
  | last, p :: r => if (1 ≤ p.2.size ∧ p.2.size ≤ 40) ∧ nx < p.1 ∧ last ≤ p.1 ∧ endP p ≤ lim then scan nx lim (endP p) r else none
def limT (nx : Int) (bs : ByteArray) (cp : Int) : Int := nx - bs.size + cp
/-- Are cap, next, bytes and the number of parts in range? -/
def inT (nx : Int) (bs : ByteArray) (l : List Pt) (cp : Int) : Prop := (1 ≤ cp ∧ cp ≤ 400) ∧ (0 ≤ nx ∧ nx ≤ 1000000000) ∧ ((bs.size : Int) ≤ cp ∧ (bs.size : Int) ≤ nx) ∧ l.length ≤ 400
instance (nx : Int) (bs : ByteArray) (l : List Pt) (cp : Int) : Decidable (inT nx bs l cp) := by unfold inT; exact inferInstance
def endB (fi last nx : Int) (en : Bool) : Bool := decide (fi = -1 ∨ (Num.plB fi = true ∧ last ≤ fi)) && ((en == decide (fi = nx)) && Num.plB last)
def takerB (nx : Int) (bs : ByteArray) (l : List Pt) (cp fi : Int) (en : Bool) : Bool :=
  decide (inT nx bs l cp) && match scan nx (limT nx bs cp) nx l with
  | none => false
  | some last => endB fi last nx en

theorem l1In (n a b : Int) (w : World) : Calls Tryd.prog 40 #[.int .i64 n, .int .i64 a, .int .i64 b] w fun x w' => x = .returned (.bool (decide (a ≤ n ∧ n ≤ b))) ∧ w = w' := by
  by_cases h0 : a ≤ n
  · by_cases h1 : n ≤ b
    · go_enter Tryd.func40, Tryd.ntmps40
      go_wp2_with fail
      go_ret
      exact ⟨Num.ret_bool (by simp [h0, h1]), rfl⟩
    · go_enter Tryd.func40, Tryd.ntmps40
      go_wp2_with fail
      go_ret
      exact ⟨Num.ret_bool (by simp [h0, h1]), rfl⟩
  · go_enter Tryd.func40, Tryd.ntmps40
    go_wp2_with fail
    go_ret
    exact ⟨Num.ret_bool (by simp; omega), rfl⟩
theorem l1InEq {n a b : Int} {v : Bool} (h : decide (a ≤ n ∧ n ≤ b) = v) (w : World) : Calls Tryd.prog 40 #[.int .i64 n, .int .i64 a, .int .i64 b] w fun x w' => x = .returned (.bool v) ∧ w = w' := by
  subst h
  exact l1In n a b w

theorem box6 (w : World) (v0 v1 v2 v3 v4 v5 : Value) (T : TypeId) : (w.alloc (.cells #[v0, v1, v2, v3, v4, v5] T)).cell? ⟨w.heap.size, 0, none⟩ = some v0 ∧ (w.alloc (.cells #[v0, v1, v2, v3, v4, v5] T)).cell? ⟨w.heap.size, 1, none⟩ = some v1 ∧ (w.alloc (.cells #[v0, v1, v2, v3, v4, v5] T)).cell? ⟨w.heap.size, 2, none⟩ = some v2 ∧ (w.alloc (.cells #[v0, v1, v2, v3, v4, v5] T)).cell? ⟨w.heap.size, 3, none⟩ = some v3 ∧ (w.alloc (.cells #[v0, v1, v2, v3, v4, v5] T)).cell? ⟨w.heap.size, 4, none⟩ = some v4 ∧ (w.alloc (.cells #[v0, v1, v2, v3, v4, v5] T)).cell? ⟨w.heap.size, 5, none⟩ = some v5 := by
  simp
theorem box2 (w : World) (v0 v1 : Value) (T : TypeId) : (w.alloc (.cells #[v0, v1] T)).cell? ⟨w.heap.size, 0, none⟩ = some v0 ∧ (w.alloc (.cells #[v0, v1] T)).cell? ⟨w.heap.size, 1, none⟩ = some v1 := by
  simp

end Go.Proofs.YtddicibpfmjgfaaDoor.Tak

/- Contracts of this seat's functions, and their mathematics (TakA). -/
import Derived.Test.YtldghgadkncehaaM1
import Derived.Test.YtldghgadkncehaaM2
import Derived.BigQuiet
set_option linter.unusedVariables false
set_option linter.unusedSimpArgs false
namespace Go.Proofs.Ytldghgadkncehaa.Tak
open Go.RowKit RowG
theorem mix : Try.prog.follows .mixedOrders = true := by kernel_rfl
/-- A part: its place and its bytes. -/
abbrev Pt := Int × ByteArray
def partE : El Pt where
  enc p := [.int .i64 p.1, .string p.2]
  size := 2
  len _ := rfl
  one p u hu := by
    simp at hu
    rcases hu with rfl | rfl <;> rfl
  pos := by decide
def endP (p : Pt) : Int := p.1 + p.2.size
/-- Where the last of the parts ends, if each of them is right behind 'last'. -/
def scan (nx lim : Int) : Int → List Pt → Option Int
  | last, [] => some last
  | last, p :: r => if (1 ≤ p.2.size ∧ p.2.size ≤ 40) ∧ nx < p.1 ∧ last ≤ p.1 ∧ endP p ≤ lim then scan nx lim (endP p) r else none
def limT (nx : Int) (bs : ByteArray) (cp : Int) : Int := nx - bs.size + cp
/-- Are cap, next, bytes and the number of parts in range? -/
def inT (nx : Int) (bs : ByteArray) (l : List Pt) (cp : Int) : Prop := (1 ≤ cp ∧ cp ≤ 400) ∧ (0 ≤ nx ∧ nx ≤ 1000000000) ∧ ((bs.size : Int) ≤ cp ∧ (bs.size : Int) ≤ nx) ∧ l.length ≤ 400
instance (nx : Int) (bs : ByteArray) (l : List Pt) (cp : Int) : Decidable (inT nx bs l cp) := by unfold inT; exact inferInstance
def endB (fi last nx : Int) (en : Bool) : Bool := decide (fi = -1 ∨ (Num.plB fi = true ∧ last ≤ fi)) && ((en == decide (fi = nx)) && Num.plB last)
def takerB (nx : Int) (bs : ByteArray) (l : List Pt) (cp fi : Int) (en : Bool) : Bool :=
  decide (inT nx bs l cp) && match scan nx (limT nx bs cp) nx l with
  | none => false
  | some last => endB fi last nx en
theorem infoPart : (Try.prog.info? 136).map (fun i => (i.zero, i.size, i.bytes)) = some (some (.agg #[.int .i64 0, .string ByteArray.empty]), 2, 24) := by kernel_rfl
theorem typ : Typ Try.prog 80 136 partE 24 := by
  obtain ⟨i, hi, hz0, hz1, hz2⟩ := info_parts infoPart
  exact ⟨Try.underlying80, i, _, hi, hz0, hz1, hz2, rfl⟩
theorem l1In (n a b : Int) (w : World) : Calls Try.prog 51 #[.int .i64 n, .int .i64 a, .int .i64 b] w fun x w' => x = .returned (.bool (decide (a ≤ n ∧ n ≤ b))) ∧ w = w' := by
  by_cases h0 : a ≤ n
  · by_cases h1 : n ≤ b
    · go_enter Try.func51, Try.ntmps51
      go_wp2_with fail
      go_ret
      exact ⟨Num.ret_bool (by simp [h0, h1]), rfl⟩
    · go_enter Try.func51, Try.ntmps51
      go_wp2_with fail
      go_ret
      exact ⟨Num.ret_bool (by simp [h0, h1]), rfl⟩
  · go_enter Try.func51, Try.ntmps51
    go_wp2_with fail
    go_ret
    exact ⟨Num.ret_bool (by simp; omega), rfl⟩
theorem l1InEq {n a b : Int} {v : Bool} (h : decide (a ≤ n ∧ n ≤ b) = v) (w : World) : Calls Try.prog 51 #[.int .i64 n, .int .i64 a, .int .i64 b] w fun x w' => x = .returned (.bool v) ∧ w = w' := by
  subst h
  exact l1In n a b w
theorem l1PlaceEq {n : Int} {v : Bool} (h : Num.plB n = v) (w : World) : Calls Try.prog 67 #[.int .i64 n] w fun x w' => x = .returned (.bool v) ∧ w = w' := by
  subst h
  exact Num.l1Place n w
theorem l1Min (a b : Int) (w : World) :
    Calls Try.prog 92 #[.int .i64 a, .int .i64 b] w fun e w' => e = .returned (.int .i64 (if a < b then a else b)) ∧ w = w' := by
  by_cases h : a < b
  · go_enter Try.func92, Try.ntmps92
    go_wp2_with fail
    go_ret
    exact ⟨by simp [h], rfl⟩
  · go_enter Try.func92, Try.ntmps92
    go_wp2_with fail
    go_ret
    exact ⟨by simp [h], rfl⟩
theorem l5End (p : Int) (b : ByteArray) (w : World) (hp : p ≤ 4611686018427387904) (hp0 : -1152921504606846976 ≤ p) (hb : b.size ≤ 1152921504606846976) :
    Calls Try.prog 93 #[.agg #[.int .i64 p, .string b]] w fun x w' => x = .returned (.int .i64 (endP (p, b))) ∧ Below w.heap.size w w' := by
  go_enter Try.func93, Try.ntmps93
  go_wp2_with fail
  go_ret
  exact ⟨rfl, (Below.refl _ _).alloc (Nat.le_refl _) _⟩
theorem l5Limit (nx : Int) (bs : ByteArray) (a : Option Addr) (n c : Nat) (cp fi : Int) (en : Bool) (w : World) (hn : 0 ≤ nx ∧ nx ≤ 1152921504606846976) (hb : bs.size ≤ 1152921504606846976) (hc : 0 ≤ cp ∧ cp ≤ 1152921504606846976) :
    Calls Try.prog 94 #[.agg #[.int .i64 nx, .string bs, .slice a n c, .int .i64 cp, .int .i64 fi, .bool en]] w fun x w' => x = .returned (.int .i64 (limT nx bs cp)) ∧ Below w.heap.size w w' := by
  obtain ⟨hn0, hn1⟩ := hn
  obtain ⟨hc0, hc1⟩ := hc
  go_enter Try.func94, Try.ntmps94
  go_wp2_with fail
  go_ret
  exact ⟨rfl, (Below.refl _ _).alloc (Nat.le_refl _) _⟩
theorem box6 (w : World) (v0 v1 v2 v3 v4 v5 : Value) (T : TypeId) : (w.alloc (.cells #[v0, v1, v2, v3, v4, v5] T)).cell? ⟨w.heap.size, 0, none⟩ = some v0 ∧ (w.alloc (.cells #[v0, v1, v2, v3, v4, v5] T)).cell? ⟨w.heap.size, 1, none⟩ = some v1 ∧ (w.alloc (.cells #[v0, v1, v2, v3, v4, v5] T)).cell? ⟨w.heap.size, 2, none⟩ = some v2 ∧ (w.alloc (.cells #[v0, v1, v2, v3, v4, v5] T)).cell? ⟨w.heap.size, 3, none⟩ = some v3 ∧ (w.alloc (.cells #[v0, v1, v2, v3, v4, v5] T)).cell? ⟨w.heap.size, 4, none⟩ = some v4 ∧ (w.alloc (.cells #[v0, v1, v2, v3, v4, v5] T)).cell? ⟨w.heap.size, 5, none⟩ = some v5 := by
  simp
theorem box2 (w : World) (v0 v1 : Value) (T : TypeId) : (w.alloc (.cells #[v0, v1] T)).cell? ⟨w.heap.size, 0, none⟩ = some v0 ∧ (w.alloc (.cells #[v0, v1] T)).cell? ⟨w.heap.size, 1, none⟩ = some v1 := by
  simp
end Go.Proofs.Ytldghgadkncehaa.Tak

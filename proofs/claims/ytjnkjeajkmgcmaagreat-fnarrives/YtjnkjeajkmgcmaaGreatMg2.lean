/- Contracts of l1Below, l1Once, l1DrawMark, l1DrawPlace and of the laws' own big and pick: they return, within their ranges, and turn no block but the cursor's. · Takers and their parts (chapter 5): plain mathematics, how they lie in memory, and the small functions of the specification; no condition but on sizes. -/
import Derived.Test.YtjnkjeajkmgcmaaGreatMg1
import Derived.OpenShut
import Derived.BigQuiet
namespace Go.Proofs.YtjnkjeajkmgcmaaGreat.Draw
open Go.RowKit
set_option linter.unusedVariables false

set_option maxHeartbeats 1000000 in
theorem l1Below (c : Nat) (n : Int) (w : World) (h : Cur w c) :
    Calls Tryz.prog 21 #[.pointer (some ⟨c, 0, none⟩), .int .i64 n] w fun e w' => ∃ x : Int, 0 ≤ x ∧ (x < n ∨ x = 0 ∧ n ≤ 0) ∧ e = .returned (.int .i64 x) ∧ Cur w' c ∧ Kept c w w' := by
  by_cases h0 : n ≤ 0
  · go_enter Tryz.func21, Tryz.ntmps21
    go_wp2
    go_ret
    exact ⟨0, by omega, by omega, rfl, h, Kept.refl _ _⟩
  · by_cases h1 : n ≤ 256
    · go_enter Tryz.func21, Tryz.ntmps21
      go_wp2_with fail
      refine (l1Byte c _ h).mono ?_
      rintro e w1 ⟨x, x0, x1, rfl, c1, k1⟩
      go_wp2_with fail
      go_ret
      exact ⟨x % n, Int.emod_nonneg _ (by omega), .inl (Int.emod_lt_of_pos _ (by omega)), rfl, c1, k1⟩
    · go_enter Tryz.func21, Tryz.ntmps21
      go_wp2_with fail
      refine (l1Byte c _ h).mono ?_
      rintro e w1 ⟨x, x0, x1, rfl, c1, k1⟩
      go_wp2_with fail
      refine (l1Byte c _ c1).mono ?_
      rintro e w2 ⟨y, y0, y1, rfl, c2, k2⟩
      go_wp2_with fail
      refine (l1Byte c _ c2).mono ?_
      rintro e w3 ⟨z, z0, z1, rfl, c3, k3⟩
      go_wp2_with fail
      refine (l1Byte c _ c3).mono ?_
      rintro e w4 ⟨v, v0, v1, rfl, c4, k4⟩
      go_wp2_with fail
      go_ret
      exact ⟨(x * 16777216 + y * 65536 + z * 256 + v) % n, Int.emod_nonneg _ (by omega), .inl (Int.emod_lt_of_pos _ (by omega)), rfl, c4, ((k1.trans k2).trans k3).trans k4⟩

set_option maxHeartbeats 1000000 in
theorem l1Once (c : Nat) (n : Int) (w : World) (h : Cur w c) :
    Calls Tryz.prog 42 #[.pointer (some ⟨c, 0, none⟩), .int .i64 n] w fun e w' => ∃ b : Bool, e = .returned (.bool b) ∧ Cur w' c ∧ Kept c w w' := by
  go_enter Tryz.func42, Tryz.ntmps42
  go_wp2_with fail
  refine (l1Below c n _ h).mono ?_
  rintro e w1 ⟨x, x0, x1, rfl, c1, k1⟩
  go_wp2_with fail
  go_ret
  exact ⟨_, rfl, c1, k1⟩

set_option maxHeartbeats 1000000 in
theorem l1Max (a b : Int) (w : World) :
    Calls Tryz.prog 106 #[.int .i64 a, .int .i64 b] w fun e w' => e = .returned (.int .i64 (if b < a then a else b)) ∧ w = w' := by
  by_cases h : b < a
  · go_enter Tryz.func106, Tryz.ntmps106
    go_wp2
    go_ret
    exact ⟨rfl, rfl⟩
  · go_enter Tryz.func106, Tryz.ntmps106
    go_wp2
    go_ret
    exact ⟨rfl, rfl⟩

theorem places4 (x : Int) (h0 : 0 ≤ x) (h1 : x < 4) : ∃ v : Int, (#[.int .i64 (-1), .int .i64 1000000000, .int .i64 1000000001, .int .i64 4611686018427387904] : Array Value)[x.toNat]? = some (.int .i64 v) := by
  have h : x = 0 ∨ x = 1 ∨ x = 2 ∨ x = 3 := by omega
  rcases h with rfl | rfl | rfl | rfl <;> exact ⟨_, rfl⟩

set_option maxHeartbeats 1000000 in
theorem l1DrawPlace (c : Nat) (w : World) (h : Cur w c) :
    Calls Tryz.prog 46 #[.pointer (some ⟨c, 0, none⟩)] w fun e w' => ∃ v : Int, e = .returned (.int .i64 v) ∧ Cur w' c ∧ Kept c w w' := by
  have hlt := h.lt
  go_enter Tryz.func46, Tryz.ntmps46
  go_wp2_with fail
  refine (l1Once c 8 _ h).mono ?_
  rintro e w0 ⟨b, rfl, c0, k0⟩
  have hl0 := c0.lt
  cases b
  · go_wp2_with fail
    refine (l1Below c 40 _ c0).mono ?_
    rintro e w1 ⟨x, x0, x1, rfl, c1, k1⟩
    go_wp2_with fail
    go_ret
    exact ⟨x, rfl, c1, k0.trans k1⟩
  · go_wp2_with fail
    refine (l1Below c 4 _ (c0.below ((Below.refl _ _).alloc (Nat.le_refl _) _) (Nat.le_refl _))).mono ?_
    rintro e w1 ⟨x, x0, x1, rfl, c1, k1⟩
    have x2 : x < 4 := by omega
    clear x1
    obtain ⟨v, hv⟩ := places4 x x0 x2
    have hc := (k1.cell (p := ⟨w0.heap.size, x.toNat, none⟩) (by simp) (show w0.heap.size ≠ c by omega)).trans ((World.cell?_alloc_new _ _ _ _).trans hv)
    have K1 : Hid _ := k1
    have HV : Hid _ := hv
    clear k1 hv
    go_wp2_with fail
    go_ret
    exact ⟨v, rfl, c1, (k0.alloc _).trans K1.out⟩

set_option maxHeartbeats 1000000 in
theorem big (a : Option Addr) (len cap : Nat) (w : World) (hm : len ≤ maxLen) :
    Calls Tryz.prog 4 #[.slice a len cap] w fun e w' => e = .returned (.bool (decide (4096 < (len : Int)))) ∧ w = w' := by
  unfold maxLen at hm
  go_enter Tryz.func4, Tryz.ntmps4
  go_wp2
  go_ret
  exact ⟨rfl, rfl⟩

theorem bytes_of_row {w : World} {a : Option Addr} {len cap : Nat} {zs : List Int} (h : (a = none ∧ len = 0 ∧ cap = 0 ∧ zs = []) ∨
    ∃ x, a = some x ∧ len ≤ cap ∧ cap ≤ maxLen ∧ zs.length = cap ∧ (∀ i, i < zs.length → w.cell? (x.add i) = some (.int .u8 (zs.getD i 0))) ∧ ∀ n ∈ zs, (Lit.int .u8 n).wf = true) : Bytes w a len ∧ len ≤ maxLen := by
  rcases h with ⟨_, rfl, _, _⟩ | ⟨x, rfl, hl, hm, hz, hc, hw⟩
  · exact ⟨.inl rfl, Nat.zero_le _⟩
  · refine ⟨?_, by omega⟩
    by_cases h0 : len = 0
    · exact .inl h0
    · obtain ⟨b, off, spot⟩ := x
      have hspot : spot = none := by simpa [Addr.add] using World.cell?_spot (hc 0 (by omega))
      subst hspot
      refine .inr ⟨b, off, rfl, fun i hi => ?_⟩
      have hi' : i < zs.length := by omega
      have hwf := hw (zs.getD i 0) (by simp [List.getD, hi'])
      have hbd := bounds_u8 hwf
      exact ⟨zs.getD i 0, hbd.1, hbd.2, by
        have hh := hc i hi'
        by_cases hi0 : i = 0
        · subst hi0; simpa [Addr.add] using hh
        · simpa [Addr.add, hi0] using hh⟩

end Go.Proofs.YtjnkjeajkmgcmaaGreat.Draw

namespace Go.Proofs.YtjnkjeajkmgcmaaGreat.Tak
open Go.RowKit RowG
set_option linter.unusedVariables false
set_option linter.unusedSimpArgs false

theorem mix : Tryz.prog.follows .mixedOrders = true := by kernel_rfl

abbrev Pt := Int × ByteArray
def partE : El Pt where
  enc p := [.int .i64 p.1, .string p.2]
  size := 2
  len _ := rfl
  one p u hu := by
    simp at hu
    rcases hu with rfl | rfl <;> rfl
  pos := by decide
def endP (p : Pt) : Int := p.1 + p.2.size
def scan (nx lim : Int) : Int → List Pt → Option Int
  | last, [] => some last
  | last, p :: r => if (1 ≤ p.2.size ∧ p.2.size ≤ 40) ∧ nx < p.1 ∧ last ≤ p.1 ∧ endP p ≤ lim then scan nx lim (endP p) r else none
def limT (nx : Int) (bs : ByteArray) (cp : Int) : Int := nx - bs.size + cp
def inT (nx : Int) (bs : ByteArray) (l : List Pt) (cp : Int) : Prop := (1 ≤ cp ∧ cp ≤ 400) ∧ (0 ≤ nx ∧ nx ≤ 1000000000) ∧ ((bs.size : Int) ≤ cp ∧ (bs.size : Int) ≤ nx) ∧ l.length ≤ 400
instance (nx : Int) (bs : ByteArray) (l : List Pt) (cp : Int) : Decidable (inT nx bs l cp) := by unfold inT; exact inferInstance
def endB (fi last nx : Int) (en : Bool) : Bool := decide (fi = -1 ∨ (Num.plB fi = true ∧ last ≤ fi)) && ((en == decide (fi = nx)) && Num.plB last)
def takerB (nx : Int) (bs : ByteArray) (l : List Pt) (cp fi : Int) (en : Bool) : Bool :=
  decide (inT nx bs l cp) && match scan nx (limT nx bs cp) nx l with
  | none => false
  | some last => endB fi last nx en

theorem infoPart : (Tryz.prog.info? 69).map (fun i => (i.zero, i.size, i.bytes)) = some (some (.agg #[.int .i64 0, .string ByteArray.empty]), 2, 24) := by kernel_rfl

theorem typ : Typ Tryz.prog 26 69 partE 24 := by
  obtain ⟨i, hi, hz0, hz1, hz2⟩ := info_parts infoPart
  exact ⟨Tryz.underlying26, i, _, hi, hz0, hz1, hz2, rfl⟩

theorem l1In (n a b : Int) (w : World) : Calls Tryz.prog 55 #[.int .i64 n, .int .i64 a, .int .i64 b] w fun x w' => x = .returned (.bool (decide (a ≤ n ∧ n ≤ b))) ∧ w = w' := by
  by_cases h0 : a ≤ n
  · by_cases h1 : n ≤ b
    · go_enter Tryz.func55, Tryz.ntmps55
      go_wp2_with fail
      go_ret
      exact ⟨Num.ret_bool (by simp [h0, h1]), rfl⟩
    · go_enter Tryz.func55, Tryz.ntmps55
      go_wp2_with fail
      go_ret
      exact ⟨Num.ret_bool (by simp [h0, h1]), rfl⟩
  · go_enter Tryz.func55, Tryz.ntmps55
    go_wp2_with fail
    go_ret
    exact ⟨Num.ret_bool (by simp; omega), rfl⟩
theorem l1InEq {n a b : Int} {v : Bool} (h : decide (a ≤ n ∧ n ≤ b) = v) (w : World) : Calls Tryz.prog 55 #[.int .i64 n, .int .i64 a, .int .i64 b] w fun x w' => x = .returned (.bool v) ∧ w = w' := by
  subst h
  exact l1In n a b w

theorem l1PlaceEq {n : Int} {v : Bool} (h : Num.plB n = v) (w : World) : Calls Tryz.prog 56 #[.int .i64 n] w fun x w' => x = .returned (.bool v) ∧ w = w' := by
  subst h
  exact Num.l1Place n w

theorem l1Min (a b : Int) (w : World) :
    Calls Tryz.prog 58 #[.int .i64 a, .int .i64 b] w fun e w' => e = .returned (.int .i64 (if a < b then a else b)) ∧ w = w' := by
  by_cases h : a < b
  · go_enter Tryz.func58, Tryz.ntmps58
    go_wp2_with fail
    go_ret
    exact ⟨by simp [h], rfl⟩
  · go_enter Tryz.func58, Tryz.ntmps58
    go_wp2_with fail
    go_ret
    exact ⟨by simp [h], rfl⟩

theorem l5End (p : Int) (b : ByteArray) (w : World) (hp : p ≤ 4611686018427387904) (hp0 : -1152921504606846976 ≤ p) (hb : b.size ≤ 1152921504606846976) :
    Calls Tryz.prog 59 #[.agg #[.int .i64 p, .string b]] w fun x w' => x = .returned (.int .i64 (endP (p, b))) ∧ Below w.heap.size w w' := by
  go_enter Tryz.func59, Tryz.ntmps59
  go_wp2_with fail
  go_ret
  exact ⟨rfl, (Below.refl _ _).alloc (Nat.le_refl _) _⟩

theorem l5Limit (nx : Int) (bs : ByteArray) (a : Option Addr) (n c : Nat) (cp fi : Int) (en : Bool) (w : World) (hn : 0 ≤ nx ∧ nx ≤ 1152921504606846976) (hb : bs.size ≤ 1152921504606846976) (hc : 0 ≤ cp ∧ cp ≤ 1152921504606846976) :
    Calls Tryz.prog 60 #[.agg #[.int .i64 nx, .string bs, .slice a n c, .int .i64 cp, .int .i64 fi, .bool en]] w fun x w' => x = .returned (.int .i64 (limT nx bs cp)) ∧ Below w.heap.size w w' := by
  obtain ⟨hn0, hn1⟩ := hn
  obtain ⟨hc0, hc1⟩ := hc
  go_enter Tryz.func60, Tryz.ntmps60
  go_wp2_with fail
  go_ret
  exact ⟨rfl, (Below.refl _ _).alloc (Nat.le_refl _) _⟩

theorem box6 (w : World) (v0 v1 v2 v3 v4 v5 : Value) (T : TypeId) : (w.alloc (.cells #[v0, v1, v2, v3, v4, v5] T)).cell? ⟨w.heap.size, 0, none⟩ = some v0 ∧ (w.alloc (.cells #[v0, v1, v2, v3, v4, v5] T)).cell? ⟨w.heap.size, 1, none⟩ = some v1 ∧ (w.alloc (.cells #[v0, v1, v2, v3, v4, v5] T)).cell? ⟨w.heap.size, 2, none⟩ = some v2 ∧ (w.alloc (.cells #[v0, v1, v2, v3, v4, v5] T)).cell? ⟨w.heap.size, 3, none⟩ = some v3 ∧ (w.alloc (.cells #[v0, v1, v2, v3, v4, v5] T)).cell? ⟨w.heap.size, 4, none⟩ = some v4 ∧ (w.alloc (.cells #[v0, v1, v2, v3, v4, v5] T)).cell? ⟨w.heap.size, 5, none⟩ = some v5 := by
  simp
theorem box2 (w : World) (v0 v1 : Value) (T : TypeId) : (w.alloc (.cells #[v0, v1] T)).cell? ⟨w.heap.size, 0, none⟩ = some v0 ∧ (w.alloc (.cells #[v0, v1] T)).cell? ⟨w.heap.size, 1, none⟩ = some v1 := by
  simp

end Go.Proofs.YtjnkjeajkmgcmaaGreat.Tak

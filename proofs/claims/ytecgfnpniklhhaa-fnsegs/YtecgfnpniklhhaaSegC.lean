/- Contracts of the specification's ShowSeg, ReadSeg and Spoilt; texts of at most 2^20 bytes. -/
import Derived.Test.YtecgfnpniklhhaaSegB
import Derived.Laws.ResultCell
import Derived.Deep.Cut
import Derived.Lib.Strings
namespace Go.Proofs.Ytecgfnpniklhhaa.Seg
open Go.RowKit
set_option linter.unusedVariables false

def showSegL (f t : Int) (b : List UInt8) (e : Bool) (a r : Int) : List UInt8 := if okB f t b.length a r = true then showL f t b e a r else []

theorem agg6 {w w1 : World} {v0 v1 v2 v3 v4 v5 : Value} {T : TypeId} (hB : Below (w.alloc (.cells #[v0, v1, v2, v3, v4, v5] T)).heap.size (w.alloc (.cells #[v0, v1, v2, v3, v4, v5] T)) w1) :
    w1.cell? ⟨w.heap.size, 0, none⟩ = some v0 ∧ w1.cell? ⟨w.heap.size, 1, none⟩ = some v1 ∧ w1.cell? ⟨w.heap.size, 2, none⟩ = some v2 ∧ w1.cell? ⟨w.heap.size, 3, none⟩ = some v3 ∧ w1.cell? ⟨w.heap.size, 4, none⟩ = some v4 ∧ w1.cell? ⟨w.heap.size, 5, none⟩ = some v5 := by
  have h : ∀ i, w1.cell? ⟨w.heap.size, i, none⟩ = (w.alloc (.cells #[v0, v1, v2, v3, v4, v5] T)).cell? ⟨w.heap.size, i, none⟩ := fun i => hB.cell (p := ⟨w.heap.size, i, none⟩) (by show w.heap.size < (w.alloc _).heap.size; simp)
  refine ⟨(h 0).trans ?_, (h 1).trans ?_, (h 2).trans ?_, (h 3).trans ?_, (h 4).trans ?_, (h 5).trans ?_⟩ <;> simp

set_option maxHeartbeats 2000000 in
theorem specShowSeg (f t : Int) (b : ByteArray) (e : Bool) (a r : Int) (w : World) (hb : b.size ≤ 1048576) :
    Calls Try.prog 10 #[.agg #[.int .i64 f, .int .i64 t, .string b, .bool e, .int .i64 a, .int .i64 r]] w fun x w' => x = .returned (.string ⟨(showSegL f t b.data.toList e a r).toArray⟩) ∧ Below w.heap.size w w' := by
  have hbs : b.data.toList.length = b.size := by simp
  have HO : Hid (showSegL f t b.data.toList e a r = if okB f t b.size a r = true then showL f t b.data.toList e a r else []) := by show _ = _; unfold showSegL; rw [hbs]
  clear hbs
  go_enter Try.func10, Try.ntmps10
  go_wp2_with fail
  refine (specSegOk f t b e a r _ hb).mono ?_
  rintro x w1 ⟨rfl, hB1⟩
  have hB01 : Below w.heap.size w w1 := ((Below.refl _ _).alloc (Nat.le_refl _) _).trans (hB1.mono (by simp))
  obtain ⟨c0, c1, c2, c3, c4, c5⟩ := agg6 hB1
  clear hB1
  cases hok : okB f t b.size a r
  · go_wp2_with fail
    go_ret
    exact ⟨by rw [HO.out, hok]; rfl, hB01⟩
  · go_wp2_with fail
    refine (specShow f t b e a r _ hb).mono ?_
    rintro x w2 ⟨rfl, hB2⟩
    go_wp2_with fail
    go_ret
    exact ⟨by rw [HO.out, hok]; rfl, hB01.trans (hB2.mono hB01.size)⟩

/-- The byte of a text, so much more. -/
def spoilL (l : List UInt8) (k : Nat) (by_ : Int) : List UInt8 := l.set k (low (((l.getD k 0).toNat : Int) + by_))
def spoilOf (s : ByteArray) (at_ by_ : Int) : ByteArray := if 0 ≤ at_ ∧ at_ < s.size ∧ 1 ≤ by_ ∧ by_ ≤ 255 then ⟨(spoilL s.data.toList at_.toNat by_).toArray⟩ else s

/-- The fields that a text has, where it is a letter. -/
def rF (l : List UInt8) : Int := readB (l.take 4)
def rT (l : List UInt8) : Int := readB ((l.drop 4).take 4)
def rA (l : List UInt8) : Int := readB ((l.drop 8).take 4)
def rR (l : List UInt8) : Int := readB ((l.drop 12).take 2)
def rE (l : List UInt8) : Bool := (l.getD 14 0).toNat == 1
def rB (l : List UInt8) : List UInt8 := (l.drop 16).take (l.length - 2 - 16)
def rdL (l : List UInt8) : Bool := decide (18 ≤ l.length ∧ l.length ≤ 58) && decide (showL (rF l) (rT l) (rB l) (rE l) (rA l) (rR l) = l)
theorem rd_no {l : List UInt8} (h : ¬ (18 ≤ l.length ∧ l.length ≤ 58)) : rdL l = false := by simp only [rdL, Bool.and_eq_false_iff, decide_eq_false_iff_not]; exact .inl h
theorem rd_in {l : List UInt8} (h : 18 ≤ l.length ∧ l.length ≤ 58) : rdL l = decide (showL (rF l) (rT l) (rB l) (rE l) (rA l) (rR l) = l) := by simp only [rdL, decide_eq_true h, Bool.true_and]

def segNo : Array Value := #[.int .i64 0, .int .i64 0, .string ⟨#[]⟩, .bool false, .int .i64 0, .int .i64 0]
def segYes (l : List UInt8) : Array Value := #[.int .i64 (rF l), .int .i64 (rT l), .string ⟨(rB l).toArray⟩, .bool (rE l), .int .i64 (rA l), .int .i64 (rR l)]

def segV (l : List UInt8) : Array Value := if rdL l = true then segYes l else segNo
theorem seg_no {l : List UInt8} (h : rdL l = false) : segV l = segNo := by simp [segV, h]
theorem seg_yes {l : List UInt8} (h : rdL l = true) : segV l = segYes l := by simp [segV, h]

theorem agg2 {w w1 : World} {C D : Array Value} {T : TypeId} (hB : Below ((w.alloc (.cells C T)).alloc (.cells D T)).drew.heap.size ((w.alloc (.cells C T)).alloc (.cells D T)).drew w1) :
    (∀ i, w1.cell? ⟨w.heap.size, i, none⟩ = C[i]?) ∧ (∀ i, w1.frozen? ⟨w.heap.size, i, none⟩ = false) ∧ ∀ i, w1.cell? ⟨w.heap.size + 1, i, none⟩ = D[i]? := by
  have hz : ((w.alloc (.cells C T)).alloc (.cells D T)).drew.heap.size = w.heap.size + 2 := by simp
  have e1 : w.heap.size + 1 = (w.alloc (.cells C T)).heap.size := by simp
  refine ⟨fun i => ?_, fun i => ?_, fun i => ?_⟩
  · rw [hB.cell (p := ⟨w.heap.size, i, none⟩) (by show w.heap.size < _; omega)]; simp
  · rw [hB.frozen (p := ⟨w.heap.size, i, none⟩) (by show w.heap.size < _; omega)]; simp
  · rw [hB.cell (p := ⟨w.heap.size + 1, i, none⟩) (by show w.heap.size + 1 < _; omega), World.cell?_drew, e1, World.cell?_alloc_new]

theorem rE_eq {s : ByteArray} (h : 14 < s.size) : (((s[14]'h).toNat : Int) == 1) = rE s.data.toList := by
  have hl : 14 < s.data.toList.length := by simpa using h
  have e : s.data.toList.getD 14 0 = s[14]'h := by rw [List.getD_eq_getElem?_getD, List.getElem?_eq_getElem hl]; rfl
  rw [rE, e, Bool.eq_iff_iff]
  simp
  omega
theorem rB_eq {s : ByteArray} (h : 18 ≤ s.size) : s.extract 16 (((s.size : Int) - 2).toNat) = ⟨(rB s.data.toList).toArray⟩ := by
  have e : (((s.size : Int) - 2).toNat) = s.size - 2 := by omega
  have hl : s.data.toList.length = s.size := by simp
  rw [e, Lib.extract_eq, rB, hl]

end Go.Proofs.Ytecgfnpniklhhaa.Seg

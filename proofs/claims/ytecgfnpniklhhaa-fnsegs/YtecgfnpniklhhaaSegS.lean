/- Contract of the program's ReadSeg; texts of at most 2^20 bytes. -/
import Derived.Test.YtecgfnpniklhhaaSegR
namespace Go.Proofs.Ytecgfnpniklhhaa.Seg
open Go.RowKit
set_option linter.unusedVariables false

/-- What the program takes for End. -/
def rX (l : List UInt8) : Bool := ((l.getD 14 0).toNat : Int) != 0
theorem show_at (f t : Int) (b : List UInt8) (e : Bool) (a r : Int) : (showL f t b e a r).getD 14 0 = low (if e then 1 else 0) := by
  have h : (numB f 4 ++ numB t 4 ++ numB a 4 ++ numB r 2).length = 14 := by simp [numB_len]
  rw [showL, bodyL, List.append_assoc, List.append_assoc, List.append_assoc, List.getD_eq_getElem?_getD, List.getElem?_append_right (by omega), h]
  simp [numB]
theorem ok_read {l : List UInt8} (h : 18 ≤ l.length ∧ l.length ≤ 58) : okB (rF l) (rT l) (rB l).length (rA l) (rR l) = true := by
  have h1 := readB_bd 4 (l.take 4) (by simp; omega)
  have h2 := readB_bd 4 ((l.drop 4).take 4) (by simp; omega)
  have h3 := readB_bd 4 ((l.drop 8).take 4) (by simp; omega)
  have h4 := readB_bd 2 ((l.drop 12).take 2) (by simp; omega)
  have h5 : (rB l).length = l.length - 2 - 16 := by simp [rB]; omega
  unfold okB rF rT rA rR
  rw [Num.mk_yes ⟨h1.1, by omega⟩, Num.mk_yes ⟨h2.1, by omega⟩, Num.mk_yes ⟨h3.1, by omega⟩, Sum.tw_yes ⟨h4.1, by omega⟩, h5]
  simp
  omega
theorem read_same {l : List UInt8} (h : 18 ≤ l.length ∧ l.length ≤ 58) : rdL l = decide (showSegL (rF l) (rT l) (rB l) (rX l) (rA l) (rR l) = l) ∧ (rdL l = true → rX l = rE l) := by
  rw [rd_in h, showSegL, if_pos (ok_read h)]
  have hx : rX l = rE l ∨ (rX l = true ∧ (l.getD 14 0).toNat ≠ 1 ∧ rE l = false ∧ (l.getD 14 0).toNat ≠ 0) := by
    unfold rX rE
    generalize (l.getD 14 0).toNat = x
    by_cases h0 : x = 0
    · simp [h0]
    · by_cases h1 : x = 1
      · simp [h1]
      · right
        refine ⟨by simp; omega, h1, by simpa using h1, h0⟩
  rcases hx with hx | ⟨hx, hn1, he, hn0⟩
  · rw [hx]
    exact ⟨rfl, fun _ => rfl⟩
  · have hA : ¬ showL (rF l) (rT l) (rB l) (rX l) (rA l) (rR l) = l := fun c => hn1 (by
      have e := show_at (rF l) (rT l) (rB l) (rX l) (rA l) (rR l)
      rw [c, hx] at e
      rw [e]; rfl)
    have hB : ¬ showL (rF l) (rT l) (rB l) (rE l) (rA l) (rR l) = l := fun c => hn0 (by
      have e := show_at (rF l) (rT l) (rB l) (rE l) (rA l) (rR l)
      rw [c, he] at e
      rw [e]; rfl)
    rw [decide_eq_false hA, decide_eq_false hB]
    exact ⟨rfl, fun c => by cases c⟩

theorem block_cells {w w1 : World} {C : Array Value} {T : TypeId} (hB : Below (w.alloc (.cells C T)).heap.size (w.alloc (.cells C T)) w1) : (∀ i, w1.cell? ⟨w.heap.size, i, none⟩ = C[i]?) ∧ ∀ i, w1.frozen? ⟨w.heap.size, i, none⟩ = false := by
  have hz : (w.alloc (.cells C T)).heap.size = w.heap.size + 1 := by simp
  refine ⟨fun i => ?_, fun i => ?_⟩
  · rw [hB.cell (p := ⟨w.heap.size, i, none⟩) (by show w.heap.size < _; omega)]; simp
  · rw [hB.frozen (p := ⟨w.heap.size, i, none⟩) (by show w.heap.size < _; omega)]; simp

set_option maxHeartbeats 4000000 in
theorem implReadSeg (s : ByteArray) (w : World) (hs : s.size ≤ 1048576) :
    Calls Try.prog 8 #[.string s] w fun x w' => x = .returned (.tuple #[.agg (segV s.data.toList), .bool (rdL s.data.toList)]) ∧ Below w.heap.size w w' := by
  have hsl : s.data.toList.length = s.size := by simp
  by_cases h0 : s.size < 18
  · have h0i : (s.size : Int) < 18 := by omega
    have HN : Hid (rdL s.data.toList = false) := rd_no (by omega)
    go_enter Try.func8, Try.ntmps8
    go_wp2_with fail
    exact bodyPost_ret (v := .tuple #[.agg segNo, .bool false]) (by rw [results_cell_tmp rfl]; go_simp; rfl) rfl ⟨by rw [seg_no HN.out, HN.out], (Below.refl _ _).alloc (Nat.le_refl _) _⟩
  · by_cases h1 : 58 < s.size
    · have h0i : ¬ (s.size : Int) < 18 := by omega
      have h1i : (58 : Int) < (s.size : Int) := by omega
      have HN : Hid (rdL s.data.toList = false) := rd_no (by omega)
      go_enter Try.func8, Try.ntmps8
      go_wp2_with fail
      exact bodyPost_ret (v := .tuple #[.agg segNo, .bool false]) (by rw [results_cell_tmp rfl]; go_simp; rfl) rfl ⟨by rw [seg_no HN.out, HN.out], (Below.refl _ _).alloc (Nat.le_refl _) _⟩
    · have h0i : (18 : Int) ≤ (s.size : Int) := by omega
      have h1i : (s.size : Int) ≤ 58 := by omega
      obtain ⟨cap, w2, hcap, hconv, hrow, hB2, hz2⟩ := byteRow_cap s (w.alloc (.cells segNo 25))
      obtain ⟨hsame, hX⟩ := read_same (l := s.data.toList) (by omega)
      have HN : Hid _ := hsame
      have HX : Hid _ := hX
      clear hsame hX
      have hc2 := (block_cells hB2)
      have hg1 : (w.alloc (.cells segNo 25)).heap.size = w.heap.size + 1 := by simp
      rw [hg1] at hconv hrow hz2
      unfold segNo at hconv
      clear hg1
      have hS1 : 18 ≤ s.data.toList.length := by omega
      have hS2 : s.data.toList.length ≤ 58 := by omega
      have HR : Hid (Draw.Row _ _ _) := hrow
      clear hrow
      have hlist : Hid (s.toList = s.data.toList) := ByteArray.toList_eq s
      have hB02 : Below w.heap.size w w2 := ((Below.refl _ _).alloc (Nat.le_refl _) _).trans (hB2.mono (by simp))
      have HC : Hid _ := hc2
      clear hc2
      clear hB2
      go_enter Try.func8, Try.ntmps8
      go_wp2_with fail
      refine (letterIn (w.heap.size + 1) s.size cap s.data.toList w2 hsl.symm hcap hS1 hS2 HR.out).mono ?_
      rintro x w3 ⟨rfl, hB3⟩
      have hY : Hid (segYes s.data.toList = #[.int .i64 (rF s.data.toList), .int .i64 (rT s.data.toList), .string ⟨(rB s.data.toList).toArray⟩, .bool (rE s.data.toList), .int .i64 (rA s.data.toList), .int .i64 (rR s.data.toList)]) := rfl
      have HV : Hid (∀ h : rdL s.data.toList = true, segV s.data.toList = segYes s.data.toList) := fun h => seg_yes h
      have HV0 : Hid (∀ h : rdL s.data.toList = false, segV s.data.toList = segNo) := fun h => seg_no h
      have hbz : (⟨(rB s.data.toList).toArray⟩ : ByteArray).size ≤ 1048576 := by show (rB s.data.toList).length ≤ _; unfold rB; simp; omega
      have hgx : (((s.data.toList.getD 14 0).toNat : Int) != 0) = rX s.data.toList := rfl
      rw [hgx]
      have hB03 : Below w.heap.size w w3 := hB02.trans (hB3.mono hB02.size)
      have hc3 : Hid (Below (w.heap.size + 1) w2 w3) := hB3.mono (by omega)
      clear hgx hB3 hB02 hconv HR
      generalize rB s.data.toList = B at *
      generalize rF s.data.toList = F at *
      generalize rT s.data.toList = T at *
      generalize rA s.data.toList = A at *
      generalize rR s.data.toList = R at *
      generalize rX s.data.toList = X at *
      go_wp2_with fail
      refine (letterSeg F T ⟨B.toArray⟩ X A R _).mono ?_
      rintro x w4 ⟨rfl, hB4⟩
      have hB04 : Below w.heap.size w w4 := hB03.trans (hB4.mono hB03.size)
      have hc4 : Hid (Below (w.heap.size + 1) w2 w4) := hc3.out.trans (hB4.mono (by have := hc3.out.size; omega))
      clear hB4 hB03 hc3
      go_wp2_with fail
      refine (implShowSeg F T ⟨B.toArray⟩ X A R _ hbz).mono ?_
      rintro x w5 ⟨rfl, hB5⟩
      have hz5 : w4.heap.size ≤ w5.heap.size := by have := hB5.size; simp at this; omega
      obtain ⟨g0, g1, g2, g3, g4, g5⟩ := agg6 hB5
      have hB05 : Below w.heap.size w w5 := (hB04.alloc hB04.size _).trans (hB5.mono (by have := hB04.size; simp; omega))
      have hc5 : Below (w.heap.size + 1) w2 w5 := hc4.out.trans (((Below.refl (w.heap.size + 1) w4).alloc (by have := hc4.out.size; omega) _).trans (hB5.mono (by have := hc4.out.size; simp; omega)))
      have k0 : ∀ i, w5.cell? ⟨w.heap.size, i, none⟩ = segNo[i]? := fun i => (hc5.cell (p := ⟨w.heap.size, i, none⟩) (by show w.heap.size < _; omega)).trans (HC.out.1 i)
      have k1 : ∀ i, w5.frozen? ⟨w.heap.size, i, none⟩ = false := fun i => (hc5.frozen (p := ⟨w.heap.size, i, none⟩) (by show w.heap.size < _; omega)).trans (HC.out.2 i)
      have hne : ¬ w4.heap.size = w.heap.size := by have := hc4.out.size; omega
      unfold segNo at *
      clear hB5 hc5 hB04
      by_cases hq : showSegL F T B X A R = s.data.toList
      · have hqb : (showSegL F T B X A R == s.toList) = true := by rw [hlist.out, hq]; simp
        have HY : Hid (rdL s.data.toList = true) := by show _ = _; rw [HN.out, decide_eq_true hq]
        clear hq
        go_wp2_with fail
        exact bodyPost_ret (v := .tuple #[.agg #[.int .i64 F, .int .i64 T, .string ⟨B.toArray⟩, .bool X, .int .i64 A, .int .i64 R], .bool true]) (by rw [results_cell_tmp rfl]; go_simp) rfl ⟨by rw [HV.out HY.out, HY.out, hY.out, HX.out HY.out], (((((hB05.setCell (Nat.le_refl _) _).setCell (Nat.le_refl _) _).setCell (Nat.le_refl _) _).setCell (Nat.le_refl _) _).setCell (Nat.le_refl _) _).setCell (Nat.le_refl _) _⟩
      · have hqb : (showSegL F T B X A R == s.toList) = false := by rw [hlist.out]; simpa using hq
        have HY : Hid (rdL s.data.toList = false) := by show _ = _; rw [HN.out, decide_eq_false hq]
        clear hq
        go_wp2_with fail
        exact bodyPost_ret (v := .tuple #[.agg segNo, .bool false]) (by rw [results_cell_tmp rfl]; go_simp; rfl) rfl ⟨by rw [HV0.out HY.out, HY.out]; rfl, (((((hB05.setCell (Nat.le_refl _) _).setCell (Nat.le_refl _) _).setCell (Nat.le_refl _) _).setCell (Nat.le_refl _) _).setCell (Nat.le_refl _) _).setCell (Nat.le_refl _) _⟩

end Go.Proofs.Ytecgfnpniklhhaa.Seg

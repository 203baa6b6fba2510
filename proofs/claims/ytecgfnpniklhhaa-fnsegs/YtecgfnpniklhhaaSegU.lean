/- ReadSeg of ShowSeg is the letter: plain mathematics, no condition. -/
import Derived.Test.YtecgfnpniklhhaaSegS
namespace Go.Proofs.Ytecgfnpniklhhaa.Seg
set_option linter.unusedVariables false

theorem cut_mid (x y z : List UInt8) (n m : Nat) (hn : x.length = n) (hm : y.length = m) : ((x ++ (y ++ z)).drop n).take m = y := by
  subst hn hm
  simp
theorem ok_all {f t : Int} {n : Nat} {a r : Int} (h : okB f t n a r = true) : (0 ≤ f ∧ f ≤ 4294967295) ∧ (0 ≤ t ∧ t ≤ 4294967295) ∧ (0 ≤ a ∧ a ≤ 4294967295) ∧ n ≤ 40 ∧ (0 ≤ r ∧ r ≤ 65535) := by
  simp only [okB, Bool.and_eq_true] at h
  obtain ⟨h1, h2, h3, h4, h5⟩ := h
  exact ⟨Num.mk_t h1, Num.mk_t h2, Num.mk_t h3, by have := of_decide_eq_true h4; omega, Sum.tw_t h5⟩
theorem read_show {f t : Int} {b : List UInt8} {e : Bool} {a r : Int} (h : okB f t b.length a r = true) :
    rF (showL f t b e a r) = f ∧ rT (showL f t b e a r) = t ∧ rA (showL f t b e a r) = a ∧ rR (showL f t b e a r) = r ∧ rE (showL f t b e a r) = e ∧ rB (showL f t b e a r) = b := by
  obtain ⟨hf, ht, ha, hb, hr⟩ := ok_all h
  have hl := showL_len f t b e a r
  have hS : ∃ Z, showL f t b e a r = numB f 4 ++ (numB t 4 ++ (numB a 4 ++ (numB r 2 ++ (numB (if e then 1 else 0) 1 ++ (numB (b.length : Int) 1 ++ (b ++ Z)))))) ∧ Z.length = 2 := ⟨numB (Sum.sumOf ⟨(bodyL f t b e a r).toArray⟩) 2, by simp [showL, bodyL], numB_len _ _⟩
  obtain ⟨Z, hS, hZ⟩ := hS
  have n4 : ∀ x : Int, (numB x 4).length = 4 := fun x => numB_len x 4
  refine ⟨?_, ?_, ?_, ?_, ?_, ?_⟩
  · unfold rF
    rw [hS]
    have := cut_mid [] (numB f 4) (numB t 4 ++ (numB a 4 ++ (numB r 2 ++ (numB (if e then 1 else 0) 1 ++ (numB (b.length : Int) 1 ++ (b ++ Z)))))) 0 4 rfl (n4 f)
    simp only [List.nil_append, List.drop_zero] at this
    rw [this]
    exact read_num 4 f hf.1 (by omega)
  · unfold rT
    rw [hS, cut_mid _ _ _ 4 4 (n4 f) (n4 t)]
    exact read_num 4 t ht.1 (by omega)
  · unfold rA
    rw [hS, ← List.append_assoc, cut_mid _ _ _ 8 4 (by simp [numB_len]) (n4 a)]
    exact read_num 4 a ha.1 (by omega)
  · unfold rR
    rw [hS, ← List.append_assoc, ← List.append_assoc, cut_mid _ _ _ 12 2 (by simp [numB_len]) (numB_len r 2)]
    exact read_num 2 r hr.1 (by omega)
  · unfold rE
    rw [show_at]
    cases e <;> rfl
  · unfold rB
    rw [hl, hS, ← List.append_assoc, ← List.append_assoc, ← List.append_assoc, ← List.append_assoc, ← List.append_assoc]
    exact cut_mid _ _ _ 16 _ (by simp [numB_len]) (by omega)
theorem rd_show {f t : Int} {b : List UInt8} {e : Bool} {a r : Int} (h : okB f t b.length a r = true) : rdL (showL f t b e a r) = true ∧ segV (showL f t b e a r) = #[.int .i64 f, .int .i64 t, .string ⟨b.toArray⟩, .bool e, .int .i64 a, .int .i64 r] := by
  obtain ⟨e1, e2, e3, e4, e5, e6⟩ := read_show (e := e) h
  have hl := showL_len f t b e a r
  have hr : rdL (showL f t b e a r) = true := by
    rw [rd_in (by have := (ok_all h).2.2.2.1; omega), e1, e2, e3, e4, e5, e6]
    simp
  refine ⟨hr, ?_⟩
  rw [seg_yes hr, segYes, e1, e2, e3, e4, e5, e6]
theorem show_rd {l : List UInt8} (h : rdL l = true) : showSegL (rF l) (rT l) (rB l) (rE l) (rA l) (rR l) = l := by
  have hin : 18 ≤ l.length ∧ l.length ≤ 58 := by
    have := h
    simp only [rdL, Bool.and_eq_true] at this
    simpa using this.1
  rw [showSegL, if_pos (ok_read hin)]
  have h2 := h
  rw [rd_in hin] at h2
  simpa using h2

theorem read_all (s : ByteArray) (hs : s.size ≤ 1048576) : ∃ (F T : Int) (B : ByteArray) (E : Bool) (A R : Int), segV s.data.toList = #[.int .i64 F, .int .i64 T, .string B, .bool E, .int .i64 A, .int .i64 R] ∧ B.size ≤ 1048576 ∧ (rdL s.data.toList = true → (⟨(showSegL F T B.data.toList E A R).toArray⟩ : ByteArray) = s) ∧ (rdL s.data.toList = false → F = 0 ∧ T = 0 ∧ B = ⟨#[]⟩ ∧ E = false ∧ A = 0 ∧ R = 0) := by
  cases h : rdL s.data.toList
  · exact ⟨0, 0, ⟨#[]⟩, false, 0, 0, seg_no h, by show 0 ≤ _; omega, fun c => (by cases c), fun _ => ⟨rfl, rfl, rfl, rfl, rfl, rfl⟩⟩
  · refine ⟨_, _, ⟨(rB s.data.toList).toArray⟩, _, _, _, seg_yes h, ?_, fun _ => ?_, fun c => (by cases c)⟩
    · show (rB s.data.toList).length ≤ _
      have : s.data.toList.length = s.size := by simp
      unfold rB
      simp
      omega
    · have e := show_rd h
      show ByteArray.mk (showSegL (rF s.data.toList) (rT s.data.toList) (rB s.data.toList) (rE s.data.toList) (rA s.data.toList) (rR s.data.toList)).toArray = s
      rw [e]
theorem mk_toList (b : ByteArray) : (⟨b.data.toList.toArray⟩ : ByteArray) = b := rfl

end Go.Proofs.Ytecgfnpniklhhaa.Seg

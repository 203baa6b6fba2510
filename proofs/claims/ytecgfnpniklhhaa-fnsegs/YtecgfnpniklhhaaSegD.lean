/- Contract of the specification's ReadSeg; texts of at most 2^20 bytes. -/
import Derived.Test.YtecgfnpniklhhaaSegC
import Derived.Test.YtecgfnpniklhhaaTake
namespace Go.Proofs.Ytecgfnpniklhhaa.Seg
open Go.RowKit
set_option linter.unusedVariables false
set_option linter.unusedSimpArgs false

set_option maxHeartbeats 4000000 in
theorem specReadSeg (s : ByteArray) (w : World) (hs : s.size ≤ 1048576) :
    Calls Try.prog 9 #[.string s] w fun x w' => x = .returned (.tuple #[.agg (segV s.data.toList), .bool (rdL s.data.toList)]) ∧ Below w.heap.size w w' := by
  have hsl : s.data.toList.length = s.size := by simp
  by_cases h0 : s.size < 18
  · have h0i : (s.size : Int) < 18 := by omega
    have HN : Hid (rdL s.data.toList = false) := rd_no (by omega)
    go_enter Try.func9, Try.ntmps9
    go_wp2_with fail
    exact bodyPost_ret (v := .tuple #[.agg segNo, .bool false]) (by rw [results_cell_tmp rfl]; go_simp; rfl) rfl ⟨by rw [seg_no HN.out, HN.out], (Below.refl _ _).alloc (Nat.le_refl _) _⟩
  · by_cases h1 : 58 < s.size
    · have h0i : ¬ (s.size : Int) < 18 := by omega
      have h1i : (58 : Int) < (s.size : Int) := by omega
      have HN : Hid (rdL s.data.toList = false) := rd_no (by omega)
      go_enter Try.func9, Try.ntmps9
      go_wp2_with fail
      exact bodyPost_ret (v := .tuple #[.agg segNo, .bool false]) (by rw [results_cell_tmp rfl]; go_simp; rfl) rfl ⟨by rw [seg_no HN.out, HN.out], (Below.refl _ _).alloc (Nat.le_refl _) _⟩
    · have h0i : (18 : Int) ≤ (s.size : Int) := by omega
      have h1i : (s.size : Int) ≤ 58 := by omega
      have hj : (14 : Int) < (s.size : Int) := by omega
      have hk : (16 : Int) ≤ (s.size : Int) - 2 := by omega
      have hk2 : (s.size : Int) - 2 ≤ (s.size : Int) := by omega
      have e0 : IntKind.i64.wrap ((s.size : Int) - 2) = (s.size : Int) - 2 := by rw [IntKind.wrap_i64]; omega
      have HN : Hid _ := rd_in (l := s.data.toList) (by omega)
      go_enter Try.func9, Try.ntmps9
      go_wp2_with fail
      go_cut [5] from 6 (fun p wr => p = .pointer (some ⟨w.heap.size + 1, 0, none⟩) ∧ wr = ((w.alloc (.cells segNo 25)).alloc (.cells #[.int .i64 (rF s.data.toList), .int .i64 (rT s.data.toList), .string (s.extract 16 (((s.size : Int) - 2).toNat)), .bool ((s[14].toNat : Int) == 1), .int .i64 (rA s.data.toList), .int .i64 (rR s.data.toList)] 25)).drew)
      case first =>
        refine wp_region_held_drew (S := (fun w' => True)) (by kernel_rfl) ?_ (fun hHeld => ?_)
        focus ((try dsimp only) <;> (trivial))
        refine wpAnyH_take (i := 0) (v := ?_) rfl (by kernel_rfl) (by kernel_rfl) (by kernel_rfl) (fun _ _ _ h => h) (Or.inl ⟨by rfl, ?_⟩) (by assumption) ?_
        rotate_left 1
        focus (intro wS hSw; (try dsimp only at hSw); go_simp; first | done | (constructor <;> with_reducible rfl) | with_reducible rfl)
        (try simp only [Act.put, List.getElem_toArray, List.getElem_cons_zero, List.getElem_cons_succ, List.setIfInBounds_toArray, List.set_cons_zero, List.set_cons_succ])
        refine Draw.take_call (i := 1) (v := ?_) rfl (by kernel_rfl) (by kernel_rfl) (by kernel_rfl) (fun _ _ _ h => h) (by assumption) (by rfl) ?_ ?_ ?_ ?_ ?_
        rotate_left 3
        focus (intro wS hSw; (try dsimp only at hSw); go_simp; first | done | (constructor <;> with_reducible rfl) | with_reducible rfl)
        focus (intro wS hSw; (try dsimp only at hSw); refine (l3ReadZ s _ _ _ (by decide) (by decide) (by decide) (by omega) hs).mono ?_; rintro eC wC ⟨rfl, rfl⟩; (constructor <;> with_reducible rfl))
        (try simp only [Act.put, List.getElem_toArray, List.getElem_cons_zero, List.getElem_cons_succ, List.setIfInBounds_toArray, List.set_cons_zero, List.set_cons_succ])
        refine wpAnyH_take (i := 2) (v := ?_) rfl (by kernel_rfl) (by kernel_rfl) (by kernel_rfl) (fun _ _ _ h => h) (Or.inl ⟨by rfl, ?_⟩) (by assumption) ?_
        rotate_left 1
        focus (intro wS hSw; (try dsimp only at hSw); go_simp; first | done | (constructor <;> with_reducible rfl) | with_reducible rfl)
        (try simp only [Act.put, List.getElem_toArray, List.getElem_cons_zero, List.getElem_cons_succ, List.setIfInBounds_toArray, List.set_cons_zero, List.set_cons_succ])
        refine Draw.take_call (i := 3) (v := ?_) rfl (by kernel_rfl) (by kernel_rfl) (by kernel_rfl) (fun _ _ _ h => h) (by assumption) (by rfl) ?_ ?_ ?_ ?_ ?_
        rotate_left 3
        focus (intro wS hSw; (try dsimp only at hSw); go_simp; first | done | (constructor <;> with_reducible rfl) | with_reducible rfl)
        focus (intro wS hSw; (try dsimp only at hSw); refine (l3ReadZ s _ _ _ (by decide) (by decide) (by decide) (by omega) hs).mono ?_; rintro eC wC ⟨rfl, rfl⟩; (constructor <;> with_reducible rfl))
        (try simp only [Act.put, List.getElem_toArray, List.getElem_cons_zero, List.getElem_cons_succ, List.setIfInBounds_toArray, List.set_cons_zero, List.set_cons_succ])
        refine wpAnyH_take (i := 4) (v := ?_) rfl (by kernel_rfl) (by kernel_rfl) (by kernel_rfl) (fun _ _ _ h => h) (Or.inl ⟨by rfl, ?_⟩) (by assumption) ?_
        rotate_left 1
        focus (intro wS hSw; (try dsimp only at hSw); go_simp; first | done | (constructor <;> with_reducible rfl) | with_reducible rfl)
        (try simp only [Act.put, List.getElem_toArray, List.getElem_cons_zero, List.getElem_cons_succ, List.setIfInBounds_toArray, List.set_cons_zero, List.set_cons_succ])
        refine Draw.take_call (i := 5) (v := ?_) rfl (by kernel_rfl) (by kernel_rfl) (by kernel_rfl) (fun _ _ _ h => h) (by assumption) (by rfl) ?_ ?_ ?_ ?_ ?_
        rotate_left 3
        focus (intro wS hSw; (try dsimp only at hSw); go_simp; first | done | (constructor <;> with_reducible rfl) | with_reducible rfl)
        focus (intro wS hSw; (try dsimp only at hSw); refine (l3ReadZ s _ _ _ (by decide) (by decide) (by decide) (by omega) hs).mono ?_; rintro eC wC ⟨rfl, rfl⟩; (constructor <;> with_reducible rfl))
        (try simp only [Act.put, List.getElem_toArray, List.getElem_cons_zero, List.getElem_cons_succ, List.setIfInBounds_toArray, List.set_cons_zero, List.set_cons_succ])
        refine wpAnyH_take (i := 6) (v := ?_) rfl (by kernel_rfl) (by kernel_rfl) (by kernel_rfl) (fun _ _ _ h => h) (Or.inl ⟨by rfl, ?_⟩) (by assumption) ?_
        rotate_left 1
        focus (intro wS hSw; (try dsimp only at hSw); go_simp; first | done | (constructor <;> with_reducible rfl) | with_reducible rfl)
        (try simp only [Act.put, List.getElem_toArray, List.getElem_cons_zero, List.getElem_cons_succ, List.setIfInBounds_toArray, List.set_cons_zero, List.set_cons_succ])
        refine Draw.take_call (i := 7) (v := ?_) rfl (by kernel_rfl) (by kernel_rfl) (by kernel_rfl) (fun _ _ _ h => h) (by assumption) (by rfl) ?_ ?_ ?_ ?_ ?_
        rotate_left 3
        focus (intro wS hSw; (try dsimp only at hSw); go_simp; first | done | (constructor <;> with_reducible rfl) | with_reducible rfl)
        focus (intro wS hSw; (try dsimp only at hSw); refine (l3ReadZ s _ _ _ (by decide) (by decide) (by decide) (by omega) hs).mono ?_; rintro eC wC ⟨rfl, rfl⟩; (constructor <;> with_reducible rfl))
        (try simp only [Act.put, List.getElem_toArray, List.getElem_cons_zero, List.getElem_cons_succ, List.setIfInBounds_toArray, List.set_cons_zero, List.set_cons_succ])
        refine wpAnyH_take (i := 8) (v := ?_) rfl (by kernel_rfl) (by kernel_rfl) (by kernel_rfl) (fun _ _ _ h => h) (Or.inl ⟨by rfl, ?_⟩) (by assumption) ?_
        rotate_left 1
        focus (intro wS hSw; (try dsimp only at hSw); go_simp; first | done | (constructor <;> with_reducible rfl) | with_reducible rfl)
        (try simp only [Act.put, List.getElem_toArray, List.getElem_cons_zero, List.getElem_cons_succ, List.setIfInBounds_toArray, List.set_cons_zero, List.set_cons_succ])
        refine wpAnyH_take (i := 9) (v := ?_) rfl (by kernel_rfl) (by kernel_rfl) (by kernel_rfl) (fun _ _ _ h => h) (Or.inl ⟨by rfl, ?_⟩) (by assumption) ?_
        rotate_left 1
        focus (intro wS hSw; (try dsimp only at hSw); go_simp; first | done | (constructor <;> with_reducible rfl) | with_reducible rfl)
        (try simp only [Act.put, List.getElem_toArray, List.getElem_cons_zero, List.getElem_cons_succ, List.setIfInBounds_toArray, List.set_cons_zero, List.set_cons_succ])
        refine wpAnyH_take (i := 10) (v := ?_) rfl (by kernel_rfl) (by kernel_rfl) (by kernel_rfl) (fun _ _ _ h => h) (Or.inl ⟨by rfl, ?_⟩) (by assumption) ?_
        rotate_left 1
        focus (intro wS hSw; (try dsimp only at hSw); go_simp; first | done | (constructor <;> with_reducible rfl) | with_reducible rfl)
        (try simp only [Act.put, List.getElem_toArray, List.getElem_cons_zero, List.getElem_cons_succ, List.setIfInBounds_toArray, List.set_cons_zero, List.set_cons_succ])
        refine wpAnyH_take (i := 11) (v := ?_) rfl (by kernel_rfl) (by kernel_rfl) (by kernel_rfl) (fun _ _ _ h => h) (Or.inl ⟨by rfl, ?_⟩) (by assumption) ?_
        rotate_left 1
        focus (intro wS hSw; (try dsimp only at hSw); go_simp; first | done | (constructor <;> with_reducible rfl) | with_reducible rfl)
        (try simp only [Act.put, List.getElem_toArray, List.getElem_cons_zero, List.getElem_cons_succ, List.setIfInBounds_toArray, List.set_cons_zero, List.set_cons_succ])
        refine wpAnyH_take (i := 12) (v := ?_) rfl (by kernel_rfl) (by kernel_rfl) (by kernel_rfl) (fun _ _ _ h => h) (Or.inl ⟨by rfl, ?_⟩) (by assumption) ?_
        rotate_left 1
        focus (intro wS hSw; (try dsimp only at hSw); go_simp; first | done | (constructor <;> with_reducible rfl) | with_reducible rfl)
        (try simp only [Act.put, List.getElem_toArray, List.getElem_cons_zero, List.getElem_cons_succ, List.setIfInBounds_toArray, List.set_cons_zero, List.set_cons_succ])
        refine wpAnyH_take (i := 13) (v := ?_) rfl (by kernel_rfl) (by kernel_rfl) (by kernel_rfl) (fun _ _ _ h => h) (Or.inl ⟨by rfl, ?_⟩) (by assumption) ?_
        rotate_left 1
        focus (intro wS hSw; (try dsimp only at hSw); go_simp; first | done | (constructor <;> with_reducible rfl) | with_reducible rfl)
        (try simp only [Act.put, List.getElem_toArray, List.getElem_cons_zero, List.getElem_cons_succ, List.setIfInBounds_toArray, List.set_cons_zero, List.set_cons_succ])
        refine wpAnyH_take (i := 14) (v := ?_) rfl (by kernel_rfl) (by kernel_rfl) (by kernel_rfl) (fun _ _ _ h => h) (Or.inl ⟨by rfl, ?_⟩) (by assumption) ?_
        rotate_left 1
        focus (intro wS hSw; (try dsimp only at hSw); go_simp; first | done | (constructor <;> with_reducible rfl) | with_reducible rfl)
        (try simp only [Act.put, List.getElem_toArray, List.getElem_cons_zero, List.getElem_cons_succ, List.setIfInBounds_toArray, List.set_cons_zero, List.set_cons_succ])
        refine wpAnyH_take (i := 15) (v := ?_) rfl (by kernel_rfl) (by kernel_rfl) (by kernel_rfl) (fun _ _ _ h => h) (Or.inl ⟨by rfl, ?_⟩) (by assumption) ?_
        rotate_left 1
        focus (intro wS hSw; (try dsimp only at hSw); go_simp; first | done | (constructor <;> with_reducible rfl) | with_reducible rfl)
        (try simp only [Act.put, List.getElem_toArray, List.getElem_cons_zero, List.getElem_cons_succ, List.setIfInBounds_toArray, List.set_cons_zero, List.set_cons_succ])
        refine wpAnyH_ready (rs := [16]) (by kernel_rfl) (by simp) ?_
        refine AllReadyH.cons rfl (fun K hK => ?_) AllReadyH.nil
        go_simp
        refine hK.out _ _ ?_ (fun hHeld => ?_)
        focus ((try dsimp only) <;> (trivial))
        clear hK K
        (try simp only [Act.put, List.getElem_toArray, List.getElem_cons_zero, List.getElem_cons_succ, List.setIfInBounds_toArray, List.set_cons_zero, List.set_cons_succ])
        refine wpAnyH_ready (rs := [17]) (by kernel_rfl) (by simp) ?_
        refine AllReadyH.cons rfl (fun K hK => ?_) AllReadyH.nil
        go_simp
        refine hK.out _ _ ?_ (fun hHeld => ?_)
        focus ((try dsimp only) <;> (trivial))
        clear hK K
        (try simp only [Act.put, List.getElem_toArray, List.getElem_cons_zero, List.getElem_cons_succ, List.setIfInBounds_toArray, List.set_cons_zero, List.set_cons_succ])
        refine wpAnyH_done (by kernel_rfl) ?_ _
        go_wp2_with fail
        go_meet
        exact ⟨rfl, rfl⟩
      case rest =>
        obtain ⟨rfl, rfl⟩ := hcut
        rw [rB_eq (by omega), rE_eq (by omega)]
        have hB : Below w.heap.size w ((w.alloc (.cells segNo 25)).alloc (.cells (segYes s.data.toList) 25)).drew := (((Below.refl _ _).alloc (Nat.le_refl _) _).alloc (by simp) _).drew
        have hbz : (⟨(rB s.data.toList).toArray⟩ : ByteArray).size ≤ 1048576 := by show (rB s.data.toList).length ≤ _; unfold rB; simp; omega
        have hY : Hid (segYes s.data.toList = #[.int .i64 (rF s.data.toList), .int .i64 (rT s.data.toList), .string ⟨(rB s.data.toList).toArray⟩, .bool (rE s.data.toList), .int .i64 (rA s.data.toList), .int .i64 (rR s.data.toList)]) := rfl
        unfold segYes at hB
        unfold segNo at *
        have HV : Hid (∀ h : rdL s.data.toList = true, segV s.data.toList = segYes s.data.toList) := fun h => seg_yes h
        have HV0 : Hid (∀ h : rdL s.data.toList = false, segV s.data.toList = segNo) := fun h => seg_no h
        have hlist : Hid (s.toList = s.data.toList) := ByteArray.toList_eq s
        generalize rB s.data.toList = B at *
        generalize rF s.data.toList = F at *
        generalize rT s.data.toList = T at *
        generalize rA s.data.toList = A at *
        generalize rR s.data.toList = R at *
        generalize rE s.data.toList = E at *
        go_wp2_with fail
        refine (specShow F T ⟨B.toArray⟩ E A R _ hbz).mono ?_
        rintro x w1 ⟨rfl, hB1⟩
        obtain ⟨g0, g1, g2⟩ := agg2 hB1
        have hB01 := hB.trans (hB1.mono (by simp; omega))
        clear hB hB1
        by_cases hq : showL F T B E A R = s.data.toList
        · have hqb : (showL F T B E A R == s.toList) = true := by rw [hlist.out, hq]; simp
          have HY : Hid (rdL s.data.toList = true) := by show _ = _; rw [HN.out, decide_eq_true hq]
          clear hq
          go_wp2_with fail
          exact bodyPost_ret (v := .tuple #[.agg #[.int .i64 F, .int .i64 T, .string ⟨B.toArray⟩, .bool E, .int .i64 A, .int .i64 R], .bool true]) (by rw [results_cell_tmp rfl]; go_simp) rfl ⟨by rw [HV.out HY.out, HY.out, hY.out], (((((hB01.setCell (Nat.le_refl _) _).setCell (Nat.le_refl _) _).setCell (Nat.le_refl _) _).setCell (Nat.le_refl _) _).setCell (Nat.le_refl _) _).setCell (Nat.le_refl _) _⟩
        · have hqb : (showL F T B E A R == s.toList) = false := by rw [hlist.out]; simpa using hq
          have HY : Hid (rdL s.data.toList = false) := by show _ = _; rw [HN.out, decide_eq_false hq]
          clear hq
          go_wp2_with fail
          exact bodyPost_ret (v := .tuple #[.agg segNo, .bool false]) (by rw [results_cell_tmp rfl]; go_simp; rfl) rfl ⟨by rw [HV0.out HY.out, HY.out], (((((hB01.setCell (Nat.le_refl _) _).setCell (Nat.le_refl _) _).setCell (Nat.le_refl _) _).setCell (Nat.le_refl _) _).setCell (Nat.le_refl _) _).setCell (Nat.le_refl _) _⟩

end Go.Proofs.Ytecgfnpniklhhaa.Seg

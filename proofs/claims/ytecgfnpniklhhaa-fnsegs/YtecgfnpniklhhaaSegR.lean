/- Contracts of the program's numberIn, letterIn and ReadSeg; texts of at most 2^20 bytes. -/
import Derived.Test.YtecgfnpniklhhaaSegQ
import Derived.Test.YtecgfnpniklhhaaSegD
import Derived.Test.YtecgfnpniklhhaaTake
namespace Go.Proofs.Ytecgfnpniklhhaa.Seg
open Go.RowKit
set_option linter.unusedVariables false
set_option linter.unusedSimpArgs false

/-- The bytes l lie from cell o of block g on. -/
def Part (w : World) (g o : Nat) (l : List UInt8) : Prop := ∀ j (hj : j < l.length), w.cell? ⟨g, o + j, none⟩ = some (.int .u8 (l[j].toNat : Int))
theorem part_row {w : World} {g : Nat} {l : List UInt8} (h : Draw.Row w g l) (o n : Nat) : Part w g o ((l.drop o).take n) := fun j hj => by
  have hj' : o + j < l.length := by simp at hj; omega
  rw [(h (o + j) hj').1]
  simp
theorem part_text {w : World} {g o : Nat} {l : List UInt8} (h : Part w g o l) (n cap : Nat) (hn : n = l.length) : (convert 22 9 (.slice (some ⟨g, o, none⟩) n cap)).run Try.prog w = .ok (.string ⟨l.toArray⟩) w := by
  subst hn
  refine run_convert_bytes_back w 22 9 5 ⟨g, o, none⟩ cap l Try.underlying22 Try.underlying5 Try.underlying9 fun j hj => ?_
  have e : (⟨g, o, none⟩ : Addr).add j = ⟨g, o + j, none⟩ := by unfold Addr.add; split <;> simp_all
  rw [e]
  exact h j hj
theorem Part.same {w w' : World} {g o : Nat} {l : List UInt8} (h : Part w g o l) (e : ∀ i, w'.cell? ⟨g, i, none⟩ = w.cell? ⟨g, i, none⟩) : Part w' g o l := fun j hj => (e _).trans (h j hj)

set_option maxHeartbeats 1000000 in
theorem numberIn (g o n cap : Nat) (l : List UInt8) (w : World) (hn : n = l.length) (hl : l.length ≤ 4) (h : Part w g o l) :
    Calls Try.prog 34 #[.slice (some ⟨g, o, none⟩) n cap] w fun e w' => e = .returned (.int .i64 (readB l)) ∧ w = w' := by
  subst hn
  go_enter Try.func34, Try.ntmps34
  go_wp2_with fail
  go_loop [3, 8] (fun nv iv => ∃ j : Nat, j ≤ l.length ∧ nv = .int .i64 (readB (l.take j)) ∧ iv = .int .i64 (j : Int)) (fun _ iv => l.length - (intOf iv).toNat)
  case atStart => exact ⟨0, Nat.zero_le _, rfl, rfl⟩
  case round =>
    obtain ⟨j, hj, rfl, rfl⟩ := hrel
    by_cases hlt : j < l.length
    · have c0 := h j hlt
      have hsm := read_small (l := l.take j) (by simp; omega)
      have hb := Sum.byte_bd l[j]
      have e1 := shl_or hsm.1 hsm.2 hb.1 hb.2
      have e2 : IntKind.i64.wrap (readB (l.take j) * 256) = readB (l.take j) * 256 := by rw [IntKind.wrap_i64]; omega
      have e3 : IntKind.i64.wrap (l[j].toNat : Int) = (l[j].toNat : Int) := by rw [IntKind.wrap_i64]; omega
      have HT : Hid (readB (l.take (j + 1)) = 256 * readB (l.take j) + (l[j].toNat : Int)) := by rw [List.take_succ_eq_append_getElem hlt]; exact readB_snoc _ _
      have hi0 : (0 : Int) ≤ (j : Int) := by omega
      have hi1 : (j : Int) < (l.length : Int) := by omega
      clear h
      generalize readB (l.take j) = X at *
      generalize l[j] = Y at *
      go_wp2_with fail
      go_round
      case rel => exact ⟨j + 1, by omega, by rw [HT.out], by simp⟩
      case measure => simp [intOf]; omega
    · have : j = l.length := by omega
      subst this
      clear h
      go_wp2_with fail
      go_ret
      exact ⟨rfl, rfl⟩

theorem byteRow_cap (s : ByteArray) (w : World) : ∃ (cap : Nat) (w2 : World), s.size ≤ cap ∧ (convert 9 22 (.string s)).run Try.prog w = .ok (.slice (some ⟨w.heap.size, 0, none⟩) s.size cap) w2 ∧ Draw.Row w2 w.heap.size s.data.toList ∧ Below w.heap.size w w2 ∧ w2.heap.size = w.heap.size + 1 := by
  obtain ⟨cap, w2, hconv, hrow, hB, hz⟩ := Draw.byteRow_text s w
  refine ⟨cap, w2, ?_, hconv, hrow, hB, hz⟩
  have h := hconv.symm.trans (run_bytes_of_string w 9 22 5 s Try.underlying9 Try.underlying22 Try.underlying5)
  simp at h
  rw [h.1]
  exact grownCap_ge _ _ _ _

theorem numberAt (g o n cap : Nat) (l : List UInt8) (w : World) (h : Draw.Row w g l) (hn : n ≤ 4) (ho : o + n ≤ l.length) :
    Calls Try.prog 34 #[.slice (some ⟨g, o, none⟩) n cap] w fun e w' => e = .returned (.int .i64 (readB ((l.drop o).take n))) ∧ w = w' :=
  numberIn g o n cap _ w (by simp; omega) (by simp; omega) (part_row h o n)

set_option maxHeartbeats 4000000 in
theorem letterIn (g n cap : Nat) (l : List UInt8) (w : World) (hn : n = l.length) (hcap : n ≤ cap) (h18 : 18 ≤ l.length) (h58 : l.length ≤ 58) (h : Draw.Row w g l) :
    Calls Try.prog 20 #[.slice (some ⟨g, 0, none⟩) n cap] w fun e w' => e = .returned (.agg #[.int .i64 (rF l), .int .i64 (rT l), .int .i64 (rA l), .int .i64 (rR l), .bool (((l.getD 14 0).toNat : Int) != 0), .string ⟨(rB l).toArray⟩]) ∧ Below w.heap.size w w' := by
  have hg : g < w.heap.size := h.lt (by omega)
  have i4 : (4 : Int) ≤ (cap : Int) := by omega
  have i8 : (8 : Int) ≤ (cap : Int) := by omega
  have i12 : (12 : Int) ≤ (cap : Int) := by omega
  have i14 : (14 : Int) ≤ (cap : Int) := by omega
  have j14 : (14 : Int) < (n : Int) := by omega
  have k4 : ¬ cap = 4 := by omega
  have k8 : ¬ cap = 8 := by omega
  have k12 : ¬ cap = 12 := by omega
  have hr : ∀ o, Draw.Row (w.alloc o).drew g l := fun o => h.below (((Below.refl w.heap.size w).alloc (Nat.le_refl _) o).drew) hg
  have c14 : (w.alloc (.cells #[.int .i64 0, .int .i64 0, .int .i64 0, .int .i64 0, .bool false, .string ⟨#[]⟩] 35)).drew.cell? ⟨g, 14, none⟩ = some (.int .u8 ((l[14]'(by omega)).toNat : Int)) := (hr _ 14 (by omega)).1
  have c14b : ∀ o o', ((w.alloc o).alloc o').drew.cell? ⟨g, 14, none⟩ = some (.int .u8 ((l[14]'(by omega)).toNat : Int)) := fun o o' => ((h.below ((((Below.refl w.heap.size w).alloc (Nat.le_refl _) o).alloc (by simp) o').drew) hg) 14 (by omega)).1
  have hr2 : ∀ o o', Draw.Row ((w.alloc o).alloc o').drew g l := fun o o' => h.below ((((Below.refl w.heap.size w).alloc (Nat.le_refl _) o).alloc (by simp) o').drew) hg
  have HN : Hid (n = l.length) := hn
  have h4 : 4 ≤ l.length := by omega
  have h8 : 8 ≤ l.length := by omega
  have h12 : 12 ≤ l.length := by omega
  have h14 : 14 ≤ l.length := by omega
  have HG : Hid ((l[14]'(by omega)) = l.getD 14 0) := by show _ = _; rw [List.getD_eq_getElem?_getD, List.getElem?_eq_getElem (by omega)]; rfl
  generalize l[14]'(by omega) = X at *
  clear hn
  go_enter Try.func20, Try.ntmps20
  go_wp2_with fail
  refine wp_region_held_drew (S := (fun w' => Draw.Row w' g l ∧ w'.cell? ⟨g, 14, none⟩ = some (.int .u8 (X.toNat : Int)))) (by kernel_rfl) ?_ (fun hHeld => ?_)
  focus ((try dsimp only) <;> (first | exact ⟨hr _, c14⟩ | exact ⟨hr2 _ _, c14b _ _⟩))
  refine wpAnyH_take (i := 0) (v := ?_) rfl (by kernel_rfl) (by kernel_rfl) (by kernel_rfl) (fun _ _ _ h => h) (Or.inl ⟨by rfl, ?_⟩) (by assumption) ?_
  rotate_left 1
  focus (intro wS hSw; (try dsimp only at hSw); go_simp; first | done | (constructor <;> with_reducible rfl) | with_reducible rfl)
  (try simp only [Act.put, List.getElem_toArray, List.getElem_cons_zero, List.getElem_cons_succ, List.setIfInBounds_toArray, List.set_cons_zero, List.set_cons_succ])
  refine wpAnyH_take (i := 1) (v := ?_) rfl (by kernel_rfl) (by kernel_rfl) (by kernel_rfl) (fun _ _ _ h => h) (Or.inl ⟨by rfl, ?_⟩) (by assumption) ?_
  rotate_left 1
  focus (intro wS hSw; (try dsimp only at hSw); go_simp; first | done | (constructor <;> with_reducible rfl) | with_reducible rfl)
  (try simp only [Act.put, List.getElem_toArray, List.getElem_cons_zero, List.getElem_cons_succ, List.setIfInBounds_toArray, List.set_cons_zero, List.set_cons_succ])
  refine Draw.take_call (i := 2) (v := ?_) rfl (by kernel_rfl) (by kernel_rfl) (by kernel_rfl) (fun _ _ _ h => h) (by assumption) (by rfl) ?_ ?_ ?_ ?_ ?_
  rotate_left 3
  focus (intro wS hSw; (try dsimp only at hSw); go_simp; first | done | (constructor <;> with_reducible rfl) | with_reducible rfl)
  focus (intro wS hSw; (try dsimp only at hSw); refine (numberAt g _ _ _ l _ hSw.1 (by omega) (by omega)).mono ?_; rintro eC wC ⟨rfl, rfl⟩; (constructor <;> with_reducible rfl))
  (try simp only [Act.put, List.getElem_toArray, List.getElem_cons_zero, List.getElem_cons_succ, List.setIfInBounds_toArray, List.set_cons_zero, List.set_cons_succ])
  refine wpAnyH_take (i := 3) (v := ?_) rfl (by kernel_rfl) (by kernel_rfl) (by kernel_rfl) (fun _ _ _ h => h) (Or.inl ⟨by rfl, ?_⟩) (by assumption) ?_
  rotate_left 1
  focus (intro wS hSw; (try dsimp only at hSw); go_simp; first | done | (constructor <;> with_reducible rfl) | with_reducible rfl)
  (try simp only [Act.put, List.getElem_toArray, List.getElem_cons_zero, List.getElem_cons_succ, List.setIfInBounds_toArray, List.set_cons_zero, List.set_cons_succ])
  refine wpAnyH_take (i := 4) (v := ?_) rfl (by kernel_rfl) (by kernel_rfl) (by kernel_rfl) (fun _ _ _ h => h) (Or.inl ⟨by rfl, ?_⟩) (by assumption) ?_
  rotate_left 1
  focus (intro wS hSw; (try dsimp only at hSw); go_simp; first | done | (constructor <;> with_reducible rfl) | with_reducible rfl)
  (try simp only [Act.put, List.getElem_toArray, List.getElem_cons_zero, List.getElem_cons_succ, List.setIfInBounds_toArray, List.set_cons_zero, List.set_cons_succ])
  refine Draw.take_call (i := 5) (v := ?_) rfl (by kernel_rfl) (by kernel_rfl) (by kernel_rfl) (fun _ _ _ h => h) (by assumption) (by rfl) ?_ ?_ ?_ ?_ ?_
  rotate_left 3
  focus (intro wS hSw; (try dsimp only at hSw); go_simp; first | done | (constructor <;> with_reducible rfl) | with_reducible rfl)
  focus (intro wS hSw; (try dsimp only at hSw); refine (numberAt g _ _ _ l _ hSw.1 (by omega) (by omega)).mono ?_; rintro eC wC ⟨rfl, rfl⟩; (constructor <;> with_reducible rfl))
  (try simp only [Act.put, List.getElem_toArray, List.getElem_cons_zero, List.getElem_cons_succ, List.setIfInBounds_toArray, List.set_cons_zero, List.set_cons_succ])
  refine wpAnyH_take (i := 6) (v := ?_) rfl (by kernel_rfl) (by kernel_rfl) (by kernel_rfl) (fun _ _ _ h => h) (Or.inl ⟨by rfl, ?_⟩) (by assumption) ?_
  rotate_left 1
  focus (intro wS hSw; (try dsimp only at hSw); go_simp; first | done | (constructor <;> with_reducible rfl) | with_reducible rfl)
  (try simp only [Act.put, List.getElem_toArray, List.getElem_cons_zero, List.getElem_cons_succ, List.setIfInBounds_toArray, List.set_cons_zero, List.set_cons_succ])
  refine wpAnyH_take (i := 7) (v := ?_) rfl (by kernel_rfl) (by kernel_rfl) (by kernel_rfl) (fun _ _ _ h => h) (Or.inl ⟨by rfl, ?_⟩) (by assumption) ?_
  rotate_left 1
  focus (intro wS hSw; (try dsimp only at hSw); go_simp; first | done | (constructor <;> with_reducible rfl) | with_reducible rfl)
  (try simp only [Act.put, List.getElem_toArray, List.getElem_cons_zero, List.getElem_cons_succ, List.setIfInBounds_toArray, List.set_cons_zero, List.set_cons_succ])
  refine Draw.take_call (i := 8) (v := ?_) rfl (by kernel_rfl) (by kernel_rfl) (by kernel_rfl) (fun _ _ _ h => h) (by assumption) (by rfl) ?_ ?_ ?_ ?_ ?_
  rotate_left 3
  focus (intro wS hSw; (try dsimp only at hSw); go_simp; first | done | (constructor <;> with_reducible rfl) | with_reducible rfl)
  focus (intro wS hSw; (try dsimp only at hSw); refine (numberAt g _ _ _ l _ hSw.1 (by omega) (by omega)).mono ?_; rintro eC wC ⟨rfl, rfl⟩; (constructor <;> with_reducible rfl))
  (try simp only [Act.put, List.getElem_toArray, List.getElem_cons_zero, List.getElem_cons_succ, List.setIfInBounds_toArray, List.set_cons_zero, List.set_cons_succ])
  refine wpAnyH_take (i := 9) (v := ?_) rfl (by kernel_rfl) (by kernel_rfl) (by kernel_rfl) (fun _ _ _ h => h) (Or.inl ⟨by rfl, ?_⟩) (by assumption) ?_
  rotate_left 1
  focus (intro wS hSw; (try dsimp only at hSw); go_simp; first | done | (constructor <;> with_reducible rfl) | with_reducible rfl)
  (try simp only [Act.put, List.getElem_toArray, List.getElem_cons_zero, List.getElem_cons_succ, List.setIfInBounds_toArray, List.set_cons_zero, List.set_cons_succ])
  refine wpAnyH_take (i := 10) (v := ?_) rfl (by kernel_rfl) (by kernel_rfl) (by kernel_rfl) (fun _ _ _ h => h) (Or.inl ⟨by rfl, ?_⟩) (by assumption) ?_
  rotate_left 1
  focus (intro wS hSw; (try dsimp only at hSw); go_simp; first | done | (constructor <;> with_reducible rfl) | with_reducible rfl)
  (try simp only [Act.put, List.getElem_toArray, List.getElem_cons_zero, List.getElem_cons_succ, List.setIfInBounds_toArray, List.set_cons_zero, List.set_cons_succ])
  refine Draw.take_call (i := 11) (v := ?_) rfl (by kernel_rfl) (by kernel_rfl) (by kernel_rfl) (fun _ _ _ h => h) (by assumption) (by rfl) ?_ ?_ ?_ ?_ ?_
  rotate_left 3
  focus (intro wS hSw; (try dsimp only at hSw); go_simp; first | done | (constructor <;> with_reducible rfl) | with_reducible rfl)
  focus (intro wS hSw; (try dsimp only at hSw); refine (numberAt g _ _ _ l _ hSw.1 (by omega) (by omega)).mono ?_; rintro eC wC ⟨rfl, rfl⟩; (constructor <;> with_reducible rfl))
  (try simp only [Act.put, List.getElem_toArray, List.getElem_cons_zero, List.getElem_cons_succ, List.setIfInBounds_toArray, List.set_cons_zero, List.set_cons_succ])
  refine wpAnyH_take (i := 12) (v := ?_) rfl (by kernel_rfl) (by kernel_rfl) (by kernel_rfl) (fun _ _ _ h => h) (Or.inl ⟨by rfl, ?_⟩) (by assumption) ?_
  rotate_left 1
  focus (intro wS hSw; (try dsimp only at hSw); go_simp; first | done | (constructor <;> with_reducible rfl) | with_reducible rfl)
  (try simp only [Act.put, List.getElem_toArray, List.getElem_cons_zero, List.getElem_cons_succ, List.setIfInBounds_toArray, List.set_cons_zero, List.set_cons_succ])
  refine wpAnyH_take (i := 13) (v := ?_) rfl (by kernel_rfl) (by kernel_rfl) (by kernel_rfl) (fun _ _ _ h => h) (Or.inl ⟨by rfl, ?_⟩) (by assumption) ?_
  rotate_left 1
  focus (intro wS hSw; (try dsimp only at hSw); go_simp; first | done | (constructor <;> with_reducible rfl) | with_reducible rfl)
  (try simp only [Act.put, List.getElem_toArray, List.getElem_cons_zero, List.getElem_cons_succ, List.setIfInBounds_toArray, List.set_cons_zero, List.set_cons_succ])
  refine wpAnyH_take (i := 14) (v := ?_) rfl (by kernel_rfl) (by kernel_rfl) (by kernel_rfl) (fun _ _ _ h => h) (Or.inl ⟨by rfl, ?_⟩) (by assumption) ?_
  rotate_left 1
  focus (intro wS hSw; (try dsimp only at hSw); go_simp; first | done | (constructor <;> with_reducible rfl) | with_reducible rfl)
  (try simp only [Act.put, List.getElem_toArray, List.getElem_cons_zero, List.getElem_cons_succ, List.setIfInBounds_toArray, List.set_cons_zero, List.set_cons_succ])
  refine wpAnyH_take (i := 15) (v := ?_) rfl (by kernel_rfl) (by kernel_rfl) (by kernel_rfl) (fun _ _ _ h => h) (Or.inl ⟨by rfl, ?_⟩) (by assumption) ?_
  rotate_left 1
  focus (intro wS hSw; (try dsimp only at hSw); go_simp; first | done | (constructor <;> with_reducible rfl) | with_reducible rfl)
  (try simp only [Act.put, List.getElem_toArray, List.getElem_cons_zero, List.getElem_cons_succ, List.setIfInBounds_toArray, List.set_cons_zero, List.set_cons_succ])
  refine wpAnyH_take (i := 16) (v := ?_) rfl (by kernel_rfl) (by kernel_rfl) (by kernel_rfl) (fun _ _ _ h => h) (Or.inl ⟨by rfl, ?_⟩) (by assumption) ?_
  rotate_left 1
  focus (intro wS hSw; (try dsimp only at hSw); go_simp; first | done | (constructor <;> with_reducible rfl) | with_reducible rfl)
  (try simp only [Act.put, List.getElem_toArray, List.getElem_cons_zero, List.getElem_cons_succ, List.setIfInBounds_toArray, List.set_cons_zero, List.set_cons_succ])
  refine wpAnyH_ready (rs := [17]) (by kernel_rfl) (by simp) ?_
  refine AllReadyH.cons rfl (fun K hK => ?_) AllReadyH.nil
  go_simp
  refine hK.out _ _ ?_ (fun hHeld => ?_)
  focus ((try dsimp only) <;> (first | exact ⟨hr _, c14⟩ | exact ⟨hr2 _ _, c14b _ _⟩))
  clear hK K
  (try simp only [Act.put, List.getElem_toArray, List.getElem_cons_zero, List.getElem_cons_succ, List.setIfInBounds_toArray, List.set_cons_zero, List.set_cons_succ])
  refine wpAnyH_ready (rs := [18]) (by kernel_rfl) (by simp) ?_
  refine AllReadyH.cons rfl (fun K hK => ?_) AllReadyH.nil
  go_simp
  refine hK.out _ _ ?_ (fun hHeld => ?_)
  focus ((try dsimp only) <;> (first | exact ⟨hr _, c14⟩ | exact ⟨hr2 _ _, c14b _ _⟩))
  clear hK K
  (try simp only [Act.put, List.getElem_toArray, List.getElem_cons_zero, List.getElem_cons_succ, List.setIfInBounds_toArray, List.set_cons_zero, List.set_cons_succ])
  refine wpAnyH_done (by kernel_rfl) ?_ _
  have hj0 : (16 : Int) ≤ (n : Int) - 2 := by have := HN.out; omega
  have hj1 : (n : Int) - 2 ≤ (cap : Int) := by omega
  have k16 : ¬ cap = 16 := by have := HN.out; omega
  have e0 : IntKind.i64.wrap ((n : Int) - 2) = (n : Int) - 2 := by have := HN.out; rw [IntKind.wrap_i64]; omega
  generalize rF0 : readB (List.take 4 l) = F
  generalize rT0 : readB (List.take 4 (List.drop 4 l)) = T
  generalize rA0 : readB (List.take 4 (List.drop 8 l)) = A
  generalize rR0 : readB (List.take 2 (List.drop 12 l)) = R
  have hconv : ∀ w', Below w.heap.size w w' → (convert 22 9 (.slice (some ⟨g, 16, none⟩) (((n : Int) - 2).toNat - 16) (cap - 16))).run Try.prog w' = .ok (.string ⟨(rB l).toArray⟩) w' := fun w' hB => part_text (part_row (h.below hB hg) 16 (l.length - 2 - 16)) _ _ (by have := HN.out; simp; omega)
  clear hHeld c14 c14b
  go_wp2_with fail
  refine wp_region_held_drew (S := (fun w' => w'.cell? ⟨w.heap.size + 1, 0, none⟩ = some (.int .i64 F) ∧ w'.cell? ⟨w.heap.size + 1, 1, none⟩ = some (.int .i64 T) ∧ w'.cell? ⟨w.heap.size + 1, 2, none⟩ = some (.int .i64 A) ∧ w'.cell? ⟨w.heap.size + 1, 3, none⟩ = some (.int .i64 R) ∧ w'.cell? ⟨w.heap.size + 1, 4, none⟩ = some (.bool ((X.toNat : Int) != 0)) ∧ (convert 22 9 (.slice (some ⟨g, 16, none⟩) (((n : Int) - 2).toNat - 16) (cap - 16))).run Try.prog w' = .ok (.string ⟨(rB l).toArray⟩) w')) (by kernel_rfl) ?_ (fun hHeld => ?_)
  focus ((try dsimp only) <;> (first | exact ⟨by simp, by simp, by simp, by simp, by simp, hconv _ ((((Below.refl w.heap.size w).alloc (Nat.le_refl _) _).alloc (by simp) _).drew).drew⟩ | (trace_state; sorry)))
  refine wpAnyH_take (i := 0) (v := ?_) rfl (by kernel_rfl) (by kernel_rfl) (by kernel_rfl) (fun _ _ _ h => h) (Or.inl ⟨by rfl, ?_⟩) (by assumption) ?_
  rotate_left 1
  focus (intro wS hSw; (try dsimp only at hSw); go_simp; first | done | (constructor <;> with_reducible rfl) | with_reducible rfl)
  (try simp only [Act.put, List.getElem_toArray, List.getElem_cons_zero, List.getElem_cons_succ, List.setIfInBounds_toArray, List.set_cons_zero, List.set_cons_succ])
  refine wpAnyH_take (i := 1) (v := ?_) rfl (by kernel_rfl) (by kernel_rfl) (by kernel_rfl) (fun _ _ _ h => h) (Or.inl ⟨by rfl, ?_⟩) (by assumption) ?_
  rotate_left 1
  focus (intro wS hSw; (try dsimp only at hSw); go_simp; first | done | (constructor <;> with_reducible rfl) | with_reducible rfl)
  (try simp only [Act.put, List.getElem_toArray, List.getElem_cons_zero, List.getElem_cons_succ, List.setIfInBounds_toArray, List.set_cons_zero, List.set_cons_succ])
  refine wpAnyH_take (i := 2) (v := ?_) rfl (by kernel_rfl) (by kernel_rfl) (by kernel_rfl) (fun _ _ _ h => h) (Or.inl ⟨by rfl, ?_⟩) (by assumption) ?_
  rotate_left 1
  focus (intro wS hSw; (try dsimp only at hSw); go_simp; first | done | (constructor <;> with_reducible rfl) | with_reducible rfl)
  (try simp only [Act.put, List.getElem_toArray, List.getElem_cons_zero, List.getElem_cons_succ, List.setIfInBounds_toArray, List.set_cons_zero, List.set_cons_succ])
  refine wpAnyH_take (i := 3) (v := ?_) rfl (by kernel_rfl) (by kernel_rfl) (by kernel_rfl) (fun _ _ _ h => h) (Or.inl ⟨by rfl, ?_⟩) (by assumption) ?_
  rotate_left 1
  focus (intro wS hSw; (try dsimp only at hSw); go_simp; first | done | (constructor <;> with_reducible rfl) | with_reducible rfl)
  (try simp only [Act.put, List.getElem_toArray, List.getElem_cons_zero, List.getElem_cons_succ, List.setIfInBounds_toArray, List.set_cons_zero, List.set_cons_succ])
  refine wpAnyH_take (i := 4) (v := ?_) rfl (by kernel_rfl) (by kernel_rfl) (by kernel_rfl) (fun _ _ _ h => h) (Or.inl ⟨by rfl, ?_⟩) (by assumption) ?_
  rotate_left 1
  focus (intro wS hSw; (try dsimp only at hSw); go_simp; first | done | (constructor <;> with_reducible rfl) | with_reducible rfl)
  (try simp only [Act.put, List.getElem_toArray, List.getElem_cons_zero, List.getElem_cons_succ, List.setIfInBounds_toArray, List.set_cons_zero, List.set_cons_succ])
  refine wpAnyH_take (i := 5) (v := ?_) rfl (by kernel_rfl) (by kernel_rfl) (by kernel_rfl) (fun _ _ _ h => h) (Or.inl ⟨by rfl, ?_⟩) (by assumption) ?_
  rotate_left 1
  focus (intro wS hSw; (try dsimp only at hSw); go_simp; first | done | (constructor <;> with_reducible rfl) | with_reducible rfl)
  (try simp only [Act.put, List.getElem_toArray, List.getElem_cons_zero, List.getElem_cons_succ, List.setIfInBounds_toArray, List.set_cons_zero, List.set_cons_succ])
  refine wpAnyH_take (i := 6) (v := ?_) rfl (by kernel_rfl) (by kernel_rfl) (by kernel_rfl) (fun _ _ _ h => h) (Or.inl ⟨by rfl, ?_⟩) (by assumption) ?_
  rotate_left 1
  focus (intro wS hSw; (try dsimp only at hSw); go_simp; first | done | (constructor <;> with_reducible rfl) | with_reducible rfl)
  (try simp only [Act.put, List.getElem_toArray, List.getElem_cons_zero, List.getElem_cons_succ, List.setIfInBounds_toArray, List.set_cons_zero, List.set_cons_succ])
  refine wpAnyH_take (i := 7) (v := ?_) rfl (by kernel_rfl) (by kernel_rfl) (by kernel_rfl) (fun _ _ _ h => h) (Or.inl ⟨by rfl, ?_⟩) (by assumption) ?_
  rotate_left 1
  focus (intro wS hSw; (try dsimp only at hSw); go_simp; first | done | (constructor <;> with_reducible rfl) | with_reducible rfl)
  (try simp only [Act.put, List.getElem_toArray, List.getElem_cons_zero, List.getElem_cons_succ, List.setIfInBounds_toArray, List.set_cons_zero, List.set_cons_succ])
  refine wpAnyH_ready (rs := [8]) (by kernel_rfl) (by simp) ?_
  refine AllReadyH.cons rfl (fun K hK => ?_) AllReadyH.nil
  go_simp
  refine hK.out _ _ ?_ (fun hHeld => ?_)
  focus ((try dsimp only) <;> (first | exact ⟨by simp, by simp, by simp, by simp, by simp, hconv _ ((((Below.refl w.heap.size w).alloc (Nat.le_refl _) _).alloc (by simp) _).drew).drew⟩ | (trace_state; sorry)))
  clear hK K
  (try simp only [Act.put, List.getElem_toArray, List.getElem_cons_zero, List.getElem_cons_succ, List.setIfInBounds_toArray, List.set_cons_zero, List.set_cons_succ])
  refine wpAnyH_done (by kernel_rfl) ?_ _
  clear hconv h hr hr2
  go_wp2_with fail
  exact bodyPost_ret (v := .agg #[.int .i64 F, .int .i64 T, .int .i64 A, .int .i64 R, .bool ((X.toNat : Int) != 0), .string ⟨(rB l).toArray⟩]) (by rw [Draw.results_cell1 rfl]; go_simp) rfl ⟨by rw [← rF0, ← rT0, ← rA0, ← rR0, ← HG.out]; rfl, (((((Below.refl w.heap.size w).alloc (Nat.le_refl _) _).alloc (by simp) _).drew).drew)⟩

end Go.Proofs.Ytecgfnpniklhhaa.Seg

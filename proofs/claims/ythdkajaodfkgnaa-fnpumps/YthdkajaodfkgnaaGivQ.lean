/- Givers (chapter 6), the program's side: what a ring holds, read; keptBy. -/
import Derived.Test.YthdkajaodfkgnaaGivR
import Derived.Test.YthdkajaodfkgnaaTake
namespace Go.Proofs.Ythdkajaodfkgnaa.Giv
open Go.RowKit RowG
set_option linter.unusedVariables false
set_option linter.unusedSimpArgs false

theorem stand {p : Prop} (h : Hid p) : p := h.out
theorem lies_one (w : World) (x : UInt8) : byteE.Lies (w.alloc (.cells #[.int .u8 (x.toNat : Int)] 5)) (some ⟨w.heap.size, 0, none⟩) [x] := by
  have hv : Var 5 (w.alloc (.cells #[.int .u8 (x.toNat : Int)] 5)) w.heap.size [.int .u8 (x.toNat : Int)] := Var.new w _
  refine .inr ⟨w.heap.size, 0, rfl, fun j u hu => ?_⟩
  have hj : j = 0 := by
    have := (List.getElem?_eq_some_iff.1 hu).1
    simp [El.vals, byteE] at this
    exact this
  subst hj
  simp [El.vals, byteE] at hu
  subst hu
  exact hv.cell (i := 0) rfl

set_option maxRecDepth 10000 in
set_option maxHeartbeats 4000000 in
theorem between (r ks n : Nat) (f : Int) (C : List UInt8) (w : World) (R : Ring w r ks n f C) (hn1 : n ≤ 400) (hf : f ≤ 1000000000) (k m : Nat) (p q : Int) (hp : p = f + k) (hq : q = f + k + m) (hkm : k + m ≤ C.length) :
    Calls Try.prog 89 #[.pointer (some ⟨r, 0, none⟩), .int .i64 p, .int .i64 q] w fun x w' => ∃ (a : Option Addr) (c : Nat), x = .returned (.slice a m c) ∧ byteE.Own 5 w' w.heap.size a c ((C.drop k).take m) ∧ Below w.heap.size w w' := by
  subst hp hq
  have hle := R.le
  have f0 := R.f0
  go_enter Try.func89, Try.ntmps89
  go_wp2_with fail
  go_loopw [7, 8] (fun v pv wr => ∃ (i : Nat) (a : Option Addr) (c : Nat), i ≤ m ∧ v = .slice a i c ∧ pv = .int .i64 (f + k + i) ∧ byteE.Own 5 wr w.heap.size a c ((C.drop k).take i) ∧ Below w.heap.size w wr) (fun _ pv _ => (f + k + m - intOf pv).toNat)
  case atStart => exact ⟨0, none, 0, Nat.zero_le _, rfl, by simp, by simpa using El.Own.none _ _, Below.refl _ _⟩
  case round =>
    obtain ⟨i, a, c, hi, rfl, rfl, ho, hb⟩ := hrel
    by_cases hlt : i < m
    case pos =>
      have hki : k + i < C.length := by omega
      obtain ⟨x, hx⟩ : ∃ x, C[k + i] = x := ⟨_, rfl⟩
      have hxo : C[k + i]? = some x := by rw [List.getElem?_eq_getElem hki, hx]
      have hlen : ((C.drop k).take i).length = i := by simp; omega
      have htk : (C.drop k).take i ++ [x] = (C.drop k).take (i + 1) := by
        rw [List.take_add_one, List.getElem?_drop, hxo]; rfl
      have R2 := R.later hb
      have hS := seat r ks n f C wr R2 (by omega) hn1 (f + k + i) (by omega) (by omega)
      have hG := fun w' (R' : Ring w' r ks n f C) => R'.get hxo
      obtain ⟨z, hz⟩ : ∃ z : Int, f + k + i = z := ⟨_, rfl⟩
      have z0 : z < f + k + m := by omega
      have z1 : 0 ≤ z := by omega
      have z2 : z ≤ 2000000000 := by omega
      have hzz : f + ((k + i : Nat) : Int) = z := by omega
      rw [hzz] at hG
      rw [hz] at hS ⊢
      obtain ⟨j, hj⟩ : ∃ j : Nat, (z % (n : Int)).toNat = j := ⟨_, rfl⟩
      rw [hj] at hS hG
      have HZ : Hid _ := hz
      have HTK : Hid _ := htk
      have HLN : Hid _ := hlen
      clear hx hxo htk hlen hz hj hzz
      go_wp2_with fail
      refine hS.mono ?_
      rintro v w3 ⟨rfl, b3⟩
      have R3 := R2.later b3
      have c3 := hG _ R3
      have o3 := ho.later b3
      have B3 := hb.trans (b3.mono hb.size)
      have hB4 : w.heap.size ≤ (w3.alloc (.cells #[.int .u8 (x.toNat : Int)] 5)).heap.size := by have := B3.size; simp; omega
      have o4 := o3.alloc (.cells #[.int .u8 (x.toNat : Int)] 5)
      have l4 := lies_one w3 x
      have B4 : Below w.heap.size w (w3.alloc (.cells #[.int .u8 (x.toNat : Int)] 5)) := B3.alloc B3.size _
      have hla : ((C.drop k).take i).length + [x].length ≤ 4194304 := by rw [HLN.out]; simp; omega
      clear R2 R3 hS hG ho hb b3 o3 B3
      go_wp2_with (at_builtin; refine wpList_app typB (by decide) (by rfl) _ _ (by rfl) w.heap.size a c i ((C.drop k).take i) [x] HLN.out.symm (by rfl) o4 hB4 (some ⟨w3.heap.size, 0, none⟩) 1 1 rfl (by rfl) l4 (by simp) hla ?_; intro a' c' w5 o5 g5)
      have B5 : Below w.heap.size w w5 := grown_below B4 (Nat.le_refl _) (fun g e => by
        cases a with
        | none => simp [blk] at e
        | some y => simp [blk] at e; have := (o4.lt y rfl).1; omega) g5
      go_roundw
      case rel =>
        rw [HTK.out] at o5
        exact ⟨i + 1, a', c', hlt, by rfl, by rw [← HZ.out]; go_num, o5, B5⟩
      case measure => have := HZ.out; simp [intOf]; omega
    case neg =>
      have him : i = m := by omega
      subst him
      go_wp2_with fail
      go_ret
      exact ⟨a, c, rfl, ho, hb⟩

theorem Ring.drew {w : World} {r ks n : Nat} {f : Int} {C : List UInt8} (h : Ring w r ks n f C) : Ring w.drew r ks n f C := h.same rfl rfl

set_option maxRecDepth 10000 in
set_option maxHeartbeats 2000000 in
theorem allOf (r ks n : Nat) (f : Int) (C : List UInt8) (w : World) (R : Ring w r ks n f C) (hn1 : n ≤ 400) (hf : f ≤ 1000000000) :
    Calls Try.prog 81 #[.pointer (some ⟨r, 0, none⟩)] w fun x w' => ∃ (a : Option Addr) (c : Nat), x = .returned (.slice a C.length c) ∧ byteE.Own 5 w' w.heap.size a c C ∧ Below w.heap.size w w' := by
  have hmix := mix
  have e1 := R.var.cell (i := 1) rfl
  have e2 := R.var.cell (i := 2) rfl
  have hlt := R.var.lt
  have hI := between r ks n f C w.drew R.drew hn1 hf 0 C.length f (f + C.length) (by simp) (by simp) (by simp)
  rw [List.drop_zero, List.take_length] at hI
  go_enter Try.func81, Try.ntmps81
  go_wp2_with fail
  refine wp_region_held_drew (S := (fun w' => w'.cell? ⟨r, 1, none⟩ = some (.int .i64 f) ∧ w'.cell? ⟨r, 2, none⟩ = some (.int .i64 (f + C.length)))) (by kernel_rfl) ?_ (fun hHeld => ?_)
  focus ((try dsimp only) <;> (first | with_reducible exact hHeld | exact ⟨e1, e2⟩ | exact ⟨s1, s2⟩))
  refine wpAnyH_take (i := 0) (v := ?_) rfl (by kernel_rfl) (by kernel_rfl) (by kernel_rfl) (fun _ _ _ h => h) (Or.inl ⟨by rfl, ?_⟩) (by assumption) ?_
  rotate_left 1
  focus (intro wS hSw; (try dsimp only at hSw); go_simp; first | done | (constructor <;> with_reducible rfl) | with_reducible rfl)
  (try simp only [Act.put, List.getElem_toArray, List.getElem_cons_zero, List.getElem_cons_succ, List.setIfInBounds_toArray, List.set_cons_zero, List.set_cons_succ])
  refine wpAnyH_take (i := 1) (v := ?_) rfl (by kernel_rfl) (by kernel_rfl) (by kernel_rfl) (fun _ _ _ h => h) (Or.inl ⟨by rfl, ?_⟩) (by assumption) ?_
  rotate_left 1
  focus (intro wS hSw; (try dsimp only at hSw); go_simp; first | done | (constructor <;> with_reducible rfl) | with_reducible rfl)
  (try simp only [Act.put, List.getElem_toArray, List.getElem_cons_zero, List.getElem_cons_succ, List.setIfInBounds_toArray, List.set_cons_zero, List.set_cons_succ])
  refine wpAnyH_take (i := 2) (v := ?_) rfl (by kernel_rfl) (by kernel_rfl) (by kernel_rfl) (fun _ _ _ h => h) (Or.inl ⟨by rfl, ?_⟩) (by assumption) ?_
  rotate_left 1
  focus (intro wS hSw; (try dsimp only at hSw); go_simp; first | done | (constructor <;> with_reducible rfl) | with_reducible rfl)
  (try simp only [Act.put, List.getElem_toArray, List.getElem_cons_zero, List.getElem_cons_succ, List.setIfInBounds_toArray, List.set_cons_zero, List.set_cons_succ])
  refine wpAnyH_take (i := 3) (v := ?_) rfl (by kernel_rfl) (by kernel_rfl) (by kernel_rfl) (fun _ _ _ h => h) (Or.inl ⟨by rfl, ?_⟩) (by assumption) ?_
  rotate_left 1
  focus (intro wS hSw; (try dsimp only at hSw); go_simp; first | done | (constructor <;> with_reducible rfl) | with_reducible rfl)
  (try simp only [Act.put, List.getElem_toArray, List.getElem_cons_zero, List.getElem_cons_succ, List.setIfInBounds_toArray, List.set_cons_zero, List.set_cons_succ])
  refine wpAnyH_take (i := 4) (v := ?_) rfl (by kernel_rfl) (by kernel_rfl) (by kernel_rfl) (fun _ _ _ h => h) (Or.inl ⟨by rfl, ?_⟩) (by assumption) ?_
  rotate_left 1
  focus (intro wS hSw; (try dsimp only at hSw); go_simp; first | done | (constructor <;> with_reducible rfl) | with_reducible rfl)
  (try simp only [Act.put, List.getElem_toArray, List.getElem_cons_zero, List.getElem_cons_succ, List.setIfInBounds_toArray, List.set_cons_zero, List.set_cons_succ])
  refine wpAnyH_take (i := 5) (v := ?_) rfl (by kernel_rfl) (by kernel_rfl) (by kernel_rfl) (fun _ _ _ h => h) (Or.inl ⟨by rfl, ?_⟩) (by assumption) ?_
  rotate_left 1
  focus (intro wS hSw; (try dsimp only at hSw); go_simp; first | done | (constructor <;> with_reducible rfl) | with_reducible rfl)
  (try simp only [Act.put, List.getElem_toArray, List.getElem_cons_zero, List.getElem_cons_succ, List.setIfInBounds_toArray, List.set_cons_zero, List.set_cons_succ])
  refine wpAnyH_take (i := 6) (v := ?_) rfl (by kernel_rfl) (by kernel_rfl) (by kernel_rfl) (fun _ _ _ h => h) (Or.inl ⟨by rfl, ?_⟩) (by assumption) ?_
  rotate_left 1
  focus (intro wS hSw; (try dsimp only at hSw); go_simp; first | done | (constructor <;> with_reducible rfl) | with_reducible rfl)
  (try simp only [Act.put, List.getElem_toArray, List.getElem_cons_zero, List.getElem_cons_succ, List.setIfInBounds_toArray, List.set_cons_zero, List.set_cons_succ])
  refine wpAnyH_take (i := 7) (v := ?_) rfl (by kernel_rfl) (by kernel_rfl) (by kernel_rfl) (fun _ _ _ h => h) (Or.inl ⟨by rfl, ?_⟩) (by assumption) ?_
  rotate_left 1
  focus (intro wS hSw; (try dsimp only at hSw); go_simp; first | done | (constructor <;> with_reducible rfl) | with_reducible rfl)
  (try simp only [Act.put, List.getElem_toArray, List.getElem_cons_zero, List.getElem_cons_succ, List.setIfInBounds_toArray, List.set_cons_zero, List.set_cons_succ])
  refine wpAnyH_take (i := 8) (v := ?_) rfl (by kernel_rfl) (by kernel_rfl) (by kernel_rfl) (fun _ _ _ h => h) (Or.inl ⟨by rfl, ?_⟩) (by assumption) ?_
  rotate_left 1
  focus (intro wS hSw; (try dsimp only at hSw); go_simp; first | done | (constructor <;> with_reducible rfl) | with_reducible rfl)
  (try simp only [Act.put, List.getElem_toArray, List.getElem_cons_zero, List.getElem_cons_succ, List.setIfInBounds_toArray, List.set_cons_zero, List.set_cons_succ])
  refine wpAnyH_ready (rs := [9]) (by kernel_rfl) (by simp) ?_
  refine AllReadyH.cons rfl (fun K hK => ?_) AllReadyH.nil
  (go_simp; refine hI.mono ?_; rintro v w3 ⟨a, c, rfl, o3, b3⟩; have s1 := (b3.cell (p := ⟨r, 1, none⟩) hlt).trans e1; have s2 := (b3.cell (p := ⟨r, 2, none⟩) hlt).trans e2)
  refine hK.out _ _ ?_ (fun hHeld => ?_)
  focus ((try dsimp only) <;> (first | with_reducible exact hHeld | exact ⟨e1, e2⟩ | exact ⟨s1, s2⟩))
  clear hK K
  (try simp only [Act.put, List.getElem_toArray, List.getElem_cons_zero, List.getElem_cons_succ, List.setIfInBounds_toArray, List.set_cons_zero, List.set_cons_succ])
  refine wpAnyH_ready (rs := [10]) (by kernel_rfl) (by simp) ?_
  refine AllReadyH.cons rfl (fun K hK => ?_) AllReadyH.nil
  go_simp
  refine hK.out _ _ ?_ (fun hHeld => ?_)
  focus ((try dsimp only) <;> (first | with_reducible exact hHeld | exact ⟨e1, e2⟩ | exact ⟨s1, s2⟩))
  clear hK K
  (try simp only [Act.put, List.getElem_toArray, List.getElem_cons_zero, List.getElem_cons_succ, List.setIfInBounds_toArray, List.set_cons_zero, List.set_cons_succ])
  refine wpAnyH_done (by kernel_rfl) ?_ _
  go_wp2_with fail
  go_ret
  exact ⟨a, c, rfl, o3, ((Below.refl _ _).drew).trans b3⟩

/-- What stands below a place is gone. -/
theorem Ring.drop {w : World} {r ks n : Nat} {f : Int} {C : List UInt8} (h : Ring w r ks n f C) {k : Nat} (hk : k ≤ C.length) : Ring (w.setCell ⟨r, 1, none⟩ (.int .i64 (f + k))) r ks n (f + k) (C.drop k) := by
  obtain ⟨L, l1, l2, l3⟩ := h.row
  refine ⟨?_, ⟨L, l1, l2.same (Below.heap_setCell _ _ _ _ (fun q => h.ne q.symm)), ?_⟩, ?_, ?_, h.ne, by simpa using h.kin⟩
  · have := h.var.set 1 (.int .i64 (f + k))
    have e : f + (k : Int) + ((C.drop k).length : Int) = f + C.length := by simp; omega
    rw [e]
    exact this
  · intro i x hx
    rw [List.getElem?_drop] at hx
    have := l3 (k + i) x hx
    rw [show f + (k : Int) + (i : Int) = f + ((k + i : Nat) : Int) by omega]
    exact this
  · have := h.le
    simp
    omega
  · have := h.f0
    omega

theorem fit_all {n : Nat} {S : List UInt8} (h : S.length ≤ n) : fitR n [] S = S.length := by
  unfold fitR
  simp
  omega

set_option maxRecDepth 10000 in
set_option maxHeartbeats 4000000 in
theorem keptBy (g : Gv) (w : World) (hok : g.ok = true) :
    Calls Try.prog 79 #[g.v] w fun x w' => ∃ r ks, x = .returned (.pointer (some ⟨r, 0, none⟩)) ∧ Ring w' r ks (mostG g).toNat g.ba g.bs.data.toList ∧ w.heap.size ≤ r ∧ w.heap.size ≤ ks ∧ Below w.heap.size w w' := by
  have hmix := mix
  obtain ⟨⟨i8, i9⟩, ⟨j1, j2⟩, i3, i4, ⟨j3, j4⟩, i6, i7⟩ := ok_iff.1 hok
  have hmost : mostG g = min g.cp (1000000000 - g.ba) := rfl
  have hM := fun w' => mostKept g w' j1 j2
  obtain ⟨n, hn⟩ : ∃ n : Nat, mostG g = (n : Int) := ⟨(mostG g).toNat, by omega⟩
  rw [show (mostG g).toNat = n by omega]
  have hn1 : n ≤ 400 := by omega
  have hsn : g.bs.size ≤ n := by omega
  rw [hn] at hM
  have hN := fun w' => newRing n (n : Int) g.ba rfl w' hn1 j1
  have hds : g.bs.data.toList.length = g.bs.size := by simp
  have hfa : fitR n [] g.bs.data.toList = g.bs.size := by rw [fit_all (by omega)]; exact hds
  clear hmost hn i7 hok
  obtain ⟨ba, bs, cp, lm, en, dn⟩ := g
  dsimp only [Gv.v] at *
  have v1 : Var 28 (w.alloc (.cells #[.int .i64 ba, .string bs, .int .i64 cp, .int .i64 lm, .bool en, .bool dn] 28)) w.heap.size [.int .i64 ba, .string bs, .int .i64 cp, .int .i64 lm, .bool en, .bool dn] := Var.new w _
  have b1 : Below w.heap.size w (w.alloc (.cells #[.int .i64 ba, .string bs, .int .i64 cp, .int .i64 lm, .bool en, .bool dn] 28)) := (Below.refl _ _).alloc (Nat.le_refl _) _
  go_enter Try.func79, Try.ntmps79
  go_upto_region 1 with (fail)
  generalize (w.alloc (.cells #[.int .i64 ba, .string bs, .int .i64 cp, .int .i64 lm, .bool en, .bool dn] 28)) = V at *
  have e0 := v1.cell (i := 0) rfl
  have e1 := v1.cell (i := 1) rfl
  have e2 := v1.cell (i := 2) rfl
  have e3 := v1.cell (i := 3) rfl
  have e4 := v1.cell (i := 4) rfl
  have e5 := v1.cell (i := 5) rfl
  refine wp_region_held_drew (S := (fun w' => w'.cell? ⟨w.heap.size, 0, none⟩ = some (.int .i64 ba) ∧ w'.cell? ⟨w.heap.size, 1, none⟩ = some (.string bs) ∧ w'.cell? ⟨w.heap.size, 2, none⟩ = some (.int .i64 cp) ∧ w'.cell? ⟨w.heap.size, 3, none⟩ = some (.int .i64 lm) ∧ w'.cell? ⟨w.heap.size, 4, none⟩ = some (.bool en) ∧ w'.cell? ⟨w.heap.size, 5, none⟩ = some (.bool dn))) (by kernel_rfl) ?_ (fun hHeld => ?_)
  focus ((try dsimp only) <;> (first | with_reducible exact hHeld | with_reducible exact ⟨s0, s1, s2, s3, s4, s5⟩ | with_reducible exact ⟨t0, t1, t2, t3, t4, t5⟩ | exact ⟨e0, e1, e2, e3, e4, e5⟩))
  refine wpAnyH_take (i := 0) (v := ?_) rfl (by kernel_rfl) (by kernel_rfl) (by kernel_rfl) (fun _ _ _ h => h) (Or.inl ⟨by rfl, ?_⟩) (by assumption) ?_
  rotate_left 1
  focus (intro wS hSw; (try dsimp only at hSw); go_simp; first | done | (constructor <;> with_reducible rfl) | with_reducible rfl)
  (try simp only [Act.put, List.getElem_toArray, List.getElem_cons_zero, List.getElem_cons_succ, List.setIfInBounds_toArray, List.set_cons_zero, List.set_cons_succ])
  refine wpAnyH_take (i := 2) (v := ?_) rfl (by kernel_rfl) (by kernel_rfl) (by kernel_rfl) (fun _ _ _ h => h) (Or.inl ⟨by rfl, ?_⟩) (by assumption) ?_
  rotate_left 1
  focus (intro wS hSw; (try dsimp only at hSw); go_simp; first | done | (constructor <;> with_reducible rfl) | with_reducible rfl)
  (try simp only [Act.put, List.getElem_toArray, List.getElem_cons_zero, List.getElem_cons_succ, List.setIfInBounds_toArray, List.set_cons_zero, List.set_cons_succ])
  refine wpAnyH_take (i := 3) (v := ?_) rfl (by kernel_rfl) (by kernel_rfl) (by kernel_rfl) (fun _ _ _ h => h) (Or.inl ⟨by rfl, ?_⟩) (by assumption) ?_
  rotate_left 1
  focus (intro wS hSw; (try dsimp only at hSw); go_simp; first | done | (constructor <;> with_reducible rfl) | with_reducible rfl)
  (try simp only [Act.put, List.getElem_toArray, List.getElem_cons_zero, List.getElem_cons_succ, List.setIfInBounds_toArray, List.set_cons_zero, List.set_cons_succ])
  refine wpAnyH_ready (rs := [1]) (by kernel_rfl) (by simp) ?_
  refine AllReadyH.cons rfl (fun K hK => ?_) AllReadyH.nil
  (go_simp; refine (hM _).mono ?_; rintro x w2 ⟨rfl, b2⟩; have v2 := v1.drew.later b2; have B2 := b1.drew.trans (b2.mono b1.size); have s0 := v2.cell (i := 0) rfl; have s1 := v2.cell (i := 1) rfl; have s2 := v2.cell (i := 2) rfl; have s3 := v2.cell (i := 3) rfl; have s4 := v2.cell (i := 4) rfl; have s5 := v2.cell (i := 5) rfl)
  refine hK.out _ _ ?_ (fun hHeld => ?_)
  focus ((try dsimp only) <;> (first | with_reducible exact hHeld | with_reducible exact ⟨s0, s1, s2, s3, s4, s5⟩ | with_reducible exact ⟨t0, t1, t2, t3, t4, t5⟩ | exact ⟨e0, e1, e2, e3, e4, e5⟩))
  clear hK K
  (try simp only [Act.put, List.getElem_toArray, List.getElem_cons_zero, List.getElem_cons_succ, List.setIfInBounds_toArray, List.set_cons_zero, List.set_cons_succ])
  refine wpAnyH_ready (rs := [4]) (by kernel_rfl) (by simp) ?_
  refine AllReadyH.cons rfl (fun K hK => ?_) AllReadyH.nil
  (go_simp; refine (hN _).mono ?_; rintro x w3 ⟨r, ks, rfl, R, hr, hk, b3⟩; have v3 := v2.later b3; have B3 := B2.trans (b3.mono B2.size); have t0 := v3.cell (i := 0) rfl; have t1 := v3.cell (i := 1) rfl; have t2 := v3.cell (i := 2) rfl; have t3 := v3.cell (i := 3) rfl; have t4 := v3.cell (i := 4) rfl; have t5 := v3.cell (i := 5) rfl)
  refine hK.out _ _ ?_ (fun hHeld => ?_)
  focus ((try dsimp only) <;> (first | with_reducible exact hHeld | with_reducible exact ⟨s0, s1, s2, s3, s4, s5⟩ | with_reducible exact ⟨t0, t1, t2, t3, t4, t5⟩ | exact ⟨e0, e1, e2, e3, e4, e5⟩))
  clear hK K
  (try simp only [Act.put, List.getElem_toArray, List.getElem_cons_zero, List.getElem_cons_succ, List.setIfInBounds_toArray, List.set_cons_zero, List.set_cons_succ])
  refine wpAnyH_ready (rs := [5]) (by kernel_rfl) (by simp) ?_
  refine AllReadyH.cons rfl (fun K hK => ?_) AllReadyH.nil
  go_simp
  refine hK.out _ _ ?_ (fun hHeld => ?_)
  focus ((try dsimp only) <;> (first | with_reducible exact hHeld | with_reducible exact ⟨s0, s1, s2, s3, s4, s5⟩ | with_reducible exact ⟨t0, t1, t2, t3, t4, t5⟩ | exact ⟨e0, e1, e2, e3, e4, e5⟩))
  clear hK K
  (try simp only [Act.put, List.getElem_toArray, List.getElem_cons_zero, List.getElem_cons_succ, List.setIfInBounds_toArray, List.set_cons_zero, List.set_cons_succ])
  refine wpAnyH_done (by kernel_rfl) ?_ _
  have hr2 : w.heap.size ≤ r := Nat.le_trans B2.size hr
  have hk2 : w.heap.size ≤ ks := Nat.le_trans B2.size hk
  clear e0 e1 e2 e3 e4 e5 s0 s1 s2 s3 s4 s5 t0 t2 t3 t4 t5 v1 v2 B2 b1 b2 b3 hM hN
  obtain ⟨cap, w4, hconv, hrow, b4, hs4, hcap⟩ := bytes_text bs w3
  have hrl : r < w3.heap.size := R.var.lt
  have R4 := R.later b4
  have B4 := B3.trans (b4.mono B3.size)
  have hks : ks ≠ w3.heap.size := by
    have := R.kin
    omega
  have hP := puts r ks n ba [] bs.data.toList w3.heap.size bs.size cap w.heap.size w4 R4 hn1 j2 hrow hds.symm hcap (by omega) (by omega) (fun q => hks q.symm) (by omega) hr2 hk2
  rw [hfa, List.nil_append, ← hds, List.take_length, hds] at hP
  clear R R4 hrow b4
  go_wp2_with fail
  refine hP.mono ?_
  rintro x w5 ⟨rfl, R5, b5⟩
  go_wp2_with fail
  go_ret
  exact ⟨r, ks, rfl, R5, hr2, hk2, B4.trans b5⟩

end Go.Proofs.Ythdkajaodfkgnaa.Giv

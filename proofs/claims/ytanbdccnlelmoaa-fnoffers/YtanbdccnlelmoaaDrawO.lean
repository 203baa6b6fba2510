/- Draws of chapter 6: DrawOffers; at most 4096 bytes. -/
import Derived.Test.YtanbdccnlelmoaaDrawK
import Derived.Test.YtanbdccnlelmoaaGivD
import Derived.Test.YtanbdccnlelmoaaSh
namespace Go.Proofs.Ytanbdccnlelmoaa.Giv
open Go.RowKit RowG
set_option linter.unusedVariables false
set_option linter.unusedSimpArgs false

set_option maxRecDepth 10000 in
set_option maxHeartbeats 8000000 in
theorem drawOffers (a : Option Addr) (len cap : Nat) (w : World) (hb : Draw.Bytes w a len) (hl : len ≤ 4096) :
    Calls Try.prog 5 #[.slice a len cap] w fun x w' => ∃ (g : Gv) (p q : Int), g.bs.size ≤ 400 ∧ x = .returned (.tuple #[g.v, .int .i64 p, .int .i64 q]) ∧ Below w.heap.size w w' := by
  have hmix := mix
  have z2 : Var 25 (w.alloc (.cells #[.int .i64 0, .string ⟨#[]⟩, .int .i64 0, .int .i64 0, .bool false, .bool false] 25)) w.heap.size [.int .i64 0, .string ⟨#[]⟩, .int .i64 0, .int .i64 0, .bool false, .bool false] := Var.new w _
  have b0 : Below w.heap.size w (w.alloc (.cells #[.int .i64 0, .string ⟨#[]⟩, .int .i64 0, .int .i64 0, .bool false, .bool false] 25)) := (Below.refl _ _).alloc (Nat.le_refl _) _
  have hs0 : (w.alloc (.cells #[.int .i64 0, .string ⟨#[]⟩, .int .i64 0, .int .i64 0, .bool false, .bool false] 25)).heap.size = w.heap.size + 1 := by simp
  have hb0 := hb.below b0 (Nat.le_refl _)
  go_enter Try.func5, Try.ntmps5
  go_wp2_with fail
  generalize w.alloc (.cells #[.int .i64 0, .string ⟨#[]⟩, .int .i64 0, .int .i64 0, .bool false, .bool false] 25) = W0 at *
  refine (Draw.l1New a len cap _ hb0 hl).mono ?_
  rintro x w1 ⟨rfl, hh, hw1⟩
  have c1 : Draw.Cur w1 W0.heap.size := by rw [hw1]; exact Draw.cur_new hb0 hl hh _
  have b1 : Below W0.heap.size W0 w1 := by rw [hw1]; exact (Below.refl _ _).alloc (Nat.le_refl _) _
  have h1 : W0.heap.size < w1.heap.size := by rw [hw1]; simp
  have z1 := z2.later b1
  have B1 := b0.trans (b1.mono b0.size)
  clear hw1 z2 b1 hb0
  rw [hs0] at c1 h1
  rw [hs0]
  clear hs0 b0
  go_wp2_with fail
  refine (l6DrawAny _ _ c1).mono ?_
  rintro x w2 ⟨g, hg, rfl, cu2, k2⟩
  have z2 := z1.kept k2 (by omega)
  have B2 : Below w.heap.size w w2 := B1.trans (k2.below (by omega) B1.size)
  dsimp only [Gv.v]
  have v3 : Var 25 (w2.alloc (.cells #[.int .i64 g.ba, .string g.bs, .int .i64 g.cp, .int .i64 g.lm, .bool g.en, .bool g.dn] 25)) w2.heap.size [.int .i64 g.ba, .string g.bs, .int .i64 g.cp, .int .i64 g.lm, .bool g.en, .bool g.dn] := Var.new w2 _
  have z3 := z2.alloc (.cells #[.int .i64 g.ba, .string g.bs, .int .i64 g.cp, .int .i64 g.lm, .bool g.en, .bool g.dn] 25)
  have cu3 := cu2.alloc (.cells #[.int .i64 g.ba, .string g.bs, .int .i64 g.cp, .int .i64 g.lm, .bool g.en, .bool g.dn] 25)
  have B3 : Below w.heap.size w (w2.alloc (.cells #[.int .i64 g.ba, .string g.bs, .int .i64 g.cp, .int .i64 g.lm, .bool g.en, .bool g.dn] 25)) := B2.alloc B2.size _
  have hk3 : w.heap.size + 1 < w2.heap.size := cu2.lt
  clear z1 z2 B1 B2 k2 cu2 c1
  go_upto_region 3 with (fail)
  generalize w2.alloc (.cells #[.int .i64 g.ba, .string g.bs, .int .i64 g.cp, .int .i64 g.lm, .bool g.en, .bool g.dn] 25) = W at *
  generalize w2.heap.size = k3 at *
  go_cut [18] from 12 (fun v wr => ∃ b : Bool, v = .bool b ∧ (b = true → g.ok = true) ∧ Var 25 wr k3 [.int .i64 g.ba, .string g.bs, .int .i64 g.cp, .int .i64 g.lm, .bool g.en, .bool g.dn] ∧ Var 25 wr w.heap.size [.int .i64 0, .string ⟨#[]⟩, .int .i64 0, .int .i64 0, .bool false, .bool false] ∧ Draw.Cur wr (w.heap.size + 1) ∧ Below w.heap.size w wr)
  case first =>
    have hk3l : k3 < W.heap.size := v3.lt
    have e0 := v3.cell (i := 0) rfl
    have e1 := v3.cell (i := 1) rfl
    have e2 := v3.cell (i := 2) rfl
    have e3 := v3.cell (i := 3) rfl
    have e4 := v3.cell (i := 4) rfl
    have e5 := v3.cell (i := 5) rfl
    have hT := fun w' => specGiverOk g w' (by omega)
    dsimp only [Gv.v] at hT
    go_wp2_with fail
    refine (hT _).mono ?_
    rintro x w4 ⟨rfl, b4⟩
    have v4 := v3.later b4
    have z4 := z3.later b4
    have cu4 := cu3.below b4 (Nat.le_refl _)
    have B4 := B3.trans (b4.mono B3.size)
    clear v3 z3 cu3 B3 b4 e0 e1 e2 e3 e4 e5 hT hk3l
    cases hok : g.ok
    focus
      go_wp2_with fail
      go_meet
      exact ⟨_, rfl, fun h => (by cases h), v4, z4, cu4, B4⟩
    focus
      have HOK : Hid (g.ok = true) := hok
      go_wp2_with fail
      refine (Draw.l1Once _ _ _ cu4).mono ?_
      rintro x w5 ⟨b, rfl, cu5, k5⟩
      go_wp2_with fail
      go_meet
      exact ⟨_, rfl, fun _ => HOK.out, v4.kept k5 (by omega), z4.kept k5 (by omega), cu5, B4.trans (k5.below (by omega) B4.size)⟩
  case rest =>
    clear v3 z3 cu3 B3
    obtain ⟨b, rfl, hbok, v4, z4, cu4, B4⟩ := hcut
    go_upto_if 18 with (fail)
    go_cut [] from 19 (fun wr => ∃ g : Gv, g.bs.size ≤ 400 ∧ Var 25 wr k3 [.int .i64 g.ba, .string g.bs, .int .i64 g.cp, .int .i64 g.lm, .bool g.en, .bool g.dn] ∧ Var 25 wr w.heap.size [.int .i64 0, .string ⟨#[]⟩, .int .i64 0, .int .i64 0, .bool false, .bool false] ∧ Draw.Cur wr (w.heap.size + 1) ∧ Below w.heap.size w wr)
    case first =>
      cases b
      focus
        go_wp2_with fail
        go_meet
        exact ⟨g, hg, v4, z4, cu4, B4⟩
      focus
        have HOK : Hid (g.ok = true) := hbok rfl
        obtain ⟨i1, ⟨j1, j2⟩, i3, i4, ⟨j3, j4⟩, i6, i7⟩ := ok_iff.1 HOK.out
        have v5 := v4
        have z5 := z4
        have cu5 := cu4
        have B5 := B4
        clear v4 z4 cu4 B4 hbok i7
        have e0 := v5.cell (i := 0) rfl
        have e1 := v5.cell (i := 1) rfl
        have e2 := v5.cell (i := 2) rfl
        have e3 := v5.cell (i := 3) rfl
        have e4 := v5.cell (i := 4) rfl
        have e5 := v5.cell (i := 5) rfl
        have hE := fun w' => l6End g w' ⟨⟨by omega, by omega⟩, by omega⟩
        dsimp only [Gv.v] at hE
        go_wp2_with fail
        refine (hE _).mono ?_
        rintro x w6 ⟨rfl, b6⟩
        have v6 := v5.later b6
        have z6 := z5.later b6
        have cu6 := cu5.below b6 (Nat.le_refl _)
        have B6 := B5.trans (b6.mono B5.size)
        go_wp2_with fail
        refine (Draw.l1Below _ 9 _ cu6).mono ?_
        rintro x w7 ⟨y, y0, y1, rfl, cu7, k7⟩
        have v7 := v6.kept k7 (by omega)
        have z7 := z6.kept k7 (by omega)
        have B7 := B6.trans (k7.below (by omega) B6.size)
        have y2 : y ≤ 8 := by omega
        go_wp2_with fail
        refine (Draw.l5Text (g.ba + g.bs.size) (1 + y) _ (by omega) (by omega) (by omega) (by omega)).mono ?_
        rintro x w8 ⟨s, hs, rfl, b8⟩
        have v8 := v7.later b8
        have z8 := z7.later b8
        have cu8 := cu7.below b8 (Nat.le_refl _)
        have B8 := B7.trans (b8.mono B7.size)
        go_wp2_with fail
        refine (l6Write k3 g s _ v8 HOK.out (by omega)).mono ?_
        rintro x w9 ⟨rfl, v9, k9⟩
        have hok9 := write_ok HOK.out s
        have z9 := z8.kept k9 (by omega)
        have cu9 := cur_kept cu8 k9 (by omega)
        have B9 := B8.trans (k9.below (by omega) B8.size)
        clear v5 v6 v7 v8 z5 z6 z7 z8 cu5 cu6 cu7 cu8 B5 B6 B7 B8 b6 b8 k7 k9 hE e0 e1 e2 e3 e4 e5 HOK i1 i3 i4 i6 j1 j2 j3 j4 hg
        generalize (writeG g s).1 = g at *
        have HOK : Hid (g.ok = true) := hok9
        clear hok9
        have e0 := v9.cell (i := 0) rfl
        have e1 := v9.cell (i := 1) rfl
        have e2 := v9.cell (i := 2) rfl
        have e3 := v9.cell (i := 3) rfl
        have e4 := v9.cell (i := 4) rfl
        have e5 := v9.cell (i := 5) rfl
        go_wp2_with fail
        refine Draw.wp_region_Y (S := (fun w' => w'.cell? ⟨k3, 0, none⟩ = some (.int .i64 g.ba) ∧ w'.cell? ⟨k3, 1, none⟩ = some (.string g.bs) ∧ w'.cell? ⟨k3, 2, none⟩ = some (.int .i64 g.cp) ∧ w'.cell? ⟨k3, 3, none⟩ = some (.int .i64 g.lm) ∧ w'.cell? ⟨k3, 4, none⟩ = some (.bool g.en) ∧ w'.cell? ⟨k3, 5, none⟩ = some (.bool g.dn))) 8 (by kernel_rfl) ?_ (fun hHeld => ?_)
        focus ((try dsimp only) <;> (first | with_reducible exact hHeld | with_reducible exact ⟨s0, s1, s2, s3, s4, s5⟩ | exact ⟨e0, e1, e2, e3, e4, e5⟩))
        refine Draw.wpAnyY_takeT (i := 0) (v := ?_) rfl (by kernel_rfl) (by kernel_rfl) (by kernel_rfl) (fun _ _ _ h => h) (Or.inl ⟨by rfl, ?_⟩) ?_
        rotate_left 1
        focus (intro wS hSw; (try dsimp only at hSw); go_simp; first | done | (constructor <;> with_reducible rfl) | with_reducible rfl)
        (try simp only [Act.put, List.getElem_toArray, List.getElem_cons_zero, List.getElem_cons_succ, List.setIfInBounds_toArray, List.set_cons_zero, List.set_cons_succ])
        refine Draw.wpAnyY_take (i := 1) (v := ?_) rfl (by kernel_rfl) (by kernel_rfl) (by kernel_rfl) (by kernel_rfl) (fun _ _ _ h => h) (Or.inl ⟨by rfl, ?_⟩) (by assumption) ?_
        rotate_left 1
        focus (intro wS hSw; (try dsimp only at hSw); go_simp; first | done | (constructor <;> with_reducible rfl) | with_reducible rfl)
        (try simp only [Act.put, List.getElem_toArray, List.getElem_cons_zero, List.getElem_cons_succ, List.setIfInBounds_toArray, List.set_cons_zero, List.set_cons_succ])
        refine Draw.wpAnyY_takeT (i := 2) (v := ?_) rfl (by kernel_rfl) (by kernel_rfl) (by kernel_rfl) (fun _ _ _ h => h) (Or.inl ⟨by rfl, ?_⟩) ?_
        rotate_left 1
        focus (intro wS hSw; (try dsimp only at hSw); go_simp; first | done | (constructor <;> with_reducible rfl) | with_reducible rfl)
        (try simp only [Act.put, List.getElem_toArray, List.getElem_cons_zero, List.getElem_cons_succ, List.setIfInBounds_toArray, List.set_cons_zero, List.set_cons_succ])
        refine Draw.wpAnyY_takeP (ps := [7, 4]) (i := 3) (v := ?_) rfl (by kernel_rfl) (by kernel_rfl) (by kernel_rfl) (by kernel_rfl) (by kernel_rfl) (fun _ _ _ h => h) (Or.inl ⟨by rfl, ?_⟩) (by assumption) ?_
        rotate_left 1
        focus (intro wS hSw; (try dsimp only at hSw); go_simp; first | done | (constructor <;> with_reducible rfl) | with_reducible rfl)
        (try simp only [Act.put, List.getElem_toArray, List.getElem_cons_zero, List.getElem_cons_succ, List.setIfInBounds_toArray, List.set_cons_zero, List.set_cons_succ])
        refine Draw.wpAnyY_takeT (i := 4) (v := ?_) rfl (by kernel_rfl) (by kernel_rfl) (by kernel_rfl) (fun _ _ _ h => h) (Or.inl ⟨by rfl, ?_⟩) ?_
        rotate_left 1
        focus (intro wS hSw; (try dsimp only at hSw); go_simp; first | done | (constructor <;> with_reducible rfl) | with_reducible rfl)
        (try simp only [Act.put, List.getElem_toArray, List.getElem_cons_zero, List.getElem_cons_succ, List.setIfInBounds_toArray, List.set_cons_zero, List.set_cons_succ])
        refine Draw.wpAnyY_takeT (i := 5) (v := ?_) rfl (by kernel_rfl) (by kernel_rfl) (by kernel_rfl) (fun _ _ _ h => h) (Or.inl ⟨by rfl, ?_⟩) ?_
        rotate_left 1
        focus (intro wS hSw; (try dsimp only at hSw); go_simp; first | done | (constructor <;> with_reducible rfl) | with_reducible rfl)
        (try simp only [Act.put, List.getElem_toArray, List.getElem_cons_zero, List.getElem_cons_succ, List.setIfInBounds_toArray, List.set_cons_zero, List.set_cons_succ])
        refine Draw.wpAnyY_ready (rs := [6]) (by kernel_rfl) (by simp) ?_
        refine Draw.AllReadyY.cons rfl (fun K hK => ?_) Draw.AllReadyY.nil
        (go_simp; refine (Draw.l1Below _ _ _ cu9.drew).mono ?_; rintro x wa ⟨u, u0, u1, rfl, cua, ka⟩; have va := v9.drew.kept ka (by omega); have za := z9.drew.kept ka (by omega); have Ba := B9.drew.trans (ka.below (by omega) B9.size); have s0 := va.cell (i := 0) rfl; have s1 := va.cell (i := 1) rfl; have s2 := va.cell (i := 2) rfl; have s3 := va.cell (i := 3) rfl; have s4 := va.cell (i := 4) rfl; have s5 := va.cell (i := 5) rfl)
        refine hK.out _ _ ?_ (fun hHeld2 => ?_)
        focus (intro _ _; (try dsimp only) <;> (first | with_reducible exact hHeld | with_reducible exact ⟨s0, s1, s2, s3, s4, s5⟩ | exact ⟨e0, e1, e2, e3, e4, e5⟩))
        clear hK K
        replace hHeld := hHeld2 (by decide) hHeld
        clear hHeld2
        (try simp only [Act.put, List.getElem_toArray, List.getElem_cons_zero, List.getElem_cons_succ, List.setIfInBounds_toArray, List.set_cons_zero, List.set_cons_succ])
        refine Draw.wpAnyY_takeT (i := 7) (v := ?_) rfl (by kernel_rfl) (by kernel_rfl) (by kernel_rfl) (fun _ _ _ h => h) (Or.inl ⟨by rfl, ?_⟩) ?_
        rotate_left 1
        focus (intro wS hSw; (try dsimp only at hSw); go_simp; first | done | (constructor <;> with_reducible rfl) | with_reducible rfl)
        (try simp only [Act.put, List.getElem_toArray, List.getElem_cons_zero, List.getElem_cons_succ, List.setIfInBounds_toArray, List.set_cons_zero, List.set_cons_succ])
        refine Draw.wpAnyY_ready (rs := [8]) (by kernel_rfl) (by simp) ?_
        refine Draw.AllReadyY.cons rfl (fun K hK => ?_) Draw.AllReadyY.nil
        (go_simp; refine (l6Hear k3 g _ _ false _ va HOK.out).mono ?_; rintro x wd ⟨rfl, v4, kn⟩; have z4 := za.kept kn (by omega); have cu4 := cur_kept cua kn (by omega); have B4 := Ba.trans (kn.below (by omega) Ba.size); have hok4 := hear_ok HOK.out)
        refine hK.out _ _ (fun h => absurd rfl h) (fun hHeld2 => ?_)
        clear hK K hHeld hHeld2
        (try simp only [Act.put, List.getElem_toArray, List.getElem_cons_zero, List.getElem_cons_succ, List.setIfInBounds_toArray, List.set_cons_zero, List.set_cons_succ])
        refine Draw.wpAnyY_done (by kernel_rfl) ?_ _
        go_wp2_with fail
        have hok5 := hok4 g.ba (IntKind.i64.wrap (IntKind.i64.wrap (g.ba + 1) + u)) false
        go_meet
        exact ⟨_, (by have := ok_iff.1 hok5; omega), v4, z4, cu4, B4⟩
    case rest =>
      clear v4 z4 cu4 B4 hbok hg
      obtain ⟨g, hg, v4, z4, cu4, B4⟩ := hcut
      have e0 := v4.cell (i := 0) rfl
      have e1 := v4.cell (i := 1) rfl
      have e2 := v4.cell (i := 2) rfl
      have e3 := v4.cell (i := 3) rfl
      have e4 := v4.cell (i := 4) rfl
      have e5 := v4.cell (i := 5) rfl
      go_wp2_with fail
      refine wp_region_held_drew (S := (fun w' => w'.cell? ⟨k3, 0, none⟩ = some (.int .i64 g.ba) ∧ w'.cell? ⟨k3, 1, none⟩ = some (.string g.bs) ∧ w'.cell? ⟨k3, 2, none⟩ = some (.int .i64 g.cp) ∧ w'.cell? ⟨k3, 3, none⟩ = some (.int .i64 g.lm) ∧ w'.cell? ⟨k3, 4, none⟩ = some (.bool g.en) ∧ w'.cell? ⟨k3, 5, none⟩ = some (.bool g.dn))) (by kernel_rfl) ?_ (fun hHeld => ?_)
      focus ((try dsimp only) <;> (first | with_reducible exact hHeld | with_reducible exact ⟨s0, s1, s2, s3, s4, s5⟩ | exact ⟨e0, e1, e2, e3, e4, e5⟩))
      refine wpAnyH_take (i := 0) (v := ?_) rfl (by kernel_rfl) (by kernel_rfl) (by kernel_rfl) (fun _ _ _ h => h) (Or.inl ⟨by rfl, ?_⟩) (by assumption) ?_
      rotate_left 1
      focus (intro wS hSw; (try dsimp only at hSw); go_simp; first | done | (constructor <;> with_reducible rfl) | with_reducible rfl)
      (try simp only [Act.put, List.getElem_toArray, List.getElem_cons_zero, List.getElem_cons_succ, List.setIfInBounds_toArray, List.set_cons_zero, List.set_cons_succ])
      refine wpAnyH_take (i := 1) (v := ?_) rfl (by kernel_rfl) (by kernel_rfl) (by kernel_rfl) (fun _ _ _ h => h) (Or.inl ⟨by rfl, ?_⟩) (by assumption) ?_
      rotate_left 1
      focus (intro wS hSw; (try dsimp only at hSw); go_simp; first | done | (constructor <;> with_reducible rfl) | with_reducible rfl)
      (try simp only [Act.put, List.getElem_toArray, List.getElem_cons_zero, List.getElem_cons_succ, List.setIfInBounds_toArray, List.set_cons_zero, List.set_cons_succ])
      refine wpAnyH_take (i := 2) (v := ?_) rfl (by kernel_rfl) (by kernel_rfl) (by kernel_rfl) (fun _ _ _ h => h) (Or.inl ⟨by rfl, ?_⟩) (by assumption) ?_
      rotate_left 1
      focus (intro wS hSw; (try dsimp only at hSw); go_simp; first | done | (constructor <;> with_reducible rfl) | with_reducible rfl)
      (try simp only [Act.put, List.getElem_toArray, List.getElem_cons_zero, List.getElem_cons_succ, List.setIfInBounds_toArray, List.set_cons_zero, List.set_cons_succ])
      refine wpAnyH_take (i := 3) (v := ?_) rfl (by kernel_rfl) (by kernel_rfl) (by kernel_rfl) (fun _ _ _ h => h) (Or.inl ⟨by rfl, ?_⟩) (by assumption) ?_
      rotate_left 1
      focus (intro wS hSw; (try dsimp only at hSw); go_simp; first | done | (constructor <;> with_reducible rfl) | with_reducible rfl)
      (try simp only [Act.put, List.getElem_toArray, List.getElem_cons_zero, List.getElem_cons_succ, List.setIfInBounds_toArray, List.set_cons_zero, List.set_cons_succ])
      refine wpAnyH_take (i := 4) (v := ?_) rfl (by kernel_rfl) (by kernel_rfl) (by kernel_rfl) (fun _ _ _ h => h) (Or.inl ⟨by rfl, ?_⟩) (by assumption) ?_
      rotate_left 1
      focus (intro wS hSw; (try dsimp only at hSw); go_simp; first | done | (constructor <;> with_reducible rfl) | with_reducible rfl)
      (try simp only [Act.put, List.getElem_toArray, List.getElem_cons_zero, List.getElem_cons_succ, List.setIfInBounds_toArray, List.set_cons_zero, List.set_cons_succ])
      refine wpAnyH_take (i := 5) (v := ?_) rfl (by kernel_rfl) (by kernel_rfl) (by kernel_rfl) (fun _ _ _ h => h) (Or.inl ⟨by rfl, ?_⟩) (by assumption) ?_
      rotate_left 1
      focus (intro wS hSw; (try dsimp only at hSw); go_simp; first | done | (constructor <;> with_reducible rfl) | with_reducible rfl)
      (try simp only [Act.put, List.getElem_toArray, List.getElem_cons_zero, List.getElem_cons_succ, List.setIfInBounds_toArray, List.set_cons_zero, List.set_cons_succ])
      refine wpAnyH_take (i := 6) (v := ?_) rfl (by kernel_rfl) (by kernel_rfl) (by kernel_rfl) (fun _ _ _ h => h) (Or.inl ⟨by rfl, ?_⟩) (by assumption) ?_
      rotate_left 1
      focus (intro wS hSw; (try dsimp only at hSw); go_simp; first | done | (constructor <;> with_reducible rfl) | with_reducible rfl)
      (try simp only [Act.put, List.getElem_toArray, List.getElem_cons_zero, List.getElem_cons_succ, List.setIfInBounds_toArray, List.set_cons_zero, List.set_cons_succ])
      refine wpAnyH_ready (rs := [7]) (by kernel_rfl) (by simp) ?_
      refine AllReadyH.cons rfl (fun K hK => ?_) AllReadyH.nil
      (go_simp; refine (Draw.l1Below _ _ _ cu4.drew).mono ?_; rintro x wa ⟨j, j0, j1, rfl, cua, ka⟩; have va := v4.drew.kept ka (by omega); have za := z4.drew.kept ka (by omega); have Ba := B4.drew.trans (ka.below (by omega) B4.size); have s0 := va.cell (i := 0) rfl; have s1 := va.cell (i := 1) rfl; have s2 := va.cell (i := 2) rfl; have s3 := va.cell (i := 3) rfl; have s4 := va.cell (i := 4) rfl; have s5 := va.cell (i := 5) rfl)
      refine hK.out _ _ ?_ (fun hHeld => ?_)
      focus ((try dsimp only) <;> (first | with_reducible exact hHeld | with_reducible exact ⟨s0, s1, s2, s3, s4, s5⟩ | exact ⟨e0, e1, e2, e3, e4, e5⟩))
      clear hK K
      (try simp only [Act.put, List.getElem_toArray, List.getElem_cons_zero, List.getElem_cons_succ, List.setIfInBounds_toArray, List.set_cons_zero, List.set_cons_succ])
      refine wpAnyH_take (i := 8) (v := ?_) rfl (by kernel_rfl) (by kernel_rfl) (by kernel_rfl) (fun _ _ _ h => h) (Or.inl ⟨by rfl, ?_⟩) (by assumption) ?_
      rotate_left 1
      focus (intro wS hSw; (try dsimp only at hSw); go_simp; first | done | (constructor <;> with_reducible rfl) | with_reducible rfl)
      (try simp only [Act.put, List.getElem_toArray, List.getElem_cons_zero, List.getElem_cons_succ, List.setIfInBounds_toArray, List.set_cons_zero, List.set_cons_succ])
      refine wpAnyH_ready (rs := [9]) (by kernel_rfl) (by simp) ?_
      refine AllReadyH.cons rfl (fun K hK => ?_) AllReadyH.nil
      go_simp
      refine hK.out _ _ ?_ (fun hHeld => ?_)
      focus ((try dsimp only) <;> (first | with_reducible exact hHeld | with_reducible exact ⟨s0, s1, s2, s3, s4, s5⟩ | exact ⟨e0, e1, e2, e3, e4, e5⟩))
      clear hK K
      (try simp only [Act.put, List.getElem_toArray, List.getElem_cons_zero, List.getElem_cons_succ, List.setIfInBounds_toArray, List.set_cons_zero, List.set_cons_succ])
      refine wpAnyH_done (by kernel_rfl) ?_ _
      clear e0 e1 e2 e3 e4 e5 s0 s1 s2 s3 s4 s5 v4 z4 cu4 B4 ka hHeld
      obtain ⟨p, hp⟩ : ∃ p : Int, IntKind.i64.wrap (g.ba + j) = p := ⟨_, rfl⟩
      (try rw [hp])
      clear hp j0 j1
      go_wp2_with fail
      refine (Draw.l1Once _ _ _ cua).mono ?_
      rintro x w6 ⟨b2, rfl, cu6, k6⟩
      have v6 := va.kept k6 (by omega)
      have z6 := za.kept k6 (by omega)
      have B6 := Ba.trans (k6.below (by omega) Ba.size)
      clear va za Ba cua k6
      go_upto_if 45 with (fail)
      go_cut [7] from 46 (fun v wr => ∃ p : Int, v = .int .i64 p ∧ Var 25 wr k3 [.int .i64 g.ba, .string g.bs, .int .i64 g.cp, .int .i64 g.lm, .bool g.en, .bool g.dn] ∧ Var 25 wr w.heap.size [.int .i64 0, .string ⟨#[]⟩, .int .i64 0, .int .i64 0, .bool false, .bool false] ∧ Draw.Cur wr (w.heap.size + 1) ∧ Below w.heap.size w wr)
      case first =>
        cases b2
        case false =>
          go_wp2_with fail
          go_meet
          exact ⟨p, rfl, v6, z6, cu6, B6⟩
        case true =>
          have hcl := cu6.lt
          have hkl := v6.lt
          go_wp2_with fail
          refine RegJ.wp_region_J (W := fun d wr => (Var 25 wr k3 [.int .i64 g.ba, .string g.bs, .int .i64 g.cp, .int .i64 g.lm, .bool g.en, .bool g.dn] ∧ Var 25 wr w.heap.size [.int .i64 0, .string ⟨#[]⟩, .int .i64 0, .int .i64 0, .bool false, .bool false] ∧ Draw.Cur wr (w.heap.size + 1) ∧ Below w.heap.size w wr) ∧ w.heap.size + 1 < wr.heap.size) (RegJ.Tell (w.heap.size + 1) [.eq (.pointer (some ⟨k3, 0, none⟩)), .eq (.int .i64 g.ba), .eq (.pointer (some ⟨k3, 1, none⟩)), .eq (.string g.bs), .eq (.int .i64 g.bs.size), .eq (.int .i64 (IntKind.i64.wrap ((g.bs.size : Int) + 1))), .row 2 ([-1, IntKind.i64.wrap ((g.bs.size : Int) + 1)].map (Value.int .i64)), .eq (.pointer (some ⟨w.heap.size + 1, 0, none⟩)), .int 0 1, .elem 2 ([-1, IntKind.i64.wrap ((g.bs.size : Int) + 1)].map (Value.int .i64)), .num, .num, .num]) [some 46, some 47, some 48, some 49, some 50, some 51, some 52, some 53, some 54, some 55, some 56, some 57, some 7] (F := ?_) (is := [0, 1, 2, 3, 4, 5, 6, 7, 8, 9, 10, 11, 12]) hmix (by kernel_rfl) (by kernel_rfl) (by kernel_rfl) (by kernel_rfl) (fun x => ?_) (⟨⟨v6, z6, cu6.drew, B6.drew⟩, hcl⟩) ?_ (fun d x wR hWR hJR => ?_)
          rotate_left 1
          focus (simp only [RegJ.lay, Act.put, Nat.reduceAdd, Nat.zero_add, List.getElem_toArray, List.getElem_cons_zero, List.getElem_cons_succ, List.setIfInBounds_toArray, List.set_cons_zero, List.set_cons_succ]; rfl)
          focus
            refine RegJ.Steps.cons (RegJ.StepAt.mk rfl (fun d x w1 hW1 hJ1 hx1 K hK => ?_)) (RegJ.Steps.cons (RegJ.StepAt.mk rfl (fun d x w1 hW1 hJ1 hx1 K hK => ?_)) (RegJ.Steps.cons (RegJ.StepAt.mk rfl (fun d x w1 hW1 hJ1 hx1 K hK => ?_)) (RegJ.Steps.cons (RegJ.StepAt.mk rfl (fun d x w1 hW1 hJ1 hx1 K hK => ?_)) (RegJ.Steps.cons (RegJ.StepAt.mk rfl (fun d x w1 hW1 hJ1 hx1 K hK => ?_)) (RegJ.Steps.cons (RegJ.StepAt.mk rfl (fun d x w1 hW1 hJ1 hx1 K hK => ?_)) (RegJ.Steps.cons (RegJ.StepAt.mk rfl (fun d x w1 hW1 hJ1 hx1 K hK => ?_)) (RegJ.Steps.cons (RegJ.StepAt.mk rfl (fun d x w1 hW1 hJ1 hx1 K hK => ?_)) (RegJ.Steps.cons (RegJ.StepAt.mk rfl (fun d x w1 hW1 hJ1 hx1 K hK => ?_)) (RegJ.Steps.cons (RegJ.StepAt.mk rfl (fun d x w1 hW1 hJ1 hx1 K hK => ?_)) (RegJ.Steps.cons (RegJ.StepAt.mk rfl (fun d x w1 hW1 hJ1 hx1 K hK => ?_)) (RegJ.Steps.cons (RegJ.StepAt.mk rfl (fun d x w1 hW1 hJ1 hx1 K hK => ?_)) (RegJ.Steps.cons (RegJ.StepAt.mk rfl (fun d x w1 hW1 hJ1 hx1 K hK => ?_)) (RegJ.Steps.nil)))))))))))))
            focus (simp only [List.getElem_toArray, List.getElem_cons_succ, List.getElem_cons_zero] at hK; go_simp; exact hK.out _ _ hW1 RegJ.Tell.same rfl)
            focus (simp only [List.getElem_toArray, List.getElem_cons_succ, List.getElem_cons_zero] at hK; have j0 : x 0 = _ := (hJ1.out 0 (by kernel_rfl)); rw [j0] at hK; obtain ⟨⟨v1, -⟩, -⟩ := id hW1; have e0 := v1.cell (i := 0) rfl; go_simp; exact hK.out _ _ hW1 RegJ.Tell.same rfl)
            focus (simp only [List.getElem_toArray, List.getElem_cons_succ, List.getElem_cons_zero] at hK; go_simp; exact hK.out _ _ hW1 RegJ.Tell.same rfl)
            focus (simp only [List.getElem_toArray, List.getElem_cons_succ, List.getElem_cons_zero] at hK; have j2 : x 2 = _ := (hJ1.out 2 (by kernel_rfl)); rw [j2] at hK; obtain ⟨⟨v1, -⟩, -⟩ := id hW1; have e1 := v1.cell (i := 1) rfl; go_simp; exact hK.out _ _ hW1 RegJ.Tell.same rfl)
            focus (simp only [List.getElem_toArray, List.getElem_cons_succ, List.getElem_cons_zero] at hK; have j3 : x 3 = _ := (hJ1.out 3 (by kernel_rfl)); rw [j3] at hK; go_simp; exact hK.out _ _ hW1 RegJ.Tell.same rfl)
            focus (simp only [List.getElem_toArray, List.getElem_cons_succ, List.getElem_cons_zero] at hK; have j4 : x 4 = _ := (hJ1.out 4 (by kernel_rfl)); rw [j4] at hK; go_simp; exact hK.out _ _ hW1 RegJ.Tell.same rfl)
            focus (simp only [List.getElem_toArray, List.getElem_cons_succ, List.getElem_cons_zero] at hK; have j5 : x 5 = _ := (hJ1.out 5 (by kernel_rfl)); rw [j5] at hK; obtain ⟨⟨v1, z1, cu1, B1⟩, hl1⟩ := id hW1; go_simp; exact hK.out _ _ ⟨⟨v1.alloc _, z1.alloc _, cu1.alloc _, B1.alloc B1.size _⟩, by simp; omega⟩ (RegJ.Tell.keep ((Draw.Kept.refl _ _).alloc _)) ⟨w1.heap.size, hl1, rfl, Var.new _ _⟩)
            focus (simp only [List.getElem_toArray, List.getElem_cons_succ, List.getElem_cons_zero] at hK; go_simp; exact hK.out _ _ hW1 RegJ.Tell.same rfl)
            focus (simp only [List.getElem_toArray, List.getElem_cons_succ, List.getElem_cons_zero] at hK; obtain ⟨⟨v1, z1, cu1, B1⟩, hl1⟩ := id hW1; have j7 : x 7 = _ := (hJ1.out 7 (by kernel_rfl)); rw [j7] at hK; go_simp; refine (Draw.l1Below _ _ _ cu1).mono ?_; rintro e wa ⟨y, y0, y1, rfl, cua, ka⟩; go_simp; exact hK.out _ _ ⟨⟨v1.kept ka (by omega), z1.kept ka (by omega), cua, B1.trans (ka.below (by omega) B1.size)⟩, by have := ka.size; omega⟩ (RegJ.Tell.keep ka) ⟨y, y0, by omega, rfl⟩)
            focus (simp only [List.getElem_toArray, List.getElem_cons_succ, List.getElem_cons_zero] at hK; obtain ⟨b, hb, j6, vb⟩ := (hJ1.out 6 (by kernel_rfl)); obtain ⟨y, y0, y1, j8⟩ := (hJ1.out 8 (by kernel_rfl)); rw [j6, j8] at hK; have hy : y < 2 := (by omega); go_simp; exact hK.out (.pointer (some ⟨b, y.toNat, none⟩)) _ hW1 RegJ.Tell.same ⟨b, y.toNat, hb, (by simp; omega), rfl, vb⟩)
            focus (simp only [List.getElem_toArray, List.getElem_cons_succ, List.getElem_cons_zero] at hK; obtain ⟨b, i, hb, hi, j9, vb⟩ := (hJ1.out 9 (by kernel_rfl)); rw [j9] at hK; obtain ⟨n, hc⟩ := RegJ.int_cell (ns := [-1, IntKind.i64.wrap ((g.bs.size : Int) + 1)]) vb hi; go_simp; exact hK.out (.int .i64 n) _ hW1 RegJ.Tell.same ⟨n, rfl⟩)
            focus (simp only [List.getElem_toArray, List.getElem_cons_succ, List.getElem_cons_zero] at hK; have j1 : x 1 = _ := (hJ1.out 1 (by kernel_rfl)); rw [j1] at hK; obtain ⟨n, j10⟩ := (hJ1.out 10 (by kernel_rfl)); rw [j10] at hK; go_simp; exact hK.out _ _ hW1 RegJ.Tell.same ⟨_, rfl⟩)
            focus (simp only [List.getElem_toArray, List.getElem_cons_succ, List.getElem_cons_zero] at hK; obtain ⟨n, j11⟩ := (hJ1.out 11 (by kernel_rfl)); rw [j11] at hK; go_simp; exact hK.out _ _ hW1 RegJ.Tell.same ⟨_, rfl⟩)
          obtain ⟨n, j12⟩ := hJR 12 (by simp)
          rw [j12]
          clear hJR
          go_wp2_with fail
          go_meet
          exact ⟨n, rfl, hWR.1⟩
      case rest =>
        clear v6 z6 cu6 B6
        obtain ⟨p, rfl, v7, z7, cu7, B7⟩ := hcut
        have hcl := cu7.lt
        go_wp2_with fail
        refine RegJ.wp_region_J (W := fun d w' => Var 25 w' k3 [.int .i64 g.ba, .string g.bs, .int .i64 g.cp, .int .i64 g.lm, .bool g.en, .bool g.dn] ∧ (∃ z0 z1 z2 z3 z4 z5 : Value, Var 25 w' w.heap.size [z0, z1, z2, z3, z4, z5]) ∧ (d 7 = false → Draw.Cur w' (w.heap.size + 1)) ∧ Below w.heap.size w w' ∧ w.heap.size + 1 < w'.heap.size) (RegJ.Tell (w.heap.size + 1) [.eq (.agg #[.int .i64 g.ba, .string g.bs, .int .i64 g.cp, .int .i64 g.lm, .bool g.en, .bool g.dn]), .eq (.int .i64 p), .row 2 ([0, 1, 5, 40, 41, 7].map (Value.int .i64)), .eq (.pointer (some ⟨w.heap.size + 1, 0, none⟩)), .int 0 5, .elem 2 ([0, 1, 5, 40, 41, 7].map (Value.int .i64)), .num, .at 25 w.heap.size [.int .i64 g.ba, .string g.bs, .int .i64 g.cp, .int .i64 g.lm, .bool g.en, .bool g.dn], .eq (.int .i64 p), .num]) [some 58, some 59, some 60, some 61, some 62, some 63, some 64, none, some 3, some 4] (F := ?_) (is := [0, 1, 2, 3, 4, 5, 6, 7, 8, 9]) hmix (by kernel_rfl) (by kernel_rfl) (by kernel_rfl) (by kernel_rfl) (fun x => ?_) (⟨v7, ⟨_, _, _, _, _, _, z7⟩, fun _ => cu7.drew, B7.drew, hcl⟩) ?_ (fun d x wR hWR hJR => ?_)
        rotate_left 1
        focus (simp only [RegJ.lay, Act.put, Nat.reduceAdd, Nat.zero_add, List.getElem_toArray, List.getElem_cons_zero, List.getElem_cons_succ, List.setIfInBounds_toArray, List.set_cons_zero, List.set_cons_succ]; rfl)
        focus
          refine RegJ.Steps.cons (RegJ.StepAt.mk rfl (fun d x w1 hW1 hJ1 hx1 K hK => ?_)) (RegJ.Steps.cons (RegJ.StepAt.mk rfl (fun d x w1 hW1 hJ1 hx1 K hK => ?_)) (RegJ.Steps.cons (RegJ.StepAt.mk rfl (fun d x w1 hW1 hJ1 hx1 K hK => ?_)) (RegJ.Steps.cons (RegJ.StepAt.mk rfl (fun d x w1 hW1 hJ1 hx1 K hK => ?_)) (RegJ.Steps.cons (RegJ.StepAt.mk rfl (fun d x w1 hW1 hJ1 hx1 K hK => ?_)) (RegJ.Steps.cons (RegJ.StepAt.mk rfl (fun d x w1 hW1 hJ1 hx1 K hK => ?_)) (RegJ.Steps.cons (RegJ.StepAt.mk rfl (fun d x w1 hW1 hJ1 hx1 K hK => ?_)) (RegJ.Steps.cons (RegJ.StepAt.mk rfl (fun d x w1 hW1 hJ1 hx1 K hK => ?_)) (RegJ.Steps.cons (RegJ.StepAt.mk rfl (fun d x w1 hW1 hJ1 hx1 K hK => ?_)) (RegJ.Steps.cons (RegJ.StepAt.mk rfl (fun d x w1 hW1 hJ1 hx1 K hK => ?_)) (RegJ.Steps.nil))))))))))
          focus (simp only [List.getElem_toArray, List.getElem_cons_succ, List.getElem_cons_zero] at hK; obtain ⟨v1, -⟩ := id hW1; have e0 := v1.cell (i := 0) rfl; have e1 := v1.cell (i := 1) rfl; have e2 := v1.cell (i := 2) rfl; have e3 := v1.cell (i := 3) rfl; have e4 := v1.cell (i := 4) rfl; have e5 := v1.cell (i := 5) rfl; go_simp; exact hK.out _ _ hW1 RegJ.Tell.same rfl)
          focus (simp only [List.getElem_toArray, List.getElem_cons_succ, List.getElem_cons_zero] at hK; go_simp; exact hK.out _ _ hW1 RegJ.Tell.same rfl)
          focus (simp only [List.getElem_toArray, List.getElem_cons_succ, List.getElem_cons_zero] at hK; obtain ⟨v1, ⟨z0, z1', z2, z3, z4, z5, z1⟩, cu1, B1, hl1⟩ := id hW1; go_simp; exact hK.out _ _ ⟨v1.alloc _, ⟨_, _, _, _, _, _, z1.alloc _⟩, fun h => (cu1 (by simpa using h)).alloc _, B1.alloc B1.size _, by simp; omega⟩ (RegJ.Tell.keep ((Draw.Kept.refl _ _).alloc _)) ⟨w1.heap.size, hl1, rfl, Var.new _ _⟩)
          focus (simp only [List.getElem_toArray, List.getElem_cons_succ, List.getElem_cons_zero] at hK; go_simp; exact hK.out _ _ hW1 RegJ.Tell.same rfl)
          focus (simp only [List.getElem_toArray, List.getElem_cons_succ, List.getElem_cons_zero] at hK; obtain ⟨v1, ⟨z0, z1', z2, z3, z4, z5, z1⟩, cu1, B1, hl1⟩ := id hW1; have j3 : x 3 = _ := (hJ1.out 3 (by kernel_rfl)); rw [j3] at hK; go_simp; refine (Draw.l1Below _ _ _ (cu1 (hx1.out 7 (.inr (by kernel_rfl))).1)).mono ?_; rintro e wa ⟨y, y0, y1, rfl, cua, ka⟩; go_simp; exact hK.out _ _ ⟨v1.kept ka (by omega), ⟨_, _, _, _, _, _, z1.kept ka (by omega)⟩, fun _ => cua, B1.trans (ka.below (by omega) B1.size), by have := ka.size; omega⟩ (RegJ.Tell.keep ka) ⟨y, y0, by omega, rfl⟩)
          focus (simp only [List.getElem_toArray, List.getElem_cons_succ, List.getElem_cons_zero] at hK; obtain ⟨b, hb, j2, vb⟩ := (hJ1.out 2 (by kernel_rfl)); obtain ⟨y, y0, y1, j4⟩ := (hJ1.out 4 (by kernel_rfl)); rw [j2, j4] at hK; have hy : y < 6 := (by omega); go_simp; exact hK.out (.pointer (some ⟨b, y.toNat, none⟩)) _ hW1 RegJ.Tell.same ⟨b, y.toNat, hb, (by simp; omega), rfl, vb⟩)
          focus (simp only [List.getElem_toArray, List.getElem_cons_succ, List.getElem_cons_zero] at hK; obtain ⟨b, i, hb, hi, j5, vb⟩ := (hJ1.out 5 (by kernel_rfl)); rw [j5] at hK; obtain ⟨n, hc⟩ := RegJ.int_cell (ns := [0, 1, 5, 40, 41, 7]) vb hi; go_simp; exact hK.out (.int .i64 n) _ hW1 RegJ.Tell.same ⟨n, rfl⟩)
          focus (simp only [List.getElem_toArray, List.getElem_cons_succ, List.getElem_cons_zero] at hK; obtain ⟨v1, ⟨z0, z1', z2, z3, z4, z5, z1⟩, cu1, B1, hl1⟩ := id hW1; have q0 := z1.cell (i := 0) rfl; have y0 := z1.free 0; have q1 := z1.cell (i := 1) rfl; have y1 := z1.free 1; have q2 := z1.cell (i := 2) rfl; have y2 := z1.free 2; have q3 := z1.cell (i := 3) rfl; have y3 := z1.free 3; have q4 := z1.cell (i := 4) rfl; have y4 := z1.free 4; have q5 := z1.cell (i := 5) rfl; have y5 := z1.free 5; have j0 : x 0 = _ := (hJ1.out 0 (by kernel_rfl)); rw [j0] at hK; have kp := Tak.kept_put6 (Draw.Kept.refl w.heap.size w1) (.inl rfl) (.int .i64 g.ba) (.string g.bs) (.int .i64 g.cp) (.int .i64 g.lm) (.bool g.en) (.bool g.dn); have zf : Var 25 (Tak.put6 w1 w.heap.size (.int .i64 g.ba) (.string g.bs) (.int .i64 g.cp) (.int .i64 g.lm) (.bool g.en) (.bool g.dn)) w.heap.size [.int .i64 g.ba, .string g.bs, .int .i64 g.cp, .int .i64 g.lm, .bool g.en, .bool g.dn] := (((((z1.set 0 _).set 1 _).set 2 _).set 3 _).set 4 _).set 5 _; go_simp; exact hK.out undef _ ⟨v1.kept kp (by omega), ⟨_, _, _, _, _, _, zf⟩, fun h => absurd h (by simp), Tak.below_put6 B1 (Nat.le_refl _) _ _ _ _ _ _, Nat.lt_of_lt_of_le hl1 kp.size⟩ (RegJ.Tell.stored (by kernel_rfl) kp (by omega)) ⟨by omega, zf⟩)
          focus (simp only [List.getElem_toArray, List.getElem_cons_succ, List.getElem_cons_zero] at hK; have j1 : x 1 = _ := (hJ1.out 1 (by kernel_rfl)); rw [j1] at hK; go_simp; exact hK.out _ _ hW1 RegJ.Tell.same rfl)
          focus (simp only [List.getElem_toArray, List.getElem_cons_succ, List.getElem_cons_zero] at hK; obtain ⟨u, j6⟩ := (hJ1.out 6 (by kernel_rfl)); rw [j6] at hK; go_simp; exact hK.out _ _ hW1 RegJ.Tell.same ⟨u, rfl⟩)
        obtain ⟨-, z8⟩ := hJR 7 (by simp)
        have j8 : x 8 = _ := hJR 8 (by simp)
        obtain ⟨u, j9⟩ := hJR 9 (by simp)
        rw [j8, j9]
        clear hJR
        obtain ⟨-, -, -, B8, -⟩ := hWR
        have q0 := z8.cell (i := 0) rfl
        have q1 := z8.cell (i := 1) rfl
        have q2 := z8.cell (i := 2) rfl
        have q3 := z8.cell (i := 3) rfl
        have q4 := z8.cell (i := 4) rfl
        have q5 := z8.cell (i := 5) rfl
        go_wp2_with fail
        refine bodyPost_ret (v := .tuple #[.agg #[.int .i64 g.ba, .string g.bs, .int .i64 g.cp, .int .i64 g.lm, .bool g.en, .bool g.dn], .int .i64 p, .int .i64 u]) (by rw [res_cell_tmp2 rfl]; go_simp; done) rfl ⟨g, p, u, hg, rfl, ?_⟩
        exact B8

end Go.Proofs.Ytanbdccnlelmoaa.Giv

/- Draws of chapter 5: DrawTakes; at most 4096 bytes. -/
import Derived.Test.YtinngechdnglpaaDrawV
import Derived.Test.YtinngechdnglpaaDrawW
import Derived.Test.YtinngechdnglpaaDrawT
namespace Go.Proofs.Ytinngechdnglpaa.Tak
open Go.RowKit RowG
set_option linter.unusedVariables false
set_option linter.unusedSimpArgs false

theorem res_cell_tmp3 {fn : Func} {p u v x : Tmp} {ty : TypeId} (h : fn.results = #[.cell p ty, .tmp u, .tmp v, .tmp x]) (tmps : Array Value) (P : Program) (w : World) :
    (results fn tmps).run P w = ((asAddr (tmps.getD p undef)).run P w).andThen fun a w₁ => ((loadVar ty a).run P w₁).andThen fun r w₂ => .ok (.tuple #[r, tmps.getD u undef, tmps.getD v undef, tmps.getD x undef]) w₂ := by
  simp only [results, h]
  simp [Sem.run_bind, Result.andThen]
theorem made_u8 (n : Nat) : (madeCells #[Value.int .u8 0] n).toList = (List.replicate n (0 : UInt8)).map fun b => Value.int .u8 (b.toNat : Int) := by
  apply List.ext_getElem
  · simp [madeCells]
  · intro i h1 h2
    have e : i % 1 = 0 := Nat.mod_one i
    simp [madeCells, e]
theorem made_row1 {w : World} {B g n cap : Nat} (h : w.ownsRow B 5 1 (.slice (some ⟨g, 0, none⟩) n cap) n (madeCells (Value.int .u8 0).cells (n * 1)).toList) : Draw.Row w g (List.replicate n 0) := by
  rw [Nat.mul_one] at h
  have h : w.ownsRow B 5 1 (.slice (some ⟨g, 0, none⟩) n cap) n (madeCells #[Value.int .u8 0] n).toList := h
  rw [made_u8] at h
  exact (Draw.Row.ofOwn h).2.2

set_option maxRecDepth 10000 in
set_option maxHeartbeats 4000000 in
theorem drawTakes (a : Option Addr) (len cap : Nat) (w : World) (hb : Draw.Bytes w a len) (hl : len ≤ 4096) :
    Calls Try.prog 6 #[.slice a len cap] w fun x w' => ∃ t : Tk, good t ∧ ∃ (a' : Option Addr) (c' : Nat) (p : Int) (bz : ByteArray) (e : Bool), (-1 ≤ p ∧ p ≤ 4611686018427388000) ∧ bz.size ≤ 41 ∧ x = .returned (.tuple #[t.v a' c', .int .i64 p, .string bz, .bool e]) ∧ partE.Own 53 w' w.heap.size a' c' t.l ∧ Below w.heap.size w w' := by
  have hmix := mix
  have z2 : Var 26 (w.alloc (.cells #[.int .i64 0, .string ⟨#[]⟩, .slice none 0 0, .int .i64 0, .int .i64 0, .bool false] 26)) w.heap.size [.int .i64 0, .string ⟨#[]⟩, .slice none 0 0, .int .i64 0, .int .i64 0, .bool false] := Var.new w _
  have b0 : Below w.heap.size w (w.alloc (.cells #[.int .i64 0, .string ⟨#[]⟩, .slice none 0 0, .int .i64 0, .int .i64 0, .bool false] 26)) := (Below.refl _ _).alloc (Nat.le_refl _) _
  have hs0 : (w.alloc (.cells #[.int .i64 0, .string ⟨#[]⟩, .slice none 0 0, .int .i64 0, .int .i64 0, .bool false] 26)).heap.size = w.heap.size + 1 := by simp
  have hb0 := hb.below b0 (Nat.le_refl _)
  go_enter Try.func6, Try.ntmps6
  go_wp2_with fail
  generalize hW0 : w.alloc (.cells #[.int .i64 0, .string ⟨#[]⟩, .slice none 0 0, .int .i64 0, .int .i64 0, .bool false] 26) = W0 at *
  clear hW0
  refine (Draw.l1New a len cap _ hb0 hl).mono ?_
  rintro x w1 ⟨rfl, hh, hw1⟩
  have c1 : Draw.Cur w1 W0.heap.size := by rw [hw1]; exact Draw.cur_new hb0 hl hh _
  have b1 : Below W0.heap.size W0 w1 := by rw [hw1]; exact (Below.refl _ _).alloc (Nat.le_refl _) _
  have h1 : W0.heap.size < w1.heap.size := by rw [hw1]; simp
  have z1 := z2.later b1
  have B1 := b0.trans (b1.mono b0.size)
  clear hw1 z2 b1 hb0
  rw [hs0] at c1 h1
  rw [hs0]
  clear hs0 b0
  go_wp2_with fail
  refine (l5DrawAny _ _ c1).mono ?_
  rintro x w2 ⟨t, hg, a1, c1', rfl, o2, cu2, k2⟩
  have z2 := z1.kept k2 (by omega)
  have B2 : Below w.heap.size w w2 := B1.trans (k2.below (by omega) B1.size)
  have hx1 : Hid (∀ x, a1 = some x → w.heap.size + 1 < x.block) := fun x e => Nat.lt_of_lt_of_le h1 (o2.lt x e).1
  have o2 := o2.mono (Nat.le_of_lt (Nat.lt_trans (Nat.lt_succ_self _) h1))
  have HG : Hid _ := hg
  have v3 : Var 26 (w2.alloc (.cells #[.int .i64 t.nx, .string t.bs, .slice a1 t.l.length c1', .int .i64 t.cp, .int .i64 t.fi, .bool t.en] 26)) w2.heap.size [.int .i64 t.nx, .string t.bs, .slice a1 t.l.length c1', .int .i64 t.cp, .int .i64 t.fi, .bool t.en] := Var.new w2 _
  have o3 := o2.alloc (.cells #[.int .i64 t.nx, .string t.bs, .slice a1 t.l.length c1', .int .i64 t.cp, .int .i64 t.fi, .bool t.en] 26)
  have z3 := z2.alloc (.cells #[.int .i64 t.nx, .string t.bs, .slice a1 t.l.length c1', .int .i64 t.cp, .int .i64 t.fi, .bool t.en] 26)
  have cu3 := cu2.alloc (.cells #[.int .i64 t.nx, .string t.bs, .slice a1 t.l.length c1', .int .i64 t.cp, .int .i64 t.fi, .bool t.en] 26)
  have B3 : Below w.heap.size w (w2.alloc (.cells #[.int .i64 t.nx, .string t.bs, .slice a1 t.l.length c1', .int .i64 t.cp, .int .i64 t.fi, .bool t.en] 26)) := B2.alloc B2.size _
  have hk3 : w.heap.size + 1 < w2.heap.size := cu2.lt
  obtain ⟨g1, g2, g3, g4, g5⟩ := hg
  clear z1 z2 B1 B2 k2 cu2 c1 o2 g1
  dsimp only [Tk.v]
  go_upto_region 3 with (fail)
  generalize w2.alloc (.cells #[.int .i64 t.nx, .string t.bs, .slice a1 t.l.length c1', .int .i64 t.cp, .int .i64 t.fi, .bool t.en] 26) = W at *
  generalize w2.heap.size = k3 at *
  have hk3l : k3 < W.heap.size := v3.lt
  have e0 := v3.cell (i := 0) rfl
  have e1 := v3.cell (i := 1) rfl
  have e2 := v3.cell (i := 2) rfl
  have e3 := v3.cell (i := 3) rfl
  have e4 := v3.cell (i := 4) rfl
  have e5 := v3.cell (i := 5) rfl
  go_wp2_with fail
  refine wp_region_held_drew (S := (fun w' => w'.cell? ⟨k3, 0, none⟩ = some (.int .i64 t.nx))) (by kernel_rfl) ?_ (fun hHeld => ?_)
  focus ((try dsimp only) <;> (first | exact e0 | exact hHeld | exact s0))
  refine wpAnyH_take (i := 0) (v := ?_) rfl (by kernel_rfl) (by kernel_rfl) (by kernel_rfl) (fun _ _ _ h => h) (Or.inl ⟨by rfl, ?_⟩) (by assumption) ?_
  rotate_left 1
  focus (intro wS hSw; (try dsimp only at hSw); go_simp; first | done | (constructor <;> with_reducible rfl) | with_reducible rfl)
  (try simp only [Act.put, List.getElem_toArray, List.getElem_cons_zero, List.getElem_cons_succ, List.setIfInBounds_toArray, List.set_cons_zero, List.set_cons_succ])
  refine wpAnyH_take (i := 1) (v := ?_) rfl (by kernel_rfl) (by kernel_rfl) (by kernel_rfl) (fun _ _ _ h => h) (Or.inl ⟨by rfl, ?_⟩) (by assumption) ?_
  rotate_left 1
  focus (intro wS hSw; (try dsimp only at hSw); go_simp; first | done | (constructor <;> with_reducible rfl) | with_reducible rfl)
  (try simp only [Act.put, List.getElem_toArray, List.getElem_cons_zero, List.getElem_cons_succ, List.setIfInBounds_toArray, List.set_cons_zero, List.set_cons_succ])
  refine wpAnyH_take (i := 2) (v := ?_) rfl (by kernel_rfl) (by kernel_rfl) (by kernel_rfl) (fun _ _ _ h => h) (Or.inl ⟨by rfl, ?_⟩) (by assumption) ?_
  rotate_left 1
  focus (intro wS hSw; (try dsimp only at hSw); go_simp; first | done | (constructor <;> with_reducible rfl) | with_reducible rfl)
  (try simp only [Act.put, List.getElem_toArray, List.getElem_cons_zero, List.getElem_cons_succ, List.setIfInBounds_toArray, List.set_cons_zero, List.set_cons_succ])
  refine wpAnyH_ready (rs := [3]) (by kernel_rfl) (by simp) ?_
  refine AllReadyH.cons rfl (fun K hK => ?_) AllReadyH.nil
  (go_simp; refine (Draw.l1Below _ _ _ cu3.drew).mono ?_; rintro x wa ⟨j, j0, j1, rfl, cua, ka⟩; have j2 : j ≤ 11 := (by omega); have va := v3.drew.kept ka (by omega); have s0 := va.cell (i := 0) rfl; obtain ⟨p, hp⟩ : ∃ p, p = (if t.nx + j - 4 < 0 then 0 else t.nx + j - 4) := ⟨_, rfl⟩; have hM : ∀ w', Calls Try.prog 24 #[.int .i64 0, .int .i64 (IntKind.i64.wrap (IntKind.i64.wrap (t.nx + j) - 4))] w' fun e w'' => e = .returned (.int .i64 p) ∧ w' = w'' := (fun w' => by rw [show IntKind.i64.wrap (t.nx + j) = t.nx + j by rw [IntKind.wrap_i64]; omega, show IntKind.i64.wrap (t.nx + j - 4) = t.nx + j - 4 by rw [IntKind.wrap_i64]; omega, hp]; exact Draw.l1Max 0 _ w'); have p0 : 0 ≤ p := (by rw [hp]; split <;> omega); have p1 : p ≤ 4611686018427388000 := (by rw [hp]; split <;> omega); have HM : Hid _ := hM; clear hp hM)
  refine hK.out _ _ ?_ (fun hHeld => ?_)
  focus ((try dsimp only) <;> (first | exact e0 | exact hHeld | exact s0))
  clear hK K
  (try simp only [Act.put, List.getElem_toArray, List.getElem_cons_zero, List.getElem_cons_succ, List.setIfInBounds_toArray, List.set_cons_zero, List.set_cons_succ])
  refine wpAnyH_take (i := 4) (v := ?_) rfl (by kernel_rfl) (by kernel_rfl) (by kernel_rfl) (fun _ _ _ h => h) (Or.inl ⟨by rfl, ?_⟩) (by assumption) ?_
  rotate_left 1
  focus (intro wS hSw; (try dsimp only at hSw); go_simp; first | done | (constructor <;> with_reducible rfl) | with_reducible rfl)
  (try simp only [Act.put, List.getElem_toArray, List.getElem_cons_zero, List.getElem_cons_succ, List.setIfInBounds_toArray, List.set_cons_zero, List.set_cons_succ])
  refine wpAnyH_take (i := 5) (v := ?_) rfl (by kernel_rfl) (by kernel_rfl) (by kernel_rfl) (fun _ _ _ h => h) (Or.inl ⟨by rfl, ?_⟩) (by assumption) ?_
  rotate_left 1
  focus (intro wS hSw; (try dsimp only at hSw); go_simp; first | done | (constructor <;> with_reducible rfl) | with_reducible rfl)
  (try simp only [Act.put, List.getElem_toArray, List.getElem_cons_zero, List.getElem_cons_succ, List.setIfInBounds_toArray, List.set_cons_zero, List.set_cons_succ])
  refine Draw.take_call (i := 6) (v := ?_) rfl (by kernel_rfl) (by kernel_rfl) (by kernel_rfl) (fun _ _ _ h => h) (by assumption) (by rfl) ?_ ?_ ?_ ?_ ?_
  rotate_left 3
  focus (intro wS hSw; (try dsimp only at hSw); go_simp; first | done | (constructor <;> with_reducible rfl) | with_reducible rfl)
  focus (intro wS hSw; (try dsimp only at hSw); refine (HM.out _).mono ?_; rintro eC wC ⟨rfl, rfl⟩; (constructor <;> with_reducible rfl))
  (try simp only [Act.put, List.getElem_toArray, List.getElem_cons_zero, List.getElem_cons_succ, List.setIfInBounds_toArray, List.set_cons_zero, List.set_cons_succ])
  refine wpAnyH_ready (rs := [7]) (by kernel_rfl) (by simp) ?_
  refine AllReadyH.cons rfl (fun K hK => ?_) AllReadyH.nil
  go_simp
  refine hK.out _ _ ?_ (fun hHeld => ?_)
  focus ((try dsimp only) <;> (first | exact e0 | exact hHeld | exact s0))
  clear hK K
  (try simp only [Act.put, List.getElem_toArray, List.getElem_cons_zero, List.getElem_cons_succ, List.setIfInBounds_toArray, List.set_cons_zero, List.set_cons_succ])
  refine wpAnyH_done (by kernel_rfl) ?_ _
  have oa := (El.Own.drew o3).kept ka (fun x e => by have := hx1.out x e; omega)
  have za := z3.drew.kept ka (by omega)
  have Ba := B3.drew.trans (ka.below (by omega) B3.size)
  clear HM s0 e0 e1 e2 e3 e4 e5 j0 j1 j2 ka v3 o3 z3 B3 cu3 g4 g5
  obtain ⟨p2, hp2⟩ : ∃ p2, p2 = (if p < 1000000000 then p else 1000000000) := ⟨_, rfl⟩
  have hN : ∀ w', Calls Try.prog 27 #[.int .i64 p, .int .i64 1000000000] w' fun e w'' => e = .returned (.int .i64 p2) ∧ w' = w'' := fun w' => by rw [hp2]; exact l1Min p _ w'
  have p20 : 0 ≤ p2 := by rw [hp2]; split <;> omega
  have p21 : p2 ≤ 4000000000 := by rw [hp2]; split <;> omega
  clear hp2
  go_wp2_with fail
  refine (hN _).mono ?_
  rintro x wb ⟨rfl, rfl⟩
  go_wp2_with fail
  refine (Draw.l1Below _ _ _ cua).mono ?_
  rintro x wb ⟨j, j0, j1, rfl, cub, kb⟩
  have j2 : j ≤ 4096 := by omega
  have j3 : j ≤ 41 := by omega
  go_wp2_with fail
  refine (Draw.l5Text p2 j _ p20 p21 j0 j2).mono ?_
  rintro x wc ⟨s, hs, rfl, bc⟩
  have hs41 : s.size ≤ 41 := by omega
  have cuc := cub.below bc (Nat.le_refl _)
  have kc := kb.trans (Draw.Kept.ofBelow bc (Nat.le_refl _))
  have vc := va.kept kc (by omega)
  have oc := oa.kept kc (fun x e => by have := hx1.out x e; omega)
  have zc := za.kept kc (by omega)
  have Bc := Ba.trans (kc.below (by omega) Ba.size)
  clear hN p20 p21 hs j0 j1 j2 j3 kb bc kc va oa za Ba cua cub
  go_wp2_with fail
  refine (Draw.l1Once _ _ _ cuc).mono ?_
  rintro x wd ⟨b, rfl, cud, kd⟩
  have vd := vc.kept kd (by omega)
  have od := oc.kept kd (fun x e => by have := hx1.out x e; omega)
  have zd := zc.kept kd (by omega)
  have Bd := Bc.trans (kd.below (by omega) Bc.size)
  clear vc oc zc Bc cuc kd
  have pm : -1 ≤ p := by omega
  clear p0
  cases b
  focus
    go_wp2_with fail
  rotate_left
  focus
    clear pm p1
    go_wp2_with fail
    refine (l1DrawPlaceB _ _ cud).mono ?_
    rintro x we ⟨p, ⟨pm, p1⟩, rfl, cue, ke⟩
    replace p1 : p ≤ 4611686018427388000 := by omega
    replace vd := vd.kept ke (by omega)
    replace od := od.kept ke (fun x e => by have := hx1.out x e; omega)
    replace zd := zd.kept ke (by omega)
    replace Bd := Bd.trans (ke.below (by omega) Bd.size)
    replace cud := cue
    clear ke cue
    go_wp2_with fail
  all_goals
    refine (Draw.l1Once _ _ _ cud).mono ?_
    rintro x we ⟨b, rfl, cue, ke⟩
    have ve := vd.kept ke (by omega)
    have oe := od.kept ke (fun x e => by have := hx1.out x e; omega)
    have ze := zd.kept ke (by omega)
    have Be := Bd.trans (ke.below (by omega) Bd.size)
    clear vd od zd Bd cud ke
    cases b
    focus
      go_wp2_with fail
    rotate_left
    focus
      clear hs41
      go_wp2_with fail
      refine (Draw.l1Below _ _ _ cue).mono ?_
      rintro x wf ⟨q, q0, q1, rfl, cuf, kf⟩
      have q2 : q < 2 := by omega
      obtain ⟨n, hn⟩ : ∃ n : Nat, 40 + q = (n : Int) := ⟨(40 + q).toNat, by omega⟩
      have hn41 : n ≤ 41 := by omega
      have HNN : Hid _ := hn
      clear q1 hn
      obtain ⟨i, hi, hz0, hz1, hz2⟩ := info_parts Draw.infoU8
      have hby : i.bytes * n ≤ 281474976710656 := by rw [hz2]; omega
      have hmx : n ≤ maxLen := by unfold maxLen; omega
      go_wp2_with (at_make; refine wpList_make_full _ (by rfl) _ _ 22 (by rfl) wf.heap.size 5 i (.int .u8 0) 1 Try.underlying22 hi hz0 hz1 .i64 .i64 _ _ n (by rfl) (by rfl) HNN.out HNN.out hby hmx (Nat.le_refl _) ?_; intro wg hown hgrow; have hback := Draw.text_byteRow (made_row1 hown) n n (by simp))
      have hg : Below wf.heap.size wf wg := ⟨hgrow.os, hgrow.tape, hgrow.output, hgrow.size, fun k hk => hgrow.block k hk (by simp)⟩
      replace ve := (ve.kept kf (by omega)).later hg
      replace oe := (oe.kept kf (fun x e => by have := hx1.out x e; omega)).later hg
      replace ze := (ze.kept kf (by omega)).later hg
      replace Be := (Be.trans (kf.below (by omega) Be.size)).trans (hg.mono (Nat.le_trans Be.size kf.size))
      replace cue := cuf.below hg (Nat.le_refl _)
      have hs41 : (ByteArray.mk (Array.replicate n (0 : UInt8))).size ≤ 41 := by show (Array.replicate n (0 : UInt8)).size ≤ 41; simpa using hn41
      clear cuf kf hg hgrow hown hback hi hz0 hz1 hz2 hby hmx HNN hn41 q0 q2
      generalize ByteArray.mk (Array.replicate n (0 : UInt8)) = s at *
    all_goals
      have e0 := ve.cell (i := 0) rfl
      have e1 := ve.cell (i := 1) rfl
      have e2 := ve.cell (i := 2) rfl
      have e3 := ve.cell (i := 3) rfl
      have e4 := ve.cell (i := 4) rfl
      have e5 := ve.cell (i := 5) rfl
      refine Draw.wp_region_Y (S := (fun w' => w'.cell? ⟨k3, 0, none⟩ = some (.int .i64 t.nx) ∧ w'.cell? ⟨k3, 1, none⟩ = some (.string t.bs) ∧ w'.cell? ⟨k3, 2, none⟩ = some (.slice a1 t.l.length c1') ∧ w'.cell? ⟨k3, 3, none⟩ = some (.int .i64 t.cp) ∧ w'.cell? ⟨k3, 4, none⟩ = some (.int .i64 t.fi) ∧ w'.cell? ⟨k3, 5, none⟩ = some (.bool t.en))) 8 (by kernel_rfl) ?_ (fun hHeld => ?_)
      focus ((try dsimp only) <;> (first | with_reducible exact hHeld | with_reducible exact ⟨s0, s1, s2, s3, s4, s5⟩ | with_reducible exact keep6 hHeld (by omega) _ _ _ _ _ _ | exact ⟨e0, e1, e2, e3, e4, e5⟩))
      refine Draw.wpAnyY_take (i := 0) (v := ?_) rfl (by kernel_rfl) (by kernel_rfl) (by kernel_rfl) (by kernel_rfl) (fun _ _ _ h => h) (Or.inl ⟨by rfl, ?_⟩) (by assumption) ?_
      rotate_left 1
      focus (intro wS hSw; (try dsimp only at hSw); go_simp; first | done | (constructor <;> with_reducible rfl) | with_reducible rfl)
      (try simp only [Act.put, List.getElem_toArray, List.getElem_cons_zero, List.getElem_cons_succ, List.setIfInBounds_toArray, List.set_cons_zero, List.set_cons_succ])
      refine Draw.wpAnyY_take (i := 1) (v := ?_) rfl (by kernel_rfl) (by kernel_rfl) (by kernel_rfl) (by kernel_rfl) (fun _ _ _ h => h) (Or.inl ⟨by rfl, ?_⟩) (by assumption) ?_
      rotate_left 1
      focus (intro wS hSw; (try dsimp only at hSw); go_simp; first | done | (constructor <;> with_reducible rfl) | with_reducible rfl)
      (try simp only [Act.put, List.getElem_toArray, List.getElem_cons_zero, List.getElem_cons_succ, List.setIfInBounds_toArray, List.set_cons_zero, List.set_cons_succ])
      refine Draw.wpAnyY_take (i := 2) (v := ?_) rfl (by kernel_rfl) (by kernel_rfl) (by kernel_rfl) (by kernel_rfl) (fun _ _ _ h => h) (Or.inl ⟨by rfl, ?_⟩) (by assumption) ?_
      rotate_left 1
      focus (intro wS hSw; (try dsimp only at hSw); go_simp; first | done | (constructor <;> with_reducible rfl) | with_reducible rfl)
      (try simp only [Act.put, List.getElem_toArray, List.getElem_cons_zero, List.getElem_cons_succ, List.setIfInBounds_toArray, List.set_cons_zero, List.set_cons_succ])
      refine Draw.wpAnyY_take (i := 3) (v := ?_) rfl (by kernel_rfl) (by kernel_rfl) (by kernel_rfl) (by kernel_rfl) (fun _ _ _ h => h) (Or.inl ⟨by rfl, ?_⟩) (by assumption) ?_
      rotate_left 1
      focus (intro wS hSw; (try dsimp only at hSw); go_simp; first | done | (constructor <;> with_reducible rfl) | with_reducible rfl)
      (try simp only [Act.put, List.getElem_toArray, List.getElem_cons_zero, List.getElem_cons_succ, List.setIfInBounds_toArray, List.set_cons_zero, List.set_cons_succ])
      refine Draw.wpAnyY_ready (rs := [4]) (by kernel_rfl) (by simp) ?_
      refine Draw.AllReadyY.cons rfl (fun K hK => ?_) Draw.AllReadyY.nil
      (go_simp; refine (Draw.l1Once _ _ _ cue.drew).mono ?_; rintro x wa ⟨e, rfl, cua, ka⟩; have va := ve.drew.kept ka (by omega); have oa := (El.Own.drew oe).kept ka (fun x e => by have := hx1.out x e; omega); have za := ze.drew.kept ka (by omega); have Ba := Be.drew.trans (ka.below (by omega) Be.size); have s0 := va.cell (i := 0) rfl; have s1 := va.cell (i := 1) rfl; have s2 := va.cell (i := 2) rfl; have s3 := va.cell (i := 3) rfl; have s4 := va.cell (i := 4) rfl; have s5 := va.cell (i := 5) rfl; have q0 := za.cell (i := 0) rfl; have q1 := za.cell (i := 1) rfl; have q2 := za.cell (i := 2) rfl; have q3 := za.cell (i := 3) rfl; have q4 := za.cell (i := 4) rfl; have q5 := za.cell (i := 5) rfl; have x0 := za.free 0; have x1 := za.free 1; have x2 := za.free 2; have x3 := za.free 3; have x4 := za.free 4; have x5 := za.free 5)
      refine hK.out _ _ ?_ (fun hHeld2 => ?_)
      focus (intro _ _; (try dsimp only) <;> (first | with_reducible exact hHeld | with_reducible exact ⟨s0, s1, s2, s3, s4, s5⟩ | with_reducible exact keep6 hHeld (by omega) _ _ _ _ _ _ | exact ⟨e0, e1, e2, e3, e4, e5⟩))
      clear hK K
      replace hHeld := hHeld2 (by decide) hHeld
      clear hHeld2
      (try simp only [Act.put, List.getElem_toArray, List.getElem_cons_zero, List.getElem_cons_succ, List.setIfInBounds_toArray, List.set_cons_zero, List.set_cons_succ])
      refine Draw.wpAnyY_ready (rs := [5]) (by kernel_rfl) (by simp) ?_
      refine Draw.AllReadyY.cons rfl (fun K hK => ?_) Draw.AllReadyY.nil
      go_simp
      refine hK.out _ _ ?_ (fun hHeld2 => ?_)
      focus (intro _ _; (try dsimp only) <;> (first | with_reducible exact hHeld | with_reducible exact ⟨s0, s1, s2, s3, s4, s5⟩ | with_reducible exact keep6 hHeld (by omega) _ _ _ _ _ _ | exact ⟨e0, e1, e2, e3, e4, e5⟩))
      clear hK K
      replace hHeld := hHeld2 (by decide) hHeld
      clear hHeld2
      (try simp only [Act.put, List.getElem_toArray, List.getElem_cons_zero, List.getElem_cons_succ, List.setIfInBounds_toArray, List.set_cons_zero, List.set_cons_succ])
      refine Draw.wpAnyY_ready (rs := [6]) (by kernel_rfl) (by simp) ?_
      refine Draw.AllReadyY.cons rfl (fun K hK => ?_) Draw.AllReadyY.nil
      go_simp
      refine hK.out _ _ ?_ (fun hHeld2 => ?_)
      focus (intro _ _; (try dsimp only) <;> (first | with_reducible exact hHeld | with_reducible exact ⟨s0, s1, s2, s3, s4, s5⟩ | with_reducible exact keep6 hHeld (by omega) _ _ _ _ _ _ | exact ⟨e0, e1, e2, e3, e4, e5⟩))
      clear hK K
      replace hHeld := hHeld2 (by decide) hHeld
      clear hHeld2
      (try simp only [Act.put, List.getElem_toArray, List.getElem_cons_zero, List.getElem_cons_succ, List.setIfInBounds_toArray, List.set_cons_zero, List.set_cons_succ])
      refine Draw.wpAnyY_ready (rs := [7]) (by kernel_rfl) (by simp) ?_
      refine Draw.AllReadyY.cons rfl (fun K hK => ?_) Draw.AllReadyY.nil
      go_simp
      refine hK.out _ _ ?_ (fun hHeld2 => ?_)
      focus (intro _ _; (try dsimp only) <;> (first | with_reducible exact hHeld | with_reducible exact ⟨s0, s1, s2, s3, s4, s5⟩ | with_reducible exact keep6 hHeld (by omega) _ _ _ _ _ _ | exact ⟨e0, e1, e2, e3, e4, e5⟩))
      clear hK K
      replace hHeld := hHeld2 (by decide) hHeld
      clear hHeld2
      (try simp only [Act.put, List.getElem_toArray, List.getElem_cons_zero, List.getElem_cons_succ, List.setIfInBounds_toArray, List.set_cons_zero, List.set_cons_succ])
      refine Draw.wpAnyY_ready (rs := [8]) (by kernel_rfl) (by simp) ?_
      refine Draw.AllReadyY.cons rfl (fun K hK => ?_) Draw.AllReadyY.nil
      go_simp
      refine hK.out _ _ (fun h => absurd rfl h) (fun hHeld2 => ?_)
      clear hK K hHeld hHeld2
      (try simp only [Act.put, List.getElem_toArray, List.getElem_cons_zero, List.getElem_cons_succ, List.setIfInBounds_toArray, List.set_cons_zero, List.set_cons_succ])
      refine Draw.wpAnyY_done (by kernel_rfl) ?_ _
      clear e0 e1 e2 e3 e4 e5 s0 s1 s2 s3 s4 s5
      go_wp2_with fail
      refine bodyPost_ret (v := .tuple #[.agg #[.int .i64 t.nx, .string t.bs, .slice a1 t.l.length c1', .int .i64 t.cp, .int .i64 t.fi, .bool t.en], .int .i64 p, .string s, .bool e]) (by rw [Tak.res_cell_tmp3 rfl]; go_simp) rfl ⟨t, HG.out, a1, c1', p, s, e, ⟨pm, p1⟩, hs41, rfl, ?_, ?_⟩
      · iterate 6 (refine El.Own.setCell ?_ (fun x hx' => by have := hx1.out x hx'; dsimp only; omega) _)
        exact oa
      · iterate 6 (refine Below.setCell ?_ (by dsimp only; omega) _)
        exact Ba

end Go.Proofs.Ytinngechdnglpaa.Tak

/- Contracts of this seat's functions, and their mathematics (HopJ HopIL). -/
import Derived.Test.YtanfnphdgcnojaaGreatR11
import Derived.Test.YtanfnphdgcnojaaGreatR12
import Derived.Test.YtanfnphdgcnojaaGreatR8
set_option linter.unusedVariables false
set_option linter.unusedSimpArgs false
set_option maxRecDepth 10000
set_option maxHeartbeats 8000000
namespace Go.Proofs.YtanfnphdgcnojaaGreat.Hop
open Go.RowKit RowG
theorem _root_.Go.Proofs.YtanfnphdgcnojaaGreat.RowG.Win.sub {T : TypeId} {pre post a b c : List Value} {o : Nat} {w : World} {k : Nat} (h : Win T pre post o w k (a ++ b ++ c)) : Win T (pre ++ a) (c ++ post) (o + a.length) w k b := by
 refine ⟨by simp [h.len], ?_⟩
 have := h.blk
 simpa [List.append_assoc] using this
theorem _root_.Go.Proofs.YtanfnphdgcnojaaGreat.RowG.Win.up {T : TypeId} {pre post a b c : List Value} {o : Nat} {w : World} {k : Nat} (h : Win T (pre ++ a) (c ++ post) (o + a.length) w k b) : Win T pre post o w k (a ++ b ++ c) := by
 refine ⟨by have := h.len; simp at this; omega, ?_⟩
 have := h.blk
 simpa [List.append_assoc] using this
theorem _root_.Go.Proofs.YtanfnphdgcnojaaGreat.RowG.Win.fst {T : TypeId} {pre post b c : List Value} {o : Nat} {w : World} {k : Nat} (h : Win T pre post o w k (b ++ c)) : Win T pre (c ++ post) o w k b := ⟨h.len, by have := h.blk; simpa [List.append_assoc] using this⟩
theorem _root_.Go.Proofs.YtanfnphdgcnojaaGreat.RowG.Win.unfst {T : TypeId} {pre post b c : List Value} {o : Nat} {w : World} {k : Nat} (h : Win T pre (c ++ post) o w k b) : Win T pre post o w k (b ++ c) := ⟨h.len, by have := h.blk; simpa [List.append_assoc] using this⟩
def comeH (h : Hp) (n : Int) : Hp × Bool := match outH h n with
 | (y, x, true) => (if x.bk then ⟨(Giv.hearG y.g x.pl x.lm x.dn).1, y.t, y.ws⟩ else ⟨y.g, (Tak.takeT y.t x.pl x.bs x.en).1, y.ws⟩, true)
 | (y, _, false) => (y, false)
theorem outH_in {h : Hp} {n : Int} {y : Hp} {x : Lt} (he : outH h n = (y, x, true)) : x ∈ h.ws ∧ y.g = h.g ∧ y.t = h.t ∧ (∀ z ∈ y.ws, z ∈ h.ws) ∧ y.ws.length + 1 = h.ws.length := by
 unfold outH at he
 split at he
 ·split at he
  ·rename_i z hz
   simp only [Prod.mk.injEq] at he
   obtain ⟨rfl, rfl, -⟩ := he
   have hl := (List.getElem?_eq_some_iff.1 hz).1
   refine ⟨List.mem_of_getElem? hz, rfl, rfl, fun q hq => ?_, by simp; omega⟩
   rcases List.mem_append.1 hq with q1 | q1
   ·exact List.mem_of_mem_take q1
   ·exact List.mem_of_mem_drop q1
  ·simp at he
 ·simp at he
theorem let_in {x : Lt} (h : letB x = true) : (0 ≤ x.pl ∧ x.pl ≤ 1000000000) ∧ x.bs.size ≤ 40 := by
 unfold letB at h
 simp only [Bool.and_eq_true, decide_eq_true_eq, Num.plB] at h
 obtain ⟨-, hp, h⟩ := h
 refine ⟨hp, ?_⟩
 split at h
 ·simp only [Bool.and_eq_true, decide_eq_true_eq] at h
  omega
 ·simp only [Bool.and_eq_true, decide_eq_true_eq] at h
  exact h.2.2.1
theorem comeL {T : TypeId} {pre post : List Value} {ow : Nat} (hT : T ≠ 66) (hT2 : T ≠ 110) (k B : Nat) (h : Hp) (aT : Option Addr) (cT : Nat) (aW : Option Addr) (cW : Nat) (n : Int) (w : World) (v : Win T pre post ow w k (h.c aT cT aW cW)) (o1 : Tak.partE.Own 110 w B aT cT h.t.l) (o2 : letE.Own 66 w B aW cW h.ws) (hB : B ≤ w.heap.size) (hb : hopB h = true) :
  Calls Tryz.prog 108 #[.pointer (some ⟨k, ow, none⟩), .int .i64 n] w fun e w' => e = .returned (.bool (comeH h n).2) ∧ (∃ aT' cT' aW' cW', Win T pre post ow w' k ((comeH h n).1.c aT' cT' aW' cW') ∧ Tak.partE.Own 110 w' B aT' cT' (comeH h n).1.t.l ∧ letE.Own 66 w' B aW' cW' (comeH h n).1.ws ∧ Locd w.heap.size aW aW') ∧ Draw.Kept k w w' := by
 have hmix := mix
 obtain ⟨hn30, hgo, hto, hlo⟩ := hop_ok hb
 have hO := l7OutL hT k B h aT cT aW cW n w v o2 hB (by omega)
 have hne := own_win hT2 o1 v
 unfold comeH
 obtain ⟨⟨y, x, is⟩, hR⟩ : ∃ R, outH h n = R := ⟨_, rfl⟩
 rw [hR] at hO ⊢
 have HR : Hid _ := hR
 clear hR hb
 dsimp only [Lt.v] at hO ⊢
 go_enter Tryz.func108, Tryz.ntmps108
 go_wp2_with fail
 refine hO.mono ?_
 rintro e w1 ⟨aW', cW', rfl, v1, o2', k1, loc⟩
 have o1' := o1.kept k1 hne
 have v5 : Var 66 (w1.alloc (.cells #[.bool x.bk, .int .i64 x.rd, .int .i64 x.pl, .string x.bs, .bool x.en, .int .i64 x.lm, .bool x.dn] 66)) w1.heap.size [.bool x.bk, .int .i64 x.rd, .int .i64 x.pl, .string x.bs, .bool x.en, .int .i64 x.lm, .bool x.dn] := Var.new w1 _
 have vA := v1.alloc (.cells #[.bool x.bk, .int .i64 x.rd, .int .i64 x.pl, .string x.bs, .bool x.en, .int .i64 x.lm, .bool x.dn] 66)
 have oA := o2'.alloc (.cells #[.bool x.bk, .int .i64 x.rd, .int .i64 x.pl, .string x.bs, .bool x.en, .int .i64 x.lm, .bool x.dn] 66)
 have oB := o1'.alloc (.cells #[.bool x.bk, .int .i64 x.rd, .int .i64 x.pl, .string x.bs, .bool x.en, .int .i64 x.lm, .bool x.dn] 66)
 have K1 := k1.alloc (.cells #[.bool x.bk, .int .i64 x.rd, .int .i64 x.pl, .string x.bs, .bool x.en, .int .i64 x.lm, .bool x.dn] 66)
 have hkk : k < w1.heap.size := v1.lt
 clear hO v1 o2' o1' k1 v o1 o2 hne
 go_upto_region 2 with (fail)
 generalize w1.alloc (.cells #[.bool x.bk, .int .i64 x.rd, .int .i64 x.pl, .string x.bs, .bool x.en, .int .i64 x.lm, .bool x.dn] 66) = W at *
 generalize w1.heap.size = k5 at *
 have hBW : B ≤ W.heap.size := Nat.le_trans hB K1.size
 obtain ⟨e0, e1, e2, e3, e4, e5, e6⟩ := v5.c7
 cases is
 case false =>
  have hy : y = h := by
   have := HR.out
   unfold outH at this
   split at this
   ·split at this
    ·simp at this
    ·simp only [Prod.mk.injEq] at this; exact this.1.symm
   ·simp only [Prod.mk.injEq] at this; exact this.1.symm
  subst hy
  go_wp2_with fail
  go_ret
  exact ⟨rfl, ⟨aT, cT, aW', cW', vA, oB, oA, loc⟩, K1⟩
 obtain ⟨hxm, hyg, hyt, hyw, hyl⟩ := outH_in HR.out
 have hxl := let_in (hlo x hxm)
 obtain ⟨yg, yt, yw⟩ := y
 dsimp only at hyg hyt
 subst hyg hyt
 dsimp only at *
 have hT1 := own_win hT2 oB vA
 obtain ⟨xk, xr, xp, xb, xe, xm, xd⟩ := x
 dsimp only at *
 clear HR hlo hxm
 cases xk
 case true =>
  have vG : Win T pre ([.int .i64 h.t.nx, .string h.t.bs, .slice aT h.t.l.length cT, .int .i64 h.t.cp, .int .i64 h.t.fi, .bool h.t.en] ++ [.slice aW' yw.length cW'] ++ post) ow W k h.g.c := Win.fst (b := h.g.c) (c := [.int .i64 h.t.nx, .string h.t.bs, .slice aT h.t.l.length cT, .int .i64 h.t.cp, .int .i64 h.t.fi, .bool h.t.en] ++ [.slice aW' yw.length cW']) vA
  go_wp2_with fail
  refine Draw.wp_region_Y (S := (fun w' => w'.cell? ⟨k5, 0, none⟩ = some (.bool true) ∧ w'.cell? ⟨k5, 1, none⟩ = some (.int .i64 xr) ∧ w'.cell? ⟨k5, 2, none⟩ = some (.int .i64 xp) ∧ w'.cell? ⟨k5, 3, none⟩ = some (.string xb) ∧ w'.cell? ⟨k5, 4, none⟩ = some (.bool xe) ∧ w'.cell? ⟨k5, 5, none⟩ = some (.int .i64 xm) ∧ w'.cell? ⟨k5, 6, none⟩ = some (.bool xd))) 9 (by kernel_rfl) ?_ (fun hHeld => ?_)
  focus ((try dsimp only) <;> (first | with_reducible exact hHeld | with_reducible exact hS2 | exact ⟨e0, e1, e2, e3, e4, e5, e6⟩))
  refine Draw.wpAnyY_takeT (i := 0) (v := ?_) rfl (by kernel_rfl) (by kernel_rfl) (by kernel_rfl) (fun _ _ _ h => h) (Or.inl ⟨by rfl, ?_⟩) ?_
  rotate_left 1
  focus (intro s h; (try dsimp only at h); go_simp; (try apply And.intro) <;> with_reducible rfl)
  (try simp only [Act.put, Draw.lays])
  refine Draw.wpAnyY_takeT (i := 1) (v := ?_) rfl (by kernel_rfl) (by kernel_rfl) (by kernel_rfl) (fun _ _ _ h => h) (Or.inl ⟨by rfl, ?_⟩) ?_
  rotate_left 1
  focus (intro s h; (try dsimp only at h); go_simp; (try apply And.intro) <;> with_reducible rfl)
  (try simp only [Act.put, Draw.lays])
  refine Draw.wpAnyY_takeT (i := 2) (v := ?_) rfl (by kernel_rfl) (by kernel_rfl) (by kernel_rfl) (fun _ _ _ h => h) (Or.inl ⟨by rfl, ?_⟩) ?_
  rotate_left 1
  focus (intro s h; (try dsimp only at h); go_simp; (try apply And.intro) <;> with_reducible rfl)
  (try simp only [Act.put, Draw.lays])
  refine Draw.wpAnyY_takeT (i := 3) (v := ?_) rfl (by kernel_rfl) (by kernel_rfl) (by kernel_rfl) (fun _ _ _ h => h) (Or.inl ⟨by rfl, ?_⟩) ?_
  rotate_left 1
  focus (intro s h; (try dsimp only at h); go_simp; (try apply And.intro) <;> with_reducible rfl)
  (try simp only [Act.put, Draw.lays])
  refine Draw.wpAnyY_take (i := 4) (v := ?_) rfl (by kernel_rfl) (by kernel_rfl) (by kernel_rfl) (by kernel_rfl) (fun _ _ _ h => h) (Or.inl ⟨by rfl, ?_⟩) (by assumption) ?_
  rotate_left 1
  focus (intro s h; (try dsimp only at h); go_simp; (try apply And.intro) <;> with_reducible rfl)
  (try simp only [Act.put, Draw.lays])
  refine Draw.wpAnyY_takeT (i := 5) (v := ?_) rfl (by kernel_rfl) (by kernel_rfl) (by kernel_rfl) (fun _ _ _ h => h) (Or.inl ⟨by rfl, ?_⟩) ?_
  rotate_left 1
  focus (intro s h; (try dsimp only at h); go_simp; (try apply And.intro) <;> with_reducible rfl)
  (try simp only [Act.put, Draw.lays])
  refine Draw.wpAnyY_take (i := 6) (v := ?_) rfl (by kernel_rfl) (by kernel_rfl) (by kernel_rfl) (by kernel_rfl) (fun _ _ _ h => h) (Or.inl ⟨by rfl, ?_⟩) (by assumption) ?_
  rotate_left 1
  focus (intro s h; (try dsimp only at h); go_simp; (try apply And.intro) <;> with_reducible rfl)
  (try simp only [Act.put, Draw.lays])
  refine Draw.wpAnyY_takeT (i := 7) (v := ?_) rfl (by kernel_rfl) (by kernel_rfl) (by kernel_rfl) (fun _ _ _ h => h) (Or.inl ⟨by rfl, ?_⟩) ?_
  rotate_left 1
  focus (intro s h; (try dsimp only at h); go_simp; (try apply And.intro) <;> with_reducible rfl)
  (try simp only [Act.put, Draw.lays])
  refine Draw.wpAnyY_take (i := 8) (v := ?_) rfl (by kernel_rfl) (by kernel_rfl) (by kernel_rfl) (by kernel_rfl) (fun _ _ _ h => h) (Or.inl ⟨by rfl, ?_⟩) (by assumption) ?_
  rotate_left 1
  focus (intro s h; (try dsimp only at h); go_simp; (try apply And.intro) <;> with_reducible rfl)
  (try simp only [Act.put, Draw.lays])
  refine Draw.wpAnyY_ready (rs := [9]) (by kernel_rfl) (by simp) ?_
  refine Draw.AllReadyY.cons rfl (fun K hK => ?_) Draw.AllReadyY.nil
  (go_simp; refine (Giv.l6HearW k h.g xp xm xd _ vG.drew hgo).mono ?_; rintro e w3 ⟨rfl, v3, k3⟩; have v53 := v5.drew.kept k3 (by omega); have K3 := K1.drew.trans k3; have oA3 := oA.drew.kept k3 (own_win hT oA vA); have oB3 := oB.drew.kept k3 hT1)
  refine hK.out _ _ (fun h => absurd rfl h) (fun hHeld2 => ?_)
  clear hK K hHeld hHeld2
  (try simp only [Act.put, Draw.lays])
  refine Draw.wpAnyY_done (by kernel_rfl) ?_ _
  have v7 := Win.unfst (b := (Giv.hearG h.g xp xm xd).1.c) (c := [.int .i64 h.t.nx, .string h.t.bs, .slice aT h.t.l.length cT, .int .i64 h.t.cp, .int .i64 h.t.fi, .bool h.t.en] ++ [.slice aW' yw.length cW']) v3
  clear v3 vG vA e0 e1 e2 e3 e4 e5 e6
  obtain ⟨e0, e1, e2, e3, e4, e5, e6⟩ := v53.c7
  go_wp2_with fail
  go_ret
  exact ⟨rfl, ⟨aT, cT, aW', cW', v7, oB3, oA3, loc⟩, K3⟩
 case false =>
  have vK : Win T (pre ++ [.int .i64 h.g.ba, .string h.g.bs, .int .i64 h.g.cp, .int .i64 h.g.lm, .bool h.g.en, .bool h.g.dn]) ([.slice aW' yw.length cW'] ++ post) (ow + 6) W k [.int .i64 h.t.nx, .string h.t.bs, .slice aT h.t.l.length cT, .int .i64 h.t.cp, .int .i64 h.t.fi, .bool h.t.en] := Win.sub (a := [.int .i64 h.g.ba, .string h.g.bs, .int .i64 h.g.cp, .int .i64 h.g.lm, .bool h.g.en, .bool h.g.dn]) (b := [.int .i64 h.t.nx, .string h.t.bs, .slice aT h.t.l.length cT, .int .i64 h.t.cp, .int .i64 h.t.fi, .bool h.t.en]) (c := [.slice aW' yw.length cW']) vA
  obtain ⟨hbd, htot⟩ := Tak.ok_small hto
  have hin : Tak.inT h.t.nx h.t.bs h.t.l h.t.cp := by
   have q := hto
   unfold Tak.Tk.ok Tak.takerB at q
   simp only [Bool.and_eq_true, decide_eq_true_eq] at q
   exact q.1
  unfold Tak.inT at hin
  have HTK : Hid _ := fun w' v' o' b' n' => Tak.l5TakeW (T := T) (pre := pre ++ [.int .i64 h.g.ba, .string h.g.bs, .int .i64 h.g.cp, .int .i64 h.g.lm, .bool h.g.en, .bool h.g.dn]) (post := [.slice aW' yw.length cW'] ++ post) (ow := ow + 6) k B h.t.nx h.t.bs aT cT h.t.cp h.t.fi h.t.en h.t.l xp xb xe w' v' o' b' n' (by omega) hbd (by omega) ⟨by omega, by omega⟩ ⟨by omega, by omega⟩ ⟨by omega, by omega⟩ (by omega)
  go_wp2_with fail
  refine Draw.wp_region_Y (S := (fun w' => w'.cell? ⟨k5, 0, none⟩ = some (.bool false) ∧ w'.cell? ⟨k5, 1, none⟩ = some (.int .i64 xr) ∧ w'.cell? ⟨k5, 2, none⟩ = some (.int .i64 xp) ∧ w'.cell? ⟨k5, 3, none⟩ = some (.string xb) ∧ w'.cell? ⟨k5, 4, none⟩ = some (.bool xe) ∧ w'.cell? ⟨k5, 5, none⟩ = some (.int .i64 xm) ∧ w'.cell? ⟨k5, 6, none⟩ = some (.bool xd))) 9 (by kernel_rfl) ?_ (fun hHeld => ?_)
  focus ((try dsimp only) <;> (first | with_reducible exact hHeld | with_reducible exact hS2 | exact ⟨e0, e1, e2, e3, e4, e5, e6⟩))
  refine Draw.wpAnyY_takeT (i := 0) (v := ?_) rfl (by kernel_rfl) (by kernel_rfl) (by kernel_rfl) (fun _ _ _ h => h) (Or.inl ⟨by rfl, ?_⟩) ?_
  rotate_left 1
  focus (intro s h; (try dsimp only at h); go_simp; (try apply And.intro) <;> with_reducible rfl)
  (try simp only [Act.put, Draw.lays])
  refine Draw.wpAnyY_takeT (i := 1) (v := ?_) rfl (by kernel_rfl) (by kernel_rfl) (by kernel_rfl) (fun _ _ _ h => h) (Or.inl ⟨by rfl, ?_⟩) ?_
  rotate_left 1
  focus (intro s h; (try dsimp only at h); go_simp; (try apply And.intro) <;> with_reducible rfl)
  (try simp only [Act.put, Draw.lays])
  refine Draw.wpAnyY_takeT (i := 2) (v := ?_) rfl (by kernel_rfl) (by kernel_rfl) (by kernel_rfl) (fun _ _ _ h => h) (Or.inl ⟨by rfl, ?_⟩) ?_
  rotate_left 1
  focus (intro s h; (try dsimp only at h); go_simp; (try apply And.intro) <;> with_reducible rfl)
  (try simp only [Act.put, Draw.lays])
  refine Draw.wpAnyY_takeT (i := 3) (v := ?_) rfl (by kernel_rfl) (by kernel_rfl) (by kernel_rfl) (fun _ _ _ h => h) (Or.inl ⟨by rfl, ?_⟩) ?_
  rotate_left 1
  focus (intro s h; (try dsimp only at h); go_simp; (try apply And.intro) <;> with_reducible rfl)
  (try simp only [Act.put, Draw.lays])
  refine Draw.wpAnyY_take (i := 4) (v := ?_) rfl (by kernel_rfl) (by kernel_rfl) (by kernel_rfl) (by kernel_rfl) (fun _ _ _ h => h) (Or.inl ⟨by rfl, ?_⟩) (by assumption) ?_
  rotate_left 1
  focus (intro s h; (try dsimp only at h); go_simp; (try apply And.intro) <;> with_reducible rfl)
  (try simp only [Act.put, Draw.lays])
  refine Draw.wpAnyY_takeT (i := 5) (v := ?_) rfl (by kernel_rfl) (by kernel_rfl) (by kernel_rfl) (fun _ _ _ h => h) (Or.inl ⟨by rfl, ?_⟩) ?_
  rotate_left 1
  focus (intro s h; (try dsimp only at h); go_simp; (try apply And.intro) <;> with_reducible rfl)
  (try simp only [Act.put, Draw.lays])
  refine Draw.wpAnyY_take (i := 6) (v := ?_) rfl (by kernel_rfl) (by kernel_rfl) (by kernel_rfl) (by kernel_rfl) (fun _ _ _ h => h) (Or.inl ⟨by rfl, ?_⟩) (by assumption) ?_
  rotate_left 1
  focus (intro s h; (try dsimp only at h); go_simp; (try apply And.intro) <;> with_reducible rfl)
  (try simp only [Act.put, Draw.lays])
  refine Draw.wpAnyY_takeT (i := 7) (v := ?_) rfl (by kernel_rfl) (by kernel_rfl) (by kernel_rfl) (fun _ _ _ h => h) (Or.inl ⟨by rfl, ?_⟩) ?_
  rotate_left 1
  focus (intro s h; (try dsimp only at h); go_simp; (try apply And.intro) <;> with_reducible rfl)
  (try simp only [Act.put, Draw.lays])
  refine Draw.wpAnyY_take (i := 8) (v := ?_) rfl (by kernel_rfl) (by kernel_rfl) (by kernel_rfl) (by kernel_rfl) (fun _ _ _ h => h) (Or.inl ⟨by rfl, ?_⟩) (by assumption) ?_
  rotate_left 1
  focus (intro s h; (try dsimp only at h); go_simp; (try apply And.intro) <;> with_reducible rfl)
  (try simp only [Act.put, Draw.lays])
  refine Draw.wpAnyY_ready (rs := [9]) (by kernel_rfl) (by simp) ?_
  refine Draw.AllReadyY.cons rfl (fun K hK => ?_) Draw.AllReadyY.nil
  (go_simp; refine (HTK.out _ vK.drew oB.drew hBW hT1).mono ?_; rintro e w3 ⟨a', c', rfl, v3, o3, k3, n3⟩; have v53 := v5.drew.kept k3 (by omega); have K3 := K1.drew.trans k3; have oA3 := oA.drew.kept k3 (own_win hT oA vA))
  refine hK.out _ _ (fun h => absurd rfl h) (fun hHeld2 => ?_)
  clear hK K hHeld hHeld2
  (try simp only [Act.put, Draw.lays])
  refine Draw.wpAnyY_done (by kernel_rfl) ?_ _
  have v7 := Win.up (a := [.int .i64 h.g.ba, .string h.g.bs, .int .i64 h.g.cp, .int .i64 h.g.lm, .bool h.g.en, .bool h.g.dn]) (b := [.int .i64 (Tak.takeT h.t xp xb xe).1.nx, .string (Tak.takeT h.t xp xb xe).1.bs, .slice a' (Tak.takeT h.t xp xb xe).1.l.length c', .int .i64 (Tak.takeT h.t xp xb xe).1.cp, .int .i64 (Tak.takeT h.t xp xb xe).1.fi, .bool (Tak.takeT h.t xp xb xe).1.en]) (c := [.slice aW' yw.length cW']) v3
  clear v3 vK vA e0 e1 e2 e3 e4 e5 e6
  obtain ⟨e0, e1, e2, e3, e4, e5, e6⟩ := v53.c7
  go_wp2_with fail
  go_ret
  exact ⟨rfl, ⟨a', c', aW', cW', v7, o3, oA3, loc⟩, K3⟩
theorem comeLay {T : TypeId} {pre post : List Value} {ow : Nat} (hT : T ≠ 66) (hT2 : T ≠ 110) (k B : Nat) (h : Hp) (n : Int) (w : World) (hl : Lay T pre post ow w B k h) (hB : B ≤ w.heap.size) (hb : hopB h = true) :
  Calls Tryz.prog 108 #[.pointer (some ⟨k, ow, none⟩), .int .i64 n] w fun e w' => e = .returned (.bool (comeH h n).2) ∧ Lay T pre post ow w' B k (comeH h n).1 ∧ KB B k w w' := by
 obtain ⟨aT, cT, aW, cW, v, o1, o2⟩ := hl
 exact (comeL hT hT2 k B h aT cT aW cW n w v o1 o2 hB hb).mono fun e w' ⟨h1, ⟨a1, a2, a3, a4, h2, h3, h4, _⟩, h5⟩ => ⟨h1, ⟨a1, a2, a3, a4, h2, h3, h4⟩, KB.ofKept h5 hB⟩
end Go.Proofs.YtanfnphdgcnojaaGreat.Hop
namespace Go.Proofs.YtanfnphdgcnojaaGreat.Hop
open Go.RowKit RowG
end Go.Proofs.YtanfnphdgcnojaaGreat.Hop

/- Draws of chapter 12: DrawPumps, DrawCanPump: a taker that is not too great and a giver, a number, and no block turns that was there; at most 4096 bytes. -/
import Derived.Test.YthdkajaodfkgnaaDrawV
import Derived.Test.YthdkajaodfkgnaaDrawF
import Derived.Test.YthdkajaodfkgnaaRegJ
import Derived.Test.YthdkajaodfkgnaaSh
import Derived.Test.YthdkajaodfkgnaaPumB
namespace Go.Proofs.Ythdkajaodfkgnaa.Pum
open Go.RowKit RowG Tak Giv
set_option linter.unusedVariables false
set_option linter.unusedSimpArgs false

set_option maxRecDepth 10000 in
set_option maxHeartbeats 16000000 in
theorem drawPumps (a : Option Addr) (len cap : Nat) (w : World) (hb : Draw.Bytes w a len) (hl : len ≤ 4096) :
    Calls Try.prog 7 #[.slice a len cap] w fun x w' => ∃ t : Tk, good t ∧ ∃ g : Gv, g.bs.size ≤ 400 ∧ ∃ (n : Int) (a' : Option Addr) (c' : Nat), x = .returned (.tuple #[t.v a' c', g.v, .int .i64 n]) ∧ partE.Own 69 w' w.heap.size a' c' t.l ∧ Below w.heap.size w w' := by
  have hmix := Tak.mix
  have z0 : Var 26 (w.alloc (.cells #[.int .i64 0, .string ⟨#[]⟩, .slice none 0 0, .int .i64 0, .int .i64 0, .bool false] 26)) w.heap.size [.int .i64 0, .string ⟨#[]⟩, .slice none 0 0, .int .i64 0, .int .i64 0, .bool false] := Var.new w _
  replace z0 := z0.alloc (.cells #[.int .i64 0, .string ⟨#[]⟩, .int .i64 0, .int .i64 0, .bool false, .bool false] 28)
  have z1 : Var 28 ((w.alloc (.cells #[.int .i64 0, .string ⟨#[]⟩, .slice none 0 0, .int .i64 0, .int .i64 0, .bool false] 26)).alloc (.cells #[.int .i64 0, .string ⟨#[]⟩, .int .i64 0, .int .i64 0, .bool false, .bool false] 28)) (w.heap.size + 1) [.int .i64 0, .string ⟨#[]⟩, .int .i64 0, .int .i64 0, .bool false, .bool false] := by
    have := Var.new (T := 28) (w.alloc (.cells #[.int .i64 0, .string ⟨#[]⟩, .slice none 0 0, .int .i64 0, .int .i64 0, .bool false] 26)) [.int .i64 0, .string ⟨#[]⟩, .int .i64 0, .int .i64 0, .bool false, .bool false]
    simpa using this
  have b0 := ((Below.refl w.heap.size w).alloc (Nat.le_refl _) (.cells #[.int .i64 0, .string ⟨#[]⟩, .slice none 0 0, .int .i64 0, .int .i64 0, .bool false] 26)).alloc (by simp) (.cells #[.int .i64 0, .string ⟨#[]⟩, .int .i64 0, .int .i64 0, .bool false, .bool false] 28)
  have hs0 : ((w.alloc (.cells #[.int .i64 0, .string ⟨#[]⟩, .slice none 0 0, .int .i64 0, .int .i64 0, .bool false] 26)).alloc (.cells #[.int .i64 0, .string ⟨#[]⟩, .int .i64 0, .int .i64 0, .bool false, .bool false] 28)).heap.size = w.heap.size + 2 := by simp
  have hb0 := hb.below b0 (Nat.le_refl _)
  go_enter Try.func7, Try.ntmps7
  go_wp2_with fail
  generalize (w.alloc (.cells #[.int .i64 0, .string ⟨#[]⟩, .slice none 0 0, .int .i64 0, .int .i64 0, .bool false] 26)).alloc (.cells #[.int .i64 0, .string ⟨#[]⟩, .int .i64 0, .int .i64 0, .bool false, .bool false] 28) = W0 at *
  refine (Draw.l1New a len cap _ hb0 hl).mono ?_
  rintro x w1 ⟨rfl, hh, hw1⟩
  have c1 : Draw.Cur w1 W0.heap.size := by rw [hw1]; exact Draw.cur_new hb0 hl hh _
  have b1 : Below W0.heap.size W0 w1 := by rw [hw1]; exact (Below.refl _ _).alloc (Nat.le_refl _) _
  have h1 : W0.heap.size < w1.heap.size := by rw [hw1]; simp
  replace z0 := z0.later b1
  replace z1 := z1.later b1
  have B1 := b0.trans (b1.mono b0.size)
  clear hw1 b1 hb0
  rw [hs0] at c1 h1
  rw [hs0]
  clear hs0 b0
  go_wp2_with fail
  refine (l5DrawAny _ _ c1).mono ?_
  rintro x w2 ⟨t, hgood, a', c', rfl, o2, c2, k2⟩
  have B2 : Below w.heap.size w w2 := B1.trans (k2.below (by omega) B1.size)
  replace z0 := (z0.kept k2 (by omega)).alloc (.cells #[.int .i64 t.nx, .string t.bs, .slice a' t.l.length c', .int .i64 t.cp, .int .i64 t.fi, .bool t.en] 26)
  replace z1 := (z1.kept k2 (by omega)).alloc (.cells #[.int .i64 t.nx, .string t.bs, .slice a' t.l.length c', .int .i64 t.cp, .int .i64 t.fi, .bool t.en] 26)
  have hs2 : w.heap.size + 2 < w2.heap.size := c2.lt
  have v2 : Var 26 (w2.alloc (.cells #[.int .i64 t.nx, .string t.bs, .slice a' t.l.length c', .int .i64 t.cp, .int .i64 t.fi, .bool t.en] 26)) w2.heap.size [.int .i64 t.nx, .string t.bs, .slice a' t.l.length c', .int .i64 t.cp, .int .i64 t.fi, .bool t.en] := Var.new w2 _
  have hab : ∀ x, a' = some x → w.heap.size + 2 < x.block ∧ x.block < w2.heap.size := fun x hx => ⟨by have := (o2.lt x hx).1; omega, (o2.lt x hx).2⟩
  replace o2 := (o2.mono (show w.heap.size ≤ w1.heap.size from B1.size)).alloc (.cells #[.int .i64 t.nx, .string t.bs, .slice a' t.l.length c', .int .i64 t.cp, .int .i64 t.fi, .bool t.en] 26)
  replace c2 := c2.alloc (.cells #[.int .i64 t.nx, .string t.bs, .slice a' t.l.length c', .int .i64 t.cp, .int .i64 t.fi, .bool t.en] 26)
  replace B2 := B2.alloc B2.size (.cells #[.int .i64 t.nx, .string t.bs, .slice a' t.l.length c', .int .i64 t.cp, .int .i64 t.fi, .bool t.en] 26)
  clear c1 k2 B1
  dsimp only [Tk.v]
  go_wp2_with fail
  generalize w2.alloc (.cells #[.int .i64 t.nx, .string t.bs, .slice a' t.l.length c', .int .i64 t.cp, .int .i64 t.fi, .bool t.en] 26) = W2 at *
  have hk2 : w2.heap.size < W2.heap.size := v2.lt
  generalize w2.heap.size = k2 at *
  refine (l6DrawAny _ _ c2).mono ?_
  rintro x w3 ⟨g, hgb, rfl, c3, k3⟩
  have B3 : Below w.heap.size w w3 := B2.trans (k3.below (by omega) B2.size)
  replace z0 := (z0.kept k3 (by omega)).alloc (.cells #[.int .i64 g.ba, .string g.bs, .int .i64 g.cp, .int .i64 g.lm, .bool g.en, .bool g.dn] 28)
  replace z1 := (z1.kept k3 (by omega)).alloc (.cells #[.int .i64 g.ba, .string g.bs, .int .i64 g.cp, .int .i64 g.lm, .bool g.en, .bool g.dn] 28)
  replace v2 := (v2.kept k3 (by omega)).alloc (.cells #[.int .i64 g.ba, .string g.bs, .int .i64 g.cp, .int .i64 g.lm, .bool g.en, .bool g.dn] 28)
  replace o2 := (o2.kept k3 (fun x hx => by have := hab x hx; omega)).alloc (.cells #[.int .i64 g.ba, .string g.bs, .int .i64 g.cp, .int .i64 g.lm, .bool g.en, .bool g.dn] 28)
  have hs3 : k2 < w3.heap.size := Nat.lt_of_lt_of_le hk2 k3.size
  have v3 : Var 28 (w3.alloc (.cells #[.int .i64 g.ba, .string g.bs, .int .i64 g.cp, .int .i64 g.lm, .bool g.en, .bool g.dn] 28)) w3.heap.size [.int .i64 g.ba, .string g.bs, .int .i64 g.cp, .int .i64 g.lm, .bool g.en, .bool g.dn] := Var.new w3 _
  replace c3 := c3.alloc (.cells #[.int .i64 g.ba, .string g.bs, .int .i64 g.cp, .int .i64 g.lm, .bool g.en, .bool g.dn] 28)
  replace B3 := B3.alloc B3.size (.cells #[.int .i64 g.ba, .string g.bs, .int .i64 g.cp, .int .i64 g.lm, .bool g.en, .bool g.dn] 28)
  clear c2 k3 B2
  go_upto_region 4 with (fail)
  generalize w3.alloc (.cells #[.int .i64 g.ba, .string g.bs, .int .i64 g.cp, .int .i64 g.lm, .bool g.en, .bool g.dn] 28) = W3 at *
  generalize w3.heap.size = k3 at *
  have keepG : ∀ (i : Nat) (d : Nat → Bool) (w1 w' : World), (fun d wr => Var 26 wr k2 [.int .i64 t.nx, .string t.bs, .slice a' t.l.length c', .int .i64 t.cp, .int .i64 t.fi, .bool t.en] ∧ Var 28 wr k3 [.int .i64 g.ba, .string g.bs, .int .i64 g.cp, .int .i64 g.lm, .bool g.en, .bool g.dn] ∧ Var 26 wr w.heap.size (if d 7 = true then [.int .i64 t.nx, .string t.bs, .slice a' t.l.length c', .int .i64 t.cp, .int .i64 t.fi, .bool t.en] else [.int .i64 0, .string ⟨#[]⟩, .slice none 0 0, .int .i64 0, .int .i64 0, .bool false]) ∧ Var 28 wr (w.heap.size + 1) (if d 8 = true then [.int .i64 g.ba, .string g.bs, .int .i64 g.cp, .int .i64 g.lm, .bool g.en, .bool g.dn] else [.int .i64 0, .string ⟨#[]⟩, .int .i64 0, .int .i64 0, .bool false, .bool false]) ∧ (d 7 = false ∧ d 8 = false → Draw.Cur wr (w.heap.size + 2)) ∧ partE.Own 69 wr w.heap.size a' c' t.l ∧ Below w.heap.size w wr) d w1 → (i ≠ 7 ∧ i ≠ 8) → Below w1.heap.size w1 w' → (fun d wr => Var 26 wr k2 [.int .i64 t.nx, .string t.bs, .slice a' t.l.length c', .int .i64 t.cp, .int .i64 t.fi, .bool t.en] ∧ Var 28 wr k3 [.int .i64 g.ba, .string g.bs, .int .i64 g.cp, .int .i64 g.lm, .bool g.en, .bool g.dn] ∧ Var 26 wr w.heap.size (if d 7 = true then [.int .i64 t.nx, .string t.bs, .slice a' t.l.length c', .int .i64 t.cp, .int .i64 t.fi, .bool t.en] else [.int .i64 0, .string ⟨#[]⟩, .slice none 0 0, .int .i64 0, .int .i64 0, .bool false]) ∧ Var 28 wr (w.heap.size + 1) (if d 8 = true then [.int .i64 g.ba, .string g.bs, .int .i64 g.cp, .int .i64 g.lm, .bool g.en, .bool g.dn] else [.int .i64 0, .string ⟨#[]⟩, .int .i64 0, .int .i64 0, .bool false, .bool false]) ∧ (d 7 = false ∧ d 8 = false → Draw.Cur wr (w.heap.size + 2)) ∧ partE.Own 69 wr w.heap.size a' c' t.l ∧ Below w.heap.size w wr) (fun j => j == i || d j) w' := fun i d w1 w' hW hi hb => by
    have e7 : ((7 : Nat) == i) = false := beq_eq_false_iff_ne.2 (Ne.symm hi.1)
    have e8 : ((8 : Nat) == i) = false := beq_eq_false_iff_ne.2 (Ne.symm hi.2)
    simp only [e7, e8, Bool.false_or]
    obtain ⟨u0, u1, u2, u3, u4, u5, u6⟩ := hW
    exact ⟨u0.later hb, u1.later hb, u2.later hb, u3.later hb, fun hd => (u4 hd).below hb (Nat.le_refl _), u5.later hb, u6.trans (hb.mono u6.size)⟩
  have keepK : ∀ (i : Nat) (d : Nat → Bool) (w1 w' : World), (fun d wr => Var 26 wr k2 [.int .i64 t.nx, .string t.bs, .slice a' t.l.length c', .int .i64 t.cp, .int .i64 t.fi, .bool t.en] ∧ Var 28 wr k3 [.int .i64 g.ba, .string g.bs, .int .i64 g.cp, .int .i64 g.lm, .bool g.en, .bool g.dn] ∧ Var 26 wr w.heap.size (if d 7 = true then [.int .i64 t.nx, .string t.bs, .slice a' t.l.length c', .int .i64 t.cp, .int .i64 t.fi, .bool t.en] else [.int .i64 0, .string ⟨#[]⟩, .slice none 0 0, .int .i64 0, .int .i64 0, .bool false]) ∧ Var 28 wr (w.heap.size + 1) (if d 8 = true then [.int .i64 g.ba, .string g.bs, .int .i64 g.cp, .int .i64 g.lm, .bool g.en, .bool g.dn] else [.int .i64 0, .string ⟨#[]⟩, .int .i64 0, .int .i64 0, .bool false, .bool false]) ∧ (d 7 = false ∧ d 8 = false → Draw.Cur wr (w.heap.size + 2)) ∧ partE.Own 69 wr w.heap.size a' c' t.l ∧ Below w.heap.size w wr) d w1 → (i ≠ 7 ∧ i ≠ 8) → Draw.Kept (w.heap.size + 2) w1 w' → Draw.Cur w' (w.heap.size + 2) → (fun d wr => Var 26 wr k2 [.int .i64 t.nx, .string t.bs, .slice a' t.l.length c', .int .i64 t.cp, .int .i64 t.fi, .bool t.en] ∧ Var 28 wr k3 [.int .i64 g.ba, .string g.bs, .int .i64 g.cp, .int .i64 g.lm, .bool g.en, .bool g.dn] ∧ Var 26 wr w.heap.size (if d 7 = true then [.int .i64 t.nx, .string t.bs, .slice a' t.l.length c', .int .i64 t.cp, .int .i64 t.fi, .bool t.en] else [.int .i64 0, .string ⟨#[]⟩, .slice none 0 0, .int .i64 0, .int .i64 0, .bool false]) ∧ Var 28 wr (w.heap.size + 1) (if d 8 = true then [.int .i64 g.ba, .string g.bs, .int .i64 g.cp, .int .i64 g.lm, .bool g.en, .bool g.dn] else [.int .i64 0, .string ⟨#[]⟩, .int .i64 0, .int .i64 0, .bool false, .bool false]) ∧ (d 7 = false ∧ d 8 = false → Draw.Cur wr (w.heap.size + 2)) ∧ partE.Own 69 wr w.heap.size a' c' t.l ∧ Below w.heap.size w wr) (fun j => j == i || d j) w' := fun i d w1 w' hW hi hk hc => by
    have e7 : ((7 : Nat) == i) = false := beq_eq_false_iff_ne.2 (Ne.symm hi.1)
    have e8 : ((8 : Nat) == i) = false := beq_eq_false_iff_ne.2 (Ne.symm hi.2)
    simp only [e7, e8, Bool.false_or]
    obtain ⟨u0, u1, u2, u3, u4, u5, u6⟩ := hW
    exact ⟨u0.kept hk (by omega), u1.kept hk (by omega), u2.kept hk (by omega), u3.kept hk (by omega), fun _ => hc, u5.kept hk (fun x hx => by have := hab x hx; omega), u6.trans (hk.below (by omega) u6.size)⟩
  refine RegJ.wp_region_J (W := (fun d wr => Var 26 wr k2 [.int .i64 t.nx, .string t.bs, .slice a' t.l.length c', .int .i64 t.cp, .int .i64 t.fi, .bool t.en] ∧ Var 28 wr k3 [.int .i64 g.ba, .string g.bs, .int .i64 g.cp, .int .i64 g.lm, .bool g.en, .bool g.dn] ∧ Var 26 wr w.heap.size (if d 7 = true then [.int .i64 t.nx, .string t.bs, .slice a' t.l.length c', .int .i64 t.cp, .int .i64 t.fi, .bool t.en] else [.int .i64 0, .string ⟨#[]⟩, .slice none 0 0, .int .i64 0, .int .i64 0, .bool false]) ∧ Var 28 wr (w.heap.size + 1) (if d 8 = true then [.int .i64 g.ba, .string g.bs, .int .i64 g.cp, .int .i64 g.lm, .bool g.en, .bool g.dn] else [.int .i64 0, .string ⟨#[]⟩, .int .i64 0, .int .i64 0, .bool false, .bool false]) ∧ (d 7 = false ∧ d 8 = false → Draw.Cur wr (w.heap.size + 2)) ∧ partE.Own 69 wr w.heap.size a' c' t.l ∧ Below w.heap.size w wr)) (RegJ.Tell (w.heap.size + 2) [.eq (.agg #[.int .i64 t.nx, .string t.bs, .slice a' t.l.length c', .int .i64 t.cp, .int .i64 t.fi, .bool t.en]), .eq (.agg #[.int .i64 g.ba, .string g.bs, .int .i64 g.cp, .int .i64 g.lm, .bool g.en, .bool g.dn]), .row 2 ([0, 1, 3, 400, 401, -1].map (Value.int .i64)), .eq (.pointer (some ⟨w.heap.size + 2, 0, none⟩)), .int 0 5, .elem 2 ([0, 1, 3, 400, 401, -1].map (Value.int .i64)), .num, .any, .any, .num]) [some 14, some 15, some 16, some 17, some 18, some 19, some 20, none, none, some 4] (F := ?_) (is := [0, 1, 2, 3, 4, 5, 6, 7, 8, 9]) hmix (by kernel_rfl) (by kernel_rfl) (by kernel_rfl) (by kernel_rfl) (fun x => ?_) (⟨v2.drew, v3.drew, z0.drew, z1.drew, fun _ => c3.drew, o2.drew, B3.drew⟩) ?_ (fun d x wR hWR hdR hJR => ?_)
  rotate_left 1
  focus (simp only [RegJ.lay, Act.put, Nat.reduceAdd, Nat.zero_add, List.getElem_toArray, List.getElem_cons_zero, List.getElem_cons_succ, List.setIfInBounds_toArray, List.set_cons_zero, List.set_cons_succ]; rfl)
  focus
    refine RegJ.Steps.cons (RegJ.StepAt.mk rfl (fun d x w1 hW1 hJ1 hx1 K hK => ?_)) (RegJ.Steps.cons (RegJ.StepAt.mk rfl (fun d x w1 hW1 hJ1 hx1 K hK => ?_)) (RegJ.Steps.cons (RegJ.StepAt.mk rfl (fun d x w1 hW1 hJ1 hx1 K hK => ?_)) (RegJ.Steps.cons (RegJ.StepAt.mk rfl (fun d x w1 hW1 hJ1 hx1 K hK => ?_)) (RegJ.Steps.cons (RegJ.StepAt.mk rfl (fun d x w1 hW1 hJ1 hx1 K hK => ?_)) (RegJ.Steps.cons (RegJ.StepAt.mk rfl (fun d x w1 hW1 hJ1 hx1 K hK => ?_)) (RegJ.Steps.cons (RegJ.StepAt.mk rfl (fun d x w1 hW1 hJ1 hx1 K hK => ?_)) (RegJ.Steps.cons (RegJ.StepAt.mk rfl (fun d x w1 hW1 hJ1 hx1 K hK => ?_)) (RegJ.Steps.cons (RegJ.StepAt.mk rfl (fun d x w1 hW1 hJ1 hx1 K hK => ?_)) (RegJ.Steps.cons (RegJ.StepAt.mk rfl (fun d x w1 hW1 hJ1 hx1 K hK => ?_)) (RegJ.Steps.nil))))))))))
    focus (simp only [List.getElem_toArray, List.getElem_cons_succ, List.getElem_cons_zero] at hK; obtain ⟨u0, u1, u2, u3, u4, u5, u6⟩ := id hW1; have e0 := u0.cell (i := 0) rfl; have e1 := u0.cell (i := 1) rfl; have e2 := u0.cell (i := 2) rfl; have e3 := u0.cell (i := 3) rfl; have e4 := u0.cell (i := 4) rfl; have e5 := u0.cell (i := 5) rfl; go_simp; exact hK.out _ _ (keepG 0 d _ _ hW1 (by decide) (Below.refl _ _)) RegJ.Tell.same rfl)
    focus (simp only [List.getElem_toArray, List.getElem_cons_succ, List.getElem_cons_zero] at hK; obtain ⟨u0, u1, u2, u3, u4, u5, u6⟩ := id hW1; have e0 := u1.cell (i := 0) rfl; have e1 := u1.cell (i := 1) rfl; have e2 := u1.cell (i := 2) rfl; have e3 := u1.cell (i := 3) rfl; have e4 := u1.cell (i := 4) rfl; have e5 := u1.cell (i := 5) rfl; go_simp; exact hK.out _ _ (keepG 1 d _ _ hW1 (by decide) (Below.refl _ _)) RegJ.Tell.same rfl)
    focus (simp only [List.getElem_toArray, List.getElem_cons_succ, List.getElem_cons_zero] at hK; obtain ⟨u0, u1, u2, u3, u4, u5, u6⟩ := id hW1; have hl : w.heap.size + 2 < w1.heap.size := Nat.lt_trans hs2 u0.lt; go_simp; exact hK.out _ _ (keepG 2 d _ _ hW1 (by decide) ((Below.refl _ _).alloc (Nat.le_refl _) _)) (RegJ.Tell.keep ((Draw.Kept.refl _ _).alloc _)) ⟨w1.heap.size, hl, rfl, Var.new _ _⟩)
    focus (simp only [List.getElem_toArray, List.getElem_cons_succ, List.getElem_cons_zero] at hK; go_simp; exact hK.out _ _ (keepG 3 d _ _ hW1 (by decide) (Below.refl _ _)) RegJ.Tell.same rfl)
    focus (simp only [List.getElem_toArray, List.getElem_cons_succ, List.getElem_cons_zero] at hK; obtain ⟨u0, u1, u2, u3, u4, u5, u6⟩ := id hW1; have cu := u4 ⟨(hx1.out 7 (.inr (by kernel_rfl))).1, (hx1.out 8 (.inr (by kernel_rfl))).1⟩; have j3 : x 3 = _ := (hJ1.out 3 (by kernel_rfl)); rw [j3] at hK; go_simp; refine (Draw.l1Below _ _ _ cu).mono ?_; rintro e wa ⟨y, y0, y1, rfl, cua, ka⟩; go_simp; exact hK.out _ _ (keepK 4 d _ _ hW1 (by decide) ka cua) (RegJ.Tell.keep ka) ⟨y, y0, by omega, rfl⟩)
    focus (simp only [List.getElem_toArray, List.getElem_cons_succ, List.getElem_cons_zero] at hK; obtain ⟨b, hb2, j2, vb⟩ := (hJ1.out 2 (by kernel_rfl)); obtain ⟨y, y0, y1, j4⟩ := (hJ1.out 4 (by kernel_rfl)); rw [j2, j4] at hK; have hy : y < 6 := (by omega); go_simp; exact hK.out (.pointer (some ⟨b, y.toNat, none⟩)) _ (keepG 5 d _ _ hW1 (by decide) (Below.refl _ _)) RegJ.Tell.same ⟨b, y.toNat, hb2, (by simp; omega), rfl, vb⟩)
    focus (simp only [List.getElem_toArray, List.getElem_cons_succ, List.getElem_cons_zero] at hK; obtain ⟨b, i, hb2, hi, j5, vb⟩ := (hJ1.out 5 (by kernel_rfl)); rw [j5] at hK; obtain ⟨m, hc⟩ := RegJ.int_cell (ns := [0, 1, 3, 400, 401, -1]) vb hi; go_simp; exact hK.out (.int .i64 m) _ (keepG 6 d _ _ hW1 (by decide) (Below.refl _ _)) RegJ.Tell.same ⟨m, rfl⟩)
    focus (simp only [List.getElem_toArray, List.getElem_cons_succ, List.getElem_cons_zero] at hK; obtain ⟨u0, u1, u2, u3, u4, u5, u6⟩ := id hW1; rw [if_neg (by rw [(hx1.out 7 (.inl rfl)).1]; decide)] at u2; have j0 : x 0 = _ := (hJ1.out 0 (by kernel_rfl)); rw [j0] at hK; have r0 := u2.cell (i := 0) rfl; have r1 := u2.cell (i := 1) rfl; have r2 := u2.cell (i := 2) rfl; have r3 := u2.cell (i := 3) rfl; have r4 := u2.cell (i := 4) rfl; have r5 := u2.cell (i := 5) rfl; have z0 := u2.free 0; have z1 := u2.free 1; have z2 := u2.free 2; have z3 := u2.free 3; have z4 := u2.free 4; have z5 := u2.free 5; have h0 : Hid _ := var_put6 u2 (.int .i64 t.nx) (.string t.bs) (.slice a' t.l.length c') (.int .i64 t.cp) (.int .i64 t.fi) (.bool t.en); have h1 : Hid _ := var_other6 u0 (k := w.heap.size) (by omega) (.int .i64 t.nx) (.string t.bs) (.slice a' t.l.length c') (.int .i64 t.cp) (.int .i64 t.fi) (.bool t.en); have h2 : Hid _ := var_other6 u1 (k := w.heap.size) (by omega) (.int .i64 t.nx) (.string t.bs) (.slice a' t.l.length c') (.int .i64 t.cp) (.int .i64 t.fi) (.bool t.en); have h3 : Hid _ := var_other6 u3 (k := w.heap.size) (by omega) (.int .i64 t.nx) (.string t.bs) (.slice a' t.l.length c') (.int .i64 t.cp) (.int .i64 t.fi) (.bool t.en); have h4 : Hid _ := own_put6 u5 (k := w.heap.size) (fun x hx => by have := hab x hx; omega) (.int .i64 t.nx) (.string t.bs) (.slice a' t.l.length c') (.int .i64 t.cp) (.int .i64 t.fi) (.bool t.en); have h5 : Hid _ := below_put6 u6 (k := w.heap.size) (by omega) (.int .i64 t.nx) (.string t.bs) (.slice a' t.l.length c') (.int .i64 t.cp) (.int .i64 t.fi) (.bool t.en); have h6 : Hid _ := kept_put6 (Draw.Kept.refl w.heap.size w1) (.inl rfl) (.int .i64 t.nx) (.string t.bs) (.slice a' t.l.length c') (.int .i64 t.cp) (.int .i64 t.fi) (.bool t.en); clear u0 u1 u2 u3 u4 u5 u6; go_simp; exact hK.out undef _ ⟨h1.out, h2.out, by rw [if_pos (by simp)]; exact h0.out, h3.out, fun hd => absurd hd.1 (by simp), h4.out, h5.out⟩ (RegJ.Tell.stored (k0 := w.heap.size) (by kernel_rfl) h6.out (by omega)) trivial)
    focus (simp only [List.getElem_toArray, List.getElem_cons_succ, List.getElem_cons_zero] at hK; obtain ⟨u0, u1, u2, u3, u4, u5, u6⟩ := id hW1; rw [if_neg (by rw [(hx1.out 8 (.inl rfl)).1]; decide)] at u3; have j1 : x 1 = _ := (hJ1.out 1 (by kernel_rfl)); rw [j1] at hK; have r0 := u3.cell (i := 0) rfl; have r1 := u3.cell (i := 1) rfl; have r2 := u3.cell (i := 2) rfl; have r3 := u3.cell (i := 3) rfl; have r4 := u3.cell (i := 4) rfl; have r5 := u3.cell (i := 5) rfl; have z0 := u3.free 0; have z1 := u3.free 1; have z2 := u3.free 2; have z3 := u3.free 3; have z4 := u3.free 4; have z5 := u3.free 5; have h0 : Hid _ := var_put6 u3 (.int .i64 g.ba) (.string g.bs) (.int .i64 g.cp) (.int .i64 g.lm) (.bool g.en) (.bool g.dn); have h1 : Hid _ := var_other6 u0 (k := w.heap.size + 1) (by omega) (.int .i64 g.ba) (.string g.bs) (.int .i64 g.cp) (.int .i64 g.lm) (.bool g.en) (.bool g.dn); have h2 : Hid _ := var_other6 u1 (k := w.heap.size + 1) (by omega) (.int .i64 g.ba) (.string g.bs) (.int .i64 g.cp) (.int .i64 g.lm) (.bool g.en) (.bool g.dn); have h3 : Hid _ := var_other6 u2 (k := w.heap.size + 1) (by omega) (.int .i64 g.ba) (.string g.bs) (.int .i64 g.cp) (.int .i64 g.lm) (.bool g.en) (.bool g.dn); have h4 : Hid _ := own_put6 u5 (k := w.heap.size + 1) (fun x hx => by have := hab x hx; omega) (.int .i64 g.ba) (.string g.bs) (.int .i64 g.cp) (.int .i64 g.lm) (.bool g.en) (.bool g.dn); have h5 : Hid _ := below_put6 u6 (k := w.heap.size + 1) (by omega) (.int .i64 g.ba) (.string g.bs) (.int .i64 g.cp) (.int .i64 g.lm) (.bool g.en) (.bool g.dn); have h6 : Hid _ := kept_put6 (Draw.Kept.refl (w.heap.size + 1) w1) (.inl rfl) (.int .i64 g.ba) (.string g.bs) (.int .i64 g.cp) (.int .i64 g.lm) (.bool g.en) (.bool g.dn); clear u0 u1 u2 u3 u4 u5 u6; go_simp; exact hK.out undef _ ⟨h1.out, h2.out, h3.out, by rw [if_pos (by simp)]; exact h0.out, fun hd => absurd hd.2 (by simp), h4.out, h5.out⟩ (RegJ.Tell.stored (k0 := w.heap.size + 1) (by kernel_rfl) h6.out (by omega)) trivial)
    focus (simp only [List.getElem_toArray, List.getElem_cons_succ, List.getElem_cons_zero] at hK; obtain ⟨m, j6⟩ := (hJ1.out 6 (by kernel_rfl)); rw [j6] at hK; go_simp; exact hK.out _ _ (keepG 9 d _ _ hW1 (by decide) (Below.refl _ _)) RegJ.Tell.same ⟨m, rfl⟩)
  obtain ⟨-, -, u2, u3, -, u5, u6⟩ := hWR
  rw [if_pos (hdR 7 (by simp))] at u2
  rw [if_pos (hdR 8 (by simp))] at u3
  obtain ⟨n, j9⟩ := hJR 9 (by simp)
  rw [j9]
  clear hJR hdR keepG z0 z1 v2 v3 o2 B3 c3 j9
  have r0 := u2.cell (i := 0) rfl
  have r1 := u2.cell (i := 1) rfl
  have r2 := u2.cell (i := 2) rfl
  have r3 := u2.cell (i := 3) rfl
  have r4 := u2.cell (i := 4) rfl
  have r5 := u2.cell (i := 5) rfl
  have s0 := u3.cell (i := 0) rfl
  have s1 := u3.cell (i := 1) rfl
  have s2 := u3.cell (i := 2) rfl
  have s3 := u3.cell (i := 3) rfl
  have s4 := u3.cell (i := 4) rfl
  have s5 := u3.cell (i := 5) rfl
  go_wp2_with fail
  refine bodyPost_ret (v := .tuple #[.agg #[.int .i64 t.nx, .string t.bs, .slice a' t.l.length c', .int .i64 t.cp, .int .i64 t.fi, .bool t.en], .agg #[.int .i64 g.ba, .string g.bs, .int .i64 g.cp, .int .i64 g.lm, .bool g.en, .bool g.dn], .int .i64 n]) (by rw [res_cells_tmp rfl]; go_simp) rfl ⟨t, hgood, g, hgb, n, a', c', rfl, u5, u6⟩

theorem res_cells2 {fn : Func} {p q : Tmp} {ty ty' : TypeId} (h : fn.results = #[.cell p ty, .cell q ty']) (tmps : Array Value) (P : Program) (w : World) :
    (results fn tmps).run P w = ((asAddr (tmps.getD p undef)).run P w).andThen fun a w₁ => ((loadVar ty a).run P w₁).andThen fun r w₂ => ((asAddr (tmps.getD q undef)).run P w₂).andThen fun b w₃ => ((loadVar ty' b).run P w₃).andThen fun v w₄ => .ok (.tuple #[r, v]) w₄ := by
  simp only [results, h]
  simp [Sem.run_bind, Result.andThen]

set_option maxRecDepth 10000 in
set_option maxHeartbeats 16000000 in
theorem drawCanPump (a : Option Addr) (len cap : Nat) (w : World) (hb : Draw.Bytes w a len) (hl : len ≤ 4096) :
    Calls Try.prog 9 #[.slice a len cap] w fun x w' => ∃ t : Tk, good t ∧ ∃ g : Gv, g.bs.size ≤ 400 ∧ ∃ (a' : Option Addr) (c' : Nat), x = .returned (.tuple #[t.v a' c', g.v]) ∧ partE.Own 69 w' w.heap.size a' c' t.l ∧ Below w.heap.size w w' := by
  have hmix := Tak.mix
  have z0 : Var 26 (w.alloc (.cells #[.int .i64 0, .string ⟨#[]⟩, .slice none 0 0, .int .i64 0, .int .i64 0, .bool false] 26)) w.heap.size [.int .i64 0, .string ⟨#[]⟩, .slice none 0 0, .int .i64 0, .int .i64 0, .bool false] := Var.new w _
  replace z0 := z0.alloc (.cells #[.int .i64 0, .string ⟨#[]⟩, .int .i64 0, .int .i64 0, .bool false, .bool false] 28)
  have z1 : Var 28 ((w.alloc (.cells #[.int .i64 0, .string ⟨#[]⟩, .slice none 0 0, .int .i64 0, .int .i64 0, .bool false] 26)).alloc (.cells #[.int .i64 0, .string ⟨#[]⟩, .int .i64 0, .int .i64 0, .bool false, .bool false] 28)) (w.heap.size + 1) [.int .i64 0, .string ⟨#[]⟩, .int .i64 0, .int .i64 0, .bool false, .bool false] := by
    have := Var.new (T := 28) (w.alloc (.cells #[.int .i64 0, .string ⟨#[]⟩, .slice none 0 0, .int .i64 0, .int .i64 0, .bool false] 26)) [.int .i64 0, .string ⟨#[]⟩, .int .i64 0, .int .i64 0, .bool false, .bool false]
    simpa using this
  have b0 := ((Below.refl w.heap.size w).alloc (Nat.le_refl _) (.cells #[.int .i64 0, .string ⟨#[]⟩, .slice none 0 0, .int .i64 0, .int .i64 0, .bool false] 26)).alloc (by simp) (.cells #[.int .i64 0, .string ⟨#[]⟩, .int .i64 0, .int .i64 0, .bool false, .bool false] 28)
  have hb0 := hb.below b0 (Nat.le_refl _)
  go_enter Try.func9, Try.ntmps9
  go_wp2_with fail
  generalize (w.alloc (.cells #[.int .i64 0, .string ⟨#[]⟩, .slice none 0 0, .int .i64 0, .int .i64 0, .bool false] 26)).alloc (.cells #[.int .i64 0, .string ⟨#[]⟩, .int .i64 0, .int .i64 0, .bool false, .bool false] 28) = W0 at *
  refine (drawPumps a len cap _ hb0 hl).mono ?_
  rintro x w1 ⟨t, hgood, g, hgb, n, a', c', rfl, o2, b1⟩
  have hs1 := z1.lt
  have hab : ∀ x, a' = some x → w.heap.size + 1 < x.block ∧ x.block < w1.heap.size := fun x hx => ⟨by have := (o2.lt x hx).1; omega, (o2.lt x hx).2⟩
  replace z0 := ((z0.later b1).alloc (.cells #[.int .i64 t.nx, .string t.bs, .slice a' t.l.length c', .int .i64 t.cp, .int .i64 t.fi, .bool t.en] 26)).alloc (.cells #[.int .i64 g.ba, .string g.bs, .int .i64 g.cp, .int .i64 g.lm, .bool g.en, .bool g.dn] 28)
  replace z1 := ((z1.later b1).alloc (.cells #[.int .i64 t.nx, .string t.bs, .slice a' t.l.length c', .int .i64 t.cp, .int .i64 t.fi, .bool t.en] 26)).alloc (.cells #[.int .i64 g.ba, .string g.bs, .int .i64 g.cp, .int .i64 g.lm, .bool g.en, .bool g.dn] 28)
  have hs2 : w.heap.size + 1 < w1.heap.size := by have := b1.size; omega
  have B1 := b0.trans (b1.mono b0.size)
  replace o2 := ((o2.mono b0.size).alloc (.cells #[.int .i64 t.nx, .string t.bs, .slice a' t.l.length c', .int .i64 t.cp, .int .i64 t.fi, .bool t.en] 26)).alloc (.cells #[.int .i64 g.ba, .string g.bs, .int .i64 g.cp, .int .i64 g.lm, .bool g.en, .bool g.dn] 28)
  replace B1 := (B1.alloc B1.size (.cells #[.int .i64 t.nx, .string t.bs, .slice a' t.l.length c', .int .i64 t.cp, .int .i64 t.fi, .bool t.en] 26)).alloc (B1.alloc B1.size (.cells #[.int .i64 t.nx, .string t.bs, .slice a' t.l.length c', .int .i64 t.cp, .int .i64 t.fi, .bool t.en] 26)).size (.cells #[.int .i64 g.ba, .string g.bs, .int .i64 g.cp, .int .i64 g.lm, .bool g.en, .bool g.dn] 28)
  have v2 : Var 26 (w1.alloc (.cells #[.int .i64 t.nx, .string t.bs, .slice a' t.l.length c', .int .i64 t.cp, .int .i64 t.fi, .bool t.en] 26)) w1.heap.size [.int .i64 t.nx, .string t.bs, .slice a' t.l.length c', .int .i64 t.cp, .int .i64 t.fi, .bool t.en] := Var.new w1 _
  replace v2 := v2.alloc (.cells #[.int .i64 g.ba, .string g.bs, .int .i64 g.cp, .int .i64 g.lm, .bool g.en, .bool g.dn] 28)
  have v3 : Var 28 ((w1.alloc (.cells #[.int .i64 t.nx, .string t.bs, .slice a' t.l.length c', .int .i64 t.cp, .int .i64 t.fi, .bool t.en] 26)).alloc (.cells #[.int .i64 g.ba, .string g.bs, .int .i64 g.cp, .int .i64 g.lm, .bool g.en, .bool g.dn] 28)) (w1.heap.size + 1) [.int .i64 g.ba, .string g.bs, .int .i64 g.cp, .int .i64 g.lm, .bool g.en, .bool g.dn] := by
    have := Var.new (T := 28) (w1.alloc (.cells #[.int .i64 t.nx, .string t.bs, .slice a' t.l.length c', .int .i64 t.cp, .int .i64 t.fi, .bool t.en] 26)) [.int .i64 g.ba, .string g.bs, .int .i64 g.cp, .int .i64 g.lm, .bool g.en, .bool g.dn]
    simpa using this
  clear b1 b0 hb0
  dsimp only [Tk.v]
  go_upto_region 2 with (fail)
  generalize (w1.alloc (.cells #[.int .i64 t.nx, .string t.bs, .slice a' t.l.length c', .int .i64 t.cp, .int .i64 t.fi, .bool t.en] 26)).alloc (.cells #[.int .i64 g.ba, .string g.bs, .int .i64 g.cp, .int .i64 g.lm, .bool g.en, .bool g.dn] 28) = W1 at *
  generalize w1.heap.size = k4 at *
  have keepW : ∀ (i : Nat) (d : Nat → Bool) (w1 : World), (fun d w' => Var 26 w' k4 [.int .i64 t.nx, .string t.bs, .slice a' t.l.length c', .int .i64 t.cp, .int .i64 t.fi, .bool t.en] ∧ Var 28 w' (k4 + 1) [.int .i64 g.ba, .string g.bs, .int .i64 g.cp, .int .i64 g.lm, .bool g.en, .bool g.dn] ∧ Var 26 w' w.heap.size (if d 2 = true then [.int .i64 t.nx, .string t.bs, .slice a' t.l.length c', .int .i64 t.cp, .int .i64 t.fi, .bool t.en] else [.int .i64 0, .string ⟨#[]⟩, .slice none 0 0, .int .i64 0, .int .i64 0, .bool false]) ∧ Var 28 w' (w.heap.size + 1) (if d 3 = true then [.int .i64 g.ba, .string g.bs, .int .i64 g.cp, .int .i64 g.lm, .bool g.en, .bool g.dn] else [.int .i64 0, .string ⟨#[]⟩, .int .i64 0, .int .i64 0, .bool false, .bool false]) ∧ partE.Own 69 w' w.heap.size a' c' t.l ∧ Below w.heap.size w w') d w1 → (i ≠ 2 ∧ i ≠ 3) → (fun d w' => Var 26 w' k4 [.int .i64 t.nx, .string t.bs, .slice a' t.l.length c', .int .i64 t.cp, .int .i64 t.fi, .bool t.en] ∧ Var 28 w' (k4 + 1) [.int .i64 g.ba, .string g.bs, .int .i64 g.cp, .int .i64 g.lm, .bool g.en, .bool g.dn] ∧ Var 26 w' w.heap.size (if d 2 = true then [.int .i64 t.nx, .string t.bs, .slice a' t.l.length c', .int .i64 t.cp, .int .i64 t.fi, .bool t.en] else [.int .i64 0, .string ⟨#[]⟩, .slice none 0 0, .int .i64 0, .int .i64 0, .bool false]) ∧ Var 28 w' (w.heap.size + 1) (if d 3 = true then [.int .i64 g.ba, .string g.bs, .int .i64 g.cp, .int .i64 g.lm, .bool g.en, .bool g.dn] else [.int .i64 0, .string ⟨#[]⟩, .int .i64 0, .int .i64 0, .bool false, .bool false]) ∧ partE.Own 69 w' w.heap.size a' c' t.l ∧ Below w.heap.size w w') (fun j => j == i || d j) w1 := fun i d w1 hW hi => by
    have e3 : ((2 : Nat) == i) = false := beq_eq_false_iff_ne.2 (Ne.symm hi.1)
    have e4 : ((3 : Nat) == i) = false := beq_eq_false_iff_ne.2 (Ne.symm hi.2)
    simp only [e3, e4, Bool.false_or]
    exact hW
  refine RegJ.wp_region_J (W := (fun d w' => Var 26 w' k4 [.int .i64 t.nx, .string t.bs, .slice a' t.l.length c', .int .i64 t.cp, .int .i64 t.fi, .bool t.en] ∧ Var 28 w' (k4 + 1) [.int .i64 g.ba, .string g.bs, .int .i64 g.cp, .int .i64 g.lm, .bool g.en, .bool g.dn] ∧ Var 26 w' w.heap.size (if d 2 = true then [.int .i64 t.nx, .string t.bs, .slice a' t.l.length c', .int .i64 t.cp, .int .i64 t.fi, .bool t.en] else [.int .i64 0, .string ⟨#[]⟩, .slice none 0 0, .int .i64 0, .int .i64 0, .bool false]) ∧ Var 28 w' (w.heap.size + 1) (if d 3 = true then [.int .i64 g.ba, .string g.bs, .int .i64 g.cp, .int .i64 g.lm, .bool g.en, .bool g.dn] else [.int .i64 0, .string ⟨#[]⟩, .int .i64 0, .int .i64 0, .bool false, .bool false]) ∧ partE.Own 69 w' w.heap.size a' c' t.l ∧ Below w.heap.size w w')) (RegJ.Val [some (.agg #[.int .i64 t.nx, .string t.bs, .slice a' t.l.length c', .int .i64 t.cp, .int .i64 t.fi, .bool t.en]), some (.agg #[.int .i64 g.ba, .string g.bs, .int .i64 g.cp, .int .i64 g.lm, .bool g.en, .bool g.dn]), none, none]) [some 13, some 14, none, none] (F := ?_) (is := [0, 1, 2, 3]) hmix (by kernel_rfl) (by kernel_rfl) (by kernel_rfl) (by kernel_rfl) (fun x => ?_) (⟨v2.drew, v3.drew, z0.drew, z1.drew, o2.drew, B1.drew⟩) ?_ (fun dR xR wR hWR hdR hJR => ?_)
  rotate_left 1
  focus (simp only [RegJ.lay, Act.put, Nat.reduceAdd, Nat.zero_add, List.getElem_toArray, List.getElem_cons_zero, List.getElem_cons_succ, List.setIfInBounds_toArray, List.set_cons_zero, List.set_cons_succ]; rfl)
  focus
    refine RegJ.Steps.cons (RegJ.StepAt.mk rfl (fun d x w1 hW1 hJ1 hx1 K hK => ?_)) (RegJ.Steps.cons (RegJ.StepAt.mk rfl (fun d x w1 hW1 hJ1 hx1 K hK => ?_)) (RegJ.Steps.cons (RegJ.StepAt.mk rfl (fun d x w1 hW1 hJ1 hx1 K hK => ?_)) (RegJ.Steps.cons (RegJ.StepAt.mk rfl (fun d x w1 hW1 hJ1 hx1 K hK => ?_)) (RegJ.Steps.nil))))
    focus (simp only [List.getElem_toArray, List.getElem_cons_succ, List.getElem_cons_zero] at hK; obtain ⟨u0, u1, u2, u3, u4, u5⟩ := id hW1; have e0 := u0.cell (i := 0) rfl; have e1 := u0.cell (i := 1) rfl; have e2 := u0.cell (i := 2) rfl; have e3 := u0.cell (i := 3) rfl; have e4 := u0.cell (i := 4) rfl; have e5 := u0.cell (i := 5) rfl; go_simp; exact hK.out _ _ (keepW 0 d _ hW1 (by decide)) RegJ.Val.keep (RegJ.Val.this (Or.inl rfl)))
    focus (simp only [List.getElem_toArray, List.getElem_cons_succ, List.getElem_cons_zero] at hK; obtain ⟨u0, u1, u2, u3, u4, u5⟩ := id hW1; have e0 := u1.cell (i := 0) rfl; have e1 := u1.cell (i := 1) rfl; have e2 := u1.cell (i := 2) rfl; have e3 := u1.cell (i := 3) rfl; have e4 := u1.cell (i := 4) rfl; have e5 := u1.cell (i := 5) rfl; go_simp; exact hK.out _ _ (keepW 1 d _ hW1 (by decide)) RegJ.Val.keep (RegJ.Val.this (Or.inl rfl)))
    focus (simp only [List.getElem_toArray, List.getElem_cons_succ, List.getElem_cons_zero] at hK; obtain ⟨u0, u1, u2, u3, u4, u5⟩ := id hW1; rw [if_neg (by rw [(hx1.out 2 (.inl rfl)).1]; decide)] at u2; have j0 : x 0 = _ := (hJ1.out 0 (by kernel_rfl)).2 _ rfl; rw [j0] at hK; have r0 := u2.cell (i := 0) rfl; have r1 := u2.cell (i := 1) rfl; have r2 := u2.cell (i := 2) rfl; have r3 := u2.cell (i := 3) rfl; have r4 := u2.cell (i := 4) rfl; have r5 := u2.cell (i := 5) rfl; have z0 := u2.free 0; have z1 := u2.free 1; have z2 := u2.free 2; have z3 := u2.free 3; have z4 := u2.free 4; have z5 := u2.free 5; have h0 : Hid _ := var_put6 u2 (.int .i64 t.nx) (.string t.bs) (.slice a' t.l.length c') (.int .i64 t.cp) (.int .i64 t.fi) (.bool t.en); have h1 : Hid _ := var_other6 u0 (k := w.heap.size) (by omega) (.int .i64 t.nx) (.string t.bs) (.slice a' t.l.length c') (.int .i64 t.cp) (.int .i64 t.fi) (.bool t.en); have h2 : Hid _ := var_other6 u1 (k := w.heap.size) (by omega) (.int .i64 t.nx) (.string t.bs) (.slice a' t.l.length c') (.int .i64 t.cp) (.int .i64 t.fi) (.bool t.en); have h3 : Hid _ := var_other6 u3 (k := w.heap.size) (by omega) (.int .i64 t.nx) (.string t.bs) (.slice a' t.l.length c') (.int .i64 t.cp) (.int .i64 t.fi) (.bool t.en); have h4 : Hid _ := own_put6 u4 (k := w.heap.size) (fun x hx => by have := hab x hx; omega) (.int .i64 t.nx) (.string t.bs) (.slice a' t.l.length c') (.int .i64 t.cp) (.int .i64 t.fi) (.bool t.en); have h5 : Hid _ := below_put6 u5 (k := w.heap.size) (by omega) (.int .i64 t.nx) (.string t.bs) (.slice a' t.l.length c') (.int .i64 t.cp) (.int .i64 t.fi) (.bool t.en); clear u0 u1 u2 u3 u4 u5; go_simp; exact hK.out undef _ ⟨h1.out, h2.out, by rw [if_pos (by simp)]; exact h0.out, h3.out, h4.out, h5.out⟩ RegJ.Val.keep (RegJ.Val.this (Or.inr rfl)))
    focus (simp only [List.getElem_toArray, List.getElem_cons_succ, List.getElem_cons_zero] at hK; obtain ⟨u0, u1, u2, u3, u4, u5⟩ := id hW1; rw [if_neg (by rw [(hx1.out 3 (.inl rfl)).1]; decide)] at u3; have j1 : x 1 = _ := (hJ1.out 1 (by kernel_rfl)).2 _ rfl; rw [j1] at hK; have r0 := u3.cell (i := 0) rfl; have r1 := u3.cell (i := 1) rfl; have r2 := u3.cell (i := 2) rfl; have r3 := u3.cell (i := 3) rfl; have r4 := u3.cell (i := 4) rfl; have r5 := u3.cell (i := 5) rfl; have z0 := u3.free 0; have z1 := u3.free 1; have z2 := u3.free 2; have z3 := u3.free 3; have z4 := u3.free 4; have z5 := u3.free 5; rw [if_pos (hJ1.out 2 (by kernel_rfl)).1] at u2; have hd3 : Hid _ := (hJ1.out 2 (by kernel_rfl)).1; have h0 : Hid _ := var_put6 u3 (.int .i64 g.ba) (.string g.bs) (.int .i64 g.cp) (.int .i64 g.lm) (.bool g.en) (.bool g.dn); have h1 : Hid _ := var_other6 u0 (k := w.heap.size + 1) (by omega) (.int .i64 g.ba) (.string g.bs) (.int .i64 g.cp) (.int .i64 g.lm) (.bool g.en) (.bool g.dn); have h2 : Hid _ := var_other6 u1 (k := w.heap.size + 1) (by omega) (.int .i64 g.ba) (.string g.bs) (.int .i64 g.cp) (.int .i64 g.lm) (.bool g.en) (.bool g.dn); have h3 : Hid _ := var_other6 u2 (k := w.heap.size + 1) (by omega) (.int .i64 g.ba) (.string g.bs) (.int .i64 g.cp) (.int .i64 g.lm) (.bool g.en) (.bool g.dn); have h4 : Hid _ := own_put6 u4 (k := w.heap.size + 1) (fun x hx => by have := hab x hx; omega) (.int .i64 g.ba) (.string g.bs) (.int .i64 g.cp) (.int .i64 g.lm) (.bool g.en) (.bool g.dn); have h5 : Hid _ := below_put6 u5 (k := w.heap.size + 1) (by omega) (.int .i64 g.ba) (.string g.bs) (.int .i64 g.cp) (.int .i64 g.lm) (.bool g.en) (.bool g.dn); clear u0 u1 u2 u3 u4 u5; go_simp; exact hK.out undef _ ⟨h1.out, h2.out, by rw [if_pos (by simp [hd3.out])]; exact h3.out, by rw [if_pos (by simp)]; exact h0.out, h4.out, h5.out⟩ RegJ.Val.keep (RegJ.Val.this (Or.inr rfl)))
  obtain ⟨-, -, u2, u3, u4, u5⟩ := hWR
  rw [if_pos (hdR 2 (by simp))] at u2
  rw [if_pos (hdR 3 (by simp))] at u3
  clear hJR hdR keepW z0 z1 v2 v3 o2 B1
  have r0 := u2.cell (i := 0) rfl
  have r1 := u2.cell (i := 1) rfl
  have r2 := u2.cell (i := 2) rfl
  have r3 := u2.cell (i := 3) rfl
  have r4 := u2.cell (i := 4) rfl
  have r5 := u2.cell (i := 5) rfl
  have s0 := u3.cell (i := 0) rfl
  have s1 := u3.cell (i := 1) rfl
  have s2 := u3.cell (i := 2) rfl
  have s3 := u3.cell (i := 3) rfl
  have s4 := u3.cell (i := 4) rfl
  have s5 := u3.cell (i := 5) rfl
  go_wp2_with fail
  refine bodyPost_ret (v := .tuple #[.agg #[.int .i64 t.nx, .string t.bs, .slice a' t.l.length c', .int .i64 t.cp, .int .i64 t.fi, .bool t.en], .agg #[.int .i64 g.ba, .string g.bs, .int .i64 g.cp, .int .i64 g.lm, .bool g.en, .bool g.dn]]) (by rw [res_cells2 rfl]; go_simp) rfl ⟨t, hgood, g, hgb, a', c', rfl, u4, u5⟩

end Go.Proofs.Ythdkajaodfkgnaa.Pum

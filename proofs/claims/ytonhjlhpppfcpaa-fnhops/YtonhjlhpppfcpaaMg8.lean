/- Hops (chapter 7): what of memory stays; the specification's l7Post, through a pointer into whatever block; at most 30 letters. · Mathematics of FnOffers: what is offered of a right giver; plain. -/
import Derived.Test.YtonhjlhpppfcpaaHopC
import Derived.Test.YtonhjlhpppfcpaaMg3
import Derived.Test.YtonhjlhpppfcpaaMg4
import Derived.Test.YtonhjlhpppfcpaaMg7
import Derived.Test.YtonhjlhpppfcpaaGivD
namespace Go.Proofs.Ytonhjlhpppfcpaa.Hop
open Go.RowKit RowG
set_option linter.unusedVariables false
set_option linter.unusedSimpArgs false

/-- Of the blocks of w none has turned but, it may be, block k and that of a row r; none has gone. -/
structure Keep (k : Nat) (r : Option Nat) (w w' : World) : Prop where
  os : w'.os = w.os
  tape : w'.tape = w.tape
  output : w'.output = w.output
  size : w.heap.size ≤ w'.heap.size
  block : ∀ i, i < w.heap.size → i ≠ k → some i ≠ r → w'.heap[i]? = w.heap[i]?
theorem Keep.ofKept {k : Nat} {r : Option Nat} {w w' : World} (h : Draw.Kept k w w') : Keep k r w w' := ⟨h.os, h.tape, h.output, h.size, fun i hi hk _ => h.block i hi hk⟩
theorem Keep.ofBelow {k : Nat} {r : Option Nat} {w w' : World} (h : Below w.heap.size w w') : Keep k r w w' := ⟨h.os, h.tape, h.output, h.size, fun i hi _ _ => h.block i hi⟩
theorem Keep.refl (k : Nat) (r : Option Nat) (w : World) : Keep k r w w := ⟨rfl, rfl, rfl, Nat.le_refl _, fun _ _ _ _ => rfl⟩
theorem Keep.trans {k : Nat} {r r' : Option Nat} {a b d : World} (h : Keep k r a b) (h' : Keep k r' b d) (hr : ∀ i, r' = some i → a.heap.size ≤ i ∨ r = some i) : Keep k r a d :=
  ⟨h'.os.trans h.os, h'.tape.trans h.tape, h'.output.trans h.output, Nat.le_trans h.size h'.size, fun i hi hk hn => (h'.block i (Nat.lt_of_lt_of_le hi h.size) hk (fun e => by rcases hr i e.symm with q | q <;> first | omega | exact hn q.symm)).trans (h.block i hi hk hn)⟩
theorem Keep.below {k B : Nat} {r : Option Nat} {w w' : World} (h : Keep k r w w') (hB : B ≤ k) (hr : ∀ i, r = some i → B ≤ i) (hs : B ≤ w.heap.size) : Below B w w' :=
  ⟨h.os, h.tape, h.output, h.size, fun i hi => h.block i (by omega) (by omega) (fun e => by have := hr i e.symm; omega)⟩
theorem Keep.kept {k c : Nat} {w w' : World} (h : Keep k none w w') (hc : k = c) : Draw.Kept c w w' := by
  subst hc
  exact ⟨h.os, h.tape, h.output, h.size, fun i hi hk => h.block i hi hk (by simp)⟩
theorem Keep.grown {k : Nat} {r : Option Nat} {w0 w w' : World} (h : Keep k r w0 w) (g : w.grownBy w' r) : Keep k r w0 w' :=
  ⟨g.os.trans h.os, g.tape.trans h.tape, g.output.trans h.output, Nat.le_trans h.size g.size, fun i hi hk hn => (g.block i (Nat.lt_of_lt_of_le hi h.size) hn).trans (h.block i hi hk hn)⟩
theorem Keep.alloc {k : Nat} {r : Option Nat} {w0 w : World} (h : Keep k r w0 w) (o : Obj) : Keep k r w0 (w.alloc o) :=
  ⟨h.os, h.tape, h.output, by have := h.size; simp; omega, fun i hi hk hn => (Below.heap_alloc _ _ _ (Nat.lt_of_lt_of_le hi h.size)).trans (h.block i hi hk hn)⟩
theorem Keep.setCell {k : Nat} {r : Option Nat} {w0 w : World} (h : Keep k r w0 w) {p : Addr} (hp : p.block = k ∨ w0.heap.size ≤ p.block) (v : Value) : Keep k r w0 (w.setCell p v) :=
  ⟨h.os, h.tape, h.output, by simpa [World.setCell] using h.size, fun i hi hk hn => (Below.heap_setCell _ _ _ _ (by omega)).trans (h.block i hi hk hn)⟩
theorem Keep.drew {k : Nat} {r : Option Nat} {w0 w : World} (h : Keep k r w0 w) : Keep k r w0 w.drew := ⟨h.os, h.tape, h.output, h.size, h.block⟩
theorem _root_.Go.Proofs.Ytonhjlhpppfcpaa.RowG.El.Own.keep {α : Type} {E : El α} {T : TypeId} {w w' : World} {B k : Nat} {r : Option Nat} {a : Option Addr} {c : Nat} {l : List α} (h : E.Own T w B a c l) (hk : Keep k r w w') (h1 : ∀ x, a = some x → x.block ≠ k) (h2 : ∀ x, a = some x → some x.block ≠ r) : E.Own T w' B a c l :=
  h.same fun x hx => hk.block x.block (h.lt x hx).2 (h1 x hx) (h2 x hx)
/-- A row's block is of its elements' type. -/
theorem own_row {α : Type} {E : El α} {e : TypeId} {w : World} {B : Nat} {a : Option Addr} {c : Nat} {l : List α} (o : E.Own e w B a c l) : ∀ x, a = some x → ∃ cs, w.heap[x.block]? = some (.cells cs e (0, 0)) := by
  intro x hx
  subst hx
  unfold El.Own at o
  rcases o.2 with ⟨h1, _⟩ | ⟨g, cap, cur, h1, _, hgb, _⟩
  · cases h1
  · cases h1
    exact ⟨_, hgb⟩
theorem own_two {α β : Type} {E : El α} {E' : El β} {e e' : TypeId} {w : World} {B B' : Nat} {a a' : Option Addr} {c c' : Nat} {l : List α} {l' : List β} (hne : e ≠ e') (o : E.Own e w B a c l) (o' : E'.Own e' w B' a' c' l') : ∀ x, a = some x → some x.block ≠ blk a' := by
  intro x hx he
  obtain ⟨cs, h1⟩ := own_row o x hx
  cases a' with
  | none => simp [blk] at he
  | some y =>
    simp [blk] at he
    obtain ⟨cs', h2⟩ := own_row o' y rfl
    rw [he, h2] at h1
    cases h1
    exact hne rfl
theorem own_win {α : Type} {E : El α} {e T : TypeId} {pre post : List Value} {ow : Nat} {w : World} {B k : Nat} {a : Option Addr} {c : Nat} {l : List α} {vs : List Value} (hne : T ≠ e) (o : E.Own e w B a c l) (v : Win T pre post ow w k vs) : ∀ x, a = some x → x.block ≠ k := by
  intro x hx hk
  obtain ⟨cs, h1⟩ := own_row o x hx
  have h2 := v.blk
  rw [hk, h2] at h1
  cases h1
  exact hne rfl

/-- A letter more, where there is room and it is right. -/
def postB (h : Hp) (x : Lt) : Bool := !decide (h.ws.length = 30) && letB x
def postH (h : Hp) (x : Lt) : Hp := if postB h x then ⟨h.g, h.t, h.ws ++ [x]⟩ else h

set_option maxRecDepth 10000 in
set_option maxHeartbeats 4000000 in
theorem l7Post {T : TypeId} {pre post : List Value} {ow : Nat} (hT : T ≠ 45) (k B : Nat) (h : Hp) (aT : Option Addr) (cT : Nat) (aW : Option Addr) (cW : Nat) (x : Lt) (w : World)
    (hv : Win T pre post ow w k (h.c aT cT aW cW)) (ho : letE.Own 45 w B aW cW h.ws) (hB : B ≤ w.heap.size) (hl : h.ws.length ≤ 524288) (hx : x.bs.size ≤ 2097152) :
    Calls Try.prog 69 #[.pointer (some ⟨k, ow, none⟩), x.v] w fun e w' => ∃ aW' cW', e = .returned (.bool (postB h x)) ∧ Win T pre post ow w' k ((postH h x).c aT cT aW' cW') ∧ letE.Own 45 w' B aW' cW' (postH h x).ws ∧ Keep k (blk aW) w w' := by
  have hmix := mix
  have v3 : Var 45 (w.alloc (.cells #[.bool x.bk, .int .i64 x.rd, .int .i64 x.pl, .string x.bs, .bool x.en, .int .i64 x.lm, .bool x.dn] 45)) w.heap.size [.bool x.bk, .int .i64 x.rd, .int .i64 x.pl, .string x.bs, .bool x.en, .int .i64 x.lm, .bool x.dn] := Var.new w _
  have b0 : Below w.heap.size w (w.alloc (.cells #[.bool x.bk, .int .i64 x.rd, .int .i64 x.pl, .string x.bs, .bool x.en, .int .i64 x.lm, .bool x.dn] 45)) := (Below.refl _ _).alloc (Nat.le_refl _) _
  have hL := fun w' => l7Letter x w' hx
  dsimp only [Lt.v] at hL
  have v0 := hv.later b0
  have o0 := ho.later b0
  have HP : Hid (postB h x = (!decide (h.ws.length = 30) && letB x)) := rfl
  have HQ : Hid (postH h x = if postB h x then ⟨h.g, h.t, h.ws ++ [x]⟩ else h) := rfl
  generalize postB h x = pb at *
  generalize postH h x = ph at *
  go_enter Try.func69, Try.ntmps69
  go_upto_region 1 with (fail)
  generalize w.alloc (.cells #[.bool x.bk, .int .i64 x.rd, .int .i64 x.pl, .string x.bs, .bool x.en, .int .i64 x.lm, .bool x.dn] 45) = V at *
  have e12 := v0.cell (i := 12) rfl
  have d0 := v3.cell (i := 0) rfl
  have d1 := v3.cell (i := 1) rfl
  have d2 := v3.cell (i := 2) rfl
  have d3 := v3.cell (i := 3) rfl
  have d4 := v3.cell (i := 4) rfl
  have d5 := v3.cell (i := 5) rfl
  have d6 := v3.cell (i := 6) rfl
  by_cases h30 : h.ws.length = 30
  case pos =>
    have h30i : (h.ws.length : Int) = 30 := by omega
    have hpb : pb = false := by rw [HP.out, decide_eq_true h30]; rfl
    subst hpb
    have hph : ph = h := HQ.out
    subst hph
    go_wp2_with fail
    go_ret
    exact ⟨aW, cW, rfl, v0, o0, Keep.ofBelow b0⟩
  have h30i : ¬ (h.ws.length : Int) = 30 := by omega
  rw [decide_eq_false h30] at HP
  go_wp2_with fail
  refine (hL _).mono ?_
  rintro e w1 ⟨rfl, b1⟩
  replace v0 := v0.later b1
  replace o0 := o0.later b1
  replace v3 := v3.later b1
  have B1 := b0.trans (b1.mono b0.size)
  clear b0 b1 e12 d0 d1 d2 d3 d4 d5 d6 hL
  have hws : w.heap.size < w1.heap.size := v3.lt
  cases hlb : letB x
  case false =>
    have hpb : pb = false := by rw [HP.out, hlb]; rfl
    subst hpb
    have hph : ph = h := HQ.out
    subst hph
    go_wp2_with fail
    go_ret
    exact ⟨aW, cW, rfl, v0, o0, Keep.ofBelow B1⟩
  have hpb : pb = true := by rw [HP.out, hlb]; rfl
  subst hpb
  have hph : ph = ⟨h.g, h.t, h.ws ++ [x]⟩ := HQ.out
  subst hph
  clear HP HQ hlb
  have hkw : ∀ y, aW = some y → y.block ≠ k := own_win hT o0 v0
  have hk1 : some k ≠ blk aW := by
    cases aW with
    | none => simp [blk]
    | some y => simp [blk]; exact fun e => hkw y rfl e.symm
  have hk2 : some w.heap.size ≠ blk aW := by
    cases aW with
    | none => simp [blk]
    | some y => simp [blk]; have := (ho.lt y rfl).2; omega
  have e12 := v0.cell (i := 12) rfl
  have d0 := v3.cell (i := 0) rfl
  have d1 := v3.cell (i := 1) rfl
  have d2 := v3.cell (i := 2) rfl
  have d3 := v3.cell (i := 3) rfl
  have d4 := v3.cell (i := 4) rfl
  have d5 := v3.cell (i := 5) rfl
  have d6 := v3.cell (i := 6) rfl
  have hz : h.ws.length + [x].length ≤ 4194304 := by simp; omega
  have lx : letE.Lies (w1.drew.alloc (.cells #[.bool x.bk, .int .i64 x.rd, .int .i64 x.pl, .string x.bs, .bool x.en, .int .i64 x.lm, .bool x.dn] 45)) (some ⟨w1.heap.size, 0, none⟩) [x] := El.lies_new rfl
  have hBA : B ≤ (w1.drew.alloc (.cells #[.bool x.bk, .int .i64 x.rd, .int .i64 x.pl, .string x.bs, .bool x.en, .int .i64 x.lm, .bool x.dn] 45)).heap.size := by have := B1.size; simp; omega
  have va := v0.drew.alloc (.cells #[.bool x.bk, .int .i64 x.rd, .int .i64 x.pl, .string x.bs, .bool x.en, .int .i64 x.lm, .bool x.dn] 45)
  have ka : Keep k (blk aW) w (w1.drew.alloc (.cells #[.bool x.bk, .int .i64 x.rd, .int .i64 x.pl, .string x.bs, .bool x.en, .int .i64 x.lm, .bool x.dn] 45)) := (Keep.ofBelow B1).drew.alloc _
  go_wp2_with fail
  refine Draw.wp_region_Y (S := (fun w' => w'.cell? ⟨k, ow + 12, none⟩ = some (.slice aW h.ws.length cW) ∧ w'.cell? ⟨w.heap.size, 0, none⟩ = some (.bool x.bk) ∧ w'.cell? ⟨w.heap.size, 1, none⟩ = some (.int .i64 x.rd) ∧ w'.cell? ⟨w.heap.size, 2, none⟩ = some (.int .i64 x.pl) ∧ w'.cell? ⟨w.heap.size, 3, none⟩ = some (.string x.bs) ∧ w'.cell? ⟨w.heap.size, 4, none⟩ = some (.bool x.en) ∧ w'.cell? ⟨w.heap.size, 5, none⟩ = some (.int .i64 x.lm) ∧ w'.cell? ⟨w.heap.size, 6, none⟩ = some (.bool x.dn))) 10 (by kernel_rfl) ?_ (fun hHeld => ?_)
  focus ((try dsimp only) <;> (first | with_reducible exact hHeld | with_reducible exact hS2 | exact ⟨e12, d0, d1, d2, d3, d4, d5, d6⟩ | exact ⟨alloc_cell hHeld.1 _, alloc_cell hHeld.2.1 _, alloc_cell hHeld.2.2.1 _, alloc_cell hHeld.2.2.2.1 _, alloc_cell hHeld.2.2.2.2.1 _, alloc_cell hHeld.2.2.2.2.2.1 _, alloc_cell hHeld.2.2.2.2.2.2.1 _, alloc_cell hHeld.2.2.2.2.2.2.2 _⟩))
  refine Draw.wpAnyY_takeT (i := 0) (v := ?_) rfl (by kernel_rfl) (by kernel_rfl) (by kernel_rfl) (fun _ _ _ h => h) (Or.inl ⟨by rfl, ?_⟩) ?_
  rotate_left 1
  focus (intro wS hSw; (try dsimp only at hSw); go_simp; first | done | (constructor <;> with_reducible rfl) | with_reducible rfl)
  (try simp only [Act.put, List.getElem_toArray, List.getElem_cons_zero, List.getElem_cons_succ, List.setIfInBounds_toArray, List.set_cons_zero, List.set_cons_succ])
  refine Draw.wpAnyY_takeT (i := 1) (v := ?_) rfl (by kernel_rfl) (by kernel_rfl) (by kernel_rfl) (fun _ _ _ h => h) (Or.inl ⟨by rfl, ?_⟩) ?_
  rotate_left 1
  focus (intro wS hSw; (try dsimp only at hSw); go_simp; first | done | (constructor <;> with_reducible rfl) | with_reducible rfl)
  (try simp only [Act.put, List.getElem_toArray, List.getElem_cons_zero, List.getElem_cons_succ, List.setIfInBounds_toArray, List.set_cons_zero, List.set_cons_succ])
  refine Draw.wpAnyY_takeT (i := 2) (v := ?_) rfl (by kernel_rfl) (by kernel_rfl) (by kernel_rfl) (fun _ _ _ h => h) (Or.inl ⟨by rfl, ?_⟩) ?_
  rotate_left 1
  focus (intro wS hSw; (try dsimp only at hSw); go_simp; first | done | (constructor <;> with_reducible rfl) | with_reducible rfl)
  (try simp only [Act.put, List.getElem_toArray, List.getElem_cons_zero, List.getElem_cons_succ, List.setIfInBounds_toArray, List.set_cons_zero, List.set_cons_succ])
  refine Draw.wpAnyY_takeT (i := 3) (v := ?_) rfl (by kernel_rfl) (by kernel_rfl) (by kernel_rfl) (fun _ _ _ h => h) (Or.inl ⟨by rfl, ?_⟩) ?_
  rotate_left 1
  focus (intro wS hSw; (try dsimp only at hSw); go_simp; first | done | (constructor <;> with_reducible rfl) | with_reducible rfl)
  (try simp only [Act.put, List.getElem_toArray, List.getElem_cons_zero, List.getElem_cons_succ, List.setIfInBounds_toArray, List.set_cons_zero, List.set_cons_succ])
  refine Draw.wpAnyY_takeP (ps := [7]) (i := 4) (v := ?_) rfl (by kernel_rfl) (by kernel_rfl) (by kernel_rfl) (by kernel_rfl) (by kernel_rfl) (fun _ _ _ h => h) (Or.inl ⟨by rfl, ?_⟩) (by assumption) ?_
  rotate_left 1
  focus (intro wS hSw; (try dsimp only at hSw); go_simp; first | done | (constructor <;> with_reducible rfl) | with_reducible rfl)
  (try simp only [Act.put, List.getElem_toArray, List.getElem_cons_zero, List.getElem_cons_succ, List.setIfInBounds_toArray, List.set_cons_zero, List.set_cons_succ])
  refine Draw.wpAnyY_takeP (ps := [7, 6]) (i := 5) (v := ?_) rfl (by kernel_rfl) (by kernel_rfl) (by kernel_rfl) (by kernel_rfl) (by kernel_rfl) (fun _ _ _ h => h) (Or.inl ⟨by rfl, ?_⟩) (by assumption) ?_
  rotate_left 1
  focus (intro wS hSw; (try dsimp only at hSw); go_simp; first | done | (constructor <;> with_reducible rfl) | with_reducible rfl)
  (try simp only [Act.put, List.getElem_toArray, List.getElem_cons_zero, List.getElem_cons_succ, List.setIfInBounds_toArray, List.set_cons_zero, List.set_cons_succ])
  refine Draw.wpAnyY_ready (rs := [6]) (by kernel_rfl) (by simp) ?_
  refine Draw.AllReadyY.cons rfl (fun K hK => ?_) Draw.AllReadyY.nil
  go_simp
  refine hK.out _ _ ?_ (fun hHeld2 => ?_)
  focus (intro _ _; (try dsimp only) <;> (first | with_reducible exact hHeld | with_reducible exact hS2 | exact ⟨e12, d0, d1, d2, d3, d4, d5, d6⟩ | exact ⟨alloc_cell hHeld.1 _, alloc_cell hHeld.2.1 _, alloc_cell hHeld.2.2.1 _, alloc_cell hHeld.2.2.2.1 _, alloc_cell hHeld.2.2.2.2.1 _, alloc_cell hHeld.2.2.2.2.2.1 _, alloc_cell hHeld.2.2.2.2.2.2.1 _, alloc_cell hHeld.2.2.2.2.2.2.2 _⟩))
  clear hK K
  replace hHeld := hHeld2 (by decide) hHeld
  clear hHeld2
  (try simp only [Act.put, List.getElem_toArray, List.getElem_cons_zero, List.getElem_cons_succ, List.setIfInBounds_toArray, List.set_cons_zero, List.set_cons_succ])
  refine Draw.wpAnyY_ready (rs := [7]) (by kernel_rfl) (by simp) ?_
  refine Draw.AllReadyY.cons rfl (fun K hK => ?_) Draw.AllReadyY.nil
  (refine step_app typ (by decide) (by rfl) _ _ (by rfl) B aW cW h.ws.length h.ws [x] rfl (by rfl) (o0.drew.alloc _) hBA (some ⟨w1.heap.size, 0, none⟩) 1 1 rfl (by rfl) lx (by simp) hz ?_; intro a2 c2 w2 o2 g2; have vg := va.grown g2 (by intro g hg e; exact hk1 (by rw [e, hg])); have kg := ka.grown g2; have hS2 := And.intro (grown_cell g2 hHeld.1 hk1) (And.intro (grown_cell g2 hHeld.2.1 hk2) (And.intro (grown_cell g2 hHeld.2.2.1 hk2) (And.intro (grown_cell g2 hHeld.2.2.2.1 hk2) (And.intro (grown_cell g2 hHeld.2.2.2.2.1 hk2) (And.intro (grown_cell g2 hHeld.2.2.2.2.2.1 hk2) (And.intro (grown_cell g2 hHeld.2.2.2.2.2.2.1 hk2) (grown_cell g2 hHeld.2.2.2.2.2.2.2 hk2))))))); have y12 := vg.free 12; have z12 := vg.cell (i := 12) rfl)
  refine hK.out _ _ ?_ (fun hHeld2 => ?_)
  focus (intro _ _; (try dsimp only) <;> (first | with_reducible exact hHeld | with_reducible exact hS2 | exact ⟨e12, d0, d1, d2, d3, d4, d5, d6⟩ | exact ⟨alloc_cell hHeld.1 _, alloc_cell hHeld.2.1 _, alloc_cell hHeld.2.2.1 _, alloc_cell hHeld.2.2.2.1 _, alloc_cell hHeld.2.2.2.2.1 _, alloc_cell hHeld.2.2.2.2.2.1 _, alloc_cell hHeld.2.2.2.2.2.2.1 _, alloc_cell hHeld.2.2.2.2.2.2.2 _⟩))
  clear hK K
  replace hHeld := hHeld2 (by decide) hHeld
  clear hHeld2
  (try simp only [Act.put, List.getElem_toArray, List.getElem_cons_zero, List.getElem_cons_succ, List.setIfInBounds_toArray, List.set_cons_zero, List.set_cons_succ])
  refine Draw.wpAnyY_takeT (i := 8) (v := ?_) rfl (by kernel_rfl) (by kernel_rfl) (by kernel_rfl) (fun _ _ _ h => h) (Or.inl ⟨by rfl, ?_⟩) ?_
  rotate_left 1
  focus (intro wS hSw; (try dsimp only at hSw); go_simp; first | done | (constructor <;> with_reducible rfl) | with_reducible rfl)
  (try simp only [Act.put, List.getElem_toArray, List.getElem_cons_zero, List.getElem_cons_succ, List.setIfInBounds_toArray, List.set_cons_zero, List.set_cons_succ])
  refine Draw.wpAnyY_takeT (i := 9) (v := ?_) rfl (by kernel_rfl) (by kernel_rfl) (by kernel_rfl) (fun _ _ _ h => h) (Or.inl ⟨by rfl, ?_⟩) ?_
  rotate_left 1
  focus (intro wS hSw; (try dsimp only at hSw); go_simp; first | done | (constructor <;> with_reducible rfl) | with_reducible rfl)
  (try simp only [Act.put, List.getElem_toArray, List.getElem_cons_zero, List.getElem_cons_succ, List.setIfInBounds_toArray, List.set_cons_zero, List.set_cons_succ])
  refine Draw.wpAnyY_ready (rs := [10]) (by kernel_rfl) (by simp) ?_
  refine Draw.AllReadyY.cons rfl (fun K hK => ?_) Draw.AllReadyY.nil
  go_simp
  refine hK.out _ _ (fun h => absurd rfl h) (fun hHeld2 => ?_)
  clear hK K hHeld hHeld2
  (try simp only [Act.put, List.getElem_toArray, List.getElem_cons_zero, List.getElem_cons_succ, List.setIfInBounds_toArray, List.set_cons_zero, List.set_cons_succ])
  refine Draw.wpAnyY_done (by kernel_rfl) ?_ _
  go_wp2_with fail
  go_ret
  have hlen : (h.ws ++ [x]).length = h.ws.length + 1 := by simp
  exact ⟨rfl, a2, c2, by have := vg.set 12 (.slice a2 (h.ws.length + 1) c2); simp only [Hp.c, hlen]; exact this, o2.setCell (fun y e => own_win hT o2 vg y e) _, kg.setCell (.inl rfl) _⟩

end Go.Proofs.Ytonhjlhpppfcpaa.Hop

namespace Go.Proofs.Ytonhjlhpppfcpaa.Giv
open Go.RowKit RowG
set_option linter.unusedVariables false
set_option linter.unusedSimpArgs false

theorem offers_none {g : Gv} {p n xa : Int} {xb : ByteArray} {xe : Bool} (h : offersG g p n = ((xa, xb), xe, false)) : xa = 0 ∧ xb = ⟨#[]⟩ ∧ xe = false := by
  unfold offersG at h
  split at h
  · unfold offerG at h
    split at h
    · simp only [Prod.mk.injEq] at h
      exact ⟨h.1.1.symm, h.1.2.symm, h.2.1.symm⟩
    · split at h
      · simp only [Prod.mk.injEq] at h
        exact ⟨h.1.1.symm, h.1.2.symm, h.2.1.symm⟩
      · simp only [Prod.mk.injEq] at h
        exact absurd h.2.2 (by decide)
  · simp only [Prod.mk.injEq] at h
    exact ⟨h.1.1.symm, h.1.2.symm, h.2.1.symm⟩
theorem offers_some {g : Gv} {p n xa : Int} {xb : ByteArray} {xe : Bool} (h : offersG g p n = ((xa, xb), xe, true)) :
    g.ok = true ∧ xa = p ∧ ∃ st : Int, g.ba ≤ p ∧ p ≤ st ∧ st ≤ g.ba + g.bs.size ∧ st ≤ p + n ∧ 0 ≤ n ∧ n ≤ 40 ∧ (st = p ∨ st ≤ g.lm) ∧ xb = g.bs.extract (p - g.ba).toNat (st - g.ba).toNat ∧ (xb.size : Int) = st - p ∧ xe = (g.en && decide (st = g.ba + g.bs.size)) ∧ (st = p → xe = true) := by
  unfold offersG at h
  split at h
  · rename_i hok
    refine ⟨hok, ?_⟩
    unfold offerG at h
    split at h
    · simp only [Prod.mk.injEq] at h
      exact absurd h.2.2 (by decide)
    · rename_i hin
      split at h
      · simp only [Prod.mk.injEq] at h
        exact absurd h.2.2 (by decide)
      · rename_i hst
        simp only [Prod.mk.injEq] at h
        obtain ⟨⟨rfl, rfl⟩, rfl, -⟩ := h
        have e1 : stopG g p n = min (p + n) (min (g.ba + g.bs.size) (max p g.lm)) := rfl
        generalize stopG g p n = st at *
        refine ⟨rfl, st, by omega, by omega, by omega, by omega, by omega, by omega, by omega, rfl, ?_, rfl, ?_⟩
        · rw [ByteArray.size_extract]
          omega
        · intro he
          cases hx : (g.en && decide (st = g.ba + g.bs.size))
          · exact absurd ⟨he, hx⟩ hst
          · rfl
  · simp only [Prod.mk.injEq] at h
    exact absurd h.2.2 (by decide)

end Go.Proofs.Ytonhjlhpppfcpaa.Giv

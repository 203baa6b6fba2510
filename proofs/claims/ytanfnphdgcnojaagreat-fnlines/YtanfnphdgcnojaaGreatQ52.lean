/- Contracts of this seat's functions, and their mathematics (LawRo DrawRo LinE LinI). -/
import Derived.Test.YtanfnphdgcnojaaGreatQ19
import Derived.Test.YtanfnphdgcnojaaGreatQ38
import Derived.Test.YtanfnphdgcnojaaGreatQ41
import Derived.Test.YtanfnphdgcnojaaGreatQ10
import Derived.Deep.CutRange
import Derived.Test.YtanfnphdgcnojaaGreatQ45
import Derived.Test.YtanfnphdgcnojaaGreatQ51
set_option linter.unusedVariables false
set_option linter.unusedSimpArgs false
set_option maxRecDepth 10000
set_option maxHeartbeats 8000000
namespace Go.Proofs.YtanfnphdgcnojaaGreat.Roa
open Go.RowKit RowG
theorem own_nonempty {w : World} {B g c : Nat} {l : List Rd} (h : Own w B g c l) : ∀ {k : Nat}, k < l.length → (w.cell? ⟨g, k * 4, none⟩ = some (.bool (at' l k).op) ∧ w.cell? ⟨g, k * 4 + 1, none⟩ = some (.int .i64 (at' l k).co) ∧ w.cell? ⟨g, k * 4 + 2, none⟩ = some (.int .i64 (at' l k).se) ∧ w.cell? ⟨g, k * 4 + 3, none⟩ = some (.int .i64 (at' l k).lo)) ∧ (w.frozen? ⟨g, k * 4, none⟩ = false ∧ w.frozen? ⟨g, k * 4 + 1, none⟩ = false ∧ w.frozen? ⟨g, k * 4 + 2, none⟩ = false ∧ w.frozen? ⟨g, k * 4 + 3, none⟩ = false) := by
 intro k hk
 refine ⟨?_, El.Own.frozen (E := E) h _, El.Own.frozen (E := E) h _, El.Own.frozen (E := E) h _, El.Own.frozen (E := E) h _⟩
 rcases El.Own.lies (E := E) h with e | ⟨b, off, e, hs⟩
 ·rw [e] at hk; simp at hk
 ·cases e
  have := cells4 hs hk
  rw [Nat.zero_add] at this
  exact this
end Go.Proofs.YtanfnphdgcnojaaGreat.Roa
namespace Go.Proofs.YtanfnphdgcnojaaGreat.Roa
open Go.RowKit RowG
theorem l1From (c : Nat) (a b : Int) (w : World) (h : Draw.Cur w c) :
  Calls Tryz.prog 31 #[.pointer (some ⟨c, 0, none⟩), .int .i64 a, .int .i64 b] w fun e w' => ∃ x : Int, e = .returned (.int .i64 x) ∧ Draw.Cur w' c ∧ Draw.Kept c w w' := by
 go_enter Tryz.func31, Tryz.ntmps31
 go_wp2_with fail
 refine (Draw.l1Below _ _ _ h).mono ?_
 rintro x w1 ⟨y, _, _, rfl, c1, k1⟩
 go_wp2_with fail
 go_ret
 exact ⟨_, rfl, c1, k1⟩
theorem cur_setC {w : World} {c : Nat} (h : Draw.Cur w c) {p : Addr} (hp : c < p.block) (v : Value) : Draw.Cur (w.setCell p v) c := h.upto fun i hi => Below.heap_setCell _ _ _ _ (by omega)
theorem cur_grown {w w' : World} {c r : Nat} (h : Draw.Cur w c) (g : w.grownBy w' (some r)) (hr : c < r) (hlt : c < w.heap.size) : Draw.Cur w' c :=
 h.upto fun i hi => g.block i (by omega) (by simp; omega)
theorem own_kept {w w' : World} {k B g c : Nat} {l : List Rd} (h : Own w B g c l) (q : Draw.Kept k w w') (hc : k < g) : Own w' B g c l := El.Own.kept (E := E) h q (fun x hx => by cases hx; simp only; omega)
theorem put0 {w : World} {B g c : Nat} {l : List Rd} (h : Own w B g c l) (hp : 0 < l.length) (v : Int) : Own (w.setCell ⟨g, 3, none⟩ (.int .i64 v)) B g c (l.set 0 { at' l 0 with lo := v }) := by
 have := El.Own.put (E := E) h (at_some hp) (y := { at' l 0 with lo := v }) (j := 3) (u := .int .i64 v) (by decide) rfl
 rwa [show 0 * E.size + 3 = 3 from rfl] at this
theorem put1 {w : World} {B g c : Nat} {l : List Rd} (h : Own w B g c l) (hp : 0 < l.length) (v : Int) : Own (w.setCell ⟨g, 1, none⟩ (.int .i64 v)) B g c (l.set 0 { at' l 0 with co := v }) := by
 have := El.Own.put (E := E) h (at_some hp) (y := { at' l 0 with co := v }) (j := 1) (u := .int .i64 v) (by decide) rfl
 rwa [show 0 * E.size + 1 = 1 from rfl] at this
theorem put2 {w : World} {B g c : Nat} {l : List Rd} (h : Own w B g c l) (hp : 0 < l.length) (v : Int) : Own (w.setCell ⟨g, 2, none⟩ (.int .i64 v)) B g c (l.set 0 { at' l 0 with se := v }) := by
 have := El.Own.put (E := E) h (at_some hp) (y := { at' l 0 with se := v }) (j := 2) (u := .int .i64 v) (by decide) rfl
 rwa [show 0 * E.size + 2 = 2 from rfl] at this
theorem l10Draw (c : Nat) (w : World) (h : Draw.Cur w c) :
  Calls Tryz.prog 64 #[.pointer (some ⟨c, 0, none⟩)] w fun x w' => ∃ g cap, ∃ L : List Rd, x = .returned (.slice (some ⟨g, 0, none⟩) L.length cap) ∧ L.length ≤ 8 ∧ Own w' w.heap.size g cap L ∧ Draw.Cur w' c ∧ Draw.Kept c w w' := by
 have hmix := mix
 have hlt := h.lt
 have o0 := own_empty w
 have c0 := h.alloc (.cells #[] 58)
 have p0 := (Draw.Kept.refl c w).alloc (.cells #[] 58)
 go_enter Tryz.func64, Tryz.ntmps64
 go_wp2_with fail
 refine (Draw.l1Below _ _ _ c0).mono ?_
 rintro x w1 ⟨n, n0, n1, rfl, c1, q1⟩
 have k1 := p0.trans q1
 have o1 : Own w1 w.heap.size w.heap.size 0 [] := own_kept o0 q1 hlt
 have n2 : n ≤ 3 := by omega
 clear n1 c0 p0 q1 o0 h
 go_wp2_with fail
 go_loopw [3, 4] (fun lv nv wr => ∃ (g cap : Nat) (L : List Rd) (m : Int), lv = .slice (some ⟨g, 0, none⟩) L.length cap ∧ nv = .int .i64 m ∧ 0 ≤ m ∧ (L.length : Int) + m = 1 + n ∧ Own wr w.heap.size g cap L ∧ Draw.Cur wr c ∧ Draw.Kept c w wr) (fun _ nv _ => (intOf nv).toNat)
 case atStart => exact ⟨_, 0, [], 1 + n, rfl, rfl, by omega, by simp, o1, c1, k1⟩
 case round =>
  clear o1 c1 k1
  obtain ⟨g, cap, L, m, rfl, rfl, m0, hm, o1, c1, k1⟩ := hrel
  have hgw := (El.Own.lt (E := E) o1 _ rfl).1
  simp only at hgw
  by_cases hm0 : 0 < m
  ·go_wp2_with fail
   refine (Draw.l1Below _ _ _ c1).mono ?_
   rintro x w2 ⟨s, s0, s1, rfl, c2, q2⟩
   replace o1 := own_kept o1 q2 (by omega)
   replace k1 := k1.trans q2
   have s2 : s ≤ 8 := by omega
   clear c1 q2 s1
   go_wp2_with fail
   refine (Draw.l1Once _ _ _ c2).mono ?_
   rintro x w3 ⟨b, rfl, c3, q3⟩
   replace o1 := own_kept o1 q3 (by omega)
   replace k1 := k1.trans q3
   clear c2 q3
   go_wp2_with fail
   refine (Draw.l1Below _ _ _ c3).mono ?_
   rintro x w4 ⟨t, t0, t1, rfl, c4, q4⟩
   replace o1 := own_kept o1 q4 (by omega)
   replace k1 := k1.trans q4
   clear c3 q4 t1
   go_wp2_with fail
   refine (Draw.l1Below _ _ _ c4).mono ?_
   rintro x w5 ⟨u, u0, u1, rfl, c5, q5⟩
   replace o1 := own_kept o1 q5 (by omega)
   replace k1 := k1.trans q5
   clear c4 q5 u1
   have n5 : w.heap.size ≤ (w5.alloc (.cells #[.bool (!b), .int .i64 t, .int .i64 s, .int .i64 u] 58)).heap.size := by have := k1.size; simp; omega
   have o5 := El.Own.alloc (E := E) o1 (.cells #[.bool (!b), .int .i64 t, .int .i64 s, .int .i64 u] 58)
   have c5' := c5.alloc (.cells #[.bool (!b), .int .i64 t, .int .i64 s, .int .i64 u] 58)
   have k5 := k1.alloc (.cells #[.bool (!b), .int .i64 t, .int .i64 s, .int .i64 u] 58)
   have L5 : E.Lies (w5.alloc (.cells #[.bool (!b), .int .i64 t, .int .i64 s, .int .i64 u] 58)) (some ⟨w5.heap.size, 0, none⟩) [⟨!b, t, s, u⟩] := El.lies_new rfl
   go_wp2_with (at_builtin; refine wpList_appS ty (by decide) (by rfl) _ _ (by rfl) w.heap.size g cap _ L [⟨!b, t, s, u⟩] rfl (by rfl) o5 n5 (some ⟨w5.heap.size, 0, none⟩) 1 1 rfl (by rfl) L5 (fun e => by cases e) (by simp only [List.length_cons, List.length_nil]; omega) ?_; intro g6 cap6 w6 o6 gr6)
   have c6 := cur_grown c5' gr6 (by omega) c5'.lt
   have k6 := kept_grown k5 gr6 (fun x hx => by cases hx; exact .inl hgw)
   have hlen : (L ++ [(⟨!b, t, s, u⟩ : Rd)]).length = L.length + 1 := by simp
   have O6 : Own w6 w.heap.size g6 cap6 (L ++ [(⟨!b, t, s, u⟩ : Rd)]) := o6
   go_roundw
   case rel => exact ⟨g6, cap6, L ++ [(⟨!b, t, s, u⟩ : Rd)], m - 1, by rw [hlen], rfl, by omega, by rw [hlen]; omega, O6, c6, k6⟩
   case measure => simp [intOf]; omega
  ·have hL : 0 < L.length := by omega
   have hL4 : L.length ≤ 4 := by omega
   have i0 : (0 : Int) < (L.length : Int) := by omega
   go_wp2_with fail
   refine (Draw.l1Once _ _ _ c1).mono ?_
   rintro x w2 ⟨b, rfl, c2, q2⟩
   replace o1 := own_kept o1 q2 (by omega)
   replace k1 := k1.trans q2
   clear c1 q2
   cases b
   ·go_wp2_with fail
    go_ret
    exact ⟨g, cap, L, rfl, by omega, o1, c2, k1⟩
   go_wp2_with fail
   refine (Draw.l1Below _ _ _ c2).mono ?_
   rintro x w3 ⟨q, q0, q1, rfl, c3, qk⟩
   have o3 := own_kept o1 qk (by omega)
   have k3 := k1.trans qk
   have q2 : q = 0 ∨ q = 1 ∨ q = 2 ∨ q = 3 := by omega
   clear q0 q1 c2 qk o1 k1
   rcases q2 with rfl | rfl | rfl | rfl
   ·go_upto_region 10 with (fail)
    refine RegJ.wp_region_J (W := fun d wr => Draw.Cur wr c ∧ Draw.Kept c w wr ∧ ∃ L', Own wr w.heap.size g cap L' ∧ L'.length = L.length) (RegJ.Tell (c) [.eq (.slice (some ⟨g, 0, none⟩) L.length cap), .eq (.slice (some ⟨g, 0, none⟩) L.length cap), .eq (.pointer (some ⟨g, 0, none⟩)), .eq (.pointer (some ⟨g, 2, none⟩)), .num, .eq (.pointer (some ⟨c, 0, none⟩)), .num, .num, .eq (.pointer (some ⟨g, 0, none⟩)), .eq (.pointer (some ⟨g, 3, none⟩)), .any]) [some 36, some 37, some 38, some 39, some 40, some 41, some 42, some 43, some 44, some 45, none] (F := ?_) (is := [0, 1, 2, 3, 4, 5, 6, 7, 8, 9, 10]) hmix (by kernel_rfl) (by kernel_rfl) (by kernel_rfl) (by kernel_rfl) (fun x => ?_) (⟨c3.drew, k3.drew, L, o3, rfl⟩) ?_ (fun d x wR hWR hdR hJR => ?_)
    rotate_left 1
    focus (simp only [RegJ.lay, Act.put, Nat.reduceAdd, Nat.zero_add, Draw.lays]; rfl)
    focus
     iterate 11 (refine RegJ.Steps.cons (RegJ.StepAt.mk rfl (fun d x w1 hW1 hJ1 hx1 K hK => ?_)) ?_; simp only [Draw.lays] at hK; rotate_left 1)
     exact RegJ.Steps.nil
     ·go_simp; exact hK.out _ _ hW1 RegJ.Tell.same rfl
     ·go_simp; exact hK.out _ _ hW1 RegJ.Tell.same rfl
     ·have j1 : x 1 = _ := (hJ1.out 1 (by kernel_rfl)); rw [j1] at hK; go_simp; exact hK.out _ _ hW1 RegJ.Tell.same rfl
     ·have j2 : x 2 = _ := (hJ1.out 2 (by kernel_rfl)); rw [j2] at hK; go_simp; exact hK.out _ _ hW1 RegJ.Tell.same rfl
     ·have j3 : x 3 = _ := (hJ1.out 3 (by kernel_rfl)); rw [j3] at hK; obtain ⟨hc, hk, L', o', hl'⟩ := hW1; have hp' : 0 < L'.length := (by omega); obtain ⟨⟨e0, e1, e2, e3⟩, f0, f1, f2, f3⟩ := own_nonempty o' (k := 0) hp'; rw [Nat.zero_mul] at e0 e1 e2 e3 f0 f1 f2 f3; rw [Nat.zero_add] at e1 e2 e3 f1 f2 f3; go_simp; exact hK.out _ _ ⟨hc, hk, L', o', hl'⟩ RegJ.Tell.same ⟨_, rfl⟩
     ·go_simp; exact hK.out _ _ hW1 RegJ.Tell.same rfl
     ·obtain ⟨hc, hk, L', o', hl'⟩ := hW1; have j5 : x 5 = _ := (hJ1.out 5 (by kernel_rfl)); rw [j5] at hK; go_simp; refine (l1From _ _ _ _ hc).mono ?_; rintro e wa ⟨y, rfl, cua, ka⟩; go_simp; exact hK.out _ _ ⟨cua, hk.trans ka, L', own_kept o' ka (by omega), hl'⟩ (RegJ.Tell.keep ka) ⟨y, rfl⟩
     ·obtain ⟨a4, j4⟩ := (hJ1.out 4 (by kernel_rfl)); obtain ⟨a6, j6⟩ := (hJ1.out 6 (by kernel_rfl)); rw [j4, j6] at hK; go_simp; exact hK.out _ _ hW1 RegJ.Tell.same ⟨_, rfl⟩
     ·have j0 : x 0 = _ := (hJ1.out 0 (by kernel_rfl)); rw [j0] at hK; go_simp; exact hK.out _ _ hW1 RegJ.Tell.same rfl
     ·have j8 : x 8 = _ := (hJ1.out 8 (by kernel_rfl)); rw [j8] at hK; go_simp; exact hK.out _ _ hW1 RegJ.Tell.same rfl
     ·obtain ⟨v, j7⟩ := (hJ1.out 7 (by kernel_rfl)); have j9 : x 9 = _ := (hJ1.out 9 (by kernel_rfl)); rw [j9] at hK; rw [j7] at hK; obtain ⟨hc, hk, L', o', hl'⟩ := hW1; have hp' : 0 < L'.length := (by omega); obtain ⟨⟨e0, e1, e2, e3⟩, f0, f1, f2, f3⟩ := own_nonempty o' (k := 0) hp'; rw [Nat.zero_mul] at e0 e1 e2 e3 f0 f1 f2 f3; rw [Nat.zero_add] at e1 e2 e3 f1 f2 f3; have o2 : Hid _ := put0 o' hp' v; have k2 : Hid (Draw.Kept c w (w1.setCell ⟨g, 3, none⟩ (.int .i64 v))) := hk.setCell (.inr hgw) _; have c2 : Hid (Draw.Cur (w1.setCell ⟨g, 3, none⟩ (.int .i64 v)) c) := cur_setC hc (by show c < g; omega) _; clear o' hk hc; go_simp; exact hK.out undef _ ⟨c2.out, k2.out, _, o2.out, by rw [List.length_set]; exact hl'⟩ (RegJ.Tell.pure (by kernel_rfl)) trivial
    obtain ⟨cE, kE, L', oE, hlE⟩ := hWR
    have HLE : Hid _ := hlE
    clear hJR hdR o3 c3 k3 hlE
    go_wp2_with fail
    go_ret
    exact ⟨g, cap, L', by rw [HLE.out]; rfl, by rw [HLE.out]; omega, oE, cE, kE⟩
   ·go_wp2_with fail
    refine (Draw.l1DrawPlace _ _ c3).mono ?_
    rintro x w4 ⟨v, rfl, c4, k4⟩
    replace o3 := own_kept o3 k4 (by omega)
    replace k3 := k3.trans k4
    clear c3 k4
    obtain ⟨⟨e0, e1, e2, e3⟩, f0, f1, f2, f3⟩ := own_nonempty o3 (k := 0) hL
    rw [Nat.zero_mul] at e1 f1
    rw [Nat.zero_add] at e1 f1
    have o5 : Hid _ := put1 o3 hL v
    have k5 : Hid (Draw.Kept c w (w4.setCell ⟨g, 1, none⟩ (.int .i64 v))) := k3.setCell (.inr hgw) _
    have c5 : Hid (Draw.Cur (w4.setCell ⟨g, 1, none⟩ (.int .i64 v)) c) := cur_setC c4 (by show c < g; omega) _
    clear e0 e2 e3 f0 f2 f3 o3 k3 c4
    generalize at' L 0 = y at *
    go_wp2_with fail
    go_ret
    exact ⟨g, cap, _, by rw [List.length_set]; rfl, by rw [List.length_set]; omega, o5.out, c5.out, k5.out⟩
   ·have n5 : w.heap.size ≤ w3.heap.size := k3.size
    have L5 := El.Own.lies (E := E) o3
    go_wp2_with (at_builtin; refine wpList_appS ty (by decide) (by rfl) _ _ (by rfl) w.heap.size g cap _ L L rfl (by rfl) o3 n5 (some ⟨g, 0, none⟩) _ cap rfl (by rfl) L5 (fun e => by cases e) (by omega) ?_; intro g6 cap6 w6 o6 gr6)
    have c6 := cur_grown c3 gr6 (by omega) c3.lt
    have k6 := kept_grown k3 gr6 (fun x hx => by cases hx; exact .inl hgw)
    have hlen : (L ++ L).length = L.length + L.length := by simp
    have HLEN : Hid _ := hlen
    clear hlen
    go_wp2_with fail
    go_ret
    exact ⟨g6, cap6, L ++ L, by rw [HLEN.out]; rfl, by rw [HLEN.out]; omega, o6, c6, k6⟩
   ·have va : Var 2 (w3.alloc (.cells #[.int .i64 (-1), .int .i64 1000000000, .int .i64 1000000001] 2)) w3.heap.size ([-1, 1000000000, 1000000001].map (Value.int .i64)) := Var.new w3 _
    have o4 := El.Own.alloc (E := E) o3 (.cells #[.int .i64 (-1), .int .i64 1000000000, .int .i64 1000000001] 2)
    have k4 := k3.alloc (.cells #[.int .i64 (-1), .int .i64 1000000000, .int .i64 1000000001] 2)
    have c4 := c3.alloc (.cells #[.int .i64 (-1), .int .i64 1000000000, .int .i64 1000000001] 2)
    have hc3 := c3.lt
    clear o3 k3 c3
    go_wp2_with fail
    refine (Draw.l1Below _ _ _ c4).mono ?_
    rintro x w5 ⟨y, y0, y1, rfl, c5, k5⟩
    have y2 : y < 3 := by omega
    have vb := va.kept k5 (by omega)
    replace o4 := own_kept o4 k5 (by omega)
    replace k4 := k4.trans k5
    obtain ⟨v, hv⟩ := RegJ.int_cell (ns := [-1, 1000000000, 1000000001]) (i := y.toNat) vb (by simp; omega)
    clear va vb y1 c4 k5
    obtain ⟨⟨e0, e1, e2, e3⟩, f0, f1, f2, f3⟩ := own_nonempty o4 (k := 0) hL
    rw [Nat.zero_mul] at e2 f2
    rw [Nat.zero_add] at e2 f2
    have o6 : Hid _ := put2 o4 hL v
    have k6 : Hid (Draw.Kept c w (w5.setCell ⟨g, 2, none⟩ (.int .i64 v))) := k4.setCell (.inr hgw) _
    have c6 : Hid (Draw.Cur (w5.setCell ⟨g, 2, none⟩ (.int .i64 v)) c) := cur_setC c5 (by show c < g; omega) _
    clear e0 e1 e3 f0 f1 f3 o4 k4 c5
    generalize at' L 0 = z at *
    go_wp2_with fail
    go_ret
    exact ⟨g, cap, _, by rw [List.length_set]; rfl, by rw [List.length_set]; omega, o6.out, c6.out, k6.out⟩
end Go.Proofs.YtanfnphdgcnojaaGreat.Roa
namespace Go.Proofs.YtanfnphdgcnojaaGreat.Wor
open Go.RowKit RowG Hop Roa Pum Lin
def Ty (w : World) (T : TypeId) (a : Option Addr) : Prop := ∀ x, a = some x → ∃ cs, w.heap[x.block]? = some (.cells cs T (0, 0))
theorem Ty.lt {w : World} {T : TypeId} {a : Option Addr} (h : Ty w T a) : ∀ x, a = some x → x.block < w.heap.size := fun x hx => by
 obtain ⟨cs, e⟩ := h x hx
 exact (Array.getElem?_eq_some_iff.1 e).1
theorem Ty.later {w w' : World} {T : TypeId} {a : Option Addr} (h : Ty w T a) (b : Below w.heap.size w w') : Ty w' T a := fun x hx => by
 obtain ⟨cs, e⟩ := h x hx
 exact ⟨cs, (b.block x.block (h.lt x hx)).trans e⟩
theorem Ty.ne {w : World} {T T' : TypeId} {a : Option Addr} {k : Nat} {vs : List Value} (h : Ty w T a) (v : Var T' w k vs) (hT : T ≠ T') : ∀ x, a = some x → x.block ≠ k := fun x hx e => by
 obtain ⟨cs, e1⟩ := h x hx
 have e2 : w.heap[k]? = _ := v
 rw [e, e2] at e1
 injection e1 with e1
 injection e1 with _ e3 _
 exact hT e3.symm
theorem Ty.kept {w w' : World} {T : TypeId} {a : Option Addr} {k : Nat} (h : Ty w T a) (hk : Draw.Kept k w w') (hne : ∀ x, a = some x → x.block ≠ k) : Ty w' T a := fun x hx => by
 obtain ⟨cs, e⟩ := h x hx
 exact ⟨cs, (hk.block x.block (h.lt x hx) (hne x hx)).trans e⟩
structure DL (w : World) (aH : Option Addr) (xs : List Ha) (aR : Option Addr) (rs : List Rd) : Prop where
 L : LL w aH xs
 R : Roa.E.Lies w aR rs
 nr : rs.length ≤ 8
 nx : xs.length ≤ 3
 sm : ∀ x ∈ xs, x.h.Sm
 tH : Ty w 49 aH
 tR : Ty w 58 aR
 tx : ∀ x ∈ xs, Ty w 110 x.aT ∧ Ty w 66 x.aW
theorem DL.later {w w' : World} {aH aR : Option Addr} {xs : List Ha} {rs : List Rd} (h : DL w aH xs aR rs) (b : Below w.heap.size w w') : DL w' aH xs aR rs := ⟨h.L.later b, h.R.later b, h.nr, h.nx, h.sm, h.tH.later b, h.tR.later b, fun x hx => ⟨(h.tx x hx).1.later b, (h.tx x hx).2.later b⟩⟩
theorem DL.kept {w w' : World} {k : Nat} {aH aR : Option Addr} {xs : List Ha} {rs : List Rd} (h : DL w aH xs aR rs) (b : Draw.Kept k w w') (n1 : ∀ x, aH = some x → x.block ≠ k) (n2 : ∀ x, aR = some x → x.block ≠ k) (n3 : ∀ x ∈ xs, (∀ y, x.aT = some y → y.block ≠ k) ∧ ∀ y, x.aW = some y → y.block ≠ k) : DL w' aH xs aR rs :=
 ⟨⟨h.L.row.kept b n1, fun x hx => ⟨(h.L.rows x hx).p.kept b (n3 x hx).1, (h.L.rows x hx).l.kept b (n3 x hx).2, (h.L.rows x hx).np, (h.L.rows x hx).nl⟩⟩, h.R.kept b n2, h.nr, h.nx, h.sm, h.tH.kept b n1, h.tR.kept b n2, fun x hx => ⟨(h.tx x hx).1.kept b (n3 x hx).1, (h.tx x hx).2.kept b (n3 x hx).2⟩⟩
theorem DL.keptV {T : TypeId} {w w' : World} {k : Nat} {vs : List Value} {aH aR : Option Addr} {xs : List Ha} {rs : List Rd} (h : DL w aH xs aR rs) (v : Var T w k vs) (hT : NT T) (b : Draw.Kept k w w') : DL w' aH xs aR rs :=
 h.kept b (h.tH.ne v (Ne.symm hT.h)) (h.tR.ne v (Ne.symm hT.r)) (fun x hx => ⟨(h.tx x hx).1.ne v (Ne.symm hT.p), (h.tx x hx).2.ne v (Ne.symm hT.l)⟩)
theorem LineLay.dl {w : World} {B B' : Nat} {a : Option Addr} {c : Nat} {xs : List Ha} (L : LineLay w B a c xs) {aR : Option Addr} {cR : Nat} {rs : List Rd} (R : Roa.E.Own 58 w B' aR cR rs) (hr : rs.length ≤ 8) (hx : xs.length ≤ 3) (hs : ∀ x ∈ xs, x.h.Sm) : DL w a xs aR rs :=
 ⟨L.ll, R.lies, hr, hx, hs, own_row L.row, own_row R, fun x hx => ⟨own_row (L.rows x hx).p, own_row (L.rows x hx).l⟩⟩
theorem ntLine : NT 30 := ⟨by decide, by decide, by decide, by decide⟩
structure DS (c k3 : Nat) (w : World) (g cH : Nat) (xs : List Ha) (gR cR : Nat) (rs : List Rd) (wr : World) : Prop where
 v3 : Var 30 wr k3 [.slice (some ⟨g, 0, none⟩) 3 cH, .slice (some ⟨gR, 0, none⟩) rs.length cR]
 vR : Var 30 wr w.heap.size [.slice none 0 0, .slice none 0 0]
 L : LineLay wr w.heap.size (some ⟨g, 0, none⟩) cH xs
 R : Roa.E.Own 58 wr w.heap.size (some ⟨gR, 0, none⟩) cR rs
 cu : Draw.Cur wr c
 K : Draw.Kept c w wr
 h1 : c < w.heap.size
 h2 : w.heap.size < k3
theorem DS.drawn {c k3 : Nat} {w wr wa : World} {g cH : Nat} {xs : List Ha} {gR cR : Nat} {rs : List Rd} (s : DS c k3 w g cH xs gR cR rs wr) (cua : Draw.Cur wa c) (ka : Draw.Kept c wr wa) : DS c k3 w g cH xs gR cR rs wa :=
 ⟨s.v3.kept ka (by have := s.h1; have := s.h2; omega), s.vR.kept ka (by have := s.h1; omega), s.L.kept ka s.h1, s.R.kept ka (fun x hx => by have := (s.R.lt x hx).1; have := s.h1; omega), cua, s.K.trans ka, s.h1, s.h2⟩
theorem DS.drew {c k3 : Nat} {w wr : World} {g cH : Nat} {xs : List Ha} {gR cR : Nat} {rs : List Rd} (s : DS c k3 w g cH xs gR cR rs wr) : DS c k3 w g cH xs gR cR rs wr.drew := ⟨s.v3.drew, s.vR.drew, s.L.drew, s.R.drew, s.cu.drew, s.K.drew, s.h1, s.h2⟩
theorem DS.later {c k3 : Nat} {w wr wa : World} {g cH : Nat} {xs : List Ha} {gR cR : Nat} {rs : List Rd} (s : DS c k3 w g cH xs gR cR rs wr) (b : Below wr.heap.size wr wa) : DS c k3 w g cH xs gR cR rs wa :=
 ⟨s.v3.later b, s.vR.later b, s.L.later b, s.R.later b, s.cu.below b (Nat.le_refl _), s.K.trans (Draw.Kept.ofBelow b (Nat.le_refl _)), s.h1, s.h2⟩
structure DT (c k3 : Nat) (w : World) (aH : Option Addr) (cH : Nat) (xs : List Ha) (aR : Option Addr) (cR : Nat) (rs : List Rd) (wr : World) : Prop where
 v3 : Var 30 wr k3 [.slice aH xs.length cH, .slice aR rs.length cR]
 vR : Var 30 wr w.heap.size [.slice none 0 0, .slice none 0 0]
 D : DL wr aH xs aR rs
 cu : Draw.Cur wr c
 K : Draw.Kept c w wr
 h1 : c < w.heap.size
 h2 : w.heap.size < k3
def DTx (c k3 : Nat) (w wr : World) : Prop := ∃ aH cH xs aR cR rs, DT c k3 w aH cH xs aR cR rs wr
theorem LineLay.putLL {w : World} {B S g c : Nat} {xs : List Ha} (L : LineLay w B (some ⟨g, 0, none⟩) c xs) {i : Nat} {x y : Ha} (hx : xs[i]? = some x) (R : Lin.Rows w S y) :
  ∃ pre post, Win 49 pre post (i * 13) w g x.c ∧ ∀ w', Win 49 pre post (i * 13) w' g y.c → Draw.Kept g w w' → hopE.Own 49 w' B (some ⟨g, 0, none⟩) c (xs.set i y) ∧ ∀ z ∈ xs.set i y, ∃ S, Lin.Rows w' S z := by
 obtain ⟨pre, post, v, back⟩ := L.row.win hx
 refine ⟨pre, post, v, fun w' v' k => ⟨back w' y v', fun z hz => ?_⟩⟩
 have key : ∀ {S : Nat} {z : Ha}, Lin.Rows w S z → ∃ S, Lin.Rows w' S z := fun {S z} r =>
  ⟨S, r.p.kept k (own_win (by decide) r.p v), r.l.kept k (own_win (by decide) r.l v)⟩
 rcases List.mem_or_eq_of_mem_set hz with h | h
 ·exact key (L.rows z h)
 ·rw [h]; exact key R
theorem dl_of {w : World} {B B' : Nat} {a : Option Addr} {c : Nat} {xs : List Ha} (L : hopE.Own 49 w B a c xs ∧ ∀ z ∈ xs, ∃ S, Lin.Rows w S z) {aR : Option Addr} {cR : Nat} {rs : List Rd} (R : Roa.E.Own 58 w B' aR cR rs) (hr : rs.length ≤ 8) (hx : xs.length ≤ 3) (hs : ∀ x ∈ xs, x.h.Sm) : DL w a xs aR rs :=
 ⟨⟨L.1.lies, fun x hx => by obtain ⟨S, r⟩ := L.2 x hx; exact ⟨r.p.lies, r.l.lies, r.p.none_cap, r.l.none_cap⟩⟩, R.lies, hr, hx, hs, own_row L.1, own_row R, fun x hx => by obtain ⟨S, r⟩ := L.2 x hx; exact ⟨own_row r.p, own_row r.l⟩⟩
def TieH (S : Nat) (v : Value) (w : World) : Prop := ∃ y : Ha, y.h.Sm ∧ v = .agg y.c.toArray ∧ Lin.Rows w S y
theorem TieH.kept {S c : Nat} {v : Value} {w w' : World} (t : TieH S v w) (k : Draw.Kept c w w') (hc : c < S) : TieH S v w' := by
 obtain ⟨y, h1, h2, h3⟩ := t
 exact ⟨y, h1, h2, h3.p.kept k (fun x hx => by have := (h3.p.lt x hx).1; omega), h3.l.kept k (fun x hx => by have := (h3.l.lt x hx).1; omega)⟩
theorem keepN {vs : List (Option Value)} {ps : List RegJ.Tie} {d : Nat → Bool} {x : Nat → Value} {w w' : World} {i : Nat} (h : ∀ q ∈ ps, i = q.1 ∨ d q.1 = false ∨ ∀ v, q.2.2 v w → q.2.2 v w') :
  ∀ j, j ≠ i → RegJ.ValE vs ps d j (x j) w → RegJ.ValE vs ps (fun j => j == i || d j) j (x j) w' := fun j hj hv =>
 ⟨RegJ.Val.keep j hj hv.1, fun q hq he hz => by
  have hz' : q.2.1 = q.1 ∨ d q.2.1 = false := by
   rcases hz with h1 | h1
   ·exact .inl h1
   ·exact .inr (by simp at h1; exact h1.2)
  rcases h q hq with h1 | h1 | h1
  ·exact absurd (he.trans h1.symm) hj
  ·rw [← he, hv.1.1] at h1; cases h1
  ·exact h1 _ (hv.2 q hq he hz')⟩
abbrev ltR (r : Int) : Lt := ⟨true, r, 0, ⟨#[]⟩, false, 0, false⟩
structure AP (c k3 : Nat) (w : World) (g cH : Nat) (xs : List Ha) (gR cR : Nat) (rs : List Rd) (x0 : Ha) (a' : Option Addr) (c' : Nat) (r : Int) (wr : World) : Prop where
 v3 : Var 30 wr k3 [.slice (some ⟨g, 0, none⟩) 3 cH, .slice (some ⟨gR, 0, none⟩) rs.length cR]
 vR : Var 30 wr w.heap.size [.slice none 0 0, .slice none 0 0]
 row : hopE.Own 49 wr w.heap.size (some ⟨g, 0, none⟩) cH xs
 p0 : Tak.partE.Own 110 wr w.heap.size x0.aT x0.cT x0.h.t.l
 l0 : letE.Own 66 wr w.heap.size a' c' (x0.h.ws ++ [ltR r])
 rest : ∀ i x, i ≠ 0 → xs[i]? = some x → Lin.Rows wr w.heap.size x
 R : Roa.E.Own 58 wr w.heap.size (some ⟨gR, 0, none⟩) cR rs
 cu : Draw.Cur wr c
 K : Draw.Kept c w wr
 h1 : c < w.heap.size
 h2 : w.heap.size < k3
theorem DS.app {c k3 : Nat} {w wr wa : World} {g cH : Nat} {xs : List Ha} {gR cR : Nat} {rs : List Rd} {x0 : Ha} {a' : Option Addr} {c' : Nat} {r : Int} (s : DS c k3 w g cH xs gR cR rs wr) (hx : xs[0]? = some x0) (o : letE.Own 66 wa w.heap.size a' c' (x0.h.ws ++ [ltR r])) (ga : wr.grownBy wa (blk x0.aW)) : AP c k3 w g cH xs gR cR rs x0 a' c' r wa := by
 have Rx := s.L.rows x0 (List.mem_of_getElem? hx)
 have hge := blk_ge Rx.l
 have nv : ∀ {T : TypeId} {kk : Nat} {vs : List Value}, T ≠ 66 → Var T wr kk vs → Var T wa kk vs := fun {T kk vs} hT v => v.grown ga (fun q hq e => by
  cases hao : x0.aW with
  | none => rw [hao] at hq; cases hq
  | some p =>
   rw [hao] at hq
   cases hq
   exact own_win hT Rx.l v.win p hao e.symm)
 refine ⟨nv (by decide) s.v3, nv (by decide) s.vR, s.L.row.grown ga (own_two (by decide) s.L.row Rx.l), Rx.p.grown ga (own_two (by decide) Rx.p Rx.l), o, fun i x hi hxi => ?_, s.R.grown ga (own_two (by decide) s.R Rx.l), s.cu.upto (fun i hi => ga.block i (by have := s.cu.lt; omega) (fun e => by have := hge i e.symm; have := s.h1; omega)), ⟨ga.os.trans s.K.os, ga.tape.trans s.K.tape, ga.output.trans s.K.output, Nat.le_trans s.K.size ga.size, fun i hi hc => (ga.block i (Nat.lt_of_lt_of_le hi s.K.size) (fun e => by have := hge i e.symm; omega)).trans (s.K.block i hi hc)⟩, s.h1, s.h2⟩
 have Ri := s.L.rows x (List.mem_of_getElem? hxi)
 refine ⟨Ri.p.grown ga (own_two (by decide) Ri.p Rx.l), Ri.l.grown ga (fun q hq e => ?_)⟩
 cases hao : x0.aW with
 | none => rw [hao] at e; cases e
 | some p =>
  rw [hao] at e
  simp only [blk, Option.map_some, Option.some.injEq] at e
  exact s.L.off i 0 x x0 hi hxi hx q p hq hao e
theorem AP.done {c k3 : Nat} {w wr : World} {g cH : Nat} {xs : List Ha} {gR cR : Nat} {rs : List Rd} {x0 : Ha} {a' : Option Addr} {c' : Nat} {r : Int} (s : AP c k3 w g cH xs gR cR rs x0 a' c' r wr) (hx : xs[0]? = some x0) (sm : ∀ x ∈ xs, x.h.Sm) (hw : x0.h.ws.length ≤ 31) (hn : rs.length ≤ 8) (h3 : xs.length = 3) :
  wr.cell? ⟨g, 12, none⟩ = some (.slice x0.aW x0.h.ws.length x0.cW) ∧ wr.frozen? ⟨g, 12, none⟩ = false ∧ DTx c k3 w (wr.setCell ⟨g, 12, none⟩ (.slice a' (x0.h.ws.length + 1) c')) := by
 obtain ⟨pre, post, v, back⟩ := s.row.win hx
 have e0 : 0 * hopE.size = 0 := by simp
 rw [e0] at v back
 have hlen : (x0.h.ws ++ [ltR r]).length = x0.h.ws.length + 1 := by simp
 have v' : Win 49 pre post 0 (wr.setCell ⟨g, 12, none⟩ (.slice a' (x0.h.ws.length + 1) c')) g (hopE.enc ⟨⟨x0.h.g, x0.h.t, x0.h.ws ++ [ltR r]⟩, x0.aT, x0.cT, a', c'⟩) := by
  have q := v.set 12 (.slice a' (x0.h.ws.length + 1) c') (by rw [hopE.len]; decide)
  rw [Nat.zero_add] at q
  simp only [hopE, Ha.c, Hp.c, hlen]
  exact q
 have k : Draw.Kept g wr (wr.setCell ⟨g, 12, none⟩ (.slice a' (x0.h.ws.length + 1) c')) := (Draw.Kept.refl _ _).setCell (p := ⟨g, 12, none⟩) (.inl rfl) _
 have key : ∀ {z : Ha}, Lin.Rows wr w.heap.size z → ∃ S, Lin.Rows (wr.setCell ⟨g, 12, none⟩ (.slice a' (x0.h.ws.length + 1) c')) S z := fun {z} r => ⟨w.heap.size, r.p.kept k (own_win (by decide) r.p v), r.l.kept k (own_win (by decide) r.l v)⟩
 have hg : w.heap.size ≤ g := (s.row.lt ⟨g, 0, none⟩ rfl).1
 have hx0 : 0 < xs.length := by omega
 refine ⟨by have := v.cell (i := 12) rfl; rw [Nat.zero_add] at this; exact this, by have := v.free 12; rw [Nat.zero_add] at this; exact this, some ⟨g, 0, none⟩, cH, xs.set 0 ⟨⟨x0.h.g, x0.h.t, x0.h.ws ++ [ltR r]⟩, x0.aT, x0.cT, a', c'⟩, some ⟨gR, 0, none⟩, cR, rs, ?_⟩
 have own3 := own_win (by decide) s.row s.v3.win ⟨g, 0, none⟩ rfl
 have ownR := own_win (by decide) s.row s.vR.win ⟨g, 0, none⟩ rfl
 refine ⟨?_, s.vR.kept k (Ne.symm ownR), dl_of ⟨back _ _ v', fun z hz => ?_⟩ (s.R.kept k (fun q hq e => own_two (by decide) s.R s.row q hq (by rw [e]; rfl))) hn (by simp [h3]) (fun z hz => ?_), s.cu.upto (fun i hi => k.block i (by have := s.cu.lt; omega) (by have := s.h1; omega)), s.K.setCell (p := ⟨g, 12, none⟩) (.inr hg) _, s.h1, s.h2⟩
 ·have := s.v3.kept k (Ne.symm own3)
  rw [List.length_set, h3]
  exact this
 ·obtain ⟨i, hi, rfl⟩ := List.getElem_of_mem hz
  have hi' : i < xs.length := by simpa using hi
  by_cases h0 : i = 0
  ·subst h0
   rw [List.getElem_set_self]
   exact key ⟨s.p0, s.l0⟩
  ·rw [List.getElem_set_ne (Ne.symm h0)]
   exact key (s.rest i _ h0 (List.getElem?_eq_getElem hi'))
 ·rcases List.mem_or_eq_of_mem_set hz with h | h
  ·exact sm z h
  ·rw [h]
   have q := sm x0 (List.mem_of_getElem? hx)
   exact ⟨q.gb, q.tb, q.tl, q.bd, by simp; omega, fun y hy => by
    rcases List.mem_append.1 hy with h | h
    ·exact q.wb y h
    ·simp at h; subst h; exact Nat.zero_le _⟩
theorem lies_let {w : World} {m : Nat} {r : Int} (v : Var 66 w m [.bool true, .int .i64 r, .int .i64 0, .string ⟨#[]⟩, .bool false, .int .i64 0, .bool false]) : letE.Lies w (some ⟨m, 0, none⟩) [ltR r] := by
 refine .inr ⟨m, 0, rfl, fun j u hu => ?_⟩
 rw [El.vals_one] at hu
 rw [Nat.zero_add]
 exact v.cell hu
theorem lies_tail {w : World} {g : Nat} {x0 : Ha} {xs : List Ha} (h : hopE.Lies w (some ⟨g, 0, none⟩) (x0 :: xs)) : hopE.Lies w (some ⟨g, 13, none⟩) xs := by
 rcases h with h | ⟨b, off, e, h⟩
 ·cases h
 ·cases e
  refine .inr ⟨g, 13, rfl, fun j u hu => ?_⟩
  have hv : hopE.vals (x0 :: xs) = hopE.enc x0 ++ hopE.vals xs := by simp [El.vals]
  have hl : (hopE.enc x0).length = 13 := hopE.len x0
  have := h (13 + j) u (by rw [hv, List.getElem?_append_right (by omega), hl]; simpa using hu)
  simpa using this
theorem sms_of {W : Wd} (ok : okW W = true) {xs : List Ha} (h : xs.map (·.h) = W.hs) : ∀ x ∈ xs, x.h.Sm ∧ x.h.ws.length ≤ 31 := by
 intro x hx
 have hm : x.h ∈ W.hs := by rw [← h]; exact List.mem_map_of_mem hx
 obtain ⟨i, hi, he⟩ := List.getElem_of_mem hm
 have h3 := hops_iff.1 (ok_parts.1 ok).1
 have hb := (h3.2.2 i (by omega)).1
 have e : W.hs.getD i zeroH = x.h := by rw [List.getD_eq_getElem?_getD, List.getElem?_eq_getElem hi, he]; rfl
 rw [e] at hb
 exact ⟨sm_ok hb, by have := (hop_ok hb).1; omega⟩
theorem l13DrawAny (c : Nat) (w : World) (hc : Draw.Cur w c) :
  Calls Tryz.prog 42 #[.pointer (some ⟨c, 0, none⟩)] w fun e w' => ∃ (aH aR : Option Addr) (cH cR : Nat) (xs : List Ha) (rs : List Rd), e = .returned (.agg #[.slice aH xs.length cH, .slice aR rs.length cR]) ∧ DL w' aH xs aR rs ∧ Draw.Cur w' c ∧ Draw.Kept c w w' := by
 have hmix := Roa.mix
 have hcl := hc.lt
 have vR : Var 30 (w.alloc (.cells #[.slice none 0 0, .slice none 0 0] 30)) w.heap.size [.slice none 0 0, .slice none 0 0] := Var.new w _
 have cu0 := hc.alloc (.cells #[.slice none 0 0, .slice none 0 0] 30)
 have K0 := (Draw.Kept.refl c w).alloc (.cells #[.slice none 0 0, .slice none 0 0] 30)
 go_enter Tryz.func42, Tryz.ntmps42
 go_wp2_with fail
 generalize w.alloc (.cells #[.slice none 0 0, .slice none 0 0] 30) = V at *
 have hzV := vR.lt
 refine (l13Draw c _ cu0).mono ?_
 rintro e w1 ⟨W, g, cH, xs, gR, cR, rfl, A, cu1, k1⟩
 obtain ⟨rs, hrs0⟩ : ∃ rs, rs = W.rs := ⟨_, rfl⟩
 have DSh : DS c w1.heap.size w g cH xs gR cR rs (w1.alloc (.cells #[.slice (some ⟨g, 0, none⟩) 3 cH, .slice (some ⟨gR, 0, none⟩) rs.length cR] 30)) :=
  ⟨Var.new w1 _, (vR.kept k1 (by omega)).alloc _, (A.L.mono (Nat.le_of_lt hzV)).alloc _, (by rw [hrs0]; exact (A.R.mono (Nat.le_of_lt hzV)).alloc _), cu1.alloc _, (K0.trans k1).alloc _, hcl, Nat.lt_of_lt_of_le hzV k1.size⟩
 have h3 : xs.length = 3 := A.len
 have hsm : ∀ x ∈ xs, x.h.Sm := fun x hx => (sms_of A.ok A.hs x hx).1
 have hsw : ∀ x ∈ xs, x.h.ws.length ≤ 31 := fun x hx => (sms_of A.ok A.hs x hx).2
 have hrs : rs.length ≤ 8 := by rw [hrs0]; have := (roads_len (hops_iff.1 (ok_parts.1 A.ok).1).2.1).2; omega
 rw [← hrs0]
 clear hrs0 A cu1 k1 vR cu0 K0 hzV
 go_upto_region 2 with (fail)
 generalize w1.alloc (.cells #[.slice (some ⟨g, 0, none⟩) 3 cH, .slice (some ⟨gR, 0, none⟩) rs.length cR] 30) = V1 at *
 generalize w1.heap.size = k3 at *
 go_wp2_with fail
 refine (Draw.l1Once _ _ _ DSh.cu).mono ?_
 rintro e wa ⟨b1, rfl, cua, ka⟩
 replace DSh := DSh.drawn cua ka
 clear cua ka
 have same : ∀ {wz : World}, DS c k3 w g cH xs gR cR rs wz → DTx c k3 w wz := fun {wz} q => ⟨some ⟨g, 0, none⟩, cH, xs, some ⟨gR, 0, none⟩, cR, rs, by rw [h3]; exact q.v3, q.vR, LineLay.dl q.L q.R hrs (by omega) hsm, q.cu, q.K, q.h1, q.h2⟩
 go_upto_if 7 with (fail)
 go_cut [] from 8 (fun wr => DTx c k3 w wr)
 case first =>
  cases b1
  focus
   go_wp2_with fail
   go_meet
   exact same DSh
  focus
   go_wp2_with fail
   refine (Draw.l1Below _ 4 _ DSh.cu).mono ?_
   rintro e wa ⟨y, y0, y1, rfl, cua, ka⟩
   replace DSh := DSh.drawn cua ka
   clear cua ka
   have hy : y = 0 ∨ y = 1 ∨ y = 2 ∨ y = 3 := by omega
   clear y0 y1
   rcases hy with rfl | rfl | rfl | rfl
   focus
    have keepW : ∀ (q : Nat) (d : Nat → Bool) (w' : World), (fun d w' => (d 7 = false → DS c k3 w g cH xs gR cR rs w') ∧ (d 7 = true → DTx c k3 w w')) d w' → q ≠ 7 → (fun d w' => (d 7 = false → DS c k3 w g cH xs gR cR rs w') ∧ (d 7 = true → DTx c k3 w w')) (fun j => j == q || d j) w' := fun q d w' h hq => ⟨fun e => h.1 (by rw [← or_ne (d := d) (Ne.symm hq)]; exact e), fun e => h.2 (by rw [← or_ne (d := d) (Ne.symm hq)]; exact e)⟩
    go_wp2_with fail
    refine RegJ.wp_region_J (W := (fun d w' => (d 7 = false → DS c k3 w g cH xs gR cR rs w') ∧ (d 7 = true → DTx c k3 w w'))) (RegJ.ValE [some (.pointer (some ⟨k3, 0, none⟩)), some (.slice (some ⟨g, 0, none⟩) 3 cH), some (.pointer (some ⟨c, 0, none⟩)), none, some (.pointer (some ⟨c, 0, none⟩)), none, none, none] ([(3, 3, fun v _ => ∃ i : Nat, i < 3 ∧ v = Value.int .i64 i), (5, 7, TieH w.heap.size), (6, 6, fun v _ => ∃ i : Nat, i < 3 ∧ v = Value.pointer (some ⟨g, i * 13, none⟩))])) [some 12, some 13, some 14, some 15, some 16, some 17, some 18, none] (F := ?_) (is := [0, 1, 2, 3, 4, 5, 6, 7]) hmix (by kernel_rfl) (by kernel_rfl) (by kernel_rfl) (by kernel_rfl) (fun x => ?_) (⟨fun _ => DSh.drew, fun e => by cases e⟩) ?_ (fun dR xR wR hWR hdR hJR => ?_)
    rotate_left 1
    focus (simp only [RegJ.lay, Act.put, Nat.reduceAdd, Nat.zero_add, Draw.lays]; rfl)
    focus
     iterate 8 (refine RegJ.Steps.cons (RegJ.StepAt.mk rfl (fun d x w1 hW1 hJ1 hx1 K hK => ?_)) ?_; simp only [Draw.lays] at hK; rotate_left 1)
     exact RegJ.Steps.nil
     ·go_simp; exact hK.out _ _ (keepW 0 d _ hW1 (by decide)) RegJ.ValE.same (RegJ.ValE.free (Or.inl rfl) rfl)
     ·have j0 : x 0 = _ := (hJ1.out 0 (by kernel_rfl)).val rfl; rw [j0] at hK; have e0 := (hW1.1 (hx1.out 7 (.inr (by kernel_rfl))).1).v3.cell (i := 0) rfl; go_simp; exact hK.out _ _ (keepW 1 d _ hW1 (by decide)) RegJ.ValE.same (RegJ.ValE.free (Or.inl rfl) rfl)
     ·go_simp; exact hK.out _ _ (keepW 2 d _ hW1 (by decide)) RegJ.ValE.same (RegJ.ValE.free (Or.inl rfl) rfl)
     ·have j2 : x 2 = _ := (hJ1.out 2 (by kernel_rfl)).val rfl; rw [j2] at hK; have q := hW1.1 (hx1.out 7 (.inr (by kernel_rfl))).1; go_simp; refine (Draw.l1Below c 3 _ q.cu).mono ?_; rintro e wa ⟨y, y0, y1, rfl, cua, ka⟩; go_simp; obtain ⟨i, rfl⟩ := Int.eq_ofNat_of_zero_le y0; have i3 : i < 3 := (by omega); exact hK.out _ _ ⟨fun _ => q.drawn cua ka, fun e => absurd e (by simp [(hx1.out 7 (.inr (by kernel_rfl))).1])⟩ (keepN (by intro t ht; simp only [List.mem_cons, List.not_mem_nil, or_false] at ht; rcases ht with rfl | rfl | rfl; exact .inl rfl; exact .inr (.inr fun v h => TieH.kept h ka q.h1); exact .inr (.inr fun v h => h))) (RegJ.ValE.got 0 _ _ (Or.inr rfl) rfl rfl ⟨i, i3, rfl⟩)
     ·go_simp; exact hK.out _ _ (keepW 4 d _ hW1 (by decide)) RegJ.ValE.same (RegJ.ValE.free (Or.inl rfl) rfl)
     ·have j4 : x 4 = _ := (hJ1.out 4 (by kernel_rfl)).val rfl; rw [j4] at hK; have q := hW1.1 (hx1.out 7 (.inr (by kernel_rfl))).1; go_simp; refine (Hop.l7DrawAny c _ q.cu).mono ?_; rintro e wa ⟨h, aT, cT, aW, cW, hsm, hw31, rfl, o1, o2, cua, ka⟩; go_simp; exact hK.out _ _ ⟨fun _ => q.drawn cua ka, fun e => absurd e (by simp [(hx1.out 7 (.inr (by kernel_rfl))).1])⟩ (keepN (by intro t ht; simp only [List.mem_cons, List.not_mem_nil, or_false] at ht; rcases ht with rfl | rfl | rfl; exact .inr (.inr fun v h => h); exact .inl rfl; exact .inr (.inr fun v h => h))) (RegJ.ValE.got 1 _ _ (Or.inr rfl) rfl rfl ⟨⟨h, aT, cT, aW, cW⟩, hsm, rfl, o1.mono q.K.size, o2.mono q.K.size⟩)
     ·have j1 : x 1 = _ := (hJ1.out 1 (by kernel_rfl)).val rfl; rw [j1] at hK; obtain ⟨i, i3, j3⟩ := ((hJ1.out 3 (by kernel_rfl)).tie 0 rfl (.inl rfl)); have j3 : x 3 = _ := j3; rw [j3] at hK; have i0 : (0 : Int) ≤ (i : Int) := (by omega); have i1 : (i : Int) < 3 := (by omega); go_simp; exact hK.out _ _ (keepW 6 d _ hW1 (by decide)) RegJ.ValE.same (RegJ.ValE.got 2 _ _ (Or.inr rfl) rfl rfl ⟨i, i3, rfl⟩)
     ·have q := hW1.1 (hx1.out 7 (.inl rfl)).1; obtain ⟨i, i3, j6⟩ := ((hJ1.out 6 (by kernel_rfl)).tie 2 rfl (.inl rfl)); have j6 : x 6 = _ := j6; obtain ⟨y, ysm, j5, Ry⟩ := ((hJ1.out 5 (by kernel_rfl)).tie 1 rfl (.inr (hx1.out 7 (.inl rfl)).1)); have j5 : x 5 = _ := j5; obtain ⟨x0, hx0⟩ : ∃ x0, xs[i]? = some x0 := ⟨xs[i]'(by omega), List.getElem?_eq_getElem _⟩; obtain ⟨pre, post, v, back⟩ := LineLay.putLL q.L hx0 Ry; refine step_store_win (by rfl) _ _ (by rfl) (by exact j6) (by exact j5) (vs := y.c) infoHop2 v rfl (hopE.one y) ?_; intro wa va ka; exact hK.out undef _ ⟨fun e => absurd e (by simp), fun _ => ⟨some ⟨g, 0, none⟩, cH, xs.set i y, some ⟨gR, 0, none⟩, cR, rs, by have := q.v3.kept ka (Ne.symm (own_win (by decide) q.L.row q.v3.win ⟨g, 0, none⟩ rfl)); rw [List.length_set, h3]; exact this, q.vR.kept ka (Ne.symm (own_win (by decide) q.L.row q.vR.win ⟨g, 0, none⟩ rfl)), dl_of (back wa va ka) (q.R.kept ka (fun p hp e => own_two (by decide) q.R q.L.row p hp (by rw [e]; rfl))) hrs (by simp [h3]) (fun z hz => (List.mem_or_eq_of_mem_set hz).elim (hsm z) (fun e => e ▸ ysm)), q.cu.upto (fun i hi => ka.block i (by have := q.cu.lt; omega) (by have := q.h1; have := (q.L.row.lt ⟨g, 0, none⟩ rfl).1; simp only at this; omega)), ⟨ka.os.trans q.K.os, ka.tape.trans q.K.tape, ka.output.trans q.K.output, Nat.le_trans q.K.size ka.size, fun i hi hc => (ka.block i (Nat.lt_of_lt_of_le hi q.K.size) (by have := (q.L.row.lt ⟨g, 0, none⟩ rfl).1; simp only at this; omega)).trans (q.K.block i hi hc)⟩, q.h1, q.h2⟩⟩ (RegJ.ValE.keep (by intro t ht; simp only [List.mem_cons, List.not_mem_nil, or_false] at ht; rcases ht with rfl | rfl | rfl; exact .inr (.inr fun v h => h); exact .inr (.inl ⟨by simp, .inl rfl⟩); exact .inr (.inr fun v h => h))) (RegJ.ValE.free (Or.inr rfl) rfl)
    have S := hWR.2 (hdR 7 (by simp))
    clear hWR hdR hJR keepW
    go_wp2_with fail
    go_meet
    exact S
   focus
    go_wp2_with fail
    refine (Roa.l10Draw c _ DSh.cu).mono ?_
    rintro e wb ⟨gN, cN, rN, rfl, hN, oN, cub, kb⟩
    have hz := DSh.K.size
    replace DSh := DSh.drawn cub kb
    clear cub kb
    have e1 := DSh.v3.cell (i := 1) rfl
    have f1 := DSh.v3.free 1
    go_wp2_with fail
    have kf : Draw.Kept k3 wb (wb.setCell ⟨k3, 1, none⟩ (.slice (some ⟨gN, 0, none⟩) rN.length cN)) := (Draw.Kept.refl _ _).setCell (p := ⟨k3, 1, none⟩) (.inl rfl) _
    have vf : Var 30 (wb.setCell ⟨k3, 1, none⟩ (.slice (some ⟨gN, 0, none⟩) rN.length cN)) k3 [.slice (some ⟨g, 0, none⟩) 3 cH, .slice (some ⟨gN, 0, none⟩) rN.length cN] := DSh.v3.set 1 _
    have Lf := DSh.L.keptV DSh.v3 (by decide) (by decide) (by decide) kf
    have Rf := El.Own.kept (E := Roa.E) oN kf (own_win (by decide) oN DSh.v3.win)
    go_meet
    exact ⟨some ⟨g, 0, none⟩, cH, xs, some ⟨gN, 0, none⟩, cN, rN, by rw [h3]; exact vf, DSh.vR.kept kf (by have := DSh.h2; omega), LineLay.dl Lf Rf hN (by omega) hsm, DSh.cu.upto (fun i hi => kf.block i (by have := DSh.cu.lt; omega) (by have := DSh.h1; have := DSh.h2; omega)), DSh.K.setCell (p := ⟨k3, 1, none⟩) (.inr (by have := DSh.h2; simp only; omega)) _, DSh.h1, DSh.h2⟩
   focus
    have e0 := DSh.v3.cell (i := 0) rfl
    have f0 := DSh.v3.free 0
    have hcap : 3 ≤ cH := by have := DSh.L.row.cap; omega
    have hc1 : ¬ cH = 1 := by omega
    have hc3 : (3 : Int) ≤ (cH : Int) := by omega
    have HCA : Hid (3 ≤ cH) := hcap
    clear hcap
    go_wp2_with fail
    have kf : Draw.Kept k3 wa (wa.setCell ⟨k3, 0, none⟩ (.slice (some ⟨g, 13, none⟩) 2 (cH - 1))) := (Draw.Kept.refl _ _).setCell (p := ⟨k3, 0, none⟩) (.inl rfl) _
    have vf : Var 30 (wa.setCell ⟨k3, 0, none⟩ (.slice (some ⟨g, 13, none⟩) 2 (cH - 1))) k3 [.slice (some ⟨g, 13, none⟩) 2 (cH - 1), .slice (some ⟨gR, 0, none⟩) rs.length cR] := DSh.v3.set 0 _
    obtain ⟨x0, x1, x2, rfl⟩ : ∃ x0 x1 x2, xs = [x0, x1, x2] := by
     match xs, h3 with
     | [a, b, d], _ => exact ⟨a, b, d, rfl⟩
    have D0 := (LineLay.dl DSh.L DSh.R hrs (by simp) hsm).keptV DSh.v3 ntLine kf
    have D1 : DL (wa.setCell ⟨k3, 0, none⟩ (.slice (some ⟨g, 13, none⟩) 2 (cH - 1))) (some ⟨g, 13, none⟩) [x1, x2] (some ⟨gR, 0, none⟩) rs :=
     ⟨⟨lies_tail D0.L.row, fun z hz => D0.L.rows z (List.mem_cons_of_mem _ hz)⟩, D0.R, D0.nr, by simp, fun z hz => D0.sm z (List.mem_cons_of_mem _ hz), fun x hx => by cases hx; exact D0.tH ⟨g, 0, none⟩ rfl, D0.tR, fun z hz => D0.tx z (List.mem_cons_of_mem _ hz)⟩
    go_meet
    exact ⟨some ⟨g, 13, none⟩, cH - 1, [x1, x2], some ⟨gR, 0, none⟩, cR, rs, vf, DSh.vR.kept kf (by have := DSh.h2; omega), D1, DSh.cu.upto (fun i hi => kf.block i (by have := DSh.cu.lt; omega) (by have := DSh.h1; have := DSh.h2; omega)), DSh.K.setCell (p := ⟨k3, 0, none⟩) (.inr (by have := DSh.h2; simp only; omega)) _, DSh.h1, DSh.h2⟩
   focus
    obtain ⟨x0, hx0⟩ : ∃ x0, xs[0]? = some x0 := ⟨xs[0]'(by omega), List.getElem?_eq_getElem _⟩
    have hw31 := hsw x0 (List.mem_of_getElem? hx0)
    have keepW : ∀ (q : Nat) (d : Nat → Bool) (w' : World), (fun d w' => (d 14 = false → Var 30 w' k3 [.slice (some ⟨g, 0, none⟩) 3 cH, .slice (some ⟨gR, 0, none⟩) rs.length cR]) ∧ (d 11 = false → DS c k3 w g cH xs gR cR rs w') ∧ (d 14 = true → DTx c k3 w w')) d w' → q ≠ 11 ∧ q ≠ 14 → (fun d w' => (d 14 = false → Var 30 w' k3 [.slice (some ⟨g, 0, none⟩) 3 cH, .slice (some ⟨gR, 0, none⟩) rs.length cR]) ∧ (d 11 = false → DS c k3 w g cH xs gR cR rs w') ∧ (d 14 = true → DTx c k3 w w')) (fun j => j == q || d j) w' := fun q d w' h hq => ⟨fun e => h.1 (by rw [← or_ne (d := d) (Ne.symm hq.2)]; exact e), fun e => h.2.1 (by rw [← or_ne (d := d) (Ne.symm hq.1)]; exact e), fun e => h.2.2 (by rw [← or_ne (d := d) (Ne.symm hq.2)]; exact e)⟩
    go_wp2_with fail
    refine RegJ.wp_region_J (W := (fun d w' => (d 14 = false → Var 30 w' k3 [.slice (some ⟨g, 0, none⟩) 3 cH, .slice (some ⟨gR, 0, none⟩) rs.length cR]) ∧ (d 11 = false → DS c k3 w g cH xs gR cR rs w') ∧ (d 14 = true → DTx c k3 w w'))) (RegJ.ValE [some (.pointer (some ⟨k3, 0, none⟩)), some (.slice (some ⟨g, 0, none⟩) 3 cH), some (.pointer (some ⟨k3, 0, none⟩)), some (.slice (some ⟨g, 0, none⟩) 3 cH), some (.pointer (some ⟨g, 0, none⟩)), some (.pointer (some ⟨g, 12, none⟩)), some (.slice x0.aW x0.h.ws.length x0.cW), some (.pointer (some ⟨c, 0, none⟩)), none, none, none, none, some (.pointer (some ⟨g, 0, none⟩)), some (.pointer (some ⟨g, 12, none⟩)), none] ([(8, 8, fun v _ => ∃ r : Int, v = Value.int .i64 r), (9, 9, fun v _ => ∃ r : Int, v = Value.agg #[.bool true, .int .i64 r, .int .i64 0, .string ⟨#[]⟩, .bool false, .int .i64 0, .bool false]), (10, 11, fun v w' => ∃ (r : Int) (m : Nat), v = Value.slice (some ⟨m, 0, none⟩) 1 1 ∧ Var 66 w' m [.bool true, .int .i64 r, .int .i64 0, .string ⟨#[]⟩, .bool false, .int .i64 0, .bool false]), (11, 14, fun v w' => ∃ a' c' r, v = Value.slice a' (x0.h.ws.length + 1) c' ∧ AP c k3 w g cH xs gR cR rs x0 a' c' r w')])) [some 32, some 33, some 34, some 35, some 36, some 37, some 38, some 39, some 40, some 41, some 42, some 43, some 44, some 45, none] (F := ?_) (is := [0, 1, 2, 3, 4, 5, 6, 7, 8, 9, 10, 11, 12, 13, 14]) hmix (by kernel_rfl) (by kernel_rfl) (by kernel_rfl) (by kernel_rfl) (fun x => ?_) (⟨fun _ => DSh.drew.v3, fun _ => DSh.drew, fun e => by cases e⟩) ?_ (fun dR xR wR hWR hdR hJR => ?_)
    rotate_left 1
    focus (simp only [RegJ.lay, Act.put, Nat.reduceAdd, Nat.zero_add, Draw.lays]; rfl)
    focus
     iterate 15 (refine RegJ.Steps.cons (RegJ.StepAt.mk rfl (fun d x w1 hW1 hJ1 hx1 K hK => ?_)) ?_; simp only [Draw.lays] at hK; rotate_left 1)
     exact RegJ.Steps.nil
     ·go_simp; exact hK.out _ _ (keepW 0 d _ hW1 (by decide)) RegJ.ValE.same (RegJ.ValE.free (Or.inl rfl) rfl)
     ·have j0 : x 0 = _ := (hJ1.out 0 (by kernel_rfl)).val rfl; rw [j0] at hK; have e0 := (hW1.1 (hx1.out 14 (.inr (by kernel_rfl))).1).cell (i := 0) rfl; go_simp; exact hK.out _ _ (keepW 1 d _ hW1 (by decide)) RegJ.ValE.same (RegJ.ValE.free (Or.inl rfl) rfl)
     ·go_simp; exact hK.out _ _ (keepW 2 d _ hW1 (by decide)) RegJ.ValE.same (RegJ.ValE.free (Or.inl rfl) rfl)
     ·have j2 : x 2 = _ := (hJ1.out 2 (by kernel_rfl)).val rfl; rw [j2] at hK; have e0 := (hW1.1 (hx1.out 14 (.inr (by kernel_rfl))).1).cell (i := 0) rfl; go_simp; exact hK.out _ _ (keepW 3 d _ hW1 (by decide)) RegJ.ValE.same (RegJ.ValE.free (Or.inl rfl) rfl)
     ·have j3 : x 3 = _ := (hJ1.out 3 (by kernel_rfl)).val rfl; rw [j3] at hK; go_simp; exact hK.out _ _ (keepW 4 d _ hW1 (by decide)) RegJ.ValE.same (RegJ.ValE.free (Or.inl rfl) rfl)
     ·have j4 : x 4 = _ := (hJ1.out 4 (by kernel_rfl)).val rfl; rw [j4] at hK; go_simp; exact hK.out _ _ (keepW 5 d _ hW1 (by decide)) RegJ.ValE.same (RegJ.ValE.free (Or.inl rfl) rfl)
     ·have j5 : x 5 = _ := (hJ1.out 5 (by kernel_rfl)).val rfl; rw [j5] at hK; have q := hW1.2.1 (hx1.out 11 (.inr (by kernel_rfl))).1; obtain ⟨pre, post, v, _⟩ := q.L.row.win hx0; have e12 : w1.cell? ⟨g, 12, none⟩ = some (.slice x0.aW x0.h.ws.length x0.cW) := (by have := v.cell (i := 12) rfl; simpa using this); go_simp; exact hK.out _ _ (keepW 6 d _ hW1 (by decide)) RegJ.ValE.same (RegJ.ValE.free (Or.inl rfl) rfl)
     ·go_simp; exact hK.out _ _ (keepW 7 d _ hW1 (by decide)) RegJ.ValE.same (RegJ.ValE.free (Or.inl rfl) rfl)
     ·have j7 : x 7 = _ := (hJ1.out 7 (by kernel_rfl)).val rfl; rw [j7] at hK; have q := hW1.2.1 (hx1.out 11 (.inr (by kernel_rfl))).1; go_simp; refine (Draw.l1Below c 2 _ q.cu).mono ?_; rintro e wa ⟨y, y0, y1, rfl, cua, ka⟩; go_simp; exact hK.out _ _ ⟨fun _ => (q.drawn cua ka).v3, fun _ => q.drawn cua ka, fun e => absurd e (by simp [(hx1.out 14 (.inr (by kernel_rfl))).1])⟩ (keepN (by intro t ht; simp only [List.mem_cons, List.not_mem_nil, or_false] at ht; rcases ht with rfl | rfl | rfl | rfl; exact .inl rfl; exact .inr (.inr fun v h => h); exact .inr (.inl (hx1.out 10 (.inr (by kernel_rfl))).1); exact .inr (.inl (hx1.out 11 (.inr (by kernel_rfl))).1))) (RegJ.ValE.got 0 _ _ (Or.inr rfl) rfl rfl ⟨y, rfl⟩)
     ·obtain ⟨r, j8⟩ := ((hJ1.out 8 (by kernel_rfl)).tie 0 rfl (.inl rfl)); have j8 : x 8 = _ := j8; rw [j8] at hK; go_simp; exact hK.out _ _ (keepW 9 d _ hW1 (by decide)) RegJ.ValE.same (RegJ.ValE.got 1 _ _ (Or.inr rfl) rfl rfl ⟨r, rfl⟩)
     ·obtain ⟨r, j9⟩ := ((hJ1.out 9 (by kernel_rfl)).tie 1 rfl (.inl rfl)); have j9 : x 9 = _ := j9; rw [j9] at hK; have q := hW1.2.1 (hx1.out 11 (.inr (by kernel_rfl))).1; go_simp; have ba := (Below.refl w1.heap.size w1).alloc (Nat.le_refl _) (.cells #[.bool true, .int .i64 r, .int .i64 0, .string ⟨#[]⟩, .bool false, .int .i64 0, .bool false] 66); exact hK.out _ _ ⟨fun _ => (q.later ba).v3, fun _ => q.later ba, fun e => absurd e (by simp [(hx1.out 14 (.inr (by kernel_rfl))).1])⟩ (keepN (by intro t ht; simp only [List.mem_cons, List.not_mem_nil, or_false] at ht; rcases ht with rfl | rfl | rfl | rfl; exact .inr (.inr fun v h => h); exact .inr (.inr fun v h => h); exact .inl rfl; exact .inr (.inl (hx1.out 11 (.inr (by kernel_rfl))).1))) (RegJ.ValE.got 2 _ _ (Or.inr rfl) rfl rfl ⟨r, w1.heap.size, rfl, Var.new w1 _⟩)
     ·have q := hW1.2.1 (hx1.out 11 (.inl rfl)).1; have j6 : x 6 = _ := (hJ1.out 6 (by kernel_rfl)).val rfl; obtain ⟨r, m, j10, vm⟩ := ((hJ1.out 10 (by kernel_rfl)).tie 2 rfl (.inr (hx1.out 11 (.inl rfl)).1)); have j10 : x 10 = _ := j10; have Rx := q.L.rows x0 (List.mem_of_getElem? hx0); refine step_appL Hop.typ (by decide) (by rfl) _ _ (by rfl) w.heap.size x0.aW x0.cW x0.h.ws.length x0.h.ws [ltR r] rfl (by exact j6) Rx.l q.K.size (some ⟨m, 0, none⟩) 1 1 rfl (by exact j10) (lies_let vm) (fun e => by cases e) (by simp; omega) ?_; intro a' c' wa oa ga la; have A := q.app hx0 oa ga; exact hK.out _ _ ⟨fun _ => A.v3, fun e => absurd e (by simp), fun e => absurd e (by simp [(hx1.out 14 (.inr (by kernel_rfl))).1])⟩ (RegJ.ValE.keep (by intro t ht; simp only [List.mem_cons, List.not_mem_nil, or_false] at ht; rcases ht with rfl | rfl | rfl | rfl; exact .inr (.inr fun v h => h); exact .inr (.inr fun v h => h); exact .inr (.inl ⟨by simp, .inl rfl⟩); exact .inl rfl)) (RegJ.ValE.got 3 _ _ (Or.inr rfl) rfl rfl ⟨a', c', r, rfl, A⟩)
     ·have j1 : x 1 = _ := (hJ1.out 1 (by kernel_rfl)).val rfl; rw [j1] at hK; go_simp; exact hK.out _ _ (keepW 12 d _ hW1 (by decide)) RegJ.ValE.same (RegJ.ValE.free (Or.inl rfl) rfl)
     ·have j12 : x 12 = _ := (hJ1.out 12 (by kernel_rfl)).val rfl; rw [j12] at hK; go_simp; exact hK.out _ _ (keepW 13 d _ hW1 (by decide)) RegJ.ValE.same (RegJ.ValE.free (Or.inl rfl) rfl)
     ·have j13 : x 13 = _ := (hJ1.out 13 (by kernel_rfl)).val rfl; rw [j13] at hK; obtain ⟨a', c', r, j11, A⟩ := ((hJ1.out 11 (by kernel_rfl)).tie 3 rfl (.inr (hx1.out 14 (.inl rfl)).1)); have j11 : x 11 = _ := j11; rw [j11] at hK; obtain ⟨y0, y1, y2⟩ := A.done hx0 hsm hw31 hrs h3; go_simp; exact hK.out undef _ ⟨fun e => absurd e (by simp), fun e => absurd e (by have := (hJ1.out 11 (by kernel_rfl)).done; simp [this]), fun _ => y2⟩ (RegJ.ValE.keep (by intro t ht; simp only [List.mem_cons, List.not_mem_nil, or_false] at ht; rcases ht with rfl | rfl | rfl | rfl; exact .inr (.inr fun v h => h); exact .inr (.inr fun v h => h); exact .inr (.inl ⟨by simp, .inr (hJ1.out 11 (by kernel_rfl)).done⟩); exact .inr (.inl ⟨by simp, .inl rfl⟩))) (RegJ.ValE.free (Or.inr rfl) rfl)
    have S := hWR.2.2 (hdR 14 (by simp))
    clear hWR hdR hJR keepW
    go_wp2_with fail
    go_meet
    exact S
 case rest =>
  clear DSh hsm hsw hrs h3
  obtain ⟨aH, cH', xs', aR, cR', rs', S⟩ := hcut
  have e0 := S.v3.cell (i := 0) rfl
  have e1 := S.v3.cell (i := 1) rfl
  have r0 := S.vR.cell (i := 0) rfl
  have r1 := S.vR.cell (i := 1) rfl
  have f0 := S.vR.free 0
  have f1 := S.vR.free 1
  go_wp2_with fail
  obtain ⟨WZ, hWZ⟩ : ∃ z, Hid (z = (wc.setCell ⟨w.heap.size, 0, none⟩ (.slice aH xs'.length cH')).setCell ⟨w.heap.size, 1, none⟩ (.slice aR rs'.length cR')) := ⟨_, rfl⟩
  have ka : Draw.Kept w.heap.size wc WZ := by rw [hWZ.out]; exact ((Draw.Kept.refl _ _).setCell (p := ⟨w.heap.size, 0, none⟩) (.inl rfl) _).setCell (p := ⟨w.heap.size, 1, none⟩) (.inl rfl) _
  have vv : Var 30 WZ w.heap.size [.slice aH xs'.length cH', .slice aR rs'.length cR'] := by rw [hWZ.out]; exact (S.vR.set 0 _).set 1 _
  have DZ := S.D.keptV S.vR ntLine ka
  have cu6 := S.cu.upto (fun i hi => ka.block i (by have := S.cu.lt; omega) (by have := S.h1; omega))
  have K6 : Draw.Kept c w WZ := ⟨ka.os.trans S.K.os, ka.tape.trans S.K.tape, ka.output.trans S.K.output, Nat.le_trans S.K.size ka.size, fun i hi hc => (ka.block i (Nat.lt_of_lt_of_le hi S.K.size) (by omega)).trans (S.K.block i hi hc)⟩
  clear ka e0 e1 r0 r1 f0 f1 S
  rw [← hWZ.out]
  clear hWZ
  have e0 := vv.cell (i := 0) rfl
  have e1 := vv.cell (i := 1) rfl
  refine bodyPost_ret (v := .agg #[.slice aH xs'.length cH', .slice aR rs'.length cR']) (by rw [Hop.res_one rfl]; go_simp) rfl ⟨aH, aR, cH', cR', xs', rs', rfl, DZ, cu6, K6⟩
end Go.Proofs.YtanfnphdgcnojaaGreat.Wor
namespace Go.Proofs.YtanfnphdgcnojaaGreat.Wor
open Go.RowKit RowG Hop Roa Pum Lin
theorem drawLineOk (a : Option Addr) (len cap : Nat) (w : World) (hb : Draw.Bytes w a len) (hl : len ≤ 4096) :
  Calls Tryz.prog 33 #[.slice a len cap] w fun e w' => ∃ (aH aR : Option Addr) (cH cR : Nat) (xs : List Ha) (rs : List Rd), e = .returned (.agg #[.slice aH xs.length cH, .slice aR rs.length cR]) ∧ DL w' aH xs aR rs ∧ Below w.heap.size w w' := by
 have vR : Var 30 (w.alloc (.cells #[.slice none 0 0, .slice none 0 0] 30)) w.heap.size [.slice none 0 0, .slice none 0 0] := Var.new w _
 have hb0 := hb.below ((Below.refl w.heap.size w).alloc (Nat.le_refl _) (.cells #[.slice none 0 0, .slice none 0 0] 30)) (Nat.le_refl _)
 have b0 := (Below.refl w.heap.size w).alloc (Nat.le_refl _) (.cells #[.slice none 0 0, .slice none 0 0] 30)
 go_enter Tryz.func33, Tryz.ntmps33
 go_wp2_with fail
 generalize w.alloc (.cells #[.slice none 0 0, .slice none 0 0] 30) = V at *
 have hV := vR.lt
 refine (Draw.l1New a len cap _ hb0 hl).mono ?_
 rintro x w1 ⟨rfl, hh, hw1⟩
 have c1 : Draw.Cur w1 V.heap.size := by rw [hw1]; exact Draw.cur_new hb0 hl hh _
 have b1 : Below V.heap.size V w1 := by rw [hw1]; exact (Below.refl _ _).alloc (Nat.le_refl _) _
 replace vR := vR.later b1
 have B1 := b0.trans (b1.mono b0.size)
 clear hw1 b0 b1
 go_wp2_with fail
 refine (l13DrawAny _ _ c1).mono ?_
 rintro e w2 ⟨aH, aR, cH, cR, xs, rs, rfl, D, c2, k2⟩
 replace vR := vR.kept k2 (by omega)
 have B2 : Below w.heap.size w w2 := B1.trans (k2.below (Nat.le_of_lt hV) B1.size)
 clear c1 c2 k2 B1
 have e0 := vR.cell (i := 0) rfl
 have e1 := vR.cell (i := 1) rfl
 have f0 := vR.free 0
 have f1 := vR.free 1
 go_wp2_with fail
 obtain ⟨WZ, hWZ⟩ : ∃ z, Hid (z = (w2.setCell ⟨w.heap.size, 0, none⟩ (.slice aH xs.length cH)).setCell ⟨w.heap.size, 1, none⟩ (.slice aR rs.length cR)) := ⟨_, rfl⟩
 have ka : Draw.Kept w.heap.size w2 WZ := by rw [hWZ.out]; exact ((Draw.Kept.refl _ _).setCell (p := ⟨w.heap.size, 0, none⟩) (.inl rfl) _).setCell (p := ⟨w.heap.size, 1, none⟩) (.inl rfl) _
 have vv : Var 30 WZ w.heap.size [.slice aH xs.length cH, .slice aR rs.length cR] := by rw [hWZ.out]; exact (vR.set 0 _).set 1 _
 have DZ := D.keptV vR ntLine ka
 have BZ : Below w.heap.size w WZ := B2.trans (ka.below (Nat.le_refl _) B2.size)
 clear ka e0 e1 f0 f1 D B2 vR
 have hWZo := hWZ.out
 clear hWZ
 subst hWZo
 generalize (w2.setCell ⟨w.heap.size, 0, none⟩ (.slice aH xs.length cH)).setCell ⟨w.heap.size, 1, none⟩ (.slice aR rs.length cR) = WZ at *
 have e0 := vv.cell (i := 0) rfl
 have e1 := vv.cell (i := 1) rfl
 refine bodyPost_ret (v := .agg #[.slice aH xs.length cH, .slice aR rs.length cR]) (by rw [Hop.res_one rfl]; go_simp) rfl ⟨aH, aR, cH, cR, xs, rs, rfl, DZ, BZ⟩
theorem drawRoomOf (a : Option Addr) (len cap : Nat) (w : World) (hb : Draw.Bytes w a len) (hl : len ≤ 4096) :
  Calls Tryz.prog 8 #[.slice a len cap] w fun e w' => ∃ (aH aR : Option Addr) (cH cR : Nat) (xs : List Ha) (rs : List Rd), e = .returned (.agg #[.slice aH xs.length cH, .slice aR rs.length cR]) ∧ DL w' aH xs aR rs ∧ Below w.heap.size w w' := by
 have vR : Var 30 (w.alloc (.cells #[.slice none 0 0, .slice none 0 0] 30)) w.heap.size [.slice none 0 0, .slice none 0 0] := Var.new w _
 have hb0 := hb.below ((Below.refl w.heap.size w).alloc (Nat.le_refl _) (.cells #[.slice none 0 0, .slice none 0 0] 30)) (Nat.le_refl _)
 have b0 := (Below.refl w.heap.size w).alloc (Nat.le_refl _) (.cells #[.slice none 0 0, .slice none 0 0] 30)
 go_enter Tryz.func8, Tryz.ntmps8
 go_wp2_with fail
 generalize w.alloc (.cells #[.slice none 0 0, .slice none 0 0] 30) = V at *
 have hV := vR.lt
 refine (drawLineOk a len cap _ hb0 hl).mono ?_
 rintro e w2 ⟨aH, aR, cH, cR, xs, rs, rfl, D, b2⟩
 replace vR := vR.later b2
 have B2 : Below w.heap.size w w2 := b0.trans (b2.mono b0.size)
 clear b2 b0
 have e0 := vR.cell (i := 0) rfl
 have e1 := vR.cell (i := 1) rfl
 have f0 := vR.free 0
 have f1 := vR.free 1
 go_wp2_with fail
 obtain ⟨WZ, hWZ⟩ : ∃ z, Hid (z = (w2.setCell ⟨w.heap.size, 0, none⟩ (.slice aH xs.length cH)).setCell ⟨w.heap.size, 1, none⟩ (.slice aR rs.length cR)) := ⟨_, rfl⟩
 have ka : Draw.Kept w.heap.size w2 WZ := by rw [hWZ.out]; exact ((Draw.Kept.refl _ _).setCell (p := ⟨w.heap.size, 0, none⟩) (.inl rfl) _).setCell (p := ⟨w.heap.size, 1, none⟩) (.inl rfl) _
 have vv : Var 30 WZ w.heap.size [.slice aH xs.length cH, .slice aR rs.length cR] := by rw [hWZ.out]; exact (vR.set 0 _).set 1 _
 have DZ := D.keptV vR ntLine ka
 have BZ : Below w.heap.size w WZ := B2.trans (ka.below (Nat.le_refl _) B2.size)
 clear ka e0 e1 f0 f1 D B2 vR
 have hWZo := hWZ.out
 clear hWZ
 subst hWZo
 generalize (w2.setCell ⟨w.heap.size, 0, none⟩ (.slice aH xs.length cH)).setCell ⟨w.heap.size, 1, none⟩ (.slice aR rs.length cR) = WZ at *
 have e0 := vv.cell (i := 0) rfl
 have e1 := vv.cell (i := 1) rfl
 refine bodyPost_ret (v := .agg #[.slice aH xs.length cH, .slice aR rs.length cR]) (by rw [Hop.res_one rfl]; go_simp) rfl ⟨aH, aR, cH, cR, xs, rs, rfl, DZ, BZ⟩
theorem drawAtDesk (a : Option Addr) (len cap : Nat) (w : World) (hb : Draw.Bytes w a len) (hl : len ≤ 4096) :
  Calls Tryz.prog 10 #[.slice a len cap] w fun e w' => ∃ (aH aR : Option Addr) (cH cR : Nat) (xs : List Ha) (rs : List Rd), e = .returned (.agg #[.slice aH xs.length cH, .slice aR rs.length cR]) ∧ DL w' aH xs aR rs ∧ Below w.heap.size w w' := by
 have vR : Var 30 (w.alloc (.cells #[.slice none 0 0, .slice none 0 0] 30)) w.heap.size [.slice none 0 0, .slice none 0 0] := Var.new w _
 have hb0 := hb.below ((Below.refl w.heap.size w).alloc (Nat.le_refl _) (.cells #[.slice none 0 0, .slice none 0 0] 30)) (Nat.le_refl _)
 have b0 := (Below.refl w.heap.size w).alloc (Nat.le_refl _) (.cells #[.slice none 0 0, .slice none 0 0] 30)
 go_enter Tryz.func10, Tryz.ntmps10
 go_wp2_with fail
 generalize w.alloc (.cells #[.slice none 0 0, .slice none 0 0] 30) = V at *
 have hV := vR.lt
 refine (drawLineOk a len cap _ hb0 hl).mono ?_
 rintro e w2 ⟨aH, aR, cH, cR, xs, rs, rfl, D, b2⟩
 replace vR := vR.later b2
 have B2 : Below w.heap.size w w2 := b0.trans (b2.mono b0.size)
 clear b2 b0
 have e0 := vR.cell (i := 0) rfl
 have e1 := vR.cell (i := 1) rfl
 have f0 := vR.free 0
 have f1 := vR.free 1
 go_wp2_with fail
 obtain ⟨WZ, hWZ⟩ : ∃ z, Hid (z = (w2.setCell ⟨w.heap.size, 0, none⟩ (.slice aH xs.length cH)).setCell ⟨w.heap.size, 1, none⟩ (.slice aR rs.length cR)) := ⟨_, rfl⟩
 have ka : Draw.Kept w.heap.size w2 WZ := by rw [hWZ.out]; exact ((Draw.Kept.refl _ _).setCell (p := ⟨w.heap.size, 0, none⟩) (.inl rfl) _).setCell (p := ⟨w.heap.size, 1, none⟩) (.inl rfl) _
 have vv : Var 30 WZ w.heap.size [.slice aH xs.length cH, .slice aR rs.length cR] := by rw [hWZ.out]; exact (vR.set 0 _).set 1 _
 have DZ := D.keptV vR ntLine ka
 have BZ : Below w.heap.size w WZ := B2.trans (ka.below (Nat.le_refl _) B2.size)
 clear ka e0 e1 f0 f1 D B2 vR
 have hWZo := hWZ.out
 clear hWZ
 subst hWZo
 generalize (w2.setCell ⟨w.heap.size, 0, none⟩ (.slice aH xs.length cH)).setCell ⟨w.heap.size, 1, none⟩ (.slice aR rs.length cR) = WZ at *
 have e0 := vv.cell (i := 0) rfl
 have e1 := vv.cell (i := 1) rfl
 refine bodyPost_ret (v := .agg #[.slice aH xs.length cH, .slice aR rs.length cR]) (by rw [Hop.res_one rfl]; go_simp) rfl ⟨aH, aR, cH, cR, xs, rs, rfl, DZ, BZ⟩
theorem l13DrawCaps (c : Nat) (w : World) (hc : Draw.Cur w c) :
  Calls Tryz.prog 29 #[.pointer (some ⟨c, 0, none⟩)] w fun e w' => ∃ (L : List Int) (g cap : Nat), e = .returned (.slice (some ⟨g, 0, none⟩) 6 cap) ∧ L.length = 6 ∧ Roa.EI.Own 2 w' w.heap.size (some ⟨g, 0, none⟩) cap L ∧ Draw.Cur w' c ∧ Draw.Kept c w w' := by
 have hmix := Roa.mix
 have hcl := hc.lt
 have cu0 := hc.alloc (.cells #[] 2)
 have K0 := (Draw.Kept.refl c w).alloc (.cells #[] 2)
 have o0 : Roa.EI.Own 2 (w.alloc (.cells #[] 2)) w.heap.size (some ⟨w.heap.size, 0, none⟩) 0 [] := Roa.ownI_empty w
 go_enter Tryz.func29, Tryz.ntmps29
 go_wp2_with fail
 generalize w.alloc (.cells #[] 2) = V at *
 go_loopw [3, 4] (fun lv iv wr => ∃ (k g cap : Nat) (L : List Int), k ≤ 6 ∧ iv = .int .i64 k ∧ lv = .slice (some ⟨g, 0, none⟩) k cap ∧ Hid (L.length = k) ∧ Roa.EI.Own 2 wr w.heap.size (some ⟨g, 0, none⟩) cap L ∧ Draw.Cur wr c ∧ Draw.Kept c w wr) (fun _ iv _ => 6 - (intOf iv).toNat)
 case atStart => exact ⟨0, _, 0, [], by omega, rfl, rfl, rfl, o0, cu0, K0⟩
 case round =>
  clear o0 cu0 K0
  obtain ⟨k, g, cap, L, hk, rfl, rfl, HL, o1, cu1, K1⟩ := hrel
  by_cases hk6 : k < 6
  ·have i0 : (k : Int) < 6 := by omega
   have hb1 : c < wr.heap.size := cu1.lt
   have vb : Var 2 (wr.alloc (.cells #[.int .i64 3, .int .i64 8, .int .i64 20, .int .i64 60] 2)) wr.heap.size ([3, 8, 20, 60].map (Value.int .i64)) := Var.new wr _
   replace o1 := o1.alloc (.cells #[.int .i64 3, .int .i64 8, .int .i64 20, .int .i64 60] 2)
   replace cu1 := cu1.alloc (.cells #[.int .i64 3, .int .i64 8, .int .i64 20, .int .i64 60] 2)
   replace K1 := K1.alloc (.cells #[.int .i64 3, .int .i64 8, .int .i64 20, .int .i64 60] 2)
   go_wp2_with fail
   generalize wr.alloc (.cells #[.int .i64 3, .int .i64 8, .int .i64 20, .int .i64 60] 2) = V1 at *
   generalize wr.heap.size = b at *
   refine (Draw.l1Below _ _ _ cu1).mono ?_
   rintro e w2 ⟨y, y0, y1, rfl, cu2, k2⟩
   replace y1 : y < 4 := by omega
   replace vb := vb.kept k2 (by omega)
   replace o1 := o1.kept k2 (fun x hx => by have := (o1.lt x hx).1; omega)
   replace K1 := K1.trans k2
   clear cu1 k2
   obtain ⟨n, hn, hcell⟩ := RegJ.int_sat (ns := [3, 8, 20, 60]) vb (i := y.toNat) (by simp; omega)
   have o2 := o1.alloc (.cells #[.int .i64 n] 2)
   have cu3 := cu2.alloc (.cells #[.int .i64 n] 2)
   have K2 := K1.alloc (.cells #[.int .i64 n] 2)
   have hz : w.heap.size ≤ (w2.alloc (.cells #[.int .i64 n] 2)).heap.size := K2.size
   have L5 : Roa.EI.Lies (w2.alloc (.cells #[.int .i64 n] 2)) (some ⟨w2.heap.size, 0, none⟩) [n] := El.lies_new rfl
   have hg := (o2.lt _ rfl).1
   simp only at hg
   have hlen := HL.out
   go_wp2_with (at_builtin; refine wpList_appS Roa.tyI (by decide) (by rfl) _ _ (by rfl) w.heap.size g cap k L [n] hlen.symm (by rfl) o2 hz (some ⟨w2.heap.size, 0, none⟩) 1 1 rfl (by rfl) L5 (fun e => by cases e) (by rw [hlen]; simp; omega) ?_; intro g6 cap6 w6 o6 gr6)
   have cu6 := curG cu3 gr6 (by omega)
   have K6 := keptG K2 gr6 (by omega)
   have HL6 : Hid ((L ++ [n]).length = k + 1) := by show _ = _; simp [hlen]
   clear hlen
   go_roundw
   case rel => exact ⟨k + 1, g6, cap6, L ++ [n], by omega, by simp, rfl, HL6, o6, cu6, K6⟩
   case measure => simp [intOf]; omega
  ·obtain rfl : k = 6 := by omega
   have i0 : ¬ ((6 : Nat) : Int) < 6 := by decide
   have hb1 : c < wr.heap.size := cu1.lt
   go_wp2_with fail
   refine (Draw.l1Once _ _ _ cu1).mono ?_
   rintro e w2 ⟨b2, rfl, cu2, k2⟩
   replace o1 := o1.kept k2 (fun x hx => by have := (o1.lt x hx).1; omega)
   replace K1 := K1.trans k2
   clear cu1 k2
   cases b2
   case false =>
    go_wp2_with fail
    go_ret
    exact ⟨L, g, cap, rfl, HL.out, o1, cu2, K1⟩
   case true =>
    go_wp2_with fail
    refine (Draw.l1Below _ 6 _ cu2).mono ?_
    rintro e w3 ⟨y, y0, y1, rfl, cu3, k3⟩
    replace y1 : y < 6 := by omega
    have hb2 : c < w2.heap.size := cu2.lt
    replace o1 := o1.kept k3 (fun x hx => by have := (o1.lt x hx).1; omega)
    replace K1 := K1.trans k3
    clear cu2 k3
    have hb3 : c < w3.heap.size := cu3.lt
    have vb : Var 2 (w3.alloc (.cells #[.int .i64 0, .int .i64 1, .int .i64 400, .int .i64 401] 2)) w3.heap.size ([0, 1, 400, 401].map (Value.int .i64)) := Var.new w3 _
    replace o1 := o1.alloc (.cells #[.int .i64 0, .int .i64 1, .int .i64 400, .int .i64 401] 2)
    replace cu3 := cu3.alloc (.cells #[.int .i64 0, .int .i64 1, .int .i64 400, .int .i64 401] 2)
    replace K1 := K1.alloc (.cells #[.int .i64 0, .int .i64 1, .int .i64 400, .int .i64 401] 2)
    go_wp2_with fail
    generalize w3.alloc (.cells #[.int .i64 0, .int .i64 1, .int .i64 400, .int .i64 401] 2) = V3 at *
    generalize w3.heap.size = b3 at *
    refine (Draw.l1Below _ 4 _ cu3).mono ?_
    rintro e w4 ⟨z, z0, z1, rfl, cu4, k4⟩
    replace z1 : z < 4 := by omega
    replace vb := vb.kept k4 (by omega)
    replace o1 := o1.kept k4 (fun x hx => by have := (o1.lt x hx).1; omega)
    replace K1 := K1.trans k4
    clear cu3 k4
    obtain ⟨n, hn, hcell⟩ := RegJ.int_sat (ns := [0, 1, 400, 401]) vb (i := z.toNat) (by simp; omega)
    have hlen := HL.out
    obtain ⟨xl, hxl⟩ : ∃ x, L[y.toNat]? = some x := ⟨L[y.toNat]'(by omega), List.getElem?_eq_getElem _⟩
    obtain ⟨pre, post, v, back⟩ := o1.win hxl
    have e1 : Roa.EI.size = 1 := rfl
    rw [e1, Nat.mul_one] at v back
    have cy := v.cell0 rfl
    have fy := v.free0
    have hg := (o1.lt _ rfl).1
    simp only at hg
    have Of := back (w4.setCell ⟨g, y.toNat, none⟩ (.int .i64 n)) n (by have q := v.set0 (.int .i64 n) (by rw [Roa.EI.len]; decide); exact q)
    have cu5 := cu4.upto (w' := w4.setCell ⟨g, y.toNat, none⟩ (.int .i64 n)) (fun i hi => Below.heap_setCell _ _ _ _ (by simp only; omega))
    have K5 := K1.setCell (p := ⟨g, y.toNat, none⟩) (.inr hg) (.int .i64 n)
    have HL6 : Hid ((L.set y.toNat n).length = 6) := by show _ = _; simp [hlen]
    clear hlen hxl o1 cu4 K1 v back vb hg hn
    go_wp2_with fail
    go_ret
    exact ⟨L.set y.toNat n, g, cap, rfl, HL6.out, Of, cu5, K5⟩
theorem drawNewLine (a : Option Addr) (len cap : Nat) (w : World) (hb : Draw.Bytes w a len) (hl : len ≤ 4096) :
  Calls Tryz.prog 6 #[.slice a len cap] w fun e w' => ∃ (L : List Int) (g cp : Nat) (n : Int), e = .returned (.tuple #[.slice (some ⟨g, 0, none⟩) L.length cp, .int .i64 n]) ∧ L.length ≤ 7 ∧ Roa.EI.Own 2 w' w.heap.size (some ⟨g, 0, none⟩) cp L ∧ Below w.heap.size w w' := by
 go_enter Tryz.func6, Tryz.ntmps6
 go_wp2_with fail
 refine (Draw.l1New a len cap _ hb hl).mono ?_
 rintro x w1 ⟨rfl, hh, hw1⟩
 have c1 : Draw.Cur w1 w.heap.size := by rw [hw1]; exact Draw.cur_new hb hl hh _
 have b1 : Below w.heap.size w w1 := by rw [hw1]; exact (Below.refl _ _).alloc (Nat.le_refl _) _
 clear hw1
 go_wp2_with fail
 refine (l13DrawCaps _ _ c1).mono ?_
 rintro x w2 ⟨L, g, cp, rfl, hL, o2, c2, k2⟩
 have B2 := b1.trans (k2.below (Nat.le_refl _) b1.size)
 have hz1 : w.heap.size < w1.heap.size := c1.lt
 clear c1 b1 k2
 have HL : Hid (L.length = 6) := hL
 clear hL
 go_wp2_with fail
 refine (Draw.l1Once _ _ _ c2).mono ?_
 rintro e w3 ⟨b3, rfl, c3, k3⟩
 replace o2 := o2.kept k3 (fun x hx => by have := (o2.lt x hx).1; omega)
 replace B2 := B2.trans (k3.below (Nat.le_refl _) B2.size)
 clear c2 k3
 cases b3
 case false =>
  go_wp2_with fail
  refine (Hop.l1From _ _ _ _ c3).mono ?_
  rintro e w4 ⟨n, rfl, c4, k4⟩
  replace o2 := o2.kept k4 (fun x hx => by have := (o2.lt x hx).1; omega)
  replace B2 := B2.trans (k4.below (Nat.le_refl _) B2.size)
  clear c3 k4 c4
  go_wp2_with fail
  go_ret2
  exact ⟨L, g, cp, n, by rw [HL.out]; rfl, by have := HL.out; omega, o2.mono (Nat.le_of_lt hz1), B2⟩
 case true =>
  have o3 := o2.alloc (.cells #[.int .i64 5] 2)
  have c4 := c3.alloc (.cells #[.int .i64 5] 2)
  have B3 := B2.alloc B2.size (.cells #[.int .i64 5] 2)
  have hz : w1.heap.size ≤ (w3.alloc (.cells #[.int .i64 5] 2)).heap.size := by
   have := (o3.lt ⟨g, 0, none⟩ rfl).1
   have := (o3.lt ⟨g, 0, none⟩ rfl).2
   omega
  have L5 : Roa.EI.Lies (w3.alloc (.cells #[.int .i64 5] 2)) (some ⟨w3.heap.size, 0, none⟩) [5] := El.lies_new rfl
  have hg := (o3.lt _ rfl).1
  simp only at hg
  have hlen := HL.out
  go_wp2_with (at_builtin; refine wpList_appS Roa.tyI (by decide) (by rfl) _ _ (by rfl) w1.heap.size g cp 6 L [5] hlen.symm (by rfl) o3 hz (some ⟨w3.heap.size, 0, none⟩) 1 1 rfl (by rfl) L5 (fun e => by cases e) (by rw [hlen]; decide) ?_; intro g6 cap6 w6 o6 gr6)
  have c6 := curG c4 gr6 (by omega)
  have B6 := grown_below B3 (Nat.le_refl _) (fun q hq => by cases hq; omega) gr6
  have HL6 : Hid ((L ++ [5]).length = 7) := by show _ = _; simp [hlen]
  clear hlen
  refine (Hop.l1From _ _ _ _ c6).mono ?_
  rintro e w7 ⟨n, rfl, c7, k7⟩
  replace o6 := o6.kept k7 (fun x hx => by have := (o6.lt x hx).1; omega)
  replace B6 := B6.trans (k7.below (Nat.le_refl _) B6.size)
  clear c6 k7 c7
  go_wp2_with fail
  go_ret2
  exact ⟨L ++ [5], g6, cap6, n, by rw [HL6.out]; rfl, by have := HL6.out; omega, o6.mono (Nat.le_of_lt hz1), B6⟩
end Go.Proofs.YtanfnphdgcnojaaGreat.Wor

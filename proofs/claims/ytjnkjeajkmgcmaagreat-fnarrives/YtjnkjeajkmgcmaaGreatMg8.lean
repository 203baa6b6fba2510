/- For RegJ: where of each operation nothing is told but that it is done and which value it gave. Plain. · The library's Delete of one letter of a row of the call's own (chapter 7); rows of at most 2^21 letters. · Ranges over functions, at the wide fence: a loop over an iterator that yields a known list ('Gives'), the loop's own law, and how a region inside a round is walked as outside of one; no condition. -/
import Derived.Test.YtjnkjeajkmgcmaaGreatMg7
import Derived.Deep.Cut
import Derived.Lib.SliceRun
import Derived.Test.YtjnkjeajkmgcmaaGreatMg4
import Derived.RangeFuncNested
import Derived.RangeFuncBound
import Derived.RangeFuncCalls
import Derived.RangeFuncLeaves
import Derived.OrdersIn
import Derived.Deep.Quiet
namespace Go.Proofs.YtjnkjeajkmgcmaaGreat.RegJ
open Go.RowKit
set_option linter.unusedVariables false

def Val (vs : List (Option Value)) (d : Nat → Bool) (j : Nat) (v : Value) (_ : World) : Prop := d j = true ∧ ∀ u, vs[j]? = some (some u) → v = u
theorem Val.keep {vs : List (Option Value)} {d : Nat → Bool} {x : Nat → Value} {w w' : World} {i : Nat} : ∀ j, j ≠ i → Val vs d j (x j) w → Val vs (fun j => j == i || d j) j (x j) w' :=
  fun j _ h => ⟨by simp [h.1], h.2⟩
theorem Val.this {vs : List (Option Value)} {d : Nat → Bool} {w : World} {i : Nat} {v : Value} (h : vs[i]? = some (some v) ∨ vs[i]? = some none) : Val vs (fun j => j == i || d j) i v w :=
  ⟨by simp, fun u hu => by
    rcases h with h | h
    · rw [h] at hu; cases hu; rfl
    · rw [h] at hu; cases hu⟩

end Go.Proofs.YtjnkjeajkmgcmaaGreat.RegJ

namespace Go.Proofs.YtjnkjeajkmgcmaaGreat.Hop
open Go.RowKit RowG
set_option linter.unusedVariables false
set_option linter.unusedSimpArgs false

theorem run_range {α : Type} {E : El α} {P : Program} {tS T : TypeId} {bytes : Nat} (ty : Typ P tS T E bytes) (w : World) (ao : Option Addr) (n c : Nat) (kd kd' : IntKind) (lo hi : Nat) (h1 : lo ≤ hi) (h2 : hi ≤ c) :
    (Instr.sliceAt tS (.slice ao n c) (some (.int kd (lo : Int))) (some (.int kd' (hi : Int))) none).run P w = .ok (.slice (if c = lo then ao else ao.map (·.add (lo * E.size))) (hi - lo) (c - lo)) w := by
  obtain ⟨hu, i, z, hi', hz0, hz1, hz2, hz3⟩ := ty
  have a1 : (0 : Int) ≤ (lo : Int) := by omega
  have a2 : (0 : Int) ≤ (hi : Int) := by omega
  have a3 : (hi : Int) ≤ (c : Int) := by omega
  have a4 : (lo : Int) ≤ (hi : Int) := by omega
  simp [Instr.sliceAt, Instr.slice, run_underlying hu, Instr.sliceBounds, run_sliceBound, sizeOf, typeInfo, hi', hz1, a1, a2, a3, a4]
theorem run_three {α : Type} {E : El α} {P : Program} {tS T : TypeId} {bytes : Nat} (ty : Typ P tS T E bytes) (w : World) (ao : Option Addr) (n c : Nat) (k1 k2 k3 : IntKind) (lo hi mx : Nat) (h1 : lo ≤ hi) (h2 : hi ≤ mx) (h3 : mx ≤ c) :
    (Instr.sliceAt tS (.slice ao n c) (some (.int k1 (lo : Int))) (some (.int k2 (hi : Int))) (some (.int k3 (mx : Int)))).run P w = .ok (.slice (if mx = lo then ao else ao.map (·.add (lo * E.size))) (hi - lo) (mx - lo)) w := by
  obtain ⟨hu, i, z, hi', hz0, hz1, hz2, hz3⟩ := ty
  have a1 : (0 : Int) ≤ (lo : Int) := by omega
  have a2 : (0 : Int) ≤ (hi : Int) := by omega
  have a3 : (hi : Int) ≤ (mx : Int) := by omega
  have a4 : (lo : Int) ≤ (hi : Int) := by omega
  have a5 : (0 : Int) ≤ (mx : Int) := by omega
  have a6 : (mx : Int) ≤ (c : Int) := by omega
  simp [Instr.sliceAt, Instr.slice, run_underlying hu, Instr.sliceBounds, run_sliceBound, sizeOf, typeInfo, hi', hz1, a1, a2, a3, a4, a5, a6]

theorem run_down {α : Type} {E : El α} {P : Program} {tS T : TypeId} {bytes : Nat} (ty : Typ P tS T E bytes) (tr : TypeId) {w : World} {B g c : Nat} {l : List α} (h : E.Own T w B (some ⟨g, 0, none⟩) c l) {k : Nat} {z : α} (hz : l[l.length - 1]? = some z) (hk : k < l.length) :
    ∃ W, (Builtin.append_ #[tS, tS] tr #[.slice (some ⟨g, 0, none⟩) k c, .slice (if c = k + 1 then some ⟨g, 0, none⟩ else (some (⟨g, 0, none⟩ : Addr)).map (·.add ((k + 1) * E.size))) (l.length - (k + 1)) (c - (k + 1))]).run P w = .ok (.slice (some ⟨g, 0, none⟩) (l.length - 1) c) W ∧ E.Own T W B (some ⟨g, 0, none⟩) c (l.take k ++ l.drop (k + 1) ++ [z]) ∧ Draw.Kept g w W := by
  have hL := h.lies
  have hcap := h.cap
  have hkeep := h
  obtain ⟨hx, ⟨hv, hn⟩ | ⟨g', cap, cur, hv, h1, h2, h3, h4, h5, h6⟩⟩ := h
  · cases hv
  cases hv
  obtain ⟨hu, i, zz, hi, hz0, hz1, hz2, hz3⟩ := ty
  obtain ⟨x, hxe⟩ : ∃ x : Addr, (if c = k + 1 then some (⟨g, 0, none⟩ : Addr) else (some (⟨g, 0, none⟩ : Addr)).map (·.add ((k + 1) * E.size))) = some x := by
    by_cases e : c = k + 1
    · exact ⟨⟨g, 0, none⟩, if_pos e⟩
    · exact ⟨_, (if_neg e).trans rfl⟩
  have hnews : ∀ j u, (E.vals (l.drop (k + 1)))[j]? = some u → w.cell? (x.add j) = some u := by
    have hs := hL.slice (k + 1) l.length c (by omega) (Nat.le_refl _) hcap
    rw [List.take_of_length_le (by simp)] at hs
    exact hs.src hxe
  have hl : (E.vals (l.drop (k + 1))).length = (l.length - (k + 1)) * i.size := by rw [E.vals_len, List.length_drop, hz1]
  have hpos := E.pos
  have hle : k * i.size + (E.vals (l.drop (k + 1))).length ≤ cur.size := by
    rw [hl, hz1, h5, ← Nat.add_mul]
    exact Nat.mul_le_mul_right _ (by omega)
  have hr := run_append_room (P := P) w tS tr T i hu hi g k c cur h2 x (l.length - (k + 1)) (c - (k + 1)) (E.vals (l.drop (k + 1))) hl hnews (E.vals_cells _) (by omega) hle
  refine ⟨w.setRow g (cur.toList.take (k * i.size) ++ E.vals (l.drop (k + 1)) ++ cur.toList.drop (k * i.size + (E.vals (l.drop (k + 1))).length)).toArray, ?_, ?_, ?_⟩
  · rw [hxe, hr, show k + (l.length - (k + 1)) = l.length - 1 by omega]
  · have hlen : (l.take k ++ l.drop (k + 1) ++ [z]).length = l.length := by simp; omega
    refine ⟨by rw [E.vals_len, hlen], .inr ⟨g, c, _, by rw [hlen], h1, setRow_heap w g cur _ T _ h2, by rw [hlen]; exact h3, h4, ?_, ?_⟩⟩
    · simp only [List.size_toArray, List.length_append, List.length_take, List.length_drop, Array.length_toList]
      omega
    · rw [hlen, hz1]
      have hm : k * E.size ≤ l.length * E.size := Nat.mul_le_mul_right _ (by omega)
      have hcur : cur.toList = E.vals l ++ cur.toList.drop (l.length * E.size) := by rw [← h6, List.take_append_drop]
      have hvl := E.vals_len l
      have hvz : E.vals l = E.vals (l.take (l.length - 1)) ++ E.enc z := by
        have e : l = l.take (l.length - 1) ++ [z] := by
          have := List.take_add_one (l := l) (i := l.length - 1)
          rw [hz, show l.length - 1 + 1 = l.length by omega, List.take_length] at this
          exact this
        conv => lhs; rw [e]
        rw [E.vals_append, E.vals_one]
      have t1 : cur.toList.take (k * E.size) = E.vals (l.take k) := by
        have e : E.vals l = E.vals (l.take k) ++ E.vals (l.drop k) := by rw [← E.vals_append, List.take_append_drop]
        rw [hcur, e, List.append_assoc]
        apply List.take_left'
        rw [E.vals_len, List.length_take, Nat.min_eq_left (by omega)]
      have t2 : cur.toList.drop (k * E.size + (E.vals (l.drop (k + 1))).length) = E.enc z ++ cur.toList.drop (l.length * E.size) := by
        rw [hl, hz1, ← Nat.add_mul, show k + (l.length - (k + 1)) = l.length - 1 by omega]
        conv => lhs; rw [hcur, hvz, List.append_assoc]
        apply List.drop_left'
        rw [E.vals_len, List.length_take, Nat.min_eq_left (by omega)]
      simp only [t1, t2, E.vals_append, E.vals_one, List.append_assoc]
      rw [show E.vals (l.take k) ++ (E.vals (l.drop (k + 1)) ++ (E.enc z ++ cur.toList.drop (l.length * E.size))) = (E.vals (l.take k) ++ (E.vals (l.drop (k + 1)) ++ E.enc z)) ++ cur.toList.drop (l.length * E.size) by simp only [List.append_assoc]]
      apply List.take_left'
      rw [List.length_append, List.length_append, E.vals_len, E.vals_len, E.len, List.length_take, List.length_drop, Nat.min_eq_left (by omega), ← Nat.succ_mul, ← Nat.add_mul]
      congr 1
      omega
  · refine ⟨rfl, rfl, rfl, by simp [World.setRow], fun j hj hne => setRow_other w g j _ hne⟩

theorem step_run {P : Program} {tS : TypeId} {w W : World} {ops : Array Oper} {o : Oper} {a : Act} {K : Act → World → Prop} {Q : Exit → Act → World → Prop} {X : Prop} (hgd : o.guard = none) (s x : Operand)
    (ho : o.op = .call { callee := .builtin .append, args := #[s, x], argTypes := #[tS, tS] }) (u v r : Value) (hs : a.eval s = u) (hx : a.eval x = v) (hr : (Builtin.append_ #[tS, tS] o.type #[u, v]).run P w = .ok r W)
    (h : K (a.put o.dst r) W) : if Region.wanted o (yielded ops a.tmps) = true then Oper.wp P o a w K Q else X := by
  rw [if_pos (by simp [Region.wanted, hgd])]
  unfold Oper.wp
  simp [execOp, ho, resolve, invoke, builtin, hs, hx, hr, Result.andThen]
  exact h
def zeroLs : List Value := [.bool false, .int .i64 0, .int .i64 0, .string ByteArray.empty, .bool false, .int .i64 0, .bool false]
def zeroAg : Value := .agg #[.bool false, .int .i64 0, .int .i64 0, .string ByteArray.empty, .bool false, .int .i64 0, .bool false]
theorem zeroLets (w : World) : (zeroValue 39).run Tryz.prog w = .ok zeroAg w := by
  obtain ⟨i, hi, h0, _, _⟩ := info_parts infoLet
  simp [zeroValue, typeInfo, hi, h0, zeroAg]
theorem zeroCellsLs : (Builtin.zeroCells zeroAg.cells 1).toList = zeroLs := by
  simp [Builtin.zeroCells, zeroAg, zeroLs, Value.cells, Array.range]
  try decide
abbrev seven (w : World) (g o : Nat) : World := w.setCells g o zeroLs
theorem run_clear1 {w : World} {B g c : Nat} {l : List Lt} (ho : letE.Own 39 w B (some ⟨g, 0, none⟩) c l) (i c' : Nat) (ty : TypeId) (hin : i + 1 = l.length) :
    (Builtin.clear_ #[29] ty #[.slice (some ⟨g, i * 7, none⟩) 1 c']).run Tryz.prog w = .ok (.tuple #[]) (seven w g (i * 7)) := by
  have hsome : ∀ j, j < 7 → (w.cell? ⟨g, i * 7 + j, none⟩).isSome = true := by
    intro j hj
    have hj' : i * 7 + j < l.length * letE.size := by show _ < l.length * 7; omega
    rw [World.ownsRow.cellAt ho _ hj']
    have : i * 7 + j < (letE.vals l).length := by rw [letE.vals_len]; exact hj'
    simp [this]
  have hst := run_storeCells_cells (P := Tryz.prog) g (i * 7) zeroLs 0 w (fun j hj => by simpa using hsome j (by simpa [zeroLs] using hj)) (fun j hj => ho.frozen _) (by intro v hv; simp [zeroLs] at hv; rcases hv with rfl | rfl | rfl | rfl | rfl | rfl | rfl <;> rfl)
  simp only [Nat.add_zero] at hst
  simp [Builtin.clear_, run_underlying Tryz.underlying29, zeroLets w, zeroCellsLs, hst]

theorem own_behind {w : World} {B g c : Nat} {l : List Lt} (h : letE.Own 39 w B (some ⟨g, 0, none⟩) c l) (j : Nat) (v : Value) (hj : l.length * 7 ≤ j) : letE.Own 39 (w.setCell ⟨g, j, none⟩ v) B (some ⟨g, 0, none⟩) c l := by
  have h1 := (World.ownsRow.stored h j v).1
  have e : (letE.vals l).set j v = letE.vals l := List.set_eq_of_length_le (by rw [letE.vals_len]; exact hj)
  rw [e] at h1
  exact h1
theorem own_cells {B g c : Nat} {l : List Lt} : ∀ (vs : List Value) (j : Nat) (w : World), letE.Own 39 w B (some ⟨g, 0, none⟩) c l → l.length * 7 ≤ j → letE.Own 39 (w.setCells g j vs) B (some ⟨g, 0, none⟩) c l
  | [], _, _, h, _ => h
  | v :: vs, j, w, h, hj => own_cells vs (j + 1) _ (own_behind h j v hj) (by omega)
theorem kept_cells {g : Nat} {w0 : World} : ∀ (vs : List Value) (j : Nat) (w : World), Draw.Kept g w0 w → Draw.Kept g w0 (w.setCells g j vs)
  | [], _, _, h => h
  | v :: vs, j, w, h => kept_cells vs (j + 1) _ (h.setCell (p := ⟨g, j, none⟩) (.inl rfl) v)

set_option maxRecDepth 10000 in
set_option maxHeartbeats 4000000 in
theorem delete1 (B g c n : Nat) (l : List Lt) (k : Nat) (w : World) (hn : n = l.length) (ho : letE.Own 39 w B (some ⟨g, 0, none⟩) c l) (hk : k < l.length) (hl : l.length ≤ 2097152) :
    Calls Tryz.prog 53 #[.slice (some ⟨g, 0, none⟩) n c, .int .i64 (k : Int), .int .i64 ((k : Int) + 1)] w fun x w' => x = .returned (.slice (some ⟨g, 0, none⟩) (l.length - 1) c) ∧ letE.Own 39 w' B (some ⟨g, 0, none⟩) c (l.take k ++ l.drop (k + 1)) ∧ Draw.Kept g w w' := by
  subst hn
  have hmix := mix
  have hcap := ho.cap
  obtain ⟨z, hz⟩ : ∃ z, l[l.length - 1]? = some z := ⟨l[l.length - 1], List.getElem?_eq_getElem (by omega)⟩
  have hq3 := fun w' => run_three typ w' (some ⟨g, 0, none⟩) l.length c .i64 .i64 .i64 k (k + 1) l.length (by omega) (by omega) hcap
  generalize hz3 : (if l.length = k then (some ⟨g, 0, none⟩ : Option Addr) else (some (⟨g, 0, none⟩ : Addr)).map (·.add (k * letE.size))) = A3 at hq3
  clear hz3
  have hne : (((k : Int) == ((k + 1 : Nat) : Int))) = false := by rw [beq_eq_false_iff_ne]; omega
  have o0 := ho.drew
  have k0 : Draw.Kept g w w.drew := (Draw.Kept.refl g w).drew
  have q2 := fun w' => run_upto typ w' (some ⟨g, 0, none⟩) l.length c .i64 k (by omega)
  have q5 := fun w' => run_from typ w' (some ⟨g, 0, none⟩) l.length c .i64 (k + 1) (by omega)
  have q2' : ∀ w', (Instr.sliceAt 29 (.slice (some ⟨g, 0, none⟩) l.length c) none (some (.int .i64 (k : Int))) none).run Tryz.prog w' = .ok (.slice (some ⟨g, 0, none⟩) k c) w' := fun w' => by
    have := q2 w'
    rw [if_neg (by omega : ¬ c = 0)] at this
    simpa [Addr.add] using this
  clear q2
  generalize hA5 : (if c = k + 1 then (some ⟨g, 0, none⟩ : Option Addr) else (some (⟨g, 0, none⟩ : Addr)).map (·.add ((k + 1) * letE.size))) = A5 at q5
  have hA : Hid _ := hA5
  clear hA5
  rw [Int.natCast_add, show ((1 : Nat) : Int) = 1 from rfl] at hne
  simp only [Int.natCast_add, show ((1 : Nat) : Int) = 1 from rfl] at hq3 q5
  have keepW : ∀ (q : Nat) (d : Nat → Bool) (w' : World), (Draw.Kept g w w' ∧ letE.Own 39 w' B (some ⟨g, 0, none⟩) c (if d 6 = true then l.take k ++ l.drop (k + 1) ++ [z] else l)) → (q ≠ 6) → (Draw.Kept g w w' ∧ letE.Own 39 w' B (some ⟨g, 0, none⟩) c (if (6 == q || d 6) = true then l.take k ++ l.drop (k + 1) ++ [z] else l)) := by
    intro q d w' h hq
    have e1 : (6 == q) = false := by rw [beq_eq_false_iff_ne]; omega
    rw [e1, Bool.false_or]
    exact h
  clear ho
  go_enter Tryz.func53, Tryz.ntmps53
  go_upto_region 5 with (fail)
  refine RegJ.wp_region_J (W := (fun d w' => Draw.Kept g w w' ∧ letE.Own 39 w' B (some ⟨g, 0, none⟩) c (if d 6 = true then l.take k ++ l.drop (k + 1) ++ [z] else l))) (RegJ.Val [some (.slice (some ⟨g, 0, none⟩) l.length c), some (.int .i64 (k : Int)), some (.slice (some ⟨g, 0, none⟩) k c), some (.slice (some ⟨g, 0, none⟩) l.length c), some (.int .i64 ((k : Int) + 1)), some (.slice A5 (l.length - (k + 1)) (c - (k + 1))), some (.slice (some ⟨g, 0, none⟩) (l.length - 1) c), some (.slice (some ⟨g, 0, none⟩) (l.length - 1) c)]) [some 20, some 21, some 22, some 23, some 24, some 25, some 26, some 0] (F := ?_) (is := [0, 1, 2, 3, 4, 5, 6, 7]) hmix (by kernel_rfl) (by kernel_rfl) (by kernel_rfl) (by kernel_rfl) (fun x => ?_) (⟨k0, o0⟩) ?_ (fun dR xR wR hWR hdR hJR => ?_)
  rotate_left 1
  focus (simp only [RegJ.lay, Act.put, Nat.reduceAdd, Nat.zero_add, List.getElem_toArray, List.getElem_cons_zero, List.getElem_cons_succ, List.setIfInBounds_toArray, List.set_cons_zero, List.set_cons_succ]; rfl)
  focus
    refine RegJ.Steps.cons (RegJ.StepAt.mk rfl (fun d x w1 hW1 hJ1 hx1 K hK => ?_)) (RegJ.Steps.cons (RegJ.StepAt.mk rfl (fun d x w1 hW1 hJ1 hx1 K hK => ?_)) (RegJ.Steps.cons (RegJ.StepAt.mk rfl (fun d x w1 hW1 hJ1 hx1 K hK => ?_)) (RegJ.Steps.cons (RegJ.StepAt.mk rfl (fun d x w1 hW1 hJ1 hx1 K hK => ?_)) (RegJ.Steps.cons (RegJ.StepAt.mk rfl (fun d x w1 hW1 hJ1 hx1 K hK => ?_)) (RegJ.Steps.cons (RegJ.StepAt.mk rfl (fun d x w1 hW1 hJ1 hx1 K hK => ?_)) (RegJ.Steps.cons (RegJ.StepAt.mk rfl (fun d x w1 hW1 hJ1 hx1 K hK => ?_)) (RegJ.Steps.cons (RegJ.StepAt.mk rfl (fun d x w1 hW1 hJ1 hx1 K hK => ?_)) (RegJ.Steps.nil))))))))
    focus (simp only [List.getElem_toArray, List.getElem_cons_succ, List.getElem_cons_zero] at hK; have j7 : x 7 = .slice (some ⟨g, 0, none⟩) l.length c := (hx1.out 7 (.inr (by kernel_rfl))).2; rw [j7] at hK; go_simp; exact hK.out _ _ (keepW 0 d _ hW1 (by decide)) RegJ.Val.keep (RegJ.Val.this (Or.inl rfl)))
    focus (simp only [List.getElem_toArray, List.getElem_cons_succ, List.getElem_cons_zero] at hK; go_simp; exact hK.out _ _ (keepW 1 d _ hW1 (by decide)) RegJ.Val.keep (RegJ.Val.this (Or.inl rfl)))
    focus (simp only [List.getElem_toArray, List.getElem_cons_succ, List.getElem_cons_zero] at hK; have j0 : x 0 = _ := (hJ1.out 0 (by kernel_rfl)).2 _ rfl; rw [j0] at hK; have j1 : x 1 = _ := (hJ1.out 1 (by kernel_rfl)).2 _ rfl; rw [j1] at hK; have r := q2' w1; go_simp; exact hK.out _ _ (keepW 2 d _ hW1 (by decide)) RegJ.Val.keep (RegJ.Val.this (Or.inl rfl)))
    focus (simp only [List.getElem_toArray, List.getElem_cons_succ, List.getElem_cons_zero] at hK; have j7 : x 7 = .slice (some ⟨g, 0, none⟩) l.length c := (hx1.out 7 (.inr (by kernel_rfl))).2; rw [j7] at hK; go_simp; exact hK.out _ _ (keepW 3 d _ hW1 (by decide)) RegJ.Val.keep (RegJ.Val.this (Or.inl rfl)))
    focus (simp only [List.getElem_toArray, List.getElem_cons_succ, List.getElem_cons_zero] at hK; go_simp; exact hK.out _ _ (keepW 4 d _ hW1 (by decide)) RegJ.Val.keep (RegJ.Val.this (Or.inl rfl)))
    focus (simp only [List.getElem_toArray, List.getElem_cons_succ, List.getElem_cons_zero] at hK; have j3 : x 3 = _ := (hJ1.out 3 (by kernel_rfl)).2 _ rfl; rw [j3] at hK; have j4 : x 4 = _ := (hJ1.out 4 (by kernel_rfl)).2 _ rfl; rw [j4] at hK; have r := q5 w1; go_simp; exact hK.out _ _ (keepW 5 d _ hW1 (by decide)) RegJ.Val.keep (RegJ.Val.this (Or.inl rfl)))
    focus (simp only [List.getElem_toArray, List.getElem_cons_succ, List.getElem_cons_zero] at hK; have j2 : x 2 = _ := (hJ1.out 2 (by kernel_rfl)).2 _ rfl; rw [j2] at hK; have j5 : x 5 = _ := (hJ1.out 5 (by kernel_rfl)).2 _ rfl; rw [j5] at hK; rw [j2, j5]; have hw := hW1; rw [if_neg (by rw [(hx1.out 6 (.inl rfl)).1]; decide)] at hw; obtain ⟨W, r1, r2, r3⟩ := run_down typ 29 hw.2 hz hk; rw [hA.out] at r1; have r2' : Hid _ := r2; have r3' : Hid _ := hw.1.trans r3; clear hw r2 r3; refine step_run rfl (.tmp 22) (.tmp 25) rfl _ _ _ rfl rfl r1 ?_; refine hK.out _ _ ⟨r3'.out, ?_⟩ RegJ.Val.keep (RegJ.Val.this (Or.inl rfl)); rw [if_pos (by simp)]; exact r2'.out)
    focus (simp only [List.getElem_toArray, List.getElem_cons_succ, List.getElem_cons_zero] at hK; have j6 : x 6 = _ := (hJ1.out 6 (by kernel_rfl)).2 _ rfl; rw [j6] at hK; go_simp; exact hK.out _ _ (keepW 7 d _ hW1 (by decide)) RegJ.Val.keep (RegJ.Val.this (Or.inl rfl)))
  try dsimp only at hWR
  rw [if_pos (hdR 6 (by decide))] at hWR
  have e7 : xR 7 = _ := (hJR 7 (by decide)).2 _ rfl
  rw [e7]
  generalize xR 0 = y0
  generalize xR 1 = y1
  generalize xR 2 = y2
  generalize xR 3 = y3
  generalize xR 4 = y4
  generalize xR 5 = y5
  generalize xR 6 = y6
  clear hJR hdR e7
  have hlen : (l.take k ++ l.drop (k + 1) ++ [z]).length = l.length := by simp; omega
  have o9 := hWR.2
  have r9 : ∀ w', (Instr.sliceAt 29 (.slice (some ⟨g, 0, none⟩) (l.length - 1) c) (some (.int .i64 ((l.length - 1 : Nat) : Int))) (some (.int .i64 (l.length : Int))) none).run Tryz.prog w' = .ok (.slice (some ⟨g, (l.length - 1) * 7, none⟩) 1 (c - (l.length - 1))) w' := fun w' => by
    have := run_range typ w' (some ⟨g, 0, none⟩) (l.length - 1) c .i64 .i64 (l.length - 1) l.length (by omega) hcap
    rw [if_neg (by omega : ¬ c = l.length - 1), show l.length - (l.length - 1) = 1 by omega] at this
    refine this.trans ?_
    show Result.ok (Value.slice (some (Addr.add ⟨g, 0, none⟩ ((l.length - 1) * 7))) _ _) _ = _
    simp [Addr.add]
    omega
  have r8 : ∀ ty, (Builtin.clear_ #[29] ty #[.slice (some ⟨g, (l.length - 1) * 7, none⟩) 1 (c - (l.length - 1))]).run Tryz.prog wR = .ok (.tuple #[]) (seven wR g ((l.length - 1) * 7)) := fun ty => run_clear1 o9 _ _ ty (by rw [hlen]; omega)
  have of : letE.Own 39 (seven wR g ((l.length - 1) * 7)) B (some ⟨g, 0, none⟩) c (l.take k ++ l.drop (k + 1)) := by
    have := own_take o9 (l.length - 1)
    rw [List.take_left' (by simp; omega)] at this
    exact own_cells _ _ _ this (by simp; omega)
  have kf : Draw.Kept g w (seven wR g ((l.length - 1) * 7)) := kept_cells _ _ _ hWR.1
  clear o9
  generalize seven wR g ((l.length - 1) * 7) = wf at r8 of kf
  go_wp2_with fail
  go_ret
  exact ⟨rfl, of, kf⟩

end Go.Proofs.YtjnkjeajkmgcmaaGreat.Hop

namespace Go.Proofs.YtjnkjeajkmgcmaaGreat.Rng
open Go.RowKit Go.Proofs.YtjnkjeajkmgcmaaGreat.RowG
set_option linter.unusedVariables false
set_option linter.unusedSimpArgs false

structure Chg (m : Nat → Obj → Prop) (A B : World) : Prop where
  os : B.os = A.os
  tape : B.tape = A.tape
  output : B.output = A.output
  size : A.heap.size ≤ B.heap.size
  same : ∀ k o, A.heap[k]? = some o → ¬ m k o → B.heap[k]? = some o

variable {m m' : Nat → Obj → Prop} {A B C : World}
theorem Chg.refl (m : Nat → Obj → Prop) (A : World) : Chg m A A := ⟨rfl, rfl, rfl, Nat.le_refl _, fun _ _ h _ => h⟩
theorem Chg.trans (h : Chg m A B) (g : Chg m B C) : Chg m A C :=
  ⟨g.os.trans h.os, g.tape.trans h.tape, g.output.trans h.output, Nat.le_trans h.size g.size, fun k o hk hn => g.same k o (h.same k o hk hn) hn⟩
theorem Chg.mono (h : Chg m A B) (hm : ∀ k o, m k o → m' k o) : Chg m' A B :=
  ⟨h.os, h.tape, h.output, h.size, fun k o hk hn => h.same k o hk (fun e => hn (hm k o e))⟩
theorem lt_some {k : Nat} {o : Obj} (h : A.heap[k]? = some o) : k < A.heap.size := (Array.getElem?_eq_some_iff.1 h).1
theorem Chg.later (h : Below A.heap.size A B) : Chg m A B := ⟨h.os, h.tape, h.output, h.size, fun k o hk _ => (h.block k (lt_some hk)).trans hk⟩
theorem Chg.kept {c : Nat} (h : Draw.Kept c A B) (hc : ∀ o, A.heap[c]? = some o → m c o) : Chg m A B :=
  ⟨h.os, h.tape, h.output, h.size, fun k o hk hn => (h.block k (lt_some hk) (fun e => hn (by subst e; exact hc o hk))).trans hk⟩
theorem Chg.grown {r : Option Nat} (h : A.grownBy B r) (hc : ∀ g o, r = some g → A.heap[g]? = some o → m g o) : Chg m A B :=
  ⟨h.os, h.tape, h.output, h.size, fun k o hk hn => (h.block k (lt_some hk) (fun e => hn (hc k o e.symm hk))).trans hk⟩
theorem Chg.below {D : Nat} (h : Chg m A B) (hs : D ≤ A.heap.size) (hm : ∀ k o, k < D → ¬ m k o) : Below D A B :=
  ⟨h.os, h.tape, h.output, h.size, fun k hk => by
    have e : A.heap[k]? = some A.heap[k] := Array.getElem?_eq_getElem (by omega)
    rw [h.same k _ e (hm k _ hk), e]⟩
theorem Chg.put (A : World) {l : Nat} {o o' : Obj} (h : A.heap[l]? = some o) (hm : m l o) : Chg m A (A.putObj l o') :=
  Chg.grown (grownBy_putObj' A l o') (fun g x e hg => by cases e; rw [h] at hg; cases hg; exact hm)

abbrev Std (b : Nat) : World → World → Prop := Chg (fun k o => b ≤ k ∧ o.isCells = false)
theorem Chg.var {T : TypeId} {k : Nat} {vs : List Value} (h : Chg m A B) (hv : Var T A k vs) (hn : ∀ o, o.isCells = true → ¬ m k o) : Var T B k vs := h.same k _ hv (hn _ rfl)
theorem Chg.cell {p : Addr} {v : Value} (h : Chg m A B) (hv : A.cell? p = some v) (hn : ∀ o, o.isCells = true → ¬ m p.block o) : B.heap[p.block]? = A.heap[p.block]? := by
  unfold World.cell? at hv
  cases ho : A.heap[p.block]? with
  | none => simp [ho] at hv
  | some o => exact h.same _ _ ho (hn o (by cases o <;> simp_all [Obj.isCells]))
theorem Chg.read {p : Addr} {v : Value} (h : Chg m A B) (hv : A.cell? p = some v) (hn : ∀ o, o.isCells = true → ¬ m p.block o) : B.cell? p = some v := (World.cell?_of_block (h.cell hv hn)).trans hv
theorem std_no {b k : Nat} : ∀ o : Obj, o.isCells = true → ¬ (b ≤ k ∧ o.isCells = false) := fun o h e => by rw [h] at e; cases e.2
theorem std_var {b : Nat} {T : TypeId} {k : Nat} {vs : List Value} (h : Std b A B) (hv : Var T A k vs) : Var T B k vs := h.var hv std_no
theorem std_lies {α : Type} {E : El α} {b : Nat} {a : Option Addr} {l : List α} (h : Std b A B) (hl : E.Lies A a l) : E.Lies B a l := by
  rcases hl with e | ⟨k, off, rfl, hc⟩
  · exact .inl e
  · exact .inr ⟨k, off, rfl, fun j u hu => h.read (hc j u hu) std_no⟩

def noDefer (o : Oper) : Bool := match o.op with
  | .defer _ => false
  | _ => true
theorem op_round {P : Program} {o : Oper} {a : Act} {w : World} {next : Act → World → Prop} {Q : Exit → Act → World → Prop} {l n : Nat} (hd : noDefer o = true) (h : o.wp P a w next Q) : o.wpIn (Fence.wide.inRound l) n P a w next Q := by
  refine ⟨fun _ _ => trivial, ?_⟩
  rw [Oper.semAt_eq _ _ _ (fun c e => by simp [noDefer, e] at hd)]
  unfold Oper.wp at h
  generalize (execOp a.eval o).run P w = r at *
  cases r with
  | ok x w' =>
    cases x <;> simp only [Oper.upon, Oper.uponIn] at h ⊢
    all_goals first
      | exact h
      | exact ⟨fun e => (by cases e), CallsIn.inRound l (callsIn_wide.2 h)⟩
      | exact ⟨fun e => (by cases e), fun c cs _ => let ⟨v, w2, r, s⟩ := h c cs; ⟨v, w2, r, stepsIn_wide.2 s⟩⟩
      | exact h.elim
  | halt x w' => cases x <;> simp only [Oper.upon, Oper.uponIn] at h ⊢ <;> exact h

theorem list_round {P : Program} {ops : Array Oper} {Q : Exit → Act → World → Prop} {l n : Nat} (hQ : ¬ LetsOut Q) : ∀ (ls : List Oper) (a : Act) (w : World), ls.all noDefer = true → wpList P ops Q ls a w → wpListIn (Fence.wide.inRound l) n P ops Q ls a w
  | [], a, w, _, h => h
  | o :: ls, a, w, hd, h => by
    simp only [List.all_cons, Bool.and_eq_true] at hd
    unfold wpListIn
    unfold wpList at h
    split
    · rename_i hw
      rw [if_pos hw] at h
      rcases h with h | ⟨_, h⟩
      · exact op_round hd.1 (Oper.wp_mono (fun a w h => list_round hQ ls a w hd.2 h) h)
      · exact absurd h hQ
    · rename_i hw
      rw [if_neg hw] at h
      exact ⟨fun _ _ => trivial, list_round hQ ls _ _ hd.2 h⟩

theorem region_round {P : Program} {id : Nat} {ls : List Oper} {Q : Exit → Act → World → Prop} {a : Act} {w : World} {l n : Nat} (hd : ls.all noDefer = true) (hQ : ¬ LetsOut Q) (h : wpList P ls.toArray Q ls a w) : (Code.region id ls.toArray false).wpIn (Fence.wide.inRound l) n P Q a w :=
  wpIn_region_lit (list_round hQ ls a w hd h)

theorem any_round {P : Program} {md : Region.Mode} {ops : Array Oper} {Q : Exit → Act → World → Prop} {l n : Nat} (hQ : ¬ LetsOut Q) (hd : ops.toList.all noDefer = true) : ∀ (fuel : Nat) (listed : Array Bool) (a : Act) (w : World), wpAny P md ops Q fuel listed a w → wpAnyIn (Fence.wide.inRound l) n P md ops Q fuel listed a w
  | 0, listed, a, w, h => h
  | fuel + 1, listed, a, w, h => ⟨h.1, fun i hi => by
      have h2 := h.2 i hi
      unfold wpOpIn
      unfold wpOp at h2
      cases ho : ops[i]? with
      | none => simp only [ho] at h2 ⊢; exact any_round hQ hd fuel _ _ _ h2
      | some o =>
        have hdo : noDefer o = true := (List.all_eq_true.1 hd) o (by
          have := Array.mem_of_getElem? ho
          exact Array.mem_toList_iff.2 this)
        simp only [ho] at h2 ⊢
        split
        · rename_i hw
          rw [if_pos hw] at h2
          rcases h2 with h2 | ⟨_, h2⟩
          · exact op_round hdo (Oper.wp_mono (fun a w h => any_round hQ hd fuel _ a w h) h2)
          · exact absurd h2 hQ
        · rename_i hw
          rw [if_neg hw] at h2
          exact ⟨fun _ _ => trivial, any_round hQ hd fuel _ _ _ h2⟩⟩

theorem region_round_later {P : Program} {id : Nat} {Q : Exit → Act → World → Prop} {a : Act} {w : World} {ls : List Oper} {l n : Nat} (hm : P.follows .mixedOrders = true) (hB : Region.lexB .any ls.toArray = true) (hd : ls.all noDefer = true) (hQ : ¬ LetsOut Q)
    (h : wpQuiet P ls.toArray (fun w' => ∃ p : Draw.Later w, w' = p.v) (fun a' => ∀ w', (∃ p : Draw.Later w, w' = p.v) → Q .normal a' w') ls a) : (Code.region id ls.toArray true).wpIn (Fence.wide.inRound l) n P Q a w := by
  simp only [Region.lexB, Bool.and_eq_true] at hB
  refine wpIn_region_any hm (any_round hQ (by simpa using hd) _ _ _ _ (wpAny_of_quiet (C := fun w' => ∃ p : Draw.Later w, w' = p.v) (Q := fun a' => ∀ w', (∃ p : Draw.Later w, w' = p.v) → Q .normal a' w') (fun _ w' hw' h => h w' hw') _ _ _ _ ⟨⟨w.drew, (Below.refl _ _).drew⟩, rfl⟩ ?_))
  have := wpAnyQ_lex (C := fun w' => ∃ p : Draw.Later w, w' = p.v) (md := .any) hB.1 ls.toArray.toList 0 (Array.replicate ls.toArray.size false) a (by simp) (by simpa using hB.2) (by simpa using h)
  simpa using this

def Gives {α : Type} (P : Program) (g : Nat) (lb : Array Value) (encs : α → Array Value) (xs : List α) (mine : Nat → Obj → Prop) (w : World) : Prop :=
  ∀ (l : Nat) (J : Nat → World → Prop) (Jx : World → Prop) (W : World), Below w.heap.size w W → w.heap.size + 2 ≤ W.heap.size →
    (∀ i A B, J i A → Std W.heap.size A B → J i B) → (∀ A B, Jx A → Std W.heap.size A B → Jx B) →
    (∀ i x W1, xs[i]? = some x → J i W1 → YieldAt Fence.wide 0 P l (encs x) W1 fun e W' => (e = .returned (.bool true) ∧ J (i + 1) W' ∧ Chg mine W1 W') ∨ (e = .returned (.bool false) ∧ Jx W' ∧ Chg mine W1 W')) →
    J 0 W → CallsIn Fence.wide 0 P g (#[.func (.yield l) #[] #[]] ++ lb) W fun e W' => (∃ v, e = .returned v) ∧ (J xs.length W' ∨ Jx W')

def left (mb : Nat → Obj → Prop) (I : Nat → World → Prop) (Ix : Code → World → Prop) (i : Nat) (W : World) : Exit → Act → World → Prop
  | .normal, _, W' => Chg mb W W' ∧ I (i + 1) W'
  | .ret, _, W' => Chg mb W W' ∧ Ix .ret W'
  | .exit id, _, W' => Chg mb W W' ∧ Ix (.exit id) W'
  | .goto t, _, W' => Chg mb W W' ∧ Ix (.goto t) W'
  | .panic _, _, _ => False
  | .outgrown, _, _ => False
theorem wp_range {α : Type} {P : Program} {g : Operand} {ps : Array Tmp} {assign body : Code} {Q : Exit → Act → World → Prop} {a : Act} {w : World} {gf : Nat} {lb : Array Value}
    (hg : a.eval g = .func (.func gf) #[] lb) (eg : ∀ args w, (callFunc gf args).run P w = .ok (.enter gf args) w)
    {encs : α → Array Value} {xs : List α} {mb : Nat → Obj → Prop} (hseq : Gives P gf lb encs xs (fun k o => mb k o ∨ (k = w.heap.size + 1 ∧ o.isCells = false)) w)
    (hmb : ∀ o, o.isCells = false → ¬ mb w.heap.size o ∧ ¬ mb (w.heap.size + 1) o) (hps : ∀ x, (encs x).size = ps.size)
    (I : Nat → World → Prop) (Ix : Code → World → Prop) (hI : ∀ i A B, I i A → Std (w.heap.size + 1) A B → I i B) (hIx : ∀ c A B, Ix c A → Std (w.heap.size + 1) A B → Ix c B)
    (h0 : I 0 w) (Ax : α → World → Act → World → Prop) (hAx : ∀ x W a' A B, Ax x W a' A → Std (w.heap.size + 1) A B → Ax x W a' B)
    (hassign : ∀ (i : Nat) (x : α) (W : World), xs[i]? = some x → I i W → w.heap.size + 2 ≤ W.heap.size →
      assign.wpIn (Fence.wide.inRound (w.heap.size + 1)) 0 P (Exit.then (fun a' W' => Ax x W a' W' ∧ Below W.heap.size W W') (fun _ _ _ => False)) { tmps := (ps.zip (encs x)).foldl (fun t (p, v) => t.setIfInBounds p v) a.tmps, defers := [] } W)
    (hbody : ∀ (i : Nat) (x : α) (a' : Act) (W0 W : World), xs[i]? = some x → I i W → Ax x W0 a' W → w.heap.size + 2 ≤ W0.heap.size → W0.heap.size ≤ W.heap.size → body.wpIn (Fence.wide.inRound (w.heap.size + 1)) 0 P (left mb I Ix i W) a' W)
    (hdone : ∀ (W : World), I xs.length W → W.heap[w.heap.size]? = some (.deferred (some [])) → Q .normal { a with defers := { target := .collected w.heap.size, args := #[] } :: a.defers } W)
    (hstop : ∀ (c : Code) (W : World), Ix c W → W.heap[w.heap.size]? = some (.deferred (some [])) → c.wpIn Fence.wide 0 P Q { a with defers := { target := .collected w.heap.size, args := #[] } :: a.defers } W) :
    (Code.rangeFunc g ps assign body).wpIn Fence.wide 0 P Q a w := by
  refine wpIn_rangeFunc ?_
  intro fn hfn
  obtain ⟨rec, hrec⟩ : ∃ rec : LoopState → Option Code → Loop, rec = fun st pe => { state := st, pending := pe, fn, tmps := a.tmps, params := ps, assign, body, defers := w.heap.size } := ⟨_, rfl⟩
  obtain ⟨W1, hW1⟩ : ∃ W1, (w.alloc (.deferred (some []))).alloc (.loop (rec .ready none)) = W1 := ⟨_, rfl⟩
  have hs1 : W1.heap.size = w.heap.size + 2 := by rw [← hW1]; simp
  have hB1 : Below w.heap.size w W1 := by rw [← hW1]; exact ((Below.refl _ w).alloc (Nat.le_refl _) _).alloc (by simp) _
  have hL1 : W1.heap[w.heap.size + 1]? = some (.loop (rec .ready none)) := by
    rw [← hW1]
    have e := World.alloc_heap_new (w.alloc (.deferred (some []))) (.loop (rec .ready none))
    rwa [World.size_alloc] at e
  have hD1 : W1.heap[w.heap.size]? = some (.deferred (some [])) := by
    rw [← hW1]
    exact (Below.heap_alloc _ _ _ (by simp)).trans (World.alloc_heap_new w _)
  have hnl : ∀ (k : Nat) (o : Obj), (W1.heap.size ≤ k ∧ o.isCells = false) → (w.heap.size + 1 ≤ k ∧ o.isCells = false) := fun k o h => ⟨by omega, h.2⟩
  refine ⟨w.heap.size + 1, [{ target := .collected w.heap.size, args := #[] }], W1, { target := .fn (.func gf) lb, args := #[.func (.yield (w.heap.size + 1)) #[] #[]] }, W1, gf, #[.func (.yield (w.heap.size + 1)) #[] #[]] ++ lb, W1, ?_, ?_, ?_, ?_, ?_, ?_⟩
  · rw [← hW1, hrec]; exact run_enterLoop_outer _ _ _ _ _
  · simp only [resolve, hg]
    simp [go_sem]
  · intro _ _; trivial
  · simp [invoke, go_sem, eg]
  · intro h; cases h
  have rec_cells : ∀ r : Loop, (Obj.loop r).isCells = false := fun _ => rfl
  refine (hseq (w.heap.size + 1) (fun i W => I i W ∧ W.heap[w.heap.size + 1]? = some (.loop (rec .ready none)) ∧ W.heap[w.heap.size]? = some (.deferred (some [])))
    (fun W => ∃ c, Ix c W ∧ W.heap[w.heap.size + 1]? = some (.loop (rec .done (some c))) ∧ W.heap[w.heap.size]? = some (.deferred (some []))) W1 hB1 (by omega) ?_ ?_ ?_ ⟨hI 0 _ _ h0 (Chg.later hB1), hL1, hD1⟩).mono ?_
  · rintro i A B ⟨h1, h2, h3⟩ hs
    exact ⟨hI i _ _ h1 (hs.mono hnl), hs.same _ _ h2 (fun e => by omega), hs.same _ _ h3 (fun e => by omega)⟩
  · rintro A B ⟨c, h1, h2, h3⟩ hs
    exact ⟨c, hIx c _ _ h1 (hs.mono hnl), hs.same _ _ h2 (fun e => by omega), hs.same _ _ h3 (fun e => by omega)⟩
  · rintro i x W hx ⟨hi, hl, hd⟩
    have hsz : w.heap.size + 2 ≤ W.heap.size := by have := lt_some hl; omega
    have hy := run_yield (P := P) (args := encs x) hl (by rw [hrec]; exact hps x)
    rw [hrec] at hy
    refine ⟨fn, _, assign, body, hy, roundIn_of_wpIn trivial (wpIn_mono (hassign i x W hx hi hsz) ?_)⟩
    intro e a' Wa he
    cases e with
    | normal =>
      obtain ⟨hax, hba⟩ := he
      have hla := (hba.block _ (lt_some hl)).trans hl
      have hda := (hba.block _ (lt_some hd)).trans hd
      refine ⟨_, run_beginRound hla (by rw [hrec]), ?_⟩
      obtain ⟨W2, hW2⟩ : ∃ W2, Wa.putObj (w.heap.size + 1) (.loop { rec .ready none with state := .busy }) = W2 := ⟨_, rfl⟩
      rw [hW2]
      have hl2 : W2.heap[w.heap.size + 1]? = some (.loop { rec .ready none with state := .busy }) := by rw [← hW2]; exact World.putObj_heap_same (lt_some hla)
      have hd2 : W2.heap[w.heap.size]? = some (.deferred (some [])) := by rw [← hW2]; exact (World.putObj_heap_other (by omega)).trans hda
      have c2 : Std (w.heap.size + 1) Wa W2 := by rw [← hW2]; exact Chg.put _ hla ⟨Nat.le_refl _, rfl⟩
      have m2 : Chg (fun k o => mb k o ∨ (k = w.heap.size + 1 ∧ o.isCells = false)) Wa W2 := by rw [← hW2]; exact Chg.put _ hla (.inr ⟨rfl, rfl⟩)
      have i2 := hI i _ _ (hI i _ _ hi (Chg.later hba)) c2
      have hs2 : W.heap.size ≤ W2.heap.size := Nat.le_trans hba.size m2.size
      refine wpIn_mono (hbody i x a' W W2 hx i2 (hAx _ _ _ _ _ hax c2) hsz hs2) ?_
      have fin : ∀ (jump : Option Code) (W3 : World), Chg mb W2 W3 →
          (Instr.endRound (w.heap.size + 1) jump).run P W3 = .ok (.bool jump.isNone) (W3.putObj (w.heap.size + 1) (.loop (rec (if jump.isNone then .ready else .done) jump))) ∧
          Std (w.heap.size + 1) W3 (W3.putObj (w.heap.size + 1) (.loop (rec (if jump.isNone then .ready else .done) jump))) ∧
          (W3.putObj (w.heap.size + 1) (.loop (rec (if jump.isNone then .ready else .done) jump))).heap[w.heap.size + 1]? = some (.loop (rec (if jump.isNone then .ready else .done) jump)) ∧
          (W3.putObj (w.heap.size + 1) (.loop (rec (if jump.isNone then .ready else .done) jump))).heap[w.heap.size]? = some (.deferred (some [])) ∧
          Chg (fun k o => mb k o ∨ (k = w.heap.size + 1 ∧ o.isCells = false)) W3 (W3.putObj (w.heap.size + 1) (.loop (rec (if jump.isNone then .ready else .done) jump))) := fun jump W3 hc => by
        have hl3 := hc.same _ _ hl2 (hmb _ rfl).2
        have hd3 := hc.same _ _ hd2 (hmb _ rfl).1
        have e := run_endRound (P := P) jump hl3
        rw [hrec] at e hl3 ⊢
        exact ⟨e, Chg.put _ hl3 ⟨Nat.le_refl _, rfl⟩, World.putObj_heap_same (lt_some hl3), (World.putObj_heap_other (by omega)).trans hd3, Chg.put _ hl3 (.inr ⟨rfl, rfl⟩)⟩
      rintro e a3 W3 hp
      cases e with
      | normal =>
        obtain ⟨hc, hi3⟩ := hp
        obtain ⟨f1, f2, f3, f4, f5⟩ := fin none W3 hc
        exact ⟨_, _, f1, .inl ⟨rfl, ⟨hI _ _ _ hi3 f2, f3, f4⟩, ((Chg.later hba).trans m2).trans ((hc.mono (fun k o => .inl)).trans f5)⟩⟩
      | ret =>
        obtain ⟨hc, hi3⟩ := hp
        obtain ⟨f1, f2, f3, f4, f5⟩ := fin (some .ret) W3 hc
        exact ⟨_, _, f1, .inr ⟨rfl, ⟨.ret, hIx _ _ _ hi3 f2, f3, f4⟩, ((Chg.later hba).trans m2).trans ((hc.mono (fun k o => .inl)).trans f5)⟩⟩
      | exit id =>
        obtain ⟨hc, hi3⟩ := hp
        obtain ⟨f1, f2, f3, f4, f5⟩ := fin (some (.exit id)) W3 hc
        exact ⟨_, _, f1, .inr ⟨rfl, ⟨.exit id, hIx _ _ _ hi3 f2, f3, f4⟩, ((Chg.later hba).trans m2).trans ((hc.mono (fun k o => .inl)).trans f5)⟩⟩
      | goto t =>
        obtain ⟨hc, hi3⟩ := hp
        obtain ⟨f1, f2, f3, f4, f5⟩ := fin (some (.goto t)) W3 hc
        exact ⟨_, _, f1, .inr ⟨rfl, ⟨.goto t, hIx _ _ _ hi3 f2, f3, f4⟩, ((Chg.later hba).trans m2).trans ((hc.mono (fun k o => .inl)).trans f5)⟩⟩
      | panic ch => exact hp.elim
      | outgrown => exact hp.elim
    | ret => exact he.elim
    | exit id => exact he.elim
    | goto t => exact he.elim
    | panic ch => exact he.elim
    | outgrown => exact he.elim
  · rintro e W2 ⟨⟨v, rfl⟩, ⟨hi, hl, hd⟩ | ⟨c, hi, hl, hd⟩⟩
    · have e := run_endLoop (P := P) hl (by rw [hrec]; simp)
      rw [hrec] at e hl
      exact ⟨none, _, e, hdone _ (hI _ _ _ hi (Chg.put _ hl ⟨Nat.le_refl _, rfl⟩)) ((World.putObj_heap_other (by omega)).trans hd)⟩
    · have e := run_endLoop (P := P) hl (by rw [hrec]; simp)
      rw [hrec] at e hl
      exact ⟨some c, _, e, hstop c _ (hIx _ _ _ hi (Chg.put _ hl ⟨Nat.le_refl _, rfl⟩)) ((World.putObj_heap_other (by omega)).trans hd)⟩

theorem ret_marks {P : Program} {fn : Func} {R : Ending → World → Prop} {tmps : Array Value} {D : Nat} {W : World} (v : Value) (hK : W.heap[D]? = some (.deferred (some []))) (hres : (results fn tmps).run P (W.putObj D (.deferred none)) = .ok v (W.putObj D (.deferred none)))
    (hR : R (.returned v) (W.putObj D (.deferred none))) : bodyPostM Fence.wide 0 P fn R .ret { tmps, defers := [{ target := .collected D, args := #[] }] } W :=
  ⟨by simp, .inl ⟨_, _, rfl, run_takeDeferred hK, ⟨v, hres, hR⟩⟩⟩
theorem end_marks {P : Program} {fn : Func} {R : Ending → World → Prop} {tmps : Array Value} {D : Nat} {W : World} (v : Value) (hK : W.heap[D]? = some (.deferred (some []))) (hres : (results fn tmps).run P (W.putObj D (.deferred none)) = .ok v (W.putObj D (.deferred none)))
    (hR : R (.returned v) (W.putObj D (.deferred none))) : bodyPostM Fence.wide 0 P fn R .normal { tmps, defers := [{ target := .collected D, args := #[] }] } W :=
  ⟨by simp, .inl ⟨_, _, rfl, run_takeDeferred hK, ⟨v, hres, hR⟩⟩⟩
theorem var_put {T : TypeId} {W : World} {k D : Nat} {vs : List Value} {o : Obj} (h : Var T W k vs) (hk : k ≠ D) : Var T (W.putObj D o) k vs := (World.putObj_heap_other hk).trans h
theorem below_put {B D : Nat} {w W : World} {o : Obj} (h : Below B w W) (hD : B ≤ D) : Below B w (W.putObj D o) :=
  ⟨h.os, h.tape, h.output, by simpa using h.size, fun k hk => (World.putObj_heap_other (by omega)).trans (h.block k hk)⟩
theorem heap_cell {W : World} {p : Addr} {v : Value} {D : Nat} {o : Obj} (h : W.heap[D]? = some o) (hp : p.block ≠ D) : (W.setCell p v).heap[D]? = some o := (Below.heap_setCell _ _ _ _ (fun e => hp e.symm)).trans h

end Go.Proofs.YtjnkjeajkmgcmaaGreat.Rng

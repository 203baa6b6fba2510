/- A struct that is stored into, or loaded from, a window of a block, as one step: the world behind it under one name. Plain, of every program. -/
import Derived.Test.YtldghgadkncehaaWin
import Derived.Laws.IdiomCopy
namespace Go.Proofs.Ytldghgadkncehaa.RowG
open Go.RowKit
set_option linter.unusedVariables false
set_option linter.unusedSimpArgs false

theorem win_part {T : TypeId} {k : Nat} : ∀ (vs : List Value) (o : Nat) (w : World) (p m q : List Value), Var T w k (p ++ m ++ q) → p.length = o → m.length = vs.length → Var T (w.setCells k o vs) k (p ++ vs ++ q)
  | [], o, w, p, m, q, h, hp, hm => by
    have : m = [] := List.eq_nil_of_length_eq_zero hm
    subst this
    exact h
  | v :: vs, o, w, p, m, q, h, hp, hm => by
    cases m with
    | nil => simp at hm
    | cons u m =>
      have h1 := h.set o v
      have e : (p ++ u :: m ++ q).set o v = (p ++ [v]) ++ m ++ q := by
        subst hp
        simp
      rw [e] at h1
      have := win_part vs (o + 1) _ (p ++ [v]) m q h1 (by simp [hp]) (by simpa using hm)
      simpa [World.setCells] using this
theorem kept_cells {k : Nat} {w0 : World} : ∀ (vs : List Value) (o : Nat) (w : World), Draw.Kept k w0 w → Draw.Kept k w0 (w.setCells k o vs)
  | [], _, _, h => h
  | v :: vs, o, w, h => kept_cells vs (o + 1) _ (h.setCell (p := ⟨k, o, none⟩) (.inl rfl) v)
variable {P : Program} {T T0 : TypeId} {pre post : List Value} {o : Nat}
theorem run_store_win {w : World} {k : Nat} {old vs : List Value} (hi : (P.info? T).map (·.size) = some vs.length) (hw : Win T0 pre post o w k old) (hl : old.length = vs.length) (h1 : ∀ v ∈ vs, v.oneCell' = true) :
    ∃ w', (Instr.storeAt T (.pointer (some ⟨k, o, none⟩)) (.agg vs.toArray)).run P w = .ok () w' ∧ Win T0 pre post o w' k vs ∧ Draw.Kept k w w' := by
  obtain ⟨i, hi, hs⟩ : ∃ i, P.info? T = some i ∧ i.size = vs.length := by
    cases h : P.info? T with
    | none => rw [h] at hi; cases hi
    | some i => rw [h] at hi; exact ⟨i, rfl, by simpa using hi⟩
  have hst := run_storeCells_cells (P := P) k o vs 0 w (fun j hj => by
      rw [Nat.add_zero, hw.cell (i := j) (List.getElem?_eq_getElem (by omega))]; rfl) (fun j _ => by rw [Nat.add_zero]; exact hw.free j) h1
  rw [Nat.add_zero] at hst
  refine ⟨w.setCells k o vs, ?_, ⟨hw.len, win_part vs o w pre old post hw.var hw.len hl⟩, kept_cells vs o w (Draw.Kept.refl _ _)⟩
  simp [Instr.storeAt, storeVar, Instr.sureAddr, asAddr, sizeOf, typeInfo, hi, hs, Value.cells, hst, Result.andThen]
theorem run_load_win {w : World} {k : Nat} {vs : List Value} (hi : (P.info? T).map (·.size) = some vs.length) (hu : ∃ fs, P.underlying T = some (.struct fs)) (hw : Win T0 pre post o w k vs) :
    (Instr.loadAt T (.pointer (some ⟨k, o, none⟩))).run P w = .ok (.agg vs.toArray) w := by
  obtain ⟨i, hi, hs⟩ : ∃ i, P.info? T = some i ∧ i.size = vs.length := by
    cases h : P.info? T with
    | none => rw [h] at hi; cases hi
    | some i => rw [h] at hi; exact ⟨i, rfl, by simpa using hi⟩
  obtain ⟨fs, hu⟩ := hu
  have hld := run_loadCells_list (P := P) (w := w) ⟨k, o, none⟩ vs (fun j v hv => by rw [add_lit]; exact hw.cell hv)
  simp [Instr.loadAt, loadVar, Instr.sureAddr, asAddr, isAgg, run_underlying hu, sizeOf, typeInfo, hi, hs, hld, Result.andThen]
theorem wp_store_win {w : World} {op : Oper} {a : Act} {K : Act → World → Prop} {Q : Exit → Act → World → Prop} (p x : Operand) (ho : op.op = .store T p x) {k : Nat} {old vs : List Value} (hp : a.eval p = .pointer (some ⟨k, o, none⟩)) (hx : a.eval x = .agg vs.toArray)
    (hi : (P.info? T).map (·.size) = some vs.length) (hw : Win T0 pre post o w k old) (hl : old.length = vs.length) (h1 : ∀ v ∈ vs, v.oneCell' = true) (h : ∀ w', Win T0 pre post o w' k vs → Draw.Kept k w w' → K (a.put op.dst undef) w') : op.wp P a w K Q := by
  obtain ⟨w', hr, h2, h3⟩ := run_store_win (P := P) (T := T) hi hw hl h1
  unfold Oper.wp
  simp [execOp, ho, hp, hx, hr, Result.andThen, Oper.upon]
  exact h w' h2 h3
theorem wp_load_win {w : World} {op : Oper} {a : Act} {K : Act → World → Prop} {Q : Exit → Act → World → Prop} (p : Operand) (ho : op.op = .load T p) {k : Nat} {vs : List Value} (hp : a.eval p = .pointer (some ⟨k, o, none⟩))
    (hi : (P.info? T).map (·.size) = some vs.length) (hu : ∃ fs, P.underlying T = some (.struct fs)) (hw : Win T0 pre post o w k vs) (h : K (a.put op.dst (.agg vs.toArray)) w) : op.wp P a w K Q := by
  have hr := run_load_win (P := P) (T := T) hi hu hw
  unfold Oper.wp
  simp [execOp, ho, hp, hr, Result.andThen, Oper.upon]
  exact h

theorem step_store_win {w : World} {op : Oper} {a : Act} {K : Act → World → Prop} {Q : Exit → Act → World → Prop} {X : Prop} {ops : Array Oper} (hgd : op.guard = none) (p x : Operand) (ho : op.op = .store T p x) {k : Nat} {old vs : List Value} (hp : a.eval p = .pointer (some ⟨k, o, none⟩)) (hx : a.eval x = .agg vs.toArray)
    (hi : (P.info? T).map (·.size) = some vs.length) (hw : Win T0 pre post o w k old) (hl : old.length = vs.length) (h1 : ∀ v ∈ vs, v.oneCell' = true) (h : ∀ w', Win T0 pre post o w' k vs → Draw.Kept k w w' → K (a.put op.dst undef) w') : if Region.wanted op (yielded ops a.tmps) = true then Oper.wp P op a w K Q else X := by
  rw [if_pos (by simp [Region.wanted, hgd])]
  exact wp_store_win p x ho hp hx hi hw hl h1 h
theorem step_load_win {w : World} {op : Oper} {a : Act} {K : Act → World → Prop} {Q : Exit → Act → World → Prop} {X : Prop} {ops : Array Oper} (hgd : op.guard = none) (p : Operand) (ho : op.op = .load T p) {k : Nat} {vs : List Value} (hp : a.eval p = .pointer (some ⟨k, o, none⟩))
    (hi : (P.info? T).map (·.size) = some vs.length) (hu : ∃ fs, P.underlying T = some (.struct fs)) (hw : Win T0 pre post o w k vs) (h : K (a.put op.dst (.agg vs.toArray)) w) : if Region.wanted op (yielded ops a.tmps) = true then Oper.wp P op a w K Q else X := by
  rw [if_pos (by simp [Region.wanted, hgd])]
  exact wp_load_win p ho hp hi hu hw h
theorem wpList_store_win {w : World} {ops : Array Oper} {rest : List Oper} {op : Oper} {a : Act} {Q : Exit → Act → World → Prop} (hgd : op.guard = none) (p x : Operand) (ho : op.op = .store T p x) {k : Nat} {old vs : List Value} (hp : a.eval p = .pointer (some ⟨k, o, none⟩)) (hx : a.eval x = .agg vs.toArray)
    (hi : (P.info? T).map (·.size) = some vs.length) (hw : Win T0 pre post o w k old) (hl : old.length = vs.length) (h1 : ∀ v ∈ vs, v.oneCell' = true) (h : ∀ w', Win T0 pre post o w' k vs → Draw.Kept k w w' → wpList P ops Q rest (a.put op.dst undef) w') : wpList P ops Q (op :: rest) a w :=
  wpList_plain hgd fun _ hK => wp_store_win p x ho hp hx hi hw hl h1 fun w' h1 h2 => hK _ _ (h w' h1 h2)
theorem wpList_load_win {w : World} {ops : Array Oper} {rest : List Oper} {op : Oper} {a : Act} {Q : Exit → Act → World → Prop} (hgd : op.guard = none) (p : Operand) (ho : op.op = .load T p) {k : Nat} {vs : List Value} (hp : a.eval p = .pointer (some ⟨k, o, none⟩))
    (hi : (P.info? T).map (·.size) = some vs.length) (hu : ∃ fs, P.underlying T = some (.struct fs)) (hw : Win T0 pre post o w k vs) (h : wpList P ops Q rest (a.put op.dst (.agg vs.toArray)) w) : wpList P ops Q (op :: rest) a w :=
  wpList_plain hgd fun _ hK => wp_load_win p ho hp hi hu hw (hK _ _ h)
theorem run_load_cells {w : World} {k : Nat} {vs : List Value} (hi : (P.info? T).map (·.size) = some vs.length) (hu : ∃ fs, P.underlying T = some (.struct fs)) (hw : ∀ j v, vs[j]? = some v → w.cell? ⟨k, o + j, none⟩ = some v) :
    (Instr.loadAt T (.pointer (some ⟨k, o, none⟩))).run P w = .ok (.agg vs.toArray) w := by
  obtain ⟨i, hi, hs⟩ : ∃ i, P.info? T = some i ∧ i.size = vs.length := by
    cases h : P.info? T with
    | none => rw [h] at hi; cases hi
    | some i => rw [h] at hi; exact ⟨i, rfl, by simpa using hi⟩
  obtain ⟨fs, hu⟩ := hu
  have hld := run_loadCells_list (P := P) (w := w) ⟨k, o, none⟩ vs (fun j v hv => by rw [add_lit]; exact hw j v hv)
  simp [Instr.loadAt, loadVar, Instr.sureAddr, asAddr, isAgg, run_underlying hu, sizeOf, typeInfo, hi, hs, hld, Result.andThen]
theorem step_load_cells {w : World} {op : Oper} {a : Act} {K : Act → World → Prop} {Q : Exit → Act → World → Prop} {X : Prop} {ops : Array Oper} (hgd : op.guard = none) (p : Operand) (ho : op.op = .load T p) {k : Nat} {vs : List Value} (hp : a.eval p = .pointer (some ⟨k, o, none⟩))
    (hi : (P.info? T).map (·.size) = some vs.length) (hu : ∃ fs, P.underlying T = some (.struct fs)) (hw : ∀ j v, vs[j]? = some v → w.cell? ⟨k, o + j, none⟩ = some v) (h : K (a.put op.dst (.agg vs.toArray)) w) : if Region.wanted op (yielded ops a.tmps) = true then Oper.wp P op a w K Q else X := by
  rw [if_pos (by simp [Region.wanted, hgd])]
  have hr := run_load_cells (P := P) (T := T) hi hu hw
  unfold Oper.wp
  simp [execOp, ho, hp, hr, Result.andThen, Oper.upon]
  exact h
theorem El.Lies.cells {α : Type} {E : El α} {w : World} {b off : Nat} {l : List α} (h : E.Lies w (some ⟨b, off, Option.none⟩) l) {i : Nat} {x : α} (hx : l[i]? = some x) : ∀ j v, (E.enc x)[j]? = some v → w.cell? ⟨b, off + i * E.size + j, Option.none⟩ = some v := by
  intro j v hv
  rcases h with h | ⟨b', off', he, h⟩
  · subst h; simp at hx
  · cases he
    rw [Nat.add_assoc]
    exact El.Lies.cell h hx hv

end Go.Proofs.Ytldghgadkncehaa.RowG

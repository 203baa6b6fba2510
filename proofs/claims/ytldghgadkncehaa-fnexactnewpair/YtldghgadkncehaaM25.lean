/- Contracts of this seat's functions, and their mathematics (RoaB Mem). -/
import Derived.Test.YtldghgadkncehaaM24
import Derived.Test.YtldghgadkncehaaM5
import Derived.Laws.IdiomCopy
set_option linter.unusedVariables false
set_option linter.unusedSimpArgs false
set_option maxHeartbeats 1000000
namespace Go.Proofs.Ytldghgadkncehaa.Roa
open Go.RowKit RowG
/-- Is there a road r? -/
def hasB (l : List Rd) (r : Int) : Bool := decide (0 ≤ r ∧ r < (l.length : Int))
def turnB (l : List Rd) (r : Int) (o : Bool) : Bool := roadsB l && (hasB l r && ((at' l r.toNat).op != o))
def turnL (l : List Rd) (r : Int) (o : Bool) : List Rd := if roadsB l then (if turnB l r o then l.set r.toNat { at' l r.toNat with op := o } else l) else []
def usedB (l : List Rd) (r : Int) : Bool := roadsB l && (hasB l r && ((at' l r.toNat).se != 1000000000))
def usedR (x : Rd) (lost : Bool) : Rd := ⟨x.op, x.co, x.se + 1, if lost then x.lo + 1 else x.lo⟩
def usedL (l : List Rd) (r : Int) (lost : Bool) : List Rd := if roadsB l then (if usedB l r then l.set r.toNat (usedR (at' l r.toNat) lost) else l) else []
/-- The numbers of those that are open, rising. -/
def openN : Nat → List Rd → List Int
  | _, [] => []
  | k, x :: l => if x.op then (k : Int) :: openN (k + 1) l else openN (k + 1) l
def openL (l : List Rd) : List Int := if roadsB l then openN 0 l else []
theorem openN_append : ∀ (l l' : List Rd) (k : Nat), openN k (l ++ l') = openN k l ++ openN (k + l.length) l'
  | [], l', k => by simp [openN]
  | x :: l, l', k => by
    have := openN_append l l' (k + 1)
    simp only [List.cons_append, openN, List.length_cons]
    rw [this, show k + 1 + l.length = k + (l.length + 1) by omega]
    split <;> simp
theorem take_at {l : List Rd} {k : Nat} (h : k < l.length) : l.take (k + 1) = l.take k ++ [at' l k] := by
  rw [List.take_add_one, at_some h]
  rfl
theorem openN_step {l : List Rd} {k : Nat} (h : k < l.length) : openN 0 (l.take (k + 1)) = openN 0 (l.take k) ++ (if (at' l k).op then [(k : Int)] else []) := by
  rw [take_at h, openN_append, List.length_take, Nat.min_eq_left (by omega)]
  simp [openN]
theorem openN_len : ∀ (l : List Rd) (k : Nat), (openN k l).length ≤ l.length
  | [], k => by simp [openN]
  | x :: l, k => by
    have := openN_len l (k + 1)
    simp only [openN, List.length_cons]
    split
    · simp only [List.length_cons]; omega
    · omega
/-- A row of numbers. -/
def EI : El Int where
  enc n := [.int .i64 n]
  size := 1
  len _ := rfl
  one x u hu := by simp at hu; rw [hu]; rfl
  pos := by decide
theorem infoInt : (Try.prog.info? 2).map (fun i => (i.zero, i.size, i.bytes)) = some (some (.int .i64 0), 1, 8) := by kernel_rfl
theorem tyI : Typ Try.prog 46 2 EI 8 := ⟨Try.underlying46, by
  obtain ⟨i, hi, h0, h1, h2⟩ := info_parts infoInt
  exact ⟨i, _, hi, h0, h1, h2, rfl⟩⟩
def OwnI (w : World) (B g c : Nat) (l : List Int) : Prop := EI.Own 2 w B (some ⟨g, 0, none⟩) c l
theorem ownI_empty (w : World) : EI.Own 2 (w.alloc (.cells #[] 2)) w.heap.size (some ⟨w.heap.size, 0, none⟩) 0 [] := El.Own.made w
theorem tne : (2 : Nat) ≠ 97 := by decide
theorem tne' : (97 : Nat) ≠ 2 := by decide
theorem l10Copy (a : Option Addr) (n cap : Nat) (l : List Rd) (w : World) (hn : n = l.length) (h : E.Lies w a l) (ha : a = none → cap = 0) (hl : l.length ≤ 2097152) :
    Calls Try.prog 59 #[.slice a n cap] w fun x w' => ∃ g c, x = .returned (.slice (some ⟨g, 0, none⟩) l.length c) ∧ Own w' w.heap.size g c l ∧ Below w.heap.size w w' := by
  subst hn
  have b0 : Below w.heap.size w (w.alloc (.cells #[] 97)) := (Below.refl _ _).alloc (Nat.le_refl _) _
  have o0 := own_empty w
  have L0 := h.alloc (.cells #[] 97)
  have n0 : w.heap.size ≤ (w.alloc (.cells #[] 97)).heap.size := b0.size
  go_enter Try.func59, Try.ntmps59
  go_wp2_with (at_builtin; refine wpList_appS ty (by decide) (by rfl) _ _ (by rfl) w.heap.size w.heap.size 0 0 [] l rfl (by rfl) o0 n0 a _ cap rfl (by rfl) L0 ha (by simp only [List.length_nil]; omega) ?_; intro g1 c1 w3 o3 gr3)
  have b3 : Below w.heap.size w w3 := grown_below b0 (Nat.le_refl _) (fun j hj => by cases hj; exact Nat.le_refl _) gr3
  go_ret
  exact ⟨g1, c1, rfl, o3, b3⟩
theorem put4 {w : World} {B g c : Nat} {l : List Rd} (h : Own w B g c l) {k : Nat} (hk : k < l.length) (y : Rd) :
    Own ((((w.setCell ⟨g, k * 4, none⟩ (.bool y.op)).setCell ⟨g, k * 4 + 1, none⟩ (.int .i64 y.co)).setCell ⟨g, k * 4 + 2, none⟩ (.int .i64 y.se)).setCell ⟨g, k * 4 + 3, none⟩ (.int .i64 y.lo)) B g c (l.set k y) := by
  have h0 := at_some hk
  generalize at' l k = x at h0
  have s0 : Own (w.setCell ⟨g, k * 4 + 0, none⟩ (.bool y.op)) B g c (l.set k ⟨y.op, x.co, x.se, x.lo⟩) := El.Own.put (E := E) h h0 (j := 0) (by decide) rfl
  rw [Nat.add_zero] at s0
  have g1 : (l.set k ⟨y.op, x.co, x.se, x.lo⟩)[k]? = some ⟨y.op, x.co, x.se, x.lo⟩ := by simp [hk]
  have s1 : Own ((w.setCell ⟨g, k * 4, none⟩ (.bool y.op)).setCell ⟨g, k * 4 + 1, none⟩ (.int .i64 y.co)) B g c ((l.set k ⟨y.op, x.co, x.se, x.lo⟩).set k ⟨y.op, y.co, x.se, x.lo⟩) := El.Own.put (E := E) s0 g1 (j := 1) (by decide) rfl
  rw [List.set_set] at s1
  have g2 : (l.set k ⟨y.op, y.co, x.se, x.lo⟩)[k]? = some ⟨y.op, y.co, x.se, x.lo⟩ := by simp [hk]
  have s2 : Own (((w.setCell ⟨g, k * 4, none⟩ (.bool y.op)).setCell ⟨g, k * 4 + 1, none⟩ (.int .i64 y.co)).setCell ⟨g, k * 4 + 2, none⟩ (.int .i64 y.se)) B g c ((l.set k ⟨y.op, y.co, x.se, x.lo⟩).set k ⟨y.op, y.co, y.se, x.lo⟩) := El.Own.put (E := E) s1 g2 (j := 2) (by decide) rfl
  rw [List.set_set] at s2
  have g3 : (l.set k ⟨y.op, y.co, y.se, x.lo⟩)[k]? = some ⟨y.op, y.co, y.se, x.lo⟩ := by simp [hk]
  have s3 : Own ((((w.setCell ⟨g, k * 4, none⟩ (.bool y.op)).setCell ⟨g, k * 4 + 1, none⟩ (.int .i64 y.co)).setCell ⟨g, k * 4 + 2, none⟩ (.int .i64 y.se)).setCell ⟨g, k * 4 + 3, none⟩ (.int .i64 y.lo)) B g c ((l.set k ⟨y.op, y.co, y.se, x.lo⟩).set k y) := El.Own.put (E := E) s2 g3 (j := 3) (by decide) rfl
  rwa [List.set_set] at s3
end Go.Proofs.Ytldghgadkncehaa.Roa
namespace Go.Proofs.Ytldghgadkncehaa.RowG
open Go.RowKit
theorem win_part {T : TypeId} {k : Nat} : ∀ (vs : List Value) (o : Nat) (w : World) (p m q : List Value), Var T w k (p ++ m ++ q) → p.length = o → m.length = vs.length → Var T (w.setCells k o vs) k (p ++ vs ++ q)
  | [], o, w, p, m, q, h, hp, hm => by
    have : m = [] := List.eq_nil_of_length_eq_zero hm
    subst this
    exact h
  | v :: vs, o, w, p, m, q, h, hp, hm => by
    cases m with
    | nil => simp at hm
    | cons u m =>
      have h1 := h.set o v
      have e : (p ++ u :: m ++ q).set o v = (p ++ [v]) ++ m ++ q := by
        subst hp
        simp
      rw [e] at h1
      have := win_part vs (o + 1) _ (p ++ [v]) m q h1 (by simp [hp]) (by simpa using hm)
      simpa [World.setCells] using this
theorem kept_cells {k : Nat} {w0 : World} : ∀ (vs : List Value) (o : Nat) (w : World), Draw.Kept k w0 w → Draw.Kept k w0 (w.setCells k o vs)
  | [], _, _, h => h
  | v :: vs, o, w, h => kept_cells vs (o + 1) _ (h.setCell (p := ⟨k, o, none⟩) (.inl rfl) v)
variable {P : Program} {T T0 : TypeId} {pre post : List Value} {o : Nat}
theorem run_store_win {w : World} {k : Nat} {old vs : List Value} (hi : (P.info? T).map (·.size) = some vs.length) (hw : Win T0 pre post o w k old) (hl : old.length = vs.length) (h1 : ∀ v ∈ vs, v.oneCell' = true) :
    ∃ w', (Instr.storeAt T (.pointer (some ⟨k, o, none⟩)) (.agg vs.toArray)).run P w = .ok () w' ∧ Win T0 pre post o w' k vs ∧ Draw.Kept k w w' := by
  obtain ⟨i, hi, hs⟩ : ∃ i, P.info? T = some i ∧ i.size = vs.length := by
    cases h : P.info? T with
    | none => rw [h] at hi; cases hi
    | some i => rw [h] at hi; exact ⟨i, rfl, by simpa using hi⟩
  have hst := run_storeCells_cells (P := P) k o vs 0 w (fun j hj => by
      rw [Nat.add_zero, hw.cell (i := j) (List.getElem?_eq_getElem (by omega))]; rfl) (fun j _ => by rw [Nat.add_zero]; exact hw.free j) h1
  rw [Nat.add_zero] at hst
  refine ⟨w.setCells k o vs, ?_, ⟨hw.len, win_part vs o w pre old post hw.var hw.len hl⟩, kept_cells vs o w (Draw.Kept.refl _ _)⟩
  simp [Instr.storeAt, storeVar, Instr.sureAddr, asAddr, sizeOf, typeInfo, hi, hs, Value.cells, hst, Result.andThen]
theorem run_load_win {w : World} {k : Nat} {vs : List Value} (hi : (P.info? T).map (·.size) = some vs.length) (hu : ∃ fs, P.underlying T = some (.struct fs)) (hw : Win T0 pre post o w k vs) :
    (Instr.loadAt T (.pointer (some ⟨k, o, none⟩))).run P w = .ok (.agg vs.toArray) w := by
  obtain ⟨i, hi, hs⟩ : ∃ i, P.info? T = some i ∧ i.size = vs.length := by
    cases h : P.info? T with
    | none => rw [h] at hi; cases hi
    | some i => rw [h] at hi; exact ⟨i, rfl, by simpa using hi⟩
  obtain ⟨fs, hu⟩ := hu
  have hld := run_loadCells_list (P := P) (w := w) ⟨k, o, none⟩ vs (fun j v hv => by rw [add_lit]; exact hw.cell hv)
  simp [Instr.loadAt, loadVar, Instr.sureAddr, asAddr, isAgg, run_underlying hu, sizeOf, typeInfo, hi, hs, hld, Result.andThen]
theorem wp_store_win {w : World} {op : Oper} {a : Act} {K : Act → World → Prop} {Q : Exit → Act → World → Prop} (p x : Operand) (ho : op.op = .store T p x) {k : Nat} {old vs : List Value} (hp : a.eval p = .pointer (some ⟨k, o, none⟩)) (hx : a.eval x = .agg vs.toArray)
    (hi : (P.info? T).map (·.size) = some vs.length) (hw : Win T0 pre post o w k old) (hl : old.length = vs.length) (h1 : ∀ v ∈ vs, v.oneCell' = true) (h : ∀ w', Win T0 pre post o w' k vs → Draw.Kept k w w' → K (a.put op.dst undef) w') : op.wp P a w K Q := by
  obtain ⟨w', hr, h2, h3⟩ := run_store_win (P := P) (T := T) hi hw hl h1
  unfold Oper.wp
  simp [execOp, ho, hp, hx, hr, Result.andThen, Oper.upon]
  exact h w' h2 h3
theorem wp_load_win {w : World} {op : Oper} {a : Act} {K : Act → World → Prop} {Q : Exit → Act → World → Prop} (p : Operand) (ho : op.op = .load T p) {k : Nat} {vs : List Value} (hp : a.eval p = .pointer (some ⟨k, o, none⟩))
    (hi : (P.info? T).map (·.size) = some vs.length) (hu : ∃ fs, P.underlying T = some (.struct fs)) (hw : Win T0 pre post o w k vs) (h : K (a.put op.dst (.agg vs.toArray)) w) : op.wp P a w K Q := by
  have hr := run_load_win (P := P) (T := T) hi hu hw
  unfold Oper.wp
  simp [execOp, ho, hp, hr, Result.andThen, Oper.upon]
  exact h
theorem step_store_win {w : World} {op : Oper} {a : Act} {K : Act → World → Prop} {Q : Exit → Act → World → Prop} {X : Prop} {ops : Array Oper} (hgd : op.guard = none) (p x : Operand) (ho : op.op = .store T p x) {k : Nat} {old vs : List Value} (hp : a.eval p = .pointer (some ⟨k, o, none⟩)) (hx : a.eval x = .agg vs.toArray)
    (hi : (P.info? T).map (·.size) = some vs.length) (hw : Win T0 pre post o w k old) (hl : old.length = vs.length) (h1 : ∀ v ∈ vs, v.oneCell' = true) (h : ∀ w', Win T0 pre post o w' k vs → Draw.Kept k w w' → K (a.put op.dst undef) w') : if Region.wanted op (yielded ops a.tmps) = true then Oper.wp P op a w K Q else X := by
  rw [if_pos (by simp [Region.wanted, hgd])]
  exact wp_store_win p x ho hp hx hi hw hl h1 h
theorem step_load_win {w : World} {op : Oper} {a : Act} {K : Act → World → Prop} {Q : Exit → Act → World → Prop} {X : Prop} {ops : Array Oper} (hgd : op.guard = none) (p : Operand) (ho : op.op = .load T p) {k : Nat} {vs : List Value} (hp : a.eval p = .pointer (some ⟨k, o, none⟩))
    (hi : (P.info? T).map (·.size) = some vs.length) (hu : ∃ fs, P.underlying T = some (.struct fs)) (hw : Win T0 pre post o w k vs) (h : K (a.put op.dst (.agg vs.toArray)) w) : if Region.wanted op (yielded ops a.tmps) = true then Oper.wp P op a w K Q else X := by
  rw [if_pos (by simp [Region.wanted, hgd])]
  exact wp_load_win p ho hp hi hu hw h
theorem wpList_store_win {w : World} {ops : Array Oper} {rest : List Oper} {op : Oper} {a : Act} {Q : Exit → Act → World → Prop} (hgd : op.guard = none) (p x : Operand) (ho : op.op = .store T p x) {k : Nat} {old vs : List Value} (hp : a.eval p = .pointer (some ⟨k, o, none⟩)) (hx : a.eval x = .agg vs.toArray)
    (hi : (P.info? T).map (·.size) = some vs.length) (hw : Win T0 pre post o w k old) (hl : old.length = vs.length) (h1 : ∀ v ∈ vs, v.oneCell' = true) (h : ∀ w', Win T0 pre post o w' k vs → Draw.Kept k w w' → wpList P ops Q rest (a.put op.dst undef) w') : wpList P ops Q (op :: rest) a w :=
  wpList_plain hgd fun _ hK => wp_store_win p x ho hp hx hi hw hl h1 fun w' h1 h2 => hK _ _ (h w' h1 h2)
theorem wpList_load_win {w : World} {ops : Array Oper} {rest : List Oper} {op : Oper} {a : Act} {Q : Exit → Act → World → Prop} (hgd : op.guard = none) (p : Operand) (ho : op.op = .load T p) {k : Nat} {vs : List Value} (hp : a.eval p = .pointer (some ⟨k, o, none⟩))
    (hi : (P.info? T).map (·.size) = some vs.length) (hu : ∃ fs, P.underlying T = some (.struct fs)) (hw : Win T0 pre post o w k vs) (h : wpList P ops Q rest (a.put op.dst (.agg vs.toArray)) w) : wpList P ops Q (op :: rest) a w :=
  wpList_plain hgd fun _ hK => wp_load_win p ho hp hi hu hw (hK _ _ h)
theorem run_load_cells {w : World} {k : Nat} {vs : List Value} (hi : (P.info? T).map (·.size) = some vs.length) (hu : ∃ fs, P.underlying T = some (.struct fs)) (hw : ∀ j v, vs[j]? = some v → w.cell? ⟨k, o + j, none⟩ = some v) :
    (Instr.loadAt T (.pointer (some ⟨k, o, none⟩))).run P w = .ok (.agg vs.toArray) w := by
  obtain ⟨i, hi, hs⟩ : ∃ i, P.info? T = some i ∧ i.size = vs.length := by
    cases h : P.info? T with
    | none => rw [h] at hi; cases hi
    | some i => rw [h] at hi; exact ⟨i, rfl, by simpa using hi⟩
  obtain ⟨fs, hu⟩ := hu
  have hld := run_loadCells_list (P := P) (w := w) ⟨k, o, none⟩ vs (fun j v hv => by rw [add_lit]; exact hw j v hv)
  simp [Instr.loadAt, loadVar, Instr.sureAddr, asAddr, isAgg, run_underlying hu, sizeOf, typeInfo, hi, hs, hld, Result.andThen]
theorem step_load_cells {w : World} {op : Oper} {a : Act} {K : Act → World → Prop} {Q : Exit → Act → World → Prop} {X : Prop} {ops : Array Oper} (hgd : op.guard = none) (p : Operand) (ho : op.op = .load T p) {k : Nat} {vs : List Value} (hp : a.eval p = .pointer (some ⟨k, o, none⟩))
    (hi : (P.info? T).map (·.size) = some vs.length) (hu : ∃ fs, P.underlying T = some (.struct fs)) (hw : ∀ j v, vs[j]? = some v → w.cell? ⟨k, o + j, none⟩ = some v) (h : K (a.put op.dst (.agg vs.toArray)) w) : if Region.wanted op (yielded ops a.tmps) = true then Oper.wp P op a w K Q else X := by
  rw [if_pos (by simp [Region.wanted, hgd])]
  have hr := run_load_cells (P := P) (T := T) hi hu hw
  unfold Oper.wp
  simp [execOp, ho, hp, hr, Result.andThen, Oper.upon]
  exact h
theorem El.Lies.cells {α : Type} {E : El α} {w : World} {b off : Nat} {l : List α} (h : E.Lies w (some ⟨b, off, Option.none⟩) l) {i : Nat} {x : α} (hx : l[i]? = some x) : ∀ j v, (E.enc x)[j]? = some v → w.cell? ⟨b, off + i * E.size + j, Option.none⟩ = some v := by
  intro j v hv
  rcases h with h | ⟨b', off', he, h⟩
  · subst h; simp at hx
  · cases he
    rw [Nat.add_assoc]
    exact El.Lies.cell h hx hv
end Go.Proofs.Ytldghgadkncehaa.RowG

/- Contracts of this seat's functions, and their mathematics (TakC TakD Win). -/
import Derived.Test.YtldghgadkncehaaM4
import Derived.Deep.Cut
import Derived.BigRegion
import Derived.Test.YtldghgadkncehaaM1
set_option linter.unusedVariables false
set_option linter.unusedSimpArgs false
set_option maxHeartbeats 1000000
namespace Go.Proofs.Ytldghgadkncehaa.Tak
open Go.RowKit RowG
/-- The walk stands still here. -/
theorem stand {p : Prop} (h : Hid p) : p := h.out
theorem res_cell {fn : Func} {p : Tmp} {ty : TypeId} (h : fn.results = #[.cell p ty]) (tmps : Array Value) (P : Program) (w : World) :
    (results fn tmps).run P w = ((asAddr (tmps.getD p undef)).run P w).andThen fun a w₁ => (loadVar ty a).run P w₁ := by
  simp only [results, h]
  simp [Sem.run_bind, Result.andThen]
theorem res_cell_tmp {fn : Func} {p u : Tmp} {ty : TypeId} (h : fn.results = #[.cell p ty, .tmp u]) (tmps : Array Value) (P : Program) (w : World) :
    (results fn tmps).run P w = ((asAddr (tmps.getD p undef)).run P w).andThen fun a w₁ => ((loadVar ty a).run P w₁).andThen fun v w₂ => .ok (.tuple #[v, tmps.getD u undef]) w₂ := by
  simp only [results, h]
  simp [Sem.run_bind, Result.andThen]
/-- Six cells of a block written, one behind the other. -/
abbrev put6 (w : World) (k : Nat) (v0 v1 v2 v3 v4 v5 : Value) : World := (((((w.setCell ⟨k, 0, none⟩ v0).setCell ⟨k, 1, none⟩ v1).setCell ⟨k, 2, none⟩ v2).setCell ⟨k, 3, none⟩ v3).setCell ⟨k, 4, none⟩ v4).setCell ⟨k, 5, none⟩ v5
theorem heap_put6 (w : World) (k i : Nat) (v0 v1 v2 v3 v4 v5 : Value) (h : i ≠ k) : (put6 w k v0 v1 v2 v3 v4 v5).heap[i]? = w.heap[i]? := by
  unfold put6
  rw [Below.heap_setCell _ _ _ _ h, Below.heap_setCell _ _ _ _ h, Below.heap_setCell _ _ _ _ h, Below.heap_setCell _ _ _ _ h, Below.heap_setCell _ _ _ _ h, Below.heap_setCell _ _ _ _ h]
theorem below_put6 {B : Nat} {w0 w : World} (h : Below B w0 w) {k : Nat} (hk : B ≤ k) (v0 v1 v2 v3 v4 v5 : Value) : Below B w0 (put6 w k v0 v1 v2 v3 v4 v5) :=
  (((((h.setCell (p := ⟨k, 0, none⟩) hk _).setCell (p := ⟨k, 1, none⟩) hk _).setCell (p := ⟨k, 2, none⟩) hk _).setCell (p := ⟨k, 3, none⟩) hk _).setCell (p := ⟨k, 4, none⟩) hk _).setCell (p := ⟨k, 5, none⟩) hk _
theorem kept_put6 {c : Nat} {w0 w : World} (h : Draw.Kept c w0 w) {k : Nat} (hk : k = c ∨ w0.heap.size ≤ k) (v0 v1 v2 v3 v4 v5 : Value) : Draw.Kept c w0 (put6 w k v0 v1 v2 v3 v4 v5) :=
  (((((h.setCell (p := ⟨k, 0, none⟩) hk _).setCell (p := ⟨k, 1, none⟩) hk _).setCell (p := ⟨k, 2, none⟩) hk _).setCell (p := ⟨k, 3, none⟩) hk _).setCell (p := ⟨k, 4, none⟩) hk _).setCell (p := ⟨k, 5, none⟩) hk _
theorem own_put6 {α : Type} {E : El α} {T : TypeId} {w : World} {B : Nat} {a : Option Addr} {c : Nat} {l : List α} (h : E.Own T w B a c l) {k : Nat} (hk : ∀ x, a = some x → x.block ≠ k) (v0 v1 v2 v3 v4 v5 : Value) : E.Own T (put6 w k v0 v1 v2 v3 v4 v5) B a c l :=
  h.same fun x hx => heap_put6 _ _ _ _ _ _ _ _ _ (hk x hx)
/-- A taker as a value. -/
def tkV (nx : Int) (bs : ByteArray) (a : Option Addr) (n c : Nat) (cp fi : Int) (en : Bool) : Value := .agg #[.int .i64 nx, .string bs, .slice a n c, .int .i64 cp, .int .i64 fi, .bool en]
def zeroT : Value := .agg #[.int .i64 0, .string ⟨#[]⟩, .slice none 0 0, .int .i64 0, .int .i64 0, .bool false]
def newT (n : Int) : Value := .agg #[.int .i64 0, .string ⟨#[]⟩, .slice none 0 0, .int .i64 n, .int .i64 (-1), .bool false]
def capB (n : Int) : Bool := decide (1 ≤ n ∧ n ≤ 400)
theorem specNewTaker (n : Int) (w : World) :
    Calls Try.prog 79 #[.int .i64 n] w fun x w' => x = .returned (.tuple #[if capB n then newT n else zeroT, .bool (capB n)]) ∧ Below w.heap.size w w' := by
  cases h : capB n
  · go_enter Try.func79, Try.ntmps79
    go_wp2_with (go_at_call 51; refine (l1InEq h _).mono ?_; rintro x w' ⟨rfl, rfl⟩)
    exact bodyPost_ret (v := .tuple #[zeroT, .bool false]) (by rw [res_cell_tmp rfl]; go_simp; rfl) rfl ⟨rfl, by repeat (first | exact (Below.refl _ _).alloc (Nat.le_refl _) _ | refine Below.setCell ?_ (Nat.le_refl _) _)⟩
  · go_enter Try.func79, Try.ntmps79
    go_wp2_with (go_at_call 51; refine (l1InEq h _).mono ?_; rintro x w' ⟨rfl, rfl⟩)
    exact bodyPost_ret (v := .tuple #[newT n, .bool true]) (by rw [res_cell_tmp rfl]; go_simp; rfl) rfl ⟨rfl, by repeat (first | exact (Below.refl _ _).alloc (Nat.le_refl _) _ | refine Below.setCell ?_ (Nat.le_refl _) _)⟩
def limitOf (nx : Int) (bs : ByteArray) (l : List Pt) (cp fi : Int) (en : Bool) : Int := if takerB nx bs l cp fi en then limT nx bs cp else -1
theorem taker_in {nx : Int} {bs : ByteArray} {l : List Pt} {cp fi : Int} {en : Bool} (h : takerB nx bs l cp fi en = true) : inT nx bs l cp := by
  simp only [takerB, Bool.and_eq_true, decide_eq_true_eq] at h
  exact h.1
theorem l5Copy (nx : Int) (bs : ByteArray) (a : Option Addr) (n c : Nat) (cp fi : Int) (en : Bool) (l : List Pt) (w : World) (hn : n = l.length) (h : partE.Lies w a l) (hl : l.length ≤ 2097152) (ha : a = none → c = 0) :
    Calls Try.prog 80 #[.agg #[.int .i64 nx, .string bs, .slice a n c, .int .i64 cp, .int .i64 fi, .bool en]] w fun x w' => ∃ a' c', x = .returned (.agg #[.int .i64 nx, .string bs, .slice a' l.length c', .int .i64 cp, .int .i64 fi, .bool en]) ∧ partE.Own 136 w' w.heap.size a' c' l ∧ Below w.heap.size w w' := by
  subst hn
  have b3 : Below w.heap.size w (((w.alloc (.cells #[.int .i64 nx, .string bs, .slice a l.length c, .int .i64 cp, .int .i64 fi, .bool en] 82)).alloc (.cells #[.int .i64 0, .string ⟨#[]⟩, .slice none 0 0, .int .i64 0, .int .i64 0, .bool false] 82)).alloc (.cells #[] 136)) := (((Below.refl _ _).alloc (Nat.le_refl _) _).alloc (by simp) _).alloc (by simp; omega) _
  have v1 : Var 82 (((w.alloc (.cells #[.int .i64 nx, .string bs, .slice a l.length c, .int .i64 cp, .int .i64 fi, .bool en] 82)).alloc (.cells #[.int .i64 0, .string ⟨#[]⟩, .slice none 0 0, .int .i64 0, .int .i64 0, .bool false] 82)).alloc (.cells #[] 136)) w.heap.size [.int .i64 nx, .string bs, .slice a l.length c, .int .i64 cp, .int .i64 fi, .bool en] := ((Var.new w [.int .i64 nx, .string bs, .slice a l.length c, .int .i64 cp, .int .i64 fi, .bool en]).alloc _).alloc _
  have v2 : Var 82 (((w.alloc (.cells #[.int .i64 nx, .string bs, .slice a l.length c, .int .i64 cp, .int .i64 fi, .bool en] 82)).alloc (.cells #[.int .i64 0, .string ⟨#[]⟩, .slice none 0 0, .int .i64 0, .int .i64 0, .bool false] 82)).alloc (.cells #[] 136)) (w.heap.size + 1) [.int .i64 0, .string ⟨#[]⟩, .slice none 0 0, .int .i64 0, .int .i64 0, .bool false] := by
    have := (Var.new (T := 82) (w.alloc (.cells #[.int .i64 nx, .string bs, .slice a l.length c, .int .i64 cp, .int .i64 fi, .bool en] 82)) [.int .i64 0, .string ⟨#[]⟩, .slice none 0 0, .int .i64 0, .int .i64 0, .bool false]).alloc (.cells #[] 136)
    simpa using this
  have o0 : partE.Own 136 (((w.alloc (.cells #[.int .i64 nx, .string bs, .slice a l.length c, .int .i64 cp, .int .i64 fi, .bool en] 82)).alloc (.cells #[.int .i64 0, .string ⟨#[]⟩, .slice none 0 0, .int .i64 0, .int .i64 0, .bool false] 82)).alloc (.cells #[] 136)) (w.heap.size + 1 + 1) (some ⟨w.heap.size + 1 + 1, 0, none⟩) 0 [] := by
    have := El.Own.made (E := partE) (T := 136) ((w.alloc (.cells #[.int .i64 nx, .string bs, .slice a l.length c, .int .i64 cp, .int .i64 fi, .bool en] 82)).alloc (.cells #[.int .i64 0, .string ⟨#[]⟩, .slice none 0 0, .int .i64 0, .int .i64 0, .bool false] 82))
    simpa using this
  have hB : w.heap.size + 1 + 1 ≤ (((w.alloc (.cells #[.int .i64 nx, .string bs, .slice a l.length c, .int .i64 cp, .int .i64 fi, .bool en] 82)).alloc (.cells #[.int .i64 0, .string ⟨#[]⟩, .slice none 0 0, .int .i64 0, .int .i64 0, .bool false] 82)).alloc (.cells #[] 136)).heap.size := by simp
  have l0 := h.later b3
  have hz : ([] : List Pt).length + l.length ≤ 4194304 := by simp; omega
  go_enter Try.func80, Try.ntmps80
  go_wp2_with (at_builtin; refine wpList_app typ (by decide) (by rfl) _ _ (by rfl) (w.heap.size + 1 + 1) (some ⟨w.heap.size + 1 + 1, 0, none⟩) 0 0 [] l rfl (by rfl) o0 hB a l.length c rfl (by rfl) l0 ha hz ?_; intro a' c' w3 o3 g3; refine stand ?_)
  have x1 := v1.grown g3 (by intro g hg; simp [blk] at hg; omega)
  have x2 := v2.grown g3 (by intro g hg; simp [blk] at hg; omega)
  have B3 := grown_below b3 (Nat.le_refl _) (by intro g hg; simp [blk] at hg; omega) g3
  rw [List.nil_append] at o3
  clear b3 v1 v2 o0 hB l0 hz g3
  show wpList _ _ _ _ _ _
  have c0 := x1.cell (i := 0) rfl
  have c1 := x1.cell (i := 1) rfl
  have c2 := x1.cell (i := 2) rfl
  have c3 := x1.cell (i := 3) rfl
  have c4 := x1.cell (i := 4) rfl
  have c5 := x1.cell (i := 5) rfl
  have f2 := x1.free 2
  have r0 := x2.cell (i := 0) rfl
  have r1 := x2.cell (i := 1) rfl
  have r2 := x2.cell (i := 2) rfl
  have r3 := x2.cell (i := 3) rfl
  have r4 := x2.cell (i := 4) rfl
  have r5 := x2.cell (i := 5) rfl
  have z0 := x2.free 0
  have z1 := x2.free 1
  have z2 := x2.free 2
  have z3 := x2.free 3
  have z4 := x2.free 4
  have z5 := x2.free 5
  clear x1 x2
  have hx := fun x e => (o3.lt x e).1
  go_wp2_with fail
  refine bodyPost_ret (v := .agg #[.int .i64 nx, .string bs, .slice a' l.length c', .int .i64 cp, .int .i64 fi, .bool en]) (by rw [res_cell rfl]; go_simp) rfl ⟨a', c', rfl, ?_, ?_⟩
  · iterate 7 (refine El.Own.setCell ?_ (fun x hx' => by have := hx x hx'; dsimp only; omega) _)
    exact o3.mono (by omega)
  · iterate 7 (refine Below.setCell ?_ (by dsimp only; omega) _)
    exact B3
end Go.Proofs.Ytldghgadkncehaa.Tak
namespace Go.Proofs.Ytldghgadkncehaa.Tak
open Go.RowKit RowG
/-- A taker. -/
structure Tk where
  nx : Int
  bs : ByteArray
  l : List Pt
  cp : Int
  fi : Int
  en : Bool
def Tk.v (t : Tk) (a : Option Addr) (c : Nat) : Value := .agg #[.int .i64 t.nx, .string t.bs, .slice a t.l.length c, .int .i64 t.cp, .int .i64 t.fi, .bool t.en]
def Tk.ok (t : Tk) : Bool := takerB t.nx t.bs t.l t.cp t.fi t.en
def zeroK : Tk := ⟨0, ⟨#[]⟩, [], 0, 0, false⟩
/-- Parts that the specification's sums do not go round at. -/
def Bd (l : List Pt) : Prop := ∀ p ∈ l, -1152921504606846976 ≤ p.1 ∧ p.1 ≤ 4611686018427387904 ∧ p.2.size ≤ 2097152
theorem Bd.up {l : List Pt} (h : Bd l) : ∀ p ∈ l, p.1 ≤ 4611686018427387904 ∧ p.2.size ≤ 2097152 := fun p hp => (h p hp).2
def inP (k : Int) (p : Pt) : Bool := decide (p.1 ≤ k ∧ k < endP p)
def thereB (l : List Pt) (k : Int) : Bool := l.any (inP k)
theorem any_take {α : Type} {l : List α} {k : Nat} {x : α} (h : l[k]? = some x) (p : α → Bool) : (l.take (k + 1)).any p = ((l.take k).any p || p x) := by
  have hk : k < l.length := (List.getElem?_eq_some_iff.1 h).1
  have e : l.take (k + 1) = l.take k ++ [x] := by
    rw [List.take_add_one, h]
    rfl
  rw [e, List.any_append]
  simp
/-- What TakenAway answers. -/
def takenAway (t : Tk) (n : Int) : Tk × ByteArray :=
  if t.ok then (if n < 0 ∨ (t.bs.size : Int) < n then (t, ⟨#[]⟩) else ({ t with bs := t.bs.extract n.toNat t.bs.size }, t.bs.extract 0 n.toNat)) else (zeroK, ⟨#[]⟩)
end Go.Proofs.Ytldghgadkncehaa.Tak
namespace Go.Proofs.Ytldghgadkncehaa.RowG
open Go.RowKit
structure Win (T : TypeId) (pre post : List Value) (o : Nat) (w : World) (k : Nat) (vs : List Value) : Prop where
  len : pre.length = o
  blk : w.heap[k]? = some (.cells (pre ++ vs ++ post).toArray T (0, 0))
variable {T : TypeId} {pre post : List Value} {o : Nat}
theorem Win.var {w : World} {k : Nat} {vs : List Value} (h : Win T pre post o w k vs) : Var T w k (pre ++ vs ++ post) := h.blk
theorem Win.of {w : World} {k : Nat} {vs : List Value} (hl : pre.length = o) (h : Var T w k (pre ++ vs ++ post)) : Win T pre post o w k vs := ⟨hl, h⟩
theorem Win.cell {w : World} {k : Nat} {vs : List Value} (h : Win T pre post o w k vs) {i : Nat} {v : Value} (hv : vs[i]? = some v) : w.cell? ⟨k, o + i, Option.none⟩ = some v := by
  refine h.var.cell ?_
  have hi : i < vs.length := (List.getElem?_eq_some_iff.1 hv).1
  rw [← h.len, List.getElem?_append_left (by simp; omega), List.getElem?_append_right (by omega)]
  simpa using hv
theorem Win.cell0 {w : World} {k : Nat} {vs : List Value} (h : Win T pre post o w k vs) {v : Value} (hv : vs[0]? = some v) : w.cell? ⟨k, o, Option.none⟩ = some v := h.cell (i := 0) hv
theorem Win.free {w : World} {k : Nat} {vs : List Value} (h : Win T pre post o w k vs) (i : Nat) : w.frozen? ⟨k, o + i, Option.none⟩ = false := h.var.free _
theorem Win.free0 {w : World} {k : Nat} {vs : List Value} (h : Win T pre post o w k vs) : w.frozen? ⟨k, o, Option.none⟩ = false := h.var.free _
theorem Win.lt {w : World} {k : Nat} {vs : List Value} (h : Win T pre post o w k vs) : k < w.heap.size := h.var.lt
theorem Win.same {w w' : World} {k : Nat} {vs : List Value} (h : Win T pre post o w k vs) (e : w'.heap[k]? = w.heap[k]?) : Win T pre post o w' k vs := ⟨h.len, e.trans h.blk⟩
theorem Win.later {w w' : World} {k : Nat} {vs : List Value} (h : Win T pre post o w k vs) (hb : Below w.heap.size w w') : Win T pre post o w' k vs := h.same (hb.block k h.lt)
theorem Win.kept {w w' : World} {k c : Nat} {vs : List Value} (h : Win T pre post o w k vs) (hk : Draw.Kept c w w') (hc : k ≠ c) : Win T pre post o w' k vs := h.same (hk.block k h.lt hc)
theorem Win.grown {w w' : World} {k : Nat} {r : Option Nat} {vs : List Value} (h : Win T pre post o w k vs) (hg : w.grownBy w' r) (hc : ∀ g, r = some g → k ≠ g) : Win T pre post o w' k vs := h.same (hg.block k h.lt (fun e => hc k e.symm rfl))
theorem Win.alloc {w : World} {k : Nat} {vs : List Value} (h : Win T pre post o w k vs) (x : Obj) : Win T pre post o (w.alloc x) k vs := h.same (Below.heap_alloc _ _ _ h.lt)
theorem Win.other {w : World} {k : Nat} {vs : List Value} (h : Win T pre post o w k vs) {p : Addr} (hp : k ≠ p.block) (v : Value) : Win T pre post o (w.setCell p v) k vs := h.same (Below.heap_setCell _ _ _ _ hp)
theorem Win.set {w : World} {k : Nat} {vs : List Value} (h : Win T pre post o w k vs) (i : Nat) (v : Value) (hi : i < vs.length := by simp) : Win T pre post o (w.setCell ⟨k, o + i, Option.none⟩ v) k (vs.set i v) := by
  refine ⟨h.len, ?_⟩
  have := h.var.set (o + i) v
  rw [← h.len, List.append_assoc, List.set_append_right _ _ (by omega), List.set_append_left _ _ (by omega), Nat.add_sub_cancel_left] at this
  rw [← h.len, List.append_assoc]
  exact this
theorem Win.set0 {w : World} {k : Nat} {vs : List Value} (h : Win T pre post o w k vs) (v : Value) (hi : 0 < vs.length := by simp) : Win T pre post o (w.setCell ⟨k, o, Option.none⟩ v) k (vs.set 0 v) := h.set 0 v hi
theorem Win.drew {w : World} {k : Nat} {vs : List Value} (h : Win T pre post o w k vs) : Win T pre post o w.drew k vs := ⟨h.len, h.blk⟩
theorem Var.win {w : World} {k : Nat} {vs : List Value} (h : Var T w k vs) : Win T [] [] 0 w k vs := ⟨rfl, by simpa [Var] using h⟩
theorem Win.whole {w : World} {k : Nat} {vs : List Value} (h : Win T [] [] 0 w k vs) : Var T w k vs := by
  have := h.blk
  simpa [Var] using this
end Go.Proofs.Ytldghgadkncehaa.RowG

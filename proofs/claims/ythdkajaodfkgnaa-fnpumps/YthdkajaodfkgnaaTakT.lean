/- Contracts of the program's NewTaker, slices.Clone of parts, ownTaker and TakenAway; lists of at most 2^21 parts, none beyond 2^62. -/
import Derived.Test.YthdkajaodfkgnaaTakS
import Derived.Deep.Cut
import Derived.Lib.SliceRun
namespace Go.Proofs.Ythdkajaodfkgnaa.Tak
open Go.RowKit RowG Rng
set_option linter.unusedVariables false
set_option linter.unusedSimpArgs false

set_option maxRecDepth 10000 in
set_option maxHeartbeats 1000000 in
theorem clone (a : Option Addr) (n c : Nat) (l : List Pt) (w : World) (hn : n = l.length) (h : partE.Lies w a l) (hl : l.length ≤ 2097152) (ha : a = none → c = 0) :
    Calls Try.prog 82 #[.slice a n c] w fun x w' => ∃ a' c', x = .returned (.slice a' l.length c') ∧ partE.Own 69 w' w.heap.size a' c' l ∧ Below w.heap.size w w' := by
  subst hn
  have q24 : ∀ (w : World) (a : Option Addr) (n c n' c' : Nat), (binOp .eql 24 (.slice a n c) (.slice none n' c')).run Try.prog w = .ok (.bool a.isNone) w := fun w a n c n' c' => Lib.run_eql_slice_nil w _ 69 a n c n' c' (by kernel_rfl)
  cases a with
  | none =>
    obtain rfl : l = [] := by
      rcases h with e | ⟨_, _, e, _⟩
      · exact e
      · cases e
    obtain rfl := ha rfl
    clear h ha hl
    go_enter Try.func82, Try.ntmps82
    go_wp2_with fail
    go_ret
    exact ⟨none, 0, rfl, El.Own.none _ _, Below.refl _ _⟩
  | some x =>
    have b1 : Below w.heap.size w (w.alloc (.cells #[] 69)) := (Below.refl _ _).alloc (Nat.le_refl _) _
    have o0 := El.Own.made (E := partE) (T := 69) w
    have l0 := h.later b1
    have hz : ([] : List Pt).length + l.length ≤ 4194304 := by simp; omega
    clear ha h hl
    go_enter Try.func82, Try.ntmps82
    go_wp2_with (at_builtin; refine wpList_app typ (by decide) (by rfl) _ _ (by rfl) w.heap.size (some ⟨w.heap.size, 0, none⟩) 0 0 [] l rfl (by rfl) o0 (by simp) (some x) l.length c rfl (by rfl) l0 (by simp) hz ?_; intro a' c' w3 o3 g3; refine stand ?_)
    have B3 := grown_below b1 (Nat.le_refl _) (by intro g hg; simp [blk] at hg; omega) g3
    rw [List.nil_append] at o3
    show wpList _ _ _ _ _ _
    go_wp2_with fail
    go_ret
    exact ⟨a', c', rfl, o3, B3⟩

set_option maxHeartbeats 1000000 in
theorem ownTaker (nx : Int) (bs : ByteArray) (a : Option Addr) (n c : Nat) (cp fi : Int) (en : Bool) (l : List Pt) (w : World) (hn : n = l.length) (h : partE.Lies w a l) (hl : l.length ≤ 2097152) (ha : a = none → c = 0) :
    Calls Try.prog 62 #[.agg #[.int .i64 nx, .string bs, .slice a n c, .int .i64 cp, .int .i64 fi, .bool en]] w fun x w' => ∃ a' c', x = .returned (.agg #[.int .i64 nx, .string bs, .slice a' l.length c', .int .i64 cp, .int .i64 fi, .bool en]) ∧ partE.Own 69 w' w.heap.size a' c' l ∧ Below w.heap.size w w' := by
  subst hn
  have B2 : Below w.heap.size w ((w.alloc (.cells #[.int .i64 nx, .string bs, .slice a l.length c, .int .i64 cp, .int .i64 fi, .bool en] 26)).alloc (.cells #[.int .i64 0, .string ⟨#[]⟩, .slice none 0 0, .int .i64 0, .int .i64 0, .bool false] 26)) := ((Below.refl _ _).alloc (Nat.le_refl _) _).alloc (by simp) _
  have v1 : Var 26 ((w.alloc (.cells #[.int .i64 nx, .string bs, .slice a l.length c, .int .i64 cp, .int .i64 fi, .bool en] 26)).alloc (.cells #[.int .i64 0, .string ⟨#[]⟩, .slice none 0 0, .int .i64 0, .int .i64 0, .bool false] 26)) w.heap.size [.int .i64 nx, .string bs, .slice a l.length c, .int .i64 cp, .int .i64 fi, .bool en] := (Var.new w [.int .i64 nx, .string bs, .slice a l.length c, .int .i64 cp, .int .i64 fi, .bool en]).alloc _
  have v2 : Var 26 ((w.alloc (.cells #[.int .i64 nx, .string bs, .slice a l.length c, .int .i64 cp, .int .i64 fi, .bool en] 26)).alloc (.cells #[.int .i64 0, .string ⟨#[]⟩, .slice none 0 0, .int .i64 0, .int .i64 0, .bool false] 26)) (w.heap.size + 1) [.int .i64 0, .string ⟨#[]⟩, .slice none 0 0, .int .i64 0, .int .i64 0, .bool false] := by
    have := Var.new (T := 26) (w.alloc (.cells #[.int .i64 nx, .string bs, .slice a l.length c, .int .i64 cp, .int .i64 fi, .bool en] 26)) [.int .i64 0, .string ⟨#[]⟩, .slice none 0 0, .int .i64 0, .int .i64 0, .bool false]
    simpa using this
  go_enter Try.func62, Try.ntmps62
  go_wp2_with fail
  generalize hV : ((w.alloc (.cells #[.int .i64 nx, .string bs, .slice a l.length c, .int .i64 cp, .int .i64 fi, .bool en] 26)).alloc (.cells #[.int .i64 0, .string ⟨#[]⟩, .slice none 0 0, .int .i64 0, .int .i64 0, .bool false] 26)) = V at *
  clear hV
  refine (clone a _ c l V rfl (h.later B2) hl ha).mono ?_
  rintro x w3 ⟨a', c', rfl, o3, b3⟩
  have x1 := v1.later b3
  have x2 := v2.later b3
  have B3 := B2.trans (b3.mono B2.size)
  have hx : ∀ x, a' = some x → w.heap.size + 1 < x.block := fun x e => by have := (o3.lt x e).1; have := v2.lt; omega
  have o3 := o3.mono B2.size
  clear b3 v1 v2 B2
  have c0 := x1.cell (i := 0) rfl
  have c1 := x1.cell (i := 1) rfl
  have c2 := x1.cell (i := 2) rfl
  have c3 := x1.cell (i := 3) rfl
  have c4 := x1.cell (i := 4) rfl
  have c5 := x1.cell (i := 5) rfl
  have f0 := x1.free 0
  have f1 := x1.free 1
  have f2 := x1.free 2
  have f3 := x1.free 3
  have f4 := x1.free 4
  have f5 := x1.free 5
  have r0 := x2.cell (i := 0) rfl
  have r1 := x2.cell (i := 1) rfl
  have r2 := x2.cell (i := 2) rfl
  have r3 := x2.cell (i := 3) rfl
  have r4 := x2.cell (i := 4) rfl
  have r5 := x2.cell (i := 5) rfl
  have z0 := x2.free 0
  have z1 := x2.free 1
  have z2 := x2.free 2
  have z3 := x2.free 3
  have z4 := x2.free 4
  have z5 := x2.free 5
  clear x1 x2
  go_wp2_with fail
  refine bodyPost_ret (v := .agg #[.int .i64 nx, .string bs, .slice a' l.length c', .int .i64 cp, .int .i64 fi, .bool en]) (by rw [res_cell rfl]; go_simp) rfl ⟨a', c', rfl, ?_, ?_⟩
  · iterate 7 (refine El.Own.setCell ?_ (fun x hx' => by have := hx x hx'; dsimp only; omega) _)
    exact o3
  · iterate 7 (refine Below.setCell ?_ (by dsimp only; omega) _)
    exact B3

end Go.Proofs.Ythdkajaodfkgnaa.Tak

/- Hops laid in memory; the specification's Sends and Tells; of hops that are not too great. · Contracts of the program's NewTaker, slices.Clone of parts, ownTaker and TakenAway; lists of at most 2^21 parts, none beyond 2^62. -/
import Derived.Test.YtonhjlhpppfcpaaHopF
import Derived.Test.YtonhjlhpppfcpaaTakS
import Derived.Deep.Cut
import Derived.Lib.SliceRun
namespace Go.Proofs.Ytonhjlhpppfcpaa.Hop
open Go.RowKit RowG
set_option linter.unusedVariables false
set_option linter.unusedSimpArgs false

def zeroH : Hp := ⟨Giv.zeroG, Tak.zeroK, []⟩
/-- A hop in a window of block k, its rows in blocks of their own from B on. -/
def Lay (T : TypeId) (pre post : List Value) (ow : Nat) (w : World) (B k : Nat) (h : Hp) : Prop :=
  ∃ aT cT aW cW, Win T pre post ow w k (h.c aT cT aW cW) ∧ Tak.partE.Own 55 w B aT cT h.t.l ∧ letE.Own 45 w B aW cW h.ws
/-- Of the blocks below B none has turned but, it may be, block k. -/
structure KB (B k : Nat) (w w' : World) : Prop where
  os : w'.os = w.os
  tape : w'.tape = w.tape
  output : w'.output = w.output
  size : w.heap.size ≤ w'.heap.size
  block : ∀ i, i < B → i ≠ k → w'.heap[i]? = w.heap[i]?
theorem KB.refl (B k : Nat) (w : World) : KB B k w w := ⟨rfl, rfl, rfl, Nat.le_refl _, fun _ _ _ => rfl⟩
theorem KB.trans {B k : Nat} {a b d : World} (h : KB B k a b) (h' : KB B k b d) : KB B k a d := ⟨h'.os.trans h.os, h'.tape.trans h.tape, h'.output.trans h.output, Nat.le_trans h.size h'.size, fun i hi hk => (h'.block i hi hk).trans (h.block i hi hk)⟩
theorem KB.ofKept {B k : Nat} {w w' : World} (h : Draw.Kept k w w') (hB : B ≤ w.heap.size) : KB B k w w' := ⟨h.os, h.tape, h.output, h.size, fun i hi hk => h.block i (by omega) hk⟩
theorem KB.ofKeep {B k : Nat} {r : Option Nat} {w w' : World} (h : Keep k r w w') (hB : B ≤ w.heap.size) (hr : ∀ i, r = some i → B ≤ i) : KB B k w w' := ⟨h.os, h.tape, h.output, h.size, fun i hi hk => h.block i (by omega) hk (fun e => by have := hr i e.symm; omega)⟩
theorem KB.ofBelow {B k : Nat} {w w' : World} (h : Below w.heap.size w w') (hB : B ≤ w.heap.size) : KB B k w w' := ⟨h.os, h.tape, h.output, h.size, fun i hi hk => h.block i (by omega)⟩
theorem KB.below {B B' k : Nat} {w w' : World} (h : KB B k w w') (h1 : B' ≤ B) (h2 : B' ≤ k) : Below B' w w' := ⟨h.os, h.tape, h.output, h.size, fun i hi => h.block i (by omega) (by omega)⟩
theorem KB.var {B k i : Nat} {T : TypeId} {vs : List Value} {w w' : World} (h : KB B k w w') (v : Var T w i vs) (h1 : i < B) (h2 : i ≠ k) : Var T w' i vs := v.same (h.block i h1 h2)
theorem blk_ge {α : Type} {E : El α} {T : TypeId} {w : World} {B : Nat} {a : Option Addr} {c : Nat} {l : List α} (o : E.Own T w B a c l) : ∀ i, blk a = some i → B ≤ i := by
  intro i hi
  cases a with
  | none => simp [blk] at hi
  | some x =>
    simp [blk] at hi
    have := (o.lt x rfl).1
    omega
theorem Lay.later {T : TypeId} {pre post : List Value} {ow : Nat} {w w' : World} {B k : Nat} {h : Hp} (l : Lay T pre post ow w B k h) (b : Below w.heap.size w w') : Lay T pre post ow w' B k h := by
  obtain ⟨aT, cT, aW, cW, v, o1, o2⟩ := l
  exact ⟨aT, cT, aW, cW, v.later b, o1.later b, o2.later b⟩
theorem Lay.kept {T : TypeId} {pre post : List Value} {ow : Nat} {w w' : World} {B k c : Nat} {h : Hp} (l : Lay T pre post ow w B k h) (b : Draw.Kept c w w') (h1 : c < B) (h2 : c ≠ k) : Lay T pre post ow w' B k h := by
  obtain ⟨aT, cT, aW, cW, v, o1, o2⟩ := l
  exact ⟨aT, cT, aW, cW, v.kept b (Ne.symm h2), o1.kept b (fun x hx => by have := (o1.lt x hx).1; omega), o2.kept b (fun x hx => by have := (o2.lt x hx).1; omega)⟩
theorem Lay.drew {T : TypeId} {pre post : List Value} {ow : Nat} {w : World} {B k : Nat} {h : Hp} (l : Lay T pre post ow w B k h) : Lay T pre post ow w.drew B k h := by
  obtain ⟨aT, cT, aW, cW, v, o1, o2⟩ := l
  exact ⟨aT, cT, aW, cW, v.drew, o1.drew, o2.drew⟩
theorem Lay.alloc {T : TypeId} {pre post : List Value} {ow : Nat} {w : World} {B k : Nat} {h : Hp} (l : Lay T pre post ow w B k h) (o : Obj) : Lay T pre post ow (w.alloc o) B k h := l.later ((Below.refl _ _).alloc (Nat.le_refl _) _)

theorem sendLay {T : TypeId} {pre post : List Value} {ow : Nat} (hT : T ≠ 45) (hT2 : T ≠ 55) (k B : Nat) (h : Hp) (road p n : Int) (w : World) (hl : Lay T pre post ow w B k h) (hB : B ≤ w.heap.size) (hn : h.ws.length ≤ 524288) (hg : h.g.ok = true) :
    Calls Try.prog 36 #[.pointer (some ⟨k, ow, none⟩), .int .i64 road, .int .i64 p, .int .i64 n] w fun e w' => e = .returned (.bool (sendH h road p n).2) ∧ Lay T pre post ow w' B k (sendH h road p n).1 ∧ KB B k w w' := by
  obtain ⟨aT, cT, aW, cW, v, o1, o2⟩ := hl
  refine (l7Send hT k B h aT cT aW cW road p n w v o2 hB hn hg).mono ?_
  rintro e w' ⟨a', c', rfl, v', o', k'⟩
  refine ⟨rfl, ⟨aT, cT, a', c', v', ?_, o'⟩, KB.ofKeep k' hB (blk_ge o2)⟩
  have : (sendH h road p n).1.t = h.t := by unfold sendH; split <;> simp [postH] <;> split <;> rfl
  rw [this]
  exact o1.keep k' (own_win hT2 o1 v) (own_two (by decide) o1 o2)

theorem tellLay {T : TypeId} {pre post : List Value} {ow : Nat} (hT : T ≠ 45) (hT2 : T ≠ 55) (hT3 : T ≠ 28) (k B : Nat) (h : Hp) (road : Int) (done : Bool) (w : World) (hl : Lay T pre post ow w B k h) (hB : B ≤ w.heap.size) (hn : h.ws.length ≤ 524288) (ht : h.t.ok = true) :
    Calls Try.prog 44 #[.pointer (some ⟨k, ow, none⟩), .int .i64 road, .bool done] w fun e w' => e = .returned (.bool (tellH h road done).2) ∧ Lay T pre post ow w' B k (tellH h road done).1 ∧ KB B k w w' := by
  obtain ⟨aT, cT, aW, cW, v, o1, o2⟩ := hl
  have hin : Tak.inT h.t.nx h.t.bs h.t.l h.t.cp := by
    unfold Tak.Tk.ok Tak.takerB at ht
    simp only [Bool.and_eq_true, decide_eq_true_eq] at ht
    exact ht.1
  unfold Tak.inT at hin
  refine (l7Tell hT hT3 k B h aT cT aW cW road done w v o2 hB hn ⟨by omega, by omega⟩ (by omega) ⟨by omega, by omega⟩).mono ?_
  rintro e w' ⟨a', c', rfl, v', o', k'⟩
  refine ⟨rfl, ⟨aT, cT, a', c', v', ?_, o'⟩, KB.ofKeep k' hB (blk_ge o2)⟩
  have : (tellH h road done).1.t = h.t := by unfold tellH; simp [postH]; split <;> rfl
  rw [this]
  exact o1.keep k' (own_win hT2 o1 v) (own_two (by decide) o1 o2)

end Go.Proofs.Ytonhjlhpppfcpaa.Hop

namespace Go.Proofs.Ytonhjlhpppfcpaa.Tak
open Go.RowKit RowG Rng
set_option linter.unusedVariables false
set_option linter.unusedSimpArgs false

set_option maxHeartbeats 1000000 in
theorem implNewTaker (n : Int) (w : World) :
    Calls Try.prog 34 #[.int .i64 n] w fun x w' => x = .returned (.tuple #[if capB n then newT n else zeroT, .bool (capB n)]) ∧ Below w.heap.size w w' := by
  cases h : capB n
  · go_enter Try.func34, Try.ntmps34
    go_wp2_with (go_at_call 66; refine (isCapEq h _).mono ?_; rintro x w' ⟨rfl, rfl⟩)
    exact bodyPost_ret (v := .tuple #[zeroT, .bool false]) (by rw [res_cell_tmp rfl]; go_simp; rfl) rfl ⟨rfl, by repeat (first | exact (Below.refl _ _).alloc (Nat.le_refl _) _ | refine Below.setCell ?_ (Nat.le_refl _) _)⟩
  · go_enter Try.func34, Try.ntmps34
    go_wp2_with (go_at_call 66; refine (isCapEq h _).mono ?_; rintro x w' ⟨rfl, rfl⟩)
    exact bodyPost_ret (v := .tuple #[newT n, .bool true]) (by rw [res_cell_tmp rfl]; go_simp; rfl) rfl ⟨rfl, by repeat (first | exact (Below.refl _ _).alloc (Nat.le_refl _) _ | refine Below.setCell ?_ (Nat.le_refl _) _)⟩

set_option maxRecDepth 10000 in
set_option maxHeartbeats 1000000 in
theorem clone (a : Option Addr) (n c : Nat) (l : List Pt) (w : World) (hn : n = l.length) (h : partE.Lies w a l) (hl : l.length ≤ 2097152) (ha : a = none → c = 0) :
    Calls Try.prog 95 #[.slice a n c] w fun x w' => ∃ a' c', x = .returned (.slice a' l.length c') ∧ partE.Own 55 w' w.heap.size a' c' l ∧ Below w.heap.size w w' := by
  subst hn
  have q24 : ∀ (w : World) (a : Option Addr) (n c n' c' : Nat), (binOp .eql 26 (.slice a n c) (.slice none n' c')).run Try.prog w = .ok (.bool a.isNone) w := fun w a n c n' c' => Lib.run_eql_slice_nil w _ 55 a n c n' c' (by kernel_rfl)
  cases a with
  | none =>
    obtain rfl : l = [] := by
      rcases h with e | ⟨_, _, e, _⟩
      · exact e
      · cases e
    obtain rfl := ha rfl
    clear h ha hl
    go_enter Try.func95, Try.ntmps95
    go_wp2_with fail
    go_ret
    exact ⟨none, 0, rfl, El.Own.none _ _, Below.refl _ _⟩
  | some x =>
    have b1 : Below w.heap.size w (w.alloc (.cells #[] 55)) := (Below.refl _ _).alloc (Nat.le_refl _) _
    have o0 := El.Own.made (E := partE) (T := 55) w
    have l0 := h.later b1
    have hz : ([] : List Pt).length + l.length ≤ 4194304 := by simp; omega
    clear ha h hl
    go_enter Try.func95, Try.ntmps95
    go_wp2_with (at_builtin; refine wpList_app typ (by decide) (by rfl) _ _ (by rfl) w.heap.size (some ⟨w.heap.size, 0, none⟩) 0 0 [] l rfl (by rfl) o0 (by simp) (some x) l.length c rfl (by rfl) l0 (by simp) hz ?_; intro a' c' w3 o3 g3; refine stand ?_)
    have B3 := grown_below b1 (Nat.le_refl _) (by intro g hg; simp [blk] at hg; omega) g3
    rw [List.nil_append] at o3
    show wpList _ _ _ _ _ _
    go_wp2_with fail
    go_ret
    exact ⟨a', c', rfl, o3, B3⟩

set_option maxHeartbeats 1000000 in
theorem ownTaker (nx : Int) (bs : ByteArray) (a : Option Addr) (n c : Nat) (cp fi : Int) (en : Bool) (l : List Pt) (w : World) (hn : n = l.length) (h : partE.Lies w a l) (hl : l.length ≤ 2097152) (ha : a = none → c = 0) :
    Calls Try.prog 63 #[.agg #[.int .i64 nx, .string bs, .slice a n c, .int .i64 cp, .int .i64 fi, .bool en]] w fun x w' => ∃ a' c', x = .returned (.agg #[.int .i64 nx, .string bs, .slice a' l.length c', .int .i64 cp, .int .i64 fi, .bool en]) ∧ partE.Own 55 w' w.heap.size a' c' l ∧ Below w.heap.size w w' := by
  subst hn
  have B2 : Below w.heap.size w ((w.alloc (.cells #[.int .i64 nx, .string bs, .slice a l.length c, .int .i64 cp, .int .i64 fi, .bool en] 28)).alloc (.cells #[.int .i64 0, .string ⟨#[]⟩, .slice none 0 0, .int .i64 0, .int .i64 0, .bool false] 28)) := ((Below.refl _ _).alloc (Nat.le_refl _) _).alloc (by simp) _
  have v1 : Var 28 ((w.alloc (.cells #[.int .i64 nx, .string bs, .slice a l.length c, .int .i64 cp, .int .i64 fi, .bool en] 28)).alloc (.cells #[.int .i64 0, .string ⟨#[]⟩, .slice none 0 0, .int .i64 0, .int .i64 0, .bool false] 28)) w.heap.size [.int .i64 nx, .string bs, .slice a l.length c, .int .i64 cp, .int .i64 fi, .bool en] := (Var.new w [.int .i64 nx, .string bs, .slice a l.length c, .int .i64 cp, .int .i64 fi, .bool en]).alloc _
  have v2 : Var 28 ((w.alloc (.cells #[.int .i64 nx, .string bs, .slice a l.length c, .int .i64 cp, .int .i64 fi, .bool en] 28)).alloc (.cells #[.int .i64 0, .string ⟨#[]⟩, .slice none 0 0, .int .i64 0, .int .i64 0, .bool false] 28)) (w.heap.size + 1) [.int .i64 0, .string ⟨#[]⟩, .slice none 0 0, .int .i64 0, .int .i64 0, .bool false] := by
    have := Var.new (T := 28) (w.alloc (.cells #[.int .i64 nx, .string bs, .slice a l.length c, .int .i64 cp, .int .i64 fi, .bool en] 28)) [.int .i64 0, .string ⟨#[]⟩, .slice none 0 0, .int .i64 0, .int .i64 0, .bool false]
    simpa using this
  go_enter Try.func63, Try.ntmps63
  go_wp2_with fail
  generalize hV : ((w.alloc (.cells #[.int .i64 nx, .string bs, .slice a l.length c, .int .i64 cp, .int .i64 fi, .bool en] 28)).alloc (.cells #[.int .i64 0, .string ⟨#[]⟩, .slice none 0 0, .int .i64 0, .int .i64 0, .bool false] 28)) = V at *
  clear hV
  refine (clone a _ c l V rfl (h.later B2) hl ha).mono ?_
  rintro x w3 ⟨a', c', rfl, o3, b3⟩
  have x1 := v1.later b3
  have x2 := v2.later b3
  have B3 := B2.trans (b3.mono B2.size)
  have hx : ∀ x, a' = some x → w.heap.size + 1 < x.block := fun x e => by have := (o3.lt x e).1; have := v2.lt; omega
  have o3 := o3.mono B2.size
  clear b3 v1 v2 B2
  have c0 := x1.cell (i := 0) rfl
  have c1 := x1.cell (i := 1) rfl
  have c2 := x1.cell (i := 2) rfl
  have c3 := x1.cell (i := 3) rfl
  have c4 := x1.cell (i := 4) rfl
  have c5 := x1.cell (i := 5) rfl
  have f0 := x1.free 0
  have f1 := x1.free 1
  have f2 := x1.free 2
  have f3 := x1.free 3
  have f4 := x1.free 4
  have f5 := x1.free 5
  have r0 := x2.cell (i := 0) rfl
  have r1 := x2.cell (i := 1) rfl
  have r2 := x2.cell (i := 2) rfl
  have r3 := x2.cell (i := 3) rfl
  have r4 := x2.cell (i := 4) rfl
  have r5 := x2.cell (i := 5) rfl
  have z0 := x2.free 0
  have z1 := x2.free 1
  have z2 := x2.free 2
  have z3 := x2.free 3
  have z4 := x2.free 4
  have z5 := x2.free 5
  clear x1 x2
  go_wp2_with fail
  refine bodyPost_ret (v := .agg #[.int .i64 nx, .string bs, .slice a' l.length c', .int .i64 cp, .int .i64 fi, .bool en]) (by rw [res_cell rfl]; go_simp) rfl ⟨a', c', rfl, ?_, ?_⟩
  · iterate 7 (refine El.Own.setCell ?_ (fun x hx' => by have := hx x hx'; dsimp only; omega) _)
    exact o3
  · iterate 7 (refine Below.setCell ?_ (by dsimp only; omega) _)
    exact B3

end Go.Proofs.Ytonhjlhpppfcpaa.Tak

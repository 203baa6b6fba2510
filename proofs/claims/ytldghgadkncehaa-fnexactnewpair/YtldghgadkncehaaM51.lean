/- Contracts of this seat's functions, and their mathematics (LinB RegP). -/
import Derived.Test.YtldghgadkncehaaM50
import Derived.Test.YtldghgadkncehaaM49
set_option linter.unusedVariables false
set_option linter.unusedSimpArgs false
namespace Go.Proofs.Ytldghgadkncehaa.Lin
open Go.RowKit RowG Hop
/-- A hop, and where its rows lie. -/
structure Ha where
  h : Hp
  aT : Option Addr
  cT : Nat
  aW : Option Addr
  cW : Nat
abbrev Ha.c (x : Ha) : List Value := x.h.c x.aT x.cT x.aW x.cW
def hopE : El Ha where
  enc x := x.c
  size := 13
  len _ := rfl
  one x u hu := by
    simp only [Ha.c, List.mem_cons, List.not_mem_nil, or_false] at hu
    rcases hu with rfl | rfl | rfl | rfl | rfl | rfl | rfl | rfl | rfl | rfl | rfl | rfl | rfl <;> rfl
  pos := by decide
structure Rows (w : World) (B : Nat) (x : Ha) : Prop where
  p : Tak.partE.Own 136 w B x.aT x.cT x.h.t.l
  l : letE.Own 87 w B x.aW x.cW x.h.ws
def Off (x y : Ha) : Prop := ∀ p q, x.aW = some p → y.aW = some q → p.block ≠ q.block
structure LineLay (w : World) (B : Nat) (a : Option Addr) (c : Nat) (xs : List Ha) : Prop where
  row : hopE.Own 85 w B a c xs
  rows : ∀ x ∈ xs, Rows w B x
  off : ∀ (i j : Nat) (x y : Ha), i ≠ j → xs[i]? = some x → xs[j]? = some y → Off x y
theorem infoHop : (Try.prog.info? 85).map (fun i => (i.zero, i.size, i.bytes)) = some (some (.agg #[.int .i64 0, .string ByteArray.empty, .int .i64 0, .int .i64 0, .bool false, .bool false, .int .i64 0, .string ByteArray.empty, .slice none 0 0, .int .i64 0, .int .i64 0, .bool false, .slice none 0 0]), 13, 144) := by kernel_rfl
theorem typ : Typ Try.prog 34 85 hopE 144 := ⟨Try.underlying34, by
  obtain ⟨i, hi, h0, h1, h2⟩ := info_parts infoHop
  exact ⟨i, _, hi, h0, h1, h2, rfl⟩⟩
theorem Rows.later {w w' : World} {B : Nat} {x : Ha} (h : Rows w B x) (b : Below w.heap.size w w') : Rows w' B x := ⟨h.p.later b, h.l.later b⟩
theorem LineLay.later {w w' : World} {B : Nat} {a : Option Addr} {c : Nat} {xs : List Ha} (h : LineLay w B a c xs) (b : Below w.heap.size w w') : LineLay w' B a c xs := ⟨h.row.later b, fun x hx => (h.rows x hx).later b, h.off⟩
theorem LineLay.kept {w w' : World} {B k : Nat} {a : Option Addr} {c : Nat} {xs : List Ha} (h : LineLay w B a c xs) (b : Draw.Kept k w w') (hk : k < B) : LineLay w' B a c xs :=
  ⟨h.row.kept b (fun x hx => by have := (h.row.lt x hx).1; omega), fun x hx => ⟨(h.rows x hx).p.kept b (fun y hy => by have := ((h.rows x hx).p.lt y hy).1; omega), (h.rows x hx).l.kept b (fun y hy => by have := ((h.rows x hx).l.lt y hy).1; omega)⟩, h.off⟩
theorem LineLay.drew {w : World} {B : Nat} {a : Option Addr} {c : Nat} {xs : List Ha} (h : LineLay w B a c xs) : LineLay w.drew B a c xs := ⟨h.row.drew, fun x hx => ⟨(h.rows x hx).p.drew, (h.rows x hx).l.drew⟩, h.off⟩
theorem LineLay.alloc {w : World} {B : Nat} {a : Option Addr} {c : Nat} {xs : List Ha} (h : LineLay w B a c xs) (o : Obj) : LineLay (w.alloc o) B a c xs := h.later ((Below.refl _ _).alloc (Nat.le_refl _) _)
theorem LineLay.mono {w : World} {B B' : Nat} {a : Option Addr} {c : Nat} {xs : List Ha} (h : LineLay w B' a c xs) (hB : B ≤ B') : LineLay w B a c xs := ⟨h.row.mono hB, fun x hx => ⟨(h.rows x hx).p.mono hB, (h.rows x hx).l.mono hB⟩, h.off⟩
/-- One hop of a line: its window, its rows; and the line again, when it alone was turned. -/
theorem LineLay.step {w : World} {B g : Nat} {c : Nat} {xs : List Ha} (L : LineLay w B (some ⟨g, 0, none⟩) c xs) {i : Nat} {x : Ha} (hx : xs[i]? = some x) :
    ∃ pre post, Win 85 pre post (i * 13) w g x.c ∧ Rows w B x ∧ ∀ w' (y : Ha), Win 85 pre post (i * 13) w' g y.c → Rows w' B y → Keep g (blk x.aW) w w' → Locd w.heap.size x.aW y.aW → LineLay w' B (some ⟨g, 0, none⟩) c (xs.set i y) := by
  obtain ⟨pre, post, v, back⟩ := L.row.win hx
  have hxm := List.mem_of_getElem? hx
  refine ⟨pre, post, v, L.rows x hxm, fun w' y v' r' kp loc => ⟨back w' y v', ?_, ?_⟩⟩
  · intro z hz
    obtain ⟨j, hj, rfl⟩ := List.getElem_of_mem hz
    by_cases e : i = j
    · subst e
      rw [List.getElem_set_self]
      exact r'
    · rw [List.getElem_set_ne e]
      have hj' : j < xs.length := by simpa using hj
      have hzj : xs[j]? = some xs[j] := List.getElem?_eq_getElem hj'
      have R := L.rows xs[j] (List.getElem_mem hj')
      have hoff := L.off i j x xs[j] e hx hzj
      have Rx := L.rows x hxm
      refine ⟨R.p.keep kp (own_win (by decide) R.p v) (own_two (by decide) R.p Rx.l), R.l.keep kp (own_win (by decide) R.l v) ?_⟩
      intro q hq e'
      cases hw : x.aW with
      | none => rw [hw] at e'; simp [blk] at e'
      | some p =>
        rw [hw] at e'
        simp only [blk, Option.map_some, Option.some.injEq] at e'
        exact hoff p q hw hq e'.symm
  · intro j k z u hjk hz hu
    have key : ∀ (m : Nat) (t : Ha), i ≠ m → xs[m]? = some t → Off y t ∧ Off t y := by
      intro m t him ht
      have R := L.rows t (List.mem_of_getElem? ht)
      have hoff := L.off i m x t him hx ht
      have main : Off y t := by
        intro p q hp hq
        rcases loc p hp with ⟨p', hp', e⟩ | e
        · rw [← e]
          exact hoff p' q hp' hq
        · have := (R.l.lt q hq).2
          omega
      exact ⟨main, fun p q hp hq => Ne.symm (main q p hq hp)⟩
    by_cases ej : i = j
    · subst ej
      have hlen : i < xs.length := (List.getElem?_eq_some_iff.1 hx).1
      rw [List.getElem?_set_self hlen] at hz
      cases hz
      rw [List.getElem?_set_ne hjk] at hu
      exact (key k u hjk hu).1
    · rw [List.getElem?_set_ne ej] at hz
      by_cases ek : i = k
      · subst ek
        have hlen : i < xs.length := (List.getElem?_eq_some_iff.1 hx).1
        rw [List.getElem?_set_self hlen] at hu
        cases hu
        exact (key j z ej hz).2
      · rw [List.getElem?_set_ne ek] at hu
        exact L.off j k z u hjk hz hu
/-- A type that no row of a line is of. -/
structure NT (T : TypeId) : Prop where
  h : T ≠ 85
  p : T ≠ 136
  l : T ≠ 87
  r : T ≠ 97
theorem LineLay.keptW {T : TypeId} {pre post : List Value} {ow : Nat} {w w' : World} {B k : Nat} {a : Option Addr} {c : Nat} {xs : List Ha} {vs : List Value} (L : LineLay w B a c xs) (v : Win T pre post ow w k vs) (hT : NT T) (b : Draw.Kept k w w') : LineLay w' B a c xs :=
  ⟨L.row.kept b (own_win hT.h L.row v), fun x hx => ⟨(L.rows x hx).p.kept b (own_win hT.p (L.rows x hx).p v), (L.rows x hx).l.kept b (own_win hT.l (L.rows x hx).l v)⟩, L.off⟩
end Go.Proofs.Ytldghgadkncehaa.Lin
namespace Go.Proofs.Ytldghgadkncehaa.RegJ
open Go.RowKit
abbrev Tie := Nat × Nat × (Value → World → Prop)
def ValP (vs : List (Option Value)) (ps : List Tie) (d : Nat → Bool) (j : Nat) (v : Value) (w : World) : Prop := Val vs d j v w ∧ ∀ q ∈ ps, j = q.1 → d q.2.1 = false → q.2.2 v w
theorem ValP.keep {vs : List (Option Value)} {ps : List Tie} {d : Nat → Bool} {x : Nat → Value} {w w' : World} {i : Nat} (h : ∀ q ∈ ps, i = q.1 ∨ i = q.2.1 ∨ d q.2.1 = true ∨ ∀ v, q.2.2 v w → q.2.2 v w') :
    ∀ j, j ≠ i → ValP vs ps d j (x j) w → ValP vs ps (fun j => j == i || d j) j (x j) w' := fun j hj hv =>
  ⟨Val.keep j hj hv.1, fun q hq he hz => by
    have hz' : (q.2.1 == i) = false ∧ d q.2.1 = false := by simpa using hz
    rcases h q hq with h1 | h1 | h1 | h1
    · exact absurd (he.trans h1.symm) hj
    · simp [h1] at hz'
    · rw [hz'.2] at h1; cases h1
    · exact h1 _ (hv.2 q hq he hz'.2)⟩
theorem ValP.same {vs : List (Option Value)} {ps : List Tie} {d : Nat → Bool} {x : Nat → Value} {w : World} {i : Nat} : ∀ j, j ≠ i → ValP vs ps d j (x j) w → ValP vs ps (fun j => j == i || d j) j (x j) w := ValP.keep fun _ _ => .inr (.inr (.inr fun _ h => h))
theorem ValP.this {vs : List (Option Value)} {ps : List Tie} {d : Nat → Bool} {w : World} {i : Nat} {v : Value} (h : vs[i]? = some (some v) ∨ vs[i]? = some none) (hp : ∀ q ∈ ps, i = q.1 → q.2.2 v w) : ValP vs ps (fun j => j == i || d j) i v w :=
  ⟨Val.this h, fun q hq he _ => hp q hq he⟩
theorem ValP.free {vs : List (Option Value)} {ps : List Tie} {d : Nat → Bool} {w : World} {i : Nat} {v : Value} (h : vs[i]? = some (some v) ∨ vs[i]? = some none) (hn : (ps.all fun q => q.1 != i) = true) : ValP vs ps (fun j => j == i || d j) i v w :=
  ValP.this h fun q hq he => by
    simp only [List.all_eq_true] at hn
    have := hn q hq
    simp [he] at this
theorem ValP.val {vs : List (Option Value)} {ps : List Tie} {d : Nat → Bool} {j : Nat} {v : Value} {w : World} (h : ValP vs ps d j v w) {u : Value} (hu : vs[j]? = some (some u)) : v = u := h.1.2 u hu
theorem ValP.done {vs : List (Option Value)} {ps : List Tie} {d : Nat → Bool} {j : Nat} {v : Value} {w : World} (h : ValP vs ps d j v w) : d j = true := h.1.1
theorem ValP.tie {vs : List (Option Value)} {ps : List Tie} {d : Nat → Bool} {j : Nat} {v : Value} {w : World} (h : ValP vs ps d j v w) (q : Tie) (hq : q ∈ ps) (he : j = q.1) (hz : d q.2.1 = false) : q.2.2 v w := h.2 q hq he hz
end Go.Proofs.Ytldghgadkncehaa.RegJ

/- What is told of an operation's value in a region that draws its order (for RegJ): shapes, and that they stay while only the cursor's block, or one block below, turns. Plain. -/
import Derived.Test.YtldghgadkncehaaRegJ
import Derived.Test.YtldghgadkncehaaRowG
namespace Go.Proofs.Ytldghgadkncehaa.RegJ
open Go.RowKit RowG
set_option linter.unusedVariables false

/-- any: nothing is told; eq: this very value; int: a number from lo to hi; num: a number; flag: a Boolean; str: a text of at most n bytes; row: a slice of vs, in a block of its own behind c; elem: the address of one of these; one: one of vs; at: nothing of the value, but block k holds vs; made: a block of its own that holds zs till operation z is done, then something of which p holds. -/
inductive Sh where
  | any
  | eq (u : Value)
  | int (lo hi : Int)
  | num
  | flag
  | str (n : Nat)
  | row (T : TypeId) (vs : List Value)
  | elem (T : TypeId) (vs : List Value)
  | one (vs : List Value)
  | at (T : TypeId) (k : Nat) (vs : List Value)
  | sat (p : Value → Prop)
  | made (z : Nat) (T : TypeId) (zs : List Value) (p : List Value → Prop)
/-- d: which operations are done. -/
def Sh.ok (c : Nat) (d : Nat → Bool) : Sh → Value → World → Prop
  | .any, _, _ => True
  | .eq u, v, _ => v = u
  | .int lo hi, v, _ => ∃ y : Int, lo ≤ y ∧ y ≤ hi ∧ v = .int .i64 y
  | .num, v, _ => ∃ y : Int, v = .int .i64 y
  | .flag, v, _ => ∃ b : Bool, v = .bool b
  | .str n, v, _ => ∃ s : ByteArray, s.size ≤ n ∧ v = .string s
  | .row T vs, v, w => ∃ b : Nat, c < b ∧ v = .slice (some ⟨b, 0, none⟩) vs.length vs.length ∧ Var T w b vs
  | .elem T vs, v, w => ∃ b i : Nat, c < b ∧ i < vs.length ∧ v = .pointer (some ⟨b, i, none⟩) ∧ Var T w b vs
  | .one vs, v, _ => v ∈ vs
  | .at T k vs, _, w => k ≠ c ∧ Var T w k vs
  | .sat p, v, _ => p v
  | .made z T zs p, v, w => ∃ b : Nat, c < b ∧ v = .pointer (some ⟨b, 0, none⟩) ∧ (d z = false → Var T w b zs) ∧ (d z = true → ∃ vs, p vs ∧ Var T w b vs)
def Sh.isAt : Sh → Bool
  | .at _ _ _ => true
  | .made _ _ _ _ => true
  | _ => false
/-- No shape hangs on whether operation i is done. -/
def Sh.offOf (i : Nat) : Sh → Bool
  | .made z _ _ _ => z != i
  | _ => true
theorem Sh.kept {c i : Nat} {d : Nat → Bool} {w w' : World} (k : Draw.Kept c w w') : ∀ (s : Sh) (u : Value), s.offOf i = true → s.ok c d u w → s.ok c (fun j => j == i || d j) u w'
  | .any, _, _, h => h
  | .eq _, _, _, h => h
  | .int _ _, _, _, h => h
  | .num, _, _, h => h
  | .flag, _, _, h => h
  | .str _, _, _, h => h
  | .row T vs, v, _, ⟨b, hb, hv, hr⟩ => ⟨b, hb, hv, hr.kept k (by omega)⟩
  | .elem T vs, v, _, ⟨b, i, hb, hi, hv, hr⟩ => ⟨b, i, hb, hi, hv, hr.kept k (by omega)⟩
  | .one _, _, _, h => h
  | .at T k' vs, v, _, ⟨hk, hr⟩ => ⟨hk, hr.kept k hk⟩
  | .sat _, _, _, h => h
  | .made z T zs p, v, hz, ⟨b, hb, hv, h0, h1⟩ => by
    have hzi : (z == i) = false := by simpa [Sh.offOf] using hz
    refine ⟨b, hb, hv, fun hd => ?_, fun hd => ?_⟩
    · exact (h0 (by simpa [hzi] using hd)).kept k (by omega)
    · obtain ⟨vs, hp, hr⟩ := h1 (by simpa [hzi] using hd)
      exact ⟨vs, hp, hr.kept k (by omega)⟩
theorem Sh.store {c k0 i : Nat} {d d' : Nat → Bool} {w w' : World} (k : Draw.Kept k0 w w') (hk0 : k0 ≤ c) : ∀ (s : Sh) (u : Value), s.isAt = false → s.ok c d u w → s.ok c d' u w'
  | .any, _, _, h => h
  | .eq _, _, _, h => h
  | .int _ _, _, _, h => h
  | .num, _, _, h => h
  | .flag, _, _, h => h
  | .str _, _, _, h => h
  | .row T vs, v, _, ⟨b, hb, hv, hr⟩ => ⟨b, hb, hv, hr.kept k (by omega)⟩
  | .elem T vs, v, _, ⟨b, i, hb, hi, hv, hr⟩ => ⟨b, i, hb, hi, hv, hr.kept k (by omega)⟩
  | .one _, _, _, h => h
  | .at _ _ _, _, h, _ => by simp [Sh.isAt] at h
  | .sat _, _, _, h => h
  | .made _ _ _ _, _, h, _ => by simp [Sh.isAt] at h
/-- What is told of operation i. -/
abbrev Tell (c : Nat) (shs : List Sh) (d : Nat → Bool) (i : Nat) (v : Value) (w : World) : Prop := (shs.getD i .any).ok c d v w
theorem off_all {shs : List Sh} {i : Nat} (h : shs.all (Sh.offOf i) = true) (j : Nat) : (shs.getD j .any).offOf i = true := by
  rcases Nat.lt_or_ge j shs.length with hl | hl
  · simp only [List.all_eq_true] at h
    have : shs.getD j .any = shs[j] := by simp [List.getD, hl]
    rw [this]
    exact h _ (List.getElem_mem hl)
  · simp [List.getD, List.getElem?_eq_none hl, Sh.offOf]
theorem Tell.keep {c : Nat} {shs : List Sh} {d : Nat → Bool} {x : Nat → Value} {w w' : World} {i : Nat} (k : Draw.Kept c w w') (hm : shs.all (Sh.offOf i) = true := by rfl) : ∀ j, j ≠ i → Tell c shs d j (x j) w → Tell c shs (fun j => j == i || d j) j (x j) w' := fun j _ h => Sh.kept k _ _ (off_all hm j) h
theorem Tell.same {c : Nat} {shs : List Sh} {d : Nat → Bool} {x : Nat → Value} {w : World} {i : Nat} (hm : shs.all (Sh.offOf i) = true := by rfl) : ∀ j, j ≠ i → Tell c shs d j (x j) w → Tell c shs (fun j => j == i || d j) j (x j) w := Tell.keep (Draw.Kept.refl _ _) hm
def noAt (shs : List Sh) (z : Nat) : Bool := (List.range shs.length).all fun j => j == z || !(shs.getD j .any).isAt
theorem Tell.stored {c k0 : Nat} {shs : List Sh} {d d' : Nat → Bool} {x : Nat → Value} {w w' : World} {z : Nat} (hn : noAt shs z = true) (k : Draw.Kept k0 w w') (hk0 : k0 ≤ c) : ∀ j, j ≠ z → Tell c shs d j (x j) w → Tell c shs d' j (x j) w' := by
  intro j hj h
  refine Sh.store (i := 0) k hk0 _ _ ?_ h
  simp only [noAt, List.all_eq_true, List.mem_range] at hn
  rcases Nat.lt_or_ge j shs.length with hl | hl
  · have := hn j hl
    simpa [hj] using this
  · simp [List.getD, List.getElem?_eq_none hl, Sh.isAt]
/-- As offOf, and no shape 'at'. -/
def Sh.offLe (i : Nat) : Sh → Bool
  | .made z _ _ _ => z != i
  | .at _ _ _ => false
  | _ => true
theorem Sh.keptLe {c c' i : Nat} {d : Nat → Bool} {w w' : World} (k : Draw.Kept c' w w') (hc : c' ≤ c) : ∀ (s : Sh) (u : Value), s.offLe i = true → s.ok c d u w → s.ok c (fun j => j == i || d j) u w'
  | .any, _, _, h => h
  | .eq _, _, _, h => h
  | .int _ _, _, _, h => h
  | .num, _, _, h => h
  | .flag, _, _, h => h
  | .str _, _, _, h => h
  | .row T vs, v, _, ⟨b, hb, hv, hr⟩ => ⟨b, hb, hv, hr.kept k (by omega)⟩
  | .elem T vs, v, _, ⟨b, i, hb, hi, hv, hr⟩ => ⟨b, i, hb, hi, hv, hr.kept k (by omega)⟩
  | .one _, _, _, h => h
  | .at T k' vs, v, h, _ => by simp [Sh.offLe] at h
  | .sat _, _, _, h => h
  | .made z T zs p, v, hz, ⟨b, hb, hv, h0, h1⟩ => by
    have hzi : (z == i) = false := by simpa [Sh.offLe] using hz
    refine ⟨b, hb, hv, fun hd => ?_, fun hd => ?_⟩
    · exact (h0 (by simpa [hzi] using hd)).kept k (by omega)
    · obtain ⟨vs, hp, hr⟩ := h1 (by simpa [hzi] using hd)
      exact ⟨vs, hp, hr.kept k (by omega)⟩
/-- As keep, where another block up to c may have turned. -/
theorem Tell.keepLe {c c' : Nat} {shs : List Sh} {d : Nat → Bool} {x : Nat → Value} {w w' : World} {i : Nat} (k : Draw.Kept c' w w') (hc : c' ≤ c) (hm : shs.all (Sh.offLe i) = true := by rfl) : ∀ j, j ≠ i → Tell c shs d j (x j) w → Tell c shs (fun j => j == i || d j) j (x j) w' := by
  intro j _ h
  refine Sh.keptLe k hc _ _ ?_ h
  rcases Nat.lt_or_ge j shs.length with hl | hl
  · simp only [List.all_eq_true] at hm
    have : shs.getD j .any = shs[j] := by simp [List.getD, hl]
    rw [this]
    exact hm _ (List.getElem_mem hl)
  · simp [List.getD, List.getElem?_eq_none hl, Sh.offLe]
/-- Where nothing is told of memory. -/
def Sh.isPure : Sh → Bool
  | .row _ _ => false
  | .elem _ _ => false
  | .at _ _ _ => false
  | .made _ _ _ _ => false
  | _ => true
theorem Sh.pure {c : Nat} {d d' : Nat → Bool} {w w' : World} : ∀ (s : Sh) (u : Value), s.isPure = true → s.ok c d u w → s.ok c d' u w'
  | .any, _, _, h => h
  | .eq _, _, _, h => h
  | .int _ _, _, _, h => h
  | .num, _, _, h => h
  | .flag, _, _, h => h
  | .str _, _, _, h => h
  | .row _ _, _, h, _ => by simp [Sh.isPure] at h
  | .elem _ _, _, h, _ => by simp [Sh.isPure] at h
  | .one _, _, _, h => h
  | .at _ _ _, _, h, _ => by simp [Sh.isPure] at h
  | .sat _, _, _, h => h
  | .made _ _ _ _, _, h, _ => by simp [Sh.isPure] at h
theorem Tell.pure {c : Nat} {shs : List Sh} {d d' : Nat → Bool} {x : Nat → Value} {w w' : World} {i : Nat} (hp : shs.all Sh.isPure = true) : ∀ j, j ≠ i → Tell c shs d j (x j) w → Tell c shs d' j (x j) w' := by
  intro j _ h
  refine Sh.pure _ _ ?_ h
  rcases Nat.lt_or_ge j shs.length with hl | hl
  · simp only [List.all_eq_true] at hp
    have : shs.getD j .any = shs[j] := by simp [List.getD, hl]
    rw [this]
    exact hp _ (List.getElem_mem hl)
  · simp [List.getD, List.getElem?_eq_none hl, Sh.isPure]
/-- Not a shape that a store into a block of type T, operation z, could touch. -/
def Sh.offT (z : Nat) (T : TypeId) : Sh → Bool
  | .row T' _ => T' != T
  | .elem T' _ => T' != T
  | .made z' T' _ _ => z' != z && T' != T
  | .at _ _ _ => false
  | _ => true
theorem var_ne {T T' : TypeId} {w : World} {b b' : Nat} {vs vs' : List Value} (h : Var T w b vs) (h' : Var T' w b' vs') (hT : (T' != T) = true) : b' ≠ b := by
  intro e
  subst e
  have h1 : w.heap[b']? = _ := h
  have h2 : w.heap[b']? = _ := h'
  rw [h1] at h2
  injection h2 with h2
  injection h2 with _ h3 _
  subst h3
  simp at hT
/-- The store that gives a made block its value. -/
theorem Tell.gave {c b z : Nat} {shs : List Sh} {d : Nat → Bool} {x : Nat → Value} {w w' : World} (m : Nat) {T : TypeId} {zs vs zs0 : List Value} {p : List Value → Prop} (hs : shs.getD m .any = .made z T zs p) (ho : (List.range shs.length).all (fun j => j == m || (shs.getD j .any).offT z T) = true) (k : Draw.Kept b w w') (hbx : x m = .pointer (some ⟨b, 0, none⟩)) (hv0 : Var T w b zs0) (hv : Var T w' b vs) (hp : p vs) (hbc : c < b) :
    ∀ j, j ≠ z → Tell c shs d j (x j) w → Tell c shs (fun j => j == z || d j) j (x j) w' := by
  intro j hj h
  by_cases hjm : j = m
  · subst hjm
    unfold Tell at h ⊢
    rw [hs] at h ⊢
    refine ⟨b, hbc, hbx, fun hd' => absurd hd' (by simp), fun _ => ⟨vs, hp, hv⟩⟩
  · rcases Nat.lt_or_ge j shs.length with hl | hl
    · simp only [List.all_eq_true, List.mem_range] at ho
      have ho' := ho j hl
      unfold Tell at h ⊢
      generalize shs.getD j .any = s at *
      generalize x j = u at *
      have ho2 : s.offT z T = true := by simpa [hjm] using ho'
      cases s with
      | any => exact h
      | eq _ => exact h
      | int _ _ => exact h
      | num => exact h
      | flag => exact h
      | str _ => exact h
      | one _ => exact h
      | sat _ => exact h
      | «at» _ _ _ => simp [Sh.offT] at ho2
      | row T' vs' =>
        obtain ⟨b', hb', hv', hr⟩ := h
        exact ⟨b', hb', hv', hr.kept k (var_ne hv0 hr (by simpa [Sh.offT] using ho2))⟩
      | elem T' vs' =>
        obtain ⟨b', i', hb', hi', hv', hr⟩ := h
        exact ⟨b', i', hb', hi', hv', hr.kept k (var_ne hv0 hr (by simpa [Sh.offT] using ho2))⟩
      | made z' T' zs' p' =>
        obtain ⟨b', hb', hv', h0, h1⟩ := h
        simp only [Sh.offT, Bool.and_eq_true] at ho2
        have hzi : (z' == z) = false := by simpa using ho2.1
        refine ⟨b', hb', hv', fun hd' => ?_, fun hd' => ?_⟩
        · have q := h0 (by simpa [hzi] using hd')
          exact q.kept k (var_ne hv0 q ho2.2)
        · obtain ⟨vs', hp', hr⟩ := h1 (by simpa [hzi] using hd')
          exact ⟨vs', hp', hr.kept k (var_ne hv0 hr ho2.2)⟩
    · unfold Tell
      simp [List.getD, List.getElem?_eq_none hl, Sh.ok]
theorem int_cell {T : TypeId} {w : World} {b i : Nat} {ns : List Int} (h : Var T w b (ns.map (Value.int .i64))) (hi : i < (ns.map (Value.int .i64)).length) : ∃ n : Int, w.cell? ⟨b, i, none⟩ = some (.int .i64 n) := by
  have hi' : i < ns.length := by simpa using hi
  exact ⟨ns[i], h.cell (by simp [hi'])⟩
theorem int_sat {T : TypeId} {w : World} {b i : Nat} {ns : List Int} (h : Var T w b (ns.map (Value.int .i64))) (hi : i < (ns.map (Value.int .i64)).length) : ∃ n : Int, n ∈ ns ∧ w.cell? ⟨b, i, none⟩ = some (.int .i64 n) := by
  have hi' : i < ns.length := by simpa using hi
  exact ⟨ns[i], List.getElem_mem hi', h.cell (by simp [hi'])⟩
theorem six_mem {α : Type} {l : List α} {i : Nat} (h : i < l.length) : ∃ x, l[i]? = some x ∧ x ∈ l := ⟨l[i], by simp [h], List.getElem_mem h⟩

end Go.Proofs.Ytldghgadkncehaa.RegJ

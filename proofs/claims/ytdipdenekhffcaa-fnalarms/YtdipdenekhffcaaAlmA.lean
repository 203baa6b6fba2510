/- Alarms (chapter 8): plain mathematics, how they lie in memory, the specification's l8Alarm, l8Less and AlarmsOk; lists of at most 2^21 alarms. -/
import Derived.Test.YtdipdenekhffcaaNumA
import Derived.Test.YtdipdenekhffcaaDrawB
import Derived.Test.YtdipdenekhffcaaRowG
import Derived.BigQuiet
import Derived.Deep.AppendLies
import Derived.Laws.AppendOwnNone
namespace Go.Proofs.Ytdipdenekhffcaa.Alm
open Go.RowKit
set_option linter.unusedVariables false
set_option linter.unusedSimpArgs false

abbrev Al := Int × Int
def alB (s : Al) : Bool := Num.plB s.1 && Num.plB s.2
/-- The soonest first. -/
def ltB (a b : Al) : Bool := decide (a.1 < b.1 ∨ a.1 = b.1 ∧ a.2 < b.2)
/-- The alarm at k is one, and stands behind the one ahead of it. -/
def good (l : List Al) (k : Nat) : Prop := alB (l.getD k (0, 0)) = true ∧ (k = 0 ∨ ltB (l.getD (k - 1) (0, 0)) (l.getD k (0, 0)) = true)
instance (l : List Al) (k : Nat) : Decidable (good l k) := by unfold good; exact inferInstance
def allGood (l : List Al) : Prop := ∀ k, k < l.length → good l k
instance (l : List Al) : Decidable (allGood l) := by unfold allGood; exact inferInstance
def alarmsB (l : List Al) : Bool := decide (allGood l) && decide (l.length ≤ 20)
theorem mix : Try.prog.follows .mixedOrders = true := by kernel_rfl

/-- Alarms that can be read, from an address on. -/
def Alarms (w : World) (a : Option Addr) (l : List Al) : Prop :=
  l = [] ∨ ∃ b off, a = some ⟨b, off, none⟩ ∧ ∀ i, i < l.length → w.cell? ⟨b, off + i * 2, none⟩ = some (.int .i64 (l.getD i (0, 0)).1) ∧ w.cell? ⟨b, off + i * 2 + 1, none⟩ = some (.int .i64 (l.getD i (0, 0)).2)

theorem Alarms.below {w w' : World} {a : Option Addr} {l : List Al} (h : Alarms w a l) (hB : Below w.heap.size w w') : Alarms w' a l := by
  rcases h with h | ⟨b, off, rfl, h⟩
  · exact .inl h
  · refine .inr ⟨b, off, rfl, fun i hi => ?_⟩
    have hb : b < w.heap.size := Draw.lt_of_cell (h i hi).1
    exact ⟨(hB.cell (p := ⟨b, off + i * 2, none⟩) hb).trans (h i hi).1, (hB.cell (p := ⟨b, off + i * 2 + 1, none⟩) hb).trans (h i hi).2⟩
theorem box2 {w w1 : World} {v0 v1 : Value} {T : TypeId} (hB : Below (w.alloc (.cells #[v0, v1] T)).heap.size (w.alloc (.cells #[v0, v1] T)) w1) : w1.cell? ⟨w.heap.size, 0, none⟩ = some v0 ∧ w1.cell? ⟨w.heap.size, 1, none⟩ = some v1 := by
  have h : ∀ i, w1.cell? ⟨w.heap.size, i, none⟩ = (w.alloc (.cells #[v0, v1] T)).cell? ⟨w.heap.size, i, none⟩ := fun i => hB.cell (p := ⟨w.heap.size, i, none⟩) (by show w.heap.size < (w.alloc _).heap.size; simp)
  exact ⟨(h 0).trans (by simp), (h 1).trans (by simp)⟩

set_option maxHeartbeats 1000000 in
theorem l8Alarm (f t : Int) (w : World) : Calls Try.prog 49 #[.agg #[.int .i64 f, .int .i64 t]] w fun x w' => x = .returned (.bool (alB (f, t))) ∧ Below w.heap.size w w' := by
  have fin : ∀ {o : Obj}, Below w.heap.size w (w.alloc o) := fun {o} => (Below.refl _ _).alloc (Nat.le_refl _) o
  cases h1 : Num.plB f
  · go_enter Try.func49, Try.ntmps49
    go_wp2_with (go_at_call 51; refine (Num.l1Place _ _).mono ?_; rintro x w' ⟨rfl, rfl⟩)
    go_ret
    exact ⟨Num.ret_bool (by simp [alB, h1]), fin⟩
  · cases h2 : Num.plB t
    all_goals
      go_enter Try.func49, Try.ntmps49
      go_wp2_with (go_at_call 51; refine (Num.l1Place _ _).mono ?_; rintro x w' ⟨rfl, rfl⟩)
      go_ret
      exact ⟨Num.ret_bool (by simp [alB, h1, h2]), fin⟩
theorem l8AlarmEq {f t : Int} {v : Bool} (h : alB (f, t) = v) (w : World) : Calls Try.prog 49 #[.agg #[.int .i64 f, .int .i64 t]] w fun x w' => x = .returned (.bool v) ∧ Below w.heap.size w w' := by
  subst h
  exact l8Alarm f t w

set_option maxHeartbeats 1000000 in
theorem l8Less (f t f' t' : Int) (w : World) : Calls Try.prog 48 #[.agg #[.int .i64 f, .int .i64 t], .agg #[.int .i64 f', .int .i64 t']] w fun x w' => x = .returned (.bool (ltB (f, t) (f', t'))) ∧ Below w.heap.size w w' := by
  have fin : ∀ {o o' : Obj}, Below w.heap.size w ((w.alloc o).alloc o') := fun {o o'} => ((Below.refl _ _).alloc (Nat.le_refl _) o).alloc (by simp) o'
  by_cases h1 : f < f'
  · go_enter Try.func48, Try.ntmps48
    go_wp2_with fail
    go_ret
    exact ⟨Num.ret_bool (by simp [ltB, h1]), fin⟩
  · by_cases h2 : f = f'
    · subst h2
      by_cases h3 : t < t'
      all_goals
        go_enter Try.func48, Try.ntmps48
        go_wp2_with fail
        go_ret
        exact ⟨Num.ret_bool (by simp [ltB, h1, h3]), fin⟩
    · have h2' : (f == f') = false := by simpa using h2
      go_enter Try.func48, Try.ntmps48
      go_wp2_with fail
      go_ret
      exact ⟨Num.ret_bool (by simp [ltB, h1, h2]), fin⟩
theorem l8LessEq {f t f' t' : Int} {v : Bool} (h : ltB (f, t) (f', t') = v) (w : World) : Calls Try.prog 48 #[.agg #[.int .i64 f, .int .i64 t], .agg #[.int .i64 f', .int .i64 t']] w fun x w' => x = .returned (.bool v) ∧ Below w.heap.size w w' := by
  subst h
  exact l8Less f t f' t' w

theorem bad_at {l : List Al} {k : Nat} (hk : k < l.length) (h : ¬ good l k) : alarmsB l = false := by
  have : ¬ allGood l := fun ha => h (ha k hk)
  simp only [alarmsB, decide_eq_false this, Bool.false_and]
theorem good_all {l : List Al} (h : ∀ j, j < l.length → good l j) : alarmsB l = decide (l.length ≤ 20) := by
  have : allGood l := h
  simp only [alarmsB, decide_eq_true this, Bool.true_and]

def E : RowG.El Al where
  enc a := [.int .i64 a.1, .int .i64 a.2]
  size := 2
  len _ := rfl
  one x u hu := by simp at hu; rcases hu with rfl | rfl <;> rfl
  pos := by decide
def vals (l : List Al) : List Value := l.flatMap fun s => [.int .i64 s.1, .int .i64 s.2]
theorem vals_len (l : List Al) : (vals l).length = l.length * 2 := by
  induction l with
  | nil => rfl
  | cons s l ih => simp only [vals, List.flatMap_cons, List.length_append, List.length_cons, List.length_nil] at ih ⊢; omega
theorem vals_snoc (l : List Al) (f t : Int) : vals l ++ [.int .i64 f, .int .i64 t] = vals (l ++ [(f, t)]) := by simp [vals]
theorem vals_at : ∀ (l : List Al) (i : Nat), i < l.length → (vals l)[i * 2]? = some (.int .i64 (l.getD i (0, 0)).1) ∧ (vals l)[i * 2 + 1]? = some (.int .i64 (l.getD i (0, 0)).2)
  | [], i, h => by simp at h
  | s :: l, 0, h => by simp [vals]
  | s :: l, i + 1, h => by
    have ih := vals_at l i (by simpa using h)
    have e : vals (s :: l) = .int .i64 s.1 :: .int .i64 s.2 :: vals l := by simp [vals]
    have e1 : (i + 1) * 2 = i * 2 + 1 + 1 := by omega
    rw [e, e1]
    simpa using ih
theorem infoAlarm : (Try.prog.info? 26).map (fun i => (i.zero, i.size, i.bytes)) = some (some (.agg #[.int .i64 0, .int .i64 0]), 2, 16) := by kernel_rfl
theorem two_cells (f t : Int) : ∀ u ∈ [Value.int .i64 f, .int .i64 t], u.oneCell' = true := by
  intro u hu
  simp at hu
  rcases hu with rfl | rfl <;> rfl
theorem news2 {w : World} {o : Obj} {f t : Int} {T : TypeId} : ∀ j u, [Value.int .i64 f, .int .i64 t][j]? = some u → ((w.alloc o).alloc (.cells #[.int .i64 f, .int .i64 t] T)).cell? ((⟨w.heap.size + 1, 0, none⟩ : Addr).add j) = some u := by
  have h := World.news_of_block (heap_alloc_new (w.alloc o) (.cells #[.int .i64 f, .int .i64 t] T))
  have e : (w.alloc o).heap.size = w.heap.size + 1 := by simp
  rw [e] at h
  exact h
/-- A slice of alarms of the call's own. -/
def Own (w : World) (B g cap : Nat) (l : List Al) : Prop := w.ownsRow B 26 2 (.slice (some ⟨g, 0, none⟩) l.length cap) l.length (vals l)
theorem Own.alarms {w : World} {B g cap : Nat} {l : List Al} (h : Own w B g cap l) : Alarms w (some ⟨g, 0, none⟩) l := by
  refine .inr ⟨g, 0, rfl, fun i hi => ?_⟩
  have e : ∀ j, (⟨g, 0, none⟩ : Addr).add j = ⟨g, 0 + j, none⟩ := fun j => by unfold Addr.add; split <;> simp_all
  have hv := vals_at l i hi
  exact ⟨by rw [← e]; exact h.cells (g := g) rfl _ _ hv.1, by rw [Nat.add_assoc, ← e]; exact h.cells (g := g) rfl _ _ hv.2⟩
theorem Own.lt {w : World} {B g cap : Nat} {l : List Al} (h : Own w B g cap l) : B ≤ g ∧ g < w.heap.size := World.ownsRow.lt h g rfl
theorem Own.later {w w' : World} {B g cap : Nat} {l : List Al} (h : Own w B g cap l) (hb : Below w.heap.size w w') : Own w' B g cap l :=
  World.ownsRow.kept (row := none) h ⟨hb.os, hb.tape, hb.output, hb.size, fun k hk _ => hb.block k hk⟩ (.inr (by simp [Value.ownBlock]))
theorem own_nil (w : World) : Own (w.alloc (.cells #[] 26)) w.heap.size w.heap.size 0 [] := World.ownsRow_made w #[] 0 (Nat.le_refl _) (Nat.zero_le _) rfl

theorem Own.cap {w : World} {B g c : Nat} {l : List Al} (h : Own w B g c l) : l.length ≤ c := by
  obtain ⟨_, ⟨hv, _⟩ | ⟨g', cap, cur, hv, _, _, h3, _⟩⟩ := h
  · cases hv
  · cases hv; exact h3
theorem Own.other {w w' : World} {c B g cap : Nat} {l : List Al} (h : Own w B g cap l) (k : Draw.Kept c w w') (hc : g ≠ c) : Own w' B g cap l := by
  refine World.ownsRow.kept (row := some c) h ⟨k.os, k.tape, k.output, k.size, fun i hi hne => k.block i hi (fun e => hne (by rw [e]))⟩ (.inr ?_)
  simp [Value.ownBlock]
  omega

theorem ty : RowG.Typ Try.prog 24 26 E 16 := ⟨Try.underlying24, by
  obtain ⟨i, hi, h0, h1, h2⟩ := info_parts infoAlarm
  exact ⟨i, _, hi, h0, h1, h2, rfl⟩⟩
theorem Alarms.same {w w' : World} {a : Option Addr} {l : List Al} (h : Alarms w a l) (hB : Below w.heap.size w w') : Alarms w' a l := h.below hB
theorem Own.el {w : World} {B g c : Nat} {l : List Al} (h : Own w B g c l) : E.Own 26 w B (some ⟨g, 0, none⟩) c l := h
theorem el_own {w : World} {B g c : Nat} {l : List Al} (h : E.Own 26 w B (some ⟨g, 0, none⟩) c l) : Own w B g c l := h
theorem Alarms.el {w : World} {a : Option Addr} {l : List Al} (h : Alarms w a l) : E.Lies w a l := by
  rcases h with h | ⟨b, off, rfl, h⟩
  · exact .inl h
  · refine .inr ⟨b, off, rfl, fun j u hu => ?_⟩
    have hj : j < (vals l).length := (List.getElem?_eq_some_iff.1 hu).1
    rw [vals_len] at hj
    have hi : j / 2 < l.length := by omega
    have hv := vals_at l (j / 2) hi
    have hc := h (j / 2) hi
    change (vals l)[j]? = some u at hu
    rcases Nat.mod_two_eq_zero_or_one j with m | m
    · have ej : j / 2 * 2 = j := by omega
      rw [ej] at hv hc
      rw [hc.1, ← hv.1, hu]
    · have ej : j / 2 * 2 + 1 = j := by omega
      rw [Nat.add_assoc, ej] at hc
      rw [ej] at hv
      rw [hc.2, ← hv.2, hu]

end Go.Proofs.Ytdipdenekhffcaa.Alm

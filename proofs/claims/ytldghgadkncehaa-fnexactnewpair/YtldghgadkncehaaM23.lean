/- Contracts of this seat's functions, and their mathematics (RowS). -/
import Derived.Test.YtldghgadkncehaaM7
set_option linter.unusedVariables false
set_option linter.unusedSimpArgs false
namespace Go.Proofs.Ytldghgadkncehaa.RowG
open Go.RowKit
variable {α : Type} {E : El α}
theorem wp_appS {P : Program} {tS T : TypeId} {bytes : Nat} (ty : Typ P tS T E bytes) (hby : bytes ≤ 1024) {w : World} {o : Oper} {a : Act} {K : Act → World → Prop} {Q : Exit → Act → World → Prop} (s x : Operand)
    (ho : o.op = .call { callee := .builtin .append, args := #[s, x], argTypes := #[tS, tS] })
    (B g : Nat) (c n : Nat) (l1 l2 : List α) (hn : n = l1.length) (hs : a.eval s = .slice (some ⟨g, 0, none⟩) n c) (hown : E.Own T w B (some ⟨g, 0, none⟩) c l1) (hB : B ≤ w.heap.size)
    (sp : Option Addr) (m cap : Nat) (hm : m = l2.length) (hx : a.eval x = .slice sp m cap) (hsp : E.Lies w sp l2) (hcap : sp = none → cap = 0) (hl : l1.length + l2.length ≤ 4194304)
    (h : ∀ g' c' w', E.Own T w' B (some ⟨g', 0, none⟩) c' (l1 ++ l2) → w.grownBy w' (some g) → K (a.put o.dst (.slice (some ⟨g', 0, none⟩) (n + m) c')) w') : o.wp P a w K Q := by
  subst hn hm
  obtain ⟨hu, i, z, hi, hz0, hz1, hz2, hz3⟩ := ty
  cases sp with
  | none =>
    have hl0 : l2 = [] := by rcases hsp with e | ⟨_, _, e, _⟩; exact e; cases e
    subst hl0
    have hc0 := hcap rfl
    subst hc0
    have hrun := run_append_owned_none (P := P) (w := w) B tS o.type T i E.size hu hi _ l1.length (E.vals l1) hown
    unfold Oper.wp
    simp [execOp, ho, resolve, invoke, builtin, hs, hx, hrun, Result.andThen]
    exact h g c w (by rw [List.append_nil]; exact hown) ⟨rfl, rfl, rfl, Nat.le_refl _, fun _ _ _ => rfl⟩
  | some x' =>
    refine wp_append_own w s x tS ho B T i z E.size bytes hu hi hz0 hz1 hz2 hz3 E.pos _ l1.length (E.vals l1) hs hown x' l2.length cap (E.vals l2) hx (E.vals_len l2) (hsp.src rfl) (E.vals_cells l2) (by unfold maxLen; omega) ?_ hB ?_
    · have : (l1.length + l2.length) * bytes ≤ 4194304 * 1024 := Nat.mul_le_mul hl hby
      omega
    · intro v' w' h1 h2 h3
      rw [own_blk] at h2
      rcases h1.2 with ⟨hv, q⟩ | ⟨g', cap', cur, hv, _⟩
      · exact absurd (h3.1 hv).1 (by simp)
      · subst hv
        refine h _ cap' w' ?_ h2
        unfold El.Own
        rw [List.length_append, E.vals_append]
        exact h1
theorem wpList_appS {P : Program} {tS T : TypeId} {bytes : Nat} (ty : Typ P tS T E bytes) (hby : bytes ≤ 1024) {w : World} {ops : Array Oper} {rest : List Oper} {o : Oper} {a : Act} {Q : Exit → Act → World → Prop} (hgd : o.guard = none) (s x : Operand)
    (ho : o.op = .call { callee := .builtin .append, args := #[s, x], argTypes := #[tS, tS] })
    (B g : Nat) (c n : Nat) (l1 l2 : List α) (hn : n = l1.length) (hs : a.eval s = .slice (some ⟨g, 0, none⟩) n c) (hown : E.Own T w B (some ⟨g, 0, none⟩) c l1) (hB : B ≤ w.heap.size)
    (sp : Option Addr) (m cap : Nat) (hm : m = l2.length) (hx : a.eval x = .slice sp m cap) (hsp : E.Lies w sp l2) (hcap : sp = none → cap = 0) (hl : l1.length + l2.length ≤ 4194304)
    (h : ∀ g' c' w', E.Own T w' B (some ⟨g', 0, none⟩) c' (l1 ++ l2) → w.grownBy w' (some g) → wpList P ops Q rest (a.put o.dst (.slice (some ⟨g', 0, none⟩) (n + m) c')) w') : wpList P ops Q (o :: rest) a w :=
  wpList_plain hgd fun _ hK => wp_appS ty hby s x ho B g c n l1 l2 hn hs hown hB sp m cap hm hx hsp hcap hl fun a' c' w' h1 h2 => hK _ _ (h a' c' w' h1 h2)
theorem step_appS {P : Program} {tS T : TypeId} {bytes : Nat} (ty : Typ P tS T E bytes) (hby : bytes ≤ 1024) {w : World} {ops : Array Oper} {o : Oper} {a : Act} {K : Act → World → Prop} {Q : Exit → Act → World → Prop} {X : Prop} (hgd : o.guard = none) (s x : Operand)
    (ho : o.op = .call { callee := .builtin .append, args := #[s, x], argTypes := #[tS, tS] })
    (B g : Nat) (c n : Nat) (l1 l2 : List α) (hn : n = l1.length) (hs : a.eval s = .slice (some ⟨g, 0, none⟩) n c) (hown : E.Own T w B (some ⟨g, 0, none⟩) c l1) (hB : B ≤ w.heap.size)
    (sp : Option Addr) (m cap : Nat) (hm : m = l2.length) (hx : a.eval x = .slice sp m cap) (hsp : E.Lies w sp l2) (hcap : sp = none → cap = 0) (hl : l1.length + l2.length ≤ 4194304)
    (h : ∀ g' c' w', E.Own T w' B (some ⟨g', 0, none⟩) c' (l1 ++ l2) → w.grownBy w' (some g) → K (a.put o.dst (.slice (some ⟨g', 0, none⟩) (n + m) c')) w') : if Region.wanted o (yielded ops a.tmps) = true then Oper.wp P o a w K Q else X := by
  rw [if_pos (by simp [Region.wanted, hgd])]
  exact wp_appS ty hby s x ho B g c n l1 l2 hn hs hown hB sp m cap hm hx hsp hcap hl h
/-- A row's block is of its elements' type. -/
theorem own_rowS {e : TypeId} {w : World} {B g c : Nat} {l : List α} (o : E.Own e w B (some ⟨g, 0, none⟩) c l) : ∃ cs, w.heap[g]? = some (.cells cs e (0, 0)) := by
  unfold El.Own at o
  rcases o.2 with ⟨h1, _⟩ | ⟨g', cap, cur, h1, _, hgb, _⟩
  · cases h1
  · cases h1
    exact ⟨_, hgb⟩
theorem own_twoS {β : Type} {E' : El β} {e e' : TypeId} {w : World} {B B' g g' c c' : Nat} {l : List α} {l' : List β} (hne : e ≠ e') (o : E.Own e w B (some ⟨g, 0, none⟩) c l) (o' : E'.Own e' w B' (some ⟨g', 0, none⟩) c' l') : g ≠ g' := by
  intro he
  subst he
  obtain ⟨cs, h1⟩ := own_rowS o
  obtain ⟨cs', h2⟩ := own_rowS o'
  rw [h2] at h1
  cases h1
  exact hne rfl
theorem own_varS {e T : TypeId} {w : World} {B g c k : Nat} {l : List α} {vs : List Value} (hne : T ≠ e) (o : E.Own e w B (some ⟨g, 0, none⟩) c l) (v : Var T w k vs) : g ≠ k := by
  intro he
  subst he
  obtain ⟨cs, h1⟩ := own_rowS o
  unfold Var at v
  rw [h1] at v
  cases v
  exact hne rfl
theorem own_grownS {e : TypeId} {w w' : World} {B g c r : Nat} {l : List α} (o : E.Own e w B (some ⟨g, 0, none⟩) c l) (hg : w.grownBy w' (some r)) (hne : g ≠ r) : E.Own e w' B (some ⟨g, 0, none⟩) c l :=
  o.grown hg (fun x hx => by cases hx; simpa using hne)
/-- The first n of a row, in the same room. -/
theorem own_take {e : TypeId} {w : World} {B g c : Nat} {l : List α} (o : E.Own e w B (some ⟨g, 0, none⟩) c l) (n : Nat) : E.Own e w B (some ⟨g, 0, none⟩) c (l.take n) := by
  have hpre : E.vals (l.take n) <+: E.vals l := ⟨E.vals (l.drop n), by rw [← E.vals_append, List.take_append_drop]⟩
  obtain ⟨hx, ⟨hv, hn⟩ | ⟨g', cap, cur, hv, h1, h2, h3, h4, h5, h6⟩⟩ := o
  · cases hv
  · cases hv
    have hle : (l.take n).length ≤ l.length := by rw [List.length_take]; exact Nat.min_le_right _ _
    refine ⟨by rw [E.vals_len], .inr ⟨g, c, cur, rfl, h1, h2, Nat.le_trans hle h3, h4, h5, ?_⟩⟩
    have e1 := List.prefix_iff_eq_take.1 hpre
    rw [E.vals_len] at e1
    rw [e1, ← h6, List.take_take, Nat.min_eq_left (Nat.mul_le_mul_right _ hle)]
end Go.Proofs.Ytldghgadkncehaa.RowG

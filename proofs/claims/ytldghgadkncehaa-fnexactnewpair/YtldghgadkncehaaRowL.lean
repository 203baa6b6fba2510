/- An append that tells where the row lies then; Locd: a row lies where it lay, or in new memory. -/
import Derived.Test.YtldghgadkncehaaRowG
import Derived.Maps.AppendAt
namespace Go.Proofs.Ytldghgadkncehaa.RowG
open Go.RowKit
set_option linter.unusedVariables false
variable {α : Type} {E : El α}

/-- A row that lay at a lies at a' : in the block where it lay, or in one from n on. -/
def Locd (n : Nat) (a a' : Option Addr) : Prop := ∀ y, a' = some y → (∃ x, a = some x ∧ x.block = y.block) ∨ n ≤ y.block
theorem Locd.refl (n : Nat) (a : Option Addr) : Locd n a a := fun y hy => .inl ⟨y, hy, rfl⟩
theorem Locd.trans {n m : Nat} {a b c : Option Addr} (h : Locd n a b) (k : Locd m b c) (hm : n ≤ m) : Locd n a c := fun y hy => by
  rcases k y hy with ⟨x, hx, e⟩ | q
  · rcases h x hx with ⟨z, hz, e'⟩ | q
    · exact .inl ⟨z, hz, e'.trans e⟩
    · exact .inr (by omega)
  · exact .inr (by omega)
theorem Locd.le {n m : Nat} {a b : Option Addr} (h : Locd m a b) (hm : n ≤ m) : Locd n a b := fun y hy => (h y hy).imp id (fun q => by omega)
theorem Locd.new {n : Nat} {a b : Option Addr} (h : ∀ y, b = some y → n ≤ y.block) : Locd n a b := fun y hy => .inr (h y hy)

theorem wp_appL {P : Program} {tS T : TypeId} {bytes : Nat} (ty : Typ P tS T E bytes) (hby : bytes ≤ 1024) {w : World} {o : Oper} {a : Act} {K : Act → World → Prop} {Q : Exit → Act → World → Prop} (s x : Operand)
    (ho : o.op = .call { callee := .builtin .append, args := #[s, x], argTypes := #[tS, tS] })
    (B : Nat) (ao : Option Addr) (c n : Nat) (l1 l2 : List α) (hn : n = l1.length) (hs : a.eval s = .slice ao n c) (hown : E.Own T w B ao c l1) (hB : B ≤ w.heap.size)
    (sp : Option Addr) (m cap : Nat) (hm : m = l2.length) (hx : a.eval x = .slice sp m cap) (hsp : E.Lies w sp l2) (hcap : sp = none → cap = 0) (hl : l1.length + l2.length ≤ 4194304)
    (h : ∀ a' c' w', E.Own T w' B a' c' (l1 ++ l2) → w.grownBy w' (blk ao) → Locd w.heap.size ao a' → K (a.put o.dst (.slice a' (n + m) c')) w') : o.wp P a w K Q := by
  subst hn hm
  obtain ⟨hu, i, z, hi, hz0, hz1, hz2, hz3⟩ := ty
  cases sp with
  | none =>
    have hl0 : l2 = [] := by rcases hsp with e | ⟨_, _, e, _⟩; exact e; cases e
    subst hl0
    have hc0 := hcap rfl
    subst hc0
    have hrun := run_append_owned_none (P := P) (w := w) B tS o.type T i E.size hu hi _ l1.length (E.vals l1) hown
    unfold Oper.wp
    simp [execOp, ho, resolve, invoke, builtin, hs, hx, hrun, Result.andThen]
    exact h ao c w (by rw [List.append_nil]; exact hown) ⟨rfl, rfl, rfl, Nat.le_refl _, fun _ _ _ => rfl⟩ (Locd.refl _ _)
  | some x' =>
    have hbytes : (l1.length + l2.length) * bytes ≤ 140737488355328 := by
      have : (l1.length + l2.length) * bytes ≤ 4194304 * 1024 := Nat.mul_le_mul hl hby
      omega
    obtain ⟨v', w', hr, h1, h2, h3, h5⟩ := run_append_own_at (P := P) w B tS o.type T i z E.size bytes hu hi hz0 hz1 hz2 hz3 E.pos _ l1.length (E.vals l1) hown x' l2.length cap (E.vals l2) (E.vals_len l2) (hsp.src rfl) (E.vals_cells l2) (by unfold maxLen; omega) hbytes hB
    have key : K (a.put o.dst v') w' := by
      rw [own_blk] at h2 h5
      rcases h1.2 with ⟨hv, q⟩ | ⟨g', cap', cur, hv, _⟩
      · subst hv
        have e1 : l1 = [] := List.eq_nil_of_length_eq_zero (by omega)
        have e2 : l2 = [] := List.eq_nil_of_length_eq_zero (by omega)
        subst e1; subst e2
        exact h none 0 w' (El.Own.none w' B) h2 (fun y hy => by cases hy)
      · subst hv
        refine h _ cap' w' ?_ h2 ?_
        · unfold El.Own
          rw [List.length_append, E.vals_append]
          exact h1
        · intro y hy
          cases hy
          rw [own_blk] at h5
          simp only [blk, Option.map_some] at h5
          rcases h5 with q | q
          · cases ao with
            | none => simp at q
            | some z => exact .inl ⟨z, rfl, by simpa using q.symm⟩
          · right
            simp only [Option.some.injEq] at q
            show w.heap.size ≤ g'
            omega
    unfold Oper.wp execOp
    simp only [ho, resolve, invoke, builtin, Sem.run_bind, Sem.run_pure, Result.andThen_ok, List.map_toArray, List.map_cons, List.map_nil, hs, hx, hr]
    exact key
theorem wpList_appK {P : Program} {tS T : TypeId} {bytes : Nat} (ty : Typ P tS T E bytes) (hby : bytes ≤ 1024) {w : World} {ops : Array Oper} {rest : List Oper} {o : Oper} {a : Act} {Q : Exit → Act → World → Prop} (hgd : o.guard = none) (s x : Operand)
    (ho : o.op = .call { callee := .builtin .append, args := #[s, x], argTypes := #[tS, tS] })
    (B : Nat) (ao : Option Addr) (c n : Nat) (l1 l2 : List α) (hn : n = l1.length) (hs : a.eval s = .slice ao n c) (hown : E.Own T w B ao c l1) (hB : B ≤ w.heap.size)
    (sp : Option Addr) (m cap : Nat) (hm : m = l2.length) (hx : a.eval x = .slice sp m cap) (hsp : E.Lies w sp l2) (hcap : sp = none → cap = 0) (hl : l1.length + l2.length ≤ 4194304)
    (h : ∀ a' c' w', E.Own T w' B a' c' (l1 ++ l2) → w.grownBy w' (blk ao) → Locd w.heap.size ao a' → wpList P ops Q rest (a.put o.dst (.slice a' (n + m) c')) w') : wpList P ops Q (o :: rest) a w :=
  wpList_plain hgd fun _ hK => wp_appL ty hby s x ho B ao c n l1 l2 hn hs hown hB sp m cap hm hx hsp hcap hl fun a' c' w' h1 h2 h3 => hK _ _ (h a' c' w' h1 h2 h3)
theorem step_appL {P : Program} {tS T : TypeId} {bytes : Nat} (ty : Typ P tS T E bytes) (hby : bytes ≤ 1024) {w : World} {ops : Array Oper} {o : Oper} {a : Act} {K : Act → World → Prop} {Q : Exit → Act → World → Prop} {X : Prop} (hgd : o.guard = none) (s x : Operand)
    (ho : o.op = .call { callee := .builtin .append, args := #[s, x], argTypes := #[tS, tS] })
    (B : Nat) (ao : Option Addr) (c n : Nat) (l1 l2 : List α) (hn : n = l1.length) (hs : a.eval s = .slice ao n c) (hown : E.Own T w B ao c l1) (hB : B ≤ w.heap.size)
    (sp : Option Addr) (m cap : Nat) (hm : m = l2.length) (hx : a.eval x = .slice sp m cap) (hsp : E.Lies w sp l2) (hcap : sp = none → cap = 0) (hl : l1.length + l2.length ≤ 4194304)
    (h : ∀ a' c' w', E.Own T w' B a' c' (l1 ++ l2) → w.grownBy w' (blk ao) → Locd w.heap.size ao a' → K (a.put o.dst (.slice a' (n + m) c')) w') : if Region.wanted o (yielded ops a.tmps) = true then Oper.wp P o a w K Q else X := by
  rw [if_pos (by simp [Region.wanted, hgd])]
  exact wp_appL ty hby s x ho B ao c n l1 l2 hn hs hown hB sp m cap hm hx hsp hcap hl h

end Go.Proofs.Ytldghgadkncehaa.RowG

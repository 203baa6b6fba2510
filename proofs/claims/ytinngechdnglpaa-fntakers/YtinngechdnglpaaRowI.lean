/- One element more behind a row of the call's own, inside or outside a round: which block may turn; plain. -/
import Derived.Test.YtinngechdnglpaaRng
import Derived.Deep.RegionLawGrows
namespace Go.Proofs.Ytinngechdnglpaa.Rng
open Go.RowKit Go.Proofs.Ytinngechdnglpaa.RowG
set_option linter.unusedVariables false
set_option linter.unusedSimpArgs false

variable {α : Type} {E : El α}
theorem std_own {T : TypeId} {b D : Nat} {a : Option Addr} {c : Nat} {l : List α} {A B : World} (h : Std b A B) (ho : E.Own T A D a c l) : E.Own T B D a c l := by
  refine ho.same (fun x hx => ?_)
  unfold El.Own at ho
  rcases ho.2 with ⟨hv, _⟩ | ⟨g, cap, cur, hv, _, hgb, _⟩
  · simp only [Value.slice.injEq] at hv
    rw [hv.1] at hx
    cases hx
  · simp only [Value.slice.injEq] at hv
    rw [hv.1] at hx
    cases hx
    rw [h.same _ _ hgb (std_no _ rfl), hgb]
theorem own_ne {T e : TypeId} {w : World} {B k : Nat} {a : Option Addr} {c : Nat} {l : List α} {vs : List Value} (hte : T ≠ e) (o : E.Own e w B a c l) (v : Var T w k vs) : ∀ x, a = some x → x.block ≠ k := by
  intro x hx hk
  subst hx hk
  unfold El.Own at o
  rcases o.2 with ⟨h1, _⟩ | ⟨g, cap, cur, h1, _, hgb, _⟩
  · cases h1
  · cases h1
    unfold Var at v
    rw [hgb] at v
    cases v
    exact hte rfl
/-- A row's block that an append may write into: of room for two elements at least. -/
def Big (B : Nat) (T : TypeId) (n : Nat) (k : Nat) (o : Obj) : Prop := B ≤ k ∧ ∃ vs, o = .cells vs T (0, 0) ∧ 2 * n ≤ vs.size
theorem wp_one {P : Program} {tS T : TypeId} {bytes : Nat} (ty : Typ P tS T E bytes) (hby : bytes ≤ 1024) {w : World} {K : Act → World → Prop} {o : Oper} {a : Act} {Q : Exit → Act → World → Prop} (hgd : o.guard = none) (s x : Operand)
    (ho : o.op = .call { callee := .builtin .append, args := #[s, x], argTypes := #[tS, tS] })
    (B : Nat) (ao : Option Addr) (c n : Nat) (l : List α) (hn : n = l.length) (hs : a.eval s = .slice ao n c) (hown : E.Own T w B ao c l) (hB : B ≤ w.heap.size) (hc0 : l = [] → c = 0)
    (ad : Addr) (y : α) (hx : a.eval x = .slice (some ad) 1 1) (hsp : E.Lies w (some ad) [y]) (hl : l.length + 1 ≤ 4194304)
    (h : ∀ a' c' w', E.Own T w' B a' c' (l ++ [y]) → Chg (Big B T E.size) w w' → K (a.put o.dst (.slice a' (n + 1) c')) w') : o.wp P a w K Q := by
  by_cases hf : c < n + 1
  · subst hn
    obtain ⟨hu, i, z, hi, hz0, hz1, hz2, hz3⟩ := ty
    have e := step_append_grows (P := P) (ops := #[]) (w := w) (K := K) (Q := Q) (E := True) hgd s x tS ho T i z E.size bytes hu hi hz0 hz1 hz2 hz3 E.pos ao l.length c (E.vals l) hs (fun q => by
      rcases hown.form with ⟨_, h1, h2⟩ | ⟨g, h1, _⟩
      · exact ⟨by rw [h2]; rfl, h1⟩
      · rw [q] at h1; cases h1) (E.vals_len l) (fun b hb => hown.lies.src hb) ad 1 1 (E.vals [y]) hx (by rw [E.vals_len]; rfl) (hsp.src rfl) (E.vals_cells [y]) hf (by unfold maxLen; omega) (by have : (l.length + 1) * bytes ≤ 4194304 * 1024 := Nat.mul_le_mul hl hby; omega) ?_
    · rw [if_pos (by simp [Region.wanted, hgd])] at e
      exact e
    · intro v' w' h1 h2
      rcases h1.2 with ⟨hv, q⟩ | ⟨g', cap', cur, hv, hr⟩
      · omega
      · subst hv
        refine (h _ cap' w' ?_ (Chg.grown h2 (fun g o e _ => by cases e)))
        refine El.Own.mono (B' := w.heap.size) ?_ hB
        unfold El.Own
        rw [List.length_append, E.vals_append]
        exact h1
  · refine wp_app ty hby s x ho B ao c n l [y] hn hs hown hB (some ad) 1 1 rfl hx hsp (fun e => by cases e) (by simpa using hl) ?_
    intro a' c' w' o' g'
    refine h a' c' w' o' (Chg.grown g' ?_)
    intro g ob hg hob
    unfold El.Own at hown
    rcases hown.2 with ⟨hv, _⟩ | ⟨g2, cap2, cur, hv, hb, hgb, _, _, hcs, _⟩
    · simp only [Value.slice.injEq] at hv
      rw [hv.1] at hg
      simp [blk] at hg
    · simp only [Value.slice.injEq] at hv
      obtain ⟨rfl, _, rfl⟩ := hv
      simp [blk] at hg
      subst hg
      rw [hgb] at hob
      cases hob
      refine ⟨hb, cur, rfl, ?_⟩
      have hl1 : 1 ≤ l.length := by
        cases l with
        | nil => have := hc0 rfl; omega
        | cons y r => simp
      have h2 : 2 ≤ c := by omega
      rw [hcs]
      exact Nat.mul_le_mul_right _ h2
theorem wpList_one {P : Program} {tS T : TypeId} {bytes : Nat} (ty : Typ P tS T E bytes) (hby : bytes ≤ 1024) {w : World} {ops : Array Oper} {rest : List Oper} {o : Oper} {a : Act} {Q : Exit → Act → World → Prop} (hgd : o.guard = none) (s x : Operand)
    (ho : o.op = .call { callee := .builtin .append, args := #[s, x], argTypes := #[tS, tS] })
    (B : Nat) (ao : Option Addr) (c n : Nat) (l : List α) (hn : n = l.length) (hs : a.eval s = .slice ao n c) (hown : E.Own T w B ao c l) (hB : B ≤ w.heap.size) (hc0 : l = [] → c = 0)
    (ad : Addr) (y : α) (hx : a.eval x = .slice (some ad) 1 1) (hsp : E.Lies w (some ad) [y]) (hl : l.length + 1 ≤ 4194304)
    (h : ∀ a' c' w', E.Own T w' B a' c' (l ++ [y]) → Chg (Big B T E.size) w w' → wpList P ops Q rest (a.put o.dst (.slice a' (n + 1) c')) w') : wpList P ops Q (o :: rest) a w :=
  wpList_plain hgd fun _ hK => wp_one ty hby hgd s x ho B ao c n l hn hs hown hB hc0 ad y hx hsp hl fun a' c' w' h1 h2 => hK _ _ (h a' c' w' h1 h2)
theorem wpListIn_one {P : Program} {tS T : TypeId} {bytes : Nat} (ty : Typ P tS T E bytes) (hby : bytes ≤ 1024) {w : World} {ops : Array Oper} {rest : List Oper} {o : Oper} {a : Act} {Q : Exit → Act → World → Prop} {r m : Nat} (hgd : o.guard = none) (s x : Operand)
    (ho : o.op = .call { callee := .builtin .append, args := #[s, x], argTypes := #[tS, tS] })
    (B : Nat) (ao : Option Addr) (c n : Nat) (l : List α) (hn : n = l.length) (hs : a.eval s = .slice ao n c) (hown : E.Own T w B ao c l) (hB : B ≤ w.heap.size) (hc0 : l = [] → c = 0)
    (ad : Addr) (y : α) (hx : a.eval x = .slice (some ad) 1 1) (hsp : E.Lies w (some ad) [y]) (hl : l.length + 1 ≤ 4194304)
    (h : ∀ a' c' w', E.Own T w' B a' c' (l ++ [y]) → Chg (Big B T E.size) w w' → wpListIn (Fence.wide.inRound r) m P ops Q rest (a.put o.dst (.slice a' (n + 1) c')) w') : wpListIn (Fence.wide.inRound r) m P ops Q (o :: rest) a w := by
  unfold wpListIn
  rw [if_pos (by simp [Region.wanted, hgd])]
  exact op_round (by simp [noDefer, ho]) (wp_one ty hby hgd s x ho B ao c n l hn hs hown hB hc0 ad y hx hsp hl h)

end Go.Proofs.Ytinngechdnglpaa.Rng

/- Contracts of this seat's functions, and their mathematics (TakeP RowL). -/
import Derived.Test.YtldghgadkncehaaM35
import Derived.Test.YtldghgadkncehaaM1
import Derived.Maps.AppendAt
set_option linter.unusedVariables false
set_option linter.unusedSimpArgs false
namespace Go.Proofs.Ytldghgadkncehaa.Draw
open Go.RowKit
section
variable {P : Program} {ops : Array Oper} {Q : Exit → Act → World → Prop} {md : Region.Mode} {S : World → Prop} {z : Nat}
/-- z waits for i by way of others. -/
def chainB (md : Region.Mode) (ops : Array Oper) : Nat → List Nat → Nat → Bool
  | z, [], i => waits md ops z i
  | z, m :: ps, i => waits md ops z m && chainB md ops m ps i
theorem not_ready_un {listed : Array Bool} {x m : Nat} (hw : waits md ops x m = true) (hi0 : listed.getD m true = false) : x ∉ Region.ready md ops listed := by
  intro hz
  obtain ⟨_, oz, hoz, hall⟩ := mem_ready.1 hz
  simp only [waits, hoz, List.any_eq_true, Bool.and_eq_true, beq_iff_eq] at hw
  obtain ⟨e, he, hb, heq⟩ := hw
  have h1 := hall e (by simpa using he) hb
  rw [heq] at h1
  by_cases hl : m < listed.size
  · simp [hl] at hi0 h1
    simp [hi0] at h1
  · simp [Array.getElem?_eq_none (Nat.le_of_not_lt hl)] at h1
theorem chain_not {listed : Array Bool} {i : Nat} : ∀ (ps : List Nat) (x : Nat), chainB md ops x ps i = true → (∀ m ∈ ps, listed.getD m true = false) → listed.getD i true = false → x ∉ Region.ready md ops listed ∧ ∀ m ∈ ps, m ∉ Region.ready md ops listed
  | [], x, h, _, hi => ⟨not_ready_un h hi, fun m hm => by cases hm⟩
  | m :: ps, x, h, hu, hi => by
    rw [chainB, Bool.and_eq_true] at h
    have ih := chain_not ps m h.2 (fun k hk => hu k (List.mem_cons_of_mem _ hk)) hi
    refine ⟨not_ready_un h.1 (hu m (List.mem_cons_self ..)), fun k hk => ?_⟩
    rcases List.mem_cons.1 hk with rfl | hk
    · exact ih.1
    · exact ih.2 k hk
def unB (listed : Array Bool) (ps : List Nat) : Bool := ps.all fun m => !(listed.getD m true)
theorem wpAnyY_firstP {i : Nat} {ps : List Nat} {oi : Oper} {v : Value} (hi : ops[i]? = some oi) (hw : chainB md ops z ps i = true) (hsel : ∀ (j : Nat) (o : Oper) cs b, ops[j]? = some o → o.op ≠ .select cs b) (hQ : ∀ c a w, Q (.panic c) (a.put oi.dst v) w → Q (.panic c) a w) :
    ∀ (fuel : Nat) (listed : Array Bool) (a : Act) (w : World), (∀ j oj, ops[j]? = some oj → j ≠ i → listed.getD j true = false → (∀ e ∈ oj.after, Region.binds md e = true → e.on ≠ i) → oi.apart ops oj = true) → (∀ m ∈ ps, listed.getD m true = false) → i ∈ Region.ready md ops listed → YieldsIf P ops S oi v a → S w →
      wpAnyY P md ops Q S z fuel (listed.setIfInBounds i true) (a.put oi.dst v) w → wpAnyY P md ops Q S z (fuel + 1) listed a w
  | fuel, listed, a, w, hfree, hun0, hr, hy, hS, H => by
    have hcn := chain_not ps z hw hun0 (mem_ready.1 hr).1
    refine ⟨fun h => absurd hr (by simp [h]), fun j hj => ?_⟩
    by_cases hji : j = i
    · subst hji
      exact hy.wpOp hi hS ⟨fun _ h => h, H⟩
    · have hjz : j ≠ z := fun e => hcn.1 (e ▸ hj)
      match fuel, H with
      | 0, H => exact absurd (ready_mono hj hji) (by simp [H.1])
      | fuel + 1, H =>
        obtain ⟨hjun, oj, hoj, hall⟩ := mem_ready.1 hj
        have hi0 := (mem_ready.1 hr).1
        have hap : oi.apart ops oj = true := hfree j oj hoj hji hjun fun e he hb heq => by
          have h1 := hall e he hb
          rw [heq] at h1
          by_cases hl : i < listed.size
          · simp [hl] at hi0 h1
            simp [hi0] at h1
          · simp [Array.getElem?_eq_none (Nat.le_of_not_lt hl)] at h1
        refine wpOp_mono ?_ (wpOp_putIf hoj hap (fun cs b => hsel i oi cs b hi) (fun cs b => hsel j oj cs b hoj) hQ hy (H.2 j (ready_mono hj hji)))
        rintro a' w' ⟨hy', hS', H'⟩
        refine ⟨hS', wpAnyY_firstP hi hw hsel hQ fuel (listed.setIfInBounds j true) _ w' ?_ (fun m hm => by have hne : j ≠ m := fun q => hcn.2 m hm (q ▸ hj); rw [getD_set_ne true hne]; exact hun0 m hm) (ready_mono hr (Ne.symm hji)) hy' (hS' hjz hS) (by rw [Array.setIfInBounds_comm _ _ hji]; exact H')⟩
        intro k ok hk hki hun hno
        refine hfree k ok hk hki ?_ hno
        by_cases hjk : j = k
        · rw [← hjk]; exact hjun
        · rw [getD_set_ne true hjk] at hun; exact hun
/-- Take number i first, for which z waits by way of others. -/
theorem wpAnyY_takeP {i : Nat} {ps : List Nat} {oi : Oper} {v : Value} {fuel : Nat} {listed : Array Bool} {a : Act} {w : World} (hi : ops[i]? = some oi) (hw : chainB md ops z ps i = true) (hu : unB listed ps = true)
    (hs : Region.noSelect ops = true) (hf : Region.free md ops listed i = true) (hr : (Region.ready md ops listed).contains i = true)
    (hQ : ∀ c a w, Q (.panic c) (a.put oi.dst v) w → Q (.panic c) a w) (hy : YieldsIf P ops S oi v a) (hS : S w)
    (h : wpAnyY P md ops Q S z fuel (listed.setIfInBounds i true) (a.put oi.dst v) w) : wpAnyY P md ops Q S z (fuel + 1) listed a w :=
  wpAnyY_firstP hi hw (Region.noSelect_spec hs) hQ fuel listed a w (Region.free_spec hi hf) (fun m hm => by simpa using (List.all_eq_true.1 hu) m hm) (by simpa using hr) hy hS h
end
end Go.Proofs.Ytldghgadkncehaa.Draw
namespace Go.Proofs.Ytldghgadkncehaa.RowG
open Go.RowKit
variable {α : Type} {E : El α}
/-- A row that lay at a lies at a' : in the block where it lay, or in one from n on. -/
def Locd (n : Nat) (a a' : Option Addr) : Prop := ∀ y, a' = some y → (∃ x, a = some x ∧ x.block = y.block) ∨ n ≤ y.block
theorem Locd.refl (n : Nat) (a : Option Addr) : Locd n a a := fun y hy => .inl ⟨y, hy, rfl⟩
theorem Locd.trans {n m : Nat} {a b c : Option Addr} (h : Locd n a b) (k : Locd m b c) (hm : n ≤ m) : Locd n a c := fun y hy => by
  rcases k y hy with ⟨x, hx, e⟩ | q
  · rcases h x hx with ⟨z, hz, e'⟩ | q
    · exact .inl ⟨z, hz, e'.trans e⟩
    · exact .inr (by omega)
  · exact .inr (by omega)
theorem Locd.le {n m : Nat} {a b : Option Addr} (h : Locd m a b) (hm : n ≤ m) : Locd n a b := fun y hy => (h y hy).imp id (fun q => by omega)
theorem Locd.new {n : Nat} {a b : Option Addr} (h : ∀ y, b = some y → n ≤ y.block) : Locd n a b := fun y hy => .inr (h y hy)
theorem wp_appL {P : Program} {tS T : TypeId} {bytes : Nat} (ty : Typ P tS T E bytes) (hby : bytes ≤ 1024) {w : World} {o : Oper} {a : Act} {K : Act → World → Prop} {Q : Exit → Act → World → Prop} (s x : Operand)
    (ho : o.op = .call { callee := .builtin .append, args := #[s, x], argTypes := #[tS, tS] })
    (B : Nat) (ao : Option Addr) (c n : Nat) (l1 l2 : List α) (hn : n = l1.length) (hs : a.eval s = .slice ao n c) (hown : E.Own T w B ao c l1) (hB : B ≤ w.heap.size)
    (sp : Option Addr) (m cap : Nat) (hm : m = l2.length) (hx : a.eval x = .slice sp m cap) (hsp : E.Lies w sp l2) (hcap : sp = none → cap = 0) (hl : l1.length + l2.length ≤ 4194304)
    (h : ∀ a' c' w', E.Own T w' B a' c' (l1 ++ l2) → w.grownBy w' (blk ao) → Locd w.heap.size ao a' → K (a.put o.dst (.slice a' (n + m) c')) w') : o.wp P a w K Q := by
  subst hn hm
  obtain ⟨hu, i, z, hi, hz0, hz1, hz2, hz3⟩ := ty
  cases sp with
  | none =>
    have hl0 : l2 = [] := by rcases hsp with e | ⟨_, _, e, _⟩; exact e; cases e
    subst hl0
    have hc0 := hcap rfl
    subst hc0
    have hrun := run_append_owned_none (P := P) (w := w) B tS o.type T i E.size hu hi _ l1.length (E.vals l1) hown
    unfold Oper.wp
    simp [execOp, ho, resolve, invoke, builtin, hs, hx, hrun, Result.andThen]
    exact h ao c w (by rw [List.append_nil]; exact hown) ⟨rfl, rfl, rfl, Nat.le_refl _, fun _ _ _ => rfl⟩ (Locd.refl _ _)
  | some x' =>
    have hbytes : (l1.length + l2.length) * bytes ≤ 140737488355328 := by
      have : (l1.length + l2.length) * bytes ≤ 4194304 * 1024 := Nat.mul_le_mul hl hby
      omega
    obtain ⟨v', w', hr, h1, h2, h3, h5⟩ := run_append_own_at (P := P) w B tS o.type T i z E.size bytes hu hi hz0 hz1 hz2 hz3 E.pos _ l1.length (E.vals l1) hown x' l2.length cap (E.vals l2) (E.vals_len l2) (hsp.src rfl) (E.vals_cells l2) (by unfold maxLen; omega) hbytes hB
    have key : K (a.put o.dst v') w' := by
      rw [own_blk] at h2 h5
      rcases h1.2 with ⟨hv, q⟩ | ⟨g', cap', cur, hv, _⟩
      · subst hv
        have e1 : l1 = [] := List.eq_nil_of_length_eq_zero (by omega)
        have e2 : l2 = [] := List.eq_nil_of_length_eq_zero (by omega)
        subst e1; subst e2
        exact h none 0 w' (El.Own.none w' B) h2 (fun y hy => by cases hy)
      · subst hv
        refine h _ cap' w' ?_ h2 ?_
        · unfold El.Own
          rw [List.length_append, E.vals_append]
          exact h1
        · intro y hy
          cases hy
          rw [own_blk] at h5
          simp only [blk, Option.map_some] at h5
          rcases h5 with q | q
          · cases ao with
            | none => simp at q
            | some z => exact .inl ⟨z, rfl, by simpa using q.symm⟩
          · right
            simp only [Option.some.injEq] at q
            show w.heap.size ≤ g'
            omega
    unfold Oper.wp execOp
    simp only [ho, resolve, invoke, builtin, Sem.run_bind, Sem.run_pure, Result.andThen_ok, List.map_toArray, List.map_cons, List.map_nil, hs, hx, hr]
    exact key
theorem wpList_appK {P : Program} {tS T : TypeId} {bytes : Nat} (ty : Typ P tS T E bytes) (hby : bytes ≤ 1024) {w : World} {ops : Array Oper} {rest : List Oper} {o : Oper} {a : Act} {Q : Exit → Act → World → Prop} (hgd : o.guard = none) (s x : Operand)
    (ho : o.op = .call { callee := .builtin .append, args := #[s, x], argTypes := #[tS, tS] })
    (B : Nat) (ao : Option Addr) (c n : Nat) (l1 l2 : List α) (hn : n = l1.length) (hs : a.eval s = .slice ao n c) (hown : E.Own T w B ao c l1) (hB : B ≤ w.heap.size)
    (sp : Option Addr) (m cap : Nat) (hm : m = l2.length) (hx : a.eval x = .slice sp m cap) (hsp : E.Lies w sp l2) (hcap : sp = none → cap = 0) (hl : l1.length + l2.length ≤ 4194304)
    (h : ∀ a' c' w', E.Own T w' B a' c' (l1 ++ l2) → w.grownBy w' (blk ao) → Locd w.heap.size ao a' → wpList P ops Q rest (a.put o.dst (.slice a' (n + m) c')) w') : wpList P ops Q (o :: rest) a w :=
  wpList_plain hgd fun _ hK => wp_appL ty hby s x ho B ao c n l1 l2 hn hs hown hB sp m cap hm hx hsp hcap hl fun a' c' w' h1 h2 h3 => hK _ _ (h a' c' w' h1 h2 h3)
theorem step_appL {P : Program} {tS T : TypeId} {bytes : Nat} (ty : Typ P tS T E bytes) (hby : bytes ≤ 1024) {w : World} {ops : Array Oper} {o : Oper} {a : Act} {K : Act → World → Prop} {Q : Exit → Act → World → Prop} {X : Prop} (hgd : o.guard = none) (s x : Operand)
    (ho : o.op = .call { callee := .builtin .append, args := #[s, x], argTypes := #[tS, tS] })
    (B : Nat) (ao : Option Addr) (c n : Nat) (l1 l2 : List α) (hn : n = l1.length) (hs : a.eval s = .slice ao n c) (hown : E.Own T w B ao c l1) (hB : B ≤ w.heap.size)
    (sp : Option Addr) (m cap : Nat) (hm : m = l2.length) (hx : a.eval x = .slice sp m cap) (hsp : E.Lies w sp l2) (hcap : sp = none → cap = 0) (hl : l1.length + l2.length ≤ 4194304)
    (h : ∀ a' c' w', E.Own T w' B a' c' (l1 ++ l2) → w.grownBy w' (blk ao) → Locd w.heap.size ao a' → K (a.put o.dst (.slice a' (n + m) c')) w') : if Region.wanted o (yielded ops a.tmps) = true then Oper.wp P o a w K Q else X := by
  rw [if_pos (by simp [Region.wanted, hgd])]
  exact wp_appL ty hby s x ho B ao c n l1 l2 hn hs hown hB sp m cap hm hx hsp hcap hl h
end Go.Proofs.Ytldghgadkncehaa.RowG

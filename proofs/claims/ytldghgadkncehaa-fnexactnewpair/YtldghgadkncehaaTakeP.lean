/- In a region that draws its order: an operation for which z waits by way of others may be taken first, too; plain. -/
import Derived.Test.YtldghgadkncehaaTakeY
namespace Go.Proofs.Ytldghgadkncehaa.Draw
open Go.RowKit
set_option linter.unusedVariables false

section
variable {P : Program} {ops : Array Oper} {Q : Exit → Act → World → Prop} {md : Region.Mode} {S : World → Prop} {z : Nat}

/-- z waits for i by way of others. -/
def chainB (md : Region.Mode) (ops : Array Oper) : Nat → List Nat → Nat → Bool
  | z, [], i => waits md ops z i
  | z, m :: ps, i => waits md ops z m && chainB md ops m ps i
theorem not_ready_un {listed : Array Bool} {x m : Nat} (hw : waits md ops x m = true) (hi0 : listed.getD m true = false) : x ∉ Region.ready md ops listed := by
  intro hz
  obtain ⟨_, oz, hoz, hall⟩ := mem_ready.1 hz
  simp only [waits, hoz, List.any_eq_true, Bool.and_eq_true, beq_iff_eq] at hw
  obtain ⟨e, he, hb, heq⟩ := hw
  have h1 := hall e (by simpa using he) hb
  rw [heq] at h1
  by_cases hl : m < listed.size
  · simp [hl] at hi0 h1
    simp [hi0] at h1
  · simp [Array.getElem?_eq_none (Nat.le_of_not_lt hl)] at h1
theorem chain_not {listed : Array Bool} {i : Nat} : ∀ (ps : List Nat) (x : Nat), chainB md ops x ps i = true → (∀ m ∈ ps, listed.getD m true = false) → listed.getD i true = false → x ∉ Region.ready md ops listed ∧ ∀ m ∈ ps, m ∉ Region.ready md ops listed
  | [], x, h, _, hi => ⟨not_ready_un h hi, fun m hm => by cases hm⟩
  | m :: ps, x, h, hu, hi => by
    rw [chainB, Bool.and_eq_true] at h
    have ih := chain_not ps m h.2 (fun k hk => hu k (List.mem_cons_of_mem _ hk)) hi
    refine ⟨not_ready_un h.1 (hu m (List.mem_cons_self ..)), fun k hk => ?_⟩
    rcases List.mem_cons.1 hk with rfl | hk
    · exact ih.1
    · exact ih.2 k hk
def unB (listed : Array Bool) (ps : List Nat) : Bool := ps.all fun m => !(listed.getD m true)
theorem wpAnyY_firstP {i : Nat} {ps : List Nat} {oi : Oper} {v : Value} (hi : ops[i]? = some oi) (hw : chainB md ops z ps i = true) (hsel : ∀ (j : Nat) (o : Oper) cs b, ops[j]? = some o → o.op ≠ .select cs b) (hQ : ∀ c a w, Q (.panic c) (a.put oi.dst v) w → Q (.panic c) a w) :
    ∀ (fuel : Nat) (listed : Array Bool) (a : Act) (w : World), (∀ j oj, ops[j]? = some oj → j ≠ i → listed.getD j true = false → (∀ e ∈ oj.after, Region.binds md e = true → e.on ≠ i) → oi.apart ops oj = true) → (∀ m ∈ ps, listed.getD m true = false) → i ∈ Region.ready md ops listed → YieldsIf P ops S oi v a → S w →
      wpAnyY P md ops Q S z fuel (listed.setIfInBounds i true) (a.put oi.dst v) w → wpAnyY P md ops Q S z (fuel + 1) listed a w
  | fuel, listed, a, w, hfree, hun0, hr, hy, hS, H => by
    have hcn := chain_not ps z hw hun0 (mem_ready.1 hr).1
    refine ⟨fun h => absurd hr (by simp [h]), fun j hj => ?_⟩
    by_cases hji : j = i
    · subst hji
      exact hy.wpOp hi hS ⟨fun _ h => h, H⟩
    · have hjz : j ≠ z := fun e => hcn.1 (e ▸ hj)
      match fuel, H with
      | 0, H => exact absurd (ready_mono hj hji) (by simp [H.1])
      | fuel + 1, H =>
        obtain ⟨hjun, oj, hoj, hall⟩ := mem_ready.1 hj
        have hi0 := (mem_ready.1 hr).1
        have hap : oi.apart ops oj = true := hfree j oj hoj hji hjun fun e he hb heq => by
          have h1 := hall e he hb
          rw [heq] at h1
          by_cases hl : i < listed.size
          · simp [hl] at hi0 h1
            simp [hi0] at h1
          · simp [Array.getElem?_eq_none (Nat.le_of_not_lt hl)] at h1
        refine wpOp_mono ?_ (wpOp_putIf hoj hap (fun cs b => hsel i oi cs b hi) (fun cs b => hsel j oj cs b hoj) hQ hy (H.2 j (ready_mono hj hji)))
        rintro a' w' ⟨hy', hS', H'⟩
        refine ⟨hS', wpAnyY_firstP hi hw hsel hQ fuel (listed.setIfInBounds j true) _ w' ?_ (fun m hm => by have hne : j ≠ m := fun q => hcn.2 m hm (q ▸ hj); rw [getD_set_ne true hne]; exact hun0 m hm) (ready_mono hr (Ne.symm hji)) hy' (hS' hjz hS) (by rw [Array.setIfInBounds_comm _ _ hji]; exact H')⟩
        intro k ok hk hki hun hno
        refine hfree k ok hk hki ?_ hno
        by_cases hjk : j = k
        · rw [← hjk]; exact hjun
        · rw [getD_set_ne true hjk] at hun; exact hun
/-- Take number i first, for which z waits by way of others. -/
theorem wpAnyY_takeP {i : Nat} {ps : List Nat} {oi : Oper} {v : Value} {fuel : Nat} {listed : Array Bool} {a : Act} {w : World} (hi : ops[i]? = some oi) (hw : chainB md ops z ps i = true) (hu : unB listed ps = true)
    (hs : Region.noSelect ops = true) (hf : Region.free md ops listed i = true) (hr : (Region.ready md ops listed).contains i = true)
    (hQ : ∀ c a w, Q (.panic c) (a.put oi.dst v) w → Q (.panic c) a w) (hy : YieldsIf P ops S oi v a) (hS : S w)
    (h : wpAnyY P md ops Q S z fuel (listed.setIfInBounds i true) (a.put oi.dst v) w) : wpAnyY P md ops Q S z (fuel + 1) listed a w :=
  wpAnyY_firstP hi hw (Region.noSelect_spec hs) hQ fuel listed a w (Region.free_spec hi hf) (fun m hm => by simpa using (List.all_eq_true.1 hu) m hm) (by simpa using hr) hy hS h

end

end Go.Proofs.Ytldghgadkncehaa.Draw

/- Contracts of this seat's functions, and their mathematics (TakeY GivB GivD). -/
import Derived.Test.YtldghgadkncehaaM6
import Derived.Test.YtldghgadkncehaaM18
import Derived.Test.YtldghgadkncehaaM5
import Derived.BigQuiet
set_option linter.unusedVariables false
set_option linter.unusedSimpArgs false
namespace Go.Proofs.Ytldghgadkncehaa.Draw
open Go.RowKit
section
variable {P : Program} {ops : Array Oper} {Q : Exit → Act → World → Prop} {md : Region.Mode} {S : World → Prop} {z : Nat}
/-- Whatever may come up comes up; all but z leave S as it was. -/
def wpAnyY (P : Program) (md : Region.Mode) (ops : Array Oper) (Q : Exit → Act → World → Prop) (S : World → Prop) (z : Nat) : Nat → Array Bool → Act → World → Prop
  | 0, listed, a, w => Region.ready md ops listed = [] ∧ Q .normal a w
  | fuel + 1, listed, a, w => (Region.ready md ops listed = [] → Q .normal a w) ∧ ∀ i ∈ Region.ready md ops listed, wpOp P ops Q i (fun a' w' => (i ≠ z → S w → S w') ∧ wpAnyY P md ops Q S z fuel (listed.setIfInBounds i true) a' w') a w
theorem wpAny_of_Y : ∀ (fuel : Nat) (listed : Array Bool) (a : Act) (w : World), wpAnyY P md ops Q S z fuel listed a w → wpAny P md ops Q fuel listed a w
  | 0, _, _, _, h => h
  | fuel + 1, _, _, _, h => ⟨h.1, fun i hi => wpOp_mono (fun a' w' h' => wpAny_of_Y fuel _ a' w' h'.2) (h.2 i hi)⟩
theorem wpAnyY_first {i : Nat} {oi : Oper} {v : Value} (hi : ops[i]? = some oi) (hw : waits md ops z i = true) (hsel : ∀ (j : Nat) (o : Oper) cs b, ops[j]? = some o → o.op ≠ .select cs b) (hQ : ∀ c a w, Q (.panic c) (a.put oi.dst v) w → Q (.panic c) a w) :
    ∀ (fuel : Nat) (listed : Array Bool) (a : Act) (w : World), (∀ j oj, ops[j]? = some oj → j ≠ i → listed.getD j true = false → (∀ e ∈ oj.after, Region.binds md e = true → e.on ≠ i) → oi.apart ops oj = true) → i ∈ Region.ready md ops listed → YieldsIf P ops S oi v a → S w →
      wpAnyY P md ops Q S z fuel (listed.setIfInBounds i true) (a.put oi.dst v) w → wpAnyY P md ops Q S z (fuel + 1) listed a w
  | fuel, listed, a, w, hfree, hr, hy, hS, H => by
    refine ⟨fun h => absurd hr (by simp [h]), fun j hj => ?_⟩
    by_cases hji : j = i
    · subst hji
      exact hy.wpOp hi hS ⟨fun _ h => h, H⟩
    · have hjz : j ≠ z := fun e => not_ready hw hr (e ▸ hj)
      match fuel, H with
      | 0, H => exact absurd (ready_mono hj hji) (by simp [H.1])
      | fuel + 1, H =>
        obtain ⟨hjun, oj, hoj, hall⟩ := mem_ready.1 hj
        have hi0 := (mem_ready.1 hr).1
        have hap : oi.apart ops oj = true := hfree j oj hoj hji hjun fun e he hb heq => by
          have h1 := hall e he hb
          rw [heq] at h1
          by_cases hl : i < listed.size
          · simp [hl] at hi0 h1
            simp [hi0] at h1
          · simp [Array.getElem?_eq_none (Nat.le_of_not_lt hl)] at h1
        refine wpOp_mono ?_ (wpOp_putIf hoj hap (fun cs b => hsel i oi cs b hi) (fun cs b => hsel j oj cs b hoj) hQ hy (H.2 j (ready_mono hj hji)))
        rintro a' w' ⟨hy', hS', H'⟩
        refine ⟨hS', wpAnyY_first hi hw hsel hQ fuel (listed.setIfInBounds j true) _ w' ?_ (ready_mono hr (Ne.symm hji)) hy' (hS' hjz hS) (by rw [Array.setIfInBounds_comm _ _ hji]; exact H')⟩
        intro k ok hk hki hun hno
        refine hfree k ok hk hki ?_ hno
        by_cases hjk : j = k
        · rw [← hjk]; exact hjun
        · rw [getD_set_ne true hjk] at hun; exact hun
theorem wpAnyY_firstT {i : Nat} {oi : Oper} {v : Value} (hi : ops[i]? = some oi) (hsel : ∀ (j : Nat) (o : Oper) cs b, ops[j]? = some o → o.op ≠ .select cs b) (hQ : ∀ c a w, Q (.panic c) (a.put oi.dst v) w → Q (.panic c) a w) :
    ∀ (fuel : Nat) (listed : Array Bool) (a : Act) (w : World), (∀ j oj, ops[j]? = some oj → j ≠ i → listed.getD j true = false → (∀ e ∈ oj.after, Region.binds md e = true → e.on ≠ i) → oi.apart ops oj = true) → i ∈ Region.ready md ops listed → YieldsIf P ops (fun _ => True) oi v a →
      wpAnyY P md ops Q S z fuel (listed.setIfInBounds i true) (a.put oi.dst v) w → wpAnyY P md ops Q S z (fuel + 1) listed a w
  | fuel, listed, a, w, hfree, hr, hy, H => by
    refine ⟨fun h => absurd hr (by simp [h]), fun j hj => ?_⟩
    by_cases hji : j = i
    · subst hji
      exact hy.wpOp hi trivial ⟨fun _ h => h, H⟩
    · match fuel, H with
      | 0, H => exact absurd (ready_mono hj hji) (by simp [H.1])
      | fuel + 1, H =>
        obtain ⟨hjun, oj, hoj, hall⟩ := mem_ready.1 hj
        have hi0 := (mem_ready.1 hr).1
        have hap : oi.apart ops oj = true := hfree j oj hoj hji hjun fun e he hb heq => by
          have h1 := hall e he hb
          rw [heq] at h1
          by_cases hl : i < listed.size
          · simp [hl] at hi0 h1
            simp [hi0] at h1
          · simp [Array.getElem?_eq_none (Nat.le_of_not_lt hl)] at h1
        refine wpOp_mono ?_ (wpOp_putIf hoj hap (fun cs b => hsel i oi cs b hi) (fun cs b => hsel j oj cs b hoj) hQ hy (H.2 j (ready_mono hj hji)))
        rintro a' w' ⟨hy', hS', H'⟩
        refine ⟨hS', wpAnyY_firstT hi hsel hQ fuel (listed.setIfInBounds j true) _ w' ?_ (ready_mono hr (Ne.symm hji)) hy' (by rw [Array.setIfInBounds_comm _ _ hji]; exact H')⟩
        intro k ok hk hki hun hno
        refine hfree k ok hk hki ?_ hno
        by_cases hjk : j = k
        · rw [← hjk]; exact hjun
        · rw [getD_set_ne true hjk] at hun; exact hun
/-- Take number i, which reads no memory, first. -/
theorem wpAnyY_takeT {i : Nat} {oi : Oper} {v : Value} {fuel : Nat} {listed : Array Bool} {a : Act} {w : World} (hi : ops[i]? = some oi)
    (hs : Region.noSelect ops = true) (hf : Region.free md ops listed i = true) (hr : (Region.ready md ops listed).contains i = true)
    (hQ : ∀ c a w, Q (.panic c) (a.put oi.dst v) w → Q (.panic c) a w) (hy : YieldsIf P ops (fun _ => True) oi v a)
    (h : wpAnyY P md ops Q S z fuel (listed.setIfInBounds i true) (a.put oi.dst v) w) : wpAnyY P md ops Q S z (fuel + 1) listed a w :=
  wpAnyY_firstT hi (Region.noSelect_spec hs) hQ fuel listed a w (Region.free_spec hi hf) (by simpa using hr) hy h
/-- Take number i first. -/
theorem wpAnyY_take {i : Nat} {oi : Oper} {v : Value} {fuel : Nat} {listed : Array Bool} {a : Act} {w : World} (hi : ops[i]? = some oi) (hw : waits md ops z i = true)
    (hs : Region.noSelect ops = true) (hf : Region.free md ops listed i = true) (hr : (Region.ready md ops listed).contains i = true)
    (hQ : ∀ c a w, Q (.panic c) (a.put oi.dst v) w → Q (.panic c) a w) (hy : YieldsIf P ops S oi v a) (hS : S w)
    (h : wpAnyY P md ops Q S z fuel (listed.setIfInBounds i true) (a.put oi.dst v) w) : wpAnyY P md ops Q S z (fuel + 1) listed a w :=
  wpAnyY_first hi hw (Region.noSelect_spec hs) hQ fuel listed a w (Region.free_spec hi hf) (by simpa using hr) hy hS h
/-- Each of rs comes up next. -/
def AllReadyY (P : Program) (md : Region.Mode) (ops : Array Oper) (Q : Exit → Act → World → Prop) (S : World → Prop) (z fuel : Nat) (listed : Array Bool) (a : Act) (w : World) (rs : List Nat) : Prop :=
  ∀ i ∈ rs, wpOp P ops Q i (fun a' w' => (i ≠ z → S w → S w') ∧ wpAnyY P md ops Q S z fuel (listed.setIfInBounds i true) a' w') a w
theorem AllReadyY.nil {fuel : Nat} {listed : Array Bool} {a : Act} {w : World} : AllReadyY P md ops Q S z fuel listed a w [] := fun _ h => by cases h
theorem AllReadyY.cons {fuel : Nat} {listed : Array Bool} {a : Act} {w : World} {i : Nat} {o : Oper} {rs : List Nat} (ho : ops[i]? = some o)
    (h : ∀ K' : Act → World → Prop, Shut (∀ a' w', (i ≠ z → S w → S w') → ((i ≠ z → S w → S w') → wpAnyY P md ops Q S z fuel (listed.setIfInBounds i true) a' w') → K' a' w') → if Region.wanted o (yielded ops a.tmps) = true then Oper.wp P o a w K' Q else K' (a.put o.dst undef) w)
    (hs : AllReadyY P md ops Q S z fuel listed a w rs) : AllReadyY P md ops Q S z fuel listed a w (i :: rs) := fun j hj => by
  rcases List.mem_cons.1 hj with rfl | hj
  · exact wpOp_step ho (fun K' hK => h K' (fun a w hS hW => hK a w ⟨hS, hW hS⟩))
  · exact hs j hj
theorem wpAnyY_ready {rs : List Nat} {fuel : Nat} {listed : Array Bool} {a : Act} {w : World} (hr : Region.ready md ops listed = rs) (hne : rs ≠ [])
    (h : AllReadyY P md ops Q S z fuel listed a w rs) : wpAnyY P md ops Q S z (fuel + 1) listed a w := ⟨fun h0 => absurd (hr ▸ h0) hne, hr ▸ h⟩
theorem wpAnyY_done {listed : Array Bool} {a : Act} {w : World} (hr : Region.ready md ops listed = []) (h : Q .normal a w) : ∀ fuel, wpAnyY P md ops Q S z fuel listed a w
  | 0 => ⟨hr, h⟩
  | _ + 1 => ⟨fun _ => h, by rw [hr]; simp⟩
theorem wp_region_Y (z : Nat) {id : Nat} {a : Act} {w : World} (hm : P.follows .mixedOrders = true) (hS : S w.drew)
    (h : S w.drew → wpAnyY P .any ops Q S z ops.size (Array.replicate ops.size false) a w.drew) : (Code.region id ops true).wp P Q a w :=
  wp_region_any hm (wpAny_of_Y _ _ _ _ (h hS))
end
end Go.Proofs.Ytldghgadkncehaa.Draw
namespace Go.Proofs.Ytldghgadkncehaa.Giv
open Go.RowKit RowG
/-- How many bytes are taken, and what the giver is then. -/
def fitN (g : Gv) (s : ByteArray) : Int := min (s.size : Int) (min (g.cp - g.bs.size) (1000000000 - (g.ba + g.bs.size)))
def writeG (g : Gv) (s : ByteArray) : Gv × Int := if g.en then (g, 0) else (⟨g.ba, g.bs ++ s.extract 0 (fitN g s).toNat, g.cp, g.lm, g.en, g.dn⟩, fitN g s)
def writesG (g : Gv) (s : ByteArray) : Gv × Int := if g.ok then writeG g s else (zeroG, -1)
theorem fit_in {g : Gv} (h : g.ok = true) (s : ByteArray) : 0 ≤ fitN g s ∧ fitN g s ≤ s.size ∧ g.bs.size + fitN g s ≤ g.cp ∧ g.ba + (g.bs.size + fitN g s) ≤ 1000000000 := by
  obtain ⟨h1, h2, h3, h4, h5, h6, h7⟩ := ok_iff.1 h
  unfold fitN
  omega
theorem ext_size (b : ByteArray) (i j : Nat) (h : j ≤ b.size) : (b.extract i j).size = j - i := by
  rw [ByteArray.size_extract]
  omega
theorem write_ok {g : Gv} (h : g.ok = true) (s : ByteArray) : (writeG g s).1.ok = true := by
  obtain ⟨f1, f2, f3, f4⟩ := fit_in h s
  obtain ⟨h1, h2, h3, h4, h5, h6, h7⟩ := ok_iff.1 h
  unfold writeG
  split
  · exact h
  · rename_i he
    have e : (s.extract 0 (fitN g s).toNat).size = (fitN g s).toNat := by rw [ext_size _ _ _ (by omega)]; omega
    refine ok_iff.2 ⟨h1, h2, ?_, ?_, h5, h6, fun hd => absurd (h7 hd).1 he⟩
    · show ((g.bs ++ s.extract 0 (fitN g s).toNat).size : Int) ≤ g.cp
      rw [ByteArray.size_append, e]; omega
    · show g.ba + ((g.bs ++ s.extract 0 (fitN g s).toNat).size : Int) ≤ 1000000000
      rw [ByteArray.size_append, e]; omega
end Go.Proofs.Ytldghgadkncehaa.Giv
namespace Go.Proofs.Ytldghgadkncehaa.Giv
open Go.RowKit RowG
def stopG (g : Gv) (at' n : Int) : Int := min (at' + n) (min (g.ba + g.bs.size) (max at' g.lm))
/-- What is offered: the part's place and bytes, whether the end is told, whether there is anything. -/
def offerG (g : Gv) (p n : Int) : (Int × ByteArray) × Bool × Bool :=
  if p < g.ba ∨ g.ba + g.bs.size < p ∨ ¬ (0 ≤ n ∧ n ≤ 40) then ((0, ⟨#[]⟩), false, false) else
  if stopG g p n = p ∧ (g.en && decide (stopG g p n = g.ba + g.bs.size)) = false then ((0, ⟨#[]⟩), false, false) else
  ((p, g.bs.extract (p - g.ba).toNat (stopG g p n - g.ba).toNat), (g.en && decide (stopG g p n = g.ba + g.bs.size)), true)
def offersG (g : Gv) (p n : Int) : (Int × ByteArray) × Bool × Bool := if g.ok then offerG g p n else ((0, ⟨#[]⟩), false, false)
abbrev offV (r : (Int × ByteArray) × Bool × Bool) : Value := .tuple #[.agg #[.int .i64 r.1.1, .string r.1.2], .bool r.2.1, .bool r.2.2]
theorem res_cell_tmp2 {fn : Func} {p u v : Tmp} {ty : TypeId} (h : fn.results = #[.cell p ty, .tmp u, .tmp v]) (tmps : Array Value) (P : Program) (w : World) :
    (results fn tmps).run P w = ((asAddr (tmps.getD p undef)).run P w).andThen fun a w₁ => ((loadVar ty a).run P w₁).andThen fun r w₂ => .ok (.tuple #[r, tmps.getD u undef, tmps.getD v undef]) w₂ := by
  simp only [results, h]
  simp [Sem.run_bind, Result.andThen]
end Go.Proofs.Ytldghgadkncehaa.Giv

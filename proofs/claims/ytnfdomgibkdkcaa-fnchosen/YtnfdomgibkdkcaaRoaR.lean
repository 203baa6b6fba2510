/- Contracts of the program's Turn and Used (chapter 10) with their closures; lists of at most 2^21 roads. -/
import Derived.Test.YtnfdomgibkdkcaaRoaQ
namespace Go.Proofs.Ytnfdomgibkdkcaa.Roa
open Go.RowKit RowG
set_option linter.unusedVariables false
set_option linter.unusedSimpArgs false

theorem res_cellP {fn : Func} {p : Tmp} {ty : TypeId} (h : fn.results = #[.cell p ty]) (tmps : Array Value) (P : Program) (w : World) :
    (results fn tmps).run P w = ((asAddr (tmps.getD p undef)).run P w).andThen fun a w₁ => (loadVar ty a).run P w₁ := by
  simp only [results, h]
  simp [Sem.run_bind, Result.andThen]

abbrev put4w (w : World) (k : Nat) (x0 x1 x2 x3 : Value) : World := (((w.setCell ⟨k, 0, none⟩ x0).setCell ⟨k, 1, none⟩ x1).setCell ⟨k, 2, none⟩ x2).setCell ⟨k, 3, none⟩ x3
theorem var4 {T : TypeId} {w : World} {k : Nat} {a b c d : Value} (h : Var T w k [a, b, c, d]) (x0 x1 x2 x3 : Value) : Var T (put4w w k x0 x1 x2 x3) k [x0, x1, x2, x3] :=
  (((h.set 0 x0).set 1 x1).set 2 x2).set 3 x3
theorem below4 {B : Nat} {w0 w : World} {k : Nat} (h : Below B w0 w) (hk : B ≤ k) (x0 x1 x2 x3 : Value) : Below B w0 (put4w w k x0 x1 x2 x3) :=
  (((h.setCell (p := ⟨k, 0, none⟩) hk _).setCell (p := ⟨k, 1, none⟩) hk _).setCell (p := ⟨k, 2, none⟩) hk _).setCell (p := ⟨k, 3, none⟩) hk _

/-- What the program's counted makes of a road. -/
def cntR (r : Rd) (lost : Bool) : Rd := if r.se = 1000000000 then r else usedR r lost

theorem at_rd {l : List Rd} {r : Int} (hok : roadsB l = true) (hr : hasB l r = true) : r.toNat < l.length ∧ rdB (at' l r.toNat) = true := by
  have h := of_decide_eq_true hr
  have hlt : r.toNat < l.length := by omega
  refine ⟨hlt, ?_⟩
  cases q : rdB (at' l r.toNat)
  · rw [rd_false hlt q] at hok; cases hok
  · rfl
theorem set_at {l : List Rd} {k : Nat} (h : k < l.length) : l.set k (at' l k) = l := WideElems.set_self l k _ (at_some h)
theorem turn_with (l : List Rd) (r : Int) (o : Bool) : withL l r (fun x => { x with op := o }) = turnL l r o ∧ withB l r (fun x => { x with op := o }) = turnB l r o := by
  cases hok : roadsB l
  · simp [withL, turnL, withB, turnB, hok]
  cases hr : hasB l r
  · simp [withL, turnL, withB, turnB, hok, hr]
  obtain ⟨hlt, _⟩ := at_rd hok hr
  simp only [withL, turnL, withB, turnB, hok, hr, Bool.true_and, if_true]
  have e : (({ at' l r.toNat with op := o } : Rd) ≠ at' l r.toNat) ↔ (at' l r.toNat).op ≠ o := by
    constructor
    · intro h q
      apply h
      rw [← q]
    · intro h q
      apply h
      exact (congrArg Rd.op q).symm
  refine ⟨?_, ?_⟩
  · cases hq : ((at' l r.toNat).op != o)
    · have : (at' l r.toNat).op = o := by simpa using hq
      simp only [Bool.false_eq_true, if_false]
      rw [← this]
      exact set_at hlt
    · simp
  · rw [Bool.eq_iff_iff, decide_eq_true_eq, bne_iff_ne]
    exact e
theorem used_with (l : List Rd) (r : Int) (o : Bool) : withL l r (fun x => cntR x o) = usedL l r o ∧ withB l r (fun x => cntR x o) = usedB l r := by
  cases hok : roadsB l
  · simp [withL, usedL, withB, usedB, hok]
  cases hr : hasB l r
  · simp [withL, usedL, withB, usedB, hok, hr]
  obtain ⟨hlt, _⟩ := at_rd hok hr
  simp only [withL, usedL, withB, usedB, hok, hr, Bool.true_and, if_true]
  by_cases hs : (at' l r.toNat).se = 1000000000
  · have hc : cntR (at' l r.toNat) o = at' l r.toNat := by simp [cntR, hs]
    have hb : ((at' l r.toNat).se != 1000000000) = false := by simpa using hs
    refine ⟨by simp only [hc, hb, set_at hlt]; simp, ?_⟩
    rw [hb]
    exact decide_eq_false (fun q => q hc)
  · have hc : cntR (at' l r.toNat) o = usedR (at' l r.toNat) o := by simp [cntR, hs]
    have hb : ((at' l r.toNat).se != 1000000000) = true := by simpa using hs
    refine ⟨by simp only [hc, hb]; simp, ?_⟩
    rw [hb]
    refine decide_eq_true (fun q => ?_)
    have := congrArg Rd.se (hc.symm.trans q)
    simp only [usedR] at this
    omega

end Go.Proofs.Ytnfdomgibkdkcaa.Roa

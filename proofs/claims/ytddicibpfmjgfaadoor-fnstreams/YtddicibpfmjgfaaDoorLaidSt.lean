/- What the listed package variables give the walks of chapter 15: the handle that errors.As reads, the sentinels (their cells, that they are different pointers), and the same variables read again behind the call. -/
import Derived.Test.YtddicibpfmjgfaaDoorRows
import Derived.Test.YtddicibpfmjgfaaDoorStrP
import Derived.ChangeSame
import Derived.ChangeVars
import Derived.JoinedOf
import Derived.LaidMore
import Derived.LaidHandle
import Derived.Stop.LaidTwo
import Derived.Stop.Joined
namespace Go.Proofs.YtddicibpfmjgfaaDoor.Str
open Go.RowKit Go.ChangeShapes Go.WideShapes
set_option linter.unusedVariables false
set_option linter.unusedSimpArgs false

theorem etG : Tryd.prog.globalNamed "errors.errorType" = some 6 := by kernel_rfl
theorem rtT : (Tryd.prog.cutTypes.find? (·.1 == "internal/reflectlite.rtype")).map (·.2) = some 89 := by kernel_rfl
theorem oneRow : ((List.range 138).filter fun t => Tryd.prog.rowNamed t [101, 114, 114, 111, 114]) = [52] := by kernel_rfl
theorem typesN : Tryd.prog.types.size = 138 := by kernel_rfl
theorem star : "*" ++ "errors.errorString" = "*errors.errorString" := by decide
theorem rowES (u : TypeId) (h : Tryd.prog.typeName? 3 u = some "*errors.errorString") : u = 104 :=
  typeName_ptr_named (nm := "errors.errorString") (by rw [star]; kernel_rfl) (by kernel_rfl) (by decide) u (by rw [star]; exact h)
theorem cellsES : Tryd.prog.cellsOf 126 = 1 := by kernel_rfl
theorem cellsStr : Tryd.prog.cellsOf 9 = 1 := by kernel_rfl

/-- The handle's cell. -/
theorem hnd_of {W : World} {l : List (String × DataW Unit)} (h : handlesMet Tryd.prog (("errors.errorType", Rows.laid_errors_errorType) :: l) W) : Hnd W := by
  obtain ⟨name, u, ty, e1, e2, e3, e4, e5⟩ := h _ List.mem_cons_self
  have en : name = [101, 114, 114, 111, 114] := (Option.some.inj e1).symm
  subst en
  obtain rfl := Option.some.inj (rtT.symm.trans e2)
  have hm : ty ∈ (List.range 138).filter fun t => Tryd.prog.rowNamed t [101, 114, 114, 111, 114] := List.mem_filter.2 ⟨List.mem_range.2 (by rw [← typesN]; exact e3), e4⟩
  rw [oneRow] at hm
  obtain rfl := List.mem_singleton.1 hm
  have hh : typeHandle Tryd.prog 52 = .pointer (some ⟨7, 52, none⟩) := by kernel_rfl
  rw [hh] at e5
  have := World.var?_cell etG e5 0
  simpa [Hnd] using this

theorem laid_drop2 {P : Program} {x y : String × DataW Unit} {r : List (String × DataW Unit)} {w : World} (h : laidMet P (x :: y :: r) w) : laidMet P (x :: r) w := by
  obtain ⟨ps, hv, hnd, hrows⟩ := h
  obtain ⟨n, d⟩ := x
  obtain ⟨n1, d1⟩ := y
  obtain ⟨g, t, cs, fuel, p, q, h1, h2, h3, h4, ⟨g1, t1, cs1, fuel1, p1, q1, h5, h6, h7, h8, hq, rfl⟩, rfl⟩ := hv
  refine ⟨_, ⟨g, t, cs, fuel, p, q1, h1, h2, h3, h4, hq, rfl⟩, List.Nodup.sublist (List.Sublist.append (List.Sublist.refl _) (List.sublist_append_right _ _)) hnd, fun b off hm => hrows b off ?_⟩
  rcases List.mem_append.1 hm with hm | hm
  · exact List.mem_append_left _ hm
  · exact List.mem_append_right _ (List.mem_append_right _ hm)

/-- The first two of the list, both sentinels: their cells, and that they are two. -/
theorem pair_of {n0 n1 : String} {t0 t1 : List UInt8} {r : List (String × DataW Unit)} {W : World} {g0 g1 : Nat} (h : laidMet Tryd.prog ((n0, .iface "*errors.errorString" (.ptr (.agg [.lit (.string t0)]))) :: (n1, .iface "*errors.errorString" (.ptr (.agg [.lit (.string t1)]))) :: r) W)
    (hg0 : Tryd.prog.globalNamed n0 = some g0) (ht0 : (Tryd.prog.globals[g0]?).map (·.type) = some 52) (hg1 : Tryd.prog.globalNamed n1 = some g1) (ht1 : (Tryd.prog.globals[g1]?).map (·.type) = some 52) :
    ∃ a0 a1 : Addr, W.var? Tryd.prog n0 = some #[.iface 104 (.pointer (some a0))] ∧ W.var? Tryd.prog n1 = some #[.iface 104 (.pointer (some a1))] ∧ Sen g0 a0 W ∧ Sen g1 a1 W ∧ a1 ≠ a0 := by
  obtain ⟨a0, a1, s0, s1, c0, c1, u0, u1, hv0, hv1, -, -, -, -, -, -, hne, hb0, hb1⟩ := laid_sentinels2 h hg0 ht0 hg1 ht1 Tryd.underlying52 rowES Tryd.underlying104 Tryd.underlying126 rfl rfl Tryd.underlying9 cellsES cellsStr
  exact ⟨a0, a1, hv0, hv1, ⟨by simpa using World.var?_cell hg0 hv0 0, c0, u0, hb0⟩, ⟨by simpa using World.var?_cell hg1 hv1 0, c1, u1, hb1⟩, hne.symm⟩
theorem var_one {W : World} {n : String} {a b : Addr} (h : W.var? Tryd.prog n = some #[.iface 104 (.pointer (some a))]) (k : W.var? Tryd.prog n = some #[.iface 104 (.pointer (some b))]) : a = b := by
  rw [h] at k
  simpa using k
theorem var_later {W W' : World} {n : String} {cs : Array Value} (h : W.var? Tryd.prog n = some cs) (b : Below W.heap.size W W') : W'.var? Tryd.prog n = some cs := by
  unfold World.var? at h ⊢
  cases hg : Tryd.prog.globalNamed n with
  | none => simp [hg] at h
  | some g =>
    simp only [hg, Option.bind_some] at h ⊢
    have hlt : g < W.heap.size := by
      rcases Nat.lt_or_ge g W.heap.size with h' | h'
      · exact h'
      · simp [Array.getElem?_eq_none h'] at h
    rw [b.block g hlt]
    exact h
theorem vars_nil {H : Type} (enc : TypeId × Value → H) {W : World} (sp : Nat → Bool) : DataW.TrodVars enc Tryd.prog W sp [] [] [] := rfl
theorem vars_cons {H : Type} (enc : TypeId × Value → H) {W : World} {n : String} {ns : List String} {g : Nat} {a : Addr} {ds : List (DataW H)} {ps : List MemPlace} {sp : Nat → Bool} (hg : Tryd.prog.globalNamed n = some g) (ht : (Tryd.prog.globals[g]?).map (·.type) = some 52)
    (h : W.var? Tryd.prog n = some #[.iface 104 (.pointer (some a))]) (r : DataW.TrodVars enc Tryd.prog W sp ns ds ps) : DataW.TrodVars enc Tryd.prog W sp (n :: ns) (tok enc (.iface 104 (.pointer (some a))) :: ds) (.cell g 0 :: ps) :=
  ⟨g, 52, #[.iface 104 (.pointer (some a))], 1, [], ps, hg, ht, h, trod_held (v := .iface 104 (.pointer (some a))) Tryd.underlying52 trivial 0, r, rfl⟩

end Go.Proofs.YtddicibpfmjgfaaDoor.Str

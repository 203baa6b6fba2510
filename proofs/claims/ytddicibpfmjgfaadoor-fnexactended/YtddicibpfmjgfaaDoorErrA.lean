/- Package errors at the program's own refusals (chapter 15): errors.As at a target of the refusal's type, errors.Is of a refusal against a sentinel; after the guide's worked contracts (Toyas, Sentry), for a struct that wraps an error. -/
import Derived.Test.YtddicibpfmjgfaaDoorProg
import Derived.Test.YtddicibpfmjgfaaDoorStrA
import Derived.Test.YtddicibpfmjgfaaDoorMem
import Derived.WalkKit
import Derived.LaidEql
import Derived.Stop.Asserts
import Derived.RowKitTokens
import Derived.Lib.ReflectliteSlice
namespace Go.Proofs.YtddicibpfmjgfaaDoor.Err
open Go.RowKit Go.Extern.Stop Go.Stop Go.Extern RowG Str
set_option linter.unusedVariables false
set_option linter.unusedSimpArgs false

/-- errors.As(nil, target). -/
theorem as_nil (t : Value) (w : World) :
    Calls Tryd.prog 44 #[.nilIface, t] w fun e w' => e = .returned (.bool false) ∧ w' = w := by
  go_enter Tryd.func44, Tryd.ntmps44
  go_wp2
  go_ret
  exact ⟨rfl, rfl⟩

/-! Closed facts on the entries for internal/reflectlite, at the refusal's types. -/
theorem valueOfP (t : Addr) (w : World) : (ReflectliteValue.unpack (.iface 68 (.pointer (some t)))).run Tryd.prog w
    = .ok (.agg #[.pointer (some ⟨7, 68, none⟩), .pointer (some ⟨w.heap.size, 0, none⟩), .int .u64 150]) (w.alloc (.cells #[.pointer (some t)] 68)) := by kernel_rfl
theorem typeP (a : Addr) (w : World) : (ReflectliteValue.methodAny (ReflectliteValue.valueError "reflectlite.Value.Type" 0) (fun t _ _ _ => ReflectliteType.toType t) #[.agg #[.pointer (some ⟨7, 68, none⟩), .pointer (some a), .int .u64 150]]).run Tryd.prog w
    = .ok (.iface 89 (.agg #[.pointer (some ⟨7, 68, none⟩)])) w := by kernel_rfl
theorem methodKind (h : Value) (w : World) : (Go.method 238 89 (.agg #[h]) "Kind").run Tryd.prog w = .ok (71, h) w := by kernel_rfl
theorem kindP (w : World) : ((ReflectliteType.abiMethod fun t => (fun a : Nat => Value.int IntKind.u8 (a : Int)) <$> Rtype.kind t) #[.pointer (some ⟨7, 68, none⟩)]).run Tryd.prog w = .ok (.int .u8 22) w := by kernel_rfl
theorem kindR (w : World) : ((ReflectliteType.abiMethod fun t => (fun a : Nat => Value.int IntKind.u8 (a : Int)) <$> Rtype.kind t) #[.pointer (some ⟨7, 66, none⟩)]).run Tryd.prog w = .ok (.int .u8 25) w := by kernel_rfl
theorem partsP (a : Addr) (w : World) : (ReflectliteValue.parts (.agg #[.pointer (some ⟨7, 68, none⟩), .pointer (some a), .int .u64 150])).run Tryd.prog w = .ok (some (68, a, 150)) w := by kernel_rfl
theorem isNilP (a p : Addr) (W : World) (ha : W.cell? a = some (.pointer (some p))) :
    (ReflectliteValue.method (ReflectliteValue.valueError "reflectlite.Value.IsNil" 0) ReflectliteValue.isNil #[.agg #[.pointer (some ⟨7, 68, none⟩), .pointer (some a), .int .u64 150]]).run Tryd.prog W = .ok (.bool false) W := by
  rw [Lib.rl_method]
  simp only [Sem.run_bind, partsP, Result.andThen]
  simp [ReflectliteValue.isNil, loadVar, isAgg, underlying, Tryd.underlying68, ha, Result.andThen]
theorem methodElem (h : Value) (w : World) : (Go.method 238 89 (.agg #[h]) "Elem").run Tryd.prog w = .ok (82, .agg #[h]) w := by kernel_rfl
theorem methodImplements (h : Value) (w : World) : (Go.method 238 89 (.agg #[h]) "Implements").run Tryd.prog w = .ok (83, .agg #[h]) w := by kernel_rfl
theorem methodAssignableTo (h : Value) (w : World) : (Go.method 238 89 (.agg #[h]) "AssignableTo").run Tryd.prog w = .ok (80, .agg #[h]) w := by kernel_rfl
theorem elemP (w : World) : (ReflectliteType.method ReflectliteType.elem #[.agg #[.pointer (some ⟨7, 68, none⟩)]]).run Tryd.prog w = .ok (.iface 89 (.agg #[.pointer (some ⟨7, 66, none⟩)])) w := by kernel_rfl
theorem implementsR (w : World) : (ReflectliteType.relation "Implements" ReflectliteType.implements_ #[.agg #[.pointer (some ⟨7, 66, none⟩)], .iface 89 (.agg #[.pointer (some ⟨7, 52, none⟩)])]).run Tryd.prog w = .ok (.bool true) w := by kernel_rfl
theorem typeOfR (v : Value) (w : World) : (ReflectliteType.typeOf #[.iface 66 v]).run Tryd.prog w = .ok (.iface 89 (.agg #[.pointer (some ⟨7, 66, none⟩)])) w := by kernel_rfl
theorem assignableR (w : World) : (ReflectliteType.relation "AssignableTo" ReflectliteType.assignableTo #[.agg #[.pointer (some ⟨7, 66, none⟩)], .iface 89 (.agg #[.pointer (some ⟨7, 66, none⟩)])]).run Tryd.prog w = .ok (.bool true) w := by kernel_rfl
theorem valueOfR (c0 c1 c2 c3 c4 c5 : Value) (w : World) : (ReflectliteValue.unpack (.iface 66 (.agg #[c0, c1, c2, c3, c4, c5]))).run Tryd.prog w
    = .ok (.agg #[.pointer (some ⟨7, 66, none⟩), .pointer (some ⟨w.heap.size, 0, none⟩), .int .u64 153]) (w.alloc (.cells #[c0, c1, c2, c3, c4, c5] 66)) := by kernel_rfl
theorem elemOfP (w : World) : (Rtype.elem? 68).run Tryd.prog w = .ok (some 66) w := by kernel_rfl
theorem mkR (p : Addr) (w : World) : (ReflectliteValue.mk 66 p ReflectliteValue.flagAddr).run Tryd.prog w = .ok (.agg #[.pointer (some ⟨7, 66, none⟩), .pointer (some p), .int .u64 409]) w := by kernel_rfl
theorem elemV (a p : Addr) (W : World) (ha : W.cell? a = some (.pointer (some p))) :
    (ReflectliteValue.method (ReflectliteValue.valueError "reflectlite.Value.Elem" 0) ReflectliteValue.elem #[.agg #[.pointer (some ⟨7, 68, none⟩), .pointer (some a), .int .u64 150]]).run Tryd.prog W
      = .ok (.agg #[.pointer (some ⟨7, 66, none⟩), .pointer (some p), .int .u64 409]) W := by
  rw [Lib.rl_method]
  simp only [Sem.run_bind, partsP, Result.andThen]
  simp [ReflectliteValue.elem, loadVar, isAgg, underlying, Tryd.underlying68, ha, Result.andThen, elemOfP, mkR]
theorem partsRa (a : Addr) (w : World) : (ReflectliteValue.parts (.agg #[.pointer (some ⟨7, 66, none⟩), .pointer (some a), .int .u64 409])).run Tryd.prog w = .ok (some (66, a, 409)) w := by kernel_rfl
theorem partsR (a : Addr) (w : World) : (ReflectliteValue.parts (.agg #[.pointer (some ⟨7, 66, none⟩), .pointer (some a), .int .u64 153])).run Tryd.prog w = .ok (some (66, a, 153)) w := by kernel_rfl
theorem directR (w : World) : (Rtype.directlyAssignable 66 66).run Tryd.prog w = .ok true w := by kernel_rfl
theorem isAggR (w : World) : (isAgg 66).run Tryd.prog w = .ok true w := by kernel_rfl
theorem sizeR (w : World) : (sizeOf 66).run Tryd.prog w = .ok 6 w := by kernel_rfl
theorem setR (k b : Nat) (old : List Value) (c0 c1 c2 c3 c4 c5 : Value) (W : World) (ho : old.length = 6) (h1 : ∀ v ∈ [c0, c1, c2, c3, c4, c5], v.oneCell' = true)
    (hb : Var 66 W b [c0, c1, c2, c3, c4, c5]) (ht : Var 66 W k old) :
    (ReflectliteValue.set #[.agg #[.pointer (some ⟨7, 66, none⟩), .pointer (some ⟨k, 0, none⟩), .int .u64 409], .agg #[.pointer (some ⟨7, 66, none⟩), .pointer (some ⟨b, 0, none⟩), .int .u64 153]]).run Tryd.prog W
      = .ok (.tuple #[]) (W.setCells k 0 [c0, c1, c2, c3, c4, c5]) := by
  have hld := run_loadCells_list (P := Tryd.prog) (w := W) ⟨b, 0, none⟩ [c0, c1, c2, c3, c4, c5] (fun j v hv => by rw [add_lit, Nat.zero_add]; exact hb.cell hv)
  simp only [List.length_cons, List.length_nil, Nat.zero_add, Nat.reduceAdd] at hld
  have hst := run_storeCells_cells (P := Tryd.prog) k 0 [c0, c1, c2, c3, c4, c5] 0 W (fun j hj => by
      rw [Nat.add_zero, Nat.zero_add, ht.cell (i := j) (List.getElem?_eq_getElem (by rw [ho]; exact hj))]; rfl) (fun j _ => by rw [Nat.add_zero, Nat.zero_add]; exact ht.free j) h1
  rw [Nat.add_zero] at hst
  delta ReflectliteValue.set ReflectliteValue.set.match_3
  simp only [List.size_toArray, List.length_cons, List.length_nil, Nat.reduceAdd, ↓reduceDIte, Array.getLit]
  simp [partsRa, partsR, ReflectliteValue.flagAddr, loadVar, isAggR, sizeR, hld, Result.andThen, directR, storeVar, Value.cells, hst] <;> skip

/-- Where the refusal lies in a variable. -/
def refC (s : Sm) (a : Addr) : List Value := s.c ++ [.iface 104 (.pointer (some a))]
def refV (s : Sm) (a : Addr) : Value := .iface 66 (.agg (refC s a).toArray)

set_option maxRecDepth 10000 in
set_option maxHeartbeats 4000000 in
theorem as_hit (s : Sm) (a : Addr) (k : Nat) (old : List Value) (w : World) (ho : old.length = 6) (hg : w.cell? ⟨6, 0, none⟩ = some (.iface 89 (.agg #[.pointer (some ⟨7, 52, none⟩)]))) (ht : Var 66 w k old) :
    Calls Tryd.prog 44 #[refV s a, .iface 68 (.pointer (some ⟨k, 0, none⟩))] w fun ev w' => ev = .returned (.bool true) ∧ Var 66 w' k (refC s a) ∧ Draw.Kept k w w' := by
  have h6 := @run_callFunc_extern Tryd.prog 48 _ (fun args => ReflectliteValue.unpack (args.getD 0 (.tuple #[]))) Tryd.func48 (by kernel_rfl) (by kernel_rfl) (by kernel_rfl) (by kernel_rfl)
  have h7 := @run_callFunc_extern Tryd.prog 49 _ (ReflectliteValue.methodAny (ReflectliteValue.valueError "reflectlite.Value.Type" 0) (fun t _ _ _ => ReflectliteType.toType t)) Tryd.func49 (by kernel_rfl) (by kernel_rfl) (by kernel_rfl) (by kernel_rfl)
  have h8 := @run_callFunc_extern Tryd.prog 50 _ (ReflectliteValue.method (ReflectliteValue.valueError "reflectlite.Value.IsNil" 0) ReflectliteValue.isNil) Tryd.func50 (by kernel_rfl) (by kernel_rfl) (by kernel_rfl) (by kernel_rfl)
  have h27 := @run_callFunc_extern Tryd.prog 71 _ (ReflectliteType.abiMethod fun t => do pure (.int .u8 (← Rtype.kind t))) Tryd.func71 (by kernel_rfl) (by kernel_rfl) (by kernel_rfl) (by kernel_rfl)
  have h37 := @run_callFunc_extern Tryd.prog 82 _ (ReflectliteType.method ReflectliteType.elem) Tryd.func82 (by kernel_rfl) (by kernel_rfl) (by kernel_rfl) (by kernel_rfl)
  have h38 := @run_callFunc_extern Tryd.prog 83 _ (ReflectliteType.relation "Implements" ReflectliteType.implements_) Tryd.func83 (by kernel_rfl) (by kernel_rfl) (by kernel_rfl) (by kernel_rfl)
  have h10 := @run_callFunc_extern Tryd.prog 52 _ ReflectliteType.typeOf Tryd.func52 (by kernel_rfl) (by kernel_rfl) (by kernel_rfl) (by kernel_rfl)
  have h35 := @run_callFunc_extern Tryd.prog 80 _ (ReflectliteType.relation "AssignableTo" ReflectliteType.assignableTo) Tryd.func80 (by kernel_rfl) (by kernel_rfl) (by kernel_rfl) (by kernel_rfl)
  have h11 := @run_callFunc_extern Tryd.prog 55 _ (ReflectliteValue.method (ReflectliteValue.valueError "reflectlite.Value.Elem" 0) ReflectliteValue.elem) Tryd.func55 (by kernel_rfl) (by kernel_rfl) (by kernel_rfl) (by kernel_rfl)
  have h12 := @run_callFunc_extern Tryd.prog 56 _ ReflectliteValue.set Tryd.func56 (by kernel_rfl) (by kernel_rfl) (by kernel_rfl) (by kernel_rfl)
  have tO := typeOfR
  have mA := methodAssignableTo
  have a25 := assignableR
  have v25 := valueOfR
  have f6 := valueOfP
  have f7 := typeP
  have mK := methodKind
  have mE := methodElem
  have mI := methodImplements
  have k27 := kindP
  have k25 := kindR
  have e27 := elemP
  have i25 := implementsR
  have hlt := Draw.lt_of_cell hg
  have htl := ht.lt
  obtain ⟨tx, rd, en, dn, sn⟩ := s
  simp only [refV, refC, Sm.c, List.cons_append, List.nil_append]
  have n8 := isNilP ⟨w.heap.size, 0, none⟩ ⟨k, 0, none⟩ ((w.alloc (.cells #[.pointer (some ⟨k, 0, none⟩)] 68)).alloc (.cells #[.pointer (some ⟨7, 68, none⟩), .pointer (some ⟨w.heap.size, 0, none⟩), .int .u64 150] 76)) (by simp)
  have hg2 : ((w.alloc (.cells #[.pointer (some ⟨k, 0, none⟩)] 68)).alloc (.cells #[.pointer (some ⟨7, 68, none⟩), .pointer (some ⟨w.heap.size, 0, none⟩), .int .u64 150] 76)).cell? ⟨6, 0, none⟩ = some (.iface 89 (.agg #[.pointer (some ⟨7, 52, none⟩)])) := by
    rw [World.cell?_alloc_lt _ _ ⟨6, 0, none⟩ (by simp; dsimp only at hlt; omega), World.cell?_alloc_lt _ _ ⟨6, 0, none⟩ hlt]; exact hg
  have el := elemV ⟨w.heap.size, 0, none⟩ ⟨k, 0, none⟩ (((w.alloc (.cells #[.pointer (some ⟨k, 0, none⟩)] 68)).alloc (.cells #[.pointer (some ⟨7, 68, none⟩), .pointer (some ⟨w.heap.size, 0, none⟩), .int .u64 150] 76)).alloc (.cells #[.pointer (some ⟨7, 68, none⟩), .pointer (some ⟨w.heap.size, 0, none⟩), .int .u64 150] 76)) (by rw [World.cell?_alloc_lt _ _ ⟨w.heap.size, 0, none⟩ (by simp; omega)]; simp)
  have st := setR k (w.heap.size + 1 + 1 + 1) old (.string tx) (.int .i64 rd) (.bool en) (.bool dn) (.bool sn) (.iface 104 (.pointer (some a))) ((((w.alloc (.cells #[.pointer (some ⟨k, 0, none⟩)] 68)).alloc (.cells #[.pointer (some ⟨7, 68, none⟩), .pointer (some ⟨w.heap.size, 0, none⟩), .int .u64 150] 76)).alloc (.cells #[.pointer (some ⟨7, 68, none⟩), .pointer (some ⟨w.heap.size, 0, none⟩), .int .u64 150] 76)).alloc (.cells #[.string tx, .int .i64 rd, .bool en, .bool dn, .bool sn, .iface 104 (.pointer (some a))] 66)) ho (by simp [Value.oneCell'])
    (by have := Var.new (T := 66) (((w.alloc (.cells #[.pointer (some ⟨k, 0, none⟩)] 68)).alloc (.cells #[.pointer (some ⟨7, 68, none⟩), .pointer (some ⟨w.heap.size, 0, none⟩), .int .u64 150] 76)).alloc (.cells #[.pointer (some ⟨7, 68, none⟩), .pointer (some ⟨w.heap.size, 0, none⟩), .int .u64 150] 76)) [.string tx, .int .i64 rd, .bool en, .bool dn, .bool sn, .iface 104 (.pointer (some a))]; simpa using this)
    (((ht.alloc _).alloc _).alloc _ |>.alloc _)
  have vt := (((ht.alloc (.cells #[.pointer (some ⟨k, 0, none⟩)] 68)).alloc (.cells #[.pointer (some ⟨7, 68, none⟩), .pointer (some ⟨w.heap.size, 0, none⟩), .int .u64 150] 76)).alloc (.cells #[.pointer (some ⟨7, 68, none⟩), .pointer (some ⟨w.heap.size, 0, none⟩), .int .u64 150] 76)).alloc (.cells #[.string tx, .int .i64 rd, .bool en, .bool dn, .bool sn, .iface 104 (.pointer (some a))] 66)
  have kt := ((((Draw.Kept.refl k w).alloc (.cells #[.pointer (some ⟨k, 0, none⟩)] 68)).alloc (.cells #[.pointer (some ⟨7, 68, none⟩), .pointer (some ⟨w.heap.size, 0, none⟩), .int .u64 150] 76)).alloc (.cells #[.pointer (some ⟨7, 68, none⟩), .pointer (some ⟨w.heap.size, 0, none⟩), .int .u64 150] 76)).alloc (.cells #[.string tx, .int .i64 rd, .bool en, .bool dn, .bool sn, .iface 104 (.pointer (some a))] 66)
  go_enter Tryd.func44, Tryd.ntmps44
  go_wp2
  refine wp_loop_rounds 1 ?_
  rw [rounds_succ]
  go_wp2
  go_ret
  refine ⟨rfl, ?_, kept_cells _ 0 _ kt⟩
  have := win_part [.string tx, .int .i64 rd, .bool en, .bool dn, .bool sn, .iface 104 (.pointer (some a))] 0 _ [] old [] (by simpa using vt) rfl (by simp [ho])
  simpa using this

end Go.Proofs.YtddicibpfmjgfaaDoor.Err

/- Contracts of the program's RoadsOk, Turn, Used (chapter 10); lists of at most 2^21 roads. -/
import Derived.Test.YtnfdomgibkdkcaaRoaP
import Derived.Deep.Cut
import Derived.Laws.StructEq
namespace Go.Proofs.Ytnfdomgibkdkcaa.Roa
open Go.RowKit RowG
set_option linter.unusedVariables false
set_option linter.unusedSimpArgs false

theorem run_lenMap {P : Program} {w : World} {b m : Nat} {es : Array MapEntry} {t ty k e : TypeId} (hu : P.underlying t = some (.map k e)) (h : w.heap[b]? = some (.map es m)) : (Builtin.len_ #[t] ty #[.map (some b)]).run P w = .ok (.int .i64 (es.size : Int)) w := by
  simp [Builtin.len_, run_underlying hu, MapKept.run_getObj_map h, Result.andThen, goInt]

theorem eqRoadV {o o' : Bool} {c s l c' s' l' : Int} {v : Bool} (h : decide ((⟨o, c, s, l⟩ : Rd) = ⟨o', c', s', l'⟩) = v) (w : World) : (Op.equalIn 10000 36 (.agg #[.bool o, .int .i64 c, .int .i64 s, .int .i64 l]) (.agg #[.bool o', .int .i64 c', .int .i64 s', .int .i64 l'])).run Try.prog w = .ok v w := by
  subst h
  have hf : Try.prog.fieldsOf 36 = #[{ name := "Open", type := 4, offset := 0, embedded := false, tag := "", pkgPath := "", byteOffset := 0 }, { name := "Cost", type := 2, offset := 1, embedded := false, tag := "", pkgPath := "", byteOffset := 8 }, { name := "Sent", type := 2, offset := 2, embedded := false, tag := "", pkgPath := "", byteOffset := 16 }, { name := "Lost", type := 2, offset := 3, embedded := false, tag := "", pkgPath := "", byteOffset := 24 }] := by kernel_rfl
  have hu : Try.prog.underlying 36 = some (.struct (Try.prog.fieldsOf 36)) := by kernel_rfl
  have hp : Try.prog.stoodInHeld 36 = false := by kernel_rfl
  have eb : Try.prog.underlying 4 = some .bool := by kernel_rfl
  have ei : Try.prog.underlying 2 = some (.int .i64) := by kernel_rfl
  have pb : Try.prog.plainKey 4 = true := by kernel_rfl
  have pi : Try.prog.plainKey 2 = true := by kernel_rfl
  have p0 : ∀ (x : Bool) (a b d : Int), (part 4 #[.bool x, .int .i64 a, .int .i64 b, .int .i64 d] 0).run Try.prog w = .ok (.bool x) w := fun x a b d => run_part_plain w pb rfl
  have p1 : ∀ (x : Bool) (a b d : Int), (part 2 #[.bool x, .int .i64 a, .int .i64 b, .int .i64 d] 1).run Try.prog w = .ok (.int .i64 a) w := fun x a b d => run_part_plain w pi rfl
  have p2 : ∀ (x : Bool) (a b d : Int), (part 2 #[.bool x, .int .i64 a, .int .i64 b, .int .i64 d] 2).run Try.prog w = .ok (.int .i64 b) w := fun x a b d => run_part_plain w pi rfl
  have p3 : ∀ (x : Bool) (a b d : Int), (part 2 #[.bool x, .int .i64 a, .int .i64 b, .int .i64 d] 3).run Try.prog w = .ok (.int .i64 d) w := fun x a b d => run_part_plain w pi rfl
  have q0 : ∀ x y : Bool, (Op.equalIn 9999 4 (.bool x) (.bool y)).run Try.prog w = .ok (x == y) w := fun x y => run_equalIn_bool w 9998 _ x y eb
  have q1 : ∀ x y : Int, (Op.equalIn 9999 2 (.int .i64 x) (.int .i64 y)).run Try.prog w = .ok (x == y) w := fun x y => run_equalIn_int w 9998 _ .i64 .i64 x y ei
  rw [show (10000 : Nat) = 9999 + 1 from rfl, run_equalIn_agg w 9999 _ _ _ hu hp, hf]
  have e : decide ((⟨o, c, s, l⟩ : Rd) = ⟨o', c', s', l'⟩) = ((o == o') && ((c == c') && ((s == s') && (l == l')))) := by
    rw [Bool.eq_iff_iff]
    simp
  rw [e]
  cases h0 : (o == o') <;> cases h1 : (c == c') <;> cases h2 : (s == s') <;> cases h3 : (l == l') <;> simp [Op.eqFields, p0, p1, p2, p3, q0, q1, h0, h1, h2, h3]

theorem put4 {w : World} {B g c : Nat} {l : List Rd} (h : Own w B g c l) {k : Nat} (hk : k < l.length) (y : Rd) :
    Own ((((w.setCell ⟨g, k * 4, none⟩ (.bool y.op)).setCell ⟨g, k * 4 + 1, none⟩ (.int .i64 y.co)).setCell ⟨g, k * 4 + 2, none⟩ (.int .i64 y.se)).setCell ⟨g, k * 4 + 3, none⟩ (.int .i64 y.lo)) B g c (l.set k y) := by
  have h0 := at_some hk
  generalize at' l k = x at h0
  have s0 : Own (w.setCell ⟨g, k * 4 + 0, none⟩ (.bool y.op)) B g c (l.set k ⟨y.op, x.co, x.se, x.lo⟩) := El.Own.put (E := E) h h0 (j := 0) (by decide) rfl
  rw [Nat.add_zero] at s0
  have g1 : (l.set k ⟨y.op, x.co, x.se, x.lo⟩)[k]? = some ⟨y.op, x.co, x.se, x.lo⟩ := by simp [hk]
  have s1 : Own ((w.setCell ⟨g, k * 4, none⟩ (.bool y.op)).setCell ⟨g, k * 4 + 1, none⟩ (.int .i64 y.co)) B g c ((l.set k ⟨y.op, x.co, x.se, x.lo⟩).set k ⟨y.op, y.co, x.se, x.lo⟩) := El.Own.put (E := E) s0 g1 (j := 1) (by decide) rfl
  rw [List.set_set] at s1
  have g2 : (l.set k ⟨y.op, y.co, x.se, x.lo⟩)[k]? = some ⟨y.op, y.co, x.se, x.lo⟩ := by simp [hk]
  have s2 : Own (((w.setCell ⟨g, k * 4, none⟩ (.bool y.op)).setCell ⟨g, k * 4 + 1, none⟩ (.int .i64 y.co)).setCell ⟨g, k * 4 + 2, none⟩ (.int .i64 y.se)) B g c ((l.set k ⟨y.op, y.co, x.se, x.lo⟩).set k ⟨y.op, y.co, y.se, x.lo⟩) := El.Own.put (E := E) s1 g2 (j := 2) (by decide) rfl
  rw [List.set_set] at s2
  have g3 : (l.set k ⟨y.op, y.co, y.se, x.lo⟩)[k]? = some ⟨y.op, y.co, y.se, x.lo⟩ := by simp [hk]
  have s3 : Own ((((w.setCell ⟨g, k * 4, none⟩ (.bool y.op)).setCell ⟨g, k * 4 + 1, none⟩ (.int .i64 y.co)).setCell ⟨g, k * 4 + 2, none⟩ (.int .i64 y.se)).setCell ⟨g, k * 4 + 3, none⟩ (.int .i64 y.lo)) B g c ((l.set k ⟨y.op, y.co, y.se, x.lo⟩).set k y) := El.Own.put (E := E) s2 g3 (j := 3) (by decide) rfl
  rwa [List.set_set] at s3
def withB (l : List Rd) (r : Int) (ch : Rd → Rd) : Bool := roadsB l && (hasB l r && decide (ch (at' l r.toNat) ≠ at' l r.toNat))
def withL (l : List Rd) (r : Int) (ch : Rd → Rd) : List Rd := if roadsB l then (if hasB l r then l.set r.toNat (ch (at' l r.toNat)) else l) else []

end Go.Proofs.Ytnfdomgibkdkcaa.Roa

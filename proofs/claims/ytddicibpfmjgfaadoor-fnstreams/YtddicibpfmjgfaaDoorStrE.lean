/- Two streams compared (chapter 15). Made by tools/gen/genstrp.py. -/
import Derived.Test.YtddicibpfmjgfaaDoorStrA
import Derived.Laws.StructEq
namespace Go.Proofs.YtddicibpfmjgfaaDoor.Str
open Go.RowKit RowG
set_option linter.unusedVariables false
set_option linter.unusedSimpArgs false

theorem eqStreamV {a0 b0 : ByteArray} {a1 b1 : Int} {a2 b2 : Bool} {a3 b3 : Bool} {a4 b4 : Bool} (w : World) : (Op.equalIn 10000 25 (.agg #[.string a0, .int .i64 a1, .bool a2, .bool a3, .bool a4]) (.agg #[.string b0, .int .i64 b1, .bool b2, .bool b3, .bool b4])).run Tryd.prog w = .ok ((a0.toList == b0.toList) && ((a1 == b1) && ((a2 == b2) && ((a3 == b3) && (a4 == b4))))) w := by
  have hf : Tryd.prog.fieldsOf 25 = #[{ name := "Text", type := 9, offset := 0, embedded := false, tag := "", pkgPath := "", byteOffset := 0 }, { name := "Read", type := 2, offset := 1, embedded := false, tag := "", pkgPath := "", byteOffset := 16 }, { name := "Ended", type := 4, offset := 2, embedded := false, tag := "", pkgPath := "", byteOffset := 24 }, { name := "Done", type := 4, offset := 3, embedded := false, tag := "", pkgPath := "", byteOffset := 25 }, { name := "Seen", type := 4, offset := 4, embedded := false, tag := "", pkgPath := "", byteOffset := 26 }] := by kernel_rfl
  have hu : Tryd.prog.underlying 25 = some (.struct (Tryd.prog.fieldsOf 25)) := by kernel_rfl
  have hp : Tryd.prog.stoodInHeld 25 = false := by kernel_rfl
  have ub : Tryd.prog.underlying 4 = some (.bool) := by kernel_rfl
  have kb : Tryd.prog.plainKey 4 = true := by kernel_rfl
  have ui : Tryd.prog.underlying 2 = some (.int .i64) := by kernel_rfl
  have ki : Tryd.prog.plainKey 2 = true := by kernel_rfl
  have us : Tryd.prog.underlying 9 = some (.string) := by kernel_rfl
  have ks : Tryd.prog.plainKey 9 = true := by kernel_rfl
  have p0 : ∀ (z0 : ByteArray) (z1 : Int) (z2 : Bool) (z3 : Bool) (z4 : Bool), (part 9 #[.string z0, .int .i64 z1, .bool z2, .bool z3, .bool z4] 0).run Tryd.prog w = .ok (.string z0) w := fun z0 z1 z2 z3 z4 => run_part_plain w ks rfl
  have p1 : ∀ (z0 : ByteArray) (z1 : Int) (z2 : Bool) (z3 : Bool) (z4 : Bool), (part 2 #[.string z0, .int .i64 z1, .bool z2, .bool z3, .bool z4] 1).run Tryd.prog w = .ok (.int .i64 z1) w := fun z0 z1 z2 z3 z4 => run_part_plain w ki rfl
  have p2 : ∀ (z0 : ByteArray) (z1 : Int) (z2 : Bool) (z3 : Bool) (z4 : Bool), (part 4 #[.string z0, .int .i64 z1, .bool z2, .bool z3, .bool z4] 2).run Tryd.prog w = .ok (.bool z2) w := fun z0 z1 z2 z3 z4 => run_part_plain w kb rfl
  have p3 : ∀ (z0 : ByteArray) (z1 : Int) (z2 : Bool) (z3 : Bool) (z4 : Bool), (part 4 #[.string z0, .int .i64 z1, .bool z2, .bool z3, .bool z4] 3).run Tryd.prog w = .ok (.bool z3) w := fun z0 z1 z2 z3 z4 => run_part_plain w kb rfl
  have p4 : ∀ (z0 : ByteArray) (z1 : Int) (z2 : Bool) (z3 : Bool) (z4 : Bool), (part 4 #[.string z0, .int .i64 z1, .bool z2, .bool z3, .bool z4] 4).run Tryd.prog w = .ok (.bool z4) w := fun z0 z1 z2 z3 z4 => run_part_plain w kb rfl
  have qb : ∀ x y : Bool, (Op.equalIn 9999 4 (.bool x) (.bool y)).run Tryd.prog w = .ok (x == y) w := fun x y => run_equalIn_bool w 9998 _ x y ub
  have qi : ∀ x y : Int, (Op.equalIn 9999 2 (.int .i64 x) (.int .i64 y)).run Tryd.prog w = .ok (x == y) w := fun x y => run_equalIn_int w 9998 _ .i64 .i64 x y ui
  have qs : ∀ x y : ByteArray, (Op.equalIn 9999 9 (.string x) (.string y)).run Tryd.prog w = .ok (x.toList == y.toList) w := fun x y => run_equalIn_string w 9998 _ x y us
  rw [show (10000 : Nat) = 9999 + 1 from rfl, run_equalIn_agg w 9999 _ _ _ hu hp, hf]
  cases h0 : (a0.toList == b0.toList)
  · simp [Op.eqFields, p0, p1, p2, p3, p4, qb, qi, qs, h0]
  cases h1 : (a1 == b1)
  · simp [Op.eqFields, p0, p1, p2, p3, p4, qb, qi, qs, h0, h1]
  cases h2 : (a2 == b2)
  · simp [Op.eqFields, p0, p1, p2, p3, p4, qb, qi, qs, h0, h1, h2]
  cases h3 : (a3 == b3)
  · simp [Op.eqFields, p0, p1, p2, p3, p4, qb, qi, qs, h0, h1, h2, h3]
  cases h4 : (a4 == b4)
  · simp [Op.eqFields, p0, p1, p2, p3, p4, qb, qi, qs, h0, h1, h2, h3, h4]
  simp [Op.eqFields, p0, p1, p2, p3, p4, qb, qi, qs, h0, h1, h2, h3, h4]

end Go.Proofs.YtddicibpfmjgfaaDoor.Str

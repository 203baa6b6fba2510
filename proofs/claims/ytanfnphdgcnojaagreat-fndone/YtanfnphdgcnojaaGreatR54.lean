/- Contracts of this seat's functions, and their mathematics (LinH DonG DonH). -/
import Derived.Test.YtanfnphdgcnojaaGreatR53
import Derived.Test.YtanfnphdgcnojaaGreatR16
import Derived.Stop.Asserts
import Derived.Test.YtanfnphdgcnojaaGreatR8
set_option linter.unusedVariables false
set_option linter.unusedSimpArgs false
set_option maxRecDepth 10000
set_option maxHeartbeats 4000000
namespace Go.Proofs.YtanfnphdgcnojaaGreat.Lin
open Go.RowKit RowG Hop Roa Wor
def deskS (hs : List Hp) (rs : List Rd) : ByteArray := if hopsB hs rs then (hs.getD 2 zeroH).t.bs else ⟨#[]⟩
theorem implAtDesk (aH aR : Option Addr) (n m cH cR : Nat) (xs : List Ha) (rs : List Rd) (w : World) (hn : n = xs.length) (hm : m = rs.length) (L : LL w aH xs) (R : Roa.E.Lies w aR rs) (hl : xs.length ≤ 1000) (hr : rs.length ≤ 1000) (hs : ∀ x ∈ xs, x.h.Sm) :
  Calls Tryz.prog 16 #[.agg #[.slice aH n cH, .slice aR m cR]] w fun e w' => e = .returned (.string (deskS (xs.map (·.h)) rs)) ∧ Below w.heap.size w w' := by
 subst hn hm
 have hmix := Roa.mix
 have v0 : Var 30 (w.alloc (.cells #[.slice aH xs.length cH, .slice aR rs.length cR] 30)) w.heap.size [.slice aH xs.length cH, .slice aR rs.length cR] := Var.new w _
 have BV : Below w.heap.size w (w.alloc (.cells #[.slice aH xs.length cH, .slice aR rs.length cR] 30)) := (Below.refl _ _).alloc (Nat.le_refl _) _
 have L0 := L.later BV
 have R0 := R.later BV
 have hOk := fun w' l' r' => implLineOk aH aR xs.length rs.length cH cR xs rs w' rfl rfl l' r' hr hs
 go_enter Tryz.func16, Tryz.ntmps16
 go_upto_region 1 with (fail)
 generalize w.alloc (.cells #[.slice aH xs.length cH, .slice aR rs.length cR] 30) = V at *
 have e0 := v0.cell (i := 0) rfl
 have e1 := v0.cell (i := 1) rfl
 go_wp2_with fail
 refine (hOk _ L0 R0).mono ?_
 rintro e w1 ⟨rfl, b1⟩
 have B1 : Below w.heap.size w w1 := BV.trans (b1.mono BV.size)
 have L1 := L0.later b1
 have v1 := v0.later b1
 clear e0 e1 L0 R0 L R hOk v0 b1 BV
 cases hb : hopsB (xs.map (·.h)) rs
 case false =>
  go_wp2_with fail
  go_ret
  exact ⟨by rw [deskS, hb]; rfl, B1⟩
 have HB : Hid (hopsB (xs.map (·.h)) rs = true) := hb
 clear hb
 have H3 : Hid (xs.length = 3) := by have := (hops_iff.1 HB.out).1; rw [List.length_map] at this; exact this
 have HL1 : Hid (LL w1 aH xs) := L1
 have HV1 : Hid (Var 30 w1 w.heap.size [.slice aH xs.length cH, .slice aR rs.length cR]) := v1
 obtain ⟨x, hx⟩ : ∃ x, xs[2]? = some x := ⟨xs[2]'(by rw [H3.out]; decide), List.getElem?_eq_getElem _⟩
 obtain ⟨b, off, rfl, hL1⟩ : ∃ b off, aH = some ⟨b, off, none⟩ ∧ ∀ j u, (hopE.vals xs)[j]? = some u → w1.cell? ⟨b, off + j, none⟩ = some u := by
  rcases L1.row with h0 | h0
  ·simp [h0] at hx
  ·exact h0
 have HD : Hid (deskS (xs.map (·.h)) rs = x.h.t.bs) := by
  show _ = _
  rw [deskS, HB.out, if_pos rfl]
  simp [List.getD, hx]
 have c7 : w1.cell? ⟨b, off + 26 + 7, none⟩ = some (.string x.h.t.bs) := El.Lies.cell hL1 hx (j := 7) rfl
 have i2 : (2 : Int) < (xs.length : Int) := by rw [H3.out]; decide
 have e0 := v1.cell (i := 0) rfl
 clear hL1 hx L1 HB
 go_wp2_with fail
 go_ret
 exact ⟨by rw [HD.out]; rfl, B1⟩
end Go.Proofs.YtanfnphdgcnojaaGreat.Lin
namespace Go.Proofs.YtanfnphdgcnojaaGreat.Wor
open Go.RowKit RowG Hop Roa Lin
theorem hasTold (v : Value) (xT : TypeId) (w : World) : (Instr.typeAssert (.iface 46 v) xT 105 true).run Tryz.prog w = .ok (.tuple #[.iface 46 v, .bool true]) w := run_typeAssert_hasB Tryz.underlying105 (by kernel_rfl) v xT w
theorem lacksTold (v : Value) (xT : TypeId) (w : World) : (Instr.typeAssert (.iface 44 v) xT 105 true).run Tryz.prog w = .ok (.tuple #[.nilIface, .bool false]) w := run_typeAssert_lacksB Tryz.underlying105 (by kernel_rfl) (by kernel_rfl) v xT w
theorem row_partsD {T : TypeId} {nm : String} {F : FuncId} {b : Bool} (hr : (Tryz.prog.info? T).map (fun i => (i.methods.find? (·.name == nm)).map (fun m => (m.path, m.func))) = some (some (#[], some (F, b)))) : ∃ i m, Tryz.prog.info? T = some i ∧ i.methods.find? (·.name == nm) = some m ∧ m.path = #[] ∧ m.func = some (F, b) := by
 cases hi : Tryz.prog.info? T with
 | none => rw [hi] at hr; simp at hr
 | some i =>
  rw [hi] at hr
  simp only [Option.map_some, Option.some.injEq] at hr
  cases hm : i.methods.find? (·.name == nm) with
  | none => rw [hm] at hr; simp at hr
  | some m =>
   rw [hm] at hr
   simp only [Option.map_some, Option.some.injEq, Prod.mk.injEq] at hr
   exact ⟨i, m, rfl, hm, hr.1, hr.2⟩
theorem rowTold : (Tryz.prog.info? 46).map (fun i => (i.methods.find? (·.name == "loop.example/g00450/impl.wasTold")).map (fun m => (m.path, m.func))) = some (some (#[], some (152, false))) := by kernel_rfl
theorem rowEnd : (Tryz.prog.info? 44).map (fun i => (i.methods.find? (·.name == "loop.example/g00450/impl.atEnd")).map (fun m => (m.path, m.func))) = some (some (#[], some (150, false))) := by kernel_rfl
theorem mTold (n : Nat) (v : Value) (w : World) : (method (n + 1) 46 v "loop.example/g00450/impl.wasTold").run Tryz.prog w = .ok (152, v) w := by
 obtain ⟨i, m, hi, hm, hp, hf⟩ := row_partsD rowTold
 unfold method
 simp [typeInfo, hi, hm, hp, hf, follow, receiverAt, run_underlying Tryz.underlying46, Place.get]
theorem mEnd (n : Nat) (v : Value) (w : World) : (method (n + 1) 44 v "loop.example/g00450/impl.atEnd").run Tryz.prog w = .ok (150, v) w := by
 obtain ⟨i, m, hi, hm, hp, hf⟩ := row_partsD rowEnd
 unfold method
 simp [typeInfo, hi, hm, hp, hf, follow, receiverAt, run_underlying Tryz.underlying44, Place.get]
theorem wasTold (g : Giv.Gv) (w : World) : Calls Tryz.prog 152 #[g.v] w fun e w' => e = .returned (.bool g.dn) ∧ Below w.heap.size w w' := by
 dsimp only [Giv.Gv.v]
 obtain ⟨V, hV⟩ : ∃ z, Hid (z = w.alloc (.cells #[.int .i64 g.ba, .string g.bs, .int .i64 g.cp, .int .i64 g.lm, .bool g.en, .bool g.dn] 46)) := ⟨_, rfl⟩
 have v0 : Var 46 V w.heap.size [.int .i64 g.ba, .string g.bs, .int .i64 g.cp, .int .i64 g.lm, .bool g.en, .bool g.dn] := by rw [hV.out]; exact Var.new w _
 have BV : Below w.heap.size w V := by rw [hV.out]; exact (Below.refl _ _).alloc (Nat.le_refl _) _
 go_enter Tryz.func152, Tryz.ntmps152
 go_upto_region 1 with (fail)
 rw [← hV.out]
 clear hV
 have e5 := v0.cell (i := 5) rfl
 go_wp2_with fail
 go_ret
 exact ⟨rfl, BV⟩
theorem takerEnd (x : Ha) (w : World) : Calls Tryz.prog 150 #[.agg #[.int .i64 x.h.t.nx, .string x.h.t.bs, .slice x.aT x.h.t.l.length x.cT, .int .i64 x.h.t.cp, .int .i64 x.h.t.fi, .bool x.h.t.en]] w fun e w' => e = .returned (.bool x.h.t.en) ∧ Below w.heap.size w w' := by
 obtain ⟨V, hV⟩ : ∃ z, Hid (z = w.alloc (.cells #[.int .i64 x.h.t.nx, .string x.h.t.bs, .slice x.aT x.h.t.l.length x.cT, .int .i64 x.h.t.cp, .int .i64 x.h.t.fi, .bool x.h.t.en] 44)) := ⟨_, rfl⟩
 have v0 : Var 44 V w.heap.size [.int .i64 x.h.t.nx, .string x.h.t.bs, .slice x.aT x.h.t.l.length x.cT, .int .i64 x.h.t.cp, .int .i64 x.h.t.fi, .bool x.h.t.en] := by rw [hV.out]; exact Var.new w _
 have BV : Below w.heap.size w V := by rw [hV.out]; exact (Below.refl _ _).alloc (Nat.le_refl _) _
 go_enter Tryz.func150, Tryz.ntmps150
 go_upto_region 1 with (fail)
 rw [← hV.out]
 clear hV
 have e5 := v0.cell (i := 5) rfl
 go_wp2_with fail
 go_ret
 exact ⟨rfl, BV⟩
def dkV (d : Bool × Ha) : Value := if d.1 then .iface 46 d.2.h.g.v else .iface 44 (.agg #[.int .i64 d.2.h.t.nx, .string d.2.h.t.bs, .slice d.2.aT d.2.h.t.l.length d.2.cT, .int .i64 d.2.h.t.cp, .int .i64 d.2.h.t.fi, .bool d.2.h.t.en])
def dkB (d : Bool × Ha) : Bool := if d.1 then d.2.h.g.dn else d.2.h.t.en
theorem isDone (d : Bool × Ha) (w : World) : Calls Tryz.prog 45 #[dkV d] w fun e w' => e = .returned (.bool (dkB d)) ∧ Below w.heap.size w w' := by
 obtain ⟨b, x⟩ := d
 cases b
 case true =>
  have hA := hasTold x.h.g.v
  have hM := fun w' => mTold (292 - 1) x.h.g.v w'
  have hC := fun w' => wasTold x.h.g w'
  dsimp only [dkV, dkB, Giv.Gv.v] at hA hM hC ⊢
  go_enter Tryz.func45, Tryz.ntmps45
  go_wp2_with fail
  refine (hC _).mono ?_
  rintro e w1 ⟨rfl, b1⟩
  go_wp2_with fail
  go_ret
  exact ⟨rfl, b1⟩
 case false =>
  have hA := lacksTold (.agg #[.int .i64 x.h.t.nx, .string x.h.t.bs, .slice x.aT x.h.t.l.length x.cT, .int .i64 x.h.t.cp, .int .i64 x.h.t.fi, .bool x.h.t.en])
  have hM := fun w' => mEnd (292 - 1) (.agg #[.int .i64 x.h.t.nx, .string x.h.t.bs, .slice x.aT x.h.t.l.length x.cT, .int .i64 x.h.t.cp, .int .i64 x.h.t.fi, .bool x.h.t.en]) w'
  have hC := fun w' => takerEnd x w'
  dsimp only [dkV, dkB]
  go_enter Tryz.func45, Tryz.ntmps45
  go_wp2_with fail
  refine (hC _).mono ?_
  rintro e w1 ⟨rfl, b1⟩
  go_wp2_with fail
  go_ret
  exact ⟨rfl, b1⟩
end Go.Proofs.YtanfnphdgcnojaaGreat.Wor
namespace Go.Proofs.YtanfnphdgcnojaaGreat.Wor
open Go.RowKit RowG Hop Roa Lin
def dkE : El (Bool × Ha) where
 enc d := [dkV d]
 size := 1
 len _ := rfl
 one d u hu := by
  simp only [List.mem_cons, List.not_mem_nil, or_false] at hu
  subst hu
  unfold dkV
  split <;> rfl
 pos := by decide
theorem infoDesk : (Tryz.prog.info? 72).map (fun i => (i.zero, i.size, i.bytes)) = some (some .nilIface, 1, 16) := by kernel_rfl
theorem typD : Typ Tryz.prog 68 72 dkE 16 := ⟨Tryz.underlying68, by
 obtain ⟨i, hi, h0, h1, h2⟩ := info_parts infoDesk
 exact ⟨i, _, hi, h0, h1, h2, rfl⟩⟩
def desksL (xs : List Ha) : List (Bool × Ha) := xs.flatMap fun x => [(true, x), (false, x)]
theorem desksL_step {xs : List Ha} {k : Nat} {x : Ha} (h : xs[k]? = some x) : desksL (xs.take (k + 1)) = desksL (xs.take k) ++ [(true, x), (false, x)] := by
 unfold desksL
 rw [List.take_add_one, h, List.flatMap_append]
 simp
theorem desksL_len (xs : List Ha) : (desksL xs).length = 2 * xs.length := by
 induction xs with
 | nil => rfl
 | cons x xs ih => simp only [desksL, List.flatMap_cons, List.length_append, List.length_cons, List.length_nil] at ih ⊢; omega
theorem lies_two {w : World} {m : Nat} {x : Ha} (v : Var 72 w m [.iface 46 (.agg #[.int .i64 x.h.g.ba, .string x.h.g.bs, .int .i64 x.h.g.cp, .int .i64 x.h.g.lm, .bool x.h.g.en, .bool x.h.g.dn]), .iface 44 (.agg #[.int .i64 x.h.t.nx, .string x.h.t.bs, .slice x.aT x.h.t.l.length x.cT, .int .i64 x.h.t.cp, .int .i64 x.h.t.fi, .bool x.h.t.en])]) : dkE.Lies w (some ⟨m, 0, none⟩) [(true, x), (false, x)] := by
 refine .inr ⟨m, 0, rfl, fun j u hu => ?_⟩
 rw [Nat.zero_add]
 exact v.cell (by simpa [El.vals, dkE, dkV] using hu)
theorem desksOf (aH aR : Option Addr) (cH cR : Nat) (xs : List Ha) (rs : List Rd) (w : World) (L : LL w aH xs) (hl : xs.length ≤ 1000) :
  Calls Tryz.prog 44 #[.agg #[.slice aH xs.length cH, .slice aR rs.length cR]] w fun e w' => ∃ (a : Option Addr) (c : Nat), e = .returned (.slice a (desksL xs).length c) ∧ dkE.Own 72 w' w.heap.size a c (desksL xs) ∧ Below w.heap.size w w' := by
 have v0 : Var 30 (w.alloc (.cells #[.slice aH xs.length cH, .slice aR rs.length cR] 30)) w.heap.size [.slice aH xs.length cH, .slice aR rs.length cR] := Var.new w _
 have BV : Below w.heap.size w (w.alloc (.cells #[.slice aH xs.length cH, .slice aR rs.length cR] 30)) := (Below.refl _ _).alloc (Nat.le_refl _) _
 have HL0 : Hid (LL (w.alloc (.cells #[.slice aH xs.length cH, .slice aR rs.length cR] 30)) aH xs) := L.later BV
 clear L
 go_enter Tryz.func44, Tryz.ntmps44
 go_upto_region 1 with (fail)
 generalize w.alloc (.cells #[.slice aH xs.length cH, .slice aR rs.length cR] 30) = V at *
 have e0 := v0.cell (i := 0) rfl
 go_wp2_with fail
 clear e0 v0
 go_loopw [3, 5, 9] (fun sv _ iv wr => ∃ (k n c : Nat) (a : Option Addr), k ≤ xs.length ∧ iv = .int .i64 k ∧ sv = .slice a n c ∧ Hid (n = (desksL (xs.take k)).length) ∧ dkE.Own 72 wr V.heap.size a c (desksL (xs.take k)) ∧ Below V.heap.size V wr ∧ Below w.heap.size w wr) (fun _ _ iv _ => xs.length - (intOf iv).toNat)
 case atStart => exact ⟨0, 0, 0, none, by omega, rfl, rfl, rfl, El.Own.none _ _, Below.refl _ _, BV⟩
 case round =>
  obtain ⟨k, n, c, a, hk, rfl, rfl, HN, o, hB, hW⟩ := hrel
  by_cases hkx : k < xs.length
  case neg =>
   have i0 : ¬ (k : Int) < (xs.length : Int) := by omega
   have hkx' : xs.take k = xs := List.take_of_length_le (by omega)
   have HO : Hid (n = (desksL xs).length ∧ dkE.Own 72 wr V.heap.size a c (desksL xs)) := by rw [hkx'] at HN o; exact ⟨HN.out, o⟩
   clear HN o hkx'
   go_wp2_with fail
   go_ret
   exact ⟨a, c, by rw [← HO.out.1]; rfl, HO.out.2.mono BV.size, hW⟩
  case pos =>
   have i0 : (k : Int) < (xs.length : Int) := by omega
   have i1 : (0 : Int) ≤ (k : Int) := by omega
   obtain ⟨x, hx⟩ : ∃ x, xs[k]? = some x := ⟨xs[k], List.getElem?_eq_getElem hkx⟩
   have HX : Hid (xs[k]? = some x) := hx
   have Lr := HL0.out.later hB
   obtain ⟨b, off, rfl, hL1⟩ : ∃ b off, aH = some ⟨b, off, none⟩ ∧ ∀ j u, (hopE.vals xs)[j]? = some u → wr.cell? ⟨b, off + j, none⟩ = some u := by
    rcases Lr.row with h0 | h0
    ·simp [h0] at hx
    ·exact h0
   have c0 : wr.cell? ⟨b, off + k * 13, none⟩ = some (.int .i64 x.h.g.ba) := El.Lies.cell hL1 hx (j := 0) rfl
   have c1 : wr.cell? ⟨b, off + k * 13 + 1, none⟩ = some (.string x.h.g.bs) := El.Lies.cell hL1 hx (j := 1) rfl
   have c2 : wr.cell? ⟨b, off + k * 13 + 2, none⟩ = some (.int .i64 x.h.g.cp) := El.Lies.cell hL1 hx (j := 2) rfl
   have c3 : wr.cell? ⟨b, off + k * 13 + 3, none⟩ = some (.int .i64 x.h.g.lm) := El.Lies.cell hL1 hx (j := 3) rfl
   have c4 : wr.cell? ⟨b, off + k * 13 + 4, none⟩ = some (.bool x.h.g.en) := El.Lies.cell hL1 hx (j := 4) rfl
   have c5 : wr.cell? ⟨b, off + k * 13 + 5, none⟩ = some (.bool x.h.g.dn) := El.Lies.cell hL1 hx (j := 5) rfl
   have c6 : wr.cell? ⟨b, off + k * 13 + 6, none⟩ = some (.int .i64 x.h.t.nx) := El.Lies.cell hL1 hx (j := 6) rfl
   have c7 : wr.cell? ⟨b, off + k * 13 + 7, none⟩ = some (.string x.h.t.bs) := El.Lies.cell hL1 hx (j := 7) rfl
   have c8 : wr.cell? ⟨b, off + k * 13 + 8, none⟩ = some (.slice x.aT x.h.t.l.length x.cT) := El.Lies.cell hL1 hx (j := 8) rfl
   have c9 : wr.cell? ⟨b, off + k * 13 + 9, none⟩ = some (.int .i64 x.h.t.cp) := El.Lies.cell hL1 hx (j := 9) rfl
   have c10 : wr.cell? ⟨b, off + k * 13 + 10, none⟩ = some (.int .i64 x.h.t.fi) := El.Lies.cell hL1 hx (j := 10) rfl
   have c11 : wr.cell? ⟨b, off + k * 13 + 11, none⟩ = some (.bool x.h.t.en) := El.Lies.cell hL1 hx (j := 11) rfl
   have c12 : wr.cell? ⟨b, off + k * 13 + 12, none⟩ = some (.slice x.aW x.h.ws.length x.cW) := El.Lies.cell hL1 hx (j := 12) rfl
   clear Lr hL1 hx
   have v5 : Var 49 (wr.alloc (.cells #[.int .i64 x.h.g.ba, .string x.h.g.bs, .int .i64 x.h.g.cp, .int .i64 x.h.g.lm, .bool x.h.g.en, .bool x.h.g.dn, .int .i64 x.h.t.nx, .string x.h.t.bs, .slice x.aT x.h.t.l.length x.cT, .int .i64 x.h.t.cp, .int .i64 x.h.t.fi, .bool x.h.t.en, .slice x.aW x.h.ws.length x.cW] 49)) wr.heap.size [.int .i64 x.h.g.ba, .string x.h.g.bs, .int .i64 x.h.g.cp, .int .i64 x.h.g.lm, .bool x.h.g.en, .bool x.h.g.dn, .int .i64 x.h.t.nx, .string x.h.t.bs, .slice x.aT x.h.t.l.length x.cT, .int .i64 x.h.t.cp, .int .i64 x.h.t.fi, .bool x.h.t.en, .slice x.aW x.h.ws.length x.cW] := Var.new wr _
   have b2 := (Below.refl wr.heap.size wr).alloc (Nat.le_refl _) (.cells #[.int .i64 x.h.g.ba, .string x.h.g.bs, .int .i64 x.h.g.cp, .int .i64 x.h.g.lm, .bool x.h.g.en, .bool x.h.g.dn, .int .i64 x.h.t.nx, .string x.h.t.bs, .slice x.aT x.h.t.l.length x.cT, .int .i64 x.h.t.cp, .int .i64 x.h.t.fi, .bool x.h.t.en, .slice x.aW x.h.ws.length x.cW] 49)
   have o2 := o.alloc (.cells #[.int .i64 x.h.g.ba, .string x.h.g.bs, .int .i64 x.h.g.cp, .int .i64 x.h.g.lm, .bool x.h.g.en, .bool x.h.g.dn, .int .i64 x.h.t.nx, .string x.h.t.bs, .slice x.aT x.h.t.l.length x.cT, .int .i64 x.h.t.cp, .int .i64 x.h.t.fi, .bool x.h.t.en, .slice x.aW x.h.ws.length x.cW] 49)
   go_upto_region 5 with (fail)
   clear c0 c1 c2 c3 c4 c5 c6 c7 c8 c9 c10 c11 c12 o
   have hB2 := hB.trans (b2.mono hB.size)
   have hW2 := hW.trans (b2.mono hW.size)
   clear hB b2 hW
   generalize wr.alloc (.cells #[.int .i64 x.h.g.ba, .string x.h.g.bs, .int .i64 x.h.g.cp, .int .i64 x.h.g.lm, .bool x.h.g.en, .bool x.h.g.dn, .int .i64 x.h.t.nx, .string x.h.t.bs, .slice x.aT x.h.t.l.length x.cT, .int .i64 x.h.t.cp, .int .i64 x.h.t.fi, .bool x.h.t.en, .slice x.aW x.h.ws.length x.cW] 49) = V2 at *
   generalize wr.heap.size = k5 at *
   have c0 := v5.cell (i := 0) rfl
   have c1 := v5.cell (i := 1) rfl
   have c2 := v5.cell (i := 2) rfl
   have c3 := v5.cell (i := 3) rfl
   have c4 := v5.cell (i := 4) rfl
   have c5 := v5.cell (i := 5) rfl
   have c6 := v5.cell (i := 6) rfl
   have c7 := v5.cell (i := 7) rfl
   have c8 := v5.cell (i := 8) rfl
   have c9 := v5.cell (i := 9) rfl
   have c10 := v5.cell (i := 10) rfl
   have c11 := v5.cell (i := 11) rfl
   have v6 : Var 72 (V2.alloc (.cells #[.iface 46 (.agg #[.int .i64 x.h.g.ba, .string x.h.g.bs, .int .i64 x.h.g.cp, .int .i64 x.h.g.lm, .bool x.h.g.en, .bool x.h.g.dn]), .iface 44 (.agg #[.int .i64 x.h.t.nx, .string x.h.t.bs, .slice x.aT x.h.t.l.length x.cT, .int .i64 x.h.t.cp, .int .i64 x.h.t.fi, .bool x.h.t.en])] 72)) V2.heap.size [.iface 46 (.agg #[.int .i64 x.h.g.ba, .string x.h.g.bs, .int .i64 x.h.g.cp, .int .i64 x.h.g.lm, .bool x.h.g.en, .bool x.h.g.dn]), .iface 44 (.agg #[.int .i64 x.h.t.nx, .string x.h.t.bs, .slice x.aT x.h.t.l.length x.cT, .int .i64 x.h.t.cp, .int .i64 x.h.t.fi, .bool x.h.t.en])] := Var.new V2 _
   have b3 := (Below.refl V2.heap.size V2).alloc (Nat.le_refl _) (.cells #[.iface 46 (.agg #[.int .i64 x.h.g.ba, .string x.h.g.bs, .int .i64 x.h.g.cp, .int .i64 x.h.g.lm, .bool x.h.g.en, .bool x.h.g.dn]), .iface 44 (.agg #[.int .i64 x.h.t.nx, .string x.h.t.bs, .slice x.aT x.h.t.l.length x.cT, .int .i64 x.h.t.cp, .int .i64 x.h.t.fi, .bool x.h.t.en])] 72)
   have o3 := o2.alloc (.cells #[.iface 46 (.agg #[.int .i64 x.h.g.ba, .string x.h.g.bs, .int .i64 x.h.g.cp, .int .i64 x.h.g.lm, .bool x.h.g.en, .bool x.h.g.dn]), .iface 44 (.agg #[.int .i64 x.h.t.nx, .string x.h.t.bs, .slice x.aT x.h.t.l.length x.cT, .int .i64 x.h.t.cp, .int .i64 x.h.t.fi, .bool x.h.t.en])] 72)
   have hB3 := hB2.trans (b3.mono hB2.size)
   have hW3 := hW2.trans (b3.mono hW2.size)
   have hl6 := lies_two v6
   have hz3 : V.heap.size ≤ (V2.alloc (.cells #[.iface 46 (.agg #[.int .i64 x.h.g.ba, .string x.h.g.bs, .int .i64 x.h.g.cp, .int .i64 x.h.g.lm, .bool x.h.g.en, .bool x.h.g.dn]), .iface 44 (.agg #[.int .i64 x.h.t.nx, .string x.h.t.bs, .slice x.aT x.h.t.l.length x.cT, .int .i64 x.h.t.cp, .int .i64 x.h.t.fi, .bool x.h.t.en])] 72)).heap.size := hB3.size
   have hnl : n ≤ 2000 := by
    have h1 := HN.out
    rw [desksL_len, List.length_take] at h1
    omega
   have hlen : n = (desksL (xs.take k)).length := HN.out
   clear b3 o2 hB2 hW2 v6
   go_wp2_with (at_builtin; refine wpList_appK typD (by decide) (by rfl) _ _ (by rfl) V.heap.size a c n (desksL (xs.take k)) [(true, x), (false, x)] hlen (by rfl) o3 hz3 (some ⟨V2.heap.size, 0, none⟩) 2 2 rfl (by rfl) hl6 (fun e => by cases e) (by rw [← hlen]; simp; omega) ?_; intro a6 c6 w6 o6 gr6 _)
   have hg6 := blk_ge o3
   have hB6 : Below V.heap.size V w6 := grown_below hB3 (Nat.le_refl _) hg6 gr6
   have hW6 : Below w.heap.size w w6 := BV.trans (hB6.mono BV.size)
   have HN6 : Hid (n + 2 = (desksL (xs.take (k + 1))).length) := by show _ = _; rw [desksL_step HX.out, List.length_append, ← hlen]; rfl
   rw [← desksL_step HX.out] at o6
   clear hlen
   go_roundw
   case rel => exact ⟨k + 1, n + 2, c6, a6, by omega, by go_num, by rw [← HN.out], HN6, o6, hB6, hW6⟩
   case measure => simp [intOf]; omega
end Go.Proofs.YtanfnphdgcnojaaGreat.Wor

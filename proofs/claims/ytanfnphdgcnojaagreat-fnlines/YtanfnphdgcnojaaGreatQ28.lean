/- Contracts of this seat's functions, and their mathematics (LinG LinH WorB). -/
import Derived.Test.YtanfnphdgcnojaaGreatQ27
import Derived.WalkMore
import Derived.Test.YtanfnphdgcnojaaGreatQ24
set_option linter.unusedVariables false
set_option linter.unusedSimpArgs false
set_option maxRecDepth 10000
set_option maxHeartbeats 4000000
namespace Go.Proofs.YtanfnphdgcnojaaGreat.Lin
open Go.RowKit RowG Hop Roa Wor
def along (rs : List Rd) (k : Nat) : Int := if k = 1 then (rs.length : Int) else 1
theorem roadsAlong (aH aR : Option Addr) (n cH cR : Nat) (rs : List Rd) (k : Nat) (w : World) :
  Calls Tryz.prog 57 #[.agg #[.slice aH n cH, .slice aR rs.length cR], .int .i64 (k : Int)] w fun e w' => e = .returned (.int .i64 (along rs k)) ∧ Below w.heap.size w w' := by
 have v0 : Var 30 (w.alloc (.cells #[.slice aH n cH, .slice aR rs.length cR] 30)) w.heap.size [.slice aH n cH, .slice aR rs.length cR] := Var.new w _
 have BV : Below w.heap.size w (w.alloc (.cells #[.slice aH n cH, .slice aR rs.length cR] 30)) := (Below.refl _ _).alloc (Nat.le_refl _) _
 have HA : Hid (along rs k = if k = 1 then (rs.length : Int) else 1) := rfl
 go_enter Tryz.func57, Tryz.ntmps57
 go_upto_region 1 with (fail)
 generalize w.alloc (.cells #[.slice aH n cH, .slice aR rs.length cR] 30) = V at *
 have e1 := v0.cell (i := 1) rfl
 clear v0
 by_cases hk : k = 1
 ·have HK : Hid (k = 1) := hk
  have ki : ((k : Int) != 1) = false := by simp; omega
  clear hk
  go_wp2_with fail
  go_ret
  exact ⟨by rw [HA.out, if_pos HK.out]; rfl, BV⟩
 ·have HK : Hid (¬ k = 1) := hk
  have ki : ((k : Int) != 1) = true := by simp; omega
  clear hk
  go_wp2_with fail
  go_ret
  exact ⟨by rw [HA.out, if_neg HK.out]; rfl, BV⟩
theorem road_along {k : Nat} {rs : List Rd} {t : Lt} (h : letB t = true) : roadB k rs t = decide (t.rd < along rs k) := by
 have h0 : 0 ≤ t.rd := by
  simp only [letB, Bool.and_eq_true, decide_eq_true_eq] at h
  exact h.1.1
 unfold roadB along
 by_cases hk : k = 1
 ·rw [if_pos hk, if_pos hk]
 ·rw [if_neg hk, if_neg hk, decide_eq_decide]
  omega
theorem rightHops (aH aR : Option Addr) (cH cR : Nat) (xs : List Ha) (rs : List Rd) (w : World) (h3 : xs.length = 3) (L : LL w aH xs) (hs : ∀ x ∈ xs, x.h.Sm) :
  Calls Tryz.prog 39 #[.agg #[.slice aH xs.length cH, .slice aR rs.length cR]] w fun e w' => ∃ n : Nat, e = .returned (.int .i64 (n : Int)) ∧ (n = 3 ↔ ∀ i, i < 3 → okI (xs.map (·.h)) rs i = true) ∧ Below w.heap.size w w' := by
 have hmix := Roa.mix
 have v0 : Var 30 (w.alloc (.cells #[.slice aH xs.length cH, .slice aR rs.length cR] 30)) w.heap.size [.slice aH xs.length cH, .slice aR rs.length cR] := Var.new w _
 have BV : Below w.heap.size w (w.alloc (.cells #[.slice aH xs.length cH, .slice aR rs.length cR] 30)) := (Below.refl _ _).alloc (Nat.le_refl _) _
 have HL0 : Hid (LL (w.alloc (.cells #[.slice aH xs.length cH, .slice aR rs.length cR] 30)) aH xs) := L.later BV
 have H3 : Hid (xs.length = 3) := h3
 clear h3 L
 go_enter Tryz.func39, Tryz.ntmps39
 go_wp2_with fail
 go_step3
 go_upto_region 1 with (fail)
 generalize w.alloc (.cells #[.slice aH xs.length cH, .slice aR rs.length cR] 30) = V at *
 have HV0 : Hid (Var 30 V w.heap.size [.slice aH xs.length cH, .slice aR rs.length cR]) := v0
 have e0 := v0.cell (i := 0) rfl
 clear v0
 go_wp2_with fail
 go_step3
 go_wp2_with fail
 clear e0
 go_loopw [3, 4, 5, 7, 11] (fun rv _ _ _ iv wr => ∃ k : Nat, k ≤ 3 ∧ rv = .int .i64 k ∧ iv = .int .i64 k ∧ Hid (∀ i, i < k → okI (xs.map (·.h)) rs i = true) ∧ Below V.heap.size V wr) (fun _ _ _ _ iv _ => 3 - (intOf iv).toNat)
 case atStart => exact ⟨0, by omega, rfl, rfl, fun i hi => by omega, Below.refl _ _⟩
 case round =>
  obtain ⟨k, hk, rfl, rfl, hall, hB⟩ := hrel
  by_cases hk3 : k < 3
  case neg =>
   have hk4 : ¬ (k : Int) < (xs.length : Int) := by rw [H3.out]; omega
   go_wp2_with fail
   (try rw [Exit.noGoto_ret])
   go_ret
   exact ⟨k, rfl, ⟨fun _ i hi => hall.out i (by omega), fun _ => by omega⟩, BV.trans (hB.mono BV.size)⟩
  case pos =>
   have i0 : (k : Int) < (xs.length : Int) := by rw [H3.out]; omega
   have i1 : (0 : Int) ≤ (k : Int) := by omega
   obtain ⟨x, hx⟩ : ∃ x, xs[k]? = some x := ⟨xs[k]'(by rw [H3.out]; exact hk3), List.getElem?_eq_getElem _⟩
   have HX : Hid (xs[k]? = some x) := hx
   have hxm := List.mem_of_getElem? hx
   have Lr := HL0.out.later hB
   have HN : Hid (okI (xs.map (·.h)) rs k = false → (k = 3 ↔ ∀ i, i < 3 → okI (xs.map (·.h)) rs i = true)) := fun hf => ⟨fun e => by omega, fun h => by rw [h k hk3] at hf; cases hf⟩
   obtain ⟨b, off, rfl, hL1⟩ : ∃ b off, aH = some ⟨b, off, none⟩ ∧ ∀ j u, (hopE.vals xs)[j]? = some u → wr.cell? ⟨b, off + j, none⟩ = some u := by
    rcases Lr.row with h0 | h0
    ·simp [h0] at hx
    ·exact h0
   have c0 : wr.cell? ⟨b, off + k * 13, none⟩ = some (.int .i64 x.h.g.ba) := El.Lies.cell hL1 hx (j := 0) rfl
   have c1 : wr.cell? ⟨b, off + k * 13 + 1, none⟩ = some (.string x.h.g.bs) := El.Lies.cell hL1 hx (j := 1) rfl
   have c2 : wr.cell? ⟨b, off + k * 13 + 2, none⟩ = some (.int .i64 x.h.g.cp) := El.Lies.cell hL1 hx (j := 2) rfl
   have c3 : wr.cell? ⟨b, off + k * 13 + 3, none⟩ = some (.int .i64 x.h.g.lm) := El.Lies.cell hL1 hx (j := 3) rfl
   have c4 : wr.cell? ⟨b, off + k * 13 + 4, none⟩ = some (.bool x.h.g.en) := El.Lies.cell hL1 hx (j := 4) rfl
   have c5 : wr.cell? ⟨b, off + k * 13 + 5, none⟩ = some (.bool x.h.g.dn) := El.Lies.cell hL1 hx (j := 5) rfl
   have c6 : wr.cell? ⟨b, off + k * 13 + 6, none⟩ = some (.int .i64 x.h.t.nx) := El.Lies.cell hL1 hx (j := 6) rfl
   have c7 : wr.cell? ⟨b, off + k * 13 + 7, none⟩ = some (.string x.h.t.bs) := El.Lies.cell hL1 hx (j := 7) rfl
   have c8 : wr.cell? ⟨b, off + k * 13 + 8, none⟩ = some (.slice x.aT x.h.t.l.length x.cT) := El.Lies.cell hL1 hx (j := 8) rfl
   have c9 : wr.cell? ⟨b, off + k * 13 + 9, none⟩ = some (.int .i64 x.h.t.cp) := El.Lies.cell hL1 hx (j := 9) rfl
   have c10 : wr.cell? ⟨b, off + k * 13 + 10, none⟩ = some (.int .i64 x.h.t.fi) := El.Lies.cell hL1 hx (j := 10) rfl
   have c11 : wr.cell? ⟨b, off + k * 13 + 11, none⟩ = some (.bool x.h.t.en) := El.Lies.cell hL1 hx (j := 11) rfl
   have c12 : wr.cell? ⟨b, off + k * 13 + 12, none⟩ = some (.slice x.aW x.h.ws.length x.cW) := El.Lies.cell hL1 hx (j := 12) rfl
   have hH := fun w' (p : Tak.partE.Lies w' x.aT x.h.t.l) (q : letE.Lies w' x.aW x.h.ws) => implHopOk x.h x.aT x.cT x.aW x.cW w' p q (hs x hxm)
   clear Lr hL1 hx
   have v5 : Var 49 (wr.alloc (.cells #[.int .i64 x.h.g.ba, .string x.h.g.bs, .int .i64 x.h.g.cp, .int .i64 x.h.g.lm, .bool x.h.g.en, .bool x.h.g.dn, .int .i64 x.h.t.nx, .string x.h.t.bs, .slice x.aT x.h.t.l.length x.cT, .int .i64 x.h.t.cp, .int .i64 x.h.t.fi, .bool x.h.t.en, .slice x.aW x.h.ws.length x.cW] 49)) wr.heap.size [.int .i64 x.h.g.ba, .string x.h.g.bs, .int .i64 x.h.g.cp, .int .i64 x.h.g.lm, .bool x.h.g.en, .bool x.h.g.dn, .int .i64 x.h.t.nx, .string x.h.t.bs, .slice x.aT x.h.t.l.length x.cT, .int .i64 x.h.t.cp, .int .i64 x.h.t.fi, .bool x.h.t.en, .slice x.aW x.h.ws.length x.cW] := Var.new wr _
   have b2 := (Below.refl wr.heap.size wr).alloc (Nat.le_refl _) (.cells #[.int .i64 x.h.g.ba, .string x.h.g.bs, .int .i64 x.h.g.cp, .int .i64 x.h.g.lm, .bool x.h.g.en, .bool x.h.g.dn, .int .i64 x.h.t.nx, .string x.h.t.bs, .slice x.aT x.h.t.l.length x.cT, .int .i64 x.h.t.cp, .int .i64 x.h.t.fi, .bool x.h.t.en, .slice x.aW x.h.ws.length x.cW] 49)
   go_upto_region 5 with (fail)
   clear c0 c1 c2 c3 c4 c5 c6 c7 c8 c9 c10 c11 c12
   have hB2 := hB.trans (b2.mono hB.size)
   clear hB b2
   generalize wr.alloc (.cells #[.int .i64 x.h.g.ba, .string x.h.g.bs, .int .i64 x.h.g.cp, .int .i64 x.h.g.lm, .bool x.h.g.en, .bool x.h.g.dn, .int .i64 x.h.t.nx, .string x.h.t.bs, .slice x.aT x.h.t.l.length x.cT, .int .i64 x.h.t.cp, .int .i64 x.h.t.fi, .bool x.h.t.en, .slice x.aW x.h.ws.length x.cW] 49) = V2 at *
   generalize wr.heap.size = k5 at *
   have RLx := (HL0.out.later hB2).rows x hxm
   obtain ⟨c0, c1, c2, c3, c4, c5, c6, c7, c8, c9, c10, c11, c12⟩ := v5.c13
   go_wp2_with fail
   refine (hH _ RLx.p RLx.l).mono ?_
   rintro e w2 ⟨rfl, b2⟩
   have hB := hB2.trans (b2.mono hB2.size)
   clear c0 c1 c2 c3 c4 c5 c6 c7 c8 c9 c10 c11 c12 hH RLx hB2
   replace v5 := v5.later b2
   clear b2
   cases hh : hopB x.h
   case false =>
    go_wp2_with fail
    (try rw [Exit.noGoto_ret])
    go_ret
    exact ⟨k, rfl, HN.out (by rw [okI_eq HX.out, hh]; rfl), BV.trans (hB.mono BV.size)⟩
   have HH : Hid (hopB x.h = true) := hh
   clear hh
   have c12 := v5.cell (i := 12) rfl
   have hwl : x.h.ws.length ≤ 524288 := (hs x hxm).wl
   go_wp2_with fail
   clear c12 v5
   go_loopw [7, 22] (fun _ jv wq => ∃ j : Nat, j ≤ x.h.ws.length ∧ jv = .int .i64 j ∧ Hid ((x.h.ws.take j).all (roadB k rs) = true) ∧ Below V.heap.size V wq) (fun _ jv _ => x.h.ws.length - (intOf jv).toNat)
   case atStart => exact ⟨0, Nat.zero_le _, rfl, by show _ = _; simp, hB⟩
   case round =>
    clear hB
    obtain ⟨j, hj, rfl, hall2, hB⟩ := hrel
    by_cases hjl : j < x.h.ws.length
    case neg =>
     have hje : j = x.h.ws.length := by omega
     subst hje
     have j1 : ¬ (x.h.ws.length : Int) < (x.h.ws.length : Int) := by omega
     have HA : Hid (x.h.ws.all (roadB k rs) = true) := by have := hall2.out; rw [List.take_length] at this; exact this
     clear hall2
     go_wp2_with fail
     go_roundw
     case rel =>
      refine ⟨k + 1, by omega, by go_num, by go_num, fun i hi => ?_, hB⟩
      by_cases hik : i < k
      ·exact hall.out i hik
      ·obtain rfl : i = k := by omega
       rw [okI_eq HX.out, HH.out, HA.out]; rfl
     case measure => simp [intOf]; omega
    case pos =>
     have j0 : (j : Int) < (x.h.ws.length : Int) := by omega
     have j1 : (0 : Int) ≤ (j : Int) := by omega
     obtain ⟨t, ht⟩ : ∃ t, x.h.ws[j]? = some t := ⟨x.h.ws[j], List.getElem?_eq_getElem hjl⟩
     have htm := List.mem_of_getElem? ht
     have HT : Hid ((x.h.ws.take (j + 1)).all (roadB k rs) = roadB k rs t) := by show _ = _; rw [all_take ht, hall2.out, Bool.true_and]
     have HF : Hid (roadB k rs t = false → okI (xs.map (·.h)) rs k = false) := fun q => by
      have : x.h.ws.all (roadB k rs) = false := by
       rw [List.all_eq_false]
       exact ⟨t, htm, by rw [q]; decide⟩
      rw [okI_eq HX.out, this]; simp
     have HE : Hid (roadB k rs t = decide (t.rd < along rs k)) := road_along (by
      have := HH.out
      simp only [hopB, Bool.and_eq_true, List.all_eq_true] at this
      exact this.1 t htm)
     obtain ⟨al, hal⟩ : ∃ al, al = along rs k := ⟨_, rfl⟩
     have HE2 : Hid (roadB k rs t = decide (t.rd < al)) := by show _ = _; rw [hal]; exact HE.out
     have hRA := fun w' => roadsAlong (some ⟨b, off, none⟩) aR xs.length cH cR rs k w'
     rw [← hal] at hRA
     have RLx := ((HL0.out.later hB).rows x hxm).l
     clear hal HE hall2
     obtain ⟨d, of, ha, hW1⟩ : ∃ d of, x.aW = some ⟨d, of, none⟩ ∧ ∀ j u, (letE.vals x.h.ws)[j]? = some u → wr.cell? ⟨d, of + j, none⟩ = some u := by
      rcases RLx with h0 | h0
      ·simp [h0] at hjl
      ·exact h0
     have d0 : wr.cell? ⟨d, of + j * 7, none⟩ = some (.bool t.bk) := El.Lies.cell hW1 ht (j := 0) rfl
     have d1 : wr.cell? ⟨d, of + j * 7 + 1, none⟩ = some (.int .i64 t.rd) := El.Lies.cell hW1 ht (j := 1) rfl
     have d2 : wr.cell? ⟨d, of + j * 7 + 2, none⟩ = some (.int .i64 t.pl) := El.Lies.cell hW1 ht (j := 2) rfl
     have d3 : wr.cell? ⟨d, of + j * 7 + 3, none⟩ = some (.string t.bs) := El.Lies.cell hW1 ht (j := 3) rfl
     have d4 : wr.cell? ⟨d, of + j * 7 + 4, none⟩ = some (.bool t.en) := El.Lies.cell hW1 ht (j := 4) rfl
     have d5 : wr.cell? ⟨d, of + j * 7 + 5, none⟩ = some (.int .i64 t.lm) := El.Lies.cell hW1 ht (j := 5) rfl
     have d6 : wr.cell? ⟨d, of + j * 7 + 6, none⟩ = some (.bool t.dn) := El.Lies.cell hW1 ht (j := 6) rfl
     clear hW1 RLx ht
     have v7 : Var 66 (wr.alloc (.cells #[.bool t.bk, .int .i64 t.rd, .int .i64 t.pl, .string t.bs, .bool t.en, .int .i64 t.lm, .bool t.dn] 66)) wr.heap.size [.bool t.bk, .int .i64 t.rd, .int .i64 t.pl, .string t.bs, .bool t.en, .int .i64 t.lm, .bool t.dn] := Var.new wr _
     have b2 := (Below.refl wr.heap.size wr).alloc (Nat.le_refl _) (.cells #[.bool t.bk, .int .i64 t.rd, .int .i64 t.pl, .string t.bs, .bool t.en, .int .i64 t.lm, .bool t.dn] 66)
     rw [ha]
     go_upto_region 9 with (fail)
     clear d0 d1 d2 d3 d4 d5 d6 ha
     have hB2 := hB.trans (b2.mono hB.size)
     clear hB b2
     generalize wr.alloc (.cells #[.bool t.bk, .int .i64 t.rd, .int .i64 t.pl, .string t.bs, .bool t.en, .int .i64 t.lm, .bool t.dn] 66) = V3 at *
     have v9 := HV0.out.later hB2
     have c1 := v7.cell (i := 1) rfl
     have c1' := Draw.Later.cell c1
     have e0 := v9.cell (i := 0) rfl
     have e1 := v9.cell (i := 1) rfl
     have e0' := Draw.Later.cell e0
     have e1' := Draw.Later.cell e1
     refine Draw.wp_region_later hmix (by kernel_rfl) ?_
     repeat (go_big_quiet_step ((go_at_call 57; exact Draw.later_of (hRA _))))
     refine wpQuiet_nil ?_
     intro _ hw'
     obtain ⟨⟨wq, hBq⟩, hw''⟩ := hw'
     subst hw''
     have hB := hB2.trans (hBq.mono hB2.size)
     clear hBq c1 c1' e0 e1 e0' e1' v7 v9 hB2 hRA
     by_cases hta : al ≤ t.rd
     case pos =>
      have hta2 : ¬ t.rd < al := by omega
      go_wp2_with fail
      (try rw [Exit.noGoto_ret])
      go_ret
      exact ⟨k, rfl, HN.out (HF.out (by rw [HE2.out]; simpa using hta)), BV.trans (hB.mono BV.size)⟩
     case neg =>
      have hta2 : t.rd < al := by omega
      go_wp2_with fail
      go_roundw
      case rel => exact ⟨j + 1, by omega, by go_num, by show _ = _; rw [HT.out, HE2.out]; simpa using hta2, hB⟩
      case measure => simp [intOf]; omega
theorem implLineOk (aH aR : Option Addr) (n m cH cR : Nat) (xs : List Ha) (rs : List Rd) (w : World) (hn : n = xs.length) (hm : m = rs.length) (L : LL w aH xs) (R : Roa.E.Lies w aR rs) (hr : rs.length ≤ 1000) (hs : ∀ x ∈ xs, x.h.Sm) :
  Calls Tryz.prog 14 #[.agg #[.slice aH n cH, .slice aR m cR]] w fun e w' => e = .returned (.bool (hopsB (xs.map (·.h)) rs)) ∧ Below w.heap.size w w' := by
 subst hn hm
 have v0 : Var 30 (w.alloc (.cells #[.slice aH xs.length cH, .slice aR rs.length cR] 30)) w.heap.size [.slice aH xs.length cH, .slice aR rs.length cR] := Var.new w _
 have BV : Below w.heap.size w (w.alloc (.cells #[.slice aH xs.length cH, .slice aR rs.length cR] 30)) := (Below.refl _ _).alloc (Nat.le_refl _) _
 have L0 := L.later BV
 have R0 := R.later BV
 have hRo := fun w' (l' : Roa.E.Lies w' aR rs) => implRoadsOk aR rs.length cR rs w' rfl l' (by omega)
 go_enter Tryz.func14, Tryz.ntmps14
 go_upto_region 1 with (fail)
 generalize w.alloc (.cells #[.slice aH xs.length cH, .slice aR rs.length cR] 30) = V at *
 have e0 := v0.cell (i := 0) rfl
 have e1 := v0.cell (i := 1) rfl
 by_cases h3 : xs.length = 3
 case neg =>
  have h3i : ¬ (xs.length : Int) = 3 := by omega
  go_wp2_with fail
  go_ret
  exact ⟨Num.ret_bool (hops_len (by simpa using h3)).symm, BV⟩
 have h3i : (xs.length : Int) = 3 := by omega
 go_wp2_with fail
 refine (hRo _ R0).mono ?_
 rintro e w1 ⟨rfl, b1⟩
 have B1 : Below w.heap.size w w1 := BV.trans (b1.mono BV.size)
 have L1 := L0.later b1
 have v1 := v0.later b1
 clear e0 e1 L0 R0 L R hRo v0 b1
 have H3 : Hid (xs.length = 3) := h3
 cases hro : roadsB rs
 case false =>
  go_wp2_with fail
  go_ret
  exact ⟨Num.ret_bool (hops_roads hro).symm, B1⟩
 have HRO : Hid (roadsB rs = true) := hro
 clear hro h3 h3i
 have e0 := v1.cell (i := 0) rfl
 have e1 := v1.cell (i := 1) rfl
 have hRH := fun w' l' => rightHops aH aR cH cR xs rs w' H3.out l' hs
 go_wp2_with fail
 refine (hRH _ L1).mono ?_
 rintro e w2 ⟨q, rfl, hq, b2⟩
 have HQ : Hid _ := hq
 clear hq hRH
 by_cases hq3 : q = 3
 ·have qi : (q : Int) = 3 := by omega
  have HY : Hid _ := HQ.out.1 hq3
  subst hq3
  clear qi
  go_wp2_with fail
  go_ret
  exact ⟨Num.ret_bool (hops_yes (by simpa using H3.out) HRO.out HY.out).symm, B1.trans (b2.mono B1.size)⟩
 ·have qi : ((q : Int) == 3) = false := by simp; omega
  have HY : Hid (hopsB (xs.map (·.h)) rs = false) := by
   show _ = _
   cases hb : hopsB (xs.map (·.h)) rs
   ·rfl
   ·have h := (hops_okI (xs.map (·.h)) rs).symm.trans hb
    simp only [Bool.and_eq_true, List.all_eq_true, List.mem_range] at h
    exact absurd (HQ.out.2 (fun i hi => h.2.2 i hi)) hq3
  go_wp2_with fail
  go_ret
  exact ⟨Num.ret_bool HY.out.symm, B1.trans (b2.mono B1.size)⟩
end Go.Proofs.YtanfnphdgcnojaaGreat.Lin
namespace Go.Proofs.YtanfnphdgcnojaaGreat.Lin
open Go.RowKit RowG Hop Roa Wor
def sumC (hs : List Hp) (k : Nat) : Int := ((hs.take k).map fun h => h.g.cp + h.t.cp).sum
theorem sumC_zero (hs : List Hp) : sumC hs 0 = 0 := by simp [sumC]
theorem sumC_step {hs : List Hp} {k : Nat} {h : Hp} (e : hs[k]? = some h) : sumC hs (k + 1) = sumC hs k + (h.g.cp + h.t.cp) := by
 unfold sumC
 rw [List.take_add_one, e]
 simp
def roomB (hs : List Hp) (rs : List Rd) : Int := if hopsB hs rs then sumC hs 3 else -1
def deskS (hs : List Hp) (rs : List Rd) : ByteArray := if hopsB hs rs then (hs.getD 2 zeroH).t.bs else ⟨#[]⟩
theorem hop_caps {h : Hp} (hb : hopB h = true) : (1 ≤ h.g.cp ∧ h.g.cp ≤ 400) ∧ (1 ≤ h.t.cp ∧ h.t.cp ≤ 400) := by
 obtain ⟨_, h1, h2, _⟩ := Hop.hop_ok hb
 exact ⟨(Giv.ok_iff.1 h1).1, (Tak.taker_in h2).1⟩
theorem hop_at {xs : List Ha} {rs : List Rd} (hb : hopsB (xs.map (·.h)) rs = true) {k : Nat} {x : Ha} (hx : xs[k]? = some x) : hopB x.h = true := by
 obtain ⟨h1, h2, h3⟩ := hops_iff.1 hb
 have hk : k < xs.length := (List.getElem?_eq_some_iff.1 hx).1
 have := (h3 k (by simpa using by rw [List.length_map] at h1; omega)).1
 rw [show (xs.map (·.h)).getD k zeroH = x.h by simp [List.getD, hx]] at this
 exact this
theorem sumC_bd {hs : List Hp} {rs : List Rd} (hb : hopsB hs rs = true) : ∀ k : Nat, k ≤ 3 → 2 * (k : Int) ≤ sumC hs k ∧ sumC hs k ≤ 800 * (k : Int)
 | 0, _ => by simp [sumC]
 | k + 1, hk => by
  obtain ⟨h1, h2, h3⟩ := hops_iff.1 hb
  have e : hs[k]? = some (hs.getD k zeroH) := by
   rw [List.getD_eq_getElem?_getD, List.getElem?_eq_getElem (by omega)]; rfl
  have q := sumC_bd hb k (by omega)
  have c := hop_caps (h3 k (by omega)).1
  rw [sumC_step e]
  omega
theorem specRoomOf (aH aR : Option Addr) (n m cH cR : Nat) (xs : List Ha) (rs : List Rd) (w : World) (hn : n = xs.length) (hm : m = rs.length) (L : LL w aH xs) (R : Roa.E.Lies w aR rs) (hl : xs.length ≤ 1000) (hr : rs.length ≤ 1000) (hs : ∀ x ∈ xs, x.h.Sm) :
  Calls Tryz.prog 13 #[.agg #[.slice aH n cH, .slice aR m cR]] w fun e w' => e = .returned (.int .i64 (roomB (xs.map (·.h)) rs)) ∧ Below w.heap.size w w' := by
 subst hn hm
 have hmix := Roa.mix
 have v0 : Var 30 (w.alloc (.cells #[.slice aH xs.length cH, .slice aR rs.length cR] 30)) w.heap.size [.slice aH xs.length cH, .slice aR rs.length cR] := Var.new w _
 have BV : Below w.heap.size w (w.alloc (.cells #[.slice aH xs.length cH, .slice aR rs.length cR] 30)) := (Below.refl _ _).alloc (Nat.le_refl _) _
 have L0 := L.later BV
 have R0 := R.later BV
 have hOk := fun w' l' r' => specLineOk aH aR xs.length rs.length cH cR xs rs w' rfl rfl l' r' hl hr hs
 go_enter Tryz.func13, Tryz.ntmps13
 go_upto_region 1 with (fail)
 generalize w.alloc (.cells #[.slice aH xs.length cH, .slice aR rs.length cR] 30) = V at *
 have e0 := v0.cell (i := 0) rfl
 have e1 := v0.cell (i := 1) rfl
 go_wp2_with fail
 refine (hOk _ L0 R0).mono ?_
 rintro e w1 ⟨rfl, b1⟩
 have B1 : Below w.heap.size w w1 := BV.trans (b1.mono BV.size)
 have L1 := L0.later b1
 have v1 := v0.later b1
 clear e0 e1 L0 R0 L R hOk v0 b1 BV
 cases hb : hopsB (xs.map (·.h)) rs
 case false =>
  go_wp2_with fail
  go_ret
  exact ⟨by rw [roomB, hb]; rfl, B1⟩
 have HB : Hid (hopsB (xs.map (·.h)) rs = true) := hb
 clear hb
 have H3 : Hid (xs.length = 3) := by have := (hops_iff.1 HB.out).1; rw [List.length_map] at this; exact this
 have HL1 : Hid (LL w1 aH xs) := L1
 have HV1 : Hid (Var 30 w1 w.heap.size [.slice aH xs.length cH, .slice aR rs.length cR]) := v1
 clear L1 v1
 go_wp2_with fail
 go_loopw [3, 4] (fun nv iv wr => ∃ (k : Nat) (s : Int), k ≤ 3 ∧ iv = .int .i64 k ∧ nv = .int .i64 s ∧ Hid (s = sumC (xs.map (·.h)) k) ∧ Below w1.heap.size w1 wr) (fun _ iv _ => 3 - (intOf iv).toNat)
 case atStart => exact ⟨0, 0, by omega, rfl, rfl, (sumC_zero _).symm, Below.refl _ _⟩
 case round =>
  obtain ⟨k, s, hk, rfl, rfl, hsum, hB⟩ := hrel
  by_cases hk3 : k < 3
  case neg =>
   have hk4 : ¬ (k : Int) < 3 := by omega
   go_wp2_with fail
   go_ret
   exact ⟨by rw [roomB, HB.out, hsum.out, show k = 3 by omega]; rfl, B1.trans (hB.mono B1.size)⟩
  case pos =>
   have i0 : (k : Int) < 3 := by omega
   have i1 : (0 : Int) ≤ (k : Int) := by omega
   have i2 : (k : Int) < (xs.length : Int) := by rw [H3.out]; omega
   obtain ⟨x, hx⟩ : ∃ x, xs[k]? = some x := ⟨xs[k]'(by rw [H3.out]; exact hk3), List.getElem?_eq_getElem _⟩
   have Lr := HL1.out.later hB
   have HS : Hid (sumC (xs.map (·.h)) (k + 1) = s + (x.h.g.cp + x.h.t.cp)) := by show _ = _; rw [sumC_step (h := x.h) (by simp [hx]), hsum.out]
   have hbd := sumC_bd HB.out k (by omega)
   rw [← hsum.out] at hbd
   have hcp := hop_caps (hop_at HB.out hx)
   obtain ⟨s0, s1⟩ := hbd
   obtain ⟨⟨g0, g1⟩, t0, t1⟩ := hcp
   have z1 : -9223372036854775808 ≤ s + x.h.g.cp ∧ s + x.h.g.cp ≤ 9223372036854775807 := by omega
   have z2 : -9223372036854775808 ≤ s + x.h.g.cp + x.h.t.cp ∧ s + x.h.g.cp + x.h.t.cp ≤ 9223372036854775807 := by omega
   have z3 : -9223372036854775808 ≤ x.h.g.cp + x.h.t.cp ∧ x.h.g.cp + x.h.t.cp ≤ 9223372036854775807 := by omega
   obtain ⟨b, off, rfl, hL1⟩ : ∃ b off, aH = some ⟨b, off, none⟩ ∧ ∀ j u, (hopE.vals xs)[j]? = some u → wr.cell? ⟨b, off + j, none⟩ = some u := by
    rcases Lr.row with h0 | h0
    ·simp [h0] at hx
    ·exact h0
   have c2 : wr.cell? ⟨b, off + k * 13 + 2, none⟩ = some (.int .i64 x.h.g.cp) := El.Lies.cell hL1 hx (j := 2) rfl
   have c9 : wr.cell? ⟨b, off + k * 13 + 9, none⟩ = some (.int .i64 x.h.t.cp) := El.Lies.cell hL1 hx (j := 9) rfl
   have e0 := (HV1.out.later hB).cell (i := 0) rfl
   clear Lr hL1 hx hsum s0 s1
   go_wp2_with fail
   go_quiet (fail)
   go_wp2_with fail
   go_roundw
   case rel => exact ⟨k + 1, s + (x.h.g.cp + x.h.t.cp), by omega, by go_num, by go_num, HS.out.symm, ⟨hB.os, hB.tape, hB.output, hB.size, hB.block⟩⟩
   case measure => simp [intOf]; omega
theorem implRoomOf (aH aR : Option Addr) (n m cH cR : Nat) (xs : List Ha) (rs : List Rd) (w : World) (hn : n = xs.length) (hm : m = rs.length) (L : LL w aH xs) (R : Roa.E.Lies w aR rs) (hl : xs.length ≤ 1000) (hr : rs.length ≤ 1000) (hs : ∀ x ∈ xs, x.h.Sm) :
  Calls Tryz.prog 9 #[.agg #[.slice aH n cH, .slice aR m cR]] w fun e w' => e = .returned (.int .i64 (roomB (xs.map (·.h)) rs)) ∧ Below w.heap.size w w' := by
 subst hn hm
 have hmix := Roa.mix
 have v0 : Var 30 (w.alloc (.cells #[.slice aH xs.length cH, .slice aR rs.length cR] 30)) w.heap.size [.slice aH xs.length cH, .slice aR rs.length cR] := Var.new w _
 have BV : Below w.heap.size w (w.alloc (.cells #[.slice aH xs.length cH, .slice aR rs.length cR] 30)) := (Below.refl _ _).alloc (Nat.le_refl _) _
 have L0 := L.later BV
 have R0 := R.later BV
 have hOk := fun w' l' r' => implLineOk aH aR xs.length rs.length cH cR xs rs w' rfl rfl l' r' hr hs
 go_enter Tryz.func9, Tryz.ntmps9
 go_upto_region 1 with (fail)
 generalize w.alloc (.cells #[.slice aH xs.length cH, .slice aR rs.length cR] 30) = V at *
 have e0 := v0.cell (i := 0) rfl
 have e1 := v0.cell (i := 1) rfl
 go_wp2_with fail
 refine (hOk _ L0 R0).mono ?_
 rintro e w1 ⟨rfl, b1⟩
 have B1 : Below w.heap.size w w1 := BV.trans (b1.mono BV.size)
 have L1 := L0.later b1
 have v1 := v0.later b1
 clear e0 e1 L0 R0 L R hOk v0 b1 BV
 cases hb : hopsB (xs.map (·.h)) rs
 case false =>
  go_wp2_with fail
  go_ret
  exact ⟨by rw [roomB, hb]; rfl, B1⟩
 have HB : Hid (hopsB (xs.map (·.h)) rs = true) := hb
 clear hb
 have H3 : Hid (xs.length = 3) := by have := (hops_iff.1 HB.out).1; rw [List.length_map] at this; exact this
 have HL1 : Hid (LL w1 aH xs) := L1
 have HV1 : Hid (Var 30 w1 w.heap.size [.slice aH xs.length cH, .slice aR rs.length cR]) := v1
 have e0 := v1.cell (i := 0) rfl
 clear L1 v1
 go_wp2_with fail
 clear e0
 go_loopw [3, 5, 12] (fun nv _ iv wr => ∃ (k : Nat) (s : Int), k ≤ 3 ∧ iv = .int .i64 k ∧ nv = .int .i64 s ∧ Hid (s = sumC (xs.map (·.h)) k) ∧ Below w1.heap.size w1 wr) (fun _ _ iv _ => 3 - (intOf iv).toNat)
 case atStart => exact ⟨0, 0, by omega, rfl, rfl, (sumC_zero _).symm, Below.refl _ _⟩
 case round =>
  obtain ⟨k, s, hk, rfl, rfl, hsum, hB⟩ := hrel
  by_cases hk3 : k < 3
  case neg =>
   have hk4 : ¬ (k : Int) < (xs.length : Int) := by rw [H3.out]; omega
   go_wp2_with fail
   go_ret
   exact ⟨by rw [roomB, HB.out, hsum.out, show k = 3 by omega]; rfl, B1.trans (hB.mono B1.size)⟩
  case pos =>
   have i0 : (k : Int) < (xs.length : Int) := by rw [H3.out]; omega
   have i1 : (0 : Int) ≤ (k : Int) := by omega
   have i2 : (k : Int) < (xs.length : Int) := by rw [H3.out]; omega
   obtain ⟨x, hx⟩ : ∃ x, xs[k]? = some x := ⟨xs[k]'(by rw [H3.out]; exact hk3), List.getElem?_eq_getElem _⟩
   have Lr := HL1.out.later hB
   have HS : Hid (sumC (xs.map (·.h)) (k + 1) = s + (x.h.g.cp + x.h.t.cp)) := by show _ = _; rw [sumC_step (h := x.h) (by simp [hx]), hsum.out]
   have hbd := sumC_bd HB.out k (by omega)
   rw [← hsum.out] at hbd
   have hcp := hop_caps (hop_at HB.out hx)
   obtain ⟨s0, s1⟩ := hbd
   obtain ⟨⟨g0, g1⟩, t0, t1⟩ := hcp
   have z1 : -9223372036854775808 ≤ s + x.h.g.cp ∧ s + x.h.g.cp ≤ 9223372036854775807 := by omega
   have z2 : -9223372036854775808 ≤ s + x.h.g.cp + x.h.t.cp ∧ s + x.h.g.cp + x.h.t.cp ≤ 9223372036854775807 := by omega
   have z3 : -9223372036854775808 ≤ x.h.g.cp + x.h.t.cp ∧ x.h.g.cp + x.h.t.cp ≤ 9223372036854775807 := by omega
   obtain ⟨b, off, rfl, hL1⟩ : ∃ b off, aH = some ⟨b, off, none⟩ ∧ ∀ j u, (hopE.vals xs)[j]? = some u → wr.cell? ⟨b, off + j, none⟩ = some u := by
    rcases Lr.row with h0 | h0
    ·simp [h0] at hx
    ·exact h0
   have c0 : wr.cell? ⟨b, off + k * 13, none⟩ = some (.int .i64 x.h.g.ba) := El.Lies.cell hL1 hx (j := 0) rfl
   have c1 : wr.cell? ⟨b, off + k * 13 + 1, none⟩ = some (.string x.h.g.bs) := El.Lies.cell hL1 hx (j := 1) rfl
   have c2 : wr.cell? ⟨b, off + k * 13 + 2, none⟩ = some (.int .i64 x.h.g.cp) := El.Lies.cell hL1 hx (j := 2) rfl
   have c3 : wr.cell? ⟨b, off + k * 13 + 3, none⟩ = some (.int .i64 x.h.g.lm) := El.Lies.cell hL1 hx (j := 3) rfl
   have c4 : wr.cell? ⟨b, off + k * 13 + 4, none⟩ = some (.bool x.h.g.en) := El.Lies.cell hL1 hx (j := 4) rfl
   have c5 : wr.cell? ⟨b, off + k * 13 + 5, none⟩ = some (.bool x.h.g.dn) := El.Lies.cell hL1 hx (j := 5) rfl
   have c6 : wr.cell? ⟨b, off + k * 13 + 6, none⟩ = some (.int .i64 x.h.t.nx) := El.Lies.cell hL1 hx (j := 6) rfl
   have c7 : wr.cell? ⟨b, off + k * 13 + 7, none⟩ = some (.string x.h.t.bs) := El.Lies.cell hL1 hx (j := 7) rfl
   have c8 : wr.cell? ⟨b, off + k * 13 + 8, none⟩ = some (.slice x.aT x.h.t.l.length x.cT) := El.Lies.cell hL1 hx (j := 8) rfl
   have c9 : wr.cell? ⟨b, off + k * 13 + 9, none⟩ = some (.int .i64 x.h.t.cp) := El.Lies.cell hL1 hx (j := 9) rfl
   have c10 : wr.cell? ⟨b, off + k * 13 + 10, none⟩ = some (.int .i64 x.h.t.fi) := El.Lies.cell hL1 hx (j := 10) rfl
   have c11 : wr.cell? ⟨b, off + k * 13 + 11, none⟩ = some (.bool x.h.t.en) := El.Lies.cell hL1 hx (j := 11) rfl
   have c12 : wr.cell? ⟨b, off + k * 13 + 12, none⟩ = some (.slice x.aW x.h.ws.length x.cW) := El.Lies.cell hL1 hx (j := 12) rfl
   clear Lr hL1 hx hsum
   have v5 : Var 49 (wr.alloc (.cells #[.int .i64 x.h.g.ba, .string x.h.g.bs, .int .i64 x.h.g.cp, .int .i64 x.h.g.lm, .bool x.h.g.en, .bool x.h.g.dn, .int .i64 x.h.t.nx, .string x.h.t.bs, .slice x.aT x.h.t.l.length x.cT, .int .i64 x.h.t.cp, .int .i64 x.h.t.fi, .bool x.h.t.en, .slice x.aW x.h.ws.length x.cW] 49)) wr.heap.size [.int .i64 x.h.g.ba, .string x.h.g.bs, .int .i64 x.h.g.cp, .int .i64 x.h.g.lm, .bool x.h.g.en, .bool x.h.g.dn, .int .i64 x.h.t.nx, .string x.h.t.bs, .slice x.aT x.h.t.l.length x.cT, .int .i64 x.h.t.cp, .int .i64 x.h.t.fi, .bool x.h.t.en, .slice x.aW x.h.ws.length x.cW] := Var.new wr _
   have b2 := (Below.refl wr.heap.size wr).alloc (Nat.le_refl _) (.cells #[.int .i64 x.h.g.ba, .string x.h.g.bs, .int .i64 x.h.g.cp, .int .i64 x.h.g.lm, .bool x.h.g.en, .bool x.h.g.dn, .int .i64 x.h.t.nx, .string x.h.t.bs, .slice x.aT x.h.t.l.length x.cT, .int .i64 x.h.t.cp, .int .i64 x.h.t.fi, .bool x.h.t.en, .slice x.aW x.h.ws.length x.cW] 49)
   go_upto_region 7 with (fail)
   clear c0 c1 c2 c3 c4 c5 c6 c7 c8 c9 c10 c11 c12
   have hB2 := hB.trans (b2.mono hB.size)
   clear hB b2
   generalize wr.alloc (.cells #[.int .i64 x.h.g.ba, .string x.h.g.bs, .int .i64 x.h.g.cp, .int .i64 x.h.g.lm, .bool x.h.g.en, .bool x.h.g.dn, .int .i64 x.h.t.nx, .string x.h.t.bs, .slice x.aT x.h.t.l.length x.cT, .int .i64 x.h.t.cp, .int .i64 x.h.t.fi, .bool x.h.t.en, .slice x.aW x.h.ws.length x.cW] 49) = V2 at *
   have c2 := v5.cell (i := 2) rfl
   have c9 := v5.cell (i := 9) rfl
   go_wp2_with fail
   go_roundw
   case rel => exact ⟨k + 1, s + (x.h.g.cp + x.h.t.cp), by omega, by go_num, by go_num, HS.out.symm, hB2⟩
   case measure => simp [intOf]; omega
theorem specAtDesk (aH aR : Option Addr) (n m cH cR : Nat) (xs : List Ha) (rs : List Rd) (w : World) (hn : n = xs.length) (hm : m = rs.length) (L : LL w aH xs) (R : Roa.E.Lies w aR rs) (hl : xs.length ≤ 1000) (hr : rs.length ≤ 1000) (hs : ∀ x ∈ xs, x.h.Sm) :
  Calls Tryz.prog 17 #[.agg #[.slice aH n cH, .slice aR m cR]] w fun e w' => e = .returned (.string (deskS (xs.map (·.h)) rs)) ∧ Below w.heap.size w w' := by
 subst hn hm
 have hmix := Roa.mix
 have v0 : Var 30 (w.alloc (.cells #[.slice aH xs.length cH, .slice aR rs.length cR] 30)) w.heap.size [.slice aH xs.length cH, .slice aR rs.length cR] := Var.new w _
 have BV : Below w.heap.size w (w.alloc (.cells #[.slice aH xs.length cH, .slice aR rs.length cR] 30)) := (Below.refl _ _).alloc (Nat.le_refl _) _
 have L0 := L.later BV
 have R0 := R.later BV
 have hOk := fun w' l' r' => specLineOk aH aR xs.length rs.length cH cR xs rs w' rfl rfl l' r' hl hr hs
 go_enter Tryz.func17, Tryz.ntmps17
 go_upto_region 1 with (fail)
 generalize w.alloc (.cells #[.slice aH xs.length cH, .slice aR rs.length cR] 30) = V at *
 have e0 := v0.cell (i := 0) rfl
 have e1 := v0.cell (i := 1) rfl
 go_wp2_with fail
 refine (hOk _ L0 R0).mono ?_
 rintro e w1 ⟨rfl, b1⟩
 have B1 : Below w.heap.size w w1 := BV.trans (b1.mono BV.size)
 have L1 := L0.later b1
 have v1 := v0.later b1
 clear e0 e1 L0 R0 L R hOk v0 b1 BV
 cases hb : hopsB (xs.map (·.h)) rs
 case false =>
  go_wp2_with fail
  go_ret
  exact ⟨by rw [deskS, hb]; rfl, B1⟩
 have HB : Hid (hopsB (xs.map (·.h)) rs = true) := hb
 clear hb
 have H3 : Hid (xs.length = 3) := by have := (hops_iff.1 HB.out).1; rw [List.length_map] at this; exact this
 have HL1 : Hid (LL w1 aH xs) := L1
 have HV1 : Hid (Var 30 w1 w.heap.size [.slice aH xs.length cH, .slice aR rs.length cR]) := v1
 obtain ⟨x, hx⟩ : ∃ x, xs[2]? = some x := ⟨xs[2]'(by rw [H3.out]; decide), List.getElem?_eq_getElem _⟩
 obtain ⟨b, off, rfl, hL1⟩ : ∃ b off, aH = some ⟨b, off, none⟩ ∧ ∀ j u, (hopE.vals xs)[j]? = some u → w1.cell? ⟨b, off + j, none⟩ = some u := by
  rcases L1.row with h0 | h0
  ·simp [h0] at hx
  ·exact h0
 have HD : Hid (deskS (xs.map (·.h)) rs = x.h.t.bs) := by
  show _ = _
  rw [deskS, HB.out, if_pos rfl]
  simp [List.getD, hx]
 have c7 : w1.cell? ⟨b, off + 26 + 7, none⟩ = some (.string x.h.t.bs) := El.Lies.cell hL1 hx (j := 7) rfl
 have i2 : (2 : Int) < (xs.length : Int) := by rw [H3.out]; decide
 have e0 := v1.cell (i := 0) rfl
 clear hL1 hx L1 HB
 go_wp2_with fail
 go_ret
 exact ⟨by rw [HD.out]; rfl, B1⟩
theorem implAtDesk (aH aR : Option Addr) (n m cH cR : Nat) (xs : List Ha) (rs : List Rd) (w : World) (hn : n = xs.length) (hm : m = rs.length) (L : LL w aH xs) (R : Roa.E.Lies w aR rs) (hl : xs.length ≤ 1000) (hr : rs.length ≤ 1000) (hs : ∀ x ∈ xs, x.h.Sm) :
  Calls Tryz.prog 16 #[.agg #[.slice aH n cH, .slice aR m cR]] w fun e w' => e = .returned (.string (deskS (xs.map (·.h)) rs)) ∧ Below w.heap.size w w' := by
 subst hn hm
 have hmix := Roa.mix
 have v0 : Var 30 (w.alloc (.cells #[.slice aH xs.length cH, .slice aR rs.length cR] 30)) w.heap.size [.slice aH xs.length cH, .slice aR rs.length cR] := Var.new w _
 have BV : Below w.heap.size w (w.alloc (.cells #[.slice aH xs.length cH, .slice aR rs.length cR] 30)) := (Below.refl _ _).alloc (Nat.le_refl _) _
 have L0 := L.later BV
 have R0 := R.later BV
 have hOk := fun w' l' r' => implLineOk aH aR xs.length rs.length cH cR xs rs w' rfl rfl l' r' hr hs
 go_enter Tryz.func16, Tryz.ntmps16
 go_upto_region 1 with (fail)
 generalize w.alloc (.cells #[.slice aH xs.length cH, .slice aR rs.length cR] 30) = V at *
 have e0 := v0.cell (i := 0) rfl
 have e1 := v0.cell (i := 1) rfl
 go_wp2_with fail
 refine (hOk _ L0 R0).mono ?_
 rintro e w1 ⟨rfl, b1⟩
 have B1 : Below w.heap.size w w1 := BV.trans (b1.mono BV.size)
 have L1 := L0.later b1
 have v1 := v0.later b1
 clear e0 e1 L0 R0 L R hOk v0 b1 BV
 cases hb : hopsB (xs.map (·.h)) rs
 case false =>
  go_wp2_with fail
  go_ret
  exact ⟨by rw [deskS, hb]; rfl, B1⟩
 have HB : Hid (hopsB (xs.map (·.h)) rs = true) := hb
 clear hb
 have H3 : Hid (xs.length = 3) := by have := (hops_iff.1 HB.out).1; rw [List.length_map] at this; exact this
 have HL1 : Hid (LL w1 aH xs) := L1
 have HV1 : Hid (Var 30 w1 w.heap.size [.slice aH xs.length cH, .slice aR rs.length cR]) := v1
 obtain ⟨x, hx⟩ : ∃ x, xs[2]? = some x := ⟨xs[2]'(by rw [H3.out]; decide), List.getElem?_eq_getElem _⟩
 obtain ⟨b, off, rfl, hL1⟩ : ∃ b off, aH = some ⟨b, off, none⟩ ∧ ∀ j u, (hopE.vals xs)[j]? = some u → w1.cell? ⟨b, off + j, none⟩ = some u := by
  rcases L1.row with h0 | h0
  ·simp [h0] at hx
  ·exact h0
 have HD : Hid (deskS (xs.map (·.h)) rs = x.h.t.bs) := by
  show _ = _
  rw [deskS, HB.out, if_pos rfl]
  simp [List.getD, hx]
 have c7 : w1.cell? ⟨b, off + 26 + 7, none⟩ = some (.string x.h.t.bs) := El.Lies.cell hL1 hx (j := 7) rfl
 have i2 : (2 : Int) < (xs.length : Int) := by rw [H3.out]; decide
 have e0 := v1.cell (i := 0) rfl
 clear hL1 hx L1 HB
 go_wp2_with fail
 go_ret
 exact ⟨by rw [HD.out]; rfl, B1⟩
end Go.Proofs.YtanfnphdgcnojaaGreat.Lin
namespace Go.Proofs.YtanfnphdgcnojaaGreat.Wor
open Go.RowKit RowG Hop Roa Pum
theorem post_ws {h : Hp} {y x : Lt} (hx : x ∈ (postH h y).ws) : x ∈ h.ws ∨ x = y := by
 unfold postH at hx
 split at hx
 ·simpa using hx
 ·exact .inl hx
theorem send_ws {h : Hp} {r p n : Int} {x : Lt} (hx : x ∈ (sendH h r p n).1.ws) : x ∈ h.ws ∨ x.rd = r := by
 unfold sendH at hx
 split at hx
 ·rcases post_ws hx with q | q
  ·exact .inl q
  ·right; rw [q]; rfl
 ·exact .inl hx
theorem tell_ws {h : Hp} {r : Int} {d : Bool} {x : Lt} (hx : x ∈ (tellH h r d).1.ws) : x ∈ h.ws ∨ x.rd = r := by
 rcases post_ws hx with q | q
 ·exact .inl q
 ·right; rw [q]; rfl
theorem out_ws {h : Hp} {n : Int} {x : Lt} (hx : x ∈ (outH h n).1.ws) : x ∈ h.ws := by
 obtain ⟨⟨y, z, is⟩, hR⟩ : ∃ R, outH h n = R := ⟨_, rfl⟩
 rw [hR] at hx
 cases is
 ·have : y = h := by
   unfold outH at hR
   split at hR
   ·split at hR
    ·simp at hR
    ·simp only [Prod.mk.injEq] at hR; exact hR.1.symm
   ·simp only [Prod.mk.injEq] at hR; exact hR.1.symm
  rw [this] at hx
  exact hx
 ·exact (outH_in hR).2.2.2.1 x hx
theorem come_ws {h : Hp} {n : Int} {x : Lt} (hx : x ∈ (comeH h n).1.ws) : x ∈ h.ws := by
 have key := @out_ws h n x
 unfold comeH at hx
 obtain ⟨⟨y, z, is⟩, hR⟩ : ∃ R, outH h n = R := ⟨_, rfl⟩
 rw [hR] at hx key
 cases is <;> simp only at hx key
 ·exact key hx
 ·split at hx <;> exact key hx
theorem road_of {i : Nat} {rs : List Rd} {road : Int} {x : Lt} (ho : openB rs (i : Int) road = true) (hx : x.rd = road) : roadB i rs x = true := by
 unfold openB at ho
 unfold roadB
 by_cases e : i = 1
 ·subst e
  rw [if_pos (by omega)] at ho
  rw [if_pos rfl]
  simp only [hasB, Bool.and_eq_true, decide_eq_true_eq] at ho
  rw [hx]
  exact decide_eq_true ho.1.2
 ·rw [if_neg (by omega)] at ho
  rw [if_neg e, hx]
  exact ho
theorem stream_iff {W : Wd} : streamB W = true ↔ W.tx.size ≤ 2000 ∧ (0 ≤ W.rd ∧ W.rd ≤ (W.tx.size : Int)) ∧ (W.sn = true → W.en = true ∧ W.rd = (W.tx.size : Int)) ∧ (W.dn = true → W.en = true) := by
 unfold streamB
 cases W.sn <;> cases W.dn <;> cases W.en <;> simp
theorem ok_parts {W : Wd} : okW W = true ↔ hopsB W.hs W.rs = true ∧ streamB W = true := by simp [okW]
theorem at_ok {W : Wd} (h : hopsB W.hs W.rs = true) {i : Nat} (hi : i < 3) : hopB (W.at i) = true ∧ ∀ x ∈ (W.at i).ws, roadB i W.rs x = true := (hops_iff.1 h).2.2 i hi
theorem ok_put {W : Wd} (h : okW W = true) {i : Nat} (hi : i < 3) {y : Hp} (h1 : hopB y = true) (h2 : ∀ x ∈ y.ws, roadB i W.rs x = true) : okW (W.put i y) = true := by
 obtain ⟨a1, a2⟩ := ok_parts.1 h
 exact ok_parts.2 ⟨hops_put a1 hi h1 h2, a2⟩
theorem ok_pump {W : Wd} (h : okW W = true) {i : Nat} (hi : i < 2) {n : Int} (hn : 0 ≤ n) : okW (pumpW W i n).1 = true := by
 obtain ⟨a1, a2⟩ := ok_parts.1 h
 obtain ⟨b1, b2⟩ := at_ok a1 (show i < 3 by omega)
 obtain ⟨c1, c2⟩ := at_ok a1 (show i + 1 < 3 by omega)
 obtain ⟨-, d2, d3, -⟩ := hop_ok b1
 obtain ⟨-, e2, -, -⟩ := hop_ok c1
 obtain ⟨m0, m1, m2⟩ := move_in (t := (W.at i).t) (n := n) e2 hn
 have k1 := ok_put h (show i < 3 by omega) (y := { W.at i with t := leftT (W.at i).t (moveN (W.at i).t (W.at (i + 1)).g n) }) (taker_ok b1 (left_ok d3 m0 m1)) b2
 exact ok_put k1 (show i + 1 < 3 by omega) (giver_ok c1 (more_ok e2 hn)) c2
theorem ok_hop {W : Wd} (h : okW W = true) {a : Ac} {i : Nat} (hi : i < 3) (ha : a.hp = (i : Int)) : okW (hopW W a i).1 = true := by
 obtain ⟨a1, a2⟩ := ok_parts.1 h
 obtain ⟨b1, b2⟩ := at_ok a1 hi
 unfold hopW
 split
 ·split
  ·rename_i ho
   rw [ha] at ho
   exact ok_put h hi (send_ok b1 _ _ _) fun x hx => (send_ws hx).elim (b2 x) (road_of ho)
  ·exact h
 split
 ·split
  ·rename_i ho
   rw [ha] at ho
   exact ok_put h hi (tell_ok b1 _ _) fun x hx => (tell_ws hx).elim (b2 x) (road_of ho)
  ·exact h
 split
 ·split
  ·exact h
  ·split
   ·exact ok_put h hi (come_ok b1 _) fun x hx => b2 x (come_ws hx)
   ·exact h
 split
 ·exact ok_put h hi (out_ok b1 _) fun x hx => b2 x (out_ws hx)
 split
 ·split
  ·exact h
  ·rename_i y hy
   have hm : y ∈ (W.at i).ws := by
    split at hy
    ·exact List.mem_of_getElem? hy
    ·cases hy
   exact ok_put h hi (post_ok b1 _) fun x hx => (post_ws hx).elim (b2 x) (fun e => by rw [e]; exact b2 y hm)
 split
 ·rename_i q
  exact ok_pump h (by omega) q.2.1
 ·exact h
theorem ok_tell {W : Wd} (h : okW W = true) (seen : Bool) : okW (tellW W seen) = true := by
 obtain ⟨a1, a2⟩ := ok_parts.1 h
 obtain ⟨b1, b2, b3, b4⟩ := stream_iff.1 a2
 unfold tellW
 split
 ·rename_i hq
  simp only [tellB, Bool.and_eq_true] at hq
  obtain ⟨⟨q1, q2⟩, q3⟩ := hq
  cases seen
  ·exact ok_parts.2 ⟨a1, stream_iff.2 ⟨b1, b2, b3, fun _ => q1⟩⟩
  ·refine ok_parts.2 ⟨a1, stream_iff.2 ⟨b1, b2, fun _ => ⟨q1, ?_⟩, b4⟩⟩
   simp only [Bool.true_and, Bool.not_or, Bool.and_eq_true, Bool.not_eq_true', decide_eq_false_iff_not] at q2
   show W.rd = (W.tx.size : Int)
   omega
 ·exact h
theorem ok_read {W : Wd} (h : okW W = true) (n : Int) : okW (readW W n).1 = true := by
 obtain ⟨a1, a2⟩ := ok_parts.1 h
 obtain ⟨b1, b2⟩ := at_ok a1 (show 2 < 3 by omega)
 obtain ⟨-, d2, d3, -⟩ := hop_ok b1
 obtain ⟨s1, s2, s3, s4⟩ := stream_iff.1 a2
 unfold readW
 split
 ·exact h
 rename_i hn
 dsimp only
 split
 ·exact h
 rename_i hq
 have hm0 : 0 ≤ min n ((W.at 2).t.bs.size : Int) := by omega
 have hm1 : min n ((W.at 2).t.bs.size : Int) ≤ ((W.at 2).t.bs.size : Int) := by omega
 have hle : W.rd + min n ((W.at 2).t.bs.size : Int) ≤ (W.tx.size : Int) := by
  apply Int.not_lt.1
  intro q
  exact hq (.inl q)
 have k1 : okW { W.put 2 { W.at 2 with t := leftT (W.at 2).t (min n ((W.at 2).t.bs.size : Int)) } with rd := W.rd + min n ((W.at 2).t.bs.size : Int) } = true := by
  refine ok_parts.2 ⟨hops_put a1 (by omega) (taker_ok b1 (left_ok d3 hm0 hm1)) b2, stream_iff.2 ⟨s1, ⟨?_, hle⟩, fun q => ⟨(s3 q).1, ?_⟩, s4⟩⟩
  ·show 0 ≤ W.rd + _
   omega
  ·have := (s3 q).2
   show W.rd + _ = _
   have hle' : W.rd + min n ((W.at 2).t.bs.size : Int) ≤ (W.tx.size : Int) := hle
   show W.rd + min n ((W.at 2).t.bs.size : Int) = (W.tx.size : Int)
   omega
 split
 ·exact ok_tell k1 true
 ·exact k1
theorem turn_ok {l : List Rd} (h : roadsB l = true) (r : Int) (o : Bool) : roadsB (turnL l r o) = true ∧ (turnL l r o).length = l.length := by
 cases hb : turnB l r o
 ·have e : turnL l r o = l := by simp [turnL, h, hb]
  rw [e]
  exact ⟨h, rfl⟩
 ·have hk : 0 ≤ r ∧ r < (l.length : Int) := by
   simp only [turnB, hasB, Bool.and_eq_true, decide_eq_true_eq] at hb
   exact hb.2.1
  have e : turnL l r o = l.set r.toNat { at' l r.toNat with op := o } := by simp [turnL, h, hb]
  rw [e]
  refine ⟨?_, by rw [List.length_set]⟩
  have hr : rdB (at' l r.toNat) = true := by
   cases q : rdB (at' l r.toNat)
   ·rw [rd_false (by omega) q] at h; cases h
   ·rfl
  simp only [roadsB, Bool.and_eq_true, List.all_eq_true, decide_eq_true_eq, List.length_set] at h ⊢
  refine ⟨fun x hx => ?_, h.2⟩
  rcases List.mem_or_eq_of_mem_set hx with q | q
  ·exact h.1 x q
  ·rw [q]
   exact hr
theorem ok_do {W : Wd} (h : okW W = true) (a : Ac) : okW (doW W a).1 = true := by
 obtain ⟨a1, a2⟩ := ok_parts.1 h
 obtain ⟨b1, b2⟩ := at_ok a1 (show 0 < 3 by omega)
 obtain ⟨-, d2, d3, -⟩ := hop_ok b1
 obtain ⟨s1, s2, s3, s4⟩ := stream_iff.1 a2
 unfold doW
 split
 ·dsimp only
  have k1 : okW (W.put 0 { W.at 0 with g := (Giv.writeG (W.at 0).g a.tx).1 }) = true := ok_put h (by omega) (giver_ok b1 (Giv.write_ok d2 _)) b2
  split
  ·rename_i hn
   split
   ·exact k1
   ·rename_i hq
    simp only [Bool.or_eq_true, decide_eq_true_eq, not_or] at hq
    have hen : W.en = false := by simpa using hq.1
    have hsz : ((W.tx ++ a.tx.extract 0 (Giv.writeG (W.at 0).g a.tx).2.toNat).size : Int) = (W.tx.size : Int) + (a.tx.extract 0 (Giv.writeG (W.at 0).g a.tx).2.toNat).size := by simp
    have hes : (a.tx.extract 0 (Giv.writeG (W.at 0).g a.tx).2.toNat).size ≤ (Giv.writeG (W.at 0).g a.tx).2.toNat := by simp; omega
    refine ok_parts.2 ⟨(ok_parts.1 k1).1, stream_iff.2 ⟨?_, ⟨s2.1, ?_⟩, fun q => absurd (s3 q).1 (by rw [hen]; decide), s4⟩⟩
    ·show (W.tx ++ _).size ≤ 2000
     omega
    ·show W.rd ≤ ((W.tx ++ _).size : Int)
     omega
  ·exact k1
 split
 ·split
  ·exact h
  ·have k1 : okW (W.put 0 { W.at 0 with g := { (W.at 0).g with en := true } }) = true := by
    refine ok_put h (by omega) (giver_ok b1 ?_) b2
    have := end_ok d2 true
    rw [Bool.or_true] at this
    exact this
   refine ok_parts.2 ⟨(ok_parts.1 k1).1, stream_iff.2 ⟨s1, s2, fun q => ⟨rfl, (s3 q).2⟩, fun _ => rfl⟩⟩
 split
 ·split
  ·rename_i q
   exact ok_hop h (by omega) (by omega)
  ·exact h
 split
 ·exact ok_read h _
 split
 ·obtain ⟨t1, t2⟩ := turn_ok (hops_iff.1 a1).2.1 a.ro (decide (a.n = 1))
  refine ok_parts.2 ⟨hops_iff.2 ⟨(hops_iff.1 a1).1, t1, fun i hi => ⟨(at_ok a1 hi).1, fun x hx => ?_⟩⟩, a2⟩
  have := (at_ok a1 hi).2 x hx
  unfold roadB at this ⊢
  rw [t2]
  exact this
 split
 ·split
  ·exact ok_tell h false
  ·exact h
 ·exact h
end Go.Proofs.YtanfnphdgcnojaaGreat.Wor

/- Contracts of this seat's functions, and their mathematics (HopC). -/
import Derived.Test.YtldghgadkncehaaM36
set_option linter.unusedVariables false
set_option linter.unusedSimpArgs false
set_option maxRecDepth 10000
set_option maxHeartbeats 4000000
namespace Go.Proofs.Ytldghgadkncehaa.Hop
open Go.RowKit RowG
structure Hp where
  g : Giv.Gv
  t : Tak.Tk
  ws : List Lt
abbrev Hp.c (h : Hp) (aT : Option Addr) (cT : Nat) (aW : Option Addr) (cW : Nat) : List Value := [.int .i64 h.g.ba, .string h.g.bs, .int .i64 h.g.cp, .int .i64 h.g.lm, .bool h.g.en, .bool h.g.dn, .int .i64 h.t.nx, .string h.t.bs, .slice aT h.t.l.length cT, .int .i64 h.t.cp, .int .i64 h.t.fi, .bool h.t.en, .slice aW h.ws.length cW]
abbrev Hp.v (h : Hp) (aT : Option Addr) (cT : Nat) (aW : Option Addr) (cW : Nat) : Value := .agg #[.int .i64 h.g.ba, .string h.g.bs, .int .i64 h.g.cp, .int .i64 h.g.lm, .bool h.g.en, .bool h.g.dn, .int .i64 h.t.nx, .string h.t.bs, .slice aT h.t.l.length cT, .int .i64 h.t.cp, .int .i64 h.t.fi, .bool h.t.en, .slice aW h.ws.length cW]
/-- Is it a right hop? -/
def hopB (h : Hp) : Bool := h.ws.all letB && (h.g.ok && (h.t.ok && decide (h.ws.length ≤ 30)))
/-- Not so great that a sum goes round. -/
structure Hp.Sm (h : Hp) : Prop where
  gb : h.g.bs.size ≤ 2097152
  tb : h.t.bs.size ≤ 2097152
  tl : h.t.l.length ≤ 524288
  bd : Tak.Bd h.t.l
  wl : h.ws.length ≤ 524288
  wb : ∀ x ∈ h.ws, x.bs.size ≤ 2097152
theorem all_take {α : Type} {l : List α} {k : Nat} {x : α} (h : l[k]? = some x) (p : α → Bool) : (l.take (k + 1)).all p = ((l.take k).all p && p x) := by
  have hk : k < l.length := (List.getElem?_eq_some_iff.1 h).1
  rw [List.take_add_one, h]
  simp
theorem specHopOk (h : Hp) (aT : Option Addr) (cT : Nat) (aW : Option Addr) (cW : Nat) (w : World) (hT : Tak.partE.Lies w aT h.t.l) (hW : letE.Lies w aW h.ws) (hs : h.Sm) :
    Calls Try.prog 50 #[h.v aT cT aW cW] w fun e w' => e = .returned (.bool (hopB h)) ∧ Below w.heap.size w w' := by
  have v0 : Var 85 (w.alloc (.cells #[.int .i64 h.g.ba, .string h.g.bs, .int .i64 h.g.cp, .int .i64 h.g.lm, .bool h.g.en, .bool h.g.dn, .int .i64 h.t.nx, .string h.t.bs, .slice aT h.t.l.length cT, .int .i64 h.t.cp, .int .i64 h.t.fi, .bool h.t.en, .slice aW h.ws.length cW] 85)) w.heap.size [.int .i64 h.g.ba, .string h.g.bs, .int .i64 h.g.cp, .int .i64 h.g.lm, .bool h.g.en, .bool h.g.dn, .int .i64 h.t.nx, .string h.t.bs, .slice aT h.t.l.length cT, .int .i64 h.t.cp, .int .i64 h.t.fi, .bool h.t.en, .slice aW h.ws.length cW] := Var.new w _
  have BV : Below w.heap.size w (w.alloc (.cells #[.int .i64 h.g.ba, .string h.g.bs, .int .i64 h.g.cp, .int .i64 h.g.lm, .bool h.g.en, .bool h.g.dn, .int .i64 h.t.nx, .string h.t.bs, .slice aT h.t.l.length cT, .int .i64 h.t.cp, .int .i64 h.t.fi, .bool h.t.en, .slice aW h.ws.length cW] 85)) := (Below.refl _ _).alloc (Nat.le_refl _) _
  have lW := hW.later BV
  have lT := hT.later BV
  have hwl := hs.wl
  go_enter Try.func50, Try.ntmps50
  go_wp2_with fail
  generalize w.alloc (.cells #[.int .i64 h.g.ba, .string h.g.bs, .int .i64 h.g.cp, .int .i64 h.g.lm, .bool h.g.en, .bool h.g.dn, .int .i64 h.t.nx, .string h.t.bs, .slice aT h.t.l.length cT, .int .i64 h.t.cp, .int .i64 h.t.fi, .bool h.t.en, .slice aW h.ws.length cW] 85) = V at *
  have HV0 : Hid (Var 85 V w.heap.size [.int .i64 h.g.ba, .string h.g.bs, .int .i64 h.g.cp, .int .i64 h.g.lm, .bool h.g.en, .bool h.g.dn, .int .i64 h.t.nx, .string h.t.bs, .slice aT h.t.l.length cT, .int .i64 h.t.cp, .int .i64 h.t.fi, .bool h.t.en, .slice aW h.ws.length cW]) := v0
  have e12 := v0.cell (i := 12) rfl
  clear v0
  go_loopw [3] (fun iv wr => ∃ j : Nat, j ≤ h.ws.length ∧ iv = .int .i64 j ∧ Hid ((h.ws.take j).all letB = true) ∧ Below V.heap.size V wr) (fun iv _ => h.ws.length - (intOf iv).toNat)
  case atStart => exact ⟨0, Nat.zero_le _, rfl, by show _ = _; simp, Below.refl _ _⟩
  case round =>
    clear e12
    obtain ⟨j, hj, rfl, hall, hB⟩ := hrel
    have vr := Var.later (T := 85) HV0.out hB
    have e12 := vr.cell (i := 12) rfl
    have lW2 := lW.later hB
    by_cases hjl : j < h.ws.length
    case pos =>
      obtain ⟨x, hx⟩ : ∃ x, h.ws[j]? = some x := ⟨h.ws[j], List.getElem?_eq_getElem hjl⟩
      have hL := fun w' => l7Letter x w' (hs.wb x (List.mem_of_getElem? hx))
      rcases lW2 with hL1 | ⟨b, off, ha', hL1⟩
      · simp [hL1] at hjl
      have c0 : wr.cell? ⟨b, off + j * 7, none⟩ = some (.bool x.bk) := El.Lies.cell hL1 hx (j := 0) rfl
      have c1 : wr.cell? ⟨b, off + j * 7 + 1, none⟩ = some (.int .i64 x.rd) := El.Lies.cell hL1 hx (j := 1) rfl
      have c2 : wr.cell? ⟨b, off + j * 7 + 2, none⟩ = some (.int .i64 x.pl) := El.Lies.cell hL1 hx (j := 2) rfl
      have c3 : wr.cell? ⟨b, off + j * 7 + 3, none⟩ = some (.string x.bs) := El.Lies.cell hL1 hx (j := 3) rfl
      have c4 : wr.cell? ⟨b, off + j * 7 + 4, none⟩ = some (.bool x.en) := El.Lies.cell hL1 hx (j := 4) rfl
      have c5 : wr.cell? ⟨b, off + j * 7 + 5, none⟩ = some (.int .i64 x.lm) := El.Lies.cell hL1 hx (j := 5) rfl
      have c6 : wr.cell? ⟨b, off + j * 7 + 6, none⟩ = some (.bool x.dn) := El.Lies.cell hL1 hx (j := 6) rfl
      have i0 : (0 : Int) ≤ (j : Int) := by omega
      have i1 : (j : Int) < (h.ws.length : Int) := by omega
      have HN : Hid ((h.ws.take (j + 1)).all letB = letB x) := by show _ = _; rw [all_take hx, hall.out, Bool.true_and]
      have HF : Hid (letB x = false → hopB h = false) := fun q => by
        have : h.ws.all letB = false := by
          rw [List.all_eq_false]
          exact ⟨x, List.mem_of_getElem? hx, by rw [q]; decide⟩
        simp [hopB, this]
      clear hL1 hx hall vr
      subst ha'
      go_wp2_with fail
      refine (hL _).mono ?_
      rintro e w1 ⟨rfl, b1⟩
      have B3 := hB.trans (b1.mono hB.size)
      clear b1 hB hL c0 c1 c2 c3 c4 c5 c6
      cases hb : letB x
      case false =>
        go_wp2_with fail
        go_ret
        exact ⟨Num.ret_bool (HF.out hb).symm, BV.trans (B3.mono BV.size)⟩
      case true =>
        go_wp2_with fail
        go_roundw
        case rel => exact ⟨j + 1, by omega, by go_num, by show _ = _; rw [HN.out, hb], B3⟩
        case measure => simp [intOf]; omega
    case neg =>
      have hje : j = h.ws.length := by omega
      subst hje
      have HA : Hid (h.ws.all letB = true) := by have := hall.out; rw [List.take_length] at this; exact this
      have i1 : ¬ (h.ws.length : Int) < (h.ws.length : Int) := by omega
      have hG := fun w' => Giv.specGiverOk h.g w' hs.gb
      have hK := fun w' l' => Tak.specTakerOk h.t.nx h.t.bs aT h.t.l.length cT h.t.cp h.t.fi h.t.en h.t.l w' rfl l' (by have := hs.tl; omega) hs.tb hs.bd.up
      have HK : Hid _ := hK
      dsimp only [Giv.Gv.v] at hG
      clear hall hK lW2
      have lT2 := lT.later hB
      have f0 := vr.cell (i := 0) rfl
      have f1 := vr.cell (i := 1) rfl
      have f2 := vr.cell (i := 2) rfl
      have f3 := vr.cell (i := 3) rfl
      have f4 := vr.cell (i := 4) rfl
      have f5 := vr.cell (i := 5) rfl
      have f6 := vr.cell (i := 6) rfl
      have f7 := vr.cell (i := 7) rfl
      have f8 := vr.cell (i := 8) rfl
      have f9 := vr.cell (i := 9) rfl
      have f10 := vr.cell (i := 10) rfl
      have f11 := vr.cell (i := 11) rfl
      have f12 := vr.cell (i := 12) rfl
      clear e12
      go_wp2_with fail
      refine (hG _).mono ?_
      rintro e w1 ⟨rfl, b1⟩
      have B3 := hB.trans (b1.mono hB.size)
      have vs := vr.later b1
      have lT3 := lT2.later b1
      clear b1 hB hG f0 f1 f2 f3 f4 f5 f6 f7 f8 f9 f10 f11 f12 vr lT2
      cases hg : h.g.ok
      case false =>
        go_wp2_with fail
        go_ret
        exact ⟨Num.ret_bool (by simp [hopB, hg]), BV.trans (B3.mono BV.size)⟩
      have f0 := vs.cell (i := 0) rfl
      have f1 := vs.cell (i := 1) rfl
      have f2 := vs.cell (i := 2) rfl
      have f3 := vs.cell (i := 3) rfl
      have f4 := vs.cell (i := 4) rfl
      have f5 := vs.cell (i := 5) rfl
      have f6 := vs.cell (i := 6) rfl
      have f7 := vs.cell (i := 7) rfl
      have f8 := vs.cell (i := 8) rfl
      have f9 := vs.cell (i := 9) rfl
      have f10 := vs.cell (i := 10) rfl
      have f11 := vs.cell (i := 11) rfl
      have f12 := vs.cell (i := 12) rfl
      go_wp2_with fail
      refine (HK.out _ lT3).mono ?_
      rintro e w2 ⟨rfl, b2⟩
      have B4 := B3.trans (b2.mono B3.size)
      have vt := vs.later b2
      clear b2 B3 f0 f1 f2 f3 f4 f5 f6 f7 f8 f9 f10 f11 f12 vs
      have f12 := vt.cell (i := 12) rfl
      have HTK : Hid (Tak.takerB h.t.nx h.t.bs h.t.l h.t.cp h.t.fi h.t.en = h.t.ok) := rfl
      generalize Tak.takerB h.t.nx h.t.bs h.t.l h.t.cp h.t.fi h.t.en = tk at *
      cases tk
      case false =>
        go_wp2_with fail
        go_ret
        exact ⟨Num.ret_bool (by simp [hopB, hg, ← HTK.out]), BV.trans (B4.mono BV.size)⟩
      by_cases hn : h.ws.length ≤ 30
      case pos =>
        have hn2 : (h.ws.length : Int) ≤ 30 := by omega
        go_wp2_with fail
        go_ret
        exact ⟨Num.ret_bool (by simp [hopB, hg, ← HTK.out, HA.out, hn]), BV.trans (B4.mono BV.size)⟩
      case neg =>
        have hn2 : ¬ (h.ws.length : Int) ≤ 30 := by omega
        go_wp2_with fail
        go_ret
        exact ⟨Num.ret_bool (by simp [hopB, hg, ← HTK.out, HA.out, hn]; omega), BV.trans (B4.mono BV.size)⟩
end Go.Proofs.Ytldghgadkncehaa.Hop

/- Hops (chapter 7): how they lie in memory, when they are right; the specification's HopOk; sizes not beyond 2^21, parts not beyond 2^62. · A hop in a variable of its own (chapter 7); no condition. · In a region that draws its order: an operation for which z waits by way of others may be taken first, too; plain. -/
import Derived.Test.YtjnkjeajkmgcmaaGreatMg5
import Derived.Test.YtjnkjeajkmgcmaaGreatMg3
namespace Go.Proofs.YtjnkjeajkmgcmaaGreat.Hop
open Go.RowKit RowG
set_option linter.unusedVariables false
set_option linter.unusedSimpArgs false

structure Hp where
  g : Giv.Gv
  t : Tak.Tk
  ws : List Lt
abbrev Hp.c (h : Hp) (aT : Option Addr) (cT : Nat) (aW : Option Addr) (cW : Nat) : List Value := [.int .i64 h.g.ba, .string h.g.bs, .int .i64 h.g.cp, .int .i64 h.g.lm, .bool h.g.en, .bool h.g.dn, .int .i64 h.t.nx, .string h.t.bs, .slice aT h.t.l.length cT, .int .i64 h.t.cp, .int .i64 h.t.fi, .bool h.t.en, .slice aW h.ws.length cW]
abbrev Hp.v (h : Hp) (aT : Option Addr) (cT : Nat) (aW : Option Addr) (cW : Nat) : Value := .agg #[.int .i64 h.g.ba, .string h.g.bs, .int .i64 h.g.cp, .int .i64 h.g.lm, .bool h.g.en, .bool h.g.dn, .int .i64 h.t.nx, .string h.t.bs, .slice aT h.t.l.length cT, .int .i64 h.t.cp, .int .i64 h.t.fi, .bool h.t.en, .slice aW h.ws.length cW]
def hopB (h : Hp) : Bool := h.ws.all letB && (h.g.ok && (h.t.ok && decide (h.ws.length ≤ 30)))
structure Hp.Sm (h : Hp) : Prop where
  gb : h.g.bs.size ≤ 2097152
  tb : h.t.bs.size ≤ 2097152
  tl : h.t.l.length ≤ 524288
  bd : Tak.Bd h.t.l
  wl : h.ws.length ≤ 524288
  wb : ∀ x ∈ h.ws, x.bs.size ≤ 2097152
theorem all_take {α : Type} {l : List α} {k : Nat} {x : α} (h : l[k]? = some x) (p : α → Bool) : (l.take (k + 1)).all p = ((l.take k).all p && p x) := by
  have hk : k < l.length := (List.getElem?_eq_some_iff.1 h).1
  rw [List.take_add_one, h]
  simp

set_option maxRecDepth 10000 in
set_option maxHeartbeats 4000000 in
theorem specHopOk (h : Hp) (aT : Option Addr) (cT : Nat) (aW : Option Addr) (cW : Nat) (w : World) (hT : Tak.partE.Lies w aT h.t.l) (hW : letE.Lies w aW h.ws) (hs : h.Sm) :
    Calls Tryz.prog 13 #[h.v aT cT aW cW] w fun e w' => e = .returned (.bool (hopB h)) ∧ Below w.heap.size w w' := by
  have v0 : Var 31 (w.alloc (.cells #[.int .i64 h.g.ba, .string h.g.bs, .int .i64 h.g.cp, .int .i64 h.g.lm, .bool h.g.en, .bool h.g.dn, .int .i64 h.t.nx, .string h.t.bs, .slice aT h.t.l.length cT, .int .i64 h.t.cp, .int .i64 h.t.fi, .bool h.t.en, .slice aW h.ws.length cW] 31)) w.heap.size [.int .i64 h.g.ba, .string h.g.bs, .int .i64 h.g.cp, .int .i64 h.g.lm, .bool h.g.en, .bool h.g.dn, .int .i64 h.t.nx, .string h.t.bs, .slice aT h.t.l.length cT, .int .i64 h.t.cp, .int .i64 h.t.fi, .bool h.t.en, .slice aW h.ws.length cW] := Var.new w _
  have BV : Below w.heap.size w (w.alloc (.cells #[.int .i64 h.g.ba, .string h.g.bs, .int .i64 h.g.cp, .int .i64 h.g.lm, .bool h.g.en, .bool h.g.dn, .int .i64 h.t.nx, .string h.t.bs, .slice aT h.t.l.length cT, .int .i64 h.t.cp, .int .i64 h.t.fi, .bool h.t.en, .slice aW h.ws.length cW] 31)) := (Below.refl _ _).alloc (Nat.le_refl _) _
  have lW := hW.later BV
  have lT := hT.later BV
  have hwl := hs.wl
  go_enter Tryz.func13, Tryz.ntmps13
  go_wp2_with fail
  generalize w.alloc (.cells #[.int .i64 h.g.ba, .string h.g.bs, .int .i64 h.g.cp, .int .i64 h.g.lm, .bool h.g.en, .bool h.g.dn, .int .i64 h.t.nx, .string h.t.bs, .slice aT h.t.l.length cT, .int .i64 h.t.cp, .int .i64 h.t.fi, .bool h.t.en, .slice aW h.ws.length cW] 31) = V at *
  have HV0 : Hid (Var 31 V w.heap.size [.int .i64 h.g.ba, .string h.g.bs, .int .i64 h.g.cp, .int .i64 h.g.lm, .bool h.g.en, .bool h.g.dn, .int .i64 h.t.nx, .string h.t.bs, .slice aT h.t.l.length cT, .int .i64 h.t.cp, .int .i64 h.t.fi, .bool h.t.en, .slice aW h.ws.length cW]) := v0
  have e12 := v0.cell (i := 12) rfl
  clear v0
  go_loopw [3] (fun iv wr => ∃ j : Nat, j ≤ h.ws.length ∧ iv = .int .i64 j ∧ Hid ((h.ws.take j).all letB = true) ∧ Below V.heap.size V wr) (fun iv _ => h.ws.length - (intOf iv).toNat)
  case atStart => exact ⟨0, Nat.zero_le _, rfl, by show _ = _; simp, Below.refl _ _⟩
  case round =>
    clear e12
    obtain ⟨j, hj, rfl, hall, hB⟩ := hrel
    have vr := Var.later (T := 31) HV0.out hB
    have e12 := vr.cell (i := 12) rfl
    have lW2 := lW.later hB
    by_cases hjl : j < h.ws.length
    case pos =>
      obtain ⟨x, hx⟩ : ∃ x, h.ws[j]? = some x := ⟨h.ws[j], List.getElem?_eq_getElem hjl⟩
      have hL := fun w' => l7Letter x w' (hs.wb x (List.mem_of_getElem? hx))
      rcases lW2 with hL1 | ⟨b, off, ha', hL1⟩
      · simp [hL1] at hjl
      have c0 : wr.cell? ⟨b, off + j * 7, none⟩ = some (.bool x.bk) := El.Lies.cell hL1 hx (j := 0) rfl
      have c1 : wr.cell? ⟨b, off + j * 7 + 1, none⟩ = some (.int .i64 x.rd) := El.Lies.cell hL1 hx (j := 1) rfl
      have c2 : wr.cell? ⟨b, off + j * 7 + 2, none⟩ = some (.int .i64 x.pl) := El.Lies.cell hL1 hx (j := 2) rfl
      have c3 : wr.cell? ⟨b, off + j * 7 + 3, none⟩ = some (.string x.bs) := El.Lies.cell hL1 hx (j := 3) rfl
      have c4 : wr.cell? ⟨b, off + j * 7 + 4, none⟩ = some (.bool x.en) := El.Lies.cell hL1 hx (j := 4) rfl
      have c5 : wr.cell? ⟨b, off + j * 7 + 5, none⟩ = some (.int .i64 x.lm) := El.Lies.cell hL1 hx (j := 5) rfl
      have c6 : wr.cell? ⟨b, off + j * 7 + 6, none⟩ = some (.bool x.dn) := El.Lies.cell hL1 hx (j := 6) rfl
      have i0 : (0 : Int) ≤ (j : Int) := by omega
      have i1 : (j : Int) < (h.ws.length : Int) := by omega
      have HN : Hid ((h.ws.take (j + 1)).all letB = letB x) := by show _ = _; rw [all_take hx, hall.out, Bool.true_and]
      have HF : Hid (letB x = false → hopB h = false) := fun q => by
        have : h.ws.all letB = false := by
          rw [List.all_eq_false]
          exact ⟨x, List.mem_of_getElem? hx, by rw [q]; decide⟩
        simp [hopB, this]
      clear hL1 hx hall vr
      subst ha'
      go_wp2_with fail
      refine (hL _).mono ?_
      rintro e w1 ⟨rfl, b1⟩
      have B3 := hB.trans (b1.mono hB.size)
      clear b1 hB hL c0 c1 c2 c3 c4 c5 c6
      cases hb : letB x
      case false =>
        go_wp2_with fail
        go_ret
        exact ⟨Num.ret_bool (HF.out hb).symm, BV.trans (B3.mono BV.size)⟩
      case true =>
        go_wp2_with fail
        go_roundw
        case rel => exact ⟨j + 1, by omega, by go_num, by show _ = _; rw [HN.out, hb], B3⟩
        case measure => simp [intOf]; omega
    case neg =>
      have hje : j = h.ws.length := by omega
      subst hje
      have HA : Hid (h.ws.all letB = true) := by have := hall.out; rw [List.take_length] at this; exact this
      have i1 : ¬ (h.ws.length : Int) < (h.ws.length : Int) := by omega
      have hG := fun w' => Giv.specGiverOk h.g w' hs.gb
      have hK := fun w' l' => Tak.specTakerOk h.t.nx h.t.bs aT h.t.l.length cT h.t.cp h.t.fi h.t.en h.t.l w' rfl l' (by have := hs.tl; omega) hs.tb hs.bd.up
      have HK : Hid _ := hK
      dsimp only [Giv.Gv.v] at hG
      clear hall hK lW2
      have lT2 := lT.later hB
      obtain ⟨f0, f1, f2, f3, f4, f5, f6, f7, f8, f9, f10, f11, f12⟩ := vr.c13
      clear e12
      go_wp2_with fail
      refine (hG _).mono ?_
      rintro e w1 ⟨rfl, b1⟩
      have B3 := hB.trans (b1.mono hB.size)
      have vs := vr.later b1
      have lT3 := lT2.later b1
      clear b1 hB hG f0 f1 f2 f3 f4 f5 f6 f7 f8 f9 f10 f11 f12 vr lT2
      cases hg : h.g.ok
      case false =>
        go_wp2_with fail
        go_ret
        exact ⟨Num.ret_bool (by simp [hopB, hg]), BV.trans (B3.mono BV.size)⟩
      obtain ⟨f0, f1, f2, f3, f4, f5, f6, f7, f8, f9, f10, f11, f12⟩ := vs.c13
      go_wp2_with fail
      refine (HK.out _ lT3).mono ?_
      rintro e w2 ⟨rfl, b2⟩
      have B4 := B3.trans (b2.mono B3.size)
      have vt := vs.later b2
      clear b2 B3 f0 f1 f2 f3 f4 f5 f6 f7 f8 f9 f10 f11 f12 vs
      have f12 := vt.cell (i := 12) rfl
      have HTK : Hid (Tak.takerB h.t.nx h.t.bs h.t.l h.t.cp h.t.fi h.t.en = h.t.ok) := rfl
      generalize Tak.takerB h.t.nx h.t.bs h.t.l h.t.cp h.t.fi h.t.en = tk at *
      cases tk
      case false =>
        go_wp2_with fail
        go_ret
        exact ⟨Num.ret_bool (by simp [hopB, hg, ← HTK.out]), BV.trans (B4.mono BV.size)⟩
      by_cases hn : h.ws.length ≤ 30
      case pos =>
        have hn2 : (h.ws.length : Int) ≤ 30 := by omega
        go_wp2_with fail
        go_ret
        exact ⟨Num.ret_bool (by simp [hopB, hg, ← HTK.out, HA.out, hn]), BV.trans (B4.mono BV.size)⟩
      case neg =>
        have hn2 : ¬ (h.ws.length : Int) ≤ 30 := by omega
        go_wp2_with fail
        go_ret
        exact ⟨Num.ret_bool (by simp [hopB, hg, ← HTK.out, HA.out, hn]; omega), BV.trans (B4.mono BV.size)⟩

end Go.Proofs.YtjnkjeajkmgcmaaGreat.Hop

namespace Go.Proofs.YtjnkjeajkmgcmaaGreat.Hop
open Go.RowKit RowG
set_option linter.unusedVariables false
set_option linter.unusedSimpArgs false

structure HV (w : World) (k : Nat) (h : Hp) (aT : Option Addr) (cT : Nat) (aW : Option Addr) (cW : Nat) : Prop where
  v : Var 31 w k (h.c aT cT aW cW)
  t : Tak.partE.Lies w aT h.t.l
  l : letE.Lies w aW h.ws
theorem HV.later {w w' : World} {k : Nat} {h : Hp} {aT : Option Addr} {cT : Nat} {aW : Option Addr} {cW : Nat} (q : HV w k h aT cT aW cW) (b : Below w.heap.size w w') : HV w' k h aT cT aW cW :=
  ⟨q.v.later b, q.t.later b, q.l.later b⟩
theorem HV.new {w : World} {B B' : Nat} {h : Hp} {aT : Option Addr} {cT : Nat} {aW : Option Addr} {cW : Nat} (oT : Tak.partE.Own 69 w B aT cT h.t.l) (oW : letE.Own 39 w B' aW cW h.ws) :
    HV (w.alloc (.cells (h.c aT cT aW cW).toArray 31)) w.heap.size h aT cT aW cW :=
  ⟨Var.new w _, (oT.alloc _).lies, (oW.alloc _).lies⟩
end Go.Proofs.YtjnkjeajkmgcmaaGreat.Hop

namespace Go.Proofs.YtjnkjeajkmgcmaaGreat.Draw
open Go.RowKit
set_option linter.unusedVariables false

section
variable {P : Program} {ops : Array Oper} {Q : Exit → Act → World → Prop} {md : Region.Mode} {S : World → Prop} {z : Nat}

def chainB (md : Region.Mode) (ops : Array Oper) : Nat → List Nat → Nat → Bool
  | z, [], i => waits md ops z i
  | z, m :: ps, i => waits md ops z m && chainB md ops m ps i
theorem not_ready_un {listed : Array Bool} {x m : Nat} (hw : waits md ops x m = true) (hi0 : listed.getD m true = false) : x ∉ Region.ready md ops listed := by
  intro hz
  obtain ⟨_, oz, hoz, hall⟩ := mem_ready.1 hz
  simp only [waits, hoz, List.any_eq_true, Bool.and_eq_true, beq_iff_eq] at hw
  obtain ⟨e, he, hb, heq⟩ := hw
  have h1 := hall e (by simpa using he) hb
  rw [heq] at h1
  by_cases hl : m < listed.size
  · simp [hl] at hi0 h1
    simp [hi0] at h1
  · simp [Array.getElem?_eq_none (Nat.le_of_not_lt hl)] at h1
theorem chain_not {listed : Array Bool} {i : Nat} : ∀ (ps : List Nat) (x : Nat), chainB md ops x ps i = true → (∀ m ∈ ps, listed.getD m true = false) → listed.getD i true = false → x ∉ Region.ready md ops listed ∧ ∀ m ∈ ps, m ∉ Region.ready md ops listed
  | [], x, h, _, hi => ⟨not_ready_un h hi, fun m hm => by cases hm⟩
  | m :: ps, x, h, hu, hi => by
    rw [chainB, Bool.and_eq_true] at h
    have ih := chain_not ps m h.2 (fun k hk => hu k (List.mem_cons_of_mem _ hk)) hi
    refine ⟨not_ready_un h.1 (hu m (List.mem_cons_self ..)), fun k hk => ?_⟩
    rcases List.mem_cons.1 hk with rfl | hk
    · exact ih.1
    · exact ih.2 k hk
def unB (listed : Array Bool) (ps : List Nat) : Bool := ps.all fun m => !(listed.getD m true)
theorem wpAnyY_firstP {i : Nat} {ps : List Nat} {oi : Oper} {v : Value} (hi : ops[i]? = some oi) (hw : chainB md ops z ps i = true) (hsel : ∀ (j : Nat) (o : Oper) cs b, ops[j]? = some o → o.op ≠ .select cs b) (hQ : ∀ c a w, Q (.panic c) (a.put oi.dst v) w → Q (.panic c) a w) :
    ∀ (fuel : Nat) (listed : Array Bool) (a : Act) (w : World), (∀ j oj, ops[j]? = some oj → j ≠ i → listed.getD j true = false → (∀ e ∈ oj.after, Region.binds md e = true → e.on ≠ i) → oi.apart ops oj = true) → (∀ m ∈ ps, listed.getD m true = false) → i ∈ Region.ready md ops listed → YieldsIf P ops S oi v a → S w →
      wpAnyY P md ops Q S z fuel (listed.setIfInBounds i true) (a.put oi.dst v) w → wpAnyY P md ops Q S z (fuel + 1) listed a w
  | fuel, listed, a, w, hfree, hun0, hr, hy, hS, H => by
    have hcn := chain_not ps z hw hun0 (mem_ready.1 hr).1
    refine ⟨fun h => absurd hr (by simp [h]), fun j hj => ?_⟩
    by_cases hji : j = i
    · subst hji
      exact hy.wpOp hi hS ⟨fun _ h => h, H⟩
    · have hjz : j ≠ z := fun e => hcn.1 (e ▸ hj)
      match fuel, H with
      | 0, H => exact absurd (ready_mono hj hji) (by simp [H.1])
      | fuel + 1, H =>
        obtain ⟨hjun, oj, hoj, hall⟩ := mem_ready.1 hj
        have hi0 := (mem_ready.1 hr).1
        have hap : oi.apart ops oj = true := hfree j oj hoj hji hjun fun e he hb heq => by
          have h1 := hall e he hb
          rw [heq] at h1
          by_cases hl : i < listed.size
          · simp [hl] at hi0 h1
            simp [hi0] at h1
          · simp [Array.getElem?_eq_none (Nat.le_of_not_lt hl)] at h1
        refine wpOp_mono ?_ (wpOp_putIf hoj hap (fun cs b => hsel i oi cs b hi) (fun cs b => hsel j oj cs b hoj) hQ hy (H.2 j (ready_mono hj hji)))
        rintro a' w' ⟨hy', hS', H'⟩
        refine ⟨hS', wpAnyY_firstP hi hw hsel hQ fuel (listed.setIfInBounds j true) _ w' ?_ (fun m hm => by have hne : j ≠ m := fun q => hcn.2 m hm (q ▸ hj); rw [getD_set_ne true hne]; exact hun0 m hm) (ready_mono hr (Ne.symm hji)) hy' (hS' hjz hS) (by rw [Array.setIfInBounds_comm _ _ hji]; exact H')⟩
        intro k ok hk hki hun hno
        refine hfree k ok hk hki ?_ hno
        by_cases hjk : j = k
        · rw [← hjk]; exact hjun
        · rw [getD_set_ne true hjk] at hun; exact hun
theorem wpAnyY_takeP {i : Nat} {ps : List Nat} {oi : Oper} {v : Value} {fuel : Nat} {listed : Array Bool} {a : Act} {w : World} (hi : ops[i]? = some oi) (hw : chainB md ops z ps i = true) (hu : unB listed ps = true)
    (hs : Region.noSelect ops = true) (hf : Region.free md ops listed i = true) (hr : (Region.ready md ops listed).contains i = true)
    (hQ : ∀ c a w, Q (.panic c) (a.put oi.dst v) w → Q (.panic c) a w) (hy : YieldsIf P ops S oi v a) (hS : S w)
    (h : wpAnyY P md ops Q S z fuel (listed.setIfInBounds i true) (a.put oi.dst v) w) : wpAnyY P md ops Q S z (fuel + 1) listed a w :=
  wpAnyY_firstP hi hw (Region.noSelect_spec hs) hQ fuel listed a w (Region.free_spec hi hf) (fun m hm => by simpa using (List.all_eq_true.1 hu) m hm) (by simpa using hr) hy hS h

end

end Go.Proofs.YtjnkjeajkmgcmaaGreat.Draw

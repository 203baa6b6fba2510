/- The program's HopOk; of hops that are not too great. · Contracts of the program's NewTaker, slices.Clone of parts, ownTaker and TakenAway; lists of at most 2^21 parts, none beyond 2^62. -/
import Derived.Test.YtjnkjeajkmgcmaaGreatHopP
import Derived.Test.YtjnkjeajkmgcmaaGreatMg6
import Derived.Test.YtjnkjeajkmgcmaaGreatGivP
import Derived.Test.YtjnkjeajkmgcmaaGreatTakS
import Derived.Deep.Cut
import Derived.Lib.SliceRun
namespace Go.Proofs.YtjnkjeajkmgcmaaGreat.Hop
open Go.RowKit RowG
set_option linter.unusedVariables false
set_option linter.unusedSimpArgs false

set_option maxRecDepth 10000 in
set_option maxHeartbeats 4000000 in
theorem implHopOk (h : Hp) (aT : Option Addr) (cT : Nat) (aW : Option Addr) (cW : Nat) (w : World) (hT : Tak.partE.Lies w aT h.t.l) (hW : letE.Lies w aW h.ws) (hs : h.Sm) :
    Calls Tryz.prog 16 #[h.v aT cT aW cW] w fun e w' => e = .returned (.bool (hopB h)) ∧ Below w.heap.size w w' := by
  have v0 : Var 31 (w.alloc (.cells #[.int .i64 h.g.ba, .string h.g.bs, .int .i64 h.g.cp, .int .i64 h.g.lm, .bool h.g.en, .bool h.g.dn, .int .i64 h.t.nx, .string h.t.bs, .slice aT h.t.l.length cT, .int .i64 h.t.cp, .int .i64 h.t.fi, .bool h.t.en, .slice aW h.ws.length cW] 31)) w.heap.size [.int .i64 h.g.ba, .string h.g.bs, .int .i64 h.g.cp, .int .i64 h.g.lm, .bool h.g.en, .bool h.g.dn, .int .i64 h.t.nx, .string h.t.bs, .slice aT h.t.l.length cT, .int .i64 h.t.cp, .int .i64 h.t.fi, .bool h.t.en, .slice aW h.ws.length cW] := Var.new w _
  have BV : Below w.heap.size w (w.alloc (.cells #[.int .i64 h.g.ba, .string h.g.bs, .int .i64 h.g.cp, .int .i64 h.g.lm, .bool h.g.en, .bool h.g.dn, .int .i64 h.t.nx, .string h.t.bs, .slice aT h.t.l.length cT, .int .i64 h.t.cp, .int .i64 h.t.fi, .bool h.t.en, .slice aW h.ws.length cW] 31)) := (Below.refl _ _).alloc (Nat.le_refl _) _
  have lW := hW.later BV
  have lT := hT.later BV
  have hwl := hs.wl
  have hG := fun w' => Giv.implGiverOk h.g w' hs.gb
  have HK : Hid _ := fun w' l' => Tak.implTakerOk h.t.nx h.t.bs aT h.t.l.length cT h.t.cp h.t.fi h.t.en h.t.l w' rfl l' (by have := hs.tl; omega) hs.tb hs.bd
  dsimp only [Giv.Gv.v] at hG
  go_enter Tryz.func16, Tryz.ntmps16
  go_upto_region 1 with (fail)
  generalize w.alloc (.cells #[.int .i64 h.g.ba, .string h.g.bs, .int .i64 h.g.cp, .int .i64 h.g.lm, .bool h.g.en, .bool h.g.dn, .int .i64 h.t.nx, .string h.t.bs, .slice aT h.t.l.length cT, .int .i64 h.t.cp, .int .i64 h.t.fi, .bool h.t.en, .slice aW h.ws.length cW] 31) = V at *
  obtain ⟨e0, e1, e2, e3, e4, e5, e6, e7, e8, e9, e10, e11, e12⟩ := v0.c13
  go_wp2_with fail
  refine (hG _).mono ?_
  rintro e w1 ⟨rfl, b1⟩
  replace v0 := v0.later b1
  replace lW := lW.later b1
  replace lT := lT.later b1
  have B1 := BV.trans (b1.mono BV.size)
  clear b1 BV hG e0 e1 e2 e3 e4 e5 e6 e7 e8 e9 e10 e11 e12
  cases hg : h.g.ok
  case false =>
    go_wp2_with fail
    go_ret
    exact ⟨Num.ret_bool (by simp [hopB, hg]), B1⟩
  obtain ⟨e0, e1, e2, e3, e4, e5, e6, e7, e8, e9, e10, e11, e12⟩ := v0.c13
  go_wp2_with fail
  refine (HK.out _ lT).mono ?_
  rintro e w2 ⟨rfl, b2⟩
  replace v0 := v0.later b2
  replace lW := lW.later b2
  have B2 := B1.trans (b2.mono B1.size)
  have HTK : Hid (Tak.takerB h.t.nx h.t.bs h.t.l h.t.cp h.t.fi h.t.en = h.t.ok) := rfl
  generalize Tak.takerB h.t.nx h.t.bs h.t.l h.t.cp h.t.fi h.t.en = tk at *
  clear b2 B1 lT HK e0 e1 e2 e3 e4 e5 e6 e7 e8 e9 e10 e11 e12
  cases tk
  case false =>
    go_wp2_with fail
    go_ret
    exact ⟨Num.ret_bool (by simp [hopB, hg, ← HTK.out]), B2⟩
  have e12 := v0.cell (i := 12) rfl
  by_cases hn : h.ws.length ≤ 30
  case neg =>
    have hn2 : (30 : Int) < (h.ws.length : Int) := by omega
    have hn3 : ¬ (h.ws.length : Int) ≤ 30 := by omega
    go_wp2_with fail
    go_ret
    exact ⟨Num.ret_bool (by simp [hopB, hg, ← HTK.out, hn]), B2⟩
  have hn2 : ¬ (30 : Int) < (h.ws.length : Int) := by omega
  have hn3 : (h.ws.length : Int) ≤ 30 := by omega
  go_wp2_with fail
  go_loopw [24, 4] (fun iv pv wr => ∃ j : Nat, j ≤ h.ws.length ∧ iv = .int .i64 j ∧ Hid ((h.ws.take j).all letB = true) ∧ Below w2.heap.size w2 wr) (fun iv _ _ => h.ws.length - (intOf iv).toNat)
  case atStart => exact ⟨0, Nat.zero_le _, rfl, by show _ = _; simp, Below.refl _ _⟩
  case round =>
    clear e12
    obtain ⟨j, hj, rfl, hall, hB⟩ := hrel
    have lW2 := lW.later hB
    by_cases hjl : j < h.ws.length
    case pos =>
      obtain ⟨x, hx⟩ : ∃ x, h.ws[j]? = some x := ⟨h.ws[j], List.getElem?_eq_getElem hjl⟩
      have hL := fun w' => isLetter x w' (hs.wb x (List.mem_of_getElem? hx))
      dsimp only [Lt.v] at hL
      rcases lW2 with hL1 | ⟨b, off, ha', hL1⟩
      · simp [hL1] at hjl
      have c0 : wr.cell? ⟨b, off + j * 7, none⟩ = some (.bool x.bk) := El.Lies.cell hL1 hx (j := 0) rfl
      have c1 : wr.cell? ⟨b, off + j * 7 + 1, none⟩ = some (.int .i64 x.rd) := El.Lies.cell hL1 hx (j := 1) rfl
      have c2 : wr.cell? ⟨b, off + j * 7 + 2, none⟩ = some (.int .i64 x.pl) := El.Lies.cell hL1 hx (j := 2) rfl
      have c3 : wr.cell? ⟨b, off + j * 7 + 3, none⟩ = some (.string x.bs) := El.Lies.cell hL1 hx (j := 3) rfl
      have c4 : wr.cell? ⟨b, off + j * 7 + 4, none⟩ = some (.bool x.en) := El.Lies.cell hL1 hx (j := 4) rfl
      have c5 : wr.cell? ⟨b, off + j * 7 + 5, none⟩ = some (.int .i64 x.lm) := El.Lies.cell hL1 hx (j := 5) rfl
      have c6 : wr.cell? ⟨b, off + j * 7 + 6, none⟩ = some (.bool x.dn) := El.Lies.cell hL1 hx (j := 6) rfl
      have i0 : (0 : Int) ≤ (j : Int) := by omega
      have i1 : (j : Int) < (h.ws.length : Int) := by omega
      have HN : Hid ((h.ws.take (j + 1)).all letB = letB x) := by show _ = _; rw [all_take hx, hall.out, Bool.true_and]
      have HF : Hid (letB x = false → hopB h = false) := fun q => by
        have : h.ws.all letB = false := by
          rw [List.all_eq_false]
          exact ⟨x, List.mem_of_getElem? hx, by rw [q]; decide⟩
        simp [hopB, this]
      have BA : Below w2.heap.size w2 (wr.alloc (.cells #[.bool x.bk, .int .i64 x.rd, .int .i64 x.pl, .string x.bs, .bool x.en, .int .i64 x.lm, .bool x.dn] 39)) := hB.alloc hB.size _
      clear hL1 hx hall
      subst ha'
      go_wp2_with fail
      refine (hL _).mono ?_
      rintro e w3 ⟨rfl, b3⟩
      have B3 := BA.trans (b3.mono BA.size)
      clear b3 hB BA hL c0 c1 c2 c3 c4 c5 c6
      cases hb : letB x
      case false =>
        go_wp2_with fail
        go_ret
        exact ⟨Num.ret_bool (HF.out hb).symm, B2.trans (B3.mono B2.size)⟩
      case true =>
        go_wp2_with fail
        go_roundw
        case rel => exact ⟨j + 1, by omega, by go_num, by show _ = _; rw [HN.out, hb], B3⟩
        case measure => simp [intOf]; omega
    case neg =>
      have hje : j = h.ws.length := by omega
      subst hje
      have HA : Hid (h.ws.all letB = true) := by have := hall.out; rw [List.take_length] at this; exact this
      have i1 : ¬ (h.ws.length : Int) < (h.ws.length : Int) := by omega
      go_wp2_with fail
      go_ret
      exact ⟨Num.ret_bool (by simp [hopB, hg, ← HTK.out, HA.out, hn]), B2.trans (hB.mono B2.size)⟩

end Go.Proofs.YtjnkjeajkmgcmaaGreat.Hop

namespace Go.Proofs.YtjnkjeajkmgcmaaGreat.Tak
open Go.RowKit RowG Rng
set_option linter.unusedVariables false
set_option linter.unusedSimpArgs false

set_option maxRecDepth 10000 in
set_option maxHeartbeats 1000000 in
theorem clone (a : Option Addr) (n c : Nat) (l : List Pt) (w : World) (hn : n = l.length) (h : partE.Lies w a l) (hl : l.length ≤ 2097152) (ha : a = none → c = 0) :
    Calls Tryz.prog 77 #[.slice a n c] w fun x w' => ∃ a' c', x = .returned (.slice a' l.length c') ∧ partE.Own 69 w' w.heap.size a' c' l ∧ Below w.heap.size w w' := by
  subst hn
  have q24 : ∀ (w : World) (a : Option Addr) (n c n' c' : Nat), (binOp .eql 26 (.slice a n c) (.slice none n' c')).run Tryz.prog w = .ok (.bool a.isNone) w := fun w a n c n' c' => Lib.run_eql_slice_nil w _ 69 a n c n' c' (by kernel_rfl)
  cases a with
  | none =>
    obtain rfl : l = [] := by
      rcases h with e | ⟨_, _, e, _⟩
      · exact e
      · cases e
    obtain rfl := ha rfl
    clear h ha hl
    go_enter Tryz.func77, Tryz.ntmps77
    go_wp2_with fail
    go_ret
    exact ⟨none, 0, rfl, El.Own.none _ _, Below.refl _ _⟩
  | some x =>
    have b1 : Below w.heap.size w (w.alloc (.cells #[] 69)) := (Below.refl _ _).alloc (Nat.le_refl _) _
    have o0 := El.Own.made (E := partE) (T := 69) w
    have l0 := h.later b1
    have hz : ([] : List Pt).length + l.length ≤ 4194304 := by simp; omega
    clear ha h hl
    go_enter Tryz.func77, Tryz.ntmps77
    go_wp2_with (at_builtin; refine wpList_app typ (by decide) (by rfl) _ _ (by rfl) w.heap.size (some ⟨w.heap.size, 0, none⟩) 0 0 [] l rfl (by rfl) o0 (by simp) (some x) l.length c rfl (by rfl) l0 (by simp) hz ?_; intro a' c' w3 o3 g3; refine stand ?_)
    have B3 := grown_below b1 (Nat.le_refl _) (by intro g hg; simp [blk] at hg; omega) g3
    rw [List.nil_append] at o3
    show wpList _ _ _ _ _ _
    go_wp2_with fail
    go_ret
    exact ⟨a', c', rfl, o3, B3⟩

set_option maxHeartbeats 1000000 in
theorem ownTaker (nx : Int) (bs : ByteArray) (a : Option Addr) (n c : Nat) (cp fi : Int) (en : Bool) (l : List Pt) (w : World) (hn : n = l.length) (h : partE.Lies w a l) (hl : l.length ≤ 2097152) (ha : a = none → c = 0) :
    Calls Tryz.prog 49 #[.agg #[.int .i64 nx, .string bs, .slice a n c, .int .i64 cp, .int .i64 fi, .bool en]] w fun x w' => ∃ a' c', x = .returned (.agg #[.int .i64 nx, .string bs, .slice a' l.length c', .int .i64 cp, .int .i64 fi, .bool en]) ∧ partE.Own 69 w' w.heap.size a' c' l ∧ Below w.heap.size w w' := by
  subst hn
  have B2 : Below w.heap.size w ((w.alloc (.cells #[.int .i64 nx, .string bs, .slice a l.length c, .int .i64 cp, .int .i64 fi, .bool en] 28)).alloc (.cells #[.int .i64 0, .string ⟨#[]⟩, .slice none 0 0, .int .i64 0, .int .i64 0, .bool false] 28)) := ((Below.refl _ _).alloc (Nat.le_refl _) _).alloc (by simp) _
  have v1 : Var 28 ((w.alloc (.cells #[.int .i64 nx, .string bs, .slice a l.length c, .int .i64 cp, .int .i64 fi, .bool en] 28)).alloc (.cells #[.int .i64 0, .string ⟨#[]⟩, .slice none 0 0, .int .i64 0, .int .i64 0, .bool false] 28)) w.heap.size [.int .i64 nx, .string bs, .slice a l.length c, .int .i64 cp, .int .i64 fi, .bool en] := (Var.new w [.int .i64 nx, .string bs, .slice a l.length c, .int .i64 cp, .int .i64 fi, .bool en]).alloc _
  have v2 : Var 28 ((w.alloc (.cells #[.int .i64 nx, .string bs, .slice a l.length c, .int .i64 cp, .int .i64 fi, .bool en] 28)).alloc (.cells #[.int .i64 0, .string ⟨#[]⟩, .slice none 0 0, .int .i64 0, .int .i64 0, .bool false] 28)) (w.heap.size + 1) [.int .i64 0, .string ⟨#[]⟩, .slice none 0 0, .int .i64 0, .int .i64 0, .bool false] := by
    have := Var.new (T := 28) (w.alloc (.cells #[.int .i64 nx, .string bs, .slice a l.length c, .int .i64 cp, .int .i64 fi, .bool en] 28)) [.int .i64 0, .string ⟨#[]⟩, .slice none 0 0, .int .i64 0, .int .i64 0, .bool false]
    simpa using this
  go_enter Tryz.func49, Tryz.ntmps49
  go_wp2_with fail
  generalize hV : ((w.alloc (.cells #[.int .i64 nx, .string bs, .slice a l.length c, .int .i64 cp, .int .i64 fi, .bool en] 28)).alloc (.cells #[.int .i64 0, .string ⟨#[]⟩, .slice none 0 0, .int .i64 0, .int .i64 0, .bool false] 28)) = V at *
  clear hV
  refine (clone a _ c l V rfl (h.later B2) hl ha).mono ?_
  rintro x w3 ⟨a', c', rfl, o3, b3⟩
  have x1 := v1.later b3
  have x2 := v2.later b3
  have B3 := B2.trans (b3.mono B2.size)
  have hx : ∀ x, a' = some x → w.heap.size + 1 < x.block := fun x e => by have := (o3.lt x e).1; have := v2.lt; omega
  have o3 := o3.mono B2.size
  clear b3 v1 v2 B2
  obtain ⟨c0, c1, c2, c3, c4, c5⟩ := x1.c6
  obtain ⟨f0, f1, f2, f3, f4, f5⟩ := x1.f6
  obtain ⟨r0, r1, r2, r3, r4, r5⟩ := x2.c6
  obtain ⟨z0, z1, z2, z3, z4, z5⟩ := x2.f6
  clear x1 x2
  go_wp2_with fail
  refine bodyPost_ret (v := .agg #[.int .i64 nx, .string bs, .slice a' l.length c', .int .i64 cp, .int .i64 fi, .bool en]) (by rw [res_cell rfl]; go_simp) rfl ⟨a', c', rfl, ?_, ?_⟩
  · iterate 7 (refine El.Own.setCell ?_ (fun x hx' => by have := hx x hx'; dsimp only; omega) _)
    exact o3
  · iterate 7 (refine Below.setCell ?_ (by dsimp only; omega) _)
    exact B3

end Go.Proofs.YtjnkjeajkmgcmaaGreat.Tak

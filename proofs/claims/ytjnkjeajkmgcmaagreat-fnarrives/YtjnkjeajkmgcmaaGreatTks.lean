/- Contract of the program's Takes, as what it does: the taker checked, the runs collected, put in order, gathered; lists of at most 2^19 parts within Bd. -/
import Derived.Test.YtjnkjeajkmgcmaaGreatMg19
import Derived.Test.YtjnkjeajkmgcmaaGreatMg20
import Derived.Deep.Cut
namespace Go.Proofs.YtjnkjeajkmgcmaaGreat.Tak
open Go.RowKit RowG Rng
set_option linter.unusedVariables false
set_option linter.unusedSimpArgs false

theorem tot_perm {l r : List Pt} (h : r.Perm l) : tot r = tot l := by
  induction h with
  | nil => rfl
  | cons x _ ih => simp only [tot, ih]
  | swap x y l => simp only [tot]; omega
  | trans _ _ h1 h2 => exact h1.trans h2
theorem bd_perm {l m r : List Pt} (h : r.Perm (l ++ m)) (hl : Bd l) (hm : Bd m) : Bd r := by
  intro q hq
  rcases List.mem_append.1 (h.mem_iff.1 hq) with hq | hq
  · exact hl q hq
  · exact hm q hq
theorem within_bd {p : Int} {bz : ByteArray} (hp0 : 0 ≤ p) (hp1 : p ≤ 1000000000) (hz : bz.size ≤ 40) (fr to : Int) : bdP (withinP p bz fr to) ∧ (withinP p bz fr to).2.size ≤ 40 := by
  unfold withinP
  split
  · exact ⟨⟨by decide, by decide, by decide⟩, by decide⟩
  · rename_i hc
    have e := ext_le bz (max fr p - p).toNat (min to (p + bz.size) - p).toNat
    exact ⟨⟨by dsimp only; omega, by dsimp only; omega, by dsimp only; omega⟩, by dsimp only; omega⟩
theorem runs_within {nx lim : Int} {l : List Pt} {p : Int} {bz : ByteArray} {q : Pt} (h : q ∈ runsL nx lim l p bz) : ∃ fr to, q = withinP p bz fr to := by
  unfold runsL at h
  rcases List.mem_append.1 h with h | h
  · obtain ⟨x, _, rfl⟩ := List.mem_map.1 (List.mem_filter.1 h).1
    exact ⟨_, _, rfl⟩
  · exact ⟨_, _, List.mem_singleton.1 (List.mem_filter.1 h).1⟩
theorem runs_bd {nx lim : Int} {l : List Pt} {p : Int} {bz : ByteArray} (hp0 : 0 ≤ p) (hp1 : p ≤ 1000000000) (hz : bz.size ≤ 40) : Bd (runsL nx lim l p bz) := by
  intro q hq
  obtain ⟨fr, to, rfl⟩ := runs_within hq
  exact (within_bd hp0 hp1 hz fr to).1
theorem tot_40 : ∀ {l : List Pt}, (∀ q ∈ l, q.2.size ≤ 40) → tot l ≤ 40 * l.length
  | [], _ => by simp [tot]
  | q :: l, h => by
    have h1 := h q (by simp)
    have h2 := tot_40 (l := l) (fun q hq => h q (List.mem_cons_of_mem _ hq))
    simp only [tot, List.length_cons]
    omega
theorem ext_40 {bz : ByteArray} (hz : bz.size ≤ 40) (p fr to : Int) : (withinP p bz fr to).2.size ≤ 40 := by
  unfold withinP
  split
  · decide
  · have e := ext_le bz (max fr p - p).toNat (min to (p + bz.size) - p).toNat
    dsimp only
    omega
theorem runs_tot {nx lim : Int} {l : List Pt} {p : Int} {bz : ByteArray} (hz : bz.size ≤ 40) : tot (runsL nx lim l p bz) ≤ 40 * (runsL nx lim l p bz).length :=
  tot_40 (fun q hq => by obtain ⟨fr, to, rfl⟩ := runs_within hq; exact ext_40 hz p fr to)

inductive TakesR (t : Tk) (p : Int) (bz : ByteArray) (e : Bool) : Tk × Bool → Prop
  | bad : t.ok = false → TakesR t p bz e (zeroK, false)
  | no : t.ok = true → fitsB t.nx t.l t.fi p bz e = false → TakesR t p bz e (t, false)
  | same : t.ok = true → fitsB t.nx t.l t.fi p bz e = true → runsL t.nx (limT t.nx t.bs t.cp) t.l p bz = [] → (e && t.fi == -1) = false → TakesR t p bz e (t, false)
  | more (r rest : List Pt) (n' : Int) (b' : ByteArray) (fi' : Int) : t.ok = true → fitsB t.nx t.l t.fi p bz e = true → ¬ (runsL t.nx (limT t.nx t.bs t.cp) t.l p bz = [] ∧ (e && t.fi == -1) = false) → fi' = (if (e && t.fi == -1) = true then p + bz.size else t.fi) →
      Sorted (t.l ++ runsL t.nx (limT t.nx t.bs t.cp) t.l p bz) r → gath t.nx t.bs r (pairs t.nx r).length = (n', b', rest) → TakesR t p bz e (⟨n', b', rest, t.cp, fi', n' == fi'⟩, true)

set_option maxRecDepth 10000 in
set_option maxHeartbeats 8000000 in
theorem implTakesR (sortNil : ∀ (cap : Nat) (fv : Value) (w : World), Calls Tryz.prog 99 #[.slice none 0 cap, fv] w fun e w' => e = .returned (.tuple #[]) ∧ w' = w) (nx : Int) (bs : ByteArray) (a : Option Addr) (n0 c : Nat) (cp fi : Int) (en : Bool) (l : List Pt) (p : Int) (bz : ByteArray) (e : Bool) (w : World) (hn : n0 = l.length) (h : partE.Lies w a l) (hl : l.length ≤ 2097152) (hbs : bs.size ≤ 2097152) (hp : Bd l) (ha : a = none → c = 0) (hz : bz.size ≤ 1048576) :
    Calls Tryz.prog 51 #[.agg #[.int .i64 nx, .string bs, .slice a n0 c, .int .i64 cp, .int .i64 fi, .bool en], .int .i64 p, .string bz, .bool e] w fun x w' => ∃ res : Tk × Bool, TakesR ⟨nx, bs, l, cp, fi, en⟩ p bz e res ∧ ∃ (a' : Option Addr) (c' : Nat), x = .returned (.tuple #[res.1.v a' c', .bool res.2]) ∧ partE.Own 69 w' w.heap.size a' c' res.1.l ∧ Below w.heap.size w w' := by
  subst hn
  have B2 : Below w.heap.size w ((w.alloc (.cells #[.int .i64 nx, .string bs, .slice a l.length c, .int .i64 cp, .int .i64 fi, .bool en] 28)).alloc (.cells #[.int .i64 0, .string ⟨#[]⟩, .slice none 0 0, .int .i64 0, .int .i64 0, .bool false] 28)) := ((Below.refl _ _).alloc (Nat.le_refl _) _).alloc (by simp) _
  have v1 : Var 28 ((w.alloc (.cells #[.int .i64 nx, .string bs, .slice a l.length c, .int .i64 cp, .int .i64 fi, .bool en] 28)).alloc (.cells #[.int .i64 0, .string ⟨#[]⟩, .slice none 0 0, .int .i64 0, .int .i64 0, .bool false] 28)) w.heap.size [.int .i64 nx, .string bs, .slice a l.length c, .int .i64 cp, .int .i64 fi, .bool en] := (Var.new w [.int .i64 nx, .string bs, .slice a l.length c, .int .i64 cp, .int .i64 fi, .bool en]).alloc _
  have v2 : Var 28 ((w.alloc (.cells #[.int .i64 nx, .string bs, .slice a l.length c, .int .i64 cp, .int .i64 fi, .bool en] 28)).alloc (.cells #[.int .i64 0, .string ⟨#[]⟩, .slice none 0 0, .int .i64 0, .int .i64 0, .bool false] 28)) (w.heap.size + 1) [.int .i64 0, .string ⟨#[]⟩, .slice none 0 0, .int .i64 0, .int .i64 0, .bool false] := by
    have := Var.new (T := 28) (w.alloc (.cells #[.int .i64 nx, .string bs, .slice a l.length c, .int .i64 cp, .int .i64 fi, .bool en] 28)) [.int .i64 0, .string ⟨#[]⟩, .slice none 0 0, .int .i64 0, .int .i64 0, .bool false]
    simpa using this
  go_enter Tryz.func51, Tryz.ntmps51
  go_wp2_with fail
  generalize hV : ((w.alloc (.cells #[.int .i64 nx, .string bs, .slice a l.length c, .int .i64 cp, .int .i64 fi, .bool en] 28)).alloc (.cells #[.int .i64 0, .string ⟨#[]⟩, .slice none 0 0, .int .i64 0, .int .i64 0, .bool false] 28)) = V at *
  clear hV
  refine (implTakerOk nx bs a _ c cp fi en l V rfl (h.later B2) hl hbs hp).mono ?_
  rintro x w1 ⟨rfl, b1⟩
  have B1 := B2.trans (b1.mono B2.size)
  have x1 := v1.later b1
  have x2 := v2.later b1
  clear b1 B2 v1 v2
  cases hok : takerB nx bs l cp fi en
  · have E : Hid (TakesR ⟨nx, bs, l, cp, fi, en⟩ p bz e (zeroK, false)) := .bad hok
    obtain ⟨r0, r1, r2, r3, r4, r5⟩ := x2.c6
    obtain ⟨z0, z1, z2, z3, z4, z5⟩ := x2.f6
    clear x1 x2 hok h hp ha
    go_wp2_with fail
    refine bodyPost_ret (v := .tuple #[zeroK.v none 0, .bool false]) (by rw [res_cell_tmp rfl]; go_simp; rfl) rfl ⟨_, E.out, none, 0, rfl, El.Own.none _ _, ?_⟩
    iterate 6 (refine Below.setCell ?_ (by dsimp only; omega) _)
    exact B1
  obtain ⟨⟨i1, i2⟩, ⟨i3, i4⟩, ⟨i5, i6⟩, i7⟩ := taker_in hok
  obtain ⟨hsm1, hsm2⟩ := ok_small (t := ⟨nx, bs, l, cp, fi, en⟩) hok
  dsimp only at hsm1 hsm2
  have HOK : Hid (takerB nx bs l cp fi en = true) := hok
  clear hok
  obtain ⟨fv, hfv⟩ : ∃ fv, fitsB nx l fi p bz e = fv := ⟨_, rfl⟩
  have HFV : Hid (fitsB nx l fi p bz e = fv) := hfv
  clear hfv
  obtain ⟨c0, c1, c2, c3, c4, c5⟩ := x1.c6
  go_wp2_with fail
  refine (fits nx bs a _ c cp fi en l p bz e w1 rfl (h.later B1) hl hp hz HFV.out).mono ?_
  rintro x w2 ⟨rfl, b2⟩
  replace x1 := x1.later b2
  replace x2 := x2.later b2
  replace B1 := B1.trans (b2.mono B1.size)
  clear b2
  clear c0 c1 c2 c3 c4 c5
  obtain ⟨c0, c1, c2, c3, c4, c5⟩ := x1.c6
  cases fv
  · go_wp2_with fail
    refine (ownTaker nx bs a _ c cp fi en l _ rfl (h.later B1) hl ha).mono ?_
    rintro x w3 ⟨a', c', rfl, o3, b3⟩
    have y2 := x2.later b3
    have B3 := B1.trans (b3.mono B1.size)
    have HX : Hid (∀ x, a' = some x → w.heap.size + 1 < x.block) := fun x e => by have := (o3.lt x e).1; have := x2.lt; omega
    replace o3 := o3.mono B1.size
    clear x1 x2 b3
    clear c0 c1 c2 c3 c4 c5
    obtain ⟨r0, r1, r2, r3, r4, r5⟩ := y2.c6
    obtain ⟨z0, z1, z2, z3, z4, z5⟩ := y2.f6
    clear y2 h
    go_wp2_with fail
    refine bodyPost_ret (v := .tuple #[.agg #[.int .i64 nx, .string bs, .slice a' l.length c', .int .i64 cp, .int .i64 fi, .bool en], .bool false]) (by rw [res_cell_tmp rfl]; go_simp) rfl ⟨_, .no HOK.out HFV.out, a', c', rfl, ?_, ?_⟩
    · iterate 6 (refine El.Own.setCell ?_ (fun x hx' => by have := HX.out x hx'; dsimp only; omega) _)
      exact o3
    · iterate 6 (refine Below.setCell ?_ (by dsimp only; omega) _)
      exact B3
  have hfit : 0 ≤ p ∧ p ≤ 1000000000 ∧ bz.size ≤ 40 := by
    have e1 := HFV.out
    simp only [fitsB, Bool.and_eq_true, decide_eq_true_eq] at e1
    exact ⟨(Num.pl_t e1.1).1, (Num.pl_t e1.1).2, e1.2.1⟩
  obtain ⟨hp0, hp1, hz1⟩ := hfit
  have hbd : bdP (p, bz) := ⟨by dsimp only; omega, by dsimp only; omega, by dsimp only; omega⟩
  have x3 : Var 69 (w2.alloc (.cells #[.int .i64 p, .string bz] 69)) w2.heap.size [.int .i64 p, .string bz] := Var.new _ _
  have hk : w.heap.size + 1 < w2.heap.size := x2.lt
  replace x1 := x1.alloc (.cells #[.int .i64 p, .string bz] 69)
  replace x2 := x2.alloc (.cells #[.int .i64 p, .string bz] 69)
  have B1 : Below w.heap.size w (w2.alloc (.cells #[.int .i64 p, .string bz] 69)) := B1.alloc B1.size _
  clear c0 c1 c2 c3 c4 c5
  have HH : Hid (partE.Lies w a l) := h
  have HP : Hid (Bd l) := hp
  have HA : Hid (a = none → c = 0) := ha
  clear h hp ha
  go_upto_region 6 with (fail)
  generalize w2.alloc (.cells #[.int .i64 p, .string bz] 69) = V at *
  generalize w2.heap.size = k3 at *
  have hcol := collect nx bs a c cp fi en l p bz V.heap.size (V.heap.size + 1) ((V.alloc (.cells #[.int .i64 nx, .string bs, .slice a l.length c, .int .i64 cp, .int .i64 fi, .bool en] 28)).alloc (.cells #[.int .i64 p, .string bz] 69)) ((Var.new V [.int .i64 nx, .string bs, .slice a l.length c, .int .i64 cp, .int .i64 fi, .bool en]).alloc _) (by have e := Var.new (T := 69) (V.alloc (.cells #[.int .i64 nx, .string bs, .slice a l.length c, .int .i64 cp, .int .i64 fi, .bool en] 28)) [.int .i64 p, .string bz]; rwa [World.size_alloc] at e) (HH.out.later (B1.trans (((Below.refl _ _).alloc B1.size _).alloc (by simp; exact Nat.le_trans B1.size (Nat.le_succ _)) _))) hl HP.out ⟨i3, by omega⟩ (by omega) ⟨by omega, by omega⟩ hp0 hp1 hz1 rfl
  have bc : Below V.heap.size V ((V.alloc (.cells #[.int .i64 nx, .string bs, .slice a l.length c, .int .i64 cp, .int .i64 fi, .bool en] 28)).alloc (.cells #[.int .i64 p, .string bz] 69)) := ((Below.refl _ _).alloc (Nat.le_refl _) _).alloc (by simp) _
  have hrl := runs_len nx (limT nx bs cp) l p bz
  obtain ⟨c0, c1, c2, c3, c4, c5⟩ := x1.c6
  have q0 := x3.cell (i := 0) rfl
  have q1 := x3.cell (i := 1) rfl
  go_wp2_with (go_at_call 80; refine (runsOf _ _ _ _ _ _ _ _ _ _ _).mono ?_; rintro x w' ⟨rfl, rfl⟩)
  refine hcol.mono ?_
  clear hcol
  rintro x w4 ⟨ra, rc, rfl, o4, b4⟩
  have b4' := bc.trans (b4.mono bc.size)
  replace x1 := x1.later b4'
  replace x2 := x2.later b4'
  replace x3 := x3.later b4'
  replace o4 := o4.mono (Nat.le_trans B1.size bc.size)
  replace B1 := B1.trans (b4'.mono B1.size)
  clear c0 c1 c2 c3 c4 c5
  clear q0 q1 b4 b4' bc
  obtain ⟨rs, hrs⟩ : ∃ rs, runsL nx (limT nx bs cp) l p bz = rs := ⟨_, rfl⟩
  rw [hrs] at o4 hrl ⊢
  have HRS : Hid (runsL nx (limT nx bs cp) l p bz = rs) := hrs
  clear hrs
  obtain ⟨c0, c1, c2, c3, c4, c5⟩ := x1.c6
  obtain ⟨f0, f1, f2, f3, f4, f5⟩ := x1.f6
  have hrs1 : rs.length ≤ 401 := by omega
  have q0 := x3.cell (i := 0) rfl
  have q1 := x3.cell (i := 1) rfl
  have HRB : Hid (Bd rs) := by show Bd rs; rw [← HRS.out]; exact runs_bd hp0 hp1 hz1
  have HRT : Hid (tot rs ≤ 40 * rs.length) := by show _ ≤ _; rw [← HRS.out]; exact runs_tot hz1
  by_cases hed : (e && fi == -1) = true
  · obtain ⟨rfl, hf1⟩ : e = true ∧ fi = -1 := by simpa using hed
    subst hf1
    have E : Hid (¬ (runsL nx (limT nx bs cp) l p bz = [] ∧ (true && (-1 : Int) == -1) = false)) := by show ¬ _; simp
    by_cases hr0 : rs = []
    · have hlen0 : rs.length = 0 := by rw [hr0]; rfl
      clear hr0
      go_wp2_with fail
      refine (behindEq _ hbd rfl).mono ?_
      rintro x w5 ⟨rfl, hb5⟩
      replace x1 := x1.later hb5
      replace x2 := x2.later hb5
      have hx4 : ∀ x, ra = some x → w.heap.size + 1 < x.block ∨ x.block < w.heap.size ∨ True := fun _ _ => .inr (.inr trivial)
      have hne4 := own_ne (T := 28) (by decide) (o4.later hb5) x1
      replace o4 := (o4.later hb5).setCell (p := ⟨w.heap.size, 4, none⟩) hne4 (.int .i64 (endP (p, bz)))
      replace B1 := (B1.trans (hb5.mono B1.size)).setCell (p := ⟨w.heap.size, 4, none⟩) (Nat.le_refl _) (.int .i64 (endP (p, bz)))
      clear c0 c1 c2 c3 c4 c5 f0 f1 f2 f3 f4 f5
      obtain ⟨c0, c1, c2, c3, c4, c5⟩ := x1.c6
      obtain ⟨f0, f1, f2, f3, f4, f5⟩ := x1.f6
      replace x1 := x1.set 4 (.int .i64 (endP (p, bz)))
      replace x2 := x2.other (p := ⟨w.heap.size, 4, none⟩) (by dsimp only; omega) (.int .i64 (endP (p, bz)))
      clear x3 q0 q1 hb5 hx4 hne4
      go_upto_region 12 with (fail)
      generalize w5.setCell ⟨w.heap.size, 4, none⟩ (.int .i64 (endP (p, bz))) = U0 at *
      clear c0 c1 c2 c3 c4 c5 f0 f1 f2 f3 f4 f5
      obtain ⟨c0, c1, c2, c3, c4, c5⟩ := x1.c6
      obtain ⟨f0, f1, f2, f3, f4, f5⟩ := x1.f6
      go_wp2_with fail
      have hio := inOrder sortNil a ra c rc l rs _ (HH.out.later B1) o4.lies (by omega) (by omega) HA.out o4.none_cap
      (try rw [hlen0] at hio)
      refine hio.mono ?_
      clear hio
      rintro x w6 ⟨r, hsr, sa, sc, rfl, o6, b6⟩
      have hsz1 := x2.lt
      replace x1 := x1.later b6
      replace x2 := x2.later b6
      have hx6 : ∀ x, sa = some x → w.heap.size + 1 < x.block := fun x e => by have := (o6.lt x e).1; omega
      replace B1 := B1.trans (b6.mono B1.size)
      clear b6
      clear c0 c1 c2 c3 c4 c5 f0 f1 f2 f3 f4 f5
      obtain ⟨c0, c1, c2, c3, c4, c5⟩ := x1.c6
      obtain ⟨f0, f1, f2, f3, f4, f5⟩ := x1.f6
      have y1 := x1.set 2 (.slice sa r.length sc)
      have y2 := x2.other (p := ⟨w.heap.size, 2, none⟩) (by dsimp only; omega) (.slice sa r.length sc)
      replace o6 := o6.setCell (p := ⟨w.heap.size, 2, none⟩) (fun x e => by have := hx6 x e; dsimp only; omega) (.slice sa r.length sc)
      replace B1 := B1.setCell (p := ⟨w.heap.size, 2, none⟩) (Nat.le_refl _) (.slice sa r.length sc)
      clear x1 x2
      go_upto_region 13 with (fail)
      generalize w6.setCell ⟨w.heap.size, 2, none⟩ (.slice sa r.length sc) = U at *
      clear c0 c1 c2 c3 c4 c5 f0 f1 f2 f3 f4 f5
      obtain ⟨c0, c1, c2, c3, c4, c5⟩ := y1.c6
      have hrlen : r.length ≤ 1048576 := by rw [hsr.1.length_eq, List.length_append]; omega
      have hrt : bs.size + tot r ≤ 1048576 := by rw [tot_perm hsr.1, tot_append]; have := HRT.out; omega
      have hga := gathered nx bs sa _ sc cp (endP (p, bz)) en r U rfl o6.lies hrlen (bd_perm hsr.1 HP.out HRB.out) hrt
      go_wp2_with fail
      refine hga.mono ?_
      clear hga
      rintro x w7 ⟨n', b', rest, hga, a7, c7, rfl, o7, b7⟩
      have hs7 : w.heap.size + 1 < U.heap.size := y2.lt
      have HX : Hid (∀ x, a7 = some x → w.heap.size + 1 < x.block) := fun x e => by have := (o7.lt x e).1; omega
      replace y2 := y2.later b7
      have B7 := B1.trans (b7.mono B1.size)
      replace o7 := o7.mono B1.size
      have HR : Hid (TakesR (⟨nx, bs, l, cp, -1, en⟩ : Tk) p bz true (⟨n', b', rest, cp, (endP (p, bz)), n' == (endP (p, bz))⟩, true)) := .more r rest n' b' _ HOK.out HFV.out E.out ((by simp [endP])) (by rw [HRS.out]; exact hsr) hga
      clear y1 b7 hga B1 hsr hx6 hs7 o6 hrt hrlen
      clear c0 c1 c2 c3 c4 c5
      obtain ⟨r0, r1, r2, r3, r4, r5⟩ := y2.c6
      obtain ⟨z0, z1, z2, z3, z4, z5⟩ := y2.f6
      clear y2
      go_wp2_with fail
      refine bodyPost_ret (v := .tuple #[.agg #[.int .i64 n', .string b', .slice a7 rest.length c7, .int .i64 cp, .int .i64 (endP (p, bz)), .bool (n' == (endP (p, bz)))], .bool true]) (by rw [res_cell_tmp rfl]; go_simp) rfl ⟨_, HR.out, a7, c7, rfl, ?_, ?_⟩
      · iterate 6 (refine El.Own.setCell ?_ (fun x hx' => by have := HX.out x hx'; dsimp only; omega) _)
        exact o7
      · iterate 6 (refine Below.setCell ?_ (by dsimp only; omega) _)
        exact B7
    · have hr1 : 0 < rs.length := List.length_pos_iff.2 hr0
      have hr2 : ((rs.length : Int) == 0) = false := by simp; omega
      go_wp2_with fail
      refine (behindEq _ hbd rfl).mono ?_
      rintro x w5 ⟨rfl, hb5⟩
      replace x1 := x1.later hb5
      replace x2 := x2.later hb5
      have hx4 : ∀ x, ra = some x → w.heap.size + 1 < x.block ∨ x.block < w.heap.size ∨ True := fun _ _ => .inr (.inr trivial)
      have hne4 := own_ne (T := 28) (by decide) (o4.later hb5) x1
      replace o4 := (o4.later hb5).setCell (p := ⟨w.heap.size, 4, none⟩) hne4 (.int .i64 (endP (p, bz)))
      replace B1 := (B1.trans (hb5.mono B1.size)).setCell (p := ⟨w.heap.size, 4, none⟩) (Nat.le_refl _) (.int .i64 (endP (p, bz)))
      clear c0 c1 c2 c3 c4 c5 f0 f1 f2 f3 f4 f5
      obtain ⟨c0, c1, c2, c3, c4, c5⟩ := x1.c6
      obtain ⟨f0, f1, f2, f3, f4, f5⟩ := x1.f6
      replace x1 := x1.set 4 (.int .i64 (endP (p, bz)))
      replace x2 := x2.other (p := ⟨w.heap.size, 4, none⟩) (by dsimp only; omega) (.int .i64 (endP (p, bz)))
      clear x3 q0 q1 hb5 hx4 hne4
      go_upto_region 12 with (fail)
      generalize w5.setCell ⟨w.heap.size, 4, none⟩ (.int .i64 (endP (p, bz))) = U0 at *
      clear c0 c1 c2 c3 c4 c5 f0 f1 f2 f3 f4 f5
      obtain ⟨c0, c1, c2, c3, c4, c5⟩ := x1.c6
      obtain ⟨f0, f1, f2, f3, f4, f5⟩ := x1.f6
      go_wp2_with fail
      have hio := inOrder sortNil a ra c rc l rs _ (HH.out.later B1) o4.lies (by omega) (by omega) HA.out o4.none_cap
      (try rw [hlen0] at hio)
      refine hio.mono ?_
      clear hio
      rintro x w6 ⟨r, hsr, sa, sc, rfl, o6, b6⟩
      have hsz1 := x2.lt
      replace x1 := x1.later b6
      replace x2 := x2.later b6
      have hx6 : ∀ x, sa = some x → w.heap.size + 1 < x.block := fun x e => by have := (o6.lt x e).1; omega
      replace B1 := B1.trans (b6.mono B1.size)
      clear b6
      clear c0 c1 c2 c3 c4 c5 f0 f1 f2 f3 f4 f5
      obtain ⟨c0, c1, c2, c3, c4, c5⟩ := x1.c6
      obtain ⟨f0, f1, f2, f3, f4, f5⟩ := x1.f6
      have y1 := x1.set 2 (.slice sa r.length sc)
      have y2 := x2.other (p := ⟨w.heap.size, 2, none⟩) (by dsimp only; omega) (.slice sa r.length sc)
      replace o6 := o6.setCell (p := ⟨w.heap.size, 2, none⟩) (fun x e => by have := hx6 x e; dsimp only; omega) (.slice sa r.length sc)
      replace B1 := B1.setCell (p := ⟨w.heap.size, 2, none⟩) (Nat.le_refl _) (.slice sa r.length sc)
      clear x1 x2
      go_upto_region 13 with (fail)
      generalize w6.setCell ⟨w.heap.size, 2, none⟩ (.slice sa r.length sc) = U at *
      clear c0 c1 c2 c3 c4 c5 f0 f1 f2 f3 f4 f5
      obtain ⟨c0, c1, c2, c3, c4, c5⟩ := y1.c6
      have hrlen : r.length ≤ 1048576 := by rw [hsr.1.length_eq, List.length_append]; omega
      have hrt : bs.size + tot r ≤ 1048576 := by rw [tot_perm hsr.1, tot_append]; have := HRT.out; omega
      have hga := gathered nx bs sa _ sc cp (endP (p, bz)) en r U rfl o6.lies hrlen (bd_perm hsr.1 HP.out HRB.out) hrt
      go_wp2_with fail
      refine hga.mono ?_
      clear hga
      rintro x w7 ⟨n', b', rest, hga, a7, c7, rfl, o7, b7⟩
      have hs7 : w.heap.size + 1 < U.heap.size := y2.lt
      have HX : Hid (∀ x, a7 = some x → w.heap.size + 1 < x.block) := fun x e => by have := (o7.lt x e).1; omega
      replace y2 := y2.later b7
      have B7 := B1.trans (b7.mono B1.size)
      replace o7 := o7.mono B1.size
      have HR : Hid (TakesR (⟨nx, bs, l, cp, -1, en⟩ : Tk) p bz true (⟨n', b', rest, cp, (endP (p, bz)), n' == (endP (p, bz))⟩, true)) := .more r rest n' b' _ HOK.out HFV.out E.out ((by simp [endP])) (by rw [HRS.out]; exact hsr) hga
      clear y1 b7 hga B1 hsr hx6 hs7 o6 hrt hrlen
      clear c0 c1 c2 c3 c4 c5
      obtain ⟨r0, r1, r2, r3, r4, r5⟩ := y2.c6
      obtain ⟨z0, z1, z2, z3, z4, z5⟩ := y2.f6
      clear y2
      go_wp2_with fail
      refine bodyPost_ret (v := .tuple #[.agg #[.int .i64 n', .string b', .slice a7 rest.length c7, .int .i64 cp, .int .i64 (endP (p, bz)), .bool (n' == (endP (p, bz)))], .bool true]) (by rw [res_cell_tmp rfl]; go_simp) rfl ⟨_, HR.out, a7, c7, rfl, ?_, ?_⟩
      · iterate 6 (refine El.Own.setCell ?_ (fun x hx' => by have := HX.out x hx'; dsimp only; omega) _)
        exact o7
      · iterate 6 (refine Below.setCell ?_ (by dsimp only; omega) _)
        exact B7
  · have hed' : (e && fi == -1) = false := by simpa using hed
    cases e
    · skip
      by_cases hr0 : rs = []
      · have hlen0 : rs.length = 0 := by rw [hr0]; rfl
        have E : Hid (TakesR ⟨nx, bs, l, cp, fi, en⟩ p bz false (⟨nx, bs, l, cp, fi, en⟩, false)) := .same HOK.out HFV.out (HRS.out.trans hr0) hed'
        clear hr0
        clear x3 q0 q1
        go_wp2_with fail
        refine (ownTaker nx bs a _ c cp fi en l _ rfl (HH.out.later B1) hl HA.out).mono ?_
        rintro x w3 ⟨a', c', rfl, o3, b3⟩
        have y2 := x2.later b3
        have B3 := B1.trans (b3.mono B1.size)
        have HX : Hid (∀ x, a' = some x → w.heap.size + 1 < x.block) := fun x e => by have := (o3.lt x e).1; have := x2.lt; omega
        replace o3 := o3.mono B1.size
        clear x1 x2 b3 c0 c1 c2 c3 c4 c5 f0 f1 f2 f3 f4 f5
        obtain ⟨r0, r1, r2, r3, r4, r5⟩ := y2.c6
        obtain ⟨z0, z1, z2, z3, z4, z5⟩ := y2.f6
        clear y2
        go_wp2_with fail
        refine bodyPost_ret (v := .tuple #[.agg #[.int .i64 nx, .string bs, .slice a' l.length c', .int .i64 cp, .int .i64 fi, .bool en], .bool false]) (by rw [res_cell_tmp rfl]; go_simp) rfl ⟨_, E.out, a', c', rfl, ?_, ?_⟩
        · iterate 6 (refine El.Own.setCell ?_ (fun x hx' => by have := HX.out x hx'; dsimp only; omega) _)
          exact o3
        · iterate 6 (refine Below.setCell ?_ (by dsimp only; omega) _)
          exact B3
      · have hr1 : 0 < rs.length := List.length_pos_iff.2 hr0
        have hr2 : ((rs.length : Int) == 0) = false := by simp; omega
        have E : Hid (¬ (runsL nx (limT nx bs cp) l p bz = [] ∧ (false && fi == -1) = false)) := by show ¬ _; rw [HRS.out]; exact fun q => hr0 q.1
        clear x3 q0 q1
        go_wp2_with fail
        have hio := inOrder sortNil a ra c rc l rs _ (HH.out.later B1) o4.lies (by omega) (by omega) HA.out o4.none_cap
        (try rw [hlen0] at hio)
        refine hio.mono ?_
        clear hio
        rintro x w6 ⟨r, hsr, sa, sc, rfl, o6, b6⟩
        have hsz1 := x2.lt
        replace x1 := x1.later b6
        replace x2 := x2.later b6
        have hx6 : ∀ x, sa = some x → w.heap.size + 1 < x.block := fun x e => by have := (o6.lt x e).1; omega
        replace B1 := B1.trans (b6.mono B1.size)
        clear b6
        clear c0 c1 c2 c3 c4 c5 f0 f1 f2 f3 f4 f5
        obtain ⟨c0, c1, c2, c3, c4, c5⟩ := x1.c6
        obtain ⟨f0, f1, f2, f3, f4, f5⟩ := x1.f6
        have y1 := x1.set 2 (.slice sa r.length sc)
        have y2 := x2.other (p := ⟨w.heap.size, 2, none⟩) (by dsimp only; omega) (.slice sa r.length sc)
        replace o6 := o6.setCell (p := ⟨w.heap.size, 2, none⟩) (fun x e => by have := hx6 x e; dsimp only; omega) (.slice sa r.length sc)
        replace B1 := B1.setCell (p := ⟨w.heap.size, 2, none⟩) (Nat.le_refl _) (.slice sa r.length sc)
        clear x1 x2
        go_upto_region 13 with (fail)
        generalize w6.setCell ⟨w.heap.size, 2, none⟩ (.slice sa r.length sc) = U at *
        clear c0 c1 c2 c3 c4 c5 f0 f1 f2 f3 f4 f5
        obtain ⟨c0, c1, c2, c3, c4, c5⟩ := y1.c6
        have hrlen : r.length ≤ 1048576 := by rw [hsr.1.length_eq, List.length_append]; omega
        have hrt : bs.size + tot r ≤ 1048576 := by rw [tot_perm hsr.1, tot_append]; have := HRT.out; omega
        have hga := gathered nx bs sa _ sc cp fi en r U rfl o6.lies hrlen (bd_perm hsr.1 HP.out HRB.out) hrt
        go_wp2_with fail
        refine hga.mono ?_
        clear hga
        rintro x w7 ⟨n', b', rest, hga, a7, c7, rfl, o7, b7⟩
        have hs7 : w.heap.size + 1 < U.heap.size := y2.lt
        have HX : Hid (∀ x, a7 = some x → w.heap.size + 1 < x.block) := fun x e => by have := (o7.lt x e).1; omega
        replace y2 := y2.later b7
        have B7 := B1.trans (b7.mono B1.size)
        replace o7 := o7.mono B1.size
        have HR : Hid (TakesR ⟨nx, bs, l, cp, fi, en⟩ p bz false (⟨n', b', rest, cp, fi, n' == fi⟩, true)) := .more r rest n' b' _ HOK.out HFV.out E.out ((by rw [if_neg hed])) (by rw [HRS.out]; exact hsr) hga
        clear y1 b7 hga B1 hsr hx6 hs7 o6 hrt hrlen
        clear c0 c1 c2 c3 c4 c5
        obtain ⟨r0, r1, r2, r3, r4, r5⟩ := y2.c6
        obtain ⟨z0, z1, z2, z3, z4, z5⟩ := y2.f6
        clear y2
        go_wp2_with fail
        refine bodyPost_ret (v := .tuple #[.agg #[.int .i64 n', .string b', .slice a7 rest.length c7, .int .i64 cp, .int .i64 fi, .bool (n' == fi)], .bool true]) (by rw [res_cell_tmp rfl]; go_simp) rfl ⟨_, HR.out, a7, c7, rfl, ?_, ?_⟩
        · iterate 6 (refine El.Own.setCell ?_ (fun x hx' => by have := HX.out x hx'; dsimp only; omega) _)
          exact o7
        · iterate 6 (refine Below.setCell ?_ (by dsimp only; omega) _)
          exact B7
    · have g4 : (fi == -1) = false := by simpa using hed'
      by_cases hr0 : rs = []
      · have hlen0 : rs.length = 0 := by rw [hr0]; rfl
        have E : Hid (TakesR ⟨nx, bs, l, cp, fi, en⟩ p bz true (⟨nx, bs, l, cp, fi, en⟩, false)) := .same HOK.out HFV.out (HRS.out.trans hr0) hed'
        clear hr0
        clear x3 q0 q1
        go_wp2_with fail
        refine (ownTaker nx bs a _ c cp fi en l _ rfl (HH.out.later B1) hl HA.out).mono ?_
        rintro x w3 ⟨a', c', rfl, o3, b3⟩
        have y2 := x2.later b3
        have B3 := B1.trans (b3.mono B1.size)
        have HX : Hid (∀ x, a' = some x → w.heap.size + 1 < x.block) := fun x e => by have := (o3.lt x e).1; have := x2.lt; omega
        replace o3 := o3.mono B1.size
        clear x1 x2 b3 c0 c1 c2 c3 c4 c5 f0 f1 f2 f3 f4 f5
        obtain ⟨r0, r1, r2, r3, r4, r5⟩ := y2.c6
        obtain ⟨z0, z1, z2, z3, z4, z5⟩ := y2.f6
        clear y2
        go_wp2_with fail
        refine bodyPost_ret (v := .tuple #[.agg #[.int .i64 nx, .string bs, .slice a' l.length c', .int .i64 cp, .int .i64 fi, .bool en], .bool false]) (by rw [res_cell_tmp rfl]; go_simp) rfl ⟨_, E.out, a', c', rfl, ?_, ?_⟩
        · iterate 6 (refine El.Own.setCell ?_ (fun x hx' => by have := HX.out x hx'; dsimp only; omega) _)
          exact o3
        · iterate 6 (refine Below.setCell ?_ (by dsimp only; omega) _)
          exact B3
      · have hr1 : 0 < rs.length := List.length_pos_iff.2 hr0
        have hr2 : ((rs.length : Int) == 0) = false := by simp; omega
        have E : Hid (¬ (runsL nx (limT nx bs cp) l p bz = [] ∧ (true && fi == -1) = false)) := by show ¬ _; rw [HRS.out]; exact fun q => hr0 q.1
        clear x3 q0 q1
        go_wp2_with fail
        have hio := inOrder sortNil a ra c rc l rs _ (HH.out.later B1) o4.lies (by omega) (by omega) HA.out o4.none_cap
        (try rw [hlen0] at hio)
        refine hio.mono ?_
        clear hio
        rintro x w6 ⟨r, hsr, sa, sc, rfl, o6, b6⟩
        have hsz1 := x2.lt
        replace x1 := x1.later b6
        replace x2 := x2.later b6
        have hx6 : ∀ x, sa = some x → w.heap.size + 1 < x.block := fun x e => by have := (o6.lt x e).1; omega
        replace B1 := B1.trans (b6.mono B1.size)
        clear b6
        clear c0 c1 c2 c3 c4 c5 f0 f1 f2 f3 f4 f5
        obtain ⟨c0, c1, c2, c3, c4, c5⟩ := x1.c6
        obtain ⟨f0, f1, f2, f3, f4, f5⟩ := x1.f6
        have y1 := x1.set 2 (.slice sa r.length sc)
        have y2 := x2.other (p := ⟨w.heap.size, 2, none⟩) (by dsimp only; omega) (.slice sa r.length sc)
        replace o6 := o6.setCell (p := ⟨w.heap.size, 2, none⟩) (fun x e => by have := hx6 x e; dsimp only; omega) (.slice sa r.length sc)
        replace B1 := B1.setCell (p := ⟨w.heap.size, 2, none⟩) (Nat.le_refl _) (.slice sa r.length sc)
        clear x1 x2
        go_upto_region 13 with (fail)
        generalize w6.setCell ⟨w.heap.size, 2, none⟩ (.slice sa r.length sc) = U at *
        clear c0 c1 c2 c3 c4 c5 f0 f1 f2 f3 f4 f5
        obtain ⟨c0, c1, c2, c3, c4, c5⟩ := y1.c6
        have hrlen : r.length ≤ 1048576 := by rw [hsr.1.length_eq, List.length_append]; omega
        have hrt : bs.size + tot r ≤ 1048576 := by rw [tot_perm hsr.1, tot_append]; have := HRT.out; omega
        have hga := gathered nx bs sa _ sc cp fi en r U rfl o6.lies hrlen (bd_perm hsr.1 HP.out HRB.out) hrt
        go_wp2_with fail
        refine hga.mono ?_
        clear hga
        rintro x w7 ⟨n', b', rest, hga, a7, c7, rfl, o7, b7⟩
        have hs7 : w.heap.size + 1 < U.heap.size := y2.lt
        have HX : Hid (∀ x, a7 = some x → w.heap.size + 1 < x.block) := fun x e => by have := (o7.lt x e).1; omega
        replace y2 := y2.later b7
        have B7 := B1.trans (b7.mono B1.size)
        replace o7 := o7.mono B1.size
        have HR : Hid (TakesR ⟨nx, bs, l, cp, fi, en⟩ p bz true (⟨n', b', rest, cp, fi, n' == fi⟩, true)) := .more r rest n' b' _ HOK.out HFV.out E.out ((by rw [if_neg hed])) (by rw [HRS.out]; exact hsr) hga
        clear y1 b7 hga B1 hsr hx6 hs7 o6 hrt hrlen
        clear c0 c1 c2 c3 c4 c5
        obtain ⟨r0, r1, r2, r3, r4, r5⟩ := y2.c6
        obtain ⟨z0, z1, z2, z3, z4, z5⟩ := y2.f6
        clear y2
        go_wp2_with fail
        refine bodyPost_ret (v := .tuple #[.agg #[.int .i64 n', .string b', .slice a7 rest.length c7, .int .i64 cp, .int .i64 fi, .bool (n' == fi)], .bool true]) (by rw [res_cell_tmp rfl]; go_simp) rfl ⟨_, HR.out, a7, c7, rfl, ?_, ?_⟩
        · iterate 6 (refine El.Own.setCell ?_ (fun x hx' => by have := HX.out x hx'; dsimp only; omega) _)
          exact o7
        · iterate 6 (refine Below.setCell ?_ (by dsimp only; omega) _)
          exact B7

end Go.Proofs.YtjnkjeajkmgcmaaGreat.Tak

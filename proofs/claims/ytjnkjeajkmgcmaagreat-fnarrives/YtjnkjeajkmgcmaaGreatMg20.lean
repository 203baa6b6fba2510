/- Contract of the closure of the program's runsOf: it yields what of the bytes is missing, a run for each hole that it reaches; parts not beyond 2^62. · One element more behind a row of the call's own, inside or outside a round: which block may turn; plain. · Contracts of slices.AppendSeq and slices.Collect over the runs; parts not beyond 2^62. · Contract of the program's gathered: what is next goes to the bytes, the rest stays; parts not beyond 2^62. -/
import Derived.Test.YtjnkjeajkmgcmaaGreatMg18
import Derived.Test.YtjnkjeajkmgcmaaGreatMg8
import Derived.Deep.RegionLawGrows
namespace Go.Proofs.YtjnkjeajkmgcmaaGreat.Tak
open Go.RowKit RowG Rng
set_option linter.unusedVariables false
set_option linter.unusedSimpArgs false
attribute [local go_sem] Oper.semAt_some

def ne (q : Pt) : Bool := !q.2.toList.isEmpty
def runX (p : Int) (bz : ByteArray) (x : Int × Pt) : Pt := withinP p bz x.1 x.2.1
def runsAt (nx : Int) (l : List Pt) (p : Int) (bz : ByteArray) (i : Nat) : List Pt := (((pairs nx l).take i).map (runX p bz)).filter ne
def runsL (nx lim : Int) (l : List Pt) (p : Int) (bz : ByteArray) : List Pt := ((pairs nx l).map (runX p bz)).filter ne ++ [withinP p bz (lastEnd nx l) lim].filter ne
theorem runs_step {nx : Int} {l : List Pt} {p : Int} {bz : ByteArray} {i : Nat} {x : Int × Pt} (hx : (pairs nx l)[i]? = some x) : runsAt nx l p bz (i + 1) = runsAt nx l p bz i ++ [runX p bz x].filter ne := by
  unfold runsAt
  rw [List.take_add_one, hx]
  simp
theorem runs_all {nx : Int} {l : List Pt} {p : Int} {bz : ByteArray} : runsAt nx l p bz (pairs nx l).length = ((pairs nx l).map (runX p bz)).filter ne := by
  unfold runsAt
  rw [List.take_of_length_le (Nat.le_refl _)]
theorem runs_at {nx lim : Int} {l : List Pt} {p : Int} {bz : ByteArray} {i : Nat} {x : Int × Pt} (hx : (pairs nx l)[i]? = some x) (hn : ne (runX p bz x) = true) : (runsL nx lim l p bz)[(runsAt nx l p bz i).length]? = some (runX p bz x) := by
  have e : (pairs nx l).map (runX p bz) = ((pairs nx l).take i).map (runX p bz) ++ (runX p bz x :: ((pairs nx l).drop (i + 1)).map (runX p bz)) := by
    rw [← List.map_cons, ← List.map_append]
    congr 1
    obtain ⟨hi, he⟩ := List.getElem?_eq_some_iff.1 hx
    rw [← he, ← List.drop_eq_getElem_cons hi, List.take_append_drop]
  unfold runsL
  rw [e, List.filter_append, List.append_assoc, List.filter_cons_of_pos hn]
  unfold runsAt
  simp
theorem runs_last {nx lim : Int} {l : List Pt} {p : Int} {bz : ByteArray} (hn : ne (withinP p bz (lastEnd nx l) lim) = true) : (runsL nx lim l p bz)[(runsAt nx l p bz (pairs nx l).length).length]? = some (withinP p bz (lastEnd nx l) lim) := by
  rw [runs_all]
  unfold runsL
  rw [List.filter_cons_of_pos hn]
  simp
theorem chg_lies {α : Type} {E : El α} {m : Nat → Obj → Prop} {A B : World} {a : Option Addr} {l : List α} (h : Chg m A B) (hl : E.Lies A a l) (hr : l ≠ [] → ∀ x, a = some x → ∀ o, ¬ m x.block o) : E.Lies B a l := by
  by_cases hn : l = []
  · exact .inl hn
  · refine hl.same (fun x ex hx => ?_)
    have e := Array.getElem?_eq_getElem hx
    rw [h.same _ _ e (hr hn x ex _), e]
structure RunI (B : Nat) (V w' : World) : Prop where
  b : Below B V w'
def encR (q : Pt) : Array Value := #[.agg #[.int .i64 q.1, .string q.2]]

set_option maxRecDepth 100000 in
set_option maxHeartbeats 8000000 in
theorem runsOf1 (nx : Int) (bs : ByteArray) (a : Option Addr) (c : Nat) (cp fi : Int) (en : Bool) (l : List Pt) (p : Int) (bz : ByteArray) (bt bc : Nat) (mine : Nat → Obj → Prop) (w : World)
    (hbt : Var 28 w bt [.int .i64 nx, .string bs, .slice a l.length c, .int .i64 cp, .int .i64 fi, .bool en]) (hbc : Var 69 w bc [.int .i64 p, .string bz]) (hL : partE.Lies w a l) (hl : l.length ≤ 2097152) (hp : Bd l)
    (hnx : 0 ≤ nx ∧ nx ≤ 1152921504606846976) (hb : bs.size ≤ 1152921504606846976) (hc : 0 ≤ cp ∧ cp ≤ 1152921504606846976) (hp0 : 0 ≤ p) (hp1 : p ≤ 1000000000) (hz : bz.size ≤ 40) {lim : Int} (hlim : limT nx bs cp = lim)
    (hrow : l ≠ [] → ∀ x, a = some x → ∀ o, ¬ mine x.block o) (hmt : ∀ o, ¬ mine bt o) (hmc : ∀ o, ¬ mine bc o)
    (hnew : ∀ k v0 v1, w.heap.size ≤ k → ¬ mine k (.cells #[v0, v1] 69 (0, 0))) (hnew1 : ∀ k v, w.heap.size ≤ k → ¬ mine k (.cells #[v] 122 (0, 0))) (hnewo : ∀ k o, w.heap.size + 2 ≤ k → o.isCells = false → ¬ mine k o) :
    Gives Tryz.prog 96 #[.pointer (some ⟨bt, 0, none⟩), .pointer (some ⟨bc, 0, none⟩)] encR (runsL nx lim l p bz) mine w := by
  intro lp J Jx W hW hW2 stJ stJx hY h0
  have hbt := hbt.later hW
  have hbc := hbc.later hW
  have hLW := hL.later hW
  show CallsIn Fence.wide 0 Tryz.prog 96 #[.func (.yield lp) #[] #[], .pointer (some ⟨bt, 0, none⟩), .pointer (some ⟨bc, 0, none⟩)] W _
  have hbt1 := hbt.alloc (.cells #[.func (.yield lp) #[] #[]] 122)
  obtain ⟨t0, t1, t2, t3, t4, t5⟩ := hbt1.c6
  clear hbt1
  have B3 : Below W.heap.size W (((W.alloc (.cells #[.func (.yield lp) #[] #[]] 122)).alloc (.cells #[.int .i64 nx] 2)).alloc (.cells #[.slice a l.length c] 26)) := (((Below.refl _ _).alloc (Nat.le_refl _) _).alloc (by simp) _).alloc (by simp; omega) _
  have Vt : Var 28 (((W.alloc (.cells #[.func (.yield lp) #[] #[]] 122)).alloc (.cells #[.int .i64 nx] 2)).alloc (.cells #[.slice a l.length c] 26)) bt [.int .i64 nx, .string bs, .slice a l.length c, .int .i64 cp, .int .i64 fi, .bool en] := hbt.later B3
  have Vc : Var 69 (((W.alloc (.cells #[.func (.yield lp) #[] #[]] 122)).alloc (.cells #[.int .i64 nx] 2)).alloc (.cells #[.slice a l.length c] 26)) bc [.int .i64 p, .string bz] := hbc.later B3
  have Vy : Var 122 (((W.alloc (.cells #[.func (.yield lp) #[] #[]] 122)).alloc (.cells #[.int .i64 nx] 2)).alloc (.cells #[.slice a l.length c] 26)) W.heap.size [.func (.yield lp) #[] #[]] := ((Var.new W [.func (.yield lp) #[] #[]]).alloc _).alloc _
  have V1 : Var 2 (((W.alloc (.cells #[.func (.yield lp) #[] #[]] 122)).alloc (.cells #[.int .i64 nx] 2)).alloc (.cells #[.slice a l.length c] 26)) (W.heap.size + 1) [.int .i64 nx] := by
    have e := (Var.new (T := 2) (W.alloc (.cells #[.func (.yield lp) #[] #[]] 122)) [.int .i64 nx]).alloc (.cells #[.slice a l.length c] 26)
    rwa [World.size_alloc] at e
  have V2 : Var 26 (((W.alloc (.cells #[.func (.yield lp) #[] #[]] 122)).alloc (.cells #[.int .i64 nx] 2)).alloc (.cells #[.slice a l.length c] 26)) (W.heap.size + 1 + 1) [.slice a l.length c] := by
    have e := Var.new (T := 26) ((W.alloc (.cells #[.func (.yield lp) #[] #[]] 122)).alloc (.cells #[.int .i64 nx] 2)) [.slice a l.length c]
    rwa [World.size_alloc, World.size_alloc] at e
  have S3 : (((W.alloc (.cells #[.func (.yield lp) #[] #[]] 122)).alloc (.cells #[.int .i64 nx] 2)).alloc (.cells #[.slice a l.length c] 26)).heap.size = W.heap.size + 3 := by simp
  have L3 := hLW.later B3
  have HLT : Hid (l ≠ [] → ∀ x, a = some x → x.block < W.heap.size) := lies_lt hLW
  have J3 : J 0 (((W.alloc (.cells #[.func (.yield lp) #[] #[]] 122)).alloc (.cells #[.int .i64 nx] 2)).alloc (.cells #[.slice a l.length c] 26)) := stJ 0 _ _ h0 (Chg.later B3)
  obtain ⟨W3, hW3⟩ : ∃ W3, (((W.alloc (.cells #[.func (.yield lp) #[] #[]] 122)).alloc (.cells #[.int .i64 nx] 2)).alloc (.cells #[.slice a l.length c] 26)) = W3 := ⟨_, rfl⟩
  rw [hW3] at B3 Vt Vc Vy V1 V2 S3 L3 J3
  have HW3 : Hid _ := hW3
  have HN : Hid (0 ≤ nx ∧ nx ≤ 1152921504606846976) := hnx
  have HC : Hid (0 ≤ cp ∧ cp ≤ 1152921504606846976) := hc
  have HY : Hid _ := hY
  have HP : Hid (Bd l) := hp
  have sW : Hid (w.heap.size + 2 ≤ W.heap.size) := hW2
  have HL : Hid _ := hlim
  clear hW3 hnx hc hY h0 hL hW hW2 hLW hbt hbc hp hlim
  refine callsIn_of_wp_marks (F := Fence.wide) (n := 0) Tryz.func96 rfl trivial ?_ rfl
  simp only [Tryz.ntmps96, List.size_toArray, List.length_cons, List.length_nil, Nat.reduceAdd, Nat.reduceSub, Array.replicate_succ, Array.replicate_zero, List.push_toArray, List.append_toArray, List.nil_append, List.cons_append]
  gi_wp2_with (refine ⟨trivial, rfl, ?_⟩; gi_at_call 88; refine (callsIn_wide.2 (partsFrom _ _ _ _ _)).mono ?_; rintro e w' ⟨rfl, rfl⟩)
  rw [HW3.out]
  clear HW3 t0 t1 t2 t3 t4 t5
  have H0 : (runsAt nx l p bz 0).length = 0 := by simp [runsAt]
  refine wp_range (gf := 105) (lb := #[.pointer (some ⟨W.heap.size + 1, 0, none⟩), .pointer (some ⟨W.heap.size + 1 + 1, 0, none⟩)]) (xs := pairs nx l) (encs := encQ) (mb := mine) rfl (enters_of Tryz.func105 (by kernel_rfl) rfl)
    (partsFrom1 nx a c l _ _ _ W3 V1 V2 L3 hl HP.out (fun hne x hx o hm => by
      rcases hm with hm | ⟨hm, _⟩
      · exact hrow hne x hx o hm
      · have := HLT.out hne x hx; omega) (fun k v0 v1 hk hm => by
      rcases hm with hm | ⟨_, hm⟩
      · exact hnew k v0 v1 (by have := sW.out; omega) hm
      · cases hm))
    (fun o ho => ⟨hnewo _ o (by have := sW.out; omega) ho, hnewo _ o (by have := sW.out; omega) ho⟩) (fun _ => rfl)
    (fun i V => Var 28 V bt [.int .i64 nx, .string bs, .slice a l.length c, .int .i64 cp, .int .i64 fi, .bool en] ∧ Var 69 V bc [.int .i64 p, .string bz] ∧ Var 122 V W.heap.size [.func (.yield lp) #[] #[]] ∧ partE.Lies V a l ∧ J (runsAt nx l p bz i).length V ∧ W.heap.size ≤ V.heap.size)
    (fun c V => c = .ret ∧ Jx V)
    (fun i A B ⟨h1, h2, h3, h4, h5, h6⟩ hs => ⟨std_var hs h1, std_var hs h2, std_var hs h3, std_lies hs h4, stJ _ _ _ h5 (hs.mono (fun k o hk => ⟨by omega, hk.2⟩)), Nat.le_trans h6 hs.size⟩)
    (fun c A B ⟨h1, h2⟩ hs => ⟨h1, stJx _ _ h2 (hs.mono (fun k o hk => ⟨by omega, hk.2⟩))⟩)
    ⟨Vt, Vc, Vy, L3, by rw [H0]; exact J3, by omega⟩
    (fun x V a' A => Var 69 A V.heap.size [.int .i64 x.2.1, .string x.2.2] ∧ a' = { tmps := #[.func (.yield lp) #[] #[], .pointer (some ⟨bt, 0, none⟩), .pointer (some ⟨bc, 0, none⟩), .pointer (some ⟨W.heap.size, 0, none⟩), .int .i64 x.1, .pointer (some ⟨V.heap.size, 0, none⟩), undef, undef, .pointer (some ⟨bt, 0, none⟩), .int .i64 nx, .pointer (some ⟨bt, 2, none⟩), .slice a l.length c, .func (.func 105) #[] #[.pointer (some ⟨W.heap.size + 1, 0, none⟩), .pointer (some ⟨W.heap.size + 1 + 1, 0, none⟩)], .int .i64 x.1, .agg #[.int .i64 x.2.1, .string x.2.2], undef, undef, undef, undef, undef, undef, undef, undef, undef, undef, undef, undef, undef, undef, undef, undef, undef, undef, undef, undef, undef, undef, undef, undef, undef, undef], defers := [] })
    (fun x V a' A B ⟨h1, h2⟩ hs => ⟨std_var hs h1, h2⟩) ?assign ?body ?done ?stop
  case assign =>
    rintro i ⟨b, pa, pb⟩ V hx hi hsz
    dsimp only [encQ]
    gi_wp2
    refine ⟨⟨Var.new V [.int .i64 pa, .string pb], ?_⟩, (Below.refl _ _).alloc (Nat.le_refl _) _⟩
    first | rfl | trivial
  case body =>
    rintro i ⟨b, qa, qb⟩ a' V0 V hx ⟨h1, h2, h3, h4, h5, h6⟩ ⟨hV, rfl⟩ hs1 hs2
    obtain ⟨⟨ra, rb⟩, hr⟩ : ∃ r, withinP p bz b qa = r := ⟨_, rfl⟩
    have HR : Hid (runX p bz (b, qa, qb) = (ra, rb)) := hr
    have hW := fun w => within p bz b qa w hp0 hp1 hz
    rw [hr] at hW
    dsimp only at hW
    clear hr
    have c0 := h2.cell (i := 0) rfl
    have c1 := h2.cell (i := 1) rfl
    have v0 := hV.cell (i := 0) rfl
    have v1 := hV.cell (i := 1) rfl
    gi_wp2_with fail
    refine ⟨trivial, rfl, ?_⟩
    refine (CallsIn.inRound _ (callsIn_wide.2 (hW _))).mono ?_
    rintro e V2 ⟨rfl, hb2⟩
    have B3 : Below V.heap.size V (V2.alloc (.cells #[.int .i64 ra, .string rb] 69)) := hb2.alloc hb2.size _
    have r3 : Var 69 (V2.alloc (.cells #[.int .i64 ra, .string rb] 69)) V2.heap.size [.int .i64 ra, .string rb] := Var.new _ _
    have h1 := h1.later B3
    have h2 := h2.later B3
    have h3 := h3.later B3
    have h4 := h4.later B3
    have h5 := stJ _ _ _ h5 (Chg.later B3)
    have h6 : W.heap.size ≤ (V2.alloc (.cells #[.int .i64 ra, .string rb] 69)).heap.size := Nat.le_trans h6 B3.size
    have C3 : Chg mine V (V2.alloc (.cells #[.int .i64 ra, .string rb] 69)) := Chg.later B3
    clear c0 c1 v0 v1 hb2 B3 hV
    have r0 := r3.cell (i := 0) rfl
    have r1 := r3.cell (i := 1) rfl
    have y0 := h3.cell (i := 0) rfl
    by_cases hrb : rb.toList = []
    · have HS : Hid (runsAt nx l p bz (i + 1) = runsAt nx l p bz i) := by show _ = _; rw [runs_step hx, HR.out]; simp [ne, hrb]
      gi_wp2
      refine ⟨fun _ h => (by cases h), ?_⟩
      gi_wp2
      exact ⟨C3, h1, h2, h3, h4, by rw [HS.out]; exact h5, h6⟩
    · have hne : ne (runX p bz (b, qa, qb)) = true := by rw [HR.out]; simp [ne, hrb]
      have HS : Hid (runsAt nx l p bz (i + 1) = runsAt nx l p bz i ++ [(ra, rb)]) := by show _ = _; rw [runs_step hx, HR.out]; rw [HR.out] at hne; simp [hne]
      obtain ⟨fn, tmps, assign, body, hy, hRd⟩ := HY.out _ (ra, rb) _ (by rw [← HR.out]; exact runs_at hx hne) h5
      dsimp only [encR] at hy
      have hie : rb.toList.isEmpty = false := by simp [hrb]
      gi_wp2_with fail
      refine ⟨rfl, RoundIn.mono (F := Fence.wide.inRound _) hRd ?_⟩
      clear hRd hy
      rintro e V4 (⟨rfl, hJ4, hk4⟩ | ⟨rfl, hJx4, hk4⟩)
      · gi_wp2
        exact ⟨C3.trans hk4, hk4.same _ _ h1 (hmt _), hk4.same _ _ h2 (hmc _), hk4.same _ _ h3 (hnew1 _ _ (by have := sW.out; omega)), chg_lies hk4 h4 hrow, by rw [HS.out, List.length_append]; exact hJ4, Nat.le_trans h6 hk4.size⟩
      · gi_wp2
        exact ⟨C3.trans hk4, rfl, hJx4⟩
  case done =>
    rintro V ⟨h1, h2, h3, h4, h5, h6⟩ hK
    obtain ⟨t0, t1, t2, t3, t4, t5⟩ := h1.c6
    have c0 := h2.cell (i := 0) rfl
    have c1 := h2.cell (i := 1) rfl
    gi_wp2_with fail
    refine wpIn_wide.2 ?_
    refine wp_region_noPanic ?_
    have ofB : ∀ w', Below V.heap.size V w' → (fun w' => w'.cell? ⟨bt, 0, none⟩ = some (.int .i64 nx) ∧ w'.cell? ⟨bt, 1, none⟩ = some (.string bs) ∧ w'.cell? ⟨bt, 2, none⟩ = some (.slice a l.length c) ∧ w'.cell? ⟨bt, 3, none⟩ = some (.int .i64 cp) ∧ w'.cell? ⟨bt, 4, none⟩ = some (.int .i64 fi) ∧ w'.cell? ⟨bt, 5, none⟩ = some (.bool en) ∧ w'.cell? ⟨bc, 0, none⟩ = some (.int .i64 p) ∧ w'.cell? ⟨bc, 1, none⟩ = some (.string bz) ∧ RunI V.heap.size V w') w' := fun w' hB => ⟨(hB.cell (p := ⟨bt, 0, none⟩) h1.lt).trans t0, (hB.cell (p := ⟨bt, 1, none⟩) h1.lt).trans t1, (hB.cell (p := ⟨bt, 2, none⟩) h1.lt).trans t2, (hB.cell (p := ⟨bt, 3, none⟩) h1.lt).trans t3, (hB.cell (p := ⟨bt, 4, none⟩) h1.lt).trans t4, (hB.cell (p := ⟨bt, 5, none⟩) h1.lt).trans t5, (hB.cell (p := ⟨bc, 0, none⟩) h2.lt).trans c0, (hB.cell (p := ⟨bc, 1, none⟩) h2.lt).trans c1, ⟨hB⟩⟩
    refine wp_region_held_drew (S := (fun w' => w'.cell? ⟨bt, 0, none⟩ = some (.int .i64 nx) ∧ w'.cell? ⟨bt, 1, none⟩ = some (.string bs) ∧ w'.cell? ⟨bt, 2, none⟩ = some (.slice a l.length c) ∧ w'.cell? ⟨bt, 3, none⟩ = some (.int .i64 cp) ∧ w'.cell? ⟨bt, 4, none⟩ = some (.int .i64 fi) ∧ w'.cell? ⟨bt, 5, none⟩ = some (.bool en) ∧ w'.cell? ⟨bc, 0, none⟩ = some (.int .i64 p) ∧ w'.cell? ⟨bc, 1, none⟩ = some (.string bz) ∧ RunI V.heap.size V w')) (by kernel_rfl) ?_ (fun hHeld => ?_)
    focus ((try dsimp only) <;> (first | exact ofB _ ((Below.refl _ _).drew) | exact ofB _ (hHeld.2.2.2.2.2.2.2.2.b.trans (hbx.mono hHeld.2.2.2.2.2.2.2.2.b.size)) | exact ofB _ (hHeld.2.2.2.2.2.2.2.2.b.alloc hHeld.2.2.2.2.2.2.2.2.b.size _) | exact ofB _ (hBc.alloc hBc.size _) | exact ofB _ ((hHeld.2.2.2.2.2.2.2.2.b.setCell (by dsimp only; first | omega | exact Nat.le_refl _) _).setCell (by dsimp only; first | omega | exact Nat.le_refl _) _)))
    refine wpAnyH_take (i := 0) (v := ?_) rfl (by kernel_rfl) (by kernel_rfl) (by kernel_rfl) (fun _ _ _ h => h) (Or.inl ⟨by rfl, ?_⟩) (by assumption) ?_
    rotate_left 1
    focus (intro wS hSw; (try dsimp only at hSw); go_simp; first | done | (constructor <;> with_reducible rfl) | with_reducible rfl)
    (try simp only [Act.put, List.getElem_toArray, List.getElem_cons_zero, List.getElem_cons_succ, List.setIfInBounds_toArray, List.set_cons_zero, List.set_cons_succ])
    refine wpAnyH_take (i := 1) (v := ?_) rfl (by kernel_rfl) (by kernel_rfl) (by kernel_rfl) (fun _ _ _ h => h) (Or.inl ⟨by rfl, ?_⟩) (by assumption) ?_
    rotate_left 1
    focus (intro wS hSw; (try dsimp only at hSw); go_simp; first | done | (constructor <;> with_reducible rfl) | with_reducible rfl)
    (try simp only [Act.put, List.getElem_toArray, List.getElem_cons_zero, List.getElem_cons_succ, List.setIfInBounds_toArray, List.set_cons_zero, List.set_cons_succ])
    refine wpAnyH_take (i := 3) (v := ?_) rfl (by kernel_rfl) (by kernel_rfl) (by kernel_rfl) (fun _ _ _ h => h) (Or.inl ⟨by rfl, ?_⟩) (by assumption) ?_
    rotate_left 1
    focus (intro wS hSw; (try dsimp only at hSw); go_simp; first | done | (constructor <;> with_reducible rfl) | with_reducible rfl)
    (try simp only [Act.put, List.getElem_toArray, List.getElem_cons_zero, List.getElem_cons_succ, List.setIfInBounds_toArray, List.set_cons_zero, List.set_cons_succ])
    refine wpAnyH_ready (rs := [2, 6]) (by kernel_rfl) (by simp) ?_
    refine AllReadyH.cons rfl (fun K hK => ?_) (AllReadyH.cons rfl (fun K hK => ?_) (AllReadyH.nil))
    focus
      (go_simp; refine (behindAll nx bs a _ c cp fi en l _ rfl (h4.later hHeld.2.2.2.2.2.2.2.2.b) hl HP.out rfl).mono ?_; rintro x wa ⟨rfl, hbx⟩; have sza : V.heap.size ≤ wa.heap.size := Nat.le_trans hHeld.2.2.2.2.2.2.2.2.b.size hbx.size)
      refine hK.out _ _ ?_ (fun hHeld2 => ?_)
      focus ((try dsimp only) <;> (first | exact ofB _ ((Below.refl _ _).drew) | exact ofB _ (hHeld.2.2.2.2.2.2.2.2.b.trans (hbx.mono hHeld.2.2.2.2.2.2.2.2.b.size)) | exact ofB _ (hHeld.2.2.2.2.2.2.2.2.b.alloc hHeld.2.2.2.2.2.2.2.2.b.size _) | exact ofB _ (hBc.alloc hBc.size _) | exact ofB _ ((hHeld.2.2.2.2.2.2.2.2.b.setCell (by dsimp only; first | omega | exact Nat.le_refl _) _).setCell (by dsimp only; first | omega | exact Nat.le_refl _) _)))
      clear hK K
      replace hHeld := hHeld2
      clear hHeld2
      (try simp only [Act.put, List.getElem_toArray, List.getElem_cons_zero, List.getElem_cons_succ, List.setIfInBounds_toArray, List.set_cons_zero, List.set_cons_succ])
      refine wpAnyH_ready (rs := [4, 6]) (by kernel_rfl) (by simp) ?_
      refine AllReadyH.cons rfl (fun K hK => ?_) (AllReadyH.cons rfl (fun K hK => ?_) (AllReadyH.nil))
      focus
        (go_simp; refine (limitOfI nx bs a _ c cp fi en _ HN.out hb HC.out HL.out).mono ?_; rintro x wb ⟨rfl, hbx⟩; have szb : V.heap.size ≤ wb.heap.size := Nat.le_trans hHeld.2.2.2.2.2.2.2.2.b.size hbx.size)
        refine hK.out _ _ ?_ (fun hHeld2 => ?_)
        focus ((try dsimp only) <;> (first | exact ofB _ ((Below.refl _ _).drew) | exact ofB _ (hHeld.2.2.2.2.2.2.2.2.b.trans (hbx.mono hHeld.2.2.2.2.2.2.2.2.b.size)) | exact ofB _ (hHeld.2.2.2.2.2.2.2.2.b.alloc hHeld.2.2.2.2.2.2.2.2.b.size _) | exact ofB _ (hBc.alloc hBc.size _) | exact ofB _ ((hHeld.2.2.2.2.2.2.2.2.b.setCell (by dsimp only; first | omega | exact Nat.le_refl _) _).setCell (by dsimp only; first | omega | exact Nat.le_refl _) _)))
        clear hK K
        replace hHeld := hHeld2
        clear hHeld2
        (try simp only [Act.put, List.getElem_toArray, List.getElem_cons_zero, List.getElem_cons_succ, List.setIfInBounds_toArray, List.set_cons_zero, List.set_cons_succ])
        refine wpAnyH_ready (rs := [5, 6]) (by kernel_rfl) (by simp) ?_
        refine AllReadyH.cons rfl (fun K hK => ?_) (AllReadyH.cons rfl (fun K hK => ?_) (AllReadyH.nil))
        focus
          (go_simp; refine (within p bz _ _ _ hp0 hp1 hz).mono ?_; rintro x wc ⟨rfl, hbx⟩; have szc : V.heap.size ≤ wc.heap.size := Nat.le_trans hHeld.2.2.2.2.2.2.2.2.b.size hbx.size; have hBc := hHeld.2.2.2.2.2.2.2.2.b.trans (hbx.mono hHeld.2.2.2.2.2.2.2.2.b.size))
          refine hK.out _ _ ?_ (fun hHeld2 => ?_)
          focus ((try dsimp only) <;> (first | exact ofB _ ((Below.refl _ _).drew) | exact ofB _ (hHeld.2.2.2.2.2.2.2.2.b.trans (hbx.mono hHeld.2.2.2.2.2.2.2.2.b.size)) | exact ofB _ (hHeld.2.2.2.2.2.2.2.2.b.alloc hHeld.2.2.2.2.2.2.2.2.b.size _) | exact ofB _ (hBc.alloc hBc.size _) | exact ofB _ ((hHeld.2.2.2.2.2.2.2.2.b.setCell (by dsimp only; first | omega | exact Nat.le_refl _) _).setCell (by dsimp only; first | omega | exact Nat.le_refl _) _)))
          clear hK K
          replace hHeld := hHeld2
          clear hHeld2
          (try simp only [Act.put, List.getElem_toArray, List.getElem_cons_zero, List.getElem_cons_succ, List.setIfInBounds_toArray, List.set_cons_zero, List.set_cons_succ])
          refine wpAnyH_ready (rs := [6]) (by kernel_rfl) (by simp) ?_
          refine AllReadyH.cons rfl (fun K hK => ?_) AllReadyH.nil
          go_simp
          refine hK.out _ _ ?_ (fun hHeld2 => ?_)
          focus ((try dsimp only) <;> (first | exact ofB _ ((Below.refl _ _).drew) | exact ofB _ (hHeld.2.2.2.2.2.2.2.2.b.trans (hbx.mono hHeld.2.2.2.2.2.2.2.2.b.size)) | exact ofB _ (hHeld.2.2.2.2.2.2.2.2.b.alloc hHeld.2.2.2.2.2.2.2.2.b.size _) | exact ofB _ (hBc.alloc hBc.size _) | exact ofB _ ((hHeld.2.2.2.2.2.2.2.2.b.setCell (by dsimp only; first | omega | exact Nat.le_refl _) _).setCell (by dsimp only; first | omega | exact Nat.le_refl _) _)))
          clear hK K
          replace hHeld := hHeld2
          clear hHeld2
          (try simp only [Act.put, List.getElem_toArray, List.getElem_cons_zero, List.getElem_cons_succ, List.setIfInBounds_toArray, List.set_cons_zero, List.set_cons_succ])
          refine wpAnyH_ready (rs := [7]) (by kernel_rfl) (by simp) ?_
          refine AllReadyH.cons rfl (fun K hK => ?_) AllReadyH.nil
          go_simp
          refine hK.out _ _ ?_ (fun hHeld2 => ?_)
          focus ((try dsimp only) <;> (first | exact ofB _ ((Below.refl _ _).drew) | exact ofB _ (hHeld.2.2.2.2.2.2.2.2.b.trans (hbx.mono hHeld.2.2.2.2.2.2.2.2.b.size)) | exact ofB _ (hHeld.2.2.2.2.2.2.2.2.b.alloc hHeld.2.2.2.2.2.2.2.2.b.size _) | exact ofB _ (hBc.alloc hBc.size _) | exact ofB _ ((hHeld.2.2.2.2.2.2.2.2.b.setCell (by dsimp only; first | omega | exact Nat.le_refl _) _).setCell (by dsimp only; first | omega | exact Nat.le_refl _) _)))
          clear hK K
          replace hHeld := hHeld2
          clear hHeld2
          (try simp only [Act.put, List.getElem_toArray, List.getElem_cons_zero, List.getElem_cons_succ, List.setIfInBounds_toArray, List.set_cons_zero, List.set_cons_succ])
          refine wpAnyH_done (by kernel_rfl) ?_ _
        rotate_left 1
        focus
          go_simp
          refine hK.out _ _ ?_ (fun hHeld2 => ?_)
          focus ((try dsimp only) <;> (first | exact ofB _ ((Below.refl _ _).drew) | exact ofB _ (hHeld.2.2.2.2.2.2.2.2.b.trans (hbx.mono hHeld.2.2.2.2.2.2.2.2.b.size)) | exact ofB _ (hHeld.2.2.2.2.2.2.2.2.b.alloc hHeld.2.2.2.2.2.2.2.2.b.size _) | exact ofB _ (hBc.alloc hBc.size _) | exact ofB _ ((hHeld.2.2.2.2.2.2.2.2.b.setCell (by dsimp only; first | omega | exact Nat.le_refl _) _).setCell (by dsimp only; first | omega | exact Nat.le_refl _) _)))
          clear hK K
          replace hHeld := hHeld2
          clear hHeld2
          (try simp only [Act.put, List.getElem_toArray, List.getElem_cons_zero, List.getElem_cons_succ, List.setIfInBounds_toArray, List.set_cons_zero, List.set_cons_succ])
          refine wpAnyH_ready (rs := [5]) (by kernel_rfl) (by simp) ?_
          refine AllReadyH.cons rfl (fun K hK => ?_) AllReadyH.nil
          (go_simp; refine (within p bz _ _ _ hp0 hp1 hz).mono ?_; rintro x wc ⟨rfl, hbx⟩; have szc : V.heap.size ≤ wc.heap.size := Nat.le_trans hHeld.2.2.2.2.2.2.2.2.b.size hbx.size; have hBc := hHeld.2.2.2.2.2.2.2.2.b.trans (hbx.mono hHeld.2.2.2.2.2.2.2.2.b.size); have bx := (Var.new (T := 69) wb [.int .i64 0, .string ⟨#[]⟩]).later hbx; have b0 := bx.cell (i := 0) rfl; have b1 := bx.cell (i := 1) rfl; have g0 := bx.free 0; have g1 := bx.free 1)
          refine hK.out _ _ ?_ (fun hHeld2 => ?_)
          focus ((try dsimp only) <;> (first | exact ofB _ ((Below.refl _ _).drew) | exact ofB _ (hHeld.2.2.2.2.2.2.2.2.b.trans (hbx.mono hHeld.2.2.2.2.2.2.2.2.b.size)) | exact ofB _ (hHeld.2.2.2.2.2.2.2.2.b.alloc hHeld.2.2.2.2.2.2.2.2.b.size _) | exact ofB _ (hBc.alloc hBc.size _) | exact ofB _ ((hHeld.2.2.2.2.2.2.2.2.b.setCell (by dsimp only; first | omega | exact Nat.le_refl _) _).setCell (by dsimp only; first | omega | exact Nat.le_refl _) _)))
          clear hK K
          replace hHeld := hHeld2
          clear hHeld2
          (try simp only [Act.put, List.getElem_toArray, List.getElem_cons_zero, List.getElem_cons_succ, List.setIfInBounds_toArray, List.set_cons_zero, List.set_cons_succ])
          refine wpAnyH_ready (rs := [7]) (by kernel_rfl) (by simp) ?_
          refine AllReadyH.cons rfl (fun K hK => ?_) AllReadyH.nil
          go_simp
          refine hK.out _ _ ?_ (fun hHeld2 => ?_)
          focus ((try dsimp only) <;> (first | exact ofB _ ((Below.refl _ _).drew) | exact ofB _ (hHeld.2.2.2.2.2.2.2.2.b.trans (hbx.mono hHeld.2.2.2.2.2.2.2.2.b.size)) | exact ofB _ (hHeld.2.2.2.2.2.2.2.2.b.alloc hHeld.2.2.2.2.2.2.2.2.b.size _) | exact ofB _ (hBc.alloc hBc.size _) | exact ofB _ ((hHeld.2.2.2.2.2.2.2.2.b.setCell (by dsimp only; first | omega | exact Nat.le_refl _) _).setCell (by dsimp only; first | omega | exact Nat.le_refl _) _)))
          clear hK K
          replace hHeld := hHeld2
          clear hHeld2
          (try simp only [Act.put, List.getElem_toArray, List.getElem_cons_zero, List.getElem_cons_succ, List.setIfInBounds_toArray, List.set_cons_zero, List.set_cons_succ])
          refine wpAnyH_done (by kernel_rfl) ?_ _
        rotate_left 1
      rotate_left 2
      focus
        go_simp
        refine hK.out _ _ ?_ (fun hHeld2 => ?_)
        focus ((try dsimp only) <;> (first | exact ofB _ ((Below.refl _ _).drew) | exact ofB _ (hHeld.2.2.2.2.2.2.2.2.b.trans (hbx.mono hHeld.2.2.2.2.2.2.2.2.b.size)) | exact ofB _ (hHeld.2.2.2.2.2.2.2.2.b.alloc hHeld.2.2.2.2.2.2.2.2.b.size _) | exact ofB _ (hBc.alloc hBc.size _) | exact ofB _ ((hHeld.2.2.2.2.2.2.2.2.b.setCell (by dsimp only; first | omega | exact Nat.le_refl _) _).setCell (by dsimp only; first | omega | exact Nat.le_refl _) _)))
        clear hK K
        replace hHeld := hHeld2
        clear hHeld2
        (try simp only [Act.put, List.getElem_toArray, List.getElem_cons_zero, List.getElem_cons_succ, List.setIfInBounds_toArray, List.set_cons_zero, List.set_cons_succ])
        refine wpAnyH_ready (rs := [4]) (by kernel_rfl) (by simp) ?_
        refine AllReadyH.cons rfl (fun K hK => ?_) AllReadyH.nil
        (go_simp; refine (limitOfI nx bs a _ c cp fi en _ HN.out hb HC.out HL.out).mono ?_; rintro x wb ⟨rfl, hbx⟩; have szb : V.heap.size ≤ wb.heap.size := Nat.le_trans hHeld.2.2.2.2.2.2.2.2.b.size hbx.size; have bx := (Var.new (T := 69) wa [.int .i64 0, .string ⟨#[]⟩]).later hbx)
        refine hK.out _ _ ?_ (fun hHeld2 => ?_)
        focus ((try dsimp only) <;> (first | exact ofB _ ((Below.refl _ _).drew) | exact ofB _ (hHeld.2.2.2.2.2.2.2.2.b.trans (hbx.mono hHeld.2.2.2.2.2.2.2.2.b.size)) | exact ofB _ (hHeld.2.2.2.2.2.2.2.2.b.alloc hHeld.2.2.2.2.2.2.2.2.b.size _) | exact ofB _ (hBc.alloc hBc.size _) | exact ofB _ ((hHeld.2.2.2.2.2.2.2.2.b.setCell (by dsimp only; first | omega | exact Nat.le_refl _) _).setCell (by dsimp only; first | omega | exact Nat.le_refl _) _)))
        clear hK K
        replace hHeld := hHeld2
        clear hHeld2
        (try simp only [Act.put, List.getElem_toArray, List.getElem_cons_zero, List.getElem_cons_succ, List.setIfInBounds_toArray, List.set_cons_zero, List.set_cons_succ])
        refine wpAnyH_ready (rs := [5]) (by kernel_rfl) (by simp) ?_
        refine AllReadyH.cons rfl (fun K hK => ?_) AllReadyH.nil
        (go_simp; refine (within p bz _ _ _ hp0 hp1 hz).mono ?_; rintro x wc ⟨rfl, hbx⟩; have szc : V.heap.size ≤ wc.heap.size := Nat.le_trans hHeld.2.2.2.2.2.2.2.2.b.size hbx.size; have hBc := hHeld.2.2.2.2.2.2.2.2.b.trans (hbx.mono hHeld.2.2.2.2.2.2.2.2.b.size); have bx := bx.later hbx; have b0 := bx.cell (i := 0) rfl; have b1 := bx.cell (i := 1) rfl; have g0 := bx.free 0; have g1 := bx.free 1)
        refine hK.out _ _ ?_ (fun hHeld2 => ?_)
        focus ((try dsimp only) <;> (first | exact ofB _ ((Below.refl _ _).drew) | exact ofB _ (hHeld.2.2.2.2.2.2.2.2.b.trans (hbx.mono hHeld.2.2.2.2.2.2.2.2.b.size)) | exact ofB _ (hHeld.2.2.2.2.2.2.2.2.b.alloc hHeld.2.2.2.2.2.2.2.2.b.size _) | exact ofB _ (hBc.alloc hBc.size _) | exact ofB _ ((hHeld.2.2.2.2.2.2.2.2.b.setCell (by dsimp only; first | omega | exact Nat.le_refl _) _).setCell (by dsimp only; first | omega | exact Nat.le_refl _) _)))
        clear hK K
        replace hHeld := hHeld2
        clear hHeld2
        (try simp only [Act.put, List.getElem_toArray, List.getElem_cons_zero, List.getElem_cons_succ, List.setIfInBounds_toArray, List.set_cons_zero, List.set_cons_succ])
        refine wpAnyH_ready (rs := [7]) (by kernel_rfl) (by simp) ?_
        refine AllReadyH.cons rfl (fun K hK => ?_) AllReadyH.nil
        go_simp
        refine hK.out _ _ ?_ (fun hHeld2 => ?_)
        focus ((try dsimp only) <;> (first | exact ofB _ ((Below.refl _ _).drew) | exact ofB _ (hHeld.2.2.2.2.2.2.2.2.b.trans (hbx.mono hHeld.2.2.2.2.2.2.2.2.b.size)) | exact ofB _ (hHeld.2.2.2.2.2.2.2.2.b.alloc hHeld.2.2.2.2.2.2.2.2.b.size _) | exact ofB _ (hBc.alloc hBc.size _) | exact ofB _ ((hHeld.2.2.2.2.2.2.2.2.b.setCell (by dsimp only; first | omega | exact Nat.le_refl _) _).setCell (by dsimp only; first | omega | exact Nat.le_refl _) _)))
        clear hK K
        replace hHeld := hHeld2
        clear hHeld2
        (try simp only [Act.put, List.getElem_toArray, List.getElem_cons_zero, List.getElem_cons_succ, List.setIfInBounds_toArray, List.set_cons_zero, List.set_cons_succ])
        refine wpAnyH_done (by kernel_rfl) ?_ _
      rotate_left 1
    rotate_left 3
    focus
      go_simp
      refine hK.out _ _ ?_ (fun hHeld2 => ?_)
      focus ((try dsimp only) <;> (first | exact ofB _ ((Below.refl _ _).drew) | exact ofB _ (hHeld.2.2.2.2.2.2.2.2.b.trans (hbx.mono hHeld.2.2.2.2.2.2.2.2.b.size)) | exact ofB _ (hHeld.2.2.2.2.2.2.2.2.b.alloc hHeld.2.2.2.2.2.2.2.2.b.size _) | exact ofB _ (hBc.alloc hBc.size _) | exact ofB _ ((hHeld.2.2.2.2.2.2.2.2.b.setCell (by dsimp only; first | omega | exact Nat.le_refl _) _).setCell (by dsimp only; first | omega | exact Nat.le_refl _) _)))
      clear hK K
      replace hHeld := hHeld2
      clear hHeld2
      (try simp only [Act.put, List.getElem_toArray, List.getElem_cons_zero, List.getElem_cons_succ, List.setIfInBounds_toArray, List.set_cons_zero, List.set_cons_succ])
      refine wpAnyH_ready (rs := [2]) (by kernel_rfl) (by simp) ?_
      refine AllReadyH.cons rfl (fun K hK => ?_) AllReadyH.nil
      (go_simp; refine (behindAll nx bs a _ c cp fi en l _ rfl (h4.later hHeld.2.2.2.2.2.2.2.2.b) hl HP.out rfl).mono ?_; rintro x wa ⟨rfl, hbx⟩; have sza : V.heap.size ≤ wa.heap.size := Nat.le_trans hHeld.2.2.2.2.2.2.2.2.b.size hbx.size; have bx : Var 69 wa V.heap.size [.int .i64 0, .string ⟨#[]⟩] := (Var.new (T := 69) V.drew [.int .i64 0, .string ⟨#[]⟩]).later hbx)
      refine hK.out _ _ ?_ (fun hHeld2 => ?_)
      focus ((try dsimp only) <;> (first | exact ofB _ ((Below.refl _ _).drew) | exact ofB _ (hHeld.2.2.2.2.2.2.2.2.b.trans (hbx.mono hHeld.2.2.2.2.2.2.2.2.b.size)) | exact ofB _ (hHeld.2.2.2.2.2.2.2.2.b.alloc hHeld.2.2.2.2.2.2.2.2.b.size _) | exact ofB _ (hBc.alloc hBc.size _) | exact ofB _ ((hHeld.2.2.2.2.2.2.2.2.b.setCell (by dsimp only; first | omega | exact Nat.le_refl _) _).setCell (by dsimp only; first | omega | exact Nat.le_refl _) _)))
      clear hK K
      replace hHeld := hHeld2
      clear hHeld2
      (try simp only [Act.put, List.getElem_toArray, List.getElem_cons_zero, List.getElem_cons_succ, List.setIfInBounds_toArray, List.set_cons_zero, List.set_cons_succ])
      refine wpAnyH_ready (rs := [4]) (by kernel_rfl) (by simp) ?_
      refine AllReadyH.cons rfl (fun K hK => ?_) AllReadyH.nil
      (go_simp; refine (limitOfI nx bs a _ c cp fi en _ HN.out hb HC.out HL.out).mono ?_; rintro x wb ⟨rfl, hbx⟩; have szb : V.heap.size ≤ wb.heap.size := Nat.le_trans hHeld.2.2.2.2.2.2.2.2.b.size hbx.size; have bx := bx.later hbx)
      refine hK.out _ _ ?_ (fun hHeld2 => ?_)
      focus ((try dsimp only) <;> (first | exact ofB _ ((Below.refl _ _).drew) | exact ofB _ (hHeld.2.2.2.2.2.2.2.2.b.trans (hbx.mono hHeld.2.2.2.2.2.2.2.2.b.size)) | exact ofB _ (hHeld.2.2.2.2.2.2.2.2.b.alloc hHeld.2.2.2.2.2.2.2.2.b.size _) | exact ofB _ (hBc.alloc hBc.size _) | exact ofB _ ((hHeld.2.2.2.2.2.2.2.2.b.setCell (by dsimp only; first | omega | exact Nat.le_refl _) _).setCell (by dsimp only; first | omega | exact Nat.le_refl _) _)))
      clear hK K
      replace hHeld := hHeld2
      clear hHeld2
      (try simp only [Act.put, List.getElem_toArray, List.getElem_cons_zero, List.getElem_cons_succ, List.setIfInBounds_toArray, List.set_cons_zero, List.set_cons_succ])
      refine wpAnyH_ready (rs := [5]) (by kernel_rfl) (by simp) ?_
      refine AllReadyH.cons rfl (fun K hK => ?_) AllReadyH.nil
      (go_simp; refine (within p bz _ _ _ hp0 hp1 hz).mono ?_; rintro x wc ⟨rfl, hbx⟩; have szc : V.heap.size ≤ wc.heap.size := Nat.le_trans hHeld.2.2.2.2.2.2.2.2.b.size hbx.size; have hBc := hHeld.2.2.2.2.2.2.2.2.b.trans (hbx.mono hHeld.2.2.2.2.2.2.2.2.b.size); have bx := bx.later hbx; have b0 := bx.cell (i := 0) rfl; have b1 := bx.cell (i := 1) rfl; have g0 := bx.free 0; have g1 := bx.free 1)
      refine hK.out _ _ ?_ (fun hHeld2 => ?_)
      focus ((try dsimp only) <;> (first | exact ofB _ ((Below.refl _ _).drew) | exact ofB _ (hHeld.2.2.2.2.2.2.2.2.b.trans (hbx.mono hHeld.2.2.2.2.2.2.2.2.b.size)) | exact ofB _ (hHeld.2.2.2.2.2.2.2.2.b.alloc hHeld.2.2.2.2.2.2.2.2.b.size _) | exact ofB _ (hBc.alloc hBc.size _) | exact ofB _ ((hHeld.2.2.2.2.2.2.2.2.b.setCell (by dsimp only; first | omega | exact Nat.le_refl _) _).setCell (by dsimp only; first | omega | exact Nat.le_refl _) _)))
      clear hK K
      replace hHeld := hHeld2
      clear hHeld2
      (try simp only [Act.put, List.getElem_toArray, List.getElem_cons_zero, List.getElem_cons_succ, List.setIfInBounds_toArray, List.set_cons_zero, List.set_cons_succ])
      refine wpAnyH_ready (rs := [7]) (by kernel_rfl) (by simp) ?_
      refine AllReadyH.cons rfl (fun K hK => ?_) AllReadyH.nil
      go_simp
      refine hK.out _ _ ?_ (fun hHeld2 => ?_)
      focus ((try dsimp only) <;> (first | exact ofB _ ((Below.refl _ _).drew) | exact ofB _ (hHeld.2.2.2.2.2.2.2.2.b.trans (hbx.mono hHeld.2.2.2.2.2.2.2.2.b.size)) | exact ofB _ (hHeld.2.2.2.2.2.2.2.2.b.alloc hHeld.2.2.2.2.2.2.2.2.b.size _) | exact ofB _ (hBc.alloc hBc.size _) | exact ofB _ ((hHeld.2.2.2.2.2.2.2.2.b.setCell (by dsimp only; first | omega | exact Nat.le_refl _) _).setCell (by dsimp only; first | omega | exact Nat.le_refl _) _)))
      clear hK K
      replace hHeld := hHeld2
      clear hHeld2
      (try simp only [Act.put, List.getElem_toArray, List.getElem_cons_zero, List.getElem_cons_succ, List.setIfInBounds_toArray, List.set_cons_zero, List.set_cons_succ])
      refine wpAnyH_done (by kernel_rfl) ?_ _
    rotate_left 1
    focus
      refine NoPanic.normal ?_
      have BX : Var 69 (wc.alloc (.cells #[.int .i64 (withinP p bz (lastEnd nx l) lim).1, .string (withinP p bz (lastEnd nx l) lim).2] 69)) wc.heap.size [.int .i64 (withinP p bz (lastEnd nx l) lim).1, .string (withinP p bz (lastEnd nx l) lim).2] := Var.new _ _
      have BU : Below V.heap.size V (wc.alloc (.cells #[.int .i64 (withinP p bz (lastEnd nx l) lim).1, .string (withinP p bz (lastEnd nx l) lim).2] 69)) := hHeld.2.2.2.2.2.2.2.2.b
      clear hHeld
      generalize (wc.alloc (.cells #[.int .i64 (withinP p bz (lastEnd nx l) lim).1, .string (withinP p bz (lastEnd nx l) lim).2] 69)) = U at BX BU ⊢
      generalize wc.heap.size = kk at BX ⊢
    rotate_left 1
    focus
      refine NoPanic.normal ?_
      have BX : Var 69 ((wc.setCell ⟨wb.heap.size, 0, none⟩ (.int .i64 (withinP p bz (lastEnd nx l) lim).1)).setCell ⟨wb.heap.size, 1, none⟩ (.string (withinP p bz (lastEnd nx l) lim).2)) wb.heap.size [.int .i64 (withinP p bz (lastEnd nx l) lim).1, .string (withinP p bz (lastEnd nx l) lim).2] := (bx.set 0 _).set 1 _
      have BU : Below V.heap.size V ((wc.setCell ⟨wb.heap.size, 0, none⟩ (.int .i64 (withinP p bz (lastEnd nx l) lim).1)).setCell ⟨wb.heap.size, 1, none⟩ (.string (withinP p bz (lastEnd nx l) lim).2)) := hHeld.2.2.2.2.2.2.2.2.b
      clear hHeld
      generalize ((wc.setCell ⟨wb.heap.size, 0, none⟩ (.int .i64 (withinP p bz (lastEnd nx l) lim).1)).setCell ⟨wb.heap.size, 1, none⟩ (.string (withinP p bz (lastEnd nx l) lim).2)) = U at BX BU ⊢
      generalize wb.heap.size = kk at BX ⊢
    rotate_left 1
    focus
      refine NoPanic.normal ?_
      have BX : Var 69 ((wc.setCell ⟨wa.heap.size, 0, none⟩ (.int .i64 (withinP p bz (lastEnd nx l) lim).1)).setCell ⟨wa.heap.size, 1, none⟩ (.string (withinP p bz (lastEnd nx l) lim).2)) wa.heap.size [.int .i64 (withinP p bz (lastEnd nx l) lim).1, .string (withinP p bz (lastEnd nx l) lim).2] := (bx.set 0 _).set 1 _
      have BU : Below V.heap.size V ((wc.setCell ⟨wa.heap.size, 0, none⟩ (.int .i64 (withinP p bz (lastEnd nx l) lim).1)).setCell ⟨wa.heap.size, 1, none⟩ (.string (withinP p bz (lastEnd nx l) lim).2)) := hHeld.2.2.2.2.2.2.2.2.b
      clear hHeld
      generalize ((wc.setCell ⟨wa.heap.size, 0, none⟩ (.int .i64 (withinP p bz (lastEnd nx l) lim).1)).setCell ⟨wa.heap.size, 1, none⟩ (.string (withinP p bz (lastEnd nx l) lim).2)) = U at BX BU ⊢
      generalize wa.heap.size = kk at BX ⊢
    rotate_left 1
    focus
      refine NoPanic.normal ?_
      have BX : Var 69 ((wc.setCell ⟨V.heap.size, 0, none⟩ (.int .i64 (withinP p bz (lastEnd nx l) lim).1)).setCell ⟨V.heap.size, 1, none⟩ (.string (withinP p bz (lastEnd nx l) lim).2)) V.heap.size [.int .i64 (withinP p bz (lastEnd nx l) lim).1, .string (withinP p bz (lastEnd nx l) lim).2] := (bx.set 0 _).set 1 _
      have BU : Below V.heap.size V ((wc.setCell ⟨V.heap.size, 0, none⟩ (.int .i64 (withinP p bz (lastEnd nx l) lim).1)).setCell ⟨V.heap.size, 1, none⟩ (.string (withinP p bz (lastEnd nx l) lim).2)) := hHeld.2.2.2.2.2.2.2.2.b
      clear hHeld
      generalize ((wc.setCell ⟨V.heap.size, 0, none⟩ (.int .i64 (withinP p bz (lastEnd nx l) lim).1)).setCell ⟨V.heap.size, 1, none⟩ (.string (withinP p bz (lastEnd nx l) lim).2)) = U at BX BU ⊢
      generalize V.heap.size = kk at BX ⊢
    rotate_left 1
    all_goals
      have JU := stJ _ _ _ h5 (Chg.later BU)
      have KU : U.heap[W3.heap.size]? = some (.deferred (some [])) := (BU.block _ (lt_some hK)).trans hK
      have y0 := (h3.later BU).cell (i := 0) rfl
      have sVU := BU.size
      generalize hr : withinP p bz (lastEnd nx l) lim = r at BX ⊢
      obtain ⟨ra, rb⟩ := r
      have HR : Hid _ := hr
      dsimp only at BX ⊢
      have x0 := BX.cell (i := 0) rfl
      have x1 := BX.cell (i := 1) rfl
      rw [S3] at KU
      clear BX BU h1 h2 h3 h4 h5 hr ofB t0 t1 t2 t3 t4 t5 c0 c1
      by_cases hrb : rb.toList = []
      · have HLn : Hid ((runsL nx lim l p bz).length = (runsAt nx l p bz (pairs nx l).length).length) := by show _ = _; rw [runs_all, runsL, HR.out]; simp [ne, hrb]
        gi_wp2
        exact end_marks (.tuple #[]) KU (results_none rfl _ _ _) ⟨⟨_, rfl⟩, .inl (by rw [HLn.out]; exact stJ _ _ _ JU (Chg.put _ KU ⟨by omega, rfl⟩))⟩
      · have hne : ne (withinP p bz (lastEnd nx l) lim) = true := by rw [HR.out]; simp [ne, hrb]
        have HLn : Hid ((runsL nx lim l p bz).length = (runsAt nx l p bz (pairs nx l).length).length + 1) := by show _ = _; rw [runs_all, runsL, List.filter_cons_of_pos hne]; simp
        obtain ⟨fn, tmps, assign, body, hy, hRd⟩ := HY.out _ (ra, rb) _ (by rw [← HR.out]; exact runs_last hne) JU
        dsimp only [encR] at hy
        have hie : rb.toList.isEmpty = false := by simp [hrb]
        gi_wp2_with fail
        refine ⟨rfl, hRd.mono ?_⟩
        clear hRd hy
        rintro e V4 (⟨rfl, hJ4, hk4⟩ | ⟨rfl, hJx4, hk4⟩)
        all_goals
          have K4 := hk4.same _ _ KU (hnewo _ _ (by have := sW.out; omega) rfl)
          gi_wp2
        · exact end_marks (.tuple #[]) K4 (results_none rfl _ _ _) ⟨⟨_, rfl⟩, .inl (by rw [HLn.out]; exact stJ _ _ _ hJ4 (Chg.put _ K4 ⟨by omega, rfl⟩))⟩
        · exact end_marks (.tuple #[]) K4 (results_none rfl _ _ _) ⟨⟨_, rfl⟩, .inr (stJx _ _ hJx4 (Chg.put _ K4 ⟨by omega, rfl⟩))⟩
  case stop =>
    rintro c V ⟨rfl, h2⟩ hK
    gi_wp2
    exact ret_marks (.tuple #[]) hK (results_none rfl _ _ _) ⟨⟨_, rfl⟩, .inr (stJx _ _ h2 (Chg.put _ hK ⟨by omega, rfl⟩))⟩

end Go.Proofs.YtjnkjeajkmgcmaaGreat.Tak

namespace Go.Proofs.YtjnkjeajkmgcmaaGreat.Rng
open Go.RowKit Go.Proofs.YtjnkjeajkmgcmaaGreat.RowG
set_option linter.unusedVariables false
set_option linter.unusedSimpArgs false

variable {α : Type} {E : El α}
theorem std_own {T : TypeId} {b D : Nat} {a : Option Addr} {c : Nat} {l : List α} {A B : World} (h : Std b A B) (ho : E.Own T A D a c l) : E.Own T B D a c l := by
  refine ho.same (fun x hx => ?_)
  unfold El.Own at ho
  rcases ho.2 with ⟨hv, _⟩ | ⟨g, cap, cur, hv, _, hgb, _⟩
  · simp only [Value.slice.injEq] at hv
    rw [hv.1] at hx
    cases hx
  · simp only [Value.slice.injEq] at hv
    rw [hv.1] at hx
    cases hx
    rw [h.same _ _ hgb (std_no _ rfl), hgb]
theorem own_ne {T e : TypeId} {w : World} {B k : Nat} {a : Option Addr} {c : Nat} {l : List α} {vs : List Value} (hte : T ≠ e) (o : E.Own e w B a c l) (v : Var T w k vs) : ∀ x, a = some x → x.block ≠ k := by
  intro x hx hk
  subst hx hk
  unfold El.Own at o
  rcases o.2 with ⟨h1, _⟩ | ⟨g, cap, cur, h1, _, hgb, _⟩
  · cases h1
  · cases h1
    unfold Var at v
    rw [hgb] at v
    cases v
    exact hte rfl
def Big (B : Nat) (T : TypeId) (n : Nat) (k : Nat) (o : Obj) : Prop := B ≤ k ∧ ∃ vs, o = .cells vs T (0, 0) ∧ 2 * n ≤ vs.size
theorem wp_one {P : Program} {tS T : TypeId} {bytes : Nat} (ty : Typ P tS T E bytes) (hby : bytes ≤ 1024) {w : World} {K : Act → World → Prop} {o : Oper} {a : Act} {Q : Exit → Act → World → Prop} (hgd : o.guard = none) (s x : Operand)
    (ho : o.op = .call { callee := .builtin .append, args := #[s, x], argTypes := #[tS, tS] })
    (B : Nat) (ao : Option Addr) (c n : Nat) (l : List α) (hn : n = l.length) (hs : a.eval s = .slice ao n c) (hown : E.Own T w B ao c l) (hB : B ≤ w.heap.size) (hc0 : l = [] → c = 0)
    (ad : Addr) (y : α) (hx : a.eval x = .slice (some ad) 1 1) (hsp : E.Lies w (some ad) [y]) (hl : l.length + 1 ≤ 4194304)
    (h : ∀ a' c' w', E.Own T w' B a' c' (l ++ [y]) → Chg (Big B T E.size) w w' → K (a.put o.dst (.slice a' (n + 1) c')) w') : o.wp P a w K Q := by
  by_cases hf : c < n + 1
  · subst hn
    obtain ⟨hu, i, z, hi, hz0, hz1, hz2, hz3⟩ := ty
    have e := step_append_grows (P := P) (ops := #[]) (w := w) (K := K) (Q := Q) (E := True) hgd s x tS ho T i z E.size bytes hu hi hz0 hz1 hz2 hz3 E.pos ao l.length c (E.vals l) hs (fun q => by
      rcases hown.form with ⟨_, h1, h2⟩ | ⟨g, h1, _⟩
      · exact ⟨by rw [h2]; rfl, h1⟩
      · rw [q] at h1; cases h1) (E.vals_len l) (fun b hb => hown.lies.src hb) ad 1 1 (E.vals [y]) hx (by rw [E.vals_len]; rfl) (hsp.src rfl) (E.vals_cells [y]) hf (by unfold maxLen; omega) (by have : (l.length + 1) * bytes ≤ 4194304 * 1024 := Nat.mul_le_mul hl hby; omega) ?_
    · rw [if_pos (by simp [Region.wanted, hgd])] at e
      exact e
    · intro v' w' h1 h2
      rcases h1.2 with ⟨hv, q⟩ | ⟨g', cap', cur, hv, hr⟩
      · omega
      · subst hv
        refine (h _ cap' w' ?_ (Chg.grown h2 (fun g o e _ => by cases e)))
        refine El.Own.mono (B' := w.heap.size) ?_ hB
        unfold El.Own
        rw [List.length_append, E.vals_append]
        exact h1
  · refine wp_app ty hby s x ho B ao c n l [y] hn hs hown hB (some ad) 1 1 rfl hx hsp (fun e => by cases e) (by simpa using hl) ?_
    intro a' c' w' o' g'
    refine h a' c' w' o' (Chg.grown g' ?_)
    intro g ob hg hob
    unfold El.Own at hown
    rcases hown.2 with ⟨hv, _⟩ | ⟨g2, cap2, cur, hv, hb, hgb, _, _, hcs, _⟩
    · simp only [Value.slice.injEq] at hv
      rw [hv.1] at hg
      simp [blk] at hg
    · simp only [Value.slice.injEq] at hv
      obtain ⟨rfl, _, rfl⟩ := hv
      simp [blk] at hg
      subst hg
      rw [hgb] at hob
      cases hob
      refine ⟨hb, cur, rfl, ?_⟩
      have hl1 : 1 ≤ l.length := by
        cases l with
        | nil => have := hc0 rfl; omega
        | cons y r => simp
      have h2 : 2 ≤ c := by omega
      rw [hcs]
      exact Nat.mul_le_mul_right _ h2
theorem wpList_one {P : Program} {tS T : TypeId} {bytes : Nat} (ty : Typ P tS T E bytes) (hby : bytes ≤ 1024) {w : World} {ops : Array Oper} {rest : List Oper} {o : Oper} {a : Act} {Q : Exit → Act → World → Prop} (hgd : o.guard = none) (s x : Operand)
    (ho : o.op = .call { callee := .builtin .append, args := #[s, x], argTypes := #[tS, tS] })
    (B : Nat) (ao : Option Addr) (c n : Nat) (l : List α) (hn : n = l.length) (hs : a.eval s = .slice ao n c) (hown : E.Own T w B ao c l) (hB : B ≤ w.heap.size) (hc0 : l = [] → c = 0)
    (ad : Addr) (y : α) (hx : a.eval x = .slice (some ad) 1 1) (hsp : E.Lies w (some ad) [y]) (hl : l.length + 1 ≤ 4194304)
    (h : ∀ a' c' w', E.Own T w' B a' c' (l ++ [y]) → Chg (Big B T E.size) w w' → wpList P ops Q rest (a.put o.dst (.slice a' (n + 1) c')) w') : wpList P ops Q (o :: rest) a w :=
  wpList_plain hgd fun _ hK => wp_one ty hby hgd s x ho B ao c n l hn hs hown hB hc0 ad y hx hsp hl fun a' c' w' h1 h2 => hK _ _ (h a' c' w' h1 h2)
theorem wpListIn_one {P : Program} {tS T : TypeId} {bytes : Nat} (ty : Typ P tS T E bytes) (hby : bytes ≤ 1024) {w : World} {ops : Array Oper} {rest : List Oper} {o : Oper} {a : Act} {Q : Exit → Act → World → Prop} {r m : Nat} (hgd : o.guard = none) (s x : Operand)
    (ho : o.op = .call { callee := .builtin .append, args := #[s, x], argTypes := #[tS, tS] })
    (B : Nat) (ao : Option Addr) (c n : Nat) (l : List α) (hn : n = l.length) (hs : a.eval s = .slice ao n c) (hown : E.Own T w B ao c l) (hB : B ≤ w.heap.size) (hc0 : l = [] → c = 0)
    (ad : Addr) (y : α) (hx : a.eval x = .slice (some ad) 1 1) (hsp : E.Lies w (some ad) [y]) (hl : l.length + 1 ≤ 4194304)
    (h : ∀ a' c' w', E.Own T w' B a' c' (l ++ [y]) → Chg (Big B T E.size) w w' → wpListIn (Fence.wide.inRound r) m P ops Q rest (a.put o.dst (.slice a' (n + 1) c')) w') : wpListIn (Fence.wide.inRound r) m P ops Q (o :: rest) a w := by
  unfold wpListIn
  rw [if_pos (by simp [Region.wanted, hgd])]
  exact op_round (by simp [noDefer, ho]) (wp_one ty hby hgd s x ho B ao c n l hn hs hown hB hc0 ad y hx hsp hl h)

end Go.Proofs.YtjnkjeajkmgcmaaGreat.Rng

namespace Go.Proofs.YtjnkjeajkmgcmaaGreat.Tak
open Go.RowKit RowG Rng
set_option linter.unusedVariables false
set_option linter.unusedSimpArgs false
attribute [local go_sem] Oper.semAt_some

theorem runs_len (nx lim : Int) (l : List Pt) (p : Int) (bz : ByteArray) : (runsL nx lim l p bz).length ≤ l.length + 1 := by
  unfold runsL
  rw [List.length_append]
  have h1 := List.length_filter_le ne ((pairs nx l).map (runX p bz))
  have h2 := List.length_filter_le ne [withinP p bz (lastEnd nx l) lim]
  rw [List.length_map, pairs_len] at h1
  simp only [List.length_singleton] at h2
  omega

def SeqI (w : World) (xs : List Pt) (i : Nat) (V : World) : Prop := ∃ (a' : Option Addr) (c' : Nat), Var 26 V w.heap.size [.slice a' (xs.take i).length c'] ∧ partE.Own 69 V w.heap.size a' c' (xs.take i) ∧ (xs.take i = [] → c' = 0) ∧ Below w.heap.size w V

set_option maxRecDepth 100000 in
set_option maxHeartbeats 4000000 in
theorem appendSeq (nx : Int) (bs : ByteArray) (a : Option Addr) (c : Nat) (cp fi : Int) (en : Bool) (l : List Pt) (p : Int) (bz : ByteArray) (bt bc : Nat) (w : World)
    (hbt : Var 28 w bt [.int .i64 nx, .string bs, .slice a l.length c, .int .i64 cp, .int .i64 fi, .bool en]) (hbc : Var 69 w bc [.int .i64 p, .string bz]) (hL : partE.Lies w a l) (hl : l.length ≤ 2097152) (hp : Bd l)
    (hnx : 0 ≤ nx ∧ nx ≤ 1152921504606846976) (hb : bs.size ≤ 1152921504606846976) (hc : 0 ≤ cp ∧ cp ≤ 1152921504606846976) (hp0 : 0 ≤ p) (hp1 : p ≤ 1000000000) (hz : bz.size ≤ 40) {lim : Int} (hlim : limT nx bs cp = lim) :
    Calls Tryz.prog 95 #[.slice none 0 0, .func (.func 96) #[] #[.pointer (some ⟨bt, 0, none⟩), .pointer (some ⟨bc, 0, none⟩)]] w fun x w' => ∃ a' c', x = .returned (.slice a' (runsL nx lim l p bz).length c') ∧ partE.Own 69 w' w.heap.size a' c' (runsL nx lim l p bz) ∧ Below w.heap.size w w' := by
  have B1 : Below w.heap.size w (w.alloc (.cells #[.slice none 0 0] 26)) := (Below.refl _ _).alloc (Nat.le_refl _) _
  have V0 : Var 26 (w.alloc (.cells #[.slice none 0 0] 26)) w.heap.size [.slice none 0 0] := Var.new _ _
  have S1 : (w.alloc (.cells #[.slice none 0 0] 26)).heap.size = w.heap.size + 1 := by simp
  have HLT : Hid (l ≠ [] → ∀ x, a = some x → x.block < w.heap.size) := lies_lt hL
  have hbtl := hbt.lt
  have hbcl := hbc.lt
  have HG : Hid (Gives Tryz.prog 96 #[.pointer (some ⟨bt, 0, none⟩), .pointer (some ⟨bc, 0, none⟩)] encR (runsL nx lim l p bz) (fun k o => (k = w.heap.size ∧ o.isCells = true ∨ Big w.heap.size 69 2 k o) ∨ (k = (w.alloc (.cells #[.slice none 0 0] 26)).heap.size + 1 ∧ o.isCells = false)) (w.alloc (.cells #[.slice none 0 0] 26))) := by
    refine runsOf1 nx bs a c cp fi en l p bz bt bc _ (w.alloc (.cells #[.slice none 0 0] 26)) (hbt.later B1) (hbc.later B1) (hL.later B1) hl hp hnx hb hc hp0 hp1 hz hlim ?_ ?_ ?_ ?_ ?_ ?_
    · rintro hne x hx o ((⟨hm, _⟩ | ⟨hm, _⟩) | ⟨hm, _⟩)
      all_goals (have := HLT.out hne x hx; (try simp at hm); omega)
    · rintro o ((⟨hm, _⟩ | ⟨hm, _⟩) | ⟨hm, _⟩) <;> ((try simp at hm); omega)
    · rintro o ((⟨hm, _⟩ | ⟨hm, _⟩) | ⟨hm, _⟩) <;> ((try simp at hm); omega)
    · rintro k v0 v1 hk ((⟨hm, _⟩ | ⟨_, vs, hm, hs⟩) | ⟨_, hm⟩)
      · simp at hk; omega
      · cases hm; simp at hs
      · cases hm
    · rintro k v hk ((⟨hm, _⟩ | ⟨_, vs, hm, hs⟩) | ⟨_, hm⟩)
      · simp at hk; omega
      · cases hm
      · cases hm
    · rintro k o hk ho ((⟨hm, _⟩ | ⟨_, vs, hm, hs⟩) | ⟨hm, _⟩)
      · simp at hk; omega
      · rw [hm] at ho; cases ho
      · simp at hk hm; omega
  have HRL := runs_len nx lim l p bz
  obtain ⟨W1, hW1⟩ : ∃ W1, (w.alloc (.cells #[.slice none 0 0] 26)) = W1 := ⟨_, rfl⟩
  rw [hW1] at B1 V0 S1 HG
  have HW1 : Hid _ := hW1
  clear hW1 hbt hbc hL hnx hc hp hlim
  refine callsIn_wide.1 (callsIn_of_wp_marks (F := Fence.wide) (n := 0) Tryz.func95 rfl trivial ?_ rfl)
  simp only [Tryz.ntmps95, List.size_toArray, List.length_cons, List.length_nil, Nat.reduceAdd, Nat.reduceSub, Array.replicate_succ, Array.replicate_zero, List.push_toArray, List.append_toArray, List.nil_append, List.cons_append]
  gi_wp2
  rw [HW1.out]
  clear HW1
  refine wp_range (gf := 96) (lb := #[.pointer (some ⟨bt, 0, none⟩), .pointer (some ⟨bc, 0, none⟩)]) (xs := runsL nx lim l p bz) (encs := encR) (mb := fun k o => k = w.heap.size ∧ o.isCells = true ∨ Big w.heap.size 69 2 k o) rfl (enters_of Tryz.func96 (by kernel_rfl) rfl) HG.out
    (fun o ho => ⟨(by rintro (⟨hm, _⟩ | ⟨_, vs, hm, _⟩); omega; rw [hm] at ho; cases ho), (by rintro (⟨hm, _⟩ | ⟨_, vs, hm, _⟩); omega; rw [hm] at ho; cases ho)⟩) (fun _ => rfl)
    (SeqI w (runsL nx lim l p bz))
    (fun c V => False)
    (fun i A B ⟨a', c', h1, h2, h3, h4⟩ hs => ⟨a', c', std_var hs h1, std_own hs h2, h3, h4.trans (std_below hs (by omega) h4.size)⟩)
    (fun c A B h hs => h)
    ⟨none, 0, by simpa using V0, by simpa using El.Own.none _ _, fun _ => rfl, B1⟩
    (fun x V a' A => Var 69 A V.heap.size [.int .i64 x.1, .string x.2] ∧ a' = { tmps := #[.slice none 0 0, .func (.func 96) #[] #[.pointer (some ⟨bt, 0, none⟩), .pointer (some ⟨bc, 0, none⟩)], .pointer (some ⟨w.heap.size, 0, none⟩), undef, .slice none 0 0, .pointer (some ⟨V.heap.size, 0, none⟩), .func (.func 96) #[] #[.pointer (some ⟨bt, 0, none⟩), .pointer (some ⟨bc, 0, none⟩)], .agg #[.int .i64 x.1, .string x.2], undef, undef, undef, undef, undef], defers := [] })
    (fun x V a' A B ⟨h1, h2⟩ hs => ⟨std_var hs h1, h2⟩) ?assign ?body ?done ?stop
  case assign =>
    rintro i ⟨pa, pb⟩ V hx hi hsz
    dsimp only [encR]
    gi_wp2
    refine ⟨⟨Var.new V [.int .i64 pa, .string pb], ?_⟩, (Below.refl _ _).alloc (Nat.le_refl _) _⟩
    first | rfl | trivial
  case body =>
    rintro i ⟨pa, pb⟩ a' V0 V hx ⟨a', c', h1, h2, h3, h4⟩ ⟨hV, rfl⟩ hs1 hs2
    have HT : Hid ((runsL nx lim l p bz).take (i + 1) = (runsL nx lim l p bz).take i ++ [(pa, pb)]) := by show _ = _; rw [List.take_add_one, hx]; rfl
    have hlen : ((runsL nx lim l p bz).take i).length + 1 ≤ 4194304 := by rw [List.length_take]; omega
    generalize (runsL nx lim l p bz).take i = L at *
    have e0 := h1.cell (i := 0) rfl
    have e1 := hV.cell (i := 0) rfl
    have e2 := hV.cell (i := 1) rfl
    have al := (Below.refl V.heap.size V).alloc (Nat.le_refl _) (.cells #[.int .i64 pa, .string pb] 69)
    have hsz0 : w.heap.size ≤ V.heap.size := h4.size
    have o1 := h2.alloc (.cells #[.int .i64 pa, .string pb] 69)
    have v1 := h1.alloc (.cells #[.int .i64 pa, .string pb] 69)
    have hB1 : w.heap.size ≤ (V.alloc (.cells #[.int .i64 pa, .string pb] 69)).heap.size := Nat.le_trans hsz0 al.size
    refine wpIn_block ?_
    refine region_round (by kernel_rfl) (fun ⟨_, _, h⟩ => h) ?_
    go_wp2_with (at_builtin; refine wpList_one typ (by decide) (by rfl) _ _ (by rfl) w.heap.size a' c' L.length L rfl (by rfl) o1 hB1 h3 ⟨V.heap.size, 0, none⟩ (pa, pb) (by rfl) (El.lies_new rfl) hlen ?_; intro a2 c2 w3 o3 g3; refine stand ?_)
    have v3 : Var 26 w3 w.heap.size [.slice a' L.length c'] := g3.same _ _ v1 (fun ⟨_, vs, hm, _⟩ => by cases hm)
    have f0 := v3.cell (i := 0) rfl
    have f1 := v3.free 0
    have hne := own_ne (T := 26) (by decide) o3 v3
    have B3 : Below w.heap.size w w3 := (h4.trans (al.mono hsz0)).trans (g3.below hB1 (fun k o hk hm => by have := hm.1; omega))
    have C3 : Chg (fun k o => k = w.heap.size ∧ o.isCells = true ∨ Big w.heap.size 69 2 k o) V w3 := (Chg.later al).trans (g3.mono (fun k o hm => .inr hm))
    show wpList _ _ _ _ _ _
    clear e0 e1 e2 g3 h1 h2 o1 v1 al hV
    go_wp2_with fail
    refine ⟨C3.trans (Chg.kept ((Draw.Kept.refl w.heap.size w3).setCell (p := ⟨w.heap.size, 0, none⟩) (.inl rfl) (.slice a2 (L.length + 1) c2)) (fun o ho => .inl ⟨rfl, by rw [show w3.heap[w.heap.size]? = _ from v3] at ho; cases ho; rfl⟩)), ?_⟩
    unfold SeqI
    rw [HT.out]
    exact ⟨a2, c2, by simpa using v3.set 0 (.slice a2 (L.length + 1) c2), o3.setCell hne _, fun e => by simp at e, B3.setCell (Nat.le_refl _) _⟩
  case done =>
    rintro V ⟨a', c', h1, h2, h3, h4⟩ hK
    have e0 := h1.cell (i := 0) rfl
    rw [List.take_of_length_le (Nat.le_refl _)] at e0 h2
    gi_wp2
    refine ret_marks _ hK (results_tmp rfl _ _ _) ⟨a', c', rfl, h2.same (fun x hx => World.putObj_heap_other ?_), below_put h4 (by omega)⟩
    intro e
    unfold El.Own at h2
    rcases h2.2 with ⟨hv, _⟩ | ⟨g, cap, cur, hv, _, hgb, _⟩
    · simp only [Value.slice.injEq] at hv
      rw [hv.1] at hx
      cases hx
    · simp only [Value.slice.injEq] at hv
      rw [hv.1] at hx
      cases hx
      dsimp only at e
      rw [e, hK] at hgb
      cases hgb
  case stop =>
    rintro c V h hK
    exact h.elim

set_option maxHeartbeats 1000000 in
theorem collect (nx : Int) (bs : ByteArray) (a : Option Addr) (c : Nat) (cp fi : Int) (en : Bool) (l : List Pt) (p : Int) (bz : ByteArray) (bt bc : Nat) (w : World)
    (hbt : Var 28 w bt [.int .i64 nx, .string bs, .slice a l.length c, .int .i64 cp, .int .i64 fi, .bool en]) (hbc : Var 69 w bc [.int .i64 p, .string bz]) (hL : partE.Lies w a l) (hl : l.length ≤ 2097152) (hp : Bd l)
    (hnx : 0 ≤ nx ∧ nx ≤ 1152921504606846976) (hb : bs.size ≤ 1152921504606846976) (hc : 0 ≤ cp ∧ cp ≤ 1152921504606846976) (hp0 : 0 ≤ p) (hp1 : p ≤ 1000000000) (hz : bz.size ≤ 40) {lim : Int} (hlim : limT nx bs cp = lim) :
    Calls Tryz.prog 79 #[.func (.func 96) #[] #[.pointer (some ⟨bt, 0, none⟩), .pointer (some ⟨bc, 0, none⟩)]] w fun x w' => ∃ a' c', x = .returned (.slice a' (runsL nx lim l p bz).length c') ∧ partE.Own 69 w' w.heap.size a' c' (runsL nx lim l p bz) ∧ Below w.heap.size w w' := by
  have h := appendSeq nx bs a c cp fi en l p bz bt bc w hbt hbc hL hl hp hnx hb hc hp0 hp1 hz hlim
  clear hbt hbc hL hl hp hnx hb hc hp0 hp1 hz hlim
  go_enter Tryz.func79, Tryz.ntmps79
  go_wp2_with fail
  refine h.mono ?_
  rintro x w1 ⟨a', c', rfl, o1, b1⟩
  have HO : Hid _ := o1
  clear o1 h
  go_wp2_with fail
  go_ret
  exact ⟨a', c', rfl, HO.out, b1⟩

end Go.Proofs.YtjnkjeajkmgcmaaGreat.Tak

namespace Go.Proofs.YtjnkjeajkmgcmaaGreat.Tak
open Go.RowKit RowG Rng
set_option linter.unusedVariables false
set_option linter.unusedSimpArgs false
attribute [local go_sem] Oper.semAt_some

def gstep (st : Int × ByteArray × List Pt) (x : Int × Pt) : Int × ByteArray × List Pt := if x.1 < x.2.1 ∨ st.2.2 ≠ [] then (st.1, st.2.1, st.2.2 ++ [x.2]) else (endP x.2, st.2.1 ++ x.2.2, st.2.2)
def gath (nx : Int) (bs : ByteArray) (l : List Pt) (i : Nat) : Int × ByteArray × List Pt := ((pairs nx l).take i).foldl gstep (nx, bs, [])
theorem gath_succ {nx : Int} {bs : ByteArray} {l : List Pt} {i : Nat} {x : Int × Pt} (hx : (pairs nx l)[i]? = some x) : gath nx bs l (i + 1) = gstep (gath nx bs l i) x := by
  unfold gath
  rw [List.take_add_one, hx, Option.toList_some, List.foldl_append]
  rfl
theorem pairs_snd : ∀ (b : Int) (l : List Pt), (pairs b l).map (·.2) = l
  | _, [] => rfl
  | b, p :: l => by simp [pairs, pairs_snd (endP p) l]
theorem pairs_at' {b : Int} {l : List Pt} {i : Nat} {x : Int × Pt} (h : (pairs b l)[i]? = some x) : l[i]? = some x.2 := by
  have e := pairs_snd b l
  rw [← e, List.getElem?_map, h]
  rfl
theorem tot_take {l : List Pt} {i : Nat} {p : Pt} (h : l[i]? = some p) : tot (l.take (i + 1)) = tot (l.take i) + p.2.size := by
  rw [List.take_add_one, h, Option.toList_some, tot_append]
  simp [tot]
theorem tot_le (l : List Pt) (i : Nat) : tot (l.take i) ≤ tot l := by
  have e : tot l = tot (l.take i) + tot (l.drop i) := by rw [← tot_append, List.take_append_drop]
  omega

def GathI (w : World) (nx : Int) (bs : ByteArray) (a : Option Addr) (c : Nat) (cp fi : Int) (en : Bool) (l : List Pt) (i : Nat) (V : World) : Prop :=
  ∃ (n' : Int) (b' : ByteArray) (r : List Pt) (a' : Option Addr) (c' : Nat), gath nx bs l i = (n', b', r) ∧ b'.size ≤ bs.size + tot (l.take i) ∧ r.length ≤ i ∧ Var 28 V w.heap.size [.int .i64 n', .string b', .slice a l.length c, .int .i64 cp, .int .i64 fi, .bool en] ∧ Var 28 V (w.heap.size + 1) [.int .i64 0, .string ⟨#[]⟩, .slice none 0 0, .int .i64 0, .int .i64 0, .bool false] ∧ Var 26 V (w.heap.size + 1 + 1) [.slice a' r.length c'] ∧ partE.Own 69 V (w.heap.size + 1 + 1) a' c' r ∧ (r = [] → c' = 0) ∧ Below w.heap.size w V

set_option maxRecDepth 100000 in
set_option maxHeartbeats 8000000 in
theorem gathered (nx : Int) (bs : ByteArray) (a : Option Addr) (n c : Nat) (cp fi : Int) (en : Bool) (l : List Pt) (w : World) (hn : n = l.length) (h : partE.Lies w a l) (hl : l.length ≤ 1048576) (hp : Bd l) (ht : bs.size + tot l ≤ 1048576) :
    Calls Tryz.prog 83 #[.agg #[.int .i64 nx, .string bs, .slice a n c, .int .i64 cp, .int .i64 fi, .bool en]] w fun x w' => ∃ (n' : Int) (b' : ByteArray) (r : List Pt), gath nx bs l (pairs nx l).length = (n', b', r) ∧ ∃ (a' : Option Addr) (c' : Nat), x = .returned (.agg #[.int .i64 n', .string b', .slice a' r.length c', .int .i64 cp, .int .i64 fi, .bool (n' == fi)]) ∧ partE.Own 69 w' w.heap.size a' c' r ∧ Below w.heap.size w w' := by
  subst hn
  have B5 : Below w.heap.size w (((((w.alloc (.cells #[.int .i64 nx, .string bs, .slice a l.length c, .int .i64 cp, .int .i64 fi, .bool en] 28)).alloc (.cells #[.int .i64 0, .string ⟨#[]⟩, .slice none 0 0, .int .i64 0, .int .i64 0, .bool false] 28)).alloc (.cells #[.slice none 0 0] 26)).alloc (.cells #[.int .i64 nx] 2)).alloc (.cells #[.slice a l.length c] 26)) := (((((Below.refl _ _).alloc (Nat.le_refl _) _).alloc (by simp) _).alloc (by simp; omega) _).alloc (by simp; omega) _).alloc (by simp; omega) _
  have V0 : Var 28 (((((w.alloc (.cells #[.int .i64 nx, .string bs, .slice a l.length c, .int .i64 cp, .int .i64 fi, .bool en] 28)).alloc (.cells #[.int .i64 0, .string ⟨#[]⟩, .slice none 0 0, .int .i64 0, .int .i64 0, .bool false] 28)).alloc (.cells #[.slice none 0 0] 26)).alloc (.cells #[.int .i64 nx] 2)).alloc (.cells #[.slice a l.length c] 26)) w.heap.size [.int .i64 nx, .string bs, .slice a l.length c, .int .i64 cp, .int .i64 fi, .bool en] := ((((Var.new w [.int .i64 nx, .string bs, .slice a l.length c, .int .i64 cp, .int .i64 fi, .bool en]).alloc _).alloc _).alloc _).alloc _
  have V1 : Var 28 (((((w.alloc (.cells #[.int .i64 nx, .string bs, .slice a l.length c, .int .i64 cp, .int .i64 fi, .bool en] 28)).alloc (.cells #[.int .i64 0, .string ⟨#[]⟩, .slice none 0 0, .int .i64 0, .int .i64 0, .bool false] 28)).alloc (.cells #[.slice none 0 0] 26)).alloc (.cells #[.int .i64 nx] 2)).alloc (.cells #[.slice a l.length c] 26)) (w.heap.size + 1) [.int .i64 0, .string ⟨#[]⟩, .slice none 0 0, .int .i64 0, .int .i64 0, .bool false] := by
    have e := (((Var.new (T := 28) (w.alloc (.cells #[.int .i64 nx, .string bs, .slice a l.length c, .int .i64 cp, .int .i64 fi, .bool en] 28)) [.int .i64 0, .string ⟨#[]⟩, .slice none 0 0, .int .i64 0, .int .i64 0, .bool false]).alloc (.cells #[.slice none 0 0] 26)).alloc (.cells #[.int .i64 nx] 2)).alloc (.cells #[.slice a l.length c] 26)
    rwa [World.size_alloc] at e
  have V2 : Var 26 (((((w.alloc (.cells #[.int .i64 nx, .string bs, .slice a l.length c, .int .i64 cp, .int .i64 fi, .bool en] 28)).alloc (.cells #[.int .i64 0, .string ⟨#[]⟩, .slice none 0 0, .int .i64 0, .int .i64 0, .bool false] 28)).alloc (.cells #[.slice none 0 0] 26)).alloc (.cells #[.int .i64 nx] 2)).alloc (.cells #[.slice a l.length c] 26)) (w.heap.size + 1 + 1) [.slice none 0 0] := by
    have e := ((Var.new (T := 26) ((w.alloc (.cells #[.int .i64 nx, .string bs, .slice a l.length c, .int .i64 cp, .int .i64 fi, .bool en] 28)).alloc (.cells #[.int .i64 0, .string ⟨#[]⟩, .slice none 0 0, .int .i64 0, .int .i64 0, .bool false] 28)) [.slice none 0 0]).alloc (.cells #[.int .i64 nx] 2)).alloc (.cells #[.slice a l.length c] 26)
    rwa [World.size_alloc, World.size_alloc] at e
  have V3 : Var 2 (((((w.alloc (.cells #[.int .i64 nx, .string bs, .slice a l.length c, .int .i64 cp, .int .i64 fi, .bool en] 28)).alloc (.cells #[.int .i64 0, .string ⟨#[]⟩, .slice none 0 0, .int .i64 0, .int .i64 0, .bool false] 28)).alloc (.cells #[.slice none 0 0] 26)).alloc (.cells #[.int .i64 nx] 2)).alloc (.cells #[.slice a l.length c] 26)) (w.heap.size + 1 + 1 + 1) [.int .i64 nx] := by
    have e := (Var.new (T := 2) (((w.alloc (.cells #[.int .i64 nx, .string bs, .slice a l.length c, .int .i64 cp, .int .i64 fi, .bool en] 28)).alloc (.cells #[.int .i64 0, .string ⟨#[]⟩, .slice none 0 0, .int .i64 0, .int .i64 0, .bool false] 28)).alloc (.cells #[.slice none 0 0] 26)) [.int .i64 nx]).alloc (.cells #[.slice a l.length c] 26)
    rwa [World.size_alloc, World.size_alloc, World.size_alloc] at e
  have V4 : Var 26 (((((w.alloc (.cells #[.int .i64 nx, .string bs, .slice a l.length c, .int .i64 cp, .int .i64 fi, .bool en] 28)).alloc (.cells #[.int .i64 0, .string ⟨#[]⟩, .slice none 0 0, .int .i64 0, .int .i64 0, .bool false] 28)).alloc (.cells #[.slice none 0 0] 26)).alloc (.cells #[.int .i64 nx] 2)).alloc (.cells #[.slice a l.length c] 26)) (w.heap.size + 1 + 1 + 1 + 1) [.slice a l.length c] := by
    have e := Var.new (T := 26) ((((w.alloc (.cells #[.int .i64 nx, .string bs, .slice a l.length c, .int .i64 cp, .int .i64 fi, .bool en] 28)).alloc (.cells #[.int .i64 0, .string ⟨#[]⟩, .slice none 0 0, .int .i64 0, .int .i64 0, .bool false] 28)).alloc (.cells #[.slice none 0 0] 26)).alloc (.cells #[.int .i64 nx] 2)) [.slice a l.length c]
    rwa [World.size_alloc, World.size_alloc, World.size_alloc, World.size_alloc] at e
  have S5 : (((((w.alloc (.cells #[.int .i64 nx, .string bs, .slice a l.length c, .int .i64 cp, .int .i64 fi, .bool en] 28)).alloc (.cells #[.int .i64 0, .string ⟨#[]⟩, .slice none 0 0, .int .i64 0, .int .i64 0, .bool false] 28)).alloc (.cells #[.slice none 0 0] 26)).alloc (.cells #[.int .i64 nx] 2)).alloc (.cells #[.slice a l.length c] 26)).heap.size = w.heap.size + 5 := by simp
  have L5 := h.later B5
  have HLT : Hid (l ≠ [] → ∀ x, a = some x → x.block < w.heap.size) := lies_lt h
  obtain ⟨W5, hW5⟩ : ∃ W5, (((((w.alloc (.cells #[.int .i64 nx, .string bs, .slice a l.length c, .int .i64 cp, .int .i64 fi, .bool en] 28)).alloc (.cells #[.int .i64 0, .string ⟨#[]⟩, .slice none 0 0, .int .i64 0, .int .i64 0, .bool false] 28)).alloc (.cells #[.slice none 0 0] 26)).alloc (.cells #[.int .i64 nx] 2)).alloc (.cells #[.slice a l.length c] 26)) = W5 := ⟨_, rfl⟩
  rw [hW5] at B5 V0 V1 V2 V3 V4 S5 L5
  have HW5 : Hid _ := hW5
  have HP : Hid (Bd l) := hp
  clear hW5 h hp
  refine callsIn_wide.1 (callsIn_of_wp_marks (F := Fence.wide) (n := 0) Tryz.func83 rfl trivial ?_ rfl)
  simp only [Tryz.ntmps83, List.size_toArray, List.length_cons, List.length_nil, Nat.reduceAdd, Nat.reduceSub, Array.replicate_succ, Array.replicate_zero, List.push_toArray, List.append_toArray, List.nil_append, List.cons_append]
  gi_wp2_with (refine ⟨trivial, rfl, ?_⟩; gi_at_call 88; refine (callsIn_wide.2 (partsFrom _ _ _ _ _)).mono ?_; rintro e w' ⟨rfl, rfl⟩)
  rw [HW5.out]
  clear HW5
  refine wp_range (gf := 105) (lb := #[.pointer (some ⟨w.heap.size + 1 + 1 + 1, 0, none⟩), .pointer (some ⟨w.heap.size + 1 + 1 + 1 + 1, 0, none⟩)]) (xs := pairs nx l) (encs := encQ) (mb := fun k o => (k = w.heap.size ∨ k = w.heap.size + 1 + 1) ∧ o.isCells = true ∨ Big (w.heap.size + 1 + 1) 69 2 k o) rfl (enters_of Tryz.func105 (by kernel_rfl) rfl)
    (partsFrom1 nx a c l _ _ _ W5 V3 V4 L5 (by omega) HP.out (fun hne x hx o hm => by
      have := HLT.out hne x hx
      rcases hm with (⟨hm, _⟩ | ⟨hm, _⟩) | ⟨hm, _⟩ <;> omega) (fun k v0 v1 hk hm => by
      rcases hm with (⟨hm, _⟩ | ⟨_, vs, hm, hs⟩) | ⟨_, hm⟩
      · omega
      · cases hm; simp at hs
      · cases hm))
    (fun o ho => ⟨(by rintro (⟨hm, _⟩ | ⟨_, vs, hm, _⟩); omega; rw [hm] at ho; cases ho), (by rintro (⟨hm, _⟩ | ⟨_, vs, hm, _⟩); omega; rw [hm] at ho; cases ho)⟩) (fun _ => rfl)
    (GathI w nx bs a c cp fi en l)
    (fun c V => False)
    (fun i A B ⟨n', b', r, a', c', g1, g2, g3, h1, h2, h3, h4, h5, h6⟩ hs => ⟨n', b', r, a', c', g1, g2, g3, std_var hs h1, std_var hs h2, std_var hs h3, std_own hs h4, h5, h6.trans (std_below hs (by omega) h6.size)⟩)
    (fun c A B h hs => h)
    ⟨nx, bs, [], none, 0, rfl, by omega, Nat.le_refl _, V0, V1, V2, El.Own.none _ _, fun _ => rfl, B5⟩
    (fun x V a' A => Var 69 A V.heap.size [.int .i64 x.2.1, .string x.2.2] ∧ a' = { tmps := #[.agg #[.int .i64 nx, .string bs, .slice a l.length c, .int .i64 cp, .int .i64 fi, .bool en], .pointer (some ⟨w.heap.size, 0, none⟩), .pointer (some ⟨w.heap.size + 1, 0, none⟩), .pointer (some ⟨w.heap.size + 1 + 1, 0, none⟩), .int .i64 x.1, .pointer (some ⟨V.heap.size, 0, none⟩), .pointer (some ⟨w.heap.size, 0, none⟩), .int .i64 nx, .pointer (some ⟨w.heap.size, 2, none⟩), .slice a l.length c, .func (.func 105) #[] #[.pointer (some ⟨w.heap.size + 1 + 1 + 1, 0, none⟩), .pointer (some ⟨w.heap.size + 1 + 1 + 1 + 1, 0, none⟩)], .int .i64 x.1, .agg #[.int .i64 x.2.1, .string x.2.2], undef, undef, undef, undef, undef, undef, undef, undef, undef, undef, undef, undef, undef, undef, undef, undef, undef, undef, undef, undef, undef, undef, undef, undef, undef, undef, undef, undef, undef, undef, undef], defers := [] })
    (fun x V a' A B ⟨h1, h2⟩ hs => ⟨std_var hs h1, h2⟩) ?assign ?body ?done ?stop
  case assign =>
    rintro i ⟨b, pa, pb⟩ V hx hi hsz
    dsimp only [encQ]
    gi_wp2
    refine ⟨⟨Var.new V [.int .i64 pa, .string pb], ?_⟩, (Below.refl _ _).alloc (Nat.le_refl _) _⟩
    first | rfl | trivial
  case body =>
    rintro i ⟨b, pa, pb⟩ a' V0 V hx ⟨n', b', r, a', c', g1, g2, g3, h1, h2, h3, h4, h5, h6⟩ ⟨hV, rfl⟩ hs1 hs2
    have hxl := pairs_at' hx
    have hbd : bdP (pa, pb) := HP.out _ (List.mem_of_getElem? hxl)
    have HT : Hid (tot (l.take (i + 1)) = tot (l.take i) + pb.size) := tot_take hxl
    have htl : tot (l.take (i + 1)) ≤ tot l := tot_le l (i + 1)
    have HG : Hid (gath nx bs l (i + 1) = gstep (n', b', r) (b, pa, pb)) := by show _ = _; rw [gath_succ hx, g1]
    have hil : i < l.length := (List.getElem?_eq_some_iff.1 hxl).1
    have hrl : r.length + 1 ≤ 4194304 := by omega
    have e0 := h1.cell (i := 0) rfl
    have e1 := h1.cell (i := 1) rfl
    have ef0 := h1.free 0
    have ef1 := h1.free 1
    have k0 := h3.cell (i := 0) rfl
    have p0 := hV.cell (i := 0) rfl
    have p1 := hV.cell (i := 1) rfl
    have al := (Below.refl V.heap.size V).alloc (Nat.le_refl _) (.cells #[.int .i64 pa, .string pb] 69)
    have o1 := h4.alloc (.cells #[.int .i64 pa, .string pb] 69)
    have w1 := h3.alloc (.cells #[.int .i64 pa, .string pb] 69)
    have hB1 : w.heap.size + 1 + 1 ≤ (V.alloc (.cells #[.int .i64 pa, .string pb] 69)).heap.size := Nat.le_trans (by have := h3.lt; omega) al.size
    clear hx hxl g1
    by_cases hb1 : b < pa
    · have HC : Hid (b < pa ∨ r ≠ []) := .inl hb1
      gi_wp2_with (gi_at_builtin; refine wpListIn_one typ (by decide) (by rfl) _ _ (by rfl) (w.heap.size + 1 + 1) a' c' r.length r rfl (by rfl) o1 hB1 h5 ⟨V.heap.size, 0, none⟩ (pa, pb) (by rfl) (El.lies_new rfl) hrl ?_; intro a2 c2 w3 o3 g3; refine stand ?_)
      have v3 : Var 26 w3 (w.heap.size + 1 + 1) [.slice a' r.length c'] := g3.same _ _ w1 (fun ⟨_, vs, hm, _⟩ => by cases hm)
      have t3 : Var 28 w3 w.heap.size [.int .i64 n', .string b', .slice a l.length c, .int .i64 cp, .int .i64 fi, .bool en] := g3.same _ _ (h1.alloc _) (fun ⟨_, vs, hm, _⟩ => by cases hm)
      have q3 : Var 28 w3 (w.heap.size + 1) [.int .i64 0, .string ⟨#[]⟩, .slice none 0 0, .int .i64 0, .int .i64 0, .bool false] := g3.same _ _ (h2.alloc _) (fun ⟨_, vs, hm, _⟩ => by cases hm)
      have m0 := v3.cell (i := 0) rfl
      have m1 := v3.free 0
      have hne := own_ne (T := 26) (by decide) o3 v3
      have B3 : Below w.heap.size w w3 := (h6.trans (al.mono h6.size)).trans (g3.below (by omega) (fun k o hk hm => by have := hm.1; omega))
      have C3 : Chg (fun k o => (k = w.heap.size ∨ k = w.heap.size + 1 + 1) ∧ o.isCells = true ∨ Big (w.heap.size + 1 + 1) 69 2 k o) V w3 := (Chg.later al).trans (g3.mono (fun k o hm => .inr hm))
      show wpListIn _ _ _ _ _ _ _ _
      clear e0 e1 k0 p0 p1 g3 h1 h2 h3 h4 o1 w1 al hV ef0 ef1
      gi_wp2
      refine ⟨C3.trans (Chg.kept ((Draw.Kept.refl (w.heap.size + 1 + 1) w3).setCell (p := ⟨w.heap.size + 1 + 1, 0, none⟩) (.inl rfl) (.slice a2 (r.length + 1) c2)) (fun o ho => .inl ⟨.inr rfl, by rw [show w3.heap[w.heap.size + 1 + 1]? = _ from v3] at ho; cases ho; rfl⟩)), ?_⟩
      exact ⟨n', b', r ++ [(pa, pb)], a2, c2, by rw [HG.out, gstep, if_pos HC.out], by rw [HT.out]; omega, by simp; omega, t3.other (by dsimp only; omega) _, q3.other (by dsimp only; omega) _, by simpa using v3.set 0 (.slice a2 (r.length + 1) c2), o3.setCell hne _, fun e => by simp at e, B3.setCell (by dsimp only; omega) _⟩
    by_cases hr : r = []
    · subst hr
      have HC : Hid (¬ (b < pa ∨ ([] : List Pt) ≠ [])) := by show ¬ _; simp; omega
      have hbz : b'.size + pb.size ≤ 1048576 := by have := HT.out; omega
      gi_wp2_with fail
      refine ⟨trivial, rfl, ?_⟩
      refine (CallsIn.inRound _ (callsIn_wide.2 (behind _ _ _ hbd))).mono ?_
      rintro e V2 ⟨rfl, hb2⟩
      have t2 := (h1.set 1 (.string (b' ++ pb))).later hb2
      have q2 := (h2.other (p := ⟨w.heap.size, 1, none⟩) (by dsimp only; omega) (.string (b' ++ pb))).later hb2
      have l2 := (h3.other (p := ⟨w.heap.size, 1, none⟩) (by dsimp only; omega) (.string (b' ++ pb))).later hb2
      have hx4 : ∀ x, a' = some x → x.block ≠ w.heap.size := fun x e => by have := (h4.lt x e).1; omega
      have o2 := (h4.setCell (p := ⟨w.heap.size, 1, none⟩) hx4 (.string (b' ++ pb))).later hb2
      have B2 : Below w.heap.size w (V.setCell ⟨w.heap.size, 1, none⟩ (.string (b' ++ pb))) := h6.setCell (Nat.le_refl _) _
      have B3 := B2.trans (hb2.mono B2.size)
      have C3 : Chg (fun k o => (k = w.heap.size ∨ k = w.heap.size + 1 + 1) ∧ o.isCells = true ∨ Big (w.heap.size + 1 + 1) 69 2 k o) V V2 := (Chg.kept ((Draw.Kept.refl w.heap.size V).setCell (p := ⟨w.heap.size, 1, none⟩) (.inl rfl) (.string (b' ++ pb))) (fun o ho => .inl ⟨.inl rfl, by rw [show V.heap[w.heap.size]? = _ from h1] at ho; cases ho; rfl⟩)).trans (Chg.later hb2)
      have m0 := t2.cell (i := 0) rfl
      have m1 := t2.free 0
      clear e0 e1 k0 p0 p1 h1 h2 h3 h4 o1 w1 al hV ef0 ef1 hb2
      gi_wp2
      refine ⟨C3.trans (Chg.kept ((Draw.Kept.refl w.heap.size V2).setCell (p := ⟨w.heap.size, 0, none⟩) (.inl rfl) (.int .i64 (endP (pa, pb)))) (fun o ho => .inl ⟨.inl rfl, by rw [show V2.heap[w.heap.size]? = _ from t2] at ho; cases ho; rfl⟩)), ?_⟩
      exact ⟨endP (pa, pb), b' ++ pb, [], a', c', by rw [HG.out, gstep, if_neg HC.out], by rw [HT.out, ByteArray.size_append]; omega, by simp, t2.set 0 _, q2.other (by dsimp only; omega) _, l2.other (by dsimp only; omega) _, o2.setCell (fun x e => by have := hx4 x e; dsimp only; omega) _, (fun _ => h5 trivial), B3.setCell (Nat.le_refl _) _⟩
    · have HC : Hid (b < pa ∨ r ≠ []) := .inr hr
      have hr0 : 0 < r.length := List.length_pos_iff.2 hr
      gi_wp2_with (gi_at_builtin; refine wpListIn_one typ (by decide) (by rfl) _ _ (by rfl) (w.heap.size + 1 + 1) a' c' r.length r rfl (by rfl) o1 hB1 h5 ⟨V.heap.size, 0, none⟩ (pa, pb) (by rfl) (El.lies_new rfl) hrl ?_; intro a2 c2 w3 o3 g3; refine stand ?_)
      have v3 : Var 26 w3 (w.heap.size + 1 + 1) [.slice a' r.length c'] := g3.same _ _ w1 (fun ⟨_, vs, hm, _⟩ => by cases hm)
      have t3 : Var 28 w3 w.heap.size [.int .i64 n', .string b', .slice a l.length c, .int .i64 cp, .int .i64 fi, .bool en] := g3.same _ _ (h1.alloc _) (fun ⟨_, vs, hm, _⟩ => by cases hm)
      have q3 : Var 28 w3 (w.heap.size + 1) [.int .i64 0, .string ⟨#[]⟩, .slice none 0 0, .int .i64 0, .int .i64 0, .bool false] := g3.same _ _ (h2.alloc _) (fun ⟨_, vs, hm, _⟩ => by cases hm)
      have m0 := v3.cell (i := 0) rfl
      have m1 := v3.free 0
      have hne := own_ne (T := 26) (by decide) o3 v3
      have B3 : Below w.heap.size w w3 := (h6.trans (al.mono h6.size)).trans (g3.below (by omega) (fun k o hk hm => by have := hm.1; omega))
      have C3 : Chg (fun k o => (k = w.heap.size ∨ k = w.heap.size + 1 + 1) ∧ o.isCells = true ∨ Big (w.heap.size + 1 + 1) 69 2 k o) V w3 := (Chg.later al).trans (g3.mono (fun k o hm => .inr hm))
      show wpListIn _ _ _ _ _ _ _ _
      clear e0 e1 k0 p0 p1 g3 h1 h2 h3 h4 o1 w1 al hV ef0 ef1
      gi_wp2
      refine ⟨C3.trans (Chg.kept ((Draw.Kept.refl (w.heap.size + 1 + 1) w3).setCell (p := ⟨w.heap.size + 1 + 1, 0, none⟩) (.inl rfl) (.slice a2 (r.length + 1) c2)) (fun o ho => .inl ⟨.inr rfl, by rw [show w3.heap[w.heap.size + 1 + 1]? = _ from v3] at ho; cases ho; rfl⟩)), ?_⟩
      exact ⟨n', b', r ++ [(pa, pb)], a2, c2, by rw [HG.out, gstep, if_pos HC.out], by rw [HT.out]; omega, by simp; omega, t3.other (by dsimp only; omega) _, q3.other (by dsimp only; omega) _, by simpa using v3.set 0 (.slice a2 (r.length + 1) c2), o3.setCell hne _, fun e => by simp at e, B3.setCell (by dsimp only; omega) _⟩
  case done =>
    rintro V ⟨n', b', r, a', c', g1, g2, g3, h1, h2, h3, h4, h5, h6⟩ hK
    obtain ⟨e0, e1, e2, e3, e4, e5⟩ := h1.c6
    obtain ⟨f0, f1, f2, f3, f4, f5⟩ := h1.f6
    obtain ⟨q0, q1, q2, q3, q4, q5⟩ := h2.c6
    obtain ⟨z0, z1, z2, z3, z4, z5⟩ := h2.f6
    have k0 := h3.cell (i := 0) rfl
    have hx4 : ∀ x, a' = some x → w.heap.size + 1 + 1 ≤ x.block := fun x e => (h4.lt x e).1
    have HX4 : Hid _ := hx4
    have H1 : Hid _ := h1
    have H2 : Hid (Var 28 V (w.heap.size + 1) [.int .i64 0, .string ⟨#[]⟩, .slice none 0 0, .int .i64 0, .int .i64 0, .bool false]) := h2
    have H4 : Hid (partE.Own 69 V (w.heap.size + 1 + 1) a' c' r) := h4
    have H6 : Hid _ := h6
    clear hx4 h1 h2 h3 h4 h6
    gi_wp2
    have hv := (((((((H2.out.other (p := ⟨w.heap.size, 2, none⟩) (by dsimp only; omega) (.slice a' r.length c')).other (p := ⟨w.heap.size, 5, none⟩) (by dsimp only; omega) (.bool (n' == fi))).set 0 (.int .i64 n')).set 1 (.string b')).set 2 (.slice a' r.length c')).set 3 (.int .i64 cp)).set 4 (.int .i64 fi)).set 5 (.bool (n' == fi))
    have hD : W5.heap.size ≠ w.heap.size ∧ W5.heap.size ≠ w.heap.size + 1 := ⟨by omega, by omega⟩
    have hv := var_put (o := .deferred none) hv (D := W5.heap.size) (by omega)
    obtain ⟨x0, x1, x2, x3, x4, x5⟩ := hv.c6
    clear hv e0 e1 e2 e3 e4 e5 f0 f1 f2 f3 f4 f5 q0 q1 q2 q3 q4 q5 z0 z1 z2 z3 z4 z5 k0
    have hKF : ((((((((V.setCell ⟨w.heap.size, 2, none⟩ (.slice a' r.length c')).setCell ⟨w.heap.size, 5, none⟩ (.bool (n' == fi))).setCell ⟨w.heap.size + 1, 0, none⟩ (.int .i64 n')).setCell ⟨w.heap.size + 1, 1, none⟩ (.string b')).setCell ⟨w.heap.size + 1, 2, none⟩ (.slice a' r.length c')).setCell ⟨w.heap.size + 1, 3, none⟩ (.int .i64 cp)).setCell ⟨w.heap.size + 1, 4, none⟩ (.int .i64 fi)).setCell ⟨w.heap.size + 1, 5, none⟩ (.bool (n' == fi))).heap[W5.heap.size]? = some (.deferred (some [])) := by
      iterate 8 (refine heap_cell ?_ (by dsimp only; omega))
      exact hK
    generalize hU : ((((((((V.setCell ⟨w.heap.size, 2, none⟩ (.slice a' r.length c')).setCell ⟨w.heap.size, 5, none⟩ (.bool (n' == fi))).setCell ⟨w.heap.size + 1, 0, none⟩ (.int .i64 n')).setCell ⟨w.heap.size + 1, 1, none⟩ (.string b')).setCell ⟨w.heap.size + 1, 2, none⟩ (.slice a' r.length c')).setCell ⟨w.heap.size + 1, 3, none⟩ (.int .i64 cp)).setCell ⟨w.heap.size + 1, 4, none⟩ (.int .i64 fi)).setCell ⟨w.heap.size + 1, 5, none⟩ (.bool (n' == fi))) = U at *
    have oU : partE.Own 69 U (w.heap.size + 1 + 1) a' c' r := by
      rw [← hU]
      iterate 8 (refine El.Own.setCell ?_ (fun x hx' => by have := HX4.out x hx'; dsimp only; omega) _)
      exact H4.out
    have bU : Below w.heap.size w U := by
      rw [← hU]
      iterate 8 (refine Below.setCell ?_ (by dsimp only; omega) _)
      exact H6.out
    have sD : Hid (W5.heap.size = w.heap.size + 5) := S5
    clear hU H1 H2 H4 H6 HX4 S5
    generalize W5.heap.size = D at *
    refine ret_marks (.agg #[.int .i64 n', .string b', .slice a' r.length c', .int .i64 cp, .int .i64 fi, .bool (n' == fi)]) hKF (by rw [res_cell rfl]; go_simp) ⟨n', b', r, g1, a', c', rfl, ?_, below_put bU (by have := sD.out; omega)⟩
    have oP := oU.mono (show w.heap.size ≤ w.heap.size + 1 + 1 by omega)
    refine oP.same (fun x hx => World.putObj_heap_other ?_)
    intro e
    unfold El.Own at oP
    rcases oP.2 with ⟨hv, _⟩ | ⟨g, cap, cur, hv, _, hgb, _⟩
    · simp only [Value.slice.injEq] at hv
      rw [hv.1] at hx
      cases hx
    · simp only [Value.slice.injEq] at hv
      rw [hv.1] at hx
      cases hx
      dsimp only at e
      rw [e, hKF] at hgb
      cases hgb
  case stop =>
    rintro c V h hK
    exact h.elim

end Go.Proofs.YtjnkjeajkmgcmaaGreat.Tak

/- Contract of the closure of the program's runsOf: it yields what of the bytes is missing, a run for each hole that it reaches; parts not beyond 2^62. -/
import Derived.Test.YtinngechdnglpaaTakV
namespace Go.Proofs.Ytinngechdnglpaa.Tak
open Go.RowKit RowG Rng
set_option linter.unusedVariables false
set_option linter.unusedSimpArgs false
attribute [local go_sem] Oper.semAt_some

def ne (q : Pt) : Bool := !q.2.toList.isEmpty
def runX (p : Int) (bz : ByteArray) (x : Int × Pt) : Pt := withinP p bz x.1 x.2.1
def runsAt (nx : Int) (l : List Pt) (p : Int) (bz : ByteArray) (i : Nat) : List Pt := (((pairs nx l).take i).map (runX p bz)).filter ne
def runsL (nx lim : Int) (l : List Pt) (p : Int) (bz : ByteArray) : List Pt := ((pairs nx l).map (runX p bz)).filter ne ++ [withinP p bz (lastEnd nx l) lim].filter ne
theorem runs_step {nx : Int} {l : List Pt} {p : Int} {bz : ByteArray} {i : Nat} {x : Int × Pt} (hx : (pairs nx l)[i]? = some x) : runsAt nx l p bz (i + 1) = runsAt nx l p bz i ++ [runX p bz x].filter ne := by
  unfold runsAt
  rw [List.take_add_one, hx]
  simp
theorem runs_all {nx : Int} {l : List Pt} {p : Int} {bz : ByteArray} : runsAt nx l p bz (pairs nx l).length = ((pairs nx l).map (runX p bz)).filter ne := by
  unfold runsAt
  rw [List.take_of_length_le (Nat.le_refl _)]
theorem runs_at {nx lim : Int} {l : List Pt} {p : Int} {bz : ByteArray} {i : Nat} {x : Int × Pt} (hx : (pairs nx l)[i]? = some x) (hn : ne (runX p bz x) = true) : (runsL nx lim l p bz)[(runsAt nx l p bz i).length]? = some (runX p bz x) := by
  have e : (pairs nx l).map (runX p bz) = ((pairs nx l).take i).map (runX p bz) ++ (runX p bz x :: ((pairs nx l).drop (i + 1)).map (runX p bz)) := by
    rw [← List.map_cons, ← List.map_append]
    congr 1
    obtain ⟨hi, he⟩ := List.getElem?_eq_some_iff.1 hx
    rw [← he, ← List.drop_eq_getElem_cons hi, List.take_append_drop]
  unfold runsL
  rw [e, List.filter_append, List.append_assoc, List.filter_cons_of_pos hn]
  unfold runsAt
  simp
theorem runs_last {nx lim : Int} {l : List Pt} {p : Int} {bz : ByteArray} (hn : ne (withinP p bz (lastEnd nx l) lim) = true) : (runsL nx lim l p bz)[(runsAt nx l p bz (pairs nx l).length).length]? = some (withinP p bz (lastEnd nx l) lim) := by
  rw [runs_all]
  unfold runsL
  rw [List.filter_cons_of_pos hn]
  simp
theorem chg_lies {α : Type} {E : El α} {m : Nat → Obj → Prop} {A B : World} {a : Option Addr} {l : List α} (h : Chg m A B) (hl : E.Lies A a l) (hr : l ≠ [] → ∀ x, a = some x → ∀ o, ¬ m x.block o) : E.Lies B a l := by
  by_cases hn : l = []
  · exact .inl hn
  · refine hl.same (fun x ex hx => ?_)
    have e := Array.getElem?_eq_getElem hx
    rw [h.same _ _ e (hr hn x ex _), e]
/-- Later than V. -/
structure RunI (B : Nat) (V w' : World) : Prop where
  b : Below B V w'
theorem runI_drew (V : World) : RunI V.heap.size V V.drew := ⟨(Below.refl _ _).drew⟩
def encR (q : Pt) : Array Value := #[.agg #[.int .i64 q.1, .string q.2]]

set_option maxRecDepth 100000 in
set_option maxHeartbeats 8000000 in
theorem runsOf1 (nx : Int) (bs : ByteArray) (a : Option Addr) (c : Nat) (cp fi : Int) (en : Bool) (l : List Pt) (p : Int) (bz : ByteArray) (bt bc : Nat) (mine : Nat → Obj → Prop) (w : World)
    (hbt : Var 26 w bt [.int .i64 nx, .string bs, .slice a l.length c, .int .i64 cp, .int .i64 fi, .bool en]) (hbc : Var 53 w bc [.int .i64 p, .string bz]) (hL : partE.Lies w a l) (hl : l.length ≤ 2097152) (hp : Bd l)
    (hnx : 0 ≤ nx ∧ nx ≤ 1152921504606846976) (hb : bs.size ≤ 1152921504606846976) (hc : 0 ≤ cp ∧ cp ≤ 1152921504606846976) (hp0 : 0 ≤ p) (hp1 : p ≤ 1000000000) (hz : bz.size ≤ 40) {lim : Int} (hlim : limT nx bs cp = lim)
    (hrow : l ≠ [] → ∀ x, a = some x → ∀ o, ¬ mine x.block o) (hmt : ∀ o, ¬ mine bt o) (hmc : ∀ o, ¬ mine bc o)
    (hnew : ∀ k v0 v1, w.heap.size ≤ k → ¬ mine k (.cells #[v0, v1] 53 (0, 0))) (hnew1 : ∀ k v, w.heap.size ≤ k → ¬ mine k (.cells #[v] 71 (0, 0))) (hnewo : ∀ k o, w.heap.size + 2 ≤ k → o.isCells = false → ¬ mine k o) :
    Gives Try.prog 55 #[.pointer (some ⟨bt, 0, none⟩), .pointer (some ⟨bc, 0, none⟩)] encR (runsL nx lim l p bz) mine w := by
  intro lp J Jx W hW hW2 stJ stJx hY h0
  have hbt := hbt.later hW
  have hbc := hbc.later hW
  have hLW := hL.later hW
  show CallsIn Fence.wide 0 Try.prog 55 #[.func (.yield lp) #[] #[], .pointer (some ⟨bt, 0, none⟩), .pointer (some ⟨bc, 0, none⟩)] W _
  have hbt1 := hbt.alloc (.cells #[.func (.yield lp) #[] #[]] 71)
  have t0 := hbt1.cell (i := 0) rfl
  have t1 := hbt1.cell (i := 1) rfl
  have t2 := hbt1.cell (i := 2) rfl
  have t3 := hbt1.cell (i := 3) rfl
  have t4 := hbt1.cell (i := 4) rfl
  have t5 := hbt1.cell (i := 5) rfl
  clear hbt1
  have B3 : Below W.heap.size W (((W.alloc (.cells #[.func (.yield lp) #[] #[]] 71)).alloc (.cells #[.int .i64 nx] 2)).alloc (.cells #[.slice a l.length c] 24)) := (((Below.refl _ _).alloc (Nat.le_refl _) _).alloc (by simp) _).alloc (by simp; omega) _
  have Vt : Var 26 (((W.alloc (.cells #[.func (.yield lp) #[] #[]] 71)).alloc (.cells #[.int .i64 nx] 2)).alloc (.cells #[.slice a l.length c] 24)) bt [.int .i64 nx, .string bs, .slice a l.length c, .int .i64 cp, .int .i64 fi, .bool en] := hbt.later B3
  have Vc : Var 53 (((W.alloc (.cells #[.func (.yield lp) #[] #[]] 71)).alloc (.cells #[.int .i64 nx] 2)).alloc (.cells #[.slice a l.length c] 24)) bc [.int .i64 p, .string bz] := hbc.later B3
  have Vy : Var 71 (((W.alloc (.cells #[.func (.yield lp) #[] #[]] 71)).alloc (.cells #[.int .i64 nx] 2)).alloc (.cells #[.slice a l.length c] 24)) W.heap.size [.func (.yield lp) #[] #[]] := ((Var.new W [.func (.yield lp) #[] #[]]).alloc _).alloc _
  have V1 : Var 2 (((W.alloc (.cells #[.func (.yield lp) #[] #[]] 71)).alloc (.cells #[.int .i64 nx] 2)).alloc (.cells #[.slice a l.length c] 24)) (W.heap.size + 1) [.int .i64 nx] := by
    have e := (Var.new (T := 2) (W.alloc (.cells #[.func (.yield lp) #[] #[]] 71)) [.int .i64 nx]).alloc (.cells #[.slice a l.length c] 24)
    rwa [World.size_alloc] at e
  have V2 : Var 24 (((W.alloc (.cells #[.func (.yield lp) #[] #[]] 71)).alloc (.cells #[.int .i64 nx] 2)).alloc (.cells #[.slice a l.length c] 24)) (W.heap.size + 1 + 1) [.slice a l.length c] := by
    have e := Var.new (T := 24) ((W.alloc (.cells #[.func (.yield lp) #[] #[]] 71)).alloc (.cells #[.int .i64 nx] 2)) [.slice a l.length c]
    rwa [World.size_alloc, World.size_alloc] at e
  have S3 : (((W.alloc (.cells #[.func (.yield lp) #[] #[]] 71)).alloc (.cells #[.int .i64 nx] 2)).alloc (.cells #[.slice a l.length c] 24)).heap.size = W.heap.size + 3 := by simp
  have L3 := hLW.later B3
  have HLT : Hid (l ≠ [] → ∀ x, a = some x → x.block < W.heap.size) := lies_lt hLW
  have J3 : J 0 (((W.alloc (.cells #[.func (.yield lp) #[] #[]] 71)).alloc (.cells #[.int .i64 nx] 2)).alloc (.cells #[.slice a l.length c] 24)) := stJ 0 _ _ h0 (Chg.later B3)
  obtain ⟨W3, hW3⟩ : ∃ W3, (((W.alloc (.cells #[.func (.yield lp) #[] #[]] 71)).alloc (.cells #[.int .i64 nx] 2)).alloc (.cells #[.slice a l.length c] 24)) = W3 := ⟨_, rfl⟩
  rw [hW3] at B3 Vt Vc Vy V1 V2 S3 L3 J3
  have HW3 : Hid _ := hW3
  have HN : Hid (0 ≤ nx ∧ nx ≤ 1152921504606846976) := hnx
  have HC : Hid (0 ≤ cp ∧ cp ≤ 1152921504606846976) := hc
  have HY : Hid _ := hY
  have HP : Hid (Bd l) := hp
  have sW : Hid (w.heap.size + 2 ≤ W.heap.size) := hW2
  have HL : Hid _ := hlim
  clear hW3 hnx hc hY h0 hL hW hW2 hLW hbt hbc hp hlim
  refine callsIn_of_wp_marks (F := Fence.wide) (n := 0) Try.func55 rfl trivial ?_ rfl
  simp only [Try.ntmps55, List.size_toArray, List.length_cons, List.length_nil, Nat.reduceAdd, Nat.reduceSub, Array.replicate_succ, Array.replicate_zero, List.push_toArray, List.append_toArray, List.nil_append, List.cons_append]
  gi_wp2_with (refine ⟨trivial, rfl, ?_⟩; gi_at_call 56; refine (callsIn_wide.2 (partsFrom _ _ _ _ _)).mono ?_; rintro e w' ⟨rfl, rfl⟩)
  rw [HW3.out]
  clear HW3 t0 t1 t2 t3 t4 t5
  have H0 : (runsAt nx l p bz 0).length = 0 := by simp [runsAt]
  refine wp_range (gf := 66) (lb := #[.pointer (some ⟨W.heap.size + 1, 0, none⟩), .pointer (some ⟨W.heap.size + 1 + 1, 0, none⟩)]) (xs := pairs nx l) (encs := encQ) (mb := mine) rfl (enters_of Try.func66 (by kernel_rfl) rfl)
    (partsFrom1 nx a c l _ _ _ W3 V1 V2 L3 hl HP.out (fun hne x hx o hm => by
      rcases hm with hm | ⟨hm, _⟩
      · exact hrow hne x hx o hm
      · have := HLT.out hne x hx; omega) (fun k v0 v1 hk hm => by
      rcases hm with hm | ⟨_, hm⟩
      · exact hnew k v0 v1 (by have := sW.out; omega) hm
      · cases hm))
    (fun o ho => ⟨hnewo _ o (by have := sW.out; omega) ho, hnewo _ o (by have := sW.out; omega) ho⟩) (fun _ => rfl)
    (fun i V => Var 26 V bt [.int .i64 nx, .string bs, .slice a l.length c, .int .i64 cp, .int .i64 fi, .bool en] ∧ Var 53 V bc [.int .i64 p, .string bz] ∧ Var 71 V W.heap.size [.func (.yield lp) #[] #[]] ∧ partE.Lies V a l ∧ J (runsAt nx l p bz i).length V ∧ W.heap.size ≤ V.heap.size)
    (fun c V => c = .ret ∧ Jx V)
    (fun i A B ⟨h1, h2, h3, h4, h5, h6⟩ hs => ⟨std_var hs h1, std_var hs h2, std_var hs h3, std_lies hs h4, stJ _ _ _ h5 (hs.mono (fun k o hk => ⟨by omega, hk.2⟩)), Nat.le_trans h6 hs.size⟩)
    (fun c A B ⟨h1, h2⟩ hs => ⟨h1, stJx _ _ h2 (hs.mono (fun k o hk => ⟨by omega, hk.2⟩))⟩)
    ⟨Vt, Vc, Vy, L3, by rw [H0]; exact J3, by omega⟩
    (fun x V a' A => Var 53 A V.heap.size [.int .i64 x.2.1, .string x.2.2] ∧ a' = { tmps := #[.func (.yield lp) #[] #[], .pointer (some ⟨bt, 0, none⟩), .pointer (some ⟨bc, 0, none⟩), .pointer (some ⟨W.heap.size, 0, none⟩), .int .i64 x.1, .pointer (some ⟨V.heap.size, 0, none⟩), undef, undef, .pointer (some ⟨bt, 0, none⟩), .int .i64 nx, .pointer (some ⟨bt, 2, none⟩), .slice a l.length c, .func (.func 66) #[] #[.pointer (some ⟨W.heap.size + 1, 0, none⟩), .pointer (some ⟨W.heap.size + 1 + 1, 0, none⟩)], .int .i64 x.1, .agg #[.int .i64 x.2.1, .string x.2.2], undef, undef, undef, undef, undef, undef, undef, undef, undef, undef, undef, undef, undef, undef, undef, undef, undef, undef, undef, undef, undef, undef, undef, undef, undef, undef], defers := [] })
    (fun x V a' A B ⟨h1, h2⟩ hs => ⟨std_var hs h1, h2⟩) ?assign ?body ?done ?stop
  case assign =>
    rintro i ⟨b, pa, pb⟩ V hx hi hsz
    dsimp only [encQ]
    gi_wp2
    refine ⟨⟨Var.new V [.int .i64 pa, .string pb], ?_⟩, (Below.refl _ _).alloc (Nat.le_refl _) _⟩
    first | rfl | trivial
  case body =>
    rintro i ⟨b, qa, qb⟩ a' V0 V hx ⟨h1, h2, h3, h4, h5, h6⟩ ⟨hV, rfl⟩ hs1 hs2
    obtain ⟨⟨ra, rb⟩, hr⟩ : ∃ r, withinP p bz b qa = r := ⟨_, rfl⟩
    have HR : Hid (runX p bz (b, qa, qb) = (ra, rb)) := hr
    have hW := fun w => within p bz b qa w hp0 hp1 hz
    rw [hr] at hW
    dsimp only at hW
    clear hr
    have c0 := h2.cell (i := 0) rfl
    have c1 := h2.cell (i := 1) rfl
    have v0 := hV.cell (i := 0) rfl
    have v1 := hV.cell (i := 1) rfl
    gi_wp2_with fail
    refine ⟨trivial, rfl, ?_⟩
    refine (CallsIn.inRound _ (callsIn_wide.2 (hW _))).mono ?_
    rintro e V2 ⟨rfl, hb2⟩
    have B3 : Below V.heap.size V (V2.alloc (.cells #[.int .i64 ra, .string rb] 53)) := hb2.alloc hb2.size _
    have r3 : Var 53 (V2.alloc (.cells #[.int .i64 ra, .string rb] 53)) V2.heap.size [.int .i64 ra, .string rb] := Var.new _ _
    have h1 := h1.later B3
    have h2 := h2.later B3
    have h3 := h3.later B3
    have h4 := h4.later B3
    have h5 := stJ _ _ _ h5 (Chg.later B3)
    have h6 : W.heap.size ≤ (V2.alloc (.cells #[.int .i64 ra, .string rb] 53)).heap.size := Nat.le_trans h6 B3.size
    have C3 : Chg mine V (V2.alloc (.cells #[.int .i64 ra, .string rb] 53)) := Chg.later B3
    clear c0 c1 v0 v1 hb2 B3 hV
    have r0 := r3.cell (i := 0) rfl
    have r1 := r3.cell (i := 1) rfl
    have y0 := h3.cell (i := 0) rfl
    by_cases hrb : rb.toList = []
    · have HS : Hid (runsAt nx l p bz (i + 1) = runsAt nx l p bz i) := by show _ = _; rw [runs_step hx, HR.out]; simp [ne, hrb]
      gi_wp2
      refine ⟨fun _ h => (by cases h), ?_⟩
      gi_wp2
      exact ⟨C3, h1, h2, h3, h4, by rw [HS.out]; exact h5, h6⟩
    · have hne : ne (runX p bz (b, qa, qb)) = true := by rw [HR.out]; simp [ne, hrb]
      have HS : Hid (runsAt nx l p bz (i + 1) = runsAt nx l p bz i ++ [(ra, rb)]) := by show _ = _; rw [runs_step hx, HR.out]; rw [HR.out] at hne; simp [hne]
      obtain ⟨fn, tmps, assign, body, hy, hRd⟩ := HY.out _ (ra, rb) _ (by rw [← HR.out]; exact runs_at hx hne) h5
      dsimp only [encR] at hy
      have hie : rb.toList.isEmpty = false := by simp [hrb]
      gi_wp2_with fail
      refine ⟨rfl, RoundIn.mono (F := Fence.wide.inRound _) hRd ?_⟩
      clear hRd hy
      rintro e V4 (⟨rfl, hJ4, hk4⟩ | ⟨rfl, hJx4, hk4⟩)
      · gi_wp2
        exact ⟨C3.trans hk4, hk4.same _ _ h1 (hmt _), hk4.same _ _ h2 (hmc _), hk4.same _ _ h3 (hnew1 _ _ (by have := sW.out; omega)), chg_lies hk4 h4 hrow, by rw [HS.out, List.length_append]; exact hJ4, Nat.le_trans h6 hk4.size⟩
      · gi_wp2
        exact ⟨C3.trans hk4, rfl, hJx4⟩
  case done =>
    rintro V ⟨h1, h2, h3, h4, h5, h6⟩ hK
    have t0 := h1.cell (i := 0) rfl
    have t1 := h1.cell (i := 1) rfl
    have t2 := h1.cell (i := 2) rfl
    have t3 := h1.cell (i := 3) rfl
    have t4 := h1.cell (i := 4) rfl
    have t5 := h1.cell (i := 5) rfl
    have c0 := h2.cell (i := 0) rfl
    have c1 := h2.cell (i := 1) rfl
    gi_wp2_with fail
    refine wpIn_wide.2 ?_
    refine wp_region_noPanic ?_
    have ofB : ∀ w', Below V.heap.size V w' → (fun w' => w'.cell? ⟨bt, 0, none⟩ = some (.int .i64 nx) ∧ w'.cell? ⟨bt, 1, none⟩ = some (.string bs) ∧ w'.cell? ⟨bt, 2, none⟩ = some (.slice a l.length c) ∧ w'.cell? ⟨bt, 3, none⟩ = some (.int .i64 cp) ∧ w'.cell? ⟨bt, 4, none⟩ = some (.int .i64 fi) ∧ w'.cell? ⟨bt, 5, none⟩ = some (.bool en) ∧ w'.cell? ⟨bc, 0, none⟩ = some (.int .i64 p) ∧ w'.cell? ⟨bc, 1, none⟩ = some (.string bz) ∧ RunI V.heap.size V w') w' := fun w' hB => ⟨(hB.cell (p := ⟨bt, 0, none⟩) h1.lt).trans t0, (hB.cell (p := ⟨bt, 1, none⟩) h1.lt).trans t1, (hB.cell (p := ⟨bt, 2, none⟩) h1.lt).trans t2, (hB.cell (p := ⟨bt, 3, none⟩) h1.lt).trans t3, (hB.cell (p := ⟨bt, 4, none⟩) h1.lt).trans t4, (hB.cell (p := ⟨bt, 5, none⟩) h1.lt).trans t5, (hB.cell (p := ⟨bc, 0, none⟩) h2.lt).trans c0, (hB.cell (p := ⟨bc, 1, none⟩) h2.lt).trans c1, ⟨hB⟩⟩
    refine wp_region_held_drew (S := (fun w' => w'.cell? ⟨bt, 0, none⟩ = some (.int .i64 nx) ∧ w'.cell? ⟨bt, 1, none⟩ = some (.string bs) ∧ w'.cell? ⟨bt, 2, none⟩ = some (.slice a l.length c) ∧ w'.cell? ⟨bt, 3, none⟩ = some (.int .i64 cp) ∧ w'.cell? ⟨bt, 4, none⟩ = some (.int .i64 fi) ∧ w'.cell? ⟨bt, 5, none⟩ = some (.bool en) ∧ w'.cell? ⟨bc, 0, none⟩ = some (.int .i64 p) ∧ w'.cell? ⟨bc, 1, none⟩ = some (.string bz) ∧ RunI V.heap.size V w')) (by kernel_rfl) ?_ (fun hHeld => ?_)
    focus ((try dsimp only) <;> (first | exact ofB _ ((Below.refl _ _).drew) | exact ofB _ (hHeld.2.2.2.2.2.2.2.2.b.trans (hbx.mono hHeld.2.2.2.2.2.2.2.2.b.size)) | exact ofB _ (hHeld.2.2.2.2.2.2.2.2.b.alloc hHeld.2.2.2.2.2.2.2.2.b.size _) | exact ofB _ (hBc.alloc hBc.size _) | exact ofB _ ((hHeld.2.2.2.2.2.2.2.2.b.setCell (by dsimp only; first | omega | exact Nat.le_refl _) _).setCell (by dsimp only; first | omega | exact Nat.le_refl _) _)))
    refine wpAnyH_take (i := 0) (v := ?_) rfl (by kernel_rfl) (by kernel_rfl) (by kernel_rfl) (fun _ _ _ h => h) (Or.inl ⟨by rfl, ?_⟩) (by assumption) ?_
    rotate_left 1
    focus (intro wS hSw; (try dsimp only at hSw); go_simp; first | done | (constructor <;> with_reducible rfl) | with_reducible rfl)
    (try simp only [Act.put, List.getElem_toArray, List.getElem_cons_zero, List.getElem_cons_succ, List.setIfInBounds_toArray, List.set_cons_zero, List.set_cons_succ])
    refine wpAnyH_take (i := 1) (v := ?_) rfl (by kernel_rfl) (by kernel_rfl) (by kernel_rfl) (fun _ _ _ h => h) (Or.inl ⟨by rfl, ?_⟩) (by assumption) ?_
    rotate_left 1
    focus (intro wS hSw; (try dsimp only at hSw); go_simp; first | done | (constructor <;> with_reducible rfl) | with_reducible rfl)
    (try simp only [Act.put, List.getElem_toArray, List.getElem_cons_zero, List.getElem_cons_succ, List.setIfInBounds_toArray, List.set_cons_zero, List.set_cons_succ])
    refine wpAnyH_take (i := 3) (v := ?_) rfl (by kernel_rfl) (by kernel_rfl) (by kernel_rfl) (fun _ _ _ h => h) (Or.inl ⟨by rfl, ?_⟩) (by assumption) ?_
    rotate_left 1
    focus (intro wS hSw; (try dsimp only at hSw); go_simp; first | done | (constructor <;> with_reducible rfl) | with_reducible rfl)
    (try simp only [Act.put, List.getElem_toArray, List.getElem_cons_zero, List.getElem_cons_succ, List.setIfInBounds_toArray, List.set_cons_zero, List.set_cons_succ])
    refine wpAnyH_ready (rs := [2, 6]) (by kernel_rfl) (by simp) ?_
    refine AllReadyH.cons rfl (fun K hK => ?_) (AllReadyH.cons rfl (fun K hK => ?_) (AllReadyH.nil))
    focus
      (go_simp; refine (behindAll nx bs a _ c cp fi en l _ rfl (h4.later hHeld.2.2.2.2.2.2.2.2.b) hl HP.out rfl).mono ?_; rintro x wa ⟨rfl, hbx⟩; have sza : V.heap.size ≤ wa.heap.size := Nat.le_trans hHeld.2.2.2.2.2.2.2.2.b.size hbx.size)
      refine hK.out _ _ ?_ (fun hHeld2 => ?_)
      focus ((try dsimp only) <;> (first | exact ofB _ ((Below.refl _ _).drew) | exact ofB _ (hHeld.2.2.2.2.2.2.2.2.b.trans (hbx.mono hHeld.2.2.2.2.2.2.2.2.b.size)) | exact ofB _ (hHeld.2.2.2.2.2.2.2.2.b.alloc hHeld.2.2.2.2.2.2.2.2.b.size _) | exact ofB _ (hBc.alloc hBc.size _) | exact ofB _ ((hHeld.2.2.2.2.2.2.2.2.b.setCell (by dsimp only; first | omega | exact Nat.le_refl _) _).setCell (by dsimp only; first | omega | exact Nat.le_refl _) _)))
      clear hK K
      replace hHeld := hHeld2
      clear hHeld2
      (try simp only [Act.put, List.getElem_toArray, List.getElem_cons_zero, List.getElem_cons_succ, List.setIfInBounds_toArray, List.set_cons_zero, List.set_cons_succ])
      refine wpAnyH_ready (rs := [4, 6]) (by kernel_rfl) (by simp) ?_
      refine AllReadyH.cons rfl (fun K hK => ?_) (AllReadyH.cons rfl (fun K hK => ?_) (AllReadyH.nil))
      focus
        (go_simp; refine (limitOfI nx bs a _ c cp fi en _ HN.out hb HC.out HL.out).mono ?_; rintro x wb ⟨rfl, hbx⟩; have szb : V.heap.size ≤ wb.heap.size := Nat.le_trans hHeld.2.2.2.2.2.2.2.2.b.size hbx.size)
        refine hK.out _ _ ?_ (fun hHeld2 => ?_)
        focus ((try dsimp only) <;> (first | exact ofB _ ((Below.refl _ _).drew) | exact ofB _ (hHeld.2.2.2.2.2.2.2.2.b.trans (hbx.mono hHeld.2.2.2.2.2.2.2.2.b.size)) | exact ofB _ (hHeld.2.2.2.2.2.2.2.2.b.alloc hHeld.2.2.2.2.2.2.2.2.b.size _) | exact ofB _ (hBc.alloc hBc.size _) | exact ofB _ ((hHeld.2.2.2.2.2.2.2.2.b.setCell (by dsimp only; first | omega | exact Nat.le_refl _) _).setCell (by dsimp only; first | omega | exact Nat.le_refl _) _)))
        clear hK K
        replace hHeld := hHeld2
        clear hHeld2
        (try simp only [Act.put, List.getElem_toArray, List.getElem_cons_zero, List.getElem_cons_succ, List.setIfInBounds_toArray, List.set_cons_zero, List.set_cons_succ])
        refine wpAnyH_ready (rs := [5, 6]) (by kernel_rfl) (by simp) ?_
        refine AllReadyH.cons rfl (fun K hK => ?_) (AllReadyH.cons rfl (fun K hK => ?_) (AllReadyH.nil))
        focus
          (go_simp; refine (within p bz _ _ _ hp0 hp1 hz).mono ?_; rintro x wc ⟨rfl, hbx⟩; have szc : V.heap.size ≤ wc.heap.size := Nat.le_trans hHeld.2.2.2.2.2.2.2.2.b.size hbx.size; have hBc := hHeld.2.2.2.2.2.2.2.2.b.trans (hbx.mono hHeld.2.2.2.2.2.2.2.2.b.size))
          refine hK.out _ _ ?_ (fun hHeld2 => ?_)
          focus ((try dsimp only) <;> (first | exact ofB _ ((Below.refl _ _).drew) | exact ofB _ (hHeld.2.2.2.2.2.2.2.2.b.trans (hbx.mono hHeld.2.2.2.2.2.2.2.2.b.size)) | exact ofB _ (hHeld.2.2.2.2.2.2.2.2.b.alloc hHeld.2.2.2.2.2.2.2.2.b.size _) | exact ofB _ (hBc.alloc hBc.size _) | exact ofB _ ((hHeld.2.2.2.2.2.2.2.2.b.setCell (by dsimp only; first | omega | exact Nat.le_refl _) _).setCell (by dsimp only; first | omega | exact Nat.le_refl _) _)))
          clear hK K
          replace hHeld := hHeld2
          clear hHeld2
          (try simp only [Act.put, List.getElem_toArray, List.getElem_cons_zero, List.getElem_cons_succ, List.setIfInBounds_toArray, List.set_cons_zero, List.set_cons_succ])
          refine wpAnyH_ready (rs := [6]) (by kernel_rfl) (by simp) ?_
          refine AllReadyH.cons rfl (fun K hK => ?_) AllReadyH.nil
          go_simp
          refine hK.out _ _ ?_ (fun hHeld2 => ?_)
          focus ((try dsimp only) <;> (first | exact ofB _ ((Below.refl _ _).drew) | exact ofB _ (hHeld.2.2.2.2.2.2.2.2.b.trans (hbx.mono hHeld.2.2.2.2.2.2.2.2.b.size)) | exact ofB _ (hHeld.2.2.2.2.2.2.2.2.b.alloc hHeld.2.2.2.2.2.2.2.2.b.size _) | exact ofB _ (hBc.alloc hBc.size _) | exact ofB _ ((hHeld.2.2.2.2.2.2.2.2.b.setCell (by dsimp only; first | omega | exact Nat.le_refl _) _).setCell (by dsimp only; first | omega | exact Nat.le_refl _) _)))
          clear hK K
          replace hHeld := hHeld2
          clear hHeld2
          (try simp only [Act.put, List.getElem_toArray, List.getElem_cons_zero, List.getElem_cons_succ, List.setIfInBounds_toArray, List.set_cons_zero, List.set_cons_succ])
          refine wpAnyH_ready (rs := [7]) (by kernel_rfl) (by simp) ?_
          refine AllReadyH.cons rfl (fun K hK => ?_) AllReadyH.nil
          go_simp
          refine hK.out _ _ ?_ (fun hHeld2 => ?_)
          focus ((try dsimp only) <;> (first | exact ofB _ ((Below.refl _ _).drew) | exact ofB _ (hHeld.2.2.2.2.2.2.2.2.b.trans (hbx.mono hHeld.2.2.2.2.2.2.2.2.b.size)) | exact ofB _ (hHeld.2.2.2.2.2.2.2.2.b.alloc hHeld.2.2.2.2.2.2.2.2.b.size _) | exact ofB _ (hBc.alloc hBc.size _) | exact ofB _ ((hHeld.2.2.2.2.2.2.2.2.b.setCell (by dsimp only; first | omega | exact Nat.le_refl _) _).setCell (by dsimp only; first | omega | exact Nat.le_refl _) _)))
          clear hK K
          replace hHeld := hHeld2
          clear hHeld2
          (try simp only [Act.put, List.getElem_toArray, List.getElem_cons_zero, List.getElem_cons_succ, List.setIfInBounds_toArray, List.set_cons_zero, List.set_cons_succ])
          refine wpAnyH_done (by kernel_rfl) ?_ _
        rotate_left 1
        focus
          go_simp
          refine hK.out _ _ ?_ (fun hHeld2 => ?_)
          focus ((try dsimp only) <;> (first | exact ofB _ ((Below.refl _ _).drew) | exact ofB _ (hHeld.2.2.2.2.2.2.2.2.b.trans (hbx.mono hHeld.2.2.2.2.2.2.2.2.b.size)) | exact ofB _ (hHeld.2.2.2.2.2.2.2.2.b.alloc hHeld.2.2.2.2.2.2.2.2.b.size _) | exact ofB _ (hBc.alloc hBc.size _) | exact ofB _ ((hHeld.2.2.2.2.2.2.2.2.b.setCell (by dsimp only; first | omega | exact Nat.le_refl _) _).setCell (by dsimp only; first | omega | exact Nat.le_refl _) _)))
          clear hK K
          replace hHeld := hHeld2
          clear hHeld2
          (try simp only [Act.put, List.getElem_toArray, List.getElem_cons_zero, List.getElem_cons_succ, List.setIfInBounds_toArray, List.set_cons_zero, List.set_cons_succ])
          refine wpAnyH_ready (rs := [5]) (by kernel_rfl) (by simp) ?_
          refine AllReadyH.cons rfl (fun K hK => ?_) AllReadyH.nil
          (go_simp; refine (within p bz _ _ _ hp0 hp1 hz).mono ?_; rintro x wc ⟨rfl, hbx⟩; have szc : V.heap.size ≤ wc.heap.size := Nat.le_trans hHeld.2.2.2.2.2.2.2.2.b.size hbx.size; have hBc := hHeld.2.2.2.2.2.2.2.2.b.trans (hbx.mono hHeld.2.2.2.2.2.2.2.2.b.size); have bx := (Var.new (T := 53) wb [.int .i64 0, .string ⟨#[]⟩]).later hbx; have b0 := bx.cell (i := 0) rfl; have b1 := bx.cell (i := 1) rfl; have g0 := bx.free 0; have g1 := bx.free 1)
          refine hK.out _ _ ?_ (fun hHeld2 => ?_)
          focus ((try dsimp only) <;> (first | exact ofB _ ((Below.refl _ _).drew) | exact ofB _ (hHeld.2.2.2.2.2.2.2.2.b.trans (hbx.mono hHeld.2.2.2.2.2.2.2.2.b.size)) | exact ofB _ (hHeld.2.2.2.2.2.2.2.2.b.alloc hHeld.2.2.2.2.2.2.2.2.b.size _) | exact ofB _ (hBc.alloc hBc.size _) | exact ofB _ ((hHeld.2.2.2.2.2.2.2.2.b.setCell (by dsimp only; first | omega | exact Nat.le_refl _) _).setCell (by dsimp only; first | omega | exact Nat.le_refl _) _)))
          clear hK K
          replace hHeld := hHeld2
          clear hHeld2
          (try simp only [Act.put, List.getElem_toArray, List.getElem_cons_zero, List.getElem_cons_succ, List.setIfInBounds_toArray, List.set_cons_zero, List.set_cons_succ])
          refine wpAnyH_ready (rs := [7]) (by kernel_rfl) (by simp) ?_
          refine AllReadyH.cons rfl (fun K hK => ?_) AllReadyH.nil
          go_simp
          refine hK.out _ _ ?_ (fun hHeld2 => ?_)
          focus ((try dsimp only) <;> (first | exact ofB _ ((Below.refl _ _).drew) | exact ofB _ (hHeld.2.2.2.2.2.2.2.2.b.trans (hbx.mono hHeld.2.2.2.2.2.2.2.2.b.size)) | exact ofB _ (hHeld.2.2.2.2.2.2.2.2.b.alloc hHeld.2.2.2.2.2.2.2.2.b.size _) | exact ofB _ (hBc.alloc hBc.size _) | exact ofB _ ((hHeld.2.2.2.2.2.2.2.2.b.setCell (by dsimp only; first | omega | exact Nat.le_refl _) _).setCell (by dsimp only; first | omega | exact Nat.le_refl _) _)))
          clear hK K
          replace hHeld := hHeld2
          clear hHeld2
          (try simp only [Act.put, List.getElem_toArray, List.getElem_cons_zero, List.getElem_cons_succ, List.setIfInBounds_toArray, List.set_cons_zero, List.set_cons_succ])
          refine wpAnyH_done (by kernel_rfl) ?_ _
        rotate_left 1
      rotate_left 2
      focus
        go_simp
        refine hK.out _ _ ?_ (fun hHeld2 => ?_)
        focus ((try dsimp only) <;> (first | exact ofB _ ((Below.refl _ _).drew) | exact ofB _ (hHeld.2.2.2.2.2.2.2.2.b.trans (hbx.mono hHeld.2.2.2.2.2.2.2.2.b.size)) | exact ofB _ (hHeld.2.2.2.2.2.2.2.2.b.alloc hHeld.2.2.2.2.2.2.2.2.b.size _) | exact ofB _ (hBc.alloc hBc.size _) | exact ofB _ ((hHeld.2.2.2.2.2.2.2.2.b.setCell (by dsimp only; first | omega | exact Nat.le_refl _) _).setCell (by dsimp only; first | omega | exact Nat.le_refl _) _)))
        clear hK K
        replace hHeld := hHeld2
        clear hHeld2
        (try simp only [Act.put, List.getElem_toArray, List.getElem_cons_zero, List.getElem_cons_succ, List.setIfInBounds_toArray, List.set_cons_zero, List.set_cons_succ])
        refine wpAnyH_ready (rs := [4]) (by kernel_rfl) (by simp) ?_
        refine AllReadyH.cons rfl (fun K hK => ?_) AllReadyH.nil
        (go_simp; refine (limitOfI nx bs a _ c cp fi en _ HN.out hb HC.out HL.out).mono ?_; rintro x wb ⟨rfl, hbx⟩; have szb : V.heap.size ≤ wb.heap.size := Nat.le_trans hHeld.2.2.2.2.2.2.2.2.b.size hbx.size; have bx := (Var.new (T := 53) wa [.int .i64 0, .string ⟨#[]⟩]).later hbx)
        refine hK.out _ _ ?_ (fun hHeld2 => ?_)
        focus ((try dsimp only) <;> (first | exact ofB _ ((Below.refl _ _).drew) | exact ofB _ (hHeld.2.2.2.2.2.2.2.2.b.trans (hbx.mono hHeld.2.2.2.2.2.2.2.2.b.size)) | exact ofB _ (hHeld.2.2.2.2.2.2.2.2.b.alloc hHeld.2.2.2.2.2.2.2.2.b.size _) | exact ofB _ (hBc.alloc hBc.size _) | exact ofB _ ((hHeld.2.2.2.2.2.2.2.2.b.setCell (by dsimp only; first | omega | exact Nat.le_refl _) _).setCell (by dsimp only; first | omega | exact Nat.le_refl _) _)))
        clear hK K
        replace hHeld := hHeld2
        clear hHeld2
        (try simp only [Act.put, List.getElem_toArray, List.getElem_cons_zero, List.getElem_cons_succ, List.setIfInBounds_toArray, List.set_cons_zero, List.set_cons_succ])
        refine wpAnyH_ready (rs := [5]) (by kernel_rfl) (by simp) ?_
        refine AllReadyH.cons rfl (fun K hK => ?_) AllReadyH.nil
        (go_simp; refine (within p bz _ _ _ hp0 hp1 hz).mono ?_; rintro x wc ⟨rfl, hbx⟩; have szc : V.heap.size ≤ wc.heap.size := Nat.le_trans hHeld.2.2.2.2.2.2.2.2.b.size hbx.size; have hBc := hHeld.2.2.2.2.2.2.2.2.b.trans (hbx.mono hHeld.2.2.2.2.2.2.2.2.b.size); have bx := bx.later hbx; have b0 := bx.cell (i := 0) rfl; have b1 := bx.cell (i := 1) rfl; have g0 := bx.free 0; have g1 := bx.free 1)
        refine hK.out _ _ ?_ (fun hHeld2 => ?_)
        focus ((try dsimp only) <;> (first | exact ofB _ ((Below.refl _ _).drew) | exact ofB _ (hHeld.2.2.2.2.2.2.2.2.b.trans (hbx.mono hHeld.2.2.2.2.2.2.2.2.b.size)) | exact ofB _ (hHeld.2.2.2.2.2.2.2.2.b.alloc hHeld.2.2.2.2.2.2.2.2.b.size _) | exact ofB _ (hBc.alloc hBc.size _) | exact ofB _ ((hHeld.2.2.2.2.2.2.2.2.b.setCell (by dsimp only; first | omega | exact Nat.le_refl _) _).setCell (by dsimp only; first | omega | exact Nat.le_refl _) _)))
        clear hK K
        replace hHeld := hHeld2
        clear hHeld2
        (try simp only [Act.put, List.getElem_toArray, List.getElem_cons_zero, List.getElem_cons_succ, List.setIfInBounds_toArray, List.set_cons_zero, List.set_cons_succ])
        refine wpAnyH_ready (rs := [7]) (by kernel_rfl) (by simp) ?_
        refine AllReadyH.cons rfl (fun K hK => ?_) AllReadyH.nil
        go_simp
        refine hK.out _ _ ?_ (fun hHeld2 => ?_)
        focus ((try dsimp only) <;> (first | exact ofB _ ((Below.refl _ _).drew) | exact ofB _ (hHeld.2.2.2.2.2.2.2.2.b.trans (hbx.mono hHeld.2.2.2.2.2.2.2.2.b.size)) | exact ofB _ (hHeld.2.2.2.2.2.2.2.2.b.alloc hHeld.2.2.2.2.2.2.2.2.b.size _) | exact ofB _ (hBc.alloc hBc.size _) | exact ofB _ ((hHeld.2.2.2.2.2.2.2.2.b.setCell (by dsimp only; first | omega | exact Nat.le_refl _) _).setCell (by dsimp only; first | omega | exact Nat.le_refl _) _)))
        clear hK K
        replace hHeld := hHeld2
        clear hHeld2
        (try simp only [Act.put, List.getElem_toArray, List.getElem_cons_zero, List.getElem_cons_succ, List.setIfInBounds_toArray, List.set_cons_zero, List.set_cons_succ])
        refine wpAnyH_done (by kernel_rfl) ?_ _
      rotate_left 1
    rotate_left 3
    focus
      go_simp
      refine hK.out _ _ ?_ (fun hHeld2 => ?_)
      focus ((try dsimp only) <;> (first | exact ofB _ ((Below.refl _ _).drew) | exact ofB _ (hHeld.2.2.2.2.2.2.2.2.b.trans (hbx.mono hHeld.2.2.2.2.2.2.2.2.b.size)) | exact ofB _ (hHeld.2.2.2.2.2.2.2.2.b.alloc hHeld.2.2.2.2.2.2.2.2.b.size _) | exact ofB _ (hBc.alloc hBc.size _) | exact ofB _ ((hHeld.2.2.2.2.2.2.2.2.b.setCell (by dsimp only; first | omega | exact Nat.le_refl _) _).setCell (by dsimp only; first | omega | exact Nat.le_refl _) _)))
      clear hK K
      replace hHeld := hHeld2
      clear hHeld2
      (try simp only [Act.put, List.getElem_toArray, List.getElem_cons_zero, List.getElem_cons_succ, List.setIfInBounds_toArray, List.set_cons_zero, List.set_cons_succ])
      refine wpAnyH_ready (rs := [2]) (by kernel_rfl) (by simp) ?_
      refine AllReadyH.cons rfl (fun K hK => ?_) AllReadyH.nil
      (go_simp; refine (behindAll nx bs a _ c cp fi en l _ rfl (h4.later hHeld.2.2.2.2.2.2.2.2.b) hl HP.out rfl).mono ?_; rintro x wa ⟨rfl, hbx⟩; have sza : V.heap.size ≤ wa.heap.size := Nat.le_trans hHeld.2.2.2.2.2.2.2.2.b.size hbx.size; have bx : Var 53 wa V.heap.size [.int .i64 0, .string ⟨#[]⟩] := (Var.new (T := 53) V.drew [.int .i64 0, .string ⟨#[]⟩]).later hbx)
      refine hK.out _ _ ?_ (fun hHeld2 => ?_)
      focus ((try dsimp only) <;> (first | exact ofB _ ((Below.refl _ _).drew) | exact ofB _ (hHeld.2.2.2.2.2.2.2.2.b.trans (hbx.mono hHeld.2.2.2.2.2.2.2.2.b.size)) | exact ofB _ (hHeld.2.2.2.2.2.2.2.2.b.alloc hHeld.2.2.2.2.2.2.2.2.b.size _) | exact ofB _ (hBc.alloc hBc.size _) | exact ofB _ ((hHeld.2.2.2.2.2.2.2.2.b.setCell (by dsimp only; first | omega | exact Nat.le_refl _) _).setCell (by dsimp only; first | omega | exact Nat.le_refl _) _)))
      clear hK K
      replace hHeld := hHeld2
      clear hHeld2
      (try simp only [Act.put, List.getElem_toArray, List.getElem_cons_zero, List.getElem_cons_succ, List.setIfInBounds_toArray, List.set_cons_zero, List.set_cons_succ])
      refine wpAnyH_ready (rs := [4]) (by kernel_rfl) (by simp) ?_
      refine AllReadyH.cons rfl (fun K hK => ?_) AllReadyH.nil
      (go_simp; refine (limitOfI nx bs a _ c cp fi en _ HN.out hb HC.out HL.out).mono ?_; rintro x wb ⟨rfl, hbx⟩; have szb : V.heap.size ≤ wb.heap.size := Nat.le_trans hHeld.2.2.2.2.2.2.2.2.b.size hbx.size; have bx := bx.later hbx)
      refine hK.out _ _ ?_ (fun hHeld2 => ?_)
      focus ((try dsimp only) <;> (first | exact ofB _ ((Below.refl _ _).drew) | exact ofB _ (hHeld.2.2.2.2.2.2.2.2.b.trans (hbx.mono hHeld.2.2.2.2.2.2.2.2.b.size)) | exact ofB _ (hHeld.2.2.2.2.2.2.2.2.b.alloc hHeld.2.2.2.2.2.2.2.2.b.size _) | exact ofB _ (hBc.alloc hBc.size _) | exact ofB _ ((hHeld.2.2.2.2.2.2.2.2.b.setCell (by dsimp only; first | omega | exact Nat.le_refl _) _).setCell (by dsimp only; first | omega | exact Nat.le_refl _) _)))
      clear hK K
      replace hHeld := hHeld2
      clear hHeld2
      (try simp only [Act.put, List.getElem_toArray, List.getElem_cons_zero, List.getElem_cons_succ, List.setIfInBounds_toArray, List.set_cons_zero, List.set_cons_succ])
      refine wpAnyH_ready (rs := [5]) (by kernel_rfl) (by simp) ?_
      refine AllReadyH.cons rfl (fun K hK => ?_) AllReadyH.nil
      (go_simp; refine (within p bz _ _ _ hp0 hp1 hz).mono ?_; rintro x wc ⟨rfl, hbx⟩; have szc : V.heap.size ≤ wc.heap.size := Nat.le_trans hHeld.2.2.2.2.2.2.2.2.b.size hbx.size; have hBc := hHeld.2.2.2.2.2.2.2.2.b.trans (hbx.mono hHeld.2.2.2.2.2.2.2.2.b.size); have bx := bx.later hbx; have b0 := bx.cell (i := 0) rfl; have b1 := bx.cell (i := 1) rfl; have g0 := bx.free 0; have g1 := bx.free 1)
      refine hK.out _ _ ?_ (fun hHeld2 => ?_)
      focus ((try dsimp only) <;> (first | exact ofB _ ((Below.refl _ _).drew) | exact ofB _ (hHeld.2.2.2.2.2.2.2.2.b.trans (hbx.mono hHeld.2.2.2.2.2.2.2.2.b.size)) | exact ofB _ (hHeld.2.2.2.2.2.2.2.2.b.alloc hHeld.2.2.2.2.2.2.2.2.b.size _) | exact ofB _ (hBc.alloc hBc.size _) | exact ofB _ ((hHeld.2.2.2.2.2.2.2.2.b.setCell (by dsimp only; first | omega | exact Nat.le_refl _) _).setCell (by dsimp only; first | omega | exact Nat.le_refl _) _)))
      clear hK K
      replace hHeld := hHeld2
      clear hHeld2
      (try simp only [Act.put, List.getElem_toArray, List.getElem_cons_zero, List.getElem_cons_succ, List.setIfInBounds_toArray, List.set_cons_zero, List.set_cons_succ])
      refine wpAnyH_ready (rs := [7]) (by kernel_rfl) (by simp) ?_
      refine AllReadyH.cons rfl (fun K hK => ?_) AllReadyH.nil
      go_simp
      refine hK.out _ _ ?_ (fun hHeld2 => ?_)
      focus ((try dsimp only) <;> (first | exact ofB _ ((Below.refl _ _).drew) | exact ofB _ (hHeld.2.2.2.2.2.2.2.2.b.trans (hbx.mono hHeld.2.2.2.2.2.2.2.2.b.size)) | exact ofB _ (hHeld.2.2.2.2.2.2.2.2.b.alloc hHeld.2.2.2.2.2.2.2.2.b.size _) | exact ofB _ (hBc.alloc hBc.size _) | exact ofB _ ((hHeld.2.2.2.2.2.2.2.2.b.setCell (by dsimp only; first | omega | exact Nat.le_refl _) _).setCell (by dsimp only; first | omega | exact Nat.le_refl _) _)))
      clear hK K
      replace hHeld := hHeld2
      clear hHeld2
      (try simp only [Act.put, List.getElem_toArray, List.getElem_cons_zero, List.getElem_cons_succ, List.setIfInBounds_toArray, List.set_cons_zero, List.set_cons_succ])
      refine wpAnyH_done (by kernel_rfl) ?_ _
    rotate_left 1
    focus
      refine NoPanic.normal ?_
      have BX : Var 53 (wc.alloc (.cells #[.int .i64 (withinP p bz (lastEnd nx l) lim).1, .string (withinP p bz (lastEnd nx l) lim).2] 53)) wc.heap.size [.int .i64 (withinP p bz (lastEnd nx l) lim).1, .string (withinP p bz (lastEnd nx l) lim).2] := Var.new _ _
      have BU : Below V.heap.size V (wc.alloc (.cells #[.int .i64 (withinP p bz (lastEnd nx l) lim).1, .string (withinP p bz (lastEnd nx l) lim).2] 53)) := hHeld.2.2.2.2.2.2.2.2.b
      clear hHeld
      generalize (wc.alloc (.cells #[.int .i64 (withinP p bz (lastEnd nx l) lim).1, .string (withinP p bz (lastEnd nx l) lim).2] 53)) = U at BX BU ⊢
      generalize wc.heap.size = kk at BX ⊢
    rotate_left 1
    focus
      refine NoPanic.normal ?_
      have BX : Var 53 ((wc.setCell ⟨wb.heap.size, 0, none⟩ (.int .i64 (withinP p bz (lastEnd nx l) lim).1)).setCell ⟨wb.heap.size, 1, none⟩ (.string (withinP p bz (lastEnd nx l) lim).2)) wb.heap.size [.int .i64 (withinP p bz (lastEnd nx l) lim).1, .string (withinP p bz (lastEnd nx l) lim).2] := (bx.set 0 _).set 1 _
      have BU : Below V.heap.size V ((wc.setCell ⟨wb.heap.size, 0, none⟩ (.int .i64 (withinP p bz (lastEnd nx l) lim).1)).setCell ⟨wb.heap.size, 1, none⟩ (.string (withinP p bz (lastEnd nx l) lim).2)) := hHeld.2.2.2.2.2.2.2.2.b
      clear hHeld
      generalize ((wc.setCell ⟨wb.heap.size, 0, none⟩ (.int .i64 (withinP p bz (lastEnd nx l) lim).1)).setCell ⟨wb.heap.size, 1, none⟩ (.string (withinP p bz (lastEnd nx l) lim).2)) = U at BX BU ⊢
      generalize wb.heap.size = kk at BX ⊢
    rotate_left 1
    focus
      refine NoPanic.normal ?_
      have BX : Var 53 ((wc.setCell ⟨wa.heap.size, 0, none⟩ (.int .i64 (withinP p bz (lastEnd nx l) lim).1)).setCell ⟨wa.heap.size, 1, none⟩ (.string (withinP p bz (lastEnd nx l) lim).2)) wa.heap.size [.int .i64 (withinP p bz (lastEnd nx l) lim).1, .string (withinP p bz (lastEnd nx l) lim).2] := (bx.set 0 _).set 1 _
      have BU : Below V.heap.size V ((wc.setCell ⟨wa.heap.size, 0, none⟩ (.int .i64 (withinP p bz (lastEnd nx l) lim).1)).setCell ⟨wa.heap.size, 1, none⟩ (.string (withinP p bz (lastEnd nx l) lim).2)) := hHeld.2.2.2.2.2.2.2.2.b
      clear hHeld
      generalize ((wc.setCell ⟨wa.heap.size, 0, none⟩ (.int .i64 (withinP p bz (lastEnd nx l) lim).1)).setCell ⟨wa.heap.size, 1, none⟩ (.string (withinP p bz (lastEnd nx l) lim).2)) = U at BX BU ⊢
      generalize wa.heap.size = kk at BX ⊢
    rotate_left 1
    focus
      refine NoPanic.normal ?_
      have BX : Var 53 ((wc.setCell ⟨V.heap.size, 0, none⟩ (.int .i64 (withinP p bz (lastEnd nx l) lim).1)).setCell ⟨V.heap.size, 1, none⟩ (.string (withinP p bz (lastEnd nx l) lim).2)) V.heap.size [.int .i64 (withinP p bz (lastEnd nx l) lim).1, .string (withinP p bz (lastEnd nx l) lim).2] := (bx.set 0 _).set 1 _
      have BU : Below V.heap.size V ((wc.setCell ⟨V.heap.size, 0, none⟩ (.int .i64 (withinP p bz (lastEnd nx l) lim).1)).setCell ⟨V.heap.size, 1, none⟩ (.string (withinP p bz (lastEnd nx l) lim).2)) := hHeld.2.2.2.2.2.2.2.2.b
      clear hHeld
      generalize ((wc.setCell ⟨V.heap.size, 0, none⟩ (.int .i64 (withinP p bz (lastEnd nx l) lim).1)).setCell ⟨V.heap.size, 1, none⟩ (.string (withinP p bz (lastEnd nx l) lim).2)) = U at BX BU ⊢
      generalize V.heap.size = kk at BX ⊢
    rotate_left 1
    all_goals
      have JU := stJ _ _ _ h5 (Chg.later BU)
      have KU : U.heap[W3.heap.size]? = some (.deferred (some [])) := (BU.block _ (lt_some hK)).trans hK
      have y0 := (h3.later BU).cell (i := 0) rfl
      have sVU := BU.size
      generalize hr : withinP p bz (lastEnd nx l) lim = r at BX ⊢
      obtain ⟨ra, rb⟩ := r
      have HR : Hid _ := hr
      dsimp only at BX ⊢
      have x0 := BX.cell (i := 0) rfl
      have x1 := BX.cell (i := 1) rfl
      rw [S3] at KU
      clear BX BU h1 h2 h3 h4 h5 hr ofB t0 t1 t2 t3 t4 t5 c0 c1
      by_cases hrb : rb.toList = []
      · have HLn : Hid ((runsL nx lim l p bz).length = (runsAt nx l p bz (pairs nx l).length).length) := by show _ = _; rw [runs_all, runsL, HR.out]; simp [ne, hrb]
        gi_wp2
        exact end_marks (.tuple #[]) KU (results_none rfl _ _ _) ⟨⟨_, rfl⟩, .inl (by rw [HLn.out]; exact stJ _ _ _ JU (Chg.put _ KU ⟨by omega, rfl⟩))⟩
      · have hne : ne (withinP p bz (lastEnd nx l) lim) = true := by rw [HR.out]; simp [ne, hrb]
        have HLn : Hid ((runsL nx lim l p bz).length = (runsAt nx l p bz (pairs nx l).length).length + 1) := by show _ = _; rw [runs_all, runsL, List.filter_cons_of_pos hne]; simp
        obtain ⟨fn, tmps, assign, body, hy, hRd⟩ := HY.out _ (ra, rb) _ (by rw [← HR.out]; exact runs_last hne) JU
        dsimp only [encR] at hy
        have hie : rb.toList.isEmpty = false := by simp [hrb]
        gi_wp2_with fail
        refine ⟨rfl, hRd.mono ?_⟩
        clear hRd hy
        rintro e V4 (⟨rfl, hJ4, hk4⟩ | ⟨rfl, hJx4, hk4⟩)
        all_goals
          have K4 := hk4.same _ _ KU (hnewo _ _ (by have := sW.out; omega) rfl)
          gi_wp2
        · exact end_marks (.tuple #[]) K4 (results_none rfl _ _ _) ⟨⟨_, rfl⟩, .inl (by rw [HLn.out]; exact stJ _ _ _ hJ4 (Chg.put _ K4 ⟨by omega, rfl⟩))⟩
        · exact end_marks (.tuple #[]) K4 (results_none rfl _ _ _) ⟨⟨_, rfl⟩, .inr (stJx _ _ hJx4 (Chg.put _ K4 ⟨by omega, rfl⟩))⟩
  case stop =>
    rintro c V ⟨rfl, h2⟩ hK
    gi_wp2
    exact ret_marks (.tuple #[]) hK (results_none rfl _ _ _) ⟨⟨_, rfl⟩, .inr (stJx _ _ h2 (Chg.put _ hK ⟨by omega, rfl⟩))⟩

end Go.Proofs.Ytinngechdnglpaa.Tak

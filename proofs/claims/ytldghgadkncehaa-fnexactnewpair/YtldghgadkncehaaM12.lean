/- Contracts of this seat's functions, and their mathematics (TakR). -/
import Derived.Test.YtldghgadkncehaaM11
set_option linter.unusedVariables false
set_option linter.unusedSimpArgs false
set_option maxRecDepth 100000
set_option maxHeartbeats 4000000
namespace Go.Proofs.Ytldghgadkncehaa.Tak
open Go.RowKit RowG Rng
attribute [local go_sem] Oper.semAt_some
theorem std_below {D b : Nat} {A B : World} (hs : Std b A B) (hD : D ≤ b) (hA : D ≤ A.heap.size) : Below D A B := hs.below hA (fun k o hk e => by omega)
-- of 112
def okQ5 (nx lim : Int) (x : Int × Pt) : Bool := partB x.2 && (!decide (x.2.1 = nx) && (!decide (x.2.1 < x.1) && !decide (lim < endP x.2)))
-- of 112
theorem pairs_mem : ∀ (b : Int) (l : List Pt) (x : Int × Pt), x ∈ pairs b l → x.2 ∈ l
  | _, [], x, h => by simp [pairs] at h
  | b, p :: l, x, h => by
    simp only [pairs, List.mem_cons] at h
    rcases h with rfl | h
    · simp
    · exact List.mem_cons_of_mem _ (pairs_mem _ l x h)
theorem arePartsOf (nx : Int) (bs : ByteArray) (a : Option Addr) (n c : Nat) (cp fi : Int) (en : Bool) (l : List Pt) (w : World) (hn : n = l.length) (h : partE.Lies w a l) (hl : l.length ≤ 2097152) (hp : Bd l)
    (hnx : 0 ≤ nx ∧ nx ≤ 1152921504606846976) (hb : bs.size ≤ 1152921504606846976) (hc : 0 ≤ cp ∧ cp ≤ 1152921504606846976) {lim : Int} (hlim : limT nx bs cp = lim) :
    Calls Try.prog 112 #[.agg #[.int .i64 nx, .string bs, .slice a n c, .int .i64 cp, .int .i64 fi, .bool en]] w fun x w' => x = .returned (.bool ((pairs nx l).all (okQ5 nx lim))) ∧ Below w.heap.size w w' := by
  subst hn
  have hmix := mix
  have B4 : Below w.heap.size w ((((w.alloc (.cells #[.int .i64 nx, .string bs, .slice a l.length c, .int .i64 cp, .int .i64 fi, .bool en] 82)).alloc (.cells #[.bool false] 4)).alloc (.cells #[.int .i64 nx] 2)).alloc (.cells #[.slice a l.length c] 80)) := ((((Below.refl _ _).alloc (Nat.le_refl _) _).alloc (by simp) _).alloc (by simp; omega) _).alloc (by simp; omega) _
  have V0 : Var 82 ((((w.alloc (.cells #[.int .i64 nx, .string bs, .slice a l.length c, .int .i64 cp, .int .i64 fi, .bool en] 82)).alloc (.cells #[.bool false] 4)).alloc (.cells #[.int .i64 nx] 2)).alloc (.cells #[.slice a l.length c] 80)) w.heap.size [.int .i64 nx, .string bs, .slice a l.length c, .int .i64 cp, .int .i64 fi, .bool en] := (((Var.new w [.int .i64 nx, .string bs, .slice a l.length c, .int .i64 cp, .int .i64 fi, .bool en]).alloc _).alloc _).alloc _
  have V1 : Var 4 ((((w.alloc (.cells #[.int .i64 nx, .string bs, .slice a l.length c, .int .i64 cp, .int .i64 fi, .bool en] 82)).alloc (.cells #[.bool false] 4)).alloc (.cells #[.int .i64 nx] 2)).alloc (.cells #[.slice a l.length c] 80)) (w.heap.size + 1) [.bool false] := by
    have e := ((Var.new (T := 4) (w.alloc (.cells #[.int .i64 nx, .string bs, .slice a l.length c, .int .i64 cp, .int .i64 fi, .bool en] 82)) [.bool false]).alloc (.cells #[.int .i64 nx] 2)).alloc (.cells #[.slice a l.length c] 80)
    rwa [World.size_alloc] at e
  have V2 : Var 2 ((((w.alloc (.cells #[.int .i64 nx, .string bs, .slice a l.length c, .int .i64 cp, .int .i64 fi, .bool en] 82)).alloc (.cells #[.bool false] 4)).alloc (.cells #[.int .i64 nx] 2)).alloc (.cells #[.slice a l.length c] 80)) (w.heap.size + 1 + 1) [.int .i64 nx] := by
    have e := (Var.new (T := 2) ((w.alloc (.cells #[.int .i64 nx, .string bs, .slice a l.length c, .int .i64 cp, .int .i64 fi, .bool en] 82)).alloc (.cells #[.bool false] 4)) [.int .i64 nx]).alloc (.cells #[.slice a l.length c] 80)
    rwa [World.size_alloc, World.size_alloc] at e
  have V3 : Var 80 ((((w.alloc (.cells #[.int .i64 nx, .string bs, .slice a l.length c, .int .i64 cp, .int .i64 fi, .bool en] 82)).alloc (.cells #[.bool false] 4)).alloc (.cells #[.int .i64 nx] 2)).alloc (.cells #[.slice a l.length c] 80)) (w.heap.size + 1 + 1 + 1) [.slice a l.length c] := by
    have e := Var.new (T := 80) (((w.alloc (.cells #[.int .i64 nx, .string bs, .slice a l.length c, .int .i64 cp, .int .i64 fi, .bool en] 82)).alloc (.cells #[.bool false] 4)).alloc (.cells #[.int .i64 nx] 2)) [.slice a l.length c]
    rwa [World.size_alloc, World.size_alloc, World.size_alloc] at e
  have S4 : ((((w.alloc (.cells #[.int .i64 nx, .string bs, .slice a l.length c, .int .i64 cp, .int .i64 fi, .bool en] 82)).alloc (.cells #[.bool false] 4)).alloc (.cells #[.int .i64 nx] 2)).alloc (.cells #[.slice a l.length c] 80)).heap.size = w.heap.size + 4 := by simp
  have L4 := h.later B4
  obtain ⟨W4, hW4⟩ : ∃ W4, ((((w.alloc (.cells #[.int .i64 nx, .string bs, .slice a l.length c, .int .i64 cp, .int .i64 fi, .bool en] 82)).alloc (.cells #[.bool false] 4)).alloc (.cells #[.int .i64 nx] 2)).alloc (.cells #[.slice a l.length c] 80)) = W4 := ⟨_, rfl⟩
  rw [hW4] at B4 V0 V1 V2 V3 S4 L4
  have HN : Hid (0 ≤ nx ∧ nx ≤ 1152921504606846976) := hnx
  have HC : Hid (0 ≤ cp ∧ cp ≤ 1152921504606846976) := hc
  have HLT : Hid (l ≠ [] → ∀ x, a = some x → x.block < w.heap.size) := lies_lt h
  have HW4 : Hid _ := hW4
  clear hnx hc h hW4
  refine callsIn_wide.1 (callsIn_of_wp_marks (F := Fence.wide) (n := 0) Try.func112 rfl trivial ?_ rfl)
  simp only [Try.ntmps112, List.size_toArray, List.length_cons, List.length_nil, Nat.reduceAdd, Nat.reduceSub, Array.replicate_succ, Array.replicate_zero, List.push_toArray, List.append_toArray, List.nil_append, List.cons_append]
  gi_wp2_with (refine ⟨trivial, rfl, ?_⟩; gi_at_call 120; refine (callsIn_wide.2 (partsFrom _ _ _ _ _)).mono ?_; rintro e w' ⟨rfl, rfl⟩)
  rw [HW4.out]
  clear HW4
  refine wp_range (gf := 126) (lb := #[.pointer (some ⟨w.heap.size + 1 + 1, 0, none⟩), .pointer (some ⟨w.heap.size + 1 + 1 + 1, 0, none⟩)]) (xs := pairs nx l) (encs := encQ) (mb := fun k o => k = w.heap.size + 1 ∧ o.isCells = true) rfl (enters_of Try.func126 (by kernel_rfl) rfl)
    (partsFrom1 nx a c l _ _ _ W4 V2 V3 L4 hl hp (fun hne x hx o hm => by have := HLT.out hne x hx; rcases hm with ⟨hm, _⟩ | ⟨hm, _⟩ <;> omega) (fun k v0 v1 hk hm => by rcases hm with ⟨hm, _⟩ | ⟨_, hm⟩; omega; cases hm))
    (fun o ho => ⟨fun hm => (by rw [hm.2] at ho; cases ho), fun hm => (by rw [hm.2] at ho; cases ho)⟩) (fun _ => rfl)
    (fun i W => Var 82 W w.heap.size [.int .i64 nx, .string bs, .slice a l.length c, .int .i64 cp, .int .i64 fi, .bool en] ∧ Var 4 W (w.heap.size + 1) [.bool false] ∧ Below w.heap.size w W ∧ ((pairs nx l).take i).all (okQ5 nx lim) = true)
    (fun c W => c = .ret ∧ Var 4 W (w.heap.size + 1) [.bool false] ∧ Below w.heap.size w W ∧ (pairs nx l).all (okQ5 nx lim) = false)
    (fun i A B ⟨h1, h2, h3, h4⟩ hs => ⟨std_var hs h1, std_var hs h2, h3.trans (std_below hs (by omega) h3.size), h4⟩)
    (fun c A B ⟨h1, h2, h3, h4⟩ hs => ⟨h1, std_var hs h2, h3.trans (std_below hs (by omega) h3.size), h4⟩)
    ⟨V0, V1, B4, by simp⟩
    (fun x W a' A => Var 136 A W.heap.size [.int .i64 x.2.1, .string x.2.2] ∧ a' = { tmps := #[.agg #[.int .i64 nx, .string bs, .slice a l.length c, .int .i64 cp, .int .i64 fi, .bool en], .pointer (some ⟨w.heap.size, 0, none⟩), .pointer (some ⟨w.heap.size + 1, 0, none⟩), .int .i64 x.1, .pointer (some ⟨W.heap.size, 0, none⟩), .pointer (some ⟨w.heap.size, 0, none⟩), .int .i64 nx, .pointer (some ⟨w.heap.size, 2, none⟩), .slice a l.length c, .func (.func 126) #[] #[.pointer (some ⟨w.heap.size + 1 + 1, 0, none⟩), .pointer (some ⟨w.heap.size + 1 + 1 + 1, 0, none⟩)], .int .i64 x.1, .agg #[.int .i64 x.2.1, .string x.2.2], undef, undef, undef, undef, undef, undef, undef, undef, undef, undef, undef, undef, undef, undef, undef, undef, undef, undef, undef, undef, undef, undef, undef], defers := [] })
    (fun x W a' A B ⟨h1, h2⟩ hs => ⟨std_var hs h1, h2⟩) ?assign ?body ?done ?stop
  case assign =>
    rintro i ⟨b, pa, pb⟩ W hx hi hsz
    dsimp only [encQ]
    gi_wp2
    refine ⟨⟨Var.new W [.int .i64 pa, .string pb], ?_⟩, (Below.refl _ _).alloc (Nat.le_refl _) _⟩
    first | rfl | trivial
  case body =>
    rintro i ⟨b, pa, pb⟩ a' W0 W hx ⟨h1, h2, h3, h4⟩ ⟨hV, rfl⟩ hs1 hs2
    have hm : (pa, pb) ∈ l := pairs_mem nx l _ (List.mem_of_getElem? hx)
    have hbd : bdP (pa, pb) := hp _ hm
    have HT : Hid (((pairs nx l).take (i + 1)).all (okQ5 nx lim) = (((pairs nx l).take i).all (okQ5 nx lim) && okQ5 nx lim (b, pa, pb))) := by
      show _ = _
      rw [List.take_add_one, hx]
      simp
    have HA : Hid (okQ5 nx lim (b, pa, pb) = false → (pairs nx l).all (okQ5 nx lim) = false) := fun h => by
      rw [List.all_eq_false]
      exact ⟨_, List.mem_of_getElem? hx, by rw [h]; simp⟩
    have d0 := Draw.Later.cell (h1.cell (i := 0) rfl)
    have d1 := Draw.Later.cell (h1.cell (i := 1) rfl)
    have d2 := Draw.Later.cell (h1.cell (i := 2) rfl)
    have d3 := Draw.Later.cell (h1.cell (i := 3) rfl)
    have d4 := Draw.Later.cell (h1.cell (i := 4) rfl)
    have d5 := Draw.Later.cell (h1.cell (i := 5) rfl)
    have f0 := Draw.Later.cell (hV.cell (i := 0) rfl)
    have f1 := Draw.Later.cell (hV.cell (i := 1) rfl)
    obtain ⟨e, he⟩ : ∃ e, endP (pa, pb) = e := ⟨_, rfl⟩
    have HE : Hid _ := he
    have HLIM : Hid _ := hlim
    have HP : Hid _ := hp
    obtain ⟨pv, hpv⟩ : ∃ pv, partB (pa, pb) = pv := ⟨_, rfl⟩
    have HPB : Hid _ := hpv
    have ho : Hid (okQ5 nx lim (b, pa, pb) = (pv && (!decide (pa = nx) && (!decide (pa < b) && !decide (lim < e))))) := by show _ = _; simp only [okQ5, hpv, he]
    clear he hlim hp hpv hm hx hV V0 V1 V2 V3 L4 B4
    cases pv
    · have HO : Hid (okQ5 nx lim (b, pa, pb) = false) := by show _ = _; rw [ho.out]; rfl
      gi_wp2_with fail
      refine region_round_later hmix (by kernel_rfl) (by kernel_rfl) (fun ⟨_, _, h⟩ => h) ?_
      repeat (go_big_quiet_step (first | (go_at_call 121; exact Draw.later_of (isPartEq _ hbd HPB.out)) | (go_at_call 122; exact Draw.later_of (behindEq _ hbd HE.out)) | (go_at_call 123; exact Draw.later_of (limitOfI _ _ _ _ _ _ _ _ _ HN.out hb HC.out HLIM.out))))
      refine wpQuiet_nil ?_
      intro wq hw'
      obtain ⟨q, hq⟩ := hw'
      have hBq := q.h
      rw [← hq] at hBq
      clear hq q
      have vq := (h2.later hBq).cell (i := 0) rfl
      have vf := (h2.later hBq).free 0
      gi_wp2
      exact ⟨(Chg.later hBq).trans (Chg.kept ((Draw.Kept.refl (w.heap.size + 1) wq).setCell (p := ⟨w.heap.size + 1, 0, none⟩) (.inl rfl) (.bool false)) (fun o ho => ⟨rfl, by rw [show wq.heap[w.heap.size + 1]? = _ from h2.later hBq] at ho; cases ho; rfl⟩)), rfl, (h2.later hBq).set 0 _, (h3.trans (hBq.mono h3.size)).setCell (by simp) _, HA.out HO.out⟩
    by_cases g1 : pa = nx
    · have HO : Hid (okQ5 nx lim (b, pa, pb) = false) := by show _ = _; rw [ho.out]; simp [g1]
      have g1' : (pa == nx) = true := by simp [g1]
      clear g1
      gi_wp2_with fail
      refine region_round_later hmix (by kernel_rfl) (by kernel_rfl) (fun ⟨_, _, h⟩ => h) ?_
      repeat (go_big_quiet_step (first | (go_at_call 121; exact Draw.later_of (isPartEq _ hbd HPB.out)) | (go_at_call 122; exact Draw.later_of (behindEq _ hbd HE.out)) | (go_at_call 123; exact Draw.later_of (limitOfI _ _ _ _ _ _ _ _ _ HN.out hb HC.out HLIM.out))))
      refine wpQuiet_nil ?_
      intro wq hw'
      obtain ⟨q, hq⟩ := hw'
      have hBq := q.h
      rw [← hq] at hBq
      clear hq q
      have vq := (h2.later hBq).cell (i := 0) rfl
      have vf := (h2.later hBq).free 0
      gi_wp2
      exact ⟨(Chg.later hBq).trans (Chg.kept ((Draw.Kept.refl (w.heap.size + 1) wq).setCell (p := ⟨w.heap.size + 1, 0, none⟩) (.inl rfl) (.bool false)) (fun o ho => ⟨rfl, by rw [show wq.heap[w.heap.size + 1]? = _ from h2.later hBq] at ho; cases ho; rfl⟩)), rfl, (h2.later hBq).set 0 _, (h3.trans (hBq.mono h3.size)).setCell (by simp) _, HA.out HO.out⟩
    have g1' : (pa == nx) = false := by simp [g1]
    by_cases g2 : pa < b
    · have HO : Hid (okQ5 nx lim (b, pa, pb) = false) := by show _ = _; rw [ho.out]; simp [g2]
      have g2' : decide (pa < b) = true := decide_eq_true g2
      clear g1
      gi_wp2_with fail
      refine region_round_later hmix (by kernel_rfl) (by kernel_rfl) (fun ⟨_, _, h⟩ => h) ?_
      repeat (go_big_quiet_step (first | (go_at_call 121; exact Draw.later_of (isPartEq _ hbd HPB.out)) | (go_at_call 122; exact Draw.later_of (behindEq _ hbd HE.out)) | (go_at_call 123; exact Draw.later_of (limitOfI _ _ _ _ _ _ _ _ _ HN.out hb HC.out HLIM.out))))
      refine wpQuiet_nil ?_
      intro wq hw'
      obtain ⟨q, hq⟩ := hw'
      have hBq := q.h
      rw [← hq] at hBq
      clear hq q
      have vq := (h2.later hBq).cell (i := 0) rfl
      have vf := (h2.later hBq).free 0
      gi_wp2
      exact ⟨(Chg.later hBq).trans (Chg.kept ((Draw.Kept.refl (w.heap.size + 1) wq).setCell (p := ⟨w.heap.size + 1, 0, none⟩) (.inl rfl) (.bool false)) (fun o ho => ⟨rfl, by rw [show wq.heap[w.heap.size + 1]? = _ from h2.later hBq] at ho; cases ho; rfl⟩)), rfl, (h2.later hBq).set 0 _, (h3.trans (hBq.mono h3.size)).setCell (by simp) _, HA.out HO.out⟩
    have g2' : decide (pa < b) = false := decide_eq_false g2
    by_cases g3 : lim < e
    · have HO : Hid (okQ5 nx lim (b, pa, pb) = false) := by show _ = _; rw [ho.out]; simp [g3]
      have g3' : decide (lim < e) = true := decide_eq_true g3
      clear g1
      gi_wp2_with fail
      refine region_round_later hmix (by kernel_rfl) (by kernel_rfl) (fun ⟨_, _, h⟩ => h) ?_
      repeat (go_big_quiet_step (first | (go_at_call 121; exact Draw.later_of (isPartEq _ hbd HPB.out)) | (go_at_call 122; exact Draw.later_of (behindEq _ hbd HE.out)) | (go_at_call 123; exact Draw.later_of (limitOfI _ _ _ _ _ _ _ _ _ HN.out hb HC.out HLIM.out))))
      refine wpQuiet_nil ?_
      intro wq hw'
      obtain ⟨q, hq⟩ := hw'
      have hBq := q.h
      rw [← hq] at hBq
      clear hq q
      have vq := (h2.later hBq).cell (i := 0) rfl
      have vf := (h2.later hBq).free 0
      gi_wp2
      exact ⟨(Chg.later hBq).trans (Chg.kept ((Draw.Kept.refl (w.heap.size + 1) wq).setCell (p := ⟨w.heap.size + 1, 0, none⟩) (.inl rfl) (.bool false)) (fun o ho => ⟨rfl, by rw [show wq.heap[w.heap.size + 1]? = _ from h2.later hBq] at ho; cases ho; rfl⟩)), rfl, (h2.later hBq).set 0 _, (h3.trans (hBq.mono h3.size)).setCell (by simp) _, HA.out HO.out⟩
    · have HO : Hid (okQ5 nx lim (b, pa, pb) = true) := by show _ = _; rw [ho.out]; simp [g1]; omega
      have g3' : decide (lim < e) = false := decide_eq_false g3
      clear g1
      gi_wp2_with fail
      refine region_round_later hmix (by kernel_rfl) (by kernel_rfl) (fun ⟨_, _, h⟩ => h) ?_
      repeat (go_big_quiet_step (first | (go_at_call 121; exact Draw.later_of (isPartEq _ hbd HPB.out)) | (go_at_call 122; exact Draw.later_of (behindEq _ hbd HE.out)) | (go_at_call 123; exact Draw.later_of (limitOfI _ _ _ _ _ _ _ _ _ HN.out hb HC.out HLIM.out))))
      refine wpQuiet_nil ?_
      intro wq hw'
      obtain ⟨q, hq⟩ := hw'
      have hBq := q.h
      rw [← hq] at hBq
      clear hq q
      have vq := (h2.later hBq).cell (i := 0) rfl
      have vf := (h2.later hBq).free 0
      gi_wp2
      exact ⟨Chg.later hBq, h1.later hBq, h2.later hBq, h3.trans (hBq.mono h3.size), by rw [HT.out, HO.out, h4]; rfl⟩
  case done =>
    rintro W ⟨h1, h2, h3, h4⟩ hK
    have vq := h2.cell (i := 0) rfl
    have vf := h2.free 0
    gi_wp2
    have hv := var_put (o := .deferred none) (h2.set 0 (.bool true)) (D := W4.heap.size) (by omega)
    have c0 := hv.cell (i := 0) rfl
    rw [S4] at c0
    refine ret_marks (.bool true) (heap_cell hK (by simp; omega)) (by rw [res_cell rfl]; go_simp) ⟨?_, below_put (h3.setCell (by simp) _) (by omega)⟩
    rw [List.take_of_length_le (by simp)] at h4
    rw [h4]
  case stop =>
    rintro c W ⟨rfl, h2, h3, h4⟩ hK
    gi_wp2
    have hv := var_put (o := .deferred none) h2 (D := W4.heap.size) (by omega)
    have c0 := hv.cell (i := 0) rfl
    rw [S4] at c0
    exact ret_marks (.bool false) hK (by rw [res_cell rfl]; go_simp) ⟨by rw [h4], below_put h3 (by omega)⟩
end Go.Proofs.Ytldghgadkncehaa.Tak

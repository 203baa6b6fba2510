/- Contract of the specification's l5Join, through a pointer; lists of at most 2^20 parts. -/
import Derived.Test.YthdkajaodfkgnaaTakE
namespace Go.Proofs.Ythdkajaodfkgnaa.Tak
open Go.RowKit RowG
set_option linter.unusedVariables false
set_option linter.unusedSimpArgs false

/-- What is next goes to the bytes, as far as there is no hole. -/
def joinT : Int → ByteArray → List Pt → Int × ByteArray × List Pt
  | nx, bs, [] => (nx, bs, [])
  | nx, bs, p :: r => if p.1 = nx then joinT (endP p) (bs ++ p.2) r else (nx, bs, p :: r)
def tot : List Pt → Nat
  | [] => 0
  | p :: r => p.2.size + tot r
/-- How long the list is to which a variable's third cell leads. -/
def lenAt (k ow : Nat) (w : World) : Nat := match w.cell? ⟨k, ow + 2, none⟩ with
  | some (.slice _ n _) => n
  | _ => 0
theorem lenAt_is {k ow : Nat} {w : World} {a : Option Addr} {n c : Nat} (h : w.cell? ⟨k, ow + 2, none⟩ = some (.slice a n c)) : lenAt k ow w = n := by unfold lenAt; rw [h]

set_option maxHeartbeats 4000000 in
theorem l5JoinW {T : TypeId} {pre post : List Value} {ow : Nat} (k B : Nat) (nx0 : Int) (bs0 : ByteArray) (a0 : Option Addr) (c0 : Nat) (cp fi : Int) (en : Bool) (l0 : List Pt) (w : World)
    (hv : Win T pre post ow w k [.int .i64 nx0, .string bs0, .slice a0 l0.length c0, .int .i64 cp, .int .i64 fi, .bool en]) (ho : partE.Own 69 w B a0 c0 l0) (hB : B ≤ w.heap.size) (hka : ∀ x, a0 = some x → x.block ≠ k) (hl : l0.length ≤ 1048576) (hp : Bd l0) (ht : bs0.size + tot l0 ≤ 1099511627776) :
    Calls Try.prog 86 #[.pointer (some ⟨k, ow, none⟩)] w fun x w' => ∃ a' c', x = .returned (.tuple #[]) ∧ Win T pre post ow w' k [.int .i64 (joinT nx0 bs0 l0).1, .string (joinT nx0 bs0 l0).2.1, .slice a' (joinT nx0 bs0 l0).2.2.length c', .int .i64 cp, .int .i64 fi, .bool en] ∧ partE.Own 69 w' B a' c' (joinT nx0 bs0 l0).2.2 ∧ Draw.Kept k w w' ∧ ∀ x, a' = some x → x.block ≠ k := by
  have hmix := mix
  go_enter Try.func86, Try.ntmps86
  go_wp2_with fail
  go_loopw [] (fun wr => ∃ (nx : Int) (bs : ByteArray) (a : Option Addr) (c : Nat) (l : List Pt), Win T pre post ow wr k [.int .i64 nx, .string bs, .slice a l.length c, .int .i64 cp, .int .i64 fi, .bool en] ∧ partE.Own 69 wr B a c l ∧ Draw.Kept k w wr ∧ Hid (joinT nx0 bs0 l0 = joinT nx bs l) ∧ l.length ≤ 1048576 ∧ Hid (Bd l) ∧ bs.size + tot l ≤ 1099511627776 ∧ Hid (∀ x, a = some x → x.block ≠ k)) (fun wr => lenAt k ow wr)
  case atStart => exact ⟨nx0, bs0, a0, c0, l0, hv, ho, Draw.Kept.refl _ _, rfl, hl, hp, ht, hka⟩
  case round =>
    clear hv ho hl hp ht hka
    obtain ⟨nx, bs, a, c, l, hv, ho, hK, HJ, hl, HP, ht, HKA⟩ := hrel
    have hBr : B ≤ wr.heap.size := Nat.le_trans hB hK.size
    have d2 := Draw.Later.cell (hv.cell (i := 2) rfl)
    have d0 := Draw.Later.cell (hv.cell0 rfl)
    have HLN : Hid (lenAt k ow wr = l.length) := lenAt_is (hv.cell (i := 2) rfl)
    cases l with
    | nil =>
      have HF : Hid (joinT nx0 bs0 l0 = (nx, bs, [])) := by show _ = _; rw [HJ.out, joinT]
      have hz : ([] : List Pt).length = 0 := rfl
      simp only [List.length_nil] at d2
      clear HJ HLN
      go_wp2_with fail
      refine Draw.wp_region_later hmix (by kernel_rfl) ?_
      repeat (go_big_quiet_step (fail))
      refine wpQuiet_nil ?_
      intro wq hw'
      obtain ⟨q, hq⟩ := hw'
      have hBq := q.h
      rw [← hq] at hBq
      clear hq q d2 d0
      go_wp2_with fail
      go_end0
      exact ⟨a, c, rfl, by rw [HF.out]; exact hv.later hBq, by rw [HF.out]; exact ho.later hBq, hK.trans (Draw.Kept.ofBelow hBq (Nat.le_refl _)), HKA.out⟩
    | cons p r =>
      obtain ⟨pa, pb⟩ := p
      obtain ⟨hp0, hpa, hpb⟩ := HP.out _ (List.mem_cons_self ..)
      replace hp0 : -1152921504606846976 ≤ pa := hp0
      replace hpa : pa ≤ 4611686018427387904 := hpa
      replace hpb : pb.size ≤ 2097152 := hpb
      rcases ho.lies with hL | ⟨b, off, ha, hL⟩
      · cases hL
      have c0' : wr.cell? ⟨b, off, none⟩ = some (.int .i64 pa) := by simpa using El.Lies.cell hL (i := 0) (j := 0) rfl rfl
      have c1' : wr.cell? ⟨b, off + 1, none⟩ = some (.string pb) := by simpa using El.Lies.cell hL (i := 0) (j := 1) rfl rfl
      have e0 := Draw.Later.cell c0'
      have hrl : ((pa, pb) :: r).length = r.length + 1 := rfl
      have i0 : (0 : Int) < ((r.length : Int) + 1) := by omega
      have HA : Hid (a = some ⟨b, off, none⟩) := ha
      have hob := ho.lt ⟨b, off, none⟩ ha
      replace hob : B ≤ b ∧ b < wr.heap.size := hob
      rw [hrl, ha] at d2
      clear hL
      by_cases hx : pa = nx
      · subst hx
        have HF : Hid (joinT nx0 bs0 l0 = joinT (endP (pa, pb)) (bs ++ pb) r) := by show _ = _; rw [HJ.out, joinT, if_pos rfl]
        clear HJ
        go_wp2_with fail
        refine Draw.wp_region_later hmix (by kernel_rfl) ?_
        repeat (go_big_quiet_step (fail))
        refine wpQuiet_nil ?_
        intro wq hw'
        obtain ⟨q, hq⟩ := hw'
        have hBq := q.h
        rw [← hq] at hBq
        clear hq q d2 d0 e0
        have v1 := hv.later hBq
        have o1 := ho.later hBq
        have K1 := hK.trans (Draw.Kept.ofBelow hBq (Nat.le_refl _))
        have e0 := (hBq.cell (p := ⟨b, off, none⟩) hob.2).trans c0'
        have e1 := (hBq.cell (p := ⟨b, off + 1, none⟩) hob.2).trans c1'
        have hb1 : b < wq.heap.size := Nat.lt_of_lt_of_le hob.2 hBq.size
        clear hBq hv ho hK c0' c1' ha
        have s1 := v1.cell (i := 1) rfl
        have s2 := v1.cell (i := 2) rfl
        rw [HA.out, hrl] at s2
        have f1 := v1.free 1
        have hkb : k ≠ b := fun q => HKA.out ⟨b, off, none⟩ HA.out q.symm
        have ht2 : bs.size + (pb.size + tot r) ≤ 1099511627776 := ht
        have hcat : ¬ 9223372036854775807 < bs.size + pb.size := by omega
        go_wp2_with fail
        go_region
        have v2 := (v1.set 1 (.string (bs ++ pb))).drew
        have o2 := (o1.setCell (p := ⟨k, ow + 1, none⟩) (fun x e => HKA.out x e) (.string (bs ++ pb))).drew
        have K2 := (K1.setCell (p := ⟨k, ow + 1, none⟩) (.inl rfl) (.string (bs ++ pb))).drew
        have g0 : (wq.setCell ⟨k, ow + 1, none⟩ (.string (bs ++ pb))).drew.cell? ⟨b, off, none⟩ = some (.int .i64 pa) := (World.cell?_of_block (w := wq) (Below.heap_setCell _ _ _ _ (Ne.symm hkb))).trans e0
        have g1 : (wq.setCell ⟨k, ow + 1, none⟩ (.string (bs ++ pb))).drew.cell? ⟨b, off + 1, none⟩ = some (.string pb) := (World.cell?_of_block (w := wq) (Below.heap_setCell _ _ _ _ (Ne.symm hkb))).trans e1
        simp only [List.set_cons_succ, List.set_cons_zero] at v2
        have hZ : ∀ q : World, Calls Try.prog 41 #[.agg #[.int .i64 pa, .string pb]] q fun x w' => x = .returned (.int .i64 (endP (pa, pb))) ∧ Below q.heap.size q w' := fun q => l5End pa pb q hpa (by omega) (by omega)
        generalize endP (pa, pb) = Z at *
        clear v1 o1 K1 e0 e1 s1 s2 f1 hb1 hcat
        generalize (wq.setCell ⟨k, ow + 1, none⟩ (.string (bs ++ pb))).drew = W2 at *
        have HBB : Hid ((bs ++ pb).size + tot r ≤ 1099511627776) := by show _ ≤ _; rw [ByteArray.size_append]; omega
        generalize bs ++ pb = bb at *
        have s2 := v2.cell (i := 2) rfl
        rw [HA.out, hrl] at s2
        go_wp2_with fail
        refine (hZ _).mono ?_
        rintro x w3 ⟨rfl, b3⟩
        have v3 := v2.later b3
        have o3 := o2.later b3
        have K3 := K2.trans (Draw.Kept.ofBelow b3 (Nat.le_refl _))
        have t0 := v3.cell0 rfl
        have t1 := v3.free0
        clear v2 o2 K2 g0 g1 s2 hZ b3
        go_upto_region 3 with (fail)
        have v4 := v3.set0 (.int .i64 Z)
        have o4 := o3.setCell (p := ⟨k, ow, none⟩) (fun x e => HKA.out x e) (.int .i64 Z)
        have K4 := K3.setCell (p := ⟨k, ow, none⟩) (.inl rfl) (.int .i64 Z)
        simp only [List.set_cons_succ, List.set_cons_zero] at v4
        clear v3 o3 K3 t0 t1
        generalize w3.setCell ⟨k, ow, none⟩ (.int .i64 Z) = W4 at *
        have hB4 : B ≤ W4.heap.size := Nat.le_trans hB K4.size
        have v5 := v4.alloc (.cells #[] 69)
        have o5 := o4.alloc (.cells #[] 69)
        have K5 := K4.alloc (.cells #[] 69)
        have on := (El.Own.made (E := partE) (T := 69) W4)
        have hz : ([] : List Pt).length + (((pa, pb) :: r).drop 1).length ≤ 4194304 := by simp; simp at hl; omega
        have HD1 : Hid (((pa, pb) :: r).length - 1 = (((pa, pb) :: r).drop 1).length) := by show _ = _; simp
        have h1l : 1 ≤ ((pa, pb) :: r).length := by simp
        have hBs : W4.heap.size ≤ (W4.alloc (.cells #[] 69)).heap.size := by simp
        have s5 := v5.cell (i := 2) rfl
        have l5 := o5.lies
        have hc5 := o5.cap
        have hn5 := o5.none_cap
        clear hrl
        go_wp2_with (first | (refine wpList_from typ (by rfl) _ _ (by rfl) a _ c ((pa, pb) :: r) rfl (by rfl) .i64 1 (by rfl) h1l hc5 l5 hn5 ?_; intro sp hsp1 hsp2 hsp3) | (at_builtin; refine wpList_app typ (by decide) (by rfl) _ _ (by rfl) W4.heap.size (some ⟨W4.heap.size, 0, none⟩) 0 0 [] (((pa, pb) :: r).drop 1) rfl (by rfl) on hBs sp _ _ HD1.out (by rfl) hsp1 hsp2 hz ?_; intro a6 q6 w6 o6 g6; refine stand ?_))
        rw [List.nil_append] at o6
        replace o6 : partE.Own 69 w6 W4.heap.size a6 q6 r := o6
        have v6 := v5.grown g6 (by intro g hg; simp [blk] at hg; have := v4.lt; omega)
        have K6 := kept_grown K5 g6 (by intro g hg; simp [blk] at hg; have := K4.size; omega)
        have s6 := v6.cell (i := 2) rfl
        have f6 := v6.free 2
        have hkl := v4.lt
        clear v4 o4 K4 v5 o5 K5 on hz HD1 h1l hBs s5 l5 hc5 hn5 hsp1 hsp2 hsp3 g6
        show wpList _ _ _ _ _ _
        go_wp2_with fail
        have v7 := v6.set 2 (.slice a6 r.length q6)
        have o7 := (o6.mono hB4).setCell (p := ⟨k, ow + 2, none⟩) (fun x e => by have := (o6.lt x e).1; dsimp only; omega) (.slice a6 r.length q6)
        have K7 := K6.setCell (p := ⟨k, ow + 2, none⟩) (.inl rfl) (.slice a6 r.length q6)
        have HM : Hid (lenAt k ow (w6.setCell ⟨k, ow + 2, none⟩ (.slice a6 r.length q6)) = r.length) := lenAt_is (v7.cell (i := 2) rfl)
        go_roundw
        case rel => exact ⟨Z, bb, a6, q6, r, v7, o7, K7, HF, by simp at hl; omega, fun p hp => HP.out p (List.mem_cons_of_mem _ hp), HBB.out, fun x e => by have := (o6.lt x e).1; omega⟩
        case measure => rw [HM.out, HLN.out]; simp
      · have HF : Hid (joinT nx0 bs0 l0 = (nx, bs, (pa, pb) :: r)) := by show _ = _; rw [HJ.out, joinT, if_neg hx]
        have hxd : decide (pa = nx) = false := decide_eq_false hx
        have hxb : (pa == nx) = false := by simp [hx]
        clear HJ HLN
        go_wp2_with fail
        refine Draw.wp_region_later hmix (by kernel_rfl) ?_
        repeat (go_big_quiet_step (fail))
        refine wpQuiet_nil ?_
        intro wq hw'
        obtain ⟨q, hq⟩ := hw'
        have hBq := q.h
        rw [← hq] at hBq
        clear hq q d2 d0 e0
        go_wp2_with fail
        go_end0
        exact ⟨a, c, rfl, by rw [HF.out]; exact hv.later hBq, by rw [HF.out]; exact ho.later hBq, hK.trans (Draw.Kept.ofBelow hBq (Nat.le_refl _)), HKA.out⟩

theorem l5Join (k B : Nat) (nx0 : Int) (bs0 : ByteArray) (a0 : Option Addr) (c0 : Nat) (cp fi : Int) (en : Bool) (l0 : List Pt) (w : World)
    (hv : Var 26 w k [.int .i64 nx0, .string bs0, .slice a0 l0.length c0, .int .i64 cp, .int .i64 fi, .bool en]) (ho : partE.Own 69 w B a0 c0 l0) (hB : B ≤ w.heap.size) (hka : ∀ x, a0 = some x → x.block ≠ k) (hl : l0.length ≤ 1048576) (hp : Bd l0) (ht : bs0.size + tot l0 ≤ 1099511627776) :
    Calls Try.prog 86 #[.pointer (some ⟨k, 0, none⟩)] w fun x w' => ∃ a' c', x = .returned (.tuple #[]) ∧ Var 26 w' k [.int .i64 (joinT nx0 bs0 l0).1, .string (joinT nx0 bs0 l0).2.1, .slice a' (joinT nx0 bs0 l0).2.2.length c', .int .i64 cp, .int .i64 fi, .bool en] ∧ partE.Own 69 w' B a' c' (joinT nx0 bs0 l0).2.2 ∧ Draw.Kept k w w' ∧ ∀ x, a' = some x → x.block ≠ k :=
  (l5JoinW k B nx0 bs0 a0 c0 cp fi en l0 w hv.win ho hB hka hl hp ht).mono fun _ _ ⟨a', c', h1, h2, h3⟩ => ⟨a', c', h1, h2.whole, h3⟩

end Go.Proofs.Ythdkajaodfkgnaa.Tak

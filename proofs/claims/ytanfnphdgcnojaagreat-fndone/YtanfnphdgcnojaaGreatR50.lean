/- Contracts of this seat's functions, and their mathematics (DonD DonE). -/
import Derived.Test.YtanfnphdgcnojaaGreatR41
import Derived.Test.YtanfnphdgcnojaaGreatR49
import Derived.Test.YtanfnphdgcnojaaGreatR35
set_option linter.unusedVariables false
set_option linter.unusedSimpArgs false
set_option maxRecDepth 10000
set_option maxHeartbeats 8000000
namespace Go.Proofs.YtanfnphdgcnojaaGreat.Wor
open Go.RowKit RowG Hop Roa Pum Lin
theorem TH.drew' {c k B : Nat} {w wr : World} {W : Wd} (s : TH c k B w wr W) : TH c k B w wr.drew W := s.drawn s.cu.drew ⟨rfl, rfl, rfl, Nat.le_refl _, fun _ _ _ => rfl⟩
theorem l14DrawEnded (c : Nat) (w : World) (hc : Draw.Cur w c) :
  Calls Tryz.prog 43 #[.pointer (some ⟨c, 0, none⟩)] w fun e w' => ∃ (W : Wd) (g cH : Nat) (xs : List Ha) (gR cR : Nat), e = .returned (.agg #[.slice (some ⟨g, 0, none⟩) 3 cH, .slice (some ⟨gR, 0, none⟩) W.rs.length cR]) ∧ WAs w' w.heap.size g cH xs (some ⟨gR, 0, none⟩) cR W ∧ Draw.Cur w' c ∧ Draw.Kept c w w' := by
 have hmix := Roa.mix
 have hcl := hc.lt
 have vR : Var 30 (w.alloc (.cells #[.slice none 0 0, .slice none 0 0] 30)) w.heap.size [.slice none 0 0, .slice none 0 0] := Var.new w _
 have cu0 := hc.alloc (.cells #[.slice none 0 0, .slice none 0 0] 30)
 have K0 := (Draw.Kept.refl c w).alloc (.cells #[.slice none 0 0, .slice none 0 0] 30)
 go_enter Tryz.func43, Tryz.ntmps43
 go_wp2_with fail
 generalize w.alloc (.cells #[.slice none 0 0, .slice none 0 0] 30) = V at *
 have hzV := vR.lt
 refine (l16Draw c _ cu0).mono ?_
 rintro e w1 ⟨v, W, rfl, ⟨g2, h2, xs2, a2, r2, rfl, A2⟩, cu1, k1⟩
 obtain ⟨B, hBV⟩ : ∃ B, B = V.heap.size := ⟨_, rfl⟩
 have hcB : c < B := by omega
 have hRB : w.heap.size < B := by omega
 have hz1 : B ≤ w1.heap.size := by rw [hBV]; exact k1.size
 have S : TH c w1.heap.size B V (w1.alloc (.cells #[.slice (some ⟨g2, 0, none⟩) 3 h2, .slice a2 W.rs.length r2, .string W.tx, .int .i64 W.rd, .bool W.en, .bool W.dn, .bool W.sn] 94)) W := by
  have A3 := A2.later ((Below.refl w1.heap.size w1).alloc (Nat.le_refl _) (.cells #[.slice (some ⟨g2, 0, none⟩) 3 h2, .slice a2 W.rs.length r2, .string W.tx, .int .i64 W.rd, .bool W.en, .bool W.dn, .bool W.sn] 94))
  have vB : Var 94 (w1.alloc (.cells #[.slice (some ⟨g2, 0, none⟩) 3 h2, .slice a2 W.rs.length r2, .string W.tx, .int .i64 W.rd, .bool W.en, .bool W.dn, .bool W.sn] 94)) w1.heap.size [.slice (some ⟨g2, 0, none⟩) 3 h2, .slice a2 W.rs.length r2, .string W.tx, .int .i64 W.rd, .bool W.en, .bool W.dn, .bool W.sn] := Var.new w1 _
  have K1 := k1.alloc (.cells #[.slice (some ⟨g2, 0, none⟩) 3 h2, .slice a2 W.rs.length r2, .string W.tx, .int .i64 W.rd, .bool W.en, .bool W.dn, .bool W.sn] 94)
  rw [← hBV] at A3
  exact ⟨⟨g2, h2, xs2, a2, r2, ⟨vB.win, A3.L, A3.hs, A3.R⟩⟩, A3.ok, cu1.alloc _, ⟨K1.os, K1.tape, K1.output, K1.size, fun i h1 _ h3 => K1.block i (by omega) h3⟩, fun i cs m _ h2 hi => (K1.block i (Array.getElem?_eq_some_iff.1 hi).1 h2).trans hi, Nat.le_trans hz1 (by simp), by omega, hcB⟩
 go_upto_region 2 with (fail)
 clear A2 cu1 k1 cu0
 generalize w1.alloc (.cells #[.slice (some ⟨g2, 0, none⟩) 3 h2, .slice a2 W.rs.length r2, .string W.tx, .int .i64 W.rd, .bool W.en, .bool W.dn, .bool W.sn] 94) = V1 at *
 generalize w1.heap.size = k at *
 have fin : ∀ {wz : World} {W' : Wd}, TH c k B V wz W' → Var 30 wz w.heap.size [.slice none 0 0, .slice none 0 0] ∧ Draw.Kept c w wz := fun {wz W'} s =>
  ⟨vR.same (s.f.block _ hRB (by omega) (by omega)), ⟨s.f.os.trans K0.os, s.f.tape.trans K0.tape, s.f.output.trans K0.output, Nat.le_trans K0.size s.f.size, fun i hi hc' => (s.f.block i (by omega) (by omega) hc').trans (K0.block i hi hc')⟩⟩
 have HF : Hid _ := @fin
 clear fin
 go_wp2_with fail
 refine (S.act ⟨2, 0, 0, 0, 0, ⟨#[]⟩⟩ (Nat.zero_le _)).mono ?_
 rintro e w2 ⟨rfl, S2, -, -⟩
 replace S := S2
 clear S2
 generalize (doW W ⟨2, 0, 0, 0, 0, ⟨#[]⟩⟩).1 = W at S
 go_wp2_with fail
 refine (Draw.l1Once _ _ _ S.cu).mono ?_
 rintro e w3 ⟨b3, rfl, cu3, k3⟩
 replace S := S.drawn cu3 k3
 clear cu3 k3
 go_upto_if 10 with (fail)
 go_cut [] from 11 to 14 (fun wr => ∃ W', TH c k B V wr W')
 case first =>
  cases b3
  focus
   go_wp2_with fail
   go_meet
   exact ⟨_, S⟩
  focus
   obtain ⟨g4, h4, xs4, a4, r4, A4⟩ := S.lay
   have keepW : ∀ (q : Nat) (d : Nat → Bool) (w' : World), (fun d w' => (d 4 = false → TH c k B V w' W ∧ WAt 94 [] [] 0 w' B k g4 h4 xs4 a4 r4 W) ∧ (d 4 = true → ∃ W', TH c k B V w' W')) d w' → q ≠ 4 → (fun d w' => (d 4 = false → TH c k B V w' W ∧ WAt 94 [] [] 0 w' B k g4 h4 xs4 a4 r4 W) ∧ (d 4 = true → ∃ W', TH c k B V w' W')) (fun j => j == q || d j) w' := fun q d w' h hq => ⟨fun e => h.1 (by rw [← or_ne (d := d) (Ne.symm hq)]; exact e), fun e => h.2 (by rw [← or_ne (d := d) (Ne.symm hq)]; exact e)⟩
   go_wp2_with fail
   refine RegJ.wp_region_J (W := (fun d w' => (d 4 = false → TH c k B V w' W ∧ WAt 94 [] [] 0 w' B k g4 h4 xs4 a4 r4 W) ∧ (d 4 = true → ∃ W', TH c k B V w' W'))) (RegJ.ValE [some (.agg #[.slice (some ⟨g4, 0, none⟩) 3 h4, .slice a4 W.rs.length r4, .string W.tx, .int .i64 W.rd, .bool W.en, .bool W.dn, .bool W.sn]), some (.pointer (some ⟨c, 0, none⟩)), none, none, none] ([(2, 2, fun v _ => ∃ b : Bool, v = Value.bool b), (3, 4, fun v w' => ∃ W', WHold w' B v W')])) [some 11, some 12, some 13, some 14, none] (F := ?_) (is := [0, 1, 2, 3, 4]) hmix (by kernel_rfl) (by kernel_rfl) (by kernel_rfl) (by kernel_rfl) (fun x => ?_) (⟨fun _ => ⟨S.drew', ⟨A4.v.drew, A4.L.drew, A4.hs, A4.R.drew⟩⟩, fun e => by cases e⟩) ?_ (fun dR xR wR hWR hdR hJR => ?_)
   rotate_left 1
   focus (simp only [RegJ.lay, Act.put, Nat.reduceAdd, Nat.zero_add, Draw.lays]; rfl)
   focus
    iterate 5 (refine RegJ.Steps.cons (RegJ.StepAt.mk rfl (fun d x w1 hW1 hJ1 hx1 K hK => ?_)) ?_; simp only [Draw.lays] at hK; rotate_left 1)
    exact RegJ.Steps.nil
    ·have A1 := (hW1.1 (hx1.out 4 (.inr (by kernel_rfl))).1).2; exact step_load_win (by rfl) _ (by rfl) (by rfl) (vs := [.slice (some ⟨g4, 0, none⟩) 3 h4, .slice a4 W.rs.length r4, .string W.tx, .int .i64 W.rd, .bool W.en, .bool W.dn, .bool W.sn]) infoWorld structWorld A1.v (hK.out _ _ (keepW 0 d _ hW1 (by decide)) RegJ.ValE.same (RegJ.ValE.free (Or.inl rfl) rfl))
    ·go_simp; exact hK.out _ _ (keepW 1 d _ hW1 (by decide)) RegJ.ValE.same (RegJ.ValE.free (Or.inl rfl) rfl)
    ·have j1 : x 1 = _ := (hJ1.out 1 (by kernel_rfl)).val rfl; rw [j1] at hK; obtain ⟨qS, qA⟩ := hW1.1 (hx1.out 4 (.inr (by kernel_rfl))).1; have hck := qS.hck; have hcB := qS.hcB; go_simp; refine (Draw.l1Once c 2 _ qS.cu).mono ?_; rintro e wa ⟨b, rfl, cua, ka⟩; go_simp; exact hK.out _ _ ⟨fun _ => ⟨qS.drawn cua ka, ⟨qA.v.kept ka (by omega), qA.L.kept ka hcB, qA.hs, qA.R.kept ka (fun x hx => by have := (qA.R.lt x hx).1; omega)⟩⟩, fun e => absurd e (by simp [(hx1.out 4 (.inr (by kernel_rfl))).1])⟩ (keepN (by intro t ht; simp only [List.mem_cons, List.not_mem_nil, or_false] at ht; rcases ht with rfl | rfl; exact .inl rfl; exact .inr (.inl (hx1.out 3 (.inr (by kernel_rfl))).1))) (RegJ.ValE.got 0 _ _ (Or.inr rfl) rfl rfl ⟨b, rfl⟩)
    ·have j0 : x 0 = _ := (hJ1.out 0 (by kernel_rfl)).val rfl; rw [j0] at hK; obtain ⟨b, j2⟩ := ((hJ1.out 2 (by kernel_rfl)).tie 0 rfl (.inl rfl)); have j2 : x 2 = _ := j2; rw [j2] at hK; obtain ⟨qS, qA⟩ := hW1.1 (hx1.out 4 (.inr (by kernel_rfl))).1; go_simp; refine (l19Calm W g4 h4 r4 a4 xs4 b _ qA.L.ll qA.hs qA.R.lies qA.R.none_cap qS.ok).mono ?_; rintro e wa ⟨v, W', rfl, ⟨g5, h5, xs5, a5, r5, rfl, A5⟩, ba⟩; go_simp; exact hK.out _ _ ⟨fun _ => ⟨qS.later ba, qA.later ba⟩, fun e => absurd e (by simp [(hx1.out 4 (.inr (by kernel_rfl))).1])⟩ (keepN (by intro t ht; simp only [List.mem_cons, List.not_mem_nil, or_false] at ht; rcases ht with rfl | rfl; exact .inr (.inr fun v h => h); exact .inl rfl)) (RegJ.ValE.got 1 _ _ (Or.inr rfl) rfl rfl ⟨W', g5, h5, xs5, a5, r5, rfl, ⟨A5.L.mono qS.hB, A5.hs, A5.R.mono qS.hB, A5.ok⟩⟩)
    ·obtain ⟨qS, qA⟩ := hW1.1 (hx1.out 4 (.inl rfl)).1; obtain ⟨W', g5, h5, xs5, a5, r5, j3, A5⟩ := ((hJ1.out 3 (by kernel_rfl)).tie 1 rfl (.inr (hx1.out 4 (.inl rfl)).1)); have j3 : x 3 = _ := j3; rw [j3] at hK; have v5 := qA.v.whole; have c0 := v5.cell (i := 0) rfl; have c1 := v5.cell (i := 1) rfl; have c2 := v5.cell (i := 2) rfl; have c3 := v5.cell (i := 3) rfl; have c4 := v5.cell (i := 4) rfl; have c5 := v5.cell (i := 5) rfl; have c6 := v5.cell (i := 6) rfl; have y0 := v5.free 0; have y1 := v5.free 1; have y2 := v5.free 2; have y3 := v5.free 3; have y4 := v5.free 4; have y5 := v5.free 5; have y6 := v5.free 6; go_simp; exact hK.out undef _ ⟨fun e => absurd e (by simp), fun _ => ⟨W', qS.store A5⟩⟩ (RegJ.ValE.keep (by intro t ht; simp only [List.mem_cons, List.not_mem_nil, or_false] at ht; rcases ht with rfl | rfl; exact .inr (.inr fun v h => h); exact .inr (.inl ⟨by simp, .inl rfl⟩))) (RegJ.ValE.free (Or.inr rfl) rfl)
   have S5 := hWR.2 (hdR 4 (by simp))
   clear hWR hdR hJR keepW A4
   go_wp2_with fail
   go_meet
   exact S5
 case rest =>
  clear S
  obtain ⟨W5, S⟩ := hcut
  go_wp2_with fail
  refine (Draw.l1Below _ 4 _ S.cu).mono ?_
  rintro e w5 ⟨y, y0, y1, rfl, cu5, k5⟩
  replace S := S.drawn cu5 k5
  clear cu5 k5
  obtain ⟨ny, rfl⟩ := Int.eq_ofNat_of_zero_le y0
  have hny : ny ≤ 3 := by omega
  clear y0 y1
  go_wp2_with fail
  go_loopw [4] (fun nv wr => ∃ (n : Nat) (W' : Wd), n ≤ 3 ∧ nv = .int .i64 n ∧ TH c k B V wr W') (fun nv _ => (intOf nv).toNat)
  case atStart => exact ⟨ny, W5, hny, rfl, S⟩
  case round =>
   clear S
   obtain ⟨n, W6, hn, rfl, S⟩ := hrel
   by_cases hn0 : 0 < n
   case pos =>
    have n0 : (0 : Int) < (n : Int) := by omega
    go_wp2_with fail
    refine (l16DrawThrough c k B W6 _ S.base).mono ?_
    rintro e w7 ⟨gL, capL, L, W7, rfl, -, -, -, S7⟩
    replace S := S.join S7
    clear S7
    go_wp2_with fail
    go_roundw
    case rel => exact ⟨n - 1, W7, by omega, by go_num, S⟩
    case measure => simp [intOf]; omega
   case neg =>
    have n0 : ¬ (0 : Int) < (n : Int) := by omega
    obtain ⟨g4, h4, xs4, a4, r4, A4⟩ := S.lay
    have vA := A4.v.whole
    have c0 := vA.cell (i := 0) rfl
    have c1 := vA.cell (i := 1) rfl
    have hl4 : xs4.length = 3 := by
     have q := congrArg List.length A4.hs
     rw [List.length_map, (hops_iff.1 (ok_parts.1 S.ok).1).1] at q
     exact q
    have hcp := l13Copy (some ⟨g4, 0, none⟩) a4 3 W6.rs.length h4 r4 xs4 W6.rs wr hl4.symm rfl A4.L.ll A4.R.lies A4.R.none_cap (by rw [hl4]; decide) (by have := (roads_len (hops_iff.1 (ok_parts.1 S.ok).1).2.1).2; omega) (few_of S.ok A4.hs)
    have HL4 : Hid (xs4.length = 3) := hl4
    have HHS : Hid (xs4.map (·.h) = W6.hs) := A4.hs
    clear hl4 A4 vA
    go_wp2_with fail
    refine hcp.mono ?_
    rintro e w8 ⟨a', c', ys, g', c'', rfl, La, hma, Ra, ba⟩
    clear hcp c0 c1
    obtain ⟨g, rfl⟩ : ∃ g, a' = some ⟨g, 0, none⟩ := by
     rcases La.row.form with ⟨_, _, h0⟩ | ⟨g, rfl, _⟩
     ·rw [h0] at hma
      have := congrArg List.length hma
      simp [HL4.out] at this
     ·exact ⟨g, rfl⟩
    have zr := S.hB
    have A3 : WAs w8 wr.heap.size g c' ys (some ⟨g', 0, none⟩) c'' W6 := ⟨La, hma.trans HHS.out, Ra, S.ok⟩
    replace S := S.later ba
    obtain ⟨vR8, K8⟩ := HF.out S
    have cu8 := S.cu
    clear La Ra ba hma HHS HL4 S HF
    have e0 := vR8.cell (i := 0) rfl
    have e1 := vR8.cell (i := 1) rfl
    have f0 := vR8.free 0
    have f1 := vR8.free 1
    go_wp2_with fail
    clear e0 e1 f0 f1
    obtain ⟨WZ, hWZ⟩ : ∃ z, Hid (z = (w8.setCell ⟨w.heap.size, 0, none⟩ (.slice (some ⟨g, 0, none⟩) 3 c')).setCell ⟨w.heap.size, 1, none⟩ (.slice (some ⟨g', 0, none⟩) W6.rs.length c'')) := ⟨_, rfl⟩
    have ka : Draw.Kept w.heap.size w8 WZ := by rw [hWZ.out]; exact ((Draw.Kept.refl _ _).setCell (p := ⟨w.heap.size, 0, none⟩) (.inl rfl) _).setCell (p := ⟨w.heap.size, 1, none⟩) (.inl rfl) _
    have vv : Var 30 WZ w.heap.size [.slice (some ⟨g, 0, none⟩) 3 c', .slice (some ⟨g', 0, none⟩) W6.rs.length c''] := by rw [hWZ.out]; exact (vR8.set 0 _).set 1 _
    have A6 := A3.keptV vR8 (by decide) (by decide) (by decide) (by decide) ka
    have cu6 := cu8.upto (fun i hi => ka.block i (by have := cu8.lt; omega) (by omega))
    have K6 : Draw.Kept c w WZ := ⟨ka.os.trans K8.os, ka.tape.trans K8.tape, ka.output.trans K8.output, Nat.le_trans K8.size ka.size, fun i hi hc' => (ka.block i (Nat.lt_of_lt_of_le hi K8.size) (by omega)).trans (K8.block i hi hc')⟩
    have hz9 : w.heap.size ≤ wr.heap.size := by omega
    clear ka A3 vR8 cu8 K8
    rw [← hWZ.out]
    clear hWZ
    have e0 := vv.cell (i := 0) rfl
    have e1 := vv.cell (i := 1) rfl
    refine bodyPost_ret (v := .agg #[.slice (some ⟨g, 0, none⟩) 3 c', .slice (some ⟨g', 0, none⟩) W6.rs.length c'']) (by rw [Hop.res_one rfl]; go_simp) rfl ⟨W6, g, c', ys, g', c'', rfl, ⟨A6.L.mono hz9, A6.hs, A6.R.mono hz9, A6.ok⟩, cu6, K6⟩
end Go.Proofs.YtanfnphdgcnojaaGreat.Wor
namespace Go.Proofs.YtanfnphdgcnojaaGreat.Wor
open Go.RowKit RowG Hop Roa Pum Lin
theorem WAs.dl {w : World} {B g cH gR cR : Nat} {xs : List Ha} {W : Wd} (A : WAs w B g cH xs (some ⟨gR, 0, none⟩) cR W) : DL w (some ⟨g, 0, none⟩) xs (some ⟨gR, 0, none⟩) W.rs :=
 LineLay.dl A.L A.R (by have := (roads_len (hops_iff.1 (ok_parts.1 A.ok).1).2.1).2; omega) (by rw [A.len]; exact Nat.le_refl _) (fun x hx => (sms_of A.ok A.hs x hx).1)
structure DN (k2 c k5 B : Nat) (w wr : World) (aH aR : Option Addr) (cH cR : Nat) (xs : List Ha) (rs : List Rd) : Prop where
 v5 : Var 30 wr k5 [.slice aH xs.length cH, .slice aR rs.length cR]
 D : DL wr aH xs aR rs
 lo : DLo B aH xs aR
 cu : Draw.Cur wr c
 b : Below k2 w wr
 h1 : k2 < c
 h2 : c < B
 h3 : c < k5
 hw : k2 ≤ w.heap.size
theorem DN.drawn {k2 c k5 B : Nat} {w wr wa : World} {aH aR : Option Addr} {cH cR : Nat} {xs : List Ha} {rs : List Rd} (s : DN k2 c k5 B w wr aH aR cH cR xs rs) (cua : Draw.Cur wa c) (ka : Draw.Kept c wr wa) : DN k2 c k5 B w wa aH aR cH cR xs rs := by
 have h1 := s.h1
 have h2 := s.h2
 have h3 := s.h3
 exact ⟨s.v5.kept ka (by omega), s.D.kept ka (fun x hx => by have := s.lo.h x hx; omega) (fun x hx => by have := s.lo.r x hx; omega) (fun y hy => ⟨fun x hx => by have := (s.lo.x y hy).1 x hx; omega, fun x hx => by have := (s.lo.x y hy).2 x hx; omega⟩), s.lo, cua, s.b.trans (ka.below (by omega) (Nat.le_trans s.hw s.b.size)), s.h1, s.h2, s.h3, s.hw⟩
theorem DN.drew {k2 c k5 B : Nat} {w wr : World} {aH aR : Option Addr} {cH cR : Nat} {xs : List Ha} {rs : List Rd} (s : DN k2 c k5 B w wr aH aR cH cR xs rs) : DN k2 c k5 B w wr.drew aH aR cH cR xs rs := s.drawn s.cu.drew ⟨rfl, rfl, rfl, Nat.le_refl _, fun _ _ _ => rfl⟩
theorem DN.put {k2 c k5 B : Nat} {w wr : World} {aH aR : Option Addr} {cH cR : Nat} {xs : List Ha} {rs : List Rd} (s : DN k2 c k5 B w wr aH aR cH cR xs rs) {vs : List Value} (v2 : Var 30 wr k2 vs) (a b : Value) : DL ((wr.setCell ⟨k2, 0, none⟩ a).setCell ⟨k2, 1, none⟩ b) aH xs aR rs ∧ Below k2 w ((wr.setCell ⟨k2, 0, none⟩ a).setCell ⟨k2, 1, none⟩ b) := by
 have ka : Draw.Kept k2 wr ((wr.setCell ⟨k2, 0, none⟩ a).setCell ⟨k2, 1, none⟩ b) := ((Draw.Kept.refl _ _).setCell (p := ⟨k2, 0, none⟩) (.inl rfl) _).setCell (p := ⟨k2, 1, none⟩) (.inl rfl) _
 exact ⟨s.D.keptV v2 ntLine ka, s.b.trans (ka.below (Nat.le_refl _) (Nat.le_trans s.hw s.b.size))⟩
theorem drawMayTell (a : Option Addr) (len cap : Nat) (w : World) (hb : Draw.Bytes w a len) (hl : len ≤ 4096) :
  Calls Tryz.prog 19 #[.slice a len cap] w fun e w' => ∃ (aH aR : Option Addr) (cH cR : Nat) (xs : List Ha) (rs : List Rd) (h : Int), e = .returned (.tuple #[.agg #[.slice aH xs.length cH, .slice aR rs.length cR], .int .i64 h]) ∧ DL w' aH xs aR rs ∧ Below w.heap.size w w' := by
 have hmix := Roa.mix
 have vR : Var 30 (w.alloc (.cells #[.slice none 0 0, .slice none 0 0] 30)) w.heap.size [.slice none 0 0, .slice none 0 0] := Var.new w _
 have b0 := (Below.refl w.heap.size w).alloc (Nat.le_refl _) (.cells #[.slice none 0 0, .slice none 0 0] 30)
 have hb0 := hb.below b0 (Nat.le_refl _)
 go_enter Tryz.func19, Tryz.ntmps19
 go_wp2_with fail
 generalize w.alloc (.cells #[.slice none 0 0, .slice none 0 0] 30) = V at *
 have hV := vR.lt
 refine (Draw.l1New a len cap _ hb0 hl).mono ?_
 rintro x w1 ⟨rfl, hh, hw1⟩
 have c1 : Draw.Cur w1 V.heap.size := by rw [hw1]; exact Draw.cur_new hb0 hl hh _
 have b1 : Below V.heap.size V w1 := by rw [hw1]; exact (Below.refl _ _).alloc (Nat.le_refl _) _
 replace vR := vR.later b1
 have B1 := b0.trans (b1.mono b0.size)
 have hc1 := c1.lt
 clear hw1 b0 b1 hb0 hh
 go_wp2_with fail
 refine (l13DrawAny _ _ c1).mono ?_
 rintro e w2 ⟨aH, aR, cH, cR, xs, rs, rfl, D, lo, c2, k2⟩
 replace vR := (vR.kept k2 (by omega)).alloc (.cells #[.slice aH xs.length cH, .slice aR rs.length cR] 30)
 have B2 : Below w.heap.size w w2 := B1.trans (k2.below (Nat.le_of_lt hV) B1.size)
 have zz := k2.size
 have S : DN w.heap.size V.heap.size w2.heap.size w1.heap.size w (w2.alloc (.cells #[.slice aH xs.length cH, .slice aR rs.length cR] 30)) aH aR cH cR xs rs :=
  ⟨Var.new w2 _, D.later ((Below.refl w2.heap.size w2).alloc (Nat.le_refl _) _), lo, c2.alloc _, B2.alloc B2.size _, hV, hc1, by omega, Nat.le_refl _⟩
 go_upto_region 3 with (fail)
 clear c1 c2 k2 B1 B2 D lo zz
 generalize w2.alloc (.cells #[.slice aH xs.length cH, .slice aR rs.length cR] 30) = V2 at *
 generalize w2.heap.size = k5 at *
 generalize w1.heap.size = B0 at *
 generalize V.heap.size = c at *
 go_wp2_with fail
 refine (Draw.l1Once _ _ _ S.cu).mono ?_
 rintro e w3 ⟨b3, rfl, cu3, k3⟩
 replace vR := vR.kept k3 (by have := S.h1; omega)
 replace S := S.drawn cu3 k3
 clear cu3 k3
 go_upto_if 11 with (fail)
 go_cut [] from 12 to 13 (fun wr => Var 30 wr w.heap.size [.slice none 0 0, .slice none 0 0] ∧ ∃ B aH aR cH cR xs rs, DN w.heap.size c k5 B w wr aH aR cH cR xs rs)
 case first =>
  cases b3
  focus
   go_wp2_with fail
   go_meet
   exact ⟨vR, _, _, _, _, _, _, _, S⟩
  focus
   go_wp2_with fail
   refine (l14DrawEnded _ _ S.cu).mono ?_
   rintro e w4 ⟨W, g, cH', ys, gR, cR', rfl, A, cu4, k4⟩
   have zB : c < w3.heap.size := S.cu.lt
   have h1 := S.h1
   have h3 := S.h3
   replace vR := vR.kept k4 (by omega)
   have v5 := S.v5.kept k4 (by omega)
   have b4 := S.b.trans (k4.below (Nat.le_of_lt h1) (Nat.le_trans S.hw S.b.size))
   have e0 := v5.cell (i := 0) rfl
   have e1 := v5.cell (i := 1) rfl
   have f0 := v5.free 0
   have f1 := v5.free 1
   go_wp2_with fail
   have ka : Draw.Kept k5 w4 ((w4.setCell ⟨k5, 0, none⟩ (.slice (some ⟨g, 0, none⟩) 3 cH')).setCell ⟨k5, 1, none⟩ (.slice (some ⟨gR, 0, none⟩) W.rs.length cR')) := ((Draw.Kept.refl _ _).setCell (p := ⟨k5, 0, none⟩) (.inl rfl) _).setCell (p := ⟨k5, 1, none⟩) (.inl rfl) _
   have vv : Var 30 ((w4.setCell ⟨k5, 0, none⟩ (.slice (some ⟨g, 0, none⟩) 3 cH')).setCell ⟨k5, 1, none⟩ (.slice (some ⟨gR, 0, none⟩) W.rs.length cR')) k5 [.slice (some ⟨g, 0, none⟩) 3 cH', .slice (some ⟨gR, 0, none⟩) W.rs.length cR'] := (v5.set 0 _).set 1 _
   have hy := A.len
   go_meet
   refine ⟨vR.kept ka (by omega), w3.heap.size, some ⟨g, 0, none⟩, some ⟨gR, 0, none⟩, cH', cR', ys, W.rs, ?_, A.dl.keptV v5 ntLine ka, LineLay.lo A.L A.R, cu4.upto (fun i hi => ka.block i (by have := cu4.lt; omega) (by omega)), b4.trans (ka.below (by omega) (Nat.le_trans S.hw b4.size)), h1, zB, h3, S.hw⟩
   rw [hy]
   exact vv
 case rest =>
  clear S vR
  obtain ⟨vR, B, aH, aR, cH, cR, xs, rs, S⟩ := hcut
  obtain ⟨k2, hk2⟩ : ∃ k2, k2 = w.heap.size := ⟨_, rfl⟩
  have HK2 : Hid (k2 = w.heap.size) := hk2
  rw [← hk2] at S vR ⊢
  clear hk2
  replace S := And.intro S vR
  have keepW : ∀ (q : Nat) (d : Nat → Bool) (w' : World), (fun d w' => (d 3 = false → DN k2 c k5 B w w' aH aR cH cR xs rs ∧ Var 30 w' k2 [.slice none 0 0, .slice none 0 0]) ∧ (d 3 = true → Var 30 w' k2 [.slice aH xs.length cH, .slice aR rs.length cR] ∧ DL w' aH xs aR rs ∧ Below k2 w w')) d w' → q ≠ 3 → (fun d w' => (d 3 = false → DN k2 c k5 B w w' aH aR cH cR xs rs ∧ Var 30 w' k2 [.slice none 0 0, .slice none 0 0]) ∧ (d 3 = true → Var 30 w' k2 [.slice aH xs.length cH, .slice aR rs.length cR] ∧ DL w' aH xs aR rs ∧ Below k2 w w')) (fun j => j == q || d j) w' := fun q d w' h hq => ⟨fun e => h.1 (by rw [← or_ne (d := d) (Ne.symm hq)]; exact e), fun e => h.2 (by rw [← or_ne (d := d) (Ne.symm hq)]; exact e)⟩
  go_wp2_with fail
  refine RegJ.wp_region_J (W := (fun d w' => (d 3 = false → DN k2 c k5 B w w' aH aR cH cR xs rs ∧ Var 30 w' k2 [.slice none 0 0, .slice none 0 0]) ∧ (d 3 = true → Var 30 w' k2 [.slice aH xs.length cH, .slice aR rs.length cR] ∧ DL w' aH xs aR rs ∧ Below k2 w w'))) (RegJ.ValE [some (.agg #[.slice aH xs.length cH, .slice aR rs.length cR]), some (.pointer (some ⟨c, 0, none⟩)), none, none, none] ([(2, 2, fun v _ => ∃ n : Int, v = Value.int .i64 n), (4, 4, fun v _ => ∃ n : Int, v = Value.int .i64 n)])) [some 14, some 15, some 16, none, some 3] (F := ?_) (is := [0, 1, 2, 3, 4]) hmix (by kernel_rfl) (by kernel_rfl) (by kernel_rfl) (by kernel_rfl) (fun x => ?_) (⟨fun _ => ⟨S.1.drew, S.2.drew⟩, fun e => by cases e⟩) ?_ (fun dR xR wR hWR hdR hJR => ?_)
  rotate_left 1
  focus (simp only [RegJ.lay, Act.put, Nat.reduceAdd, Nat.zero_add, Draw.lays]; rfl)
  focus
   iterate 5 (refine RegJ.Steps.cons (RegJ.StepAt.mk rfl (fun d x w1 hW1 hJ1 hx1 K hK => ?_)) ?_; simp only [Draw.lays] at hK; rotate_left 1)
   exact RegJ.Steps.nil
   ·have q := (hW1.1 (hx1.out 3 (.inr (by kernel_rfl))).1).1; have c0 := q.v5.cell (i := 0) rfl; have c1 := q.v5.cell (i := 1) rfl; go_simp; exact hK.out _ _ (keepW 0 d _ hW1 (by decide)) RegJ.ValE.same (RegJ.ValE.free (Or.inl rfl) rfl)
   ·go_simp; exact hK.out _ _ (keepW 1 d _ hW1 (by decide)) RegJ.ValE.same (RegJ.ValE.free (Or.inl rfl) rfl)
   ·have j1 : x 1 = _ := (hJ1.out 1 (by kernel_rfl)).val rfl; rw [j1] at hK; obtain ⟨q, q2⟩ := hW1.1 (hx1.out 3 (.inr (by kernel_rfl))).1; have hk2 := q.h1; go_simp; refine (Hop.l1From c _ _ _ q.cu).mono ?_; rintro e wa ⟨n, rfl, cua, ka⟩; go_simp; exact hK.out _ _ ⟨fun _ => ⟨q.drawn cua ka, q2.kept ka (by omega)⟩, fun e => absurd e (by simp [(hx1.out 3 (.inr (by kernel_rfl))).1])⟩ (keepN (by intro t ht; simp only [List.mem_cons, List.not_mem_nil, or_false] at ht; rcases ht with rfl | rfl; exact .inl rfl; exact .inr (.inr fun v h => h))) (RegJ.ValE.got 0 _ _ (Or.inr rfl) rfl rfl ⟨n, rfl⟩)
   ·have j0 : x 0 = _ := (hJ1.out 0 (by kernel_rfl)).val rfl; rw [j0] at hK; obtain ⟨q, v2⟩ := hW1.1 (hx1.out 3 (.inl rfl)).1; have e0 := v2.cell (i := 0) rfl; have e1 := v2.cell (i := 1) rfl; have f0 := v2.free 0; have f1 := v2.free 1; go_simp; exact hK.out undef _ ⟨fun e => absurd e (by simp), fun _ => ⟨(v2.set 0 _).set 1 _, q.put v2 _ _⟩⟩ (RegJ.ValE.keep (by intro t ht; simp only [List.mem_cons, List.not_mem_nil, or_false] at ht; rcases ht with rfl | rfl; exact .inr (.inr fun v h => h); exact .inr (.inr fun v h => h))) (RegJ.ValE.free (Or.inr rfl) rfl)
   ·obtain ⟨n, j2⟩ := ((hJ1.out 2 (by kernel_rfl)).tie 0 rfl (.inl rfl)); have j2 : x 2 = _ := j2; rw [j2] at hK; go_simp; exact hK.out _ _ (keepW 4 d _ hW1 (by decide)) RegJ.ValE.same (RegJ.ValE.got 1 _ _ (Or.inr rfl) rfl rfl ⟨n, rfl⟩)
  obtain ⟨v2, DZ, BZ⟩ := hWR.2 (hdR 3 (by simp))
  obtain ⟨n, j4⟩ := (hJR 4 (by simp)).tie 1 rfl (.inl rfl)
  rw [j4]
  clear hWR hdR hJR keepW S vR
  have e0 := v2.cell (i := 0) rfl
  have e1 := v2.cell (i := 1) rfl
  go_wp2_with fail
  refine bodyPost_ret (v := .tuple #[.agg #[.slice aH xs.length cH, .slice aR rs.length cR], .int .i64 n]) (by rw [Tak.res_cell_tmp rfl]; go_simp) rfl ⟨aH, aR, cH, cR, xs, rs, n, rfl, DZ, by rw [HK2.out] at BZ; exact BZ⟩
theorem drawWriterDone (a : Option Addr) (len cap : Nat) (w : World) (hb : Draw.Bytes w a len) (hl : len ≤ 4096) :
  Calls Tryz.prog 21 #[.slice a len cap] w fun e w' => ∃ (aH aR : Option Addr) (cH cR : Nat) (xs : List Ha) (rs : List Rd), e = .returned (.agg #[.slice aH xs.length cH, .slice aR rs.length cR]) ∧ DL w' aH xs aR rs ∧ Below w.heap.size w w' := by
 have vR : Var 30 (w.alloc (.cells #[.slice none 0 0, .slice none 0 0] 30)) w.heap.size [.slice none 0 0, .slice none 0 0] := Var.new w _
 have b0 := (Below.refl w.heap.size w).alloc (Nat.le_refl _) (.cells #[.slice none 0 0, .slice none 0 0] 30)
 have hb0 := hb.below b0 (Nat.le_refl _)
 go_enter Tryz.func21, Tryz.ntmps21
 go_wp2_with fail
 generalize w.alloc (.cells #[.slice none 0 0, .slice none 0 0] 30) = V at *
 refine (drawMayTell a len cap _ hb0 hl).mono ?_
 rintro e w2 ⟨aH, aR, cH, cR, xs, rs, h, rfl, D, b2⟩
 replace vR := (vR.later b2).alloc (.cells #[.slice aH xs.length cH, .slice aR rs.length cR] 30)
 have B2 := b0.trans (b2.mono b0.size)
 replace B2 := B2.alloc B2.size (.cells #[.slice aH xs.length cH, .slice aR rs.length cR] 30)
 replace D := D.later ((Below.refl w2.heap.size w2).alloc (Nat.le_refl _) (.cells #[.slice aH xs.length cH, .slice aR rs.length cR] 30))
 have v3 : Var 30 (w2.alloc (.cells #[.slice aH xs.length cH, .slice aR rs.length cR] 30)) w2.heap.size [.slice aH xs.length cH, .slice aR rs.length cR] := Var.new w2 _
 clear b2 b0
 go_upto_region 2 with (fail)
 generalize w2.alloc (.cells #[.slice aH xs.length cH, .slice aR rs.length cR] 30) = V2 at *
 generalize w2.heap.size = k3 at *
 have d0 := v3.cell (i := 0) rfl
 have d1 := v3.cell (i := 1) rfl
 have e0 := vR.cell (i := 0) rfl
 have e1 := vR.cell (i := 1) rfl
 have f0 := vR.free 0
 have f1 := vR.free 1
 go_wp2_with fail
 obtain ⟨WZ, hWZ⟩ : ∃ z, Hid (z = (V2.setCell ⟨w.heap.size, 0, none⟩ (.slice aH xs.length cH)).setCell ⟨w.heap.size, 1, none⟩ (.slice aR rs.length cR)) := ⟨_, rfl⟩
 have ka : Draw.Kept w.heap.size V2 WZ := by rw [hWZ.out]; exact ((Draw.Kept.refl _ _).setCell (p := ⟨w.heap.size, 0, none⟩) (.inl rfl) _).setCell (p := ⟨w.heap.size, 1, none⟩) (.inl rfl) _
 have vv : Var 30 WZ w.heap.size [.slice aH xs.length cH, .slice aR rs.length cR] := by rw [hWZ.out]; exact (vR.set 0 _).set 1 _
 have DZ := D.keptV vR ntLine ka
 have BZ : Below w.heap.size w WZ := B2.trans (ka.below (Nat.le_refl _) B2.size)
 clear ka e0 e1 f0 f1 d0 d1 D B2 vR v3
 have hWZo := hWZ.out
 clear hWZ
 subst hWZo
 generalize (V2.setCell ⟨w.heap.size, 0, none⟩ (.slice aH xs.length cH)).setCell ⟨w.heap.size, 1, none⟩ (.slice aR rs.length cR) = WZ at *
 have e0 := vv.cell (i := 0) rfl
 have e1 := vv.cell (i := 1) rfl
 refine bodyPost_ret (v := .agg #[.slice aH xs.length cH, .slice aR rs.length cR]) (by rw [Hop.res_one rfl]; go_simp) rfl ⟨aH, aR, cH, cR, xs, rs, rfl, DZ, BZ⟩
theorem drawReaderAtEnd (a : Option Addr) (len cap : Nat) (w : World) (hb : Draw.Bytes w a len) (hl : len ≤ 4096) :
  Calls Tryz.prog 22 #[.slice a len cap] w fun e w' => ∃ (aH aR : Option Addr) (cH cR : Nat) (xs : List Ha) (rs : List Rd), e = .returned (.agg #[.slice aH xs.length cH, .slice aR rs.length cR]) ∧ DL w' aH xs aR rs ∧ Below w.heap.size w w' := by
 have vR : Var 30 (w.alloc (.cells #[.slice none 0 0, .slice none 0 0] 30)) w.heap.size [.slice none 0 0, .slice none 0 0] := Var.new w _
 have b0 := (Below.refl w.heap.size w).alloc (Nat.le_refl _) (.cells #[.slice none 0 0, .slice none 0 0] 30)
 have hb0 := hb.below b0 (Nat.le_refl _)
 go_enter Tryz.func22, Tryz.ntmps22
 go_wp2_with fail
 generalize w.alloc (.cells #[.slice none 0 0, .slice none 0 0] 30) = V at *
 refine (drawWriterDone a len cap _ hb0 hl).mono ?_
 rintro e w2 ⟨aH, aR, cH, cR, xs, rs, rfl, D, b2⟩
 replace vR := vR.later b2
 have B2 : Below w.heap.size w w2 := b0.trans (b2.mono b0.size)
 clear b2 b0
 have e0 := vR.cell (i := 0) rfl
 have e1 := vR.cell (i := 1) rfl
 have f0 := vR.free 0
 have f1 := vR.free 1
 go_wp2_with fail
 obtain ⟨WZ, hWZ⟩ : ∃ z, Hid (z = (w2.setCell ⟨w.heap.size, 0, none⟩ (.slice aH xs.length cH)).setCell ⟨w.heap.size, 1, none⟩ (.slice aR rs.length cR)) := ⟨_, rfl⟩
 have ka : Draw.Kept w.heap.size w2 WZ := by rw [hWZ.out]; exact ((Draw.Kept.refl _ _).setCell (p := ⟨w.heap.size, 0, none⟩) (.inl rfl) _).setCell (p := ⟨w.heap.size, 1, none⟩) (.inl rfl) _
 have vv : Var 30 WZ w.heap.size [.slice aH xs.length cH, .slice aR rs.length cR] := by rw [hWZ.out]; exact (vR.set 0 _).set 1 _
 have DZ := D.keptV vR ntLine ka
 have BZ : Below w.heap.size w WZ := B2.trans (ka.below (Nat.le_refl _) B2.size)
 clear ka e0 e1 f0 f1 D B2 vR
 have hWZo := hWZ.out
 clear hWZ
 subst hWZo
 generalize (w2.setCell ⟨w.heap.size, 0, none⟩ (.slice aH xs.length cH)).setCell ⟨w.heap.size, 1, none⟩ (.slice aR rs.length cR) = WZ at *
 have e0 := vv.cell (i := 0) rfl
 have e1 := vv.cell (i := 1) rfl
 refine bodyPost_ret (v := .agg #[.slice aH xs.length cH, .slice aR rs.length cR]) (by rw [Hop.res_one rfl]; go_simp) rfl ⟨aH, aR, cH, cR, xs, rs, rfl, DZ, BZ⟩
end Go.Proofs.YtanfnphdgcnojaaGreat.Wor

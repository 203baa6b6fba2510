/- For every code of bytes FnHoles returns true: what is cut is just what lies below, the program's Cut and FirstHole answer as the specification's, and the first hole is the first place from there on that is not there; no condition. (Its frame is the guide's shell; the walk is mine.) -/
import Derived.Test.YtjlebhohhhkmfaaRows
import Derived.Test.YtjlebhohhhkmfaaHoleQ
import Derived.Test.YtjlebhohhhkmfaaHoleF
import Derived.Test.YtjlebhohhhkmfaaDrawI
import Derived.Test.YtjlebhohhhkmfaaLawT
import Derived.WalkKit
import Derived.ProofKit
import Derived.OpenShut
import Derived.ShutString
import Derived.ChangeOld
import Derived.Below
namespace Go.Proofs.Ytjlebhohhhkmfaa.fnHoles
open Go.ChangeShapes Go.WideShapes Go.ChangeAt Go.RowKit
open Go.ChangeMaps (open_string shut_string)
set_option linter.unusedVariables false

theorem own : ownKnob Try.prog.godebug = none := by kernel_rfl
theorem laidOut : laidOutB Try.prog = true := by kernel_rfl

/-- WHAT THE WALK IS TOLD OF A SLICE OF INTEGERS THAT CAME IN: it is nil; or it leads to a row of 'cap' cells, the numbers 'zs' (the first 'len' are its elements, the rest its spare room), each fitting its kind. -/
def IsRow (k : IntKind) (w : World) (a : Option Addr) (len cap : Nat) (zs : List Int) : Prop :=
  (a = none ∧ len = 0 ∧ cap = 0 ∧ zs = []) ∨
  ∃ x, a = some x ∧ len ≤ cap ∧ cap ≤ maxLen ∧ zs.length = cap ∧ (∀ i, i < zs.length → w.cell? (x.add i) = some (.int k (zs.getD i 0))) ∧ ∀ n ∈ zs, (Lit.int k n).wf = true

/-! ### STEP 1: THE WALK: the Go text returns true, AND WRITES NOTHING THAT WAS THERE: 'Below w.heap.size w w'' (Derived/Below.lean: '.refl', '.alloc', '.drew', '.setCell' at a new block, '.trans'). Open each 'IsRow' by 'rcases' AHEAD of 'go_enter'; part every test ahead of the walk. -/
set_option maxHeartbeats 4000000 in
theorem walk (a0 : Option Addr) (len0 cap0 : Nat) (z0 : List Int) (w : World) (w0 : IsRow .u8 w a0 len0 cap0 z0) :
    Calls Try.prog 4 #[.slice a0 len0 cap0] w fun e w' => e = .returned (.bool true) ∧ Below w.heap.size w w' := by
  obtain ⟨hb, hm⟩ := Draw.bytes_of_row w0
  clear w0
  by_cases hl : len0 ≤ 4096
  case neg =>
    have hd : decide (4096 < (len0 : Int)) = true := by simp; omega
    go_enter Try.func4, Try.ntmps4
    go_wp2_with fail
    refine (Draw.big _ _ _ _ hm).mono ?_
    rintro e w1 ⟨rfl, rfl⟩
    go_wp2_with fail
    go_ret
    exact ⟨rfl, Below.refl _ _⟩
  have hd : decide (4096 < (len0 : Int)) = false := by simp; omega
  go_enter Try.func4, Try.ntmps4
  go_wp2_with fail
  refine (Draw.big _ _ _ _ hm).mono ?_
  rintro e w1 ⟨rfl, rfl⟩
  clear hd
  go_wp2_with fail
  refine (Hole.drawCut _ _ _ _ hb hl).mono ?_
  rintro x w1 ⟨l, g1, c1, p, rfl, hl1, o1, b1⟩
  have hl2 : l.length ≤ 2097152 := by omega
  go_wp2_with fail
  refine (Hole.implCut _ _ _ l p _ rfl o1.spans hl2 o1.cap (by simp)).mono ?_
  rintro x w2 ⟨g2, c2, rfl, o2, b2⟩
  have B2 := b1.trans (b2.mono b1.size)
  have o1 := o1.later b2
  have hb2 := Draw.Bytes.below hb B2 (Nat.le_refl _)
  clear b1 b2
  go_wp2_with fail
  refine (Hole.drawFirstHole _ _ _ _ hb2 hl).mono ?_
  rintro x w3 ⟨m, g3, c3, k, rfl, hm1, o3, b3⟩
  have hm2 : m.length ≤ 2097152 := by omega
  have B3 := B2.trans (b3.mono B2.size)
  have o1 := o1.later b3
  have o2 := o2.later b3
  clear b3 B2 hb hb2 hm hl
  go_wp2_with fail
  refine (Hole.implFirstHole _ _ _ m k _ rfl o3.spans hm2 o3.cap).mono ?_
  rintro x w4 ⟨rfl, b4⟩
  have B4 := B3.trans (b4.mono B3.size)
  have o1 := o1.later b4
  have o2 := o2.later b4
  have o3 := o3.later b4
  clear b4 B3
  go_wp2_with fail
  refine (Hole.specCut _ _ _ l p _ rfl o1.spans hl2).mono ?_
  rintro x w5 ⟨g5, c5, rfl, o5, b5⟩
  have B5 := B4.trans (b5.mono B4.size)
  have o1 := o1.later b5
  have o2 := o2.later b5
  have o3 := o3.later b5
  clear b5 B4
  have hC1 : (Hole.cutL l p).length ≤ l.length := by
    unfold Hole.cutL
    split
    · have := Hole.cut_len p l []
      simpa using this
    · exact Nat.zero_le _
  have hC2 : (Hole.cutL l p).length ≤ 2097152 := by omega
  have HC0 : Hid (Hole.spansB l = false ∨ Num.plB p = false → Hole.cutL l p = []) := fun q => by
    rcases q with q | q <;> simp [Hole.cutL, q]
  have HC3 : Hid (Hole.spansB l = true → Num.plB p = true → Hole.spansB (Hole.cutL l p) = true ∧ ∀ k : Int, Hole.spB (k, k + 1) = true → Hole.hasB (Hole.cutL l p) (k, k + 1) = (Hole.hasB l (k, k + 1) && decide (p ≤ k))) := fun q1 q2 => by
    obtain ⟨e1, e2, e3⟩ := Hole.cut_yes q1 q2
    rw [e1]
    refine ⟨e2, fun k hk => ?_⟩
    rw [Bool.eq_iff_iff, Hole.has_one e2 hk, e3 k, Bool.and_eq_true, Hole.has_one q1 hk, decide_eq_true_eq]
  clear hC1
  generalize Hole.cutL l p = C at *
  go_wp2_with fail
  refine (Hole.likeSpans _ _ _ _ _ _ C _ rfl rfl o2.spans o5.spans hC2).mono ?_
  rintro x w6 ⟨rfl, b6⟩
  have B6 := B5.trans (b6.mono B5.size)
  have o1 := o1.later b6
  have o2 := o2.later b6
  have o3 := o3.later b6
  clear b6 B5 o5
  go_wp2_with fail
  refine (Hole.specFirstHole _ _ _ m k _ rfl o3.spans hm2).mono ?_
  rintro x w7 ⟨rfl, b7⟩
  have B7 := B6.trans (b7.mono B6.size)
  have o1 := o1.later b7
  have o2 := o2.later b7
  have o3 := o3.later b7
  clear b7 B6
  have HH : Hid (0 ≤ Hole.holeOf m k → _) := fun q => Hole.hole_yes q
  have HN : Hid (∀ h, ¬ Hole.mem h m → Hole.hasB m (h, h + 1) = false) := fun h q => Hole.has_one_no q
  generalize Hole.holeOf m k = z at *
  have hz : z < 0 ∨ (0 ≤ z ∧ z = k) ∨ (0 ≤ z ∧ k < z) := by
    by_cases q : z < 0
    · exact .inl q
    · have := (HH.out (by omega)).2.2.1
      by_cases q2 : z = k
      · exact .inr (.inl ⟨by omega, q2⟩)
      · exact .inr (.inr ⟨by omega, by omega⟩)
  rcases hz with hz | hz | hz
  focus
    clear HH HN
    go_wp2_with fail
    generalize w7 = wz at *
  rotate_left
  focus
    obtain ⟨hz0, rfl⟩ := hz
    have hh := HH.out hz0
    have HI : Hid (Hole.hasB m (z, z + 1) = false) := HN.out _ hh.2.2.2.2.1
    have hz1 := (Num.pl_t hh.2.2.2.1).2
    clear HH HN hh
    go_wp2_with fail
    refine (Hole.implHasAll _ _ _ m z (z + 1) _ rfl o3.spans hm2 o3.cap).mono ?_
    rintro x wz ⟨rfl, bz⟩
    rw [HI.out]
    have Bz := B7.trans (bz.mono B7.size)
    have o1 := o1.later bz
    have o2 := o2.later bz
    clear bz B7 o3
    have B7 := Bz
    clear Bz
    go_wp2_with fail
  rotate_left
  focus
    obtain ⟨hz0, hzk⟩ := hz
    have hh := HH.out hz0
    have HI : Hid (Hole.hasB m (z, z + 1) = false) := HN.out _ hh.2.2.2.2.1
    have HJ : Hid (Hole.hasB m (k, z) = true) := hh.2.2.2.2.2 hzk
    have hz1 := (Num.pl_t hh.2.2.2.1).2
    clear HH HN hh
    have hzk2 : ¬ z < k := by omega
    go_wp2_with fail
    refine (Hole.implHasAll _ _ _ m z (z + 1) _ rfl o3.spans hm2 o3.cap).mono ?_
    rintro x wy ⟨rfl, bz⟩
    rw [HI.out]
    have Bz := B7.trans (bz.mono B7.size)
    have o1 := o1.later bz
    have o2 := o2.later bz
    have o3 := o3.later bz
    clear bz B7
    go_wp2_with fail
    refine (Hole.implHasAll _ _ _ m k z _ rfl o3.spans hm2 o3.cap).mono ?_
    rintro x wz ⟨rfl, bz⟩
    rw [HJ.out]
    have B7 := Bz.trans (bz.mono Bz.size)
    have o1 := o1.later bz
    have o2 := o2.later bz
    clear bz Bz o3
    go_wp2_with fail
  all_goals
    refine (Hole.specSpansOk _ _ _ l _ rfl o1.spans hl2).mono ?_
    rintro x wa ⟨rfl, ba⟩
    have Ba := B7.trans (ba.mono B7.size)
    have o1 := o1.later ba
    have o2 := o2.later ba
    clear ba B7
    cases hok : Hole.spansB l
    · have e : C = [] := HC0.out (.inl hok)
      subst e
      go_wp2_with fail
      go_ret
      exact ⟨rfl, Ba⟩
    · cases hpl : Num.plB p
      · have e : C = [] := HC0.out (.inr hpl)
        subst e
        have hp : p < 0 ∨ (¬ p < 0 ∧ 1000000000 < p) := by
          simp [Num.plB] at hpl
          omega
        rcases hp with hp | ⟨hp, hp2⟩
        · go_wp2_with fail
          go_ret
          exact ⟨rfl, Ba⟩
        · go_wp2_with fail
          go_ret
          exact ⟨rfl, Ba⟩
      · obtain ⟨hCs, hCk⟩ := HC3.out hok hpl
        have HS : Hid (Hole.spansB C = true) := hCs
        have HK : Hid (∀ k : Int, Hole.spB (k, k + 1) = true → Hole.hasB C (k, k + 1) = (Hole.hasB l (k, k + 1) && decide (p ≤ k))) := hCk
        have hp := Num.pl_t hpl
        have hp0 := hp.1
        have hp1 := hp.2
        clear hCs hCk HC0 HC3 hp hok hpl
        go_wp2_with fail
        have hmix := Hole.mix
        go_loopw [9] (fun iv wr => ∃ kk : Nat, kk ≤ 60 ∧ iv = .int .i64 kk ∧ Below w.heap.size w wr ∧ Hole.Own wr w.heap.size g1 c1 l ∧ Hole.Own wr w1.heap.size g2 c2 C) (fun iv _ => 60 - (intOf iv).toNat)
        case atStart => exact ⟨0, by decide, rfl, Ba, o1, o2⟩
        case round =>
          clear o1 o2 Ba
          obtain ⟨kk, hk, rfl, hB, r1, r2⟩ := hrel
          by_cases hlt : kk < 60
          · have hE := HK.out (kk : Int) (by simp [Hole.spB, Num.plB]; omega)
            have d0 := Draw.Later.cell (Hole.box2 (w := wr) (v0 := .int .i64 (kk : Int)) (v1 := .int .i64 ((kk : Int) + 1)) (T := 26) (Below.refl _ _)).1
            have d1 := Draw.Later.cell (Hole.box2 (w := wr) (v0 := .int .i64 (kk : Int)) (v1 := .int .i64 ((kk : Int) + 1)) (T := 26) (Below.refl _ _)).2
            have bA : Below wr.heap.size wr (wr.alloc (.cells #[.int .i64 (kk : Int), .int .i64 ((kk : Int) + 1)] 26)) := (Below.refl _ _).alloc (Nat.le_refl _) _
            have HA : Hid (Below w.heap.size w (wr.alloc (.cells #[.int .i64 (kk : Int), .int .i64 ((kk : Int) + 1)] 26))) := hB.trans (bA.mono hB.size)
            have HO1 : Hid (Hole.Own (wr.alloc (.cells #[.int .i64 (kk : Int), .int .i64 ((kk : Int) + 1)] 26)) w.heap.size g1 c1 l) := r1.later bA
            have HO2 : Hid (Hole.Own (wr.alloc (.cells #[.int .i64 (kk : Int), .int .i64 ((kk : Int) + 1)] 26)) w1.heap.size g2 c2 C) := r2.later bA
            have hI : ∀ q : Draw.Later (wr.alloc (.cells #[.int .i64 (kk : Int), .int .i64 ((kk : Int) + 1)] 26)), Calls Try.prog 17 #[.slice (some ⟨g2, 0, none⟩) C.length c2, .agg #[.int .i64 (kk : Int), .int .i64 ((kk : Int) + 1)]] q.v fun x w' => x = .returned (.bool (Hole.hasB C ((kk : Int), (kk : Int) + 1))) ∧ Below q.v.heap.size q.v w' := fun q => Hole.implHasAll _ _ _ C _ _ q.v rfl (HO2.out.later q.h).spans hC2 (HO2.out.later q.h).cap
            have hJ : ∀ q : Draw.Later (wr.alloc (.cells #[.int .i64 (kk : Int), .int .i64 ((kk : Int) + 1)] 26)), Calls Try.prog 18 #[.slice (some ⟨g1, 0, none⟩) l.length c1, .agg #[.int .i64 (kk : Int), .int .i64 ((kk : Int) + 1)]] q.v fun x w' => x = .returned (.bool (Hole.hasB l ((kk : Int), (kk : Int) + 1))) ∧ Below q.v.heap.size q.v w' := fun q => Hole.specHasAll _ _ _ l _ _ q.v rfl (HO1.out.later q.h).spans hl2
            clear bA hB r1 r2
            rw [hE] at hI
            clear hE
            have i0 : (0 : Int) ≤ (kk : Int) := by omega
            have i1 : (kk : Int) < 60 := by omega
            generalize Hole.hasB l ((kk : Int), (kk : Int) + 1) = X at *
            cases X
            · rw [Bool.false_and] at hI
              go_wp2_with fail
              refine Draw.wp_region_later hmix (by kernel_rfl) ?_
              repeat (go_big_quiet_step (first | (go_at_call 17; exact Draw.later_of (hI _)) | (go_at_call 18; exact Draw.later_of (hJ _))))
              refine wpQuiet_nil ?_
              intro w3 hw'
              obtain ⟨q, hq⟩ := hw'
              have hBq := q.h
              rw [← hq] at hBq
              clear hq q d0 d1 hI hJ
              have B3 := HA.out.trans (hBq.mono HA.out.size)
              have o13 := HO1.out.later hBq
              have o23 := HO2.out.later hBq
              clear hBq
              go_wp2_with fail
              go_roundw
              case rel => exact ⟨kk + 1, by omega, by go_num, B3, o13, o23⟩
              case measure => simp [intOf]; omega
            · rw [Bool.true_and] at hI
              by_cases hpk : p ≤ (kk : Int)
              · rw [decide_eq_true hpk] at hI
                go_wp2_with fail
                refine Draw.wp_region_later hmix (by kernel_rfl) ?_
                repeat (go_big_quiet_step (first | (go_at_call 17; exact Draw.later_of (hI _)) | (go_at_call 18; exact Draw.later_of (hJ _))))
                refine wpQuiet_nil ?_
                intro w3 hw'
                obtain ⟨q, hq⟩ := hw'
                have hBq := q.h
                rw [← hq] at hBq
                clear hq q d0 d1 hI hJ
                have B3 := HA.out.trans (hBq.mono HA.out.size)
                have o13 := HO1.out.later hBq
                have o23 := HO2.out.later hBq
                clear hBq
                go_wp2_with fail
                go_roundw
                case rel => exact ⟨kk + 1, by omega, by go_num, B3, o13, o23⟩
                case measure => simp [intOf]; omega
              · rw [decide_eq_false hpk] at hI
                go_wp2_with fail
                refine Draw.wp_region_later hmix (by kernel_rfl) ?_
                repeat (go_big_quiet_step (first | (go_at_call 17; exact Draw.later_of (hI _)) | (go_at_call 18; exact Draw.later_of (hJ _))))
                refine wpQuiet_nil ?_
                intro w3 hw'
                obtain ⟨q, hq⟩ := hw'
                have hBq := q.h
                rw [← hq] at hBq
                clear hq q d0 d1 hI hJ
                have B3 := HA.out.trans (hBq.mono HA.out.size)
                have o13 := HO1.out.later hBq
                have o23 := HO2.out.later hBq
                clear hBq
                go_wp2_with fail
                go_roundw
                case rel => exact ⟨kk + 1, by omega, by go_num, B3, o13, o23⟩
                case measure => simp [intOf]; omega
          · have i1 : ¬ (kk : Int) < 60 := by omega
            go_wp2_with fail
            refine (Hole.implSpansOk _ _ _ C _ rfl r2.spans hC2).mono ?_
            rintro x wy ⟨rfl, by1⟩
            rw [HS.out]
            go_wp2_with fail
            go_ret
            exact ⟨rfl, hB.trans (by1.mono hB.size)⟩

/-! ### THE ROW's STEP: WRITTEN OUT: LEAVE IT -/
set_option maxRecDepth 100000 in
theorem lifted (os : Os) (started : os.Started) (H : Type) (enc : TypeId × Value → H) :
    ReturnsInHanded {} Try.checked os 4 .any (Rows.fnHolesSpec.pre6 enc Try.prog Try.f4 Rows.fnHolesRow.domain false) (Rows.fnHolesSpec.post enc Try.prog Try.f4 false true false false) := by
  refine returnsInHanded_of_change (C := Try.checked) own started (by kernel_rfl) Try.func4
    (ChangeSpec.witness6 (enc := enc) (C := Try.checked) false ⟨#[], #[.slice none 0 0], []⟩ 8 (by kernel_rfl) (by kernel_rfl) (by kernel_rfl) (by kernel_rfl)) ?_
  intro W base args ds gs before hval0 hW hcnd _
  have hval : ∀ (j : Nat) t v, Try.f4.params[j]? = some t → args[j]? = some v → Value.okWide Try.prog W .any base t v := hval0
  have hW' := hW
  obtain ⟨p, q, hA0, hV, rfl, hfz, hnd⟩ := hW
  have hA : DataW.TrodAll enc Try.prog W 0 (fun _ => true) true Try.f4.params.toList args.toList ds p := hA0
  rw [Try.params4] at hA hval
  obtain ⟨v0, vs0, d0, ds0, p0, q0, hargs, rfl, rfl, h0, r0⟩ := trodAll_cons hA
  obtain ⟨rfl, rfl, rfl⟩ := trodAll_nil r0
  obtain rfl : args = #[v0] := by cases args; simp_all
  obtain ⟨rfl, rfl⟩ := trodVars_none hV
  obtain ⟨a0, len0, cap0, rfl⟩ := okWide_slice Try.underlying22 (hval 0 22 v0 rfl rfl)
  have k0 := h0
  have lt0 : ∀ x ∈ p0, x.block < W.heap.size := by obtain ⟨m, hm⟩ := k0; exact DataW.trod_lt m _ _ _ hm
  obtain ⟨z0, w0⟩ : ∃ zs, IsRow .u8 W a0 len0 cap0 zs := by
    obtain ⟨fuel, hf⟩ := h0
    rcases open_ints Try.underlying22 Try.underlying5 (by kernel_rfl) hf with ⟨hcs, _⟩ | ⟨x, l, c, zs, hcs, _, hl, hm, hz, _, hcell, hwz⟩
    · simp [Value.cells] at hcs
      obtain ⟨rfl, rfl, rfl⟩ := hcs
      exact ⟨[], .inl ⟨rfl, rfl, rfl, rfl⟩⟩
    · simp [Value.cells] at hcs
      obtain ⟨rfl, rfl, rfl⟩ := hcs
      exact ⟨zs, .inr ⟨_, rfl, hl, hm, by simpa using hz, hcell, hwz⟩⟩
  clear hA0 hval0
  refine (walk a0 len0 cap0 z0 W w0).mono fun e W' ⟨he, bel⟩ => ?_
  subst he
  exact ⟨_, rfl, _, _, _, [], _, [], hW', trodAll_mk1 (shut_bool Try.underlying4 _), (trodAll_cons_mk (Below.trod laidOut (by kernel_rfl) (of_decide_eq_true (by kernel_rfl)) k0 bel lt0) trodAll_mk0), rfl, bel.frame _, fun h => by cases h⟩

theorem over : Rows.fnHolesRow.holds Try.pinned (OpenSpec.ofChange Rows.fnHolesSpec) :=
  OpenClaim.holds_of_wide 4 Try.f4 rfl rfl rfl rfl rfl rfl rfl ⟨rfl, rfl, rfl, rfl, rfl⟩ rfl rfl rfl rfl rfl (by kernel_rfl) Try.func4 (by kernel_rfl)
    (of_decide_eq_true (by kernel_rfl)) (by unfold Func.isWrapper; first | (rw [if_pos (by decide +kernel)]; kernel_rfl) | (rw [if_neg (by decide +kernel)]; exact ⟨rfl, rfl⟩))
    (fun os started H enc _ => lifted os started H enc)

/-- THE STATEMENT. -/
theorem proved : Rows.FnHolesSaid := over
end Go.Proofs.Ytjlebhohhhkmfaa.fnHoles
namespace Go.Proofs.Ytjlebhohhhkmfaa
theorem fnHoles_holds : Rows.FnHolesSaid := fnHoles.proved
#print axioms fnHoles_holds
end Go.Proofs.Ytjlebhohhhkmfaa

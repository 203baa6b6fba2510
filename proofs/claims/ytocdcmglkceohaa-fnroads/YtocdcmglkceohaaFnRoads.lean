/- For every code of bytes FnRoads returns true: the program's Turn, Used, RoadsOk and OpenOnes answer as the specification's, the open ones rise, a road that was turned is as it was told and the others stay, what was used is counted once; codes of more than 4096 bytes the law itself lets by; no condition. (Its frame is the guide's shell; the walk is mine.) -/
import Derived.Test.YtocdcmglkceohaaRows
import Derived.Test.YtocdcmglkceohaaRoaU
import Derived.Test.YtocdcmglkceohaaDrawRo
import Derived.WalkKit
import Derived.ProofKit
import Derived.OpenShut
import Derived.ShutString
import Derived.ChangeOld
import Derived.Below
namespace Go.Proofs.Ytocdcmglkceohaa.fnRoads
open Go.ChangeShapes Go.WideShapes Go.ChangeAt Go.RowKit
open Go.ChangeMaps (open_string shut_string)
set_option linter.unusedVariables false

theorem own : ownKnob Try.prog.godebug = none := by kernel_rfl
theorem laidOut : laidOutB Try.prog = true := by kernel_rfl

/-- WHAT THE WALK IS TOLD OF A SLICE OF INTEGERS THAT CAME IN: it is nil; or it leads to a row of 'cap' cells, the numbers 'zs' (the first 'len' are its elements, the rest its spare room), each fitting its kind. -/
def IsRow (k : IntKind) (w : World) (a : Option Addr) (len cap : Nat) (zs : List Int) : Prop :=
  (a = none ∧ len = 0 ∧ cap = 0 ∧ zs = []) ∨
  ∃ x, a = some x ∧ len ≤ cap ∧ cap ≤ maxLen ∧ zs.length = cap ∧ (∀ i, i < zs.length → w.cell? (x.add i) = some (.int k (zs.getD i 0))) ∧ ∀ n ∈ zs, (Lit.int k n).wf = true

/-! ### STEP 1: THE WALK: the Go text returns true, AND WRITES NOTHING THAT WAS THERE: 'Below w.heap.size w w'' (Derived/Below.lean: '.refl', '.alloc', '.drew', '.setCell' at a new block, '.trans'). Open each 'IsRow' by 'rcases' AHEAD of 'go_enter'; part every test ahead of the walk. -/
set_option linter.unusedSimpArgs false in
set_option maxRecDepth 20000 in
set_option maxHeartbeats 4000000 in
theorem walk (a0 : Option Addr) (len0 cap0 : Nat) (z0 : List Int) (w : World) (w0 : IsRow .u8 w a0 len0 cap0 z0) :
    Calls Try.prog 3 #[.slice a0 len0 cap0] w fun e w' => e = .returned (.bool true) ∧ Below w.heap.size w w' := by
  obtain ⟨hb, hm⟩ := Draw.bytes_of_row w0
  clear w0
  by_cases hl : len0 ≤ 4096
  case neg =>
    have hd : decide (4096 < (len0 : Int)) = true := by simp; omega
    go_enter Try.func3, Try.ntmps3
    go_wp2_with fail
    refine (Draw.big _ _ _ _ hm).mono ?_
    rintro e w1 ⟨rfl, rfl⟩
    go_wp2_with fail
    go_ret
    exact ⟨rfl, Below.refl _ _⟩
  have hd : decide (4096 < (len0 : Int)) = false := by simp; omega
  have hmix := Roa.mix
  go_enter Try.func3, Try.ntmps3
  go_wp2_with fail
  refine (Draw.big _ _ _ _ hm).mono ?_
  rintro e w1 ⟨rfl, rfl⟩
  clear hd
  go_wp2_with fail
  refine (Roa.drawTurn _ _ _ _ hb hl).mono ?_
  rintro x w1 ⟨g1, c1, l, r, o, rfl, hl1, o1, B1⟩
  go_wp2_with fail
  refine (Roa.implTurn _ _ _ l r o _ rfl o1.lies (by simp) (by omega)).mono ?_
  rintro x w2 ⟨gx, cx, rfl, ox, b2⟩
  replace o1 := o1.later b2
  have B2 := B1.trans (b2.mono B1.size)
  have hb2 := Draw.Bytes.below hb B2 (Nat.le_refl _)
  clear b2 B1
  have hlx : (Roa.turnL l r o).length ≤ 8 := Nat.le_trans (Roa.turnL_len l r o) hl1
  have HTY : Hid (Roa.turnB l r o = true → ∃ (k : Nat) (x : Roa.Rd), r = (k : Int) ∧ k < l.length ∧ Roa.at' l k = x ∧ (x.op == o) = false ∧ Roa.turnL l r o = l.set k { x with op := o } ∧ Roa.roadsB (l.set k { x with op := o }) = true ∧ decide ((k : Int) ∈ Roa.openL (l.set k { x with op := o })) = o) := Roa.turn_yes
  have HTN : Hid (Roa.turnB l r o = false → (Roa.roadsB l = false ∧ Roa.turnL l r o = []) ∨ (Roa.roadsB l = true ∧ Roa.turnL l r o = l)) := Roa.turn_no
  have HSP := fun w' (h : Roa.E.Lies w' (some ⟨g1, 0, none⟩) l) => Roa.specTurn (some ⟨g1, 0, none⟩) l.length c1 l r o w' rfl h (by simp) (by omega)
  generalize Roa.turnL l r o = X at *
  generalize Roa.turnB l r o = tb at *
  go_wp2_with fail
  refine (Roa.drawUsed _ _ _ _ hb2 hl).mono ?_
  rintro x w3 ⟨g2, c2, q, k, lost, rfl, hl2, o2, b3⟩
  replace o1 := o1.later b3
  replace ox := ox.later b3
  have B3 := B2.trans (b3.mono B2.size)
  clear b3 hb2 B2
  go_wp2_with fail
  refine (Roa.implUsed _ _ _ q k lost _ rfl o2.lies (by simp) (by omega)).mono ?_
  rintro x w4 ⟨gy, cy, rfl, oy, b4⟩
  replace o1 := o1.later b4
  replace ox := ox.later b4
  replace o2 := o2.later b4
  have B4 := B3.trans (b4.mono B3.size)
  have hb4 := Draw.Bytes.below hb B4 (Nat.le_refl _)
  clear b4 B3
  have hly : (Roa.usedL q k lost).length ≤ 8 := Nat.le_trans (Roa.usedL_len q k lost) hl2
  have HUY : Hid (Roa.usedB q k = true → ∃ (j : Nat) (x : Roa.Rd), k = (j : Int) ∧ j < q.length ∧ Roa.at' q j = x ∧ Roa.rdB x = true ∧ x.se < 1000000000 ∧ Roa.usedL q k lost = q.set j (Roa.usedR x lost) ∧ Roa.roadsB (q.set j (Roa.usedR x lost)) = true) := Roa.used_yes
  have HSU := fun w' (h : Roa.E.Lies w' (some ⟨g2, 0, none⟩) q) => Roa.specUsed (some ⟨g2, 0, none⟩) q.length c2 q k lost w' rfl h (by simp) (by omega)
  generalize Roa.usedL q k lost = Y at *
  generalize Roa.usedB q k = ub at *
  go_wp2_with fail
  refine (Roa.drawOpenOnes _ _ _ _ hb4 hl).mono ?_
  rintro x w5 ⟨g3, c3, l3, rfl, hl3, o3, b5⟩
  replace o1 := o1.later b5
  replace ox := ox.later b5
  replace o2 := o2.later b5
  replace oy := oy.later b5
  have B5 := B4.trans (b5.mono B4.size)
  clear b5 hb4 B4
  go_wp2_with fail
  refine (HSP _ o1.lies).mono ?_
  rintro x w6 ⟨gz, cz, rfl, oz, b6⟩
  replace o1 := o1.later b6
  replace ox := ox.later b6
  replace o2 := o2.later b6
  replace oy := oy.later b6
  replace o3 := o3.later b6
  have B6 := B5.trans (b6.mono B5.size)
  clear b6 B5 HSP
  have htb : (tb != tb) = false := by cases tb <;> rfl
  have hub : (ub != ub) = false := by cases ub <;> rfl
  go_wp2_with fail
  refine (Roa.likeRoads _ _ _ _ _ _ X _ rfl rfl ox.lies oz.lies (by omega)).mono ?_
  rintro x w7 ⟨rfl, b7⟩
  replace o1 := o1.later b7
  replace ox := ox.later b7
  replace o2 := o2.later b7
  replace oy := oy.later b7
  replace o3 := o3.later b7
  have B7 := B6.trans (b7.mono B6.size)
  clear b7 B6 oz
  have hOKi := fun w' (h : Roa.E.Lies w' (some ⟨g1, 0, none⟩) l) => Roa.implRoadsOk (some ⟨g1, 0, none⟩) l.length c1 l w' rfl h (by omega)
  have hOKs := fun w' (h : Roa.E.Lies w' (some ⟨g1, 0, none⟩) l) => Roa.specRoadsOk (some ⟨g1, 0, none⟩) l.length c1 l w' rfl h (by omega)
  generalize Roa.roadsB l = rb at *
  have hrb : (rb != rb) = false := by cases rb <;> rfl
  go_wp2_with fail
  refine (hOKi _ o1.lies).mono ?_
  rintro x w8 ⟨rfl, b8⟩
  replace o1 := o1.later b8
  replace ox := ox.later b8
  replace o2 := o2.later b8
  replace oy := oy.later b8
  replace o3 := o3.later b8
  have B8 := B7.trans (b8.mono B7.size)
  clear b8 B7 hOKi
  go_wp2_with fail
  refine (hOKs _ o1.lies).mono ?_
  rintro x w9 ⟨rfl, b9⟩
  replace o1 := o1.later b9
  replace ox := ox.later b9
  replace o2 := o2.later b9
  replace oy := oy.later b9
  replace o3 := o3.later b9
  have B9 := B8.trans (b9.mono B8.size)
  clear b9 B8
  go_wp2_with fail
  refine (Roa.implOpenOnes _ _ _ l3 _ rfl o3.lies (by omega)).mono ?_
  rintro x wA ⟨gi, ci, rfl, oi, bA⟩
  replace o1 := o1.later bA
  replace ox := ox.later bA
  replace o2 := o2.later bA
  replace oy := oy.later bA
  replace o3 := o3.later bA
  have BA := B9.trans (bA.mono B9.size)
  clear bA B9
  go_wp2_with fail
  refine (Roa.specOpenOnes _ _ _ l3 _ rfl o3.lies (by omega)).mono ?_
  rintro x wB ⟨gj, cj, rfl, oj, bB⟩
  replace o1 := o1.later bB
  replace ox := ox.later bB
  replace o2 := o2.later bB
  replace oy := oy.later bB
  replace o3 := o3.later bB
  replace oi := oi.later bB
  have BB := BA.trans (bB.mono BA.size)
  clear bB BA
  have h34 : (Roa.openL l3).length ≤ 4 := Roa.openL_len l3
  go_wp2_with fail
  refine (Roa.likeInts _ _ _ _ _ _ _ _ (Roa.openL l3) _ rfl rfl oi oj (by omega)).mono ?_
  rintro x wC ⟨rfl, bC⟩
  replace o1 := o1.later bC
  replace ox := ox.later bC
  replace o2 := o2.later bC
  replace oy := oy.later bC
  replace o3 := o3.later bC
  have BC := BB.trans (bC.mono BB.size)
  clear bC BB oi oj
  go_wp2_with fail
  refine (Roa.implOpenOnes _ _ _ l3 _ rfl o3.lies (by omega)).mono ?_
  rintro x wD ⟨gk, ck, rfl, ok, bD⟩
  replace o1 := o1.later bD
  replace ox := ox.later bD
  replace o2 := o2.later bD
  replace oy := oy.later bD
  have BD := BC.trans (bD.mono BC.size)
  clear bD BC o3
  go_wp2_with fail
  refine (Roa.rises _ _ _ _ (Roa.openL l3) _ rfl ok (Roa.openL_lt l3) (by omega)).mono ?_
  rintro x wE ⟨rfl, bE⟩
  replace o1 := o1.later bE
  replace ox := ox.later bE
  replace o2 := o2.later bE
  replace oy := oy.later bE
  have BE := BD.trans (bE.mono BD.size)
  clear bE BD ok h34
  go_wp2_with fail
  refine (HSU _ o2.lies).mono ?_
  rintro x wF ⟨gz, cz, rfl, oz, bF⟩
  replace o1 := o1.later bF
  replace ox := ox.later bF
  replace o2 := o2.later bF
  replace oy := oy.later bF
  have BF := BE.trans (bF.mono BE.size)
  clear bF BE HSU
  go_wp2_with fail
  refine (Roa.likeRoads _ _ _ _ _ _ Y _ rfl rfl oy.lies oz.lies (by omega)).mono ?_
  rintro x wG ⟨rfl, bG⟩
  replace o1 := o1.later bG
  replace ox := ox.later bG
  replace o2 := o2.later bG
  replace oy := oy.later bG
  have BG := BF.trans (bG.mono BF.size)
  clear bG BF oz
  go_upto_region 14 with (fail)
  cases ub
  · refine Draw.wp_region_later hmix (by kernel_rfl) ?_
    repeat (go_big_quiet_step (fail))
    refine wpQuiet_nil ?_
    intro _ hw'
    obtain ⟨⟨wq, hBq⟩, hw''⟩ := hw'
    subst hw''
    replace o1 := o1.later hBq
    replace ox := ox.later hBq
    have BH := BG.trans (hBq.mono BG.size)
    clear o2 oy hBq BG HUY
    cases tb
    · rcases HTN.out rfl with ⟨hrb0, hX⟩ | ⟨hrb0, hX⟩
      · subst hrb0
        subst hX
        go_wp2_with fail
        refine (hOKs _ o1.lies).mono ?_
        rintro x wJ ⟨rfl, bJ⟩
        have BJ := BH.trans (bJ.mono BH.size)
        clear bJ
        go_wp2_with fail
        go_ret
        exact ⟨rfl, BJ⟩
      · subst hrb0
        subst hX
        go_wp2_with fail
        refine (hOKs _ o1.lies).mono ?_
        rintro x wJ ⟨rfl, bJ⟩
        replace o1 := o1.later bJ
        replace ox := ox.later bJ
        have BJ := BH.trans (bJ.mono BH.size)
        clear bJ
        go_wp2_with fail
        refine (Roa.likeRoads _ _ _ _ _ _ _ _ rfl rfl ox.lies o1.lies (by omega)).mono ?_
        rintro x wK ⟨rfl, bK⟩
        have BK := BJ.trans (bK.mono BJ.size)
        clear bK
        go_wp2_with fail
        go_ret
        exact ⟨rfl, BK⟩
    · obtain ⟨i, ⟨xo, xc, xs, xl⟩, rfl, hi, hat, hop, hX, hRX, hmem⟩ := HTY.out rfl
      subst hX
      dsimp only at hop hRX hmem
      have hXl : (l.set i (⟨o, xc, xs, xl⟩ : Roa.Rd)).length = l.length := List.length_set
      have j0 : (0 : Int) ≤ (i : Int) := by omega
      have j1 : (i : Int) < (l.length : Int) := by omega
      have hatX : Roa.at' (l.set i (⟨o, xc, xs, xl⟩ : Roa.Rd)) i = ⟨o, xc, xs, xl⟩ := Roa.at_set hi _
      have hOKx := Roa.implRoadsOk _ _ cx _ _ rfl ox.lies (by rw [hXl]; omega)
      rw [hRX] at hOKx
      dsimp only at hOKx ox
      have hOPx := fun w' h => Roa.implOpenOnes (some ⟨gx, 0, none⟩) _ cx (l.set i (⟨o, xc, xs, xl⟩ : Roa.Rd)) w' rfl h (by rw [hXl]; omega)
      rw [hXl] at hOKx hOPx
      rw [hXl]
      have HAT : Hid _ := hat
      have HATX : Hid _ := hatX
      have HMEM : Hid _ := hmem
      have HXL : Hid _ := hXl
      have h4x := Roa.openL_len (l.set i (⟨o, xc, xs, xl⟩ : Roa.Rd))
      clear HTY HTN hat hatX hmem hRX hXl hOKs
      go_wp2_with fail
      refine hOKx.mono ?_
      rintro x wJ ⟨rfl, bJ⟩
      replace o1 := o1.later bJ
      replace ox := ox.later bJ
      have BJ := BH.trans (bJ.mono BH.size)
      clear bJ hOKx
      have e0 := (Roa.own_nonempty o1 hi).1.1
      have e1 := (Roa.own_nonempty ox (k := i) (by rw [HXL.out]; exact hi)).1.1
      rw [HAT.out] at e0
      rw [HATX.out] at e1
      dsimp only at e0 e1
      have hoo : (o == o) = true := by cases o <;> rfl
      have hop' : (xo != o) = true := by rw [bne, hop]; rfl
      go_wp2_with fail
      refine (hOPx _ ox.lies).mono ?_
      rintro x wK ⟨gp, cp, rfl, op, bK⟩
      have BK := BJ.trans (bK.mono BJ.size)
      clear bK e0 e1
      go_wp2_with fail
      refine (Roa.has _ _ _ _ _ _ _ rfl op (by omega)).mono ?_
      rintro x wM ⟨rfl, rfl⟩
      rw [HMEM.out]
      go_wp2_with fail
      go_ret
      exact ⟨Num.ret_bool (by first | rfl | simp), BK⟩
  · obtain ⟨j, ⟨yo, yc, ys, yl⟩, rfl, hj, hatq, hrd, hse, hY, hRY⟩ := HUY.out rfl
    subst hY
    dsimp only at hse hRY
    have hpl : 0 ≤ ys ∧ ys ≤ 1000000000 ∧ 0 ≤ yl ∧ yl ≤ ys := by
      simp only [Roa.rdB, Bool.and_eq_true, decide_eq_true_eq, Num.plB] at hrd
      omega
    have hYl : (q.set j (Roa.usedR ⟨yo, yc, ys, yl⟩ lost)).length = q.length := List.length_set
    have hatY : Roa.at' (q.set j (Roa.usedR ⟨yo, yc, ys, yl⟩ lost)) j = Roa.usedR ⟨yo, yc, ys, yl⟩ lost := Roa.at_set hj _
    have hOKy := fun p : Draw.Later wG => Roa.implRoadsOk (some ⟨gy, 0, none⟩) _ cy _ p.v rfl (oy.lies.later p.h) (by rw [hYl]; omega)
    rw [hRY, hYl] at hOKy
    rw [hYl]
    have j0 : (0 : Int) ≤ (j : Int) := by omega
    have j1 : (j : Int) < (q.length : Int) := by omega
    obtain ⟨_, _, d2, d3⟩ := (Roa.own_nonempty o2 hj).1
    obtain ⟨_, _, e2, e3⟩ := (Roa.own_nonempty oy (k := j) (by rw [hYl]; exact hj)).1
    rw [hatq] at d2 d3
    rw [hatY] at e2 e3
    dsimp only [Roa.usedR] at d2 d3 e2 e3
    replace d2 := Draw.Later.cell d2
    replace d3 := Draw.Later.cell d3
    replace e2 := Draw.Later.cell e2
    replace e3 := Draw.Later.cell e3
    clear HUY hatq hatY hrd hRY hYl o2 oy
    cases lost
    · simp only [Bool.false_eq_true, if_false] at e3
      have q1 : ¬ yl + 1 < yl := by omega
      have q2 : decide (yl + 1 < yl) = false := decide_eq_false q1
      have q3 : decide (yl < yl) = false := decide_eq_false (by omega)
      refine Draw.wp_region_later hmix (by kernel_rfl) ?_
      repeat (go_big_quiet_step ((go_at_call 16; exact Draw.later_of (hOKy _))))
      refine wpQuiet_nil ?_
      intro _ hw'
      obtain ⟨⟨wq, hBq⟩, hw''⟩ := hw'
      subst hw''
      replace o1 := o1.later hBq
      replace ox := ox.later hBq
      have BH := BG.trans (hBq.mono BG.size)
      clear hBq BG hOKy d2 d3 e2 e3
      cases tb
      · rcases HTN.out rfl with ⟨hrb0, hX⟩ | ⟨hrb0, hX⟩
        · subst hrb0
          subst hX
          go_wp2_with fail
          refine (hOKs _ o1.lies).mono ?_
          rintro x wJ ⟨rfl, bJ⟩
          have BJ := BH.trans (bJ.mono BH.size)
          clear bJ
          go_wp2_with fail
          go_ret
          exact ⟨rfl, BJ⟩
        · subst hrb0
          subst hX
          go_wp2_with fail
          refine (hOKs _ o1.lies).mono ?_
          rintro x wJ ⟨rfl, bJ⟩
          replace o1 := o1.later bJ
          replace ox := ox.later bJ
          have BJ := BH.trans (bJ.mono BH.size)
          clear bJ
          go_wp2_with fail
          refine (Roa.likeRoads _ _ _ _ _ _ _ _ rfl rfl ox.lies o1.lies (by omega)).mono ?_
          rintro x wK ⟨rfl, bK⟩
          have BK := BJ.trans (bK.mono BJ.size)
          clear bK
          go_wp2_with fail
          go_ret
          exact ⟨rfl, BK⟩
      · obtain ⟨i, ⟨xo, xc, xs, xl⟩, rfl, hi, hat, hop, hX, hRX, hmem⟩ := HTY.out rfl
        subst hX
        dsimp only at hop hRX hmem
        have hXl : (l.set i (⟨o, xc, xs, xl⟩ : Roa.Rd)).length = l.length := List.length_set
        have j0 : (0 : Int) ≤ (i : Int) := by omega
        have j1 : (i : Int) < (l.length : Int) := by omega
        have hatX : Roa.at' (l.set i (⟨o, xc, xs, xl⟩ : Roa.Rd)) i = ⟨o, xc, xs, xl⟩ := Roa.at_set hi _
        have hOKx := Roa.implRoadsOk _ _ cx _ _ rfl ox.lies (by rw [hXl]; omega)
        rw [hRX] at hOKx
        dsimp only at hOKx ox
        have hOPx := fun w' h => Roa.implOpenOnes (some ⟨gx, 0, none⟩) _ cx (l.set i (⟨o, xc, xs, xl⟩ : Roa.Rd)) w' rfl h (by rw [hXl]; omega)
        rw [hXl] at hOKx hOPx
        rw [hXl]
        have HAT : Hid _ := hat
        have HATX : Hid _ := hatX
        have HMEM : Hid _ := hmem
        have HXL : Hid _ := hXl
        have h4x := Roa.openL_len (l.set i (⟨o, xc, xs, xl⟩ : Roa.Rd))
        clear HTY HTN hat hatX hmem hRX hXl hOKs
        go_wp2_with fail
        refine hOKx.mono ?_
        rintro x wJ ⟨rfl, bJ⟩
        replace o1 := o1.later bJ
        replace ox := ox.later bJ
        have BJ := BH.trans (bJ.mono BH.size)
        clear bJ hOKx
        have e0 := (Roa.own_nonempty o1 hi).1.1
        have e1 := (Roa.own_nonempty ox (k := i) (by rw [HXL.out]; exact hi)).1.1
        rw [HAT.out] at e0
        rw [HATX.out] at e1
        dsimp only at e0 e1
        have hoo : (o == o) = true := by cases o <;> rfl
        have hop' : (xo != o) = true := by rw [bne, hop]; rfl
        go_wp2_with fail
        refine (hOPx _ ox.lies).mono ?_
        rintro x wK ⟨gp, cp, rfl, op, bK⟩
        have BK := BJ.trans (bK.mono BJ.size)
        clear bK e0 e1
        go_wp2_with fail
        refine (Roa.has _ _ _ _ _ _ _ rfl op (by omega)).mono ?_
        rintro x wM ⟨rfl, rfl⟩
        rw [HMEM.out]
        go_wp2_with fail
        go_ret
        exact ⟨Num.ret_bool (by first | rfl | simp), BK⟩
    · simp only [if_true] at e3
      have q1 : ¬ yl + 1 < yl := by omega
      have q2 : ¬ yl + 1 < yl + 1 := by omega
      have q3 : yl < yl + 1 := by omega
      refine Draw.wp_region_later hmix (by kernel_rfl) ?_
      repeat (go_big_quiet_step ((go_at_call 16; exact Draw.later_of (hOKy _))))
      refine wpQuiet_nil ?_
      intro _ hw'
      obtain ⟨⟨wq, hBq⟩, hw''⟩ := hw'
      subst hw''
      replace o1 := o1.later hBq
      replace ox := ox.later hBq
      have BH := BG.trans (hBq.mono BG.size)
      clear hBq BG hOKy d2 d3 e2 e3
      cases tb
      · rcases HTN.out rfl with ⟨hrb0, hX⟩ | ⟨hrb0, hX⟩
        · subst hrb0
          subst hX
          go_wp2_with fail
          refine (hOKs _ o1.lies).mono ?_
          rintro x wJ ⟨rfl, bJ⟩
          have BJ := BH.trans (bJ.mono BH.size)
          clear bJ
          go_wp2_with fail
          go_ret
          exact ⟨rfl, BJ⟩
        · subst hrb0
          subst hX
          go_wp2_with fail
          refine (hOKs _ o1.lies).mono ?_
          rintro x wJ ⟨rfl, bJ⟩
          replace o1 := o1.later bJ
          replace ox := ox.later bJ
          have BJ := BH.trans (bJ.mono BH.size)
          clear bJ
          go_wp2_with fail
          refine (Roa.likeRoads _ _ _ _ _ _ _ _ rfl rfl ox.lies o1.lies (by omega)).mono ?_
          rintro x wK ⟨rfl, bK⟩
          have BK := BJ.trans (bK.mono BJ.size)
          clear bK
          go_wp2_with fail
          go_ret
          exact ⟨rfl, BK⟩
      · obtain ⟨i, ⟨xo, xc, xs, xl⟩, rfl, hi, hat, hop, hX, hRX, hmem⟩ := HTY.out rfl
        subst hX
        dsimp only at hop hRX hmem
        have hXl : (l.set i (⟨o, xc, xs, xl⟩ : Roa.Rd)).length = l.length := List.length_set
        have j0 : (0 : Int) ≤ (i : Int) := by omega
        have j1 : (i : Int) < (l.length : Int) := by omega
        have hatX : Roa.at' (l.set i (⟨o, xc, xs, xl⟩ : Roa.Rd)) i = ⟨o, xc, xs, xl⟩ := Roa.at_set hi _
        have hOKx := Roa.implRoadsOk _ _ cx _ _ rfl ox.lies (by rw [hXl]; omega)
        rw [hRX] at hOKx
        dsimp only at hOKx ox
        have hOPx := fun w' h => Roa.implOpenOnes (some ⟨gx, 0, none⟩) _ cx (l.set i (⟨o, xc, xs, xl⟩ : Roa.Rd)) w' rfl h (by rw [hXl]; omega)
        rw [hXl] at hOKx hOPx
        rw [hXl]
        have HAT : Hid _ := hat
        have HATX : Hid _ := hatX
        have HMEM : Hid _ := hmem
        have HXL : Hid _ := hXl
        have h4x := Roa.openL_len (l.set i (⟨o, xc, xs, xl⟩ : Roa.Rd))
        clear HTY HTN hat hatX hmem hRX hXl hOKs
        go_wp2_with fail
        refine hOKx.mono ?_
        rintro x wJ ⟨rfl, bJ⟩
        replace o1 := o1.later bJ
        replace ox := ox.later bJ
        have BJ := BH.trans (bJ.mono BH.size)
        clear bJ hOKx
        have e0 := (Roa.own_nonempty o1 hi).1.1
        have e1 := (Roa.own_nonempty ox (k := i) (by rw [HXL.out]; exact hi)).1.1
        rw [HAT.out] at e0
        rw [HATX.out] at e1
        dsimp only at e0 e1
        have hoo : (o == o) = true := by cases o <;> rfl
        have hop' : (xo != o) = true := by rw [bne, hop]; rfl
        go_wp2_with fail
        refine (hOPx _ ox.lies).mono ?_
        rintro x wK ⟨gp, cp, rfl, op, bK⟩
        have BK := BJ.trans (bK.mono BJ.size)
        clear bK e0 e1
        go_wp2_with fail
        refine (Roa.has _ _ _ _ _ _ _ rfl op (by omega)).mono ?_
        rintro x wM ⟨rfl, rfl⟩
        rw [HMEM.out]
        go_wp2_with fail
        go_ret
        exact ⟨Num.ret_bool (by first | rfl | simp), BK⟩

/-! ### THE ROW's STEP: WRITTEN OUT: LEAVE IT -/
set_option maxRecDepth 100000 in
theorem lifted (os : Os) (started : os.Started) (H : Type) (enc : TypeId × Value → H) :
    ReturnsInHanded {} Try.checked os 3 .any (Rows.fnRoadsSpec.pre6 enc Try.prog Try.f3 Rows.fnRoadsRow.domain false) (Rows.fnRoadsSpec.post enc Try.prog Try.f3 false true false false) := by
  refine returnsInHanded_of_change (C := Try.checked) own started (by kernel_rfl) Try.func3
    (ChangeSpec.witness6 (enc := enc) (C := Try.checked) false ⟨#[], #[.slice none 0 0], []⟩ 8 (by kernel_rfl) (by kernel_rfl) (by kernel_rfl) (by kernel_rfl)) ?_
  intro W base args ds gs before hval0 hW hcnd _
  have hval : ∀ (j : Nat) t v, Try.f3.params[j]? = some t → args[j]? = some v → Value.okWide Try.prog W .any base t v := hval0
  have hW' := hW
  obtain ⟨p, q, hA0, hV, rfl, hfz, hnd⟩ := hW
  have hA : DataW.TrodAll enc Try.prog W 0 (fun _ => true) true Try.f3.params.toList args.toList ds p := hA0
  rw [Try.params3] at hA hval
  obtain ⟨v0, vs0, d0, ds0, p0, q0, hargs, rfl, rfl, h0, r0⟩ := trodAll_cons hA
  obtain ⟨rfl, rfl, rfl⟩ := trodAll_nil r0
  obtain rfl : args = #[v0] := by cases args; simp_all
  obtain ⟨rfl, rfl⟩ := trodVars_none hV
  obtain ⟨a0, len0, cap0, rfl⟩ := okWide_slice Try.underlying22 (hval 0 22 v0 rfl rfl)
  have k0 := h0
  have lt0 : ∀ x ∈ p0, x.block < W.heap.size := by obtain ⟨m, hm⟩ := k0; exact DataW.trod_lt m _ _ _ hm
  obtain ⟨z0, w0⟩ : ∃ zs, IsRow .u8 W a0 len0 cap0 zs := by
    obtain ⟨fuel, hf⟩ := h0
    rcases open_ints Try.underlying22 Try.underlying5 (by kernel_rfl) hf with ⟨hcs, _⟩ | ⟨x, l, c, zs, hcs, _, hl, hm, hz, _, hcell, hwz⟩
    · simp [Value.cells] at hcs
      obtain ⟨rfl, rfl, rfl⟩ := hcs
      exact ⟨[], .inl ⟨rfl, rfl, rfl, rfl⟩⟩
    · simp [Value.cells] at hcs
      obtain ⟨rfl, rfl, rfl⟩ := hcs
      exact ⟨zs, .inr ⟨_, rfl, hl, hm, by simpa using hz, hcell, hwz⟩⟩
  clear hA0 hval0
  refine (walk a0 len0 cap0 z0 W w0).mono fun e W' ⟨he, bel⟩ => ?_
  subst he
  exact ⟨_, rfl, _, _, _, [], _, [], hW', trodAll_mk1 (shut_bool Try.underlying4 _), (trodAll_cons_mk (Below.trod laidOut (by kernel_rfl) (of_decide_eq_true (by kernel_rfl)) k0 bel lt0) trodAll_mk0), rfl, bel.frame _, fun h => by cases h⟩

theorem over : Rows.fnRoadsRow.holds Try.pinned (OpenSpec.ofChange Rows.fnRoadsSpec) :=
  OpenClaim.holds_of_wide 3 Try.f3 rfl rfl rfl rfl rfl rfl rfl ⟨rfl, rfl, rfl, rfl, rfl⟩ rfl rfl rfl rfl rfl (by kernel_rfl) Try.func3 (by kernel_rfl)
    (of_decide_eq_true (by kernel_rfl)) (by unfold Func.isWrapper; first | (rw [if_pos (by decide +kernel)]; kernel_rfl) | (rw [if_neg (by decide +kernel)]; exact ⟨rfl, rfl⟩))
    (fun os started H enc _ => lifted os started H enc)

/-- THE STATEMENT. -/
theorem proved : Rows.FnRoadsSaid := over
end Go.Proofs.Ytocdcmglkceohaa.fnRoads
namespace Go.Proofs.Ytocdcmglkceohaa
theorem fnRoads_holds : Rows.FnRoadsSaid := fnRoads.proved
#print axioms fnRoads_holds
end Go.Proofs.Ytocdcmglkceohaa

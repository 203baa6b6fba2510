/- For every code of bytes FnChosen returns true: the program's Chosen, AfterIt, Cheapest and Safest answer as the specification's, who is chosen is open where one is, none that is open is cheaper or safer, the next one is the next; codes of more than 4096 bytes the law itself lets by; no condition. (Its frame is the guide's shell; the walk is mine.) -/
import Derived.Test.YtnfdomgibkdkcaaRows
import Derived.Test.YtnfdomgibkdkcaaChoM
import Derived.Test.YtnfdomgibkdkcaaChoQ
import Derived.Test.YtnfdomgibkdkcaaDrawCh
import Derived.WalkKit
import Derived.ProofKit
import Derived.OpenShut
import Derived.ShutString
import Derived.ChangeOld
import Derived.Below
namespace Go.Proofs.Ytnfdomgibkdkcaa.fnChosen
open Go.ChangeShapes Go.WideShapes Go.ChangeAt Go.RowKit
open Go.ChangeMaps (open_string shut_string)
set_option linter.unusedVariables false

theorem own : ownKnob Try.prog.godebug = none := by kernel_rfl
theorem laidOut : laidOutB Try.prog = true := by kernel_rfl

/-- WHAT THE WALK IS TOLD OF A SLICE OF INTEGERS THAT CAME IN: it is nil; or it leads to a row of 'cap' cells, the numbers 'zs' (the first 'len' are its elements, the rest its spare room), each fitting its kind. -/
def IsRow (k : IntKind) (w : World) (a : Option Addr) (len cap : Nat) (zs : List Int) : Prop :=
  (a = none ∧ len = 0 ∧ cap = 0 ∧ zs = []) ∨
  ∃ x, a = some x ∧ len ≤ cap ∧ cap ≤ maxLen ∧ zs.length = cap ∧ (∀ i, i < zs.length → w.cell? (x.add i) = some (.int k (zs.getD i 0))) ∧ ∀ n ∈ zs, (Lit.int k n).wf = true

/-! ### STEP 1: THE WALK: the Go text returns true, AND WRITES NOTHING THAT WAS THERE: 'Below w.heap.size w w'' (Derived/Below.lean: '.refl', '.alloc', '.drew', '.setCell' at a new block, '.trans'). Open each 'IsRow' by 'rcases' AHEAD of 'go_enter'; part every test ahead of the walk. -/
set_option linter.unusedSimpArgs false in
set_option maxRecDepth 20000 in
set_option maxHeartbeats 40000000 in
theorem walk (a0 : Option Addr) (len0 cap0 : Nat) (z0 : List Int) (w : World) (w0 : IsRow .u8 w a0 len0 cap0 z0) :
    Calls Try.prog 3 #[.slice a0 len0 cap0] w fun e w' => e = .returned (.bool true) ∧ Below w.heap.size w w' := by
  obtain ⟨hb, hm⟩ := Draw.bytes_of_row w0
  clear w0
  by_cases hl : len0 ≤ 4096
  case neg =>
    have hd : decide (4096 < (len0 : Int)) = true := by simp; omega
    go_enter Try.func3, Try.ntmps3
    go_wp2_with fail
    refine (Draw.big _ _ _ _ hm).mono ?_
    rintro e w1 ⟨rfl, rfl⟩
    go_wp2_with fail
    go_ret
    exact ⟨rfl, Below.refl _ _⟩
  have hd : decide (4096 < (len0 : Int)) = false := by simp; omega
  have hmix := Roa.mix
  go_enter Try.func3, Try.ntmps3
  go_wp2_with fail
  refine (Draw.big _ _ _ _ hm).mono ?_
  rintro e w1 ⟨rfl, rfl⟩
  clear hd
  go_wp2_with fail
  refine (Roa.drawChosen _ _ _ _ hb hl).mono ?_
  rintro x w1 ⟨g1, c1, l, y, z, rfl, hl1, o1, B1⟩
  have hl2 : l.length ≤ 2097152 := by omega
  have hCi := fun w' (h : Roa.E.Lies w' (some ⟨g1, 0, none⟩) l) => Roa.implChosen (some ⟨g1, 0, none⟩) l.length c1 l y z w' rfl h hl2
  have hCs := fun w' (h : Roa.E.Lies w' (some ⟨g1, 0, none⟩) l) => Roa.specChosen (some ⟨g1, 0, none⟩) l.length c1 l y z w' rfl h hl2
  have hHi := fun w' (h : Roa.E.Lies w' (some ⟨g1, 0, none⟩) l) => Roa.implCheapest (some ⟨g1, 0, none⟩) l.length c1 l w' rfl h hl2
  have hHs := fun w' (h : Roa.E.Lies w' (some ⟨g1, 0, none⟩) l) => Roa.specCheapest (some ⟨g1, 0, none⟩) l.length c1 l w' rfl h hl2
  have hSi := fun w' (h : Roa.E.Lies w' (some ⟨g1, 0, none⟩) l) => Roa.implSafest (some ⟨g1, 0, none⟩) l.length c1 l w' rfl h hl2
  have hSs := fun w' (h : Roa.E.Lies w' (some ⟨g1, 0, none⟩) l) => Roa.specSafest (some ⟨g1, 0, none⟩) l.length c1 l w' rfl h hl2
  have hNi := fun z w' (h : Roa.E.Lies w' (some ⟨g1, 0, none⟩) l) => Roa.implAfterIt (some ⟨g1, 0, none⟩) l.length c1 l z w' rfl h hl2
  have he1 : Roa.openL l = [] → Roa.chosenI l y z = -1 ∧ Roa.best Roa.chB l = -1 ∧ Roa.best Roa.saB l = -1 := fun h => ⟨Roa.chosen_empty h y z, Roa.best_empty _ h, Roa.best_empty _ h⟩
  have he2 : Roa.openL l ≠ [] → (Roa.chosenI l y z = -1 ∨ Roa.chosenI l y z ∈ Roa.openL l) ∧ Roa.best Roa.chB l ∈ Roa.openL l ∧ Roa.best Roa.saB l ∈ Roa.openL l ∧ Roa.roadsB l = true := fun h => ⟨Roa.chosen_mem h y z, Roa.best_mem _ h, Roa.best_mem _ h, (Roa.open_mem (Roa.best_mem Roa.chB h)).1⟩
  have he3 : ∀ i, i < (Roa.openL l).length → Roa.chB (Roa.at' l ((Roa.openL l).getD i 0).toNat) (Roa.at' l (Roa.best Roa.chB l).toNat) = false ∧ (Roa.roadsB l = true → Roa.saB (Roa.at' l ((Roa.openL l).getD i 0).toNat) (Roa.at' l (Roa.best Roa.saB l).toNat) = false) := fun i hi => ⟨Roa.ch_least hi, fun hr => Roa.sa_least hr hi⟩
  generalize Roa.chosenI l y z = R at *
  generalize Roa.best Roa.chB l = C at *
  generalize Roa.best Roa.saB l = S at *
  have HCi : Hid _ := hCi
  have HCs : Hid _ := hCs
  have HHi : Hid _ := hHi
  have HHs : Hid _ := hHs
  have HSi : Hid _ := hSi
  have HSs : Hid _ := hSs
  have HNi : Hid _ := hNi
  have HE1 : Hid _ := he1
  have HE2 : Hid _ := he2
  have HE3 : Hid _ := he3
  clear hCi hCs hHi hHs hSi hSs hNi he1 he2 he3
  go_wp2_with fail
  refine (HCi.out _ o1.lies).mono ?_
  rintro x w2 ⟨rfl, b2⟩
  replace o1 := o1.later b2
  have B2 := B1.trans (b2.mono B1.size)
  have hb2 := Draw.Bytes.below hb B2 (Nat.le_refl _)
  clear b2 B1 HCi
  go_wp2_with fail
  refine (Roa.drawAfterIt _ _ _ _ hb2 hl).mono ?_
  rintro x w3 ⟨g2, c2, q, u, rfl, hq1, o2, b3⟩
  replace o1 := o1.later b3
  have B3 := B2.trans (b3.mono B2.size)
  clear b3 hb2 B2
  have hq2 : q.length ≤ 2097152 := by omega
  have hAi := fun w' (h : Roa.E.Lies w' (some ⟨g2, 0, none⟩) q) => Roa.implAfterIt (some ⟨g2, 0, none⟩) q.length c2 q u w' rfl h hq2
  have hAs := fun w' (h : Roa.E.Lies w' (some ⟨g2, 0, none⟩) q) => Roa.specAfterIt (some ⟨g2, 0, none⟩) q.length c2 q u w' rfl h hq2
  generalize Roa.afterI q u = N at *
  have HAi : Hid _ := hAi
  have HAs : Hid _ := hAs
  clear hAi hAs
  go_wp2_with fail
  refine (HHi.out _ o1.lies).mono ?_
  rintro x w4 ⟨rfl, b4⟩
  replace o1 := o1.later b4
  replace o2 := o2.later b4
  have B4 := B3.trans (b4.mono B3.size)
  clear b4 B3 HHi
  go_wp2_with fail
  refine (HSi.out _ o1.lies).mono ?_
  rintro x w5 ⟨rfl, b5⟩
  replace o1 := o1.later b5
  replace o2 := o2.later b5
  have B5 := B4.trans (b5.mono B4.size)
  clear b5 B4 HSi
  go_wp2_with fail
  refine (HCs.out _ o1.lies).mono ?_
  rintro x w6 ⟨rfl, b6⟩
  replace o1 := o1.later b6
  replace o2 := o2.later b6
  have B6 := B5.trans (b6.mono B5.size)
  clear b6 B5 HCs
  go_wp2_with fail
  refine (HAi.out _ o2.lies).mono ?_
  rintro x w7 ⟨rfl, b7⟩
  replace o1 := o1.later b7
  replace o2 := o2.later b7
  have B7 := B6.trans (b7.mono B6.size)
  clear b7 B6 HAi
  go_wp2_with fail
  refine (HAs.out _ o2.lies).mono ?_
  rintro x w8 ⟨rfl, b8⟩
  replace o1 := o1.later b8
  replace o2 := o2.later b8
  have B8 := B7.trans (b8.mono B7.size)
  clear b8 B7 HAs o2
  go_wp2_with fail
  refine (HHs.out _ o1.lies).mono ?_
  rintro x w9 ⟨rfl, b9⟩
  replace o1 := o1.later b9
  have B9 := B8.trans (b9.mono B8.size)
  clear b9 B8 HHs
  go_wp2_with fail
  refine (HSs.out _ o1.lies).mono ?_
  rintro x wA ⟨rfl, bA⟩
  replace o1 := o1.later bA
  have BA := B9.trans (bA.mono B9.size)
  clear bA B9 HSs
  go_wp2_with fail
  refine (Roa.specOpenOnes _ _ _ l _ rfl o1.lies hl2).mono ?_
  rintro x wB ⟨g3, c3, rfl, o3, bB⟩
  replace o1 := o1.later bB
  have BB := BA.trans (bB.mono BA.size)
  clear bB BA
  have HP : Hid ((Roa.openL l).Pairwise (· < ·)) := Roa.openL_lt l
  have hol := Roa.openL_len l
  have hON : ∀ i, i < (Roa.openL l).length → ∃ j : Nat, j < l.length ∧ (Roa.openL l).getD i 0 = (j : Int) := fun i hi => by
    obtain ⟨_, j, hj, e, _⟩ := Roa.open_at hi
    exact ⟨j, hj, e⟩
  have HON : Hid _ := hON
  clear hON
  have HMN : Hid (∀ x, x ∈ Roa.openL l → Roa.roadsB l = true ∧ ∃ j : Nat, j < l.length ∧ x = (j : Int)) := fun x hx => by
    obtain ⟨h, j, hj, e, _⟩ := Roa.open_mem hx
    exact ⟨h, j, hj, e⟩
  have HNX : Hid (∀ x, x ∈ Roa.openL l → Roa.afterI l x = Roa.afterL x (Roa.openL l)) := fun x hx => Roa.after_range hx
  generalize Roa.openL l = o at *
  by_cases h0 : o = []
  · subst h0
    obtain ⟨rfl, rfl, rfl⟩ := HE1.out rfl
    go_wp2_with fail
    go_ret
    exact ⟨rfl, BB⟩
  obtain ⟨hR, hC, hS, hrd⟩ := HE2.out h0
  have hlen : 0 < o.length := List.length_pos_iff.2 h0
  have hlI : ¬ ((o.length : Int) = 0) := by omega
  have hlB : ((o.length : Int) == 0) = false := beq_eq_false_iff_ne.2 hlI
  have dC : decide (C ∈ o) = true := decide_eq_true hC
  have dS : decide (S ∈ o) = true := decide_eq_true hS
  have hhC := fun w' (h : Roa.OwnI w' wA.heap.size g3 c3 o) => Roa.has wA.heap.size g3 c3 o.length o C w' rfl h (by omega)
  have hhS := fun w' (h : Roa.OwnI w' wA.heap.size g3 c3 o) => Roa.has wA.heap.size g3 c3 o.length o S w' rfl h (by omega)
  rw [dC] at hhC
  rw [dS] at hhS
  have HHC : Hid _ := hhC
  have HHS : Hid _ := hhS
  clear HE1 HE2 hhC hhS dC dS h0
  obtain ⟨_, jc, hjc, rfl⟩ := HMN.out C hC
  obtain ⟨_, js, hjs, rfl⟩ := HMN.out S hS
  go_wp2_with fail
  refine (HHC.out _ o3).mono ?_
  rintro x wC ⟨rfl, rfl⟩
  go_wp2_with fail
  refine (HHS.out _ o3).mono ?_
  rintro x wC ⟨rfl, rfl⟩
  clear HHC HHS
  have hRw : R = -1 ∨ (¬ R = -1 ∧ R ∈ o) := by
    rcases hR with e | e
    · exact .inl e
    · obtain ⟨_, j, _, q⟩ := HMN.out R e
      exact .inr ⟨by omega, e⟩
  clear hR
  rcases hRw with rfl | ⟨hRn, hRm⟩
  rotate_left
  focus
    have dR : decide (R ∈ o) = true := decide_eq_true hRm
    have hRb : (R == -1) = false := beq_eq_false_iff_ne.2 hRn
    have hRb' : (R != -1) = true := bne_iff_ne.2 hRn
    have hhR := fun w' (h : Roa.OwnI w' wA.heap.size g3 c3 o) => Roa.has wA.heap.size g3 c3 o.length o R w' rfl h (by omega)
    rw [dR] at hhR
    have HHR : Hid _ := hhR
    clear hhR dR hRm
    go_wp2_with fail
    refine (HHR.out _ o3).mono ?_
    rintro x wC ⟨rfl, rfl⟩
    clear HHR hRn hRb hRb'
  all_goals
    go_wp2_with fail
    go_loopw [12] (fun iv wr => ∃ k : Nat, k ≤ o.length ∧ iv = .int .i64 k ∧ Below wB.heap.size wB wr) (fun iv _ => o.length - (intOf iv).toNat)
    case atStart => exact ⟨0, Nat.zero_le _, rfl, Below.refl _ _⟩
    case round =>
      obtain ⟨k, hk, rfl, hB⟩ := hrel
      by_cases hlt : k < o.length
      · have HBX : Hid _ := hB
        have i0 : (0 : Int) ≤ (k : Int) := by omega
        have i1 : (k : Int) < (o.length : Int) := by omega
        obtain ⟨j, hj, ej⟩ := HON.out k hlt
        have j0 : (0 : Int) ≤ (j : Int) := by omega
        have j1 : (j : Int) < (l.length : Int) := by omega
        have jc0 : (0 : Int) ≤ (jc : Int) := by omega
        have jc1 : (jc : Int) < (l.length : Int) := by omega
        have js0 : (0 : Int) ≤ (js : Int) := by omega
        have js1 : (js : Int) < (l.length : Int) := by omega
        obtain ⟨he1, he2⟩ := HE3.out k hlt
        replace he2 := he2 hrd
        rw [ej, show ((j : Int)).toNat = j by omega] at he1 he2
        rw [show ((jc : Int)).toNat = jc by omega] at he1
        rw [show ((js : Int)).toNat = js by omega] at he2
        have rj := Roa.rd_of hrd hj
        have rs := Roa.rd_of hrd hjs
        have x0 := ((o3.later hB).at hlt).1
        rw [ej] at x0
        have o4 : Roa.Own wr w.heap.size g1 c1 l := o1.later hB
        obtain ⟨⟨e0, e1, e2, e3⟩, _⟩ := Roa.own_nonempty o4 hj
        have hfac := Roa.pick_facts rj rs he1 he2
        have bW := hB.alloc hB.size (.cells #[.bool (Roa.at' l j).op, .int .i64 (Roa.at' l j).co, .int .i64 (Roa.at' l j).se, .int .i64 (Roa.at' l j).lo] 36)
        have vW : RowG.Var 36 (wr.alloc (.cells #[.bool (Roa.at' l j).op, .int .i64 (Roa.at' l j).co, .int .i64 (Roa.at' l j).se, .int .i64 (Roa.at' l j).lo] 36)) wr.heap.size [.bool (Roa.at' l j).op, .int .i64 (Roa.at' l j).co, .int .i64 (Roa.at' l j).se, .int .i64 (Roa.at' l j).lo] := RowG.Var.new wr _
        obtain ⟨⟨_, y1, _, _⟩, _⟩ := Roa.own_nonempty (o1.later bW) hjc
        obtain ⟨⟨_, _, z2, z3⟩, _⟩ := Roa.own_nonempty (o1.later bW) hjs
        clear he1 he2 rj rs o4
        generalize Roa.at' l j = A at *
        generalize (Roa.at' l jc).co = cc at *
        generalize Roa.at' l js = D at *
        obtain ⟨ao, ac, ax, al⟩ := A
        obtain ⟨bo, bc, bx, bl⟩ := D
        dsimp only at *
        obtain ⟨f0, f1⟩ := hfac
        have f0d : decide (ac < cc) = false := decide_eq_false f0
        go_wp2_with fail
        generalize wr.alloc (.cells #[.bool ao, .int .i64 ac, .int .i64 ax, .int .i64 al] 36) = W at *
        have d0 := Draw.Later.cell y1
        have d1 := Draw.Later.cell z2
        have d2 := Draw.Later.cell z3
        have d3 := Draw.Later.cell (vW.cell (i := 1) rfl)
        have d4 := Draw.Later.cell (vW.cell (i := 2) rfl)
        have d5 := Draw.Later.cell (vW.cell (i := 3) rfl)
        have F1 : Hid _ := f1
        clear e0 e1 e2 e3 x0 y1 z2 z3 f1 vW hB
        have hw3 : (0 < ax ∧ 0 < bx) ∨ (0 < ax ∧ ¬ 0 < bx) ∨ ¬ 0 < ax := by omega
        rcases hw3 with ⟨hp1, hp2⟩ | ⟨hp1, hp2⟩ | hp1
        · have hp1d : decide (0 < ax) = true := decide_eq_true hp1
          have hp2d : decide (0 < bx) = true := decide_eq_true hp2
          have hp3 := F1.out hp1 hp2
          refine Draw.wp_region_later hmix (by kernel_rfl) ?_
          repeat (go_big_quiet_step (fail))
          refine wpQuiet_nil ?_
          intro wq hw'
          obtain ⟨q9, hq9⟩ := hw'
          have hBq := q9.h
          rw [← hq9] at hBq
          have B2 := bW.trans (hBq.mono bW.size)
          clear hq9 q9 d0 d1 d2 d3 d4 d5 hBq bW
          (try rw [hp3])
          go_wp2_with fail
          go_roundw
          case rel => exact ⟨k + 1, by omega, by go_num, B2⟩
          case measure => simp [intOf]; omega
        · have hp1d : decide (0 < ax) = true := decide_eq_true hp1
          have hp2d : decide (0 < bx) = false := decide_eq_false hp2
          refine Draw.wp_region_later hmix (by kernel_rfl) ?_
          repeat (go_big_quiet_step (fail))
          refine wpQuiet_nil ?_
          intro wq hw'
          obtain ⟨q9, hq9⟩ := hw'
          have hBq := q9.h
          rw [← hq9] at hBq
          have B2 := bW.trans (hBq.mono bW.size)
          clear hq9 q9 d0 d1 d2 d3 d4 d5 hBq bW
          go_wp2_with fail
          go_roundw
          case rel => exact ⟨k + 1, by omega, by go_num, B2⟩
          case measure => simp [intOf]; omega
        · have hp1d : decide (0 < ax) = false := decide_eq_false hp1
          refine Draw.wp_region_later hmix (by kernel_rfl) ?_
          repeat (go_big_quiet_step (fail))
          refine wpQuiet_nil ?_
          intro wq hw'
          obtain ⟨q9, hq9⟩ := hw'
          have hBq := q9.h
          rw [← hq9] at hBq
          have B2 := bW.trans (hBq.mono bW.size)
          clear hq9 q9 d0 d1 d2 d3 d4 d5 hBq bW
          go_wp2_with fail
          go_roundw
          case rel => exact ⟨k + 1, by omega, by go_num, B2⟩
          case measure => simp [intOf]; omega
      · have i1 : ¬ (k : Int) < (o.length : Int) := by omega
        replace o1 := o1.later hB
        replace o3 := o3.later hB
        have BC := BB.trans (hB.mono BB.size)
        obtain ⟨n, hn⟩ : ∃ n, Roa.afterI l (jc : Int) = n := ⟨_, rfl⟩
        have hnm := HNX.out _ hC
        rw [hn] at hnm
        obtain ⟨hn1, hn2⟩ := Roa.after_next HP.out hC
        have hn3 := Roa.afterL_mem (x := (jc : Int)) (o := o) (List.length_pos_iff.1 hlen)
        rw [← hnm] at hn1 hn2 hn3
        clear hnm HNX HON HE3 BB hB hlt
        go_wp2_with fail
        refine (HNi.out _ _ o1.lies).mono ?_
        rintro x wD ⟨rfl, bD⟩
        rw [hn]
        replace o3 := o3.later bD
        have BD := BC.trans (bD.mono BC.size)
        clear bD BC o1 HNi
        obtain ⟨_, jn, hjn, rfl⟩ := HMN.out n hn3
        have hlen1 := hol
        have hhA := fun (x : Int) w' (h : Roa.OwnI w' wA.heap.size g3 c3 o) => Roa.has wA.heap.size g3 c3 o.length o x w' rfl h (by omega)
        have HHA : Hid _ := hhA
        have HN1 : Hid (∀ i, (jc : Int) < i → i < (jn : Int) → i ∉ o) := hn1
        have HN2 : Hid ((jn : Int) ≠ (jc : Int) ∨ o.length = 1) := hn2
        have dN : Hid (decide ((jn : Int) ∈ o) = true) := decide_eq_true hn3
        clear hhA hn1 hn2 hn3 HMN HP hC hS hn
        go_wp2_with fail
        go_loopw [15] (fun iv wr => ∃ m : Nat, m ≤ 4 ∧ iv = .int .i64 m ∧ wr = wD) (fun iv _ => 4 - (intOf iv).toNat)
        case atStart => exact ⟨0, by omega, rfl, rfl⟩
        case round =>
          obtain ⟨m, hm4, rfl, rfl⟩ := hrel
          by_cases hgo : m < 4 ∧ 1 < o.length
          · have a1 : (m : Int) < 4 := by omega
            have a2 : (1 : Int) < (o.length : Int) := by omega
            have a1d : decide ((m : Int) < 4) = true := decide_eq_true a1
            have a2d : decide ((1 : Int) < (o.length : Int)) = true := decide_eq_true a2
            have hw3 : ((jc : Int) < (m : Int) ∧ (m : Int) < (jn : Int)) ∨ ((jc : Int) < (m : Int) ∧ ¬ (m : Int) < (jn : Int)) ∨ ¬ (jc : Int) < (m : Int) := by omega
            rcases hw3 with ⟨b1, b2⟩ | ⟨b1, b2⟩ | b1
            · have b1d : decide ((jc : Int) < (m : Int)) = true := decide_eq_true b1
              have b2d : decide ((m : Int) < (jn : Int)) = true := decide_eq_true b2
              have dm := decide_eq_false (HN1.out _ b1 b2)
              have HM := fun w' (h : Roa.OwnI w' wA.heap.size g3 c3 o) => HHA.out (m : Int) w' h
              rw [dm] at HM
              have HMM : Hid _ := HM
              clear HM dm
              go_wp2_with fail
              refine (HMM.out _ o3).mono ?_
              rintro x wE ⟨rfl, rfl⟩
              go_wp2_with fail
              go_roundw
              case rel => exact ⟨m + 1, by omega, by go_num, by trivial⟩
              case measure => simp [intOf]; omega
            · have b1d : decide ((jc : Int) < (m : Int)) = true := decide_eq_true b1
              have b2d : decide ((m : Int) < (jn : Int)) = false := decide_eq_false b2
              go_wp2_with fail
              go_roundw
              case rel => exact ⟨m + 1, by omega, by go_num, by trivial⟩
              case measure => simp [intOf]; omega
            · have b1d : decide ((jc : Int) < (m : Int)) = false := decide_eq_false b1
              go_wp2_with fail
              go_roundw
              case rel => exact ⟨m + 1, by omega, by go_num, by trivial⟩
              case measure => simp [intOf]; omega
          · by_cases a1 : (m : Int) < 4
            · have a1d : decide ((m : Int) < 4) = true := decide_eq_true a1
              have a2 : ¬ (1 : Int) < (o.length : Int) := by omega
              have a2d : decide ((1 : Int) < (o.length : Int)) = false := decide_eq_false a2
              have HM := fun w' (h : Roa.OwnI w' wA.heap.size g3 c3 o) => HHA.out (jn : Int) w' h
              rw [dN.out] at HM
              have HMM : Hid _ := HM
              clear HM
              go_wp2_with fail
              refine (HMM.out _ o3).mono ?_
              rintro x wE ⟨rfl, rfl⟩
              by_cases c1 : (jn : Int) = (jc : Int)
              · have c2 : o.length = 1 := by
                  rcases HN2.out with q | q
                  · exact absurd c1 q
                  · exact q
                have c1b : ((jn : Int) == (jc : Int)) = true := beq_iff_eq.2 c1
                have c1n : ((jn : Int) != (jc : Int)) = false := by rw [bne, c1b]; rfl
                have c2i : (o.length : Int) = 1 := by omega
                have c2b : ((o.length : Int) == 1) = true := beq_iff_eq.2 c2i
                go_wp2_with fail
                go_ret
                exact ⟨rfl, BD⟩
              · have c1b : ((jn : Int) == (jc : Int)) = false := beq_eq_false_iff_ne.2 c1
                have c1n : ((jn : Int) != (jc : Int)) = true := bne_iff_ne.2 c1
                go_wp2_with fail
                go_ret
                exact ⟨rfl, BD⟩
            · have a1d : decide ((m : Int) < 4) = false := decide_eq_false a1
              have HM := fun w' (h : Roa.OwnI w' wA.heap.size g3 c3 o) => HHA.out (jn : Int) w' h
              rw [dN.out] at HM
              have HMM : Hid _ := HM
              clear HM
              go_wp2_with fail
              refine (HMM.out _ o3).mono ?_
              rintro x wE ⟨rfl, rfl⟩
              by_cases c1 : (jn : Int) = (jc : Int)
              · have c2 : o.length = 1 := by
                  rcases HN2.out with q | q
                  · exact absurd c1 q
                  · exact q
                have c1b : ((jn : Int) == (jc : Int)) = true := beq_iff_eq.2 c1
                have c1n : ((jn : Int) != (jc : Int)) = false := by rw [bne, c1b]; rfl
                have c2i : (o.length : Int) = 1 := by omega
                have c2b : ((o.length : Int) == 1) = true := beq_iff_eq.2 c2i
                go_wp2_with fail
                go_ret
                exact ⟨rfl, BD⟩
              · have c1b : ((jn : Int) == (jc : Int)) = false := beq_eq_false_iff_ne.2 c1
                have c1n : ((jn : Int) != (jc : Int)) = true := bne_iff_ne.2 c1
                go_wp2_with fail
                go_ret
                exact ⟨rfl, BD⟩

/-! ### THE ROW's STEP: WRITTEN OUT: LEAVE IT -/
set_option maxRecDepth 100000 in
theorem lifted (os : Os) (started : os.Started) (H : Type) (enc : TypeId × Value → H) :
    ReturnsInHanded {} Try.checked os 3 .any (Rows.fnChosenSpec.pre6 enc Try.prog Try.f3 Rows.fnChosenRow.domain false) (Rows.fnChosenSpec.post enc Try.prog Try.f3 false true false false) := by
  refine returnsInHanded_of_change (C := Try.checked) own started (by kernel_rfl) Try.func3
    (ChangeSpec.witness6 (enc := enc) (C := Try.checked) false ⟨#[], #[.slice none 0 0], []⟩ 8 (by kernel_rfl) (by kernel_rfl) (by kernel_rfl) (by kernel_rfl)) ?_
  intro W base args ds gs before hval0 hW hcnd _
  have hval : ∀ (j : Nat) t v, Try.f3.params[j]? = some t → args[j]? = some v → Value.okWide Try.prog W .any base t v := hval0
  have hW' := hW
  obtain ⟨p, q, hA0, hV, rfl, hfz, hnd⟩ := hW
  have hA : DataW.TrodAll enc Try.prog W 0 (fun _ => true) true Try.f3.params.toList args.toList ds p := hA0
  rw [Try.params3] at hA hval
  obtain ⟨v0, vs0, d0, ds0, p0, q0, hargs, rfl, rfl, h0, r0⟩ := trodAll_cons hA
  obtain ⟨rfl, rfl, rfl⟩ := trodAll_nil r0
  obtain rfl : args = #[v0] := by cases args; simp_all
  obtain ⟨rfl, rfl⟩ := trodVars_none hV
  obtain ⟨a0, len0, cap0, rfl⟩ := okWide_slice Try.underlying22 (hval 0 22 v0 rfl rfl)
  have k0 := h0
  have lt0 : ∀ x ∈ p0, x.block < W.heap.size := by obtain ⟨m, hm⟩ := k0; exact DataW.trod_lt m _ _ _ hm
  obtain ⟨z0, w0⟩ : ∃ zs, IsRow .u8 W a0 len0 cap0 zs := by
    obtain ⟨fuel, hf⟩ := h0
    rcases open_ints Try.underlying22 Try.underlying5 (by kernel_rfl) hf with ⟨hcs, _⟩ | ⟨x, l, c, zs, hcs, _, hl, hm, hz, _, hcell, hwz⟩
    · simp [Value.cells] at hcs
      obtain ⟨rfl, rfl, rfl⟩ := hcs
      exact ⟨[], .inl ⟨rfl, rfl, rfl, rfl⟩⟩
    · simp [Value.cells] at hcs
      obtain ⟨rfl, rfl, rfl⟩ := hcs
      exact ⟨zs, .inr ⟨_, rfl, hl, hm, by simpa using hz, hcell, hwz⟩⟩
  clear hA0 hval0
  refine (walk a0 len0 cap0 z0 W w0).mono fun e W' ⟨he, bel⟩ => ?_
  subst he
  exact ⟨_, rfl, _, _, _, [], _, [], hW', trodAll_mk1 (shut_bool Try.underlying4 _), (trodAll_cons_mk (Below.trod laidOut (by kernel_rfl) (of_decide_eq_true (by kernel_rfl)) k0 bel lt0) trodAll_mk0), rfl, bel.frame _, fun h => by cases h⟩

theorem over : Rows.fnChosenRow.holds Try.pinned (OpenSpec.ofChange Rows.fnChosenSpec) :=
  OpenClaim.holds_of_wide 3 Try.f3 rfl rfl rfl rfl rfl rfl rfl ⟨rfl, rfl, rfl, rfl, rfl⟩ rfl rfl rfl rfl rfl (by kernel_rfl) Try.func3 (by kernel_rfl)
    (of_decide_eq_true (by kernel_rfl)) (by unfold Func.isWrapper; first | (rw [if_pos (by decide +kernel)]; kernel_rfl) | (rw [if_neg (by decide +kernel)]; exact ⟨rfl, rfl⟩))
    (fun os started H enc _ => lifted os started H enc)

/-- THE STATEMENT. -/
theorem proved : Rows.FnChosenSaid := over
end Go.Proofs.Ytnfdomgibkdkcaa.fnChosen
namespace Go.Proofs.Ytnfdomgibkdkcaa
theorem fnChosen_holds : Rows.FnChosenSaid := fnChosen.proved
#print axioms fnChosen_holds
end Go.Proofs.Ytnfdomgibkdkcaa

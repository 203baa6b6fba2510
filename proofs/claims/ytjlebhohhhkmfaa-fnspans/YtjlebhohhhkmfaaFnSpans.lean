/- For every code of bytes FnSpans returns true: the program's Added, SpansOk and HasAll answer as the specification's; what was added is there, all else as before; where nothing was added the spans are as they were, or nothing where they are none; no condition. (Its frame is the guide's shell; the walk is mine.) -/
import Derived.Test.YtjlebhohhhkmfaaRows
import Derived.Test.YtjlebhohhhkmfaaHoleS
import Derived.Test.YtjlebhohhhkmfaaHoleF
import Derived.Test.YtjlebhohhhkmfaaDrawI
import Derived.Test.YtjlebhohhhkmfaaLawT
import Derived.WalkKit
import Derived.ProofKit
import Derived.OpenShut
import Derived.ShutString
import Derived.ChangeOld
import Derived.Below
namespace Go.Proofs.Ytjlebhohhhkmfaa.fnSpans
open Go.ChangeShapes Go.WideShapes Go.ChangeAt Go.RowKit
open Go.ChangeMaps (open_string shut_string)
set_option linter.unusedVariables false

theorem own : ownKnob Try.prog.godebug = none := by kernel_rfl
theorem laidOut : laidOutB Try.prog = true := by kernel_rfl

/-- WHAT THE WALK IS TOLD OF A SLICE OF INTEGERS THAT CAME IN: it is nil; or it leads to a row of 'cap' cells, the numbers 'zs' (the first 'len' are its elements, the rest its spare room), each fitting its kind. -/
def IsRow (k : IntKind) (w : World) (a : Option Addr) (len cap : Nat) (zs : List Int) : Prop :=
  (a = none ∧ len = 0 ∧ cap = 0 ∧ zs = []) ∨
  ∃ x, a = some x ∧ len ≤ cap ∧ cap ≤ maxLen ∧ zs.length = cap ∧ (∀ i, i < zs.length → w.cell? (x.add i) = some (.int k (zs.getD i 0))) ∧ ∀ n ∈ zs, (Lit.int k n).wf = true

/-! ### STEP 1: THE WALK: the Go text returns true, AND WRITES NOTHING THAT WAS THERE: 'Below w.heap.size w w'' (Derived/Below.lean: '.refl', '.alloc', '.drew', '.setCell' at a new block, '.trans'). Open each 'IsRow' by 'rcases' AHEAD of 'go_enter'; part every test ahead of the walk. -/
set_option maxHeartbeats 4000000 in
theorem walk (a0 : Option Addr) (len0 cap0 : Nat) (z0 : List Int) (w : World) (w0 : IsRow .u8 w a0 len0 cap0 z0) :
    Calls Try.prog 3 #[.slice a0 len0 cap0] w fun e w' => e = .returned (.bool true) ∧ Below w.heap.size w w' := by
  obtain ⟨hb, hm⟩ := Draw.bytes_of_row w0
  clear w0
  by_cases hl : len0 ≤ 4096
  case neg =>
    have hd : decide (4096 < (len0 : Int)) = true := by simp; omega
    go_enter Try.func3, Try.ntmps3
    go_wp2_with fail
    refine (Draw.big _ _ _ _ hm).mono ?_
    rintro e w1 ⟨rfl, rfl⟩
    go_wp2_with fail
    go_ret
    exact ⟨rfl, Below.refl _ _⟩
  have hd : decide (4096 < (len0 : Int)) = false := by simp; omega
  have hmix := Hole.mix
  go_enter Try.func3, Try.ntmps3
  go_wp2_with fail
  refine (Draw.big _ _ _ _ hm).mono ?_
  rintro e w1 ⟨rfl, rfl⟩
  clear hd
  go_wp2_with fail
  refine (Hole.drawAdded _ _ _ _ hb hl).mono ?_
  rintro x w1 ⟨l, g1, c1, f, t, rfl, hl1, o1, B1⟩
  have hl2 : l.length ≤ 2097152 := by omega
  have hbx := Hole.box2 (w := w1) (v0 := .int .i64 f) (v1 := .int .i64 t) (T := 26) (Below.refl _ _)
  have s0 := hbx.1
  have s1 := hbx.2
  have sl : w1.heap.size < (w1.alloc (.cells #[.int .i64 f, .int .i64 t] 26)).heap.size := by simp
  have bA : Below w1.heap.size w1 (w1.alloc (.cells #[.int .i64 f, .int .i64 t] 26)) := (Below.refl _ _).alloc (Nat.le_refl _) _
  have BA := B1.trans (bA.mono B1.size)
  have o1 := o1.later bA
  clear hbx bA B1
  go_wp2_with fail
  generalize w1.alloc (.cells #[.int .i64 f, .int .i64 t] 26) = wA at *
  generalize w1.heap.size = N1 at *
  refine (Hole.implAdded _ _ _ l f t _ rfl o1.spans hl2 o1.cap (by simp)).mono ?_
  rintro x w2 ⟨g2, c2, rfl, o2, b2⟩
  have B2 := BA.trans (b2.mono BA.size)
  have o1 := o1.later b2
  have s0 := (b2.cell (p := ⟨N1, 0, none⟩) sl).trans s0
  have s1 := (b2.cell (p := ⟨N1, 1, none⟩) sl).trans s1
  have sl : N1 < w2.heap.size := Nat.lt_of_lt_of_le sl b2.size
  have hb2 := Draw.Bytes.below hb B2 (Nat.le_refl _)
  clear b2 BA
  go_wp2_with fail
  refine (Hole.drawHasAll _ _ _ _ hb2 hl).mono ?_
  rintro x w3 ⟨m, g3, c3, f2, t2, rfl, hm1, o3, b3⟩
  have hm2 : m.length ≤ 2097152 := by omega
  have B3 := B2.trans (b3.mono B2.size)
  have o1 := o1.later b3
  have o2 := o2.later b3
  have s0 := (b3.cell (p := ⟨N1, 0, none⟩) sl).trans s0
  have s1 := (b3.cell (p := ⟨N1, 1, none⟩) sl).trans s1
  have sl : N1 < w3.heap.size := Nat.lt_of_lt_of_le sl b3.size
  clear b3 B2 hb hb2 hm hl
  have hbx := Hole.box2 (w := w3) (v0 := .int .i64 f2) (v1 := .int .i64 t2) (T := 26) (Below.refl _ _)
  have v0 := hbx.1
  have v1 := hbx.2
  have VL : Hid (w3.heap.size < (w3.alloc (.cells #[.int .i64 f2, .int .i64 t2] 26)).heap.size) := by show _ < _; simp
  have b4 : Below w3.heap.size w3 (w3.alloc (.cells #[.int .i64 f2, .int .i64 t2] 26)) := (Below.refl _ _).alloc (Nat.le_refl _) _
  have B4 := B3.trans (b4.mono B3.size)
  have s0 := (b4.cell (p := ⟨N1, 0, none⟩) sl).trans s0
  have s1 := (b4.cell (p := ⟨N1, 1, none⟩) sl).trans s1
  have o1 := o1.later b4
  have o2 := o2.later b4
  have o3 := o3.later b4
  clear hbx b4 B3
  go_wp2_with fail
  generalize w3.alloc (.cells #[.int .i64 f2, .int .i64 t2] 26) = w4 at *
  have vl := VL.out
  have sl4 := Nat.lt_trans sl vl
  clear sl VL
  have sl := sl4
  clear sl4
  generalize w3.heap.size = N3 at *
  refine (Hole.specAdded _ _ _ l f t _ rfl o1.spans hl2 (by simp)).mono ?_
  rintro x w5 ⟨g5, c5, rfl, o5, b5⟩
  have B5 := B4.trans (b5.mono B4.size)
  have o1 := o1.later b5
  have o2 := o2.later b5
  have o3 := o3.later b5
  have s0 := (b5.cell (p := ⟨N1, 0, none⟩) sl).trans s0
  have s1 := (b5.cell (p := ⟨N1, 1, none⟩) sl).trans s1
  have sl : N1 < w5.heap.size := Nat.lt_of_lt_of_le sl b5.size
  have v0 := (b5.cell (p := ⟨N3, 0, none⟩) vl).trans v0
  have v1 := (b5.cell (p := ⟨N3, 1, none⟩) vl).trans v1
  have vl : N3 < w5.heap.size := Nat.lt_of_lt_of_le vl b5.size
  clear b5 B4
  have hC2 : (Hole.addedL l (f, t)).length ≤ 2097152 := by
    unfold Hole.addedL
    split
    · split
      · rename_i q1 q2
        have := q2.2
        omega
      · omega
    · simp
  have HY : Hid (Hole.addedB l (f, t) = true → _) := fun q => Hole.added_yes q
  have HZ : Hid (Hole.addedB l (f, t) = false → _) := fun q => Hole.added_no q
  have hK : Hid (∀ k : Int, Hole.spB (k, k + 1) = true → Hole.addedB l (f, t) = true → Hole.hasB (Hole.addedL l (f, t)) (k, k + 1) = (Hole.hasB l (k, k + 1) || (decide (f ≤ k) && decide (k < t)))) := fun k hk q => by
    obtain ⟨e1, e2, e3, e4, e5, e6⟩ := Hole.added_yes q
    rw [e3, Bool.eq_iff_iff, Hole.has_one e4 hk, e6 k, Bool.or_eq_true, Hole.has_one e1 hk, Bool.and_eq_true, decide_eq_true_eq, decide_eq_true_eq]
  have HR : Hid (Hole.addedB l (f, t) = true → Hole.addedL l (f, t) = Hole.addR l (f, t)) := fun q => (Hole.added_yes q).2.2.1
  generalize Hole.addedL l (f, t) = C at *
  generalize Hole.addedB l (f, t) = A at *
  have cL : ∀ q : Draw.Later w5, Calls Try.prog 14 #[.slice (some ⟨g2, 0, none⟩) C.length c2, .slice (some ⟨g5, 0, none⟩) C.length c5] q.v fun x w' => x = .returned (.bool true) ∧ Below q.v.heap.size q.v w' := fun q => Hole.likeSpans _ _ _ _ _ _ C q.v rfl rfl (o2.later q.h).spans (o5.later q.h).spans hC2
  have cI : ∀ q : Draw.Later w5, Calls Try.prog 15 #[.slice (some ⟨g1, 0, none⟩) l.length c1] q.v fun x w' => x = .returned (.bool (Hole.spansB l)) ∧ Below q.v.heap.size q.v w' := fun q => Hole.implSpansOk _ _ _ l q.v rfl (o1.later q.h).spans hl2
  have cS : ∀ q : Draw.Later w5, Calls Try.prog 16 #[.slice (some ⟨g1, 0, none⟩) l.length c1] q.v fun x w' => x = .returned (.bool (Hole.spansB l)) ∧ Below q.v.heap.size q.v w' := fun q => Hole.specSpansOk _ _ _ l q.v rfl (o1.later q.h).spans hl2
  have cH : ∀ q : Draw.Later w5, Calls Try.prog 17 #[.slice (some ⟨g3, 0, none⟩) m.length c3, .agg #[.int .i64 f2, .int .i64 t2]] q.v fun x w' => x = .returned (.bool (Hole.hasB m (f2, t2))) ∧ Below q.v.heap.size q.v w' := fun q => Hole.implHasAll _ _ _ m _ _ q.v rfl (o3.later q.h).spans hm2 (o3.later q.h).cap
  have cG : ∀ q : Draw.Later w5, Calls Try.prog 18 #[.slice (some ⟨g3, 0, none⟩) m.length c3, .agg #[.int .i64 f2, .int .i64 t2]] q.v fun x w' => x = .returned (.bool (Hole.hasB m (f2, t2))) ∧ Below q.v.heap.size q.v w' := fun q => Hole.specHasAll _ _ _ m _ _ q.v rfl (o3.later q.h).spans hm2
  have dv0 := Draw.Later.cell v0
  have dv1 := Draw.Later.cell v1
  generalize Hole.hasB m (f2, t2) = H at *
  have HSL : Hid (∃ S, Hole.spansB l = S) := ⟨_, rfl⟩
  obtain ⟨S, hS⟩ := HSL.out
  rw [hS] at cI cS
  have HS : Hid (Hole.spansB l = S) := hS
  clear hS HSL
  have aa : (A != A) = false := by cases A <;> rfl
  have ss : (S != S) = false := by cases S <;> rfl
  have hh : (H != H) = false := by cases H <;> rfl
  clear v0 v1 vl
  go_wp2_with fail
  refine Draw.wp_region_later hmix (by kernel_rfl) ?_
  repeat (go_big_quiet_step (first | (go_at_call 14; exact Draw.later_of (cL _)) | (go_at_call 15; exact Draw.later_of (cI _)) | (go_at_call 16; exact Draw.later_of (cS _)) | (go_at_call 17; exact Draw.later_of (cH _)) | (go_at_call 18; exact Draw.later_of (cG _))))
  refine wpQuiet_nil ?_
  intro w6 hw'
  obtain ⟨q, hq⟩ := hw'
  have b6 := q.h
  rw [← hq] at b6
  clear hq q cL cI cS cH cG dv0 dv1
  have B6 := B5.trans (b6.mono B5.size)
  have o1 := o1.later b6
  have o2 := o2.later b6
  have s0 := (b6.cell (p := ⟨N1, 0, none⟩) sl).trans s0
  have s1 := (b6.cell (p := ⟨N1, 1, none⟩) sl).trans s1
  have sl : N1 < w6.heap.size := Nat.lt_of_lt_of_le sl b6.size
  clear b6 B5 o3 o5
  cases A
  case false =>
    have hz := HZ.out rfl
    clear HZ HY HR hK aa ss hh
    go_wp2_with fail
    refine (Hole.specSpansOk _ _ _ l _ rfl o1.spans hl2).mono ?_
    rintro x w7 ⟨rfl, b7⟩
    have B7 := B6.trans (b7.mono B6.size)
    have o1 := o1.later b7
    have o2 := o2.later b7
    clear b7 B6
    rcases hz with ⟨hz1, hz2⟩ | ⟨hz1, hz2⟩
    · rw [hz1]
      subst hz2
      go_wp2_with fail
      go_ret
      exact ⟨rfl, B7⟩
    · rw [hz1]
      subst hz2
      go_wp2_with fail
      refine (Hole.likeSpans _ _ _ _ _ _ C _ rfl rfl o2.spans o1.spans hl2).mono ?_
      rintro x w8 ⟨rfl, b8⟩
      go_wp2_with fail
      go_ret
      exact ⟨rfl, B7.trans (b8.mono B7.size)⟩
  case true =>
    obtain ⟨y1, y2, y3, y4, y5, y6⟩ := HY.out rfl
    have HCS : Hid (Hole.spansB C = true) := by show _ = _; rw [y3]; exact y4
    have HCH : Hid (Hole.hasB C (f, t) = true) := by show _ = _; rw [y3]; exact y5
    have HK : Hid (∀ k : Int, Hole.spB (k, k + 1) = true → Hole.hasB C (k, k + 1) = (Hole.hasB l (k, k + 1) || (decide (f ≤ k) && decide (k < t)))) := fun k hk => hK.out k hk rfl
    clear y1 y2 y3 y4 y5 y6 HY HZ HR hK aa ss hh
    go_wp2_with fail
    refine (Hole.implSpansOk _ _ _ C _ rfl o2.spans hC2).mono ?_
    rintro x w7 ⟨rfl, b7⟩
    rw [HCS.out]
    have B7 := B6.trans (b7.mono B6.size)
    have o1 := o1.later b7
    have o2 := o2.later b7
    have s0 := (b7.cell (p := ⟨N1, 0, none⟩) sl).trans s0
    have s1 := (b7.cell (p := ⟨N1, 1, none⟩) sl).trans s1
    have sl : N1 < w7.heap.size := Nat.lt_of_lt_of_le sl b7.size
    clear b7 B6
    go_wp2_with fail
    refine (Hole.implHasAll _ _ _ C f t _ rfl o2.spans hC2 o2.cap).mono ?_
    rintro x w8 ⟨rfl, b8⟩
    rw [HCH.out]
    have B8 := B7.trans (b8.mono B7.size)
    have o1 := o1.later b8
    have o2 := o2.later b8
    have s0 := (b8.cell (p := ⟨N1, 0, none⟩) sl).trans s0
    have s1 := (b8.cell (p := ⟨N1, 1, none⟩) sl).trans s1
    have sl : N1 < w8.heap.size := Nat.lt_of_lt_of_le sl b8.size
    clear b8 B7 HCS HCH
    go_wp2_with fail
    have hmix := Hole.mix
    go_loopw [11] (fun iv wr => ∃ kk : Nat, kk ≤ 60 ∧ iv = .int .i64 kk ∧ Below w.heap.size w wr ∧ Hole.Own wr w.heap.size g1 c1 l ∧ Hole.Own wr wA.heap.size g2 c2 C ∧ wr.cell? ⟨N1, 0, none⟩ = some (.int .i64 f) ∧ wr.cell? ⟨N1, 1, none⟩ = some (.int .i64 t)) (fun iv _ => 60 - (intOf iv).toNat)
    case atStart => exact ⟨0, by decide, rfl, B8, o1, o2, s0, s1⟩
    case round =>
      clear o1 o2 B8 s0 s1
      obtain ⟨kk, hk, rfl, hB, r1, r2, s0, s1⟩ := hrel
      by_cases hlt : kk < 60
      · have hE := HK.out (kk : Int) (by simp [Hole.spB, Num.plB]; omega)
        have hnl : N1 < wr.heap.size := Draw.lt_of_cell s0
        have d0 := Draw.Later.cell (Hole.box2 (w := wr) (v0 := .int .i64 (kk : Int)) (v1 := .int .i64 ((kk : Int) + 1)) (T := 26) (Below.refl _ _)).1
        have d1 := Draw.Later.cell (Hole.box2 (w := wr) (v0 := .int .i64 (kk : Int)) (v1 := .int .i64 ((kk : Int) + 1)) (T := 26) (Below.refl _ _)).2
        have bA : Below wr.heap.size wr (wr.alloc (.cells #[.int .i64 (kk : Int), .int .i64 ((kk : Int) + 1)] 26)) := (Below.refl _ _).alloc (Nat.le_refl _) _
        have S0 : Hid ((wr.alloc (.cells #[.int .i64 (kk : Int), .int .i64 ((kk : Int) + 1)] 26)).cell? ⟨N1, 0, none⟩ = some (.int .i64 f)) := (bA.cell (p := ⟨N1, 0, none⟩) hnl).trans s0
        have S1 : Hid ((wr.alloc (.cells #[.int .i64 (kk : Int), .int .i64 ((kk : Int) + 1)] 26)).cell? ⟨N1, 1, none⟩ = some (.int .i64 t)) := (bA.cell (p := ⟨N1, 1, none⟩) hnl).trans s1
        have hn2 : Hid (N1 < (wr.alloc (.cells #[.int .i64 (kk : Int), .int .i64 ((kk : Int) + 1)] 26)).heap.size) := Nat.lt_of_lt_of_le hnl bA.size
        have d2 := Draw.Later.cell S0.out
        have d3 := Draw.Later.cell S1.out
        have HA : Hid (Below w.heap.size w (wr.alloc (.cells #[.int .i64 (kk : Int), .int .i64 ((kk : Int) + 1)] 26))) := hB.trans (bA.mono hB.size)
        have HO1 : Hid (Hole.Own (wr.alloc (.cells #[.int .i64 (kk : Int), .int .i64 ((kk : Int) + 1)] 26)) w.heap.size g1 c1 l) := r1.later bA
        have HO2 : Hid (Hole.Own (wr.alloc (.cells #[.int .i64 (kk : Int), .int .i64 ((kk : Int) + 1)] 26)) wA.heap.size g2 c2 C) := r2.later bA
        have hI : ∀ q : Draw.Later (wr.alloc (.cells #[.int .i64 (kk : Int), .int .i64 ((kk : Int) + 1)] 26)), Calls Try.prog 17 #[.slice (some ⟨g2, 0, none⟩) C.length c2, .agg #[.int .i64 (kk : Int), .int .i64 ((kk : Int) + 1)]] q.v fun x w' => x = .returned (.bool (Hole.hasB C ((kk : Int), (kk : Int) + 1))) ∧ Below q.v.heap.size q.v w' := fun q => Hole.implHasAll _ _ _ C _ _ q.v rfl (HO2.out.later q.h).spans hC2 (HO2.out.later q.h).cap
        have hJ : ∀ q : Draw.Later (wr.alloc (.cells #[.int .i64 (kk : Int), .int .i64 ((kk : Int) + 1)] 26)), Calls Try.prog 18 #[.slice (some ⟨g1, 0, none⟩) l.length c1, .agg #[.int .i64 (kk : Int), .int .i64 ((kk : Int) + 1)]] q.v fun x w' => x = .returned (.bool (Hole.hasB l ((kk : Int), (kk : Int) + 1))) ∧ Below q.v.heap.size q.v w' := fun q => Hole.specHasAll _ _ _ l _ _ q.v rfl (HO1.out.later q.h).spans hl2
        clear bA hB r1 r2 s0 s1
        rw [hE] at hI
        clear hE
        have i0 : (0 : Int) ≤ (kk : Int) := by omega
        have i1 : (kk : Int) < 60 := by omega
        generalize Hole.hasB l ((kk : Int), (kk : Int) + 1) = X at *
        cases X
        · rw [Bool.false_or] at hI
          by_cases h1 : f ≤ (kk : Int)
          · by_cases h2 : (kk : Int) < t
            · rw [decide_eq_true h1, decide_eq_true h2, Bool.true_and] at hI
              go_wp2_with fail
              refine Draw.wp_region_later hmix (by kernel_rfl) ?_
              repeat (go_big_quiet_step (first | (go_at_call 17; exact Draw.later_of (hI _)) | (go_at_call 18; exact Draw.later_of (hJ _))))
              refine wpQuiet_nil ?_
              intro wq hw'
              obtain ⟨q, hq⟩ := hw'
              have hBq := q.h
              rw [← hq] at hBq
              clear hq q d0 d1 d2 d3 hI hJ
              have B3 := HA.out.trans (hBq.mono HA.out.size)
              have o13 := HO1.out.later hBq
              have o23 := HO2.out.later hBq
              have t0 := (hBq.cell (p := ⟨N1, 0, none⟩) hn2.out).trans S0.out
              have t1 := (hBq.cell (p := ⟨N1, 1, none⟩) hn2.out).trans S1.out
              clear hBq
              go_wp2_with fail
              go_roundw
              case rel => exact ⟨kk + 1, by omega, by go_num, B3, o13, o23, t0, t1⟩
              case measure => simp [intOf]; omega
            · rw [decide_eq_true h1, decide_eq_false h2, Bool.true_and] at hI
              go_wp2_with fail
              refine Draw.wp_region_later hmix (by kernel_rfl) ?_
              repeat (go_big_quiet_step (first | (go_at_call 17; exact Draw.later_of (hI _)) | (go_at_call 18; exact Draw.later_of (hJ _))))
              refine wpQuiet_nil ?_
              intro wq hw'
              obtain ⟨q, hq⟩ := hw'
              have hBq := q.h
              rw [← hq] at hBq
              clear hq q d0 d1 d2 d3 hI hJ
              have B3 := HA.out.trans (hBq.mono HA.out.size)
              have o13 := HO1.out.later hBq
              have o23 := HO2.out.later hBq
              have t0 := (hBq.cell (p := ⟨N1, 0, none⟩) hn2.out).trans S0.out
              have t1 := (hBq.cell (p := ⟨N1, 1, none⟩) hn2.out).trans S1.out
              clear hBq
              go_wp2_with fail
              go_roundw
              case rel => exact ⟨kk + 1, by omega, by go_num, B3, o13, o23, t0, t1⟩
              case measure => simp [intOf]; omega
          · rw [decide_eq_false h1, Bool.false_and] at hI
            have gd : decide (f ≤ (kk : Int)) = false := decide_eq_false h1
            go_wp2_with fail
            refine Draw.wp_region_later hmix (by kernel_rfl) ?_
            repeat (go_big_quiet_step (first | (go_at_call 17; exact Draw.later_of (hI _)) | (go_at_call 18; exact Draw.later_of (hJ _))))
            refine wpQuiet_nil ?_
            intro wq hw'
            obtain ⟨q, hq⟩ := hw'
            have hBq := q.h
            rw [← hq] at hBq
            clear hq q d0 d1 d2 d3 hI hJ
            have B3 := HA.out.trans (hBq.mono HA.out.size)
            have o13 := HO1.out.later hBq
            have o23 := HO2.out.later hBq
            have t0 := (hBq.cell (p := ⟨N1, 0, none⟩) hn2.out).trans S0.out
            have t1 := (hBq.cell (p := ⟨N1, 1, none⟩) hn2.out).trans S1.out
            clear hBq
            go_wp2_with fail
            go_roundw
            case rel => exact ⟨kk + 1, by omega, by go_num, B3, o13, o23, t0, t1⟩
            case measure => simp [intOf]; omega
        · rw [Bool.true_or] at hI
          go_wp2_with fail
          refine Draw.wp_region_later hmix (by kernel_rfl) ?_
          repeat (go_big_quiet_step (first | (go_at_call 17; exact Draw.later_of (hI _)) | (go_at_call 18; exact Draw.later_of (hJ _))))
          refine wpQuiet_nil ?_
          intro wq hw'
          obtain ⟨q, hq⟩ := hw'
          have hBq := q.h
          rw [← hq] at hBq
          clear hq q d0 d1 d2 d3 hI hJ
          have B3 := HA.out.trans (hBq.mono HA.out.size)
          have o13 := HO1.out.later hBq
          have o23 := HO2.out.later hBq
          have t0 := (hBq.cell (p := ⟨N1, 0, none⟩) hn2.out).trans S0.out
          have t1 := (hBq.cell (p := ⟨N1, 1, none⟩) hn2.out).trans S1.out
          clear hBq
          go_wp2_with fail
          go_roundw
          case rel => exact ⟨kk + 1, by omega, by go_num, B3, o13, o23, t0, t1⟩
          case measure => simp [intOf]; omega
      · have i1 : ¬ (kk : Int) < 60 := by omega
        go_wp2_with fail
        go_ret
        exact ⟨rfl, hB⟩

/-! ### THE ROW's STEP: WRITTEN OUT: LEAVE IT -/
set_option maxRecDepth 100000 in
theorem lifted (os : Os) (started : os.Started) (H : Type) (enc : TypeId × Value → H) :
    ReturnsInHanded {} Try.checked os 3 .any (Rows.fnSpansSpec.pre6 enc Try.prog Try.f3 Rows.fnSpansRow.domain false) (Rows.fnSpansSpec.post enc Try.prog Try.f3 false true false false) := by
  refine returnsInHanded_of_change (C := Try.checked) own started (by kernel_rfl) Try.func3
    (ChangeSpec.witness6 (enc := enc) (C := Try.checked) false ⟨#[], #[.slice none 0 0], []⟩ 8 (by kernel_rfl) (by kernel_rfl) (by kernel_rfl) (by kernel_rfl)) ?_
  intro W base args ds gs before hval0 hW hcnd _
  have hval : ∀ (j : Nat) t v, Try.f3.params[j]? = some t → args[j]? = some v → Value.okWide Try.prog W .any base t v := hval0
  have hW' := hW
  obtain ⟨p, q, hA0, hV, rfl, hfz, hnd⟩ := hW
  have hA : DataW.TrodAll enc Try.prog W 0 (fun _ => true) true Try.f3.params.toList args.toList ds p := hA0
  rw [Try.params3] at hA hval
  obtain ⟨v0, vs0, d0, ds0, p0, q0, hargs, rfl, rfl, h0, r0⟩ := trodAll_cons hA
  obtain ⟨rfl, rfl, rfl⟩ := trodAll_nil r0
  obtain rfl : args = #[v0] := by cases args; simp_all
  obtain ⟨rfl, rfl⟩ := trodVars_none hV
  obtain ⟨a0, len0, cap0, rfl⟩ := okWide_slice Try.underlying22 (hval 0 22 v0 rfl rfl)
  have k0 := h0
  have lt0 : ∀ x ∈ p0, x.block < W.heap.size := by obtain ⟨m, hm⟩ := k0; exact DataW.trod_lt m _ _ _ hm
  obtain ⟨z0, w0⟩ : ∃ zs, IsRow .u8 W a0 len0 cap0 zs := by
    obtain ⟨fuel, hf⟩ := h0
    rcases open_ints Try.underlying22 Try.underlying5 (by kernel_rfl) hf with ⟨hcs, _⟩ | ⟨x, l, c, zs, hcs, _, hl, hm, hz, _, hcell, hwz⟩
    · simp [Value.cells] at hcs
      obtain ⟨rfl, rfl, rfl⟩ := hcs
      exact ⟨[], .inl ⟨rfl, rfl, rfl, rfl⟩⟩
    · simp [Value.cells] at hcs
      obtain ⟨rfl, rfl, rfl⟩ := hcs
      exact ⟨zs, .inr ⟨_, rfl, hl, hm, by simpa using hz, hcell, hwz⟩⟩
  clear hA0 hval0
  refine (walk a0 len0 cap0 z0 W w0).mono fun e W' ⟨he, bel⟩ => ?_
  subst he
  exact ⟨_, rfl, _, _, _, [], _, [], hW', trodAll_mk1 (shut_bool Try.underlying4 _), (trodAll_cons_mk (Below.trod laidOut (by kernel_rfl) (of_decide_eq_true (by kernel_rfl)) k0 bel lt0) trodAll_mk0), rfl, bel.frame _, fun h => by cases h⟩

theorem over : Rows.fnSpansRow.holds Try.pinned (OpenSpec.ofChange Rows.fnSpansSpec) :=
  OpenClaim.holds_of_wide 3 Try.f3 rfl rfl rfl rfl rfl rfl rfl ⟨rfl, rfl, rfl, rfl, rfl⟩ rfl rfl rfl rfl rfl (by kernel_rfl) Try.func3 (by kernel_rfl)
    (of_decide_eq_true (by kernel_rfl)) (by unfold Func.isWrapper; first | (rw [if_pos (by decide +kernel)]; kernel_rfl) | (rw [if_neg (by decide +kernel)]; exact ⟨rfl, rfl⟩))
    (fun os started H enc _ => lifted os started H enc)

/-- THE STATEMENT. -/
theorem proved : Rows.FnSpansSaid := over
end Go.Proofs.Ytjlebhohhhkmfaa.fnSpans
namespace Go.Proofs.Ytjlebhohhhkmfaa
theorem fnSpans_holds : Rows.FnSpansSaid := fnSpans.proved
#print axioms fnSpans_holds
end Go.Proofs.Ytjlebhohhhkmfaa

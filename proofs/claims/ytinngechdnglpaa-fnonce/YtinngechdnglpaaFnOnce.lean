/- For every code of bytes FnOnce returns true: the program's TakenAway answers as the specification's on every drawn taker and number, and of a text of which pieces come in any order, then all of it in fives, all is there, once, in order, and ended; no condition. (Its frame is the guide's shell; the walk is mine.) -/
import Derived.Test.YtinngechdnglpaaRows
import Derived.Test.YtinngechdnglpaaTakU
import Derived.Test.YtinngechdnglpaaLawU
import Derived.Test.YtinngechdnglpaaDrawW
import Derived.Test.YtinngechdnglpaaTko
import Derived.Test.YtinngechdnglpaaSrn
import Derived.WalkKit
import Derived.ProofKit
import Derived.OpenShut
import Derived.ShutString
import Derived.ChangeOld
import Derived.Below
namespace Go.Proofs.Ytinngechdnglpaa.fnOnce
open Go.ChangeShapes Go.WideShapes Go.ChangeAt Go.RowKit
open Go.ChangeMaps (open_string shut_string)
set_option linter.unusedVariables false

theorem own : ownKnob Try.prog.godebug = none := by kernel_rfl
theorem laidOut : laidOutB Try.prog = true := by kernel_rfl

/-- WHAT THE WALK IS TOLD OF A SLICE OF INTEGERS THAT CAME IN: it is nil; or it leads to a row of 'cap' cells, the numbers 'zs' (the first 'len' are its elements, the rest its spare room), each fitting its kind. -/
def IsRow (k : IntKind) (w : World) (a : Option Addr) (len cap : Nat) (zs : List Int) : Prop :=
  (a = none ∧ len = 0 ∧ cap = 0 ∧ zs = []) ∨
  ∃ x, a = some x ∧ len ≤ cap ∧ cap ≤ maxLen ∧ zs.length = cap ∧ (∀ i, i < zs.length → w.cell? (x.add i) = some (.int k (zs.getD i 0))) ∧ ∀ n ∈ zs, (Lit.int k n).wf = true

/-! ### STEP 1: THE WALK: the Go text returns true, AND WRITES NOTHING THAT WAS THERE: 'Below w.heap.size w w'' (Derived/Below.lean: '.refl', '.alloc', '.drew', '.setCell' at a new block, '.trans'). Open each 'IsRow' by 'rcases' AHEAD of 'go_enter'; part every test ahead of the walk. -/
set_option linter.unusedSimpArgs false in
set_option maxRecDepth 20000 in
set_option maxHeartbeats 4000000 in
theorem walk (a0 : Option Addr) (len0 cap0 : Nat) (z0 : List Int) (w : World) (w0 : IsRow .u8 w a0 len0 cap0 z0) :
    Calls Try.prog 4 #[.slice a0 len0 cap0] w fun e w' => e = .returned (.bool true) ∧ Below w.heap.size w w' := by
  obtain ⟨hb, hm⟩ := Draw.bytes_of_row w0
  clear w0
  by_cases hl : len0 ≤ 4096
  case neg =>
    have hd : decide (4096 < (len0 : Int)) = true := by simp; omega
    go_enter Try.func4, Try.ntmps4
    go_wp2_with fail
    refine (Draw.big _ _ _ _ hm).mono ?_
    rintro e w1 ⟨rfl, rfl⟩
    go_wp2_with fail
    go_ret
    exact ⟨rfl, Below.refl _ _⟩
  have hd : decide (4096 < (len0 : Int)) = false := by simp; omega
  go_enter Try.func4, Try.ntmps4
  go_wp2_with fail
  refine (Draw.big _ _ _ _ hm).mono ?_
  rintro e w1 ⟨rfl, rfl⟩
  clear hd
  go_wp2_with fail
  refine (Tak.drawTakenAway _ _ _ _ hb hl).mono ?_
  rintro x w1 ⟨⟨nx, bs, l, cp, fi, en⟩, hg, a1, c1, n, rfl, o1, b1⟩
  obtain ⟨hbd, hll, hbb, hn0, hn1⟩ := hg
  dsimp only at hbd hll hbb hn0 hn1 o1
  have hl2 : l.length ≤ 2097152 := by omega
  have hb2 : bs.size ≤ 2097152 := by omega
  have hI := fun w' (hL : Tak.partE.Lies w' a1 l) => Tak.implTakenAway nx bs a1 l.length c1 cp fi en l n w' rfl hL hl2 hb2 hbd o1.none_cap
  have hS := fun w' (hL : Tak.partE.Lies w' a1 l) => Tak.specTakenAway nx bs a1 l.length c1 cp fi en l n w' rfl hL hl2 hb2 hbd o1.none_cap
  obtain ⟨ok, hok⟩ : ∃ ok, Tak.takerB nx bs l cp fi en = ok := ⟨_, rfl⟩
  obtain ⟨ta, hta⟩ : ∃ ta, Tak.takenAway ⟨nx, bs, l, cp, fi, en⟩ n = ta := ⟨_, rfl⟩
  rw [hta] at hI hS
  obtain ⟨⟨xn, xb, xl, xc, xf, xe⟩, out⟩ := ta
  have HTA : Hid _ := hta
  have HOK : Hid _ := hok
  have hxl : xl.length ≤ 2097152 := by
    have e : (Tak.takenAway ⟨nx, bs, l, cp, fi, en⟩ n).1.l.length ≤ l.length := by
      simp only [Tak.takenAway]
      split
      · split <;> simp
      · simp [Tak.zeroK]
    rw [hta] at e
    dsimp only at e
    omega
  dsimp only [Tak.Tk.v] at hI hS ⊢
  clear hta hok hll hbb
  have v3 : RowG.Var 26 (w1.alloc (.cells #[.int .i64 nx, .string bs, .slice a1 l.length c1, .int .i64 cp, .int .i64 fi, .bool en] 26)) w1.heap.size [.int .i64 nx, .string bs, .slice a1 l.length c1, .int .i64 cp, .int .i64 fi, .bool en] := RowG.Var.new _ _
  have o3 := o1.alloc (.cells #[.int .i64 nx, .string bs, .slice a1 l.length c1, .int .i64 cp, .int .i64 fi, .bool en] 26)
  have B3 : Below _ _ (w1.alloc (.cells #[.int .i64 nx, .string bs, .slice a1 l.length c1, .int .i64 cp, .int .i64 fi, .bool en] 26)) := b1.alloc b1.size _
  clear b1 o1
  go_upto_region 4 with (fail)
  generalize w1.alloc (.cells #[.int .i64 nx, .string bs, .slice a1 l.length c1, .int .i64 cp, .int .i64 fi, .bool en] 26) = W at *
  generalize w1.heap.size = k3 at *
  have e0 := v3.cell (i := 0) rfl
  have e1 := v3.cell (i := 1) rfl
  have e2 := v3.cell (i := 2) rfl
  have e3 := v3.cell (i := 3) rfl
  have e4 := v3.cell (i := 4) rfl
  have e5 := v3.cell (i := 5) rfl
  go_wp2_with fail
  refine (hI _ o3.lies).mono ?_
  rintro x w2 ⟨a2, c2, rfl, o2, b2⟩
  have v3 := v3.later b2
  have o3 := o3.later b2
  have B2 := B3.trans (b2.mono B3.size)
  have v5 : RowG.Var 26 (w2.alloc (.cells #[.int .i64 xn, .string xb, .slice a2 xl.length c2, .int .i64 xc, .int .i64 xf, .bool xe] 26)) w2.heap.size [.int .i64 xn, .string xb, .slice a2 xl.length c2, .int .i64 xc, .int .i64 xf, .bool xe] := RowG.Var.new _ _
  have v3 := v3.alloc (.cells #[.int .i64 xn, .string xb, .slice a2 xl.length c2, .int .i64 xc, .int .i64 xf, .bool xe] 26)
  have o3 := o3.alloc (.cells #[.int .i64 xn, .string xb, .slice a2 xl.length c2, .int .i64 xc, .int .i64 xf, .bool xe] 26)
  have o5 := o2.alloc (.cells #[.int .i64 xn, .string xb, .slice a2 xl.length c2, .int .i64 xc, .int .i64 xf, .bool xe] 26)
  have B5 : Below _ _ (w2.alloc (.cells #[.int .i64 xn, .string xb, .slice a2 xl.length c2, .int .i64 xc, .int .i64 xf, .bool xe] 26)) := B2.alloc B2.size _
  clear b2 B2 B3 o2
  clear e0 e1 e2 e3 e4 e5
  go_upto_region 5 with (fail)
  generalize w2.alloc (.cells #[.int .i64 xn, .string xb, .slice a2 xl.length c2, .int .i64 xc, .int .i64 xf, .bool xe] 26) = W at *
  generalize w2.heap.size = k5 at *
  have e0 := v3.cell (i := 0) rfl
  have e1 := v3.cell (i := 1) rfl
  have e2 := v3.cell (i := 2) rfl
  have e3 := v3.cell (i := 3) rfl
  have e4 := v3.cell (i := 4) rfl
  have e5 := v3.cell (i := 5) rfl
  go_wp2_with fail
  refine (hS _ o3.lies).mono ?_
  rintro x w4 ⟨a3, c3, rfl, o4, b4⟩
  have v3 := v3.later b4
  have v5 := v5.later b4
  have o3 := o3.later b4
  have o5 := o5.later b4
  have B4 := B5.trans (b4.mono B5.size)
  have v7 : RowG.Var 26 (w4.alloc (.cells #[.int .i64 xn, .string xb, .slice a3 xl.length c3, .int .i64 xc, .int .i64 xf, .bool xe] 26)) w4.heap.size [.int .i64 xn, .string xb, .slice a3 xl.length c3, .int .i64 xc, .int .i64 xf, .bool xe] := RowG.Var.new _ _
  have v3 := v3.alloc (.cells #[.int .i64 xn, .string xb, .slice a3 xl.length c3, .int .i64 xc, .int .i64 xf, .bool xe] 26)
  have v5 := v5.alloc (.cells #[.int .i64 xn, .string xb, .slice a3 xl.length c3, .int .i64 xc, .int .i64 xf, .bool xe] 26)
  have o3 := o3.alloc (.cells #[.int .i64 xn, .string xb, .slice a3 xl.length c3, .int .i64 xc, .int .i64 xf, .bool xe] 26)
  have o5 := o5.alloc (.cells #[.int .i64 xn, .string xb, .slice a3 xl.length c3, .int .i64 xc, .int .i64 xf, .bool xe] 26)
  have o7 := o4.alloc (.cells #[.int .i64 xn, .string xb, .slice a3 xl.length c3, .int .i64 xc, .int .i64 xf, .bool xe] 26)
  have B7 : Below _ _ (w4.alloc (.cells #[.int .i64 xn, .string xb, .slice a3 xl.length c3, .int .i64 xc, .int .i64 xf, .bool xe] 26)) := B4.alloc B4.size _
  clear b4 B4 B5 o4
  clear e0 e1 e2 e3 e4 e5
  go_upto_region 6 with (fail)
  generalize w4.alloc (.cells #[.int .i64 xn, .string xb, .slice a3 xl.length c3, .int .i64 xc, .int .i64 xf, .bool xe] 26) = W at *
  generalize w4.heap.size = k7 at *
  have p0 := v5.cell (i := 0) rfl
  have p1 := v5.cell (i := 1) rfl
  have p2 := v5.cell (i := 2) rfl
  have p3 := v5.cell (i := 3) rfl
  have p4 := v5.cell (i := 4) rfl
  have p5 := v5.cell (i := 5) rfl
  have q0 := v7.cell (i := 0) rfl
  have q1 := v7.cell (i := 1) rfl
  have q2 := v7.cell (i := 2) rfl
  have q3 := v7.cell (i := 3) rfl
  have q4 := v7.cell (i := 4) rfl
  have q5 := v7.cell (i := 5) rfl
  go_wp2_with fail
  refine (Tak.likeTaker xn xb a2 a3 _ _ c2 c3 xc xf xe xl _ rfl rfl o5.lies o7.lies hxl).mono ?_
  rintro x w8 ⟨rfl, b8⟩
  have B8 := B7.trans (b8.mono B7.size)
  clear b8 B7 v7 o7 v3 v5 o3 o5 hI hS HTA HOK hxl hbd hl2 hb2 hn0 hn1 hm ok
  clear p0 p1 p2 p3 p4 p5 q0 q1 q2 q3 q4 q5
  have HB : Hid (Draw.Bytes w a0 len0) := hb
  clear hb
  go_wp2_with fail
  go_loopw [9, 10] (fun tv iv wr => ∃ T : ByteArray, T.size ≤ 60 ∧ tv = .string T ∧ iv = .int .i64 T.size ∧ Below w.heap.size w wr) (fun _ iv _ => 60 - (intOf iv).toNat)
  case atStart => exact ⟨⟨#[]⟩, by decide, rfl, rfl, B8⟩
  case round =>
    clear B8
    obtain ⟨T, hT, rfl, rfl, hB⟩ := hrel
    have hb := Draw.Bytes.below HB.out hB (Nat.le_refl _)
    go_wp2_with fail
    refine (Draw.pick _ _ _ 1 60 _ hb hl (by decide) (by decide) (by decide)).mono ?_
    rintro x w1 ⟨⟨x, x0, x1, rfl⟩, rfl⟩
    by_cases hlt : (T.size : Int) < 1 + x
    case pos =>
      have ht60 : T.size < 60 := by omega
      go_wp2_with fail
      refine (Draw.pick _ _ _ (100 + T.size) 26 _ hb hl (by omega) (by omega) (by decide)).mono ?_
      rintro x w1 ⟨⟨y, y0, y1, rfl⟩, rfl⟩
      obtain ⟨b, hrow⟩ := Tak.row_one wr (y := 97 + y) (by omega) (by omega)
      have hconv := Draw.text_byteRow hrow 1 1 rfl
      clear hrow
      set_option maxRecDepth 20000 in go_wp2_with fail
      go_roundw
      case rel => exact ⟨T ++ ⟨#[b]⟩, by rw [ByteArray.size_append]; show T.size + 1 ≤ 60; omega, rfl, by rw [ByteArray.size_append]; show _ = Value.int .i64 ((T.size + 1 : Nat) : Int); go_num, hB.alloc hB.size _⟩
      case measure => simp [intOf]; omega
    case neg =>
      have hT1 : 1 ≤ T.size := by omega
      have hN : ∀ w', Calls Try.prog 9 #[.int .i64 100] w' fun x w'' => x = .returned (.tuple #[.agg #[.int .i64 0, .string ⟨#[]⟩, .slice none 0 0, .int .i64 100, .int .i64 (-1), .bool false], .bool true]) ∧ Below w'.heap.size w' w'' := fun w' => Tak.implNewTaker 100 w'
      go_wp2_with fail
      refine (hN _).mono ?_
      rintro x w1 ⟨rfl, b1⟩
      have B1 := hB.trans (b1.mono hB.size)
      have hk11 : w.heap.size ≤ w1.heap.size := B1.size
      have v11 : RowG.Var 26 (w1.alloc (.cells #[.int .i64 0, .string ⟨#[]⟩, .slice none 0 0, .int .i64 100, .int .i64 (-1), .bool false] 26)) w1.heap.size [.int .i64 0, .string ⟨#[]⟩, .slice none 0 0, .int .i64 100, .int .i64 (-1), .bool false] := RowG.Var.new _ _
      have B2 : Below w.heap.size w (w1.alloc (.cells #[.int .i64 0, .string ⟨#[]⟩, .slice none 0 0, .int .i64 100, .int .i64 (-1), .bool false] 26)) := B1.alloc B1.size _
      clear B1 b1 hB hb x0 x1 hlt hN
      go_wp2_with fail
      generalize w1.alloc (.cells #[.int .i64 0, .string ⟨#[]⟩, .slice none 0 0, .int .i64 100, .int .i64 (-1), .bool false] 26) = W1 at *
      generalize w1.heap.size = k11 at *
      go_loopw [14] (fun iv wr => ∃ kk : Nat, kk ≤ 12 ∧ iv = .int .i64 kk ∧ Tak.OnceI T w k11 (fun _ => True) wr) (fun iv _ => 12 - (intOf iv).toNat)
      case atStart => exact ⟨0, by decide, rfl, ⟨0, ⟨#[]⟩, [], 100, -1, false⟩, none, 0, Tak.once_new T, trivial, v11, RowG.El.Own.none _ _, B2⟩
      case round =>
        clear v11 B2
        obtain ⟨kk, hk, rfl, x, a, c, hon, -, hv, ho, hB⟩ := hrel
        have hb := Draw.Bytes.below HB.out hB (Nat.le_refl _)
        have HON : Hid (Tak.OnT T x) := hon
        have szb0 : k11 + 1 ≤ wr.heap.size := hv.lt
        clear hon
        have e0 := hv.cell (i := 0) rfl
        have e1 := hv.cell (i := 1) rfl
        have e2 := hv.cell (i := 2) rfl
        have e3 := hv.cell (i := 3) rfl
        have e4 := hv.cell (i := 4) rfl
        have e5 := hv.cell (i := 5) rfl
        by_cases hlt : kk < 12
        case pos =>
          go_wp2_with fail
          refine (Draw.pick _ _ _ (20 + kk) T.size _ hb hl (by omega) (by omega) (by omega)).mono ?_
          rintro x w1 ⟨⟨p, p0, p1, rfl⟩, rfl⟩
          go_wp2_with fail
          refine (Draw.pick _ _ _ (40 + kk) 12 _ hb hl (by omega) (by omega) (by decide)).mono ?_
          rintro x w1 ⟨⟨q, q0, q1, rfl⟩, rfl⟩
          by_cases hs : (T.size : Int) < p + 1 + q
          case pos =>
            have hpT : p ≤ (T.size : Int) := by omega
            have hI := fun w' hL => Tak.implTakesOn Tak.sortNil hT x HON.out p (T.size : Int) p0 (by omega) (by omega) (by omega) a c w' hL ho.none_cap
            simp only [Int.toNat_natCast, decide_true, true_or, forall_const] at hI
            go_wp2_with fail
            refine Draw.wp_region_Y (S := (fun w' => w'.cell? ⟨k11, 0, none⟩ = some (.int .i64 x.nx) ∧ w'.cell? ⟨k11, 1, none⟩ = some (.string x.bs) ∧ w'.cell? ⟨k11, 2, none⟩ = some (.slice a x.l.length c) ∧ w'.cell? ⟨k11, 3, none⟩ = some (.int .i64 x.cp) ∧ w'.cell? ⟨k11, 4, none⟩ = some (.int .i64 x.fi) ∧ w'.cell? ⟨k11, 5, none⟩ = some (.bool x.en))) 13 (by kernel_rfl) ?_ (fun hHeld => ?_)
            focus ((try dsimp only) <;> (first | with_reducible exact hHeld | with_reducible exact ⟨s0, s1, s2, s3, s4, s5⟩ | exact ⟨e0, e1, e2, e3, e4, e5⟩))
            refine Draw.wpAnyY_take (i := 0) (v := ?_) rfl (by kernel_rfl) (by kernel_rfl) (by kernel_rfl) (by kernel_rfl) (fun _ _ _ h => h) (Or.inl ⟨by rfl, ?_⟩) (by assumption) ?_
            rotate_left 1
            focus (intro wS hSw; (try dsimp only at hSw); go_simp; first | done | (constructor <;> with_reducible rfl) | with_reducible rfl)
            (try simp only [Act.put, List.getElem_toArray, List.getElem_cons_zero, List.getElem_cons_succ, List.setIfInBounds_toArray, List.set_cons_zero, List.set_cons_succ])
            refine Draw.wpAnyY_take (i := 1) (v := ?_) rfl (by kernel_rfl) (by kernel_rfl) (by kernel_rfl) (by kernel_rfl) (fun _ _ _ h => h) (Or.inl ⟨by rfl, ?_⟩) (by assumption) ?_
            rotate_left 1
            focus (intro wS hSw; (try dsimp only at hSw); go_simp; first | done | (constructor <;> with_reducible rfl) | with_reducible rfl)
            (try simp only [Act.put, List.getElem_toArray, List.getElem_cons_zero, List.getElem_cons_succ, List.setIfInBounds_toArray, List.set_cons_zero, List.set_cons_succ])
            refine Draw.wpAnyY_take (i := 2) (v := ?_) rfl (by kernel_rfl) (by kernel_rfl) (by kernel_rfl) (by kernel_rfl) (fun _ _ _ h => h) (Or.inl ⟨by rfl, ?_⟩) (by assumption) ?_
            rotate_left 1
            focus (intro wS hSw; (try dsimp only at hSw); go_simp; first | done | (constructor <;> with_reducible rfl) | with_reducible rfl)
            (try simp only [Act.put, List.getElem_toArray, List.getElem_cons_zero, List.getElem_cons_succ, List.setIfInBounds_toArray, List.set_cons_zero, List.set_cons_succ])
            refine Draw.wpAnyY_take (i := 3) (v := ?_) rfl (by kernel_rfl) (by kernel_rfl) (by kernel_rfl) (by kernel_rfl) (fun _ _ _ h => h) (Or.inl ⟨by rfl, ?_⟩) (by assumption) ?_
            rotate_left 1
            focus (intro wS hSw; (try dsimp only at hSw); go_simp; first | done | (constructor <;> with_reducible rfl) | with_reducible rfl)
            (try simp only [Act.put, List.getElem_toArray, List.getElem_cons_zero, List.getElem_cons_succ, List.setIfInBounds_toArray, List.set_cons_zero, List.set_cons_succ])
            refine Draw.wpAnyY_take (i := 4) (v := ?_) rfl (by kernel_rfl) (by kernel_rfl) (by kernel_rfl) (by kernel_rfl) (fun _ _ _ h => h) (Or.inl ⟨by rfl, ?_⟩) (by assumption) ?_
            rotate_left 1
            focus (intro wS hSw; (try dsimp only at hSw); go_simp; first | done | (constructor <;> with_reducible rfl) | with_reducible rfl)
            (try simp only [Act.put, List.getElem_toArray, List.getElem_cons_zero, List.getElem_cons_succ, List.setIfInBounds_toArray, List.set_cons_zero, List.set_cons_succ])
            refine Draw.wpAnyY_take (i := 5) (v := ?_) rfl (by kernel_rfl) (by kernel_rfl) (by kernel_rfl) (by kernel_rfl) (fun _ _ _ h => h) (Or.inl ⟨by rfl, ?_⟩) (by assumption) ?_
            rotate_left 1
            focus (intro wS hSw; (try dsimp only at hSw); go_simp; first | done | (constructor <;> with_reducible rfl) | with_reducible rfl)
            (try simp only [Act.put, List.getElem_toArray, List.getElem_cons_zero, List.getElem_cons_succ, List.setIfInBounds_toArray, List.set_cons_zero, List.set_cons_succ])
            refine Draw.wpAnyY_take (i := 6) (v := ?_) rfl (by kernel_rfl) (by kernel_rfl) (by kernel_rfl) (by kernel_rfl) (fun _ _ _ h => h) (Or.inl ⟨by rfl, ?_⟩) (by assumption) ?_
            rotate_left 1
            focus (intro wS hSw; (try dsimp only at hSw); go_simp; first | done | (constructor <;> with_reducible rfl) | with_reducible rfl)
            (try simp only [Act.put, List.getElem_toArray, List.getElem_cons_zero, List.getElem_cons_succ, List.setIfInBounds_toArray, List.set_cons_zero, List.set_cons_succ])
            refine Draw.wpAnyY_take (i := 7) (v := ?_) rfl (by kernel_rfl) (by kernel_rfl) (by kernel_rfl) (by kernel_rfl) (fun _ _ _ h => h) (Or.inl ⟨by rfl, ?_⟩) (by assumption) ?_
            rotate_left 1
            focus (intro wS hSw; (try dsimp only at hSw); go_simp; first | done | (constructor <;> with_reducible rfl) | with_reducible rfl)
            (try simp only [Act.put, List.getElem_toArray, List.getElem_cons_zero, List.getElem_cons_succ, List.setIfInBounds_toArray, List.set_cons_zero, List.set_cons_succ])
            refine Draw.wpAnyY_take (i := 8) (v := ?_) rfl (by kernel_rfl) (by kernel_rfl) (by kernel_rfl) (by kernel_rfl) (fun _ _ _ h => h) (Or.inl ⟨by rfl, ?_⟩) (by assumption) ?_
            rotate_left 1
            focus (intro wS hSw; (try dsimp only at hSw); go_simp; first | done | (constructor <;> with_reducible rfl) | with_reducible rfl)
            (try simp only [Act.put, List.getElem_toArray, List.getElem_cons_zero, List.getElem_cons_succ, List.setIfInBounds_toArray, List.set_cons_zero, List.set_cons_succ])
            refine Draw.wpAnyY_ready (rs := [9]) (by kernel_rfl) (by simp) ?_
            refine Draw.AllReadyY.cons rfl (fun K hK => ?_) Draw.AllReadyY.nil
            (go_simp; refine (hI _ (RowG.El.Own.drew ho).lies).mono ?_; rintro e wb ⟨⟨yn, yb, yl, yc, yf, ye⟩, bb, hony, hcov, hfi, a2, c2, rfl, ob, b9⟩; have hyb := hony.bs; dsimp only at hyb; subst hyb; have hvb := hv.drew.later b9; have Bb := hB.drew.trans (b9.mono hB.size); have szb : k11 + 1 ≤ wb.heap.size := Nat.le_trans hv.lt b9.size; have HONY : Hid _ := hony; have HCOV : Hid _ := hcov; have HFI : Hid _ := hfi; clear hony hcov hfi; dsimp only at ob; have s0 := hvb.cell (i := 0) rfl; have s1 := hvb.cell (i := 1) rfl; have s2 := hvb.cell (i := 2) rfl; have s3 := hvb.cell (i := 3) rfl; have s4 := hvb.cell (i := 4) rfl; have s5 := hvb.cell (i := 5) rfl; have f0 := hvb.free 0; have f1 := hvb.free 1; have f2 := hvb.free 2; have f3 := hvb.free 3; have f4 := hvb.free 4; have f5 := hvb.free 5)
            refine hK.out _ _ ?_ (fun hHeld2 => ?_)
            focus (intro _ _; (try dsimp only) <;> (first | with_reducible exact hHeld | with_reducible exact ⟨s0, s1, s2, s3, s4, s5⟩ | exact ⟨e0, e1, e2, e3, e4, e5⟩))
            clear hK K
            replace hHeld := hHeld2 (by decide) hHeld
            clear hHeld2
            (try simp only [Act.put, List.getElem_toArray, List.getElem_cons_zero, List.getElem_cons_succ, List.setIfInBounds_toArray, List.set_cons_zero, List.set_cons_succ])
            refine Draw.wpAnyY_takeT (i := 10) (v := ?_) rfl (by kernel_rfl) (by kernel_rfl) (by kernel_rfl) (fun _ _ _ h => h) (Or.inl ⟨by rfl, ?_⟩) ?_
            rotate_left 1
            focus (intro wS hSw; (try dsimp only at hSw); go_simp; first | done | (constructor <;> with_reducible rfl) | with_reducible rfl)
            (try simp only [Act.put, List.getElem_toArray, List.getElem_cons_zero, List.getElem_cons_succ, List.setIfInBounds_toArray, List.set_cons_zero, List.set_cons_succ])
            refine Draw.wpAnyY_takeT (i := 11) (v := ?_) rfl (by kernel_rfl) (by kernel_rfl) (by kernel_rfl) (fun _ _ _ h => h) (Or.inl ⟨by rfl, ?_⟩) ?_
            rotate_left 1
            focus (intro wS hSw; (try dsimp only at hSw); go_simp; first | done | (constructor <;> with_reducible rfl) | with_reducible rfl)
            (try simp only [Act.put, List.getElem_toArray, List.getElem_cons_zero, List.getElem_cons_succ, List.setIfInBounds_toArray, List.set_cons_zero, List.set_cons_succ])
            refine Draw.wpAnyY_takeT (i := 12) (v := ?_) rfl (by kernel_rfl) (by kernel_rfl) (by kernel_rfl) (fun _ _ _ h => h) (Or.inl ⟨by rfl, ?_⟩) ?_
            rotate_left 1
            focus (intro wS hSw; (try dsimp only at hSw); go_simp; first | done | (constructor <;> with_reducible rfl) | with_reducible rfl)
            (try simp only [Act.put, List.getElem_toArray, List.getElem_cons_zero, List.getElem_cons_succ, List.setIfInBounds_toArray, List.set_cons_zero, List.set_cons_succ])
            refine Draw.wpAnyY_ready (rs := [13]) (by kernel_rfl) (by simp) ?_
            refine Draw.AllReadyY.cons rfl (fun K hK => ?_) Draw.AllReadyY.nil
            go_simp
            refine hK.out _ _ (fun h => absurd rfl h) (fun hHeld2 => ?_)
            clear hK K hHeld hHeld2
            (try simp only [Act.put, List.getElem_toArray, List.getElem_cons_zero, List.getElem_cons_succ, List.setIfInBounds_toArray, List.set_cons_zero, List.set_cons_succ])
            refine Draw.wpAnyY_done (by kernel_rfl) ?_ _
            have o2 := ob.mono szb0
            have hx2 : ∀ x, a2 = some x → k11 + 1 ≤ x.block := fun x e => (o2.lt x e).1
            have hvy : RowG.Var 26 ((((((wb.setCell ⟨k11, 0, none⟩ (.int .i64 yn)).setCell ⟨k11, 1, none⟩ (.string (T.extract 0 yn.toNat))).setCell ⟨k11, 2, none⟩ (.slice a2 yl.length c2)).setCell ⟨k11, 3, none⟩ (.int .i64 yc)).setCell ⟨k11, 4, none⟩ (.int .i64 yf)).setCell ⟨k11, 5, none⟩ (.bool ye)) k11 [.int .i64 yn, .string (T.extract 0 yn.toNat), .slice a2 yl.length c2, .int .i64 yc, .int .i64 yf, .bool ye] := (((((hvb.set 0 _).set 1 _).set 2 _).set 3 _).set 4 _).set 5 _
            have hoy : Tak.partE.Own 53 ((((((wb.setCell ⟨k11, 0, none⟩ (.int .i64 yn)).setCell ⟨k11, 1, none⟩ (.string (T.extract 0 yn.toNat))).setCell ⟨k11, 2, none⟩ (.slice a2 yl.length c2)).setCell ⟨k11, 3, none⟩ (.int .i64 yc)).setCell ⟨k11, 4, none⟩ (.int .i64 yf)).setCell ⟨k11, 5, none⟩ (.bool ye)) (k11 + 1) a2 c2 yl := Tak.own_put6 o2 (fun x e => by have := hx2 x e; omega) _ _ _ _ _ _
            have hBy : Below w.heap.size w ((((((wb.setCell ⟨k11, 0, none⟩ (.int .i64 yn)).setCell ⟨k11, 1, none⟩ (.string (T.extract 0 yn.toNat))).setCell ⟨k11, 2, none⟩ (.slice a2 yl.length c2)).setCell ⟨k11, 3, none⟩ (.int .i64 yc)).setCell ⟨k11, 4, none⟩ (.int .i64 yf)).setCell ⟨k11, 5, none⟩ (.bool ye)) := Tak.below_put6 Bb hk11 _ _ _ _ _ _
            clear e0 e1 e2 e3 e4 e5 s0 s1 s2 s3 s4 s5 f0 f1 f2 f3 f4 f5 hvb ob o2 Bb hv ho hB hx2 b9 szb HON hI
            generalize ((((((wb.setCell ⟨k11, 0, none⟩ (.int .i64 yn)).setCell ⟨k11, 1, none⟩ (.string (T.extract 0 yn.toNat))).setCell ⟨k11, 2, none⟩ (.slice a2 yl.length c2)).setCell ⟨k11, 3, none⟩ (.int .i64 yc)).setCell ⟨k11, 4, none⟩ (.int .i64 yf)).setCell ⟨k11, 5, none⟩ (.bool ye)) = W2 at *
            have r0 := hvy.cell (i := 0) rfl
            have r1 := hvy.cell (i := 1) rfl
            have r2 := hvy.cell (i := 2) rfl
            have r3 := hvy.cell (i := 3) rfl
            have r4 := hvy.cell (i := 4) rfl
            have r5 := hvy.cell (i := 5) rfl
            obtain ⟨z1, z2, z3⟩ := Tak.on_small HONY.out
            dsimp only at z1 z2 z3
            have hK := fun w' (hL : Tak.partE.Lies w' a2 yl) => Tak.implTakerOk yn (T.extract 0 yn.toNat) a2 _ c2 yc yf ye yl w' rfl hL (by omega) (by omega) z1
            rw [show Tak.takerB yn (T.extract 0 yn.toNat) yl yc yf ye = true from HONY.out.ok] at hK
            have n0 : 0 ≤ yn := (Tak.on_lim HONY.out).2
            have n1 : yn ≤ (T.size : Int) := HONY.out.nx
            have HK : Hid _ := hK
            have HL : Hid (Tak.partE.Lies W2 a2 yl) := hoy.lies
            have d0 := Draw.Later.cell r0
            have d1 := Draw.Later.cell r1
            have d2 := Draw.Later.cell r2
            have d3 := Draw.Later.cell r3
            have d4 := Draw.Later.cell r4
            have d5 := Draw.Later.cell r5
            clear hK z1 z2 z3
            have hmix := Tak.mix
            go_wp2_with fail
            refine Draw.wp_region_later hmix (by kernel_rfl) ?_
            repeat (go_big_quiet_step ((go_at_call 13; exact Draw.later_of (HK.out _ (HL.out.later (Draw.Later.h _))))))
            refine wpQuiet_nil ?_
            intro wq hw'
            obtain ⟨q9, hq⟩ := hw'
            have hBq := q9.h
            rw [← hq] at hBq
            clear hq q9 d0 d1 d2 d3 d4 d5 r0 r1 r2 r3 r4 r5
            go_wp2_with fail
            go_roundw
            case rel => exact ⟨kk + 1, by omega, by go_num, ⟨yn, _, yl, yc, yf, ye⟩, a2, c2, HONY.out, trivial, hvy.later hBq, hoy.later hBq, hBy.trans (hBq.mono hBy.size)⟩
            case measure => simp [intOf]; omega
          case neg =>
            have hpT : p ≤ p + 1 + q := by omega
            have hpq0 : 0 ≤ p + 1 + q := by omega
            have hpq1 : p + 1 + q ≤ (T.size : Int) := by omega
            have hI := fun w' hL => Tak.implTakesOn Tak.sortNil hT x HON.out p (p + 1 + q) p0 hpT hpq1 (by omega) a c w' hL ho.none_cap
            go_wp2_with fail
            refine Draw.wp_region_Y (S := (fun w' => w'.cell? ⟨k11, 0, none⟩ = some (.int .i64 x.nx) ∧ w'.cell? ⟨k11, 1, none⟩ = some (.string x.bs) ∧ w'.cell? ⟨k11, 2, none⟩ = some (.slice a x.l.length c) ∧ w'.cell? ⟨k11, 3, none⟩ = some (.int .i64 x.cp) ∧ w'.cell? ⟨k11, 4, none⟩ = some (.int .i64 x.fi) ∧ w'.cell? ⟨k11, 5, none⟩ = some (.bool x.en))) 13 (by kernel_rfl) ?_ (fun hHeld => ?_)
            focus ((try dsimp only) <;> (first | with_reducible exact hHeld | with_reducible exact ⟨s0, s1, s2, s3, s4, s5⟩ | exact ⟨e0, e1, e2, e3, e4, e5⟩))
            refine Draw.wpAnyY_take (i := 0) (v := ?_) rfl (by kernel_rfl) (by kernel_rfl) (by kernel_rfl) (by kernel_rfl) (fun _ _ _ h => h) (Or.inl ⟨by rfl, ?_⟩) (by assumption) ?_
            rotate_left 1
            focus (intro wS hSw; (try dsimp only at hSw); go_simp; first | done | (constructor <;> with_reducible rfl) | with_reducible rfl)
            (try simp only [Act.put, List.getElem_toArray, List.getElem_cons_zero, List.getElem_cons_succ, List.setIfInBounds_toArray, List.set_cons_zero, List.set_cons_succ])
            refine Draw.wpAnyY_take (i := 1) (v := ?_) rfl (by kernel_rfl) (by kernel_rfl) (by kernel_rfl) (by kernel_rfl) (fun _ _ _ h => h) (Or.inl ⟨by rfl, ?_⟩) (by assumption) ?_
            rotate_left 1
            focus (intro wS hSw; (try dsimp only at hSw); go_simp; first | done | (constructor <;> with_reducible rfl) | with_reducible rfl)
            (try simp only [Act.put, List.getElem_toArray, List.getElem_cons_zero, List.getElem_cons_succ, List.setIfInBounds_toArray, List.set_cons_zero, List.set_cons_succ])
            refine Draw.wpAnyY_take (i := 2) (v := ?_) rfl (by kernel_rfl) (by kernel_rfl) (by kernel_rfl) (by kernel_rfl) (fun _ _ _ h => h) (Or.inl ⟨by rfl, ?_⟩) (by assumption) ?_
            rotate_left 1
            focus (intro wS hSw; (try dsimp only at hSw); go_simp; first | done | (constructor <;> with_reducible rfl) | with_reducible rfl)
            (try simp only [Act.put, List.getElem_toArray, List.getElem_cons_zero, List.getElem_cons_succ, List.setIfInBounds_toArray, List.set_cons_zero, List.set_cons_succ])
            refine Draw.wpAnyY_take (i := 3) (v := ?_) rfl (by kernel_rfl) (by kernel_rfl) (by kernel_rfl) (by kernel_rfl) (fun _ _ _ h => h) (Or.inl ⟨by rfl, ?_⟩) (by assumption) ?_
            rotate_left 1
            focus (intro wS hSw; (try dsimp only at hSw); go_simp; first | done | (constructor <;> with_reducible rfl) | with_reducible rfl)
            (try simp only [Act.put, List.getElem_toArray, List.getElem_cons_zero, List.getElem_cons_succ, List.setIfInBounds_toArray, List.set_cons_zero, List.set_cons_succ])
            refine Draw.wpAnyY_take (i := 4) (v := ?_) rfl (by kernel_rfl) (by kernel_rfl) (by kernel_rfl) (by kernel_rfl) (fun _ _ _ h => h) (Or.inl ⟨by rfl, ?_⟩) (by assumption) ?_
            rotate_left 1
            focus (intro wS hSw; (try dsimp only at hSw); go_simp; first | done | (constructor <;> with_reducible rfl) | with_reducible rfl)
            (try simp only [Act.put, List.getElem_toArray, List.getElem_cons_zero, List.getElem_cons_succ, List.setIfInBounds_toArray, List.set_cons_zero, List.set_cons_succ])
            refine Draw.wpAnyY_take (i := 5) (v := ?_) rfl (by kernel_rfl) (by kernel_rfl) (by kernel_rfl) (by kernel_rfl) (fun _ _ _ h => h) (Or.inl ⟨by rfl, ?_⟩) (by assumption) ?_
            rotate_left 1
            focus (intro wS hSw; (try dsimp only at hSw); go_simp; first | done | (constructor <;> with_reducible rfl) | with_reducible rfl)
            (try simp only [Act.put, List.getElem_toArray, List.getElem_cons_zero, List.getElem_cons_succ, List.setIfInBounds_toArray, List.set_cons_zero, List.set_cons_succ])
            refine Draw.wpAnyY_take (i := 6) (v := ?_) rfl (by kernel_rfl) (by kernel_rfl) (by kernel_rfl) (by kernel_rfl) (fun _ _ _ h => h) (Or.inl ⟨by rfl, ?_⟩) (by assumption) ?_
            rotate_left 1
            focus (intro wS hSw; (try dsimp only at hSw); go_simp; first | done | (constructor <;> with_reducible rfl) | with_reducible rfl)
            (try simp only [Act.put, List.getElem_toArray, List.getElem_cons_zero, List.getElem_cons_succ, List.setIfInBounds_toArray, List.set_cons_zero, List.set_cons_succ])
            refine Draw.wpAnyY_take (i := 7) (v := ?_) rfl (by kernel_rfl) (by kernel_rfl) (by kernel_rfl) (by kernel_rfl) (fun _ _ _ h => h) (Or.inl ⟨by rfl, ?_⟩) (by assumption) ?_
            rotate_left 1
            focus (intro wS hSw; (try dsimp only at hSw); go_simp; first | done | (constructor <;> with_reducible rfl) | with_reducible rfl)
            (try simp only [Act.put, List.getElem_toArray, List.getElem_cons_zero, List.getElem_cons_succ, List.setIfInBounds_toArray, List.set_cons_zero, List.set_cons_succ])
            refine Draw.wpAnyY_take (i := 8) (v := ?_) rfl (by kernel_rfl) (by kernel_rfl) (by kernel_rfl) (by kernel_rfl) (fun _ _ _ h => h) (Or.inl ⟨by rfl, ?_⟩) (by assumption) ?_
            rotate_left 1
            focus (intro wS hSw; (try dsimp only at hSw); go_simp; first | done | (constructor <;> with_reducible rfl) | with_reducible rfl)
            (try simp only [Act.put, List.getElem_toArray, List.getElem_cons_zero, List.getElem_cons_succ, List.setIfInBounds_toArray, List.set_cons_zero, List.set_cons_succ])
            refine Draw.wpAnyY_ready (rs := [9]) (by kernel_rfl) (by simp) ?_
            refine Draw.AllReadyY.cons rfl (fun K hK => ?_) Draw.AllReadyY.nil
            (go_simp; refine (hI _ (RowG.El.Own.drew ho).lies).mono ?_; rintro e wb ⟨⟨yn, yb, yl, yc, yf, ye⟩, bb, hony, hcov, hfi, a2, c2, rfl, ob, b9⟩; have hyb := hony.bs; dsimp only at hyb; subst hyb; have hvb := hv.drew.later b9; have Bb := hB.drew.trans (b9.mono hB.size); have szb : k11 + 1 ≤ wb.heap.size := Nat.le_trans hv.lt b9.size; have HONY : Hid _ := hony; have HCOV : Hid _ := hcov; have HFI : Hid _ := hfi; clear hony hcov hfi; dsimp only at ob; have s0 := hvb.cell (i := 0) rfl; have s1 := hvb.cell (i := 1) rfl; have s2 := hvb.cell (i := 2) rfl; have s3 := hvb.cell (i := 3) rfl; have s4 := hvb.cell (i := 4) rfl; have s5 := hvb.cell (i := 5) rfl; have f0 := hvb.free 0; have f1 := hvb.free 1; have f2 := hvb.free 2; have f3 := hvb.free 3; have f4 := hvb.free 4; have f5 := hvb.free 5)
            refine hK.out _ _ ?_ (fun hHeld2 => ?_)
            focus (intro _ _; (try dsimp only) <;> (first | with_reducible exact hHeld | with_reducible exact ⟨s0, s1, s2, s3, s4, s5⟩ | exact ⟨e0, e1, e2, e3, e4, e5⟩))
            clear hK K
            replace hHeld := hHeld2 (by decide) hHeld
            clear hHeld2
            (try simp only [Act.put, List.getElem_toArray, List.getElem_cons_zero, List.getElem_cons_succ, List.setIfInBounds_toArray, List.set_cons_zero, List.set_cons_succ])
            refine Draw.wpAnyY_takeT (i := 10) (v := ?_) rfl (by kernel_rfl) (by kernel_rfl) (by kernel_rfl) (fun _ _ _ h => h) (Or.inl ⟨by rfl, ?_⟩) ?_
            rotate_left 1
            focus (intro wS hSw; (try dsimp only at hSw); go_simp; first | done | (constructor <;> with_reducible rfl) | with_reducible rfl)
            (try simp only [Act.put, List.getElem_toArray, List.getElem_cons_zero, List.getElem_cons_succ, List.setIfInBounds_toArray, List.set_cons_zero, List.set_cons_succ])
            refine Draw.wpAnyY_takeT (i := 11) (v := ?_) rfl (by kernel_rfl) (by kernel_rfl) (by kernel_rfl) (fun _ _ _ h => h) (Or.inl ⟨by rfl, ?_⟩) ?_
            rotate_left 1
            focus (intro wS hSw; (try dsimp only at hSw); go_simp; first | done | (constructor <;> with_reducible rfl) | with_reducible rfl)
            (try simp only [Act.put, List.getElem_toArray, List.getElem_cons_zero, List.getElem_cons_succ, List.setIfInBounds_toArray, List.set_cons_zero, List.set_cons_succ])
            refine Draw.wpAnyY_takeT (i := 12) (v := ?_) rfl (by kernel_rfl) (by kernel_rfl) (by kernel_rfl) (fun _ _ _ h => h) (Or.inl ⟨by rfl, ?_⟩) ?_
            rotate_left 1
            focus (intro wS hSw; (try dsimp only at hSw); go_simp; first | done | (constructor <;> with_reducible rfl) | with_reducible rfl)
            (try simp only [Act.put, List.getElem_toArray, List.getElem_cons_zero, List.getElem_cons_succ, List.setIfInBounds_toArray, List.set_cons_zero, List.set_cons_succ])
            refine Draw.wpAnyY_ready (rs := [13]) (by kernel_rfl) (by simp) ?_
            refine Draw.AllReadyY.cons rfl (fun K hK => ?_) Draw.AllReadyY.nil
            go_simp
            refine hK.out _ _ (fun h => absurd rfl h) (fun hHeld2 => ?_)
            clear hK K hHeld hHeld2
            (try simp only [Act.put, List.getElem_toArray, List.getElem_cons_zero, List.getElem_cons_succ, List.setIfInBounds_toArray, List.set_cons_zero, List.set_cons_succ])
            refine Draw.wpAnyY_done (by kernel_rfl) ?_ _
            have o2 := ob.mono szb0
            have hx2 : ∀ x, a2 = some x → k11 + 1 ≤ x.block := fun x e => (o2.lt x e).1
            have hvy : RowG.Var 26 ((((((wb.setCell ⟨k11, 0, none⟩ (.int .i64 yn)).setCell ⟨k11, 1, none⟩ (.string (T.extract 0 yn.toNat))).setCell ⟨k11, 2, none⟩ (.slice a2 yl.length c2)).setCell ⟨k11, 3, none⟩ (.int .i64 yc)).setCell ⟨k11, 4, none⟩ (.int .i64 yf)).setCell ⟨k11, 5, none⟩ (.bool ye)) k11 [.int .i64 yn, .string (T.extract 0 yn.toNat), .slice a2 yl.length c2, .int .i64 yc, .int .i64 yf, .bool ye] := (((((hvb.set 0 _).set 1 _).set 2 _).set 3 _).set 4 _).set 5 _
            have hoy : Tak.partE.Own 53 ((((((wb.setCell ⟨k11, 0, none⟩ (.int .i64 yn)).setCell ⟨k11, 1, none⟩ (.string (T.extract 0 yn.toNat))).setCell ⟨k11, 2, none⟩ (.slice a2 yl.length c2)).setCell ⟨k11, 3, none⟩ (.int .i64 yc)).setCell ⟨k11, 4, none⟩ (.int .i64 yf)).setCell ⟨k11, 5, none⟩ (.bool ye)) (k11 + 1) a2 c2 yl := Tak.own_put6 o2 (fun x e => by have := hx2 x e; omega) _ _ _ _ _ _
            have hBy : Below w.heap.size w ((((((wb.setCell ⟨k11, 0, none⟩ (.int .i64 yn)).setCell ⟨k11, 1, none⟩ (.string (T.extract 0 yn.toNat))).setCell ⟨k11, 2, none⟩ (.slice a2 yl.length c2)).setCell ⟨k11, 3, none⟩ (.int .i64 yc)).setCell ⟨k11, 4, none⟩ (.int .i64 yf)).setCell ⟨k11, 5, none⟩ (.bool ye)) := Tak.below_put6 Bb hk11 _ _ _ _ _ _
            clear e0 e1 e2 e3 e4 e5 s0 s1 s2 s3 s4 s5 f0 f1 f2 f3 f4 f5 hvb ob o2 Bb hv ho hB hx2 b9 szb HON hI
            generalize ((((((wb.setCell ⟨k11, 0, none⟩ (.int .i64 yn)).setCell ⟨k11, 1, none⟩ (.string (T.extract 0 yn.toNat))).setCell ⟨k11, 2, none⟩ (.slice a2 yl.length c2)).setCell ⟨k11, 3, none⟩ (.int .i64 yc)).setCell ⟨k11, 4, none⟩ (.int .i64 yf)).setCell ⟨k11, 5, none⟩ (.bool ye)) = W2 at *
            have r0 := hvy.cell (i := 0) rfl
            have r1 := hvy.cell (i := 1) rfl
            have r2 := hvy.cell (i := 2) rfl
            have r3 := hvy.cell (i := 3) rfl
            have r4 := hvy.cell (i := 4) rfl
            have r5 := hvy.cell (i := 5) rfl
            obtain ⟨z1, z2, z3⟩ := Tak.on_small HONY.out
            dsimp only at z1 z2 z3
            have hK := fun w' (hL : Tak.partE.Lies w' a2 yl) => Tak.implTakerOk yn (T.extract 0 yn.toNat) a2 _ c2 yc yf ye yl w' rfl hL (by omega) (by omega) z1
            rw [show Tak.takerB yn (T.extract 0 yn.toNat) yl yc yf ye = true from HONY.out.ok] at hK
            have n0 : 0 ≤ yn := (Tak.on_lim HONY.out).2
            have n1 : yn ≤ (T.size : Int) := HONY.out.nx
            have HK : Hid _ := hK
            have HL : Hid (Tak.partE.Lies W2 a2 yl) := hoy.lies
            have d0 := Draw.Later.cell r0
            have d1 := Draw.Later.cell r1
            have d2 := Draw.Later.cell r2
            have d3 := Draw.Later.cell r3
            have d4 := Draw.Later.cell r4
            have d5 := Draw.Later.cell r5
            clear hK z1 z2 z3
            have hmix := Tak.mix
            go_wp2_with fail
            refine Draw.wp_region_later hmix (by kernel_rfl) ?_
            repeat (go_big_quiet_step ((go_at_call 13; exact Draw.later_of (HK.out _ (HL.out.later (Draw.Later.h _))))))
            refine wpQuiet_nil ?_
            intro wq hw'
            obtain ⟨q9, hq⟩ := hw'
            have hBq := q9.h
            rw [← hq] at hBq
            clear hq q9 d0 d1 d2 d3 d4 d5 r0 r1 r2 r3 r4 r5
            go_wp2_with fail
            go_roundw
            case rel => exact ⟨kk + 1, by omega, by go_num, ⟨yn, _, yl, yc, yf, ye⟩, a2, c2, HONY.out, trivial, hvy.later hBq, hoy.later hBq, hBy.trans (hBq.mono hBy.size)⟩
            case measure => simp [intOf]; omega
        case neg =>
          clear hb
          go_wp2_with fail
          go_loopw [17] (fun iv wr => ∃ m : Int, 0 ≤ m ∧ m ≤ T.size + 5 ∧ iv = .int .i64 m ∧ Tak.OnceI T w k11 (fun x => (∀ j : Int, 0 ≤ j → j < m → j < T.size → Tak.covered x j) ∧ ((T.size : Int) ≤ m → x.fi = T.size)) wr) (fun iv _ => ((T.size : Int) + 5 - intOf iv).toNat)
          case atStart => exact ⟨0, by omega, by omega, rfl, x, a, c, HON.out, ⟨fun j h0 h1 => by omega, fun h => by omega⟩, hv, ho, hB⟩
          case round =>
            clear hv ho hB HON szb0 e0 e1 e2 e3 e4 e5 hlt hk
            obtain ⟨p, p0, hm, rfl, x, a, c, hon, hcs, hv, ho, hB⟩ := hrel
            have HCS : Hid _ := hcs
            clear hcs
            have HON : Hid (Tak.OnT T x) := hon
            have szb0 : k11 + 1 ≤ wr.heap.size := hv.lt
            clear hon
            have e0 := hv.cell (i := 0) rfl
            have e1 := hv.cell (i := 1) rfl
            have e2 := hv.cell (i := 2) rfl
            have e3 := hv.cell (i := 3) rfl
            have e4 := hv.cell (i := 4) rfl
            have e5 := hv.cell (i := 5) rfl
            by_cases hlt : p < (T.size : Int)
            case pos =>
              by_cases hs : (T.size : Int) < p + 5
              case pos =>
                have hpT : p ≤ (T.size : Int) := by omega
                have hI := fun w' hL => Tak.implTakesOn Tak.sortNil hT x HON.out p (T.size : Int) p0 (by omega) (by omega) (by omega) a c w' hL ho.none_cap
                simp only [Int.toNat_natCast, decide_true, true_or, forall_const] at hI
                go_wp2_with fail
                refine Draw.wp_region_Y (S := (fun w' => w'.cell? ⟨k11, 0, none⟩ = some (.int .i64 x.nx) ∧ w'.cell? ⟨k11, 1, none⟩ = some (.string x.bs) ∧ w'.cell? ⟨k11, 2, none⟩ = some (.slice a x.l.length c) ∧ w'.cell? ⟨k11, 3, none⟩ = some (.int .i64 x.cp) ∧ w'.cell? ⟨k11, 4, none⟩ = some (.int .i64 x.fi) ∧ w'.cell? ⟨k11, 5, none⟩ = some (.bool x.en))) 13 (by kernel_rfl) ?_ (fun hHeld => ?_)
                focus ((try dsimp only) <;> (first | with_reducible exact hHeld | with_reducible exact ⟨s0, s1, s2, s3, s4, s5⟩ | exact ⟨e0, e1, e2, e3, e4, e5⟩))
                refine Draw.wpAnyY_take (i := 0) (v := ?_) rfl (by kernel_rfl) (by kernel_rfl) (by kernel_rfl) (by kernel_rfl) (fun _ _ _ h => h) (Or.inl ⟨by rfl, ?_⟩) (by assumption) ?_
                rotate_left 1
                focus (intro wS hSw; (try dsimp only at hSw); go_simp; first | done | (constructor <;> with_reducible rfl) | with_reducible rfl)
                (try simp only [Act.put, List.getElem_toArray, List.getElem_cons_zero, List.getElem_cons_succ, List.setIfInBounds_toArray, List.set_cons_zero, List.set_cons_succ])
                refine Draw.wpAnyY_take (i := 1) (v := ?_) rfl (by kernel_rfl) (by kernel_rfl) (by kernel_rfl) (by kernel_rfl) (fun _ _ _ h => h) (Or.inl ⟨by rfl, ?_⟩) (by assumption) ?_
                rotate_left 1
                focus (intro wS hSw; (try dsimp only at hSw); go_simp; first | done | (constructor <;> with_reducible rfl) | with_reducible rfl)
                (try simp only [Act.put, List.getElem_toArray, List.getElem_cons_zero, List.getElem_cons_succ, List.setIfInBounds_toArray, List.set_cons_zero, List.set_cons_succ])
                refine Draw.wpAnyY_take (i := 2) (v := ?_) rfl (by kernel_rfl) (by kernel_rfl) (by kernel_rfl) (by kernel_rfl) (fun _ _ _ h => h) (Or.inl ⟨by rfl, ?_⟩) (by assumption) ?_
                rotate_left 1
                focus (intro wS hSw; (try dsimp only at hSw); go_simp; first | done | (constructor <;> with_reducible rfl) | with_reducible rfl)
                (try simp only [Act.put, List.getElem_toArray, List.getElem_cons_zero, List.getElem_cons_succ, List.setIfInBounds_toArray, List.set_cons_zero, List.set_cons_succ])
                refine Draw.wpAnyY_take (i := 3) (v := ?_) rfl (by kernel_rfl) (by kernel_rfl) (by kernel_rfl) (by kernel_rfl) (fun _ _ _ h => h) (Or.inl ⟨by rfl, ?_⟩) (by assumption) ?_
                rotate_left 1
                focus (intro wS hSw; (try dsimp only at hSw); go_simp; first | done | (constructor <;> with_reducible rfl) | with_reducible rfl)
                (try simp only [Act.put, List.getElem_toArray, List.getElem_cons_zero, List.getElem_cons_succ, List.setIfInBounds_toArray, List.set_cons_zero, List.set_cons_succ])
                refine Draw.wpAnyY_take (i := 4) (v := ?_) rfl (by kernel_rfl) (by kernel_rfl) (by kernel_rfl) (by kernel_rfl) (fun _ _ _ h => h) (Or.inl ⟨by rfl, ?_⟩) (by assumption) ?_
                rotate_left 1
                focus (intro wS hSw; (try dsimp only at hSw); go_simp; first | done | (constructor <;> with_reducible rfl) | with_reducible rfl)
                (try simp only [Act.put, List.getElem_toArray, List.getElem_cons_zero, List.getElem_cons_succ, List.setIfInBounds_toArray, List.set_cons_zero, List.set_cons_succ])
                refine Draw.wpAnyY_take (i := 5) (v := ?_) rfl (by kernel_rfl) (by kernel_rfl) (by kernel_rfl) (by kernel_rfl) (fun _ _ _ h => h) (Or.inl ⟨by rfl, ?_⟩) (by assumption) ?_
                rotate_left 1
                focus (intro wS hSw; (try dsimp only at hSw); go_simp; first | done | (constructor <;> with_reducible rfl) | with_reducible rfl)
                (try simp only [Act.put, List.getElem_toArray, List.getElem_cons_zero, List.getElem_cons_succ, List.setIfInBounds_toArray, List.set_cons_zero, List.set_cons_succ])
                refine Draw.wpAnyY_take (i := 6) (v := ?_) rfl (by kernel_rfl) (by kernel_rfl) (by kernel_rfl) (by kernel_rfl) (fun _ _ _ h => h) (Or.inl ⟨by rfl, ?_⟩) (by assumption) ?_
                rotate_left 1
                focus (intro wS hSw; (try dsimp only at hSw); go_simp; first | done | (constructor <;> with_reducible rfl) | with_reducible rfl)
                (try simp only [Act.put, List.getElem_toArray, List.getElem_cons_zero, List.getElem_cons_succ, List.setIfInBounds_toArray, List.set_cons_zero, List.set_cons_succ])
                refine Draw.wpAnyY_take (i := 7) (v := ?_) rfl (by kernel_rfl) (by kernel_rfl) (by kernel_rfl) (by kernel_rfl) (fun _ _ _ h => h) (Or.inl ⟨by rfl, ?_⟩) (by assumption) ?_
                rotate_left 1
                focus (intro wS hSw; (try dsimp only at hSw); go_simp; first | done | (constructor <;> with_reducible rfl) | with_reducible rfl)
                (try simp only [Act.put, List.getElem_toArray, List.getElem_cons_zero, List.getElem_cons_succ, List.setIfInBounds_toArray, List.set_cons_zero, List.set_cons_succ])
                refine Draw.wpAnyY_take (i := 8) (v := ?_) rfl (by kernel_rfl) (by kernel_rfl) (by kernel_rfl) (by kernel_rfl) (fun _ _ _ h => h) (Or.inl ⟨by rfl, ?_⟩) (by assumption) ?_
                rotate_left 1
                focus (intro wS hSw; (try dsimp only at hSw); go_simp; first | done | (constructor <;> with_reducible rfl) | with_reducible rfl)
                (try simp only [Act.put, List.getElem_toArray, List.getElem_cons_zero, List.getElem_cons_succ, List.setIfInBounds_toArray, List.set_cons_zero, List.set_cons_succ])
                refine Draw.wpAnyY_ready (rs := [9]) (by kernel_rfl) (by simp) ?_
                refine Draw.AllReadyY.cons rfl (fun K hK => ?_) Draw.AllReadyY.nil
                (go_simp; refine (hI _ (RowG.El.Own.drew ho).lies).mono ?_; rintro e wb ⟨⟨yn, yb, yl, yc, yf, ye⟩, bb, hony, hcov, hfi, a2, c2, rfl, ob, b9⟩; have hyb := hony.bs; dsimp only at hyb; subst hyb; have hvb := hv.drew.later b9; have Bb := hB.drew.trans (b9.mono hB.size); have szb : k11 + 1 ≤ wb.heap.size := Nat.le_trans hv.lt b9.size; have HONY : Hid _ := hony; have HCOV : Hid _ := hcov; have HFI : Hid _ := hfi; clear hony hcov hfi; dsimp only at ob; have s0 := hvb.cell (i := 0) rfl; have s1 := hvb.cell (i := 1) rfl; have s2 := hvb.cell (i := 2) rfl; have s3 := hvb.cell (i := 3) rfl; have s4 := hvb.cell (i := 4) rfl; have s5 := hvb.cell (i := 5) rfl; have f0 := hvb.free 0; have f1 := hvb.free 1; have f2 := hvb.free 2; have f3 := hvb.free 3; have f4 := hvb.free 4; have f5 := hvb.free 5)
                refine hK.out _ _ ?_ (fun hHeld2 => ?_)
                focus (intro _ _; (try dsimp only) <;> (first | with_reducible exact hHeld | with_reducible exact ⟨s0, s1, s2, s3, s4, s5⟩ | exact ⟨e0, e1, e2, e3, e4, e5⟩))
                clear hK K
                replace hHeld := hHeld2 (by decide) hHeld
                clear hHeld2
                (try simp only [Act.put, List.getElem_toArray, List.getElem_cons_zero, List.getElem_cons_succ, List.setIfInBounds_toArray, List.set_cons_zero, List.set_cons_succ])
                refine Draw.wpAnyY_takeT (i := 10) (v := ?_) rfl (by kernel_rfl) (by kernel_rfl) (by kernel_rfl) (fun _ _ _ h => h) (Or.inl ⟨by rfl, ?_⟩) ?_
                rotate_left 1
                focus (intro wS hSw; (try dsimp only at hSw); go_simp; first | done | (constructor <;> with_reducible rfl) | with_reducible rfl)
                (try simp only [Act.put, List.getElem_toArray, List.getElem_cons_zero, List.getElem_cons_succ, List.setIfInBounds_toArray, List.set_cons_zero, List.set_cons_succ])
                refine Draw.wpAnyY_takeT (i := 11) (v := ?_) rfl (by kernel_rfl) (by kernel_rfl) (by kernel_rfl) (fun _ _ _ h => h) (Or.inl ⟨by rfl, ?_⟩) ?_
                rotate_left 1
                focus (intro wS hSw; (try dsimp only at hSw); go_simp; first | done | (constructor <;> with_reducible rfl) | with_reducible rfl)
                (try simp only [Act.put, List.getElem_toArray, List.getElem_cons_zero, List.getElem_cons_succ, List.setIfInBounds_toArray, List.set_cons_zero, List.set_cons_succ])
                refine Draw.wpAnyY_takeT (i := 12) (v := ?_) rfl (by kernel_rfl) (by kernel_rfl) (by kernel_rfl) (fun _ _ _ h => h) (Or.inl ⟨by rfl, ?_⟩) ?_
                rotate_left 1
                focus (intro wS hSw; (try dsimp only at hSw); go_simp; first | done | (constructor <;> with_reducible rfl) | with_reducible rfl)
                (try simp only [Act.put, List.getElem_toArray, List.getElem_cons_zero, List.getElem_cons_succ, List.setIfInBounds_toArray, List.set_cons_zero, List.set_cons_succ])
                refine Draw.wpAnyY_ready (rs := [13]) (by kernel_rfl) (by simp) ?_
                refine Draw.AllReadyY.cons rfl (fun K hK => ?_) Draw.AllReadyY.nil
                go_simp
                refine hK.out _ _ (fun h => absurd rfl h) (fun hHeld2 => ?_)
                clear hK K hHeld hHeld2
                (try simp only [Act.put, List.getElem_toArray, List.getElem_cons_zero, List.getElem_cons_succ, List.setIfInBounds_toArray, List.set_cons_zero, List.set_cons_succ])
                refine Draw.wpAnyY_done (by kernel_rfl) ?_ _
                have o2 := ob.mono szb0
                have hx2 : ∀ x, a2 = some x → k11 + 1 ≤ x.block := fun x e => (o2.lt x e).1
                have hvy : RowG.Var 26 ((((((wb.setCell ⟨k11, 0, none⟩ (.int .i64 yn)).setCell ⟨k11, 1, none⟩ (.string (T.extract 0 yn.toNat))).setCell ⟨k11, 2, none⟩ (.slice a2 yl.length c2)).setCell ⟨k11, 3, none⟩ (.int .i64 yc)).setCell ⟨k11, 4, none⟩ (.int .i64 yf)).setCell ⟨k11, 5, none⟩ (.bool ye)) k11 [.int .i64 yn, .string (T.extract 0 yn.toNat), .slice a2 yl.length c2, .int .i64 yc, .int .i64 yf, .bool ye] := (((((hvb.set 0 _).set 1 _).set 2 _).set 3 _).set 4 _).set 5 _
                have hoy : Tak.partE.Own 53 ((((((wb.setCell ⟨k11, 0, none⟩ (.int .i64 yn)).setCell ⟨k11, 1, none⟩ (.string (T.extract 0 yn.toNat))).setCell ⟨k11, 2, none⟩ (.slice a2 yl.length c2)).setCell ⟨k11, 3, none⟩ (.int .i64 yc)).setCell ⟨k11, 4, none⟩ (.int .i64 yf)).setCell ⟨k11, 5, none⟩ (.bool ye)) (k11 + 1) a2 c2 yl := Tak.own_put6 o2 (fun x e => by have := hx2 x e; omega) _ _ _ _ _ _
                have hBy : Below w.heap.size w ((((((wb.setCell ⟨k11, 0, none⟩ (.int .i64 yn)).setCell ⟨k11, 1, none⟩ (.string (T.extract 0 yn.toNat))).setCell ⟨k11, 2, none⟩ (.slice a2 yl.length c2)).setCell ⟨k11, 3, none⟩ (.int .i64 yc)).setCell ⟨k11, 4, none⟩ (.int .i64 yf)).setCell ⟨k11, 5, none⟩ (.bool ye)) := Tak.below_put6 Bb hk11 _ _ _ _ _ _
                clear e0 e1 e2 e3 e4 e5 s0 s1 s2 s3 s4 s5 f0 f1 f2 f3 f4 f5 hvb ob o2 Bb hv ho hB hx2 b9 szb HON hI
                generalize ((((((wb.setCell ⟨k11, 0, none⟩ (.int .i64 yn)).setCell ⟨k11, 1, none⟩ (.string (T.extract 0 yn.toNat))).setCell ⟨k11, 2, none⟩ (.slice a2 yl.length c2)).setCell ⟨k11, 3, none⟩ (.int .i64 yc)).setCell ⟨k11, 4, none⟩ (.int .i64 yf)).setCell ⟨k11, 5, none⟩ (.bool ye)) = W2 at *
                go_wp2_with fail
                go_roundw
                case rel => exact ⟨p + 5, by omega, by omega, by go_num, ⟨yn, _, yl, yc, yf, ye⟩, a2, c2, HONY.out, ⟨fun j j0 j1 j2 => HCOV.out j (by by_cases hj : j < p; exact .inl (HCS.out.1 j j0 hj j2); exact .inr ⟨by omega, j2⟩), fun _ => HFI.out⟩, hvy, hoy, hBy⟩
                case measure => simp [intOf]; omega
              case neg =>
                have hpT : p ≤ p + 5 := by omega
                have hpq0 : 0 ≤ p + 5 := by omega
                have hpq1 : p + 5 ≤ (T.size : Int) := by omega
                have hI := fun w' hL => Tak.implTakesOn Tak.sortNil hT x HON.out p (p + 5) p0 hpT hpq1 (by omega) a c w' hL ho.none_cap
                go_wp2_with fail
                refine Draw.wp_region_Y (S := (fun w' => w'.cell? ⟨k11, 0, none⟩ = some (.int .i64 x.nx) ∧ w'.cell? ⟨k11, 1, none⟩ = some (.string x.bs) ∧ w'.cell? ⟨k11, 2, none⟩ = some (.slice a x.l.length c) ∧ w'.cell? ⟨k11, 3, none⟩ = some (.int .i64 x.cp) ∧ w'.cell? ⟨k11, 4, none⟩ = some (.int .i64 x.fi) ∧ w'.cell? ⟨k11, 5, none⟩ = some (.bool x.en))) 13 (by kernel_rfl) ?_ (fun hHeld => ?_)
                focus ((try dsimp only) <;> (first | with_reducible exact hHeld | with_reducible exact ⟨s0, s1, s2, s3, s4, s5⟩ | exact ⟨e0, e1, e2, e3, e4, e5⟩))
                refine Draw.wpAnyY_take (i := 0) (v := ?_) rfl (by kernel_rfl) (by kernel_rfl) (by kernel_rfl) (by kernel_rfl) (fun _ _ _ h => h) (Or.inl ⟨by rfl, ?_⟩) (by assumption) ?_
                rotate_left 1
                focus (intro wS hSw; (try dsimp only at hSw); go_simp; first | done | (constructor <;> with_reducible rfl) | with_reducible rfl)
                (try simp only [Act.put, List.getElem_toArray, List.getElem_cons_zero, List.getElem_cons_succ, List.setIfInBounds_toArray, List.set_cons_zero, List.set_cons_succ])
                refine Draw.wpAnyY_take (i := 1) (v := ?_) rfl (by kernel_rfl) (by kernel_rfl) (by kernel_rfl) (by kernel_rfl) (fun _ _ _ h => h) (Or.inl ⟨by rfl, ?_⟩) (by assumption) ?_
                rotate_left 1
                focus (intro wS hSw; (try dsimp only at hSw); go_simp; first | done | (constructor <;> with_reducible rfl) | with_reducible rfl)
                (try simp only [Act.put, List.getElem_toArray, List.getElem_cons_zero, List.getElem_cons_succ, List.setIfInBounds_toArray, List.set_cons_zero, List.set_cons_succ])
                refine Draw.wpAnyY_take (i := 2) (v := ?_) rfl (by kernel_rfl) (by kernel_rfl) (by kernel_rfl) (by kernel_rfl) (fun _ _ _ h => h) (Or.inl ⟨by rfl, ?_⟩) (by assumption) ?_
                rotate_left 1
                focus (intro wS hSw; (try dsimp only at hSw); go_simp; first | done | (constructor <;> with_reducible rfl) | with_reducible rfl)
                (try simp only [Act.put, List.getElem_toArray, List.getElem_cons_zero, List.getElem_cons_succ, List.setIfInBounds_toArray, List.set_cons_zero, List.set_cons_succ])
                refine Draw.wpAnyY_take (i := 3) (v := ?_) rfl (by kernel_rfl) (by kernel_rfl) (by kernel_rfl) (by kernel_rfl) (fun _ _ _ h => h) (Or.inl ⟨by rfl, ?_⟩) (by assumption) ?_
                rotate_left 1
                focus (intro wS hSw; (try dsimp only at hSw); go_simp; first | done | (constructor <;> with_reducible rfl) | with_reducible rfl)
                (try simp only [Act.put, List.getElem_toArray, List.getElem_cons_zero, List.getElem_cons_succ, List.setIfInBounds_toArray, List.set_cons_zero, List.set_cons_succ])
                refine Draw.wpAnyY_take (i := 4) (v := ?_) rfl (by kernel_rfl) (by kernel_rfl) (by kernel_rfl) (by kernel_rfl) (fun _ _ _ h => h) (Or.inl ⟨by rfl, ?_⟩) (by assumption) ?_
                rotate_left 1
                focus (intro wS hSw; (try dsimp only at hSw); go_simp; first | done | (constructor <;> with_reducible rfl) | with_reducible rfl)
                (try simp only [Act.put, List.getElem_toArray, List.getElem_cons_zero, List.getElem_cons_succ, List.setIfInBounds_toArray, List.set_cons_zero, List.set_cons_succ])
                refine Draw.wpAnyY_take (i := 5) (v := ?_) rfl (by kernel_rfl) (by kernel_rfl) (by kernel_rfl) (by kernel_rfl) (fun _ _ _ h => h) (Or.inl ⟨by rfl, ?_⟩) (by assumption) ?_
                rotate_left 1
                focus (intro wS hSw; (try dsimp only at hSw); go_simp; first | done | (constructor <;> with_reducible rfl) | with_reducible rfl)
                (try simp only [Act.put, List.getElem_toArray, List.getElem_cons_zero, List.getElem_cons_succ, List.setIfInBounds_toArray, List.set_cons_zero, List.set_cons_succ])
                refine Draw.wpAnyY_take (i := 6) (v := ?_) rfl (by kernel_rfl) (by kernel_rfl) (by kernel_rfl) (by kernel_rfl) (fun _ _ _ h => h) (Or.inl ⟨by rfl, ?_⟩) (by assumption) ?_
                rotate_left 1
                focus (intro wS hSw; (try dsimp only at hSw); go_simp; first | done | (constructor <;> with_reducible rfl) | with_reducible rfl)
                (try simp only [Act.put, List.getElem_toArray, List.getElem_cons_zero, List.getElem_cons_succ, List.setIfInBounds_toArray, List.set_cons_zero, List.set_cons_succ])
                refine Draw.wpAnyY_take (i := 7) (v := ?_) rfl (by kernel_rfl) (by kernel_rfl) (by kernel_rfl) (by kernel_rfl) (fun _ _ _ h => h) (Or.inl ⟨by rfl, ?_⟩) (by assumption) ?_
                rotate_left 1
                focus (intro wS hSw; (try dsimp only at hSw); go_simp; first | done | (constructor <;> with_reducible rfl) | with_reducible rfl)
                (try simp only [Act.put, List.getElem_toArray, List.getElem_cons_zero, List.getElem_cons_succ, List.setIfInBounds_toArray, List.set_cons_zero, List.set_cons_succ])
                refine Draw.wpAnyY_take (i := 8) (v := ?_) rfl (by kernel_rfl) (by kernel_rfl) (by kernel_rfl) (by kernel_rfl) (fun _ _ _ h => h) (Or.inl ⟨by rfl, ?_⟩) (by assumption) ?_
                rotate_left 1
                focus (intro wS hSw; (try dsimp only at hSw); go_simp; first | done | (constructor <;> with_reducible rfl) | with_reducible rfl)
                (try simp only [Act.put, List.getElem_toArray, List.getElem_cons_zero, List.getElem_cons_succ, List.setIfInBounds_toArray, List.set_cons_zero, List.set_cons_succ])
                refine Draw.wpAnyY_ready (rs := [9]) (by kernel_rfl) (by simp) ?_
                refine Draw.AllReadyY.cons rfl (fun K hK => ?_) Draw.AllReadyY.nil
                (go_simp; refine (hI _ (RowG.El.Own.drew ho).lies).mono ?_; rintro e wb ⟨⟨yn, yb, yl, yc, yf, ye⟩, bb, hony, hcov, hfi, a2, c2, rfl, ob, b9⟩; have hyb := hony.bs; dsimp only at hyb; subst hyb; have hvb := hv.drew.later b9; have Bb := hB.drew.trans (b9.mono hB.size); have szb : k11 + 1 ≤ wb.heap.size := Nat.le_trans hv.lt b9.size; have HONY : Hid _ := hony; have HCOV : Hid _ := hcov; have HFI : Hid _ := hfi; clear hony hcov hfi; dsimp only at ob; have s0 := hvb.cell (i := 0) rfl; have s1 := hvb.cell (i := 1) rfl; have s2 := hvb.cell (i := 2) rfl; have s3 := hvb.cell (i := 3) rfl; have s4 := hvb.cell (i := 4) rfl; have s5 := hvb.cell (i := 5) rfl; have f0 := hvb.free 0; have f1 := hvb.free 1; have f2 := hvb.free 2; have f3 := hvb.free 3; have f4 := hvb.free 4; have f5 := hvb.free 5)
                refine hK.out _ _ ?_ (fun hHeld2 => ?_)
                focus (intro _ _; (try dsimp only) <;> (first | with_reducible exact hHeld | with_reducible exact ⟨s0, s1, s2, s3, s4, s5⟩ | exact ⟨e0, e1, e2, e3, e4, e5⟩))
                clear hK K
                replace hHeld := hHeld2 (by decide) hHeld
                clear hHeld2
                (try simp only [Act.put, List.getElem_toArray, List.getElem_cons_zero, List.getElem_cons_succ, List.setIfInBounds_toArray, List.set_cons_zero, List.set_cons_succ])
                refine Draw.wpAnyY_takeT (i := 10) (v := ?_) rfl (by kernel_rfl) (by kernel_rfl) (by kernel_rfl) (fun _ _ _ h => h) (Or.inl ⟨by rfl, ?_⟩) ?_
                rotate_left 1
                focus (intro wS hSw; (try dsimp only at hSw); go_simp; first | done | (constructor <;> with_reducible rfl) | with_reducible rfl)
                (try simp only [Act.put, List.getElem_toArray, List.getElem_cons_zero, List.getElem_cons_succ, List.setIfInBounds_toArray, List.set_cons_zero, List.set_cons_succ])
                refine Draw.wpAnyY_takeT (i := 11) (v := ?_) rfl (by kernel_rfl) (by kernel_rfl) (by kernel_rfl) (fun _ _ _ h => h) (Or.inl ⟨by rfl, ?_⟩) ?_
                rotate_left 1
                focus (intro wS hSw; (try dsimp only at hSw); go_simp; first | done | (constructor <;> with_reducible rfl) | with_reducible rfl)
                (try simp only [Act.put, List.getElem_toArray, List.getElem_cons_zero, List.getElem_cons_succ, List.setIfInBounds_toArray, List.set_cons_zero, List.set_cons_succ])
                refine Draw.wpAnyY_takeT (i := 12) (v := ?_) rfl (by kernel_rfl) (by kernel_rfl) (by kernel_rfl) (fun _ _ _ h => h) (Or.inl ⟨by rfl, ?_⟩) ?_
                rotate_left 1
                focus (intro wS hSw; (try dsimp only at hSw); go_simp; first | done | (constructor <;> with_reducible rfl) | with_reducible rfl)
                (try simp only [Act.put, List.getElem_toArray, List.getElem_cons_zero, List.getElem_cons_succ, List.setIfInBounds_toArray, List.set_cons_zero, List.set_cons_succ])
                refine Draw.wpAnyY_ready (rs := [13]) (by kernel_rfl) (by simp) ?_
                refine Draw.AllReadyY.cons rfl (fun K hK => ?_) Draw.AllReadyY.nil
                go_simp
                refine hK.out _ _ (fun h => absurd rfl h) (fun hHeld2 => ?_)
                clear hK K hHeld hHeld2
                (try simp only [Act.put, List.getElem_toArray, List.getElem_cons_zero, List.getElem_cons_succ, List.setIfInBounds_toArray, List.set_cons_zero, List.set_cons_succ])
                refine Draw.wpAnyY_done (by kernel_rfl) ?_ _
                have o2 := ob.mono szb0
                have hx2 : ∀ x, a2 = some x → k11 + 1 ≤ x.block := fun x e => (o2.lt x e).1
                have hvy : RowG.Var 26 ((((((wb.setCell ⟨k11, 0, none⟩ (.int .i64 yn)).setCell ⟨k11, 1, none⟩ (.string (T.extract 0 yn.toNat))).setCell ⟨k11, 2, none⟩ (.slice a2 yl.length c2)).setCell ⟨k11, 3, none⟩ (.int .i64 yc)).setCell ⟨k11, 4, none⟩ (.int .i64 yf)).setCell ⟨k11, 5, none⟩ (.bool ye)) k11 [.int .i64 yn, .string (T.extract 0 yn.toNat), .slice a2 yl.length c2, .int .i64 yc, .int .i64 yf, .bool ye] := (((((hvb.set 0 _).set 1 _).set 2 _).set 3 _).set 4 _).set 5 _
                have hoy : Tak.partE.Own 53 ((((((wb.setCell ⟨k11, 0, none⟩ (.int .i64 yn)).setCell ⟨k11, 1, none⟩ (.string (T.extract 0 yn.toNat))).setCell ⟨k11, 2, none⟩ (.slice a2 yl.length c2)).setCell ⟨k11, 3, none⟩ (.int .i64 yc)).setCell ⟨k11, 4, none⟩ (.int .i64 yf)).setCell ⟨k11, 5, none⟩ (.bool ye)) (k11 + 1) a2 c2 yl := Tak.own_put6 o2 (fun x e => by have := hx2 x e; omega) _ _ _ _ _ _
                have hBy : Below w.heap.size w ((((((wb.setCell ⟨k11, 0, none⟩ (.int .i64 yn)).setCell ⟨k11, 1, none⟩ (.string (T.extract 0 yn.toNat))).setCell ⟨k11, 2, none⟩ (.slice a2 yl.length c2)).setCell ⟨k11, 3, none⟩ (.int .i64 yc)).setCell ⟨k11, 4, none⟩ (.int .i64 yf)).setCell ⟨k11, 5, none⟩ (.bool ye)) := Tak.below_put6 Bb hk11 _ _ _ _ _ _
                clear e0 e1 e2 e3 e4 e5 s0 s1 s2 s3 s4 s5 f0 f1 f2 f3 f4 f5 hvb ob o2 Bb hv ho hB hx2 b9 szb HON hI
                generalize ((((((wb.setCell ⟨k11, 0, none⟩ (.int .i64 yn)).setCell ⟨k11, 1, none⟩ (.string (T.extract 0 yn.toNat))).setCell ⟨k11, 2, none⟩ (.slice a2 yl.length c2)).setCell ⟨k11, 3, none⟩ (.int .i64 yc)).setCell ⟨k11, 4, none⟩ (.int .i64 yf)).setCell ⟨k11, 5, none⟩ (.bool ye)) = W2 at *
                go_wp2_with fail
                go_roundw
                case rel => exact ⟨p + 5, by omega, by omega, by go_num, ⟨yn, _, yl, yc, yf, ye⟩, a2, c2, HONY.out, ⟨fun j j0 j1 j2 => HCOV.out j (by by_cases hj : j < p; exact .inl (HCS.out.1 j j0 hj j2); exact .inr ⟨by omega, j1⟩), fun h => HFI.out (.inl (by omega))⟩, hvy, hoy, hBy⟩
                case measure => simp [intOf]; omega
            case neg =>
              obtain ⟨g1, g2, g3, g4⟩ := Tak.once_end HON.out (fun j h0 h1 => HCS.out.1 j h0 (by omega) h1) (HCS.out.2 (by omega))
              rw [g3] at e0
              rw [g1] at e1
              rw [g4] at e2
              rw [g2] at e5
              clear g1 g2 g3 g4 HON HCS hv ho
              go_wp2_with fail
              go_ret
              exact ⟨rfl, hB⟩

/-! ### THE ROW's STEP: WRITTEN OUT: LEAVE IT -/
set_option maxRecDepth 100000 in
theorem lifted (os : Os) (started : os.Started) (H : Type) (enc : TypeId × Value → H) :
    ReturnsInHanded {} Try.checked os 4 .any (Rows.fnOnceSpec.pre6 enc Try.prog Try.f4 Rows.fnOnceRow.domain false) (Rows.fnOnceSpec.post enc Try.prog Try.f4 false true false false) := by
  refine returnsInHanded_of_change (C := Try.checked) own started (by kernel_rfl) Try.func4
    (ChangeSpec.witness6 (enc := enc) (C := Try.checked) false ⟨#[], #[.slice none 0 0], []⟩ 8 (by kernel_rfl) (by kernel_rfl) (by kernel_rfl) (by kernel_rfl)) ?_
  intro W base args ds gs before hval0 hW hcnd _
  have hval : ∀ (j : Nat) t v, Try.f4.params[j]? = some t → args[j]? = some v → Value.okWide Try.prog W .any base t v := hval0
  have hW' := hW
  obtain ⟨p, q, hA0, hV, rfl, hfz, hnd⟩ := hW
  have hA : DataW.TrodAll enc Try.prog W 0 (fun _ => true) true Try.f4.params.toList args.toList ds p := hA0
  rw [Try.params4] at hA hval
  obtain ⟨v0, vs0, d0, ds0, p0, q0, hargs, rfl, rfl, h0, r0⟩ := trodAll_cons hA
  obtain ⟨rfl, rfl, rfl⟩ := trodAll_nil r0
  obtain rfl : args = #[v0] := by cases args; simp_all
  obtain ⟨rfl, rfl⟩ := trodVars_none hV
  obtain ⟨a0, len0, cap0, rfl⟩ := okWide_slice Try.underlying22 (hval 0 22 v0 rfl rfl)
  have k0 := h0
  have lt0 : ∀ x ∈ p0, x.block < W.heap.size := by obtain ⟨m, hm⟩ := k0; exact DataW.trod_lt m _ _ _ hm
  obtain ⟨z0, w0⟩ : ∃ zs, IsRow .u8 W a0 len0 cap0 zs := by
    obtain ⟨fuel, hf⟩ := h0
    rcases open_ints Try.underlying22 Try.underlying5 (by kernel_rfl) hf with ⟨hcs, _⟩ | ⟨x, l, c, zs, hcs, _, hl, hm, hz, _, hcell, hwz⟩
    · simp [Value.cells] at hcs
      obtain ⟨rfl, rfl, rfl⟩ := hcs
      exact ⟨[], .inl ⟨rfl, rfl, rfl, rfl⟩⟩
    · simp [Value.cells] at hcs
      obtain ⟨rfl, rfl, rfl⟩ := hcs
      exact ⟨zs, .inr ⟨_, rfl, hl, hm, by simpa using hz, hcell, hwz⟩⟩
  clear hA0 hval0
  refine (walk a0 len0 cap0 z0 W w0).mono fun e W' ⟨he, bel⟩ => ?_
  subst he
  exact ⟨_, rfl, _, _, _, [], _, [], hW', trodAll_mk1 (shut_bool Try.underlying4 _), (trodAll_cons_mk (Below.trod laidOut (by kernel_rfl) (of_decide_eq_true (by kernel_rfl)) k0 bel lt0) trodAll_mk0), rfl, bel.frame _, fun h => by cases h⟩

theorem over : Rows.fnOnceRow.holds Try.pinned (OpenSpec.ofChange Rows.fnOnceSpec) :=
  OpenClaim.holds_of_wide 4 Try.f4 rfl rfl rfl rfl rfl rfl rfl ⟨rfl, rfl, rfl, rfl, rfl⟩ rfl rfl rfl rfl rfl (by kernel_rfl) Try.func4 (by kernel_rfl)
    (of_decide_eq_true (by kernel_rfl)) (by unfold Func.isWrapper; first | (rw [if_pos (by decide +kernel)]; kernel_rfl) | (rw [if_neg (by decide +kernel)]; exact ⟨rfl, rfl⟩))
    (fun os started H enc _ => lifted os started H enc)

/-- THE STATEMENT. -/
theorem proved : Rows.FnOnceSaid := over
end Go.Proofs.Ytinngechdnglpaa.fnOnce
namespace Go.Proofs.Ytinngechdnglpaa
theorem fnOnce_holds : Rows.FnOnceSaid := fnOnce.proved
#print axioms fnOnce_holds
end Go.Proofs.Ytinngechdnglpaa

/- Contracts of the program's functions of chapter 2 (sums), as the walk runs them; a text is shorter than 2^30 bytes. -/
import Derived.Test.YtecgfnpniklhhaaSumA
import Derived.Deep.QuietTactic
import Derived.BigQuiet
import Derived.Deep.AppendLies
import Derived.Deep.RegionLaw
import Derived.Laws.BitsLemmas
import Derived.Lib.Strings
namespace Go.Proofs.Ytecgfnpniklhhaa.Sum
open Go.RowKit
set_option linter.unusedVariables false

/-- A slice of whole numbers that can be read. -/
def Ints (w : World) (a : Option Addr) (xs : List Int) : Prop :=
  xs = [] ∨ ∃ b off, a = some ⟨b, off, none⟩ ∧ ∀ (i : Nat) (z : Int), xs[i]? = some z → w.cell? ⟨b, off + i, none⟩ = some (.int .i64 z)

theorem sum_take {xs : List Int} {k : Nat} (h : k < xs.length) : (xs.take (k + 1)).sum = (xs.take k).sum + xs[k] := by
  rw [List.take_succ_eq_append_getElem h, List.sum_append, List.sum_cons, List.sum_nil, Int.add_zero]
theorem sum_bd {xs : List Int} (h : ∀ x ∈ xs, 0 ≤ x ∧ x ≤ 65535) : 0 ≤ xs.sum ∧ xs.sum ≤ 65535 * (xs.length : Int) := by
  induction xs with
  | nil => simp
  | cons x xs ih =>
    have h1 := h x (by simp)
    have h2 := ih fun y hy => h y (by simp [hy])
    simp only [List.sum_cons, List.length_cons]
    omega

set_option maxHeartbeats 1000000 in
theorem sumOfPairs (a : Option Addr) (n cap : Nat) (xs : List Int) (w : World) (hn : n = xs.length) (hi : Ints w a xs) (hb : ∀ x ∈ xs, 0 ≤ x ∧ x ≤ 65535) (hl : xs.length ≤ 1073741824) :
    Calls Try.prog 41 #[.slice a n cap] w fun e w' => e = .returned (.int .i64 (65535 - fold xs.sum)) ∧ w = w' := by
  subst hn
  go_enter Try.func41, Try.ntmps41
  go_wp2
  go_loop [3, 8] (fun t i => ∃ k : Nat, k ≤ xs.length ∧ i = .int .i64 k ∧ t = .int .i64 (xs.take k).sum) (fun _ i => xs.length - (intOf i).toNat)
  case atStart => exact ⟨0, Nat.zero_le _, rfl, by simp⟩
  case round =>
    obtain ⟨k, hk, rfl, rfl⟩ := hrel
    have hbt := sum_bd (xs := xs.take k) fun x hx => hb x (List.mem_of_mem_take hx)
    have hle : (xs.take k).length ≤ k := List.length_take_le _ _
    by_cases hlt : k < xs.length
    · rcases hi with hi | ⟨b, off, rfl, hi⟩
      · simp [hi] at hlt
      · have hc := hi k xs[k] (by simp [hlt])
        have hz := hb xs[k] (by simp)
        have HS : Hid _ := sum_take hlt
        clear hi
        generalize xs[k] = z at *
        go_wp2
        go_round
        case rel => exact ⟨k + 1, by omega, by go_num, by rw [HS.out]⟩
        case measure => simp [intOf]; omega
    · have hk2 : xs.take k = xs := List.take_of_length_le (by omega)
      rw [hk2] at hbt hle ⊢
      clear hk2
      go_wp2
      go_loop [3] (fun v => ∃ x : Int, 0 ≤ x ∧ x ≤ 1125899906842624 ∧ Hid (fold x = fold xs.sum) ∧ v = .int .i64 x) (fun v => (intOf v).toNat)
      case atStart => exact ⟨xs.sum, by omega, by omega, rfl, rfl⟩
      case round =>
        obtain ⟨x, x0, x1, hx, rfl⟩ := hrel
        by_cases hl : 65535 < x
        · go_wp2
          go_round
          case rel => exact ⟨_, by omega, by omega, (fold_step hl).trans hx.out, rfl⟩
          case measure => simp [intOf]; omega
        · go_wp2
          go_ret
          exact ⟨ret_int (by rw [← hx.out, fold_small x0 (by omega)]), rfl⟩

theorem or8 {x y : Int} (x0 : 0 ≤ x) (x1 : x ≤ 255) (y0 : 0 ≤ y) (y1 : y ≤ 255) : bits .or .i64 (x * 256) y = 256 * x + y := by
  rw [bits_join .i64 16 (by decide) (fun n h0 h1 => by rw [IntKind.wrap_i64]; omega) 8 (x * 256) y (by omega) (by omega) (by omega) (by omega) (by omega) (by omega)]
  omega

theorem pairs_step (t : ByteArray) (h : 2 ≤ t.size) : pairs t.data.toList = ((256 : Int) * ((t[0]'(by omega)).toNat : Int) + ((t[1]'(by omega)).toNat : Int)) :: pairs (t.extract 2 t.size).data.toList := by
  obtain ⟨⟨l⟩⟩ := t
  have h' : 2 ≤ l.length := h
  rw [Lib.extract_data]
  match l, h' with
  | a :: b :: r, _ =>
    have e : List.take (ByteArray.size ⟨⟨a :: b :: r⟩⟩ - 2) r = r := List.take_of_length_le (by show r.length ≤ r.length + 1 + 1 - 2; omega)
    show pairs (a :: b :: r) = _ :: pairs (List.take _ r)
    rw [e]
    rfl
theorem pairs_one (t : ByteArray) (h : t.size = 1) : pairs t.data.toList = [(256 : Int) * ((t[0]'(by omega)).toNat : Int)] := by
  obtain ⟨⟨l⟩⟩ := t
  have h' : l.length = 1 := h
  match l, h' with
  | [a], _ => rfl
theorem pairs_none (t : ByteArray) (h : t.size = 0) : pairs t.data.toList = [] := by
  obtain ⟨⟨l⟩⟩ := t
  have h' : l.length = 0 := h
  match l, h' with
  | [], _ => rfl

theorem rel_len {xs : List Int} {t s : ByteArray} (h : xs ++ pairs t.data.toList = pairs s.data.toList) : xs.length + (t.size + 1) / 2 = (s.size + 1) / 2 := by
  have e := congrArg List.length h
  rw [List.length_append, pairs_len, pairs_len] at e
  simpa using e

def szOf : Value → Nat | .string s => s.size | _ => 0
theorem info : (Try.prog.info? 2).map (fun i => (i.zero, i.size, i.bytes)) = some (some (.int .i64 0), 1, 8) := by kernel_rfl
theorem one_cell (z : Int) : ∀ u ∈ [Value.int .i64 z], u.oneCell' = true := by
  intro u hu
  simp at hu
  subst hu
  rfl
theorem map_snoc (xs : List Int) (z : Int) : xs.map (Value.int .i64) ++ [.int .i64 z] = (xs ++ [z]).map (Value.int .i64) := by simp

/-- Behind an append onto a row of the call's own nothing below B has turned. -/
theorem below_append {B g n cap : Nat} {T : TypeId} {k : Nat} {xs : List Value} {w wr w2 : World} {o : Obj} (hbel : Below B w wr) (hB : B ≤ w.heap.size) (hown : wr.ownsRow B T k (.slice (some ⟨g, 0, none⟩) n cap) n xs)
    (hg : (wr.alloc o).drew.grownBy w2 (Value.slice (some ⟨g, 0, none⟩) n cap).ownBlock) : Below B w w2 :=
  ((hbel.alloc (Nat.le_trans hB hbel.size) o).drew).grown hg (by show B ≤ (wr.alloc o).heap.size; have := hbel.size; simp; omega) (fun j hj => by
    have e : j = g := by simpa [Value.ownBlock] using hj.symm
    rw [e]; exact (hown.lt g rfl).1)

theorem below_append0 {B g n cap : Nat} {T : TypeId} {k : Nat} {xs : List Value} {w wr w2 : World} {o : Obj} (hbel : Below B w wr) (hB : B ≤ w.heap.size) (hown : wr.ownsRow B T k (.slice (some ⟨g, 0, none⟩) n cap) n xs)
    (hg : (wr.alloc o).grownBy w2 (Value.slice (some ⟨g, 0, none⟩) n cap).ownBlock) : Below B w w2 :=
  (hbel.alloc (Nat.le_trans hB hbel.size) o).grown hg (by show B ≤ (wr.alloc o).heap.size; have := hbel.size; simp; omega) (fun j hj => by
    have e : j = g := by simpa [Value.ownBlock] using hj.symm
    rw [e]; exact (hown.lt g rfl).1)

set_option maxHeartbeats 1000000 in
theorem pairsOf (s : ByteArray) (w : World) (hs : s.size ≤ 1073741824) :
    Calls Try.prog 42 #[.string s] w fun e w' => ∃ (g n cap : Nat), e = .returned (.slice (some ⟨g, 0, none⟩) n cap) ∧ w'.ownsRow w.heap.size 2 1 (.slice (some ⟨g, 0, none⟩) n cap) n ((pairs s.data.toList).map (Value.int .i64)) ∧ Below w.heap.size w w' := by
  obtain ⟨i, hi, hz0, hz1, hz2⟩ := info_parts info
  have hps := pairs_len s.data.toList
  have hsl : s.data.toList.length = s.size := by simp
  go_enter Try.func42, Try.ntmps42
  go_wp2_with (at_make; refine wpList_make_own _ rfl _ _ 56 rfl w.heap.size 2 i (.int .i64 0) 1 Try.underlying56 hi hz0 hz1 .i64 .i64 _ (s.size / 2 + 1) rfl rfl ?c1 ?c2 ?c3 ?c4 ?_)
  case c1 => omega
  case c2 => rw [hz2]; omega
  case c3 => unfold maxLen; omega
  case c4 => exact Nat.le_refl _
  intro w1 hown hgrow
  go_wp2
  go_loopw [0, 3] (fun sv v wr => ∃ (t : ByteArray) (xs : List Int) (g cap : Nat), sv = .string t ∧ v = .slice (some ⟨g, 0, none⟩) xs.length cap ∧ t.size ≤ s.size ∧ xs.length ≤ s.size ∧ Hid (xs ++ pairs t.data.toList = pairs s.data.toList) ∧ wr.ownsRow w.heap.size 2 1 (.slice (some ⟨g, 0, none⟩) xs.length cap) xs.length (xs.map (Value.int .i64)) ∧ Below w.heap.size w wr) (fun sv _ _ => szOf sv)
  case atStart => exact ⟨s, [], _, _, rfl, rfl, Nat.le_refl _, Nat.zero_le _, rfl, hown, (Below.refl _ _).grown hgrow (Nat.le_refl _) (fun _ h => by cases h)⟩
  case round =>
    clear hown hgrow
    obtain ⟨t, xs, g, cap, rfl, rfl, hts, hxs, hpp, hown, hbel⟩ := hrel
    by_cases h2 : 2 ≤ t.size
    · have H2 : (2 : Int) ≤ (t.size : Int) := by omega
      have h0 : 0 < t.size := by omega
      have h1 : 1 < t.size := by omega
      have b0 := byte_bd t[0]
      have b1 := byte_bd t[1]
      have i1 : (1 : Int) < (t.size : Int) := by omega
      have e3 := or8 b0.1 b0.2 b1.1 b1.2
      have e0 : IntKind.i64.wrap (t[0].toNat : Int) = (t[0].toNat : Int) := by rw [IntKind.wrap_i64]; omega
      have e1 : IntKind.i64.wrap (t[1].toNat : Int) = (t[1].toNat : Int) := by rw [IntKind.wrap_i64]; omega
      have e2 : IntKind.i64.wrap ((t[0].toNat : Int) * 256) = (t[0].toNat : Int) * 256 := by rw [IntKind.wrap_i64]; omega
      have HP : Hid _ := pairs_step t h2
      go_wp2_with fail
      have n1 : xs.length + 1 ≤ maxLen := by unfold maxLen; omega
      have n2 : w.heap.size ≤ wr.heap.size + 1 := by have := hbel.size; omega
      go_region_law ((refine step_append_lies _ (by rfl) _ _ 56 (by rfl) w.heap.size 2 i (.int .i64 0) 1 8 Try.underlying56 hi hz0 hz1 hz2 rfl (by decide) _ _ _ (by rfl) (hown.alloc _) ⟨wr.heap.size, 0, none⟩ 1 1 [.int .i64 ((256 : Int) * (t[0].toNat : Int) + (t[1].toNat : Int))] (by rfl) rfl (World.news_of_block (heap_alloc_new wr _)) (one_cell _) (by decide) n1 (by omega) (by simpa using n2) (wr.heap.size + 1) (by simp) ?_; intro g1 cap1 w2 hown2 hgrow2 hat2 hlt2))
      all_goals
        rw [map_snoc] at hown2
        have hl2 : (xs ++ [(256 : Int) * (t[0].toNat : Int) + (t[1].toNat : Int)]).length = xs.length + 1 := by simp
        have HL : Hid _ := hl2
        clear hl2
        go_wp2_with fail
        go_roundw
        case rel =>
          have hpn : (xs ++ [(256 : Int) * (t[0].toNat : Int) + (t[1].toNat : Int)]) ++ pairs (t.extract 2 t.size).data.toList = pairs s.data.toList := by rw [← hpp.out, HP.out]; simp
          have hln := rel_len hpn
          refine ⟨t.extract 2 t.size, xs ++ [(256 : Int) * (t[0].toNat : Int) + (t[1].toNat : Int)], g1, cap1, rfl, by rw [HL.out], by simp; omega, by omega, hpn, by rw [HL.out]; exact hown2, below_append hbel (Nat.le_refl _) hown hgrow2⟩
        case measure => simp [szOf]; omega
    · by_cases h1 : t.size = 1
      · have h0 : 0 < t.size := by omega
        have b0 := byte_bd t[0]
        have e0 : IntKind.i64.wrap (t[0].toNat : Int) = (t[0].toNat : Int) := by rw [IntKind.wrap_i64]; omega
        have e2 : IntKind.i64.wrap ((t[0].toNat : Int) * 256) = (t[0].toNat : Int) * 256 := by rw [IntKind.wrap_i64]; omega
        have n1 : xs.length + 1 ≤ maxLen := by unfold maxLen; omega
        have n2 : w.heap.size ≤ wr.heap.size + 1 := by have := hbel.size; omega
        have HP : Hid _ := pairs_one t h1
        go_wp2_with (at_builtin; refine wpList_append_lies _ (by rfl) _ _ 56 (by rfl) w.heap.size 2 i (.int .i64 0) 1 8 Try.underlying56 hi hz0 hz1 hz2 rfl (by decide) _ _ _ (by rfl) (hown.alloc _) ⟨wr.heap.size, 0, none⟩ 1 1 [.int .i64 ((t[0].toNat : Int) * 256)] (by rfl) rfl (World.news_of_block (heap_alloc_new wr _)) (one_cell _) (by decide) n1 (by omega) (by simpa using n2) (wr.heap.size + 1) (by simp) ?_; intro g1 cap1 w2 hown2 hgrow2 hat2 hlt2)
        go_ret
        have e : (xs ++ [(256 : Int) * (t[0].toNat : Int)]) = pairs s.data.toList := by rw [← hpp.out, HP.out]
        have c : (t[0].toNat : Int) * (256 : Int) = (256 : Int) * (t[0].toNat : Int) := by omega
        rw [map_snoc, c, e] at hown2
        exact ⟨g1, xs.length + 1, cap1, rfl, hown2, below_append0 hbel (Nat.le_refl _) hown hgrow2⟩
      · have h0 : t.size = 0 := by omega
        have HP : Hid _ := pairs_none t h0
        go_wp2_with fail
        go_ret
        have e : xs = pairs s.data.toList := by rw [← hpp.out, HP.out]; simp
        exact ⟨g, xs.length, cap, rfl, by rw [← e]; exact hown, hbel⟩

theorem ints_of_own {w : World} {B g n cap : Nat} {T : TypeId} {xs : List Int} (h : w.ownsRow B T 1 (.slice (some ⟨g, 0, none⟩) n cap) n (xs.map (Value.int .i64))) : n = xs.length ∧ Ints w (some ⟨g, 0, none⟩) xs := by
  have hl : n = xs.length := by have := h.1; simpa using this.symm
  refine ⟨hl, .inr ⟨g, 0, rfl, fun i z hz => ?_⟩⟩
  have hc := h.cells (g := g) rfl i (.int .i64 z) (by simp [hz])
  have e : (⟨g, 0, none⟩ : Addr).add i = ⟨g, 0 + i, none⟩ := by unfold Addr.add; split <;> simp_all
  rw [← e]; exact hc

set_option maxHeartbeats 1000000 in
theorem implSum (s : ByteArray) (w : World) (hs : s.size ≤ 1073741824) : Calls Try.prog 29 #[.string s] w fun e w' => e = .returned (.int .i64 (sumOf s)) ∧ Below w.heap.size w w' := by
  go_enter Try.func29, Try.ntmps29
  go_wp2_with fail
  refine (pairsOf s _ hs).mono ?_
  rintro e w1 ⟨g, n, cap, rfl, hown, hbel⟩
  obtain ⟨hn, hi⟩ := ints_of_own hown
  clear hown
  have hl := pairs_len s.data.toList
  have hz : s.data.toList.length = s.size := by simp
  have HN : Hid _ := hn
  clear hn
  have HS : Hid _ := pairs_sum s.data.toList
  have hb := pairs_bd s.data.toList
  go_wp2_with fail
  refine (sumOfPairs _ _ _ _ _ HN.out hi hb (by omega)).mono ?_
  rintro e w2 ⟨rfl, rfl⟩
  rw [HS.out]
  go_wp2_with fail
  go_ret
  exact ⟨rfl, hbel⟩

def twB (n : Int) : Bool := decide (0 ≤ n ∧ n ≤ 65535)
theorem tw_t {n : Int} (h : twB n = true) : 0 ≤ n ∧ n ≤ 65535 := by simpa [twB] using h
theorem tw_yes {n : Int} (h : 0 ≤ n ∧ n ≤ 65535) : twB n = true := by simpa [twB] using h
theorem tw_no {n : Int} (h : ¬ (0 ≤ n ∧ n ≤ 65535)) : twB n = false := by simpa [twB] using h

set_option maxHeartbeats 400000 in
theorem isPair (n : Int) (w : World) : Calls Try.prog 38 #[.int .i64 n] w fun e w' => e = .returned (.bool (twB n)) ∧ w = w' := by
  by_cases h0 : 0 ≤ n
  · by_cases h1 : n ≤ 65535
    · go_enter Try.func38, Try.ntmps38
      go_wp2
      go_ret
      exact ⟨ret_bool (by simp [twB, h0, h1]), rfl⟩
    · go_enter Try.func38, Try.ntmps38
      go_wp2
      go_ret
      exact ⟨ret_bool (by simp [twB, h0, h1]), rfl⟩
  · go_enter Try.func38, Try.ntmps38
    go_wp2
    go_ret
    exact ⟨ret_bool (tw_no (by omega)).symm, rfl⟩

theorem inB (n lo hi : Int) (w : World) : Calls Try.prog 39 #[.int .i64 n, .int .i64 lo, .int .i64 hi] w fun e w' => e = .returned (.bool (decide (lo ≤ n ∧ n ≤ hi))) ∧ w = w' := by
  by_cases h0 : lo ≤ n
  · by_cases h1 : n ≤ hi
    · go_enter Try.func39, Try.ntmps39
      go_wp2
      go_ret
      exact ⟨ret_bool (decide_eq_true ⟨h0, h1⟩).symm, rfl⟩
    · go_enter Try.func39, Try.ntmps39
      go_wp2
      go_ret
      exact ⟨ret_bool (decide_eq_false (by omega)).symm, rfl⟩
  · go_enter Try.func39, Try.ntmps39
    go_wp2
    go_ret
    exact ⟨ret_bool (by simp; omega), rfl⟩

theorem l2Two (n : Int) (w : World) : Calls Try.prog 26 #[.int .i64 n] w fun e w' => e = .returned (.bool (twB n)) ∧ w = w' := by
  go_enter Try.func26, Try.ntmps26
  go_wp2_with fail
  refine (inB _ _ _ _).mono ?_
  rintro e w' ⟨rfl, rfl⟩
  go_wp2_with fail
  go_ret
  exact ⟨ret_bool (by simp [twB]), rfl⟩

/-- Turned. -/
def turnOf (s a b : Int) : Int := if twB s = true ∧ twB a = true ∧ twB b = true then 65535 - fold (65535 - s + (65535 - a) + b) else -1
theorem turn_no {s a b : Int} (h : twB s = false ∨ twB a = false ∨ twB b = false) : turnOf s a b = -1 := by rcases h with h | h | h <;> simp [turnOf, h]
theorem turn_yes {s a b : Int} (h : twB s = true) (k : twB a = true) (l : twB b = true) : turnOf s a b = 65535 - fold (65535 - s + (65535 - a) + b) := by simp [turnOf, h, k, l]
theorem turn_bd (s a b : Int) : -1 ≤ turnOf s a b ∧ turnOf s a b ≤ 65535 := by have := fold_bd (65535 - s + (65535 - a) + b); unfold turnOf; split <;> omega

end Go.Proofs.Ytecgfnpniklhhaa.Sum

/- Contracts of this seat's functions, and their mathematics (RoaA). -/
import Derived.Test.YtldghgadkncehaaM3
import Derived.Test.YtldghgadkncehaaM23
set_option linter.unusedVariables false
set_option linter.unusedSimpArgs false
set_option maxHeartbeats 2000000
namespace Go.Proofs.Ytldghgadkncehaa.Roa
open Go.RowKit RowG
structure Rd where
  op : Bool
  co : Int
  se : Int
  lo : Int
abbrev Rd.v (r : Rd) : Value := .agg #[.bool r.op, .int .i64 r.co, .int .i64 r.se, .int .i64 r.lo]
instance : DecidableEq Rd := fun a b => decidable_of_iff (a.op = b.op ∧ a.co = b.co ∧ a.se = b.se ∧ a.lo = b.lo) ⟨fun h => by cases a; cases b; simp_all, fun h => by subst h; exact ⟨rfl, rfl, rfl, rfl⟩⟩
def zr : Rd := ⟨false, 0, 0, 0⟩
def E : El Rd where
  enc r := [.bool r.op, .int .i64 r.co, .int .i64 r.se, .int .i64 r.lo]
  size := 4
  len _ := rfl
  one x u hu := by simp at hu; rcases hu with rfl | rfl | rfl | rfl <;> rfl
  pos := by decide
def at' (l : List Rd) (k : Nat) : Rd := l.getD k zr
theorem at_some {l : List Rd} {k : Nat} (h : k < l.length) : l[k]? = some (at' l k) := by
  unfold at'
  rw [List.getD_eq_getElem?_getD, List.getElem?_eq_getElem h]
  rfl
def rdB (r : Rd) : Bool := Num.plB r.co && (Num.plB r.se && decide (0 ≤ r.lo ∧ r.lo ≤ r.se))
def roadsB (l : List Rd) : Bool := l.all rdB && decide (1 ≤ l.length ∧ l.length ≤ 4)
theorem mix : Try.prog.follows .mixedOrders = true := by kernel_rfl
theorem cells4 {w : World} {b off : Nat} {l : List Rd} (h : ∀ j u, (E.vals l)[j]? = some u → w.cell? ⟨b, off + j, none⟩ = some u) {k : Nat} (hk : k < l.length) :
    w.cell? ⟨b, off + k * 4, none⟩ = some (.bool (at' l k).op) ∧ w.cell? ⟨b, off + k * 4 + 1, none⟩ = some (.int .i64 (at' l k).co) ∧ w.cell? ⟨b, off + k * 4 + 2, none⟩ = some (.int .i64 (at' l k).se) ∧ w.cell? ⟨b, off + k * 4 + 3, none⟩ = some (.int .i64 (at' l k).lo) := by
  have hx := at_some hk
  have q := fun j u => El.Lies.cell (E := E) h hx (j := j) (u := u)
  refine ⟨?_, ?_, ?_, ?_⟩
  · have := q 0 _ rfl; simpa [E] using this
  · have := q 1 _ rfl; rw [Nat.add_assoc]; exact this
  · have := q 2 _ rfl; rw [Nat.add_assoc]; exact this
  · have := q 3 _ rfl; rw [Nat.add_assoc]; exact this
theorem infoRoad : (Try.prog.info? 97).map (fun i => (i.zero, i.size, i.bytes)) = some (some (.agg #[.bool false, .int .i64 0, .int .i64 0, .int .i64 0]), 4, 32) := by kernel_rfl
theorem ty : Typ Try.prog 35 97 E 32 := ⟨Try.underlying35, by
  obtain ⟨i, hi, h0, h1, h2⟩ := info_parts infoRoad
  exact ⟨i, _, hi, h0, h1, h2, rfl⟩⟩
def Own (w : World) (B g c : Nat) (l : List Rd) : Prop := E.Own 97 w B (some ⟨g, 0, none⟩) c l
theorem own_empty (w : World) : E.Own 97 (w.alloc (.cells #[] 97)) w.heap.size (some ⟨w.heap.size, 0, none⟩) 0 [] := El.Own.made w
theorem rd_false {l : List Rd} {k : Nat} (hk : k < l.length) (h : rdB (at' l k) = false) : roadsB l = false := by
  have : l.all rdB = false := by
    rw [List.all_eq_false]
    exact ⟨at' l k, List.mem_of_getElem? (at_some hk), by simp [h]⟩
  simp only [roadsB, this, Bool.false_and]
theorem rd_all {l : List Rd} (h : ∀ j, j < l.length → rdB (at' l j) = true) : roadsB l = decide (1 ≤ (l.length : Int) ∧ (l.length : Int) ≤ 4) := by
  have : l.all rdB = true := by
    rw [List.all_eq_true]
    intro x hx
    obtain ⟨i, hi, rfl⟩ := List.getElem_of_mem hx
    have := h i hi
    rwa [show at' l i = l[i] by unfold at'; rw [List.getD_eq_getElem?_getD, List.getElem?_eq_getElem hi]; rfl] at this
  simp only [roadsB, this, Bool.true_and]
  congr 1
  apply propext
  omega
theorem l1PlaceEq {n : Int} {v : Bool} (h : Num.plB n = v) (w : World) : Calls Try.prog 67 #[.int .i64 n] w fun x w' => x = .returned (.bool v) ∧ w = w' := by
  subst h
  exact Num.l1Place n w
theorem specRoadsOk (a : Option Addr) (n cap : Nat) (l : List Rd) (w : World) (hn : n = l.length) (h : E.Lies w a l) (hl : l.length ≤ 2097152) :
    Calls Try.prog 49 #[.slice a n cap] w fun x w' => x = .returned (.bool (roadsB l)) ∧ Below w.heap.size w w' := by
  subst hn
  have hmix := mix
  go_enter Try.func49, Try.ntmps49
  go_wp2_with fail
  go_loopw [3] (fun iv wr => ∃ k : Nat, k ≤ l.length ∧ iv = .int .i64 k ∧ Hid (∀ j, j < k → rdB (at' l j) = true) ∧ Below w.heap.size w wr) (fun iv _ => l.length - (intOf iv).toNat)
  case atStart => exact ⟨0, Nat.zero_le _, rfl, fun j hj => by omega, Below.refl _ _⟩
  case round =>
    obtain ⟨k, hk, rfl, hgood, hB⟩ := hrel
    by_cases hlt : k < l.length
    · rcases h.later hB with hs | ⟨b, off, rfl, hs⟩
      · simp [hs] at hlt
      · obtain ⟨c0, c1, c2, c3⟩ := cells4 hs hlt
        clear hs
        have i0 : (0 : Int) ≤ (k : Int) := by omega
        have i1 : (k : Int) < (l.length : Int) := by omega
        have HB : rdB (at' l k) = false → roadsB l = false := rd_false hlt
        obtain ⟨s, HS⟩ : ∃ s, Hid (at' l k = s) := ⟨_, rfl⟩
        rw [HS.out] at c0 c1 c2 c3 HB
        replace HB : Hid _ := HB
        obtain ⟨o, co, se, lo⟩ := s
        simp only at c0 c1 c2 c3
        have d1 := Draw.Later.cell c1
        have d2 := Draw.Later.cell c2
        have d3 := Draw.Later.cell c3
        clear c0 c1 c2 c3
        cases h1 : Num.plB co
        · go_wp2_with fail
          refine Draw.wp_region_later hmix (by kernel_rfl) ?_
          repeat (go_big_quiet_step (first | (go_at_call 67; exact Draw.later_same (l1PlaceEq h1 _))))
          refine wpQuiet_nil ?_
          intro _ hw'
          obtain ⟨⟨wq, hBq⟩, hw''⟩ := hw'
          subst hw''
          go_wp2_with fail
          go_ret
          exact ⟨by rw [HB.out (by simp [rdB, h1])]; rfl, hB.trans (hBq.mono hB.size)⟩
        cases h2 : Num.plB se
        · go_wp2_with fail
          refine Draw.wp_region_later hmix (by kernel_rfl) ?_
          repeat (go_big_quiet_step (first | (go_at_call 67; first | with_reducible exact Draw.later_same (l1PlaceEq h1 _) | with_reducible exact Draw.later_same (l1PlaceEq h2 _))))
          refine wpQuiet_nil ?_
          intro _ hw'
          obtain ⟨⟨wq, hBq⟩, hw''⟩ := hw'
          subst hw''
          go_wp2_with fail
          go_ret
          exact ⟨by rw [HB.out (by simp [rdB, h2])]; rfl, hB.trans (hBq.mono hB.size)⟩
        cases h3 : decide (0 ≤ lo ∧ lo ≤ se)
        · go_wp2_with fail
          refine Draw.wp_region_later hmix (by kernel_rfl) ?_
          repeat (go_big_quiet_step (first | (go_at_call 51; with_reducible exact Draw.later_same (Tak.l1InEq h3 _)) | (go_at_call 67; first | with_reducible exact Draw.later_same (l1PlaceEq h1 _) | with_reducible exact Draw.later_same (l1PlaceEq h2 _))))
          refine wpQuiet_nil ?_
          intro _ hw'
          obtain ⟨⟨wq, hBq⟩, hw''⟩ := hw'
          subst hw''
          go_wp2_with fail
          go_ret
          exact ⟨by rw [HB.out (by simp only [rdB, h3, Bool.and_false])]; rfl, hB.trans (hBq.mono hB.size)⟩
        have HY : Hid (rdB ⟨o, co, se, lo⟩ = true) := by show _ = _; simp only [rdB, h1, h2, h3, Bool.and_true]
        go_wp2_with fail
        refine Draw.wp_region_later hmix (by kernel_rfl) ?_
        repeat (go_big_quiet_step (first | (go_at_call 51; with_reducible exact Draw.later_same (Tak.l1InEq h3 _)) | (go_at_call 67; first | with_reducible exact Draw.later_same (l1PlaceEq h1 _) | with_reducible exact Draw.later_same (l1PlaceEq h2 _))))
        refine wpQuiet_nil ?_
        intro _ hw'
        obtain ⟨⟨wq, hBq⟩, hw''⟩ := hw'
        subst hw''
        go_wp2_with fail
        go_roundw
        case rel => exact ⟨k + 1, by omega, by go_num, fun j hj => by
          by_cases e : j = k
          · rw [e, HS.out]; exact HY.out
          · exact hgood.out j (by omega), hB.trans (hBq.mono hB.size)⟩
        case measure => simp [intOf]; omega
    · have i1 : ¬ (k : Int) < (l.length : Int) := by omega
      have HF : Hid (decide (1 ≤ (l.length : Int) ∧ (l.length : Int) ≤ 4) = roadsB l) := (rd_all fun j hj => hgood.out j (by omega)).symm
      go_wp2_with fail
      refine (Tak.l1InEq HF.out _).mono ?_
      rintro x w3 ⟨rfl, rfl⟩
      go_wp2_with fail
      go_ret
      exact ⟨rfl, hB⟩
end Go.Proofs.Ytldghgadkncehaa.Roa

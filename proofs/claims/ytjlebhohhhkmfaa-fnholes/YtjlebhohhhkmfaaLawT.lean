/- Contract of the laws' likeSpans over two equal lists of spans; lists of at most 2^21 spans. -/
import Derived.Test.YtjlebhohhhkmfaaHoleE
namespace Go.Proofs.Ytjlebhohhhkmfaa.Hole
open Go.RowKit
set_option linter.unusedVariables false
set_option linter.unusedSimpArgs false

set_option maxHeartbeats 1000000 in
theorem likeSpans (a a' : Option Addr) (n n' cap cap' : Nat) (l : List Sp) (w : World) (hn : n = l.length) (hn' : n' = l.length) (h : Spans w a l) (h' : Spans w a' l) (hl : l.length ≤ 2097152) :
    Calls Try.prog 14 #[.slice a n cap, .slice a' n' cap'] w fun x w' => x = .returned (.bool true) ∧ Below w.heap.size w w' := by
  subst hn
  subst hn'
  have hmix := mix
  go_enter Try.func14, Try.ntmps14
  go_wp2_with fail
  go_loopw [5] (fun iv wr => ∃ k : Nat, k ≤ l.length ∧ iv = .int .i64 k ∧ Below w.heap.size w wr) (fun iv _ => l.length - (intOf iv).toNat)
  case atStart => exact ⟨0, Nat.zero_le _, rfl, Below.refl _ _⟩
  case round =>
    obtain ⟨k, hk, rfl, hB⟩ := hrel
    by_cases hlt : k < l.length
    · rcases h with h | ⟨b, off, rfl, h⟩
      · simp [h] at hlt
      · rcases h' with h' | ⟨b', off', rfl, h'⟩
        · simp [h'] at hlt
        · have hbw : b < w.heap.size := Draw.lt_of_cell (h k hlt).1
          have hbw' : b' < w.heap.size := Draw.lt_of_cell (h' k hlt).1
          have d0 := Draw.Later.cell ((hB.cell (p := ⟨b, off + k * 2, none⟩) hbw).trans (h k hlt).1)
          have d1 := Draw.Later.cell ((hB.cell (p := ⟨b, off + k * 2 + 1, none⟩) hbw).trans (h k hlt).2)
          have d2 := Draw.Later.cell ((hB.cell (p := ⟨b', off' + k * 2, none⟩) hbw').trans (h' k hlt).1)
          have d3 := Draw.Later.cell ((hB.cell (p := ⟨b', off' + k * 2 + 1, none⟩) hbw').trans (h' k hlt).2)
          have i0 : (0 : Int) ≤ (k : Int) := by omega
          have i1 : (k : Int) < (l.length : Int) := by omega
          generalize l.getD k (0, 0) = s at *
          obtain ⟨f, t⟩ := s
          simp only at d0 d1 d2 d3
          clear h h'
          go_wp2_with fail
          refine Draw.wp_region_later hmix (by kernel_rfl) ?_
          repeat (go_big_quiet_step (fail))
          refine wpQuiet_nil ?_
          intro w3 hw'
          obtain ⟨q, hq⟩ := hw'
          have hBq := q.h
          rw [← hq] at hBq
          clear hq q d0 d1 d2 d3
          go_wp2_with fail
          go_roundw
          case rel => exact ⟨k + 1, by omega, by go_num, hB.trans (hBq.mono hB.size)⟩
          case measure => simp [intOf]; omega
    · have i1 : ¬ (k : Int) < (l.length : Int) := by omega
      go_wp2_with fail
      go_ret
      exact ⟨rfl, hB⟩

end Go.Proofs.Ytjlebhohhhkmfaa.Hole

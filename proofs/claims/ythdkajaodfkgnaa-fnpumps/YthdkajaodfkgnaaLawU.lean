/- Contract of the laws' likeTaker over two equal takers; lists of at most 2^21 parts. -/
import Derived.Test.YthdkajaodfkgnaaTakD
namespace Go.Proofs.Ythdkajaodfkgnaa.Tak
open Go.RowKit RowG
set_option linter.unusedVariables false
set_option linter.unusedSimpArgs false

set_option maxHeartbeats 2000000 in
theorem likeTaker (nx : Int) (bs : ByteArray) (a a' : Option Addr) (n n' c c' : Nat) (cp fi : Int) (en : Bool) (l : List Pt) (w : World) (hn : n = l.length) (hn' : n' = l.length) (h : partE.Lies w a l) (h' : partE.Lies w a' l) (hl : l.length ≤ 2097152) :
    Calls Try.prog 11 #[.agg #[.int .i64 nx, .string bs, .slice a n c, .int .i64 cp, .int .i64 fi, .bool en], .agg #[.int .i64 nx, .string bs, .slice a' n' c', .int .i64 cp, .int .i64 fi, .bool en]] w fun x w' => x = .returned (.bool true) ∧ Below w.heap.size w w' := by
  subst hn
  subst hn'
  have hmix := mix
  have BV : Below w.heap.size w ((w.alloc (.cells #[.int .i64 nx, .string bs, .slice a l.length c, .int .i64 cp, .int .i64 fi, .bool en] 26)).alloc (.cells #[.int .i64 nx, .string bs, .slice a' l.length c', .int .i64 cp, .int .i64 fi, .bool en] 26)) := ((Below.refl _ _).alloc (Nat.le_refl _) _).alloc (by simp) _
  have v1 : Var 26 ((w.alloc (.cells #[.int .i64 nx, .string bs, .slice a l.length c, .int .i64 cp, .int .i64 fi, .bool en] 26)).alloc (.cells #[.int .i64 nx, .string bs, .slice a' l.length c', .int .i64 cp, .int .i64 fi, .bool en] 26)) w.heap.size [.int .i64 nx, .string bs, .slice a l.length c, .int .i64 cp, .int .i64 fi, .bool en] := (Var.new w [.int .i64 nx, .string bs, .slice a l.length c, .int .i64 cp, .int .i64 fi, .bool en]).alloc _
  have v2 : Var 26 ((w.alloc (.cells #[.int .i64 nx, .string bs, .slice a l.length c, .int .i64 cp, .int .i64 fi, .bool en] 26)).alloc (.cells #[.int .i64 nx, .string bs, .slice a' l.length c', .int .i64 cp, .int .i64 fi, .bool en] 26)) (w.heap.size + 1) [.int .i64 nx, .string bs, .slice a' l.length c', .int .i64 cp, .int .i64 fi, .bool en] := by
    have := Var.new (T := 26) (w.alloc (.cells #[.int .i64 nx, .string bs, .slice a l.length c, .int .i64 cp, .int .i64 fi, .bool en] 26)) [.int .i64 nx, .string bs, .slice a' l.length c', .int .i64 cp, .int .i64 fi, .bool en]
    simpa using this
  have hen : (en != en) = false := by cases en <;> rfl
  go_enter Try.func11, Try.ntmps11
  go_upto_region 1 with (fail)
  generalize hV : ((w.alloc (.cells #[.int .i64 nx, .string bs, .slice a l.length c, .int .i64 cp, .int .i64 fi, .bool en] 26)).alloc (.cells #[.int .i64 nx, .string bs, .slice a' l.length c', .int .i64 cp, .int .i64 fi, .bool en] 26)) = V at *
  clear hV
  have c0 := v1.cell (i := 0) rfl
  have c1 := v1.cell (i := 1) rfl
  have c2 := v1.cell (i := 2) rfl
  have c3 := v1.cell (i := 3) rfl
  have c4 := v1.cell (i := 4) rfl
  have c5 := v1.cell (i := 5) rfl
  have d0 := v2.cell (i := 0) rfl
  have d1 := v2.cell (i := 1) rfl
  have d2 := v2.cell (i := 2) rfl
  have d3 := v2.cell (i := 3) rfl
  have d4 := v2.cell (i := 4) rfl
  have d5 := v2.cell (i := 5) rfl
  have hV1 := v1.lt
  have hV2 := v2.lt
  have HV1 : Hid _ := v1
  have HV2 : Hid _ := v2
  clear v1 v2
  go_wp2_with fail
  clear c0 c1 c2 c3 c4 c5 d0 d1 d2 d3 d4 d5
  go_loopw [5] (fun iv wr => ∃ k : Nat, k ≤ l.length ∧ iv = .int .i64 k ∧ Below V.heap.size V wr) (fun iv _ => l.length - (intOf iv).toNat)
  case atStart => exact ⟨0, Nat.zero_le _, rfl, Below.refl _ _⟩
  case round =>
    obtain ⟨k, hk, rfl, hB⟩ := hrel
    have BW : Below w.heap.size w wr := BV.trans (hB.mono BV.size)
    have x1 := Var.later (T := 26) HV1.out hB
    have x2 := Var.later (T := 26) HV2.out hB
    have c2 := x1.cell (i := 2) rfl
    have e1 := Draw.Later.cell c2
    have e2 := Draw.Later.cell (x2.cell (i := 2) rfl)
    clear x1 x2
    by_cases hlt : k < l.length
    · obtain ⟨⟨pa, pb⟩, hx⟩ : ∃ x, l[k]? = some x := ⟨l[k], List.getElem?_eq_getElem hlt⟩
      rcases h.later BW with hL | ⟨b, off, ha, hL⟩
      · simp [hL] at hlt
      rcases h'.later BW with hL' | ⟨b', off', ha', hL'⟩
      · simp [hL'] at hlt
      have f0 := Draw.Later.cell (show wr.cell? ⟨b, off + k * 2, none⟩ = some (.int .i64 pa) from El.Lies.cell hL hx (j := 0) rfl)
      have f1 := Draw.Later.cell (show wr.cell? ⟨b, off + k * 2 + 1, none⟩ = some (.string pb) from El.Lies.cell hL hx (j := 1) rfl)
      have g0 := Draw.Later.cell (show wr.cell? ⟨b', off' + k * 2, none⟩ = some (.int .i64 pa) from El.Lies.cell hL' hx (j := 0) rfl)
      have g1 := Draw.Later.cell (show wr.cell? ⟨b', off' + k * 2 + 1, none⟩ = some (.string pb) from El.Lies.cell hL' hx (j := 1) rfl)
      rw [ha] at c2 e1
      rw [ha'] at e2
      have i0 : (0 : Int) ≤ (k : Int) := by omega
      have i1 : (k : Int) < (l.length : Int) := by omega
      clear hL hL' hx ha ha'
      go_wp2_with fail
      refine Draw.wp_region_later hmix (by kernel_rfl) ?_
      repeat (go_big_quiet_step (fail))
      refine wpQuiet_nil ?_
      intro wq hw'
      obtain ⟨q, hq⟩ := hw'
      have hBq := q.h
      rw [← hq] at hBq
      clear hq q e1 e2 f0 f1 g0 g1 c2
      go_wp2_with fail
      go_roundw
      case rel => exact ⟨k + 1, by omega, by go_num, hB.trans (hBq.mono hB.size)⟩
      case measure => simp [intOf]; omega
    · have i1 : ¬ (k : Int) < (l.length : Int) := by omega
      go_wp2_with fail
      go_ret
      exact ⟨rfl, BW⟩

end Go.Proofs.Ythdkajaodfkgnaa.Tak

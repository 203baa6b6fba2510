/- Contracts of this seat's functions, and their mathematics (LawRo). -/
import Derived.Test.YtldghgadkncehaaM25
import Derived.Test.YtldghgadkncehaaM19
set_option linter.unusedVariables false
set_option linter.unusedSimpArgs false
set_option maxHeartbeats 2000000
namespace Go.Proofs.Ytldghgadkncehaa.Roa
open Go.RowKit RowG
theorem res_cellP {fn : Func} {p : Tmp} {ty : TypeId} (h : fn.results = #[.cell p ty]) (tmps : Array Value) (P : Program) (w : World) :
    (results fn tmps).run P w = ((asAddr (tmps.getD p undef)).run P w).andThen fun a w₁ => (loadVar ty a).run P w₁ := by
  simp only [results, h]
  simp [Sem.run_bind, Result.andThen]
theorem szRoadS (a : Option Addr) (n cap : Nat) (left : Int) (w : World) (hn : n ≤ maxLen) (h0 : 0 ≤ left) (h1 : left ≤ 1048576) :
    Calls Try.prog 48 #[.slice a n cap, .int .i64 left] w fun x w' => x = .returned (.int .i64 (if left < n then -1 else left - n)) ∧ w = w' := by
  unfold maxLen at hn
  by_cases h : left < (n : Int)
  · have hi : left - (n : Int) < 0 := by omega
    rw [if_pos h]
    go_enter Try.func48, Try.ntmps48
    go_wp2_with fail
    go_ret
    exact ⟨rfl, rfl⟩
  · have hi : ¬ left - (n : Int) < 0 := by omega
    rw [if_neg h]
    go_enter Try.func48, Try.ntmps48
    go_wp2_with fail
    go_ret
    exact ⟨rfl, rfl⟩
theorem toRoad (r : Rd) (w : World) : Calls Try.prog 72 #[r.v] w fun x w' => x = .returned r.v ∧ Below w.heap.size w w' := by
  obtain ⟨o, c, s, l⟩ := r
  dsimp only [Rd.v]
  go_enter Try.func72, Try.ntmps72
  go_wp2_with fail
  refine bodyPost_ret (v := .agg #[.bool o, .int .i64 c, .int .i64 s, .int .i64 l]) (by rw [res_cellP rfl]; go_simp) rfl ⟨rfl, (((Below.refl _ _).alloc (Nat.le_refl _) _).alloc (by simp) _).alloc (by simp; omega) _⟩
theorem eqRoad (r r' : Rd) (w : World) : Calls Try.prog 77 #[r.v, r'.v] w fun x w' => x = .returned (.bool (decide (r = r'))) ∧ Below w.heap.size w w' := by
  obtain ⟨o, c, s, l⟩ := r
  obtain ⟨o', c', s', l'⟩ := r'
  have fin : ∀ {q q' : Obj}, Below w.heap.size w ((w.alloc q).alloc q') := fun {q q'} => ((Below.refl _ _).alloc (Nat.le_refl _) q).alloc (by simp) q'
  by_cases h : (⟨o, c, s, l⟩ : Rd) = ⟨o', c', s', l'⟩
  · cases h
    dsimp only [Rd.v]
    go_enter Try.func77, Try.ntmps77
    go_wp2_with fail
    go_ret
    exact ⟨Num.ret_bool (by simp), fin⟩
  have HF : Hid (decide ((⟨o, c, s, l⟩ : Rd) = ⟨o', c', s', l'⟩) = false) := decide_eq_false h
  rw [HF.out]
  dsimp only [Rd.v]
  cases h0 : (o == o')
  · go_enter Try.func77, Try.ntmps77
    go_wp2_with fail
    go_ret
    exact ⟨rfl, fin⟩
  cases h1 : (c == c')
  · go_enter Try.func77, Try.ntmps77
    go_wp2_with fail
    go_ret
    exact ⟨rfl, fin⟩
  cases h2 : (s == s')
  · go_enter Try.func77, Try.ntmps77
    go_wp2_with fail
    go_ret
    exact ⟨rfl, fin⟩
  cases h3 : (l == l')
  · go_enter Try.func77, Try.ntmps77
    go_wp2_with fail
    go_ret
    exact ⟨rfl, fin⟩
  exact absurd (by simp at h0 h1 h2 h3; rw [h0, h1, h2, h3]) h
theorem eqRoadEq {o o' : Bool} {c s l c' s' l' : Int} {v : Bool} (h : decide ((⟨o, c, s, l⟩ : Rd) = ⟨o', c', s', l'⟩) = v) (w : World) : Calls Try.prog 77 #[.agg #[.bool o, .int .i64 c, .int .i64 s, .int .i64 l], .agg #[.bool o', .int .i64 c', .int .i64 s', .int .i64 l']] w fun x w' => x = .returned (.bool v) ∧ Below w.heap.size w w' := by
  subst h
  exact eqRoad ⟨o, c, s, l⟩ ⟨o', c', s', l'⟩ w
theorem take_eq_step {l l' : List Rd} {k : Nat} (h : k < l.length) (h' : k < l'.length) (he : l.take k = l'.take k) (hx : at' l k = at' l' k) : l.take (k + 1) = l'.take (k + 1) := by
  rw [take_at h, take_at h', he, hx]
theorem own_nonempty {w : World} {B g c : Nat} {l : List Rd} (h : Own w B g c l) : ∀ {k : Nat}, k < l.length → (w.cell? ⟨g, k * 4, none⟩ = some (.bool (at' l k).op) ∧ w.cell? ⟨g, k * 4 + 1, none⟩ = some (.int .i64 (at' l k).co) ∧ w.cell? ⟨g, k * 4 + 2, none⟩ = some (.int .i64 (at' l k).se) ∧ w.cell? ⟨g, k * 4 + 3, none⟩ = some (.int .i64 (at' l k).lo)) ∧ (w.frozen? ⟨g, k * 4, none⟩ = false ∧ w.frozen? ⟨g, k * 4 + 1, none⟩ = false ∧ w.frozen? ⟨g, k * 4 + 2, none⟩ = false ∧ w.frozen? ⟨g, k * 4 + 3, none⟩ = false) := by
  intro k hk
  refine ⟨?_, El.Own.frozen (E := E) h _, El.Own.frozen (E := E) h _, El.Own.frozen (E := E) h _, El.Own.frozen (E := E) h _⟩
  rcases El.Own.lies (E := E) h with e | ⟨b, off, e, hs⟩
  · rw [e] at hk; simp at hk
  · cases e
    have := cells4 hs hk
    rw [Nat.zero_add] at this
    exact this
theorem eqRoadS (a a' : Option Addr) (n n' cap cap' : Nat) (l l' : List Rd) (w : World) (hn : n = l.length) (hn' : n' = l'.length) (h : E.Lies w a l) (h' : E.Lies w a' l') (hl : l.length ≤ 4194304) (hl' : l'.length ≤ 4194304) :
    Calls Try.prog 57 #[.slice a n cap, .slice a' n' cap'] w fun x w' => x = .returned (.bool (decide (l = l'))) ∧ Below w.heap.size w w' := by
  subst hn
  subst hn'
  have hmix := mix
  by_cases hlen : l.length = l'.length
  · have hz : ((l.length : Int) == (l'.length : Int)) = true := by rw [beq_iff_eq]; omega
    have HLEN : Hid _ := hlen
    clear hlen
    go_enter Try.func57, Try.ntmps57
    go_wp2_with fail
    go_loopw [5] (fun iv wr => ∃ k : Nat, k ≤ l.length ∧ iv = .int .i64 k ∧ Hid (l.take k = l'.take k) ∧ Below w.heap.size w wr) (fun iv _ => l.length - (intOf iv).toNat)
    case atStart => exact ⟨0, Nat.zero_le _, rfl, by show _ = _; simp, Below.refl _ _⟩
    case round =>
      obtain ⟨k, hk, rfl, heq, hB⟩ := hrel
      by_cases hlt : k < l.length
      · have hlt' : k < l'.length := by have := HLEN.out; omega
        rcases h.later hB with h1 | ⟨b, off, rfl, h1⟩
        · simp [h1] at hlt
        rcases h'.later hB with h1' | ⟨b', off', rfl, h1'⟩
        · simp [h1'] at hlt'
        obtain ⟨c0, c1, c2, c3⟩ := cells4 h1 hlt
        obtain ⟨e0, e1, e2, e3⟩ := cells4 h1' hlt'
        have i0 : (0 : Int) ≤ (k : Int) := by omega
        have i1 : (k : Int) < (l.length : Int) := by omega
        have i2 : (k : Int) < (l'.length : Int) := by omega
        have HT : Hid (∀ hx : at' l k = at' l' k, l.take (k + 1) = l'.take (k + 1)) := fun hx => take_eq_step hlt hlt' heq.out hx
        have HX : Hid (∀ hx : l = l', at' l k = at' l' k) := fun hx => by rw [hx]
        generalize at' l k = s at *
        generalize at' l' k = s' at *
        obtain ⟨o, co, se, lo⟩ := s
        obtain ⟨o', co', se', lo'⟩ := s'
        simp only at c0 c1 c2 c3 e0 e1 e2 e3
        replace c0 := Draw.Later.cell c0
        replace c1 := Draw.Later.cell c1
        replace c2 := Draw.Later.cell c2
        replace c3 := Draw.Later.cell c3
        replace e0 := Draw.Later.cell e0
        replace e1 := Draw.Later.cell e1
        replace e2 := Draw.Later.cell e2
        replace e3 := Draw.Later.cell e3
        clear h1 h1'
        cases he : decide ((⟨o, co, se, lo⟩ : Rd) = ⟨o', co', se', lo'⟩)
        · have HF : Hid (decide (l = l') = false) := decide_eq_false fun hx => by have := HX.out hx; rw [decide_eq_false_iff_not] at he; exact he this
          clear HT HX heq
          go_wp2_with fail
          refine Draw.wp_region_later hmix (by kernel_rfl) ?_
          repeat (go_big_quiet_step ((go_at_call 77; exact Draw.later_of (eqRoadEq he _))))
          refine wpQuiet_nil ?_
          intro _ hw'
          obtain ⟨⟨wq, hBq⟩, hw''⟩ := hw'
          subst hw''
          go_wp2_with fail
          go_ret
          exact ⟨by rw [HF.out]; rfl, hB.trans (hBq.mono hB.size)⟩
        · have HF : Hid (l.take (k + 1) = l'.take (k + 1)) := HT.out (of_decide_eq_true he)
          clear HT HX heq
          go_wp2_with fail
          refine Draw.wp_region_later hmix (by kernel_rfl) ?_
          repeat (go_big_quiet_step ((go_at_call 77; exact Draw.later_of (eqRoadEq he _))))
          refine wpQuiet_nil ?_
          intro _ hw'
          obtain ⟨⟨wq, hBq⟩, hw''⟩ := hw'
          subst hw''
          go_wp2_with fail
          go_roundw
          case rel => exact ⟨k + 1, by omega, by go_num, HF, hB.trans (hBq.mono hB.size)⟩
          case measure => simp [intOf]; omega
      · have i1 : ¬ (k : Int) < (l.length : Int) := by omega
        have HF : Hid (decide (l = l') = true) := decide_eq_true (by have := heq.out; rw [List.take_of_length_le (by omega), List.take_of_length_le (by have := HLEN.out; omega)] at this; exact this)
        clear heq
        go_wp2_with fail
        go_ret
        exact ⟨by rw [HF.out]; rfl, hB⟩
  · have hz : ((l.length : Int) == (l'.length : Int)) = false := by rw [beq_eq_false_iff_ne]; omega
    have HF : Hid (decide (l = l') = false) := decide_eq_false fun hx => hlen (by rw [hx])
    clear hlen
    go_enter Try.func57, Try.ntmps57
    go_wp2_with fail
    go_ret
    exact ⟨by rw [HF.out]; rfl, Below.refl _ _⟩
end Go.Proofs.Ytldghgadkncehaa.Roa

/- Contract of the specification's SetAlarm (chapter 8); lists of at most 2^21 alarms. -/
import Derived.Test.YtdipdenekhffcaaAlmC
import Derived.Test.YtdipdenekhffcaaTake
import Derived.Deep.CutRange
namespace Go.Proofs.Ytdipdenekhffcaa.Alm
open Go.RowKit RowG
set_option linter.unusedVariables false
set_option linter.unusedSimpArgs false

def setB (l : List Al) (a : Al) : Bool := alarmsB l && (alB a && (decide (l.length ≠ 20) && decide (a ∉ l)))
def setL (l : List Al) (a : Al) : List Al := if alarmsB l = true then (if setB l a = true then insA a l else l) else []
theorem ins_eq {a : Al} : ∀ {l : List Al} {k : Nat}, (∀ j, j < k → ltB (at' l j) a = true) → (k < l.length → ltB (at' l k) a = false) → k ≤ l.length → insA a l = l.take k ++ a :: l.drop k
  | [], k, _, _, hk => by simp at hk; subst hk; rfl
  | x :: l, 0, _, h, _ => by
    have : ltB x a = false := h (by simp)
    simp [insA, this]
  | x :: l, k + 1, h, h', hk => by
    have h0 : ltB x a = true := h 0 (by omega)
    have ih := ins_eq (a := a) (l := l) (k := k) (fun j hj => h (j + 1) (by omega)) (fun q => h' (by simpa using q)) (by simpa using hk)
    simp [insA, h0, ih]
theorem mem_at {a : Al} {l : List Al} {k : Nat} (hr : Rise l) (h : ∀ j, j < k → ltB (at' l j) a = true) (h' : k < l.length → ltB (at' l k) a = false) : a ∈ l ↔ k < l.length ∧ at' l k = a := by
  constructor
  · intro hm
    obtain ⟨j, hj, ej⟩ := List.getElem_of_mem hm
    rw [← at_lt hj] at ej
    rcases Nat.lt_trichotomy j k with q | q | q
    · have := h j q
      rw [ej, lt_irr] at this
      cases this
    · subst q; exact ⟨hj, ej⟩
    · have h1 := rise_at hr q hj
      rw [ej, h' (by omega)] at h1
      cases h1
  · rintro ⟨hk, e⟩
    rw [← e]; exact at_mem hk
theorem ok_rise {l : List Al} (h : alarmsB l = true) : Rise l := good_rise (by simp [alarmsB] at h; exact h.1)
theorem ok_len {l : List Al} (h : alarmsB l = true) : l.length ≤ 20 := by simp [alarmsB] at h; exact h.2

theorem own_lo {w : World} {B g c : Nat} {l : List Al} (o : E.Own 26 w B (some ⟨g, 0, none⟩) c l) : B ≤ g := (o.lt _ rfl).1

set_option maxRecDepth 10000 in
set_option maxHeartbeats 4000000 in
theorem specSetAlarm (a : Option Addr) (n cap : Nat) (l : List Al) (f t : Int) (w : World) (hn : n = l.length) (h : Alarms w a l) (hl : l.length ≤ 2097152) (hc : n ≤ cap) (ha : a = none → cap = 0) :
    Calls Try.prog 15 #[.slice a n cap, .agg #[.int .i64 f, .int .i64 t]] w fun x w' => ∃ g c, x = .returned (.tuple #[.slice (some ⟨g, 0, none⟩) (setL l (f, t)).length c, .bool (setB l (f, t))]) ∧ Own w' w.heap.size g c (setL l (f, t)) ∧ Below w.heap.size w w' := by
  subst hn
  have hmix := mix
  have v0 : Var 26 (w.alloc (.cells #[.int .i64 f, .int .i64 t] 26)) w.heap.size [.int .i64 f, .int .i64 t] := Var.new w _
  have b0 : Below w.heap.size w (w.alloc (.cells #[.int .i64 f, .int .i64 t] 26)) := (Below.refl _ _).alloc (Nat.le_refl _) _
  go_enter Try.func15, Try.ntmps15
  go_wp2_with fail
  refine (specAlarmsOk _ _ _ l _ rfl (h.same b0) hl).mono ?_
  rintro x w1 ⟨rfl, hB1⟩
  have v1 := v0.later hB1
  have b1 := b0.trans (hB1.mono b0.size)
  clear v0 b0 hB1
  cases hok : alarmsB l
  · have e1 : setL l (f, t) = [] := by simp [setL, hok]
    have e2 : setB l (f, t) = false := by simp [setB, hok]
    have o1 := (own_empty w1).mono b1.size
    go_wp2_with fail
    go_ret2
    exact ⟨w1.heap.size, 0, by rw [e1, e2]; rfl, by rw [e1]; exact o1, b1.alloc b1.size _⟩
  · have HOK : Hid (alarmsB l = true) := hok
    clear hok
    go_wp2_with fail
    go_loopw [6] (fun iv wr => ∃ k : Nat, k ≤ l.length ∧ iv = .int .i64 k ∧ Hid (∀ j, j < k → ltB (at' l j) (f, t) = true) ∧ Var 26 wr w.heap.size [.int .i64 f, .int .i64 t] ∧ Below w.heap.size w wr) (fun iv _ => l.length - (intOf iv).toNat)
    case atStart => exact ⟨0, Nat.zero_le _, rfl, fun j hj => by omega, v1, b1⟩
    case round =>
      clear v1 b1
      obtain ⟨k, hk, rfl, hlo, v1, b1⟩ := hrel
      have i0 : (0 : Int) ≤ (k : Int) := by omega
      have q0 := Draw.Later.cell (v1.cell (i := 0) rfl)
      have q1 := Draw.Later.cell (v1.cell (i := 1) rfl)
      go_upto_region 4 with (fail)
      go_cut [23] from 12 to 25 (fun v wq => ∃ b : Bool, v = .bool b ∧ Hid (b = true → k < l.length ∧ ltB (at' l k) (f, t) = true) ∧ Hid (b = false → k < l.length → ltB (at' l k) (f, t) = false) ∧ Var 26 wq w.heap.size [.int .i64 f, .int .i64 t] ∧ Below w.heap.size w wq)
      case first =>
        by_cases hlt : k < l.length
        · have i1 : (k : Int) < (l.length : Int) := by omega
          rcases h.same b1 with hs | ⟨b, off, rfl, hs⟩
          · simp [hs] at hlt
          have d0 := Draw.Later.cell (hs k hlt).1
          have d1 := Draw.Later.cell (hs k hlt).2
          rw [getD_at] at d0 d1
          cases hcmp : ltB (at' l k) (f, t)
          all_goals
            generalize at' l k = s at *
            obtain ⟨sf, st⟩ := s
            simp only at d0 d1
            go_wp2_with fail
            refine Draw.wp_region_later hmix (by kernel_rfl) ?_
            repeat (go_big_quiet_step ((go_at_call 48; exact Draw.later_of (l8LessEq hcmp _))))
            refine wpQuiet_nil ?_
            intro _ hw'
            obtain ⟨⟨wq, hBq⟩, hw''⟩ := hw'
            subst hw''
            go_wp2_with fail
            go_meet
            exact ⟨_, rfl, fun q => (by first | exact ⟨hlt, hcmp⟩ | cases q), fun q => (by first | exact fun _ => hcmp | cases q), v1.later hBq, b1.trans (hBq.mono b1.size)⟩
        · have i1 : ¬ (k : Int) < (l.length : Int) := by omega
          go_wp2_with fail
          refine Draw.wp_region_later hmix (by kernel_rfl) ?_
          repeat (go_big_quiet_step (fail))
          refine wpQuiet_nil ?_
          intro _ hw'
          obtain ⟨⟨wq, hBq⟩, hw''⟩ := hw'
          subst hw''
          go_wp2_with fail
          go_meet
          exact ⟨_, rfl, fun q => (by cases q), fun _ q => absurd q hlt, v1.later hBq, b1.trans (hBq.mono b1.size)⟩
      case rest =>
        clear v1 b1 q0 q1
        obtain ⟨b, rfl, hb1, hb0, v1, b1⟩ := hcut
        cases b
        case true =>
          have hlt := (hb1.out rfl).1
          have HN : Hid (∀ j, j < k + 1 → ltB (at' l j) (f, t) = true) := fun j hj => by
            by_cases e : j = k
            · rw [e]; exact (hb1.out rfl).2
            · exact hlo.out j (by omega)
          clear hb1 hb0 hlo
          go_wp2_with fail
          go_roundw
          case rel => exact ⟨k + 1, by omega, by go_num, HN, v1, b1⟩
          case measure => simp [intOf]; omega
        case false =>
          have HE : Hid (insA (f, t) l = l.take k ++ (f, t) :: l.drop k) := ins_eq hlo.out (hb0.out rfl) hk
          have HM : Hid ((f, t) ∈ l ↔ k < l.length ∧ at' l k = (f, t)) := mem_at (ok_rise HOK.out) hlo.out (hb0.out rfl)
          clear hb1 hb0 hlo
          have b2 : Below w.heap.size w (wc.alloc (.cells #[] 26)) := b1.alloc b1.size _
          have o2 := (own_empty wc).mono b1.size
          have v2 := v1.alloc (.cells #[] 26)
          have L2 := (h.same b2).el
          have n2 := b2.size
          have hg2 : w.heap.size < wc.heap.size := v1.lt
          clear v1 b1
          go_wp2_with (at_builtin; refine wpList_appS ty (by decide) (by rfl) _ _ (by rfl) w.heap.size wc.heap.size 0 0 [] l rfl (by rfl) o2 n2 a l.length cap rfl (by rfl) L2 ha (by simp; omega) ?_; intro g3 c3 w3 o3 gr3)
          rw [List.nil_append] at o3
          have b3 : Below w.heap.size w w3 := grown_below b2 (Nat.le_refl _) (fun j hj => by cases hj; omega) gr3
          have v3 := v2.grown gr3 (fun j hj => by cases hj; omega)
          clear v2 b2 o2 L2 n2 gr3
          have q0 := Draw.Later.cell (v3.cell (i := 0) rfl)
          have q1 := Draw.Later.cell (v3.cell (i := 1) rfl)
          go_cut [50] from 29 (fun v wq => ∃ b : Bool, v = .bool b ∧ Hid (b = !(alB (f, t) && (decide (l.length ≠ 20) && decide ((f, t) ∉ l)))) ∧ Var 26 wq w.heap.size [.int .i64 f, .int .i64 t] ∧ E.Own 26 wq w.heap.size (some ⟨g3, 0, none⟩) c3 l ∧ Below w.heap.size w wq)
          case first =>
            cases hal : alB (f, t)
            case false =>
              refine Draw.wp_region_later hmix (by kernel_rfl) ?_
              repeat (go_big_quiet_step ((go_at_call 49; exact Draw.later_of (l8AlarmEq hal _))))
              refine wpQuiet_nil ?_
              intro _ hw'
              obtain ⟨⟨wq, hBq⟩, hw''⟩ := hw'
              subst hw''
              go_wp2_with fail
              go_meet
              exact ⟨_, rfl, by show _ = _; simp [hal], v3.later hBq, o3.later hBq, b3.trans (hBq.mono b3.size)⟩
            by_cases h20 : l.length = 20
            · have i20 : ((l.length : Int) == 20) = true := by rw [beq_iff_eq]; omega
              refine Draw.wp_region_later hmix (by kernel_rfl) ?_
              repeat (go_big_quiet_step ((go_at_call 49; exact Draw.later_of (l8AlarmEq hal _))))
              refine wpQuiet_nil ?_
              intro _ hw'
              obtain ⟨⟨wq, hBq⟩, hw''⟩ := hw'
              subst hw''
              go_wp2_with fail
              go_meet
              exact ⟨_, rfl, by show _ = _; simp [hal, h20], v3.later hBq, o3.later hBq, b3.trans (hBq.mono b3.size)⟩
            have i20 : ((l.length : Int) == 20) = false := by rw [beq_eq_false_iff_ne]; omega
            by_cases hlt : k < l.length
            · have i1 : (k : Int) < (l.length : Int) := by omega
              rcases h.same b3 with hs | ⟨b, off, rfl, hs⟩
              · simp [hs] at hlt
              have d0 := Draw.Later.cell (hs k hlt).1
              have d1 := Draw.Later.cell (hs k hlt).2
              rw [getD_at] at d0 d1
              have HM2 : Hid ((f, t) ∈ l ↔ at' l k = (f, t)) := ⟨fun q => (HM.out.1 q).2, fun q => HM.out.2 ⟨hlt, q⟩⟩
              generalize at' l k = s at *
              obtain ⟨sf, st⟩ := s
              simp only at d0 d1
              clear hs
              by_cases e : sf = f ∧ st = t
              · obtain ⟨rfl, rfl⟩ := e
                have HM3 : Hid ((sf, st) ∈ l) := HM2.out.2 rfl
                refine Draw.wp_region_later hmix (by kernel_rfl) ?_
                repeat (go_big_quiet_step ((go_at_call 49; exact Draw.later_of (l8AlarmEq hal _))))
                refine wpQuiet_nil ?_
                intro _ hw'
                obtain ⟨⟨wq, hBq⟩, hw''⟩ := hw'
                subst hw''
                go_wp2_with fail
                go_meet
                exact ⟨_, rfl, by show _ = _; simp [hal, HM3.out], v3.later hBq, o3.later hBq, b3.trans (hBq.mono b3.size)⟩
              · have HM3 : Hid ((f, t) ∉ l) := fun q => e (by have := HM2.out.1 q; simp at this; exact this)
                have e' : sf ≠ f ∨ sf = f ∧ st ≠ t := by
                  by_cases q : sf = f
                  · exact .inr ⟨q, fun q2 => e ⟨q, q2⟩⟩
                  · exact .inl q
                rcases e' with e1 | ⟨rfl, e1⟩
                all_goals
                  have e2 := beq_eq_false_iff_ne.2 e1
                  refine Draw.wp_region_later hmix (by kernel_rfl) ?_
                  repeat (go_big_quiet_step ((go_at_call 49; exact Draw.later_of (l8AlarmEq hal _))))
                  refine wpQuiet_nil ?_
                  intro _ hw'
                  obtain ⟨⟨wq, hBq⟩, hw''⟩ := hw'
                  subst hw''
                  go_wp2_with fail
                  go_meet
                  exact ⟨_, rfl, by show _ = _; simp [hal, HM3.out, h20], v3.later hBq, o3.later hBq, b3.trans (hBq.mono b3.size)⟩
            · have i1 : ¬ (k : Int) < (l.length : Int) := by omega
              have HM3 : Hid ((f, t) ∉ l) := fun q => hlt (HM.out.1 q).1
              refine Draw.wp_region_later hmix (by kernel_rfl) ?_
              repeat (go_big_quiet_step ((go_at_call 49; exact Draw.later_of (l8AlarmEq hal _))))
              refine wpQuiet_nil ?_
              intro _ hw'
              obtain ⟨⟨wq, hBq⟩, hw''⟩ := hw'
              subst hw''
              go_wp2_with fail
              go_meet
              exact ⟨_, rfl, by show _ = _; simp [hal, HM3.out, h20], v3.later hBq, o3.later hBq, b3.trans (hBq.mono b3.size)⟩
          case rest =>
            clear q0 q1 v3 o3 b3
            obtain ⟨b, rfl, hb, v3, o3, b3⟩ := hcut
            cases b
            case true =>
              have e2 : Hid (setB l (f, t) = false) := by show _ = _; have := hb.out; unfold setB; cases q : (alB (f, t) && (decide (l.length ≠ 20) && decide ((f, t) ∉ l))) <;> simp_all
              have e1 : Hid (setL l (f, t) = l) := by show _ = _; unfold setL; rw [if_pos HOK.out, e2.out]; rfl
              clear hb HE HM
              go_wp2_with fail
              go_ret2
              exact ⟨g3, c3, by rw [e1.out, e2.out]; rfl, by rw [e1.out]; exact o3, b3⟩
            case false =>
              have e2 : Hid (setB l (f, t) = true) := by show _ = _; have := hb.out; unfold setB; rw [HOK.out]; cases q : (alB (f, t) && (decide (l.length ≠ 20) && decide ((f, t) ∉ l))) <;> simp_all
              have e1 : Hid (setL l (f, t) = l.take k ++ (f, t) :: l.drop k) := by show _ = _; unfold setL; rw [if_pos HOK.out, if_pos e2.out, HE.out]
              clear hb HE HM o3
              have s0 := v3.cell (i := 0) rfl
              have s1 := v3.cell (i := 1) rfl
              have lA := (h.same b3).el
              obtain ⟨sp1, hU, L1, C1⟩ : ∃ sp1, (∀ w', (Instr.sliceAt 24 (.slice a l.length cap) none (some (.int .i64 (k : Int))) none).run Try.prog w' = .ok (.slice sp1 k cap) w') ∧ (∀ w', Below w.heap.size w w' → E.Lies w' sp1 (l.take k)) ∧ (sp1 = none → cap = 0) := by
                refine ⟨_, fun w' => run_upto ty w' a l.length cap .i64 k (by omega), fun w' hb => ?_, ?_⟩
                · have := ((h.same hb).el).slice 0 k cap (Nat.zero_le _) hk (by omega)
                  simpa using this
                · have := cut_none (ao := a) (c := cap) (e := 0) (k := 0 * E.size) ha
                  simpa using this
              obtain ⟨sp2, hV, L2, C2⟩ : ∃ sp2, (∀ w', (Instr.sliceAt 24 (.slice a l.length cap) (some (.int .i64 (k : Int))) none none).run Try.prog w' = .ok (.slice sp2 (l.length - k) (cap - k)) w') ∧ (∀ w', Below w.heap.size w w' → E.Lies w' sp2 (l.drop k)) ∧ (sp2 = none → cap - k = 0) := by
                refine ⟨_, fun w' => run_from ty w' a l.length cap .i64 k (by omega), fun w' hb => ?_, ?_⟩
                · have := ((h.same hb).el).slice k l.length cap hk (Nat.le_refl _) hc
                  rwa [List.take_of_length_le (by simp <;> omega)] at this
                · exact cut_none ha
              have hz1 : ([] : List Al).length + (l.take k).length ≤ 4194304 := by simp; omega
              have hz2 : (l.take k).length + [(f, t)].length ≤ 4194304 := by simp; omega
              have hz3 : (l.take k ++ [(f, t)]).length + (l.drop k).length ≤ 4194304 := by simp; omega
              have HT1 : Hid (k = (l.take k).length) := by show _ = _; simp; omega
              have HT2 : Hid (l.length - k = (l.drop k).length) := by show _ = _; simp
              have HT3 : Hid (k + 1 = (l.take k ++ [(f, t)]).length) := by show _ = _; simp; omega
              have hvl : w.heap.size < wc.heap.size := v3.lt
              have HLEN : Hid (k + 1 + (l.length - k) = (setL l (f, t)).length) := by show _ = _; rw [e1.out]; simp; omega
              have HAPP : Hid (l.take k ++ [(f, t)] ++ l.drop k = setL l (f, t)) := by show _ = _; rw [e1.out]; simp
              clear h e1
              go_wp2_with fail
              refine wp_region_held_drew (S := (fun w' => w'.cell? ⟨w.heap.size, 0, none⟩ = some (.int .i64 f) ∧ w'.cell? ⟨w.heap.size, 1, none⟩ = some (.int .i64 t))) (by kernel_rfl) ?_ (fun hHeld => ?_)
              focus ((try dsimp only) <;> (first | with_reducible exact hHeld | with_reducible exact hS2 | exact ⟨s0, s1⟩ | exact ⟨alloc_cell hHeld.1 _, alloc_cell hHeld.2 _⟩))
              refine wpAnyH_take (i := 1) (v := ?_) rfl (by kernel_rfl) (by kernel_rfl) (by kernel_rfl) (fun _ _ _ h => h) (Or.inl ⟨by rfl, ?_⟩) (by assumption) ?_
              rotate_left 1
              focus (intro wS hSw; (try dsimp only at hSw); go_simp; first | done | (constructor <;> with_reducible rfl) | with_reducible rfl)
              (try simp only [Act.put, List.getElem_toArray, List.getElem_cons_zero, List.getElem_cons_succ, List.setIfInBounds_toArray, List.set_cons_zero, List.set_cons_succ])
              refine wpAnyH_take (i := 2) (v := ?_) rfl (by kernel_rfl) (by kernel_rfl) (by kernel_rfl) (fun _ _ _ h => h) (Or.inl ⟨by rfl, ?_⟩) (by assumption) ?_
              rotate_left 1
              focus (intro wS hSw; (try dsimp only at hSw); go_simp; first | done | (constructor <;> with_reducible rfl) | with_reducible rfl)
              (try simp only [Act.put, List.getElem_toArray, List.getElem_cons_zero, List.getElem_cons_succ, List.setIfInBounds_toArray, List.set_cons_zero, List.set_cons_succ])
              refine wpAnyH_take (i := 3) (v := ?_) rfl (by kernel_rfl) (by kernel_rfl) (by kernel_rfl) (fun _ _ _ h => h) (Or.inl ⟨by rfl, ?_⟩) (by assumption) ?_
              rotate_left 1
              focus (intro wS hSw; (try dsimp only at hSw); go_simp; first | done | (constructor <;> with_reducible rfl) | with_reducible rfl)
              (try simp only [Act.put, List.getElem_toArray, List.getElem_cons_zero, List.getElem_cons_succ, List.setIfInBounds_toArray, List.set_cons_zero, List.set_cons_succ])
              refine wpAnyH_take (i := 5) (v := ?_) rfl (by kernel_rfl) (by kernel_rfl) (by kernel_rfl) (fun _ _ _ h => h) (Or.inl ⟨by rfl, ?_⟩) (by assumption) ?_
              rotate_left 1
              focus (intro wS hSw; (try dsimp only at hSw); go_simp; first | done | (constructor <;> with_reducible rfl) | with_reducible rfl)
              (try simp only [Act.put, List.getElem_toArray, List.getElem_cons_zero, List.getElem_cons_succ, List.setIfInBounds_toArray, List.set_cons_zero, List.set_cons_succ])
              refine wpAnyH_take (i := 8) (v := ?_) rfl (by kernel_rfl) (by kernel_rfl) (by kernel_rfl) (fun _ _ _ h => h) (Or.inl ⟨by rfl, ?_⟩) (by assumption) ?_
              rotate_left 1
              focus (intro wS hSw; (try dsimp only at hSw); go_simp; first | done | (constructor <;> with_reducible rfl) | with_reducible rfl)
              (try simp only [Act.put, List.getElem_toArray, List.getElem_cons_zero, List.getElem_cons_succ, List.setIfInBounds_toArray, List.set_cons_zero, List.set_cons_succ])
              refine wpAnyH_take (i := 9) (v := ?_) rfl (by kernel_rfl) (by kernel_rfl) (by kernel_rfl) (fun _ _ _ h => h) (Or.inl ⟨by rfl, ?_⟩) (by assumption) ?_
              rotate_left 1
              focus (intro wS hSw; (try dsimp only at hSw); go_simp; first | done | (constructor <;> with_reducible rfl) | with_reducible rfl)
              (try simp only [Act.put, List.getElem_toArray, List.getElem_cons_zero, List.getElem_cons_succ, List.setIfInBounds_toArray, List.set_cons_zero, List.set_cons_succ])
              refine wpAnyH_take (i := 10) (v := ?_) rfl (by kernel_rfl) (by kernel_rfl) (by kernel_rfl) (fun _ _ _ h => h) (Or.inl ⟨by rfl, ?_⟩) (by assumption) ?_
              rotate_left 1
              focus (intro wS hSw; (try dsimp only at hSw); go_simp; first | done | (constructor <;> with_reducible rfl) | with_reducible rfl)
              (try simp only [Act.put, List.getElem_toArray, List.getElem_cons_zero, List.getElem_cons_succ, List.setIfInBounds_toArray, List.set_cons_zero, List.set_cons_succ])
              refine wpAnyH_ready (rs := [0, 6]) (by kernel_rfl) (by simp) ?_
              refine AllReadyH.cons rfl (fun K hK => ?_) (AllReadyH.cons rfl (fun K hK => ?_) (AllReadyH.nil))
              focus
                go_simp
                refine hK.out _ _ ?_ (fun hHeld2 => ?_)
                focus ((try dsimp only) <;> (first | with_reducible exact hHeld | with_reducible exact hS2 | exact ⟨s0, s1⟩ | exact ⟨alloc_cell hHeld.1 _, alloc_cell hHeld.2 _⟩))
                clear hK K
                replace hHeld := hHeld2
                clear hHeld2
                (try simp only [Act.put, List.getElem_toArray, List.getElem_cons_zero, List.getElem_cons_succ, List.setIfInBounds_toArray, List.set_cons_zero, List.set_cons_succ])
                refine wpAnyH_ready (rs := [4, 6]) (by kernel_rfl) (by simp) ?_
                refine AllReadyH.cons rfl (fun K hK => ?_) (AllReadyH.cons rfl (fun K hK => ?_) (AllReadyH.nil))
                focus
                  (have bA : Below w.heap.size w _ := b3.drew.alloc b3.size (.cells #[] 26); have LA := L1 _ bA; refine step_appS ty (by decide) (by rfl) _ _ (by rfl) wc.heap.size (wc.heap.size) 0 0 [] (l.take k) rfl (by rfl) (own_empty wc.drew) (by simp <;> omega) sp1 k cap HT1.out (by rfl) LA C1 hz1 ?_; intro g4 c4 w4 o4 gr4; rw [List.nil_append] at o4; (try rw [Nat.zero_add]); have hS2 : w4.cell? ⟨w.heap.size, 0, none⟩ = some (.int .i64 f) ∧ w4.cell? ⟨w.heap.size, 1, none⟩ = some (.int .i64 t) := ⟨grown_cell gr4 hHeld.1 (by simp <;> omega), grown_cell gr4 hHeld.2 (by simp <;> omega)⟩; have n4 : wc.heap.size ≤ w4.heap.size := Nat.le_trans (by simp <;> omega) gr4.size; have b4 : Below w.heap.size w w4 := grown_below bA (Nat.le_refl _) (fun j hj => by cases hj; omega) gr4)
                  refine hK.out _ _ ?_ (fun hHeld2 => ?_)
                  focus ((try dsimp only) <;> (first | with_reducible exact hHeld | with_reducible exact hS2 | exact ⟨s0, s1⟩ | exact ⟨alloc_cell hHeld.1 _, alloc_cell hHeld.2 _⟩))
                  clear hK K
                  replace hHeld := hHeld2
                  clear hHeld2
                  (try simp only [Act.put, List.getElem_toArray, List.getElem_cons_zero, List.getElem_cons_succ, List.setIfInBounds_toArray, List.set_cons_zero, List.set_cons_succ])
                  refine wpAnyH_ready (rs := [6]) (by kernel_rfl) (by simp) ?_
                  refine AllReadyH.cons rfl (fun K hK => ?_) AllReadyH.nil
                  go_simp
                  refine hK.out _ _ ?_ (fun hHeld2 => ?_)
                  focus ((try dsimp only) <;> (first | with_reducible exact hHeld | with_reducible exact hS2 | exact ⟨s0, s1⟩ | exact ⟨alloc_cell hHeld.1 _, alloc_cell hHeld.2 _⟩))
                  clear hK K
                  replace hHeld := hHeld2
                  clear hHeld2
                  (try simp only [Act.put, List.getElem_toArray, List.getElem_cons_zero, List.getElem_cons_succ, List.setIfInBounds_toArray, List.set_cons_zero, List.set_cons_succ])
                  refine wpAnyH_ready (rs := [7]) (by kernel_rfl) (by simp) ?_
                  refine AllReadyH.cons rfl (fun K hK => ?_) AllReadyH.nil
                  (have bB : Below w.heap.size w _ := b4.alloc b4.size (.cells #[.int .i64 f, .int .i64 t] 26); have LB := El.lies_new (E := E) (T := 26) (w := w4) (x := (f, t)) (cs := #[.int .i64 f, .int .i64 t]) rfl; refine step_appS ty (by decide) (by rfl) _ _ (by rfl) wc.heap.size g4 c4 k (l.take k) [(f, t)] HT1.out (by rfl) (o4.alloc (.cells #[.int .i64 f, .int .i64 t] 26)) (by simp <;> omega) (some ⟨w4.heap.size, 0, none⟩) 1 1 rfl (by rfl) LB (fun e => by cases e) hz2 ?_; intro g7 c7 w7 o7 gr7; have b7 : Below w.heap.size w w7 := grown_below bB (Nat.le_refl _) (fun j hj => by cases hj; have q := own_lo o4; omega) gr7; have hg4 : g4 ≠ w.heap.size := (by have q := own_lo o4; omega); have hS2 : w7.cell? ⟨w.heap.size, 0, none⟩ = some (.int .i64 f) ∧ w7.cell? ⟨w.heap.size, 1, none⟩ = some (.int .i64 t) := ⟨grown_cell gr7 hHeld.1 (by simp <;> omega), grown_cell gr7 hHeld.2 (by simp <;> omega)⟩)
                  refine hK.out _ _ ?_ (fun hHeld2 => ?_)
                  focus ((try dsimp only) <;> (first | with_reducible exact hHeld | with_reducible exact hS2 | exact ⟨s0, s1⟩ | exact ⟨alloc_cell hHeld.1 _, alloc_cell hHeld.2 _⟩))
                  clear hK K
                  replace hHeld := hHeld2
                  clear hHeld2
                  (try simp only [Act.put, List.getElem_toArray, List.getElem_cons_zero, List.getElem_cons_succ, List.setIfInBounds_toArray, List.set_cons_zero, List.set_cons_succ])
                  refine wpAnyH_ready (rs := [11]) (by kernel_rfl) (by simp) ?_
                  refine AllReadyH.cons rfl (fun K hK => ?_) AllReadyH.nil
                  (refine step_appS ty (by decide) (by rfl) _ _ (by rfl) wc.heap.size g7 c7 (k + 1) (l.take k ++ [(f, t)]) (l.drop k) HT3.out (by rfl) o7 (Nat.le_trans (show wc.heap.size ≤ (w4.alloc (.cells #[.int .i64 f, .int .i64 t] 26)).heap.size by simp <;> omega) gr7.size) sp2 (l.length - k) (cap - k) HT2.out (by rfl) (L2 _ b7) C2 hz3 ?_; intro g9 c9 w9 o9 gr9; have b9 : Below w.heap.size w w9 := grown_below b7 (Nat.le_refl _) (fun j hj => by cases hj; have q := own_lo o7; omega) gr9; have hg7 : g7 ≠ w.heap.size := (by have q := own_lo o7; omega); have hS2 : w9.cell? ⟨w.heap.size, 0, none⟩ = some (.int .i64 f) ∧ w9.cell? ⟨w.heap.size, 1, none⟩ = some (.int .i64 t) := ⟨grown_cell gr9 hHeld.1 (by simp <;> omega), grown_cell gr9 hHeld.2 (by simp <;> omega)⟩)
                  refine hK.out _ _ ?_ (fun hHeld2 => ?_)
                  focus ((try dsimp only) <;> (first | with_reducible exact hHeld | with_reducible exact hS2 | exact ⟨s0, s1⟩ | exact ⟨alloc_cell hHeld.1 _, alloc_cell hHeld.2 _⟩))
                  clear hK K
                  replace hHeld := hHeld2
                  clear hHeld2
                  (try simp only [Act.put, List.getElem_toArray, List.getElem_cons_zero, List.getElem_cons_succ, List.setIfInBounds_toArray, List.set_cons_zero, List.set_cons_succ])
                  refine wpAnyH_take (i := 12) (v := ?_) rfl (by kernel_rfl) (by kernel_rfl) (by kernel_rfl) (fun _ _ _ h => h) (Or.inl ⟨by rfl, ?_⟩) (by assumption) ?_
                  rotate_left 1
                  focus (intro wS hSw; (try dsimp only at hSw); go_simp; first | done | (constructor <;> with_reducible rfl) | with_reducible rfl)
                  (try simp only [Act.put, List.getElem_toArray, List.getElem_cons_zero, List.getElem_cons_succ, List.setIfInBounds_toArray, List.set_cons_zero, List.set_cons_succ])
                  refine wpAnyH_take (i := 13) (v := ?_) rfl (by kernel_rfl) (by kernel_rfl) (by kernel_rfl) (fun _ _ _ h => h) (Or.inl ⟨by rfl, ?_⟩) (by assumption) ?_
                  rotate_left 1
                  focus (intro wS hSw; (try dsimp only at hSw); go_simp; first | done | (constructor <;> with_reducible rfl) | with_reducible rfl)
                  (try simp only [Act.put, List.getElem_toArray, List.getElem_cons_zero, List.getElem_cons_succ, List.setIfInBounds_toArray, List.set_cons_zero, List.set_cons_succ])
                  refine wpAnyH_done (by kernel_rfl) ?_ _
                rotate_left 1
                focus
                  go_simp
                  refine hK.out _ _ ?_ (fun hHeld2 => ?_)
                  focus ((try dsimp only) <;> (first | with_reducible exact hHeld | with_reducible exact hS2 | exact ⟨s0, s1⟩ | exact ⟨alloc_cell hHeld.1 _, alloc_cell hHeld.2 _⟩))
                  clear hK K
                  replace hHeld := hHeld2
                  clear hHeld2
                  (try simp only [Act.put, List.getElem_toArray, List.getElem_cons_zero, List.getElem_cons_succ, List.setIfInBounds_toArray, List.set_cons_zero, List.set_cons_succ])
                  refine wpAnyH_ready (rs := [4]) (by kernel_rfl) (by simp) ?_
                  refine AllReadyH.cons rfl (fun K hK => ?_) AllReadyH.nil
                  (have bA : Below w.heap.size w _ := (b3.drew.alloc b3.size (.cells #[] 26)).alloc (by have := b3.size; simp <;> omega) (.cells #[.int .i64 f, .int .i64 t] 26); have LA := L1 _ bA; refine step_appS ty (by decide) (by rfl) _ _ (by rfl) wc.heap.size (wc.heap.size) 0 0 [] (l.take k) rfl (by rfl) ((own_empty wc.drew).alloc (.cells #[.int .i64 f, .int .i64 t] 26)) (by simp <;> omega) sp1 k cap HT1.out (by rfl) LA C1 hz1 ?_; intro g4 c4 w4 o4 gr4; rw [List.nil_append] at o4; (try rw [Nat.zero_add]); have hS2 : w4.cell? ⟨w.heap.size, 0, none⟩ = some (.int .i64 f) ∧ w4.cell? ⟨w.heap.size, 1, none⟩ = some (.int .i64 t) := ⟨grown_cell gr4 hHeld.1 (by simp <;> omega), grown_cell gr4 hHeld.2 (by simp <;> omega)⟩; have n4 : wc.heap.size ≤ w4.heap.size := Nat.le_trans (by simp <;> omega) gr4.size; have b4 : Below w.heap.size w w4 := grown_below bA (Nat.le_refl _) (fun j hj => by cases hj; omega) gr4; have LB0 := (El.lies_new (E := E) (T := 26) (w := wc.drew.alloc (.cells #[] 26)) (x := (f, t)) (cs := #[.int .i64 f, .int .i64 t]) rfl); rw [show (wc.drew.alloc (.cells #[] 26)).heap.size = wc.heap.size + 1 by simp] at LB0; replace LB0 := LB0.grown gr4 (fun x hx => by cases hx; simp))
                  refine hK.out _ _ ?_ (fun hHeld2 => ?_)
                  focus ((try dsimp only) <;> (first | with_reducible exact hHeld | with_reducible exact hS2 | exact ⟨s0, s1⟩ | exact ⟨alloc_cell hHeld.1 _, alloc_cell hHeld.2 _⟩))
                  clear hK K
                  replace hHeld := hHeld2
                  clear hHeld2
                  (try simp only [Act.put, List.getElem_toArray, List.getElem_cons_zero, List.getElem_cons_succ, List.setIfInBounds_toArray, List.set_cons_zero, List.set_cons_succ])
                  refine wpAnyH_ready (rs := [7]) (by kernel_rfl) (by simp) ?_
                  refine AllReadyH.cons rfl (fun K hK => ?_) AllReadyH.nil
                  (have bB : Below w.heap.size w _ := b4; have LB := LB0; refine step_appS ty (by decide) (by rfl) _ _ (by rfl) wc.heap.size g4 c4 k (l.take k) [(f, t)] HT1.out (by rfl) (o4) n4 (some ⟨wc.heap.size + 1, 0, none⟩) 1 1 rfl (by rfl) LB (fun e => by cases e) hz2 ?_; intro g7 c7 w7 o7 gr7; have b7 : Below w.heap.size w w7 := grown_below bB (Nat.le_refl _) (fun j hj => by cases hj; have q := own_lo o4; omega) gr7; have hg4 : g4 ≠ w.heap.size := (by have q := own_lo o4; omega); have hS2 : w7.cell? ⟨w.heap.size, 0, none⟩ = some (.int .i64 f) ∧ w7.cell? ⟨w.heap.size, 1, none⟩ = some (.int .i64 t) := ⟨grown_cell gr7 hHeld.1 (by simp <;> omega), grown_cell gr7 hHeld.2 (by simp <;> omega)⟩)
                  refine hK.out _ _ ?_ (fun hHeld2 => ?_)
                  focus ((try dsimp only) <;> (first | with_reducible exact hHeld | with_reducible exact hS2 | exact ⟨s0, s1⟩ | exact ⟨alloc_cell hHeld.1 _, alloc_cell hHeld.2 _⟩))
                  clear hK K
                  replace hHeld := hHeld2
                  clear hHeld2
                  (try simp only [Act.put, List.getElem_toArray, List.getElem_cons_zero, List.getElem_cons_succ, List.setIfInBounds_toArray, List.set_cons_zero, List.set_cons_succ])
                  refine wpAnyH_ready (rs := [11]) (by kernel_rfl) (by simp) ?_
                  refine AllReadyH.cons rfl (fun K hK => ?_) AllReadyH.nil
                  (refine step_appS ty (by decide) (by rfl) _ _ (by rfl) wc.heap.size g7 c7 (k + 1) (l.take k ++ [(f, t)]) (l.drop k) HT3.out (by rfl) o7 (Nat.le_trans n4 gr7.size) sp2 (l.length - k) (cap - k) HT2.out (by rfl) (L2 _ b7) C2 hz3 ?_; intro g9 c9 w9 o9 gr9; have b9 : Below w.heap.size w w9 := grown_below b7 (Nat.le_refl _) (fun j hj => by cases hj; have q := own_lo o7; omega) gr9; have hg7 : g7 ≠ w.heap.size := (by have q := own_lo o7; omega); have hS2 : w9.cell? ⟨w.heap.size, 0, none⟩ = some (.int .i64 f) ∧ w9.cell? ⟨w.heap.size, 1, none⟩ = some (.int .i64 t) := ⟨grown_cell gr9 hHeld.1 (by simp <;> omega), grown_cell gr9 hHeld.2 (by simp <;> omega)⟩)
                  refine hK.out _ _ ?_ (fun hHeld2 => ?_)
                  focus ((try dsimp only) <;> (first | with_reducible exact hHeld | with_reducible exact hS2 | exact ⟨s0, s1⟩ | exact ⟨alloc_cell hHeld.1 _, alloc_cell hHeld.2 _⟩))
                  clear hK K
                  replace hHeld := hHeld2
                  clear hHeld2
                  (try simp only [Act.put, List.getElem_toArray, List.getElem_cons_zero, List.getElem_cons_succ, List.setIfInBounds_toArray, List.set_cons_zero, List.set_cons_succ])
                  refine wpAnyH_take (i := 12) (v := ?_) rfl (by kernel_rfl) (by kernel_rfl) (by kernel_rfl) (fun _ _ _ h => h) (Or.inl ⟨by rfl, ?_⟩) (by assumption) ?_
                  rotate_left 1
                  focus (intro wS hSw; (try dsimp only at hSw); go_simp; first | done | (constructor <;> with_reducible rfl) | with_reducible rfl)
                  (try simp only [Act.put, List.getElem_toArray, List.getElem_cons_zero, List.getElem_cons_succ, List.setIfInBounds_toArray, List.set_cons_zero, List.set_cons_succ])
                  refine wpAnyH_take (i := 13) (v := ?_) rfl (by kernel_rfl) (by kernel_rfl) (by kernel_rfl) (fun _ _ _ h => h) (Or.inl ⟨by rfl, ?_⟩) (by assumption) ?_
                  rotate_left 1
                  focus (intro wS hSw; (try dsimp only at hSw); go_simp; first | done | (constructor <;> with_reducible rfl) | with_reducible rfl)
                  (try simp only [Act.put, List.getElem_toArray, List.getElem_cons_zero, List.getElem_cons_succ, List.setIfInBounds_toArray, List.set_cons_zero, List.set_cons_succ])
                  refine wpAnyH_done (by kernel_rfl) ?_ _
                rotate_left 1
              rotate_left 2
              focus
                go_simp
                refine hK.out _ _ ?_ (fun hHeld2 => ?_)
                focus ((try dsimp only) <;> (first | with_reducible exact hHeld | with_reducible exact hS2 | exact ⟨s0, s1⟩ | exact ⟨alloc_cell hHeld.1 _, alloc_cell hHeld.2 _⟩))
                clear hK K
                replace hHeld := hHeld2
                clear hHeld2
                (try simp only [Act.put, List.getElem_toArray, List.getElem_cons_zero, List.getElem_cons_succ, List.setIfInBounds_toArray, List.set_cons_zero, List.set_cons_succ])
                refine wpAnyH_ready (rs := [0]) (by kernel_rfl) (by simp) ?_
                refine AllReadyH.cons rfl (fun K hK => ?_) AllReadyH.nil
                go_simp
                refine hK.out _ _ ?_ (fun hHeld2 => ?_)
                focus ((try dsimp only) <;> (first | with_reducible exact hHeld | with_reducible exact hS2 | exact ⟨s0, s1⟩ | exact ⟨alloc_cell hHeld.1 _, alloc_cell hHeld.2 _⟩))
                clear hK K
                replace hHeld := hHeld2
                clear hHeld2
                (try simp only [Act.put, List.getElem_toArray, List.getElem_cons_zero, List.getElem_cons_succ, List.setIfInBounds_toArray, List.set_cons_zero, List.set_cons_succ])
                refine wpAnyH_ready (rs := [4]) (by kernel_rfl) (by simp) ?_
                refine AllReadyH.cons rfl (fun K hK => ?_) AllReadyH.nil
                (have oZ := (own_empty (wc.drew.alloc (.cells #[.int .i64 f, .int .i64 t] 26))).mono (B := wc.heap.size) (by simp <;> omega); rw [show (wc.drew.alloc (.cells #[.int .i64 f, .int .i64 t] 26)).heap.size = wc.heap.size + 1 by simp] at oZ; have bA : Below w.heap.size w _ := (b3.drew.alloc b3.size (.cells #[.int .i64 f, .int .i64 t] 26)).alloc (by have := b3.size; simp <;> omega) (.cells #[] 26); have LA := L1 _ bA; refine step_appS ty (by decide) (by rfl) _ _ (by rfl) wc.heap.size (wc.heap.size + 1) 0 0 [] (l.take k) rfl (by rfl) (oZ) (by simp <;> omega) sp1 k cap HT1.out (by rfl) LA C1 hz1 ?_; intro g4 c4 w4 o4 gr4; rw [List.nil_append] at o4; (try rw [Nat.zero_add]); have hS2 : w4.cell? ⟨w.heap.size, 0, none⟩ = some (.int .i64 f) ∧ w4.cell? ⟨w.heap.size, 1, none⟩ = some (.int .i64 t) := ⟨grown_cell gr4 hHeld.1 (by simp <;> omega), grown_cell gr4 hHeld.2 (by simp <;> omega)⟩; have n4 : wc.heap.size ≤ w4.heap.size := Nat.le_trans (by simp <;> omega) gr4.size; have b4 : Below w.heap.size w w4 := grown_below bA (Nat.le_refl _) (fun j hj => by cases hj; omega) gr4; have LB0 := ((El.lies_new (E := E) (T := 26) (w := wc.drew) (x := (f, t)) (cs := #[.int .i64 f, .int .i64 t]) rfl).alloc (.cells #[] 26)).grown gr4 (fun x hx => by cases hx; simp))
                refine hK.out _ _ ?_ (fun hHeld2 => ?_)
                focus ((try dsimp only) <;> (first | with_reducible exact hHeld | with_reducible exact hS2 | exact ⟨s0, s1⟩ | exact ⟨alloc_cell hHeld.1 _, alloc_cell hHeld.2 _⟩))
                clear hK K
                replace hHeld := hHeld2
                clear hHeld2
                (try simp only [Act.put, List.getElem_toArray, List.getElem_cons_zero, List.getElem_cons_succ, List.setIfInBounds_toArray, List.set_cons_zero, List.set_cons_succ])
                refine wpAnyH_ready (rs := [7]) (by kernel_rfl) (by simp) ?_
                refine AllReadyH.cons rfl (fun K hK => ?_) AllReadyH.nil
                (have bB : Below w.heap.size w _ := b4; have LB := LB0; refine step_appS ty (by decide) (by rfl) _ _ (by rfl) wc.heap.size g4 c4 k (l.take k) [(f, t)] HT1.out (by rfl) (o4) n4 (some ⟨wc.heap.size, 0, none⟩) 1 1 rfl (by rfl) LB (fun e => by cases e) hz2 ?_; intro g7 c7 w7 o7 gr7; have b7 : Below w.heap.size w w7 := grown_below bB (Nat.le_refl _) (fun j hj => by cases hj; have q := own_lo o4; omega) gr7; have hg4 : g4 ≠ w.heap.size := (by have q := own_lo o4; omega); have hS2 : w7.cell? ⟨w.heap.size, 0, none⟩ = some (.int .i64 f) ∧ w7.cell? ⟨w.heap.size, 1, none⟩ = some (.int .i64 t) := ⟨grown_cell gr7 hHeld.1 (by simp <;> omega), grown_cell gr7 hHeld.2 (by simp <;> omega)⟩)
                refine hK.out _ _ ?_ (fun hHeld2 => ?_)
                focus ((try dsimp only) <;> (first | with_reducible exact hHeld | with_reducible exact hS2 | exact ⟨s0, s1⟩ | exact ⟨alloc_cell hHeld.1 _, alloc_cell hHeld.2 _⟩))
                clear hK K
                replace hHeld := hHeld2
                clear hHeld2
                (try simp only [Act.put, List.getElem_toArray, List.getElem_cons_zero, List.getElem_cons_succ, List.setIfInBounds_toArray, List.set_cons_zero, List.set_cons_succ])
                refine wpAnyH_ready (rs := [11]) (by kernel_rfl) (by simp) ?_
                refine AllReadyH.cons rfl (fun K hK => ?_) AllReadyH.nil
                (refine step_appS ty (by decide) (by rfl) _ _ (by rfl) wc.heap.size g7 c7 (k + 1) (l.take k ++ [(f, t)]) (l.drop k) HT3.out (by rfl) o7 (Nat.le_trans n4 gr7.size) sp2 (l.length - k) (cap - k) HT2.out (by rfl) (L2 _ b7) C2 hz3 ?_; intro g9 c9 w9 o9 gr9; have b9 : Below w.heap.size w w9 := grown_below b7 (Nat.le_refl _) (fun j hj => by cases hj; have q := own_lo o7; omega) gr9; have hg7 : g7 ≠ w.heap.size := (by have q := own_lo o7; omega); have hS2 : w9.cell? ⟨w.heap.size, 0, none⟩ = some (.int .i64 f) ∧ w9.cell? ⟨w.heap.size, 1, none⟩ = some (.int .i64 t) := ⟨grown_cell gr9 hHeld.1 (by simp <;> omega), grown_cell gr9 hHeld.2 (by simp <;> omega)⟩)
                refine hK.out _ _ ?_ (fun hHeld2 => ?_)
                focus ((try dsimp only) <;> (first | with_reducible exact hHeld | with_reducible exact hS2 | exact ⟨s0, s1⟩ | exact ⟨alloc_cell hHeld.1 _, alloc_cell hHeld.2 _⟩))
                clear hK K
                replace hHeld := hHeld2
                clear hHeld2
                (try simp only [Act.put, List.getElem_toArray, List.getElem_cons_zero, List.getElem_cons_succ, List.setIfInBounds_toArray, List.set_cons_zero, List.set_cons_succ])
                refine wpAnyH_take (i := 12) (v := ?_) rfl (by kernel_rfl) (by kernel_rfl) (by kernel_rfl) (fun _ _ _ h => h) (Or.inl ⟨by rfl, ?_⟩) (by assumption) ?_
                rotate_left 1
                focus (intro wS hSw; (try dsimp only at hSw); go_simp; first | done | (constructor <;> with_reducible rfl) | with_reducible rfl)
                (try simp only [Act.put, List.getElem_toArray, List.getElem_cons_zero, List.getElem_cons_succ, List.setIfInBounds_toArray, List.set_cons_zero, List.set_cons_succ])
                refine wpAnyH_take (i := 13) (v := ?_) rfl (by kernel_rfl) (by kernel_rfl) (by kernel_rfl) (fun _ _ _ h => h) (Or.inl ⟨by rfl, ?_⟩) (by assumption) ?_
                rotate_left 1
                focus (intro wS hSw; (try dsimp only at hSw); go_simp; first | done | (constructor <;> with_reducible rfl) | with_reducible rfl)
                (try simp only [Act.put, List.getElem_toArray, List.getElem_cons_zero, List.getElem_cons_succ, List.setIfInBounds_toArray, List.set_cons_zero, List.set_cons_succ])
                refine wpAnyH_done (by kernel_rfl) ?_ _
              rotate_left 1
              all_goals
                rw [HAPP.out] at o9
                rw [HLEN.out]
                go_wp2_with fail
                go_ret2
                exact ⟨g9, c9, by rw [e2.out]; rfl, o9.mono (by omega), b9⟩

end Go.Proofs.Ytdipdenekhffcaa.Alm

/- Contract of the specification's RingBy (chapter 8); lists of at most 2^21 alarms. -/
import Derived.Test.YtdipdenekhffcaaAlmB
namespace Go.Proofs.Ytdipdenekhffcaa.Alm
open Go.RowKit RowG
set_option linter.unusedVariables false
set_option linter.unusedSimpArgs false

/-- A row of numbers. -/
def EI : El Int where
  enc n := [.int .i64 n]
  size := 1
  len _ := rfl
  one x u hu := by simp at hu; rw [hu]; rfl
  pos := by decide
theorem infoInt : (Try.prog.info? 2).map (fun i => (i.zero, i.size, i.bytes)) = some (some (.int .i64 0), 1, 8) := by kernel_rfl
theorem tyI : Typ Try.prog 33 2 EI 8 := ⟨Try.underlying33, by
  obtain ⟨i, hi, h0, h1, h2⟩ := info_parts infoInt
  exact ⟨i, _, hi, h0, h1, h2, rfl⟩⟩
def OwnI (w : World) (B g c : Nat) (l : List Int) : Prop := EI.Own 2 w B (some ⟨g, 0, none⟩) c l
theorem ownI_empty (w : World) : EI.Own 2 (w.alloc (.cells #[] 2)) w.heap.size (some ⟨w.heap.size, 0, none⟩) 0 [] := El.Own.made w
theorem tne : (2 : Nat) ≠ 26 := by decide
theorem tne' : (26 : Nat) ≠ 2 := by decide

/-- Without those that ring by now; and who these were. -/
def ringL (l : List Al) (now : Int) : List Al := if alarmsB l = true ∧ Num.plB now = true then l.filter (fun a => decide (now < a.1)) else []
def ringW (l : List Al) (now : Int) : List Int := if alarmsB l = true ∧ Num.plB now = true then (l.filter (fun a => decide (a.1 ≤ now))).map (·.2) else []

set_option maxHeartbeats 2000000 in
theorem specRingBy (a : Option Addr) (n cap : Nat) (l : List Al) (now : Int) (w : World) (hn : n = l.length) (h : Alarms w a l) (hl : l.length ≤ 2097152) :
    Calls Try.prog 20 #[.slice a n cap, .int .i64 now] w fun x w' => ∃ g c g2 c2, x = .returned (.tuple #[.slice (some ⟨g, 0, none⟩) (ringL l now).length c, .slice (some ⟨g2, 0, none⟩) (ringW l now).length c2]) ∧ Own w' w.heap.size g c (ringL l now) ∧ OwnI w' w.heap.size g2 c2 (ringW l now) ∧ Below w.heap.size w w' := by
  subst hn
  have b0 : Below w.heap.size w (w.alloc (.cells #[] 26)) := (Below.refl _ _).alloc (Nat.le_refl _) _
  have o0 := own_empty w
  have b1 := b0.alloc b0.size (.cells #[] 2)
  have o1 := o0.alloc (.cells #[] 2)
  have q1 : EI.Own 2 ((w.alloc (.cells #[] 26)).alloc (.cells #[] 2)) w.heap.size (some ⟨(w.alloc (.cells #[] 26)).heap.size, 0, none⟩) 0 [] := (ownI_empty _).mono b0.size
  have hsz : (w.alloc (.cells #[] 26)).heap.size = w.heap.size + 1 := by simp
  rw [hsz] at q1
  clear b0 o0 hsz
  have hfl : ∀ k (p : Al → Bool), ((l.take k).filter p).length ≤ k := fun k p => by
    have h1 := List.length_filter_le p (l.take k)
    rw [List.length_take] at h1
    omega
  have HFL : Hid _ := hfl
  clear hfl
  go_enter Try.func20, Try.ntmps20
  go_wp2_with fail
  refine (specAlarmsOk _ _ _ l _ rfl (h.same b1) hl).mono ?_
  rintro x w2 ⟨rfl, hB2⟩
  have b2 := b1.trans (hB2.mono b1.size)
  have o2 := o1.later hB2
  have q2 := q1.later hB2
  clear b1 o1 q1 hB2
  cases hok : alarmsB l
  · have e1 : ringL l now = [] := by simp [ringL, hok]
    have e2 : ringW l now = [] := by simp [ringW, hok]
    go_wp2_with fail
    go_ret2
    exact ⟨_, 0, _, 0, by rw [e1, e2]; rfl, by rw [e1]; exact o2, by rw [e2]; exact q2, b2⟩
  · go_wp2_with fail
    refine (Num.l1Place now _).mono ?_
    rintro x w3 ⟨rfl, rfl⟩
    cases hpl : Num.plB now
    · have e1 : ringL l now = [] := by simp [ringL, hpl]
      have e2 : ringW l now = [] := by simp [ringW, hpl]
      go_wp2_with fail
      go_ret2
      exact ⟨_, 0, _, 0, by rw [e1, e2]; rfl, by rw [e1]; exact o2, by rw [e2]; exact q2, b2⟩
    · have HL : Hid (ringL l now = l.filter (fun a => decide (now < a.1))) := by show _ = _; simp [ringL, hok, hpl]
      have HW : Hid (ringW l now = (l.filter (fun a => decide (a.1 ≤ now))).map (·.2)) := by show _ = _; simp [ringW, hok, hpl]
      clear hok hpl
      go_wp2_with fail
      go_loopw [6, 7, 8] (fun v u iv wr => ∃ (k g c g2 c2 : Nat) (out : List Al) (who : List Int), k ≤ l.length ∧ iv = .int .i64 k ∧ v = .slice (some ⟨g, 0, none⟩) out.length c ∧ u = .slice (some ⟨g2, 0, none⟩) who.length c2 ∧ Hid (out = (l.take k).filter (fun a => decide (now < a.1))) ∧ Hid (who = ((l.take k).filter (fun a => decide (a.1 ≤ now))).map (·.2)) ∧ E.Own 26 wr w.heap.size (some ⟨g, 0, none⟩) c out ∧ EI.Own 2 wr w.heap.size (some ⟨g2, 0, none⟩) c2 who ∧ Below w.heap.size w wr) (fun _ _ iv _ => l.length - (intOf iv).toNat)
      case atStart => exact ⟨0, _, 0, _, 0, [], [], Nat.zero_le _, rfl, rfl, rfl, by show _ = _; simp, by show _ = _; simp, o2, q2, b2⟩
      case round =>
        clear o2 q2 b2
        obtain ⟨k, g, c, g2, c2, out, who, hk, rfl, rfl, rfl, hout, hwho, o1, q1, b1⟩ := hrel
        by_cases hlt : k < l.length
        · have i0 : (0 : Int) ≤ (k : Int) := by omega
          have i1 : (k : Int) < (l.length : Int) := by omega
          have hol : out.length ≤ k := by rw [hout.out]; exact HFL.out k _
          have hwl : who.length ≤ k := by rw [hwho.out, List.length_map]; exact HFL.out k _
          have hne : g ≠ g2 := own_twoS tne' o1 q1
          rcases h.same b1 with hs | ⟨b, off, rfl, hs⟩
          · simp [hs] at hlt
          have d0 := (hs k hlt).1
          have d1 := (hs k hlt).2
          have HT : Hid _ := filter_step hlt (fun a => decide (now < a.1))
          have HU : Hid _ := filter_step hlt (fun a => decide (a.1 ≤ now))
          rw [getD_at] at d0 d1
          generalize at' l k = s at *
          obtain ⟨f, t⟩ := s
          simp only at d0 d1
          clear hs
          by_cases hw : f ≤ now
          · have hw' : ¬ now < f := by omega
            have HF : Hid (out = (l.take (k + 1)).filter (fun a => decide (now < a.1))) := by show _ = _; rw [HT.out, hout.out]; simp [hw']
            have HG : Hid (who ++ [t] = ((l.take (k + 1)).filter (fun a => decide (a.1 ≤ now))).map (·.2)) := by show _ = _; rw [HU.out, hwho.out]; simp [hw]
            clear HT HU hout hwho
            have n2 : w.heap.size ≤ (wr.alloc (.cells #[.int .i64 t] 2)).heap.size := by have := b1.size; simp; omega
            have o2 := o1.alloc (.cells #[.int .i64 t] 2)
            have q2 := q1.alloc (.cells #[.int .i64 t] 2)
            have L2 : EI.Lies (wr.alloc (.cells #[.int .i64 t] 2)) (some ⟨wr.heap.size, 0, none⟩) [t] := El.lies_new rfl
            go_wp2_with (at_builtin; refine wpList_appS tyI (by decide) (by rfl) _ _ (by rfl) w.heap.size g2 c2 _ who [t] rfl (by rfl) q2 n2 (some ⟨wr.heap.size, 0, none⟩) 1 1 rfl (by rfl) L2 (fun e => by cases e) (by simp only [List.length_cons, List.length_nil]; omega) ?_; intro g1 c1 w3 q3 gr3)
            have b3 : Below w.heap.size w w3 := grown_below (b1.alloc b1.size _) (Nat.le_refl _) (fun j hj => by cases hj; exact (q1.lt _ rfl).1) gr3
            have o3 := own_grownS o2 gr3 hne
            have hlen : (who ++ [t]).length = who.length + 1 := by simp
            go_roundw
            case rel => exact ⟨k + 1, g, c, g1, c1, out, who ++ [t], by omega, by go_num, rfl, by rw [hlen], HF, HG, o3, q3, b3⟩
            case measure => simp [intOf]; omega
          · have hw' : now < f := by omega
            have HF : Hid (out ++ [(f, t)] = (l.take (k + 1)).filter (fun a => decide (now < a.1))) := by show _ = _; rw [HT.out, hout.out]; simp [hw']
            have HG : Hid (who = ((l.take (k + 1)).filter (fun a => decide (a.1 ≤ now))).map (·.2)) := by show _ = _; rw [HU.out, hwho.out]; simp [hw]
            clear HT HU hout hwho
            have n2 : w.heap.size ≤ (wr.alloc (.cells #[.int .i64 f, .int .i64 t] 26)).heap.size := by have := b1.size; simp; omega
            have o2 := o1.alloc (.cells #[.int .i64 f, .int .i64 t] 26)
            have q2 := q1.alloc (.cells #[.int .i64 f, .int .i64 t] 26)
            have L2 : E.Lies (wr.alloc (.cells #[.int .i64 f, .int .i64 t] 26)) (some ⟨wr.heap.size, 0, none⟩) [(f, t)] := El.lies_new rfl
            go_wp2_with (at_builtin; refine wpList_appS ty (by decide) (by rfl) _ _ (by rfl) w.heap.size g c _ out [(f, t)] rfl (by rfl) o2 n2 (some ⟨wr.heap.size, 0, none⟩) 1 1 rfl (by rfl) L2 (fun e => by cases e) (by simp only [List.length_cons, List.length_nil]; omega) ?_; intro g1 c1 w3 o3 gr3)
            have b3 : Below w.heap.size w w3 := grown_below (b1.alloc b1.size _) (Nat.le_refl _) (fun j hj => by cases hj; exact (o1.lt _ rfl).1) gr3
            have q3 := own_grownS q2 gr3 (Ne.symm hne)
            have hlen : (out ++ [(f, t)]).length = out.length + 1 := by simp
            go_roundw
            case rel => exact ⟨k + 1, g1, c1, g2, c2, out ++ [(f, t)], who, by omega, by go_num, by rw [hlen], rfl, HF, HG, o3, q3, b3⟩
            case measure => simp [intOf]; omega
        · have hkl : l.take k = l := List.take_of_length_le (by omega)
          have i1 : ¬ (k : Int) < (l.length : Int) := by omega
          have HF : Hid (ringL l now = out) := by show _ = _; rw [HL.out, hout.out, hkl]
          have HG : Hid (ringW l now = who) := by show _ = _; rw [HW.out, hwho.out, hkl]
          clear hout hwho HL HW
          go_wp2_with fail
          go_ret2
          exact ⟨g, c, g2, c2, by rw [HF.out, HG.out]; rfl, by rw [HF.out]; exact o1, by rw [HG.out]; exact q1, b1⟩

end Go.Proofs.Ytdipdenekhffcaa.Alm

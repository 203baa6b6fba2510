/- Contract of the program's RingBy (chapter 8); lists of at most 2^20 alarms. -/
import Derived.Test.YtdipdenekhffcaaAlmX
namespace Go.Proofs.Ytdipdenekhffcaa.Alm
open Go.RowKit RowG
set_option linter.unusedVariables false
set_option linter.unusedSimpArgs false

theorem fldWho (f t : Int) (w : World) : (Instr.field 26 (.agg #[.int .i64 f, .int .i64 t]) 1).run Try.prog w = .ok (.int .i64 t) w := by kernel_rfl

theorem ring_split {now : Int} : ∀ {l : List Al} {k : Nat}, Rise l → (∀ i, i < k → (at' l i).1 ≤ now) → (k < l.length → now < (at' l k).1) → k ≤ l.length → l.filter (fun a => decide (a.1 ≤ now)) = l.take k ∧ l.filter (fun a => decide (now < a.1)) = l.drop k := by
  intro l k hr h1 h2 hk
  have e : l = l.take k ++ l.drop k := (List.take_append_drop k l).symm
  have a1 : ∀ x ∈ l.take k, x.1 ≤ now := by
    intro x hx
    obtain ⟨i, hi, ei⟩ := List.getElem_of_mem hx
    rw [List.length_take] at hi
    have := h1 i (by omega)
    rw [at_lt (by omega)] at this
    rw [List.getElem_take] at ei
    rw [← ei]; exact this
  have a2 : ∀ x ∈ l.drop k, now < x.1 := by
    intro x hx
    obtain ⟨i, hi, ei⟩ := List.getElem_of_mem hx
    rw [List.length_drop] at hi
    have h3 := h2 (by omega)
    rw [List.getElem_drop] at ei
    by_cases q : i = 0
    · subst q
      rw [at_lt (by omega)] at h3
      simp at ei
      rw [← ei]; exact h3
    · have := rise_at hr (i := k) (j := k + i) (by omega) (by omega)
      rw [at_lt (i := k + i) (by omega), ei] at this
      simp [ltB] at this
      omega
  have f1 : (l.take k).filter (fun a => decide (a.1 ≤ now)) = l.take k := List.filter_eq_self.2 fun x hx => by simpa using a1 x hx
  have f2 : (l.drop k).filter (fun a => decide (a.1 ≤ now)) = [] := List.filter_eq_nil_iff.2 fun x hx => by have := a2 x hx; simp; omega
  have f3 : (l.take k).filter (fun a => decide (now < a.1)) = [] := List.filter_eq_nil_iff.2 fun x hx => by have := a1 x hx; simp; omega
  have f4 : (l.drop k).filter (fun a => decide (now < a.1)) = l.drop k := List.filter_eq_self.2 fun x hx => by simpa using a2 x hx
  constructor
  · conv => lhs; rw [e]
    rw [List.filter_append, f1, f2, List.append_nil]
  · conv => lhs; rw [e]
    rw [List.filter_append, f3, f4, List.nil_append]

set_option maxRecDepth 10000 in
set_option maxHeartbeats 4000000 in
theorem implRingBy (a : Option Addr) (n cap : Nat) (l : List Al) (now : Int) (w : World) (hn : n = l.length) (h : Alarms w a l) (hl : l.length ≤ 2097152) (ha : a = none → cap = 0) :
    Calls Try.prog 12 #[.slice a n cap, .int .i64 now] w fun x w' => ∃ g c g2 c2, x = .returned (.tuple #[.slice (some ⟨g, 0, none⟩) (ringL l now).length c, .slice (some ⟨g2, 0, none⟩) (ringW l now).length c2]) ∧ Own w' w.heap.size g c (ringL l now) ∧ OwnI w' w.heap.size g2 c2 (ringW l now) ∧ Below w.heap.size w w' := by
  subst hn
  have finNo : ∀ w1, Below w.heap.size w w1 → E.Own 26 ((w1.alloc (.cells #[] 26)).alloc (.cells #[] 2)) w.heap.size (some ⟨w1.heap.size, 0, none⟩) 0 [] ∧ EI.Own 2 ((w1.alloc (.cells #[] 26)).alloc (.cells #[] 2)) w.heap.size (some ⟨w1.heap.size + 1, 0, none⟩) 0 [] ∧ Below w.heap.size w ((w1.alloc (.cells #[] 26)).alloc (.cells #[] 2)) := by
    intro w1 b1
    have b2 := b1.alloc b1.size (.cells #[] 26)
    refine ⟨((own_empty w1).mono b1.size).alloc _, ?_, b2.alloc b2.size _⟩
    have := (ownI_empty (w1.alloc (.cells #[] 26))).mono (B := w.heap.size) b2.size
    rwa [show (w1.alloc (.cells #[] 26)).heap.size = w1.heap.size + 1 by simp] at this
  have FIN : Hid _ := finNo
  clear finNo
  go_enter Try.func12, Try.ntmps12
  go_wp2_with fail
  refine (implAlarmsOk _ _ _ l _ rfl h hl).mono ?_
  rintro x w1 ⟨rfl, b1⟩
  cases hok : alarmsB l
  · have e1 : ringL l now = [] := by simp [ringL, hok]
    have e2 : ringW l now = [] := by simp [ringW, hok]
    obtain ⟨q1, q2, q3⟩ := FIN.out w1 b1
    go_wp2_with fail
    go_ret2
    exact ⟨_, 0, _, 0, by rw [e1, e2]; rfl, by rw [e1]; exact q1, by rw [e2]; exact q2, q3⟩
  · go_wp2_with fail
    refine (Num.isPlace now _).mono ?_
    rintro x w2 ⟨rfl, rfl⟩
    cases hpl : Num.plB now
    · have e1 : ringL l now = [] := by simp [ringL, hpl]
      have e2 : ringW l now = [] := by simp [ringW, hpl]
      obtain ⟨q1, q2, q3⟩ := FIN.out w1 b1
      go_wp2_with fail
      go_ret2
      exact ⟨_, 0, _, 0, by rw [e1, e2]; rfl, by rw [e1]; exact q1, by rw [e2]; exact q2, q3⟩
    · have HL : Hid (ringL l now = l.filter (fun a => decide (now < a.1))) := by show _ = _; simp [ringL, hok, hpl]
      have HW : Hid (ringW l now = (l.filter (fun a => decide (a.1 ≤ now))).map (·.2)) := by show _ = _; simp [ringW, hok, hpl]
      have HR : Hid (Rise l) := ok_rise hok
      have hl20 := ok_len hok
      clear FIN hok hpl
      go_wp2_with fail
      refine (waitingOf _ _ _ l _ rfl (h.same b1) hl ha).mono ?_
      rintro x w3 ⟨v, g, c, rfl, h3, hv, b3⟩
      have B3 := b1.trans (b3.mono b1.size)
      have hvl : v < w3.heap.size := h3.var.lt
      have hgl : g < w3.heap.size := (h3.own.lt _ rfl).2
      have hg : w1.heap.size ≤ g := (h3.own.lt _ rfl).1
      have bA : Below w3.heap.size w3 (w3.alloc (.cells #[] 2)) := (Below.refl _ _).alloc (Nat.le_refl _) _
      have h4 := h3.later bA
      have q4 := ownI_empty w3
      have t4 : Tw v g w3 (w3.alloc (.cells #[] 2)) := Tw.ofBelow bA
      clear h3 bA b3
      go_wp2_with fail
      go_loopw [7] (fun sv wr => ∃ (k g2 c2 : Nat) (m : List Al), k ≤ l.length ∧ sv = .slice (some ⟨g2, 0, none⟩) k c2 ∧ Hid (∀ i, i < k → (at' l i).1 ≤ now) ∧ Hid (Heap m m.length) ∧ Hid (m.Perm (l.drop k)) ∧ Wt wr w1.heap.size v g c m ∧ EI.Own 2 wr w3.heap.size (some ⟨g2, 0, none⟩) c2 ((l.take k).map (·.2)) ∧ Tw v g w3 wr) (fun sv _ => l.length - (match sv with | .slice _ n _ => n | _ => 0))
      case atStart => exact ⟨0, _, 0, l, Nat.zero_le _, rfl, fun i hi => absurd hi (by omega), rise_heap HR.out, by show List.Perm _ _; exact List.Perm.refl _, h4, by rw [List.take_zero]; exact q4, t4⟩
      case round =>
        clear h4 t4 q4
        obtain ⟨k, g2, c2, m, hk, rfl, hlo, hh, hp, h4, o1, tw⟩ := hrel
        have hml : m.length = l.length - k := by rw [hp.out.length_eq]; simp
        have hml2 : m.length ≤ 2097152 := by omega
        have HML : Hid _ := hml
        clear hml
        have s0 := h4.var.cell (i := 0) rfl
        by_cases hgo : k < l.length ∧ (at' l k).1 ≤ now
        · have hlt := hgo.1
          have HS : Hid (l.drop k = at' l k :: l.drop (k + 1)) := by show _ = _; rw [List.drop_eq_getElem_cons hlt, at_lt hlt]
          have HT : Hid ((l.take (k + 1)).map (·.2) = (l.take k).map (·.2) ++ [(at' l k).2]) := by show _ = _; rw [List.take_succ_eq_append_getElem hlt, List.map_append, at_lt hlt]; rfl
          have HRR : Hid (Rise (at' l k :: l.drop (k + 1))) := by rw [← HS.out]; exact HR.out.drop
          have HPP : Hid (m.Perm (at' l k :: l.drop (k + 1))) := by rw [← HS.out]; exact hp.out
          have HD : Hid (decide (0 < m.length ∧ (at' m 0).1 ≤ now) = true) := by
            show _ = _
            rw [heap_first hh.out HPP.out HRR.out, decide_eq_true_eq]
            exact ⟨by have := HML.out; omega, hgo.2⟩
          have HN : Hid (∀ i, i < k + 1 → (at' l i).1 ≤ now) := fun i hi => by
            by_cases q : i = k
            · rw [q]; exact hgo.2
            · exact hlo.out i (by omega)
          clear hgo hp HS hlo
          go_wp2_with fail
          refine (wRings _ g c _ m now _ rfl h4.own hml2).mono ?_
          rintro x w5 ⟨rfl, rfl⟩
          rw [HD.out]
          go_wp2_with fail
          refine (wNext _ v g c m (l.drop (k + 1)) (at' l k) _ h4 hml2 hh.out HPP.out HRR.out).mono ?_
          rintro e w5 ⟨m2, rfl, h5, hh5, hp5, t5⟩
          have hg2 : w3.heap.size ≤ g2 := (o1.lt _ rfl).1
          have o5 := t5.own o1 (by omega) (by omega)
          have tw5 := tw.trans t5
          have HH5 : Hid _ := hh5
          have HP5 : Hid _ := hp5
          clear h4 o1 tw t5 hh5 hp5 hh HPP HRR s0 HD
          generalize at' l k = y at *
          obtain ⟨f, t⟩ := y
          dsimp only
          have o6 := o5.alloc (.cells #[.int .i64 t] 2)
          have bA : Below w5.heap.size w5 (w5.alloc (.cells #[.int .i64 t] 2)) := (Below.refl _ _).alloc (Nat.le_refl _) _
          have h6 := h5.later bA
          have tw6 := tw5.trans (Tw.ofBelow bA)
          have n6 : w3.heap.size ≤ (w5.alloc (.cells #[.int .i64 t] 2)).heap.size := tw6.size
          have L6 : EI.Lies (w5.alloc (.cells #[.int .i64 t] 2)) (some ⟨w5.heap.size, 0, none⟩) [t] := El.lies_new rfl
          have HK : Hid (k = ((l.take k).map (·.2)).length) := by show _ = _; rw [List.length_map, List.length_take]; omega
          have hz : ((l.take k).map (·.2)).length + [t].length ≤ 4194304 := by rw [← HK.out]; simp; omega
          have hFld := fldWho
          go_wp2_with (at_builtin; refine wpList_appS tyI (by decide) (by rfl) _ _ (by rfl) w3.heap.size g2 c2 k ((l.take k).map (·.2)) [t] HK.out (by rfl) o6 n6 (some ⟨w5.heap.size, 0, none⟩) 1 1 rfl (by rfl) L6 (fun e => by cases e) hz ?_; intro g7 c7 w7 o7 gr7)
          have h7 : Wt w7 w1.heap.size v g c m2 := ⟨h6.var.grown gr7 (fun j hj => by cases hj; omega), own_grownS h6.own gr7 (by omega)⟩
          have tw7 : Tw v g w3 w7 := ⟨gr7.os.trans tw6.os, gr7.tape.trans tw6.tape, gr7.output.trans tw6.output, Nat.le_trans tw6.size gr7.size, fun i hi q1 q2 => (gr7.block i (Nat.lt_of_lt_of_le hi tw6.size) (by simp; omega)).trans (tw6.block i hi q1 q2)⟩
          go_roundw
          case rel => exact ⟨k + 1, g7, c7, m2, by omega, rfl, HN, HH5, HP5, h7, by rw [HT.out]; exact o7, tw7⟩
          case measure => simp; omega
        · have HSP : Hid _ := ring_split HR.out hlo.out (fun q => by have := fun z => hgo ⟨q, z⟩; omega) hk
          have e1 : Hid (ringL l now = l.drop k) := by show _ = _; rw [HL.out]; exact HSP.out.2
          have e2 : Hid (ringW l now = (l.take k).map (·.2)) := by show _ = _; rw [HW.out, HSP.out.1]
          have HD : Hid (decide (0 < m.length ∧ (at' m 0).1 ≤ now) = false) := by
            show _ = _
            rw [decide_eq_false_iff_not]
            rintro ⟨q1, q2⟩
            have hlt : k < l.length := by have := HML.out; omega
            have hd : l.drop k = at' l k :: l.drop (k + 1) := by rw [List.drop_eq_getElem_cons hlt, at_lt hlt]
            have := heap_first hh.out (by rw [← hd]; exact hp.out) (by rw [← hd]; exact HR.out.drop)
            rw [this] at q2
            exact hgo ⟨hlt, q2⟩
          have HRD : Hid (Rise (l.drop k)) := HR.out.drop
          clear hgo HSP hlo HL HW
          go_wp2_with fail
          refine (wRings _ g c _ m now _ rfl h4.own hml2).mono ?_
          rintro x w5 ⟨rfl, rfl⟩
          rw [HD.out]
          go_wp2_with fail
          refine (soonestFirst _ v g c m (l.drop k) _ h4 hml2 hh.out hp.out HRD.out).mono ?_
          rintro x w6 ⟨g6, c6, rfl, o6, t6⟩
          have hg2 : w3.heap.size ≤ g2 := (o1.lt _ rfl).1
          have o7 := t6.own o1 (by omega) (by omega)
          have tw6 := tw.trans t6
          have B6 : Below w.heap.size w w6 := B3.trans (tw6.below (by have := b1.size; omega) (by have := b1.size; omega) B3.size)
          have hs1 : w.heap.size ≤ wr.heap.size := Nat.le_trans B3.size tw.size
          have HK : Hid (k = ((l.take k).map (·.2)).length) := by show _ = _; rw [List.length_map, List.length_take]; omega
          go_wp2_with fail
          go_ret2
          exact ⟨g6, c6, g2, c2, by rw [e1.out, e2.out, ← HK.out, List.length_drop]; rfl, by rw [e1.out]; exact o6.el.mono hs1, by rw [e2.out]; exact o7.mono B3.size, B6⟩

end Go.Proofs.Ytdipdenekhffcaa.Alm

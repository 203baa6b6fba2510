/- The methods of the program's heap of alarms behind container/heap's interface, and container/heap's up (chapter 8); lists of at most 2^21 alarms. -/
import Derived.Test.YtdipdenekhffcaaAlmT
namespace Go.Proofs.Ytdipdenekhffcaa.Alm
open Go.RowKit RowG
set_option linter.unusedVariables false
set_option linter.unusedSimpArgs false

theorem nilChk (t : TypeId) (a : Addr) (s1 s2 : String) (w : World) : (Builtin.ssaWrapNilChk_ #[t] t #[.pointer (some a), strVal s1, strVal s2]).run Try.prog w = .ok (.pointer (some a)) w := by rfl
theorem rowLen : (Try.prog.info? 57).map (fun i => (i.methods.find? (·.name == "Len")).map (fun m => (m.path, m.func))) = some (some (#[], some (55, false))) := by kernel_rfl
theorem rowLess : (Try.prog.info? 57).map (fun i => (i.methods.find? (·.name == "Less")).map (fun m => (m.path, m.func))) = some (some (#[], some (80, false))) := by kernel_rfl
theorem rowSwap : (Try.prog.info? 57).map (fun i => (i.methods.find? (·.name == "Swap")).map (fun m => (m.path, m.func))) = some (some (#[], some (83, false))) := by kernel_rfl
theorem rowPush : (Try.prog.info? 57).map (fun i => (i.methods.find? (·.name == "Push")).map (fun m => (m.path, m.func))) = some (some (#[], some (82, true))) := by kernel_rfl
theorem rowPop : (Try.prog.info? 57).map (fun i => (i.methods.find? (·.name == "Pop")).map (fun m => (m.path, m.func))) = some (some (#[], some (81, true))) := by kernel_rfl
theorem row_parts {T : TypeId} {nm : String} {F : FuncId} {b : Bool} (hr : (Try.prog.info? T).map (fun i => (i.methods.find? (·.name == nm)).map (fun m => (m.path, m.func))) = some (some (#[], some (F, b)))) : ∃ i m, Try.prog.info? T = some i ∧ i.methods.find? (·.name == nm) = some m ∧ m.path = #[] ∧ m.func = some (F, b) := by
  cases hi : Try.prog.info? T with
  | none => rw [hi] at hr; simp at hr
  | some i =>
    rw [hi] at hr
    simp only [Option.map_some, Option.some.injEq] at hr
    cases hm : i.methods.find? (·.name == nm) with
    | none => rw [hm] at hr; simp at hr
    | some m =>
      rw [hm] at hr
      simp only [Option.map_some, Option.some.injEq, Prod.mk.injEq] at hr
      exact ⟨i, m, rfl, hm, hr.1, hr.2⟩
/-- A method of the value behind a pointer. -/
theorem mVal {nm : String} {F : FuncId} (hr : (Try.prog.info? 57).map (fun i => (i.methods.find? (·.name == nm)).map (fun m => (m.path, m.func))) = some (some (#[], some (F, false)))) (n : Nat) {v : Nat} {x : Value} {w : World} (h : w.cell? ⟨v, 0, none⟩ = some x) : (method (n + 1) 57 (.pointer (some ⟨v, 0, none⟩)) nm).run Try.prog w = .ok (F, x) w := by
  obtain ⟨i, m, hi, hm, hp, hf⟩ := row_parts hr
  unfold method
  simp [typeInfo, hi, hm, hp, hf, follow, receiverAt, run_underlying Try.underlying57, Place.get, nilChk]
  go_simp
/-- A method of the pointer. -/
theorem mPtr {nm : String} {F : FuncId} (hr : (Try.prog.info? 57).map (fun i => (i.methods.find? (·.name == nm)).map (fun m => (m.path, m.func))) = some (some (#[], some (F, true)))) (n : Nat) {v : Nat} {w : World} : (method (n + 1) 57 (.pointer (some ⟨v, 0, none⟩)) nm).run Try.prog w = .ok (F, .pointer (some ⟨v, 0, none⟩)) w := by
  obtain ⟨i, m, hi, hm, hp, hf⟩ := row_parts hr
  unfold method
  simp [typeInfo, hi, hm, hp, hf, follow, receiverAt, run_underlying Try.underlying57, Place.get, nilChk]

set_option maxRecDepth 10000 in
set_option maxHeartbeats 4000000 in
theorem heapUp (B v g c j : Nat) (l : List Al) (w : World) (h : Wt w B v g c l) (hl : l.length ≤ 2097152) (hj : j < l.length) (hu : Up l l.length j) :
    Calls Try.prog 54 #[.iface 57 (.pointer (some ⟨v, 0, none⟩)), .int .i64 (j : Int)] w fun x w' => ∃ l', x = .returned (.tuple #[]) ∧ Wt w' B v g c l' ∧ Heap l' l'.length ∧ l'.Perm l ∧ Tw v g w w' := by
  go_enter Try.func54, Try.ntmps54
  go_wp2_with fail
  go_loopw [1, 4] (fun jv _ wr => ∃ (k : Nat) (m : List Al), jv = .int .i64 k ∧ k < m.length ∧ Hid (m.length = l.length) ∧ Hid (Up m m.length k) ∧ Hid (m.Perm l) ∧ Wt wr B v g c m ∧ Tw v g w wr) (fun jv _ _ => (intOf jv).toNat)
  case atStart => exact ⟨j, l, rfl, hj, by show _ = _; rfl, hu, List.Perm.refl _, h, Tw.refl _ _ _⟩
  case round =>
    clear h hu hj
    obtain ⟨k, m, rfl, hk, hml, hu, hp, h, tw⟩ := hrel
    have hm2 : m.length ≤ 2097152 := by have := hml.out; omega
    by_cases k0 : k = 0
    · subst k0
      have HH : Hid (Heap m m.length) := hu.out.stop (.inl rfl)
      go_wp2_with fail
      go_end0
      exact ⟨m, rfl, h, HH.out, hp.out, tw⟩
    · obtain ⟨i, hi⟩ : ∃ i, (k - 1) / 2 = i := ⟨_, rfl⟩
      have hik : ((i : Int) == (k : Int)) = false := by rw [beq_eq_false_iff_ne]; omega
      have hlt : i < m.length := by omega
      have him : i < k := by omega
      have HU : Hid _ := hu
      rw [← hi] at hlt him hik
      have e1 : ((k : Int) - 1).tdiv 2 = (((k - 1) / 2 : Nat) : Int) := by
        rw [Int.tdiv_eq_ediv_of_nonneg (by omega)]; omega
      rw [hi] at hlt him hik e1
      have HI : Hid _ := hi
      clear hi
      have hM1 : (method 205 57 (.pointer (some ⟨v, 0, none⟩)) "Less").run Try.prog wr = .ok (80, .slice (some ⟨g, 0, none⟩) m.length c) wr := mVal rowLess _ (h.var.cell (i := 0) rfl)
      go_wp2_with fail
      refine (wLess B g c _ m k i _ rfl h.own (by have := hml.out; omega) hk hlt).mono ?_
      rintro x w1 ⟨rfl, b1⟩
      have h1 := h.later b1
      have tw1 : Tw v g w w1 := tw.trans (Tw.ofBelow b1)
      clear h tw b1 hM1
      cases hc : ltB (at' m k) (at' m i)
      · have HH : Hid (Heap m m.length) := HU.out.stop (.inr (by rw [HI.out]; exact hc))
        clear HU hu
        go_wp2_with fail
        go_end0
        exact ⟨m, rfl, h1, HH.out, hp.out, tw1⟩
      · have HU2 : Hid (Up (sw m i k) (sw m i k).length i) := by
          have := HU.out.step (Nat.le_refl _) hk (by omega) (by rw [HI.out]; exact hc)
          rw [HI.out] at this
          rw [sw_len]
          exact this
        have HP2 : Hid ((sw m i k).Perm l) := (sw_perm hlt hk).trans hp.out
        have hM2 : (method 205 57 (.pointer (some ⟨v, 0, none⟩)) "Swap").run Try.prog w1 = .ok (83, .slice (some ⟨g, 0, none⟩) m.length c) w1 := mVal rowSwap _ (h1.var.cell (i := 0) rfl)
        clear HU hu hp hc
        go_wp2_with fail
        refine (wSwap B g c _ m i k _ rfl h1.own (by have := hml.out; omega) hlt hk).mono ?_
        rintro x w2 ⟨rfl, o2, k2⟩
        have h2 := h1.kept k2 o2 (sw_len _ _ _)
        have tw2 : Tw v g w w2 := tw1.trans (Tw.ofKept k2)
        clear h1 tw1 k2 o2 hM2
        go_wp2_with fail
        go_roundw
        case rel => exact ⟨i, sw m i k, rfl, by rw [sw_len]; exact hlt, by show _ = _; rw [sw_len]; exact hml.out, HU2, HP2, h2, tw2⟩
        case measure => simp [intOf]; omega

end Go.Proofs.Ytdipdenekhffcaa.Alm

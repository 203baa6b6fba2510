/- Contracts of container/heap's Push and Pop over the program's heap of alarms, of its next and soonestFirst (chapter 8); lists of at most 2^20 alarms. -/
import Derived.Test.YtdipdenekhffcaaAlmV
namespace Go.Proofs.Ytdipdenekhffcaa.Alm
open Go.RowKit RowG
set_option linter.unusedVariables false
set_option linter.unusedSimpArgs false

set_option maxRecDepth 10000 in
set_option maxHeartbeats 4000000 in
theorem heapPush (B v g c : Nat) (l : List Al) (f t : Int) (w : World) (h : Wt w B v g c l) (hB : B ≤ w.heap.size) (hv : B ≤ v) (hl : l.length ≤ 1048576) (hh : Heap l l.length) :
    Calls Try.prog 38 #[.iface 57 (.pointer (some ⟨v, 0, none⟩)), .iface 26 (.agg #[.int .i64 f, .int .i64 t])] w fun x w' => ∃ g' c' l', x = .returned (.tuple #[]) ∧ Wt w' B v g' c' l' ∧ Heap l' l'.length ∧ l'.Perm ((f, t) :: l) ∧ Below B w w' := by
  have hM1 : (method 205 57 (.pointer (some ⟨v, 0, none⟩)) "Push").run Try.prog w = .ok (82, .pointer (some ⟨v, 0, none⟩)) w := mPtr rowPush _
  go_enter Try.func38, Try.ntmps38
  go_wp2_with fail
  refine (wPush B v g c l f t _ h hB (by omega)).mono ?_
  rintro x w1 ⟨g1, c1, rfl, h1, t1⟩
  have hg : B ≤ g := (h.own.lt _ rfl).1
  have b1 : Below B w w1 := t1.below hv hg hB
  have hB1 : B ≤ w1.heap.size := Nat.le_trans hB t1.size
  have HU : Hid (Up (l ++ [(f, t)]) (l ++ [(f, t)]).length l.length) := by
    have := push_up hh (f, t)
    rw [List.length_append]
    exact this
  have HP : Hid ((l ++ [(f, t)]).Perm ((f, t) :: l)) := List.perm_append_comm
  have hlen : (l ++ [(f, t)]).length = l.length + 1 := by simp
  have hM2 : (method 205 57 (.pointer (some ⟨v, 0, none⟩)) "Len").run Try.prog w1 = .ok (55, .slice (some ⟨g1, 0, none⟩) (l.length + 1) c1) w1 := by
    have := mVal rowLen (205 - 1) (h1.var.cell (i := 0) rfl)
    rw [hlen] at this
    exact this
  have HL : Hid _ := hlen
  clear hM1 h t1 hh hlen
  go_wp2_with fail
  refine (wLen _ _ _ _ (by omega)).mono ?_
  rintro x w2 ⟨rfl, rfl⟩
  have e1 : ((l.length + 1 : Nat) : Int) - 1 = (l.length : Int) := by omega
  go_wp2_with fail
  refine (heapUp B v g1 c1 l.length (l ++ [(f, t)]) _ h1 (by rw [HL.out]; omega) (by rw [HL.out]; omega) HU.out).mono ?_
  rintro x w3 ⟨l', rfl, h3, hh3, hp3, t3⟩
  have hg1 : B ≤ g1 := (h1.own.lt _ rfl).1
  have b3 : Below B w w3 := b1.trans (t3.below hv hg1 hB1)
  go_wp2_with fail
  go_end0
  exact ⟨g1, c1, l', rfl, h3, hh3, hp3.trans HP.out, b3⟩

set_option maxRecDepth 10000 in
set_option maxHeartbeats 4000000 in
theorem heapPop (B v g c : Nat) (l : List Al) (w : World) (h : Wt w B v g c l) (hl : l.length ≤ 2097152) (h0 : 0 < l.length) (hh : Heap l l.length) :
    Calls Try.prog 57 #[.iface 57 (.pointer (some ⟨v, 0, none⟩))] w fun x w' => ∃ l', x = .returned (.iface 26 (.agg #[.int .i64 (at' l 0).1, .int .i64 (at' l 0).2])) ∧ Wt w' B v g c l' ∧ Heap l' l'.length ∧ (at' l 0 :: l').Perm l ∧ Tw v g w w' := by
  obtain ⟨n, hn⟩ : ∃ n, l.length = n + 1 := ⟨l.length - 1, by omega⟩
  have HD : Hid (Dn (sw l 0 n) n 0) := by
    have := pop_dn hh h0
    rw [hn, Nat.add_sub_cancel] at this
    exact this
  have HN : Hid _ := hn
  have hn2 : (n : Int) + 1 ≤ 2097152 := by omega
  have hM1 : (method 205 57 (.pointer (some ⟨v, 0, none⟩)) "Len").run Try.prog w = .ok (55, .slice (some ⟨g, 0, none⟩) (n + 1) c) w := by
    have := mVal rowLen (205 - 1) (h.var.cell (i := 0) rfl)
    rw [hn] at this
    exact this
  have hM2 : (method 205 57 (.pointer (some ⟨v, 0, none⟩)) "Swap").run Try.prog w = .ok (83, .slice (some ⟨g, 0, none⟩) l.length c) w := mVal rowSwap _ (h.var.cell (i := 0) rfl)
  clear hn
  go_enter Try.func57, Try.ntmps57
  go_wp2_with fail
  refine (wLen _ _ _ _ (by omega)).mono ?_
  rintro x w0 ⟨rfl, rfl⟩
  go_wp2_with fail
  refine (wSwapI (i := 0) (j := n) rfl h.own hl h0 (by rw [HN.out]; omega) (by omega) (by omega)).mono ?_
  rintro x w1 ⟨rfl, o1, k1⟩
  have h1 := h.kept k1 o1 (sw_len _ _ _)
  have t1 : Tw v g w w1 := Tw.ofKept k1
  have hsl : (sw l 0 n).length = n + 1 := by rw [sw_len]; exact HN.out
  have HSL : Hid _ := hsl
  clear hM1 hM2 h o1 k1 hsl
  go_wp2_with fail
  refine (heapDown B v g c n (sw l 0 n) _ h1 (by rw [HSL.out]; omega) (by rw [HSL.out]; omega) (by rw [HSL.out]; omega) HD.out).mono ?_
  rintro x w2 ⟨m, bb, rfl, hml, h2, hh2, ht2, hp2, t2⟩
  have hml2 : m.length = n + 1 := hml.trans HSL.out
  have HM : Hid _ := hml2
  have HA : Hid (at' m n = at' l 0) := by
    show _ = _
    rw [ht2 n (Nat.le_refl _), sw_at h0 (by rw [HN.out]; omega), if_pos rfl]
  have HP : Hid (m.Perm l) := hp2.trans (sw_perm h0 (by rw [HN.out]; omega))
  have HH : Hid (Heap m n) := hh2
  have hM3 : (method 205 57 (.pointer (some ⟨v, 0, none⟩)) "Pop").run Try.prog w2 = .ok (81, .pointer (some ⟨v, 0, none⟩)) w2 := mPtr rowPop _
  have t02 := t1.trans t2
  clear t1 t2 h1 ht2 hp2 hh2 hml hml2 HD
  go_wp2_with fail
  refine (wPop B v g c m _ h2 (by rw [HM.out]; omega) (by rw [HM.out]; omega)).mono ?_
  rintro x w3 ⟨rfl, h3, t3⟩
  have e1 : m.length - 1 = n := by rw [HM.out]; rfl
  rw [e1] at h3 ⊢
  have HE : Hid (Heap (m.take n) (m.take n).length) := heap_take HH.out (by rw [HM.out]; omega)
  have HQ : Hid ((at' l 0 :: m.take n).Perm l) := by
    have q := perm_last (l := m) (by rw [HM.out]; omega)
    rw [e1, HA.out] at q
    exact q.symm.trans HP.out
  clear e1
  rw [HA.out]
  go_wp2_with fail
  go_ret
  exact ⟨m.take n, rfl, h3, HE.out, HQ.out, t02.trans t3⟩

theorem Tw.setNew {v g : Nat} {w w' : World} (h : Tw v g w w') {p : Addr} (hp : w.heap.size ≤ p.block) (u : Value) : Tw v g w (w'.setCell p u) :=
  ⟨h.os, h.tape, h.output, by simpa [World.setCell] using h.size, fun k hk h1 h2 => (Below.heap_setCell _ _ _ _ (by omega)).trans (h.block k hk h1 h2)⟩
theorem Wt.other {w : World} {B v g c : Nat} {l : List Al} (h : Wt w B v g c l) {p : Addr} (h1 : p.block ≠ v) (h2 : p.block ≠ g) (u : Value) : Wt (w.setCell p u) B v g c l :=
  ⟨h.var.other (Ne.symm h1) u, h.own.setCell (fun x hx => by cases hx; exact Ne.symm h2) u⟩
theorem res_cell {fn : Func} {p : Tmp} {ty : TypeId} (h : fn.results = #[.cell p ty]) (tmps : Array Value) (P : Program) (w : World) :
    (results fn tmps).run P w = ((asAddr (tmps.getD p undef)).run P w).andThen fun a w₁ => (loadVar ty a).run P w₁ := results_cell1 h tmps P w

set_option maxRecDepth 10000 in
set_option maxHeartbeats 4000000 in
theorem wNext (B v g c : Nat) (l s : List Al) (x : Al) (w : World) (h : Wt w B v g c l) (hl : l.length ≤ 2097152) (hh : Heap l l.length) (hp : l.Perm (x :: s)) (hr : Rise (x :: s)) :
    Calls Try.prog 45 #[.pointer (some ⟨v, 0, none⟩)] w fun e w' => ∃ l', e = .returned (.agg #[.int .i64 x.1, .int .i64 x.2]) ∧ Wt w' B v g c l' ∧ Heap l' l'.length ∧ l'.Perm s ∧ Tw v g w w' := by
  have hx := heap_first hh hp hr
  have h0 : 0 < l.length := by rw [hp.length_eq]; simp
  have z0 : Var 26 (w.alloc (.cells #[.int .i64 0, .int .i64 0] 26)) w.heap.size [.int .i64 0, .int .i64 0] := Var.new w _
  have b0 : Below w.heap.size w (w.alloc (.cells #[.int .i64 0, .int .i64 0] 26)) := (Below.refl _ _).alloc (Nat.le_refl _) _
  have h1 := h.later b0
  have t1 : Tw v g w (w.alloc (.cells #[.int .i64 0, .int .i64 0] 26)) := Tw.ofBelow b0
  have hgl : g < w.heap.size := (h.own.lt _ rfl).2
  have hvl : v < w.heap.size := h.var.lt
  have hAs := asAlarm
  clear h b0
  go_enter Try.func45, Try.ntmps45
  go_wp2_with fail
  refine (heapPop B v g c l _ h1 hl h0 hh).mono ?_
  rintro e w1 ⟨l', rfl, h2, hh2, hp2, t2⟩
  have z2 : Var 26 w1 w.heap.size [.int .i64 0, .int .i64 0] := z0.same (t2.block _ z0.lt (by omega) (by omega))
  have HP : Hid (l'.Perm s) := by
    rw [hx] at hp2
    exact List.Perm.cons_inv (hp2.trans hp)
  have HH : Hid (Heap l' l'.length) := hh2
  rw [hx]
  obtain ⟨f, t⟩ := x
  dsimp only
  have v3 := (z2.set 0 (.int .i64 f)).set 1 (.int .i64 t)
  have h3 : Wt ((w1.setCell ⟨w.heap.size, 0, none⟩ (.int .i64 f)).setCell ⟨w.heap.size, 1, none⟩ (.int .i64 t)) B v g c l' := (h2.other (p := ⟨w.heap.size, 0, none⟩) (by dsimp only; omega) (by dsimp only; omega) _).other (p := ⟨w.heap.size, 1, none⟩) (by dsimp only; omega) (by dsimp only; omega) _
  have t3 : Tw v g w ((w1.setCell ⟨w.heap.size, 0, none⟩ (.int .i64 f)).setCell ⟨w.heap.size, 1, none⟩ (.int .i64 t)) := ((t1.trans t2).setNew (p := ⟨w.heap.size, 0, none⟩) (Nat.le_refl _) _).setNew (p := ⟨w.heap.size, 1, none⟩) (Nat.le_refl _) _
  have c0 := z2.cell (i := 0) rfl
  have c1 := z2.cell (i := 1) rfl
  have f0 := z2.free 0
  have f1 := z2.free 1
  have d0 := v3.cell (i := 0) rfl
  have d1 := v3.cell (i := 1) rfl
  have H3 : Hid _ := h3
  have T3 : Hid _ := t3
  clear h1 h2 hh2 hp2 t1 t2 z0 z2 v3 h3 t3 hh hp hr hx
  go_wp2_with fail
  refine bodyPost_ret (v := .agg #[.int .i64 f, .int .i64 t]) (by rw [res_cell rfl]; go_simp) rfl ⟨rfl, l', H3.out, HH.out, HP.out, T3.out⟩

set_option maxRecDepth 10000 in
set_option maxHeartbeats 4000000 in
theorem soonestFirst (B v g c : Nat) (l s : List Al) (w : World) (h : Wt w B v g c l) (hl : l.length ≤ 2097152) (hh : Heap l l.length) (hp : l.Perm s) (hr : Rise s) :
    Calls Try.prog 39 #[.pointer (some ⟨v, 0, none⟩)] w fun e w' => ∃ g2 c2, e = .returned (.slice (some ⟨g2, 0, none⟩) s.length c2) ∧ Own w' w.heap.size g2 c2 s ∧ Tw v g w w' := by
  have hsl : s.length ≤ 2097152 := by rw [← hp.length_eq]; exact hl
  have b0 : Below w.heap.size w (w.alloc (.cells #[] 26)) := (Below.refl _ _).alloc (Nat.le_refl _) _
  have o0 := own_empty w
  have h1 := h.later b0
  have t1 : Tw v g w (w.alloc (.cells #[] 26)) := Tw.ofBelow b0
  have hgl : g < w.heap.size := (h.own.lt _ rfl).2
  have hvl : v < w.heap.size := h.var.lt
  clear h b0
  go_enter Try.func39, Try.ntmps39
  go_wp2_with fail
  go_loopw [3] (fun sv wr => ∃ (k g2 c2 : Nat) (m : List Al), k ≤ s.length ∧ sv = .slice (some ⟨g2, 0, none⟩) k c2 ∧ Hid (Heap m m.length) ∧ Hid (m.Perm (s.drop k)) ∧ Wt wr B v g c m ∧ E.Own 26 wr w.heap.size (some ⟨g2, 0, none⟩) c2 (s.take k) ∧ Tw v g w wr) (fun sv _ => s.length - (match sv with | .slice _ n _ => n | _ => 0))
  case atStart => exact ⟨0, _, 0, l, Nat.zero_le _, rfl, hh, by show List.Perm _ _; exact hp, h1, by rw [List.take_zero]; exact o0, t1⟩
  case round =>
    clear h1 t1 o0 hh hp
    obtain ⟨k, g2, c2, m, hk, rfl, hh, hp, h, o1, tw⟩ := hrel
    have hml : m.length = s.length - k := by rw [hp.out.length_eq]; simp
    have HML : Hid _ := hml
    have s0 := h.var.cell (i := 0) rfl
    by_cases hlt : k < s.length
    · have g0 : (0 : Int) < (m.length : Int) := by omega
      have HS : Hid (s.drop k = at' s k :: s.drop (k + 1)) := by show _ = _; rw [List.drop_eq_getElem_cons hlt, at_lt hlt]
      have HT : Hid (s.take (k + 1) = s.take k ++ [at' s k]) := by show _ = _; rw [List.take_succ_eq_append_getElem hlt, at_lt hlt]
      have HR : Hid (Rise (at' s k :: s.drop (k + 1))) := by rw [← HS.out]; exact hr.drop
      have HPP : Hid (m.Perm (at' s k :: s.drop (k + 1))) := by rw [← HS.out]; exact hp.out
      clear hml hp HS
      go_wp2_with fail
      refine (wLen _ _ _ _ (by have := HML.out; omega)).mono ?_
      rintro x w1 ⟨rfl, rfl⟩
      go_wp2_with fail
      refine (wNext B v g c m (s.drop (k + 1)) (at' s k) _ h (by have := HML.out; omega) hh.out HPP.out HR.out).mono ?_
      rintro e w2 ⟨m2, rfl, h2, hh2, hp2, t2⟩
      have hg2 : w.heap.size ≤ g2 := (o1.lt _ rfl).1
      have o2 := t2.own o1 (by omega) (by omega)
      have tw2 := tw.trans t2
      have HH2 : Hid _ := hh2
      have HP2 : Hid _ := hp2
      clear h o1 tw t2 hh2 hp2 hh HPP HR s0
      generalize at' s k = y at *
      obtain ⟨f, t⟩ := y
      dsimp only
      have o3 := o2.alloc (.cells #[.int .i64 f, .int .i64 t] 26)
      have bA : Below w2.heap.size w2 (w2.alloc (.cells #[.int .i64 f, .int .i64 t] 26)) := (Below.refl _ _).alloc (Nat.le_refl _) _
      have h3 := h2.later bA
      have tw3 := tw2.trans (Tw.ofBelow bA)
      have n3 : w.heap.size ≤ (w2.alloc (.cells #[.int .i64 f, .int .i64 t] 26)).heap.size := tw3.size
      have L3 : E.Lies (w2.alloc (.cells #[.int .i64 f, .int .i64 t] 26)) (some ⟨w2.heap.size, 0, none⟩) [(f, t)] := El.lies_new rfl
      have HK : Hid (k = (s.take k).length) := by show _ = _; rw [List.length_take]; omega
      have hz : (s.take k).length + [(f, t)].length ≤ 4194304 := by rw [← HK.out]; simp; omega
      go_wp2_with (at_builtin; refine wpList_appS ty (by decide) (by rfl) _ _ (by rfl) w.heap.size g2 c2 k (s.take k) [(f, t)] HK.out (by rfl) o3 n3 (some ⟨w2.heap.size, 0, none⟩) 1 1 rfl (by rfl) L3 (fun e => by cases e) hz ?_; intro g4 c4 w4 o4 gr4)
      have h4 : Wt w4 B v g c m2 := ⟨h3.var.grown gr4 (fun j hj => by cases hj; omega), own_grownS h3.own gr4 (by omega)⟩
      have tw4 : Tw v g w w4 := ⟨gr4.os.trans tw3.os, gr4.tape.trans tw3.tape, gr4.output.trans tw3.output, Nat.le_trans tw3.size gr4.size, fun i hi q1 q2 => (gr4.block i (Nat.lt_of_lt_of_le hi tw3.size) (by simp; omega)).trans (tw3.block i hi q1 q2)⟩
      go_roundw
      case rel => exact ⟨k + 1, g4, c4, m2, by omega, rfl, HH2, HP2, h4, by rw [HT.out]; exact o4, tw4⟩
      case measure => simp; omega
    · have g0 : ¬ (0 : Int) < (m.length : Int) := by omega
      have HF : Hid (s.take k = s) := List.take_of_length_le (by omega)
      have HKE : Hid (k = s.length) := by show _ = _; omega
      clear hml hp hh
      go_wp2_with fail
      refine (wLen _ _ _ _ (by have := HML.out; omega)).mono ?_
      rintro x w1 ⟨rfl, rfl⟩
      go_wp2_with fail
      go_ret
      exact ⟨g2, c2, by rw [← HKE.out]; rfl, by have := o1; rw [HF.out] at this; exact this, tw⟩

end Go.Proofs.Ytdipdenekhffcaa.Alm

/- Contracts of the program's joined and Added; lists of at most 2^21 spans, no longer than their room. -/
import Derived.Test.YtjlebhohhhkmfaaHoleQ
import Derived.BigRegion
import Derived.ArgAppend
import Derived.Deep.RegionLawGrows
import Derived.Laws.AppendOwnNone
namespace Go.Proofs.Ytjlebhohhhkmfaa.Hole
open Go.RowKit
set_option linter.unusedVariables false
set_option linter.unusedSimpArgs false

set_option maxHeartbeats 2000000 in
theorem joined (a : Option Addr) (n cap : Nat) (l : List Sp) (f t : Int) (w : World) (hn : n = l.length) (h : Spans w a l) (hl : l.length ≤ 2097152) :
    Calls Try.prog 38 #[.slice a n cap, .agg #[.int .i64 f, .int .i64 t]] w fun x w' => ∃ f' t', x = .returned (.agg #[.int .i64 f', .int .i64 t']) ∧ l.foldl joinS (f, t) = (f', t') ∧ Below w.heap.size w w' := by
  subst hn
  have hmix := mix
  go_enter Try.func38, Try.ntmps38
  go_wp2_with fail
  have x0 := Box.new w f t 26 (.cells #[.int .i64 0, .int .i64 0] 26)
  have x1 : Box ((w.alloc (.cells #[.int .i64 f, .int .i64 t] 26)).alloc (.cells #[.int .i64 0, .int .i64 0] 26)) (w.heap.size + 1) (0, 0) := by
    have := Box.one (w.alloc (.cells #[.int .i64 f, .int .i64 t] 26)) 0 0 26
    simpa using this
  have b0 : Below w.heap.size w ((w.alloc (.cells #[.int .i64 f, .int .i64 t] 26)).alloc (.cells #[.int .i64 0, .int .i64 0] 26)) := ((Below.refl _ _).alloc (Nat.le_refl _) _).alloc (by simp) _
  generalize (w.alloc (.cells #[.int .i64 f, .int .i64 t] 26)).alloc (.cells #[.int .i64 0, .int .i64 0] 26) = w0 at *
  go_loopw [9] (fun iv wr => ∃ (k : Nat) (sf st : Int), k ≤ l.length ∧ iv = .int .i64 k ∧ Hid ((l.take k).foldl joinS (f, t) = (sf, st)) ∧ Box wr w.heap.size (sf, st) ∧ Box wr (w.heap.size + 1) (0, 0) ∧ Below w.heap.size w wr) (fun iv _ => l.length - (intOf iv).toNat)
  case atStart => exact ⟨0, f, t, Nat.zero_le _, rfl, by show _ = _; simp, x0, x1, b0⟩
  case round =>
    clear x0 x1 b0
    obtain ⟨k, sf, st, hk, rfl, hfold, hbox, hres, hB⟩ := hrel
    by_cases hlt : k < l.length
    · rcases h with h | ⟨b, off, rfl, h⟩
      · simp [h] at hlt
      · have hbw : b < w.heap.size := Draw.lt_of_cell (h k hlt).1
        have d0 := (hB.cell (p := ⟨b, off + k * 2, none⟩) hbw).trans (h k hlt).1
        have d1 := (hB.cell (p := ⟨b, off + k * 2 + 1, none⟩) hbw).trans (h k hlt).2
        have i0 : (0 : Int) ≤ (k : Int) := by omega
        have i1 : (k : Int) < (l.length : Int) := by omega
        have HT : Hid ((l.take (k + 1)).foldl joinS (f, t) = joinS ((l.take k).foldl joinS (f, t)) (l.getD k (0, 0))) := fold_take hlt joinS (f, t)
        generalize l.getD k (0, 0) = s at *
        obtain ⟨xf, xt⟩ := s
        simp only at d0 d1
        clear h
        have HS : Hid ((l.take (k + 1)).foldl joinS (f, t) = joinS (sf, st) (xf, xt)) := by show _ = _; rw [HT.out, hfold.out]
        clear HT hfold
        have y0 := hbox.alloc (.cells #[.int .i64 xf, .int .i64 xt] 26)
        have y1 := hres.alloc (.cells #[.int .i64 xf, .int .i64 xt] 26)
        have y2 := Box.one wr xf xt 26
        have yB : Below w.heap.size w (wr.alloc (.cells #[.int .i64 xf, .int .i64 xt] 26)) := hB.alloc hB.size _
        have hne : w.heap.size < wr.heap.size := hbox.lt
        clear hbox hres hB
        have hfin : ∃ m M : Int, joinS (sf, st) (xf, xt) = (m, M) ∧ m = (if xf < sf then xf else sf) ∧ M = (if st < xt then xt else st) := by
          refine ⟨_, _, ?_, rfl, rfl⟩
          simp only [joinS, Prod.mk.injEq]
          constructor
          · split <;> split <;> omega
          · split <;> split <;> omega
        obtain ⟨m, M, hj, hm, hM⟩ := hfin
        have HS2 : Hid ((l.take (k + 1)).foldl joinS (f, t) = (m, M)) := by show _ = _; rw [HS.out, hj]
        clear HS hj
        have hm' : Hid (m = if xf < sf then xf else sf) := hm
        have hM' : Hid (M = if st < xt then xt else st) := hM
        clear hm hM
        have hY : Hid (∀ m M : Int, Box (((wr.alloc (.cells #[.int .i64 xf, .int .i64 xt] 26)).setCell ⟨w.heap.size, 0, none⟩ (.int .i64 m)).setCell ⟨w.heap.size, 1, none⟩ (.int .i64 M)).drew w.heap.size (m, M) ∧ Box (((wr.alloc (.cells #[.int .i64 xf, .int .i64 xt] 26)).setCell ⟨w.heap.size, 0, none⟩ (.int .i64 m)).setCell ⟨w.heap.size, 1, none⟩ (.int .i64 M)).drew (w.heap.size + 1) (0, 0) ∧ Below w.heap.size w (((wr.alloc (.cells #[.int .i64 xf, .int .i64 xt] 26)).setCell ⟨w.heap.size, 0, none⟩ (.int .i64 m)).setCell ⟨w.heap.size, 1, none⟩ (.int .i64 M)).drew) := fun m M => ⟨y0.put m M, y1.same ((Below.heap_setCell _ _ _ _ (by simp)).trans (Below.heap_setCell _ _ _ _ (by simp))), ((yB.setCell (p := ⟨w.heap.size, 0, none⟩) (Nat.le_refl _) _).setCell (p := ⟨w.heap.size, 1, none⟩) (Nat.le_refl _) _).drew⟩
        clear y1 yB
        by_cases q1 : xf < sf
        · by_cases q2 : st < xt
          · rw [if_pos q1] at hm'; rw [if_pos q2] at hM'
            go_wp2_with fail
            generalize wr.alloc (.cells #[.int .i64 xf, .int .i64 xt] 26) = W at *
            generalize wr.heap.size = o at *
            obtain ⟨⟨e0, e1⟩, e2, e3⟩ := y0
            obtain ⟨⟨z0, z1⟩, z2, z3⟩ := y2
            go_region
            go_wp2_with fail
            go_roundw
            case rel => exact ⟨k + 1, _, _, by omega, by go_num, by show _ = _; rw [HS2.out, hm'.out, hM'.out], (hY.out _ _).1, (hY.out _ _).2.1, (hY.out _ _).2.2⟩
            case measure => simp [intOf]; omega
          · rw [if_pos q1] at hm'; rw [if_neg q2] at hM'
            go_wp2_with fail
            generalize wr.alloc (.cells #[.int .i64 xf, .int .i64 xt] 26) = W at *
            generalize wr.heap.size = o at *
            obtain ⟨⟨e0, e1⟩, e2, e3⟩ := y0
            obtain ⟨⟨z0, z1⟩, z2, z3⟩ := y2
            go_region
            go_wp2_with fail
            go_roundw
            case rel => exact ⟨k + 1, _, _, by omega, by go_num, by show _ = _; rw [HS2.out, hm'.out, hM'.out], (hY.out _ _).1, (hY.out _ _).2.1, (hY.out _ _).2.2⟩
            case measure => simp [intOf]; omega
        · by_cases q2 : st < xt
          · rw [if_neg q1] at hm'; rw [if_pos q2] at hM'
            go_wp2_with fail
            generalize wr.alloc (.cells #[.int .i64 xf, .int .i64 xt] 26) = W at *
            generalize wr.heap.size = o at *
            obtain ⟨⟨e0, e1⟩, e2, e3⟩ := y0
            obtain ⟨⟨z0, z1⟩, z2, z3⟩ := y2
            go_region
            go_wp2_with fail
            go_roundw
            case rel => exact ⟨k + 1, _, _, by omega, by go_num, by show _ = _; rw [HS2.out, hm'.out, hM'.out], (hY.out _ _).1, (hY.out _ _).2.1, (hY.out _ _).2.2⟩
            case measure => simp [intOf]; omega
          · rw [if_neg q1] at hm'; rw [if_neg q2] at hM'
            go_wp2_with fail
            generalize wr.alloc (.cells #[.int .i64 xf, .int .i64 xt] 26) = W at *
            generalize wr.heap.size = o at *
            obtain ⟨⟨e0, e1⟩, e2, e3⟩ := y0
            obtain ⟨⟨z0, z1⟩, z2, z3⟩ := y2
            go_region
            go_wp2_with fail
            go_roundw
            case rel => exact ⟨k + 1, _, _, by omega, by go_num, by show _ = _; rw [HS2.out, hm'.out, hM'.out], (hY.out _ _).1, (hY.out _ _).2.1, (hY.out _ _).2.2⟩
            case measure => simp [intOf]; omega
    · have hkl : l.take k = l := List.take_of_length_le (by omega)
      have i1 : ¬ (k : Int) < (l.length : Int) := by omega
      have HF : Hid (l.foldl joinS (f, t) = (sf, st)) := by show _ = _; rw [← hfold.out, hkl]
      clear hfold hkl
      obtain ⟨⟨e0, e1⟩, e2, e3⟩ := hbox
      obtain ⟨⟨r0, r1⟩, r2, r3⟩ := hres
      simp only at e0 e1
      go_wp2_with fail
      refine bodyPost_ret (v := .agg #[.int .i64 sf, .int .i64 st]) (by rw [results_cell1 rfl]; go_simp) rfl ⟨sf, st, rfl, HF.out, (hB.setCell (p := ⟨w.heap.size + 1, 0, none⟩) (Nat.le_succ _) _).setCell (p := ⟨w.heap.size + 1, 1, none⟩) (Nat.le_succ _) _⟩

theorem Spans.slice {w : World} {a : Option Addr} {l : List Sp} (h : Spans w a l) (e hi m : Nat) (he : e ≤ hi) (hh : hi ≤ l.length) (hm : hi ≤ m) : Spans w (if m = e then a else a.map (·.add (e * 2))) ((l.drop e).take (hi - e)) := by
  by_cases h0 : hi = e
  · rw [h0, Nat.sub_self, List.take_zero]; exact .inl rfl
  · rw [if_neg (by omega)]
    rcases h with h | ⟨b, off, rfl, h⟩
    · subst h; simp at hh; omega
    · have ea : (⟨b, off, none⟩ : Addr).add (e * 2) = ⟨b, off + e * 2, none⟩ := by unfold Addr.add; split <;> simp_all
      refine .inr ⟨b, off + e * 2, by rw [Option.map_some, ea], fun j hj => ?_⟩
      have hj2 : e + j < hi := by simp at hj; omega
      have := h (e + j) (by omega)
      have e1 : ((l.drop e).take (hi - e)).getD j (0, 0) = l.getD (e + j) (0, 0) := by
        rw [List.getD_eq_getElem?_getD, List.getElem?_take, if_pos (by omega), List.getElem?_drop, List.getD_eq_getElem?_getD]
      rw [e1, show off + e * 2 + j * 2 = off + (e + j) * 2 by omega]
      exact this

theorem Spans.take {w : World} {a : Option Addr} {l : List Sp} (h : Spans w a l) (e : Nat) : Spans w a (l.take e) := by
  rcases h with h | ⟨b, off, rfl, h⟩
  · exact .inl (by rw [h, List.take_nil])
  · refine .inr ⟨b, off, rfl, fun j hj => ?_⟩
    have hj2 : j < e ∧ j < l.length := by simp at hj; omega
    have e1 : (l.take e).getD j (0, 0) = l.getD j (0, 0) := by rw [List.getD_eq_getElem?_getD, List.getElem?_take, if_pos hj2.1, List.getD_eq_getElem?_getD]
    rw [e1]
    exact h j hj2.2

theorem step_grow_span {w : World} {ops : Array Oper} {o : Oper} {a : Act} {K : Act → World → Prop} {Q : Exit → Act → World → Prop} {E : Prop} (hgd : o.guard = none) (s x : Operand)
    (ho : o.op = .call { callee := .builtin .append, args := #[s, x], argTypes := #[24, 24] })
    (ao : Option Addr) (n : Nat) (l : List Sp) (hn : n = l.length) (hl : l.length ≤ 2097152) (hs : a.eval s = .slice ao n n) (hsp : Spans w ao l) (hao : ao = none → n = 0)
    (ad : Addr) (f t : Int) (hx : a.eval x = .slice (some ad) 1 1) (hnews : ∀ j u, [Value.int .i64 f, .int .i64 t][j]? = some u → w.cell? (ad.add j) = some u)
    (h : ∀ g' c' w', Own w' w.heap.size g' c' (l ++ [(f, t)]) → w.grownBy w' none → K (a.put o.dst (.slice (some ⟨g', 0, none⟩) (n + 1) c')) w') :
    if Region.wanted o (yielded ops a.tmps) = true then Oper.wp Try.prog o a w K Q else E := by
  subst hn
  obtain ⟨i, hi, hz0, hz1, hz2⟩ := info_parts infoSpan
  refine step_append_grows hgd s x 24 ho 26 i (.agg #[.int .i64 0, .int .i64 0]) 2 16 Try.underlying24 hi hz0 hz1 hz2 rfl (by decide) ao l.length l.length (vals l) hs (fun q => ⟨hao q, hao q⟩) (vals_len l) (fun b hb => src_cells hsp hb) ad 1 1 [.int .i64 f, .int .i64 t] hx rfl hnews (two_cells _ _) (by omega) (by unfold maxLen; omega) (by omega) ?_
  intro v' w' h1 h2
  rcases h1.2 with ⟨hv, q⟩ | ⟨g', cap', cur, hv, _⟩
  · omega
  · subst hv
    exact h g' cap' w' (own_app h1) h2

theorem wpList_more_spans {w : World} {ops : Array Oper} {rest : List Oper} {o : Oper} {a : Act} {Q : Exit → Act → World → Prop} (hgd : o.guard = none) (s x : Operand)
    (ho : o.op = .call { callee := .builtin .append, args := #[s, x], argTypes := #[24, 24] })
    (B g c n : Nat) (l1 l2 : List Sp) (hn : n = l1.length) (hs : a.eval s = .slice (some ⟨g, 0, none⟩) n c) (hown : Own w B g c l1) (hB : B ≤ w.heap.size)
    (sp : Option Addr) (m cap : Nat) (hm : m = l2.length) (hx : a.eval x = .slice sp m cap) (hsp : Spans w sp l2) (hcap : sp = none → cap = 0) (hl : l1.length + l2.length ≤ 2097152) (w0 : World) (hb : Below B w0 w) (hB0 : B ≤ w0.heap.size)
    (h : ∀ g' c' w', Own w' B g' c' (l1 ++ l2) → Below B w0 w' → wpList Try.prog ops Q rest (a.put o.dst (.slice (some ⟨g', 0, none⟩) (n + m) c')) w') : wpList Try.prog ops Q (o :: rest) a w := by
  subst hn hm
  obtain ⟨i, hi, hz0, hz1, hz2⟩ := info_parts infoSpan
  have hgB := hown.lt.1
  cases sp with
  | none =>
    have hl0 : l2 = [] := by rcases hsp with e | ⟨_, _, e, _⟩; exact e; cases e
    subst hl0
    have hc0 := hcap rfl
    subst hc0
    refine wpList_append_own_none hgd s x 24 ho B 26 i 2 Try.underlying24 hi _ l1.length (vals l1) hs hown hx ?_
    have := h g c w (by rw [List.append_nil]; exact hown) hb
    simpa using this
  | some x' =>
    refine wpList_append_own _ hgd s x 24 ho B 26 i (.agg #[.int .i64 0, .int .i64 0]) 2 16 Try.underlying24 hi hz0 hz1 hz2 rfl (by decide) _ l1.length (vals l1) hs hown x' l2.length cap (vals l2) hx (vals_len l2) (src_cells hsp rfl) (all_cells l2) (by unfold maxLen; omega) (by omega) hB ?_
    intro v' w' h1 h2 h3
    rcases h1.2 with ⟨hv, _⟩ | ⟨g', cap', cur, hv, _⟩
    · exact absurd (h3.1 hv).1 (by simp)
    · subst hv
      refine h g' cap' w' ?_ (below_app hb hB0 hgB h2)
      unfold Own
      rw [List.length_append, show vals (l1 ++ l2) = vals l1 ++ vals l2 by simp [vals]]
      exact h1

end Go.Proofs.Ytjlebhohhhkmfaa.Hole

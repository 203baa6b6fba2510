/- Contracts of this seat's functions, and their mathematics (LawRp). -/
import Derived.Test.YtldghgadkncehaaM29
set_option linter.unusedVariables false
set_option linter.unusedSimpArgs false
set_option maxRecDepth 10000
set_option maxHeartbeats 2000000
namespace Go.Proofs.Ytldghgadkncehaa.Roa
open Go.RowKit RowG
/-- The marks that are written into a list of n roads, from k on. -/
def markR (k : Int) (i : Nat) : Rd := ⟨(k + 4 * (i : Int)) % 3 == 0, k + 4 * (i : Int) + 1, k + 4 * (i : Int) + 1 + 1, k + 4 * (i : Int) + 1 + 1 + 1⟩
def marks (k : Int) : Nat → List Rd
  | 0 => []
  | n + 1 => marks k n ++ [markR k n]
theorem marks_len (k : Int) (n : Nat) : (marks k n).length = n := by
  induction n with
  | zero => rfl
  | succ n ih => simp [marks, ih]
theorem marks_at (k : Int) : ∀ (n i : Nat), i < n → at' (marks k n) i = markR k i
  | 0, i, h => by omega
  | n + 1, i, h => by
    unfold at'
    rw [marks, List.getD_eq_getElem?_getD]
    by_cases e : i = n
    · subst e
      rw [List.getElem?_append_right (by rw [marks_len]; exact Nat.le_refl _), marks_len]
      simp
    · rw [List.getElem?_append_left (by rw [marks_len]; omega), ← List.getD_eq_getElem?_getD]
      exact marks_at k n i (by omega)
theorem setCell4_kept {w a : World} {g : Nat} (h : Draw.Kept g a w) (j0 j1 j2 j3 : Nat) (u0 u1 u2 u3 : Value) : Draw.Kept g a ((((w.setCell ⟨g, j0, none⟩ u0).setCell ⟨g, j1, none⟩ u1).setCell ⟨g, j2, none⟩ u2).setCell ⟨g, j3, none⟩ u3) :=
  (((h.setCell (p := ⟨g, j0, none⟩) (.inl rfl) _).setCell (p := ⟨g, j1, none⟩) (.inl rfl) _).setCell (p := ⟨g, j2, none⟩) (.inl rfl) _).setCell (p := ⟨g, j3, none⟩) (.inl rfl) _
theorem markRoadS (B g n cap : Nat) (l : List Rd) (q : Int) (w : World) (hn : n = l.length) (h : Own w B g cap l) (hl : l.length ≤ 4194304) (q0 : 0 ≤ q) (q1 : q ≤ 1000) :
    Calls Try.prog 63 #[.slice (some ⟨g, 0, none⟩) n cap, .int .i64 q] w fun x w' => x = .returned (.int .i64 (q + 4 * (l.length : Int))) ∧ Own w' B g cap (marks q l.length) ∧ Draw.Kept g w w' := by
  subst hn
  go_enter Try.func63, Try.ntmps63
  go_wp2_with fail
  go_loopw [1, 5] (fun qv iv wr => ∃ (k : Nat), k ≤ l.length ∧ iv = .int .i64 k ∧ qv = .int .i64 (q + 4 * (k : Int)) ∧ Own wr B g cap (marks q k ++ l.drop k) ∧ Draw.Kept g w wr) (fun _ iv _ => l.length - (intOf iv).toNat)
  case atStart => exact ⟨0, Nat.zero_le _, rfl, by simp, h, Draw.Kept.refl _ _⟩
  case round =>
    clear h
    obtain ⟨k, hk, rfl, rfl, hown, hkept⟩ := hrel
    by_cases hlt : k < l.length
    · have hlen : (marks q k ++ l.drop k).length = l.length := by simp [marks_len]; omega
      obtain ⟨⟨c0, c1, c2, c3⟩, f0, f1, f2, f3⟩ := own_nonempty hown (k := k) (by omega)
      have o2 := put4 hown (k := k) (by omega) (markR q k)
      have e : (marks q k ++ l.drop k).set k (markR q k) = marks q (k + 1) ++ l.drop (k + 1) := by
        rw [List.set_append_right _ _ (by rw [marks_len]; exact Nat.le_refl _), marks_len, Nat.sub_self, List.drop_eq_getElem_cons hlt, List.set_cons_zero, marks]
        simp
      rw [e] at o2
      dsimp only [markR] at o2
      have k2 := setCell4_kept hkept (k * 4) (k * 4 + 1) (k * 4 + 2) (k * 4 + 3) (.bool ((q + 4 * (k : Int)) % 3 == 0)) (.int .i64 (q + 4 * (k : Int) + 1)) (.int .i64 (q + 4 * (k : Int) + 1 + 1)) (.int .i64 (q + 4 * (k : Int) + 1 + 1 + 1))
      have O2 : Hid (Own _ _ _ _ _) := o2
      have K2 : Hid (Draw.Kept _ _ _) := k2
      have i0 : (0 : Int) ≤ (k : Int) := by omega
      have i1 : (k : Int) < (l.length : Int) := by omega
      clear hown o2 e hlen k2
      generalize (at' (marks q k ++ l.drop k) k) = y at *
      obtain ⟨y0, y1, y2, y3⟩ := y
      dsimp only at c0 c1 c2 c3
      go_wp2_with fail
      go_roundw
      case rel => exact ⟨k + 1, by omega, by go_num, by congr 1; omega, O2.out, K2.out⟩
      case measure => simp [intOf]; omega
    · have hkl : k = l.length := by omega
      subst hkl
      have e : marks q l.length ++ l.drop l.length = marks q l.length := by simp
      rw [e] at hown
      have i1 : ¬ (l.length : Int) < (l.length : Int) := by omega
      go_wp2_with fail
      go_ret
      exact ⟨rfl, hown, hkept⟩
theorem heldRoadS (a : Option Addr) (n cap m : Nat) (q : Int) (w : World) (hn : n = m) (h : E.Lies w a (marks q m)) (hl : m ≤ 4194304) (q0 : 0 ≤ q) (q1 : q ≤ 1000) :
    Calls Try.prog 65 #[.slice a n cap, .int .i64 q] w fun x w' => x = .returned (.int .i64 (q + 4 * (m : Int))) ∧ w = w' := by
  subst hn
  go_enter Try.func65, Try.ntmps65
  go_wp2_with fail
  go_loop [1, 5] (fun qv iv => ∃ (k : Nat), k ≤ n ∧ iv = .int .i64 k ∧ qv = .int .i64 (q + 4 * (k : Int))) (fun _ iv => n - (intOf iv).toNat)
  case atStart => exact ⟨0, Nat.zero_le _, rfl, by simp⟩
  case round =>
    obtain ⟨k, hk, rfl, rfl⟩ := hrel
    by_cases hlt : k < n
    · rcases h with h | ⟨b, off, rfl, h⟩
      · have := congrArg List.length h; rw [marks_len] at this; simp at this; omega
      · have hm := marks_at q n k hlt
        obtain ⟨d0, d1, d2, d3⟩ := cells4 h (k := k) (by rw [marks_len]; exact hlt)
        rw [hm] at d0 d1 d2 d3
        dsimp only [markR] at d0 d1 d2 d3
        have i0 : (0 : Int) ≤ (k : Int) := by omega
        have i1 : (k : Int) < (n : Int) := by omega
        clear h hm
        go_wp2_with fail
        go_round
        case rel => exact ⟨k + 1, by omega, by go_num, by congr 1; omega⟩
        case measure => simp [intOf]; omega
    · have hkl : k = n := by omega
      subst hkl
      have i1 : ¬ (k : Int) < (k : Int) := by omega
      go_wp2_with fail
      go_ret
      exact ⟨rfl, rfl⟩
instance : Inhabited Rd := ⟨zr⟩
theorem made_vals (n : Nat) : (madeCells #[Value.bool false, .int .i64 0, .int .i64 0, .int .i64 0] (n * 4)).toList = E.vals (List.replicate n zr) := by
  apply List.ext_getElem?
  intro i
  by_cases hi : i < n * 4
  · have hl : i / 4 < (List.replicate n zr).length := by simp; omega
    have hx : (List.replicate n zr)[i / 4]? = some zr := by rw [List.getElem?_replicate, if_pos (by omega)]
    have hv := fun j u hu => E.vals_at (List.replicate n zr) (i / 4) zr j u hx hu
    have hm : i % 4 = 0 ∨ i % 4 = 1 ∨ i % 4 = 2 ∨ i % 4 = 3 := by omega
    rcases hm with m | m | m | m
    · have := hv 0 _ rfl
      have e : i / 4 * 4 + 0 = i := by omega
      rw [show E.size = 4 from rfl, e] at this
      rw [this]
      simp [madeCells, hi, m, zr]
    · have := hv 1 _ rfl
      have e : i / 4 * 4 + 1 = i := by omega
      rw [show E.size = 4 from rfl, e] at this
      rw [this]
      simp [madeCells, hi, m, zr]
    · have := hv 2 _ rfl
      have e : i / 4 * 4 + 2 = i := by omega
      rw [show E.size = 4 from rfl, e] at this
      rw [this]
      simp [madeCells, hi, m, zr]
    · have := hv 3 _ rfl
      have e : i / 4 * 4 + 3 = i := by omega
      rw [show E.size = 4 from rfl, e] at this
      rw [this]
      simp [madeCells, hi, m, zr]
  · rw [List.getElem?_eq_none (by simp [madeCells]; omega), List.getElem?_eq_none (by rw [E.vals_len]; show (List.replicate n zr).length * 4 ≤ i; rw [List.length_replicate]; omega)]
theorem toRoadS (a : Option Addr) (n cap : Nat) (l : List Rd) (w : World) (hn : n = l.length) (h : E.Lies w a l) (hl : l.length ≤ 2097152) :
    Calls Try.prog 53 #[.slice a n cap] w fun x w' => ∃ g c, x = .returned (.slice (some ⟨g, 0, none⟩) l.length c) ∧ Own w' w.heap.size g c l ∧ Below w.heap.size w w' := by
  subst hn
  obtain ⟨i, hi, hz0, hz1, hz2⟩ := info_parts infoRoad
  have hby : i.bytes * l.length ≤ 281474976710656 := by rw [hz2]; omega
  have hmx : l.length ≤ maxLen := by unfold maxLen; omega
  go_enter Try.func53, Try.ntmps53
  go_wp2_with (at_make; refine wpList_make_full _ (by rfl) _ _ 35 (by rfl) w.heap.size 97 i (.agg #[.bool false, .int .i64 0, .int .i64 0, .int .i64 0]) 4 Try.underlying35 hi hz0 hz1 .i64 .i64 _ _ l.length (by rfl) (by rfl) rfl rfl hby hmx (Nat.le_refl _) ?_; intro w1 hown hgrow)
  have o1 : Own w1 w.heap.size w.heap.size l.length (List.replicate l.length zr) := by
    unfold Own El.Own
    rw [List.length_replicate, ← made_vals]
    exact hown
  have b1 : Below w.heap.size w w1 := (Below.refl _ _).grown hgrow (Nat.le_refl _) (fun _ h => by cases h)
  clear hown hgrow
  generalize hG : w.heap.size = g at *
  have HG : Hid _ := hG
  clear hG
  go_wp2_with fail
  go_loopw [4] (fun iv wr => ∃ k : Nat, k ≤ l.length ∧ iv = .int .i64 k ∧ Own wr g g l.length (l.take k ++ List.replicate (l.length - k) zr) ∧ Below g w wr) (fun iv _ => l.length - (intOf iv).toNat)
  case atStart => exact ⟨0, Nat.zero_le _, rfl, by simpa using o1, b1⟩
  case round =>
    clear o1 b1
    obtain ⟨k, hk, rfl, hown, hB⟩ := hrel
    by_cases hlt : k < l.length
    · have h1 := h.later (HG.out ▸ hB)
      rcases h1 with h1 | ⟨b, off, rfl, h1⟩
      · simp [h1] at hlt
      · obtain ⟨d0, d1, d2, d3⟩ := cells4 h1 hlt
        have i0 : (0 : Int) ≤ (k : Int) := by omega
        have i1 : (k : Int) < (l.length : Int) := by omega
        have HX : Hid (at' l k = l[k]) := by show _ = _; unfold at'; rw [List.getD_eq_getElem?_getD, List.getElem?_eq_getElem hlt]; rfl
        generalize at' l k = s at *
        have hT := fun w' => toRoad s w'
        have o2 := fun w' (hw : Own w' g g l.length (l.take k ++ List.replicate (l.length - k) zr)) => put4 hw (k := k) (by simp; omega) s
        have e : (l.take k ++ List.replicate (l.length - k) zr).set k s = l.take (k + 1) ++ List.replicate (l.length - (k + 1)) zr := by
          have ek : l.length - k = l.length - (k + 1) + 1 := by omega
          have hlk : (l.take k).length = k := by simp; omega
          rw [List.set_append_right _ _ (by omega), hlk, Nat.sub_self, ek, List.replicate_succ, List.set_cons_zero, List.take_succ_eq_append_getElem hlt, HX.out, List.append_assoc]
          rfl
        rw [e] at o2
        obtain ⟨so, sc, ss, sl⟩ := s
        dsimp only [Rd.v] at hT
        simp only at d0 d1 d2 d3 o2
        clear h1 e
        have hO2 : Hid _ := o2
        clear o2
        go_wp2_with fail
        refine (hT _).mono ?_
        rintro x wq ⟨rfl, hBq⟩
        have hown2 : Own wq g g l.length (l.take k ++ List.replicate (l.length - k) zr) := El.Own.later (E := E) hown hBq
        have hB2 := hB.trans (hBq.mono (Nat.le_of_lt (El.Own.lt (E := E) hown _ rfl).2))
        have hlen : (l.take k ++ List.replicate (l.length - k) zr).length = l.length := by simp; omega
        obtain ⟨⟨c0, c1, c2, c3⟩, f0, f1, f2, f3⟩ := own_nonempty hown2 (k := k) (by omega)
        have O2 : Hid _ := hO2.out wq hown2
        have B2 : Hid _ := (((hB2.setCell (p := ⟨g, k * 4, none⟩) (Nat.le_refl _) (.bool so)).setCell (p := ⟨g, k * 4 + 1, none⟩) (Nat.le_refl _) (.int .i64 sc)).setCell (p := ⟨g, k * 4 + 2, none⟩) (Nat.le_refl _) (.int .i64 ss)).setCell (p := ⟨g, k * 4 + 3, none⟩) (Nat.le_refl _) (.int .i64 sl)
        clear hown hown2 hB hBq hlen d0 d1 d2 d3 hO2 hT hB2
        generalize (at' (l.take k ++ List.replicate (l.length - k) zr) k) = y at *
        obtain ⟨y0, y1, y2, y3⟩ := y
        dsimp only at c0 c1 c2 c3
        go_wp2_with fail
        go_roundw
        case rel => exact ⟨k + 1, by omega, by go_num, O2.out, B2.out⟩
        case measure => simp [intOf]; omega
    · have hkl : k = l.length := by omega
      subst hkl
      have e : l.take l.length ++ List.replicate (l.length - l.length) zr = l := by simp
      rw [e] at hown
      have i1 : ¬ (l.length : Int) < (l.length : Int) := by omega
      go_wp2_with fail
      go_ret
      exact ⟨g, l.length, rfl, by rw [HG.out]; exact hown, by rw [HG.out]; exact hB⟩
/-- What a law is told of roads that came in. -/
theorem roads_of {w : World} {a : Option Addr} {len cap : Nat} (h : Shp.Shape.Holds w (.slice (.struct (.cons .bool (.cons (.int .i64) (.cons (.int .i64) (.cons (.int .i64) .nil)))))) [.slice a len cap]) : ∃ l : List Rd, len = l.length ∧ len ≤ maxLen ∧ E.Lies w a l ∧ (a = none → cap = 0) := by
  simp only [Shp.Shape.Holds] at h
  rcases h with h | ⟨x, n, c, h, hl, hm, hx⟩
  · simp at h
    obtain ⟨rfl, rfl, rfl⟩ := h
    exact ⟨[], rfl, Nat.zero_le _, .inl rfl, fun _ => rfl⟩
  · simp at h
    obtain ⟨rfl, rfl, rfl⟩ := h
    have each : ∀ i, i < len → ∃ s : Rd, ∀ j u, (E.enc s)[j]? = some u → w.cell? (x.add (i * 4 + j)) = some u := by
      intro i hi
      obtain ⟨cs', _, hc, h2⟩ := hx i hi
      simp only [Shp.Shapes.Holds, Shp.Shape.Holds] at h2
      obtain ⟨c1, c2, rfl, ⟨o, rfl⟩, c3, c4, rfl, ⟨c, rfl, _⟩, c5, c6, rfl, ⟨s, rfl, _⟩, c7, c8, rfl, ⟨l, rfl, _⟩, rfl⟩ := h2
      exact ⟨⟨o, c, s, l⟩, fun j u hu => hc j u hu⟩
    obtain ⟨q, hq⟩ := Deep.choose_lt each
    refine ⟨(List.range len).map q, by simp, by omega, ?_, fun h => by cases h⟩
    by_cases h0 : len = 0
    · exact .inl (by simp [h0])
    · obtain ⟨b, off, spot⟩ := x
      have hspot : spot = none := by simpa [Addr.add] using World.cell?_spot (hq 0 (by omega) 0 _ rfl)
      subst hspot
      refine .inr ⟨b, off, rfl, fun j u hu => ?_⟩
      have hj : j < (E.vals ((List.range len).map q)).length := (List.getElem?_eq_some_iff.1 hu).1
      rw [E.vals_len, show E.size = 4 from rfl] at hj
      simp at hj
      have hi : j / 4 < len := by omega
      have hx : ((List.range len).map q)[j / 4]? = some (q (j / 4)) := by simp [hi]
      have ht : j % 4 < (E.enc (q (j / 4))).length := by rw [E.len]; show j % 4 < 4; omega
      have hv := E.vals_at ((List.range len).map q) (j / 4) (q (j / 4)) (j % 4) _ hx (List.getElem?_eq_getElem ht)
      have ej : j / 4 * E.size + j % 4 = j := by show j / 4 * 4 + j % 4 = j; omega
      rw [ej, hu] at hv
      cases hv
      have := hq (j / 4) hi (j % 4) _ (List.getElem?_eq_getElem ht)
      rw [add_lit] at this
      have ej' : j / 4 * 4 + j % 4 = j := by omega
      rw [ej'] at this
      exact this
theorem road_of {w : World} {cs : Array Value} (h : Shp.Shape.Holds w (.struct (.cons .bool (.cons (.int .i64) (.cons (.int .i64) (.cons (.int .i64) .nil))))) cs.toList) : ∃ r : Rd, cs = #[.bool r.op, .int .i64 r.co, .int .i64 r.se, .int .i64 r.lo] := by
  simp only [Shp.Shape.Holds, Shp.Shapes.Holds] at h
  obtain ⟨c1, c2, e, ⟨o, rfl⟩, c3, c4, rfl, ⟨c, rfl, _⟩, c5, c6, rfl, ⟨s, rfl, _⟩, c7, c8, rfl, ⟨l, rfl, _⟩, rfl⟩ := h
  refine ⟨⟨o, c, s, l⟩, ?_⟩
  apply Array.ext'
  rw [e]
  rfl
end Go.Proofs.Ytldghgadkncehaa.Roa

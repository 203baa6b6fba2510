/- Contracts of the specification's l4Add and Added; lists of at most 2^21 spans. -/
import Derived.Test.YtjlebhohhhkmfaaHoleD
import Derived.Deep.Cut
namespace Go.Proofs.Ytjlebhohhhkmfaa.Hole
open Go.RowKit
set_option linter.unusedVariables false

/-- One span of the list, as it is gone through while s is put in: what is out, whether s is, and s grown. -/
def addStep (st : List Sp × Bool × Sp) (x : Sp) : List Sp × Bool × Sp :=
  if x.2 < st.2.2.1 then (st.1 ++ [x], st.2.1, st.2.2)
  else if st.2.2.2 < x.1 then ((if st.2.1 then st.1 else st.1 ++ [st.2.2]) ++ [x], true, st.2.2)
  else (st.1, st.2.1, ((if st.2.2.1 < x.1 then st.2.2.1 else x.1), (if x.2 < st.2.2.2 then st.2.2.2 else x.2)))
def addAll (l : List Sp) (s : Sp) : List Sp × Bool × Sp := l.foldl addStep ([], false, s)
def addL (l : List Sp) (s : Sp) : List Sp := if (addAll l s).2.1 then (addAll l s).1 else (addAll l s).1 ++ [(addAll l s).2.2]

set_option maxHeartbeats 1000000 in
theorem l1Min (a b : Int) (w : World) :
    Calls Try.prog 50 #[.int .i64 a, .int .i64 b] w fun e w' => e = .returned (.int .i64 (if a < b then a else b)) ∧ w = w' := by
  by_cases h : a < b
  · go_enter Try.func50, Try.ntmps50
    go_wp2
    go_ret
    exact ⟨rfl, rfl⟩
  · go_enter Try.func50, Try.ntmps50
    go_wp2
    go_ret
    exact ⟨rfl, rfl⟩

/-- The boxed span, and that it may be written. -/
def Box (w : World) (k : Nat) (s : Sp) : Prop := (w.cell? ⟨k, 0, none⟩ = some (.int .i64 s.1) ∧ w.cell? ⟨k, 1, none⟩ = some (.int .i64 s.2)) ∧ (w.frozen? ⟨k, 0, none⟩ = false ∧ w.frozen? ⟨k, 1, none⟩ = false)

theorem Box.new (w : World) (f t : Int) (T : TypeId) (o : Obj) : Box ((w.alloc (.cells #[.int .i64 f, .int .i64 t] T)).alloc o) w.heap.size (f, t) := by
  have hB : Below (w.heap.size + 1) (w.alloc (.cells #[.int .i64 f, .int .i64 t] T)) ((w.alloc (.cells #[.int .i64 f, .int .i64 t] T)).alloc o) := (Below.refl _ _).alloc (by simp) _
  refine ⟨⟨?_, ?_⟩, ?_, ?_⟩
  · rw [hB.cell (p := ⟨w.heap.size, 0, none⟩) (by show w.heap.size < _; omega)]; simp
  · rw [hB.cell (p := ⟨w.heap.size, 1, none⟩) (by show w.heap.size < _; omega)]; simp
  · rw [hB.frozen (p := ⟨w.heap.size, 0, none⟩) (by show w.heap.size < _; omega)]; simp
  · rw [hB.frozen (p := ⟨w.heap.size, 1, none⟩) (by show w.heap.size < _; omega)]; simp
theorem Box.same {w w' : World} {k : Nat} {s : Sp} (h : Box w k s) (e : w'.heap[k]? = w.heap[k]?) : Box w' k s :=
  ⟨⟨(World.cell?_of_block (w := w) (a := ⟨k, 0, none⟩) e).trans h.1.1, (World.cell?_of_block (w := w) (a := ⟨k, 1, none⟩) e).trans h.1.2⟩, (World.frozen?_of_block (w := w) (a := ⟨k, 0, none⟩) e).trans h.2.1, (World.frozen?_of_block (w := w) (a := ⟨k, 1, none⟩) e).trans h.2.2⟩
theorem Box.lt {w : World} {k : Nat} {s : Sp} (h : Box w k s) : k < w.heap.size := Draw.lt_of_cell h.1.1
theorem Box.alloc {w : World} {k : Nat} {s : Sp} (h : Box w k s) (o : Obj) : Box (w.alloc o) k s := h.same (Below.heap_alloc _ _ _ h.lt)
theorem Box.grown {w w' : World} {k g n c : Nat} {s : Sp} (h : Box w k s) (hg : w.grownBy w' (Value.slice (some ⟨g, 0, none⟩) n c).ownBlock) (hne : k ≠ g) : Box w' k s :=
  h.same (hg.block k h.lt (by simp [Value.ownBlock]; exact hne))
theorem Box.one (w : World) (f t : Int) (T : TypeId) : Box (w.alloc (.cells #[.int .i64 f, .int .i64 t] T)) w.heap.size (f, t) := ⟨⟨by simp, by simp⟩, by simp, by simp⟩
theorem own_mono {w : World} {B B' g c : Nat} {l : List Sp} (h : Own w B' g c l) (hB : B ≤ B') : Own w B g c l := by
  refine ⟨h.1, ?_⟩
  rcases h.2 with ⟨hv, hn⟩ | ⟨g', c', cur, hv, hb, rest⟩
  · exact .inl ⟨hv, hn⟩
  · exact .inr ⟨g', c', cur, hv, Nat.le_trans hB hb, rest⟩

theorem Own.setCell {w : World} {B g c : Nat} {l : List Sp} (h : Own w B g c l) {p : Addr} (hp : p.block ≠ g) (v : Value) : Own (w.setCell p v) B g c l :=
  World.ownsRow.kept (row := some p.block) h ⟨rfl, rfl, rfl, by simp [World.setCell], fun k hk hne => Below.heap_setCell _ _ _ _ (by intro e; exact hne (by rw [e]))⟩ (.inr (by simp [Value.ownBlock]; exact fun e => hp e.symm))
theorem Box.put {w : World} {k : Nat} {s : Sp} (h : Box w k s) (m M : Int) : Box ((w.setCell ⟨k, 0, none⟩ (.int .i64 m)).setCell ⟨k, 1, none⟩ (.int .i64 M)) k (m, M) := by
  have c0 : (w.setCell ⟨k, 0, none⟩ (.int .i64 m)).cell? ⟨k, 0, none⟩ = some (.int .i64 m) := World.cell?_setCell_same w _ _ h.1.1
  have c1 : (w.setCell ⟨k, 0, none⟩ (.int .i64 m)).cell? ⟨k, 1, none⟩ = some (.int .i64 s.2) := (World.cell?_setCell_other _ _ _ _ (by intro e; cases e)).trans h.1.2
  refine ⟨⟨(World.cell?_setCell_other _ _ _ _ (by intro e; cases e)).trans c0, World.cell?_setCell_same _ _ _ c1⟩, ?_, ?_⟩
  · rw [World.frozen?_setCell, World.frozen?_setCell]; exact h.2.1
  · rw [World.frozen?_setCell, World.frozen?_setCell]; exact h.2.2
theorem news1 {w : World} {f t : Int} {T : TypeId} : ∀ j u, [Value.int .i64 f, .int .i64 t][j]? = some u → (w.alloc (.cells #[.int .i64 f, .int .i64 t] T)).cell? ((⟨w.heap.size, 0, none⟩ : Addr).add j) = some u :=
  World.news_of_block (heap_alloc_new w (.cells #[.int .i64 f, .int .i64 t] T))

set_option maxHeartbeats 4000000 in
theorem specAdd (a : Option Addr) (n cap : Nat) (l : List Sp) (f t : Int) (w : World) (hn : n = l.length) (h : Spans w a l) (hl : l.length ≤ 2097152) :
    Calls Try.prog 43 #[.slice a n cap, .agg #[.int .i64 f, .int .i64 t]] w fun x w' => ∃ g c, x = .returned (.slice (some ⟨g, 0, none⟩) (addL l (f, t)).length c) ∧ Own w' w.heap.size g c (addL l (f, t)) ∧ Below w.heap.size w w' := by
  subst hn
  obtain ⟨i, hi, hz0, hz1, hz2⟩ := info_parts infoSpan
  go_enter Try.func43, Try.ntmps43
  go_wp2_with fail
  have o0 : Own ((w.alloc (.cells #[.int .i64 f, .int .i64 t] 26)).alloc (.cells #[] 26)) (w.heap.size + 1) (w.heap.size + 1) 0 [] := by
    have e : (w.alloc (.cells #[.int .i64 f, .int .i64 t] 26)).heap.size = w.heap.size + 1 := by simp
    have := own_nil (w.alloc (.cells #[.int .i64 f, .int .i64 t] 26))
    rw [e] at this
    exact this
  have x0 := Box.new w f t 26 (.cells #[] 26)
  have b0 : Below w.heap.size w ((w.alloc (.cells #[.int .i64 f, .int .i64 t] 26)).alloc (.cells #[] 26)) := ((Below.refl _ _).alloc (Nat.le_refl _) _).alloc (by simp) _
  generalize (w.alloc (.cells #[.int .i64 f, .int .i64 t] 26)).alloc (.cells #[] 26) = w0 at *
  go_loopw [5, 6, 7] (fun v pv iv wr => ∃ (k : Nat) (out : List Sp) (pb : Bool) (sf st : Int) (g c : Nat), k ≤ l.length ∧ iv = .int .i64 k ∧ pv = .bool pb ∧ v = .slice (some ⟨g, 0, none⟩) out.length c ∧ Hid (addAll (l.take k) (f, t) = (out, pb, (sf, st))) ∧ out.length ≤ 2 * k ∧ Own wr (w.heap.size + 1) g c out ∧ Box wr w.heap.size (sf, st) ∧ Below w.heap.size w wr) (fun _ _ iv _ => l.length - (intOf iv).toNat)
  case atStart => exact ⟨0, [], false, f, t, _, 0, Nat.zero_le _, rfl, rfl, rfl, by show _ = _; simp [addAll], Nat.zero_le _, o0, x0, b0⟩
  case round =>
    clear o0 x0 b0
    obtain ⟨k, out, pb, sf, st, g, c, hk, rfl, rfl, rfl, hfold, hol, hown, hbox, hB⟩ := hrel
    have hgne : w.heap.size ≠ g := by have := hown.lt.1; omega
    have hgl := hown.lt.2
    by_cases hlt : k < l.length
    · rcases h with h | ⟨b, off, rfl, h⟩
      · simp [h] at hlt
      · have hbw : b < w.heap.size := Draw.lt_of_cell (h k hlt).1
        have d0 := (hB.cell (p := ⟨b, off + k * 2, none⟩) hbw).trans (h k hlt).1
        have d1 := (hB.cell (p := ⟨b, off + k * 2 + 1, none⟩) hbw).trans (h k hlt).2
        have i0 : (0 : Int) ≤ (k : Int) := by omega
        have i1 : (k : Int) < (l.length : Int) := by omega
        have HT : Hid (addAll (l.take (k + 1)) (f, t) = addStep (addAll (l.take k) (f, t)) (l.getD k (0, 0))) := fold_take hlt addStep ([], false, (f, t))
        generalize l.getD k (0, 0) = s at *
        obtain ⟨xf, xt⟩ := s
        simp only at d0 d1
        clear h
        have HS : Hid (addAll (l.take (k + 1)) (f, t) = addStep (out, pb, (sf, st)) (xf, xt)) := by show _ = _; rw [HT.out, hfold.out]
        clear HT hfold
        obtain ⟨⟨e0, e1⟩, e2, e3⟩ := hbox
        have hbox : Hid (Box wr w.heap.size (sf, st)) := ⟨⟨e0, e1⟩, e2, e3⟩
        simp only at e0 e1
        have hsb : w.heap.size < wr.heap.size := hbox.out.lt
        have n1 : out.length + 1 ≤ maxLen := by unfold maxLen; omega
        have n2 : w.heap.size + 1 ≤ wr.heap.size + 1 + 1 := by omega
        have n3 : (out.length + 1) * 16 ≤ 140737488355328 := by omega
        have hown2 : ∀ {o o' : Obj}, ((wr.alloc o).alloc o').ownsRow (w.heap.size + 1) 26 2 (.slice (some ⟨g, 0, none⟩) out.length c) out.length (vals out) := fun {o o'} => World.ownsRow.alloc (World.ownsRow.alloc hown o) o'
        have hb2 : ∀ {o o' : Obj}, Below w.heap.size w ((wr.alloc o).alloc o') := fun {o o'} => (hB.alloc hB.size _).alloc (by simp; omega) _
        by_cases h1 : xt < sf
        · have HF : Hid (addAll (l.take (k + 1)) (f, t) = (out ++ [(xf, xt)], pb, (sf, st))) := by show _ = _; rw [HS.out, addStep, if_pos h1]
          clear HS
          go_wp2_with (at_builtin; refine wpList_append_lies _ (by rfl) _ _ 24 (by rfl) (w.heap.size + 1) 26 i (.agg #[.int .i64 0, .int .i64 0]) 2 16 Try.underlying24 hi hz0 hz1 hz2 rfl (by decide) _ _ _ (by rfl) hown2 ⟨wr.heap.size + 1, 0, none⟩ 1 1 [.int .i64 xf, .int .i64 xt] (by rfl) rfl news2 (two_cells _ _) (by decide) n1 n3 (by simpa using n2) (wr.heap.size + 1 + 1) (by simp) ?_; intro g1 cap1 w3 hown3 hgrow3 hat3 hlt3)
          have o3 := own_app hown3
          have b3 := below_app hb2 (Nat.le_refl _) (by have := hown.lt.1; omega) hgrow3
          have x3 := ((hbox.out.alloc _).alloc _).grown hgrow3 hgne
          have hlen : (out ++ [(xf, xt)]).length = out.length + 1 := by simp
          go_roundw
          case rel => exact ⟨k + 1, out ++ [(xf, xt)], pb, sf, st, g1, cap1, by omega, by go_num, rfl, by rw [hlen], HF, by omega, o3, x3, b3⟩
          case measure => simp [intOf]; omega
        · by_cases h2 : st < xf
          · cases pb
            · have HF : Hid (addAll (l.take (k + 1)) (f, t) = ((out ++ [(sf, st)]) ++ [(xf, xt)], true, (sf, st))) := by show _ = _; rw [HS.out, addStep, if_neg h1, if_pos h2]; rfl
              clear HS
              have hxb : ∀ {o : Obj}, Box ((wr.alloc (.cells #[.int .i64 xf, .int .i64 xt] 26)).alloc o) wr.heap.size (xf, xt) := fun {o} => (Box.one wr xf xt 26).alloc o
              go_upto_region 15 with (at_builtin; refine wpList_append_lies _ (by rfl) _ _ 24 (by rfl) (w.heap.size + 1) 26 i (.agg #[.int .i64 0, .int .i64 0]) 2 16 Try.underlying24 hi hz0 hz1 hz2 rfl (by decide) _ _ _ (by rfl) hown2 ⟨wr.heap.size + 1, 0, none⟩ 1 1 [.int .i64 sf, .int .i64 st] (by rfl) rfl news2 (two_cells _ _) (by decide) n1 n3 (by simpa using n2) (wr.heap.size + 1 + 1) (by simp) ?_; intro g1 cap1 w3 hown3 hgrow3 hat3 hlt3)
              have o3 := own_app hown3
              have b3 := below_app hb2 (Nat.le_refl _) (by have := hown.lt.1; omega) hgrow3
              have x3 := ((hbox.out.alloc _).alloc _).grown hgrow3 hgne
              obtain ⟨⟨y0, y1⟩, -, -⟩ := hxb.grown hgrow3 (by omega)
              have HB3 : Hid (Box w3 w.heap.size (sf, st)) := x3
              have hlen : (out ++ [(sf, st)]).length = out.length + 1 := by simp
              have hg1 := o3.lt.1
              have hlt3' : w.heap.size + 1 ≤ w3.heap.size + 1 := by have := o3.lt; omega
              have hown4 : ∀ {o : Obj}, (w3.alloc o).ownsRow (w.heap.size + 1) 26 2 (.slice (some ⟨g1, 0, none⟩) (out.length + 1) cap1) (out.length + 1) (vals (out ++ [(sf, st)])) := fun {o} => by have := World.ownsRow.alloc o3 o; rw [hlen] at this; exact this
              have m1 : out.length + 1 + 1 ≤ maxLen := by unfold maxLen; omega
              have m3 : (out.length + 1 + 1) * 16 ≤ 140737488355328 := by omega
              clear hgrow3 hown3 hat3 hlt3 x3 e0 e1 e2 e3
              go_wp2_with (at_builtin; refine wpList_append_lies _ (by rfl) _ _ 24 (by rfl) (w.heap.size + 1) 26 i (.agg #[.int .i64 0, .int .i64 0]) 2 16 Try.underlying24 hi hz0 hz1 hz2 rfl (by decide) _ _ _ (by rfl) hown4 ⟨w3.heap.size, 0, none⟩ 1 1 [.int .i64 xf, .int .i64 xt] (by rfl) rfl news1 (two_cells _ _) (by decide) m1 m3 (by simpa using hlt3') (w3.heap.size + 1) (by simp) ?_; intro g2 cap2 w4 hown5 hgrow5 hat5 hlt5)
              have o5 : Own w4 (w.heap.size + 1) g2 cap2 ((out ++ [(sf, st)]) ++ [(xf, xt)]) := own_app (by rw [hlen]; exact hown5)
              have b5 := below_app (b3.alloc b3.size _) (Nat.le_refl _) (by omega) hgrow5
              have x5 := (HB3.out.alloc _).grown hgrow5 (by omega)
              have hlen2 : ((out ++ [(sf, st)]) ++ [(xf, xt)]).length = out.length + 1 + 1 := by simp
              go_roundw
              case rel => exact ⟨k + 1, (out ++ [(sf, st)]) ++ [(xf, xt)], true, sf, st, g2, cap2, by omega, by go_num, rfl, by rw [hlen2], HF, by omega, o5, x5, b5⟩
              case measure => simp [intOf]; omega
            · have HF : Hid (addAll (l.take (k + 1)) (f, t) = (out ++ [(xf, xt)], true, (sf, st))) := by show _ = _; rw [HS.out, addStep, if_neg h1, if_pos h2]; rfl
              clear HS
              go_wp2_with (at_builtin; refine wpList_append_lies _ (by rfl) _ _ 24 (by rfl) (w.heap.size + 1) 26 i (.agg #[.int .i64 0, .int .i64 0]) 2 16 Try.underlying24 hi hz0 hz1 hz2 rfl (by decide) _ _ _ (by rfl) hown2 ⟨wr.heap.size + 1, 0, none⟩ 1 1 [.int .i64 xf, .int .i64 xt] (by rfl) rfl news2 (two_cells _ _) (by decide) n1 n3 (by simpa using n2) (wr.heap.size + 1 + 1) (by simp) ?_; intro g1 cap1 w3 hown3 hgrow3 hat3 hlt3)
              have o3 := own_app hown3
              have b3 := below_app hb2 (Nat.le_refl _) (by have := hown.lt.1; omega) hgrow3
              have x3 := ((hbox.out.alloc _).alloc _).grown hgrow3 hgne
              have hlen : (out ++ [(xf, xt)]).length = out.length + 1 := by simp
              go_roundw
              case rel => exact ⟨k + 1, out ++ [(xf, xt)], true, sf, st, g1, cap1, by omega, by go_num, rfl, by rw [hlen], HF, by omega, o3, x3, b3⟩
              case measure => simp [intOf]; omega
          · have HF : Hid (addAll (l.take (k + 1)) (f, t) = (out, pb, ((if sf < xf then sf else xf), (if xt < st then st else xt)))) := by show _ = _; rw [HS.out, addStep, if_neg h1, if_neg h2]
            clear HS
            go_wp2_with fail
            refine (l1Min _ _ _).mono ?_
            rintro x wm ⟨rfl, rfl⟩
            generalize (if sf < xf then sf else xf) = m at *
            go_wp2_with fail
            refine (Draw.l1Max _ _ _).mono ?_
            rintro x wm ⟨rfl, rfl⟩
            generalize (if xt < st then st else xt) = M at *
            go_wp2_with fail
            have o3 : Own (((wr.setCell ⟨w.heap.size, 0, none⟩ (.int .i64 m)).setCell ⟨w.heap.size, 1, none⟩ (.int .i64 M)).alloc (.cells #[.int .i64 xf, .int .i64 xt] 26)) (w.heap.size + 1) g c out := World.ownsRow.alloc ((hown.setCell (p := ⟨w.heap.size, 0, none⟩) hgne _).setCell (p := ⟨w.heap.size, 1, none⟩) hgne _) _
            have x3 := (hbox.out.put m M).alloc (.cells #[.int .i64 xf, .int .i64 xt] 26)
            have b3 := ((hB.setCell (p := ⟨w.heap.size, 0, none⟩) (Nat.le_refl _) (.int .i64 m)).setCell (p := ⟨w.heap.size, 1, none⟩) (Nat.le_refl _) (.int .i64 M)).alloc (by simp [World.setCell]; have := hB.size; omega) (.cells #[.int .i64 xf, .int .i64 xt] 26)
            go_roundw
            case rel => exact ⟨k + 1, out, pb, m, M, g, c, by omega, by go_num, rfl, rfl, HF, by omega, o3, x3, b3⟩
            case measure => simp [intOf]; omega
    · have hkl : l.take k = l := List.take_of_length_le (by omega)
      have i1 : ¬ (k : Int) < (l.length : Int) := by omega
      have HF : Hid (addAll l (f, t) = (out, pb, (sf, st))) := by show _ = _; rw [← hfold.out, hkl]
      clear hfold hkl
      obtain ⟨⟨e0, e1⟩, e2, e3⟩ := hbox
      simp only at e0 e1
      cases pb
      · have HA : Hid (addL l (f, t) = out ++ [(sf, st)]) := by show _ = _; rw [addL, HF.out]; rfl
        clear HF
        have n1 : out.length + 1 ≤ maxLen := by unfold maxLen; omega
        have n2 : w.heap.size + 1 ≤ wr.heap.size + 1 := by have := hown.lt; omega
        have n3 : (out.length + 1) * 16 ≤ 140737488355328 := by omega
        have hown2 : ∀ {o : Obj}, (wr.alloc o).ownsRow (w.heap.size + 1) 26 2 (.slice (some ⟨g, 0, none⟩) out.length c) out.length (vals out) := fun {o} => World.ownsRow.alloc hown o
        go_wp2_with (at_builtin; refine wpList_append_lies _ (by rfl) _ _ 24 (by rfl) (w.heap.size + 1) 26 i (.agg #[.int .i64 0, .int .i64 0]) 2 16 Try.underlying24 hi hz0 hz1 hz2 rfl (by decide) _ _ _ (by rfl) hown2 ⟨wr.heap.size, 0, none⟩ 1 1 [.int .i64 sf, .int .i64 st] (by rfl) rfl news1 (two_cells _ _) (by decide) n1 n3 (by simpa using n2) (wr.heap.size + 1) (by simp) ?_; intro g1 cap1 w3 hown3 hgrow3 hat3 hlt3)
        have o3 := own_mono (own_app hown3) (Nat.le_succ _)
        have b3 := below_app (hB.alloc hB.size _) (Nat.le_refl _) (by have := hown.lt.1; omega) hgrow3
        go_ret
        exact ⟨g1, cap1, by rw [HA.out, List.length_append]; rfl, by rw [HA.out]; exact o3, b3⟩
      · have HA : Hid (addL l (f, t) = out) := by show _ = _; rw [addL, HF.out]; rfl
        clear HF
        go_wp2_with fail
        go_ret
        exact ⟨g, c, by rw [HA.out]; rfl, by rw [HA.out]; exact own_mono hown (Nat.le_succ _), hB⟩

/-- Added: what comes out, and whether s is in. -/
def addedL (l : List Sp) (s : Sp) : List Sp := if spansB l = true then (if spB s = true ∧ (addL l s).length ≤ 30 then addL l s else l) else []
def addedB (l : List Sp) (s : Sp) : Bool := spansB l && (spB s && decide ((addL l s).length ≤ 30))

set_option maxHeartbeats 2000000 in
theorem specAdded (a : Option Addr) (n cap : Nat) (l : List Sp) (f t : Int) (w : World) (hn : n = l.length) (h : Spans w a l) (hl : l.length ≤ 2097152) (ha : a = none → cap = 0) :
    Calls Try.prog 13 #[.slice a n cap, .agg #[.int .i64 f, .int .i64 t]] w fun x w' => ∃ g c, x = .returned (.tuple #[.slice (some ⟨g, 0, none⟩) (addedL l (f, t)).length c, .bool (addedB l (f, t))]) ∧ Own w' w.heap.size g c (addedL l (f, t)) ∧ Below w.heap.size w w' := by
  subst hn
  have b0 : Below w.heap.size w (w.alloc (.cells #[.int .i64 f, .int .i64 t] 26)) := (Below.refl _ _).alloc (Nat.le_refl _) _
  have h0 := h.below b0
  go_enter Try.func13, Try.ntmps13
  go_wp2_with fail
  refine (specSpansOk _ _ _ l _ rfl h0 hl).mono ?_
  rintro x w1 ⟨rfl, hB1⟩
  have b1 : Below w.heap.size w w1 := b0.trans (hB1.mono b0.size)
  obtain ⟨c0, c1⟩ := box2 hB1
  have hs1 : w.heap.size + 1 ≤ w1.heap.size := by have := hB1.size; simpa using this
  clear hB1 h0 b0
  cases hok : spansB l
  · have e1 : addedL l (f, t) = [] := by simp [addedL, hok]
    have e2 : addedB l (f, t) = false := by simp [addedB, hok]
    have o1 : Own (w1.alloc (.cells #[] 26)) w.heap.size w1.heap.size 0 [] := own_mono (own_nil w1) b1.size
    go_wp2_with fail
    go_ret2
    exact ⟨w1.heap.size, 0, by rw [e1, e2]; rfl, by rw [e1]; exact o1, b1.alloc b1.size _⟩
  · go_wp2_with fail
    refine (l4Span f t _).mono ?_
    rintro x w2 ⟨rfl, hB2⟩
    have b2 : Below w.heap.size w w2 := b1.trans (hB2.mono b1.size)
    have c0' := (hB2.cell (p := ⟨w.heap.size, 0, none⟩) (by show w.heap.size < _; omega)).trans c0
    have c1' := (hB2.cell (p := ⟨w.heap.size, 1, none⟩) (by show w.heap.size < _; omega)).trans c1
    have h2 := h.below b2
    clear hB2 c0 c1 b1 hs1 h
    cases hsp : spB (f, t)
    · have e1 : addedL l (f, t) = l := by simp [addedL, hok, hsp]
      have e2 : addedB l (f, t) = false := by simp [addedB, hsp]
      go_wp2_with fail
      refine (specCopy _ _ _ l _ rfl h2 hl ha).mono ?_
      rintro x w3 ⟨g, c, rfl, o3, b3⟩
      go_wp2_with fail
      go_ret2
      exact ⟨g, c, by rw [e1, e2]; rfl, by rw [e1]; exact own_mono o3 b2.size, b2.trans (b3.mono b2.size)⟩
    · go_wp2_with fail
      refine (specAdd _ _ _ l f t _ rfl h2 hl).mono ?_
      rintro x w3 ⟨g, c, rfl, o3, b3⟩
      have b03 := b2.trans (b3.mono b2.size)
      by_cases hlen : (addL l (f, t)).length ≤ 30
      · have e1 : Hid (addedL l (f, t) = addL l (f, t)) := by show _ = _; simp [addedL, hok, hsp, hlen]
        have e2 : Hid (addedB l (f, t) = true) := by show _ = _; simp [addedB, hok, hsp, hlen]
        have hi : ¬ (30 : Int) < ((addL l (f, t)).length : Int) := by omega
        generalize addL l (f, t) = A at *
        clear hok hsp
        go_wp2_with fail
        go_ret2
        exact ⟨g, c, by rw [e1.out, e2.out]; rfl, by rw [e1.out]; exact own_mono o3 b2.size, b03⟩
      · have e1 : Hid (addedL l (f, t) = l) := by show _ = _; simp [addedL, hok, hsp, hlen]
        have e2 : Hid (addedB l (f, t) = false) := by show _ = _; simp [addedB, hok, hsp, hlen]
        have hi : (30 : Int) < ((addL l (f, t)).length : Int) := by omega
        have hbig : (addL l (f, t)).length ≤ maxLen := o3.2.elim (fun q => by have := q.2; omega) (fun ⟨_, _, _, hv, _, _, q, q2, _⟩ => Nat.le_trans q q2)
        unfold maxLen at hbig
        generalize addL l (f, t) = A at *
        clear hok hsp
        have h3 := h2.below b3
        go_wp2_with fail
        refine (specCopy _ _ _ l _ rfl h3 hl ha).mono ?_
        rintro x w4 ⟨g', c', rfl, o4, b4⟩
        go_wp2_with fail
        go_ret2
        exact ⟨g', c', by rw [e1.out, e2.out]; rfl, by rw [e1.out]; exact own_mono o4 b03.size, b03.trans (b4.mono b03.size)⟩

end Go.Proofs.Ytjlebhohhhkmfaa.Hole

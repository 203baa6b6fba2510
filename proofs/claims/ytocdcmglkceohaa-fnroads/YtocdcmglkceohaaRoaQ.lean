/- Contracts of the program's RoadsOk, Turn, Used (chapter 10); lists of at most 2^21 roads. -/
import Derived.Test.YtocdcmglkceohaaRoaP
import Derived.Deep.Cut
import Derived.Laws.StructEq
namespace Go.Proofs.Ytocdcmglkceohaa.Roa
open Go.RowKit RowG
set_option linter.unusedVariables false
set_option linter.unusedSimpArgs false

theorem run_lenMap {P : Program} {w : World} {b m : Nat} {es : Array MapEntry} {t ty k e : TypeId} (hu : P.underlying t = some (.map k e)) (h : w.heap[b]? = some (.map es m)) : (Builtin.len_ #[t] ty #[.map (some b)]).run P w = .ok (.int .i64 (es.size : Int)) w := by
  simp [Builtin.len_, run_underlying hu, MapKept.run_getObj_map h, Result.andThen, goInt]

theorem eqRoadV {o o' : Bool} {c s l c' s' l' : Int} {v : Bool} (h : decide ((⟨o, c, s, l⟩ : Rd) = ⟨o', c', s', l'⟩) = v) (w : World) : (Op.equalIn 10000 37 (.agg #[.bool o, .int .i64 c, .int .i64 s, .int .i64 l]) (.agg #[.bool o', .int .i64 c', .int .i64 s', .int .i64 l'])).run Try.prog w = .ok v w := by
  subst h
  have hf : Try.prog.fieldsOf 37 = #[{ name := "Open", type := 4, offset := 0, embedded := false, tag := "", pkgPath := "", byteOffset := 0 }, { name := "Cost", type := 2, offset := 1, embedded := false, tag := "", pkgPath := "", byteOffset := 8 }, { name := "Sent", type := 2, offset := 2, embedded := false, tag := "", pkgPath := "", byteOffset := 16 }, { name := "Lost", type := 2, offset := 3, embedded := false, tag := "", pkgPath := "", byteOffset := 24 }] := by kernel_rfl
  have hu : Try.prog.underlying 37 = some (.struct (Try.prog.fieldsOf 37)) := by kernel_rfl
  have hp : Try.prog.stoodInHeld 37 = false := by kernel_rfl
  have eb : Try.prog.underlying 4 = some .bool := by kernel_rfl
  have ei : Try.prog.underlying 2 = some (.int .i64) := by kernel_rfl
  have pb : Try.prog.plainKey 4 = true := by kernel_rfl
  have pi : Try.prog.plainKey 2 = true := by kernel_rfl
  have p0 : ∀ (x : Bool) (a b d : Int), (part 4 #[.bool x, .int .i64 a, .int .i64 b, .int .i64 d] 0).run Try.prog w = .ok (.bool x) w := fun x a b d => run_part_plain w pb rfl
  have p1 : ∀ (x : Bool) (a b d : Int), (part 2 #[.bool x, .int .i64 a, .int .i64 b, .int .i64 d] 1).run Try.prog w = .ok (.int .i64 a) w := fun x a b d => run_part_plain w pi rfl
  have p2 : ∀ (x : Bool) (a b d : Int), (part 2 #[.bool x, .int .i64 a, .int .i64 b, .int .i64 d] 2).run Try.prog w = .ok (.int .i64 b) w := fun x a b d => run_part_plain w pi rfl
  have p3 : ∀ (x : Bool) (a b d : Int), (part 2 #[.bool x, .int .i64 a, .int .i64 b, .int .i64 d] 3).run Try.prog w = .ok (.int .i64 d) w := fun x a b d => run_part_plain w pi rfl
  have q0 : ∀ x y : Bool, (Op.equalIn 9999 4 (.bool x) (.bool y)).run Try.prog w = .ok (x == y) w := fun x y => run_equalIn_bool w 9998 _ x y eb
  have q1 : ∀ x y : Int, (Op.equalIn 9999 2 (.int .i64 x) (.int .i64 y)).run Try.prog w = .ok (x == y) w := fun x y => run_equalIn_int w 9998 _ .i64 .i64 x y ei
  rw [show (10000 : Nat) = 9999 + 1 from rfl, run_equalIn_agg w 9999 _ _ _ hu hp, hf]
  have e : decide ((⟨o, c, s, l⟩ : Rd) = ⟨o', c', s', l'⟩) = ((o == o') && ((c == c') && ((s == s') && (l == l')))) := by
    rw [Bool.eq_iff_iff]
    simp
  rw [e]
  cases h0 : (o == o') <;> cases h1 : (c == c') <;> cases h2 : (s == s') <;> cases h3 : (l == l') <;> simp [Op.eqFields, p0, p1, p2, p3, q0, q1, h0, h1, h2, h3]

set_option maxHeartbeats 1000000 in
theorem implRoadsOk (a : Option Addr) (n cap : Nat) (l : List Rd) (w : World) (hn : n = l.length) (h : E.Lies w a l) (hl : l.length ≤ 2097152) :
    Calls Try.prog 16 #[.slice a n cap] w fun x w' => x = .returned (.bool (roadsB l)) ∧ Below w.heap.size w w' := by
  subst hn
  go_enter Try.func16, Try.ntmps16
  go_wp2_with fail
  refine (numbersByRoad a _ cap l _ rfl h hl).mono ?_
  rintro x w1 ⟨b, rfl, G, m, M1, _, hiff, _, B1⟩
  have hlen := fun ty => run_lenMap (P := Try.prog) (ty := ty) Try.underlying56 M1.blk
  have e : (ents 0 G).toArray.size = G.length := by simp [ents_len]
  rw [e] at hlen
  have HE : Hid (decide ((0 : Int) < (G.length : Int)) = roadsB l) := by
    show _ = _
    cases q : roadsB l
    · have := hiff.2 q
      subst this
      rfl
    · have : G ≠ [] := fun e => by rw [hiff.1 e] at q; cases q
      have := List.length_pos_iff.2 this
      exact decide_eq_true (by omega)
  clear hiff e M1
  generalize G.length = z at *
  go_wp2_with fail
  go_ret
  exact ⟨Num.ret_bool (by rw [← HE.out]; simp), B1⟩

theorem put4 {w : World} {B g c : Nat} {l : List Rd} (h : Own w B g c l) {k : Nat} (hk : k < l.length) (y : Rd) :
    Own ((((w.setCell ⟨g, k * 4, none⟩ (.bool y.op)).setCell ⟨g, k * 4 + 1, none⟩ (.int .i64 y.co)).setCell ⟨g, k * 4 + 2, none⟩ (.int .i64 y.se)).setCell ⟨g, k * 4 + 3, none⟩ (.int .i64 y.lo)) B g c (l.set k y) := by
  have h0 := at_some hk
  generalize at' l k = x at h0
  have s0 : Own (w.setCell ⟨g, k * 4 + 0, none⟩ (.bool y.op)) B g c (l.set k ⟨y.op, x.co, x.se, x.lo⟩) := El.Own.put (E := E) h h0 (j := 0) (by decide) rfl
  rw [Nat.add_zero] at s0
  have g1 : (l.set k ⟨y.op, x.co, x.se, x.lo⟩)[k]? = some ⟨y.op, x.co, x.se, x.lo⟩ := by simp [hk]
  have s1 : Own ((w.setCell ⟨g, k * 4, none⟩ (.bool y.op)).setCell ⟨g, k * 4 + 1, none⟩ (.int .i64 y.co)) B g c ((l.set k ⟨y.op, x.co, x.se, x.lo⟩).set k ⟨y.op, y.co, x.se, x.lo⟩) := El.Own.put (E := E) s0 g1 (j := 1) (by decide) rfl
  rw [List.set_set] at s1
  have g2 : (l.set k ⟨y.op, y.co, x.se, x.lo⟩)[k]? = some ⟨y.op, y.co, x.se, x.lo⟩ := by simp [hk]
  have s2 : Own (((w.setCell ⟨g, k * 4, none⟩ (.bool y.op)).setCell ⟨g, k * 4 + 1, none⟩ (.int .i64 y.co)).setCell ⟨g, k * 4 + 2, none⟩ (.int .i64 y.se)) B g c ((l.set k ⟨y.op, y.co, x.se, x.lo⟩).set k ⟨y.op, y.co, y.se, x.lo⟩) := El.Own.put (E := E) s1 g2 (j := 2) (by decide) rfl
  rw [List.set_set] at s2
  have g3 : (l.set k ⟨y.op, y.co, y.se, x.lo⟩)[k]? = some ⟨y.op, y.co, y.se, x.lo⟩ := by simp [hk]
  have s3 : Own ((((w.setCell ⟨g, k * 4, none⟩ (.bool y.op)).setCell ⟨g, k * 4 + 1, none⟩ (.int .i64 y.co)).setCell ⟨g, k * 4 + 2, none⟩ (.int .i64 y.se)).setCell ⟨g, k * 4 + 3, none⟩ (.int .i64 y.lo)) B g c ((l.set k ⟨y.op, y.co, y.se, x.lo⟩).set k y) := El.Own.put (E := E) s2 g3 (j := 3) (by decide) rfl
  rwa [List.set_set] at s3
def withB (l : List Rd) (r : Int) (ch : Rd → Rd) : Bool := roadsB l && (hasB l r && decide (ch (at' l r.toNat) ≠ at' l r.toNat))
def withL (l : List Rd) (r : Int) (ch : Rd → Rd) : List Rd := if roadsB l then (if hasB l r then l.set r.toNat (ch (at' l r.toNat)) else l) else []

set_option maxRecDepth 10000 in
set_option maxHeartbeats 2000000 in
theorem withRoad (F : FuncId) (hFF : F = 37 ∨ F = 38) (kw : Nat) (o : Bool) (ch : Rd → Rd) (hF : ∀ (r : Rd) (w1 : World), rdB r = true → w1.cell? ⟨kw, 0, none⟩ = some (.bool o) → Calls Try.prog F #[r.v, .pointer (some ⟨kw, 0, none⟩)] w1 fun x w' => x = .returned (ch r).v ∧ Below w1.heap.size w1 w')
    (a : Option Addr) (n cap : Nat) (l : List Rd) (r : Int) (w : World) (hn : n = l.length) (h : E.Lies w a l) (ha : a = none → cap = 0) (hl : l.length ≤ 2097152) (hk : w.cell? ⟨kw, 0, none⟩ = some (.bool o)) :
    Calls Try.prog 36 #[.slice a n cap, .int .i64 r, .func (.func F) #[] #[.pointer (some ⟨kw, 0, none⟩)]] w fun x w' => ∃ g c, x = .returned (.tuple #[.slice (some ⟨g, 0, none⟩) (withL l r ch).length c, .bool (withB l r ch)]) ∧ Own w' w.heap.size g c (withL l r ch) ∧ Below w.heap.size w w' := by
  rcases hFF with rfl | rfl
  all_goals
    subst hn
    have hmix := mix
    have hkw := Draw.lt_of_cell hk
    go_enter Try.func36, Try.ntmps36
    go_wp2_with fail
    refine (implRoadsOk _ _ _ l _ rfl h hl).mono ?_
    rintro x w1 ⟨rfl, b1⟩
    cases hok : roadsB l
    · have e1 : withL l r ch = [] := by simp [withL, hok]
      have e2 : withB l r ch = false := by simp [withB, hok]
      have o1 := (own_empty w1).mono b1.size
      have b2 := b1.alloc b1.size (.cells #[] 37)
      go_wp2_with fail
      go_ret2
      exact ⟨_, 0, by rw [e1, e2]; rfl, by rw [e1]; exact o1, b2⟩
    have h1 := h.later b1
    have b2 := b1.alloc b1.size (.cells #[] 37)
    have o2 := (own_empty w1).mono b1.size
    have L2 := h1.alloc (.cells #[] 37)
    have n2 : w.heap.size ≤ (w1.alloc (.cells #[] 37)).heap.size := b2.size
    have n1 := b1.size
    clear b1
    go_wp2_with (at_builtin; refine wpList_appS ty (by decide) (by rfl) _ _ (by rfl) w.heap.size w1.heap.size 0 0 [] l rfl (by rfl) o2 n2 a _ cap rfl (by rfl) L2 ha (by simp only [List.length_nil]; omega) ?_; intro g c w3 o3 gr3; refine stand ?_)
    have B3 : Below w.heap.size w w3 := grown_below b2 (Nat.le_refl _) (fun j hj => by cases hj; exact n1) gr3
    have O3 : Own w3 w.heap.size g c l := o3
    have L3 := h.later B3
    have K3 := (B3.cell (p := ⟨kw, 0, none⟩) hkw).trans hk
    have hbg : ∀ x, a = some x → l ≠ [] → x.block ≠ g := by
      intro x hx hne
      have q1 := (El.Own.lt (E := E) O3 _ rfl).1
      rcases h with e | ⟨b, off, e, hs⟩
      · exact absurd e hne
      · rw [hx] at e
        cases e
        have hlt : 0 < l.length := List.length_pos_iff.2 hne
        have := Draw.lt_of_cell (p := ⟨b, off + 0 * 4, none⟩) (cells4 hs hlt).1
        simp only at this q1 ⊢
        omega
    clear b2 o2 L2 n2 gr3 o3 h1
    show wpList _ _ _ _ _ _
    by_cases hr : 0 ≤ r ∧ r < (l.length : Int)
    · obtain ⟨k, rfl⟩ : ∃ k : Nat, r = (k : Int) := ⟨r.toNat, by omega⟩
      have hlt : k < l.length := by omega
      have hl0 : l ≠ [] := fun e => by rw [e] at hlt; simp at hlt
      have i0 : (0 : Int) ≤ (k : Int) := by omega
      have i1 : (k : Int) < (l.length : Int) := by omega
      have i2 : ¬ (k : Int) < 0 := by omega
      have hrd : rdB (at' l k) = true := by
        cases q : rdB (at' l k)
        · rw [rd_false hlt q] at hok; cases hok
        · rfl
      have E2 : Hid (withB l (k : Int) ch = decide (ch (at' l k) ≠ at' l k)) := by show _ = _; simp [withB, hok, hasB, i0, i1]
      have E1 : Hid (withL l (k : Int) ch = l.set k (ch (at' l k))) := by show _ = _; simp [withL, hok, hasB, i0, i1]
      rcases L3 with hs | ⟨b, off, rfl, hs⟩
      · exact absurd hs hl0
      have hne := hbg ⟨b, off, none⟩ rfl hl0
      simp only at hne
      obtain ⟨c0, c1, c2, c3⟩ := cells4 hs hlt
      clear hs hbg h hok hr
      have hFk := fun w1 hc => hF (at' l k) w1 hrd hc
      have HX : Hid (∀ y, at' l k = y → at' l k = y) := fun _ e => e
      obtain ⟨s, HS⟩ : ∃ s, Hid (at' l k = s) := ⟨_, rfl⟩
      rw [HS.out] at c0 c1 c2 c3 hFk E1 E2
      obtain ⟨so, sc, ss, sl⟩ := s
      generalize hy : ch ⟨so, sc, ss, sl⟩ = y at *
      obtain ⟨yo, yc, ys, yl⟩ := y
      clear hy hF HX hrd
      simp only [Rd.v] at hFk
      simp only at c0 c1 c2 c3
      go_wp2_with fail
      refine (hFk _ K3).mono ?_
      rintro x w4 ⟨rfl, b4⟩
      have O4 : Own w4 w.heap.size g c l := El.Own.later (E := E) O3 b4
      have B4 := B3.trans (b4.mono B3.size)
      replace c0 := (b4.cell (p := ⟨b, off + k * 4, none⟩) (Draw.lt_of_cell c0)).trans c0
      replace c1 := (b4.cell (p := ⟨b, off + k * 4 + 1, none⟩) (Draw.lt_of_cell c1)).trans c1
      replace c2 := (b4.cell (p := ⟨b, off + k * 4 + 2, none⟩) (Draw.lt_of_cell c2)).trans c2
      replace c3 := (b4.cell (p := ⟨b, off + k * 4 + 3, none⟩) (Draw.lt_of_cell c3)).trans c3
      clear O3 B3 b4 hFk K3
      have f0 := El.Own.frozen (E := E) O4 (k * 4)
      have f1 := El.Own.frozen (E := E) O4 (k * 4 + 1)
      have f2 := El.Own.frozen (E := E) O4 (k * 4 + 2)
      have f3 := El.Own.frozen (E := E) O4 (k * 4 + 3)
      have hb := El.Own.lies (E := E) O4
      rcases hb with hs' | ⟨b', off', he, hs'⟩
      · exact absurd hs' hl0
      cases he
      obtain ⟨d0, d1, d2, d3⟩ := cells4 hs' hlt
      rw [Nat.zero_add] at d0 d1 d2 d3
      clear hs'
      go_upto_region 7 with (fail)
      have O5 := put4 O4 hlt ⟨yo, yc, ys, yl⟩
      have K5 : Draw.Kept g w4 ((((w4.setCell ⟨g, k * 4, none⟩ (.bool yo)).setCell ⟨g, k * 4 + 1, none⟩ (.int .i64 yc)).setCell ⟨g, k * 4 + 2, none⟩ (.int .i64 ys)).setCell ⟨g, k * 4 + 3, none⟩ (.int .i64 yl)) :=
        ((((Draw.Kept.refl g w4).setCell (p := ⟨g, k * 4, none⟩) (.inl rfl) _).setCell (p := ⟨g, k * 4 + 1, none⟩) (.inl rfl) _).setCell (p := ⟨g, k * 4 + 2, none⟩) (.inl rfl) _).setCell (p := ⟨g, k * 4 + 3, none⟩) (.inl rfl) _
      dsimp only at O5
      generalize ((((w4.setCell ⟨g, k * 4, none⟩ (.bool yo)).setCell ⟨g, k * 4 + 1, none⟩ (.int .i64 yc)).setCell ⟨g, k * 4 + 2, none⟩ (.int .i64 ys)).setCell ⟨g, k * 4 + 3, none⟩ (.int .i64 yl)) = w5 at *
      replace c0 := Draw.Later.cell ((K5.cell (p := ⟨b, off + k * 4, none⟩) (Draw.lt_of_cell c0) hne).trans c0)
      replace c1 := Draw.Later.cell ((K5.cell (p := ⟨b, off + k * 4 + 1, none⟩) (Draw.lt_of_cell c1) hne).trans c1)
      replace c2 := Draw.Later.cell ((K5.cell (p := ⟨b, off + k * 4 + 2, none⟩) (Draw.lt_of_cell c2) hne).trans c2)
      replace c3 := Draw.Later.cell ((K5.cell (p := ⟨b, off + k * 4 + 3, none⟩) (Draw.lt_of_cell c3) hne).trans c3)
      have B5 := B4.trans (K5.below (El.Own.lt (E := E) O4 _ rfl).1 B4.size)
      have hlt5 : k < (l.set k ⟨yo, yc, ys, yl⟩).length := by rw [List.length_set]; exact hlt
      have hat5 : at' (l.set k ⟨yo, yc, ys, yl⟩) k = ⟨yo, yc, ys, yl⟩ := by unfold at'; rw [List.getD_eq_getElem?_getD]; simp [hlt]
      have hb := El.Own.lies (E := E) O5
      rcases hb with hs' | ⟨b', off', he, hs'⟩
      · rw [hs'] at hlt5; simp at hlt5
      cases he
      clear d0 d1 d2 d3 f0 f1 f2 f3
      obtain ⟨d0, d1, d2, d3⟩ := cells4 hs' hlt5
      rw [Nat.zero_add, hat5] at d0 d1 d2 d3
      simp only at d0 d1 d2 d3
      replace d0 := Draw.Later.cell d0
      replace d1 := Draw.Later.cell d1
      replace d2 := Draw.Later.cell d2
      replace d3 := Draw.Later.cell d3
      have HO5 : Hid (Own w5 w.heap.size g c (l.set k ⟨yo, yc, ys, yl⟩)) := O5
      clear hs' hlt5 hat5 K5 O4 B4 O5
      have hq := eqRoadV (o := yo) (c := yc) (s := ys) (l := yl) (o' := so) (c' := sc) (s' := ss) (l' := sl) rfl
      generalize hqv : decide ((⟨yo, yc, ys, yl⟩ : Rd) = ⟨so, sc, ss, sl⟩) = qv at hq
      have HQ : Hid _ := hqv
      clear hqv
      refine Draw.wp_region_later hmix (by kernel_rfl) ?_
      repeat (go_big_quiet_step (fail))
      refine wpQuiet_nil ?_
      intro _ hw'
      obtain ⟨⟨wq, hBq⟩, hw''⟩ := hw'
      subst hw''
      have HL : Hid ((withL l (k : Int) ch).length = l.length) := by show _ = _; rw [E1.out, List.length_set]
      have HV : Hid (withB l (k : Int) ch = !qv) := by show _ = _; rw [E2.out, ← HQ.out]; simp
      go_wp2_with fail
      go_ret2
      exact ⟨g, c, by rw [HL.out, HV.out]; rfl, by rw [E1.out]; exact El.Own.later (E := E) HO5.out hBq, B5.trans (hBq.mono B5.size)⟩
    · have hv : hasB l r = false := decide_eq_false hr
      have E2 : Hid (withB l r ch = false) := by show _ = _; simp [withB, hv]
      have E1 : Hid (withL l r ch = l) := by show _ = _; simp [withL, hok, hv]
      by_cases hr0 : 0 ≤ r
      · have hr1 : ¬ r < (l.length : Int) := fun q => hr ⟨hr0, q⟩
        go_wp2_with fail
        go_ret2
        exact ⟨g, c, by rw [E1.out, E2.out]; rfl, by rw [E1.out]; exact O3, B3⟩
      · go_wp2_with fail
        go_ret2
        exact ⟨g, c, by rw [E1.out, E2.out]; rfl, by rw [E1.out]; exact O3, B3⟩

end Go.Proofs.Ytocdcmglkceohaa.Roa

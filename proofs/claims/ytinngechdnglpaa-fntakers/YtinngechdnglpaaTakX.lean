/- Contracts of slices.AppendSeq and slices.Collect over the runs; parts not beyond 2^62. -/
import Derived.Test.YtinngechdnglpaaTakW
import Derived.Test.YtinngechdnglpaaRowI
namespace Go.Proofs.Ytinngechdnglpaa.Tak
open Go.RowKit RowG Rng
set_option linter.unusedVariables false
set_option linter.unusedSimpArgs false
attribute [local go_sem] Oper.semAt_some

theorem runs_len (nx lim : Int) (l : List Pt) (p : Int) (bz : ByteArray) : (runsL nx lim l p bz).length ≤ l.length + 1 := by
  unfold runsL
  rw [List.length_append]
  have h1 := List.length_filter_le ne ((pairs nx l).map (runX p bz))
  have h2 := List.length_filter_le ne [withinP p bz (lastEnd nx l) lim]
  rw [List.length_map, pairs_len] at h1
  simp only [List.length_singleton] at h2
  omega

/-- What is known of the slice that is being collected. -/
def SeqI (w : World) (xs : List Pt) (i : Nat) (V : World) : Prop := ∃ (a' : Option Addr) (c' : Nat), Var 24 V w.heap.size [.slice a' (xs.take i).length c'] ∧ partE.Own 53 V w.heap.size a' c' (xs.take i) ∧ (xs.take i = [] → c' = 0) ∧ Below w.heap.size w V

set_option maxRecDepth 100000 in
set_option maxHeartbeats 4000000 in
theorem appendSeq (nx : Int) (bs : ByteArray) (a : Option Addr) (c : Nat) (cp fi : Int) (en : Bool) (l : List Pt) (p : Int) (bz : ByteArray) (bt bc : Nat) (w : World)
    (hbt : Var 26 w bt [.int .i64 nx, .string bs, .slice a l.length c, .int .i64 cp, .int .i64 fi, .bool en]) (hbc : Var 53 w bc [.int .i64 p, .string bz]) (hL : partE.Lies w a l) (hl : l.length ≤ 2097152) (hp : Bd l)
    (hnx : 0 ≤ nx ∧ nx ≤ 1152921504606846976) (hb : bs.size ≤ 1152921504606846976) (hc : 0 ≤ cp ∧ cp ≤ 1152921504606846976) (hp0 : 0 ≤ p) (hp1 : p ≤ 1000000000) (hz : bz.size ≤ 40) {lim : Int} (hlim : limT nx bs cp = lim) :
    Calls Try.prog 54 #[.slice none 0 0, .func (.func 55) #[] #[.pointer (some ⟨bt, 0, none⟩), .pointer (some ⟨bc, 0, none⟩)]] w fun x w' => ∃ a' c', x = .returned (.slice a' (runsL nx lim l p bz).length c') ∧ partE.Own 53 w' w.heap.size a' c' (runsL nx lim l p bz) ∧ Below w.heap.size w w' := by
  have B1 : Below w.heap.size w (w.alloc (.cells #[.slice none 0 0] 24)) := (Below.refl _ _).alloc (Nat.le_refl _) _
  have V0 : Var 24 (w.alloc (.cells #[.slice none 0 0] 24)) w.heap.size [.slice none 0 0] := Var.new _ _
  have S1 : (w.alloc (.cells #[.slice none 0 0] 24)).heap.size = w.heap.size + 1 := by simp
  have HLT : Hid (l ≠ [] → ∀ x, a = some x → x.block < w.heap.size) := lies_lt hL
  have hbtl := hbt.lt
  have hbcl := hbc.lt
  have HG : Hid (Gives Try.prog 55 #[.pointer (some ⟨bt, 0, none⟩), .pointer (some ⟨bc, 0, none⟩)] encR (runsL nx lim l p bz) (fun k o => (k = w.heap.size ∧ o.isCells = true ∨ Big w.heap.size 53 2 k o) ∨ (k = (w.alloc (.cells #[.slice none 0 0] 24)).heap.size + 1 ∧ o.isCells = false)) (w.alloc (.cells #[.slice none 0 0] 24))) := by
    refine runsOf1 nx bs a c cp fi en l p bz bt bc _ (w.alloc (.cells #[.slice none 0 0] 24)) (hbt.later B1) (hbc.later B1) (hL.later B1) hl hp hnx hb hc hp0 hp1 hz hlim ?_ ?_ ?_ ?_ ?_ ?_
    · rintro hne x hx o ((⟨hm, _⟩ | ⟨hm, _⟩) | ⟨hm, _⟩)
      all_goals (have := HLT.out hne x hx; (try simp at hm); omega)
    · rintro o ((⟨hm, _⟩ | ⟨hm, _⟩) | ⟨hm, _⟩) <;> ((try simp at hm); omega)
    · rintro o ((⟨hm, _⟩ | ⟨hm, _⟩) | ⟨hm, _⟩) <;> ((try simp at hm); omega)
    · rintro k v0 v1 hk ((⟨hm, _⟩ | ⟨_, vs, hm, hs⟩) | ⟨_, hm⟩)
      · simp at hk; omega
      · cases hm; simp at hs
      · cases hm
    · rintro k v hk ((⟨hm, _⟩ | ⟨_, vs, hm, hs⟩) | ⟨_, hm⟩)
      · simp at hk; omega
      · cases hm
      · cases hm
    · rintro k o hk ho ((⟨hm, _⟩ | ⟨_, vs, hm, hs⟩) | ⟨hm, _⟩)
      · simp at hk; omega
      · rw [hm] at ho; cases ho
      · simp at hk hm; omega
  have HRL := runs_len nx lim l p bz
  obtain ⟨W1, hW1⟩ : ∃ W1, (w.alloc (.cells #[.slice none 0 0] 24)) = W1 := ⟨_, rfl⟩
  rw [hW1] at B1 V0 S1 HG
  have HW1 : Hid _ := hW1
  clear hW1 hbt hbc hL hnx hc hp hlim
  refine callsIn_wide.1 (callsIn_of_wp_marks (F := Fence.wide) (n := 0) Try.func54 rfl trivial ?_ rfl)
  simp only [Try.ntmps54, List.size_toArray, List.length_cons, List.length_nil, Nat.reduceAdd, Nat.reduceSub, Array.replicate_succ, Array.replicate_zero, List.push_toArray, List.append_toArray, List.nil_append, List.cons_append]
  gi_wp2
  rw [HW1.out]
  clear HW1
  refine wp_range (gf := 55) (lb := #[.pointer (some ⟨bt, 0, none⟩), .pointer (some ⟨bc, 0, none⟩)]) (xs := runsL nx lim l p bz) (encs := encR) (mb := fun k o => k = w.heap.size ∧ o.isCells = true ∨ Big w.heap.size 53 2 k o) rfl (enters_of Try.func55 (by kernel_rfl) rfl) HG.out
    (fun o ho => ⟨(by rintro (⟨hm, _⟩ | ⟨_, vs, hm, _⟩); omega; rw [hm] at ho; cases ho), (by rintro (⟨hm, _⟩ | ⟨_, vs, hm, _⟩); omega; rw [hm] at ho; cases ho)⟩) (fun _ => rfl)
    (SeqI w (runsL nx lim l p bz))
    (fun c V => False)
    (fun i A B ⟨a', c', h1, h2, h3, h4⟩ hs => ⟨a', c', std_var hs h1, std_own hs h2, h3, h4.trans (std_below hs (by omega) h4.size)⟩)
    (fun c A B h hs => h)
    ⟨none, 0, by simpa using V0, by simpa using El.Own.none _ _, fun _ => rfl, B1⟩
    (fun x V a' A => Var 53 A V.heap.size [.int .i64 x.1, .string x.2] ∧ a' = { tmps := #[.slice none 0 0, .func (.func 55) #[] #[.pointer (some ⟨bt, 0, none⟩), .pointer (some ⟨bc, 0, none⟩)], .pointer (some ⟨w.heap.size, 0, none⟩), undef, .slice none 0 0, .pointer (some ⟨V.heap.size, 0, none⟩), .func (.func 55) #[] #[.pointer (some ⟨bt, 0, none⟩), .pointer (some ⟨bc, 0, none⟩)], .agg #[.int .i64 x.1, .string x.2], undef, undef, undef, undef, undef], defers := [] })
    (fun x V a' A B ⟨h1, h2⟩ hs => ⟨std_var hs h1, h2⟩) ?assign ?body ?done ?stop
  case assign =>
    rintro i ⟨pa, pb⟩ V hx hi hsz
    dsimp only [encR]
    gi_wp2
    refine ⟨⟨Var.new V [.int .i64 pa, .string pb], ?_⟩, (Below.refl _ _).alloc (Nat.le_refl _) _⟩
    first | rfl | trivial
  case body =>
    rintro i ⟨pa, pb⟩ a' V0 V hx ⟨a', c', h1, h2, h3, h4⟩ ⟨hV, rfl⟩ hs1 hs2
    have HT : Hid ((runsL nx lim l p bz).take (i + 1) = (runsL nx lim l p bz).take i ++ [(pa, pb)]) := by show _ = _; rw [List.take_add_one, hx]; rfl
    have hlen : ((runsL nx lim l p bz).take i).length + 1 ≤ 4194304 := by rw [List.length_take]; omega
    generalize (runsL nx lim l p bz).take i = L at *
    have e0 := h1.cell (i := 0) rfl
    have e1 := hV.cell (i := 0) rfl
    have e2 := hV.cell (i := 1) rfl
    have al := (Below.refl V.heap.size V).alloc (Nat.le_refl _) (.cells #[.int .i64 pa, .string pb] 53)
    have hsz0 : w.heap.size ≤ V.heap.size := h4.size
    have o1 := h2.alloc (.cells #[.int .i64 pa, .string pb] 53)
    have v1 := h1.alloc (.cells #[.int .i64 pa, .string pb] 53)
    have hB1 : w.heap.size ≤ (V.alloc (.cells #[.int .i64 pa, .string pb] 53)).heap.size := Nat.le_trans hsz0 al.size
    refine wpIn_block ?_
    refine region_round (by kernel_rfl) (fun ⟨_, _, h⟩ => h) ?_
    go_wp2_with (at_builtin; refine wpList_one typ (by decide) (by rfl) _ _ (by rfl) w.heap.size a' c' L.length L rfl (by rfl) o1 hB1 h3 ⟨V.heap.size, 0, none⟩ (pa, pb) (by rfl) (El.lies_new rfl) hlen ?_; intro a2 c2 w3 o3 g3; refine stand ?_)
    have v3 : Var 24 w3 w.heap.size [.slice a' L.length c'] := g3.same _ _ v1 (fun ⟨_, vs, hm, _⟩ => by cases hm)
    have f0 := v3.cell (i := 0) rfl
    have f1 := v3.free 0
    have hne := own_ne (T := 24) (by decide) o3 v3
    have B3 : Below w.heap.size w w3 := (h4.trans (al.mono hsz0)).trans (g3.below hB1 (fun k o hk hm => by have := hm.1; omega))
    have C3 : Chg (fun k o => k = w.heap.size ∧ o.isCells = true ∨ Big w.heap.size 53 2 k o) V w3 := (Chg.later al).trans (g3.mono (fun k o hm => .inr hm))
    show wpList _ _ _ _ _ _
    clear e0 e1 e2 g3 h1 h2 o1 v1 al hV
    go_wp2_with fail
    refine ⟨C3.trans (Chg.kept ((Draw.Kept.refl w.heap.size w3).setCell (p := ⟨w.heap.size, 0, none⟩) (.inl rfl) (.slice a2 (L.length + 1) c2)) (fun o ho => .inl ⟨rfl, by rw [show w3.heap[w.heap.size]? = _ from v3] at ho; cases ho; rfl⟩)), ?_⟩
    unfold SeqI
    rw [HT.out]
    exact ⟨a2, c2, by simpa using v3.set 0 (.slice a2 (L.length + 1) c2), o3.setCell hne _, fun e => by simp at e, B3.setCell (Nat.le_refl _) _⟩
  case done =>
    rintro V ⟨a', c', h1, h2, h3, h4⟩ hK
    have e0 := h1.cell (i := 0) rfl
    rw [List.take_of_length_le (Nat.le_refl _)] at e0 h2
    gi_wp2
    refine ret_marks _ hK (results_tmp rfl _ _ _) ⟨a', c', rfl, h2.same (fun x hx => World.putObj_heap_other ?_), below_put h4 (by omega)⟩
    intro e
    unfold El.Own at h2
    rcases h2.2 with ⟨hv, _⟩ | ⟨g, cap, cur, hv, _, hgb, _⟩
    · simp only [Value.slice.injEq] at hv
      rw [hv.1] at hx
      cases hx
    · simp only [Value.slice.injEq] at hv
      rw [hv.1] at hx
      cases hx
      dsimp only at e
      rw [e, hK] at hgb
      cases hgb
  case stop =>
    rintro c V h hK
    exact h.elim

set_option maxHeartbeats 1000000 in
theorem collect (nx : Int) (bs : ByteArray) (a : Option Addr) (c : Nat) (cp fi : Int) (en : Bool) (l : List Pt) (p : Int) (bz : ByteArray) (bt bc : Nat) (w : World)
    (hbt : Var 26 w bt [.int .i64 nx, .string bs, .slice a l.length c, .int .i64 cp, .int .i64 fi, .bool en]) (hbc : Var 53 w bc [.int .i64 p, .string bz]) (hL : partE.Lies w a l) (hl : l.length ≤ 2097152) (hp : Bd l)
    (hnx : 0 ≤ nx ∧ nx ≤ 1152921504606846976) (hb : bs.size ≤ 1152921504606846976) (hc : 0 ≤ cp ∧ cp ≤ 1152921504606846976) (hp0 : 0 ≤ p) (hp1 : p ≤ 1000000000) (hz : bz.size ≤ 40) {lim : Int} (hlim : limT nx bs cp = lim) :
    Calls Try.prog 32 #[.func (.func 55) #[] #[.pointer (some ⟨bt, 0, none⟩), .pointer (some ⟨bc, 0, none⟩)]] w fun x w' => ∃ a' c', x = .returned (.slice a' (runsL nx lim l p bz).length c') ∧ partE.Own 53 w' w.heap.size a' c' (runsL nx lim l p bz) ∧ Below w.heap.size w w' := by
  have h := appendSeq nx bs a c cp fi en l p bz bt bc w hbt hbc hL hl hp hnx hb hc hp0 hp1 hz hlim
  clear hbt hbc hL hl hp hnx hb hc hp0 hp1 hz hlim
  go_enter Try.func32, Try.ntmps32
  go_wp2_with fail
  refine h.mono ?_
  rintro x w1 ⟨a', c', rfl, o1, b1⟩
  have HO : Hid _ := o1
  clear o1 h
  go_wp2_with fail
  go_ret
  exact ⟨a', c', rfl, HO.out, b1⟩

end Go.Proofs.Ytinngechdnglpaa.Tak

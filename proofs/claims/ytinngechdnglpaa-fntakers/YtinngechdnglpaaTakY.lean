/- Contract of the program's gathered: what is next goes to the bytes, the rest stays; parts not beyond 2^62. -/
import Derived.Test.YtinngechdnglpaaTakV
import Derived.Test.YtinngechdnglpaaRowI
namespace Go.Proofs.Ytinngechdnglpaa.Tak
open Go.RowKit RowG Rng
set_option linter.unusedVariables false
set_option linter.unusedSimpArgs false
attribute [local go_sem] Oper.semAt_some

def gstep (st : Int × ByteArray × List Pt) (x : Int × Pt) : Int × ByteArray × List Pt := if x.1 < x.2.1 ∨ st.2.2 ≠ [] then (st.1, st.2.1, st.2.2 ++ [x.2]) else (endP x.2, st.2.1 ++ x.2.2, st.2.2)
def gath (nx : Int) (bs : ByteArray) (l : List Pt) (i : Nat) : Int × ByteArray × List Pt := ((pairs nx l).take i).foldl gstep (nx, bs, [])
theorem gath_succ {nx : Int} {bs : ByteArray} {l : List Pt} {i : Nat} {x : Int × Pt} (hx : (pairs nx l)[i]? = some x) : gath nx bs l (i + 1) = gstep (gath nx bs l i) x := by
  unfold gath
  rw [List.take_add_one, hx, Option.toList_some, List.foldl_append]
  rfl
theorem pairs_snd : ∀ (b : Int) (l : List Pt), (pairs b l).map (·.2) = l
  | _, [] => rfl
  | b, p :: l => by simp [pairs, pairs_snd (endP p) l]
theorem pairs_at' {b : Int} {l : List Pt} {i : Nat} {x : Int × Pt} (h : (pairs b l)[i]? = some x) : l[i]? = some x.2 := by
  have e := pairs_snd b l
  rw [← e, List.getElem?_map, h]
  rfl
theorem tot_take {l : List Pt} {i : Nat} {p : Pt} (h : l[i]? = some p) : tot (l.take (i + 1)) = tot (l.take i) + p.2.size := by
  rw [List.take_add_one, h, Option.toList_some, tot_append]
  simp [tot]
theorem tot_le (l : List Pt) (i : Nat) : tot (l.take i) ≤ tot l := by
  have e : tot l = tot (l.take i) + tot (l.drop i) := by rw [← tot_append, List.take_append_drop]
  omega

/-- What is known of the taker that is being gathered. -/
def GathI (w : World) (nx : Int) (bs : ByteArray) (a : Option Addr) (c : Nat) (cp fi : Int) (en : Bool) (l : List Pt) (i : Nat) (V : World) : Prop :=
  ∃ (n' : Int) (b' : ByteArray) (r : List Pt) (a' : Option Addr) (c' : Nat), gath nx bs l i = (n', b', r) ∧ b'.size ≤ bs.size + tot (l.take i) ∧ r.length ≤ i ∧ Var 26 V w.heap.size [.int .i64 n', .string b', .slice a l.length c, .int .i64 cp, .int .i64 fi, .bool en] ∧ Var 26 V (w.heap.size + 1) [.int .i64 0, .string ⟨#[]⟩, .slice none 0 0, .int .i64 0, .int .i64 0, .bool false] ∧ Var 24 V (w.heap.size + 1 + 1) [.slice a' r.length c'] ∧ partE.Own 53 V (w.heap.size + 1 + 1) a' c' r ∧ (r = [] → c' = 0) ∧ Below w.heap.size w V

set_option maxRecDepth 100000 in
set_option maxHeartbeats 8000000 in
theorem gathered (nx : Int) (bs : ByteArray) (a : Option Addr) (n c : Nat) (cp fi : Int) (en : Bool) (l : List Pt) (w : World) (hn : n = l.length) (h : partE.Lies w a l) (hl : l.length ≤ 1048576) (hp : Bd l) (ht : bs.size + tot l ≤ 1048576) :
    Calls Try.prog 36 #[.agg #[.int .i64 nx, .string bs, .slice a n c, .int .i64 cp, .int .i64 fi, .bool en]] w fun x w' => ∃ (n' : Int) (b' : ByteArray) (r : List Pt), gath nx bs l (pairs nx l).length = (n', b', r) ∧ ∃ (a' : Option Addr) (c' : Nat), x = .returned (.agg #[.int .i64 n', .string b', .slice a' r.length c', .int .i64 cp, .int .i64 fi, .bool (n' == fi)]) ∧ partE.Own 53 w' w.heap.size a' c' r ∧ Below w.heap.size w w' := by
  subst hn
  have B5 : Below w.heap.size w (((((w.alloc (.cells #[.int .i64 nx, .string bs, .slice a l.length c, .int .i64 cp, .int .i64 fi, .bool en] 26)).alloc (.cells #[.int .i64 0, .string ⟨#[]⟩, .slice none 0 0, .int .i64 0, .int .i64 0, .bool false] 26)).alloc (.cells #[.slice none 0 0] 24)).alloc (.cells #[.int .i64 nx] 2)).alloc (.cells #[.slice a l.length c] 24)) := (((((Below.refl _ _).alloc (Nat.le_refl _) _).alloc (by simp) _).alloc (by simp; omega) _).alloc (by simp; omega) _).alloc (by simp; omega) _
  have V0 : Var 26 (((((w.alloc (.cells #[.int .i64 nx, .string bs, .slice a l.length c, .int .i64 cp, .int .i64 fi, .bool en] 26)).alloc (.cells #[.int .i64 0, .string ⟨#[]⟩, .slice none 0 0, .int .i64 0, .int .i64 0, .bool false] 26)).alloc (.cells #[.slice none 0 0] 24)).alloc (.cells #[.int .i64 nx] 2)).alloc (.cells #[.slice a l.length c] 24)) w.heap.size [.int .i64 nx, .string bs, .slice a l.length c, .int .i64 cp, .int .i64 fi, .bool en] := ((((Var.new w [.int .i64 nx, .string bs, .slice a l.length c, .int .i64 cp, .int .i64 fi, .bool en]).alloc _).alloc _).alloc _).alloc _
  have V1 : Var 26 (((((w.alloc (.cells #[.int .i64 nx, .string bs, .slice a l.length c, .int .i64 cp, .int .i64 fi, .bool en] 26)).alloc (.cells #[.int .i64 0, .string ⟨#[]⟩, .slice none 0 0, .int .i64 0, .int .i64 0, .bool false] 26)).alloc (.cells #[.slice none 0 0] 24)).alloc (.cells #[.int .i64 nx] 2)).alloc (.cells #[.slice a l.length c] 24)) (w.heap.size + 1) [.int .i64 0, .string ⟨#[]⟩, .slice none 0 0, .int .i64 0, .int .i64 0, .bool false] := by
    have e := (((Var.new (T := 26) (w.alloc (.cells #[.int .i64 nx, .string bs, .slice a l.length c, .int .i64 cp, .int .i64 fi, .bool en] 26)) [.int .i64 0, .string ⟨#[]⟩, .slice none 0 0, .int .i64 0, .int .i64 0, .bool false]).alloc (.cells #[.slice none 0 0] 24)).alloc (.cells #[.int .i64 nx] 2)).alloc (.cells #[.slice a l.length c] 24)
    rwa [World.size_alloc] at e
  have V2 : Var 24 (((((w.alloc (.cells #[.int .i64 nx, .string bs, .slice a l.length c, .int .i64 cp, .int .i64 fi, .bool en] 26)).alloc (.cells #[.int .i64 0, .string ⟨#[]⟩, .slice none 0 0, .int .i64 0, .int .i64 0, .bool false] 26)).alloc (.cells #[.slice none 0 0] 24)).alloc (.cells #[.int .i64 nx] 2)).alloc (.cells #[.slice a l.length c] 24)) (w.heap.size + 1 + 1) [.slice none 0 0] := by
    have e := ((Var.new (T := 24) ((w.alloc (.cells #[.int .i64 nx, .string bs, .slice a l.length c, .int .i64 cp, .int .i64 fi, .bool en] 26)).alloc (.cells #[.int .i64 0, .string ⟨#[]⟩, .slice none 0 0, .int .i64 0, .int .i64 0, .bool false] 26)) [.slice none 0 0]).alloc (.cells #[.int .i64 nx] 2)).alloc (.cells #[.slice a l.length c] 24)
    rwa [World.size_alloc, World.size_alloc] at e
  have V3 : Var 2 (((((w.alloc (.cells #[.int .i64 nx, .string bs, .slice a l.length c, .int .i64 cp, .int .i64 fi, .bool en] 26)).alloc (.cells #[.int .i64 0, .string ⟨#[]⟩, .slice none 0 0, .int .i64 0, .int .i64 0, .bool false] 26)).alloc (.cells #[.slice none 0 0] 24)).alloc (.cells #[.int .i64 nx] 2)).alloc (.cells #[.slice a l.length c] 24)) (w.heap.size + 1 + 1 + 1) [.int .i64 nx] := by
    have e := (Var.new (T := 2) (((w.alloc (.cells #[.int .i64 nx, .string bs, .slice a l.length c, .int .i64 cp, .int .i64 fi, .bool en] 26)).alloc (.cells #[.int .i64 0, .string ⟨#[]⟩, .slice none 0 0, .int .i64 0, .int .i64 0, .bool false] 26)).alloc (.cells #[.slice none 0 0] 24)) [.int .i64 nx]).alloc (.cells #[.slice a l.length c] 24)
    rwa [World.size_alloc, World.size_alloc, World.size_alloc] at e
  have V4 : Var 24 (((((w.alloc (.cells #[.int .i64 nx, .string bs, .slice a l.length c, .int .i64 cp, .int .i64 fi, .bool en] 26)).alloc (.cells #[.int .i64 0, .string ⟨#[]⟩, .slice none 0 0, .int .i64 0, .int .i64 0, .bool false] 26)).alloc (.cells #[.slice none 0 0] 24)).alloc (.cells #[.int .i64 nx] 2)).alloc (.cells #[.slice a l.length c] 24)) (w.heap.size + 1 + 1 + 1 + 1) [.slice a l.length c] := by
    have e := Var.new (T := 24) ((((w.alloc (.cells #[.int .i64 nx, .string bs, .slice a l.length c, .int .i64 cp, .int .i64 fi, .bool en] 26)).alloc (.cells #[.int .i64 0, .string ⟨#[]⟩, .slice none 0 0, .int .i64 0, .int .i64 0, .bool false] 26)).alloc (.cells #[.slice none 0 0] 24)).alloc (.cells #[.int .i64 nx] 2)) [.slice a l.length c]
    rwa [World.size_alloc, World.size_alloc, World.size_alloc, World.size_alloc] at e
  have S5 : (((((w.alloc (.cells #[.int .i64 nx, .string bs, .slice a l.length c, .int .i64 cp, .int .i64 fi, .bool en] 26)).alloc (.cells #[.int .i64 0, .string ⟨#[]⟩, .slice none 0 0, .int .i64 0, .int .i64 0, .bool false] 26)).alloc (.cells #[.slice none 0 0] 24)).alloc (.cells #[.int .i64 nx] 2)).alloc (.cells #[.slice a l.length c] 24)).heap.size = w.heap.size + 5 := by simp
  have L5 := h.later B5
  have HLT : Hid (l ≠ [] → ∀ x, a = some x → x.block < w.heap.size) := lies_lt h
  obtain ⟨W5, hW5⟩ : ∃ W5, (((((w.alloc (.cells #[.int .i64 nx, .string bs, .slice a l.length c, .int .i64 cp, .int .i64 fi, .bool en] 26)).alloc (.cells #[.int .i64 0, .string ⟨#[]⟩, .slice none 0 0, .int .i64 0, .int .i64 0, .bool false] 26)).alloc (.cells #[.slice none 0 0] 24)).alloc (.cells #[.int .i64 nx] 2)).alloc (.cells #[.slice a l.length c] 24)) = W5 := ⟨_, rfl⟩
  rw [hW5] at B5 V0 V1 V2 V3 V4 S5 L5
  have HW5 : Hid _ := hW5
  have HP : Hid (Bd l) := hp
  clear hW5 h hp
  refine callsIn_wide.1 (callsIn_of_wp_marks (F := Fence.wide) (n := 0) Try.func36 rfl trivial ?_ rfl)
  simp only [Try.ntmps36, List.size_toArray, List.length_cons, List.length_nil, Nat.reduceAdd, Nat.reduceSub, Array.replicate_succ, Array.replicate_zero, List.push_toArray, List.append_toArray, List.nil_append, List.cons_append]
  gi_wp2_with (refine ⟨trivial, rfl, ?_⟩; gi_at_call 56; refine (callsIn_wide.2 (partsFrom _ _ _ _ _)).mono ?_; rintro e w' ⟨rfl, rfl⟩)
  rw [HW5.out]
  clear HW5
  refine wp_range (gf := 66) (lb := #[.pointer (some ⟨w.heap.size + 1 + 1 + 1, 0, none⟩), .pointer (some ⟨w.heap.size + 1 + 1 + 1 + 1, 0, none⟩)]) (xs := pairs nx l) (encs := encQ) (mb := fun k o => (k = w.heap.size ∨ k = w.heap.size + 1 + 1) ∧ o.isCells = true ∨ Big (w.heap.size + 1 + 1) 53 2 k o) rfl (enters_of Try.func66 (by kernel_rfl) rfl)
    (partsFrom1 nx a c l _ _ _ W5 V3 V4 L5 (by omega) HP.out (fun hne x hx o hm => by
      have := HLT.out hne x hx
      rcases hm with (⟨hm, _⟩ | ⟨hm, _⟩) | ⟨hm, _⟩ <;> omega) (fun k v0 v1 hk hm => by
      rcases hm with (⟨hm, _⟩ | ⟨_, vs, hm, hs⟩) | ⟨_, hm⟩
      · omega
      · cases hm; simp at hs
      · cases hm))
    (fun o ho => ⟨(by rintro (⟨hm, _⟩ | ⟨_, vs, hm, _⟩); omega; rw [hm] at ho; cases ho), (by rintro (⟨hm, _⟩ | ⟨_, vs, hm, _⟩); omega; rw [hm] at ho; cases ho)⟩) (fun _ => rfl)
    (GathI w nx bs a c cp fi en l)
    (fun c V => False)
    (fun i A B ⟨n', b', r, a', c', g1, g2, g3, h1, h2, h3, h4, h5, h6⟩ hs => ⟨n', b', r, a', c', g1, g2, g3, std_var hs h1, std_var hs h2, std_var hs h3, std_own hs h4, h5, h6.trans (std_below hs (by omega) h6.size)⟩)
    (fun c A B h hs => h)
    ⟨nx, bs, [], none, 0, rfl, by omega, Nat.le_refl _, V0, V1, V2, El.Own.none _ _, fun _ => rfl, B5⟩
    (fun x V a' A => Var 53 A V.heap.size [.int .i64 x.2.1, .string x.2.2] ∧ a' = { tmps := #[.agg #[.int .i64 nx, .string bs, .slice a l.length c, .int .i64 cp, .int .i64 fi, .bool en], .pointer (some ⟨w.heap.size, 0, none⟩), .pointer (some ⟨w.heap.size + 1, 0, none⟩), .pointer (some ⟨w.heap.size + 1 + 1, 0, none⟩), .int .i64 x.1, .pointer (some ⟨V.heap.size, 0, none⟩), .pointer (some ⟨w.heap.size, 0, none⟩), .int .i64 nx, .pointer (some ⟨w.heap.size, 2, none⟩), .slice a l.length c, .func (.func 66) #[] #[.pointer (some ⟨w.heap.size + 1 + 1 + 1, 0, none⟩), .pointer (some ⟨w.heap.size + 1 + 1 + 1 + 1, 0, none⟩)], .int .i64 x.1, .agg #[.int .i64 x.2.1, .string x.2.2], undef, undef, undef, undef, undef, undef, undef, undef, undef, undef, undef, undef, undef, undef, undef, undef, undef, undef, undef, undef, undef, undef, undef, undef, undef, undef, undef, undef, undef, undef, undef], defers := [] })
    (fun x V a' A B ⟨h1, h2⟩ hs => ⟨std_var hs h1, h2⟩) ?assign ?body ?done ?stop
  case assign =>
    rintro i ⟨b, pa, pb⟩ V hx hi hsz
    dsimp only [encQ]
    gi_wp2
    refine ⟨⟨Var.new V [.int .i64 pa, .string pb], ?_⟩, (Below.refl _ _).alloc (Nat.le_refl _) _⟩
    first | rfl | trivial
  case body =>
    rintro i ⟨b, pa, pb⟩ a' V0 V hx ⟨n', b', r, a', c', g1, g2, g3, h1, h2, h3, h4, h5, h6⟩ ⟨hV, rfl⟩ hs1 hs2
    have hxl := pairs_at' hx
    have hbd : bdP (pa, pb) := HP.out _ (List.mem_of_getElem? hxl)
    have HT : Hid (tot (l.take (i + 1)) = tot (l.take i) + pb.size) := tot_take hxl
    have htl : tot (l.take (i + 1)) ≤ tot l := tot_le l (i + 1)
    have HG : Hid (gath nx bs l (i + 1) = gstep (n', b', r) (b, pa, pb)) := by show _ = _; rw [gath_succ hx, g1]
    have hil : i < l.length := (List.getElem?_eq_some_iff.1 hxl).1
    have hrl : r.length + 1 ≤ 4194304 := by omega
    have e0 := h1.cell (i := 0) rfl
    have e1 := h1.cell (i := 1) rfl
    have ef0 := h1.free 0
    have ef1 := h1.free 1
    have k0 := h3.cell (i := 0) rfl
    have p0 := hV.cell (i := 0) rfl
    have p1 := hV.cell (i := 1) rfl
    have al := (Below.refl V.heap.size V).alloc (Nat.le_refl _) (.cells #[.int .i64 pa, .string pb] 53)
    have o1 := h4.alloc (.cells #[.int .i64 pa, .string pb] 53)
    have w1 := h3.alloc (.cells #[.int .i64 pa, .string pb] 53)
    have hB1 : w.heap.size + 1 + 1 ≤ (V.alloc (.cells #[.int .i64 pa, .string pb] 53)).heap.size := Nat.le_trans (by have := h3.lt; omega) al.size
    clear hx hxl g1
    by_cases hb1 : b < pa
    · have HC : Hid (b < pa ∨ r ≠ []) := .inl hb1
      gi_wp2_with (gi_at_builtin; refine wpListIn_one typ (by decide) (by rfl) _ _ (by rfl) (w.heap.size + 1 + 1) a' c' r.length r rfl (by rfl) o1 hB1 h5 ⟨V.heap.size, 0, none⟩ (pa, pb) (by rfl) (El.lies_new rfl) hrl ?_; intro a2 c2 w3 o3 g3; refine stand ?_)
      have v3 : Var 24 w3 (w.heap.size + 1 + 1) [.slice a' r.length c'] := g3.same _ _ w1 (fun ⟨_, vs, hm, _⟩ => by cases hm)
      have t3 : Var 26 w3 w.heap.size [.int .i64 n', .string b', .slice a l.length c, .int .i64 cp, .int .i64 fi, .bool en] := g3.same _ _ (h1.alloc _) (fun ⟨_, vs, hm, _⟩ => by cases hm)
      have q3 : Var 26 w3 (w.heap.size + 1) [.int .i64 0, .string ⟨#[]⟩, .slice none 0 0, .int .i64 0, .int .i64 0, .bool false] := g3.same _ _ (h2.alloc _) (fun ⟨_, vs, hm, _⟩ => by cases hm)
      have m0 := v3.cell (i := 0) rfl
      have m1 := v3.free 0
      have hne := own_ne (T := 24) (by decide) o3 v3
      have B3 : Below w.heap.size w w3 := (h6.trans (al.mono h6.size)).trans (g3.below (by omega) (fun k o hk hm => by have := hm.1; omega))
      have C3 : Chg (fun k o => (k = w.heap.size ∨ k = w.heap.size + 1 + 1) ∧ o.isCells = true ∨ Big (w.heap.size + 1 + 1) 53 2 k o) V w3 := (Chg.later al).trans (g3.mono (fun k o hm => .inr hm))
      show wpListIn _ _ _ _ _ _ _ _
      clear e0 e1 k0 p0 p1 g3 h1 h2 h3 h4 o1 w1 al hV ef0 ef1
      gi_wp2
      refine ⟨C3.trans (Chg.kept ((Draw.Kept.refl (w.heap.size + 1 + 1) w3).setCell (p := ⟨w.heap.size + 1 + 1, 0, none⟩) (.inl rfl) (.slice a2 (r.length + 1) c2)) (fun o ho => .inl ⟨.inr rfl, by rw [show w3.heap[w.heap.size + 1 + 1]? = _ from v3] at ho; cases ho; rfl⟩)), ?_⟩
      exact ⟨n', b', r ++ [(pa, pb)], a2, c2, by rw [HG.out, gstep, if_pos HC.out], by rw [HT.out]; omega, by simp; omega, t3.other (by dsimp only; omega) _, q3.other (by dsimp only; omega) _, by simpa using v3.set 0 (.slice a2 (r.length + 1) c2), o3.setCell hne _, fun e => by simp at e, B3.setCell (by dsimp only; omega) _⟩
    by_cases hr : r = []
    · subst hr
      have HC : Hid (¬ (b < pa ∨ ([] : List Pt) ≠ [])) := by show ¬ _; simp; omega
      have hbz : b'.size + pb.size ≤ 1048576 := by have := HT.out; omega
      gi_wp2_with fail
      refine ⟨trivial, rfl, ?_⟩
      refine (CallsIn.inRound _ (callsIn_wide.2 (behind _ _ _ hbd))).mono ?_
      rintro e V2 ⟨rfl, hb2⟩
      have t2 := (h1.set 1 (.string (b' ++ pb))).later hb2
      have q2 := (h2.other (p := ⟨w.heap.size, 1, none⟩) (by dsimp only; omega) (.string (b' ++ pb))).later hb2
      have l2 := (h3.other (p := ⟨w.heap.size, 1, none⟩) (by dsimp only; omega) (.string (b' ++ pb))).later hb2
      have hx4 : ∀ x, a' = some x → x.block ≠ w.heap.size := fun x e => by have := (h4.lt x e).1; omega
      have o2 := (h4.setCell (p := ⟨w.heap.size, 1, none⟩) hx4 (.string (b' ++ pb))).later hb2
      have B2 : Below w.heap.size w (V.setCell ⟨w.heap.size, 1, none⟩ (.string (b' ++ pb))) := h6.setCell (Nat.le_refl _) _
      have B3 := B2.trans (hb2.mono B2.size)
      have C3 : Chg (fun k o => (k = w.heap.size ∨ k = w.heap.size + 1 + 1) ∧ o.isCells = true ∨ Big (w.heap.size + 1 + 1) 53 2 k o) V V2 := (Chg.kept ((Draw.Kept.refl w.heap.size V).setCell (p := ⟨w.heap.size, 1, none⟩) (.inl rfl) (.string (b' ++ pb))) (fun o ho => .inl ⟨.inl rfl, by rw [show V.heap[w.heap.size]? = _ from h1] at ho; cases ho; rfl⟩)).trans (Chg.later hb2)
      have m0 := t2.cell (i := 0) rfl
      have m1 := t2.free 0
      clear e0 e1 k0 p0 p1 h1 h2 h3 h4 o1 w1 al hV ef0 ef1 hb2
      gi_wp2
      refine ⟨C3.trans (Chg.kept ((Draw.Kept.refl w.heap.size V2).setCell (p := ⟨w.heap.size, 0, none⟩) (.inl rfl) (.int .i64 (endP (pa, pb)))) (fun o ho => .inl ⟨.inl rfl, by rw [show V2.heap[w.heap.size]? = _ from t2] at ho; cases ho; rfl⟩)), ?_⟩
      exact ⟨endP (pa, pb), b' ++ pb, [], a', c', by rw [HG.out, gstep, if_neg HC.out], by rw [HT.out, ByteArray.size_append]; omega, by simp, t2.set 0 _, q2.other (by dsimp only; omega) _, l2.other (by dsimp only; omega) _, o2.setCell (fun x e => by have := hx4 x e; dsimp only; omega) _, (fun _ => h5 trivial), B3.setCell (Nat.le_refl _) _⟩
    · have HC : Hid (b < pa ∨ r ≠ []) := .inr hr
      have hr0 : 0 < r.length := List.length_pos_iff.2 hr
      gi_wp2_with (gi_at_builtin; refine wpListIn_one typ (by decide) (by rfl) _ _ (by rfl) (w.heap.size + 1 + 1) a' c' r.length r rfl (by rfl) o1 hB1 h5 ⟨V.heap.size, 0, none⟩ (pa, pb) (by rfl) (El.lies_new rfl) hrl ?_; intro a2 c2 w3 o3 g3; refine stand ?_)
      have v3 : Var 24 w3 (w.heap.size + 1 + 1) [.slice a' r.length c'] := g3.same _ _ w1 (fun ⟨_, vs, hm, _⟩ => by cases hm)
      have t3 : Var 26 w3 w.heap.size [.int .i64 n', .string b', .slice a l.length c, .int .i64 cp, .int .i64 fi, .bool en] := g3.same _ _ (h1.alloc _) (fun ⟨_, vs, hm, _⟩ => by cases hm)
      have q3 : Var 26 w3 (w.heap.size + 1) [.int .i64 0, .string ⟨#[]⟩, .slice none 0 0, .int .i64 0, .int .i64 0, .bool false] := g3.same _ _ (h2.alloc _) (fun ⟨_, vs, hm, _⟩ => by cases hm)
      have m0 := v3.cell (i := 0) rfl
      have m1 := v3.free 0
      have hne := own_ne (T := 24) (by decide) o3 v3
      have B3 : Below w.heap.size w w3 := (h6.trans (al.mono h6.size)).trans (g3.below (by omega) (fun k o hk hm => by have := hm.1; omega))
      have C3 : Chg (fun k o => (k = w.heap.size ∨ k = w.heap.size + 1 + 1) ∧ o.isCells = true ∨ Big (w.heap.size + 1 + 1) 53 2 k o) V w3 := (Chg.later al).trans (g3.mono (fun k o hm => .inr hm))
      show wpListIn _ _ _ _ _ _ _ _
      clear e0 e1 k0 p0 p1 g3 h1 h2 h3 h4 o1 w1 al hV ef0 ef1
      gi_wp2
      refine ⟨C3.trans (Chg.kept ((Draw.Kept.refl (w.heap.size + 1 + 1) w3).setCell (p := ⟨w.heap.size + 1 + 1, 0, none⟩) (.inl rfl) (.slice a2 (r.length + 1) c2)) (fun o ho => .inl ⟨.inr rfl, by rw [show w3.heap[w.heap.size + 1 + 1]? = _ from v3] at ho; cases ho; rfl⟩)), ?_⟩
      exact ⟨n', b', r ++ [(pa, pb)], a2, c2, by rw [HG.out, gstep, if_pos HC.out], by rw [HT.out]; omega, by simp; omega, t3.other (by dsimp only; omega) _, q3.other (by dsimp only; omega) _, by simpa using v3.set 0 (.slice a2 (r.length + 1) c2), o3.setCell hne _, fun e => by simp at e, B3.setCell (by dsimp only; omega) _⟩
  case done =>
    rintro V ⟨n', b', r, a', c', g1, g2, g3, h1, h2, h3, h4, h5, h6⟩ hK
    have e0 := h1.cell (i := 0) rfl
    have e1 := h1.cell (i := 1) rfl
    have e2 := h1.cell (i := 2) rfl
    have e3 := h1.cell (i := 3) rfl
    have e4 := h1.cell (i := 4) rfl
    have e5 := h1.cell (i := 5) rfl
    have f0 := h1.free 0
    have f1 := h1.free 1
    have f2 := h1.free 2
    have f3 := h1.free 3
    have f4 := h1.free 4
    have f5 := h1.free 5
    have q0 := h2.cell (i := 0) rfl
    have q1 := h2.cell (i := 1) rfl
    have q2 := h2.cell (i := 2) rfl
    have q3 := h2.cell (i := 3) rfl
    have q4 := h2.cell (i := 4) rfl
    have q5 := h2.cell (i := 5) rfl
    have z0 := h2.free 0
    have z1 := h2.free 1
    have z2 := h2.free 2
    have z3 := h2.free 3
    have z4 := h2.free 4
    have z5 := h2.free 5
    have k0 := h3.cell (i := 0) rfl
    have hx4 : ∀ x, a' = some x → w.heap.size + 1 + 1 ≤ x.block := fun x e => (h4.lt x e).1
    have HX4 : Hid _ := hx4
    have H1 : Hid _ := h1
    have H2 : Hid (Var 26 V (w.heap.size + 1) [.int .i64 0, .string ⟨#[]⟩, .slice none 0 0, .int .i64 0, .int .i64 0, .bool false]) := h2
    have H4 : Hid (partE.Own 53 V (w.heap.size + 1 + 1) a' c' r) := h4
    have H6 : Hid _ := h6
    clear hx4 h1 h2 h3 h4 h6
    gi_wp2
    have hv := (((((((H2.out.other (p := ⟨w.heap.size, 2, none⟩) (by dsimp only; omega) (.slice a' r.length c')).other (p := ⟨w.heap.size, 5, none⟩) (by dsimp only; omega) (.bool (n' == fi))).set 0 (.int .i64 n')).set 1 (.string b')).set 2 (.slice a' r.length c')).set 3 (.int .i64 cp)).set 4 (.int .i64 fi)).set 5 (.bool (n' == fi))
    have hD : W5.heap.size ≠ w.heap.size ∧ W5.heap.size ≠ w.heap.size + 1 := ⟨by omega, by omega⟩
    have hv := var_put (o := .deferred none) hv (D := W5.heap.size) (by omega)
    have x0 := hv.cell (i := 0) rfl
    have x1 := hv.cell (i := 1) rfl
    have x2 := hv.cell (i := 2) rfl
    have x3 := hv.cell (i := 3) rfl
    have x4 := hv.cell (i := 4) rfl
    have x5 := hv.cell (i := 5) rfl
    clear hv e0 e1 e2 e3 e4 e5 f0 f1 f2 f3 f4 f5 q0 q1 q2 q3 q4 q5 z0 z1 z2 z3 z4 z5 k0
    have hKF : ((((((((V.setCell ⟨w.heap.size, 2, none⟩ (.slice a' r.length c')).setCell ⟨w.heap.size, 5, none⟩ (.bool (n' == fi))).setCell ⟨w.heap.size + 1, 0, none⟩ (.int .i64 n')).setCell ⟨w.heap.size + 1, 1, none⟩ (.string b')).setCell ⟨w.heap.size + 1, 2, none⟩ (.slice a' r.length c')).setCell ⟨w.heap.size + 1, 3, none⟩ (.int .i64 cp)).setCell ⟨w.heap.size + 1, 4, none⟩ (.int .i64 fi)).setCell ⟨w.heap.size + 1, 5, none⟩ (.bool (n' == fi))).heap[W5.heap.size]? = some (.deferred (some [])) := by
      iterate 8 (refine heap_cell ?_ (by dsimp only; omega))
      exact hK
    generalize hU : ((((((((V.setCell ⟨w.heap.size, 2, none⟩ (.slice a' r.length c')).setCell ⟨w.heap.size, 5, none⟩ (.bool (n' == fi))).setCell ⟨w.heap.size + 1, 0, none⟩ (.int .i64 n')).setCell ⟨w.heap.size + 1, 1, none⟩ (.string b')).setCell ⟨w.heap.size + 1, 2, none⟩ (.slice a' r.length c')).setCell ⟨w.heap.size + 1, 3, none⟩ (.int .i64 cp)).setCell ⟨w.heap.size + 1, 4, none⟩ (.int .i64 fi)).setCell ⟨w.heap.size + 1, 5, none⟩ (.bool (n' == fi))) = U at *
    have oU : partE.Own 53 U (w.heap.size + 1 + 1) a' c' r := by
      rw [← hU]
      iterate 8 (refine El.Own.setCell ?_ (fun x hx' => by have := HX4.out x hx'; dsimp only; omega) _)
      exact H4.out
    have bU : Below w.heap.size w U := by
      rw [← hU]
      iterate 8 (refine Below.setCell ?_ (by dsimp only; omega) _)
      exact H6.out
    have sD : Hid (W5.heap.size = w.heap.size + 5) := S5
    clear hU H1 H2 H4 H6 HX4 S5
    generalize W5.heap.size = D at *
    refine ret_marks (.agg #[.int .i64 n', .string b', .slice a' r.length c', .int .i64 cp, .int .i64 fi, .bool (n' == fi)]) hKF (by rw [res_cell rfl]; go_simp) ⟨n', b', r, g1, a', c', rfl, ?_, below_put bU (by have := sD.out; omega)⟩
    have oP := oU.mono (show w.heap.size ≤ w.heap.size + 1 + 1 by omega)
    refine oP.same (fun x hx => World.putObj_heap_other ?_)
    intro e
    unfold El.Own at oP
    rcases oP.2 with ⟨hv, _⟩ | ⟨g, cap, cur, hv, _, hgb, _⟩
    · simp only [Value.slice.injEq] at hv
      rw [hv.1] at hx
      cases hx
    · simp only [Value.slice.injEq] at hv
      rw [hv.1] at hx
      cases hx
      dsimp only at e
      rw [e, hKF] at hgb
      cases hgb
  case stop =>
    rintro c V h hK
    exact h.elim

end Go.Proofs.Ytinngechdnglpaa.Tak

/- Contracts of the program's isRightRoad, numbersByRoad, RoadsOk (chapter 10); lists of at most 2^21 roads. -/
import Derived.Test.YtnfdomgibkdkcaaRoaM
namespace Go.Proofs.Ytnfdomgibkdkcaa.Roa
open Go.RowKit RowG
set_option linter.unusedVariables false
set_option linter.unusedSimpArgs false

set_option maxHeartbeats 1000000 in
theorem isRightRoad (r : Rd) (w : World) : Calls Try.prog 47 #[r.v] w fun x w' => x = .returned (.bool (rdB r)) ∧ Below w.heap.size w w' := by
  obtain ⟨o, co, se, lo⟩ := r
  dsimp only [Rd.v]
  have fin : ∀ {o : Obj}, Below w.heap.size w (w.alloc o) := fun {o} => (Below.refl _ _).alloc (Nat.le_refl _) o
  cases h1 : Num.plB co
  · go_enter Try.func47, Try.ntmps47
    go_wp2_with (go_at_call 50; refine (Num.isPlace _ _).mono ?_; rintro x w' ⟨rfl, rfl⟩)
    go_ret
    exact ⟨Num.ret_bool (by simp [rdB, h1]), fin⟩
  cases h2 : Num.plB se
  · go_enter Try.func47, Try.ntmps47
    go_wp2_with (go_at_call 50; refine (Num.isPlace _ _).mono ?_; rintro x w' ⟨rfl, rfl⟩)
    go_ret
    exact ⟨Num.ret_bool (by simp [rdB, h2]), fin⟩
  have q2 := Num.pl_t h2
  cases h3 : Num.plB lo
  · have q3 := Num.pl_f h3
    go_enter Try.func47, Try.ntmps47
    go_wp2_with (go_at_call 50; refine (Num.isPlace _ _).mono ?_; rintro x w' ⟨rfl, rfl⟩)
    go_ret
    exact ⟨Num.ret_bool (by simp only [rdB, decide_eq_false (show ¬ (0 ≤ lo ∧ lo ≤ se) by omega), Bool.and_false]), fin⟩
  have q3 := Num.pl_t h3
  by_cases h4 : lo ≤ se
  · have e : rdB ⟨o, co, se, lo⟩ = true := by simp only [rdB, h1, h2, decide_eq_true (show 0 ≤ lo ∧ lo ≤ se by omega), Bool.and_true]
    go_enter Try.func47, Try.ntmps47
    go_wp2_with (go_at_call 50; refine (Num.isPlace _ _).mono ?_; rintro x w' ⟨rfl, rfl⟩)
    go_ret
    exact ⟨Num.ret_bool (by rw [e]), fin⟩
  · have e : rdB ⟨o, co, se, lo⟩ = false := by simp only [rdB, h1, h2, decide_eq_false (show ¬ (0 ≤ lo ∧ lo ≤ se) by omega), Bool.and_false]
    go_enter Try.func47, Try.ntmps47
    go_wp2_with (go_at_call 50; refine (Num.isPlace _ _).mono ?_; rintro x w' ⟨rfl, rfl⟩)
    go_ret
    exact ⟨Num.ret_bool (by rw [e, decide_eq_false (show ¬ lo ≤ se by omega)]), fin⟩
theorem isRightEq {o : Bool} {co se lo : Int} {v : Bool} (h : rdB ⟨o, co, se, lo⟩ = v) (w : World) : Calls Try.prog 47 #[.agg #[.bool o, .int .i64 co, .int .i64 se, .int .i64 lo]] w fun x w' => x = .returned (.bool v) ∧ Below w.heap.size w w' := by
  subst h
  exact isRightRoad ⟨o, co, se, lo⟩ w

theorem wpList_mapEntry {P : Program} {w w' : World} {ops : Array Oper} {rest : List Oper} {o : Oper} {a : Act} {Q : Exit → Act → World → Prop} (hgd : o.guard = none) (m k : Operand) (t : TypeId) (ho : o.op = .mapEntry t m k) (vm vk v : Value)
    (hm : a.eval m = vm) (hk : a.eval k = vk) (hrun : (Instr.mapEntry t vm vk).run P w = .ok v w') (h : wpList P ops Q rest (a.put o.dst v) w') : wpList P ops Q (o :: rest) a w := by
  refine wpList_plain hgd fun K hK => ?_
  unfold Oper.wp execOp
  simp [ho, hm, hk, hrun, Result.andThen]
  exact hK _ _ h
theorem wpList_entryStore {P : Program} {w w' : World} {ops : Array Oper} {rest : List Oper} {o : Oper} {a : Act} {Q : Exit → Act → World → Prop} (hgd : o.guard = none) (m s x : Operand) (t : TypeId) (ho : o.op = .entryStore t m s x) (vm vs vx : Value)
    (hm : a.eval m = vm) (hs : a.eval s = vs) (hx : a.eval x = vx) (hrun : (Instr.entryStore t vm vs vx).run P w = .ok () w') (h : ∀ v, wpList P ops Q rest (a.put o.dst v) w') : wpList P ops Q (o :: rest) a w := by
  refine wpList_plain hgd fun K hK => ?_
  unfold Oper.wp execOp
  simp [ho, hm, hs, hx, hrun, Result.andThen]
  exact hK _ _ (h _)
theorem run_clearMap {P : Program} {w : World} {b m : Nat} {es : Array MapEntry} {t ty k e : TypeId} (hu : P.underlying t = some (.map k e)) (h : w.heap[b]? = some (.map es m)) : (Builtin.clear_ #[t] ty #[.map (some b)]).run P w = .ok (.tuple #[]) (ChangeMaps.setBlock w b (.map #[] m)) := by
  simp [Builtin.clear_, run_underlying hu, MapKept.run_getObj_map h, MapKept.run_setObj_map _ h, Result.andThen, ChangeMaps.setBlock]
theorem wpList_clearMap {P : Program} {w : World} {ops : Array Oper} {rest : List Oper} {o : Oper} {a : Act} {Q : Exit → Act → World → Prop} (hgd : o.guard = none) (x : Operand) (t k e : TypeId) (ho : o.op = .call { callee := .builtin .clear, args := #[x], argTypes := #[t] }) (b m : Nat) (es : Array MapEntry)
    (hu : P.underlying t = some (.map k e)) (hx : a.eval x = .map (some b)) (hb : w.heap[b]? = some (.map es m)) (h : ∀ v, wpList P ops Q rest (a.put o.dst v) (ChangeMaps.setBlock w b (.map #[] m))) : wpList P ops Q (o :: rest) a w := by
  refine wpList_plain hgd fun K hK => ?_
  have hrun := run_clearMap (ty := o.type) hu hb
  unfold Oper.wp execOp
  simp [ho, resolve, invoke, builtin, hx, hrun, Result.andThen]
  exact hK _ _ (h _)

/-- The map of the numbers by road: empty where the roads are wrong. -/
def NumR (w w' : World) (l : List Rd) (b : Nat) : Prop := ∃ G m, MapAt w' w.heap.size b G m ∧ w.heap.size ≤ b ∧ (G = [] ↔ roadsB l = false) ∧ (openG G).Perm (openL l) ∧ Below w.heap.size w w'
/-- The walk stands still here. -/
theorem stand {p : Prop} (h : Hid p) : p := h.out

set_option maxRecDepth 10000 in
set_option maxHeartbeats 2000000 in
theorem numbersByRoad (a : Option Addr) (n cap : Nat) (l : List Rd) (w : World) (hn : n = l.length) (h : E.Lies w a l) (hl : l.length ≤ 2097152) :
    Calls Try.prog 42 #[.slice a n cap] w fun x w' => ∃ b, x = .returned (.map (some b)) ∧ NumR w w' l b := by
  subst hn
  have M0 := mapAt_new w w.heap.size
  have b0 : Below w.heap.size w (w.alloc (.map #[] 0)) := (Below.refl _ _).alloc (Nat.le_refl _) _
  have hmm := @run_makeMap Try.prog
  by_cases h4 : l.length ≤ 4
  · have i4 : ¬ (4 : Int) < (l.length : Int) := by omega
    go_enter Try.func42, Try.ntmps42
    go_wp2_with fail
    go_loopw [13] (fun iv wr => ∃ (k : Nat) (G : List Gr), k ≤ l.length ∧ iv = .int .i64 k ∧ MapAt wr w.heap.size w.heap.size G G.length ∧ Hid (∀ x ∈ G, x.ns.length ≤ k) ∧ Hid (k = 0 → G = []) ∧ Hid ((openG G).Perm (openN 0 (l.take k))) ∧ Hid (0 < k → G ≠ []) ∧ Hid (∀ j, j < k → rdB (at' l j) = true) ∧ Below w.heap.size w wr) (fun iv _ => l.length - (intOf iv).toNat)
    case atStart => exact ⟨0, [], Nat.zero_le _, rfl, M0, fun x hx => by simp at hx, fun _ => rfl, by show List.Perm _ _; simp [openG, openN], fun q => absurd q (by omega), fun j hj => by omega, b0⟩
    case round =>
      clear M0 b0
      obtain ⟨k, G, hk, rfl, M1, hns, HG0, hperm, hne, hgood, b1⟩ := hrel
      by_cases hlt : k < l.length
      · have i0 : (0 : Int) ≤ (k : Int) := by omega
        have i1 : (k : Int) < (l.length : Int) := by omega
        rcases h.later b1 with hs | ⟨b, off, rfl, hs⟩
        · simp [hs] at hlt
        obtain ⟨c0, c1, c2, c3⟩ := cells4 hs hlt
        clear hs
        obtain ⟨s, HS⟩ : ∃ s, Hid (at' l k = s) := ⟨_, rfl⟩
        rw [HS.out] at c0 c1 c2 c3
        obtain ⟨o, co, se, lo⟩ := s
        simp only at c0 c1 c2 c3
        have v2 : Var 36 (wr.alloc (.cells #[.bool o, .int .i64 co, .int .i64 se, .int .i64 lo] 36)) wr.heap.size [.bool o, .int .i64 co, .int .i64 se, .int .i64 lo] := Var.new wr _
        have M2 := M1.alloc (.cells #[.bool o, .int .i64 co, .int .i64 se, .int .i64 lo] 36)
        have B2 := b1.alloc b1.size (.cells #[.bool o, .int .i64 co, .int .i64 se, .int .i64 lo] 36)
        have hopn := openN_step hlt
        rw [HS.out] at hopn
        have HOP : Hid _ := hopn
        clear M1 b1 hopn
        cases hrd : rdB ⟨o, co, se, lo⟩
        · have hok : roadsB l = false := rd_false hlt (by rw [HS.out]; exact hrd)
          go_wp2_with fail
          refine (isRightEq hrd _).mono ?_
          rintro x w3 ⟨rfl, b3⟩
          have M3 := M2.later b3
          have B3 := B2.trans (b3.mono B2.size)
          clear M2 B2 b3 v2 c0 c1 c2 c3 HOP
          have M4 := M3.clear
          have B4 := grown_below B3 (Nat.le_refl _) (fun j hj => by cases hj; exact Nat.le_refl _) (setBlock_grown (o' := .map #[] G.length) M3.blk).1
          have hcl := fun ty => run_clearMap (P := Try.prog) (ty := ty) Try.underlying63 M3.blk
          generalize ChangeMaps.setBlock w3 w.heap.size (.map #[] G.length) = w4 at *
          clear M3 B3
          go_wp2_with fail
          go_ret
          exact ⟨_, rfl, [], _, M4, Nat.le_refl _, by simp [hok], by simp [openG, openL, hok], B4⟩
        · go_wp2_with fail
          refine (isRightEq hrd _).mono ?_
          rintro x w3 ⟨rfl, b3⟩
          have M3 := M2.later b3
          have v3 := v2.later b3
          have B3 := B2.trans (b3.mono B2.size)
          have HG : Hid (∀ j, j < k + 1 → rdB (at' l j) = true) := fun j hj => by
            by_cases e : j = k
            · rw [e, HS.out]; exact hrd
            · exact hgood.out j (by omega)
          clear M2 B2 b3 v2 c0 c1 c2 c3 hgood hne
          have c0 := v3.cell (i := 0) rfl
          have c1 := v3.cell (i := 1) rfl
          have c2 := v3.cell (i := 2) rfl
          have c3 := v3.cell (i := 3) rfl
          have M4 := M3.alloc (.cells #[.int .i64 (k : Int)] 2)
          have B4 := B3.alloc B3.size (.cells #[.int .i64 (k : Int)] 2)
          have L4 : EI.Lies (w3.alloc (.cells #[.int .i64 (k : Int)] 2)) (some ⟨w3.heap.size, 0, none⟩) [(k : Int)] := El.lies_new rfl
          have hlt3 := M3.lt
          clear M3 B3 v3
          by_cases hx : ∃ x ∈ G, x.key = ⟨o, co, se, lo⟩
          · obtain ⟨x, hxG, hxk⟩ := hx
            obtain ⟨j, hj⟩ := List.mem_iff_getElem?.1 hxG
            have hen := run_entry_old M4 hj hxk
            have hox := M4.own x hxG
            obtain ⟨xk, ns, g, c⟩ := x
            unfold Gr.val at hen
            dsimp only [Rd.v] at hen hox
            have hnl : ns.length ≤ k := hns.out _ hxG
            have HJ : Hid (G[j]? = some ⟨xk, ns, g, c⟩) := hj
            have HX : Hid (xk = ⟨o, co, se, lo⟩) := hxk
            have hB4 := B4.size
            clear hj hxk hxG
            go_wp2_with (at_builtin; refine wpList_appL tyI (by decide) (by rfl) _ _ (by rfl) w.heap.size (some ⟨g, 0, none⟩) c _ ns [(k : Int)] rfl (by rfl) hox hB4 ⟨w3.heap.size, 0, none⟩ 1 1 rfl (by rfl) L4 (by simp) (by simp only [List.length_cons, List.length_nil]; omega) ?_; intro g1 cc w5 q5 gr5 loc5; refine stand ?_)
            have hloc : g1 = g ∨ g1 = (w3.alloc (.cells #[.int .i64 (k : Int)] 2)).heap.size := by
              rcases loc5 with e | e
              · exact .inl (by simpa [blk] using e)
              · exact .inr e
            obtain ⟨hb5, M6⟩ := M4.put_old HJ.out gr5 q5 hloc
            have hjl := (List.getElem?_eq_some_iff.1 HJ.out).1
            have hst := fun t => run_store hb5 (by rw [ents_born, ents_len]) (by rw [ents_len]; exact hjl) t (.slice (some ⟨g1, 0, none⟩) (ns ++ [(k : Int)]).length cc)
            have gr6 := (setBlock_grown (o' := .map ((ents 0 G).modify j fun e => { e with val := .slice (some ⟨g1, 0, none⟩) (ns ++ [(k : Int)]).length cc }).toArray G.length) hb5).1
            generalize ChangeMaps.setBlock w5 w.heap.size _ = w6 at *
            have hlen : (ns ++ [(k : Int)]).length = ns.length + 1 := by simp
            rw [hlen] at hst
            dsimp only [goInt] at hst
            have B5 := grown_below B4 (Nat.le_refl _) (fun t ht => by cases ht; exact (hox.lt _ rfl).1) gr5
            have B6 := grown_below B5 (Nat.le_refl _) (fun t ht => by cases ht; exact Nat.le_refl _) gr6
            have HP : Hid ((openG (G.set j ⟨xk, ns ++ [(k : Int)], g1, cc⟩)).Perm (openN 0 (l.take (k + 1)))) := by
              show List.Perm _ _
              refine (openG_old HJ.out (k : Int) g1 cc).trans ?_
              rw [HOP.out]
              simp only [HX.out]
              exact hperm.out.append_right _
            have HNS : Hid (∀ x ∈ G.set j ⟨xk, ns ++ [(k : Int)], g1, cc⟩, x.ns.length ≤ k + 1) := fun x hx => by
              rcases List.mem_or_eq_of_mem_set hx with q | q
              · have := hns.out x q; omega
              · rw [q]; simp only [hlen]; omega
            have HNE : Hid (0 < k + 1 → G.set j ⟨xk, ns ++ [(k : Int)], g1, cc⟩ ≠ []) := fun _ e => by
              have := congrArg List.length e
              rw [List.length_set, List.length_nil] at this
              omega
            have HM : Hid (MapAt w6 w.heap.size w.heap.size (G.set j ⟨xk, ns ++ [(k : Int)], g1, cc⟩) (G.set j ⟨xk, ns ++ [(k : Int)], g1, cc⟩).length) := by
              show MapAt _ _ _ _ _
              rw [List.length_set]
              exact M6
            clear M6 M4 hb5 gr5 gr6 hen hox loc5 hloc HOP hns hperm hlen hjl q5 L4 c0 c1 c2 c3 B4 B5
            show wpList _ _ _ _ _ _
            go_wp2_with fail
            go_roundw
            case rel => exact ⟨k + 1, _, by omega, by go_num, HM.out, HNS, fun q => absurd q (by omega), HP, HNE, HG, B6⟩
            case measure => simp [intOf]; omega
          · have hnew : ∀ x ∈ G, x.key ≠ ⟨o, co, se, lo⟩ := fun x hx' e => hx ⟨x, hx', e⟩
            have hen := run_entry_new M4 hrd hnew
            have gr0 := (setBlock_grown (o' := .map (ents 0 G ++ [({ key := Rd.v ⟨o, co, se, lo⟩, val := .slice none 0 0, born := G.length } : MapEntry)]).toArray (G.length + 1)) M4.blk)
            have hb0 := fun w5 (gr : World.grownBy (ChangeMaps.setBlock (w3.alloc (.cells #[.int .i64 (k : Int)] 2)) w.heap.size (.map (ents 0 G ++ [({ key := Rd.v ⟨o, co, se, lo⟩, val := .slice none 0 0, born := G.length } : MapEntry)]).toArray (G.length + 1))) w5 none) => fun (g c : Nat) (ns : List Int) (own3 : EI.Own 2 w5 w.heap.size (some ⟨g, 0, none⟩) c ns) (loc : g = (w3.alloc (.cells #[.int .i64 (k : Int)] 2)).heap.size) => M4.put_new hrd hnew gr own3 loc
            have HB0 : Hid _ := hb0
            have L5 : EI.Lies (ChangeMaps.setBlock (w3.alloc (.cells #[.int .i64 (k : Int)] 2)) w.heap.size (.map (ents 0 G ++ [({ key := Rd.v ⟨o, co, se, lo⟩, val := .slice none 0 0, born := G.length } : MapEntry)]).toArray (G.length + 1))) (some ⟨w3.heap.size, 0, none⟩) [(k : Int)] := L4.grown gr0.1 (fun x hx => by cases hx; simp only [ne_eq, Option.some.injEq]; omega)
            have B5 := grown_below B4 (Nat.le_refl _) (fun t ht => by cases ht; exact Nat.le_refl _) gr0.1
            obtain ⟨_, _, hsz⟩ := gr0
            generalize ChangeMaps.setBlock (w3.alloc (.cells #[.int .i64 (k : Int)] 2)) w.heap.size (.map (ents 0 G ++ [({ key := Rd.v ⟨o, co, se, lo⟩, val := .slice none 0 0, born := G.length } : MapEntry)]).toArray (G.length + 1)) = w4 at *
            clear hb0 L4 hnew hx
            dsimp only [Rd.v] at hen
            have hB5 := B5.size
            have ho5 : EI.Own 2 w4 w.heap.size none 0 [] := El.Own.none _ _
            go_wp2_with (at_builtin; refine wpList_appL tyI (by decide) (by rfl) _ _ (by rfl) w.heap.size none 0 _ [] [(k : Int)] rfl (by rfl) ho5 hB5 ⟨w3.heap.size, 0, none⟩ 1 1 rfl (by rfl) L5 (by simp) (by simp only [List.length_cons, List.length_nil]; omega) ?_; intro g1 cc w5 q5 gr5 loc5; refine stand ?_)
            have hloc : g1 = (w3.alloc (.cells #[.int .i64 (k : Int)] 2)).heap.size := by
              rcases loc5 with e | e
              · cases e
              · rw [e, hsz]
            rw [List.nil_append] at q5
            obtain ⟨hb5, M6⟩ := HB0.out w5 gr5 g1 cc _ q5 hloc
            have hst := fun t => run_store hb5 (by rw [List.map_append, ents_born, List.length_append, ents_len]; simp [List.range'_concat]) (j := G.length) (by rw [List.length_append, ents_len]; simp) t (.slice (some ⟨g1, 0, none⟩) 1 cc)
            have gr6 := (setBlock_grown (o' := .map ((ents 0 G ++ [({ key := Rd.v ⟨o, co, se, lo⟩, val := .slice none 0 0, born := G.length } : MapEntry)]).modify G.length fun e => { e with val := .slice (some ⟨g1, 0, none⟩) 1 cc }).toArray (G.length + 1)) hb5).1
            have hl1 : [(k : Int)].length = 1 := rfl
            rw [hl1] at M6
            generalize ChangeMaps.setBlock w5 w.heap.size _ = w6 at *
            dsimp only [goInt] at hst
            have B6 := grown_below B5 (Nat.le_refl _) (fun t ht => by cases ht) gr5
            have B7 := grown_below B6 (Nat.le_refl _) (fun t ht => by cases ht; exact Nat.le_refl _) gr6
            have HP : Hid ((openG (G ++ [⟨⟨o, co, se, lo⟩, [(k : Int)], g1, cc⟩])).Perm (openN 0 (l.take (k + 1)))) := by
              show List.Perm _ _
              rw [openG_new, HOP.out]
              exact hperm.out.append_right _
            have HNS : Hid (∀ x ∈ G ++ [(⟨⟨o, co, se, lo⟩, [(k : Int)], g1, cc⟩ : Gr)], x.ns.length ≤ k + 1) := fun x hx => by
              rcases List.mem_append.1 hx with q | q
              · have := hns.out x q; omega
              · simp at q; rw [q]; simp
            have HNE : Hid (0 < k + 1 → G ++ [(⟨⟨o, co, se, lo⟩, [(k : Int)], g1, cc⟩ : Gr)] ≠ []) := fun _ e => by simp at e
            have HM : Hid (MapAt w6 w.heap.size w.heap.size (G ++ [⟨⟨o, co, se, lo⟩, [(k : Int)], g1, cc⟩]) (G ++ [(⟨⟨o, co, se, lo⟩, [(k : Int)], g1, cc⟩ : Gr)]).length) := by
              show MapAt _ _ _ _ _
              rw [List.length_append]
              exact M6
            clear M6 M4 hb5 gr5 gr6 hen loc5 hloc HOP hns hperm hl1 q5 L5 c0 c1 c2 c3 B4 B5 B6 HB0 ho5
            show wpList _ _ _ _ _ _
            go_wp2_with fail
            go_roundw
            case rel => exact ⟨k + 1, _, by omega, by go_num, HM.out, HNS, fun q => absurd q (by omega), HP, HNE, HG, B7⟩
            case measure => simp [intOf]; omega
      · have hkl : l.take k = l := List.take_of_length_le (by omega)
        have i1 : ¬ (k : Int) < (l.length : Int) := by omega
        have hall := rd_all fun j hj => hgood.out j (by omega)
        have hiff : G = [] ↔ roadsB l = false := by
          rcases Nat.eq_zero_or_pos k with e | e
          · have hl0 : l = [] := List.eq_nil_of_length_eq_zero (by omega)
            have hG : G = [] := HG0.out e
            rw [hG, hl0]
            simp [roadsB]
          · rw [hall, decide_eq_true (show 1 ≤ (l.length : Int) ∧ (l.length : Int) ≤ 4 by omega)]
            exact ⟨fun q => absurd q (hne.out e), fun q => by cases q⟩
        have hperm' : (openG G).Perm (openL l) := by
          have := hperm.out
          rw [hkl] at this
          unfold openL
          split
          · exact this
          · rename_i hno
            have hG : G = [] := hiff.2 (by simpa using hno)
            rw [hG]
            exact List.Perm.nil
        have HI : Hid (G = [] ↔ roadsB l = false) := hiff
        have HP : Hid ((openG G).Perm (openL l)) := hperm'
        clear hall hiff hperm' hkl
        go_wp2_with fail
        go_ret
        exact ⟨_, rfl, G, _, M1, Nat.le_refl _, HI.out, HP.out, b1⟩
  · have i4 : (4 : Int) < (l.length : Int) := by omega
    have hok : roadsB l = false := by simp only [roadsB, decide_eq_false (show ¬ (1 ≤ l.length ∧ l.length ≤ 4) by omega), Bool.and_false]
    go_enter Try.func42, Try.ntmps42
    go_wp2_with fail
    go_ret
    exact ⟨_, rfl, [], 0, M0, Nat.le_refl _, by simp [hok], by simp [openG, openL, hok], b0⟩

end Go.Proofs.Ytnfdomgibkdkcaa.Roa

/- Contracts of this seat's functions, and their mathematics (LinJ LawU). -/
import Derived.Test.YtanfnphdgcnojaaGreatQ28
import Derived.Test.YtanfnphdgcnojaaGreatQ52
import Derived.Test.YtanfnphdgcnojaaGreatQ53
import Derived.Test.YtanfnphdgcnojaaGreatQ6
set_option linter.unusedVariables false
set_option linter.unusedSimpArgs false
set_option maxHeartbeats 2000000
namespace Go.Proofs.YtanfnphdgcnojaaGreat.Wor
open Go.RowKit RowG Hop Roa Pum Lin
def nlH (l : List Int) (n : Int) : List Ha := if capsB l n then (newHs l 3).map toHa else []
def nlR (l : List Int) (n : Int) : List Rd := if capsB l n then newRs n.toNat else []
structure NL (w : World) (aH aR : Option Addr) (l : List Int) (n : Int) : Prop where
 L : LL w aH (nlH l n)
 R : Roa.E.Lies w aR (nlR l n)
theorem NL.later {w w' : World} {aH aR : Option Addr} {l : List Int} {n : Int} (h : NL w aH aR l n) (b : Below w.heap.size w w') : NL w' aH aR l n := ⟨h.L.later b, h.R.later b⟩
theorem nl_of {w w' : World} {l : List Int} {n : Int} {x : Ending} (h : (capsB l n = false ∧ x = .returned (.tuple #[.agg #[.slice none 0 0, .slice none 0 0], .bool false])) ∨
   (capsB l n = true ∧ ∃ g c g' c', x = .returned (.tuple #[.agg #[.slice (some ⟨g, 0, none⟩) 3 c, .slice (some ⟨g', 0, none⟩) n.toNat c'], .bool true]) ∧ H0.Own 49 w' w.heap.size (some ⟨g, 0, none⟩) c (newHs l 3) ∧ Roa.E.Own 58 w' w.heap.size (some ⟨g', 0, none⟩) c' (newRs n.toNat))) :
  ∃ (aH aR : Option Addr) (cH cR : Nat), x = .returned (.tuple #[.agg #[.slice aH (nlH l n).length cH, .slice aR (nlR l n).length cR], .bool (capsB l n)]) ∧ NL w' aH aR l n := by
 rcases h with ⟨hc, rfl⟩ | ⟨hc, g, c, g', c', rfl, oH, oR⟩
 ·refine ⟨none, none, 0, 0, by simp [nlH, nlR, hc], ?_, ?_⟩
  ·simp only [nlH, hc]
   exact ⟨.inl rfl, fun x hx => by cases hx⟩
  ·simp only [nlR, hc]
   exact .inl rfl
 ·refine ⟨some ⟨g, 0, none⟩, some ⟨g', 0, none⟩, c, c', by simp [nlH, nlR, hc, newHs_len, newRs_len], ?_, ?_⟩
  ·simp only [nlH, hc, if_true]
   exact (lay_new oH).ll
  ·simp only [nlR, hc, if_true]
   exact oR.lies
theorem implNewLineD (a : Option Addr) (cap : Nat) (l : List Int) (n : Int) (w : World) (h : Roa.EI.Lies w a l) (hl : l.length ≤ 2097152) :
  Calls Tryz.prog 7 #[.slice a l.length cap, .int .i64 n] w fun x w' => ∃ (aH aR : Option Addr) (cH cR : Nat), x = .returned (.tuple #[.agg #[.slice aH (nlH l n).length cH, .slice aR (nlR l n).length cR], .bool (capsB l n)]) ∧ NL w' aH aR l n ∧ Below w.heap.size w w' :=
 (implNewLine a cap l n w h hl).mono fun x w' ⟨b, hx⟩ => by
  obtain ⟨aH, aR, cH, cR, e, q⟩ := nl_of hx
  exact ⟨aH, aR, cH, cR, e, q, b⟩
theorem specNewLineD (a : Option Addr) (cap : Nat) (l : List Int) (n : Int) (w : World) (h : Roa.EI.Lies w a l) (hl : l.length ≤ 2097152) :
  Calls Tryz.prog 11 #[.slice a l.length cap, .int .i64 n] w fun x w' => ∃ (aH aR : Option Addr) (cH cR : Nat), x = .returned (.tuple #[.agg #[.slice aH (nlH l n).length cH, .slice aR (nlR l n).length cR], .bool (capsB l n)]) ∧ NL w' aH aR l n ∧ Below w.heap.size w w' :=
 (specNewLine a cap l n w h hl).mono fun x w' ⟨b, hx⟩ => by
  obtain ⟨aH, aR, cH, cR, e, q⟩ := nl_of hx
  exact ⟨aH, aR, cH, cR, e, q, b⟩
theorem nl_bd (l : List Int) (n : Int) : (nlH l n).length ≤ 3 ∧ (nlR l n).length ≤ 4 ∧ ∀ x ∈ nlH l n, x.h.Sm := by
 cases hc : capsB l n
 ·simp [nlH, nlR, hc]
 ·obtain ⟨_, h1, h4⟩ := Wor.caps_at hc
  simp only [nlH, nlR, hc, if_true, List.length_map, newHs_len, newRs_len]
  refine ⟨by omega, by omega, fun x hx => ?_⟩
  obtain ⟨z, _, rfl⟩ := List.mem_map.1 hx
  exact ⟨by simp [toHa, toHp, ByteArray.size], by simp [toHa, toHp, ByteArray.size], by simp [toHa, toHp], (fun y hy => by cases hy), by simp [toHa, toHp], (fun y hy => by cases hy)⟩
theorem nl_ok {l : List Int} {n : Int} (h : capsB l n = true) : hopsB ((nlH l n).map (·.h)) (nlR l n) = true := by
 have := (ok_parts.1 (ok_new h)).1
 simp only [nlH, nlR, h, if_true]
 rw [show ((newHs l 3).map toHa).map (·.h) = (newW l n).hs by simp [newW, toHa]]
 exact this
theorem nl_room {l : List Int} {n : Int} (h : capsB l n = true) : roomB ((nlH l n).map (·.h)) (nlR l n) = l.sum := by
 rw [roomB, nl_ok h, if_pos rfl]
 have h6 : l.length = 6 := by
  simp only [capsB, Bool.and_eq_true, decide_eq_true_eq] at h
  exact h.1
 simp only [nlH, h, if_true]
 match l, h6 with
 | [a, b, c, d, e, f], _ =>
  simp [sumC, newHs, capAt, toHa, toHp, List.range_succ]
  omega
theorem nl_desk {l : List Int} {n : Int} (h : capsB l n = true) : deskS ((nlH l n).map (·.h)) (nlR l n) = ⟨#[]⟩ := by
 rw [deskS, nl_ok h, if_pos rfl]
 simp only [nlH, h, if_true]
 simp [newHs, toHa, toHp, List.range_succ]
theorem nl_caps {l : List Int} {n : Int} (h : capsB l n = true) : l.length = 6 ∧ 1 ≤ n ∧ n ≤ 4 ∧ ∀ x ∈ l, 1 ≤ x ∧ x ≤ 400 := by
 simp only [capsB, Bool.and_eq_true, decide_eq_true_eq, List.all_eq_true, Tak.capB] at h
 exact ⟨h.1, h.2.1.1, h.2.1.2, h.2.2⟩
theorem sum_take {l : List Int} {k : Nat} {x : Int} (h : l[k]? = some x) : (l.take (k + 1)).sum = (l.take k).sum + x := by
 rw [List.take_add_one, h]
 simp
theorem sum_bd {l : List Int} (h : ∀ x ∈ l, 1 ≤ x ∧ x ≤ 400) : ∀ k : Nat, k ≤ l.length → 0 ≤ (l.take k).sum ∧ (l.take k).sum ≤ 400 * (k : Int)
 | 0, _ => by simp
 | k + 1, hk => by
  have e : l[k]? = some l[k] := List.getElem?_eq_getElem (by omega)
  have q := sum_bd h k (by omega)
  have c := h l[k] (List.getElem_mem _)
  rw [sum_take e]
  omega
theorem open_new : ∀ (k j : Nat) (f : Nat → Rd), (∀ i, (f i).op = true) → (openN j ((List.range k).map f)).length = k := by
 intro k j f hf
 have key : ∀ (l : List Rd) (j : Nat), (∀ x ∈ l, x.op = true) → (openN j l).length = l.length := by
  intro l
  induction l with
  | nil => intro j _; rfl
  | cons x l ih =>
   intro j h
   have hx := h x (by simp)
   have := ih (j + 1) (fun y hy => h y (by simp [hy]))
   simp [openN, hx, this]
 rw [key _ _ (fun x hx => by obtain ⟨i, _, rfl⟩ := List.mem_map.1 hx; exact hf i)]
 simp
theorem nl_open {l : List Int} {n : Int} (h : capsB l n = true) : ((openL (nlR l n)).length : Int) = n := by
 obtain ⟨_, h1, h4, _⟩ := nl_caps h
 have hr : roadsB (nlR l n) = true := (hops_iff.1 (nl_ok h)).2.1
 have : openL (nlR l n) = openN 0 (nlR l n) := by simp [openL, hr]
 rw [this]
 simp only [nlR, h, if_true, newRs]
 rw [open_new _ _ _ (fun i => rfl)]
 omega
end Go.Proofs.YtanfnphdgcnojaaGreat.Wor
namespace Go.Proofs.YtanfnphdgcnojaaGreat.Tak
open Go.RowKit RowG
theorem likeTaker (nx : Int) (bs : ByteArray) (a a' : Option Addr) (n n' c c' : Nat) (cp fi : Int) (en : Bool) (l : List Pt) (w : World) (hn : n = l.length) (hn' : n' = l.length) (h : partE.Lies w a l) (h' : partE.Lies w a' l) (hl : l.length ≤ 2097152) :
  Calls Tryz.prog 53 #[.agg #[.int .i64 nx, .string bs, .slice a n c, .int .i64 cp, .int .i64 fi, .bool en], .agg #[.int .i64 nx, .string bs, .slice a' n' c', .int .i64 cp, .int .i64 fi, .bool en]] w fun x w' => x = .returned (.bool true) ∧ Below w.heap.size w w' := by
 subst hn
 subst hn'
 have hmix := mix
 have BV : Below w.heap.size w ((w.alloc (.cells #[.int .i64 nx, .string bs, .slice a l.length c, .int .i64 cp, .int .i64 fi, .bool en] 44)).alloc (.cells #[.int .i64 nx, .string bs, .slice a' l.length c', .int .i64 cp, .int .i64 fi, .bool en] 44)) := ((Below.refl _ _).alloc (Nat.le_refl _) _).alloc (by simp) _
 have v1 : Var 44 ((w.alloc (.cells #[.int .i64 nx, .string bs, .slice a l.length c, .int .i64 cp, .int .i64 fi, .bool en] 44)).alloc (.cells #[.int .i64 nx, .string bs, .slice a' l.length c', .int .i64 cp, .int .i64 fi, .bool en] 44)) w.heap.size [.int .i64 nx, .string bs, .slice a l.length c, .int .i64 cp, .int .i64 fi, .bool en] := (Var.new w [.int .i64 nx, .string bs, .slice a l.length c, .int .i64 cp, .int .i64 fi, .bool en]).alloc _
 have v2 : Var 44 ((w.alloc (.cells #[.int .i64 nx, .string bs, .slice a l.length c, .int .i64 cp, .int .i64 fi, .bool en] 44)).alloc (.cells #[.int .i64 nx, .string bs, .slice a' l.length c', .int .i64 cp, .int .i64 fi, .bool en] 44)) (w.heap.size + 1) [.int .i64 nx, .string bs, .slice a' l.length c', .int .i64 cp, .int .i64 fi, .bool en] := by
  have := Var.new (T := 44) (w.alloc (.cells #[.int .i64 nx, .string bs, .slice a l.length c, .int .i64 cp, .int .i64 fi, .bool en] 44)) [.int .i64 nx, .string bs, .slice a' l.length c', .int .i64 cp, .int .i64 fi, .bool en]
  simpa using this
 have hen : (en != en) = false := by cases en <;> rfl
 go_enter Tryz.func53, Tryz.ntmps53
 go_upto_region 1 with (fail)
 generalize hV : ((w.alloc (.cells #[.int .i64 nx, .string bs, .slice a l.length c, .int .i64 cp, .int .i64 fi, .bool en] 44)).alloc (.cells #[.int .i64 nx, .string bs, .slice a' l.length c', .int .i64 cp, .int .i64 fi, .bool en] 44)) = V at *
 clear hV
 obtain ⟨c0, c1, c2, c3, c4, c5⟩ := v1.c6
 obtain ⟨d0, d1, d2, d3, d4, d5⟩ := v2.c6
 have hV1 := v1.lt
 have hV2 := v2.lt
 have HV1 : Hid _ := v1
 have HV2 : Hid _ := v2
 clear v1 v2
 go_wp2_with fail
 clear c0 c1 c2 c3 c4 c5 d0 d1 d2 d3 d4 d5
 go_loopw [5] (fun iv wr => ∃ k : Nat, k ≤ l.length ∧ iv = .int .i64 k ∧ Below V.heap.size V wr) (fun iv _ => l.length - (intOf iv).toNat)
 case atStart => exact ⟨0, Nat.zero_le _, rfl, Below.refl _ _⟩
 case round =>
  obtain ⟨k, hk, rfl, hB⟩ := hrel
  have BW : Below w.heap.size w wr := BV.trans (hB.mono BV.size)
  have x1 := Var.later (T := 44) HV1.out hB
  have x2 := Var.later (T := 44) HV2.out hB
  have c2 := x1.cell (i := 2) rfl
  have e1 := Draw.Later.cell c2
  have e2 := Draw.Later.cell (x2.cell (i := 2) rfl)
  clear x1 x2
  by_cases hlt : k < l.length
  ·obtain ⟨⟨pa, pb⟩, hx⟩ : ∃ x, l[k]? = some x := ⟨l[k], List.getElem?_eq_getElem hlt⟩
   rcases h.later BW with hL | ⟨b, off, ha, hL⟩
   ·simp [hL] at hlt
   rcases h'.later BW with hL' | ⟨b', off', ha', hL'⟩
   ·simp [hL'] at hlt
   have f0 := Draw.Later.cell (show wr.cell? ⟨b, off + k * 2, none⟩ = some (.int .i64 pa) from El.Lies.cell hL hx (j := 0) rfl)
   have f1 := Draw.Later.cell (show wr.cell? ⟨b, off + k * 2 + 1, none⟩ = some (.string pb) from El.Lies.cell hL hx (j := 1) rfl)
   have g0 := Draw.Later.cell (show wr.cell? ⟨b', off' + k * 2, none⟩ = some (.int .i64 pa) from El.Lies.cell hL' hx (j := 0) rfl)
   have g1 := Draw.Later.cell (show wr.cell? ⟨b', off' + k * 2 + 1, none⟩ = some (.string pb) from El.Lies.cell hL' hx (j := 1) rfl)
   rw [ha] at c2 e1
   rw [ha'] at e2
   have i0 : (0 : Int) ≤ (k : Int) := by omega
   have i1 : (k : Int) < (l.length : Int) := by omega
   clear hL hL' hx ha ha'
   go_wp2_with fail
   refine Draw.wp_region_later hmix (by kernel_rfl) ?_
   repeat (go_big_quiet_step (fail))
   refine wpQuiet_nil ?_
   intro wq hw'
   obtain ⟨q, hq⟩ := hw'
   have hBq := q.h
   rw [← hq] at hBq
   clear hq q e1 e2 f0 f1 g0 g1 c2
   go_wp2_with fail
   go_roundw
   case rel => exact ⟨k + 1, by omega, by go_num, hB.trans (hBq.mono hB.size)⟩
   case measure => simp [intOf]; omega
  ·have i1 : ¬ (k : Int) < (l.length : Int) := by omega
   go_wp2_with fail
   go_ret
   exact ⟨rfl, BW⟩
end Go.Proofs.YtanfnphdgcnojaaGreat.Tak

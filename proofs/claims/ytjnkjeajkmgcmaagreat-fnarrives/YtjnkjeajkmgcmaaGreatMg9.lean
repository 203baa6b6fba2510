/- Contracts of the program's small functions of chapter 5: isCap, behind, isPart, limitOf, behindAll, isEndOf, partsFrom; parts not beyond 2^62. · What is told of an operation's value in a region that draws its order (for RegJ): shapes, and that they stay while only the cursor's block, or one block below, turns. Plain. -/
import Derived.Test.YtjnkjeajkmgcmaaGreatMg5
import Derived.Test.YtjnkjeajkmgcmaaGreatMg8
import Derived.Test.YtjnkjeajkmgcmaaGreatMg7
import Derived.Test.YtjnkjeajkmgcmaaGreatMg1
namespace Go.Proofs.YtjnkjeajkmgcmaaGreat.Tak
open Go.RowKit RowG
set_option linter.unusedVariables false
set_option linter.unusedSimpArgs false

theorem isCap (n : Int) (w : World) : Calls Tryz.prog 61 #[.int .i64 n] w fun e w' => e = .returned (.bool (capB n)) ∧ w = w' := by
  by_cases h1 : 1 ≤ n
  · by_cases h2 : n ≤ 400
    · go_enter Tryz.func61, Tryz.ntmps61
      go_wp2_with fail
      go_ret
      exact ⟨Num.ret_bool (by simp [capB, h1, h2]), rfl⟩
    · go_enter Tryz.func61, Tryz.ntmps61
      go_wp2_with fail
      go_ret
      exact ⟨Num.ret_bool (by simp [capB, h1, h2]), rfl⟩
  · go_enter Tryz.func61, Tryz.ntmps61
    go_wp2_with fail
    go_ret
    exact ⟨Num.ret_bool (by simp [capB]; omega), rfl⟩

theorem isCapEq {n : Int} {v : Bool} (h : capB n = v) (w : World) : Calls Tryz.prog 61 #[.int .i64 n] w fun e w' => e = .returned (.bool v) ∧ w = w' := by
  subst h
  exact isCap n w

def bdP (p : Pt) : Prop := -1152921504606846976 ≤ p.1 ∧ p.1 ≤ 4611686018427387904 ∧ p.2.size ≤ 2097152
theorem behind (p : Int) (b : ByteArray) (w : World) (h : bdP (p, b)) :
    Calls Tryz.prog 81 #[.agg #[.int .i64 p, .string b]] w fun x w' => x = .returned (.int .i64 (endP (p, b))) ∧ Below w.heap.size w w' := by
  obtain ⟨hp0, hp, hb⟩ := h
  simp only at hp0 hp hb
  go_enter Tryz.func81, Tryz.ntmps81
  go_wp2_with fail
  go_ret
  exact ⟨rfl, (Below.refl _ _).alloc (Nat.le_refl _) _⟩
theorem behindEq {p : Int} {b : ByteArray} {e : Int} (w : World) (h : bdP (p, b)) (he : endP (p, b) = e) :
    Calls Tryz.prog 81 #[.agg #[.int .i64 p, .string b]] w fun x w' => x = .returned (.int .i64 e) ∧ Below w.heap.size w w' := by
  subst he
  exact behind p b w h

theorem isPlaceEq {n : Int} {v : Bool} (h : Num.plB n = v) (w : World) : Calls Tryz.prog 62 #[.int .i64 n] w fun x w' => x = .returned (.bool v) ∧ w = w' := by
  subst h
  exact Num.isPlace n w
def partB (p : Pt) : Bool := !p.2.toList.isEmpty && (decide (p.2.size ≤ 40) && (Num.plB p.1 && Num.plB (endP p)))
set_option maxHeartbeats 1000000 in
theorem isPart (p : Int) (b : ByteArray) (w : World) (h : bdP (p, b)) :
    Calls Tryz.prog 89 #[.agg #[.int .i64 p, .string b]] w fun x w' => x = .returned (.bool (partB (p, b))) ∧ Below w.heap.size w w' := by
  have fin : ∀ {o : Obj}, Below w.heap.size w (w.alloc o) := fun {o} => (Below.refl _ _).alloc (Nat.le_refl _) o
  have BV : Below w.heap.size w (w.alloc (.cells #[.int .i64 p, .string b] 69)) := fin
  by_cases h1 : b.toList = []
  · have e1 : Hid (partB (p, b) = false) := by show _ = _; simp [partB, h1]
    go_enter Tryz.func89, Tryz.ntmps89
    go_wp2_with fail
    go_ret
    exact ⟨Num.ret_bool e1.out.symm, fin⟩
  · by_cases h2 : b.size ≤ 40
    · cases h3 : Num.plB p
      · have e1 : Hid (partB (p, b) = false) := by show _ = _; simp [partB, h3]
        go_enter Tryz.func89, Tryz.ntmps89
        go_wp2_with (go_at_call 62; refine (isPlaceEq h3 _).mono ?_; rintro x w' ⟨rfl, rfl⟩)
        go_ret
        exact ⟨Num.ret_bool e1.out.symm, fin⟩
      · cases h4 : Num.plB (endP (p, b))
        · have e1 : Hid (partB (p, b) = false) := by show _ = _; simp [partB, h4]
          have h4' : Hid _ := h4
          clear h4
          obtain ⟨e, he⟩ : ∃ e, e = endP (p, b) := ⟨_, rfl⟩
          have h5 : Num.plB e = false := by rw [he]; exact h4'.out
          have he' : Hid (endP (p, b) = e) := he.symm
          clear he
          go_enter Tryz.func89, Tryz.ntmps89
          go_wp2_with (first | (go_at_call 62; refine (Num.isPlace _ _).mono ?_; rintro x w2 ⟨rfl, rfl⟩) | (go_at_call 81; refine (behindEq _ h he'.out).mono ?_; rintro x w' ⟨rfl, hb⟩))
          go_ret
          exact ⟨Num.ret_bool e1.out.symm, BV.trans (hb.mono (by simp))⟩
        · have e1 : Hid (partB (p, b) = true) := by show _ = _; simp [partB, h1, h2, h3, h4]
          have h4' : Hid _ := h4
          clear h4
          obtain ⟨e, he⟩ : ∃ e, e = endP (p, b) := ⟨_, rfl⟩
          have h5 : Num.plB e = true := by rw [he]; exact h4'.out
          have he' : Hid (endP (p, b) = e) := he.symm
          clear he
          go_enter Tryz.func89, Tryz.ntmps89
          go_wp2_with (first | (go_at_call 62; refine (Num.isPlace _ _).mono ?_; rintro x w2 ⟨rfl, rfl⟩) | (go_at_call 81; refine (behindEq _ h he'.out).mono ?_; rintro x w' ⟨rfl, hb⟩))
          go_ret
          exact ⟨Num.ret_bool (by rw [e1.out]; simp [h1]), BV.trans (hb.mono (by simp))⟩
    · have e1 : Hid (partB (p, b) = false) := by show _ = _; simp [partB, h2]
      go_enter Tryz.func89, Tryz.ntmps89
      go_wp2_with fail
      go_ret
      exact ⟨Num.ret_bool e1.out.symm, fin⟩
theorem isPartEq {p : Int} {b : ByteArray} {v : Bool} (w : World) (h : bdP (p, b)) (hv : partB (p, b) = v) :
    Calls Tryz.prog 89 #[.agg #[.int .i64 p, .string b]] w fun x w' => x = .returned (.bool v) ∧ Below w.heap.size w w' := by
  subst hv
  exact isPart p b w h

theorem limitOfI (nx : Int) (bs : ByteArray) (a : Option Addr) (n c : Nat) (cp fi : Int) (en : Bool) (w : World) (hn : 0 ≤ nx ∧ nx ≤ 1152921504606846976) (hb : bs.size ≤ 1152921504606846976) (hc : 0 ≤ cp ∧ cp ≤ 1152921504606846976) {v : Int} (hv : limT nx bs cp = v) :
    Calls Tryz.prog 90 #[.agg #[.int .i64 nx, .string bs, .slice a n c, .int .i64 cp, .int .i64 fi, .bool en]] w fun x w' => x = .returned (.int .i64 v) ∧ Below w.heap.size w w' := by
  obtain ⟨hn0, hn1⟩ := hn
  obtain ⟨hc0, hc1⟩ := hc
  subst hv
  go_enter Tryz.func90, Tryz.ntmps90
  go_wp2_with fail
  go_ret
  exact ⟨rfl, (Below.refl _ _).alloc (Nat.le_refl _) _⟩

set_option maxHeartbeats 1000000 in
theorem behindAll (nx : Int) (bs : ByteArray) (a : Option Addr) (n c : Nat) (cp fi : Int) (en : Bool) (l : List Pt) (w : World) (hn : n = l.length) (h : partE.Lies w a l) (hl : l.length ≤ 2097152) (hp : Bd l) {v : Int} (hv : lastEnd nx l = v) :
    Calls Tryz.prog 91 #[.agg #[.int .i64 nx, .string bs, .slice a n c, .int .i64 cp, .int .i64 fi, .bool en]] w fun x w' => x = .returned (.int .i64 v) ∧ Below w.heap.size w w' := by
  subst hn hv
  have fin : ∀ {o : Obj}, Below w.heap.size w (w.alloc o) := fun {o} => (Below.refl _ _).alloc (Nat.le_refl _) o
  rcases List.eq_nil_or_concat l with rfl | ⟨r, ⟨p, b⟩, hr⟩
  · go_enter Tryz.func91, Tryz.ntmps91
    go_wp2_with fail
    go_ret
    exact ⟨rfl, fin⟩
  · rw [List.concat_eq_append] at hr
    subst hr
    have hq : bdP (p, b) := hp (p, b) (by simp)
    have hle : Hid (lastEnd nx (r ++ [(p, b)]) = endP (p, b)) := by show _ = _; simp [lastEnd]
    rcases h with e | ⟨k, off, rfl, hc⟩
    · simp at e
    have hlen : (r ++ [(p, b)]).length = r.length + 1 := by simp
    have hx : (r ++ [(p, b)])[r.length]? = some (p, b) := by simp
    have g0 : w.cell? ⟨k, off + r.length * 2, none⟩ = some (.int .i64 p) := El.Lies.cell hc hx (j := 0) rfl
    have g1 : w.cell? ⟨k, off + r.length * 2 + 1, none⟩ = some (.string b) := El.Lies.cell hc hx (j := 1) rfl
    have c0 := fun o => alloc_cell g0 o
    have c1 := fun o => alloc_cell g1 o
    rw [hlen] at hl ⊢
    clear g0 g1
    clear hc hx hp hlen
    go_enter Tryz.func91, Tryz.ntmps91
    go_wp2_with ((go_at_call 81; refine (behindEq _ hq rfl).mono ?_; rintro x w' ⟨rfl, hb⟩))
    go_ret
    exact ⟨by rw [hle.out]; rfl, fin.trans (hb.mono fin.size)⟩

def endOfB (fi last : Int) : Bool := decide (fi = -1) || (Num.plB fi && decide (last ≤ fi))
set_option maxHeartbeats 2000000 in
theorem isEndOf (nx : Int) (bs : ByteArray) (a : Option Addr) (n c : Nat) (cp fi : Int) (en : Bool) (l : List Pt) (w : World) (hn : n = l.length) (h : partE.Lies w a l) (hl : l.length ≤ 2097152) (hp : Bd l) {last : Int} (hv : lastEnd nx l = last) :
    Calls Tryz.prog 65 #[.agg #[.int .i64 nx, .string bs, .slice a n c, .int .i64 cp, .int .i64 fi, .bool en]] w fun x w' => x = .returned (.bool (endOfB fi last)) ∧ Below w.heap.size w w' := by
  subst hn
  have HV : Hid (lastEnd nx l = last) := hv
  have HP : Hid (Bd l) := hp
  clear hv hp
  have hmix := mix
  have hbx := box6 w (.int .i64 nx) (.string bs) (.slice a l.length c) (.int .i64 cp) (.int .i64 fi) (.bool en) 28
  have BV : Below w.heap.size w (w.alloc (.cells #[.int .i64 nx, .string bs, .slice a l.length c, .int .i64 cp, .int .i64 fi, .bool en] 28)) := (Below.refl _ _).alloc (Nat.le_refl _) _
  have hL : Hid (partE.Lies (w.alloc (.cells #[.int .i64 nx, .string bs, .slice a l.length c, .int .i64 cp, .int .i64 fi, .bool en] 28)) a l) := h.alloc _
  have d0 := Draw.Later.cell hbx.1
  have d1 := Draw.Later.cell hbx.2.1
  have d2 := Draw.Later.cell hbx.2.2.1
  have d3 := Draw.Later.cell hbx.2.2.2.1
  have d4 := Draw.Later.cell hbx.2.2.2.2.1
  have d5 := Draw.Later.cell hbx.2.2.2.2.2
  clear hbx h
  go_enter Tryz.func65, Tryz.ntmps65
  go_wp2_with fail
  generalize hV : (w.alloc (.cells #[.int .i64 nx, .string bs, .slice a l.length c, .int .i64 cp, .int .i64 fi, .bool en] 28)) = V at *
  clear hV
  by_cases h1 : fi = -1
  · have HF : Hid (endOfB fi last = true) := by show _ = _; simp [endOfB, h1]
    have hd : (fi == -1) = true := by simp [h1]
    go_wp2_with fail
    refine Draw.wp_region_later hmix (by kernel_rfl) ?_
    repeat (go_big_quiet_step (fail))
    refine wpQuiet_nil ?_
    intro wq hw'
    obtain ⟨q, hq⟩ := hw'
    have hBq := q.h
    rw [← hq] at hBq
    clear hq q
    go_wp2_with fail
    go_ret
    exact ⟨by rw [HF.out]; rfl, BV.trans (hBq.mono BV.size)⟩
  have hd1 : (fi == -1) = false := by simp [h1]
  cases hpl : Num.plB fi
  · have HF : Hid (endOfB fi last = false) := by show _ = _; simp [endOfB, h1, hpl]
    go_wp2_with fail
    refine Draw.wp_region_later hmix (by kernel_rfl) ?_
    repeat (go_big_quiet_step ((go_at_call 62; exact Draw.later_same (isPlaceEq hpl _))))
    refine wpQuiet_nil ?_
    intro wq hw'
    obtain ⟨q, hq⟩ := hw'
    have hBq := q.h
    rw [← hq] at hBq
    clear hq q
    go_wp2_with fail
    go_ret
    exact ⟨by rw [HF.out]; rfl, BV.trans (hBq.mono BV.size)⟩
  by_cases h3 : last ≤ fi
  · have HF : Hid (endOfB fi last = true) := by show _ = _; simp [endOfB, h1, hpl, h3]
    have hd3 : decide (last ≤ fi) = true := decide_eq_true h3
    go_wp2_with fail
    refine Draw.wp_region_later hmix (by kernel_rfl) ?_
    repeat (go_big_quiet_step (first | (go_at_call 62; exact Draw.later_same (isPlaceEq hpl _)) | (go_at_call 91; exact Draw.later_of (behindAll _ _ _ _ _ _ _ _ l _ rfl (hL.out.later (Draw.Later.h _)) hl HP.out HV.out))))
    refine wpQuiet_nil ?_
    intro wq hw'
    obtain ⟨q, hq⟩ := hw'
    have hBq := q.h
    rw [← hq] at hBq
    clear hq q
    go_wp2_with fail
    go_ret
    exact ⟨by rw [HF.out]; rfl, BV.trans (hBq.mono BV.size)⟩
  · have HF : Hid (endOfB fi last = false) := by show _ = _; simp [endOfB, h1, hpl]; omega
    have hd3 : decide (last ≤ fi) = false := decide_eq_false h3
    go_wp2_with fail
    refine Draw.wp_region_later hmix (by kernel_rfl) ?_
    repeat (go_big_quiet_step (first | (go_at_call 62; exact Draw.later_same (isPlaceEq hpl _)) | (go_at_call 91; exact Draw.later_of (behindAll _ _ _ _ _ _ _ _ l _ rfl (hL.out.later (Draw.Later.h _)) hl HP.out HV.out))))
    refine wpQuiet_nil ?_
    intro wq hw'
    obtain ⟨q, hq⟩ := hw'
    have hBq := q.h
    rw [← hq] at hBq
    clear hq q
    go_wp2_with fail
    go_ret
    exact ⟨by rw [HF.out]; rfl, BV.trans (hBq.mono BV.size)⟩

end Go.Proofs.YtjnkjeajkmgcmaaGreat.Tak

namespace Go.Proofs.YtjnkjeajkmgcmaaGreat.RegJ
open Go.RowKit RowG
set_option linter.unusedVariables false

inductive Sh where
  | any
  | eq (u : Value)
  | int (lo hi : Int)
  | num
  | flag
  | str (n : Nat)
  | row (T : TypeId) (vs : List Value)
  | elem (T : TypeId) (vs : List Value)
  | one (vs : List Value)
  | at (T : TypeId) (k : Nat) (vs : List Value)
  | sat (p : Value → Prop)
  | made (z : Nat) (T : TypeId) (zs : List Value) (p : List Value → Prop)
def Sh.ok (c : Nat) (d : Nat → Bool) : Sh → Value → World → Prop
  | .any, _, _ => True
  | .eq u, v, _ => v = u
  | .int lo hi, v, _ => ∃ y : Int, lo ≤ y ∧ y ≤ hi ∧ v = .int .i64 y
  | .num, v, _ => ∃ y : Int, v = .int .i64 y
  | .flag, v, _ => ∃ b : Bool, v = .bool b
  | .str n, v, _ => ∃ s : ByteArray, s.size ≤ n ∧ v = .string s
  | .row T vs, v, w => ∃ b : Nat, c < b ∧ v = .slice (some ⟨b, 0, none⟩) vs.length vs.length ∧ Var T w b vs
  | .elem T vs, v, w => ∃ b i : Nat, c < b ∧ i < vs.length ∧ v = .pointer (some ⟨b, i, none⟩) ∧ Var T w b vs
  | .one vs, v, _ => v ∈ vs
  | .at T k vs, _, w => k ≠ c ∧ Var T w k vs
  | .sat p, v, _ => p v
  | .made z T zs p, v, w => ∃ b : Nat, c < b ∧ v = .pointer (some ⟨b, 0, none⟩) ∧ (d z = false → Var T w b zs) ∧ (d z = true → ∃ vs, p vs ∧ Var T w b vs)
def Sh.isAt : Sh → Bool
  | .at _ _ _ => true
  | .made _ _ _ _ => true
  | _ => false
def Sh.offOf (i : Nat) : Sh → Bool
  | .made z _ _ _ => z != i
  | _ => true
theorem Sh.kept {c i : Nat} {d : Nat → Bool} {w w' : World} (k : Draw.Kept c w w') : ∀ (s : Sh) (u : Value), s.offOf i = true → s.ok c d u w → s.ok c (fun j => j == i || d j) u w'
  | .any, _, _, h => h
  | .eq _, _, _, h => h
  | .int _ _, _, _, h => h
  | .num, _, _, h => h
  | .flag, _, _, h => h
  | .str _, _, _, h => h
  | .row T vs, v, _, ⟨b, hb, hv, hr⟩ => ⟨b, hb, hv, hr.kept k (by omega)⟩
  | .elem T vs, v, _, ⟨b, i, hb, hi, hv, hr⟩ => ⟨b, i, hb, hi, hv, hr.kept k (by omega)⟩
  | .one _, _, _, h => h
  | .at T k' vs, v, _, ⟨hk, hr⟩ => ⟨hk, hr.kept k hk⟩
  | .sat _, _, _, h => h
  | .made z T zs p, v, hz, ⟨b, hb, hv, h0, h1⟩ => by
    have hzi : (z == i) = false := by simpa [Sh.offOf] using hz
    refine ⟨b, hb, hv, fun hd => ?_, fun hd => ?_⟩
    · exact (h0 (by simpa [hzi] using hd)).kept k (by omega)
    · obtain ⟨vs, hp, hr⟩ := h1 (by simpa [hzi] using hd)
      exact ⟨vs, hp, hr.kept k (by omega)⟩
theorem Sh.store {c k0 i : Nat} {d d' : Nat → Bool} {w w' : World} (k : Draw.Kept k0 w w') (hk0 : k0 ≤ c) : ∀ (s : Sh) (u : Value), s.isAt = false → s.ok c d u w → s.ok c d' u w'
  | .any, _, _, h => h
  | .eq _, _, _, h => h
  | .int _ _, _, _, h => h
  | .num, _, _, h => h
  | .flag, _, _, h => h
  | .str _, _, _, h => h
  | .row T vs, v, _, ⟨b, hb, hv, hr⟩ => ⟨b, hb, hv, hr.kept k (by omega)⟩
  | .elem T vs, v, _, ⟨b, i, hb, hi, hv, hr⟩ => ⟨b, i, hb, hi, hv, hr.kept k (by omega)⟩
  | .one _, _, _, h => h
  | .at _ _ _, _, h, _ => by simp [Sh.isAt] at h
  | .sat _, _, _, h => h
  | .made _ _ _ _, _, h, _ => by simp [Sh.isAt] at h
abbrev Tell (c : Nat) (shs : List Sh) (d : Nat → Bool) (i : Nat) (v : Value) (w : World) : Prop := (shs.getD i .any).ok c d v w
theorem off_all {shs : List Sh} {i : Nat} (h : shs.all (Sh.offOf i) = true) (j : Nat) : (shs.getD j .any).offOf i = true := by
  rcases Nat.lt_or_ge j shs.length with hl | hl
  · simp only [List.all_eq_true] at h
    have : shs.getD j .any = shs[j] := by simp [List.getD, hl]
    rw [this]
    exact h _ (List.getElem_mem hl)
  · simp [List.getD, List.getElem?_eq_none hl, Sh.offOf]
theorem Tell.keep {c : Nat} {shs : List Sh} {d : Nat → Bool} {x : Nat → Value} {w w' : World} {i : Nat} (k : Draw.Kept c w w') (hm : shs.all (Sh.offOf i) = true := by rfl) : ∀ j, j ≠ i → Tell c shs d j (x j) w → Tell c shs (fun j => j == i || d j) j (x j) w' := fun j _ h => Sh.kept k _ _ (off_all hm j) h
theorem Tell.same {c : Nat} {shs : List Sh} {d : Nat → Bool} {x : Nat → Value} {w : World} {i : Nat} (hm : shs.all (Sh.offOf i) = true := by rfl) : ∀ j, j ≠ i → Tell c shs d j (x j) w → Tell c shs (fun j => j == i || d j) j (x j) w := Tell.keep (Draw.Kept.refl _ _) hm
def noAt (shs : List Sh) (z : Nat) : Bool := (List.range shs.length).all fun j => j == z || !(shs.getD j .any).isAt
theorem Tell.stored {c k0 : Nat} {shs : List Sh} {d d' : Nat → Bool} {x : Nat → Value} {w w' : World} {z : Nat} (hn : noAt shs z = true) (k : Draw.Kept k0 w w') (hk0 : k0 ≤ c) : ∀ j, j ≠ z → Tell c shs d j (x j) w → Tell c shs d' j (x j) w' := by
  intro j hj h
  refine Sh.store (i := 0) k hk0 _ _ ?_ h
  simp only [noAt, List.all_eq_true, List.mem_range] at hn
  rcases Nat.lt_or_ge j shs.length with hl | hl
  · have := hn j hl
    simpa [hj] using this
  · simp [List.getD, List.getElem?_eq_none hl, Sh.isAt]
def Sh.offLe (i : Nat) : Sh → Bool
  | .made z _ _ _ => z != i
  | .at _ _ _ => false
  | _ => true
theorem Sh.keptLe {c c' i : Nat} {d : Nat → Bool} {w w' : World} (k : Draw.Kept c' w w') (hc : c' ≤ c) : ∀ (s : Sh) (u : Value), s.offLe i = true → s.ok c d u w → s.ok c (fun j => j == i || d j) u w'
  | .any, _, _, h => h
  | .eq _, _, _, h => h
  | .int _ _, _, _, h => h
  | .num, _, _, h => h
  | .flag, _, _, h => h
  | .str _, _, _, h => h
  | .row T vs, v, _, ⟨b, hb, hv, hr⟩ => ⟨b, hb, hv, hr.kept k (by omega)⟩
  | .elem T vs, v, _, ⟨b, i, hb, hi, hv, hr⟩ => ⟨b, i, hb, hi, hv, hr.kept k (by omega)⟩
  | .one _, _, _, h => h
  | .at T k' vs, v, h, _ => by simp [Sh.offLe] at h
  | .sat _, _, _, h => h
  | .made z T zs p, v, hz, ⟨b, hb, hv, h0, h1⟩ => by
    have hzi : (z == i) = false := by simpa [Sh.offLe] using hz
    refine ⟨b, hb, hv, fun hd => ?_, fun hd => ?_⟩
    · exact (h0 (by simpa [hzi] using hd)).kept k (by omega)
    · obtain ⟨vs, hp, hr⟩ := h1 (by simpa [hzi] using hd)
      exact ⟨vs, hp, hr.kept k (by omega)⟩
theorem Tell.keepLe {c c' : Nat} {shs : List Sh} {d : Nat → Bool} {x : Nat → Value} {w w' : World} {i : Nat} (k : Draw.Kept c' w w') (hc : c' ≤ c) (hm : shs.all (Sh.offLe i) = true := by rfl) : ∀ j, j ≠ i → Tell c shs d j (x j) w → Tell c shs (fun j => j == i || d j) j (x j) w' := by
  intro j _ h
  refine Sh.keptLe k hc _ _ ?_ h
  rcases Nat.lt_or_ge j shs.length with hl | hl
  · simp only [List.all_eq_true] at hm
    have : shs.getD j .any = shs[j] := by simp [List.getD, hl]
    rw [this]
    exact hm _ (List.getElem_mem hl)
  · simp [List.getD, List.getElem?_eq_none hl, Sh.offLe]
def Sh.isPure : Sh → Bool
  | .row _ _ => false
  | .elem _ _ => false
  | .at _ _ _ => false
  | .made _ _ _ _ => false
  | _ => true
theorem Sh.pure {c : Nat} {d d' : Nat → Bool} {w w' : World} : ∀ (s : Sh) (u : Value), s.isPure = true → s.ok c d u w → s.ok c d' u w'
  | .any, _, _, h => h
  | .eq _, _, _, h => h
  | .int _ _, _, _, h => h
  | .num, _, _, h => h
  | .flag, _, _, h => h
  | .str _, _, _, h => h
  | .row _ _, _, h, _ => by simp [Sh.isPure] at h
  | .elem _ _, _, h, _ => by simp [Sh.isPure] at h
  | .one _, _, _, h => h
  | .at _ _ _, _, h, _ => by simp [Sh.isPure] at h
  | .sat _, _, _, h => h
  | .made _ _ _ _, _, h, _ => by simp [Sh.isPure] at h
theorem Tell.pure {c : Nat} {shs : List Sh} {d d' : Nat → Bool} {x : Nat → Value} {w w' : World} {i : Nat} (hp : shs.all Sh.isPure = true) : ∀ j, j ≠ i → Tell c shs d j (x j) w → Tell c shs d' j (x j) w' := by
  intro j _ h
  refine Sh.pure _ _ ?_ h
  rcases Nat.lt_or_ge j shs.length with hl | hl
  · simp only [List.all_eq_true] at hp
    have : shs.getD j .any = shs[j] := by simp [List.getD, hl]
    rw [this]
    exact hp _ (List.getElem_mem hl)
  · simp [List.getD, List.getElem?_eq_none hl, Sh.isPure]
def Sh.offT (z : Nat) (T : TypeId) : Sh → Bool
  | .row T' _ => T' != T
  | .elem T' _ => T' != T
  | .made z' T' _ _ => z' != z && T' != T
  | .at _ _ _ => false
  | _ => true
theorem var_ne {T T' : TypeId} {w : World} {b b' : Nat} {vs vs' : List Value} (h : Var T w b vs) (h' : Var T' w b' vs') (hT : (T' != T) = true) : b' ≠ b := by
  intro e
  subst e
  have h1 : w.heap[b']? = _ := h
  have h2 : w.heap[b']? = _ := h'
  rw [h1] at h2
  injection h2 with h2
  injection h2 with _ h3 _
  subst h3
  simp at hT
theorem Tell.gave {c b z : Nat} {shs : List Sh} {d : Nat → Bool} {x : Nat → Value} {w w' : World} (m : Nat) {T : TypeId} {zs vs zs0 : List Value} {p : List Value → Prop} (hs : shs.getD m .any = .made z T zs p) (ho : (List.range shs.length).all (fun j => j == m || (shs.getD j .any).offT z T) = true) (k : Draw.Kept b w w') (hbx : x m = .pointer (some ⟨b, 0, none⟩)) (hv0 : Var T w b zs0) (hv : Var T w' b vs) (hp : p vs) (hbc : c < b) :
    ∀ j, j ≠ z → Tell c shs d j (x j) w → Tell c shs (fun j => j == z || d j) j (x j) w' := by
  intro j hj h
  by_cases hjm : j = m
  · subst hjm
    unfold Tell at h ⊢
    rw [hs] at h ⊢
    refine ⟨b, hbc, hbx, fun hd' => absurd hd' (by simp), fun _ => ⟨vs, hp, hv⟩⟩
  · rcases Nat.lt_or_ge j shs.length with hl | hl
    · simp only [List.all_eq_true, List.mem_range] at ho
      have ho' := ho j hl
      unfold Tell at h ⊢
      generalize shs.getD j .any = s at *
      generalize x j = u at *
      have ho2 : s.offT z T = true := by simpa [hjm] using ho'
      cases s with
      | any => exact h
      | eq _ => exact h
      | int _ _ => exact h
      | num => exact h
      | flag => exact h
      | str _ => exact h
      | one _ => exact h
      | sat _ => exact h
      | «at» _ _ _ => simp [Sh.offT] at ho2
      | row T' vs' =>
        obtain ⟨b', hb', hv', hr⟩ := h
        exact ⟨b', hb', hv', hr.kept k (var_ne hv0 hr (by simpa [Sh.offT] using ho2))⟩
      | elem T' vs' =>
        obtain ⟨b', i', hb', hi', hv', hr⟩ := h
        exact ⟨b', i', hb', hi', hv', hr.kept k (var_ne hv0 hr (by simpa [Sh.offT] using ho2))⟩
      | made z' T' zs' p' =>
        obtain ⟨b', hb', hv', h0, h1⟩ := h
        simp only [Sh.offT, Bool.and_eq_true] at ho2
        have hzi : (z' == z) = false := by simpa using ho2.1
        refine ⟨b', hb', hv', fun hd' => ?_, fun hd' => ?_⟩
        · have q := h0 (by simpa [hzi] using hd')
          exact q.kept k (var_ne hv0 q ho2.2)
        · obtain ⟨vs', hp', hr⟩ := h1 (by simpa [hzi] using hd')
          exact ⟨vs', hp', hr.kept k (var_ne hv0 hr ho2.2)⟩
    · unfold Tell
      simp [List.getD, List.getElem?_eq_none hl, Sh.ok]
theorem int_sat {T : TypeId} {w : World} {b i : Nat} {ns : List Int} (h : Var T w b (ns.map (Value.int .i64))) (hi : i < (ns.map (Value.int .i64)).length) : ∃ n : Int, n ∈ ns ∧ w.cell? ⟨b, i, none⟩ = some (.int .i64 n) := by
  have hi' : i < ns.length := by simpa using hi
  exact ⟨ns[i], List.getElem_mem hi', h.cell (by simp [hi'])⟩
end Go.Proofs.YtjnkjeajkmgcmaaGreat.RegJ

/- Contracts of this seat's functions, and their mathematics (TakP). -/
import Derived.Test.YtldghgadkncehaaM9
set_option linter.unusedVariables false
set_option linter.unusedSimpArgs false
set_option maxHeartbeats 2000000
namespace Go.Proofs.Ytldghgadkncehaa.Tak
open Go.RowKit RowG
theorem isCap (n : Int) (w : World) : Calls Try.prog 105 #[.int .i64 n] w fun e w' => e = .returned (.bool (capB n)) ∧ w = w' := by
  by_cases h1 : 1 ≤ n
  · by_cases h2 : n ≤ 400
    · go_enter Try.func105, Try.ntmps105
      go_wp2_with fail
      go_ret
      exact ⟨Num.ret_bool (by simp [capB, h1, h2]), rfl⟩
    · go_enter Try.func105, Try.ntmps105
      go_wp2_with fail
      go_ret
      exact ⟨Num.ret_bool (by simp [capB, h1, h2]), rfl⟩
  · go_enter Try.func105, Try.ntmps105
    go_wp2_with fail
    go_ret
    exact ⟨Num.ret_bool (by simp [capB]; omega), rfl⟩
theorem isCapEq {n : Int} {v : Bool} (h : capB n = v) (w : World) : Calls Try.prog 105 #[.int .i64 n] w fun e w' => e = .returned (.bool v) ∧ w = w' := by
  subst h
  exact isCap n w
/-- A part within the bounds of 'Bd'. -/
def bdP (p : Pt) : Prop := -1152921504606846976 ≤ p.1 ∧ p.1 ≤ 4611686018427387904 ∧ p.2.size ≤ 2097152
theorem behind (p : Int) (b : ByteArray) (w : World) (h : bdP (p, b)) :
    Calls Try.prog 122 #[.agg #[.int .i64 p, .string b]] w fun x w' => x = .returned (.int .i64 (endP (p, b))) ∧ Below w.heap.size w w' := by
  obtain ⟨hp0, hp, hb⟩ := h
  simp only at hp0 hp hb
  go_enter Try.func122, Try.ntmps122
  go_wp2_with fail
  go_ret
  exact ⟨rfl, (Below.refl _ _).alloc (Nat.le_refl _) _⟩
theorem behindEq {p : Int} {b : ByteArray} {e : Int} (w : World) (h : bdP (p, b)) (he : endP (p, b) = e) :
    Calls Try.prog 122 #[.agg #[.int .i64 p, .string b]] w fun x w' => x = .returned (.int .i64 e) ∧ Below w.heap.size w w' := by
  subst he
  exact behind p b w h
theorem isPlaceEq {n : Int} {v : Bool} (h : Num.plB n = v) (w : World) : Calls Try.prog 110 #[.int .i64 n] w fun x w' => x = .returned (.bool v) ∧ w = w' := by
  subst h
  exact Num.isPlace n w
def partB (p : Pt) : Bool := !p.2.toList.isEmpty && (decide (p.2.size ≤ 40) && (Num.plB p.1 && Num.plB (endP p)))
theorem isPart (p : Int) (b : ByteArray) (w : World) (h : bdP (p, b)) :
    Calls Try.prog 121 #[.agg #[.int .i64 p, .string b]] w fun x w' => x = .returned (.bool (partB (p, b))) ∧ Below w.heap.size w w' := by
  have fin : ∀ {o : Obj}, Below w.heap.size w (w.alloc o) := fun {o} => (Below.refl _ _).alloc (Nat.le_refl _) o
  have BV : Below w.heap.size w (w.alloc (.cells #[.int .i64 p, .string b] 136)) := fin
  by_cases h1 : b.toList = []
  · have e1 : Hid (partB (p, b) = false) := by show _ = _; simp [partB, h1]
    go_enter Try.func121, Try.ntmps121
    go_wp2_with fail
    go_ret
    exact ⟨Num.ret_bool e1.out.symm, fin⟩
  · by_cases h2 : b.size ≤ 40
    · cases h3 : Num.plB p
      · have e1 : Hid (partB (p, b) = false) := by show _ = _; simp [partB, h3]
        go_enter Try.func121, Try.ntmps121
        go_wp2_with (go_at_call 110; refine (isPlaceEq h3 _).mono ?_; rintro x w' ⟨rfl, rfl⟩)
        go_ret
        exact ⟨Num.ret_bool e1.out.symm, fin⟩
      · cases h4 : Num.plB (endP (p, b))
        · have e1 : Hid (partB (p, b) = false) := by show _ = _; simp [partB, h4]
          have h4' : Hid _ := h4
          clear h4
          obtain ⟨e, he⟩ : ∃ e, e = endP (p, b) := ⟨_, rfl⟩
          have h5 : Num.plB e = false := by rw [he]; exact h4'.out
          have he' : Hid (endP (p, b) = e) := he.symm
          clear he
          go_enter Try.func121, Try.ntmps121
          go_wp2_with (first | (go_at_call 110; refine (Num.isPlace _ _).mono ?_; rintro x w2 ⟨rfl, rfl⟩) | (go_at_call 122; refine (behindEq _ h he'.out).mono ?_; rintro x w' ⟨rfl, hb⟩))
          go_ret
          exact ⟨Num.ret_bool e1.out.symm, BV.trans (hb.mono (by simp))⟩
        · have e1 : Hid (partB (p, b) = true) := by show _ = _; simp [partB, h1, h2, h3, h4]
          have h4' : Hid _ := h4
          clear h4
          obtain ⟨e, he⟩ : ∃ e, e = endP (p, b) := ⟨_, rfl⟩
          have h5 : Num.plB e = true := by rw [he]; exact h4'.out
          have he' : Hid (endP (p, b) = e) := he.symm
          clear he
          go_enter Try.func121, Try.ntmps121
          go_wp2_with (first | (go_at_call 110; refine (Num.isPlace _ _).mono ?_; rintro x w2 ⟨rfl, rfl⟩) | (go_at_call 122; refine (behindEq _ h he'.out).mono ?_; rintro x w' ⟨rfl, hb⟩))
          go_ret
          exact ⟨Num.ret_bool (by rw [e1.out]; simp [h1]), BV.trans (hb.mono (by simp))⟩
    · have e1 : Hid (partB (p, b) = false) := by show _ = _; simp [partB, h2]
      go_enter Try.func121, Try.ntmps121
      go_wp2_with fail
      go_ret
      exact ⟨Num.ret_bool e1.out.symm, fin⟩
theorem isPartEq {p : Int} {b : ByteArray} {v : Bool} (w : World) (h : bdP (p, b)) (hv : partB (p, b) = v) :
    Calls Try.prog 121 #[.agg #[.int .i64 p, .string b]] w fun x w' => x = .returned (.bool v) ∧ Below w.heap.size w w' := by
  subst hv
  exact isPart p b w h
theorem limitOfI (nx : Int) (bs : ByteArray) (a : Option Addr) (n c : Nat) (cp fi : Int) (en : Bool) (w : World) (hn : 0 ≤ nx ∧ nx ≤ 1152921504606846976) (hb : bs.size ≤ 1152921504606846976) (hc : 0 ≤ cp ∧ cp ≤ 1152921504606846976) {v : Int} (hv : limT nx bs cp = v) :
    Calls Try.prog 123 #[.agg #[.int .i64 nx, .string bs, .slice a n c, .int .i64 cp, .int .i64 fi, .bool en]] w fun x w' => x = .returned (.int .i64 v) ∧ Below w.heap.size w w' := by
  obtain ⟨hn0, hn1⟩ := hn
  obtain ⟨hc0, hc1⟩ := hc
  subst hv
  go_enter Try.func123, Try.ntmps123
  go_wp2_with fail
  go_ret
  exact ⟨rfl, (Below.refl _ _).alloc (Nat.le_refl _) _⟩
theorem behindAll (nx : Int) (bs : ByteArray) (a : Option Addr) (n c : Nat) (cp fi : Int) (en : Bool) (l : List Pt) (w : World) (hn : n = l.length) (h : partE.Lies w a l) (hl : l.length ≤ 2097152) (hp : Bd l) {v : Int} (hv : lastEnd nx l = v) :
    Calls Try.prog 124 #[.agg #[.int .i64 nx, .string bs, .slice a n c, .int .i64 cp, .int .i64 fi, .bool en]] w fun x w' => x = .returned (.int .i64 v) ∧ Below w.heap.size w w' := by
  subst hn hv
  have fin : ∀ {o : Obj}, Below w.heap.size w (w.alloc o) := fun {o} => (Below.refl _ _).alloc (Nat.le_refl _) o
  rcases List.eq_nil_or_concat l with rfl | ⟨r, ⟨p, b⟩, hr⟩
  · go_enter Try.func124, Try.ntmps124
    go_wp2_with fail
    go_ret
    exact ⟨rfl, fin⟩
  · rw [List.concat_eq_append] at hr
    subst hr
    have hq : bdP (p, b) := hp (p, b) (by simp)
    have hle : Hid (lastEnd nx (r ++ [(p, b)]) = endP (p, b)) := by show _ = _; simp [lastEnd]
    rcases h with e | ⟨k, off, rfl, hc⟩
    · simp at e
    have hlen : (r ++ [(p, b)]).length = r.length + 1 := by simp
    have hx : (r ++ [(p, b)])[r.length]? = some (p, b) := by simp
    have g0 : w.cell? ⟨k, off + r.length * 2, none⟩ = some (.int .i64 p) := El.Lies.cell hc hx (j := 0) rfl
    have g1 : w.cell? ⟨k, off + r.length * 2 + 1, none⟩ = some (.string b) := El.Lies.cell hc hx (j := 1) rfl
    have c0 := fun o => alloc_cell g0 o
    have c1 := fun o => alloc_cell g1 o
    rw [hlen] at hl ⊢
    clear g0 g1
    clear hc hx hp hlen
    go_enter Try.func124, Try.ntmps124
    go_wp2_with ((go_at_call 122; refine (behindEq _ hq rfl).mono ?_; rintro x w' ⟨rfl, hb⟩))
    go_ret
    exact ⟨by rw [hle.out]; rfl, fin.trans (hb.mono fin.size)⟩
def endOfB (fi last : Int) : Bool := decide (fi = -1) || (Num.plB fi && decide (last ≤ fi))
theorem isEndOf (nx : Int) (bs : ByteArray) (a : Option Addr) (n c : Nat) (cp fi : Int) (en : Bool) (l : List Pt) (w : World) (hn : n = l.length) (h : partE.Lies w a l) (hl : l.length ≤ 2097152) (hp : Bd l) {last : Int} (hv : lastEnd nx l = last) :
    Calls Try.prog 113 #[.agg #[.int .i64 nx, .string bs, .slice a n c, .int .i64 cp, .int .i64 fi, .bool en]] w fun x w' => x = .returned (.bool (endOfB fi last)) ∧ Below w.heap.size w w' := by
  subst hn
  have HV : Hid (lastEnd nx l = last) := hv
  have HP : Hid (Bd l) := hp
  clear hv hp
  have hmix := mix
  have hbx := box6 w (.int .i64 nx) (.string bs) (.slice a l.length c) (.int .i64 cp) (.int .i64 fi) (.bool en) 82
  have BV : Below w.heap.size w (w.alloc (.cells #[.int .i64 nx, .string bs, .slice a l.length c, .int .i64 cp, .int .i64 fi, .bool en] 82)) := (Below.refl _ _).alloc (Nat.le_refl _) _
  have hL : Hid (partE.Lies (w.alloc (.cells #[.int .i64 nx, .string bs, .slice a l.length c, .int .i64 cp, .int .i64 fi, .bool en] 82)) a l) := h.alloc _
  have d0 := Draw.Later.cell hbx.1
  have d1 := Draw.Later.cell hbx.2.1
  have d2 := Draw.Later.cell hbx.2.2.1
  have d3 := Draw.Later.cell hbx.2.2.2.1
  have d4 := Draw.Later.cell hbx.2.2.2.2.1
  have d5 := Draw.Later.cell hbx.2.2.2.2.2
  clear hbx h
  go_enter Try.func113, Try.ntmps113
  go_wp2_with fail
  generalize hV : (w.alloc (.cells #[.int .i64 nx, .string bs, .slice a l.length c, .int .i64 cp, .int .i64 fi, .bool en] 82)) = V at *
  clear hV
  by_cases h1 : fi = -1
  · have HF : Hid (endOfB fi last = true) := by show _ = _; simp [endOfB, h1]
    have hd : (fi == -1) = true := by simp [h1]
    go_wp2_with fail
    refine Draw.wp_region_later hmix (by kernel_rfl) ?_
    repeat (go_big_quiet_step (fail))
    refine wpQuiet_nil ?_
    intro wq hw'
    obtain ⟨q, hq⟩ := hw'
    have hBq := q.h
    rw [← hq] at hBq
    clear hq q
    go_wp2_with fail
    go_ret
    exact ⟨by rw [HF.out]; rfl, BV.trans (hBq.mono BV.size)⟩
  have hd1 : (fi == -1) = false := by simp [h1]
  cases hpl : Num.plB fi
  · have HF : Hid (endOfB fi last = false) := by show _ = _; simp [endOfB, h1, hpl]
    go_wp2_with fail
    refine Draw.wp_region_later hmix (by kernel_rfl) ?_
    repeat (go_big_quiet_step ((go_at_call 110; exact Draw.later_same (isPlaceEq hpl _))))
    refine wpQuiet_nil ?_
    intro wq hw'
    obtain ⟨q, hq⟩ := hw'
    have hBq := q.h
    rw [← hq] at hBq
    clear hq q
    go_wp2_with fail
    go_ret
    exact ⟨by rw [HF.out]; rfl, BV.trans (hBq.mono BV.size)⟩
  by_cases h3 : last ≤ fi
  · have HF : Hid (endOfB fi last = true) := by show _ = _; simp [endOfB, h1, hpl, h3]
    have hd3 : decide (last ≤ fi) = true := decide_eq_true h3
    go_wp2_with fail
    refine Draw.wp_region_later hmix (by kernel_rfl) ?_
    repeat (go_big_quiet_step (first | (go_at_call 110; exact Draw.later_same (isPlaceEq hpl _)) | (go_at_call 124; exact Draw.later_of (behindAll _ _ _ _ _ _ _ _ l _ rfl (hL.out.later (Draw.Later.h _)) hl HP.out HV.out))))
    refine wpQuiet_nil ?_
    intro wq hw'
    obtain ⟨q, hq⟩ := hw'
    have hBq := q.h
    rw [← hq] at hBq
    clear hq q
    go_wp2_with fail
    go_ret
    exact ⟨by rw [HF.out]; rfl, BV.trans (hBq.mono BV.size)⟩
  · have HF : Hid (endOfB fi last = false) := by show _ = _; simp [endOfB, h1, hpl]; omega
    have hd3 : decide (last ≤ fi) = false := decide_eq_false h3
    go_wp2_with fail
    refine Draw.wp_region_later hmix (by kernel_rfl) ?_
    repeat (go_big_quiet_step (first | (go_at_call 110; exact Draw.later_same (isPlaceEq hpl _)) | (go_at_call 124; exact Draw.later_of (behindAll _ _ _ _ _ _ _ _ l _ rfl (hL.out.later (Draw.Later.h _)) hl HP.out HV.out))))
    refine wpQuiet_nil ?_
    intro wq hw'
    obtain ⟨q, hq⟩ := hw'
    have hBq := q.h
    rw [← hq] at hBq
    clear hq q
    go_wp2_with fail
    go_ret
    exact ⟨by rw [HF.out]; rfl, BV.trans (hBq.mono BV.size)⟩
end Go.Proofs.Ytldghgadkncehaa.Tak

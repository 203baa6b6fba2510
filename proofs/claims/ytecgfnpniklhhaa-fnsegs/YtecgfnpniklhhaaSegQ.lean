/- Contracts of the program's ShowSeg (shown, text) and Spoilt; texts of at most 2^20 bytes. -/
import Derived.Test.YtecgfnpniklhhaaSegP
namespace Go.Proofs.Ytecgfnpniklhhaa.Seg
open Go.RowKit
set_option linter.unusedVariables false

theorem own_base {B B' : Nat} {v : Value} {n : Nat} {T : TypeId} {xs : List Value} {w w0 w' : World} (h : Lib.OwnBuf B T v n xs w0 w') (h0 : Below B' w w0) (hB : B' ≤ B) : Lib.OwnBuf B' T v n xs w w' := by
  obtain ⟨⟨hl, ho⟩, hb, hs⟩ := h
  refine ⟨⟨hl, ?_⟩, h0.trans (hb.mono hB), Nat.le_trans hB hs⟩
  rcases ho with ho | ⟨g, cap, cur, fz, e, hg, hr⟩
  · exact .inl ho
  · exact .inr ⟨g, cap, cur, fz, e, Nat.le_trans hB hg, hr⟩
theorem own_later {B : Nat} {v : Value} {n : Nat} {T : TypeId} {xs : List Value} {w0 w w' : World} (h : Lib.OwnBuf B T v n xs w0 w) (hb : Below w.heap.size w w') : Lib.OwnBuf B T v n xs w0 w' := by
  refine ⟨World.ownsRowF.kept (row := none) h.1 ⟨hb.os, hb.tape, hb.output, hb.size, fun k hk _ => hb.block k hk⟩ ?_, h.2.1.trans (hb.mono h.2.2), Nat.le_trans h.2.2 hb.size⟩
  cases hv : v.ownBlock
  · exact .inl rfl
  · exact .inr (by simp)
theorem own_some {B : Nat} {v : Value} {n : Nat} {T : TypeId} {xs : List Value} {w0 w : World} (h : Lib.OwnBuf B T v n xs w0 w) (hn : 0 < n) : ∃ g cap, v = .slice (some ⟨g, 0, none⟩) n cap := by
  rcases h.1.2 with ⟨_, hz⟩ | ⟨g, cap, cur, fz, e, _⟩
  · omega
  · exact ⟨g, cap, e⟩
theorem own_text {B g n cap : Nat} {l : List UInt8} {w0 w : World} (h : Lib.OwnBuf B 5 (.slice (some ⟨g, 0, none⟩) n cap) n (bytesV l) w0 w) : (convert 22 9 (.slice (some ⟨g, 0, none⟩) n cap)).run Try.prog w = .ok (.string ⟨l.toArray⟩) w := by
  have hn : n = l.length := by have := h.1.1; simpa [bytesV] using this.symm
  subst hn
  refine run_convert_bytes_back w 22 9 5 ⟨g, 0, none⟩ cap l Try.underlying22 Try.underlying5 Try.underlying9 fun j hj => ?_
  exact h.1.cells (g := g) rfl j _ (by simp [bytesV, hj])

/-- The head of a letter that has n bytes. -/
def headL (f t : Int) (e : Bool) (a r n : Int) : List UInt8 := numB f 4 ++ numB t 4 ++ numB a 4 ++ numB r 2 ++ numB (if e then 1 else 0) 1 ++ numB n 1
theorem head_body (f t : Int) (b : List UInt8) (e : Bool) (a r : Int) : headL f t e a r b.length ++ b = bodyL f t b e a r := rfl

set_option maxHeartbeats 2000000 in
theorem shown (f t a r : Int) (e : Bool) (n : Int) (w : World) :
    Calls Try.prog 27 #[.agg #[.int .i64 f, .int .i64 t, .int .i64 a, .int .i64 r, .bool e], .int .i64 n] w fun x w' => ∃ v, x = .returned v ∧ Lib.OwnBuf w.heap.size 5 v 16 (bytesV (headL f t e a r n)) w w' := by
  have h0 : ∀ W0 : World, Lib.OwnBuf W0.heap.size 5 (.slice none 0 0) 0 (bytesV []) W0 W0 := fun W0 => ⟨World.ownsRowF_nil _ _ _ _, Below.refl _ _, Nat.le_refl _⟩
  go_enter Try.func27, Try.ntmps27
  go_wp2_with fail
  refine (withNumber _ [] _ 4 _ rfl _ _ _ _ (by decide) rfl (by simp) (h0 _)).mono ?_
  rintro x w1 ⟨v1, rfl, hb1⟩
  clear h0
  obtain ⟨c0, c1, c2, c3, c4⟩ := agg5 hb1.2.1
  have H1 : Hid _ := hb1
  clear hb1
  go_wp2_with fail
  refine (withNumber _ _ _ 4 _ rfl _ _ _ _ (by decide) (by simp [numB_len]) (by simp [numB_len]) H1.out).mono ?_
  rintro x w2 ⟨v2, rfl, hb2⟩
  clear c0 c1 c2 c3 c4 H1
  obtain ⟨c0, c1, c2, c3, c4⟩ := agg5 hb2.2.1
  have H1 : Hid _ := hb2
  clear hb2
  go_wp2_with fail
  refine (withNumber _ _ _ 4 _ rfl _ _ _ _ (by decide) (by simp [numB_len]) (by simp [numB_len]) H1.out).mono ?_
  rintro x w3 ⟨v3, rfl, hb3⟩
  clear c0 c1 c2 c3 c4 H1
  obtain ⟨c0, c1, c2, c3, c4⟩ := agg5 hb3.2.1
  have H1 : Hid _ := hb3
  clear hb3
  go_wp2_with fail
  refine (withNumber _ _ _ 2 _ rfl _ _ _ _ (by decide) (by simp [numB_len]) (by simp [numB_len]) H1.out).mono ?_
  rintro x w4 ⟨v4, rfl, hb4⟩
  clear c0 c1 c2 c3 c4 H1
  obtain ⟨c0, c1, c2, c3, c4⟩ := agg5 hb4.2.1
  have H1 : Hid _ := hb4
  clear hb4
  go_wp2_with fail
  refine (numberOfFlag e _).mono ?_
  rintro x w5 ⟨rfl, rfl⟩
  generalize hev : (if e = true then (1 : Int) else 0) = ev
  have HE : Hid _ := hev
  clear hev
  go_wp2_with fail
  refine (withNumber _ _ _ 1 _ rfl _ _ _ _ (by decide) (by simp [numB_len]) (by simp [numB_len]) H1.out).mono ?_
  rintro x w6 ⟨v6, rfl, hb6⟩
  clear c0 c1 c2 c3 c4 H1
  have H1 : Hid _ := hb6
  clear hb6
  go_wp2_with fail
  refine (withNumber _ _ _ 1 _ rfl _ _ _ _ (by decide) (by simp [numB_len]) (by simp [numB_len]) H1.out).mono ?_
  rintro x w7 ⟨v7, rfl, hb7⟩
  have H2 : Hid _ := hb7
  clear hb7 H1
  go_wp2_with fail
  go_ret
  have h := own_base H2.out ((Below.refl w.heap.size w).alloc (Nat.le_refl _) _) (by simp)
  exact ⟨v7, rfl, by unfold headL; rw [HE.out]; simpa using h⟩

/-- At a step of a region that draws its order: a text's bytes behind a buffer of the call's own. -/
theorem step_append_text {P : Program} {w : World} {ops : Array Oper} {o : Oper} {a : Act} {K : Act → World → Prop} {Q : Exit → Act → World → Prop} {E : Prop} (hgd : o.guard = none) (sl x : Operand) (t u : TypeId)
    (ho : o.op = .call { callee := .builtin .append, args := #[sl, x], argTypes := #[t, u] })
    (B : Nat) (e : TypeId) (i : TypeInfo) (ht : P.underlying t = some (.slice e)) (hu : P.underlying u = some .string) (hi : P.info? e = some i) (hz : i.zero = some (.int .u8 0)) (hsize : i.size = 1) (hby : i.bytes = 1)
    (v : Value) (n : Nat) (xs : List Value) (hs : a.eval sl = v) (W0 : World) (hb : Lib.OwnBuf B e v n xs W0 w) (s : ByteArray) (hx : a.eval x = .string s) (hlen : n + s.size ≤ 140737488355328)
    (h : ∀ v' w', Lib.OwnBuf B e v' (n + s.size) (xs ++ Lib.strCells s) W0 w' → K (a.put o.dst v') w') : if Region.wanted o (yielded ops a.tmps) = true then Oper.wp P o a w K Q else E := by
  have hw : Region.wanted o (yielded ops a.tmps) = true := by simp [Region.wanted, hgd]
  rw [if_pos hw]
  obtain ⟨v', w', hr, h2, h3, h4⟩ := Lib.run_append_own_stringF (P := P) w B t u o.type e i ht hu hi hz hsize hby v n xs hb.1 s (by unfold maxLen; omega) hlen hb.2.2
  unfold Oper.wp execOp
  simp only [ho, resolve, invoke, builtin, Sem.run_bind, Sem.run_pure, Result.andThen_ok, List.map_toArray, List.map_cons, List.map_nil, hs, hx, hr]
  exact h v' w' (hb.grown h2 h3)

set_option maxHeartbeats 2000000 in
theorem letterText (f t : Int) (b : ByteArray) (e : Bool) (a r : Int) (w : World) (hb : b.size ≤ 1048576) :
    Calls Try.prog 15 #[.agg #[.int .i64 f, .int .i64 t, .int .i64 a, .int .i64 r, .bool e, .string b]] w fun x w' => x = .returned (.string ⟨(showL f t b.data.toList e a r).toArray⟩) ∧ Below w.heap.size w w' := by
  obtain ⟨i, hi, hz0, hz1, hz2⟩ := info_parts Draw.infoU8
  go_enter Try.func15, Try.ntmps15
  go_wp2_with fail
  have H0 : ∀ {wz wy : World} {v : Value} {n : Nat} {xs : List Value}, wz = (w.alloc (.cells #[.int .i64 f, .int .i64 t, .int .i64 a, .int .i64 r, .bool e, .string b] 35)).drew → Lib.OwnBuf wz.heap.size 5 v n xs wz wy → wy.cell? ⟨w.heap.size, 0, none⟩ = some (.int .i64 f) ∧ wy.cell? ⟨w.heap.size, 1, none⟩ = some (.int .i64 t) ∧ wy.cell? ⟨w.heap.size, 2, none⟩ = some (.int .i64 a) ∧ wy.cell? ⟨w.heap.size, 3, none⟩ = some (.int .i64 r) ∧ wy.cell? ⟨w.heap.size, 4, none⟩ = some (.bool e) ∧ wy.cell? ⟨w.heap.size, 5, none⟩ = some (.string b) := by
    intro wz wy v n xs h ho
    subst h
    have h : ∀ i, wy.cell? ⟨w.heap.size, i, none⟩ = _ := fun i => ho.2.1.cell (p := ⟨w.heap.size, i, none⟩) (by show w.heap.size < (w.alloc _).heap.size; simp)
    refine ⟨(h 0).trans ?_, (h 1).trans ?_, (h 2).trans ?_, (h 3).trans ?_, (h 4).trans ?_, (h 5).trans ?_⟩ <;> simp
  have hbl : 16 + b.size ≤ 140737488355328 := by omega
  go_cut [3] from 4 (fun v wr => Lib.OwnBuf (w.heap.size + 1) 5 v (16 + b.size) (bytesV (bodyL f t b.data.toList e a r)) (w.alloc (.cells #[.int .i64 f, .int .i64 t, .int .i64 a, .int .i64 r, .bool e, .string b] 35)).drew wr)
  case first =>
    go_region_held3 (fun w' => w'.cell? ⟨w.heap.size, 0, none⟩ = some (.int .i64 f) ∧ w'.cell? ⟨w.heap.size, 1, none⟩ = some (.int .i64 t) ∧ w'.cell? ⟨w.heap.size, 2, none⟩ = some (.int .i64 a) ∧ w'.cell? ⟨w.heap.size, 3, none⟩ = some (.int .i64 r) ∧ w'.cell? ⟨w.heap.size, 4, none⟩ = some (.bool e) ∧ w'.cell? ⟨w.heap.size, 5, none⟩ = some (.string b)) (first | (simp; done) | exact H0 rfl (by assumption)) ((first | (go_at_call 27; refine (shown f t a r e _ _).mono ?_; rintro x wn ⟨v, rfl, hbn⟩) | (refine step_append_text (by rfl) _ _ 22 9 (by rfl) _ 5 i Try.underlying22 Try.underlying9 hi hz0 hz1 hz2 _ _ _ (by rfl) _ hbn b (by rfl) hbl ?_; intro v2 w2 hb2)))
    all_goals
      go_wp2_with fail
      go_meet
      have hbs : b.data.toList.length = b.size := by simp
      rw [← head_body, hbs]
      unfold bytesV at *
      rw [List.map_append]
      exact own_base hb2 (Below.refl _ _) (by simp)
  case rest =>
    clear H0
    have hlen : (bodyL f t b.data.toList e a r).length = 16 + b.size := by rw [bodyL_len]; simp
    obtain ⟨g, cap, rfl⟩ := own_some hcut (by omega)
    have hback := own_text hcut
    have hz : (⟨(bodyL f t b.data.toList e a r).toArray⟩ : ByteArray).size ≤ 1073741824 := by show (bodyL f t b.data.toList e a r).length ≤ _; omega
    have HZ : Hid (showL f t b.data.toList e a r = bodyL f t b.data.toList e a r ++ numB (Sum.sumOf ⟨(bodyL f t b.data.toList e a r).toArray⟩) 2) := rfl
    have HC : Hid (Lib.OwnBuf _ _ _ _ _ _ _) := own_base hcut (((Below.refl w.heap.size w).alloc (Nat.le_refl _) _).drew) (by simp)
    have HL : Hid (16 + b.size = (bodyL f t b.data.toList e a r).length) := hlen.symm
    clear hcut hlen
    generalize bodyL f t b.data.toList e a r = BL at *
    go_wp2_with fail
    refine (Sum.implSum _ _ hz).mono ?_
    rintro x w1 ⟨rfl, hB1⟩
    generalize Sum.sumOf ⟨BL.toArray⟩ = S at *
    have HD : Hid (Lib.OwnBuf _ _ _ _ _ _ _) := own_later HC.out hB1
    clear HC hB1 hback
    go_wp2_with fail
    refine (withNumber _ _ _ 2 _ rfl _ _ _ _ (by decide) HL.out (by have := HL.out; omega) HD.out).mono ?_
    rintro x w2 ⟨v2, rfl, hb2⟩
    clear HD
    obtain ⟨g2, cap2, rfl⟩ := own_some hb2 (by omega)
    have hback2 := own_text hb2
    have hB := hb2.2.1
    clear hb2
    go_wp2_with fail
    go_ret
    exact ⟨by rw [HZ.out]; rfl, hB⟩

set_option maxHeartbeats 2000000 in
theorem implShowSeg (f t : Int) (b : ByteArray) (e : Bool) (a r : Int) (w : World) (hb : b.size ≤ 1048576) :
    Calls Try.prog 6 #[.agg #[.int .i64 f, .int .i64 t, .string b, .bool e, .int .i64 a, .int .i64 r]] w fun x w' => x = .returned (.string ⟨(showSegL f t b.data.toList e a r).toArray⟩) ∧ Below w.heap.size w w' := by
  have hbs : b.data.toList.length = b.size := by simp
  have HO : Hid (showSegL f t b.data.toList e a r = if okB f t b.size a r = true then showL f t b.data.toList e a r else []) := by show _ = _; unfold showSegL; rw [hbs]
  clear hbs
  go_enter Try.func6, Try.ntmps6
  go_wp2_with fail
  refine (implSegOk f t b e a r _ hb).mono ?_
  rintro x w1 ⟨rfl, hB1⟩
  have hB01 : Below w.heap.size w w1 := ((Below.refl _ _).alloc (Nat.le_refl _) _).trans (hB1.mono (by simp))
  obtain ⟨c0, c1, c2, c3, c4, c5⟩ := agg6 hB1
  clear hB1
  cases hok : okB f t b.size a r
  · go_wp2_with fail
    go_ret
    exact ⟨by rw [HO.out, hok]; rfl, hB01⟩
  · go_wp2_with fail
    refine (letterOf f t b e a r _).mono ?_
    rintro x w2 ⟨rfl, hB2⟩
    have hB02 := hB01.trans (hB2.mono hB01.size)
    clear hB2
    go_wp2_with fail
    refine (letterText f t b e a r _ hb).mono ?_
    rintro x w3 ⟨rfl, hB3⟩
    go_wp2_with fail
    go_ret
    exact ⟨by rw [HO.out, hok]; rfl, hB02.trans (hB3.mono hB02.size)⟩

end Go.Proofs.Ytecgfnpniklhhaa.Seg

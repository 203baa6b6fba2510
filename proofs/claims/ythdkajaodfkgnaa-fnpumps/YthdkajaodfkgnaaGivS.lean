/- Givers (chapter 6), the program's side: Writes. -/
import Derived.Test.YthdkajaodfkgnaaGivQ
import Derived.Test.YthdkajaodfkgnaaGivB
import Derived.Laws.BytesArg
namespace Go.Proofs.Ythdkajaodfkgnaa.Giv
open Go.RowKit RowG
set_option linter.unusedVariables false
set_option linter.unusedSimpArgs false

theorem byte_vals (C : List UInt8) : byteE.vals C = C.map fun b => Value.int .u8 (b.toNat : Int) := by
  induction C with
  | nil => rfl
  | cons x C ih =>
    rw [El.vals_cons, ih]
    rfl
/-- Bytes of the call's own as a text. -/
theorem conv_own {w : World} {B : Nat} {a : Option Addr} {c : Nat} {C : List UInt8} (h : byteE.Own 5 w B a c C) : (convert 22 9 (.slice a C.length c)).run Try.prog w = .ok (.string ⟨C.toArray⟩) w := by
  rcases h.form with ⟨rfl, rfl, rfl⟩ | ⟨g, rfl, h1, h2, h3⟩
  · exact run_convert_bytes_nil w 22 5 Try.underlying22 Try.underlying5 0 0 9 Try.underlying9
  · refine Draw.text_byteRow ?_ C.length c rfl
    have h4 : w.ownsRow B 5 1 (.slice (some ⟨g, 0, none⟩) C.length c) C.length (C.map fun b => Value.int .u8 (b.toNat : Int)) := by
      have := h
      unfold El.Own at this
      rw [byte_vals] at this
      exact this
    exact (Draw.Row.ofOwn h4).2.2
theorem bytes_put (b s : ByteArray) (t : Nat) : (⟨(b.data.toList ++ s.data.toList.take t).toArray⟩ : ByteArray) = b ++ s.extract 0 t := by
  apply ByteArray.ext
  rw [ByteArray.data_append, ByteArray.data_extract]
  apply Array.ext'
  simp
theorem fit_ring {g : Gv} (h : g.ok = true) (s : ByteArray) : ((fitR (mostG g).toNat g.bs.data.toList s.data.toList : Nat) : Int) = fitN g s ∧ fitR (mostG g).toNat g.bs.data.toList s.data.toList = (fitN g s).toNat := by
  obtain ⟨⟨i8, i9⟩, ⟨j1, j2⟩, i3, i4, ⟨j3, j4⟩, i6, i7⟩ := ok_iff.1 h
  have h1 : g.bs.data.toList.length = g.bs.size := by simp
  have h2 : s.data.toList.length = s.size := by simp
  unfold fitR fitN mostG
  rw [h1, h2]
  omega

set_option maxRecDepth 10000 in
set_option maxHeartbeats 4000000 in
theorem implWrites (g : Gv) (s : ByteArray) (w : World) (hg : g.bs.size ≤ 2097152) (hs : s.size ≤ 2097152) :
    Calls Try.prog 61 #[g.v, .string s] w fun x w' => x = .returned (.tuple #[(writesG g s).1.v, .int .i64 (writesG g s).2]) ∧ Below w.heap.size w w' := by
  have hmix := mix
  have hG := fun w' => implGiverOk g w' hg
  have hK := fun w' hok => keptBy g w' hok
  have hF := fun hok => fit_ring (g := g) hok s
  have HIN : Hid (g.ok = true → _) := fun hok => (ok_iff (g := g)).1 hok
  have hm9 : g.ok = true → (mostG g).toNat ≤ 400 := fun hok => by
    have := ok_iff.1 hok
    unfold mostG
    omega
  have HM9 : Hid _ := hm9
  obtain ⟨ok, hok⟩ : ∃ ok, g.ok = ok := ⟨_, rfl⟩
  have HW : Hid (writesG g s = if ok then (if g.en then (g, 0) else (⟨g.ba, g.bs ++ s.extract 0 (fitN g s).toNat, g.cp, g.lm, g.en, g.dn⟩, fitN g s)) else (zeroG, -1)) := by show _ = _; unfold writesG writeG; rw [hok]
  rw [hok] at hG hK hF
  have HOK : Hid (g.ok = ok) := hok
  clear hok hm9
  generalize writesG g s = Z at *
  obtain ⟨n, hn⟩ : ∃ n, (mostG g).toNat = n := ⟨_, rfl⟩
  rw [hn] at hK hF
  have HM : Hid (ok = true → n ≤ 400) := fun h => by have := HM9.out (HOK.out.trans h); rw [hn] at this; exact this
  obtain ⟨t, ht⟩ : ∃ t, fitN g s = t := ⟨_, rfl⟩
  rw [ht] at hF HW
  replace HIN : Hid (ok = true → _) := fun h => HIN.out (HOK.out.trans h)
  clear hn ht HM9 HOK
  obtain ⟨ba, bs, cp, lm, en, dn⟩ := g
  dsimp only [Gv.v, Gv.c] at *
  have v1 : Var 28 ((w.alloc (.cells #[.int .i64 ba, .string bs, .int .i64 cp, .int .i64 lm, .bool en, .bool dn] 28)).alloc (.cells #[.int .i64 0, .string ⟨#[]⟩, .int .i64 0, .int .i64 0, .bool false, .bool false] 28)) w.heap.size [.int .i64 ba, .string bs, .int .i64 cp, .int .i64 lm, .bool en, .bool dn] := (Var.new w [.int .i64 ba, .string bs, .int .i64 cp, .int .i64 lm, .bool en, .bool dn]).alloc _
  have v2 : Var 28 ((w.alloc (.cells #[.int .i64 ba, .string bs, .int .i64 cp, .int .i64 lm, .bool en, .bool dn] 28)).alloc (.cells #[.int .i64 0, .string ⟨#[]⟩, .int .i64 0, .int .i64 0, .bool false, .bool false] 28)) (w.heap.size + 1) [.int .i64 0, .string ⟨#[]⟩, .int .i64 0, .int .i64 0, .bool false, .bool false] := by
    have := Var.new (T := 28) (w.alloc (.cells #[.int .i64 ba, .string bs, .int .i64 cp, .int .i64 lm, .bool en, .bool dn] 28)) [.int .i64 0, .string ⟨#[]⟩, .int .i64 0, .int .i64 0, .bool false, .bool false]
    simpa using this
  have b1 : Below w.heap.size w ((w.alloc (.cells #[.int .i64 ba, .string bs, .int .i64 cp, .int .i64 lm, .bool en, .bool dn] 28)).alloc (.cells #[.int .i64 0, .string ⟨#[]⟩, .int .i64 0, .int .i64 0, .bool false, .bool false] 28)) := ((Below.refl _ _).alloc (Nat.le_refl _) _).alloc (by simp) _
  go_enter Try.func61, Try.ntmps61
  go_wp2_with fail
  generalize ((w.alloc (.cells #[.int .i64 ba, .string bs, .int .i64 cp, .int .i64 lm, .bool en, .bool dn] 28)).alloc (.cells #[.int .i64 0, .string ⟨#[]⟩, .int .i64 0, .int .i64 0, .bool false, .bool false] 28)) = V at *
  refine (hG _).mono ?_
  rintro x w1 ⟨rfl, b2⟩
  have x1 := v1.later b2
  have x2 := v2.later b2
  have B2 := b1.trans (b2.mono b1.size)
  clear v1 v2 b1 b2 hG
  have H1 : Hid (w.heap.size + 1 < w1.heap.size) := x2.lt
  have e0 := x1.cell (i := 0) rfl
  have e1 := x1.cell (i := 1) rfl
  have e2 := x1.cell (i := 2) rfl
  have e3 := x1.cell (i := 3) rfl
  have e4 := x1.cell (i := 4) rfl
  have e5 := x1.cell (i := 5) rfl
  have r0 := x2.cell (i := 0) rfl
  have r1 := x2.cell (i := 1) rfl
  have r2 := x2.cell (i := 2) rfl
  have r3 := x2.cell (i := 3) rfl
  have r4 := x2.cell (i := 4) rfl
  have r5 := x2.cell (i := 5) rfl
  have q0 := x2.free 0
  have q1 := x2.free 1
  have q2 := x2.free 2
  have q3 := x2.free 3
  have q4 := x2.free 4
  have q5 := x2.free 5
  cases ok
  · clear hK hF
    go_wp2_with fail
    refine bodyPost_ret (v := .tuple #[.agg #[.int .i64 0, .string ⟨#[]⟩, .int .i64 0, .int .i64 0, .bool false, .bool false], .int .i64 (-1)]) (by rw [Tak.res_cell_tmp rfl]; go_simp; try rfl) rfl ⟨by rw [HW.out]; rfl, ?_⟩
    iterate 6 (refine Below.setCell ?_ (by dsimp only; omega) _)
    exact B2
  cases en
  case true =>
    clear hK hF
    go_wp2_with fail
    refine bodyPost_ret (v := .tuple #[.agg #[.int .i64 ba, .string bs, .int .i64 cp, .int .i64 lm, .bool true, .bool dn], .int .i64 0]) (by rw [Tak.res_cell_tmp rfl]; go_simp; try rfl) rfl ⟨by rw [HW.out]; rfl, ?_⟩
    iterate 6 (refine Below.setCell ?_ (by dsimp only; omega) _)
    exact B2
  have hn4 := HM.out rfl
  have hin := HIN.out rfl
  have hba : ba ≤ 1000000000 := hin.2.1.2
  obtain ⟨hf1, hf2⟩ := hF rfl
  have HF1 : Hid _ := hf1
  have HF2 : Hid _ := hf2
  clear hF hf1 hf2 hin HIN HM
  go_wp2_with fail
  refine (hK _ trivial).mono ?_
  rintro x w2 ⟨r, ks, rfl, R, hr, hk, b2⟩
  replace x1 := x1.later b2
  replace x2 := x2.later b2
  have hB1 := B2.size
  have hlt : w.heap.size + 1 < w1.heap.size := H1.out
  have B3 := B2.trans (b2.mono B2.size)
  clear r0 r1 r2 r3 r4 r5 q0 q1 q2 q3 q4 q5 e0 e1 e2 e3 e4 e5
  obtain ⟨cap, w3, hconv, hrow, b3, hs3, hcap⟩ := bytes_text s w2
  replace x1 := x1.later b3
  replace x2 := x2.later b3
  have hrl := R.var.lt
  have hkl := R.kin
  have R3 := R.later b3
  have B4 := B3.trans (b3.mono B3.size)
  have hb2 := b2.size
  have hP := puts r ks n ba bs.data.toList s.data.toList w2.heap.size s.size cap w1.heap.size w3 R3 hn4 hba hrow (by simp) hcap hs (by omega) (by omega) (by omega) hr hk
  clear hK R R3 hrow b2 b3 B2 B3
  go_wp2_with fail
  refine hP.mono ?_
  rintro x w4 ⟨rfl, R4, b4⟩
  rw [HF1.out]
  rw [HF2.out] at R4
  replace x1 := x1.same (b4.block _ (by omega))
  replace x2 := x2.same (b4.block _ (by omega))
  have B5 := B4.trans (b4.mono (by omega))
  obtain ⟨C5, hC5⟩ : ∃ C5, bs.data.toList ++ List.take t.toNat s.data.toList = C5 := ⟨_, rfl⟩
  rw [hC5] at R4
  have HC5 : Hid ((⟨C5.toArray⟩ : ByteArray) = bs ++ s.extract 0 t.toNat) := by show _ = _; rw [← hC5, bytes_put]
  clear hC5
  have hA := allOf r ks n ba C5 w4 R4 hn4 hba
  clear hP R4 b4 B4 hconv
  go_wp2_with fail
  refine hA.mono ?_
  rintro x w5 ⟨a5, c5, rfl, o5, b5⟩
  have hcv := conv_own o5
  rw [HC5.out] at hcv
  replace x1 := x1.later b5
  replace x2 := x2.later b5
  have B6 := B5.trans (b5.mono B5.size)
  clear hA b5 B5 o5
  have y1 := x1.free 1
  have e0 := x1.cell (i := 0) rfl
  have e1 := x1.cell (i := 1) rfl
  have e2 := x1.cell (i := 2) rfl
  have e3 := x1.cell (i := 3) rfl
  have e4 := x1.cell (i := 4) rfl
  have e5 := x1.cell (i := 5) rfl
  have r0 := x2.cell (i := 0) rfl
  have r1 := x2.cell (i := 1) rfl
  have r2 := x2.cell (i := 2) rfl
  have r3 := x2.cell (i := 3) rfl
  have r4 := x2.cell (i := 4) rfl
  have r5 := x2.cell (i := 5) rfl
  have q0 := x2.free 0
  have q1 := x2.free 1
  have q2 := x2.free 2
  have q3 := x2.free 3
  have q4 := x2.free 4
  have q5 := x2.free 5
  go_wp2_with fail
  refine bodyPost_ret (v := .tuple #[.agg #[.int .i64 ba, .string (bs ++ s.extract 0 t.toNat), .int .i64 cp, .int .i64 lm, .bool false, .bool dn], .int .i64 t]) (by rw [Tak.res_cell_tmp rfl]; go_simp; try rfl) rfl ⟨by rw [HW.out]; rfl, ?_⟩
  iterate 7 (refine Below.setCell ?_ (by dsimp only; omega) _)
  exact B6

end Go.Proofs.Ythdkajaodfkgnaa.Giv

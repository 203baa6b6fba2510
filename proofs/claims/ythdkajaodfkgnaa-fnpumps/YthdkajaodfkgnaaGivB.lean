/- Givers (chapter 6): the specification's l6Write and Writes. -/
import Derived.Test.YthdkajaodfkgnaaGivA
import Derived.Test.YthdkajaodfkgnaaWin
import Derived.Test.YthdkajaodfkgnaaTakeY
import Derived.BigQuiet
namespace Go.Proofs.Ythdkajaodfkgnaa.Giv
open Go.RowKit RowG
set_option linter.unusedVariables false
set_option linter.unusedSimpArgs false

/-- How many bytes are taken, and what the giver is then. -/
def fitN (g : Gv) (s : ByteArray) : Int := min (s.size : Int) (min (g.cp - g.bs.size) (1000000000 - (g.ba + g.bs.size)))
def writeG (g : Gv) (s : ByteArray) : Gv × Int := if g.en then (g, 0) else (⟨g.ba, g.bs ++ s.extract 0 (fitN g s).toNat, g.cp, g.lm, g.en, g.dn⟩, fitN g s)
def writesG (g : Gv) (s : ByteArray) : Gv × Int := if g.ok then writeG g s else (zeroG, -1)
theorem fit_in {g : Gv} (h : g.ok = true) (s : ByteArray) : 0 ≤ fitN g s ∧ fitN g s ≤ s.size ∧ g.bs.size + fitN g s ≤ g.cp ∧ g.ba + (g.bs.size + fitN g s) ≤ 1000000000 := by
  obtain ⟨h1, h2, h3, h4, h5, h6, h7⟩ := ok_iff.1 h
  unfold fitN
  omega
theorem ext_size (b : ByteArray) (i j : Nat) (h : j ≤ b.size) : (b.extract i j).size = j - i := by
  rw [ByteArray.size_extract]
  omega
theorem write_ok {g : Gv} (h : g.ok = true) (s : ByteArray) : (writeG g s).1.ok = true := by
  obtain ⟨f1, f2, f3, f4⟩ := fit_in h s
  obtain ⟨h1, h2, h3, h4, h5, h6, h7⟩ := ok_iff.1 h
  unfold writeG
  split
  · exact h
  · rename_i he
    have e : (s.extract 0 (fitN g s).toNat).size = (fitN g s).toNat := by rw [ext_size _ _ _ (by omega)]; omega
    refine ok_iff.2 ⟨h1, h2, ?_, ?_, h5, h6, fun hd => absurd (h7 hd).1 he⟩
    · show ((g.bs ++ s.extract 0 (fitN g s).toNat).size : Int) ≤ g.cp
      rw [ByteArray.size_append, e]; omega
    · show g.ba + ((g.bs ++ s.extract 0 (fitN g s).toNat).size : Int) ≤ 1000000000
      rw [ByteArray.size_append, e]; omega

set_option maxRecDepth 10000 in
set_option maxHeartbeats 4000000 in
theorem l6WriteW {T : TypeId} {pre post : List Value} {ow : Nat} (k : Nat) (g : Gv) (s : ByteArray) (w : World) (hv : Win T pre post ow w k g.c) (hok : g.ok = true) (hs : s.size ≤ 2097152) :
    Calls Try.prog 63 #[.pointer (some ⟨k, ow, none⟩), .string s] w fun x w' => x = .returned (.int .i64 (writeG g s).2) ∧ Win T pre post ow w' k (writeG g s).1.c ∧ Draw.Kept k w w' := by
  have hmix := mix
  obtain ⟨i1, i2, i3, i4, i5, i6, i7⟩ := ok_iff.1 hok
  obtain ⟨f1, f2, f3, f4⟩ := fit_in hok s
  have hE := fun w' => l6End g w' ⟨⟨by omega, by omega⟩, by omega⟩
  have hM1 : ∀ w', Calls Try.prog 40 #[.int .i64 (g.cp - g.bs.size), .int .i64 (1000000000 - (g.ba + g.bs.size))] w' fun e w'' => e = .returned (.int .i64 (min (g.cp - g.bs.size) (1000000000 - (g.ba + g.bs.size)))) ∧ w' = w'' := fun w' => by
    have := Tak.l1Min (g.cp - g.bs.size) (1000000000 - (g.ba + g.bs.size)) w'
    rw [show (if g.cp - g.bs.size < 1000000000 - (g.ba + g.bs.size) then g.cp - g.bs.size else 1000000000 - (g.ba + g.bs.size)) = min (g.cp - g.bs.size) (1000000000 - (g.ba + g.bs.size)) by split <;> omega] at this
    exact this
  have hM2 : ∀ w', Calls Try.prog 40 #[.int .i64 (s.size : Int), .int .i64 (min (g.cp - g.bs.size) (1000000000 - (g.ba + g.bs.size)))] w' fun e w'' => e = .returned (.int .i64 (fitN g s)) ∧ w' = w'' := fun w' => by
    have := Tak.l1Min (s.size : Int) (min (g.cp - g.bs.size) (1000000000 - (g.ba + g.bs.size))) w'
    rw [show (if (s.size : Int) < min (g.cp - g.bs.size) (1000000000 - (g.ba + g.bs.size)) then (s.size : Int) else min (g.cp - g.bs.size) (1000000000 - (g.ba + g.bs.size))) = fitN g s by unfold fitN; split <;> omega] at this
    exact this
  have hW : Hid _ := (show writeG g s = if g.en then (g, 0) else (⟨g.ba, g.bs ++ s.extract 0 (fitN g s).toNat, g.cp, g.lm, g.en, g.dn⟩, fitN g s) from rfl)
  obtain ⟨n, hn⟩ : ∃ n, fitN g s = n := ⟨_, rfl⟩
  obtain ⟨m, hm⟩ : ∃ m, min (g.cp - g.bs.size) (1000000000 - (g.ba + g.bs.size)) = m := ⟨_, rfl⟩
  rw [hn] at hM2 f1 f2 f3 f4 hW
  rw [hm] at hM1 hM2
  clear hn hm hok i7
  obtain ⟨i8, i9⟩ := i1
  obtain ⟨j1, j2⟩ := i2
  obtain ⟨ba, bs, cp, lm, en, dn⟩ := g
  dsimp only [Gv.c, Gv.v] at *
  have HE : Hid _ := hE
  have H1 : Hid _ := hM1
  have H2 : Hid _ := hM2
  clear hE hM1 hM2
  have e0 := hv.cell0 rfl
  have e1 := hv.cell (i := 1) rfl
  have e2 := hv.cell (i := 2) rfl
  have e3 := hv.cell (i := 3) rfl
  have e4 := hv.cell (i := 4) rfl
  have e5 := hv.cell (i := 5) rfl
  have d0 := Draw.Later.cell e0
  have d1 := Draw.Later.cell e1
  have d2 := Draw.Later.cell e2
  have d3 := Draw.Later.cell e3
  have d4 := Draw.Later.cell e4
  have d5 := Draw.Later.cell e5
  go_enter Try.func63, Try.ntmps63
  go_wp2_with fail
  refine Draw.wp_region_later hmix (by kernel_rfl) ?_
  repeat (go_big_quiet_step (first | (go_at_call 43; exact Draw.later_of (HE.out _)) | (go_at_call 40; first | (with_reducible exact Draw.later_same (H1.out _)) | (with_reducible exact Draw.later_same (H2.out _)))))
  refine wpQuiet_nil ?_
  intro wq hw'
  obtain ⟨q9, hq⟩ := hw'
  have hBq := q9.h
  rw [← hq] at hBq
  clear hq q9 d0 d1 d2 d3 d4 d5 e0 e1 e2 e3 e4 e5 HE H1 H2
  have hv2 := hv.later hBq
  have K2 : Draw.Kept k w wq := Draw.Kept.ofBelow hBq (Nat.le_refl _)
  clear hBq hv
  have e1 := hv2.cell (i := 1) rfl
  have e4 := hv2.cell (i := 4) rfl
  have x1 := hv2.free 1
  cases en
  case true =>
    go_wp2_with fail
    go_ret
    rw [hW.out]
    exact ⟨rfl, hv2, K2⟩
  have hcat : ¬ 9223372036854775807 < bs.size + n.toNat := by omega
  go_wp2_with fail
  refine Draw.wp_region_Y (S := (fun w' => w'.cell? ⟨k, ow + 1, none⟩ = some (.string bs))) 11 (by kernel_rfl) ?_ (fun hHeld => ?_)
  focus ((try dsimp only) <;> (first | with_reducible exact hHeld | exact e1))
  refine Draw.wpAnyY_take (i := 0) (v := ?_) rfl (by kernel_rfl) (by kernel_rfl) (by kernel_rfl) (by kernel_rfl) (fun _ _ _ h => h) (Or.inl ⟨by rfl, ?_⟩) (by assumption) ?_
  rotate_left 1
  focus (intro wS hSw; (try dsimp only at hSw); go_simp; first | done | (constructor <;> with_reducible rfl) | with_reducible rfl)
  (try simp only [Act.put, List.getElem_toArray, List.getElem_cons_zero, List.getElem_cons_succ, List.setIfInBounds_toArray, List.set_cons_zero, List.set_cons_succ])
  refine Draw.wpAnyY_take (i := 1) (v := ?_) rfl (by kernel_rfl) (by kernel_rfl) (by kernel_rfl) (by kernel_rfl) (fun _ _ _ h => h) (Or.inl ⟨by rfl, ?_⟩) (by assumption) ?_
  rotate_left 1
  focus (intro wS hSw; (try dsimp only at hSw); go_simp; first | done | (constructor <;> with_reducible rfl) | with_reducible rfl)
  (try simp only [Act.put, List.getElem_toArray, List.getElem_cons_zero, List.getElem_cons_succ, List.setIfInBounds_toArray, List.set_cons_zero, List.set_cons_succ])
  refine Draw.wpAnyY_take (i := 2) (v := ?_) rfl (by kernel_rfl) (by kernel_rfl) (by kernel_rfl) (by kernel_rfl) (fun _ _ _ h => h) (Or.inl ⟨by rfl, ?_⟩) (by assumption) ?_
  rotate_left 1
  focus (intro wS hSw; (try dsimp only at hSw); go_simp; first | done | (constructor <;> with_reducible rfl) | with_reducible rfl)
  (try simp only [Act.put, List.getElem_toArray, List.getElem_cons_zero, List.getElem_cons_succ, List.setIfInBounds_toArray, List.set_cons_zero, List.set_cons_succ])
  refine Draw.wpAnyY_take (i := 3) (v := ?_) rfl (by kernel_rfl) (by kernel_rfl) (by kernel_rfl) (by kernel_rfl) (fun _ _ _ h => h) (Or.inl ⟨by rfl, ?_⟩) (by assumption) ?_
  rotate_left 1
  focus (intro wS hSw; (try dsimp only at hSw); go_simp; first | done | (constructor <;> with_reducible rfl) | with_reducible rfl)
  (try simp only [Act.put, List.getElem_toArray, List.getElem_cons_zero, List.getElem_cons_succ, List.setIfInBounds_toArray, List.set_cons_zero, List.set_cons_succ])
  refine Draw.wpAnyY_take (i := 4) (v := ?_) rfl (by kernel_rfl) (by kernel_rfl) (by kernel_rfl) (by kernel_rfl) (fun _ _ _ h => h) (Or.inl ⟨by rfl, ?_⟩) (by assumption) ?_
  rotate_left 1
  focus (intro wS hSw; (try dsimp only at hSw); go_simp; first | done | (constructor <;> with_reducible rfl) | with_reducible rfl)
  (try simp only [Act.put, List.getElem_toArray, List.getElem_cons_zero, List.getElem_cons_succ, List.setIfInBounds_toArray, List.set_cons_zero, List.set_cons_succ])
  refine Draw.wpAnyY_take (i := 5) (v := ?_) rfl (by kernel_rfl) (by kernel_rfl) (by kernel_rfl) (by kernel_rfl) (fun _ _ _ h => h) (Or.inl ⟨by rfl, ?_⟩) (by assumption) ?_
  rotate_left 1
  focus (intro wS hSw; (try dsimp only at hSw); go_simp; first | done | (constructor <;> with_reducible rfl) | with_reducible rfl)
  (try simp only [Act.put, List.getElem_toArray, List.getElem_cons_zero, List.getElem_cons_succ, List.setIfInBounds_toArray, List.set_cons_zero, List.set_cons_succ])
  refine Draw.wpAnyY_take (i := 6) (v := ?_) rfl (by kernel_rfl) (by kernel_rfl) (by kernel_rfl) (by kernel_rfl) (fun _ _ _ h => h) (Or.inl ⟨by rfl, ?_⟩) (by assumption) ?_
  rotate_left 1
  focus (intro wS hSw; (try dsimp only at hSw); go_simp; first | done | (constructor <;> with_reducible rfl) | with_reducible rfl)
  (try simp only [Act.put, List.getElem_toArray, List.getElem_cons_zero, List.getElem_cons_succ, List.setIfInBounds_toArray, List.set_cons_zero, List.set_cons_succ])
  refine Draw.wpAnyY_take (i := 7) (v := ?_) rfl (by kernel_rfl) (by kernel_rfl) (by kernel_rfl) (by kernel_rfl) (fun _ _ _ h => h) (Or.inl ⟨by rfl, ?_⟩) (by assumption) ?_
  rotate_left 1
  focus (intro wS hSw; (try dsimp only at hSw); go_simp; first | done | (constructor <;> with_reducible rfl) | with_reducible rfl)
  (try simp only [Act.put, List.getElem_toArray, List.getElem_cons_zero, List.getElem_cons_succ, List.setIfInBounds_toArray, List.set_cons_zero, List.set_cons_succ])
  refine Draw.wpAnyY_take (i := 8) (v := ?_) rfl (by kernel_rfl) (by kernel_rfl) (by kernel_rfl) (by kernel_rfl) (fun _ _ _ h => h) (Or.inl ⟨by rfl, ?_⟩) (by assumption) ?_
  rotate_left 1
  focus (intro wS hSw; (try dsimp only at hSw); go_simp; first | done | (constructor <;> with_reducible rfl) | with_reducible rfl)
  (try simp only [Act.put, List.getElem_toArray, List.getElem_cons_zero, List.getElem_cons_succ, List.setIfInBounds_toArray, List.set_cons_zero, List.set_cons_succ])
  refine Draw.wpAnyY_takeT (i := 9) (v := ?_) rfl (by kernel_rfl) (by kernel_rfl) (by kernel_rfl) (fun _ _ _ h => h) (Or.inl ⟨by rfl, ?_⟩) ?_
  rotate_left 1
  focus (intro wS hSw; (try dsimp only at hSw); go_simp; first | done | (constructor <;> with_reducible rfl) | with_reducible rfl)
  (try simp only [Act.put, List.getElem_toArray, List.getElem_cons_zero, List.getElem_cons_succ, List.setIfInBounds_toArray, List.set_cons_zero, List.set_cons_succ])
  refine Draw.wpAnyY_takeT (i := 10) (v := ?_) rfl (by kernel_rfl) (by kernel_rfl) (by kernel_rfl) (fun _ _ _ h => h) (Or.inl ⟨by rfl, ?_⟩) ?_
  rotate_left 1
  focus (intro wS hSw; (try dsimp only at hSw); go_simp; first | done | (constructor <;> with_reducible rfl) | with_reducible rfl)
  (try simp only [Act.put, List.getElem_toArray, List.getElem_cons_zero, List.getElem_cons_succ, List.setIfInBounds_toArray, List.set_cons_zero, List.set_cons_succ])
  refine Draw.wpAnyY_ready (rs := [11]) (by kernel_rfl) (by simp) ?_
  refine Draw.AllReadyY.cons rfl (fun K hK => ?_) Draw.AllReadyY.nil
  go_simp
  refine hK.out _ _ (fun h => absurd rfl h) (fun hHeld2 => ?_)
  clear hK K hHeld hHeld2
  (try simp only [Act.put, List.getElem_toArray, List.getElem_cons_zero, List.getElem_cons_succ, List.setIfInBounds_toArray, List.set_cons_zero, List.set_cons_succ])
  refine Draw.wpAnyY_done (by kernel_rfl) ?_ _
  go_wp2_with fail
  go_ret
  rw [hW.out]
  exact ⟨rfl, hv2.drew.set 1 _, (K2.drew).setCell (.inl rfl) _⟩

theorem l6Write (k : Nat) (g : Gv) (s : ByteArray) (w : World) (hv : Var 28 w k g.c) (hok : g.ok = true) (hs : s.size ≤ 2097152) :
    Calls Try.prog 63 #[.pointer (some ⟨k, 0, none⟩), .string s] w fun x w' => x = .returned (.int .i64 (writeG g s).2) ∧ Var 28 w' k (writeG g s).1.c ∧ Draw.Kept k w w' :=
  (l6WriteW k g s w hv.win hok hs).mono fun _ _ ⟨h1, h2, h3⟩ => ⟨h1, h2.whole, h3⟩

end Go.Proofs.Ythdkajaodfkgnaa.Giv

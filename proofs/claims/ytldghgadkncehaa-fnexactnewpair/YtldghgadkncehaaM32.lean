/- Contracts of this seat's functions, and their mathematics (LawLn). -/
import Derived.Test.YtldghgadkncehaaM28
import Derived.Test.YtldghgadkncehaaM30
import Derived.Test.YtldghgadkncehaaM31
set_option linter.unusedVariables false
set_option linter.unusedSimpArgs false
set_option maxRecDepth 10000
set_option maxHeartbeats 4000000
namespace Go.Proofs.Ytldghgadkncehaa.Lin
open Go.RowKit RowG
def dig : Nat → Int → ByteArray → ByteArray
  | 0, _, o => o
  | f + 1, k, o => if 0 < k then dig f (k / 10) ((⟨#[UInt8.ofNat (48 + k % 10).toNat]⟩ : ByteArray) ++ o) else o
def mtx (k : Int) : ByteArray := (⟨#[109]⟩ : ByteArray) ++ dig k.toNat k ⟨#[]⟩
theorem digit {k : Int} (h : 0 < k) : ((UInt8.ofNat (48 + k % 10).toNat).toNat : Int) = 48 + k % 10 := by
  have h1 : 0 ≤ k % 10 := Int.emod_nonneg _ (by decide)
  have h2 : k % 10 < 10 := Int.emod_lt_of_pos _ (by decide)
  rw [UInt8.toNat_ofNat']
  omega
theorem markText (k : Int) (h0 : 0 < k) (h1 : k ≤ 100000) (w : World) : Calls Try.prog 83 #[.int .i64 k] w fun x w' => x = .returned (.string (mtx k)) ∧ Below w.heap.size w w' := by
  have hmix := Roa.mix
  go_enter Try.func83, Try.ntmps83
  go_wp2_with fail
  go_loopw [0, 3] (fun kv ov wr => ∃ (m : Int) (f : Nat) (o : ByteArray), kv = .int .i64 m ∧ ov = .string o ∧ 0 ≤ m ∧ m.toNat ≤ f ∧ o.size + f ≤ 100000 ∧ Hid (dig f m o = dig k.toNat k ⟨#[]⟩) ∧ Below w.heap.size w wr) (fun kv _ _ => (intOf kv).toNat)
  case atStart => exact ⟨k, k.toNat, ⟨#[]⟩, rfl, rfl, by omega, by omega, by show 0 + k.toNat ≤ 100000; omega, rfl, Below.refl _ _⟩
  case round =>
    obtain ⟨m, f, o, rfl, rfl, m0, hf, hs, hd, b1⟩ := hrel
    by_cases hm : 0 < m
    · obtain ⟨f, rfl⟩ : ∃ f', f = f' + 1 := ⟨f - 1, by omega⟩
      have hr : Draw.Row (wr.alloc (.cells #[.int .u8 (48 + m % 10)] 5)) wr.heap.size [UInt8.ofNat (48 + m % 10).toNat] := by
        intro j hj
        have hj0 : j = 0 := by simpa using hj
        subst hj0
        have v : Var 5 (wr.alloc (.cells #[.int .u8 (48 + m % 10)] 5)) wr.heap.size [.int .u8 (48 + m % 10)] := Var.new wr _
        refine ⟨?_, v.free 0⟩
        rw [v.cell (i := 0) rfl]
        simp only [List.getElem_cons_zero]
        rw [digit hm]
      have hconv := Draw.text_byteRow hr 1 1 rfl
      have b2 := b1.alloc b1.size (.cells #[.int .u8 (48 + m % 10)] 5)
      have n0 : (0 : Int) ≤ m % 10 := Int.emod_nonneg _ (by decide)
      have n1 : m % 10 < 10 := Int.emod_lt_of_pos _ (by decide)
      have z : ((⟨#[UInt8.ofNat (48 + m % 10).toNat]⟩ : ByteArray) ++ o).size = 1 + o.size := by rw [ByteArray.size_append]; rfl
      go_wp2_with fail
      go_roundw
      case rel => exact ⟨m / 10, f, _, rfl, rfl, by omega, by omega, by rw [z]; omega, by show _ = _; rw [← hd.out]; simp only [dig, if_pos hm], b2⟩
      case measure => simp [intOf]; omega
    · obtain rfl : m = 0 := by omega
      have e : dig f 0 o = o := by cases f <;> simp [dig]
      have hz : o = dig k.toNat k ⟨#[]⟩ := by rw [← hd.out, e]
      have hz' : Hid _ := hz
      clear hz hd e
      have z : ((⟨#[109]⟩ : ByteArray) ++ o).size = 1 + o.size := by rw [ByteArray.size_append]; rfl
      go_wp2_with fail
      go_ret
      exact ⟨by rw [hz'.out]; rfl, b1⟩
/-- A hop as any thirteen cells. -/
def C13 := { cs : List Value // cs.length = 13 ∧ ∀ u ∈ cs, u.oneCell' = true }
def A13 : El C13 where
  enc x := x.1
  size := 13
  len x := x.2.1
  one x := x.2.2
  pos := by decide
theorem typ13 : Typ Try.prog 34 85 A13 144 := ⟨Try.underlying34, by
  obtain ⟨i, hi, h0, h1, h2⟩ := info_parts infoHop0
  exact ⟨i, _, hi, h0, h1, h2, rfl⟩⟩
def toA (x : Int × Int) : C13 := ⟨Hop.hopC x.1 x.2 (-1), rfl, H0one _ _ _⟩
theorem vals_toA (l : List (Int × Int)) : A13.vals (l.map toA) = H0.vals l := by
  induction l with
  | nil => rfl
  | cons x l ih => rw [List.map_cons, El.vals_cons, El.vals_cons, ih]; rfl
theorem own_toA {w : World} {B : Nat} {a : Option Addr} {c : Nat} {l : List (Int × Int)} (h : H0.Own 85 w B a c l) : A13.Own 85 w B a c (l.map toA) := by
  unfold El.Own at h ⊢
  rw [vals_toA, List.length_map]
  exact h
def mkd (k : Int) : C13 := ⟨[.int .i64 k, .string (mtx (k + 1)), .int .i64 (k + 1 + 1), .int .i64 (k + 1 + 1 + 1), .bool ((k + 1 + 1 + 1 + 1) % 3 == 0), .bool ((k + 1 + 1 + 1 + 1 + 1) % 3 == 0), .int .i64 (k + 1 + 1 + 1 + 1 + 1 + 1), .string (mtx (k + 1 + 1 + 1 + 1 + 1 + 1 + 1)), .slice none 0 0, .int .i64 (k + 1 + 1 + 1 + 1 + 1 + 1 + 1 + 1), .int .i64 (k + 1 + 1 + 1 + 1 + 1 + 1 + 1 + 1 + 1), .bool ((k + 1 + 1 + 1 + 1 + 1 + 1 + 1 + 1 + 1 + 1) % 3 == 0), .slice none 0 0], rfl, by
  intro u hu
  simp only [List.mem_cons, List.not_mem_nil, or_false] at hu
  rcases hu with rfl | rfl | rfl | rfl | rfl | rfl | rfl | rfl | rfl | rfl | rfl | rfl | rfl <;> rfl⟩
def mks (q : Int) (n : Nat) : List C13 := (List.range n).map fun i : Nat => mkd (q + 11 * (i : Int))
theorem mks_len (q : Int) (n : Nat) : (mks q n).length = n := by simp [mks]
theorem mks_step (q : Int) (n : Nat) : mks q (n + 1) = mks q n ++ [mkd (q + 11 * (n : Int))] := by simp [mks, List.range_succ]
theorem eqHopS0 (a a' : Option Addr) (c c' : Nat) (l : List (Int × Int)) (w : World) (h : H0.Lies w a l) (h' : H0.Lies w a' l) (hl : l.length ≤ 1000) :
    Calls Try.prog 56 #[.slice a l.length c, .slice a' l.length c'] w fun x w' => x = .returned (.bool true) ∧ Below w.heap.size w w' := by
  have hmix := Roa.mix
  go_enter Try.func56, Try.ntmps56
  go_wp2_with fail
  go_loopw [5] (fun iv wr => ∃ k : Nat, k ≤ l.length ∧ iv = .int .i64 k ∧ Below w.heap.size w wr) (fun iv _ => l.length - (intOf iv).toNat)
  case atStart => exact ⟨0, by omega, rfl, Below.refl _ _⟩
  case round =>
    obtain ⟨k, hk, rfl, b1⟩ := hrel
    by_cases hkl : k < l.length
    · have i0 : (k : Int) < (l.length : Int) := by omega
      have i1 : (0 : Int) ≤ (k : Int) := by omega
      have h1 := h.later b1
      have h2 := h'.later b1
      obtain ⟨b, off, rfl⟩ : ∃ b off, a = some ⟨b, off, none⟩ := by
        rcases h1 with hs | ⟨b, off, rfl, _⟩
        · simp [hs] at hkl
        · exact ⟨b, off, rfl⟩
      obtain ⟨b', off', rfl⟩ : ∃ b off, a' = some ⟨b, off, none⟩ := by
        rcases h2 with hs | ⟨b, off, rfl, _⟩
        · simp [hs] at hkl
        · exact ⟨b, off, rfl⟩
      obtain ⟨y, hx⟩ : ∃ y, l[k]? = some y := ⟨l[k], List.getElem?_eq_getElem hkl⟩
      go_wp2_with fail
      refine RegJ.wp_region_J (W := fun d wr => H0.Lies wr (some ⟨b, off, none⟩) l ∧ H0.Lies wr (some ⟨b', off', none⟩) l ∧ Below w.heap.size w wr) (RegJ.Tell (0) [.eq (.slice (some ⟨b, off, none⟩) l.length c), .eq (.int .i64 (k : Int)), .eq (.pointer (some ⟨b, off + k * 13, none⟩)), .eq (Hop.hopV y.1 y.2 (-1)), .eq (.slice (some ⟨b', off', none⟩) l.length c'), .eq (.int .i64 (k : Int)), .eq (.pointer (some ⟨b', off' + k * 13, none⟩)), .eq (Hop.hopV y.1 y.2 (-1)), .eq (.bool true), .eq (.bool false)]) [some 17, some 18, some 19, some 20, some 21, some 22, some 23, some 24, some 25, some 26] (F := ?_) (is := [0, 1, 2, 3, 4, 5, 6, 7, 8, 9]) hmix (by kernel_rfl) (by kernel_rfl) (by kernel_rfl) (by kernel_rfl) (fun x => ?_) (⟨h1.drew, h2.drew, b1.drew⟩) ?_ (fun dR xR wR hWR hdR hJR => ?_)
      rotate_left 1
      focus (simp only [RegJ.lay, Act.put, Nat.reduceAdd, Nat.zero_add, List.getElem_toArray, List.getElem_cons_zero, List.getElem_cons_succ, List.setIfInBounds_toArray, List.set_cons_zero, List.set_cons_succ]; rfl)
      focus
        refine RegJ.Steps.cons (RegJ.StepAt.mk rfl (fun d x w1 hW1 hJ1 hx1 K hK => ?_)) (RegJ.Steps.cons (RegJ.StepAt.mk rfl (fun d x w1 hW1 hJ1 hx1 K hK => ?_)) (RegJ.Steps.cons (RegJ.StepAt.mk rfl (fun d x w1 hW1 hJ1 hx1 K hK => ?_)) (RegJ.Steps.cons (RegJ.StepAt.mk rfl (fun d x w1 hW1 hJ1 hx1 K hK => ?_)) (RegJ.Steps.cons (RegJ.StepAt.mk rfl (fun d x w1 hW1 hJ1 hx1 K hK => ?_)) (RegJ.Steps.cons (RegJ.StepAt.mk rfl (fun d x w1 hW1 hJ1 hx1 K hK => ?_)) (RegJ.Steps.cons (RegJ.StepAt.mk rfl (fun d x w1 hW1 hJ1 hx1 K hK => ?_)) (RegJ.Steps.cons (RegJ.StepAt.mk rfl (fun d x w1 hW1 hJ1 hx1 K hK => ?_)) (RegJ.Steps.cons (RegJ.StepAt.mk rfl (fun d x w1 hW1 hJ1 hx1 K hK => ?_)) (RegJ.Steps.cons (RegJ.StepAt.mk rfl (fun d x w1 hW1 hJ1 hx1 K hK => ?_)) (RegJ.Steps.nil))))))))))
        focus (simp only [List.getElem_toArray, List.getElem_cons_succ, List.getElem_cons_zero] at hK; go_simp; exact hK.out _ _ hW1 RegJ.Tell.same rfl)
        focus (simp only [List.getElem_toArray, List.getElem_cons_succ, List.getElem_cons_zero] at hK; go_simp; exact hK.out _ _ hW1 RegJ.Tell.same rfl)
        focus (simp only [List.getElem_toArray, List.getElem_cons_succ, List.getElem_cons_zero] at hK; have j0 : x 0 = _ := (hJ1.out 0 (by kernel_rfl)); rw [j0] at hK; have j1 : x 1 = _ := (hJ1.out 1 (by kernel_rfl)); rw [j1] at hK; go_simp; exact hK.out _ _ hW1 RegJ.Tell.same rfl)
        focus (simp only [List.getElem_toArray, List.getElem_cons_succ, List.getElem_cons_zero] at hK; have j2 : x 2 = _ := (hJ1.out 2 (by kernel_rfl)); exact step_load_cells (by rfl) _ (by rfl) (by exact j2) (vs := Hop.hopC y.1 y.2 (-1)) infoHop1 structHop (El.Lies.cells hW1.1 hx) (hK.out _ _ hW1 RegJ.Tell.same rfl))
        focus (simp only [List.getElem_toArray, List.getElem_cons_succ, List.getElem_cons_zero] at hK; go_simp; exact hK.out _ _ hW1 RegJ.Tell.same rfl)
        focus (simp only [List.getElem_toArray, List.getElem_cons_succ, List.getElem_cons_zero] at hK; go_simp; exact hK.out _ _ hW1 RegJ.Tell.same rfl)
        focus (simp only [List.getElem_toArray, List.getElem_cons_succ, List.getElem_cons_zero] at hK; have j4 : x 4 = _ := (hJ1.out 4 (by kernel_rfl)); rw [j4] at hK; have j5 : x 5 = _ := (hJ1.out 5 (by kernel_rfl)); rw [j5] at hK; go_simp; exact hK.out _ _ hW1 RegJ.Tell.same rfl)
        focus (simp only [List.getElem_toArray, List.getElem_cons_succ, List.getElem_cons_zero] at hK; have j6 : x 6 = _ := (hJ1.out 6 (by kernel_rfl)); exact step_load_cells (by rfl) _ (by rfl) (by exact j6) (vs := Hop.hopC y.1 y.2 (-1)) infoHop1 structHop (El.Lies.cells hW1.2.1 hx) (hK.out _ _ hW1 RegJ.Tell.same rfl))
        focus (simp only [List.getElem_toArray, List.getElem_cons_succ, List.getElem_cons_zero] at hK; obtain ⟨q1, q2, q3⟩ := id hW1; have j3 : x 3 = _ := (hJ1.out 3 (by kernel_rfl)); rw [j3] at hK; have j7 : x 7 = _ := (hJ1.out 7 (by kernel_rfl)); rw [j7] at hK; go_simp; refine (Hop.eqHop0 _ _ _ _).mono ?_; rintro e wa ⟨rfl, ba⟩; go_simp; exact hK.out _ _ ⟨q1.later ba, q2.later ba, q3.trans (ba.mono q3.size)⟩ (RegJ.Tell.keepLe (Draw.Kept.ofBelow (c := 0) ba (Nat.le_refl _)) (by omega)) rfl)
        focus (simp only [List.getElem_toArray, List.getElem_cons_succ, List.getElem_cons_zero] at hK; have j8 : x 8 = _ := (hJ1.out 8 (by kernel_rfl)); rw [j8] at hK; go_simp; exact hK.out _ _ hW1 RegJ.Tell.same rfl)
      have j9 : xR 9 = .bool false := hJR 9 (by simp)
      rw [j9]
      obtain ⟨_, _, b2⟩ := hWR
      clear hJR hdR
      go_wp2_with fail
      go_roundw
      case rel => exact ⟨k + 1, by omega, by simp, b2⟩
      case measure => simp [intOf]; omega
    · have i0 : ¬ (k : Int) < (l.length : Int) := by omega
      go_wp2_with fail
      go_ret
      exact ⟨rfl, b1⟩
theorem markHopS0 (B g c : Nat) (l : List (Int × Int)) (q : Int) (w : World) (h : H0.Own 85 w B (some ⟨g, 0, none⟩) c l) (hl : l.length ≤ 100) (q0 : 0 < q) (q1 : q ≤ 1000) :
    Calls Try.prog 62 #[.slice (some ⟨g, 0, none⟩) l.length c, .int .i64 q] w fun x w' => x = .returned (.int .i64 (q + 11 * (l.length : Int))) ∧ A13.Own 85 w' B (some ⟨g, 0, none⟩) c (mks q l.length) ∧ Draw.Kept g w w' := by
  have hA := own_toA h
  go_enter Try.func62, Try.ntmps62
  go_wp2_with fail
  go_loopw [1, 5] (fun kv iv wr => ∃ k : Nat, k ≤ l.length ∧ iv = .int .i64 k ∧ kv = .int .i64 (q + 11 * (k : Int)) ∧ A13.Own 85 wr B (some ⟨g, 0, none⟩) c (mks q k ++ (l.drop k).map toA) ∧ Draw.Kept g w wr) (fun _ iv _ => l.length - (intOf iv).toNat)
  case atStart => exact ⟨0, by omega, rfl, by simp, hA, Draw.Kept.refl _ _⟩
  case round =>
    clear hA
    obtain ⟨k, hk, rfl, rfl, o1, K1⟩ := hrel
    by_cases hkl : k < l.length
    · have i0 : (k : Int) < (l.length : Int) := by omega
      have i1 : (0 : Int) ≤ (k : Int) := by omega
      obtain ⟨y, hy⟩ : ∃ y, l[k]? = some y := ⟨l[k], List.getElem?_eq_getElem hkl⟩
      have hx : (mks q k ++ (l.drop k).map toA)[k]? = some (toA y) := by
        rw [List.getElem?_append_right (by rw [mks_len]; omega), mks_len, Nat.sub_self, List.getElem?_map, List.getElem?_drop, Nat.add_zero, hy]
        rfl
      obtain ⟨pre, post, v, back⟩ := o1.win hx
      have hset : (mks q k ++ (l.drop k).map toA).set k (mkd (q + 11 * (k : Int))) = mks q (k + 1) ++ (l.drop (k + 1)).map toA := by
        rw [List.set_append_right _ _ (by rw [mks_len]; omega), mks_len, Nat.sub_self, mks_step, List.append_assoc]
        congr 1
        rw [List.drop_eq_getElem_cons hkl, List.map_cons, List.set_cons_zero]
        rfl
      obtain ⟨Q, hQ⟩ : ∃ Q, q + 11 * (k : Int) = Q := ⟨_, rfl⟩
      have Q0 : 0 < Q := by omega
      have Q1 : Q ≤ 3000 := by omega
      replace back := fun w' (hv : Win 85 pre post (k * 13) w' g (mkd Q).1) => back w' (mkd Q) hv
      rw [← hQ, hset, hQ] at back
      have HB : Hid _ := back
      have v : Win 85 pre post (k * 13) wr g (Hop.hopC y.1 y.2 (-1)) := v
      have hsz : g < wr.heap.size := v.lt
      rw [hQ]
      have HQ : Hid _ := hQ
      clear hQ back hset hx o1 hy
      have a0 := v.cell0 rfl
      have f0 := v.free0
      go_wp2_with fail
      refine (markText (Q + 1) (by omega) (by omega) _).mono ?_
      rintro e w2 ⟨rfl, b2⟩
      have v2 := (v.set0 (.int .i64 Q)).later b2
      have K2 := (K1.setCell (p := ⟨g, k * 13, none⟩) (.inl rfl) (.int .i64 Q)).trans (Draw.Kept.ofBelow b2 (Nat.le_refl _))
      clear v K1 b2 a0 f0 hsz
      simp only [Hop.hopC, List.set_cons_zero] at v2
      have a1 := v2.cell (i := 1) rfl
      have a2 := v2.cell (i := 2) rfl
      have a3 := v2.cell (i := 3) rfl
      have a4 := v2.cell (i := 4) rfl
      have a5 := v2.cell (i := 5) rfl
      have a6 := v2.cell (i := 6) rfl
      have f1 := v2.free 1
      have f2 := v2.free 2
      have f3 := v2.free 3
      have f4 := v2.free 4
      have f5 := v2.free 5
      have f6 := v2.free 6
      go_wp2_with fail
      refine (markText _ (by omega) (by omega) _).mono ?_
      rintro e w3 ⟨rfl, b3⟩
      have v3 := ((((((v2.set 1 (.string (mtx (Q + 1)))).set 2 (.int .i64 (Q + 1 + 1))).set 3 (.int .i64 (Q + 1 + 1 + 1))).set 4 (.bool ((Q + 1 + 1 + 1 + 1) % 3 == 0))).set 5 (.bool ((Q + 1 + 1 + 1 + 1 + 1) % 3 == 0))).set 6 (.int .i64 (Q + 1 + 1 + 1 + 1 + 1 + 1))).later b3
      have K3 := (((((((K2.setCell (p := ⟨g, k * 13 + 1, none⟩) (.inl rfl) (.string (mtx (Q + 1)))).setCell (p := ⟨g, k * 13 + 2, none⟩) (.inl rfl) (.int .i64 (Q + 1 + 1))).setCell (p := ⟨g, k * 13 + 3, none⟩) (.inl rfl) (.int .i64 (Q + 1 + 1 + 1))).setCell (p := ⟨g, k * 13 + 4, none⟩) (.inl rfl) (.bool ((Q + 1 + 1 + 1 + 1) % 3 == 0))).setCell (p := ⟨g, k * 13 + 5, none⟩) (.inl rfl) (.bool ((Q + 1 + 1 + 1 + 1 + 1) % 3 == 0))).setCell (p := ⟨g, k * 13 + 6, none⟩) (.inl rfl) (.int .i64 (Q + 1 + 1 + 1 + 1 + 1 + 1)))).trans (Draw.Kept.ofBelow b3 (Nat.le_refl _))
      clear v2 K2 b3 a1 a2 a3 a4 a5 a6 f1 f2 f3 f4 f5 f6
      simp only [List.set_cons_succ, List.set_cons_zero] at v3
      have a7 := v3.cell (i := 7) rfl
      have f7 := v3.free 7
      have a8 := v3.cell (i := 8) rfl
      go_wp2_with fail
      refine (Tak.markPartS0 _ _).mono ?_
      rintro e w4 ⟨rfl, rfl⟩
      have v4 : Win 85 pre post (k * 13) (w3.setCell ⟨g, k * 13 + 6 + 1, none⟩ (.string (mtx (Q + 1 + 1 + 1 + 1 + 1 + 1 + 1)))) g _ := v3.set 7 (.string (mtx (Q + 1 + 1 + 1 + 1 + 1 + 1 + 1)))
      have K4 : Draw.Kept g w (w3.setCell ⟨g, k * 13 + 6 + 1, none⟩ (.string (mtx (Q + 1 + 1 + 1 + 1 + 1 + 1 + 1)))) := K3.setCell (.inl rfl) _
      clear v3 K3 a7 a8 f7
      generalize w3.setCell ⟨g, k * 13 + 6 + 1, none⟩ (.string (mtx (Q + 1 + 1 + 1 + 1 + 1 + 1 + 1))) = w4 at *
      simp only [List.set_cons_succ, List.set_cons_zero] at v4
      have a9 := v4.cell (i := 9) rfl
      have f9 := v4.free 9
      have a10 := v4.cell (i := 10) rfl
      have f10 := v4.free 10
      have a11 := v4.cell (i := 11) rfl
      have f11 := v4.free 11
      have a12 := v4.cell (i := 12) rfl
      go_wp2_with fail
      refine (Hop.markLetterS0 _ _).mono ?_
      rintro e w5 ⟨rfl, rfl⟩
      have v5 : Win 85 pre post (k * 13) (((w4.setCell ⟨g, k * 13 + 6 + 3, none⟩ (.int .i64 (Q + 1 + 1 + 1 + 1 + 1 + 1 + 1 + 1))).setCell ⟨g, k * 13 + 6 + 4, none⟩ (.int .i64 (Q + 1 + 1 + 1 + 1 + 1 + 1 + 1 + 1 + 1))).setCell ⟨g, k * 13 + 6 + 5, none⟩ (.bool ((Q + 1 + 1 + 1 + 1 + 1 + 1 + 1 + 1 + 1 + 1) % 3 == 0))) g _ := ((v4.set 9 (.int .i64 (Q + 1 + 1 + 1 + 1 + 1 + 1 + 1 + 1))).set 10 (.int .i64 (Q + 1 + 1 + 1 + 1 + 1 + 1 + 1 + 1 + 1))).set 11 (.bool ((Q + 1 + 1 + 1 + 1 + 1 + 1 + 1 + 1 + 1 + 1) % 3 == 0))
      have K5 : Draw.Kept g w (((w4.setCell ⟨g, k * 13 + 6 + 3, none⟩ (.int .i64 (Q + 1 + 1 + 1 + 1 + 1 + 1 + 1 + 1))).setCell ⟨g, k * 13 + 6 + 4, none⟩ (.int .i64 (Q + 1 + 1 + 1 + 1 + 1 + 1 + 1 + 1 + 1))).setCell ⟨g, k * 13 + 6 + 5, none⟩ (.bool ((Q + 1 + 1 + 1 + 1 + 1 + 1 + 1 + 1 + 1 + 1) % 3 == 0))) := ((K4.setCell (.inl rfl) _).setCell (.inl rfl) _).setCell (.inl rfl) _
      clear v4 K4 a9 a10 a11 a12 f9 f10 f11
      simp only [List.set_cons_succ, List.set_cons_zero] at v5
      have o5 := HB.out _ v5
      clear v5 HB
      have hq := HQ.out
      go_wp2_with fail
      go_roundw
      case rel => exact ⟨k + 1, by omega, by simp, by rw [← hq]; go_num, o5, K5⟩
      case measure => simp [intOf]; omega
    · obtain rfl : k = l.length := by omega
      rw [List.drop_length, List.map_nil, List.append_nil] at o1
      go_wp2_with fail
      go_ret
      exact ⟨rfl, o1, K1⟩
theorem heldHopS0 (a : Option Addr) (c n : Nat) (q : Int) (w : World) (h : A13.Lies w a (mks q n)) (hl : n ≤ 100) (q0 : 0 < q) (q1 : q ≤ 1000) :
    Calls Try.prog 64 #[.slice a n c, .int .i64 q] w fun x w' => x = .returned (.int .i64 (q + 11 * (n : Int))) ∧ Below w.heap.size w w' := by
  have hmix := Roa.mix
  go_enter Try.func64, Try.ntmps64
  go_wp2_with fail
  go_loopw [1, 5] (fun kv iv wr => ∃ k : Nat, k ≤ n ∧ iv = .int .i64 k ∧ kv = .int .i64 (q + 11 * (k : Int)) ∧ Below w.heap.size w wr) (fun _ iv _ => n - (intOf iv).toNat)
  case atStart => exact ⟨0, by omega, rfl, by simp, Below.refl _ _⟩
  case round =>
    obtain ⟨k, hk, rfl, rfl, b1⟩ := hrel
    by_cases hkl : k < n
    · have i0 : (k : Int) < (n : Int) := by omega
      have i1 : (0 : Int) ≤ (k : Int) := by omega
      have h1 := h.later b1
      obtain ⟨b, off, rfl⟩ : ∃ b off, a = some ⟨b, off, none⟩ := by
        rcases h1 with hs | ⟨b, off, rfl, _⟩
        · have := congrArg List.length hs
          rw [mks_len] at this
          simp at this
          omega
        · exact ⟨b, off, rfl⟩
      have hx : (mks q n)[k]? = some (mkd (q + 11 * (k : Int))) := by simp [mks, hkl]
      obtain ⟨Q, hQ⟩ : ∃ Q, q + 11 * (k : Int) = Q := ⟨_, rfl⟩
      have Q0 : 0 < Q := by omega
      have Q1 : Q ≤ 3000 := by omega
      rw [hQ] at hx ⊢
      have HQ : Hid _ := hQ
      clear hQ
      have C1 : ∀ j v, (mkd Q).1[j]? = some v → wr.cell? ⟨b, off + k * 13 + j, none⟩ = some v := El.Lies.cells h1 hx
      have a0 := C1 0 _ rfl
      rw [Nat.add_zero] at a0
      go_wp2_with fail
      refine RegJ.wp_region_J (W := fun d wr => A13.Lies wr (some ⟨b, off, none⟩) (mks q n) ∧ Below w.heap.size w wr) (RegJ.Tell (0) [.eq (.slice (some ⟨b, off, none⟩) n c), .eq (.int .i64 (k : Int)), .eq (.pointer (some ⟨b, off + k * 13, none⟩)), .eq (.pointer (some ⟨b, off + k * 13, none⟩)), .eq (.pointer (some ⟨b, off + k * 13 + 1, none⟩)), .eq (.string (mtx (Q + 1))), .eq (.int .i64 (Q + 1)), .eq (.string (mtx (Q + 1))), .eq (.bool false)]) [some 22, some 23, some 24, some 25, some 26, some 27, some 28, some 29, some 30] (F := ?_) (is := [0, 1, 2, 3, 4, 5, 6, 7, 8]) hmix (by kernel_rfl) (by kernel_rfl) (by kernel_rfl) (by kernel_rfl) (fun x => ?_) (⟨h1.drew, b1.drew⟩) ?_ (fun dR xR wR hWR hdR hJR => ?_)
      rotate_left 1
      focus (simp only [RegJ.lay, Act.put, Nat.reduceAdd, Nat.zero_add, List.getElem_toArray, List.getElem_cons_zero, List.getElem_cons_succ, List.setIfInBounds_toArray, List.set_cons_zero, List.set_cons_succ]; rfl)
      focus
        refine RegJ.Steps.cons (RegJ.StepAt.mk rfl (fun d x w1 hW1 hJ1 hx1 K hK => ?_)) (RegJ.Steps.cons (RegJ.StepAt.mk rfl (fun d x w1 hW1 hJ1 hx1 K hK => ?_)) (RegJ.Steps.cons (RegJ.StepAt.mk rfl (fun d x w1 hW1 hJ1 hx1 K hK => ?_)) (RegJ.Steps.cons (RegJ.StepAt.mk rfl (fun d x w1 hW1 hJ1 hx1 K hK => ?_)) (RegJ.Steps.cons (RegJ.StepAt.mk rfl (fun d x w1 hW1 hJ1 hx1 K hK => ?_)) (RegJ.Steps.cons (RegJ.StepAt.mk rfl (fun d x w1 hW1 hJ1 hx1 K hK => ?_)) (RegJ.Steps.cons (RegJ.StepAt.mk rfl (fun d x w1 hW1 hJ1 hx1 K hK => ?_)) (RegJ.Steps.cons (RegJ.StepAt.mk rfl (fun d x w1 hW1 hJ1 hx1 K hK => ?_)) (RegJ.Steps.cons (RegJ.StepAt.mk rfl (fun d x w1 hW1 hJ1 hx1 K hK => ?_)) (RegJ.Steps.nil)))))))))
        focus (simp only [List.getElem_toArray, List.getElem_cons_succ, List.getElem_cons_zero] at hK; go_simp; exact hK.out _ _ hW1 RegJ.Tell.same rfl)
        focus (simp only [List.getElem_toArray, List.getElem_cons_succ, List.getElem_cons_zero] at hK; go_simp; exact hK.out _ _ hW1 RegJ.Tell.same rfl)
        focus (simp only [List.getElem_toArray, List.getElem_cons_succ, List.getElem_cons_zero] at hK; have j0 : x 0 = _ := (hJ1.out 0 (by kernel_rfl)); rw [j0] at hK; have j1 : x 1 = _ := (hJ1.out 1 (by kernel_rfl)); rw [j1] at hK; go_simp; exact hK.out _ _ hW1 RegJ.Tell.same rfl)
        focus (simp only [List.getElem_toArray, List.getElem_cons_succ, List.getElem_cons_zero] at hK; have j2 : x 2 = _ := (hJ1.out 2 (by kernel_rfl)); rw [j2] at hK; go_simp; exact hK.out _ _ hW1 RegJ.Tell.same rfl)
        focus (simp only [List.getElem_toArray, List.getElem_cons_succ, List.getElem_cons_zero] at hK; have j3 : x 3 = _ := (hJ1.out 3 (by kernel_rfl)); rw [j3] at hK; go_simp; exact hK.out _ _ hW1 RegJ.Tell.same rfl)
        focus (simp only [List.getElem_toArray, List.getElem_cons_succ, List.getElem_cons_zero] at hK; have j4 : x 4 = _ := (hJ1.out 4 (by kernel_rfl)); rw [j4] at hK; have q0 : w1.cell? ⟨b, off + k * 13 + 1, none⟩ = _ := El.Lies.cells hW1.1 hx 1 _ rfl; go_simp; exact hK.out _ _ hW1 RegJ.Tell.same rfl)
        focus (simp only [List.getElem_toArray, List.getElem_cons_succ, List.getElem_cons_zero] at hK; go_simp; exact hK.out _ _ hW1 RegJ.Tell.same rfl)
        focus (simp only [List.getElem_toArray, List.getElem_cons_succ, List.getElem_cons_zero] at hK; obtain ⟨q1, q2⟩ := id hW1; have j6 : x 6 = _ := (hJ1.out 6 (by kernel_rfl)); rw [j6] at hK; go_simp; refine (markText _ (by omega) (by omega) _).mono ?_; rintro e wa ⟨rfl, ba⟩; go_simp; exact hK.out _ _ ⟨q1.later ba, q2.trans (ba.mono q2.size)⟩ (RegJ.Tell.keepLe (Draw.Kept.ofBelow (c := 0) ba (Nat.le_refl _)) (by omega)) rfl)
        focus (simp only [List.getElem_toArray, List.getElem_cons_succ, List.getElem_cons_zero] at hK; have j5 : x 5 = _ := (hJ1.out 5 (by kernel_rfl)); rw [j5] at hK; have j7 : x 7 = _ := (hJ1.out 7 (by kernel_rfl)); rw [j7] at hK; go_simp; exact hK.out _ _ hW1 RegJ.Tell.same rfl)
      have j8 : xR 8 = .bool false := hJR 8 (by simp)
      rw [j8]
      clear h1 b1 C1 a0
      obtain ⟨h1, b1⟩ := hWR
      have C1 : ∀ j v, (mkd Q).1[j]? = some v → wR.cell? ⟨b, off + k * 13 + j, none⟩ = some v := El.Lies.cells h1 hx
      clear hJR hdR j8
      have a2 := C1 2 _ rfl
      have a3 := C1 3 _ rfl
      have a4 := C1 4 _ rfl
      have a5 := C1 5 _ rfl
      have a6 := C1 6 _ rfl
      go_wp2_with fail
      refine RegJ.wp_region_J (W := fun d wr => A13.Lies wr (some ⟨b, off, none⟩) (mks q n) ∧ Below w.heap.size w wr) (RegJ.Tell (0) [.eq (.slice (some ⟨b, off, none⟩) n c), .eq (.int .i64 (k : Int)), .eq (.pointer (some ⟨b, off + k * 13, none⟩)), .eq (.pointer (some ⟨b, off + k * 13 + 6, none⟩)), .eq (.pointer (some ⟨b, off + k * 13 + 6 + 1, none⟩)), .eq (.string (mtx (Q + 1 + 1 + 1 + 1 + 1 + 1 + 1))), .eq (.int .i64 (Q + 1 + 1 + 1 + 1 + 1 + 1 + 1)), .eq (.string (mtx (Q + 1 + 1 + 1 + 1 + 1 + 1 + 1))), .eq (.bool false)]) [some 87, some 88, some 89, some 90, some 91, some 92, some 93, some 94, some 95] (F := ?_) (is := [0, 1, 2, 3, 4, 5, 6, 7, 8]) hmix (by kernel_rfl) (by kernel_rfl) (by kernel_rfl) (by kernel_rfl) (fun x => ?_) (⟨h1.drew, b1.drew⟩) ?_ (fun dR xS wS hWR hdR hJR => ?_)
      rotate_left 1
      focus (simp only [RegJ.lay, Act.put, Nat.reduceAdd, Nat.zero_add, List.getElem_toArray, List.getElem_cons_zero, List.getElem_cons_succ, List.setIfInBounds_toArray, List.set_cons_zero, List.set_cons_succ]; rfl)
      focus
        refine RegJ.Steps.cons (RegJ.StepAt.mk rfl (fun d x w1 hW1 hJ1 hx1 K hK => ?_)) (RegJ.Steps.cons (RegJ.StepAt.mk rfl (fun d x w1 hW1 hJ1 hx1 K hK => ?_)) (RegJ.Steps.cons (RegJ.StepAt.mk rfl (fun d x w1 hW1 hJ1 hx1 K hK => ?_)) (RegJ.Steps.cons (RegJ.StepAt.mk rfl (fun d x w1 hW1 hJ1 hx1 K hK => ?_)) (RegJ.Steps.cons (RegJ.StepAt.mk rfl (fun d x w1 hW1 hJ1 hx1 K hK => ?_)) (RegJ.Steps.cons (RegJ.StepAt.mk rfl (fun d x w1 hW1 hJ1 hx1 K hK => ?_)) (RegJ.Steps.cons (RegJ.StepAt.mk rfl (fun d x w1 hW1 hJ1 hx1 K hK => ?_)) (RegJ.Steps.cons (RegJ.StepAt.mk rfl (fun d x w1 hW1 hJ1 hx1 K hK => ?_)) (RegJ.Steps.cons (RegJ.StepAt.mk rfl (fun d x w1 hW1 hJ1 hx1 K hK => ?_)) (RegJ.Steps.nil)))))))))
        focus (simp only [List.getElem_toArray, List.getElem_cons_succ, List.getElem_cons_zero] at hK; go_simp; exact hK.out _ _ hW1 RegJ.Tell.same rfl)
        focus (simp only [List.getElem_toArray, List.getElem_cons_succ, List.getElem_cons_zero] at hK; go_simp; exact hK.out _ _ hW1 RegJ.Tell.same rfl)
        focus (simp only [List.getElem_toArray, List.getElem_cons_succ, List.getElem_cons_zero] at hK; have j0 : x 0 = _ := (hJ1.out 0 (by kernel_rfl)); rw [j0] at hK; have j1 : x 1 = _ := (hJ1.out 1 (by kernel_rfl)); rw [j1] at hK; go_simp; exact hK.out _ _ hW1 RegJ.Tell.same rfl)
        focus (simp only [List.getElem_toArray, List.getElem_cons_succ, List.getElem_cons_zero] at hK; have j2 : x 2 = _ := (hJ1.out 2 (by kernel_rfl)); rw [j2] at hK; go_simp; exact hK.out _ _ hW1 RegJ.Tell.same rfl)
        focus (simp only [List.getElem_toArray, List.getElem_cons_succ, List.getElem_cons_zero] at hK; have j3 : x 3 = _ := (hJ1.out 3 (by kernel_rfl)); rw [j3] at hK; go_simp; exact hK.out _ _ hW1 RegJ.Tell.same rfl)
        focus (simp only [List.getElem_toArray, List.getElem_cons_succ, List.getElem_cons_zero] at hK; have j4 : x 4 = _ := (hJ1.out 4 (by kernel_rfl)); rw [j4] at hK; have q0 : w1.cell? ⟨b, off + k * 13 + 7, none⟩ = _ := El.Lies.cells hW1.1 hx 7 _ rfl; go_simp; exact hK.out _ _ hW1 RegJ.Tell.same rfl)
        focus (simp only [List.getElem_toArray, List.getElem_cons_succ, List.getElem_cons_zero] at hK; go_simp; exact hK.out _ _ hW1 RegJ.Tell.same rfl)
        focus (simp only [List.getElem_toArray, List.getElem_cons_succ, List.getElem_cons_zero] at hK; obtain ⟨q1, q2⟩ := id hW1; have j6 : x 6 = _ := (hJ1.out 6 (by kernel_rfl)); rw [j6] at hK; go_simp; refine (markText _ (by omega) (by omega) _).mono ?_; rintro e wa ⟨rfl, ba⟩; go_simp; exact hK.out _ _ ⟨q1.later ba, q2.trans (ba.mono q2.size)⟩ (RegJ.Tell.keepLe (Draw.Kept.ofBelow (c := 0) ba (Nat.le_refl _)) (by omega)) rfl)
        focus (simp only [List.getElem_toArray, List.getElem_cons_succ, List.getElem_cons_zero] at hK; have j5 : x 5 = _ := (hJ1.out 5 (by kernel_rfl)); rw [j5] at hK; have j7 : x 7 = _ := (hJ1.out 7 (by kernel_rfl)); rw [j7] at hK; go_simp; exact hK.out _ _ hW1 RegJ.Tell.same rfl)
      have j8 : xS 8 = .bool false := hJR 8 (by simp)
      rw [j8]
      clear h1 b1 C1 a2 a3 a4 a5 a6
      obtain ⟨h1, b1⟩ := hWR
      have C1 : ∀ j v, (mkd Q).1[j]? = some v → wS.cell? ⟨b, off + k * 13 + j, none⟩ = some v := El.Lies.cells h1 hx
      clear hJR hdR j8
      have a8 := C1 8 _ rfl
      have a9 := C1 9 _ rfl
      have a10 := C1 10 _ rfl
      have a11 := C1 11 _ rfl
      have a12 := C1 12 _ rfl
      have nn : ¬ (Q + 1 + 1 + 1 + 1 + 1 + 1 + 1 + 1 : Int) < 0 := by omega
      have nm : ¬ (Q + 1 + 1 + 1 + 1 + 1 + 1 + 1 + 1 + 1 + 1 + 1 : Int) < 0 := by omega
      go_wp2_with fail
      refine (Tak.heldPartS0 _ _).mono ?_
      rintro e w4 ⟨rfl, rfl⟩
      go_wp2_with fail
      refine (Hop.heldLetterS0 _ _).mono ?_
      rintro e w4 ⟨rfl, rfl⟩
      have hq := HQ.out
      go_wp2_with fail
      go_roundw
      case rel => exact ⟨k + 1, by omega, by simp, by rw [← hq]; go_num, b1⟩
      case measure => simp [intOf]; omega
    · obtain rfl : k = n := by omega
      go_wp2_with fail
      go_ret
      exact ⟨rfl, b1⟩
theorem eqHopSnil (w : World) : Calls Try.prog 56 #[.slice none 0 0, .slice none 0 0] w fun x w' => x = .returned (.bool true) ∧ Below w.heap.size w w' := eqHopS0 none none 0 0 [] w (.inl rfl) (.inl rfl) (by simp)
end Go.Proofs.Ytldghgadkncehaa.Lin

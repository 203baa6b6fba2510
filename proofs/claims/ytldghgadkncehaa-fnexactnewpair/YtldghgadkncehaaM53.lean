/- Contracts of this seat's functions, and their mathematics (LinV LinX). -/
import Derived.Test.YtldghgadkncehaaM52
import Derived.Test.YtldghgadkncehaaM27
import Derived.Test.YtldghgadkncehaaM34
set_option linter.unusedVariables false
set_option linter.unusedSimpArgs false
set_option maxRecDepth 10000
set_option maxHeartbeats 4000000
namespace Go.Proofs.Ytldghgadkncehaa.Wor
open Go.RowKit RowG Hop Roa Lin
def toHp (x : Int × Int) : Hp := ⟨⟨0, ⟨#[]⟩, x.1, 0, false, false⟩, ⟨0, ⟨#[]⟩, [], x.2, -1, false⟩, []⟩
def toHa (x : Int × Int) : Ha := ⟨toHp x, none, 0, none, 0⟩
theorem vals_toHa (l : List (Int × Int)) : hopE.vals (l.map toHa) = H0.vals l := by
  induction l with
  | nil => rfl
  | cons x l ih => rw [List.map_cons, El.vals_cons, El.vals_cons, ih]; rfl
theorem lay_new {w : World} {B : Nat} {a : Option Addr} {c : Nat} {l : List (Int × Int)} (h : H0.Own 85 w B a c l) : LineLay w B a c (l.map toHa) := by
  refine ⟨?_, fun x hx => ?_, fun i j x y _ hx _ p q hp _ => ?_⟩
  · unfold El.Own at h ⊢
    rw [vals_toHa, List.length_map]
    exact h
  · obtain ⟨z, _, rfl⟩ := List.mem_map.1 hx
    exact ⟨El.Own.none _ _, El.Own.none _ _⟩
  · obtain ⟨z, _, rfl⟩ := List.mem_map.1 (List.mem_of_getElem? hx)
    cases hp
end Go.Proofs.Ytldghgadkncehaa.Wor
namespace Go.Proofs.Ytldghgadkncehaa.Lin
open Go.RowKit RowG Hop Wor
theorem eqPartS1 (a : Option Addr) (c : Nat) (w : World) : Calls Try.prog 116 #[.slice none 0 0, .slice a 0 c] w fun x w' => x = .returned (.bool true) ∧ w' = w := by
  go_enter Try.func116, Try.ntmps116
  go_wp2_with fail
  go_loopw [5] (fun i wr => i = .int .i64 0 ∧ wr = w) (fun _ _ => 0)
  case atStart => exact ⟨rfl, rfl⟩
  case round =>
    obtain ⟨rfl, rfl⟩ := hrel
    go_wp2_with fail
    go_ret
    exact ⟨rfl, rfl⟩
theorem eqLetterS1 (a : Option Addr) (c : Nat) (w : World) : Calls Try.prog 104 #[.slice none 0 0, .slice a 0 c] w fun x w' => x = .returned (.bool true) ∧ w' = w := by
  go_enter Try.func104, Try.ntmps104
  go_wp2_with fail
  go_loopw [5] (fun i wr => i = .int .i64 0 ∧ wr = w) (fun _ _ => 0)
  case atStart => exact ⟨rfl, rfl⟩
  case round =>
    obtain ⟨rfl, rfl⟩ := hrel
    go_wp2_with fail
    go_ret
    exact ⟨rfl, rfl⟩
theorem eqTaker1 (nx : Int) (bs : ByteArray) (cp fi : Int) (en : Bool) (a : Option Addr) (c : Nat) (w : World) :
    Calls Try.prog 103 #[.agg #[.int .i64 nx, .string bs, .slice none 0 0, .int .i64 cp, .int .i64 fi, .bool en], .agg #[.int .i64 nx, .string bs, .slice a 0 c, .int .i64 cp, .int .i64 fi, .bool en]] w fun x w' => x = .returned (.bool true) ∧ Below w.heap.size w w' := by
  go_enter Try.func103, Try.ntmps103
  go_wp2_with (go_at_call 116; refine (eqPartS1 _ _ _).mono ?_; rintro x w' ⟨rfl, rfl⟩)
  go_ret
  exact ⟨rfl, ((Below.refl _ _).alloc (Nat.le_refl _) _).alloc (by simp) _⟩
abbrev hopV1 (cg ct fi : Int) (aT : Option Addr) (cT : Nat) (aW : Option Addr) (cW : Nat) : Value := .agg #[.int .i64 0, .string ⟨#[]⟩, .int .i64 cg, .int .i64 0, .bool false, .bool false, .int .i64 0, .string ⟨#[]⟩, .slice aT 0 cT, .int .i64 ct, .int .i64 fi, .bool false, .slice aW 0 cW]
abbrev hopC1 (cg ct fi : Int) (aT : Option Addr) (cT : Nat) (aW : Option Addr) (cW : Nat) : List Value := [.int .i64 0, .string ⟨#[]⟩, .int .i64 cg, .int .i64 0, .bool false, .bool false, .int .i64 0, .string ⟨#[]⟩, .slice aT 0 cT, .int .i64 ct, .int .i64 fi, .bool false, .slice aW 0 cW]
theorem eqHop1 (cg ct fi : Int) (aT : Option Addr) (cT : Nat) (aW : Option Addr) (cW : Nat) (w : World) : Calls Try.prog 76 #[Hop.hopV cg ct fi, hopV1 cg ct fi aT cT aW cW] w fun x w' => x = .returned (.bool true) ∧ Below w.heap.size w w' := by
  have hG := fun w' => Giv.eqGiver ⟨0, ⟨#[]⟩, cg, 0, false, false⟩ w'
  dsimp only [Giv.Gv.v] at hG
  have v0 : Var 85 ((w.alloc (.cells #[.int .i64 0, .string ⟨#[]⟩, .int .i64 cg, .int .i64 0, .bool false, .bool false, .int .i64 0, .string ⟨#[]⟩, .slice none 0 0, .int .i64 ct, .int .i64 fi, .bool false, .slice none 0 0] 85)).alloc (.cells #[.int .i64 0, .string ⟨#[]⟩, .int .i64 cg, .int .i64 0, .bool false, .bool false, .int .i64 0, .string ⟨#[]⟩, .slice aT 0 cT, .int .i64 ct, .int .i64 fi, .bool false, .slice aW 0 cW] 85)) w.heap.size [.int .i64 0, .string ⟨#[]⟩, .int .i64 cg, .int .i64 0, .bool false, .bool false, .int .i64 0, .string ⟨#[]⟩, .slice none 0 0, .int .i64 ct, .int .i64 fi, .bool false, .slice none 0 0] := (Var.new w _).alloc _
  have v1 : Var 85 ((w.alloc (.cells #[.int .i64 0, .string ⟨#[]⟩, .int .i64 cg, .int .i64 0, .bool false, .bool false, .int .i64 0, .string ⟨#[]⟩, .slice none 0 0, .int .i64 ct, .int .i64 fi, .bool false, .slice none 0 0] 85)).alloc (.cells #[.int .i64 0, .string ⟨#[]⟩, .int .i64 cg, .int .i64 0, .bool false, .bool false, .int .i64 0, .string ⟨#[]⟩, .slice aT 0 cT, .int .i64 ct, .int .i64 fi, .bool false, .slice aW 0 cW] 85)) (w.heap.size + 1) [.int .i64 0, .string ⟨#[]⟩, .int .i64 cg, .int .i64 0, .bool false, .bool false, .int .i64 0, .string ⟨#[]⟩, .slice aT 0 cT, .int .i64 ct, .int .i64 fi, .bool false, .slice aW 0 cW] := by
    have q := Var.new (T := 85) (w.alloc (.cells #[.int .i64 0, .string ⟨#[]⟩, .int .i64 cg, .int .i64 0, .bool false, .bool false, .int .i64 0, .string ⟨#[]⟩, .slice none 0 0, .int .i64 ct, .int .i64 fi, .bool false, .slice none 0 0] 85)) [.int .i64 0, .string ⟨#[]⟩, .int .i64 cg, .int .i64 0, .bool false, .bool false, .int .i64 0, .string ⟨#[]⟩, .slice aT 0 cT, .int .i64 ct, .int .i64 fi, .bool false, .slice aW 0 cW]
    simpa using q
  have b0 : Below w.heap.size w ((w.alloc (.cells #[.int .i64 0, .string ⟨#[]⟩, .int .i64 cg, .int .i64 0, .bool false, .bool false, .int .i64 0, .string ⟨#[]⟩, .slice none 0 0, .int .i64 ct, .int .i64 fi, .bool false, .slice none 0 0] 85)).alloc (.cells #[.int .i64 0, .string ⟨#[]⟩, .int .i64 cg, .int .i64 0, .bool false, .bool false, .int .i64 0, .string ⟨#[]⟩, .slice aT 0 cT, .int .i64 ct, .int .i64 fi, .bool false, .slice aW 0 cW] 85)) := ((Below.refl _ _).alloc (Nat.le_refl _) _).alloc (by simp) _
  go_enter Try.func76, Try.ntmps76
  go_upto_region 1 with (fail)
  generalize ((w.alloc (.cells #[.int .i64 0, .string ⟨#[]⟩, .int .i64 cg, .int .i64 0, .bool false, .bool false, .int .i64 0, .string ⟨#[]⟩, .slice none 0 0, .int .i64 ct, .int .i64 fi, .bool false, .slice none 0 0] 85)).alloc (.cells #[.int .i64 0, .string ⟨#[]⟩, .int .i64 cg, .int .i64 0, .bool false, .bool false, .int .i64 0, .string ⟨#[]⟩, .slice aT 0 cT, .int .i64 ct, .int .i64 fi, .bool false, .slice aW 0 cW] 85)) = W at *
  have e0 := v0.cell (i := 0) rfl
  have e1 := v0.cell (i := 1) rfl
  have e2 := v0.cell (i := 2) rfl
  have e3 := v0.cell (i := 3) rfl
  have e4 := v0.cell (i := 4) rfl
  have e5 := v0.cell (i := 5) rfl
  have e6 := v0.cell (i := 6) rfl
  have e7 := v0.cell (i := 7) rfl
  have e8 := v0.cell (i := 8) rfl
  have e9 := v0.cell (i := 9) rfl
  have e10 := v0.cell (i := 10) rfl
  have e11 := v0.cell (i := 11) rfl
  have e12 := v0.cell (i := 12) rfl
  have f0 := v1.cell (i := 0) rfl
  have f1 := v1.cell (i := 1) rfl
  have f2 := v1.cell (i := 2) rfl
  have f3 := v1.cell (i := 3) rfl
  have f4 := v1.cell (i := 4) rfl
  have f5 := v1.cell (i := 5) rfl
  have f6 := v1.cell (i := 6) rfl
  have f7 := v1.cell (i := 7) rfl
  have f8 := v1.cell (i := 8) rfl
  have f9 := v1.cell (i := 9) rfl
  have f10 := v1.cell (i := 10) rfl
  have f11 := v1.cell (i := 11) rfl
  have f12 := v1.cell (i := 12) rfl
  go_wp2_with fail
  refine (hG _).mono ?_
  rintro x w1 ⟨rfl, b1⟩
  clear hG
  replace v0 := v0.later b1
  replace v1 := v1.later b1
  replace b0 := b0.trans (b1.mono b0.size)
  clear b1 e0 e1 e2 e3 e4 e5 e6 e7 e8 e9 e10 e11 e12 f0 f1 f2 f3 f4 f5 f6 f7 f8 f9 f10 f11 f12
  have e0 := v0.cell (i := 0) rfl
  have e1 := v0.cell (i := 1) rfl
  have e2 := v0.cell (i := 2) rfl
  have e3 := v0.cell (i := 3) rfl
  have e4 := v0.cell (i := 4) rfl
  have e5 := v0.cell (i := 5) rfl
  have e6 := v0.cell (i := 6) rfl
  have e7 := v0.cell (i := 7) rfl
  have e8 := v0.cell (i := 8) rfl
  have e9 := v0.cell (i := 9) rfl
  have e10 := v0.cell (i := 10) rfl
  have e11 := v0.cell (i := 11) rfl
  have e12 := v0.cell (i := 12) rfl
  have f0 := v1.cell (i := 0) rfl
  have f1 := v1.cell (i := 1) rfl
  have f2 := v1.cell (i := 2) rfl
  have f3 := v1.cell (i := 3) rfl
  have f4 := v1.cell (i := 4) rfl
  have f5 := v1.cell (i := 5) rfl
  have f6 := v1.cell (i := 6) rfl
  have f7 := v1.cell (i := 7) rfl
  have f8 := v1.cell (i := 8) rfl
  have f9 := v1.cell (i := 9) rfl
  have f10 := v1.cell (i := 10) rfl
  have f11 := v1.cell (i := 11) rfl
  have f12 := v1.cell (i := 12) rfl
  go_wp2_with fail
  refine (eqTaker1 _ _ _ _ _ _ _ _).mono ?_
  rintro x w2 ⟨rfl, b2⟩
  replace v0 := v0.later b2
  replace v1 := v1.later b2
  replace b0 := b0.trans (b2.mono b0.size)
  clear b2 e0 e1 e2 e3 e4 e5 e6 e7 e8 e9 e10 e11 e12 f0 f1 f2 f3 f4 f5 f6 f7 f8 f9 f10 f11 f12
  have e0 := v0.cell (i := 0) rfl
  have e1 := v0.cell (i := 1) rfl
  have e2 := v0.cell (i := 2) rfl
  have e3 := v0.cell (i := 3) rfl
  have e4 := v0.cell (i := 4) rfl
  have e5 := v0.cell (i := 5) rfl
  have e6 := v0.cell (i := 6) rfl
  have e7 := v0.cell (i := 7) rfl
  have e8 := v0.cell (i := 8) rfl
  have e9 := v0.cell (i := 9) rfl
  have e10 := v0.cell (i := 10) rfl
  have e11 := v0.cell (i := 11) rfl
  have e12 := v0.cell (i := 12) rfl
  have f0 := v1.cell (i := 0) rfl
  have f1 := v1.cell (i := 1) rfl
  have f2 := v1.cell (i := 2) rfl
  have f3 := v1.cell (i := 3) rfl
  have f4 := v1.cell (i := 4) rfl
  have f5 := v1.cell (i := 5) rfl
  have f6 := v1.cell (i := 6) rfl
  have f7 := v1.cell (i := 7) rfl
  have f8 := v1.cell (i := 8) rfl
  have f9 := v1.cell (i := 9) rfl
  have f10 := v1.cell (i := 10) rfl
  have f11 := v1.cell (i := 11) rfl
  have f12 := v1.cell (i := 12) rfl
  go_wp2_with fail
  refine (eqLetterS1 _ _ _).mono ?_
  rintro x w3 ⟨rfl, rfl⟩
  go_wp2_with fail
  go_ret
  exact ⟨rfl, b0⟩
theorem eqHopS1 (a a' : Option Addr) (c c' : Nat) (l : List (Int × Int)) (ys : List Ha) (w : World) (h : H0.Lies w a l) (h' : hopE.Lies w a' ys) (hy : ys.map (·.h) = l.map toHp) (hl : l.length ≤ 1000) :
    Calls Try.prog 56 #[.slice a l.length c, .slice a' l.length c'] w fun x w' => x = .returned (.bool true) ∧ Below w.heap.size w w' := by
  have hmix := Roa.mix
  have hyl : ys.length = l.length := by simpa using congrArg List.length hy
  have hel : ∀ (k : Nat) (y : Int × Int), l[k]? = some y → ∃ aT cT aW cW, ys[k]? = some (⟨toHp y, aT, cT, aW, cW⟩ : Ha) := by
    intro k y hk
    have h1 : (ys.map (·.h))[k]? = some (toHp y) := by rw [hy, List.getElem?_map, hk]; rfl
    rw [List.getElem?_map] at h1
    cases hz : ys[k]? with
    | none => rw [hz] at h1; cases h1
    | some z =>
      rw [hz] at h1
      obtain ⟨zh, aT, cT, aW, cW⟩ := z
      have : zh = toHp y := by simpa using h1
      subst this
      exact ⟨aT, cT, aW, cW, rfl⟩
  have HYL : Hid (ys.length = l.length) := hyl
  clear hyl hy
  go_enter Try.func56, Try.ntmps56
  go_wp2_with fail
  go_loopw [5] (fun iv wr => ∃ k : Nat, k ≤ l.length ∧ iv = .int .i64 k ∧ Below w.heap.size w wr) (fun iv _ => l.length - (intOf iv).toNat)
  case atStart => exact ⟨0, by omega, rfl, Below.refl _ _⟩
  case round =>
    obtain ⟨k, hk, rfl, b1⟩ := hrel
    by_cases hkl : k < l.length
    · have i0 : (k : Int) < (l.length : Int) := by omega
      have i1 : (0 : Int) ≤ (k : Int) := by omega
      have h1 := h.later b1
      have h2 := h'.later b1
      obtain ⟨b, off, rfl⟩ : ∃ b off, a = some ⟨b, off, none⟩ := by
        rcases h1 with hs | ⟨b, off, rfl, _⟩
        · simp [hs] at hkl
        · exact ⟨b, off, rfl⟩
      obtain ⟨b', off', rfl⟩ : ∃ b off, a' = some ⟨b, off, none⟩ := by
        rcases h2 with hs | ⟨b, off, rfl, _⟩
        · have := HYL.out; simp [hs] at this; omega
        · exact ⟨b, off, rfl⟩
      obtain ⟨y, hx⟩ : ∃ y, l[k]? = some y := ⟨l[k], List.getElem?_eq_getElem hkl⟩
      obtain ⟨aT, cT, aW, cW, hz⟩ := hel k y hx
      clear hel
      have HX : Hid (l[k]? = some y) := hx
      have HZ : Hid (ys[k]? = some (⟨toHp y, aT, cT, aW, cW⟩ : Ha)) := hz
      clear hx hz
      go_wp2_with fail
      refine RegJ.wp_region_J (W := fun d wr => H0.Lies wr (some ⟨b, off, none⟩) l ∧ hopE.Lies wr (some ⟨b', off', none⟩) ys ∧ Below w.heap.size w wr) (RegJ.Tell (0) [.eq (.slice (some ⟨b, off, none⟩) l.length c), .eq (.int .i64 (k : Int)), .eq (.pointer (some ⟨b, off + k * 13, none⟩)), .eq (Hop.hopV y.1 y.2 (-1)), .eq (.slice (some ⟨b', off', none⟩) l.length c'), .eq (.int .i64 (k : Int)), .eq (.pointer (some ⟨b', off' + k * 13, none⟩)), .eq (hopV1 y.1 y.2 (-1) aT cT aW cW), .eq (.bool true), .eq (.bool false)]) [some 17, some 18, some 19, some 20, some 21, some 22, some 23, some 24, some 25, some 26] (F := ?_) (is := [0, 1, 2, 3, 4, 5, 6, 7, 8, 9]) hmix (by kernel_rfl) (by kernel_rfl) (by kernel_rfl) (by kernel_rfl) (fun x => ?_) (⟨h1.drew, h2.drew, b1.drew⟩) ?_ (fun dR xR wR hWR hdR hJR => ?_)
      rotate_left 1
      focus (simp only [RegJ.lay, Act.put, Nat.reduceAdd, Nat.zero_add, List.getElem_toArray, List.getElem_cons_zero, List.getElem_cons_succ, List.setIfInBounds_toArray, List.set_cons_zero, List.set_cons_succ]; rfl)
      focus
        refine RegJ.Steps.cons (RegJ.StepAt.mk rfl (fun d x w1 hW1 hJ1 hx1 K hK => ?_)) (RegJ.Steps.cons (RegJ.StepAt.mk rfl (fun d x w1 hW1 hJ1 hx1 K hK => ?_)) (RegJ.Steps.cons (RegJ.StepAt.mk rfl (fun d x w1 hW1 hJ1 hx1 K hK => ?_)) (RegJ.Steps.cons (RegJ.StepAt.mk rfl (fun d x w1 hW1 hJ1 hx1 K hK => ?_)) (RegJ.Steps.cons (RegJ.StepAt.mk rfl (fun d x w1 hW1 hJ1 hx1 K hK => ?_)) (RegJ.Steps.cons (RegJ.StepAt.mk rfl (fun d x w1 hW1 hJ1 hx1 K hK => ?_)) (RegJ.Steps.cons (RegJ.StepAt.mk rfl (fun d x w1 hW1 hJ1 hx1 K hK => ?_)) (RegJ.Steps.cons (RegJ.StepAt.mk rfl (fun d x w1 hW1 hJ1 hx1 K hK => ?_)) (RegJ.Steps.cons (RegJ.StepAt.mk rfl (fun d x w1 hW1 hJ1 hx1 K hK => ?_)) (RegJ.Steps.cons (RegJ.StepAt.mk rfl (fun d x w1 hW1 hJ1 hx1 K hK => ?_)) (RegJ.Steps.nil))))))))))
        focus (simp only [List.getElem_toArray, List.getElem_cons_succ, List.getElem_cons_zero] at hK; go_simp; exact hK.out _ _ hW1 RegJ.Tell.same rfl)
        focus (simp only [List.getElem_toArray, List.getElem_cons_succ, List.getElem_cons_zero] at hK; go_simp; exact hK.out _ _ hW1 RegJ.Tell.same rfl)
        focus (simp only [List.getElem_toArray, List.getElem_cons_succ, List.getElem_cons_zero] at hK; have j0 : x 0 = _ := (hJ1.out 0 (by kernel_rfl)); rw [j0] at hK; have j1 : x 1 = _ := (hJ1.out 1 (by kernel_rfl)); rw [j1] at hK; go_simp; exact hK.out _ _ hW1 RegJ.Tell.same rfl)
        focus (simp only [List.getElem_toArray, List.getElem_cons_succ, List.getElem_cons_zero] at hK; have j2 : x 2 = _ := (hJ1.out 2 (by kernel_rfl)); exact step_load_cells (by rfl) _ (by rfl) (by exact j2) (vs := Hop.hopC y.1 y.2 (-1)) infoHop1 structHop (El.Lies.cells hW1.1 HX.out) (hK.out _ _ hW1 RegJ.Tell.same rfl))
        focus (simp only [List.getElem_toArray, List.getElem_cons_succ, List.getElem_cons_zero] at hK; go_simp; exact hK.out _ _ hW1 RegJ.Tell.same rfl)
        focus (simp only [List.getElem_toArray, List.getElem_cons_succ, List.getElem_cons_zero] at hK; go_simp; exact hK.out _ _ hW1 RegJ.Tell.same rfl)
        focus (simp only [List.getElem_toArray, List.getElem_cons_succ, List.getElem_cons_zero] at hK; have j4 : x 4 = _ := (hJ1.out 4 (by kernel_rfl)); rw [j4] at hK; have j5 : x 5 = _ := (hJ1.out 5 (by kernel_rfl)); rw [j5] at hK; go_simp; exact hK.out _ _ hW1 RegJ.Tell.same rfl)
        focus (simp only [List.getElem_toArray, List.getElem_cons_succ, List.getElem_cons_zero] at hK; have j6 : x 6 = _ := (hJ1.out 6 (by kernel_rfl)); exact step_load_cells (by rfl) _ (by rfl) (by exact j6) (vs := hopC1 y.1 y.2 (-1) aT cT aW cW) infoHop1 structHop (El.Lies.cells hW1.2.1 HZ.out) (hK.out _ _ hW1 RegJ.Tell.same rfl))
        focus (simp only [List.getElem_toArray, List.getElem_cons_succ, List.getElem_cons_zero] at hK; obtain ⟨q1, q2, q3⟩ := id hW1; have j3 : x 3 = _ := (hJ1.out 3 (by kernel_rfl)); rw [j3] at hK; have j7 : x 7 = _ := (hJ1.out 7 (by kernel_rfl)); rw [j7] at hK; go_simp; refine (eqHop1 _ _ _ _ _ _ _ _).mono ?_; rintro e wa ⟨rfl, ba⟩; go_simp; exact hK.out _ _ ⟨q1.later ba, q2.later ba, q3.trans (ba.mono q3.size)⟩ (RegJ.Tell.keepLe (Draw.Kept.ofBelow (c := 0) ba (Nat.le_refl _)) (by omega)) rfl)
        focus (simp only [List.getElem_toArray, List.getElem_cons_succ, List.getElem_cons_zero] at hK; have j8 : x 8 = _ := (hJ1.out 8 (by kernel_rfl)); rw [j8] at hK; go_simp; exact hK.out _ _ hW1 RegJ.Tell.same rfl)
      have j9 : xR 9 = .bool false := hJR 9 (by simp)
      rw [j9]
      obtain ⟨_, _, b2⟩ := hWR
      clear hJR hdR
      go_wp2_with fail
      go_roundw
      case rel => exact ⟨k + 1, by omega, by simp, b2⟩
      case measure => simp [intOf]; omega
    · have i0 : ¬ (k : Int) < (l.length : Int) := by omega
      go_wp2_with fail
      go_ret
      exact ⟨rfl, b1⟩
theorem eqLine1 (a a' r r' : Option Addr) (c c' d d' n m : Nat) (l : List (Int × Int)) (ys : List Ha) (rs : List Roa.Rd) (w : World) (hn : n = l.length) (hm : m = rs.length) (h : H0.Lies w a l) (h' : hopE.Lies w a' ys) (hy : ys.map (·.h) = l.map toHp) (k : Roa.E.Lies w r rs) (k' : Roa.E.Lies w r' rs) (hl : l.length ≤ 1000) (hr : rs.length ≤ 1000) :
    Calls Try.prog 40 #[.agg #[.slice a n c, .slice r m d], .agg #[.slice a' n c', .slice r' m d']] w fun x w' => x = .returned (.bool true) ∧ Below w.heap.size w w' := by
  subst hn hm
  have hmix := Roa.mix
  have HY : Hid (ys.map (·.h) = l.map toHp) := hy
  clear hy
  have v1 : Var 37 ((w.alloc (.cells #[.slice a l.length c, .slice r rs.length d] 37)).alloc (.cells #[.slice a' l.length c', .slice r' rs.length d'] 37)) w.heap.size [.slice a l.length c, .slice r rs.length d] := (Var.new w _).alloc _
  have v2 : Var 37 ((w.alloc (.cells #[.slice a l.length c, .slice r rs.length d] 37)).alloc (.cells #[.slice a' l.length c', .slice r' rs.length d'] 37)) (w.heap.size + 1) [.slice a' l.length c', .slice r' rs.length d'] := by
    have q := Var.new (T := 37) (w.alloc (.cells #[.slice a l.length c, .slice r rs.length d] 37)) [.slice a' l.length c', .slice r' rs.length d']
    simpa using q
  have b0 : Below w.heap.size w ((w.alloc (.cells #[.slice a l.length c, .slice r rs.length d] 37)).alloc (.cells #[.slice a' l.length c', .slice r' rs.length d'] 37)) := ((Below.refl _ _).alloc (Nat.le_refl _) _).alloc (by simp) _
  go_enter Try.func40, Try.ntmps40
  go_wp2_with fail
  refine (eqHopS1 _ _ _ _ l ys _ (h.later b0) (h'.later b0) HY.out hl).mono ?_
  rintro e w1 ⟨rfl, b1⟩
  replace v1 := v1.later b1
  replace v2 := v2.later b1
  have B1 := b0.trans (b1.mono b0.size)
  clear b0 b1
  have x0 := v1.cell (i := 1) rfl
  have x1 := v2.cell (i := 1) rfl
  go_wp2_with fail
  refine (Roa.eqRoadS _ _ _ _ _ _ rs rs _ rfl rfl (k.later B1) (k'.later B1) (by omega) (by omega)).mono ?_
  rintro e w2 ⟨rfl, b2⟩
  have B2 := B1.trans (b2.mono B1.size)
  have hd : decide (rs = rs) = true := by simp
  rw [hd]
  go_wp2_with fail
  go_ret
  exact ⟨rfl, B2⟩
theorem eqWorld1 (a a' r r' : Option Addr) (c c' d d' n m : Nat) (l : List (Int × Int)) (ys : List Ha) (rs : List Roa.Rd) (w : World) (hn : n = l.length) (hm : m = rs.length) (h : H0.Lies w a l) (h' : hopE.Lies w a' ys) (hy : ys.map (·.h) = l.map toHp) (k : Roa.E.Lies w r rs) (k' : Roa.E.Lies w r' rs) (hl : l.length ≤ 1000) (hr : rs.length ≤ 1000) :
    Calls Try.prog 24 #[.agg #[.slice a n c, .slice r m d, .string ⟨#[]⟩, .int .i64 0, .bool false, .bool false, .bool false], .agg #[.slice a' n c', .slice r' m d', .string ⟨#[]⟩, .int .i64 0, .bool false, .bool false, .bool false]] w fun x w' => x = .returned (.bool true) ∧ Below w.heap.size w w' := by
  have hL := fun w' (b : Below w.heap.size w w') => eqLine1 a a' r r' c c' d d' n m l ys rs w' hn hm (h.later b) (h'.later b) hy (k.later b) (k'.later b) hl hr
  clear hn hm h h' k k' hl hr hy
  have hmix := Roa.mix
  have v1 : Var 40 ((w.alloc (.cells #[.slice a n c, .slice r m d, .string ⟨#[]⟩, .int .i64 0, .bool false, .bool false, .bool false] 40)).alloc (.cells #[.slice a' n c', .slice r' m d', .string ⟨#[]⟩, .int .i64 0, .bool false, .bool false, .bool false] 40)) w.heap.size [.slice a n c, .slice r m d, .string ⟨#[]⟩, .int .i64 0, .bool false, .bool false, .bool false] := (Var.new w _).alloc _
  have v2 : Var 40 ((w.alloc (.cells #[.slice a n c, .slice r m d, .string ⟨#[]⟩, .int .i64 0, .bool false, .bool false, .bool false] 40)).alloc (.cells #[.slice a' n c', .slice r' m d', .string ⟨#[]⟩, .int .i64 0, .bool false, .bool false, .bool false] 40)) (w.heap.size + 1) [.slice a' n c', .slice r' m d', .string ⟨#[]⟩, .int .i64 0, .bool false, .bool false, .bool false] := by
    have q := Var.new (T := 40) (w.alloc (.cells #[.slice a n c, .slice r m d, .string ⟨#[]⟩, .int .i64 0, .bool false, .bool false, .bool false] 40)) [.slice a' n c', .slice r' m d', .string ⟨#[]⟩, .int .i64 0, .bool false, .bool false, .bool false]
    simpa using q
  have b0 : Below w.heap.size w ((w.alloc (.cells #[.slice a n c, .slice r m d, .string ⟨#[]⟩, .int .i64 0, .bool false, .bool false, .bool false] 40)).alloc (.cells #[.slice a' n c', .slice r' m d', .string ⟨#[]⟩, .int .i64 0, .bool false, .bool false, .bool false] 40)) := ((Below.refl _ _).alloc (Nat.le_refl _) _).alloc (by simp) _
  go_enter Try.func24, Try.ntmps24
  go_wp2_with fail
  refine (hL _ b0).mono ?_
  rintro e w1 ⟨rfl, b1⟩
  replace v1 := v1.later b1
  replace v2 := v2.later b1
  have B1 := b0.trans (b1.mono b0.size)
  clear b0 b1
  have x2 := v1.cell (i := 2) rfl
  have z2 := v2.cell (i := 2) rfl
  have x3 := v1.cell (i := 3) rfl
  have z3 := v2.cell (i := 3) rfl
  have x4 := v1.cell (i := 4) rfl
  have z4 := v2.cell (i := 4) rfl
  have x5 := v1.cell (i := 5) rfl
  have z5 := v2.cell (i := 5) rfl
  have x6 := v1.cell (i := 6) rfl
  have z6 := v2.cell (i := 6) rfl
  go_wp2_with fail
  refine (eqStream00 _).mono ?_
  rintro e w2 ⟨rfl, b2⟩
  have B2 := B1.trans (b2.mono B1.size)
  go_wp2_with fail
  go_ret
  exact ⟨rfl, B2⟩
theorem eqPair1 (a a' r r' a2 a2' r2 r2' : Option Addr) (c c' d d' c2 c2' d2 d2' n m : Nat) (l : List (Int × Int)) (ys : List Ha) (rs : List Roa.Rd) (w : World) (hn : n = l.length) (hm : m = rs.length) (h : H0.Lies w a l) (h' : H0.Lies w a' l) (k : Roa.E.Lies w r rs) (k' : Roa.E.Lies w r' rs)
    (g : H0.Lies w a2 l) (g' : hopE.Lies w a2' ys) (hy : ys.map (·.h) = l.map toHp) (q : Roa.E.Lies w r2 rs) (q' : Roa.E.Lies w r2' rs) (hl : l.length ≤ 1000) (hr : rs.length ≤ 1000) :
    Calls Try.prog 10 #[.agg #[.slice a n c, .slice r m d, .string ⟨#[]⟩, .int .i64 0, .bool false, .bool false, .bool false, .slice a2 n c2, .slice r2 m d2, .string ⟨#[]⟩, .int .i64 0, .bool false, .bool false, .bool false], .agg #[.slice a' n c', .slice r' m d', .string ⟨#[]⟩, .int .i64 0, .bool false, .bool false, .bool false, .slice a2' n c2', .slice r2' m d2', .string ⟨#[]⟩, .int .i64 0, .bool false, .bool false, .bool false]] w fun x w' => x = .returned (.bool true) ∧ Below w.heap.size w w' := by
  have hL := fun w' (b : Below w.heap.size w w') => eqWorld0 a a' r r' c c' d d' n m l rs w' hn hm (h.later b) (h'.later b) (k.later b) (k'.later b) hl hr
  have hM := fun w' (b : Below w.heap.size w w') => eqWorld1 a2 a2' r2 r2' c2 c2' d2 d2' n m l ys rs w' hn hm (g.later b) (g'.later b) hy (q.later b) (q'.later b) hl hr
  clear hn hm h h' k k' g g' q q' hl hr hy
  have hmix := Roa.mix
  have v1 : Var 42 ((w.alloc (.cells #[.slice a n c, .slice r m d, .string ⟨#[]⟩, .int .i64 0, .bool false, .bool false, .bool false, .slice a2 n c2, .slice r2 m d2, .string ⟨#[]⟩, .int .i64 0, .bool false, .bool false, .bool false] 42)).alloc (.cells #[.slice a' n c', .slice r' m d', .string ⟨#[]⟩, .int .i64 0, .bool false, .bool false, .bool false, .slice a2' n c2', .slice r2' m d2', .string ⟨#[]⟩, .int .i64 0, .bool false, .bool false, .bool false] 42)) w.heap.size [.slice a n c, .slice r m d, .string ⟨#[]⟩, .int .i64 0, .bool false, .bool false, .bool false, .slice a2 n c2, .slice r2 m d2, .string ⟨#[]⟩, .int .i64 0, .bool false, .bool false, .bool false] := (Var.new w _).alloc _
  have v2 : Var 42 ((w.alloc (.cells #[.slice a n c, .slice r m d, .string ⟨#[]⟩, .int .i64 0, .bool false, .bool false, .bool false, .slice a2 n c2, .slice r2 m d2, .string ⟨#[]⟩, .int .i64 0, .bool false, .bool false, .bool false] 42)).alloc (.cells #[.slice a' n c', .slice r' m d', .string ⟨#[]⟩, .int .i64 0, .bool false, .bool false, .bool false, .slice a2' n c2', .slice r2' m d2', .string ⟨#[]⟩, .int .i64 0, .bool false, .bool false, .bool false] 42)) (w.heap.size + 1) [.slice a' n c', .slice r' m d', .string ⟨#[]⟩, .int .i64 0, .bool false, .bool false, .bool false, .slice a2' n c2', .slice r2' m d2', .string ⟨#[]⟩, .int .i64 0, .bool false, .bool false, .bool false] := by
    have q := Var.new (T := 42) (w.alloc (.cells #[.slice a n c, .slice r m d, .string ⟨#[]⟩, .int .i64 0, .bool false, .bool false, .bool false, .slice a2 n c2, .slice r2 m d2, .string ⟨#[]⟩, .int .i64 0, .bool false, .bool false, .bool false] 42)) [.slice a' n c', .slice r' m d', .string ⟨#[]⟩, .int .i64 0, .bool false, .bool false, .bool false, .slice a2' n c2', .slice r2' m d2', .string ⟨#[]⟩, .int .i64 0, .bool false, .bool false, .bool false]
    simpa using q
  have b0 : Below w.heap.size w ((w.alloc (.cells #[.slice a n c, .slice r m d, .string ⟨#[]⟩, .int .i64 0, .bool false, .bool false, .bool false, .slice a2 n c2, .slice r2 m d2, .string ⟨#[]⟩, .int .i64 0, .bool false, .bool false, .bool false] 42)).alloc (.cells #[.slice a' n c', .slice r' m d', .string ⟨#[]⟩, .int .i64 0, .bool false, .bool false, .bool false, .slice a2' n c2', .slice r2' m d2', .string ⟨#[]⟩, .int .i64 0, .bool false, .bool false, .bool false] 42)) := ((Below.refl _ _).alloc (Nat.le_refl _) _).alloc (by simp) _
  go_enter Try.func10, Try.ntmps10
  go_upto_region 1 with (fail)
  generalize ((w.alloc (.cells #[.slice a n c, .slice r m d, .string ⟨#[]⟩, .int .i64 0, .bool false, .bool false, .bool false, .slice a2 n c2, .slice r2 m d2, .string ⟨#[]⟩, .int .i64 0, .bool false, .bool false, .bool false] 42)).alloc (.cells #[.slice a' n c', .slice r' m d', .string ⟨#[]⟩, .int .i64 0, .bool false, .bool false, .bool false, .slice a2' n c2', .slice r2' m d2', .string ⟨#[]⟩, .int .i64 0, .bool false, .bool false, .bool false] 42)) = V at *
  have x0 := v1.cell (i := 0) rfl
  have x1 := v1.cell (i := 1) rfl
  have x2 := v1.cell (i := 2) rfl
  have x3 := v1.cell (i := 3) rfl
  have x4 := v1.cell (i := 4) rfl
  have x5 := v1.cell (i := 5) rfl
  have x6 := v1.cell (i := 6) rfl
  have z0 := v2.cell (i := 0) rfl
  have z1 := v2.cell (i := 1) rfl
  have z2 := v2.cell (i := 2) rfl
  have z3 := v2.cell (i := 3) rfl
  have z4 := v2.cell (i := 4) rfl
  have z5 := v2.cell (i := 5) rfl
  have z6 := v2.cell (i := 6) rfl
  go_wp2_with fail
  refine (hL _ b0).mono ?_
  rintro e w1 ⟨rfl, b1⟩
  replace v1 := v1.later b1
  replace v2 := v2.later b1
  have B1 := b0.trans (b1.mono b0.size)
  clear b0 b1 hL x0 x1 x2 x3 x4 x5 x6 z0 z1 z2 z3 z4 z5 z6
  have x7 := v1.cell (i := 7) rfl
  have z7 := v2.cell (i := 7) rfl
  have x8 := v1.cell (i := 8) rfl
  have z8 := v2.cell (i := 8) rfl
  have x9 := v1.cell (i := 9) rfl
  have z9 := v2.cell (i := 9) rfl
  have x10 := v1.cell (i := 10) rfl
  have z10 := v2.cell (i := 10) rfl
  have x11 := v1.cell (i := 11) rfl
  have z11 := v2.cell (i := 11) rfl
  have x12 := v1.cell (i := 12) rfl
  have z12 := v2.cell (i := 12) rfl
  have x13 := v1.cell (i := 13) rfl
  have z13 := v2.cell (i := 13) rfl
  go_wp2_with fail
  refine (hM _ B1).mono ?_
  rintro e w2 ⟨rfl, b2⟩
  have B2 := B1.trans (b2.mono B1.size)
  go_wp2_with fail
  go_ret
  exact ⟨rfl, B2⟩
theorem eqPairNil (w : World) : Calls Try.prog 10 #[.agg #[.slice none 0 0, .slice none 0 0, .string ⟨#[]⟩, .int .i64 0, .bool false, .bool false, .bool false, .slice none 0 0, .slice none 0 0, .string ⟨#[]⟩, .int .i64 0, .bool false, .bool false, .bool false], .agg #[.slice none 0 0, .slice none 0 0, .string ⟨#[]⟩, .int .i64 0, .bool false, .bool false, .bool false, .slice none 0 0, .slice none 0 0, .string ⟨#[]⟩, .int .i64 0, .bool false, .bool false, .bool false]] w fun x w' => x = .returned (.bool true) ∧ Below w.heap.size w w' :=
  eqPair1 none none none none none none none none 0 0 0 0 0 0 0 0 0 0 [] [] [] w rfl rfl (.inl rfl) (.inl rfl) (.inl rfl) (.inl rfl) (.inl rfl) (.inl rfl) rfl (.inl rfl) (.inl rfl) (by simp) (by simp)
theorem markPair0 (B M g c g' c' f d f' d' n m : Nat) (l : List (Int × Int)) (rs : List Roa.Rd) (w : World) (hn : n = l.length) (hm : m = rs.length) (h : H0.Own 85 w B (some ⟨g, 0, none⟩) c l) (h' : Roa.E.Own 97 w B (some ⟨g', 0, none⟩) c' rs) (k : H0.Own 85 w M (some ⟨f, 0, none⟩) d l) (k' : Roa.E.Own 97 w M (some ⟨f', 0, none⟩) d' rs) (hB : B ≤ M) (hM : M ≤ w.heap.size) (hg : g < M) (hg' : g' < M) (hl : l.length ≤ 30) (hr : rs.length ≤ 20) :
    Calls Try.prog 16 #[.agg #[.slice (some ⟨g, 0, none⟩) n c, .slice (some ⟨g', 0, none⟩) m c', .string ⟨#[]⟩, .int .i64 0, .bool false, .bool false, .bool false, .slice (some ⟨f, 0, none⟩) n d, .slice (some ⟨f', 0, none⟩) m d', .string ⟨#[]⟩, .int .i64 0, .bool false, .bool false, .bool false], .int .i64 1] w fun x w' => x = .returned (.int .i64 (1 + 11 * (n : Int) + 4 * (m : Int) + 11 * (n : Int) + 4 * (m : Int))) ∧ A13.Lies w' (some ⟨g, 0, none⟩) (mks 1 n) ∧ Roa.E.Lies w' (some ⟨g', 0, none⟩) (Roa.marks (1 + 11 * (n : Int)) m) ∧ A13.Lies w' (some ⟨f, 0, none⟩) (mks (1 + 11 * (n : Int) + 4 * (m : Int)) n) ∧ Roa.E.Lies w' (some ⟨f', 0, none⟩) (Roa.marks (1 + 11 * (n : Int) + 4 * (m : Int) + 11 * (n : Int)) m) ∧ Below B w w' ∧ ∀ i, i < w.heap.size → i ≠ g → i ≠ g' → i ≠ f → i ≠ f' → w'.heap[i]? = w.heap[i]? := by
  have hM1 := fun w' p p' z => markWorld0 B g c g' c' n m l rs 1 w' hn hm p p' z hl (by omega) (by decide) (by decide)
  have hM2 := fun w' p p' z => markWorld0 M f d f' d' n m l rs (1 + 11 * (n : Int) + 4 * (m : Int)) w' hn hm p p' z hl (by omega) (by omega) (by omega)
  have hf := (k.lt _ rfl).1
  have hf' := (k'.lt _ rfl).1
  have hfs := (k.lt _ rfl).2
  have hfs' := (k'.lt _ rfl).2
  simp only at hf hf' hfs hfs'
  clear hn hm hl hr
  have A1 := h.alloc (.cells #[.slice (some ⟨g, 0, none⟩) n c, .slice (some ⟨g', 0, none⟩) m c', .string ⟨#[]⟩, .int .i64 0, .bool false, .bool false, .bool false, .slice (some ⟨f, 0, none⟩) n d, .slice (some ⟨f', 0, none⟩) m d', .string ⟨#[]⟩, .int .i64 0, .bool false, .bool false, .bool false] 42)
  have A2 := h'.alloc (.cells #[.slice (some ⟨g, 0, none⟩) n c, .slice (some ⟨g', 0, none⟩) m c', .string ⟨#[]⟩, .int .i64 0, .bool false, .bool false, .bool false, .slice (some ⟨f, 0, none⟩) n d, .slice (some ⟨f', 0, none⟩) m d', .string ⟨#[]⟩, .int .i64 0, .bool false, .bool false, .bool false] 42)
  have A3 := k.alloc (.cells #[.slice (some ⟨g, 0, none⟩) n c, .slice (some ⟨g', 0, none⟩) m c', .string ⟨#[]⟩, .int .i64 0, .bool false, .bool false, .bool false, .slice (some ⟨f, 0, none⟩) n d, .slice (some ⟨f', 0, none⟩) m d', .string ⟨#[]⟩, .int .i64 0, .bool false, .bool false, .bool false] 42)
  have A4 := k'.alloc (.cells #[.slice (some ⟨g, 0, none⟩) n c, .slice (some ⟨g', 0, none⟩) m c', .string ⟨#[]⟩, .int .i64 0, .bool false, .bool false, .bool false, .slice (some ⟨f, 0, none⟩) n d, .slice (some ⟨f', 0, none⟩) m d', .string ⟨#[]⟩, .int .i64 0, .bool false, .bool false, .bool false] 42)
  have v0 : Var 42 (w.alloc (.cells #[.slice (some ⟨g, 0, none⟩) n c, .slice (some ⟨g', 0, none⟩) m c', .string ⟨#[]⟩, .int .i64 0, .bool false, .bool false, .bool false, .slice (some ⟨f, 0, none⟩) n d, .slice (some ⟨f', 0, none⟩) m d', .string ⟨#[]⟩, .int .i64 0, .bool false, .bool false, .bool false] 42)) w.heap.size [.slice (some ⟨g, 0, none⟩) n c, .slice (some ⟨g', 0, none⟩) m c', .string ⟨#[]⟩, .int .i64 0, .bool false, .bool false, .bool false, .slice (some ⟨f, 0, none⟩) n d, .slice (some ⟨f', 0, none⟩) m d', .string ⟨#[]⟩, .int .i64 0, .bool false, .bool false, .bool false] := Var.new w _
  have b0 : Below B w (w.alloc (.cells #[.slice (some ⟨g, 0, none⟩) n c, .slice (some ⟨g', 0, none⟩) m c', .string ⟨#[]⟩, .int .i64 0, .bool false, .bool false, .bool false, .slice (some ⟨f, 0, none⟩) n d, .slice (some ⟨f', 0, none⟩) m d', .string ⟨#[]⟩, .int .i64 0, .bool false, .bool false, .bool false] 42)) := (Below.refl _ _).alloc (by omega) _
  have z1 : w.heap.size < (w.alloc (.cells #[.slice (some ⟨g, 0, none⟩) n c, .slice (some ⟨g', 0, none⟩) m c', .string ⟨#[]⟩, .int .i64 0, .bool false, .bool false, .bool false, .slice (some ⟨f, 0, none⟩) n d, .slice (some ⟨f', 0, none⟩) m d', .string ⟨#[]⟩, .int .i64 0, .bool false, .bool false, .bool false] 42)).heap.size := by simp
  have S0 : ∀ i, i < w.heap.size → (w.alloc (.cells #[.slice (some ⟨g, 0, none⟩) n c, .slice (some ⟨g', 0, none⟩) m c', .string ⟨#[]⟩, .int .i64 0, .bool false, .bool false, .bool false, .slice (some ⟨f, 0, none⟩) n d, .slice (some ⟨f', 0, none⟩) m d', .string ⟨#[]⟩, .int .i64 0, .bool false, .bool false, .bool false] 42)).heap[i]? = w.heap[i]? := fun i hi => Below.heap_alloc _ _ _ hi
  go_enter Try.func16, Try.ntmps16
  go_upto_region 1 with (fail)
  clear h h' k k'
  generalize (w.alloc (.cells #[.slice (some ⟨g, 0, none⟩) n c, .slice (some ⟨g', 0, none⟩) m c', .string ⟨#[]⟩, .int .i64 0, .bool false, .bool false, .bool false, .slice (some ⟨f, 0, none⟩) n d, .slice (some ⟨f', 0, none⟩) m d', .string ⟨#[]⟩, .int .i64 0, .bool false, .bool false, .bool false] 42)) = V at *
  have x0 := v0.cell (i := 0) rfl
  have x1 := v0.cell (i := 1) rfl
  have x2 := v0.cell (i := 2) rfl
  have x3 := v0.cell (i := 3) rfl
  have x4 := v0.cell (i := 4) rfl
  have x5 := v0.cell (i := 5) rfl
  have x6 := v0.cell (i := 6) rfl
  go_wp2_with fail
  refine (hM1 _ A1 A2 (by omega)).mono ?_
  rintro e w1 ⟨rfl, o1, o2, b1, s1⟩
  replace v0 := v0.same (s1 w.heap.size (by omega) (by omega) (by omega))
  replace A3 := A3.same (fun y hy => by cases hy; exact s1 f (by omega) (by omega) (by omega))
  replace A4 := A4.same (fun y hy => by cases hy; exact s1 f' (by omega) (by omega) (by omega))
  have b2 := b0.trans b1
  have z2 := b1.size
  have S1 : ∀ i, i < w.heap.size → i ≠ g → i ≠ g' → w1.heap[i]? = w.heap[i]? := fun i hi p p' => (s1 i (by omega) p p').trans (S0 i hi)
  clear A1 A2 b0 b1 s1 hM1 x0 x1 x2 x3 x4 x5 x6
  have x7 := v0.cell (i := 7) rfl
  have x8 := v0.cell (i := 8) rfl
  have x9 := v0.cell (i := 9) rfl
  have x10 := v0.cell (i := 10) rfl
  have x11 := v0.cell (i := 11) rfl
  have x12 := v0.cell (i := 12) rfl
  have x13 := v0.cell (i := 13) rfl
  go_wp2_with fail
  refine (hM2 _ A3 A4 (by omega)).mono ?_
  rintro e w2 ⟨rfl, o3, o4, b3, s3⟩
  replace o1 := o1.same (fun y hy => by cases hy; exact s3 g (by omega) (by omega) (by omega))
  replace o2 := o2.same (fun y hy => by cases hy; exact s3 g' (by omega) (by omega) (by omega))
  have b4 := b2.trans (b3.mono hB)
  have S3 : ∀ i, i < w.heap.size → i ≠ g → i ≠ g' → i ≠ f → i ≠ f' → w2.heap[i]? = w.heap[i]? := fun i hi p p' q q' => (s3 i (by omega) q q').trans (S1 i hi p p')
  clear S0 S1 s3
  go_wp2_with fail
  go_ret
  exact ⟨rfl, o1.lies, o2.lies, o3.lies, o4.lies, b4, S3⟩
theorem markPairNil (w : World) : Calls Try.prog 16 #[.agg #[.slice none 0 0, .slice none 0 0, .string ⟨#[]⟩, .int .i64 0, .bool false, .bool false, .bool false, .slice none 0 0, .slice none 0 0, .string ⟨#[]⟩, .int .i64 0, .bool false, .bool false, .bool false], .int .i64 1] w fun x w' => x = .returned (.int .i64 1) ∧ Below w.heap.size w w' := by
  have v0 : Var 42 (w.alloc (.cells #[.slice none 0 0, .slice none 0 0, .string ⟨#[]⟩, .int .i64 0, .bool false, .bool false, .bool false, .slice none 0 0, .slice none 0 0, .string ⟨#[]⟩, .int .i64 0, .bool false, .bool false, .bool false] 42)) w.heap.size [.slice none 0 0, .slice none 0 0, .string ⟨#[]⟩, .int .i64 0, .bool false, .bool false, .bool false, .slice none 0 0, .slice none 0 0, .string ⟨#[]⟩, .int .i64 0, .bool false, .bool false, .bool false] := Var.new w _
  have b0 : Below w.heap.size w (w.alloc (.cells #[.slice none 0 0, .slice none 0 0, .string ⟨#[]⟩, .int .i64 0, .bool false, .bool false, .bool false, .slice none 0 0, .slice none 0 0, .string ⟨#[]⟩, .int .i64 0, .bool false, .bool false, .bool false] 42)) := (Below.refl _ _).alloc (Nat.le_refl _) _
  go_enter Try.func16, Try.ntmps16
  go_upto_region 1 with (fail)
  generalize (w.alloc (.cells #[.slice none 0 0, .slice none 0 0, .string ⟨#[]⟩, .int .i64 0, .bool false, .bool false, .bool false, .slice none 0 0, .slice none 0 0, .string ⟨#[]⟩, .int .i64 0, .bool false, .bool false, .bool false] 42)) = V at *
  have x0 := v0.cell (i := 0) rfl
  have x1 := v0.cell (i := 1) rfl
  have x2 := v0.cell (i := 2) rfl
  have x3 := v0.cell (i := 3) rfl
  have x4 := v0.cell (i := 4) rfl
  have x5 := v0.cell (i := 5) rfl
  have x6 := v0.cell (i := 6) rfl
  have x7 := v0.cell (i := 7) rfl
  have x8 := v0.cell (i := 8) rfl
  have x9 := v0.cell (i := 9) rfl
  have x10 := v0.cell (i := 10) rfl
  have x11 := v0.cell (i := 11) rfl
  have x12 := v0.cell (i := 12) rfl
  have x13 := v0.cell (i := 13) rfl
  go_wp2_with fail
  refine (markWorldNil _).mono ?_
  rintro e w1 ⟨rfl, b1⟩
  replace v0 := v0.later b1
  have b2 := b0.trans (b1.mono b0.size)
  clear b0 b1 x0 x1 x2 x3 x4 x5 x6 x7 x8 x9 x10 x11 x12 x13
  have x0 := v0.cell (i := 0) rfl
  have x1 := v0.cell (i := 1) rfl
  have x2 := v0.cell (i := 2) rfl
  have x3 := v0.cell (i := 3) rfl
  have x4 := v0.cell (i := 4) rfl
  have x5 := v0.cell (i := 5) rfl
  have x6 := v0.cell (i := 6) rfl
  have x7 := v0.cell (i := 7) rfl
  have x8 := v0.cell (i := 8) rfl
  have x9 := v0.cell (i := 9) rfl
  have x10 := v0.cell (i := 10) rfl
  have x11 := v0.cell (i := 11) rfl
  have x12 := v0.cell (i := 12) rfl
  have x13 := v0.cell (i := 13) rfl
  go_wp2_with fail
  refine (markWorldNil _).mono ?_
  rintro e w2 ⟨rfl, b3⟩
  have b4 := b2.trans (b3.mono b2.size)
  go_wp2_with fail
  go_ret
  exact ⟨rfl, b4⟩
theorem heldPair0 (a r a2 r2 : Option Addr) (c d c2 d2 n m : Nat) (w : World) (h : A13.Lies w a (mks 1 n)) (k : Roa.E.Lies w r (Roa.marks (1 + 11 * (n : Int)) m)) (g : A13.Lies w a2 (mks (1 + 11 * (n : Int) + 4 * (m : Int)) n)) (q : Roa.E.Lies w r2 (Roa.marks (1 + 11 * (n : Int) + 4 * (m : Int) + 11 * (n : Int)) m)) (hl : n ≤ 30) (hr : m ≤ 20) :
    Calls Try.prog 17 #[.agg #[.slice a n c, .slice r m d, .string ⟨#[]⟩, .int .i64 0, .bool false, .bool false, .bool false, .slice a2 n c2, .slice r2 m d2, .string ⟨#[]⟩, .int .i64 0, .bool false, .bool false, .bool false], .int .i64 1] w fun x w' => x = .returned (.int .i64 (1 + 11 * (n : Int) + 4 * (m : Int) + 11 * (n : Int) + 4 * (m : Int))) ∧ Below w.heap.size w w' := by
  have n1 : ¬ (1 + 11 * (n : Int) + 4 * (m : Int)) < 0 := by omega
  have n2 : ¬ (1 + 11 * (n : Int) + 4 * (m : Int) + 11 * (n : Int) + 4 * (m : Int)) < 0 := by omega
  have HH := fun w' (b : Below w.heap.size w w') => heldWorld0 a r c d n m 1 w' (h.later b) (k.later b) hl (by omega) (by decide) (by decide)
  have HG := fun w' (b : Below w.heap.size w w') => heldWorld0 a2 r2 c2 d2 n m (1 + 11 * (n : Int) + 4 * (m : Int)) w' (g.later b) (q.later b) hl (by omega) (by omega) (by omega)
  have v0 : Var 42 (w.alloc (.cells #[.slice a n c, .slice r m d, .string ⟨#[]⟩, .int .i64 0, .bool false, .bool false, .bool false, .slice a2 n c2, .slice r2 m d2, .string ⟨#[]⟩, .int .i64 0, .bool false, .bool false, .bool false] 42)) w.heap.size [.slice a n c, .slice r m d, .string ⟨#[]⟩, .int .i64 0, .bool false, .bool false, .bool false, .slice a2 n c2, .slice r2 m d2, .string ⟨#[]⟩, .int .i64 0, .bool false, .bool false, .bool false] := Var.new w _
  have b0 : Below w.heap.size w (w.alloc (.cells #[.slice a n c, .slice r m d, .string ⟨#[]⟩, .int .i64 0, .bool false, .bool false, .bool false, .slice a2 n c2, .slice r2 m d2, .string ⟨#[]⟩, .int .i64 0, .bool false, .bool false, .bool false] 42)) := (Below.refl _ _).alloc (Nat.le_refl _) _
  go_enter Try.func17, Try.ntmps17
  go_upto_region 1 with (fail)
  generalize (w.alloc (.cells #[.slice a n c, .slice r m d, .string ⟨#[]⟩, .int .i64 0, .bool false, .bool false, .bool false, .slice a2 n c2, .slice r2 m d2, .string ⟨#[]⟩, .int .i64 0, .bool false, .bool false, .bool false] 42)) = V at *
  have x0 := v0.cell (i := 0) rfl
  have x1 := v0.cell (i := 1) rfl
  have x2 := v0.cell (i := 2) rfl
  have x3 := v0.cell (i := 3) rfl
  have x4 := v0.cell (i := 4) rfl
  have x5 := v0.cell (i := 5) rfl
  have x6 := v0.cell (i := 6) rfl
  go_wp2_with fail
  refine (HH _ b0).mono ?_
  rintro e w1 ⟨rfl, b1⟩
  replace v0 := v0.later b1
  have b2 := b0.trans (b1.mono b0.size)
  clear b0 b1 x0 x1 x2 x3 x4 x5 x6
  have x7 := v0.cell (i := 7) rfl
  have x8 := v0.cell (i := 8) rfl
  have x9 := v0.cell (i := 9) rfl
  have x10 := v0.cell (i := 10) rfl
  have x11 := v0.cell (i := 11) rfl
  have x12 := v0.cell (i := 12) rfl
  have x13 := v0.cell (i := 13) rfl
  go_wp2_with fail
  refine (HG _ b2).mono ?_
  rintro e w2 ⟨rfl, b3⟩
  have b4 := b2.trans (b3.mono b2.size)
  go_wp2_with fail
  go_ret
  exact ⟨rfl, b4⟩
theorem heldPairNil (w : World) :
    Calls Try.prog 17 #[.agg #[.slice none 0 0, .slice none 0 0, .string ⟨#[]⟩, .int .i64 0, .bool false, .bool false, .bool false, .slice none 0 0, .slice none 0 0, .string ⟨#[]⟩, .int .i64 0, .bool false, .bool false, .bool false], .int .i64 1] w fun x w' => x = .returned (.int .i64 (1)) ∧ Below w.heap.size w w' := by
  have v0 : Var 42 (w.alloc (.cells #[.slice none 0 0, .slice none 0 0, .string ⟨#[]⟩, .int .i64 0, .bool false, .bool false, .bool false, .slice none 0 0, .slice none 0 0, .string ⟨#[]⟩, .int .i64 0, .bool false, .bool false, .bool false] 42)) w.heap.size [.slice none 0 0, .slice none 0 0, .string ⟨#[]⟩, .int .i64 0, .bool false, .bool false, .bool false, .slice none 0 0, .slice none 0 0, .string ⟨#[]⟩, .int .i64 0, .bool false, .bool false, .bool false] := Var.new w _
  have b0 : Below w.heap.size w (w.alloc (.cells #[.slice none 0 0, .slice none 0 0, .string ⟨#[]⟩, .int .i64 0, .bool false, .bool false, .bool false, .slice none 0 0, .slice none 0 0, .string ⟨#[]⟩, .int .i64 0, .bool false, .bool false, .bool false] 42)) := (Below.refl _ _).alloc (Nat.le_refl _) _
  go_enter Try.func17, Try.ntmps17
  go_upto_region 1 with (fail)
  generalize (w.alloc (.cells #[.slice none 0 0, .slice none 0 0, .string ⟨#[]⟩, .int .i64 0, .bool false, .bool false, .bool false, .slice none 0 0, .slice none 0 0, .string ⟨#[]⟩, .int .i64 0, .bool false, .bool false, .bool false] 42)) = V at *
  have x0 := v0.cell (i := 0) rfl
  have x1 := v0.cell (i := 1) rfl
  have x2 := v0.cell (i := 2) rfl
  have x3 := v0.cell (i := 3) rfl
  have x4 := v0.cell (i := 4) rfl
  have x5 := v0.cell (i := 5) rfl
  have x6 := v0.cell (i := 6) rfl
  go_wp2_with fail
  refine (heldWorld0 none none 0 0 0 0 1 _ (.inl rfl) (.inl rfl) (by decide) (by decide) (by decide) (by decide)).mono ?_
  rintro e w1 ⟨rfl, b1⟩
  replace v0 := v0.later b1
  have b2 := b0.trans (b1.mono b0.size)
  clear b0 b1 x0 x1 x2 x3 x4 x5 x6
  have x7 := v0.cell (i := 7) rfl
  have x8 := v0.cell (i := 8) rfl
  have x9 := v0.cell (i := 9) rfl
  have x10 := v0.cell (i := 10) rfl
  have x11 := v0.cell (i := 11) rfl
  have x12 := v0.cell (i := 12) rfl
  have x13 := v0.cell (i := 13) rfl
  go_wp2_with fail
  refine (heldWorld0 none none 0 0 0 0 1 _ (.inl rfl) (.inl rfl) (by decide) (by decide) (by decide) (by decide)).mono ?_
  rintro e w2 ⟨rfl, b3⟩
  have b4 := b2.trans (b3.mono b2.size)
  go_wp2_with fail
  go_ret
  exact ⟨rfl, b4⟩
end Go.Proofs.Ytldghgadkncehaa.Lin

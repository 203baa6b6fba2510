/- Plain mathematics of a pace (chapter 9): of one measure again and again it is that, and a rest of three; no condition. -/
import Derived.Test.YtbmfnkdcbdkcdaaFrame
namespace Go.Proofs.Ytbmfnkdcbdkcdaa.Pac
set_option linter.unusedVariables false

/-- What one more measure makes of Mean and Spread. -/
def stepM (t : Int) (x : Int × Int) : Int × Int := if x.1 = 0 ∧ x.2 = 0 then (8 * t, 2 * t) else (x.1 + (t - x.1 / 8), x.2 + (if t - x.1 / 8 < 0 then -(t - x.1 / 8) else t - x.1 / 8) - x.2 / 4)
def iter {α : Type} (f : α → α) : Nat → α → α
  | 0, x => x
  | n + 1, x => f (iter f n x)
theorem iter_add {α : Type} (f : α → α) (m : Nat) : ∀ n x, iter f (n + m) x = iter f n (iter f m x)
  | 0, x => by rw [Nat.zero_add]; rfl
  | n + 1, x => by rw [Nat.succ_add]; exact congrArg f (iter_add f m n x)
def Fe (e : Int) : Int := e - e / 8
def Gs (s : Int) : Int := s - s / 4
theorem Fe_mono {a b : Int} (h : a ≤ b) : Fe a ≤ Fe b := by unfold Fe; omega
theorem Gs_mono {a b : Int} (h : a ≤ b) : Gs a ≤ Gs b := by unfold Gs; omega
theorem Fe_iter {a b : Int} (h : a ≤ b) : ∀ n, iter Fe n a ≤ iter Fe n b
  | 0 => h
  | n + 1 => Fe_mono (Fe_iter h n)
theorem Gs_iter {a b : Int} (h : a ≤ b) : ∀ n, iter Gs n a ≤ iter Gs n b
  | 0 => h
  | n + 1 => Gs_mono (Gs_iter h n)
theorem Fe_zero : ∀ n, iter Fe n 0 = 0
  | 0 => rfl
  | n + 1 => by show Fe (iter Fe n 0) = 0; rw [Fe_zero n]; rfl
theorem Gs_zero : ∀ n, iter Gs n 0 = 0
  | 0 => rfl
  | n + 1 => by show Gs (iter Gs n 0) = 0; rw [Gs_zero n]; rfl
theorem Fe_ends : 0 ≤ iter Fe 150 (-480000) ∧ iter Fe 150 480000 ≤ 7 := by
  have h1 : iter Fe 150 (-480000) = 0 := by kernel_rfl
  have h2 : iter Fe 150 480000 = 7 := by kernel_rfl
  omega
theorem Gs_end : iter Gs 150 480000 ≤ 3 := by
  have h1 : iter Gs 150 480000 = 3 := by kernel_rfl
  omega

structure Ok (t : Int) (x : Int × Int) : Prop where
  t0 : 0 ≤ t
  t1 : t ≤ 60000
  m0 : 0 ≤ x.1
  m1 : x.1 ≤ 480000
  s0 : 0 ≤ x.2
  s1 : x.2 ≤ 480000
theorem Ok.step {t : Int} {x : Int × Int} (h : Ok t x) : Ok t (stepM t x) := by
  obtain ⟨h1, h2, h3, h4, h5, h6⟩ := h
  unfold stepM
  split
  · constructor <;> (try dsimp only) <;> omega
  · constructor <;> (try dsimp only) <;> (try split) <;> omega
theorem Ok.iter {t : Int} {x : Int × Int} (h : Ok t x) : ∀ n, Ok t (Pac.iter (stepM t) n x)
  | 0 => h
  | n + 1 => (Ok.iter h n).step
theorem mean_in {t : Int} {x : Int × Int} (h : Ok t x) : ∀ n, Pac.iter Fe n (-480000) ≤ (Pac.iter (stepM t) n x).1 - 8 * t ∧ (Pac.iter (stepM t) n x).1 - 8 * t ≤ Pac.iter Fe n 480000
  | 0 => by
    obtain ⟨h1, h2, h3, h4, h5, h6⟩ := h
    constructor <;> show _ ≤ _ <;> simp only [Pac.iter] <;> omega
  | n + 1 => by
    have ih := mean_in h n
    have z1 := Fe_iter (a := -480000) (b := 0) (by omega) (n + 1)
    have z2 := Fe_iter (a := 0) (b := 480000) (by omega) (n + 1)
    rw [Fe_zero] at z1 z2
    have m1 := Fe_mono ih.1
    have m2 := Fe_mono ih.2
    have e1 : Pac.iter Fe (n + 1) (-480000) = Fe (Pac.iter Fe n (-480000)) := rfl
    have e2 : Pac.iter Fe (n + 1) 480000 = Fe (Pac.iter Fe n 480000) := rfl
    have e3 : Pac.iter (stepM t) (n + 1) x = stepM t (Pac.iter (stepM t) n x) := rfl
    rw [e3]
    generalize Pac.iter (stepM t) n x = y at *
    unfold stepM
    split
    · dsimp only; omega
    · rw [e1, e2]
      have : y.1 + (t - y.1 / 8) - 8 * t = Fe (y.1 - 8 * t) := by unfold Fe; omega
      dsimp only
      rw [this]
      exact ⟨m1, m2⟩
theorem rest_in {t : Int} {x : Int × Int} (h : Ok t x) (hx : x.1 / 8 = t) : ∀ n, (Pac.iter (stepM t) n x).1 / 8 = t ∧ (Pac.iter (stepM t) n x).2 ≤ Pac.iter Gs n 480000
  | 0 => ⟨hx, h.s1⟩
  | n + 1 => by
    obtain ⟨ih1, ih2⟩ := rest_in h hx n
    have z := Gs_iter (a := 0) (b := 480000) (by omega) (n + 1)
    rw [Gs_zero] at z
    have m := Gs_mono ih2
    have e2 : Pac.iter Gs (n + 1) 480000 = Gs (Pac.iter Gs n 480000) := rfl
    have e3 : Pac.iter (stepM t) (n + 1) x = stepM t (Pac.iter (stepM t) n x) := rfl
    rw [e3]
    generalize Pac.iter (stepM t) n x = y at *
    unfold stepM
    split
    · rename_i q
      have ht : t = 0 := by rw [← ih1, q.1]; rfl
      subst ht
      dsimp only
      constructor
      · rfl
      · omega
    · dsimp only
      have d0 : t - y.1 / 8 = 0 := by omega
      rw [d0, if_neg (by omega)]
      constructor
      · rw [Int.add_zero]; exact ih1
      · rw [e2]
        have : y.2 + 0 - y.2 / 4 = Gs y.2 := by unfold Gs; omega
        rw [this]; exact m
theorem steady {t : Int} {x : Int × Int} (h : Ok t x) : (Pac.iter (stepM t) 300 x).1 / 8 = t ∧ 0 ≤ (Pac.iter (stepM t) 300 x).2 ∧ (Pac.iter (stepM t) 300 x).2 ≤ 3 := by
  have e := iter_add (stepM t) 150 150 x
  have h1 := Ok.iter h 150
  have m := mean_in h 150
  have hx : (Pac.iter (stepM t) 150 x).1 / 8 = t := by have := Fe_ends; omega
  have r := rest_in h1 hx 150
  rw [← e] at r
  have g := Gs_end
  exact ⟨r.1, (Ok.iter h 300).s0, Int.le_trans r.2 g⟩

end Go.Proofs.Ytbmfnkdcbdkcdaa.Pac

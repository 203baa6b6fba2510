/- Plain mathematics of letters (chapter 3): numbers as bytes, the highest first, and back; no condition. -/
import Derived.Test.YtecgfnpniklhhaaSumA
namespace Go.Proofs.Ytecgfnpniklhhaa.Seg
set_option linter.unusedVariables false

/-- The byte that a number is modulo 256. -/
def low (n : Int) : UInt8 := UInt8.ofNat (n % 256).toNat
theorem low_nat (n : Int) : ((low n).toNat : Int) = n % 256 := by
  have : (n % 256).toNat < 256 := by omega
  simp [low, Nat.mod_eq_of_lt this]
  omega

/-- A number in w bytes, the highest first. -/
def numB (n : Int) : Nat → List UInt8
  | 0 => []
  | w + 1 => numB (n / 256) w ++ [low n]
theorem numB_len (n : Int) (w : Nat) : (numB n w).length = w := by
  induction w generalizing n with
  | zero => rfl
  | succ w ih => simp [numB, ih]
/-- The number of bytes, the highest first. -/
def readB (l : List UInt8) : Int := l.foldl (fun n b => 256 * n + (b.toNat : Int)) 0
theorem readB_snoc (l : List UInt8) (b : UInt8) : readB (l ++ [b]) = 256 * readB l + (b.toNat : Int) := by simp [readB]
theorem readB_low (l : List UInt8) (b : UInt8) (h : 0 ≤ readB l) : readB (l ++ [b]) / 256 = readB l ∧ low (readB (l ++ [b])) = b := by
  rw [readB_snoc]
  have hb := Sum.byte_bd b
  refine ⟨by omega, ?_⟩
  apply UInt8.toNat_inj.1
  have := low_nat (256 * readB l + (b.toNat : Int))
  omega
theorem snoc_ex (l : List UInt8) (h : 0 < l.length) : ∃ a b, l = a ++ [b] ∧ a.length + 1 = l.length := by
  refine ⟨l.dropLast, l.getLast (by intro e; simp [e] at h), (List.dropLast_concat_getLast _).symm, by simp; omega⟩
theorem readB_bd : ∀ (n : Nat) (l : List UInt8), l.length = n → 0 ≤ readB l ∧ readB l < 256 ^ n
  | 0, l, h => by
    have : l = [] := List.eq_nil_of_length_eq_zero h
    subst this
    simp [readB]
  | n + 1, l, h => by
    obtain ⟨a, b, rfl, hl⟩ := snoc_ex l (by omega)
    have ih := readB_bd n a (by omega)
    have hb := Sum.byte_bd b
    rw [readB_snoc, Int.pow_succ]
    omega
theorem num_read : ∀ (n : Nat) (l : List UInt8), l.length = n → numB (readB l) n = l
  | 0, l, h => by
    have : l = [] := List.eq_nil_of_length_eq_zero h
    subst this
    rfl
  | n + 1, l, h => by
    obtain ⟨a, b, rfl, hl⟩ := snoc_ex l (by omega)
    have h2 := readB_low a b (readB_bd n a (by omega)).1
    simp only [numB, h2.1, h2.2, num_read n a (by omega)]
theorem read_num : ∀ (w : Nat) (n : Int), 0 ≤ n → n < 256 ^ w → readB (numB n w) = n
  | 0, n, h0, h1 => by simp [numB, readB]; omega
  | w + 1, n, h0, h1 => by
    rw [numB, readB_snoc, low_nat, read_num w (n / 256) (by omega) (by rw [Int.pow_succ] at h1; omega)]
    omega
theorem numB_inj {w : Nat} {a b : Int} (h0 : 0 ≤ a) (h1 : a < 256 ^ w) (h2 : 0 ≤ b) (h3 : b < 256 ^ w) (h : numB a w = numB b w) : a = b := by
  rw [← read_num w a h0 h1, h, read_num w b h2 h3]

/-- What the head of a letter is, and the letter's bytes ahead of the sum. -/
def bodyL (f t : Int) (b : List UInt8) (e : Bool) (a r : Int) : List UInt8 :=
  numB f 4 ++ numB t 4 ++ numB a 4 ++ numB r 2 ++ numB (if e then 1 else 0) 1 ++ numB (b.length : Int) 1 ++ b
def showL (f t : Int) (b : List UInt8) (e : Bool) (a r : Int) : List UInt8 :=
  bodyL f t b e a r ++ numB (Sum.sumOf ⟨(bodyL f t b e a r).toArray⟩) 2
theorem bodyL_len (f t : Int) (b : List UInt8) (e : Bool) (a r : Int) : (bodyL f t b e a r).length = 16 + b.length := by simp [bodyL, numB_len]; omega
theorem showL_len (f t : Int) (b : List UInt8) (e : Bool) (a r : Int) : (showL f t b e a r).length = 18 + b.length := by simp [showL, bodyL_len, numB_len]; omega

end Go.Proofs.Ytecgfnpniklhhaa.Seg

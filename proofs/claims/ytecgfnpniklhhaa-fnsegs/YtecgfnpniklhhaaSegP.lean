/- Contracts of the program's small functions of chapter 3 (letters): withNumber, letterOf, seg, fits, SegOk, numberOfFlag, shown. -/
import Derived.Test.YtecgfnpniklhhaaSegC
import Derived.Lib.BufSteps
import Derived.Test.YtecgfnpniklhhaaDrawL
namespace Go.Proofs.Ytecgfnpniklhhaa.Seg
open Go.RowKit
set_option linter.unusedVariables false

def bytesV (l : List UInt8) : List Value := l.map fun b => Value.int .u8 (b.toNat : Int)
theorem bytesV_snoc (l : List UInt8) (b : UInt8) : bytesV l ++ [Value.int .u8 (b.toNat : Int)] = bytesV (l ++ [b]) := by simp [bytesV]
theorem pow_mod {n : Int} {m : Nat} : n / 256 ^ m / 256 = n / 256 ^ (m + 1) := by
  rw [Int.pow_succ, Int.ediv_ediv_of_nonneg (Int.le_of_lt (Int.pow_pos (by decide)))]
theorem num_up (n : Int) (m j : Nat) (l : List UInt8) : l ++ numB (n / 256 ^ (m + 1)) j ++ [low (n / 256 ^ m)] = l ++ numB (n / 256 ^ m) (j + 1) := by
  rw [numB, pow_mod, List.append_assoc]
theorem low_pow (n : Int) (m : Nat) : n / 2 ^ (8 * m) % 256 = ((low (n / 256 ^ m)).toNat : Int) := by rw [low_nat, Int.pow_mul]; rfl

set_option maxHeartbeats 1000000 in
theorem withNumber (v : Value) (l : List UInt8) (n : Int) (k : Nat) (kv : Int) (hkv : kv = (k : Int)) (B len : Nat) (w0 w : World) (hk : k ≤ 4) (hlen : len = l.length) (hl : l.length ≤ 1048700) (hb : Lib.OwnBuf B 5 v len (bytesV l) w0 w) :
    Calls Try.prog 28 #[v, .int .i64 n, .int .i64 kv] w fun e w' => ∃ v', e = .returned v' ∧ Lib.OwnBuf B 5 v' (len + k) (bytesV (l ++ numB n k)) w0 w' := by
  subst hkv hlen
  obtain ⟨i, hi, hz0, hz1, hz2⟩ := info_parts Draw.infoU8
  go_enter Try.func28, Try.ntmps28
  go_wp2_with fail
  go_loopw [0, 7] (fun v iv wr => ∃ (m j : Nat), m + j = k ∧ iv = .int .i64 ((m : Int) - 1) ∧ Lib.OwnBuf B 5 v (l.length + j) (bytesV (l ++ numB (n / 256 ^ m) j)) w0 wr) (fun _ iv _ => (intOf iv + 1).toNat)
  case atStart => exact ⟨k, 0, by omega, rfl, by simpa [numB] using hb⟩
  case round =>
    clear hb
    obtain ⟨m, j, hmj, rfl, hb⟩ := hrel
    cases m with
    | zero =>
      go_wp2_with fail
      go_ret
      have e : j = k := by omega
      subst e
      simp at hb
      exact ⟨_, rfl, hb⟩
    | succ m =>
      have e3 : (((m + 1 : Nat) : Int) - 1) = (m : Int) := by omega
      rw [e3]
      have hm : m ≤ 3 := by omega
      have hp : Hid _ := low_pow n m
      have hu : Hid _ := num_up n m j l
      have hjl : l.length + j + 1 ≤ 140737488355328 := by omega
      go_wp2_with (at_builtin; refine Lib.wpList_append_byte (by rfl) _ _ 22 (by rfl) B 5 i Try.underlying22 hi hz0 hz1 hz2 _ _ _ (by rfl) w0 wr _ hb (by rfl) hjl ?_; intro v1 w1 hb1)
      go_roundw
      case rel =>
        refine ⟨m, j + 1, by omega, rfl, ?_⟩
        rw [hp.out, bytesV_snoc, hu.out] at hb1
        exact hb1
      case measure => simp [intOf]

theorem agg5 {w w1 : World} {v0 v1 v2 v3 v4 : Value} {T : TypeId} (hB : Below (w.alloc (.cells #[v0, v1, v2, v3, v4] T)).heap.size (w.alloc (.cells #[v0, v1, v2, v3, v4] T)) w1) :
    w1.cell? ⟨w.heap.size, 0, none⟩ = some v0 ∧ w1.cell? ⟨w.heap.size, 1, none⟩ = some v1 ∧ w1.cell? ⟨w.heap.size, 2, none⟩ = some v2 ∧ w1.cell? ⟨w.heap.size, 3, none⟩ = some v3 ∧ w1.cell? ⟨w.heap.size, 4, none⟩ = some v4 := by
  have h : ∀ i, w1.cell? ⟨w.heap.size, i, none⟩ = (w.alloc (.cells #[v0, v1, v2, v3, v4] T)).cell? ⟨w.heap.size, i, none⟩ := fun i => hB.cell (p := ⟨w.heap.size, i, none⟩) (by show w.heap.size < (w.alloc _).heap.size; simp)
  refine ⟨(h 0).trans ?_, (h 1).trans ?_, (h 2).trans ?_, (h 3).trans ?_, (h 4).trans ?_⟩ <;> simp

set_option maxHeartbeats 1000000 in
theorem numberOfFlag (e : Bool) (w : World) : Calls Try.prog 40 #[.bool e] w fun x w' => x = .returned (.int .i64 (if e then 1 else 0)) ∧ w = w' := by
  cases e
  · go_enter Try.func40, Try.ntmps40
    go_wp2_with fail
    go_ret
    exact ⟨rfl, rfl⟩
  · go_enter Try.func40, Try.ntmps40
    go_wp2_with fail
    go_ret
    exact ⟨rfl, rfl⟩

set_option maxHeartbeats 1000000 in
theorem letterOf (f t : Int) (b : ByteArray) (e : Bool) (a r : Int) (w : World) :
    Calls Try.prog 14 #[.agg #[.int .i64 f, .int .i64 t, .string b, .bool e, .int .i64 a, .int .i64 r]] w fun x w' => x = .returned (.agg #[.int .i64 f, .int .i64 t, .int .i64 a, .int .i64 r, .bool e, .string b]) ∧ Below w.heap.size w w' := by
  go_enter Try.func14, Try.ntmps14
  go_wp2_with fail
  exact bodyPost_ret (v := .agg #[.int .i64 f, .int .i64 t, .int .i64 a, .int .i64 r, .bool e, .string b]) (by rw [Draw.results_cell1 rfl]; go_simp) rfl ⟨rfl, ((Below.refl _ _).alloc (Nat.le_refl _) _).alloc (by simp) _⟩

set_option maxHeartbeats 1000000 in
theorem letterSeg (f t : Int) (b : ByteArray) (e : Bool) (a r : Int) (w : World) :
    Calls Try.prog 21 #[.agg #[.int .i64 f, .int .i64 t, .int .i64 a, .int .i64 r, .bool e, .string b]] w fun x w' => x = .returned (.agg #[.int .i64 f, .int .i64 t, .string b, .bool e, .int .i64 a, .int .i64 r]) ∧ Below w.heap.size w w' := by
  go_enter Try.func21, Try.ntmps21
  go_wp2_with fail
  exact bodyPost_ret (v := .agg #[.int .i64 f, .int .i64 t, .string b, .bool e, .int .i64 a, .int .i64 r]) (by rw [Draw.results_cell1 rfl]; go_simp) rfl ⟨rfl, ((Below.refl _ _).alloc (Nat.le_refl _) _).alloc (by simp) _⟩

/-- Whether a head fits. -/
def fitB (f t a r : Int) : Bool := Num.mkB f && (Num.mkB t && (Num.mkB a && Sum.twB r))

set_option maxHeartbeats 1000000 in
theorem fits (f t a r : Int) (e : Bool) (w : World) :
    Calls Try.prog 24 #[.agg #[.int .i64 f, .int .i64 t, .int .i64 a, .int .i64 r, .bool e]] w fun x w' => x = .returned (.bool (fitB f t a r)) ∧ Below w.heap.size w w' := by
  have fin : ∀ {o : Obj}, Below w.heap.size w (w.alloc o) := fun {o} => (Below.refl _ _).alloc (Nat.le_refl _) o
  cases h1 : Num.mkB f
  · go_enter Try.func24, Try.ntmps24
    go_wp2_with (go_at_call 37; refine (Num.isMark _ _).mono ?_; rintro x w' ⟨rfl, rfl⟩)
    go_ret
    exact ⟨Sum.ret_bool (by simp [fitB, h1]), fin⟩
  · cases h2 : Num.mkB t
    · go_enter Try.func24, Try.ntmps24
      go_wp2_with (go_at_call 37; refine (Num.isMark _ _).mono ?_; rintro x w' ⟨rfl, rfl⟩)
      go_ret
      exact ⟨Sum.ret_bool (by simp [fitB, h2]), fin⟩
    · cases h3 : Num.mkB a
      · go_enter Try.func24, Try.ntmps24
        go_wp2_with (go_at_call 37; refine (Num.isMark _ _).mono ?_; rintro x w' ⟨rfl, rfl⟩)
        go_ret
        exact ⟨Sum.ret_bool (by simp [fitB, h3]), fin⟩
      · go_enter Try.func24, Try.ntmps24
        go_wp2_with (first | (go_at_call 37; refine (Num.isMark _ _).mono ?_; rintro x w' ⟨rfl, rfl⟩) | (go_at_call 38; refine (Sum.isPair _ _).mono ?_; rintro x w' ⟨rfl, rfl⟩))
        go_ret
        exact ⟨Sum.ret_bool (by simp [fitB, h1, h2, h3]), fin⟩
theorem ok_fit (f t : Int) (n : Nat) (a r : Int) : okB f t n a r = (fitB f t a r && decide ((n : Int) ≤ 40)) := by
  unfold okB fitB
  generalize Num.mkB f = A
  generalize Num.mkB t = B
  generalize Num.mkB a = C
  generalize Sum.twB r = D
  generalize decide ((n : Int) ≤ 40) = E
  revert A B C D E
  decide

set_option maxHeartbeats 1000000 in
theorem implSegOk (f t : Int) (b : ByteArray) (e : Bool) (a r : Int) (w : World) (hb : b.size ≤ 1048576) :
    Calls Try.prog 11 #[.agg #[.int .i64 f, .int .i64 t, .string b, .bool e, .int .i64 a, .int .i64 r]] w fun x w' => x = .returned (.bool (okB f t b.size a r)) ∧ Below w.heap.size w w' := by
  have HO : Hid _ := ok_fit f t b.size a r
  go_enter Try.func11, Try.ntmps11
  go_wp2_with fail
  refine (letterOf f t b e a r _).mono ?_
  rintro x w1 ⟨rfl, hB1⟩
  have hB01 : Below w.heap.size w w1 := ((Below.refl _ _).alloc (Nat.le_refl _) _).trans (hB1.mono (by simp))
  clear hB1
  go_wp2_with fail
  refine (fits f t a r e _).mono ?_
  rintro x w2 ⟨rfl, hB2⟩
  obtain ⟨c0, c1, c2, c3, c4, c5⟩ := agg6 hB2
  have hB02 : Below w.heap.size w w2 := (hB01.alloc hB01.size _).trans (hB2.mono (by have := hB01.size; simp; omega))
  clear hB2
  cases hf : fitB f t a r
  · go_wp2_with fail
    go_ret
    exact ⟨Sum.ret_bool (by rw [HO.out, hf]; rfl), hB02⟩
  · go_wp2_with fail
    go_ret
    exact ⟨Sum.ret_bool (by rw [HO.out, hf]; simp), hB02⟩

end Go.Proofs.Ytecgfnpniklhhaa.Seg

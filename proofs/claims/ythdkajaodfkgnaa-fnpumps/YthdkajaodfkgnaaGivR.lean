/- Givers (chapter 6), the program's side: a ring of bytes. -/
import Derived.Test.YthdkajaodfkgnaaGivP
import Derived.Test.YthdkajaodfkgnaaRowB
import Derived.Test.YthdkajaodfkgnaaDrawS
namespace Go.Proofs.Ythdkajaodfkgnaa.Giv
open Go.RowKit RowG
set_option linter.unusedVariables false
set_option linter.unusedSimpArgs false

def byteE : El UInt8 where
  enc b := [.int .u8 (b.toNat : Int)]
  size := 1
  len _ := rfl
  one p u hu := by
    simp at hu
    subst hu
    rfl
  pos := by decide
theorem typB : Typ Try.prog 22 5 byteE 1 := by
  refine ⟨Try.underlying22, ?_⟩
  obtain ⟨i, hi, hz0, hz1, hz2⟩ := info_parts Draw.infoU8
  exact ⟨i, .int .u8 0, hi, hz0, hz1, hz2, rfl⟩

/-- A ring at r, its n seats at ks: it holds C from place f on. -/
structure Ring (w : World) (r ks n : Nat) (f : Int) (C : List UInt8) : Prop where
  var : Var 114 w r [.slice (some ⟨ks, 0, none⟩) n n, .int .i64 f, .int .i64 (f + C.length)]
  row : ∃ L : List UInt8, L.length = n ∧ Draw.Row w ks L ∧ ∀ (i : Nat) (x : UInt8), C[i]? = some x → L[((f + i) % (n : Int)).toNat]? = some x
  le : C.length ≤ n
  f0 : 0 ≤ f
  ne : r ≠ ks
  kin : ks < w.heap.size
theorem Ring.same {w w' : World} {r ks n : Nat} {f : Int} {C : List UInt8} (h : Ring w r ks n f C) (e1 : w'.heap[r]? = w.heap[r]?) (e2 : w'.heap[ks]? = w.heap[ks]?) : Ring w' r ks n f C := by
  obtain ⟨L, l1, l2, l3⟩ := h.row
  refine ⟨h.var.same e1, ⟨L, l1, l2.same e2, l3⟩, h.le, h.f0, h.ne, ?_⟩
  have := h.kin
  rw [Array.getElem?_eq_getElem this] at e2
  exact (Array.getElem?_eq_some_iff.1 e2).1
theorem Ring.later {w w' : World} {r ks n : Nat} {f : Int} {C : List UInt8} (h : Ring w r ks n f C) (b : Below w.heap.size w w') : Ring w' r ks n f C :=
  h.same (b.block r h.var.lt) (b.block ks h.kin)

set_option maxRecDepth 10000 in
set_option maxHeartbeats 1000000 in
theorem seat (r ks n : Nat) (f : Int) (C : List UInt8) (w : World) (R : Ring w r ks n f C) (hn : 0 < n) (hn1 : n ≤ 400) (p : Int) (p0 : 0 ≤ p) (p1 : p ≤ 4611686018427387904) :
    Calls Try.prog 88 #[.pointer (some ⟨r, 0, none⟩), .int .i64 p] w fun x w' => x = .returned (.pointer (some ⟨ks, (p % (n : Int)).toNat, none⟩)) ∧ Below w.heap.size w w' := by
  have hmix := mix
  have e0 := R.var.cell (i := 0) rfl
  have d0 := Draw.Later.cell e0
  have hm0 : 0 ≤ p % (n : Int) := Int.emod_nonneg _ (by omega)
  have hm1 : p % (n : Int) < (n : Int) := Int.emod_lt_of_pos _ (by omega)
  have hnz : ¬ (n : Int) = 0 := by omega
  have ht : p.tmod (n : Int) = p % (n : Int) := Int.tmod_eq_emod_of_nonneg p0
  go_enter Try.func88, Try.ntmps88
  go_wp2_with fail
  refine Draw.wp_region_later hmix (by kernel_rfl) ?_
  repeat (go_big_quiet_step (fail))
  refine wpQuiet_nil ?_
  intro wq hw'
  obtain ⟨q9, hq⟩ := hw'
  have hBq := q9.h
  rw [← hq] at hBq
  go_wp2_with fail
  go_ret
  exact ⟨rfl, hBq⟩

theorem made_u8 (n : Nat) : (madeCells #[Value.int .u8 0] n).toList = (List.replicate n (0 : UInt8)).map fun b => Value.int .u8 (b.toNat : Int) := by
  apply List.ext_getElem
  · simp [madeCells]
  · intro i h1 h2
    have e : i % 1 = 0 := Nat.mod_one i
    simp [madeCells, e]
theorem made_row1 {w : World} {B g n cap : Nat} (h : w.ownsRow B 5 1 (.slice (some ⟨g, 0, none⟩) n cap) n (madeCells (Value.int .u8 0).cells (n * 1)).toList) : Draw.Row w g (List.replicate n 0) := by
  rw [Nat.mul_one] at h
  have h : w.ownsRow B 5 1 (.slice (some ⟨g, 0, none⟩) n cap) n (madeCells #[Value.int .u8 0] n).toList := h
  rw [made_u8] at h
  exact (Draw.Row.ofOwn h).2.2
/-- The text as bytes, with room for them. -/
theorem bytes_text (s : ByteArray) (w : World) : ∃ (cap : Nat) (w2 : World), (convert 9 22 (.string s)).run Try.prog w = .ok (.slice (some ⟨w.heap.size, 0, none⟩) s.size cap) w2 ∧ Draw.Row w2 w.heap.size s.data.toList ∧ Below w.heap.size w w2 ∧ w2.heap.size = w.heap.size + 1 ∧ s.size ≤ cap := by
  obtain ⟨cap, w2, h1, h2, h3, h4⟩ := Draw.byteRow_text s w
  refine ⟨cap, w2, h1, h2, h3, h4, ?_⟩
  have e := run_bytes_of_string w 9 22 5 s Try.underlying9 Try.underlying22 Try.underlying5
  rw [e] at h1
  injection h1 with h1 _
  injection h1 with _ _ h1
  rw [← h1]
  exact grownCap_ge _ _ _ _
theorem idx_ne {n : Nat} {f : Int} {i c : Nat} (h1 : i < c) (h2 : c < n) (h0 : 0 ≤ f) : ((f + i) % (n : Int)).toNat ≠ ((f + c) % (n : Int)).toNat := by
  intro e
  have a0 : 0 ≤ (f + i) % (n : Int) := Int.emod_nonneg _ (by omega)
  have b0 : 0 ≤ (f + c) % (n : Int) := Int.emod_nonneg _ (by omega)
  have e2 : (f + i) % (n : Int) = (f + c) % (n : Int) := by omega
  have e3 : ((f + c) - (f + i)) % (n : Int) = 0 := Int.emod_eq_emod_iff_emod_sub_eq_zero.1 e2.symm
  rw [show (f + (c : Int)) - (f + i) = ((c - i : Nat) : Int) by omega, Int.emod_eq_of_lt (by omega) (by omega)] at e3
  omega
/-- One byte more behind what the ring holds. -/
theorem Ring.push {w : World} {r ks n : Nat} {f : Int} {C : List UInt8} (h : Ring w r ks n f C) (hc : C.length < n) (x : UInt8) :
    Ring ((w.setCell ⟨ks, ((f + C.length) % (n : Int)).toNat, none⟩ (.int .u8 (x.toNat : Int))).setCell ⟨r, 2, none⟩ (.int .i64 (f + C.length + 1))) r ks n f (C ++ [x]) := by
  obtain ⟨L, l1, l2, l3⟩ := h.row
  have hj : ((f + C.length) % (n : Int)).toNat < L.length := by
    have a0 : 0 ≤ (f + C.length) % (n : Int) := Int.emod_nonneg _ (by omega)
    have a1 : (f + C.length) % (n : Int) < n := Int.emod_lt_of_pos _ (by omega)
    omega
  refine ⟨?_, ⟨L.set ((f + C.length) % (n : Int)).toNat x, by simpa using l1, ?_, ?_⟩, by simp; omega, h.f0, h.ne, by simpa using h.kin⟩
  · have := (h.var.other (p := ⟨ks, ((f + C.length) % (n : Int)).toNat, none⟩) h.ne (.int .u8 (x.toNat : Int))).set 2 (.int .i64 (f + C.length + 1))
    have e : f + ((C ++ [x]).length : Int) = f + C.length + 1 := by simp; omega
    rw [e]
    exact this
  · exact (l2.set _ hj x).same (Below.heap_setCell _ _ _ _ (fun q => h.ne q.symm))
  · intro i y hy
    by_cases hi : i < C.length
    · rw [List.getElem?_append_left hi] at hy
      rw [List.getElem?_set_ne (fun q => idx_ne hi hc h.f0 q.symm)]
      exact l3 i y hy
    · have hi2 : i = C.length := by
        have := (List.getElem?_eq_some_iff.1 hy).1
        simp at this
        omega
      subst hi2
      have : y = x := by simpa using hy.symm
      subst this
      rw [List.getElem?_set_self hj]
theorem Ring.get {w : World} {r ks n : Nat} {f : Int} {C : List UInt8} (h : Ring w r ks n f C) {i : Nat} {x : UInt8} (hx : C[i]? = some x) : w.cell? ⟨ks, ((f + i) % (n : Int)).toNat, none⟩ = some (.int .u8 (x.toNat : Int)) := by
  obtain ⟨L, l1, l2, l3⟩ := h.row
  obtain ⟨hj, e⟩ := List.getElem?_eq_some_iff.1 (l3 i x hx)
  rw [(l2 _ hj).1, e]
theorem Ring.seatFree {w : World} {r ks n : Nat} {f : Int} {C : List UInt8} (h : Ring w r ks n f C) {p : Int} (hn : 0 < n) : ∃ b : UInt8, w.cell? ⟨ks, (p % (n : Int)).toNat, none⟩ = some (.int .u8 (b.toNat : Int)) ∧ w.frozen? ⟨ks, (p % (n : Int)).toNat, none⟩ = false := by
  obtain ⟨L, l1, l2, l3⟩ := h.row
  have hj : (p % (n : Int)).toNat < L.length := by
    have a0 : 0 ≤ p % (n : Int) := Int.emod_nonneg _ (by omega)
    have a1 : p % (n : Int) < n := Int.emod_lt_of_pos _ (by omega)
    omega
  exact ⟨_, l2 _ hj⟩

set_option maxRecDepth 10000 in
set_option maxHeartbeats 1000000 in
theorem newRing (n : Nat) (nv f : Int) (hnv : nv = (n : Int)) (w : World) (hn : n ≤ 400) (f0 : 0 ≤ f) :
    Calls Try.prog 87 #[.int .i64 nv, .int .i64 f] w fun x w' => ∃ r ks, x = .returned (.pointer (some ⟨r, 0, none⟩)) ∧ Ring w' r ks n f [] ∧ w.heap.size ≤ r ∧ w.heap.size ≤ ks ∧ Below w.heap.size w w' := by
  subst hnv
  obtain ⟨i, hi, hz0, hz1, hz2⟩ := info_parts Draw.infoU8
  have hby : i.bytes * n ≤ 281474976710656 := by rw [hz2]; omega
  have hmx : n ≤ maxLen := by unfold maxLen; omega
  go_enter Try.func87, Try.ntmps87
  go_wp2_with (at_make; refine wpList_make_full _ (by rfl) _ _ 22 (by rfl) w.heap.size 5 i (.int .u8 0) 1 Try.underlying22 hi hz0 hz1 .i64 .i64 _ _ n (by rfl) (by rfl) rfl rfl hby hmx (Nat.le_refl _) ?_; intro wg hown hgrow)
  have hrow := made_row1 hown
  have hg : Below w.heap.size w wg := ⟨hgrow.os, hgrow.tape, hgrow.output, hgrow.size, fun k hk => hgrow.block k hk (by simp)⟩
  go_ret
  have hlt : w.heap.size < wg.heap.size := (hown.lt w.heap.size rfl).2
  refine ⟨wg.heap.size, w.heap.size, rfl, ⟨?_, ⟨List.replicate n 0, by simp, ?_, fun i x hx => by simp at hx⟩, Nat.zero_le _, f0, by omega, by simp; omega⟩, by omega, Nat.le_refl _, hg.alloc hg.size _⟩
  · have := Var.new (T := 114) wg [.slice (some ⟨w.heap.size, 0, none⟩) n n, .int .i64 f, .int .i64 f]
    have e : f + (([] : List UInt8).length : Int) = f := by simp
    rw [e]
    exact this
  · exact hrow.same (Below.heap_alloc _ _ _ hlt)

/-- How many of them find a seat. -/
def fitR (n : Nat) (C S : List UInt8) : Nat := min S.length (n - C.length)

set_option maxRecDepth 10000 in
set_option maxHeartbeats 4000000 in
theorem puts (r ks n : Nat) (f : Int) (C S : List UInt8) (g m cap B : Nat) (w : World) (R : Ring w r ks n f C) (hn1 : n ≤ 400) (hf : f ≤ 1000000000) (hrow : Draw.Row w g S) (hm : m = S.length) (hcap : m ≤ cap) (hm1 : m ≤ 2097152) (hgr : g ≠ r) (hgk : g ≠ ks) (hB : B ≤ w.heap.size) (hBr : B ≤ r) (hBk : B ≤ ks) :
    Calls Try.prog 80 #[.pointer (some ⟨r, 0, none⟩), .slice (some ⟨g, 0, none⟩) m cap] w fun x w' => x = .returned (.int .i64 (fitR n C S)) ∧ Ring w' r ks n f (C ++ S.take (fitR n C S)) ∧ Below B w w' := by
  have hmix := mix
  subst hm
  have hle := R.le
  have f0 := R.f0
  have e0 := R.var.cell (i := 0) rfl
  have e1 := R.var.cell (i := 1) rfl
  have e2 := R.var.cell (i := 2) rfl
  have d0 := Draw.Later.cell e0
  have d1 := Draw.Later.cell e1
  have d2 := Draw.Later.cell e2
  have hfc : f + (C.length : Int) - f = C.length := by omega
  obtain ⟨t, ht⟩ : ∃ t, fitR n C S = t := ⟨_, rfl⟩
  have t1 : t ≤ S.length := by rw [← ht]; unfold fitR; omega
  have t2 : C.length + t ≤ n := by rw [← ht]; unfold fitR; omega
  have HT : Hid ((t : Int) = min (S.length : Int) ((n : Int) - C.length)) := by show _ = _; rw [← ht]; unfold fitR; omega
  rw [ht]
  clear ht
  go_enter Try.func80, Try.ntmps80
  go_wp2_with fail
  refine Draw.wp_region_later hmix (by kernel_rfl) ?_
  repeat (go_big_quiet_step (fail))
  refine wpQuiet_nil ?_
  intro wq hw'
  obtain ⟨q9, hq⟩ := hw'
  have hBq := q9.h
  rw [← hq] at hBq
  replace R := R.later hBq
  replace hrow : Draw.Row wq g S := fun j hj => by
    have hk : g < w.heap.size := hrow.lt (by omega)
    exact (hrow.below hBq hk) j hj
  have b1 : Below B w wq := hBq.mono hB
  have hB2 : B ≤ wq.heap.size := Nat.le_trans hB hBq.size
  clear hq q9 hBq d0 d1 d2 e0 e1 e2
  go_upto_region 2 with (fail)
  go_cut [6] from 24 (fun v wr => v = .int .i64 (t : Int) ∧ wr = wq)
  case first =>
    go_wp2_with fail
    all_goals go_meet
    all_goals exact ⟨congrArg (Value.int .i64) (by have := HT.out; omega), rfl⟩
  case rest =>
    obtain ⟨rfl, rfl⟩ := hcut
    have q0 : (0 : Int) ≤ (t : Int) := by omega
    have q1 : (t : Int) ≤ (cap : Int) := by omega
    have q2 : t ≤ cap := by omega
    go_wp2_with fail
    go_loopw [32] (fun iv wr => ∃ i : Nat, i ≤ t ∧ iv = .int .i64 i ∧ Ring wr r ks n f (C ++ S.take i) ∧ Draw.Row wr g S ∧ Below B w wr) (fun iv _ => t - (intOf iv).toNat)
    case atStart => exact ⟨0, Nat.zero_le _, rfl, by simpa using R, hrow, b1⟩
    case round =>
      clear R hrow b1
      obtain ⟨i, hi, rfl, R, hrow, hb⟩ := hrel
      by_cases hlt : i < t
      case pos =>
        have hiS : i < S.length := by omega
        obtain ⟨x, hx⟩ : ∃ x, S[i] = x := ⟨_, rfl⟩
        have hrc := (hrow i hiS).1
        rw [hx] at hrc
        have hlen : (C ++ S.take i).length = C.length + i := by simp; omega
        have e2 := R.var.cell (i := 2) rfl
        have y2 := R.var.free 2
        rw [hlen] at e2
        have hS := fun w' (R' : Ring w' r ks n f (C ++ S.take i)) => seat r ks n f (C ++ S.take i) w' R' (by omega) hn1 (f + (C.length + i : Nat)) (by omega) (by omega)
        have hS2 := fun w' (R' : Ring w' r ks n f (C ++ S.take i)) => R'.seatFree (p := f + ((C.length + i : Nat) : Int)) (by omega)
        have hP := fun w' (R' : Ring w' r ks n f (C ++ S.take i)) => R'.push (by rw [hlen]; omega) x
        have z0 : 0 ≤ f + ((C.length + i : Nat) : Int) := by omega
        have z1 : f + ((C.length + i : Nat) : Int) ≤ 2000000000 := by omega
        rw [hlen] at hP
        obtain ⟨q, hq⟩ : ∃ q : Int, f + ((C.length + i : Nat) : Int) = q := ⟨_, rfl⟩
        obtain ⟨j, hj⟩ : ∃ j : Nat, (q % (n : Int)).toNat = j := ⟨_, rfl⟩
        rw [hq] at hS hS2 hP e2 z0 z1
        rw [hj] at hS hS2 hP
        have HX : Hid _ := hx
        have HQ : Hid _ := hq
        have HLEN : Hid _ := hlen
        clear hx hlen hq hj
        have i1 : (i : Int) < (t : Int) := by omega
        go_wp2_with fail
        refine (hS _ R).mono ?_
        rintro v w3 ⟨rfl, b3⟩
        have R3 := R.later b3
        have P := hP _ R3
        have v4 := R3.var.other (p := ⟨ks, j, none⟩) R3.ne (.int .u8 (x.toNat : Int))
        have r4 : Draw.Row (w3.setCell ⟨ks, j, none⟩ (.int .u8 (x.toNat : Int))) g S := fun j hj => by
          have hk : g < wr.heap.size := hrow.lt (by omega)
          exact ((hrow.below b3 hk).same (Below.heap_setCell _ _ _ _ hgk)) j hj
        have B3 : Below B w (w3.setCell ⟨ks, j, none⟩ (.int .u8 (x.toNat : Int))) := (hb.trans (b3.mono (Nat.le_trans hB hb.size))).setCell hBk _
        obtain ⟨xb, c3, y3⟩ := hS2 _ R3
        rw [HLEN.out, HQ.out] at v4
        clear R R3 hrow hb b3 e2 y2 hrc hS hS2 hP
        go_upto_region 7 with (fail)
        generalize w3.setCell ⟨ks, j, none⟩ (.int .u8 (x.toNat : Int)) = W4 at *
        clear c3 y3
        have e2 := v4.cell (i := 2) rfl
        have y2 := v4.free 2
        go_wp2_with fail
        go_roundw
        case rel =>
          refine ⟨i + 1, hlt, by go_num, ?_, ?_, ?_⟩
          · rw [show S.take (i + 1) = S.take i ++ [x] by rw [List.take_add_one, List.getElem?_eq_getElem hiS, HX.out]; rfl, ← List.append_assoc]
            exact P
          · exact fun j hj => (r4.same (Below.heap_setCell _ _ _ _ hgr)) j hj
          · exact B3.setCell hBr _
        case measure => simp [intOf]; omega
      case neg =>
        have hit : i = t := by omega
        subst hit
        go_wp2_with fail
        go_ret
        exact ⟨rfl, R, hb⟩

end Go.Proofs.Ythdkajaodfkgnaa.Giv

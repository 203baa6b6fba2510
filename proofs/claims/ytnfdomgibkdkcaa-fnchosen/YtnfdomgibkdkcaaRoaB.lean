/- Contracts of the specification's Turn, Used, OpenOnes (chapter 10); lists of at most 2^21 roads. -/
import Derived.Test.YtnfdomgibkdkcaaRoaA
namespace Go.Proofs.Ytnfdomgibkdkcaa.Roa
open Go.RowKit RowG
set_option linter.unusedVariables false
set_option linter.unusedSimpArgs false

/-- Is there a road r? -/
def hasB (l : List Rd) (r : Int) : Bool := decide (0 ≤ r ∧ r < (l.length : Int))
def turnB (l : List Rd) (r : Int) (o : Bool) : Bool := roadsB l && (hasB l r && ((at' l r.toNat).op != o))
def turnL (l : List Rd) (r : Int) (o : Bool) : List Rd := if roadsB l then (if turnB l r o then l.set r.toNat { at' l r.toNat with op := o } else l) else []
def usedB (l : List Rd) (r : Int) : Bool := roadsB l && (hasB l r && ((at' l r.toNat).se != 1000000000))
def usedR (x : Rd) (lost : Bool) : Rd := ⟨x.op, x.co, x.se + 1, if lost then x.lo + 1 else x.lo⟩
def usedL (l : List Rd) (r : Int) (lost : Bool) : List Rd := if roadsB l then (if usedB l r then l.set r.toNat (usedR (at' l r.toNat) lost) else l) else []
/-- The numbers of those that are open, rising. -/
def openN : Nat → List Rd → List Int
  | _, [] => []
  | k, x :: l => if x.op then (k : Int) :: openN (k + 1) l else openN (k + 1) l
def openL (l : List Rd) : List Int := if roadsB l then openN 0 l else []
theorem openN_append : ∀ (l l' : List Rd) (k : Nat), openN k (l ++ l') = openN k l ++ openN (k + l.length) l'
  | [], l', k => by simp [openN]
  | x :: l, l', k => by
    have := openN_append l l' (k + 1)
    simp only [List.cons_append, openN, List.length_cons]
    rw [this, show k + 1 + l.length = k + (l.length + 1) by omega]
    split <;> simp
theorem take_at {l : List Rd} {k : Nat} (h : k < l.length) : l.take (k + 1) = l.take k ++ [at' l k] := by
  rw [List.take_add_one, at_some h]
  rfl
theorem openN_step {l : List Rd} {k : Nat} (h : k < l.length) : openN 0 (l.take (k + 1)) = openN 0 (l.take k) ++ (if (at' l k).op then [(k : Int)] else []) := by
  rw [take_at h, openN_append, List.length_take, Nat.min_eq_left (by omega)]
  simp [openN]
theorem openN_len : ∀ (l : List Rd) (k : Nat), (openN k l).length ≤ l.length
  | [], k => by simp [openN]
  | x :: l, k => by
    have := openN_len l (k + 1)
    simp only [openN, List.length_cons]
    split
    · simp only [List.length_cons]; omega
    · omega

/-- A row of numbers. -/
def EI : El Int where
  enc n := [.int .i64 n]
  size := 1
  len _ := rfl
  one x u hu := by simp at hu; rw [hu]; rfl
  pos := by decide
theorem infoInt : (Try.prog.info? 2).map (fun i => (i.zero, i.size, i.bytes)) = some (some (.int .i64 0), 1, 8) := by kernel_rfl
theorem tyI : Typ Try.prog 32 2 EI 8 := ⟨Try.underlying32, by
  obtain ⟨i, hi, h0, h1, h2⟩ := info_parts infoInt
  exact ⟨i, _, hi, h0, h1, h2, rfl⟩⟩
def OwnI (w : World) (B g c : Nat) (l : List Int) : Prop := EI.Own 2 w B (some ⟨g, 0, none⟩) c l
theorem ownI_empty (w : World) : EI.Own 2 (w.alloc (.cells #[] 2)) w.heap.size (some ⟨w.heap.size, 0, none⟩) 0 [] := El.Own.made w
theorem tne : (2 : Nat) ≠ 36 := by decide
theorem tne' : (36 : Nat) ≠ 2 := by decide

set_option maxHeartbeats 2000000 in
theorem specOpenOnes (a : Option Addr) (n cap : Nat) (l : List Rd) (w : World) (hn : n = l.length) (h : E.Lies w a l) (hl : l.length ≤ 2097152) :
    Calls Try.prog 19 #[.slice a n cap] w fun x w' => ∃ g c, x = .returned (.slice (some ⟨g, 0, none⟩) (openL l).length c) ∧ OwnI w' w.heap.size g c (openL l) ∧ Below w.heap.size w w' := by
  subst hn
  have b0 : Below w.heap.size w (w.alloc (.cells #[] 2)) := (Below.refl _ _).alloc (Nat.le_refl _) _
  have o0 := ownI_empty w
  have hL : ∀ k, (openN 0 (l.take k)).length ≤ k := fun k => by have := openN_len (l.take k) 0; rw [List.length_take] at this; omega
  have HL : Hid _ := hL
  clear hL
  go_enter Try.func19, Try.ntmps19
  go_wp2_with fail
  go_loopw [3, 4] (fun v iv wr => ∃ (k g c : Nat) (out : List Int), k ≤ l.length ∧ iv = .int .i64 k ∧ v = .slice (some ⟨g, 0, none⟩) out.length c ∧ Hid (out = openN 0 (l.take k)) ∧ Hid (0 < k → roadsB l = true) ∧ EI.Own 2 wr w.heap.size (some ⟨g, 0, none⟩) c out ∧ Below w.heap.size w wr) (fun _ iv _ => l.length - (intOf iv).toNat)
  case atStart => exact ⟨0, _, 0, [], Nat.zero_le _, rfl, rfl, by show _ = _; simp [openN], fun q => absurd q (by omega), o0, b0⟩
  case round =>
    clear o0 b0
    obtain ⟨k, g, c, out, hk, rfl, rfl, hout, hyes, o1, b1⟩ := hrel
    by_cases hlt : k < l.length
    · have i0 : (0 : Int) ≤ (k : Int) := by omega
      have i1 : (k : Int) < (l.length : Int) := by omega
      have h1 := h.later b1
      go_wp2_with fail
      refine (specRoadsOk _ _ _ l _ rfl h1 hl).mono ?_
      rintro x w2 ⟨rfl, b2⟩
      have h2 := h1.later b2
      have o2 := o1.later b2
      have B2 := b1.trans (b2.mono b1.size)
      clear h1 o1 b2 b1
      cases hok : roadsB l
      · have hk0 : k = 0 := by
          rcases Nat.eq_zero_or_pos k with e | e
          · exact e
          · have := hyes.out e; rw [hok] at this; cases this
        subst hk0
        have hout0 : out = [] := by rw [hout.out]; simp [openN]
        subst hout0
        have e1 : openL l = [] := by simp [openL, hok]
        go_wp2_with fail
        go_ret
        exact ⟨g, c, by rw [e1]; rfl, by rw [e1]; exact o2, B2⟩
      · rcases h2 with hs | ⟨b, off, rfl, hs⟩
        · simp [hs] at hlt
        obtain ⟨c0, _, _, _⟩ := cells4 hs hlt
        have hst := openN_step hlt
        have HS : Hid _ := hst
        have hol : out.length ≤ k := by rw [hout.out]; exact HL.out k
        clear hs hst
        have HOK : Hid (roadsB l = true) := hok
        clear hok
        cases hop : (at' l k).op
        · rw [hop] at c0
          have HF : Hid (out = openN 0 (l.take (k + 1))) := by show _ = _; rw [HS.out, hop, hout.out]; simp
          clear HS hout
          go_wp2_with fail
          go_roundw
          case rel => exact ⟨k + 1, g, c, out, by omega, by go_num, rfl, HF, fun _ => HOK.out, o2, B2⟩
          case measure => simp [intOf]; omega
        · rw [hop] at c0
          have HF : Hid (out ++ [(k : Int)] = openN 0 (l.take (k + 1))) := by show _ = _; rw [HS.out, hop, hout.out]; simp
          clear HS hout
          have n2 : w.heap.size ≤ (w2.alloc (.cells #[.int .i64 (k : Int)] 2)).heap.size := by have := B2.size; simp; omega
          have q2 := o2.alloc (.cells #[.int .i64 (k : Int)] 2)
          have L2 : EI.Lies (w2.alloc (.cells #[.int .i64 (k : Int)] 2)) (some ⟨w2.heap.size, 0, none⟩) [(k : Int)] := El.lies_new rfl
          go_wp2_with (at_builtin; refine wpList_appS tyI (by decide) (by rfl) _ _ (by rfl) w.heap.size g c _ out [(k : Int)] rfl (by rfl) q2 n2 (some ⟨w2.heap.size, 0, none⟩) 1 1 rfl (by rfl) L2 (fun e => by cases e) (by simp only [List.length_cons, List.length_nil]; omega) ?_; intro g1 c1 w3 q3 gr3)
          have b3 : Below w.heap.size w w3 := grown_below (B2.alloc B2.size _) (Nat.le_refl _) (fun j hj => by cases hj; exact (o2.lt _ rfl).1) gr3
          have hlen : (out ++ [(k : Int)]).length = out.length + 1 := by simp
          go_roundw
          case rel => exact ⟨k + 1, g1, c1, out ++ [(k : Int)], by omega, by go_num, by rw [hlen], HF, fun _ => HOK.out, q3, b3⟩
          case measure => simp [intOf]; omega
    · have hkl : l.take k = l := List.take_of_length_le (by omega)
      have i1 : ¬ (k : Int) < (l.length : Int) := by omega
      have HF : Hid (openL l = out) := by
        show _ = _
        rw [hout.out, hkl, openL]
        rcases Nat.eq_zero_or_pos k with e | e
        · have : l = [] := List.eq_nil_of_length_eq_zero (by omega)
          subst this
          split <;> rfl
        · rw [if_pos (hyes.out e)]
      clear hout
      go_wp2_with fail
      go_ret
      exact ⟨g, c, by rw [HF.out]; rfl, by rw [HF.out]; exact o1, b1⟩

end Go.Proofs.Ytnfdomgibkdkcaa.Roa

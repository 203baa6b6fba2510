/- Contracts of this seat's functions, and their mathematics (TakQ). -/
import Derived.Test.YtldghgadkncehaaM10
import Derived.Shelf.Abstract
import Derived.Shelf.RegionOpen
import Derived.WalkKit
import Derived.OwnWalkIn
import Derived.TacticsInMore
import Derived.LoopNIn
import Derived.LoopIn
set_option linter.unusedVariables false
set_option linter.unusedSimpArgs false
set_option maxRecDepth 100000
set_option maxHeartbeats 4000000
namespace Go.Proofs.Ytldghgadkncehaa.Tak
open Go.RowKit RowG Rng
attribute [local go_sem] Oper.semAt_some
/-- Each part, and where what lies ahead of it ends. -/
def pairs : Int → List Pt → List (Int × Pt)
  | _, [] => []
  | b, p :: l => (b, p) :: pairs (endP p) l
def behAt : Int → List Pt → Nat → Int
  | b, _, 0 => b
  | b, [], _ + 1 => b
  | _, p :: l, k + 1 => behAt (endP p) l k
theorem behAt_succ : ∀ (b : Int) (l : List Pt) (k : Nat) (p : Pt), l[k]? = some p → behAt b l (k + 1) = endP p
  | b, [], k, p, h => by simp at h
  | b, q :: l, 0, p, h => by
    have e : q = p := by simpa using h
    subst e
    cases l <;> rfl
  | b, q :: l, k + 1, p, h => by
    have e : l[k]? = some p := by simpa using h
    have := behAt_succ (endP q) l k p e
    simpa [behAt] using this
theorem pairs_at : ∀ (b : Int) (l : List Pt) (k : Nat) (p : Pt), l[k]? = some p → (pairs b l)[k]? = some (behAt b l k, p)
  | b, [], k, p, h => by simp at h
  | b, q :: l, 0, p, h => by
    have e : q = p := by simpa using h
    subst e
    rfl
  | b, q :: l, k + 1, p, h => by
    have e : l[k]? = some p := by simpa using h
    simpa [pairs, behAt] using pairs_at (endP q) l k p e
theorem pairs_len : ∀ (b : Int) (l : List Pt), (pairs b l).length = l.length
  | _, [] => rfl
  | _, p :: l => by simp [pairs, pairs_len (endP p) l]
def encQ (x : Int × Pt) : Array Value := #[.int .i64 x.1, .agg #[.int .i64 x.2.1, .string x.2.2]]
theorem lies_lt {α : Type} {E : El α} {w : World} {a : Option Addr} {l : List α} (h : E.Lies w a l) (hl : l ≠ []) : ∀ x, a = some x → x.block < w.heap.size := by
  rcases h with e | ⟨b, off, rfl, hc⟩
  · exact absurd e hl
  · intro x hx
    cases hx
    cases hv : E.vals l with
    | nil =>
      have e := E.vals_len l
      rw [hv] at e
      have := E.pos
      cases l with
      | nil => exact absurd rfl hl
      | cons y r => simp [Nat.succ_mul] at e; omega
    | cons u r => exact Draw.lt_of_cell (hc 0 u (by rw [hv]; rfl))
theorem partsFrom (nx : Int) (a : Option Addr) (n c : Nat) (w : World) :
    Calls Try.prog 120 #[.int .i64 nx, .slice a n c] w fun e w' => e = .returned (.func (.func 126) #[] #[.pointer (some ⟨w.heap.size, 0, none⟩), .pointer (some ⟨w.heap.size + 1, 0, none⟩)]) ∧
      w' = (w.alloc (.cells #[.int .i64 nx] 2)).alloc (.cells #[.slice a n c] 80) := by
  go_enter Try.func120, Try.ntmps120
  go_wp2_with fail
  go_ret
  exact ⟨rfl, rfl⟩
theorem partsFrom1 (nx : Int) (a : Option Addr) (c : Nat) (l : List Pt) (bn bp : Nat) (mine : Nat → Obj → Prop) (w : World)
    (hbn : Var 2 w bn [.int .i64 nx]) (hbp : Var 80 w bp [.slice a l.length c]) (hL : partE.Lies w a l) (hl : l.length ≤ 2097152) (hp : Bd l)
    (hrow : l ≠ [] → ∀ x, a = some x → ∀ o, ¬ mine x.block o) (hnew : ∀ k v0 v1, w.heap.size ≤ k → ¬ mine k (.cells #[v0, v1] 136 (0, 0))) :
    Gives Try.prog 126 #[.pointer (some ⟨bn, 0, none⟩), .pointer (some ⟨bp, 0, none⟩)] encQ (pairs nx l) mine w := by
  intro lp J Jx W hW hW2 stJ stJx hY h0
  have n0 : W.cell? ⟨bn, 0, none⟩ = some (.int .i64 nx) := (hbn.later hW).cell rfl
  have p0 : W.cell? ⟨bp, 0, none⟩ = some (.slice a l.length c) := (hbp.later hW).cell rfl
  have hLW : Hid (partE.Lies W a l) := hL.later hW
  have hsz : Hid (w.heap.size ≤ W.heap.size) := hW.size
  have hY' : Hid _ := hY
  have hlen : Hid _ := pairs_len nx l
  clear hL hW hbn hbp hY hW2
  show CallsIn Fence.wide 0 Try.prog 126 #[.func (.yield lp) #[] #[], .pointer (some ⟨bn, 0, none⟩), .pointer (some ⟨bp, 0, none⟩)] W _
  refine callsIn_of_wp Try.func126 rfl trivial ?_ rfl
  simp only [Try.ntmps126, List.size_toArray, List.length_cons, List.length_nil, Nat.reduceAdd, Nat.reduceSub, Array.replicate_succ, Array.replicate_zero, List.push_toArray, List.append_toArray, List.nil_append, List.cons_append]
  gi_wp2
  gi_loopw [4, 10] (fun b i wr => ∃ k : Nat, k ≤ l.length ∧ b = .int .i64 (behAt nx l k) ∧ i = .int .i64 k ∧ J k wr ∧ partE.Lies wr a l ∧ W.heap.size ≤ wr.heap.size)
    (fun b i _ => l.length - (intOf i).toNat)
  case atStart => exact ⟨0, Nat.zero_le _, by cases l <;> rfl, rfl, h0, hLW.out, Nat.le_refl _⟩
  case round =>
    obtain ⟨k, hk, rfl, rfl, hJ, hLr, hsr⟩ := hrel
    by_cases hlt : k < l.length
    · obtain ⟨⟨pa, pb⟩, hx⟩ : ∃ x, l[k]? = some x := ⟨l[k], List.getElem?_eq_getElem hlt⟩
      rcases hLr with e | ⟨b, off, rfl, hc⟩
      · subst e; simp at hlt
      have c0 : wr.cell? ⟨b, off + k * 2, none⟩ = some (.int .i64 pa) := El.Lies.cell hc hx (j := 0) rfl
      have c1 : wr.cell? ⟨b, off + k * 2 + 1, none⟩ = some (.string pb) := El.Lies.cell hc hx (j := 1) rfl
      have hB1 : Below wr.heap.size wr (wr.alloc (.cells #[.int .i64 pa, .string pb] 136)) := (Below.refl _ _).alloc (Nat.le_refl _) _
      have hV1 : Hid (Var 136 (wr.alloc (.cells #[.int .i64 pa, .string pb] 136)) wr.heap.size [.int .i64 pa, .string pb]) := Var.new wr [.int .i64 pa, .string pb]
      have hL1 : Hid (partE.Lies (wr.alloc (.cells #[.int .i64 pa, .string pb] 136)) (some ⟨b, off, none⟩) l) := El.Lies.later (.inr ⟨b, off, rfl, hc⟩) hB1
      have hbd : bdP (pa, pb) := hp _ (List.mem_of_getElem? hx)
      have hbe : Hid (behAt nx l (k + 1) = endP (pa, pb)) := behAt_succ nx l k _ hx
      obtain ⟨fn, tmps, assign, body, hy, hR⟩ := hY'.out k (behAt nx l k, pa, pb) (wr.alloc (.cells #[.int .i64 pa, .string pb] 136)) (pairs_at nx l k _ hx) (stJ k _ _ hJ (Chg.later hB1))
      dsimp only [encQ] at hy
      have hrow' : Hid _ := hrow (by rintro rfl; simp at hlt)
      clear hx hc
      gi_wp2
      refine ⟨rfl, hR.mono ?_⟩
      clear hR hy
      rintro e W3 (⟨rfl, hJ3, hk3⟩ | ⟨rfl, hJx3, _⟩)
      · have hV3 : Var 136 W3 wr.heap.size [.int .i64 pa, .string pb] := hk3.same _ _ hV1.out (hnew _ _ _ (by have := hsz.out; omega))
        have v0 := hV3.cell (i := 0) rfl
        have v1 := hV3.cell (i := 1) rfl
        have hL3 : Hid (partE.Lies W3 (some ⟨b, off, none⟩) l) := hL1.out.same (fun x ex hlx => by
          cases ex
          have e1 := Array.getElem?_eq_getElem hlx
          rw [hk3.same _ _ e1 (hrow'.out _ rfl _), e1])
        have hs3 : Hid (wr.heap.size ≤ W3.heap.size) := by show _ ≤ _; have := hk3.size; simp at this; omega
        clear hV3 hk3 hL1 hV1 hB1
        gi_wp2_with (refine ⟨trivial, rfl, ?_⟩; gi_at_call 122; refine (callsIn_wide.2 (behind _ _ _ hbd)).mono ?_; rintro e w4 ⟨rfl, hb4⟩)
        go_roundw
        case rel => exact ⟨k + 1, by omega, by rw [hbe.out], by simp, stJ _ _ _ hJ3 (Chg.later hb4), hL3.out.later hb4, by have := hs3.out; have := hb4.size; omega⟩
        case measure => simp [intOf]; omega
      · gi_wp2
        refine bodyPost_ret (results_none rfl _ _ _) rfl ?_
        exact ⟨⟨_, rfl⟩, .inr hJx3⟩
    · obtain rfl : k = l.length := by omega
      gi_wp2
      go_end0
      exact ⟨⟨_, rfl⟩, .inl (by rw [hlen.out]; exact hJ)⟩
end Go.Proofs.Ytldghgadkncehaa.Tak

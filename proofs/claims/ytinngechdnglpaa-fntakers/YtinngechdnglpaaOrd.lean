/- Contract of the program's inOrder: a slice of its own that holds the parts of both, rising by At; at most 2^20 parts each. -/
import Derived.Test.YtinngechdnglpaaTakZ
import Derived.Test.YtinngechdnglpaaSru
namespace Go.Proofs.Ytinngechdnglpaa.Tak
open Go.RowKit RowG
set_option linter.unusedVariables false
set_option linter.unusedSimpArgs false

/-- A permutation of l that rises by At (equals may stand either way). -/
def Sorted (l r : List Pt) : Prop := r.Perm l ∧ r.Pairwise fun x y => x.1 ≤ y.1
theorem sorted_of {l : List Pt} {d : Array Pt} (hp : Sort.PermIn 0 l.toArray.size l.toArray d) (hs : Sort.SortedIn (ltOf cfP) 0 l.toArray.size d) : d.size = l.length ∧ Sorted l d.toList := by
  obtain ⟨h1, _, h3⟩ := hp
  have hd : d.size = l.length := by simpa using h1
  refine ⟨hd, ?_, ?_⟩
  · have e1 : (d.extract 0 l.toArray.size) = d := by rw [← h1]; simp
    have e2 : (l.toArray.extract 0 l.toArray.size) = l.toArray := by simp
    rw [e1, e2] at h3
    simpa using h3
  · rw [List.pairwise_iff_getElem]
    intro i j hi hj hij
    have hi' : i < d.size := by simpa using hi
    have hj' : j < d.size := by simpa using hj
    have h := hs i j (Nat.zero_le _) hij (by rw [← h1]; exact hj')
    rw [ltP, getElem!_pos d j hj', getElem!_pos d i hi'] at h
    simp at h
    simpa using h

set_option maxHeartbeats 2000000 in
theorem inOrder (sortNil : ∀ (cap : Nat) (fv : Value) (w : World), Calls Try.prog 59 #[.slice none 0 cap, fv] w fun e w' => e = .returned (.tuple #[]) ∧ w' = w) (a1 a2 : Option Addr) (c1 c2 : Nat) (l1 l2 : List Pt) (w : World) (L1 : partE.Lies w a1 l1) (L2 : partE.Lies w a2 l2) (hl1 : l1.length ≤ 1048576) (hl2 : l2.length ≤ 1048576) (ha1 : a1 = none → c1 = 0) (ha2 : a2 = none → c2 = 0) :
    Calls Try.prog 35 #[.slice a1 l1.length c1, .slice a2 l2.length c2] w fun x w' => ∃ (r : List Pt), Sorted (l1 ++ l2) r ∧ ∃ (a' : Option Addr) (c' : Nat), x = .returned (.slice a' r.length c') ∧ partE.Own 53 w' w.heap.size a' c' r ∧ Below w.heap.size w w' := by
  have B1 : Below w.heap.size w (w.alloc (.cells #[.slice a1 l1.length c1, .slice a2 l2.length c2] 24)) := (Below.refl _ _).alloc (Nat.le_refl _) _
  have k1 : (w.alloc (.cells #[.slice a1 l1.length c1, .slice a2 l2.length c2] 24)).cell? ⟨w.heap.size, 0, none⟩ = some (.slice a1 l1.length c1) := by simp
  have k2 : (w.alloc (.cells #[.slice a1 l1.length c1, .slice a2 l2.length c2] 24)).cell? ⟨w.heap.size, 1, none⟩ = some (.slice a2 l2.length c2) := by simp
  have hC := concat2 w.heap.size a1 a2 c1 c2 l1 l2 _ k1 k2 (L1.later B1) (L2.later B1) hl1 hl2 ha1 ha2
  clear k1 k2 L1 L2 ha1 ha2
  go_enter Try.func35, Try.ntmps35
  go_wp2_with fail
  refine hC.mono ?_
  clear hC
  rintro x w1 ⟨a', c', rfl, o1, b1⟩
  have B2 := B1.trans (b1.mono B1.size)
  have o1 := o1.mono B1.size
  clear b1 B1
  rcases o1.form with ⟨rfl, rfl, hnil⟩ | ⟨g, rfl, hg1, hg2, hg3⟩
  · have hs : Sorted (l1 ++ l2) [] := by rw [hnil]; exact ⟨List.Perm.refl _, List.Pairwise.nil⟩
    have HS : Hid _ := hs
    have hlen : (l1 ++ l2).length = 0 := by rw [hnil]; rfl
    rw [hlen]
    clear o1 hnil hs hlen
    go_wp2_with (go_at_call 59; refine (sortNil _ _ _).mono ?_; rintro x w2 ⟨rfl, rfl⟩)
    go_ret
    exact ⟨[], HS.out, none, 0, rfl, El.Own.none _ _, B2⟩
  · have hH := own_holds o1
    have hsf := sortFunc g 0 c' (l1 ++ l2).toArray w1 hH hg2 (by simp; omega)
    have hsz : (l1 ++ l2).toArray.size = (l1 ++ l2).length := by simp
    rw [hsz] at hsf
    have HO : Hid (partE.Own 53 w1 w.heap.size (some ⟨g, 0, none⟩) c' (l1 ++ l2)) := o1
    clear hH o1
    generalize hL : l1 ++ l2 = L at *
    go_wp2_with fail
    refine hsf.mono ?_
    clear hsf
    rintro x w2 ⟨rfl, d, n, os, hp, hs, rfl⟩
    rw [← hsz] at hp hs
    obtain ⟨hd, hsd⟩ := sorted_of hp hs
    obtain ⟨o2, g2⟩ := sort_own (n := n) (os := os) HO.out hd
    have b2 := grown_below B2 (Nat.le_refl _) (fun k hk => by cases hk; exact hg1) g2
    have HO2 : Hid _ := o2
    have HS : Hid _ := hsd
    have hdl : Hid (d.toList.length = L.length) := by show _ = _; simpa using hd
    clear hp hs hd hsd o2 g2 HO
    generalize sortWorldK partE.enc 2 w1 g 0 n d os = w3 at *
    go_wp2_with fail
    go_ret
    exact ⟨d.toList, by rw [hL]; exact HS.out, some ⟨g, 0, none⟩, c', by rw [hdl.out]; rfl, HO2.out, b2⟩

end Go.Proofs.Ytinngechdnglpaa.Tak

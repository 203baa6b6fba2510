/- The library's SortFunc over parts and Compare, laid at this program: which number is which; no condition. · Contracts of the program's comparison of two parts and of slices.SortFunc over parts: a permutation, rising by At; rows of fewer than 2^62 parts. · A row of parts of the call's own, handed to the sort: it holds what it held, sorted; rows of at most 2^21 parts. · Contract of the program's inOrder: a slice of its own that holds the parts of both, rising by At; at most 2^20 parts each. -/
import Derived.Shelf.SlSortCmp.WholeK
import Derived.Shelf.SlicesG.Cmp
import Derived.Test.YtjnkjeajkmgcmaaGreatChecked
import Derived.Test.YtjnkjeajkmgcmaaGreatMg2
import Derived.Test.YtjnkjeajkmgcmaaGreatMg4
import Derived.Test.YtjnkjeajkmgcmaaGreatMg18
namespace Go.Proofs.YtjnkjeajkmgcmaaGreat.Shl
open Go.Shelf
set_option linter.unusedVariables false

def sortP_ren : Go.Shelf.Ren := ⟨fun | 6 => 99 | 15 => 109 | 14 => 108 | 28 => 120 | 29 => 121 | 20 => 112 | 21 => 113 | 22 => 114 | 23 => 115 | 24 => 116 | 25 => 117 | 26 => 118 | 27 => 119 | 46 => 122 | 47 => 123 | 48 => 124 | 49 => 125 | 50 => 126 | 57 => 127 | n => n, fun | 22 => 26 | 24 => 69 | 25 => 132 | 3 => 3 | 39 => 106 | 0 => 0 | 53 => 154 | 55 => 156 | 4 => 4 | 46 => 147 | 45 => 146 | 50 => 151 | 5 => 5 | 9 => 9 | 66 => 157 | 70 => 161 | 76 => 163 | 77 => 164 | n => n, fun | n => n⟩
theorem sortP : Go.Proofs.SlLaysF0.n6 Tryz.prog sortP_ren := {
  mixed := by kernel_rfl
  f6 := ⟨Tryz.f99.name, by decide, Tryz.func99.trans (congrArg some (by kernel_rfl))⟩
  f14 := ⟨Tryz.f108.name, by decide, Tryz.func108.trans (congrArg some (by kernel_rfl))⟩
  f15 := Tryz.func109.trans (congrArg some (by kernel_rfl))
  f20 := ⟨Tryz.f112.name, by decide, Tryz.func112.trans (congrArg some (by kernel_rfl))⟩
  f21 := ⟨Tryz.f113.name, by decide, Tryz.func113.trans (congrArg some (by kernel_rfl))⟩
  f22 := ⟨Tryz.f114.name, by decide, Tryz.func114.trans (congrArg some (by kernel_rfl))⟩
  f23 := ⟨Tryz.f115.name, by decide, Tryz.func115.trans (congrArg some (by kernel_rfl))⟩
  f24 := ⟨Tryz.f116.name, by decide, Tryz.func116.trans (congrArg some (by kernel_rfl))⟩
  f25 := ⟨Tryz.f117.name, by decide, Tryz.func117.trans (congrArg some (by kernel_rfl))⟩
  f26 := ⟨Tryz.f118.name, by decide, Tryz.func118.trans (congrArg some (by kernel_rfl))⟩
  f27 := ⟨Tryz.f119.name, by decide, Tryz.func119.trans (congrArg some (by kernel_rfl))⟩
  f28 := Tryz.func120.trans (congrArg some (by kernel_rfl))
  f29 := Tryz.func121.trans (congrArg some (by kernel_rfl))
  f46 := ⟨Tryz.f122.name, by decide, Tryz.func122.trans (congrArg some (by kernel_rfl))⟩
  f47 := Tryz.func123.trans (congrArg some (by kernel_rfl))
  f48 := Tryz.func124.trans (congrArg some (by kernel_rfl))
  f49 := ⟨Tryz.f125.name, by decide, Tryz.func125.trans (congrArg some (by kernel_rfl))⟩
  f50 := ⟨Tryz.f126.name, by decide, Tryz.func126.trans (congrArg some (by kernel_rfl))⟩
  f57 := ⟨Tryz.f127.name, by decide, Tryz.func127.trans (congrArg some (by kernel_rfl))⟩
  t0 := Tryz.underlying0
  a0 := Tryz.isAgg0
  z0 := Tryz.sizeOf0
  v0 := Tryz.zeroValue0
  t3 := Tryz.underlying3
  a3 := Tryz.isAgg3
  z3 := Tryz.sizeOf3
  v3 := Tryz.zeroValue3
  t4 := Tryz.underlying4
  a4 := Tryz.isAgg4
  z4 := Tryz.sizeOf4
  v4 := Tryz.zeroValue4
  t5 := Tryz.underlying5
  a5 := Tryz.isAgg5
  z5 := Tryz.sizeOf5
  v5 := Tryz.zeroValue5
  t9 := Tryz.underlying9
  a9 := Tryz.isAgg9
  z9 := Tryz.sizeOf9
  v9 := Tryz.zeroValue9
  t22 := Tryz.underlying26
  a22 := Tryz.isAgg26
  z22 := Tryz.sizeOf26
  v22 := Tryz.zeroValue26
  t25 := Tryz.underlying132
  a25 := Tryz.isAgg132
  z25 := Tryz.sizeOf132
  v25 := Tryz.zeroValue132
  t39 := Tryz.underlying106
  a39 := Tryz.isAgg106
  z39 := Tryz.sizeOf106
  v39 := Tryz.zeroValue106
  t45 := Tryz.underlying146
  a45 := Tryz.isAgg146
  z45 := Tryz.sizeOf146
  v45 := Tryz.zeroValue146
  t46 := Tryz.underlying147
  a46 := Tryz.isAgg147
  z46 := Tryz.sizeOf147
  v46 := Tryz.zeroValue147
  t50 := Tryz.underlying151
  a50 := Tryz.isAgg151
  z50 := Tryz.sizeOf151
  v50 := Tryz.zeroValue151
  t53 := Tryz.underlying154
  a53 := Tryz.isAgg154
  z53 := Tryz.sizeOf154
  v53 := Tryz.zeroValue154
  t55 := Tryz.underlying156
  a55 := Tryz.isAgg156
  z55 := Tryz.sizeOf156
  v55 := Tryz.zeroValue156
  t66 := Tryz.underlying157
  a66 := Tryz.isAgg157
  z66 := Tryz.sizeOf157
  v66 := Tryz.zeroValue157
  t70 := Tryz.underlying161
  a70 := Tryz.isAgg161
  z70 := Tryz.sizeOf161
  v70 := Tryz.zeroValue161
  t76 := Tryz.underlying163
  a76 := Tryz.isAgg163
  z76 := Tryz.sizeOf163
  v76 := Tryz.zeroValue163
  t77 := Tryz.underlying164
  a77 := Tryz.isAgg164
  z77 := Tryz.sizeOf164
  v77 := Tryz.zeroValue164 }
def cmpI_ren : Go.Shelf.Ren := ⟨fun | 5 => 101 | 7 => 110 | n => n, fun | 22 => 2 | 3 => 3 | 4 => 4 | n => n, fun | n => n⟩
theorem cmpI : Go.Proofs.SlLaysC2.n5 Tryz.prog cmpI_ren := {
  mixed := by kernel_rfl
  f5 := ⟨Tryz.f101.name, by decide, Tryz.func101.trans (congrArg some (by kernel_rfl))⟩
  f7 := ⟨Tryz.f110.name, by decide, Tryz.func110.trans (congrArg some (by kernel_rfl))⟩
  t3 := Tryz.underlying3
  a3 := Tryz.isAgg3
  z3 := Tryz.sizeOf3
  v3 := Tryz.zeroValue3
  t4 := Tryz.underlying4
  a4 := Tryz.isAgg4
  z4 := Tryz.sizeOf4
  v4 := Tryz.zeroValue4
  t22 := Tryz.underlying2
  a22 := Tryz.isAgg2
  z22 := Tryz.sizeOf2
  v22 := Tryz.zeroValue2 }

end Go.Proofs.YtjnkjeajkmgcmaaGreat.Shl

namespace Go.Proofs.YtjnkjeajkmgcmaaGreat.Tak
open Go.RowKit RowG Go.Shelf Go.Lib Go.Sort
set_option linter.unusedVariables false
set_option linter.unusedSimpArgs false

def cfP (x y : Pt) : Int := Lib.compareInt x.1 y.1
theorem ltP (x y : Pt) : ltOf cfP x y = decide (x.1 < y.1) := by
  unfold ltOf cfP Lib.compareInt
  by_cases h1 : x.1 < y.1
  · simp [h1]
  · by_cases h2 : y.1 < x.1 <;> simp [h1, h2]
theorem swoP : SWO (ltOf cfP) where
  irrefl x := by rw [ltP]; simp
  trans x y z h1 h2 := by rw [ltP] at *; simp at *; omega
  ntrans x y z h1 h2 := by rw [ltP] at *; simp at *; omega

set_option maxHeartbeats 1000000 in
theorem inOrder1 (x y : Pt) (W : World) : Calls Tryz.prog 100 #[.agg #[.int .i64 x.1, .string x.2], .agg #[.int .i64 y.1, .string y.2]] W fun e w' => e = .returned (.int .i64 (cfP x y)) ∧ ∃ q os', w' = grow (W.drewN q) os' := by
  have hcon := fun W' => AnyG.cmp_Compare_int Shl.cmpI x.1 y.1 W'
  change ∀ W', Calls Tryz.prog 101 _ _ _ at hcon
  unfold cfP
  generalize Lib.compareInt x.1 y.1 = r at hcon ⊢
  go_enter Tryz.func100, Tryz.ntmps100
  go_wp2_with (go_at_call 101; refine (hcon _).mono ?_; rintro e w' ⟨rfl, rfl⟩)
  go_ret
  exact ⟨rfl, 0, _, by rw [alloc_eq_grow, alloc_eq_grow, grow_grow]; rfl⟩

theorem cmpLaysP (blk off size : Nat) (w : World) : CmpLays Tryz.prog 100 #[] partE.enc 2 cfP blk off size w :=
  fun _ _ _ _ x y => inOrder1 x y _

theorem sortFunc (blk off cap : Nat) (d : Array Pt) (w : World) (hH : HoldsK partE.enc 2 w blk off d) (hblk : blk < w.heap.size) (hsz : d.size < 4611686018427387904) :
    Calls Tryz.prog 99 #[.slice (some ⟨blk, off, none⟩) d.size cap, .func (.func 100) #[] #[]] w fun e w' => e = .returned (.tuple #[]) ∧ ∃ d' n os, PermIn 0 d.size d d' ∧ SortedIn (ltOf cfP) 0 d.size d' ∧ w' = sortWorldK partE.enc 2 w blk off n d' os :=
  AnyQ.slices_SortFunc Shl.sortP 2 Tryz.isAgg69 Tryz.sizeOf69 partE.enc (fun _ => rfl) (fun x v hv => partE.one x v hv) cfP swoP 100 #[] blk off cap d w (enters_of Tryz.func100 (by kernel_rfl) rfl) (cmpLaysP blk off d.size w) hH hblk hsz

end Go.Proofs.YtjnkjeajkmgcmaaGreat.Tak

namespace Go.Proofs.YtjnkjeajkmgcmaaGreat.Tak
open Go.RowKit RowG Go.Shelf Go.Lib Go.Sort
set_option linter.unusedVariables false
set_option linter.unusedSimpArgs false

theorem vals_get (d : List Pt) (j : Nat) (h : j < d.length * 2) : (partE.vals d)[j]? = some ((partE.enc d[j / 2]!)[j % 2]!) := by
  have h1 : j / 2 < d.length := by omega
  have e : d[j / 2]? = some d[j / 2]! := by rw [List.getElem?_eq_getElem h1, getElem!_pos d (j / 2) h1]
  have hl : (partE.enc d[j / 2]!).length = 2 := partE.len _
  have e2 : (partE.enc d[j / 2]!)[j % 2]? = some ((partE.enc d[j / 2]!)[j % 2]!) := by
    have hl' : j % 2 < (partE.enc d[j / 2]!).length := by omega
    exact (List.getElem?_eq_getElem hl').trans (congrArg some (getElem!_pos (partE.enc d[j / 2]!) (j % 2) hl').symm)
  have := partE.vals_at d (j / 2) _ (j % 2) _ e e2
  rw [show partE.size = 2 from rfl] at this
  rwa [show j / 2 * 2 + j % 2 = j by omega] at this

theorem own_holds {w : World} {B g c : Nat} {l : List Pt} (h : partE.Own 69 w B (some ⟨g, 0, none⟩) c l) : HoldsK partE.enc 2 w g 0 l.toArray := by
  intro j hj
  rw [size_flatK] at hj
  have hj' : j < l.length * 2 := by simpa using hj
  refine ⟨?_, h.frozen _⟩
  rw [get_flatK _ _ _ _ hj]
  have := h.lies.src rfl j _ (vals_get l j hj')
  rw [add_lit] at this
  simpa using this

theorem sort_own {w : World} {B g c n : Nat} {l : List Pt} {d : Array Pt} {os : Array Obj} (h : partE.Own 69 w B (some ⟨g, 0, none⟩) c l) (hd : d.size = l.length) :
    partE.Own 69 (sortWorldK partE.enc 2 w g 0 n d os) B (some ⟨g, 0, none⟩) c d.toList ∧ w.grownBy (sortWorldK partE.enc 2 w g 0 n d os) (some g) := by
  unfold El.Own at h
  rcases h.2 with ⟨hv, _⟩ | ⟨g', cap', cur, hv, hB, hgb, hn, hm, hs, ht⟩
  · cases hv
  · simp only [Value.slice.injEq, Option.some.injEq, Addr.mk.injEq] at hv
    obtain ⟨⟨rfl, _, _⟩, _, rfl⟩ := hv
    have hg : g < w.heap.size := (Array.getElem?_eq_some_iff.1 hgb).1
    have hsz : (putRowK partE.enc 2 (Sort.ahead w n) g 0 d).heap.size = w.heap.size := by simp [putRowK, putRow, mapBlock, Sort.ahead]
    have hother : ∀ k, k < w.heap.size → k ≠ g → (sortWorldK partE.enc 2 w g 0 n d os).heap[k]? = w.heap[k]? := fun k hk hne => by
      unfold sortWorldK
      rw [heap_grow_old _ _ (by rw [hsz]; exact hk)]
      simp only [putRowK, putRow, mapBlock, Sort.ahead, Array.getElem?_modify]
      rw [if_neg (fun e => hne e.symm)]
    have hself : (sortWorldK partE.enc 2 w g 0 n d os).heap[g]? = some (.cells (putCells id 0 (flatK partE.enc 2 d) cur) 69 (0, 0)) := by
      unfold sortWorldK
      rw [heap_grow_old _ _ (by rw [hsz]; exact hg)]
      simp only [putRowK, putRow, mapBlock, Sort.ahead, Array.getElem?_modify, if_true, hgb, Option.map_some]
      rfl
    have hsize : w.heap.size ≤ (sortWorldK partE.enc 2 w g 0 n d os).heap.size := by
      unfold sortWorldK
      simp only [grow, Array.size_append]
      rw [hsz]
      omega
    refine ⟨?_, ⟨rfl, rfl, rfl, hsize, fun k hk hne => hother k hk (fun e => hne (by rw [e]))⟩⟩
    unfold El.Own
    have hdl : d.toList.length = l.length := by simpa using hd
    refine ⟨by rw [partE.vals_len], .inr ⟨g, c, _, rfl, hB, hself, by omega, hm, by simp [putCells, hs], ?_⟩⟩
    have hps : partE.size = 2 := rfl
    rw [hps] at hs ⊢
    apply List.ext_getElem?
    intro j
    rw [List.getElem?_take]
    by_cases hj : j < d.toList.length * 2
    · rw [if_pos hj, vals_get _ _ hj]
      have hj2 : j < d.size * 2 := by simpa using hj
      have hjc : j < cur.size := by rw [hs]; omega
      simp only [putCells, Array.getElem?_toList, Array.getElem?_mapIdx, Array.getElem?_eq_getElem hjc, Option.map_some]
      rw [if_pos ⟨Nat.zero_le _, by rw [size_flatK]; omega⟩, Nat.sub_zero, get_flatK _ _ _ _ hj2]
      have hq : j / 2 < d.size := by omega
      have e : d[j / 2]! = d.toList[j / 2]! := by rw [getElem!_pos d _ hq, getElem!_pos d.toList _ (by simpa using hq), Array.getElem_toList]
      rw [e]
      rfl
    · rw [if_neg hj, List.getElem?_eq_none (by rw [partE.vals_len, hps]; omega)]

end Go.Proofs.YtjnkjeajkmgcmaaGreat.Tak

namespace Go.Proofs.YtjnkjeajkmgcmaaGreat.Tak
open Go.RowKit RowG
set_option linter.unusedVariables false
set_option linter.unusedSimpArgs false

def Sorted (l r : List Pt) : Prop := r.Perm l ∧ r.Pairwise fun x y => x.1 ≤ y.1
theorem sorted_of {l : List Pt} {d : Array Pt} (hp : Sort.PermIn 0 l.toArray.size l.toArray d) (hs : Sort.SortedIn (ltOf cfP) 0 l.toArray.size d) : d.size = l.length ∧ Sorted l d.toList := by
  obtain ⟨h1, _, h3⟩ := hp
  have hd : d.size = l.length := by simpa using h1
  refine ⟨hd, ?_, ?_⟩
  · have e1 : (d.extract 0 l.toArray.size) = d := by rw [← h1]; simp
    have e2 : (l.toArray.extract 0 l.toArray.size) = l.toArray := by simp
    rw [e1, e2] at h3
    simpa using h3
  · rw [List.pairwise_iff_getElem]
    intro i j hi hj hij
    have hi' : i < d.size := by simpa using hi
    have hj' : j < d.size := by simpa using hj
    have h := hs i j (Nat.zero_le _) hij (by rw [← h1]; exact hj')
    rw [ltP, getElem!_pos d j hj', getElem!_pos d i hi'] at h
    simp at h
    simpa using h

set_option maxHeartbeats 2000000 in
theorem inOrder (sortNil : ∀ (cap : Nat) (fv : Value) (w : World), Calls Tryz.prog 99 #[.slice none 0 cap, fv] w fun e w' => e = .returned (.tuple #[]) ∧ w' = w) (a1 a2 : Option Addr) (c1 c2 : Nat) (l1 l2 : List Pt) (w : World) (L1 : partE.Lies w a1 l1) (L2 : partE.Lies w a2 l2) (hl1 : l1.length ≤ 1048576) (hl2 : l2.length ≤ 1048576) (ha1 : a1 = none → c1 = 0) (ha2 : a2 = none → c2 = 0) :
    Calls Tryz.prog 82 #[.slice a1 l1.length c1, .slice a2 l2.length c2] w fun x w' => ∃ (r : List Pt), Sorted (l1 ++ l2) r ∧ ∃ (a' : Option Addr) (c' : Nat), x = .returned (.slice a' r.length c') ∧ partE.Own 69 w' w.heap.size a' c' r ∧ Below w.heap.size w w' := by
  have B1 : Below w.heap.size w (w.alloc (.cells #[.slice a1 l1.length c1, .slice a2 l2.length c2] 26)) := (Below.refl _ _).alloc (Nat.le_refl _) _
  have k1 : (w.alloc (.cells #[.slice a1 l1.length c1, .slice a2 l2.length c2] 26)).cell? ⟨w.heap.size, 0, none⟩ = some (.slice a1 l1.length c1) := by simp
  have k2 : (w.alloc (.cells #[.slice a1 l1.length c1, .slice a2 l2.length c2] 26)).cell? ⟨w.heap.size, 1, none⟩ = some (.slice a2 l2.length c2) := by simp
  have hC := concat2 w.heap.size a1 a2 c1 c2 l1 l2 _ k1 k2 (L1.later B1) (L2.later B1) hl1 hl2 ha1 ha2
  clear k1 k2 L1 L2 ha1 ha2
  go_enter Tryz.func82, Tryz.ntmps82
  go_wp2_with fail
  refine hC.mono ?_
  clear hC
  rintro x w1 ⟨a', c', rfl, o1, b1⟩
  have B2 := B1.trans (b1.mono B1.size)
  have o1 := o1.mono B1.size
  clear b1 B1
  rcases o1.form with ⟨rfl, rfl, hnil⟩ | ⟨g, rfl, hg1, hg2, hg3⟩
  · have hs : Sorted (l1 ++ l2) [] := by rw [hnil]; exact ⟨List.Perm.refl _, List.Pairwise.nil⟩
    have HS : Hid _ := hs
    have hlen : (l1 ++ l2).length = 0 := by rw [hnil]; rfl
    rw [hlen]
    clear o1 hnil hs hlen
    go_wp2_with (go_at_call 99; refine (sortNil _ _ _).mono ?_; rintro x w2 ⟨rfl, rfl⟩)
    go_ret
    exact ⟨[], HS.out, none, 0, rfl, El.Own.none _ _, B2⟩
  · have hH := own_holds o1
    have hsf := sortFunc g 0 c' (l1 ++ l2).toArray w1 hH hg2 (by simp; omega)
    have hsz : (l1 ++ l2).toArray.size = (l1 ++ l2).length := by simp
    rw [hsz] at hsf
    have HO : Hid (partE.Own 69 w1 w.heap.size (some ⟨g, 0, none⟩) c' (l1 ++ l2)) := o1
    clear hH o1
    generalize hL : l1 ++ l2 = L at *
    go_wp2_with fail
    refine hsf.mono ?_
    clear hsf
    rintro x w2 ⟨rfl, d, n, os, hp, hs, rfl⟩
    rw [← hsz] at hp hs
    obtain ⟨hd, hsd⟩ := sorted_of hp hs
    obtain ⟨o2, g2⟩ := sort_own (n := n) (os := os) HO.out hd
    have b2 := grown_below B2 (Nat.le_refl _) (fun k hk => by cases hk; exact hg1) g2
    have HO2 : Hid _ := o2
    have HS : Hid _ := hsd
    have hdl : Hid (d.toList.length = L.length) := by show _ = _; simpa using hd
    clear hp hs hd hsd o2 g2 HO
    generalize sortWorldK partE.enc 2 w1 g 0 n d os = w3 at *
    go_wp2_with fail
    go_ret
    exact ⟨d.toList, by rw [hL]; exact HS.out, some ⟨g, 0, none⟩, c', by rw [hdl.out]; rfl, HO2.out, b2⟩

end Go.Proofs.YtjnkjeajkmgcmaaGreat.Tak

/- A row of parts of the call's own, handed to the sort: it holds what it held, sorted; rows of at most 2^21 parts. -/
import Derived.Test.YtinngechdnglpaaSrt
import Derived.Test.YtinngechdnglpaaRowH
namespace Go.Proofs.Ytinngechdnglpaa.Tak
open Go.RowKit RowG Go.Shelf Go.Lib Go.Sort
set_option linter.unusedVariables false
set_option linter.unusedSimpArgs false

theorem vals_get (d : List Pt) (j : Nat) (h : j < d.length * 2) : (partE.vals d)[j]? = some ((partE.enc d[j / 2]!)[j % 2]!) := by
  have h1 : j / 2 < d.length := by omega
  have e : d[j / 2]? = some d[j / 2]! := by rw [List.getElem?_eq_getElem h1, getElem!_pos d (j / 2) h1]
  have hl : (partE.enc d[j / 2]!).length = 2 := partE.len _
  have e2 : (partE.enc d[j / 2]!)[j % 2]? = some ((partE.enc d[j / 2]!)[j % 2]!) := by
    have hl' : j % 2 < (partE.enc d[j / 2]!).length := by omega
    exact (List.getElem?_eq_getElem hl').trans (congrArg some (getElem!_pos (partE.enc d[j / 2]!) (j % 2) hl').symm)
  have := partE.vals_at d (j / 2) _ (j % 2) _ e e2
  rw [show partE.size = 2 from rfl] at this
  rwa [show j / 2 * 2 + j % 2 = j by omega] at this

theorem own_holds {w : World} {B g c : Nat} {l : List Pt} (h : partE.Own 53 w B (some ⟨g, 0, none⟩) c l) : HoldsK partE.enc 2 w g 0 l.toArray := by
  intro j hj
  rw [size_flatK] at hj
  have hj' : j < l.length * 2 := by simpa using hj
  refine ⟨?_, h.frozen _⟩
  rw [get_flatK _ _ _ _ hj]
  have := h.lies.src rfl j _ (vals_get l j hj')
  rw [add_lit] at this
  simpa using this

theorem sort_own {w : World} {B g c n : Nat} {l : List Pt} {d : Array Pt} {os : Array Obj} (h : partE.Own 53 w B (some ⟨g, 0, none⟩) c l) (hd : d.size = l.length) :
    partE.Own 53 (sortWorldK partE.enc 2 w g 0 n d os) B (some ⟨g, 0, none⟩) c d.toList ∧ w.grownBy (sortWorldK partE.enc 2 w g 0 n d os) (some g) := by
  unfold El.Own at h
  rcases h.2 with ⟨hv, _⟩ | ⟨g', cap', cur, hv, hB, hgb, hn, hm, hs, ht⟩
  · cases hv
  · simp only [Value.slice.injEq, Option.some.injEq, Addr.mk.injEq] at hv
    obtain ⟨⟨rfl, _, _⟩, _, rfl⟩ := hv
    have hg : g < w.heap.size := (Array.getElem?_eq_some_iff.1 hgb).1
    have hsz : (putRowK partE.enc 2 (Sort.ahead w n) g 0 d).heap.size = w.heap.size := by simp [putRowK, putRow, mapBlock, Sort.ahead]
    have hother : ∀ k, k < w.heap.size → k ≠ g → (sortWorldK partE.enc 2 w g 0 n d os).heap[k]? = w.heap[k]? := fun k hk hne => by
      unfold sortWorldK
      rw [heap_grow_old _ _ (by rw [hsz]; exact hk)]
      simp only [putRowK, putRow, mapBlock, Sort.ahead, Array.getElem?_modify]
      rw [if_neg (fun e => hne e.symm)]
    have hself : (sortWorldK partE.enc 2 w g 0 n d os).heap[g]? = some (.cells (putCells id 0 (flatK partE.enc 2 d) cur) 53 (0, 0)) := by
      unfold sortWorldK
      rw [heap_grow_old _ _ (by rw [hsz]; exact hg)]
      simp only [putRowK, putRow, mapBlock, Sort.ahead, Array.getElem?_modify, if_true, hgb, Option.map_some]
      rfl
    have hsize : w.heap.size ≤ (sortWorldK partE.enc 2 w g 0 n d os).heap.size := by
      unfold sortWorldK
      simp only [grow, Array.size_append]
      rw [hsz]
      omega
    refine ⟨?_, ⟨rfl, rfl, rfl, hsize, fun k hk hne => hother k hk (fun e => hne (by rw [e]))⟩⟩
    unfold El.Own
    have hdl : d.toList.length = l.length := by simpa using hd
    refine ⟨by rw [partE.vals_len], .inr ⟨g, c, _, rfl, hB, hself, by omega, hm, by simp [putCells, hs], ?_⟩⟩
    have hps : partE.size = 2 := rfl
    rw [hps] at hs ⊢
    apply List.ext_getElem?
    intro j
    rw [List.getElem?_take]
    by_cases hj : j < d.toList.length * 2
    · rw [if_pos hj, vals_get _ _ hj]
      have hj2 : j < d.size * 2 := by simpa using hj
      have hjc : j < cur.size := by rw [hs]; omega
      simp only [putCells, Array.getElem?_toList, Array.getElem?_mapIdx, Array.getElem?_eq_getElem hjc, Option.map_some]
      rw [if_pos ⟨Nat.zero_le _, by rw [size_flatK]; omega⟩, Nat.sub_zero, get_flatK _ _ _ _ hj2]
      have hq : j / 2 < d.size := by omega
      have e : d[j / 2]! = d.toList[j / 2]! := by rw [getElem!_pos d _ hq, getElem!_pos d.toList _ (by simpa using hq), Array.getElem_toList]
      rw [e]
      rfl
    · rw [if_neg hj, List.getElem?_eq_none (by rw [partE.vals_len, hps]; omega)]

end Go.Proofs.Ytinngechdnglpaa.Tak

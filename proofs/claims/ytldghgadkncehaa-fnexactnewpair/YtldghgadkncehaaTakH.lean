/- Contract of the specification's Takes; lists of at most 2^19 parts. -/
import Derived.Test.YtldghgadkncehaaTakG
namespace Go.Proofs.Ytldghgadkncehaa.Tak
open Go.RowKit RowG
set_option linter.unusedVariables false
set_option linter.unusedSimpArgs false

/-- What Takes answers. -/
def takes (t : Tk) (p : Int) (bz : ByteArray) (e : Bool) : Tk × Bool := if t.ok then takeT t p bz e else (zeroK, false)
/-- A taker that is right is small. -/
theorem scan_bd {nx lim : Int} (hn : 0 ≤ nx) (hm : lim ≤ 2000000000) : ∀ {l : List Pt} {last out : Int}, scan nx lim last l = some out → Bd l
  | [], _, _, _ => fun p hp => by cases hp
  | q :: r, last, out, h => by
    rw [scan] at h
    split at h
    next hq =>
      intro p hp
      rcases List.mem_cons.1 hp with rfl | hp
      · have h1 := hq.1
        have h2 := hq.2.1
        have h3 := hq.2.2.2
        unfold endP at h3
        exact ⟨by omega, by omega, by omega⟩
      · exact scan_bd hn hm h p hp
    next => cases h
theorem scan_tot {nx lim : Int} : ∀ {l : List Pt} {last out : Int}, scan nx lim last l = some out → tot l ≤ 40 * l.length
  | [], _, _, _ => Nat.zero_le _
  | q :: r, last, out, h => by
    rw [scan] at h
    split at h
    next hq =>
      have := scan_tot h
      have h1 := hq.1.2
      simp only [tot, List.length_cons]
      omega
    next => cases h
theorem ok_scan {t : Tk} (h : t.ok = true) : inT t.nx t.bs t.l t.cp ∧ ∃ last, scan t.nx (limT t.nx t.bs t.cp) t.nx t.l = some last ∧ endB t.fi last t.nx t.en = true := by
  simp only [Tk.ok, takerB, Bool.and_eq_true, decide_eq_true_eq] at h
  refine ⟨h.1, ?_⟩
  have h2 := h.2
  split at h2
  · cases h2
  · rename_i last hl
    exact ⟨last, hl, h2⟩
theorem ok_small {t : Tk} (h : t.ok = true) : Bd t.l ∧ t.bs.size + tot t.l ≤ 1000000 := by
  obtain ⟨hin, last, hs, _⟩ := ok_scan h
  obtain ⟨⟨h1, h2⟩, ⟨h3, h4⟩, ⟨h5, h6⟩, h7⟩ := hin
  have hlim : limT t.nx t.bs t.cp ≤ 2000000000 := by unfold limT; omega
  have ht := scan_tot hs
  exact ⟨scan_bd h3 hlim hs, by omega⟩

end Go.Proofs.Ytldghgadkncehaa.Tak

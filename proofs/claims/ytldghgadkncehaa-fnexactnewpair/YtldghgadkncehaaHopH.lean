/- The specification's Sends and Tells; of hops that are not too great. -/
import Derived.Test.YtldghgadkncehaaHopG
namespace Go.Proofs.Ytldghgadkncehaa.Hop
open Go.RowKit RowG
set_option linter.unusedVariables false
set_option linter.unusedSimpArgs false

theorem hop_ok {h : Hp} (hb : hopB h = true) : h.ws.length ≤ 30 ∧ h.g.ok = true ∧ h.t.ok = true ∧ (∀ x ∈ h.ws, letB x = true) := by
  unfold hopB at hb
  simp only [Bool.and_eq_true, decide_eq_true_eq, List.all_eq_true] at hb
  exact ⟨hb.2.2.2, hb.2.1, hb.2.2.1, hb.1⟩

/-- What Sends answers. -/
def sendsH (h : Hp) (road p n : Int) : Hp × Bool := if hopB h then sendH h road p n else (zeroH, false)

/-- What Tells answers. -/
def tellsH (h : Hp) (road : Int) (done : Bool) : Hp × Bool := if hopB h then tellH h road done else (zeroH, false)

end Go.Proofs.Ytldghgadkncehaa.Hop

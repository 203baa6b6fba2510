/-
  DERIVED. GIVEN WITH THE SEED: THE CARDS: each row of YtddicibpfmjgfaaDoorRows.lean that lists a variable, with what it lists TIED to the program's text (the seventh form; the later family's looks); each row that meets fmt, with fmt's text TOLD by the authors' own Lean function (tested against real Go, not proved from fmt's source: count such statements apart). THE CARD IS WHAT COUNTS. Prove the row's statement (the work); the ties are given (YtddicibpfmjgfaaDoorTie.lean); close each card by the builder's one call (the guide's Derived/Test/ToyasCard.lean, 'card_holds'). Laid BY PROGRAM, IN A SANDBOX (cutbox-door.mjs). By AI agents, Wed Nov 11 2026. No macro, syntax, notation, axiom, sorry.
-/
import Derived.Test.YtddicibpfmjgfaaDoorRows
import GoSem.ClaimSeven
namespace Go.Proofs.YtddicibpfmjgfaaDoor
namespace Rows

/-- THE TIED CARD OF 'laws.FnStreams'. -/
def fnStreamsCard : Claim7 := { stood := { row := fnStreamsRow, standIns := [], harness := (true, "bad8f9d35a3ef393a4d677c7f7755b6f24d44ef503af568fc77452cdd9b82c1d"), looks := true }, kinds := [], alts := [], laidByText := true, laidKinds := [.handle, .sentinel, .sentinel, .sentinel, .sentinel, .sentinel, .sentinel], laidTests := true, laidLooks := .later }
def FnStreamsCardSaid : Prop := Claim7.holds Tryd.pinned (.plain (OpenSpec.ofChange fnStreamsSpec)) fnStreamsCard

/-- THE TIED CARD OF 'laws.FnExactGrew'. -/
def fnExactGrewCard : Claim7 := { stood := { row := fnExactGrewRow, standIns := [], harness := (true, "bad8f9d35a3ef393a4d677c7f7755b6f24d44ef503af568fc77452cdd9b82c1d"), looks := true }, kinds := [], alts := [], laidByText := true, laidKinds := [.handle, .sentinel, .sentinel, .sentinel], laidTests := true, laidLooks := .later }
def FnExactGrewCardSaid : Prop := Claim7.holds Tryd.pinned (.plain (OpenSpec.ofChange fnExactGrewSpec)) fnExactGrewCard

/-- THE TIED CARD OF 'laws.FnExactWasRead'. -/
def fnExactWasReadCard : Claim7 := { stood := { row := fnExactWasReadRow, standIns := [], harness := (true, "bad8f9d35a3ef393a4d677c7f7755b6f24d44ef503af568fc77452cdd9b82c1d"), looks := true }, kinds := [], alts := [], laidByText := true, laidKinds := [.handle, .sentinel, .sentinel], laidTests := true, laidLooks := .later }
def FnExactWasReadCardSaid : Prop := Claim7.holds Tryd.pinned (.plain (OpenSpec.ofChange fnExactWasReadSpec)) fnExactWasReadCard

/-- THE TIED CARD OF 'laws.FnExactEnded'. -/
def fnExactEndedCard : Claim7 := { stood := { row := fnExactEndedRow, standIns := [], harness := (true, "bad8f9d35a3ef393a4d677c7f7755b6f24d44ef503af568fc77452cdd9b82c1d"), looks := true }, kinds := [], alts := [], laidByText := true, laidKinds := [.handle, .sentinel, .sentinel], laidTests := true, laidLooks := .later }
def FnExactEndedCardSaid : Prop := Claim7.holds Tryd.pinned (.plain (OpenSpec.ofChange fnExactEndedSpec)) fnExactEndedCard

/-- THE TIED CARD OF 'laws.FnExactTellEnd'. -/
def fnExactTellEndCard : Claim7 := { stood := { row := fnExactTellEndRow, standIns := [], harness := (true, "bad8f9d35a3ef393a4d677c7f7755b6f24d44ef503af568fc77452cdd9b82c1d"), looks := true }, kinds := [], alts := [], laidByText := true, laidKinds := [.handle, .sentinel, .sentinel, .sentinel], laidTests := true, laidLooks := .later }
def FnExactTellEndCardSaid : Prop := Claim7.holds Tryd.pinned (.plain (OpenSpec.ofChange fnExactTellEndSpec)) fnExactTellEndCard

/-- THE SECOND FORM's CARD OF 'laws.FnStreams'. -/
def fnStreamsUptoCard : Claim7 := { stood := { row := fnStreamsUptoRow, standIns := [], harness := (true, "bad8f9d35a3ef393a4d677c7f7755b6f24d44ef503af568fc77452cdd9b82c1d"), looks := true }, kinds := [], alts := [], laidByText := true, laidKinds := [.handle, .sentinel, .sentinel, .sentinel, .sentinel, .sentinel, .sentinel], laidTests := true, laidLooks := .later }
def FnStreamsUptoCardSaid : Prop := Claim7.holds Tryd.pinned (.plain (OpenSpec.upto fnStreamsSpec)) fnStreamsUptoCard

/-- THE SECOND FORM's CARD OF 'laws.FnExactGrew'. -/
def fnExactGrewUptoCard : Claim7 := { stood := { row := fnExactGrewUptoRow, standIns := [], harness := (true, "bad8f9d35a3ef393a4d677c7f7755b6f24d44ef503af568fc77452cdd9b82c1d"), looks := true }, kinds := [], alts := [], laidByText := true, laidKinds := [.handle, .sentinel, .sentinel, .sentinel], laidTests := true, laidLooks := .later }
def FnExactGrewUptoCardSaid : Prop := Claim7.holds Tryd.pinned (.plain (OpenSpec.upto fnExactGrewSpec)) fnExactGrewUptoCard

/-- THE SECOND FORM's CARD OF 'laws.FnExactWasRead'. -/
def fnExactWasReadUptoCard : Claim7 := { stood := { row := fnExactWasReadUptoRow, standIns := [], harness := (true, "bad8f9d35a3ef393a4d677c7f7755b6f24d44ef503af568fc77452cdd9b82c1d"), looks := true }, kinds := [], alts := [], laidByText := true, laidKinds := [.handle, .sentinel, .sentinel], laidTests := true, laidLooks := .later }
def FnExactWasReadUptoCardSaid : Prop := Claim7.holds Tryd.pinned (.plain (OpenSpec.upto fnExactWasReadSpec)) fnExactWasReadUptoCard

/-- THE SECOND FORM's CARD OF 'laws.FnExactEnded'. -/
def fnExactEndedUptoCard : Claim7 := { stood := { row := fnExactEndedUptoRow, standIns := [], harness := (true, "bad8f9d35a3ef393a4d677c7f7755b6f24d44ef503af568fc77452cdd9b82c1d"), looks := true }, kinds := [], alts := [], laidByText := true, laidKinds := [.handle, .sentinel, .sentinel], laidTests := true, laidLooks := .later }
def FnExactEndedUptoCardSaid : Prop := Claim7.holds Tryd.pinned (.plain (OpenSpec.upto fnExactEndedSpec)) fnExactEndedUptoCard

/-- THE SECOND FORM's CARD OF 'laws.FnExactTellEnd'. -/
def fnExactTellEndUptoCard : Claim7 := { stood := { row := fnExactTellEndUptoRow, standIns := [], harness := (true, "bad8f9d35a3ef393a4d677c7f7755b6f24d44ef503af568fc77452cdd9b82c1d"), looks := true }, kinds := [], alts := [], laidByText := true, laidKinds := [.handle, .sentinel, .sentinel, .sentinel], laidTests := true, laidLooks := .later }
def FnExactTellEndUptoCardSaid : Prop := Claim7.holds Tryd.pinned (.plain (OpenSpec.upto fnExactTellEndSpec)) fnExactTellEndUptoCard
end Rows
end Go.Proofs.YtddicibpfmjgfaaDoor

/-
  DERIVED. GIVEN WITH THE SEED: THE CARDS: each row of YtkljbgdikmpjfaaGreatDoorRows.lean that lists a variable, with what it lists TIED to the program's text (the seventh form; the later family's looks); each row that meets fmt, with fmt's text TOLD by the authors' own Lean function (tested against real Go, not proved from fmt's source: count such statements apart). THE CARD IS WHAT COUNTS. Prove the row's statement (the work); the ties are given (YtkljbgdikmpjfaaGreatDoorTie.lean); close each card by the builder's one call (the guide's Derived/Test/ToyasCard.lean, 'card_holds'). Laid BY PROGRAM, IN A SANDBOX (cutbox-door.mjs). By AI agents, Wed Nov 11 2026. No macro, syntax, notation, axiom, sorry.
-/
import Derived.Test.YtkljbgdikmpjfaaGreatDoorRows
import GoSem.ClaimSeven
namespace Go.Proofs.YtkljbgdikmpjfaaGreatDoor
namespace Rows

/-- THE TIED CARD OF 'laws.FnExactWanted'. -/
def fnExactWantedCard : Claim7 := { stood := { row := fnExactWantedRow, standIns := [], harness := (true, "67909575f988b9351717f8fceda87ae99dd109a927ff67bef2a23445c3aaf50a"), looks := true }, kinds := [], alts := [], laidByText := true, laidKinds := [.sentinel], laidTests := true, laidLooks := .later }
def FnExactWantedCardSaid : Prop := Claim7.holds Tryz.pinned (.plain (OpenSpec.ofChange fnExactWantedSpec)) fnExactWantedCard

/-- THE TIED CARD OF 'laws.FnExactExcess'. -/
def fnExactExcessCard : Claim7 := { stood := { row := fnExactExcessRow, standIns := [], harness := (true, "67909575f988b9351717f8fceda87ae99dd109a927ff67bef2a23445c3aaf50a"), looks := true }, kinds := [], alts := [], laidByText := true, laidKinds := [.sentinel], laidTests := true, laidLooks := .later }
def FnExactExcessCardSaid : Prop := Claim7.holds Tryz.pinned (.plain (OpenSpec.ofChange fnExactExcessSpec)) fnExactExcessCard

/-- THE TIED CARD OF 'laws.FnExactAttachNext'. -/
def fnExactAttachNextCard : Claim7 := { stood := { row := fnExactAttachNextRow, standIns := [], harness := (true, "67909575f988b9351717f8fceda87ae99dd109a927ff67bef2a23445c3aaf50a"), looks := true }, kinds := [], alts := [], laidByText := true, laidKinds := [.sentinel, .sentinel, .sentinel, .sentinel, .sentinel, .sentinel, .sentinel, .sentinel, .sentinel], laidTests := true, laidLooks := .later }
def FnExactAttachNextCardSaid : Prop := Claim7.holds Tryz.pinned (.plain (OpenSpec.ofChange fnExactAttachNextSpec)) fnExactAttachNextCard

/-- THE SECOND FORM's CARD OF 'laws.FnExactWanted'. -/
def fnExactWantedUptoCard : Claim7 := { stood := { row := fnExactWantedUptoRow, standIns := [], harness := (true, "67909575f988b9351717f8fceda87ae99dd109a927ff67bef2a23445c3aaf50a"), looks := true }, kinds := [], alts := [], laidByText := true, laidKinds := [.sentinel], laidTests := true, laidLooks := .later }
def FnExactWantedUptoCardSaid : Prop := Claim7.holds Tryz.pinned (.plain (OpenSpec.upto fnExactWantedSpec)) fnExactWantedUptoCard

/-- THE SECOND FORM's CARD OF 'laws.FnExactExcess'. -/
def fnExactExcessUptoCard : Claim7 := { stood := { row := fnExactExcessUptoRow, standIns := [], harness := (true, "67909575f988b9351717f8fceda87ae99dd109a927ff67bef2a23445c3aaf50a"), looks := true }, kinds := [], alts := [], laidByText := true, laidKinds := [.sentinel], laidTests := true, laidLooks := .later }
def FnExactExcessUptoCardSaid : Prop := Claim7.holds Tryz.pinned (.plain (OpenSpec.upto fnExactExcessSpec)) fnExactExcessUptoCard

/-- THE SECOND FORM's CARD OF 'laws.FnExactAttachNext'. -/
def fnExactAttachNextUptoCard : Claim7 := { stood := { row := fnExactAttachNextUptoRow, standIns := [], harness := (true, "67909575f988b9351717f8fceda87ae99dd109a927ff67bef2a23445c3aaf50a"), looks := true }, kinds := [], alts := [], laidByText := true, laidKinds := [.sentinel, .sentinel, .sentinel, .sentinel, .sentinel, .sentinel, .sentinel, .sentinel, .sentinel], laidTests := true, laidLooks := .later }
def FnExactAttachNextUptoCardSaid : Prop := Claim7.holds Tryz.pinned (.plain (OpenSpec.upto fnExactAttachNextSpec)) fnExactAttachNextUptoCard
end Rows
end Go.Proofs.YtkljbgdikmpjfaaGreatDoor

/-
  DERIVED. GIVEN WITH THE SEED: THE CARDS: each row of YtjgjhkkmlaacdaaGreatDoorRows.lean that lists a variable, with what it lists TIED to the program's text (the seventh form; the later family's looks); each row that meets fmt, with fmt's text TOLD by the authors' own Lean function (tested against real Go, not proved from fmt's source: count such statements apart). THE CARD IS WHAT COUNTS. Prove the row's statement (the work); the ties are given (YtjgjhkkmlaacdaaGreatDoorTie.lean); close each card by the builder's one call (the guide's Derived/Test/ToyasCard.lean, 'card_holds'). Laid BY PROGRAM, IN A SANDBOX (cutbox-door.mjs). By AI agents, Wed Nov 11 2026. No macro, syntax, notation, axiom, sorry.
-/
import Derived.Test.YtjgjhkkmlaacdaaGreatDoorRows
import GoSem.ClaimSeven
namespace Go.Proofs.YtjgjhkkmlaacdaaGreatDoor
namespace Rows

/-- THE TIED CARD OF 'laws.FnExactAgentStep'. -/
def fnExactAgentStepCard : Claim7 := { stood := { row := fnExactAgentStepRow, standIns := [], harness := (true, "847dcbe7440d66b4b68246ea1d8b53da5dbbd4597f1801eba0d313effa9bddeb"), looks := true }, kinds := [], alts := [], laidByText := true, laidKinds := [.sentinel, .sentinel, .sentinel, .sentinel, .sentinel, .sentinel, .sentinel, .sentinel, .sentinel, .sentinel], laidTests := true, laidLooks := .later }
def FnExactAgentStepCardSaid : Prop := Claim7.holds Tryz.pinned (.plain (OpenSpec.ofChange fnExactAgentStepSpec)) fnExactAgentStepCard

/-- THE SECOND FORM's CARD OF 'laws.FnExactAgentStep'. -/
def fnExactAgentStepUptoCard : Claim7 := { stood := { row := fnExactAgentStepUptoRow, standIns := [], harness := (true, "847dcbe7440d66b4b68246ea1d8b53da5dbbd4597f1801eba0d313effa9bddeb"), looks := true }, kinds := [], alts := [], laidByText := true, laidKinds := [.sentinel, .sentinel, .sentinel, .sentinel, .sentinel, .sentinel, .sentinel, .sentinel, .sentinel, .sentinel], laidTests := true, laidLooks := .later }
def FnExactAgentStepUptoCardSaid : Prop := Claim7.holds Tryz.pinned (.plain (OpenSpec.upto fnExactAgentStepSpec)) fnExactAgentStepUptoCard
end Rows
end Go.Proofs.YtjgjhkkmlaacdaaGreatDoor

/-
  DERIVED. GIVEN WITH THE SEED: THE CARDS: each row of YtbbdcjbfnjlndaaGreatDoorRows.lean that lists a variable, with what it lists TIED to the program's text (the seventh form; the later family's looks); each row that meets fmt, with fmt's text TOLD by the authors' own Lean function (tested against real Go, not proved from fmt's source: count such statements apart). THE CARD IS WHAT COUNTS. Prove the row's statement (the work); the ties are given (YtbbdcjbfnjlndaaGreatDoorTie.lean); close each card by the builder's one call (the guide's Derived/Test/ToyasCard.lean, 'card_holds'). Laid BY PROGRAM, IN A SANDBOX (cutbox-door.mjs). By AI agents, Wed Nov 11 2026. No macro, syntax, notation, axiom, sorry.
-/
import Derived.Test.YtbbdcjbfnjlndaaGreatDoorRows
import GoSem.ClaimSeven
namespace Go.Proofs.YtbbdcjbfnjlndaaGreatDoor
namespace Rows

/-- THE TIED CARD OF 'laws.FnExactAttachNext'. -/
def fnExactAttachNextCard : Claim7 := { stood := { row := fnExactAttachNextRow, standIns := [], harness := (true, "c76a5357e992f8ab716172e49356078040c046986236515042290a1524025cd7"), looks := true }, kinds := [], alts := [], laidByText := true, laidKinds := [.sentinel, .sentinel, .sentinel, .sentinel, .sentinel, .sentinel, .sentinel, .sentinel, .sentinel, .sentinel], laidTests := true, laidLooks := .later }
def FnExactAttachNextCardSaid : Prop := Claim7.holds Tryz.pinned (.plain (OpenSpec.ofChange fnExactAttachNextSpec)) fnExactAttachNextCard

/-- THE SECOND FORM's CARD OF 'laws.FnExactAttachNext'. -/
def fnExactAttachNextUptoCard : Claim7 := { stood := { row := fnExactAttachNextUptoRow, standIns := [], harness := (true, "c76a5357e992f8ab716172e49356078040c046986236515042290a1524025cd7"), looks := true }, kinds := [], alts := [], laidByText := true, laidKinds := [.sentinel, .sentinel, .sentinel, .sentinel, .sentinel, .sentinel, .sentinel, .sentinel, .sentinel, .sentinel], laidTests := true, laidLooks := .later }
def FnExactAttachNextUptoCardSaid : Prop := Claim7.holds Tryz.pinned (.plain (OpenSpec.upto fnExactAttachNextSpec)) fnExactAttachNextUptoCard
end Rows
end Go.Proofs.YtbbdcjbfnjlndaaGreatDoor

/-
  DERIVED. GIVEN WITH THE SEED: THE CARDS: each row of YtcnmlpiffcldkaaGreatDoorRows.lean that lists a variable, with what it lists TIED to the program's text (the seventh form; the later family's looks); each row that meets fmt, with fmt's text TOLD by the authors' own Lean function (tested against real Go, not proved from fmt's source: count such statements apart). THE CARD IS WHAT COUNTS. Prove the row's statement (the work); the ties are given (YtcnmlpiffcldkaaGreatDoorTie.lean); close each card by the builder's one call (the guide's Derived/Test/ToyasCard.lean, 'card_holds'). Laid BY PROGRAM, IN A SANDBOX (cutbox-door.mjs). By AI agents, Wed Nov 11 2026. No macro, syntax, notation, axiom, sorry.
-/
import Derived.Test.YtcnmlpiffcldkaaGreatDoorRows
import GoSem.ClaimSeven
namespace Go.Proofs.YtcnmlpiffcldkaaGreatDoor
namespace Rows

/-- THE TIED CARD OF 'laws.FnBind'. -/
def fnBindCard : Claim7 := { stood := { row := fnBindRow, standIns := [], harness := (true, "bbe0c31da4d506ed9d31db0ddce0e41e7eb1ff426dd141dec8c37f8ac6be375e"), looks := true }, kinds := [], alts := [], laidByText := true, laidKinds := [.sentinel, .sentinel, .sentinel, .sentinel, .sentinel, .sentinel, .sentinel, .sentinel, .sentinel, .sentinel], laidTests := true, laidLooks := .later }
def FnBindCardSaid : Prop := Claim7.holds Tryz.pinned (.plain (OpenSpec.ofChange fnBindSpec)) fnBindCard

/-- THE SECOND FORM's CARD OF 'laws.FnBind'. -/
def fnBindUptoCard : Claim7 := { stood := { row := fnBindUptoRow, standIns := [], harness := (true, "bbe0c31da4d506ed9d31db0ddce0e41e7eb1ff426dd141dec8c37f8ac6be375e"), looks := true }, kinds := [], alts := [], laidByText := true, laidKinds := [.sentinel, .sentinel, .sentinel, .sentinel, .sentinel, .sentinel, .sentinel, .sentinel, .sentinel, .sentinel], laidTests := true, laidLooks := .later }
def FnBindUptoCardSaid : Prop := Claim7.holds Tryz.pinned (.plain (OpenSpec.upto fnBindSpec)) fnBindUptoCard
end Rows
end Go.Proofs.YtcnmlpiffcldkaaGreatDoor

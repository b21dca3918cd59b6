/-
  DERIVED. GIVEN WITH THE SEED: THE CARDS: each row of YtiplhgedmjoliaaGreatDoorRows.lean that lists a variable, with what it lists TIED to the program's text (the seventh form; the later family's looks); each row that meets fmt, with fmt's text TOLD by the authors' own Lean function (tested against real Go, not proved from fmt's source: count such statements apart). THE CARD IS WHAT COUNTS. Prove the row's statement (the work); the ties are given (YtiplhgedmjoliaaGreatDoorTie.lean); close each card by the builder's one call (the guide's Derived/Test/ToyasCard.lean, 'card_holds'). Laid BY PROGRAM, IN A SANDBOX (cutbox-door.mjs). By AI agents, Wed Nov 11 2026. No macro, syntax, notation, axiom, sorry.
-/
import Derived.Test.YtiplhgedmjoliaaGreatDoorRows
import GoSem.ClaimSeven
namespace Go.Proofs.YtiplhgedmjoliaaGreatDoor
namespace Rows

/-- THE TIED CARD OF 'laws.FnEvict'. -/
def fnEvictCard : Claim7 := { stood := { row := fnEvictRow, standIns := [], harness := (true, "14dc1f85a549884305b2a4095a1b5629f53a8887f1b759936fe1fc3a87a67927"), looks := true }, kinds := [], alts := [], laidByText := true, laidKinds := [.sentinel, .sentinel, .sentinel, .sentinel, .sentinel, .sentinel, .sentinel, .sentinel, .sentinel, .sentinel], laidTests := true, laidLooks := .later }
def FnEvictCardSaid : Prop := Claim7.holds Tryz.pinned (.plain (OpenSpec.ofChange fnEvictSpec)) fnEvictCard

/-- THE SECOND FORM's CARD OF 'laws.FnEvict'. -/
def fnEvictUptoCard : Claim7 := { stood := { row := fnEvictUptoRow, standIns := [], harness := (true, "14dc1f85a549884305b2a4095a1b5629f53a8887f1b759936fe1fc3a87a67927"), looks := true }, kinds := [], alts := [], laidByText := true, laidKinds := [.sentinel, .sentinel, .sentinel, .sentinel, .sentinel, .sentinel, .sentinel, .sentinel, .sentinel, .sentinel], laidTests := true, laidLooks := .later }
def FnEvictUptoCardSaid : Prop := Claim7.holds Tryz.pinned (.plain (OpenSpec.upto fnEvictSpec)) fnEvictUptoCard
end Rows
end Go.Proofs.YtiplhgedmjoliaaGreatDoor

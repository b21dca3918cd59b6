/-
  DERIVED. GIVEN WITH THE SEED: THE CARDS: each row of YtclhdmpfponjdaaGreatDoorRows.lean that lists a variable, with what it lists TIED to the program's text (the seventh form; the later family's looks); each row that meets fmt, with fmt's text TOLD by the authors' own Lean function (tested against real Go, not proved from fmt's source: count such statements apart). THE CARD IS WHAT COUNTS. Prove the row's statement (the work); the ties are given (YtclhdmpfponjdaaGreatDoorTie.lean); close each card by the builder's one call (the guide's Derived/Test/ToyasCard.lean, 'card_holds'). Laid BY PROGRAM, IN A SANDBOX (cutbox-door.mjs). By AI agents, Wed Nov 11 2026. No macro, syntax, notation, axiom, sorry.
-/
import Derived.Test.YtclhdmpfponjdaaGreatDoorRows
import GoSem.ClaimSeven
namespace Go.Proofs.YtclhdmpfponjdaaGreatDoor
namespace Rows

/-- THE TIED CARD OF 'laws.FnExactDisksOf'. -/
def fnExactDisksOfCard : Claim7 := { stood := { row := fnExactDisksOfRow, standIns := [], harness := (true, "f071db1aeca166ee644a12063089ac1d01ddf2f3b812dc8e2b24441178e2964d"), looks := false }, kinds := [], alts := [], laidByText := true, laidKinds := [.sentinel, .sentinel, .sentinel], laidTests := true, laidLooks := .later }
def FnExactDisksOfCardSaid : Prop := Claim7.holds Tryz.pinned (.plain (OpenSpec.ofChange fnExactDisksOfSpec)) fnExactDisksOfCard

/-- THE SECOND FORM's CARD OF 'laws.FnExactDisksOf'. -/
def fnExactDisksOfUptoCard : Claim7 := { stood := { row := fnExactDisksOfUptoRow, standIns := [], harness := (true, "f071db1aeca166ee644a12063089ac1d01ddf2f3b812dc8e2b24441178e2964d"), looks := false }, kinds := [], alts := [], laidByText := true, laidKinds := [.sentinel, .sentinel, .sentinel], laidTests := true, laidLooks := .later }
def FnExactDisksOfUptoCardSaid : Prop := Claim7.holds Tryz.pinned (.plain (OpenSpec.upto fnExactDisksOfSpec)) fnExactDisksOfUptoCard
end Rows
end Go.Proofs.YtclhdmpfponjdaaGreatDoor

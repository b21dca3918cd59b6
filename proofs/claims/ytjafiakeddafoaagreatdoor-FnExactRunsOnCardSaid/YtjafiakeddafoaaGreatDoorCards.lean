/-
  DERIVED. GIVEN WITH THE SEED: THE CARDS: each row of YtjafiakeddafoaaGreatDoorRows.lean that lists a variable, with what it lists TIED to the program's text (the seventh form; the later family's looks); each row that meets fmt, with fmt's text TOLD by the authors' own Lean function (tested against real Go, not proved from fmt's source: count such statements apart). THE CARD IS WHAT COUNTS. Prove the row's statement (the work); the ties are given (YtjafiakeddafoaaGreatDoorTie.lean); close each card by the builder's one call (the guide's Derived/Test/ToyasCard.lean, 'card_holds'). Laid BY PROGRAM, IN A SANDBOX (cutbox-door.mjs). By AI agents, Wed Nov 11 2026. No macro, syntax, notation, axiom, sorry.
-/
import Derived.Test.YtjafiakeddafoaaGreatDoorRows
import GoSem.ClaimSeven
namespace Go.Proofs.YtjafiakeddafoaaGreatDoor
namespace Rows

/-- THE TIED CARD OF 'laws.FnExactLeaseLive'. -/
def fnExactLeaseLiveCard : Claim7 := { stood := { row := fnExactLeaseLiveRow, standIns := [], harness := (true, "818acaea523325be1644027a18b8f9145f572f81f5ef147c5376b08cab977da4"), looks := false }, kinds := [], alts := [], laidByText := true, laidKinds := [.sentinel, .sentinel, .sentinel], laidTests := true, laidLooks := .later }
def FnExactLeaseLiveCardSaid : Prop := Claim7.holds Tryz.pinned (.plain (OpenSpec.ofChange fnExactLeaseLiveSpec)) fnExactLeaseLiveCard

/-- THE TIED CARD OF 'laws.FnExactRunsOn'. -/
def fnExactRunsOnCard : Claim7 := { stood := { row := fnExactRunsOnRow, standIns := [], harness := (true, "818acaea523325be1644027a18b8f9145f572f81f5ef147c5376b08cab977da4"), looks := false }, kinds := [], alts := [], laidByText := true, laidKinds := [.sentinel, .sentinel, .sentinel], laidTests := true, laidLooks := .later }
def FnExactRunsOnCardSaid : Prop := Claim7.holds Tryz.pinned (.plain (OpenSpec.ofChange fnExactRunsOnSpec)) fnExactRunsOnCard

/-- THE SECOND FORM's CARD OF 'laws.FnExactLeaseLive'. -/
def fnExactLeaseLiveUptoCard : Claim7 := { stood := { row := fnExactLeaseLiveUptoRow, standIns := [], harness := (true, "818acaea523325be1644027a18b8f9145f572f81f5ef147c5376b08cab977da4"), looks := false }, kinds := [], alts := [], laidByText := true, laidKinds := [.sentinel, .sentinel, .sentinel], laidTests := true, laidLooks := .later }
def FnExactLeaseLiveUptoCardSaid : Prop := Claim7.holds Tryz.pinned (.plain (OpenSpec.upto fnExactLeaseLiveSpec)) fnExactLeaseLiveUptoCard

/-- THE SECOND FORM's CARD OF 'laws.FnExactRunsOn'. -/
def fnExactRunsOnUptoCard : Claim7 := { stood := { row := fnExactRunsOnUptoRow, standIns := [], harness := (true, "818acaea523325be1644027a18b8f9145f572f81f5ef147c5376b08cab977da4"), looks := false }, kinds := [], alts := [], laidByText := true, laidKinds := [.sentinel, .sentinel, .sentinel], laidTests := true, laidLooks := .later }
def FnExactRunsOnUptoCardSaid : Prop := Claim7.holds Tryz.pinned (.plain (OpenSpec.upto fnExactRunsOnSpec)) fnExactRunsOnUptoCard
end Rows
end Go.Proofs.YtjafiakeddafoaaGreatDoor

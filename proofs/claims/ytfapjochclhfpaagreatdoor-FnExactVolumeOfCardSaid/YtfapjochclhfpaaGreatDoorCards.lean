/-
  DERIVED. GIVEN WITH THE SEED: THE CARDS: each row of YtfapjochclhfpaaGreatDoorRows.lean that lists a variable, with what it lists TIED to the program's text (the seventh form; the later family's looks); each row that meets fmt, with fmt's text TOLD by the authors' own Lean function (tested against real Go, not proved from fmt's source: count such statements apart). THE CARD IS WHAT COUNTS. Prove the row's statement (the work); the ties are given (YtfapjochclhfpaaGreatDoorTie.lean); close each card by the builder's one call (the guide's Derived/Test/ToyasCard.lean, 'card_holds'). Laid BY PROGRAM, IN A SANDBOX (cutbox-door.mjs). By AI agents, Wed Nov 11 2026. No macro, syntax, notation, axiom, sorry.
-/
import Derived.Test.YtfapjochclhfpaaGreatDoorRows
import GoSem.ClaimSeven
namespace Go.Proofs.YtfapjochclhfpaaGreatDoor
namespace Rows

/-- THE TIED CARD OF 'laws.FnExactAddClaim'. -/
def fnExactAddClaimCard : Claim7 := { stood := { row := fnExactAddClaimRow, standIns := [], harness := (true, "78d3876e3c8ebaf0bc7c50a2ac9a06acbc132d2d0ea745ad583908991552fc28"), looks := true }, kinds := [], alts := [], laidByText := true, laidKinds := [.sentinel, .sentinel, .sentinel, .sentinel, .sentinel, .sentinel, .sentinel, .sentinel, .sentinel, .sentinel], laidTests := true, laidLooks := .later }
def FnExactAddClaimCardSaid : Prop := Claim7.holds Tryz.pinned (.plain (OpenSpec.ofChange fnExactAddClaimSpec)) fnExactAddClaimCard

/-- THE TIED CARD OF 'laws.FnExactVolumeOf'. -/
def fnExactVolumeOfCard : Claim7 := { stood := { row := fnExactVolumeOfRow, standIns := [], harness := (true, "78d3876e3c8ebaf0bc7c50a2ac9a06acbc132d2d0ea745ad583908991552fc28"), looks := true }, kinds := [], alts := [], laidByText := true, laidKinds := [.sentinel, .sentinel, .sentinel, .sentinel, .sentinel, .sentinel, .sentinel, .sentinel, .sentinel, .sentinel], laidTests := true, laidLooks := .later }
def FnExactVolumeOfCardSaid : Prop := Claim7.holds Tryz.pinned (.plain (OpenSpec.ofChange fnExactVolumeOfSpec)) fnExactVolumeOfCard

/-- THE SECOND FORM's CARD OF 'laws.FnExactAddClaim'. -/
def fnExactAddClaimUptoCard : Claim7 := { stood := { row := fnExactAddClaimUptoRow, standIns := [], harness := (true, "78d3876e3c8ebaf0bc7c50a2ac9a06acbc132d2d0ea745ad583908991552fc28"), looks := true }, kinds := [], alts := [], laidByText := true, laidKinds := [.sentinel, .sentinel, .sentinel, .sentinel, .sentinel, .sentinel, .sentinel, .sentinel, .sentinel, .sentinel], laidTests := true, laidLooks := .later }
def FnExactAddClaimUptoCardSaid : Prop := Claim7.holds Tryz.pinned (.plain (OpenSpec.upto fnExactAddClaimSpec)) fnExactAddClaimUptoCard

/-- THE SECOND FORM's CARD OF 'laws.FnExactVolumeOf'. -/
def fnExactVolumeOfUptoCard : Claim7 := { stood := { row := fnExactVolumeOfUptoRow, standIns := [], harness := (true, "78d3876e3c8ebaf0bc7c50a2ac9a06acbc132d2d0ea745ad583908991552fc28"), looks := true }, kinds := [], alts := [], laidByText := true, laidKinds := [.sentinel, .sentinel, .sentinel, .sentinel, .sentinel, .sentinel, .sentinel, .sentinel, .sentinel, .sentinel], laidTests := true, laidLooks := .later }
def FnExactVolumeOfUptoCardSaid : Prop := Claim7.holds Tryz.pinned (.plain (OpenSpec.upto fnExactVolumeOfSpec)) fnExactVolumeOfUptoCard
end Rows
end Go.Proofs.YtfapjochclhfpaaGreatDoor

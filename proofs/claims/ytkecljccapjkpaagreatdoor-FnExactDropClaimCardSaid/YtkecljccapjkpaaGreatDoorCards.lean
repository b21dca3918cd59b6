/-
  DERIVED. GIVEN WITH THE SEED: THE CARDS: each row of YtkecljccapjkpaaGreatDoorRows.lean that lists a variable, with what it lists TIED to the program's text (the seventh form; the later family's looks); each row that meets fmt, with fmt's text TOLD by the authors' own Lean function (tested against real Go, not proved from fmt's source: count such statements apart). THE CARD IS WHAT COUNTS. Prove the row's statement (the work); the ties are given (YtkecljccapjkpaaGreatDoorTie.lean); close each card by the builder's one call (the guide's Derived/Test/ToyasCard.lean, 'card_holds'). Laid BY PROGRAM, IN A SANDBOX (cutbox-door.mjs). By AI agents, Wed Nov 11 2026. No macro, syntax, notation, axiom, sorry.
-/
import Derived.Test.YtkecljccapjkpaaGreatDoorRows
import GoSem.ClaimSeven
namespace Go.Proofs.YtkecljccapjkpaaGreatDoor
namespace Rows

/-- THE TIED CARD OF 'laws.FnExactDropClaim'. -/
def fnExactDropClaimCard : Claim7 := { stood := { row := fnExactDropClaimRow, standIns := [], harness := (true, "ac2db3b346ed2f19584006c5d1bc03c25e97cfb15c1fc828b6c67713e0d19001"), looks := true }, kinds := [], alts := [], laidByText := true, laidKinds := [.sentinel, .sentinel, .sentinel, .sentinel, .sentinel, .sentinel, .sentinel, .sentinel, .sentinel, .sentinel], laidTests := true, laidLooks := .later }
def FnExactDropClaimCardSaid : Prop := Claim7.holds Tryz.pinned (.plain (OpenSpec.ofChange fnExactDropClaimSpec)) fnExactDropClaimCard

/-- THE TIED CARD OF 'laws.FnExactDropVolume'. -/
def fnExactDropVolumeCard : Claim7 := { stood := { row := fnExactDropVolumeRow, standIns := [], harness := (true, "ac2db3b346ed2f19584006c5d1bc03c25e97cfb15c1fc828b6c67713e0d19001"), looks := true }, kinds := [], alts := [], laidByText := true, laidKinds := [.sentinel, .sentinel, .sentinel, .sentinel, .sentinel, .sentinel, .sentinel, .sentinel, .sentinel, .sentinel], laidTests := true, laidLooks := .later }
def FnExactDropVolumeCardSaid : Prop := Claim7.holds Tryz.pinned (.plain (OpenSpec.ofChange fnExactDropVolumeSpec)) fnExactDropVolumeCard

/-- THE SECOND FORM's CARD OF 'laws.FnExactDropClaim'. -/
def fnExactDropClaimUptoCard : Claim7 := { stood := { row := fnExactDropClaimUptoRow, standIns := [], harness := (true, "ac2db3b346ed2f19584006c5d1bc03c25e97cfb15c1fc828b6c67713e0d19001"), looks := true }, kinds := [], alts := [], laidByText := true, laidKinds := [.sentinel, .sentinel, .sentinel, .sentinel, .sentinel, .sentinel, .sentinel, .sentinel, .sentinel, .sentinel], laidTests := true, laidLooks := .later }
def FnExactDropClaimUptoCardSaid : Prop := Claim7.holds Tryz.pinned (.plain (OpenSpec.upto fnExactDropClaimSpec)) fnExactDropClaimUptoCard

/-- THE SECOND FORM's CARD OF 'laws.FnExactDropVolume'. -/
def fnExactDropVolumeUptoCard : Claim7 := { stood := { row := fnExactDropVolumeUptoRow, standIns := [], harness := (true, "ac2db3b346ed2f19584006c5d1bc03c25e97cfb15c1fc828b6c67713e0d19001"), looks := true }, kinds := [], alts := [], laidByText := true, laidKinds := [.sentinel, .sentinel, .sentinel, .sentinel, .sentinel, .sentinel, .sentinel, .sentinel, .sentinel, .sentinel], laidTests := true, laidLooks := .later }
def FnExactDropVolumeUptoCardSaid : Prop := Claim7.holds Tryz.pinned (.plain (OpenSpec.upto fnExactDropVolumeSpec)) fnExactDropVolumeUptoCard
end Rows
end Go.Proofs.YtkecljccapjkpaaGreatDoor

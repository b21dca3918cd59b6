/-
  DERIVED. GIVEN WITH THE SEED: THE CARDS: each row of YtphapcngffpjiaaGreatDoorRows.lean that lists a variable, with what it lists TIED to the program's text (the seventh form; the later family's looks); each row that meets fmt, with fmt's text TOLD by the authors' own Lean function (tested against real Go, not proved from fmt's source: count such statements apart). THE CARD IS WHAT COUNTS. Prove the row's statement (the work); the ties are given (YtphapcngffpjiaaGreatDoorTie.lean); close each card by the builder's one call (the guide's Derived/Test/ToyasCard.lean, 'card_holds'). Laid BY PROGRAM, IN A SANDBOX (cutbox-door.mjs). By AI agents, Wed Nov 11 2026. No macro, syntax, notation, axiom, sorry.
-/
import Derived.Test.YtphapcngffpjiaaGreatDoorRows
import GoSem.ClaimSeven
namespace Go.Proofs.YtphapcngffpjiaaGreatDoor
namespace Rows

/-- THE TIED CARD OF 'laws.FnExactAddClass'. -/
def fnExactAddClassCard : Claim7 := { stood := { row := fnExactAddClassRow, standIns := [], harness := (true, "4678a05c395ac595c73de7a87d416c336105165e45cdd86cf9963866f4fddf50"), looks := true }, kinds := [], alts := [], laidByText := true, laidKinds := [.sentinel, .sentinel, .sentinel, .sentinel, .sentinel, .sentinel, .sentinel, .sentinel, .sentinel], laidTests := true, laidLooks := .later }
def FnExactAddClassCardSaid : Prop := Claim7.holds Tryz.pinned (.plain (OpenSpec.ofChange fnExactAddClassSpec)) fnExactAddClassCard

/-- THE TIED CARD OF 'laws.FnExactAddClaim'. -/
def fnExactAddClaimCard : Claim7 := { stood := { row := fnExactAddClaimRow, standIns := [], harness := (true, "4678a05c395ac595c73de7a87d416c336105165e45cdd86cf9963866f4fddf50"), looks := true }, kinds := [], alts := [], laidByText := true, laidKinds := [.sentinel, .sentinel, .sentinel, .sentinel, .sentinel, .sentinel, .sentinel, .sentinel, .sentinel], laidTests := true, laidLooks := .later }
def FnExactAddClaimCardSaid : Prop := Claim7.holds Tryz.pinned (.plain (OpenSpec.ofChange fnExactAddClaimSpec)) fnExactAddClaimCard

/-- THE SECOND FORM's CARD OF 'laws.FnExactAddClass'. -/
def fnExactAddClassUptoCard : Claim7 := { stood := { row := fnExactAddClassUptoRow, standIns := [], harness := (true, "4678a05c395ac595c73de7a87d416c336105165e45cdd86cf9963866f4fddf50"), looks := true }, kinds := [], alts := [], laidByText := true, laidKinds := [.sentinel, .sentinel, .sentinel, .sentinel, .sentinel, .sentinel, .sentinel, .sentinel, .sentinel], laidTests := true, laidLooks := .later }
def FnExactAddClassUptoCardSaid : Prop := Claim7.holds Tryz.pinned (.plain (OpenSpec.upto fnExactAddClassSpec)) fnExactAddClassUptoCard

/-- THE SECOND FORM's CARD OF 'laws.FnExactAddClaim'. -/
def fnExactAddClaimUptoCard : Claim7 := { stood := { row := fnExactAddClaimUptoRow, standIns := [], harness := (true, "4678a05c395ac595c73de7a87d416c336105165e45cdd86cf9963866f4fddf50"), looks := true }, kinds := [], alts := [], laidByText := true, laidKinds := [.sentinel, .sentinel, .sentinel, .sentinel, .sentinel, .sentinel, .sentinel, .sentinel, .sentinel], laidTests := true, laidLooks := .later }
def FnExactAddClaimUptoCardSaid : Prop := Claim7.holds Tryz.pinned (.plain (OpenSpec.upto fnExactAddClaimSpec)) fnExactAddClaimUptoCard
end Rows
end Go.Proofs.YtphapcngffpjiaaGreatDoor

/-
  DERIVED. GIVEN WITH THE SEED: THE CARDS: each row of YtmknjejaochfjaaGreatDoorRows.lean that lists a variable, with what it lists TIED to the program's text (the seventh form; the later family's looks); each row that meets fmt, with fmt's text TOLD by the authors' own Lean function (tested against real Go, not proved from fmt's source: count such statements apart). THE CARD IS WHAT COUNTS. Prove the row's statement (the work); the ties are given (YtmknjejaochfjaaGreatDoorTie.lean); close each card by the builder's one call (the guide's Derived/Test/ToyasCard.lean, 'card_holds'). Laid BY PROGRAM, IN A SANDBOX (cutbox-door.mjs). By AI agents, Wed Nov 11 2026. No macro, syntax, notation, axiom, sorry.
-/
import Derived.Test.YtmknjejaochfjaaGreatDoorRows
import GoSem.ClaimSeven
namespace Go.Proofs.YtmknjejaochfjaaGreatDoor
namespace Rows

/-- THE TIED CARD OF 'laws.FnExactBindClaim'. -/
def fnExactBindClaimCard : Claim7 := { stood := { row := fnExactBindClaimRow, standIns := [], harness := (true, "1116c1806d01c645bf852d7d610d52f5143e00dfb77bfa1660e7f99574a13aaa"), looks := true }, kinds := [], alts := [], laidByText := true, laidKinds := [.sentinel, .sentinel, .sentinel, .sentinel, .sentinel, .sentinel, .sentinel, .sentinel, .sentinel, .sentinel], laidTests := true, laidLooks := .later }
def FnExactBindClaimCardSaid : Prop := Claim7.holds Tryz.pinned (.plain (OpenSpec.ofChange fnExactBindClaimSpec)) fnExactBindClaimCard

/-- THE SECOND FORM's CARD OF 'laws.FnExactBindClaim'. -/
def fnExactBindClaimUptoCard : Claim7 := { stood := { row := fnExactBindClaimUptoRow, standIns := [], harness := (true, "1116c1806d01c645bf852d7d610d52f5143e00dfb77bfa1660e7f99574a13aaa"), looks := true }, kinds := [], alts := [], laidByText := true, laidKinds := [.sentinel, .sentinel, .sentinel, .sentinel, .sentinel, .sentinel, .sentinel, .sentinel, .sentinel, .sentinel], laidTests := true, laidLooks := .later }
def FnExactBindClaimUptoCardSaid : Prop := Claim7.holds Tryz.pinned (.plain (OpenSpec.upto fnExactBindClaimSpec)) fnExactBindClaimUptoCard
end Rows
end Go.Proofs.YtmknjejaochfjaaGreatDoor

/-
  DERIVED. GIVEN WITH THE SEED: THE CARDS: each row of YtpejepeekdjfoaaGreatDoorRows.lean that lists a variable, with what it lists TIED to the program's text (the seventh form; the later family's looks); each row that meets fmt, with fmt's text TOLD by the authors' own Lean function (tested against real Go, not proved from fmt's source: count such statements apart). THE CARD IS WHAT COUNTS. Prove the row's statement (the work); the ties are given (YtpejepeekdjfoaaGreatDoorTie.lean); close each card by the builder's one call (the guide's Derived/Test/ToyasCard.lean, 'card_holds'). Laid BY PROGRAM, IN A SANDBOX (cutbox-door.mjs). By AI agents, Wed Nov 11 2026. No macro, syntax, notation, axiom, sorry.
-/
import Derived.Test.YtpejepeekdjfoaaGreatDoorRows
import GoSem.ClaimSeven
namespace Go.Proofs.YtpejepeekdjfoaaGreatDoor
namespace Rows

/-- THE TIED CARD OF 'laws.FnExactBestNode'. -/
def fnExactBestNodeCard : Claim7 := { stood := { row := fnExactBestNodeRow, standIns := [], harness := (true, "dcec6fbbdd6c8c8087a618441c8a13efa41a69a5d49757bbac2545af9dbefb34"), looks := true }, kinds := [], alts := [], laidByText := true, laidKinds := [.sentinel, .sentinel, .sentinel, .sentinel, .sentinel, .sentinel, .sentinel, .sentinel, .sentinel, .sentinel], laidTests := true, laidLooks := .later }
def FnExactBestNodeCardSaid : Prop := Claim7.holds Tryz.pinned (.plain (OpenSpec.ofChange fnExactBestNodeSpec)) fnExactBestNodeCard

/-- THE TIED CARD OF 'laws.FnExactPlacePod'. -/
def fnExactPlacePodCard : Claim7 := { stood := { row := fnExactPlacePodRow, standIns := [], harness := (true, "dcec6fbbdd6c8c8087a618441c8a13efa41a69a5d49757bbac2545af9dbefb34"), looks := true }, kinds := [], alts := [], laidByText := true, laidKinds := [.sentinel, .sentinel, .sentinel, .sentinel, .sentinel, .sentinel, .sentinel, .sentinel, .sentinel, .sentinel], laidTests := true, laidLooks := .later }
def FnExactPlacePodCardSaid : Prop := Claim7.holds Tryz.pinned (.plain (OpenSpec.ofChange fnExactPlacePodSpec)) fnExactPlacePodCard

/-- THE SECOND FORM's CARD OF 'laws.FnExactBestNode'. -/
def fnExactBestNodeUptoCard : Claim7 := { stood := { row := fnExactBestNodeUptoRow, standIns := [], harness := (true, "dcec6fbbdd6c8c8087a618441c8a13efa41a69a5d49757bbac2545af9dbefb34"), looks := true }, kinds := [], alts := [], laidByText := true, laidKinds := [.sentinel, .sentinel, .sentinel, .sentinel, .sentinel, .sentinel, .sentinel, .sentinel, .sentinel, .sentinel], laidTests := true, laidLooks := .later }
def FnExactBestNodeUptoCardSaid : Prop := Claim7.holds Tryz.pinned (.plain (OpenSpec.upto fnExactBestNodeSpec)) fnExactBestNodeUptoCard

/-- THE SECOND FORM's CARD OF 'laws.FnExactPlacePod'. -/
def fnExactPlacePodUptoCard : Claim7 := { stood := { row := fnExactPlacePodUptoRow, standIns := [], harness := (true, "dcec6fbbdd6c8c8087a618441c8a13efa41a69a5d49757bbac2545af9dbefb34"), looks := true }, kinds := [], alts := [], laidByText := true, laidKinds := [.sentinel, .sentinel, .sentinel, .sentinel, .sentinel, .sentinel, .sentinel, .sentinel, .sentinel, .sentinel], laidTests := true, laidLooks := .later }
def FnExactPlacePodUptoCardSaid : Prop := Claim7.holds Tryz.pinned (.plain (OpenSpec.upto fnExactPlacePodSpec)) fnExactPlacePodUptoCard
end Rows
end Go.Proofs.YtpejepeekdjfoaaGreatDoor

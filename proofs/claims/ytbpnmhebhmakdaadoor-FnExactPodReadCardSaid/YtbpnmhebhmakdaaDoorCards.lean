/-
  DERIVED. GIVEN WITH THE SEED: THE CARDS: each row of YtbpnmhebhmakdaaDoorRows.lean that lists a variable, with what it lists TIED to the program's text (the seventh form; the later family's looks); each row that meets fmt, with fmt's text TOLD by the authors' own Lean function (tested against real Go, not proved from fmt's source: count such statements apart). THE CARD IS WHAT COUNTS. Prove the row's statement (the work); the ties are given (YtbpnmhebhmakdaaDoorTie.lean); close each card by the builder's one call (the guide's Derived/Test/ToyasCard.lean, 'card_holds'). Laid BY PROGRAM, IN A SANDBOX (cutbox-door.mjs). By AI agents, Wed Nov 11 2026. No macro, syntax, notation, axiom, sorry.
-/
import Derived.Test.YtbpnmhebhmakdaaDoorRows
import GoSem.ClaimSeven
namespace Go.Proofs.YtbpnmhebhmakdaaDoor
namespace Rows

/-- THE TIED CARD OF 'laws.FnExactPodRead'. -/
def fnExactPodReadCard : Claim7 := { stood := { row := fnExactPodReadRow, standIns := [], harness := (true, "eaec0147da643e35c8ffba3093a98dc083fe98a6943a52a1ac1d2a668a557f20"), looks := false }, kinds := [], alts := [], laidByText := true, laidKinds := [.data, .data, .data, .data, .pinned], laidTests := true, laidLooks := .later }
def FnExactPodReadCardSaid : Prop := Claim7.holds Tryd.pinned (.plain (OpenSpec.ofChange fnExactPodReadSpec)) fnExactPodReadCard

/-- THE SECOND FORM's CARD OF 'laws.FnExactPodRead'. -/
def fnExactPodReadUptoCard : Claim7 := { stood := { row := fnExactPodReadUptoRow, standIns := [], harness := (true, "eaec0147da643e35c8ffba3093a98dc083fe98a6943a52a1ac1d2a668a557f20"), looks := false }, kinds := [], alts := [], laidByText := true, laidKinds := [.data, .data, .data, .data, .pinned], laidTests := true, laidLooks := .later }
def FnExactPodReadUptoCardSaid : Prop := Claim7.holds Tryd.pinned (.plain (OpenSpec.upto fnExactPodReadSpec)) fnExactPodReadUptoCard
end Rows
end Go.Proofs.YtbpnmhebhmakdaaDoor

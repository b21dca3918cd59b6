/-
  DERIVED. GIVEN WITH THE SEED: THE CARDS: each row of YtjgalgcgbmecmaaGreatDoorRows.lean that lists a variable, with what it lists TIED to the program's text (the seventh form; the later family's looks); each row that meets fmt, with fmt's text TOLD by the authors' own Lean function (tested against real Go, not proved from fmt's source: count such statements apart). THE CARD IS WHAT COUNTS. Prove the row's statement (the work); the ties are given (YtjgalgcgbmecmaaGreatDoorTie.lean); close each card by the builder's one call (the guide's Derived/Test/ToyasCard.lean, 'card_holds'). Laid BY PROGRAM, IN A SANDBOX (cutbox-door.mjs). By AI agents, Wed Nov 11 2026. No macro, syntax, notation, axiom, sorry.
-/
import Derived.Test.YtjgalgcgbmecmaaGreatDoorRows
import GoSem.ClaimSeven
namespace Go.Proofs.YtjgalgcgbmecmaaGreatDoor
namespace Rows

/-- THE TIED CARD OF 'laws.FnExactVolumeOf'. -/
def fnExactVolumeOfCard : Claim7 := { stood := { row := fnExactVolumeOfRow, standIns := [], harness := (true, "bf5c29afe20cb461ab491e402d4a72f4e8ed5d8afbfb8be0b65efc1cf04a90b6"), looks := true }, kinds := [], alts := [], laidByText := true, laidKinds := [.sentinel, .sentinel, .sentinel, .sentinel, .sentinel, .sentinel, .sentinel, .sentinel, .sentinel], laidTests := true, laidLooks := .later }
def FnExactVolumeOfCardSaid : Prop := Claim7.holds Tryz.pinned (.plain (OpenSpec.ofChange fnExactVolumeOfSpec)) fnExactVolumeOfCard

/-- THE TIED CARD OF 'laws.FnExactDropPod'. -/
def fnExactDropPodCard : Claim7 := { stood := { row := fnExactDropPodRow, standIns := [], harness := (true, "bf5c29afe20cb461ab491e402d4a72f4e8ed5d8afbfb8be0b65efc1cf04a90b6"), looks := true }, kinds := [], alts := [], laidByText := true, laidKinds := [.sentinel, .sentinel, .sentinel, .sentinel, .sentinel, .sentinel, .sentinel, .sentinel, .sentinel], laidTests := true, laidLooks := .later }
def FnExactDropPodCardSaid : Prop := Claim7.holds Tryz.pinned (.plain (OpenSpec.ofChange fnExactDropPodSpec)) fnExactDropPodCard

/-- THE SECOND FORM's CARD OF 'laws.FnExactVolumeOf'. -/
def fnExactVolumeOfUptoCard : Claim7 := { stood := { row := fnExactVolumeOfUptoRow, standIns := [], harness := (true, "bf5c29afe20cb461ab491e402d4a72f4e8ed5d8afbfb8be0b65efc1cf04a90b6"), looks := true }, kinds := [], alts := [], laidByText := true, laidKinds := [.sentinel, .sentinel, .sentinel, .sentinel, .sentinel, .sentinel, .sentinel, .sentinel, .sentinel], laidTests := true, laidLooks := .later }
def FnExactVolumeOfUptoCardSaid : Prop := Claim7.holds Tryz.pinned (.plain (OpenSpec.upto fnExactVolumeOfSpec)) fnExactVolumeOfUptoCard

/-- THE SECOND FORM's CARD OF 'laws.FnExactDropPod'. -/
def fnExactDropPodUptoCard : Claim7 := { stood := { row := fnExactDropPodUptoRow, standIns := [], harness := (true, "bf5c29afe20cb461ab491e402d4a72f4e8ed5d8afbfb8be0b65efc1cf04a90b6"), looks := true }, kinds := [], alts := [], laidByText := true, laidKinds := [.sentinel, .sentinel, .sentinel, .sentinel, .sentinel, .sentinel, .sentinel, .sentinel, .sentinel], laidTests := true, laidLooks := .later }
def FnExactDropPodUptoCardSaid : Prop := Claim7.holds Tryz.pinned (.plain (OpenSpec.upto fnExactDropPodSpec)) fnExactDropPodUptoCard
end Rows
end Go.Proofs.YtjgalgcgbmecmaaGreatDoor

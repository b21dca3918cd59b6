/-
  DERIVED. GIVEN WITH THE SEED: THE CARDS: each row of YtcogpoamhflgjaaGreatDoorRows.lean that lists a variable, with what it lists TIED to the program's text (the seventh form; the later family's looks); each row that meets fmt, with fmt's text TOLD by the authors' own Lean function (tested against real Go, not proved from fmt's source: count such statements apart). THE CARD IS WHAT COUNTS. Prove the row's statement (the work); the ties are given (YtcogpoamhflgjaaGreatDoorTie.lean); close each card by the builder's one call (the guide's Derived/Test/ToyasCard.lean, 'card_holds'). Laid BY PROGRAM, IN A SANDBOX (cutbox-door.mjs). By AI agents, Wed Nov 11 2026. No macro, syntax, notation, axiom, sorry.
-/
import Derived.Test.YtcogpoamhflgjaaGreatDoorRows
import GoSem.ClaimSeven
namespace Go.Proofs.YtcogpoamhflgjaaGreatDoor
namespace Rows

/-- THE TIED CARD OF 'laws.FnExactAddVolume'. -/
def fnExactAddVolumeCard : Claim7 := { stood := { row := fnExactAddVolumeRow, standIns := [], harness := (true, "cea38cace858a064e02ab70a3fc2414425977980ed31e74416340a118954a49c"), looks := true }, kinds := [], alts := [], laidByText := true, laidKinds := [.sentinel, .sentinel, .sentinel, .sentinel, .sentinel, .sentinel, .sentinel, .sentinel, .sentinel, .sentinel], laidTests := true, laidLooks := .later }
def FnExactAddVolumeCardSaid : Prop := Claim7.holds Tryz.pinned (.plain (OpenSpec.ofChange fnExactAddVolumeSpec)) fnExactAddVolumeCard

/-- THE TIED CARD OF 'laws.FnExactAddPod'. -/
def fnExactAddPodCard : Claim7 := { stood := { row := fnExactAddPodRow, standIns := [], harness := (true, "cea38cace858a064e02ab70a3fc2414425977980ed31e74416340a118954a49c"), looks := true }, kinds := [], alts := [], laidByText := true, laidKinds := [.sentinel, .sentinel, .sentinel, .sentinel, .sentinel, .sentinel, .sentinel, .sentinel, .sentinel, .sentinel], laidTests := true, laidLooks := .later }
def FnExactAddPodCardSaid : Prop := Claim7.holds Tryz.pinned (.plain (OpenSpec.ofChange fnExactAddPodSpec)) fnExactAddPodCard

/-- THE SECOND FORM's CARD OF 'laws.FnExactAddVolume'. -/
def fnExactAddVolumeUptoCard : Claim7 := { stood := { row := fnExactAddVolumeUptoRow, standIns := [], harness := (true, "cea38cace858a064e02ab70a3fc2414425977980ed31e74416340a118954a49c"), looks := true }, kinds := [], alts := [], laidByText := true, laidKinds := [.sentinel, .sentinel, .sentinel, .sentinel, .sentinel, .sentinel, .sentinel, .sentinel, .sentinel, .sentinel], laidTests := true, laidLooks := .later }
def FnExactAddVolumeUptoCardSaid : Prop := Claim7.holds Tryz.pinned (.plain (OpenSpec.upto fnExactAddVolumeSpec)) fnExactAddVolumeUptoCard

/-- THE SECOND FORM's CARD OF 'laws.FnExactAddPod'. -/
def fnExactAddPodUptoCard : Claim7 := { stood := { row := fnExactAddPodUptoRow, standIns := [], harness := (true, "cea38cace858a064e02ab70a3fc2414425977980ed31e74416340a118954a49c"), looks := true }, kinds := [], alts := [], laidByText := true, laidKinds := [.sentinel, .sentinel, .sentinel, .sentinel, .sentinel, .sentinel, .sentinel, .sentinel, .sentinel, .sentinel], laidTests := true, laidLooks := .later }
def FnExactAddPodUptoCardSaid : Prop := Claim7.holds Tryz.pinned (.plain (OpenSpec.upto fnExactAddPodSpec)) fnExactAddPodUptoCard
end Rows
end Go.Proofs.YtcogpoamhflgjaaGreatDoor

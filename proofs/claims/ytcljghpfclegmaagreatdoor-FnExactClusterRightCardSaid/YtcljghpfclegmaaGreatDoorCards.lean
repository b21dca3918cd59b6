/-
  DERIVED. GIVEN WITH THE SEED: THE CARDS: each row of YtcljghpfclegmaaGreatDoorRows.lean that lists a variable, with what it lists TIED to the program's text (the seventh form; the later family's looks); each row that meets fmt, with fmt's text TOLD by the authors' own Lean function (tested against real Go, not proved from fmt's source: count such statements apart). THE CARD IS WHAT COUNTS. Prove the row's statement (the work); the ties are given (YtcljghpfclegmaaGreatDoorTie.lean); close each card by the builder's one call (the guide's Derived/Test/ToyasCard.lean, 'card_holds'). Laid BY PROGRAM, IN A SANDBOX (cutbox-door.mjs). By AI agents, Wed Nov 11 2026. No macro, syntax, notation, axiom, sorry.
-/
import Derived.Test.YtcljghpfclegmaaGreatDoorRows
import GoSem.ClaimSeven
namespace Go.Proofs.YtcljghpfclegmaaGreatDoor
namespace Rows

/-- THE TIED CARD OF 'laws.FnExactClusterRight'. -/
def fnExactClusterRightCard : Claim7 := { stood := { row := fnExactClusterRightRow, standIns := [], harness := (true, "7f4384e5a26441463342fd33f29691747b3785c5fcaf4f8b208b7b617d3f2c57"), looks := true }, kinds := [], alts := [], laidByText := true, laidKinds := [.sentinel], laidTests := true, laidLooks := .later }
def FnExactClusterRightCardSaid : Prop := Claim7.holds Tryz.pinned (.plain (OpenSpec.ofChange fnExactClusterRightSpec)) fnExactClusterRightCard

/-- THE TIED CARD OF 'laws.FnExactAddNode'. -/
def fnExactAddNodeCard : Claim7 := { stood := { row := fnExactAddNodeRow, standIns := [], harness := (true, "7f4384e5a26441463342fd33f29691747b3785c5fcaf4f8b208b7b617d3f2c57"), looks := true }, kinds := [], alts := [], laidByText := true, laidKinds := [.sentinel, .sentinel, .sentinel, .sentinel, .sentinel, .sentinel], laidTests := true, laidLooks := .later }
def FnExactAddNodeCardSaid : Prop := Claim7.holds Tryz.pinned (.plain (OpenSpec.ofChange fnExactAddNodeSpec)) fnExactAddNodeCard

/-- THE TIED CARD OF 'laws.FnExactAddClass'. -/
def fnExactAddClassCard : Claim7 := { stood := { row := fnExactAddClassRow, standIns := [], harness := (true, "7f4384e5a26441463342fd33f29691747b3785c5fcaf4f8b208b7b617d3f2c57"), looks := true }, kinds := [], alts := [], laidByText := true, laidKinds := [.sentinel, .sentinel, .sentinel, .sentinel, .sentinel, .sentinel], laidTests := true, laidLooks := .later }
def FnExactAddClassCardSaid : Prop := Claim7.holds Tryz.pinned (.plain (OpenSpec.ofChange fnExactAddClassSpec)) fnExactAddClassCard

/-- THE TIED CARD OF 'laws.FnExactAddVolume'. -/
def fnExactAddVolumeCard : Claim7 := { stood := { row := fnExactAddVolumeRow, standIns := [], harness := (true, "7f4384e5a26441463342fd33f29691747b3785c5fcaf4f8b208b7b617d3f2c57"), looks := true }, kinds := [], alts := [], laidByText := true, laidKinds := [.sentinel, .sentinel, .sentinel, .sentinel, .sentinel, .sentinel], laidTests := true, laidLooks := .later }
def FnExactAddVolumeCardSaid : Prop := Claim7.holds Tryz.pinned (.plain (OpenSpec.ofChange fnExactAddVolumeSpec)) fnExactAddVolumeCard

/-- THE TIED CARD OF 'laws.FnExactAddClaim'. -/
def fnExactAddClaimCard : Claim7 := { stood := { row := fnExactAddClaimRow, standIns := [], harness := (true, "7f4384e5a26441463342fd33f29691747b3785c5fcaf4f8b208b7b617d3f2c57"), looks := true }, kinds := [], alts := [], laidByText := true, laidKinds := [.sentinel, .sentinel, .sentinel, .sentinel, .sentinel, .sentinel], laidTests := true, laidLooks := .later }
def FnExactAddClaimCardSaid : Prop := Claim7.holds Tryz.pinned (.plain (OpenSpec.ofChange fnExactAddClaimSpec)) fnExactAddClaimCard

/-- THE TIED CARD OF 'laws.FnExactAddPod'. -/
def fnExactAddPodCard : Claim7 := { stood := { row := fnExactAddPodRow, standIns := [], harness := (true, "7f4384e5a26441463342fd33f29691747b3785c5fcaf4f8b208b7b617d3f2c57"), looks := true }, kinds := [], alts := [], laidByText := true, laidKinds := [.sentinel, .sentinel, .sentinel, .sentinel, .sentinel, .sentinel], laidTests := true, laidLooks := .later }
def FnExactAddPodCardSaid : Prop := Claim7.holds Tryz.pinned (.plain (OpenSpec.ofChange fnExactAddPodSpec)) fnExactAddPodCard

/-- THE TIED CARD OF 'laws.FnExactDropPod'. -/
def fnExactDropPodCard : Claim7 := { stood := { row := fnExactDropPodRow, standIns := [], harness := (true, "7f4384e5a26441463342fd33f29691747b3785c5fcaf4f8b208b7b617d3f2c57"), looks := true }, kinds := [], alts := [], laidByText := true, laidKinds := [.sentinel, .sentinel, .sentinel, .sentinel, .sentinel, .sentinel], laidTests := true, laidLooks := .later }
def FnExactDropPodCardSaid : Prop := Claim7.holds Tryz.pinned (.plain (OpenSpec.ofChange fnExactDropPodSpec)) fnExactDropPodCard

/-- THE TIED CARD OF 'laws.FnExactDropClaim'. -/
def fnExactDropClaimCard : Claim7 := { stood := { row := fnExactDropClaimRow, standIns := [], harness := (true, "7f4384e5a26441463342fd33f29691747b3785c5fcaf4f8b208b7b617d3f2c57"), looks := true }, kinds := [], alts := [], laidByText := true, laidKinds := [.sentinel, .sentinel, .sentinel, .sentinel, .sentinel, .sentinel], laidTests := true, laidLooks := .later }
def FnExactDropClaimCardSaid : Prop := Claim7.holds Tryz.pinned (.plain (OpenSpec.ofChange fnExactDropClaimSpec)) fnExactDropClaimCard

/-- THE TIED CARD OF 'laws.FnExactDropVolume'. -/
def fnExactDropVolumeCard : Claim7 := { stood := { row := fnExactDropVolumeRow, standIns := [], harness := (true, "7f4384e5a26441463342fd33f29691747b3785c5fcaf4f8b208b7b617d3f2c57"), looks := true }, kinds := [], alts := [], laidByText := true, laidKinds := [.sentinel, .sentinel, .sentinel, .sentinel, .sentinel, .sentinel], laidTests := true, laidLooks := .later }
def FnExactDropVolumeCardSaid : Prop := Claim7.holds Tryz.pinned (.plain (OpenSpec.ofChange fnExactDropVolumeSpec)) fnExactDropVolumeCard

/-- THE SECOND FORM's CARD OF 'laws.FnExactClusterRight'. -/
def fnExactClusterRightUptoCard : Claim7 := { stood := { row := fnExactClusterRightUptoRow, standIns := [], harness := (true, "7f4384e5a26441463342fd33f29691747b3785c5fcaf4f8b208b7b617d3f2c57"), looks := true }, kinds := [], alts := [], laidByText := true, laidKinds := [.sentinel], laidTests := true, laidLooks := .later }
def FnExactClusterRightUptoCardSaid : Prop := Claim7.holds Tryz.pinned (.plain (OpenSpec.upto fnExactClusterRightSpec)) fnExactClusterRightUptoCard

/-- THE SECOND FORM's CARD OF 'laws.FnExactAddNode'. -/
def fnExactAddNodeUptoCard : Claim7 := { stood := { row := fnExactAddNodeUptoRow, standIns := [], harness := (true, "7f4384e5a26441463342fd33f29691747b3785c5fcaf4f8b208b7b617d3f2c57"), looks := true }, kinds := [], alts := [], laidByText := true, laidKinds := [.sentinel, .sentinel, .sentinel, .sentinel, .sentinel, .sentinel], laidTests := true, laidLooks := .later }
def FnExactAddNodeUptoCardSaid : Prop := Claim7.holds Tryz.pinned (.plain (OpenSpec.upto fnExactAddNodeSpec)) fnExactAddNodeUptoCard

/-- THE SECOND FORM's CARD OF 'laws.FnExactAddClass'. -/
def fnExactAddClassUptoCard : Claim7 := { stood := { row := fnExactAddClassUptoRow, standIns := [], harness := (true, "7f4384e5a26441463342fd33f29691747b3785c5fcaf4f8b208b7b617d3f2c57"), looks := true }, kinds := [], alts := [], laidByText := true, laidKinds := [.sentinel, .sentinel, .sentinel, .sentinel, .sentinel, .sentinel], laidTests := true, laidLooks := .later }
def FnExactAddClassUptoCardSaid : Prop := Claim7.holds Tryz.pinned (.plain (OpenSpec.upto fnExactAddClassSpec)) fnExactAddClassUptoCard

/-- THE SECOND FORM's CARD OF 'laws.FnExactAddVolume'. -/
def fnExactAddVolumeUptoCard : Claim7 := { stood := { row := fnExactAddVolumeUptoRow, standIns := [], harness := (true, "7f4384e5a26441463342fd33f29691747b3785c5fcaf4f8b208b7b617d3f2c57"), looks := true }, kinds := [], alts := [], laidByText := true, laidKinds := [.sentinel, .sentinel, .sentinel, .sentinel, .sentinel, .sentinel], laidTests := true, laidLooks := .later }
def FnExactAddVolumeUptoCardSaid : Prop := Claim7.holds Tryz.pinned (.plain (OpenSpec.upto fnExactAddVolumeSpec)) fnExactAddVolumeUptoCard

/-- THE SECOND FORM's CARD OF 'laws.FnExactAddClaim'. -/
def fnExactAddClaimUptoCard : Claim7 := { stood := { row := fnExactAddClaimUptoRow, standIns := [], harness := (true, "7f4384e5a26441463342fd33f29691747b3785c5fcaf4f8b208b7b617d3f2c57"), looks := true }, kinds := [], alts := [], laidByText := true, laidKinds := [.sentinel, .sentinel, .sentinel, .sentinel, .sentinel, .sentinel], laidTests := true, laidLooks := .later }
def FnExactAddClaimUptoCardSaid : Prop := Claim7.holds Tryz.pinned (.plain (OpenSpec.upto fnExactAddClaimSpec)) fnExactAddClaimUptoCard

/-- THE SECOND FORM's CARD OF 'laws.FnExactAddPod'. -/
def fnExactAddPodUptoCard : Claim7 := { stood := { row := fnExactAddPodUptoRow, standIns := [], harness := (true, "7f4384e5a26441463342fd33f29691747b3785c5fcaf4f8b208b7b617d3f2c57"), looks := true }, kinds := [], alts := [], laidByText := true, laidKinds := [.sentinel, .sentinel, .sentinel, .sentinel, .sentinel, .sentinel], laidTests := true, laidLooks := .later }
def FnExactAddPodUptoCardSaid : Prop := Claim7.holds Tryz.pinned (.plain (OpenSpec.upto fnExactAddPodSpec)) fnExactAddPodUptoCard

/-- THE SECOND FORM's CARD OF 'laws.FnExactDropPod'. -/
def fnExactDropPodUptoCard : Claim7 := { stood := { row := fnExactDropPodUptoRow, standIns := [], harness := (true, "7f4384e5a26441463342fd33f29691747b3785c5fcaf4f8b208b7b617d3f2c57"), looks := true }, kinds := [], alts := [], laidByText := true, laidKinds := [.sentinel, .sentinel, .sentinel, .sentinel, .sentinel, .sentinel], laidTests := true, laidLooks := .later }
def FnExactDropPodUptoCardSaid : Prop := Claim7.holds Tryz.pinned (.plain (OpenSpec.upto fnExactDropPodSpec)) fnExactDropPodUptoCard

/-- THE SECOND FORM's CARD OF 'laws.FnExactDropClaim'. -/
def fnExactDropClaimUptoCard : Claim7 := { stood := { row := fnExactDropClaimUptoRow, standIns := [], harness := (true, "7f4384e5a26441463342fd33f29691747b3785c5fcaf4f8b208b7b617d3f2c57"), looks := true }, kinds := [], alts := [], laidByText := true, laidKinds := [.sentinel, .sentinel, .sentinel, .sentinel, .sentinel, .sentinel], laidTests := true, laidLooks := .later }
def FnExactDropClaimUptoCardSaid : Prop := Claim7.holds Tryz.pinned (.plain (OpenSpec.upto fnExactDropClaimSpec)) fnExactDropClaimUptoCard

/-- THE SECOND FORM's CARD OF 'laws.FnExactDropVolume'. -/
def fnExactDropVolumeUptoCard : Claim7 := { stood := { row := fnExactDropVolumeUptoRow, standIns := [], harness := (true, "7f4384e5a26441463342fd33f29691747b3785c5fcaf4f8b208b7b617d3f2c57"), looks := true }, kinds := [], alts := [], laidByText := true, laidKinds := [.sentinel, .sentinel, .sentinel, .sentinel, .sentinel, .sentinel], laidTests := true, laidLooks := .later }
def FnExactDropVolumeUptoCardSaid : Prop := Claim7.holds Tryz.pinned (.plain (OpenSpec.upto fnExactDropVolumeSpec)) fnExactDropVolumeUptoCard
end Rows
end Go.Proofs.YtcljghpfclegmaaGreatDoor

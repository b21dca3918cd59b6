/-
  DERIVED. GIVEN WITH THE SEED: THE CARDS: each row of YtpibkpofdbjdaaaGreatDoorRows.lean that lists a variable, with what it lists TIED to the program's text (the seventh form; the later family's looks); each row that meets fmt, with fmt's text TOLD by the authors' own Lean function (tested against real Go, not proved from fmt's source: count such statements apart). THE CARD IS WHAT COUNTS. Prove the row's statement (the work); the ties are given (YtpibkpofdbjdaaaGreatDoorTie.lean); close each card by the builder's one call (the guide's Derived/Test/ToyasCard.lean, 'card_holds'). Laid BY PROGRAM, IN A SANDBOX (cutbox-door.mjs). By AI agents, Wed Nov 11 2026. No macro, syntax, notation, axiom, sorry.
-/
import Derived.Test.YtpibkpofdbjdaaaGreatDoorRows
import GoSem.ClaimSeven
namespace Go.Proofs.YtpibkpofdbjdaaaGreatDoor
namespace Rows

/-- THE TIED CARD OF 'laws.FnExactDropPod'. -/
def fnExactDropPodCard : Claim7 := { stood := { row := fnExactDropPodRow, standIns := [], harness := (true, "6880419548c9e76526e18b2b174ec6e923260fe49fff998410d2e7123c4e106c"), looks := true }, kinds := [], alts := [], laidByText := true, laidKinds := [.sentinel, .sentinel, .sentinel, .sentinel, .sentinel, .sentinel, .sentinel, .sentinel, .sentinel, .sentinel], laidTests := true, laidLooks := .later }
def FnExactDropPodCardSaid : Prop := Claim7.holds Tryz.pinned (.plain (OpenSpec.ofChange fnExactDropPodSpec)) fnExactDropPodCard

/-- THE TIED CARD OF 'laws.FnExactEvict'. -/
def fnExactEvictCard : Claim7 := { stood := { row := fnExactEvictRow, standIns := [], harness := (true, "6880419548c9e76526e18b2b174ec6e923260fe49fff998410d2e7123c4e106c"), looks := true }, kinds := [], alts := [], laidByText := true, laidKinds := [.sentinel, .sentinel, .sentinel, .sentinel, .sentinel, .sentinel, .sentinel, .sentinel, .sentinel, .sentinel], laidTests := true, laidLooks := .later }
def FnExactEvictCardSaid : Prop := Claim7.holds Tryz.pinned (.plain (OpenSpec.ofChange fnExactEvictSpec)) fnExactEvictCard

/-- THE SECOND FORM's CARD OF 'laws.FnExactDropPod'. -/
def fnExactDropPodUptoCard : Claim7 := { stood := { row := fnExactDropPodUptoRow, standIns := [], harness := (true, "6880419548c9e76526e18b2b174ec6e923260fe49fff998410d2e7123c4e106c"), looks := true }, kinds := [], alts := [], laidByText := true, laidKinds := [.sentinel, .sentinel, .sentinel, .sentinel, .sentinel, .sentinel, .sentinel, .sentinel, .sentinel, .sentinel], laidTests := true, laidLooks := .later }
def FnExactDropPodUptoCardSaid : Prop := Claim7.holds Tryz.pinned (.plain (OpenSpec.upto fnExactDropPodSpec)) fnExactDropPodUptoCard

/-- THE SECOND FORM's CARD OF 'laws.FnExactEvict'. -/
def fnExactEvictUptoCard : Claim7 := { stood := { row := fnExactEvictUptoRow, standIns := [], harness := (true, "6880419548c9e76526e18b2b174ec6e923260fe49fff998410d2e7123c4e106c"), looks := true }, kinds := [], alts := [], laidByText := true, laidKinds := [.sentinel, .sentinel, .sentinel, .sentinel, .sentinel, .sentinel, .sentinel, .sentinel, .sentinel, .sentinel], laidTests := true, laidLooks := .later }
def FnExactEvictUptoCardSaid : Prop := Claim7.holds Tryz.pinned (.plain (OpenSpec.upto fnExactEvictSpec)) fnExactEvictUptoCard
end Rows
end Go.Proofs.YtpibkpofdbjdaaaGreatDoor

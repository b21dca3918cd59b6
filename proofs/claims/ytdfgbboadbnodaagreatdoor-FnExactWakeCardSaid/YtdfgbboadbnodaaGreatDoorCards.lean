/-
  DERIVED. GIVEN WITH THE SEED: THE CARDS: each row of YtdfgbboadbnodaaGreatDoorRows.lean that lists a variable, with what it lists TIED to the program's text (the seventh form; the later family's looks); each row that meets fmt, with fmt's text TOLD by the authors' own Lean function (tested against real Go, not proved from fmt's source: count such statements apart). THE CARD IS WHAT COUNTS. Prove the row's statement (the work); the ties are given (YtdfgbboadbnodaaGreatDoorTie.lean); close each card by the builder's one call (the guide's Derived/Test/ToyasCard.lean, 'card_holds'). Laid BY PROGRAM, IN A SANDBOX (cutbox-door.mjs). By AI agents, Wed Nov 11 2026. No macro, syntax, notation, axiom, sorry.
-/
import Derived.Test.YtdfgbboadbnodaaGreatDoorRows
import GoSem.ClaimSeven
namespace Go.Proofs.YtdfgbboadbnodaaGreatDoor
namespace Rows

/-- THE TIED CARD OF 'laws.FnExactKill'. -/
def fnExactKillCard : Claim7 := { stood := { row := fnExactKillRow, standIns := [], harness := (true, "8ca177de796d58cf82c95ac6022b210df7f61593f442f0a5bad75e707459bd3b"), looks := true }, kinds := [], alts := [], laidByText := true, laidKinds := [.sentinel, .sentinel, .sentinel, .sentinel, .sentinel, .sentinel, .sentinel, .sentinel, .sentinel, .sentinel], laidTests := true, laidLooks := .later }
def FnExactKillCardSaid : Prop := Claim7.holds Tryz.pinned (.plain (OpenSpec.ofChange fnExactKillSpec)) fnExactKillCard

/-- THE TIED CARD OF 'laws.FnExactWake'. -/
def fnExactWakeCard : Claim7 := { stood := { row := fnExactWakeRow, standIns := [], harness := (true, "8ca177de796d58cf82c95ac6022b210df7f61593f442f0a5bad75e707459bd3b"), looks := true }, kinds := [], alts := [], laidByText := true, laidKinds := [.sentinel, .sentinel, .sentinel, .sentinel, .sentinel, .sentinel, .sentinel, .sentinel, .sentinel, .sentinel], laidTests := true, laidLooks := .later }
def FnExactWakeCardSaid : Prop := Claim7.holds Tryz.pinned (.plain (OpenSpec.ofChange fnExactWakeSpec)) fnExactWakeCard

/-- THE SECOND FORM's CARD OF 'laws.FnExactKill'. -/
def fnExactKillUptoCard : Claim7 := { stood := { row := fnExactKillUptoRow, standIns := [], harness := (true, "8ca177de796d58cf82c95ac6022b210df7f61593f442f0a5bad75e707459bd3b"), looks := true }, kinds := [], alts := [], laidByText := true, laidKinds := [.sentinel, .sentinel, .sentinel, .sentinel, .sentinel, .sentinel, .sentinel, .sentinel, .sentinel, .sentinel], laidTests := true, laidLooks := .later }
def FnExactKillUptoCardSaid : Prop := Claim7.holds Tryz.pinned (.plain (OpenSpec.upto fnExactKillSpec)) fnExactKillUptoCard

/-- THE SECOND FORM's CARD OF 'laws.FnExactWake'. -/
def fnExactWakeUptoCard : Claim7 := { stood := { row := fnExactWakeUptoRow, standIns := [], harness := (true, "8ca177de796d58cf82c95ac6022b210df7f61593f442f0a5bad75e707459bd3b"), looks := true }, kinds := [], alts := [], laidByText := true, laidKinds := [.sentinel, .sentinel, .sentinel, .sentinel, .sentinel, .sentinel, .sentinel, .sentinel, .sentinel, .sentinel], laidTests := true, laidLooks := .later }
def FnExactWakeUptoCardSaid : Prop := Claim7.holds Tryz.pinned (.plain (OpenSpec.upto fnExactWakeSpec)) fnExactWakeUptoCard
end Rows
end Go.Proofs.YtdfgbboadbnodaaGreatDoor

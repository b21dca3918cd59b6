/-
  DERIVED. GIVEN WITH THE SEED: THE CARDS: each row of YtcgegbccpcceoaaGreatDoorRows.lean that lists a variable, with what it lists TIED to the program's text (the seventh form; the later family's looks); each row that meets fmt, with fmt's text TOLD by the authors' own Lean function (tested against real Go, not proved from fmt's source: count such statements apart). THE CARD IS WHAT COUNTS. Prove the row's statement (the work); the ties are given (YtcgegbccpcceoaaGreatDoorTie.lean); close each card by the builder's one call (the guide's Derived/Test/ToyasCard.lean, 'card_holds'). Laid BY PROGRAM, IN A SANDBOX (cutbox-door.mjs). By AI agents, Wed Nov 11 2026. No macro, syntax, notation, axiom, sorry.
-/
import Derived.Test.YtcgegbccpcceoaaGreatDoorRows
import GoSem.ClaimSeven
namespace Go.Proofs.YtcgegbccpcceoaaGreatDoor
namespace Rows

/-- THE TIED CARD OF 'laws.FnExactAddNode'. -/
def fnExactAddNodeCard : Claim7 := { stood := { row := fnExactAddNodeRow, standIns := [], harness := (true, "5855f6b181cc3e042785274cf5fed74a87907780bff07c667830d2c56061a5aa"), looks := true }, kinds := [], alts := [], laidByText := true, laidKinds := [.sentinel, .sentinel, .sentinel, .sentinel, .sentinel, .sentinel, .sentinel, .sentinel, .sentinel, .sentinel], laidTests := true, laidLooks := .later }
def FnExactAddNodeCardSaid : Prop := Claim7.holds Tryz.pinned (.plain (OpenSpec.ofChange fnExactAddNodeSpec)) fnExactAddNodeCard

/-- THE TIED CARD OF 'laws.FnExactAddClass'. -/
def fnExactAddClassCard : Claim7 := { stood := { row := fnExactAddClassRow, standIns := [], harness := (true, "5855f6b181cc3e042785274cf5fed74a87907780bff07c667830d2c56061a5aa"), looks := true }, kinds := [], alts := [], laidByText := true, laidKinds := [.sentinel, .sentinel, .sentinel, .sentinel, .sentinel, .sentinel, .sentinel, .sentinel, .sentinel, .sentinel], laidTests := true, laidLooks := .later }
def FnExactAddClassCardSaid : Prop := Claim7.holds Tryz.pinned (.plain (OpenSpec.ofChange fnExactAddClassSpec)) fnExactAddClassCard

/-- THE SECOND FORM's CARD OF 'laws.FnExactAddNode'. -/
def fnExactAddNodeUptoCard : Claim7 := { stood := { row := fnExactAddNodeUptoRow, standIns := [], harness := (true, "5855f6b181cc3e042785274cf5fed74a87907780bff07c667830d2c56061a5aa"), looks := true }, kinds := [], alts := [], laidByText := true, laidKinds := [.sentinel, .sentinel, .sentinel, .sentinel, .sentinel, .sentinel, .sentinel, .sentinel, .sentinel, .sentinel], laidTests := true, laidLooks := .later }
def FnExactAddNodeUptoCardSaid : Prop := Claim7.holds Tryz.pinned (.plain (OpenSpec.upto fnExactAddNodeSpec)) fnExactAddNodeUptoCard

/-- THE SECOND FORM's CARD OF 'laws.FnExactAddClass'. -/
def fnExactAddClassUptoCard : Claim7 := { stood := { row := fnExactAddClassUptoRow, standIns := [], harness := (true, "5855f6b181cc3e042785274cf5fed74a87907780bff07c667830d2c56061a5aa"), looks := true }, kinds := [], alts := [], laidByText := true, laidKinds := [.sentinel, .sentinel, .sentinel, .sentinel, .sentinel, .sentinel, .sentinel, .sentinel, .sentinel, .sentinel], laidTests := true, laidLooks := .later }
def FnExactAddClassUptoCardSaid : Prop := Claim7.holds Tryz.pinned (.plain (OpenSpec.upto fnExactAddClassSpec)) fnExactAddClassUptoCard
end Rows
end Go.Proofs.YtcgegbccpcceoaaGreatDoor

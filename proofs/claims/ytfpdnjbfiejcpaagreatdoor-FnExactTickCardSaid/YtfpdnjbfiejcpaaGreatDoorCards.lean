/-
  DERIVED. GIVEN WITH THE SEED: THE CARDS: each row of YtfpdnjbfiejcpaaGreatDoorRows.lean that lists a variable, with what it lists TIED to the program's text (the seventh form; the later family's looks); each row that meets fmt, with fmt's text TOLD by the authors' own Lean function (tested against real Go, not proved from fmt's source: count such statements apart). THE CARD IS WHAT COUNTS. Prove the row's statement (the work); the ties are given (YtfpdnjbfiejcpaaGreatDoorTie.lean); close each card by the builder's one call (the guide's Derived/Test/ToyasCard.lean, 'card_holds'). Laid BY PROGRAM, IN A SANDBOX (cutbox-door.mjs). By AI agents, Wed Nov 11 2026. No macro, syntax, notation, axiom, sorry.
-/
import Derived.Test.YtfpdnjbfiejcpaaGreatDoorRows
import GoSem.ClaimSeven
namespace Go.Proofs.YtfpdnjbfiejcpaaGreatDoor
namespace Rows

/-- THE TIED CARD OF 'laws.FnExactFreeCpu'. -/
def fnExactFreeCpuCard : Claim7 := { stood := { row := fnExactFreeCpuRow, standIns := [], harness := (true, "9d6402d644fef3a8b8556d65184f70b1bb3842419aa10812a4aff32f33e85f72"), looks := true }, kinds := [], alts := [], laidByText := true, laidKinds := [.sentinel, .sentinel, .sentinel], laidTests := true, laidLooks := .later }
def FnExactFreeCpuCardSaid : Prop := Claim7.holds Tryz.pinned (.plain (OpenSpec.ofChange fnExactFreeCpuSpec)) fnExactFreeCpuCard

/-- THE TIED CARD OF 'laws.FnExactDisksOf'. -/
def fnExactDisksOfCard : Claim7 := { stood := { row := fnExactDisksOfRow, standIns := [], harness := (true, "9d6402d644fef3a8b8556d65184f70b1bb3842419aa10812a4aff32f33e85f72"), looks := true }, kinds := [], alts := [], laidByText := true, laidKinds := [.sentinel, .sentinel, .sentinel], laidTests := true, laidLooks := .later }
def FnExactDisksOfCardSaid : Prop := Claim7.holds Tryz.pinned (.plain (OpenSpec.ofChange fnExactDisksOfSpec)) fnExactDisksOfCard

/-- THE TIED CARD OF 'laws.FnExactTick'. -/
def fnExactTickCard : Claim7 := { stood := { row := fnExactTickRow, standIns := [], harness := (true, "9d6402d644fef3a8b8556d65184f70b1bb3842419aa10812a4aff32f33e85f72"), looks := true }, kinds := [], alts := [], laidByText := true, laidKinds := [.sentinel, .sentinel, .sentinel, .sentinel, .sentinel, .sentinel, .sentinel, .sentinel, .sentinel], laidTests := true, laidLooks := .later }
def FnExactTickCardSaid : Prop := Claim7.holds Tryz.pinned (.plain (OpenSpec.ofChange fnExactTickSpec)) fnExactTickCard

/-- THE SECOND FORM's CARD OF 'laws.FnExactFreeCpu'. -/
def fnExactFreeCpuUptoCard : Claim7 := { stood := { row := fnExactFreeCpuUptoRow, standIns := [], harness := (true, "9d6402d644fef3a8b8556d65184f70b1bb3842419aa10812a4aff32f33e85f72"), looks := true }, kinds := [], alts := [], laidByText := true, laidKinds := [.sentinel, .sentinel, .sentinel], laidTests := true, laidLooks := .later }
def FnExactFreeCpuUptoCardSaid : Prop := Claim7.holds Tryz.pinned (.plain (OpenSpec.upto fnExactFreeCpuSpec)) fnExactFreeCpuUptoCard

/-- THE SECOND FORM's CARD OF 'laws.FnExactDisksOf'. -/
def fnExactDisksOfUptoCard : Claim7 := { stood := { row := fnExactDisksOfUptoRow, standIns := [], harness := (true, "9d6402d644fef3a8b8556d65184f70b1bb3842419aa10812a4aff32f33e85f72"), looks := true }, kinds := [], alts := [], laidByText := true, laidKinds := [.sentinel, .sentinel, .sentinel], laidTests := true, laidLooks := .later }
def FnExactDisksOfUptoCardSaid : Prop := Claim7.holds Tryz.pinned (.plain (OpenSpec.upto fnExactDisksOfSpec)) fnExactDisksOfUptoCard

/-- THE SECOND FORM's CARD OF 'laws.FnExactTick'. -/
def fnExactTickUptoCard : Claim7 := { stood := { row := fnExactTickUptoRow, standIns := [], harness := (true, "9d6402d644fef3a8b8556d65184f70b1bb3842419aa10812a4aff32f33e85f72"), looks := true }, kinds := [], alts := [], laidByText := true, laidKinds := [.sentinel, .sentinel, .sentinel, .sentinel, .sentinel, .sentinel, .sentinel, .sentinel, .sentinel], laidTests := true, laidLooks := .later }
def FnExactTickUptoCardSaid : Prop := Claim7.holds Tryz.pinned (.plain (OpenSpec.upto fnExactTickSpec)) fnExactTickUptoCard
end Rows
end Go.Proofs.YtfpdnjbfiejcpaaGreatDoor

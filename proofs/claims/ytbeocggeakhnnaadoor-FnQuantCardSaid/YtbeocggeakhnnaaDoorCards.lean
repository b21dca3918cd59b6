/-
  DERIVED. GIVEN WITH THE SEED: THE CARDS: each row of YtbeocggeakhnnaaDoorRows.lean that lists a variable, with what it lists TIED to the program's text (the seventh form; the later family's looks); each row that meets fmt, with fmt's text TOLD by the authors' own Lean function (tested against real Go, not proved from fmt's source: count such statements apart). THE CARD IS WHAT COUNTS. Prove the row's statement (the work); the ties are given (YtbeocggeakhnnaaDoorTie.lean); close each card by the builder's one call (the guide's Derived/Test/ToyasCard.lean, 'card_holds'). Laid BY PROGRAM, IN A SANDBOX (cutbox-door.mjs). By AI agents, Wed Nov 11 2026. No macro, syntax, notation, axiom, sorry.
-/
import Derived.Test.YtbeocggeakhnnaaDoorRows
import GoSem.ClaimSeven
namespace Go.Proofs.YtbeocggeakhnnaaDoor
namespace Rows

/-- THE TIED CARD OF 'laws.FnQuant'. -/
def fnQuantCard : Claim7 := { stood := { row := fnQuantRow, standIns := [], harness := (true, "d45d7cf043a86692c69dae4593824c35710bf03426b68c29f14dc57d8b4acb5d"), looks := false }, kinds := [], alts := [], laidByText := true, laidKinds := [.data, .data, .data], laidTests := true, laidLooks := .later }
def FnQuantCardSaid : Prop := Claim7.holds Tryd.pinned (.plain (OpenSpec.ofChange fnQuantSpec)) fnQuantCard

/-- THE TIED CARD OF 'laws.FnExactSizeText'. -/
def fnExactSizeTextCard : Claim7 := { stood := { row := fnExactSizeTextRow, standIns := [], harness := (true, "d45d7cf043a86692c69dae4593824c35710bf03426b68c29f14dc57d8b4acb5d"), looks := false }, kinds := [], alts := [], laidByText := true, laidKinds := [.data, .data, .data], laidTests := true, laidLooks := .later }
def FnExactSizeTextCardSaid : Prop := Claim7.holds Tryd.pinned (.plain (OpenSpec.ofChange fnExactSizeTextSpec)) fnExactSizeTextCard

/-- THE TIED CARD OF 'laws.FnExactSizeRead'. -/
def fnExactSizeReadCard : Claim7 := { stood := { row := fnExactSizeReadRow, standIns := [], harness := (true, "d45d7cf043a86692c69dae4593824c35710bf03426b68c29f14dc57d8b4acb5d"), looks := false }, kinds := [], alts := [], laidByText := true, laidKinds := [.data, .data, .data], laidTests := true, laidLooks := .later }
def FnExactSizeReadCardSaid : Prop := Claim7.holds Tryd.pinned (.plain (OpenSpec.ofChange fnExactSizeReadSpec)) fnExactSizeReadCard

/-- THE TIED CARD OF 'laws.FnExactCpuText'. -/
def fnExactCpuTextCard : Claim7 := { stood := { row := fnExactCpuTextRow, standIns := [], harness := (true, "d45d7cf043a86692c69dae4593824c35710bf03426b68c29f14dc57d8b4acb5d"), looks := false }, kinds := [], alts := [], laidByText := true, laidKinds := [.data, .data, .data], laidTests := true, laidLooks := .later }
def FnExactCpuTextCardSaid : Prop := Claim7.holds Tryd.pinned (.plain (OpenSpec.ofChange fnExactCpuTextSpec)) fnExactCpuTextCard

/-- THE TIED CARD OF 'laws.FnExactCpuRead'. -/
def fnExactCpuReadCard : Claim7 := { stood := { row := fnExactCpuReadRow, standIns := [], harness := (true, "d45d7cf043a86692c69dae4593824c35710bf03426b68c29f14dc57d8b4acb5d"), looks := false }, kinds := [], alts := [], laidByText := true, laidKinds := [.data, .data, .data], laidTests := true, laidLooks := .later }
def FnExactCpuReadCardSaid : Prop := Claim7.holds Tryd.pinned (.plain (OpenSpec.ofChange fnExactCpuReadSpec)) fnExactCpuReadCard

/-- THE SECOND FORM's CARD OF 'laws.FnQuant'. -/
def fnQuantUptoCard : Claim7 := { stood := { row := fnQuantUptoRow, standIns := [], harness := (true, "d45d7cf043a86692c69dae4593824c35710bf03426b68c29f14dc57d8b4acb5d"), looks := false }, kinds := [], alts := [], laidByText := true, laidKinds := [.data, .data, .data], laidTests := true, laidLooks := .later }
def FnQuantUptoCardSaid : Prop := Claim7.holds Tryd.pinned (.plain (OpenSpec.upto fnQuantSpec)) fnQuantUptoCard

/-- THE SECOND FORM's CARD OF 'laws.FnExactSizeText'. -/
def fnExactSizeTextUptoCard : Claim7 := { stood := { row := fnExactSizeTextUptoRow, standIns := [], harness := (true, "d45d7cf043a86692c69dae4593824c35710bf03426b68c29f14dc57d8b4acb5d"), looks := false }, kinds := [], alts := [], laidByText := true, laidKinds := [.data, .data, .data], laidTests := true, laidLooks := .later }
def FnExactSizeTextUptoCardSaid : Prop := Claim7.holds Tryd.pinned (.plain (OpenSpec.upto fnExactSizeTextSpec)) fnExactSizeTextUptoCard

/-- THE SECOND FORM's CARD OF 'laws.FnExactSizeRead'. -/
def fnExactSizeReadUptoCard : Claim7 := { stood := { row := fnExactSizeReadUptoRow, standIns := [], harness := (true, "d45d7cf043a86692c69dae4593824c35710bf03426b68c29f14dc57d8b4acb5d"), looks := false }, kinds := [], alts := [], laidByText := true, laidKinds := [.data, .data, .data], laidTests := true, laidLooks := .later }
def FnExactSizeReadUptoCardSaid : Prop := Claim7.holds Tryd.pinned (.plain (OpenSpec.upto fnExactSizeReadSpec)) fnExactSizeReadUptoCard

/-- THE SECOND FORM's CARD OF 'laws.FnExactCpuText'. -/
def fnExactCpuTextUptoCard : Claim7 := { stood := { row := fnExactCpuTextUptoRow, standIns := [], harness := (true, "d45d7cf043a86692c69dae4593824c35710bf03426b68c29f14dc57d8b4acb5d"), looks := false }, kinds := [], alts := [], laidByText := true, laidKinds := [.data, .data, .data], laidTests := true, laidLooks := .later }
def FnExactCpuTextUptoCardSaid : Prop := Claim7.holds Tryd.pinned (.plain (OpenSpec.upto fnExactCpuTextSpec)) fnExactCpuTextUptoCard

/-- THE SECOND FORM's CARD OF 'laws.FnExactCpuRead'. -/
def fnExactCpuReadUptoCard : Claim7 := { stood := { row := fnExactCpuReadUptoRow, standIns := [], harness := (true, "d45d7cf043a86692c69dae4593824c35710bf03426b68c29f14dc57d8b4acb5d"), looks := false }, kinds := [], alts := [], laidByText := true, laidKinds := [.data, .data, .data], laidTests := true, laidLooks := .later }
def FnExactCpuReadUptoCardSaid : Prop := Claim7.holds Tryd.pinned (.plain (OpenSpec.upto fnExactCpuReadSpec)) fnExactCpuReadUptoCard
end Rows
end Go.Proofs.YtbeocggeakhnnaaDoor

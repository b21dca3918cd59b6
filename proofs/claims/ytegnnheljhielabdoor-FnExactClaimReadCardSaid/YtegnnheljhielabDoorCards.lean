/-
  DERIVED. GIVEN WITH THE SEED: THE CARDS: each row of YtegnnheljhielabDoorRows.lean that lists a variable, with what it lists TIED to the program's text (the seventh form; the later family's looks); each row that meets fmt, with fmt's text TOLD by the authors' own Lean function (tested against real Go, not proved from fmt's source: count such statements apart). THE CARD IS WHAT COUNTS. Prove the row's statement (the work); the ties are given (YtegnnheljhielabDoorTie.lean); close each card by the builder's one call (the guide's Derived/Test/ToyasCard.lean, 'card_holds'). Laid BY PROGRAM, IN A SANDBOX (cutbox-door.mjs). By AI agents, Wed Nov 11 2026. No macro, syntax, notation, axiom, sorry.
-/
import Derived.Test.YtegnnheljhielabDoorRows
import GoSem.ClaimSeven
namespace Go.Proofs.YtegnnheljhielabDoor
namespace Rows

/-- THE TIED CARD OF 'laws.FnExactClaimText'. -/
def fnExactClaimTextCard : Claim7 := { stood := { row := fnExactClaimTextRow, standIns := [], harness := (true, "79a8b9a88c1151a1746df78295970505993264d9983daef18e61313c02973776"), looks := false }, kinds := [], alts := [], laidByText := true, laidKinds := [.data, .data, .data], laidTests := true, laidLooks := .later }
def FnExactClaimTextCardSaid : Prop := Claim7.holds Tryd.pinned (.plain (OpenSpec.ofChange fnExactClaimTextSpec)) fnExactClaimTextCard

/-- THE TIED CARD OF 'laws.FnExactClaimRead'. -/
def fnExactClaimReadCard : Claim7 := { stood := { row := fnExactClaimReadRow, standIns := [], harness := (true, "79a8b9a88c1151a1746df78295970505993264d9983daef18e61313c02973776"), looks := false }, kinds := [], alts := [], laidByText := true, laidKinds := [.data, .data, .data, .data, .pinned], laidTests := true, laidLooks := .later }
def FnExactClaimReadCardSaid : Prop := Claim7.holds Tryd.pinned (.plain (OpenSpec.ofChange fnExactClaimReadSpec)) fnExactClaimReadCard

/-- THE TIED CARD OF 'laws.FnExactPodText'. -/
def fnExactPodTextCard : Claim7 := { stood := { row := fnExactPodTextRow, standIns := [], harness := (true, "79a8b9a88c1151a1746df78295970505993264d9983daef18e61313c02973776"), looks := false }, kinds := [], alts := [], laidByText := true, laidKinds := [.data, .data, .data], laidTests := true, laidLooks := .later }
def FnExactPodTextCardSaid : Prop := Claim7.holds Tryd.pinned (.plain (OpenSpec.ofChange fnExactPodTextSpec)) fnExactPodTextCard

/-- THE TIED CARD OF 'laws.FnExactPodRead'. -/
def fnExactPodReadCard : Claim7 := { stood := { row := fnExactPodReadRow, standIns := [], harness := (true, "79a8b9a88c1151a1746df78295970505993264d9983daef18e61313c02973776"), looks := false }, kinds := [], alts := [], laidByText := true, laidKinds := [.data, .data, .data, .data, .pinned], laidTests := true, laidLooks := .later }
def FnExactPodReadCardSaid : Prop := Claim7.holds Tryd.pinned (.plain (OpenSpec.ofChange fnExactPodReadSpec)) fnExactPodReadCard

/-- THE SECOND FORM's CARD OF 'laws.FnExactClaimText'. -/
def fnExactClaimTextUptoCard : Claim7 := { stood := { row := fnExactClaimTextUptoRow, standIns := [], harness := (true, "79a8b9a88c1151a1746df78295970505993264d9983daef18e61313c02973776"), looks := false }, kinds := [], alts := [], laidByText := true, laidKinds := [.data, .data, .data], laidTests := true, laidLooks := .later }
def FnExactClaimTextUptoCardSaid : Prop := Claim7.holds Tryd.pinned (.plain (OpenSpec.upto fnExactClaimTextSpec)) fnExactClaimTextUptoCard

/-- THE SECOND FORM's CARD OF 'laws.FnExactClaimRead'. -/
def fnExactClaimReadUptoCard : Claim7 := { stood := { row := fnExactClaimReadUptoRow, standIns := [], harness := (true, "79a8b9a88c1151a1746df78295970505993264d9983daef18e61313c02973776"), looks := false }, kinds := [], alts := [], laidByText := true, laidKinds := [.data, .data, .data, .data, .pinned], laidTests := true, laidLooks := .later }
def FnExactClaimReadUptoCardSaid : Prop := Claim7.holds Tryd.pinned (.plain (OpenSpec.upto fnExactClaimReadSpec)) fnExactClaimReadUptoCard

/-- THE SECOND FORM's CARD OF 'laws.FnExactPodText'. -/
def fnExactPodTextUptoCard : Claim7 := { stood := { row := fnExactPodTextUptoRow, standIns := [], harness := (true, "79a8b9a88c1151a1746df78295970505993264d9983daef18e61313c02973776"), looks := false }, kinds := [], alts := [], laidByText := true, laidKinds := [.data, .data, .data], laidTests := true, laidLooks := .later }
def FnExactPodTextUptoCardSaid : Prop := Claim7.holds Tryd.pinned (.plain (OpenSpec.upto fnExactPodTextSpec)) fnExactPodTextUptoCard

/-- THE SECOND FORM's CARD OF 'laws.FnExactPodRead'. -/
def fnExactPodReadUptoCard : Claim7 := { stood := { row := fnExactPodReadUptoRow, standIns := [], harness := (true, "79a8b9a88c1151a1746df78295970505993264d9983daef18e61313c02973776"), looks := false }, kinds := [], alts := [], laidByText := true, laidKinds := [.data, .data, .data, .data, .pinned], laidTests := true, laidLooks := .later }
def FnExactPodReadUptoCardSaid : Prop := Claim7.holds Tryd.pinned (.plain (OpenSpec.upto fnExactPodReadSpec)) fnExactPodReadUptoCard
end Rows
end Go.Proofs.YtegnnheljhielabDoor

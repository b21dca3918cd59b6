/-
  No cell of these rows narrows 'for every input' (looked for: loops, veiled, ifaces, maps, wideKeys, modest, calm, conditions, laid).
  DERIVED. THE GIVEN ROWS OF THIS SEAT. 5 by the template 'for every input the law returns true; each argument reads behind the call as it read before'; 0 by the template 'total and deterministic' (their statements: YtjkgpkgbaapdmaaTotals.lean).
  GIVEN WITH THE SEED: the statements are not yours to turn. If you find one false, say at which input.
  Laid BY PROGRAM, IN A SANDBOX (cutbox-rows.mjs): the forced cells as the released guide's own fill.sh prints them over the translation 07c160ec8b3eddf6… (all of the seat's roots in one cut). By AI agents, Wed Nov 11 2026. No macro, syntax, notation, axiom, sorry.
-/
import Derived.Test.YtjkgpkgbaapdmaaChecked
import GoSem.Claim
import GoSem.ClaimJoined
import GoSem.ClaimMapViews
import Derived.JoinedTies
import Derived.KernelRfl
namespace Go.Proofs.Ytjkgpkgbaapdmaa
/- THE CELL 'sum', in the pinned program and in every row, IS THE sha256 OF THE DUMP (.gsa) THAT YtjkgpkgbaapdmaaProg.lean LOADS. Nothing in Lean hashes anything: it is a label: what it is worth is what the hold of that sum in a sandbox is worth. -/
noncomputable def Try.pinned : Pinned := { name := "ytjkgpkgbaapdmaa", sum := "07c160ec8b3eddf68ea51f66a6eeba4e5a194de72f3ea5a45c082086ad15abaf", checked := Try.checked }
namespace Rows
def none {H : Type} : Left H := { results := [], args := [] }

/-- 'laws.FnMatch': WHATEVER THE INPUT: true; the input reads as it did. -/
def fnMatchSpec : ChangeSpec := { name := "fnMatch", fn := fun _ => fun
  | [d1, d2] => { results := [.lit (.bool true)], args := [d1, d2] }
  | _ => none }
def fnMatchRow : OpenClaim := { program := "ytjkgpkgbaapdmaa", sum := "07c160ec8b3eddf68ea51f66a6eeba4e5a194de72f3ea5a45c082086ad15abaf", func := "loop.example/g00571/laws.FnMatch", spec := "fnMatch", unfollowed := true, recurses := true, apart := false }
def FnMatchSaid : Prop := fnMatchRow.holds Try.pinned (OpenSpec.ofChange fnMatchSpec)

/-- ITS FALSE NEIGHBOUR: 'it returns false'. Refute it at one input. -/
def fnMatchWrong : ChangeSpec := { name := "fnMatch", fn := fun _ => fun
  | [d1, d2] => { results := [.lit (.bool false)], args := [d1, d2] }
  | _ => none }
def FnMatchWrongFalsely : Prop := fnMatchRow.holds Try.pinned (OpenSpec.ofChange fnMatchWrong)

/-- 'laws.FnExactServes': WHATEVER THE INPUT: true; the input reads as it did. -/
def fnExactServesSpec : ChangeSpec := { name := "fnExactServes", fn := fun _ => fun
  | [d1, d2, d3] => { results := [.lit (.bool true)], args := [d1, d2, d3] }
  | _ => none }
def fnExactServesRow : OpenClaim := { program := "ytjkgpkgbaapdmaa", sum := "07c160ec8b3eddf68ea51f66a6eeba4e5a194de72f3ea5a45c082086ad15abaf", func := "loop.example/g00571/laws.FnExactServes", spec := "fnExactServes", unfollowed := true, recurses := true, apart := false }
def FnExactServesSaid : Prop := fnExactServesRow.holds Try.pinned (OpenSpec.ofChange fnExactServesSpec)

/-- ITS FALSE NEIGHBOUR: 'it returns false'. Refute it at one input. -/
def fnExactServesWrong : ChangeSpec := { name := "fnExactServes", fn := fun _ => fun
  | [d1, d2, d3] => { results := [.lit (.bool false)], args := [d1, d2, d3] }
  | _ => none }
def FnExactServesWrongFalsely : Prop := fnExactServesRow.holds Try.pinned (OpenSpec.ofChange fnExactServesWrong)

/-- 'laws.FnExactBestFor': WHATEVER THE INPUT: true; the input reads as it did. -/
def fnExactBestForSpec : ChangeSpec := { name := "fnExactBestFor", fn := fun _ => fun
  | [d1, d2, d3] => { results := [.lit (.bool true)], args := [d1, d2, d3] }
  | _ => none }
def fnExactBestForRow : OpenClaim := { program := "ytjkgpkgbaapdmaa", sum := "07c160ec8b3eddf68ea51f66a6eeba4e5a194de72f3ea5a45c082086ad15abaf", func := "loop.example/g00571/laws.FnExactBestFor", spec := "fnExactBestFor", unfollowed := true, recurses := true, apart := false }
def FnExactBestForSaid : Prop := fnExactBestForRow.holds Try.pinned (OpenSpec.ofChange fnExactBestForSpec)

/-- ITS FALSE NEIGHBOUR: 'it returns false'. Refute it at one input. -/
def fnExactBestForWrong : ChangeSpec := { name := "fnExactBestFor", fn := fun _ => fun
  | [d1, d2, d3] => { results := [.lit (.bool false)], args := [d1, d2, d3] }
  | _ => none }
def FnExactBestForWrongFalsely : Prop := fnExactBestForRow.holds Try.pinned (OpenSpec.ofChange fnExactBestForWrong)

/-- 'laws.FnExactMayMake': WHATEVER THE INPUT: true; the input reads as it did. -/
def fnExactMayMakeSpec : ChangeSpec := { name := "fnExactMayMake", fn := fun _ => fun
  | [d1, d2] => { results := [.lit (.bool true)], args := [d1, d2] }
  | _ => none }
def fnExactMayMakeRow : OpenClaim := { program := "ytjkgpkgbaapdmaa", sum := "07c160ec8b3eddf68ea51f66a6eeba4e5a194de72f3ea5a45c082086ad15abaf", func := "loop.example/g00571/laws.FnExactMayMake", spec := "fnExactMayMake", apart := false }
def FnExactMayMakeSaid : Prop := fnExactMayMakeRow.holds Try.pinned (OpenSpec.ofChange fnExactMayMakeSpec)

/-- ITS FALSE NEIGHBOUR: 'it returns false'. Refute it at one input. -/
def fnExactMayMakeWrong : ChangeSpec := { name := "fnExactMayMake", fn := fun _ => fun
  | [d1, d2] => { results := [.lit (.bool false)], args := [d1, d2] }
  | _ => none }
def FnExactMayMakeWrongFalsely : Prop := fnExactMayMakeRow.holds Try.pinned (OpenSpec.ofChange fnExactMayMakeWrong)

/-- 'laws.FnExactMakeFor': WHATEVER THE INPUT: true; the input reads as it did. -/
def fnExactMakeForSpec : ChangeSpec := { name := "fnExactMakeFor", fn := fun _ => fun
  | [d1, d2, d3] => { results := [.lit (.bool true)], args := [d1, d2, d3] }
  | _ => none }
def fnExactMakeForRow : OpenClaim := { program := "ytjkgpkgbaapdmaa", sum := "07c160ec8b3eddf68ea51f66a6eeba4e5a194de72f3ea5a45c082086ad15abaf", func := "loop.example/g00571/laws.FnExactMakeFor", spec := "fnExactMakeFor", apart := false }
def FnExactMakeForSaid : Prop := fnExactMakeForRow.holds Try.pinned (OpenSpec.ofChange fnExactMakeForSpec)

/-- ITS FALSE NEIGHBOUR: 'it returns false'. Refute it at one input. -/
def fnExactMakeForWrong : ChangeSpec := { name := "fnExactMakeFor", fn := fun _ => fun
  | [d1, d2, d3] => { results := [.lit (.bool false)], args := [d1, d2, d3] }
  | _ => none }
def FnExactMakeForWrongFalsely : Prop := fnExactMakeForRow.holds Try.pinned (OpenSpec.ofChange fnExactMakeForWrong)

/- THE SECOND FORM. 'bulk': how many values and letters a reading holds, each counted each time it is reached (what is shared counts as often as it is met; a slice's spare places count too). A statement '..UptoSaid' is the law's where the arguments, and the package variables that the reading takes, are together of bulk at most 1048576: NARROWER than '..Said'. Prove '..Said' where nothing that the law and all that it calls make is longer than what came in: it says more and counts as full. Else prove '..UptoSaid'. A law counts once. -/
mutual
def uptoBulk {H : Type} : DataW H → Nat
  | .lit (.string bytes) => bytes.length + 1
  | .lit _ => 1
  | .nil => 1
  | .ptr d => uptoBulk d + 1
  | .slice elems spare => uptoBulkAll elems + uptoBulkAll spare + 1
  | .agg parts => uptoBulkAll parts + 1
  | .iface _ d => uptoBulk d + 1
  | .map entries => uptoBulkEntries entries + 1
  | .held _ => 1
def uptoBulkAll {H : Type} : List (DataW H) → Nat
  | [] => 0
  | d :: r => uptoBulk d + uptoBulkAll r
def uptoBulkEntries {H : Type} : List (Lit × DataW H) → Nat
  | [] => 0
  | x :: r => uptoBulkEntry x + uptoBulkEntries r
def uptoBulkEntry {H : Type} : Lit × DataW H → Nat
  | (.string bytes, d) => bytes.length + uptoBulk d + 1
  | (_, d) => uptoBulk d + 1
 end
def uptoSmall : (H : Type) → List (DataW H) → Bool := fun _ ds => decide (uptoBulkAll ds ≤ 1048576)
def OpenSpec.upto (s : _root_.Go.ChangeSpec) : _root_.Go.OpenSpec := { _root_.Go.OpenSpec.ofChange s with cond := some uptoSmall }

/-- 'laws.FnMatch', WHERE WHAT IT READS IS OF BULK AT MOST 1048576: true; the input reads as it did. -/
def fnMatchUptoRow : OpenClaim := { program := "ytjkgpkgbaapdmaa", sum := "07c160ec8b3eddf68ea51f66a6eeba4e5a194de72f3ea5a45c082086ad15abaf", func := "loop.example/g00571/laws.FnMatch", spec := "fnMatch", unfollowed := true, recurses := true, apart := false, narrowed := true }
def FnMatchUptoSaid : Prop := fnMatchUptoRow.holds Try.pinned (OpenSpec.upto fnMatchSpec)

/-- 'laws.FnExactServes', WHERE WHAT IT READS IS OF BULK AT MOST 1048576: true; the input reads as it did. -/
def fnExactServesUptoRow : OpenClaim := { program := "ytjkgpkgbaapdmaa", sum := "07c160ec8b3eddf68ea51f66a6eeba4e5a194de72f3ea5a45c082086ad15abaf", func := "loop.example/g00571/laws.FnExactServes", spec := "fnExactServes", unfollowed := true, recurses := true, apart := false, narrowed := true }
def FnExactServesUptoSaid : Prop := fnExactServesUptoRow.holds Try.pinned (OpenSpec.upto fnExactServesSpec)

/-- 'laws.FnExactBestFor', WHERE WHAT IT READS IS OF BULK AT MOST 1048576: true; the input reads as it did. -/
def fnExactBestForUptoRow : OpenClaim := { program := "ytjkgpkgbaapdmaa", sum := "07c160ec8b3eddf68ea51f66a6eeba4e5a194de72f3ea5a45c082086ad15abaf", func := "loop.example/g00571/laws.FnExactBestFor", spec := "fnExactBestFor", unfollowed := true, recurses := true, apart := false, narrowed := true }
def FnExactBestForUptoSaid : Prop := fnExactBestForUptoRow.holds Try.pinned (OpenSpec.upto fnExactBestForSpec)

/-- 'laws.FnExactMayMake', WHERE WHAT IT READS IS OF BULK AT MOST 1048576: true; the input reads as it did. -/
def fnExactMayMakeUptoRow : OpenClaim := { program := "ytjkgpkgbaapdmaa", sum := "07c160ec8b3eddf68ea51f66a6eeba4e5a194de72f3ea5a45c082086ad15abaf", func := "loop.example/g00571/laws.FnExactMayMake", spec := "fnExactMayMake", apart := false, narrowed := true }
def FnExactMayMakeUptoSaid : Prop := fnExactMayMakeUptoRow.holds Try.pinned (OpenSpec.upto fnExactMayMakeSpec)

/-- 'laws.FnExactMakeFor', WHERE WHAT IT READS IS OF BULK AT MOST 1048576: true; the input reads as it did. -/
def fnExactMakeForUptoRow : OpenClaim := { program := "ytjkgpkgbaapdmaa", sum := "07c160ec8b3eddf68ea51f66a6eeba4e5a194de72f3ea5a45c082086ad15abaf", func := "loop.example/g00571/laws.FnExactMakeFor", spec := "fnExactMakeFor", apart := false, narrowed := true }
def FnExactMakeForUptoSaid : Prop := fnExactMakeForUptoRow.holds Try.pinned (OpenSpec.upto fnExactMakeForSpec)

end Rows
end Go.Proofs.Ytjkgpkgbaapdmaa

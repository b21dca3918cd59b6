/-
  No cell of these rows narrows 'for every input' (looked for: loops, veiled, ifaces, maps, wideKeys, modest, calm, conditions, laid).
  DERIVED. THE GIVEN ROWS OF THIS SEAT. 5 by the template 'for every input the law returns true; each argument reads behind the call as it read before'; 0 by the template 'total and deterministic' (their statements: YtegnnheljhielaaTotals.lean).
  GIVEN WITH THE SEED: the statements are not yours to turn. If you find one false, say at which input.
  Laid BY PROGRAM, IN A SANDBOX (cutbox-rows.mjs): the forced cells as the released guide's own fill.sh prints them over the translation 8dc57f620af26880… (all of the seat's roots in one cut). By AI agents, Wed Nov 11 2026. No macro, syntax, notation, axiom, sorry.
-/
import Derived.Test.YtegnnheljhielaaChecked
import GoSem.Claim
import GoSem.ClaimJoined
import GoSem.ClaimMapViews
import Derived.JoinedTies
import Derived.KernelRfl
namespace Go.Proofs.Ytegnnheljhielaa
/- THE CELL 'sum', in the pinned program and in every row, IS THE sha256 OF THE DUMP (.gsa) THAT YtegnnheljhielaaProg.lean LOADS. Nothing in Lean hashes anything: it is a label: what it is worth is what the hold of that sum in a sandbox is worth. -/
noncomputable def Try.pinned : Pinned := { name := "ytegnnheljhielaa", sum := "8dc57f620af268802678dd42e5891bb61fd0db8212d46a90d319634c15eb3ca6", checked := Try.checked }
namespace Rows
def none {H : Type} : Left H := { results := [], args := [] }

/-- 'laws.FnExactNodeRight': WHATEVER THE INPUT: true; the input reads as it did. -/
def fnExactNodeRightSpec : ChangeSpec := { name := "fnExactNodeRight", fn := fun _ => fun
  | [d] => { results := [.lit (.bool true)], args := [d] }
  | _ => none }
def fnExactNodeRightRow : OpenClaim := { program := "ytegnnheljhielaa", sum := "8dc57f620af268802678dd42e5891bb61fd0db8212d46a90d319634c15eb3ca6", func := "loop.example/g00571/laws.FnExactNodeRight", spec := "fnExactNodeRight", apart := false }
def FnExactNodeRightSaid : Prop := fnExactNodeRightRow.holds Try.pinned (OpenSpec.ofChange fnExactNodeRightSpec)

/-- ITS FALSE NEIGHBOUR: 'it returns false'. Refute it at one input. -/
def fnExactNodeRightWrong : ChangeSpec := { name := "fnExactNodeRight", fn := fun _ => fun
  | [d] => { results := [.lit (.bool false)], args := [d] }
  | _ => none }
def FnExactNodeRightWrongFalsely : Prop := fnExactNodeRightRow.holds Try.pinned (OpenSpec.ofChange fnExactNodeRightWrong)

/-- 'laws.FnExactClassRight': WHATEVER THE INPUT: true; the input reads as it did. -/
def fnExactClassRightSpec : ChangeSpec := { name := "fnExactClassRight", fn := fun _ => fun
  | [d] => { results := [.lit (.bool true)], args := [d] }
  | _ => none }
def fnExactClassRightRow : OpenClaim := { program := "ytegnnheljhielaa", sum := "8dc57f620af268802678dd42e5891bb61fd0db8212d46a90d319634c15eb3ca6", func := "loop.example/g00571/laws.FnExactClassRight", spec := "fnExactClassRight", apart := false }
def FnExactClassRightSaid : Prop := fnExactClassRightRow.holds Try.pinned (OpenSpec.ofChange fnExactClassRightSpec)

/-- ITS FALSE NEIGHBOUR: 'it returns false'. Refute it at one input. -/
def fnExactClassRightWrong : ChangeSpec := { name := "fnExactClassRight", fn := fun _ => fun
  | [d] => { results := [.lit (.bool false)], args := [d] }
  | _ => none }
def FnExactClassRightWrongFalsely : Prop := fnExactClassRightRow.holds Try.pinned (OpenSpec.ofChange fnExactClassRightWrong)

/-- 'laws.FnExactVolumeRight': WHATEVER THE INPUT: true; the input reads as it did. -/
def fnExactVolumeRightSpec : ChangeSpec := { name := "fnExactVolumeRight", fn := fun _ => fun
  | [d] => { results := [.lit (.bool true)], args := [d] }
  | _ => none }
def fnExactVolumeRightRow : OpenClaim := { program := "ytegnnheljhielaa", sum := "8dc57f620af268802678dd42e5891bb61fd0db8212d46a90d319634c15eb3ca6", func := "loop.example/g00571/laws.FnExactVolumeRight", spec := "fnExactVolumeRight", apart := false }
def FnExactVolumeRightSaid : Prop := fnExactVolumeRightRow.holds Try.pinned (OpenSpec.ofChange fnExactVolumeRightSpec)

/-- ITS FALSE NEIGHBOUR: 'it returns false'. Refute it at one input. -/
def fnExactVolumeRightWrong : ChangeSpec := { name := "fnExactVolumeRight", fn := fun _ => fun
  | [d] => { results := [.lit (.bool false)], args := [d] }
  | _ => none }
def FnExactVolumeRightWrongFalsely : Prop := fnExactVolumeRightRow.holds Try.pinned (OpenSpec.ofChange fnExactVolumeRightWrong)

/-- 'laws.FnExactClaimRight': WHATEVER THE INPUT: true; the input reads as it did. -/
def fnExactClaimRightSpec : ChangeSpec := { name := "fnExactClaimRight", fn := fun _ => fun
  | [d] => { results := [.lit (.bool true)], args := [d] }
  | _ => none }
def fnExactClaimRightRow : OpenClaim := { program := "ytegnnheljhielaa", sum := "8dc57f620af268802678dd42e5891bb61fd0db8212d46a90d319634c15eb3ca6", func := "loop.example/g00571/laws.FnExactClaimRight", spec := "fnExactClaimRight", apart := false }
def FnExactClaimRightSaid : Prop := fnExactClaimRightRow.holds Try.pinned (OpenSpec.ofChange fnExactClaimRightSpec)

/-- ITS FALSE NEIGHBOUR: 'it returns false'. Refute it at one input. -/
def fnExactClaimRightWrong : ChangeSpec := { name := "fnExactClaimRight", fn := fun _ => fun
  | [d] => { results := [.lit (.bool false)], args := [d] }
  | _ => none }
def FnExactClaimRightWrongFalsely : Prop := fnExactClaimRightRow.holds Try.pinned (OpenSpec.ofChange fnExactClaimRightWrong)

/-- 'laws.FnExactPodRight': WHATEVER THE INPUT: true; the input reads as it did. -/
def fnExactPodRightSpec : ChangeSpec := { name := "fnExactPodRight", fn := fun _ => fun
  | [d] => { results := [.lit (.bool true)], args := [d] }
  | _ => none }
def fnExactPodRightRow : OpenClaim := { program := "ytegnnheljhielaa", sum := "8dc57f620af268802678dd42e5891bb61fd0db8212d46a90d319634c15eb3ca6", func := "loop.example/g00571/laws.FnExactPodRight", spec := "fnExactPodRight", apart := false }
def FnExactPodRightSaid : Prop := fnExactPodRightRow.holds Try.pinned (OpenSpec.ofChange fnExactPodRightSpec)

/-- ITS FALSE NEIGHBOUR: 'it returns false'. Refute it at one input. -/
def fnExactPodRightWrong : ChangeSpec := { name := "fnExactPodRight", fn := fun _ => fun
  | [d] => { results := [.lit (.bool false)], args := [d] }
  | _ => none }
def FnExactPodRightWrongFalsely : Prop := fnExactPodRightRow.holds Try.pinned (OpenSpec.ofChange fnExactPodRightWrong)

/- THE SECOND FORM. 'bulk': how many values and letters a reading holds, each counted each time it is reached (what is shared counts as often as it is met; a slice's spare places count too). A statement '..UptoSaid' is the law's where the arguments, and the package variables that the reading takes, are together of bulk at most 1048576: NARROWER than '..Said'. Prove '..Said' where nothing that the law and all that it calls make is longer than what came in: it says more and counts as full. Else prove '..UptoSaid'. A law counts once. -/
mutual
def uptoBulk {H : Type} : DataW H → Nat
  | .lit (.string bytes) => bytes.length + 1
  | .lit _ => 1
  | .nil => 1
  | .ptr d => uptoBulk d + 1
  | .slice elems spare => uptoBulkAll elems + uptoBulkAll spare + 1
  | .agg parts => uptoBulkAll parts + 1
  | .iface _ d => uptoBulk d + 1
  | .map entries => uptoBulkEntries entries + 1
  | .held _ => 1
def uptoBulkAll {H : Type} : List (DataW H) → Nat
  | [] => 0
  | d :: r => uptoBulk d + uptoBulkAll r
def uptoBulkEntries {H : Type} : List (Lit × DataW H) → Nat
  | [] => 0
  | x :: r => uptoBulkEntry x + uptoBulkEntries r
def uptoBulkEntry {H : Type} : Lit × DataW H → Nat
  | (.string bytes, d) => bytes.length + uptoBulk d + 1
  | (_, d) => uptoBulk d + 1
 end
def uptoSmall : (H : Type) → List (DataW H) → Bool := fun _ ds => decide (uptoBulkAll ds ≤ 1048576)
def OpenSpec.upto (s : _root_.Go.ChangeSpec) : _root_.Go.OpenSpec := { _root_.Go.OpenSpec.ofChange s with cond := some uptoSmall }

/-- 'laws.FnExactNodeRight', WHERE WHAT IT READS IS OF BULK AT MOST 1048576: true; the input reads as it did. -/
def fnExactNodeRightUptoRow : OpenClaim := { program := "ytegnnheljhielaa", sum := "8dc57f620af268802678dd42e5891bb61fd0db8212d46a90d319634c15eb3ca6", func := "loop.example/g00571/laws.FnExactNodeRight", spec := "fnExactNodeRight", apart := false, narrowed := true }
def FnExactNodeRightUptoSaid : Prop := fnExactNodeRightUptoRow.holds Try.pinned (OpenSpec.upto fnExactNodeRightSpec)

/-- 'laws.FnExactClassRight', WHERE WHAT IT READS IS OF BULK AT MOST 1048576: true; the input reads as it did. -/
def fnExactClassRightUptoRow : OpenClaim := { program := "ytegnnheljhielaa", sum := "8dc57f620af268802678dd42e5891bb61fd0db8212d46a90d319634c15eb3ca6", func := "loop.example/g00571/laws.FnExactClassRight", spec := "fnExactClassRight", apart := false, narrowed := true }
def FnExactClassRightUptoSaid : Prop := fnExactClassRightUptoRow.holds Try.pinned (OpenSpec.upto fnExactClassRightSpec)

/-- 'laws.FnExactVolumeRight', WHERE WHAT IT READS IS OF BULK AT MOST 1048576: true; the input reads as it did. -/
def fnExactVolumeRightUptoRow : OpenClaim := { program := "ytegnnheljhielaa", sum := "8dc57f620af268802678dd42e5891bb61fd0db8212d46a90d319634c15eb3ca6", func := "loop.example/g00571/laws.FnExactVolumeRight", spec := "fnExactVolumeRight", apart := false, narrowed := true }
def FnExactVolumeRightUptoSaid : Prop := fnExactVolumeRightUptoRow.holds Try.pinned (OpenSpec.upto fnExactVolumeRightSpec)

/-- 'laws.FnExactClaimRight', WHERE WHAT IT READS IS OF BULK AT MOST 1048576: true; the input reads as it did. -/
def fnExactClaimRightUptoRow : OpenClaim := { program := "ytegnnheljhielaa", sum := "8dc57f620af268802678dd42e5891bb61fd0db8212d46a90d319634c15eb3ca6", func := "loop.example/g00571/laws.FnExactClaimRight", spec := "fnExactClaimRight", apart := false, narrowed := true }
def FnExactClaimRightUptoSaid : Prop := fnExactClaimRightUptoRow.holds Try.pinned (OpenSpec.upto fnExactClaimRightSpec)

/-- 'laws.FnExactPodRight', WHERE WHAT IT READS IS OF BULK AT MOST 1048576: true; the input reads as it did. -/
def fnExactPodRightUptoRow : OpenClaim := { program := "ytegnnheljhielaa", sum := "8dc57f620af268802678dd42e5891bb61fd0db8212d46a90d319634c15eb3ca6", func := "loop.example/g00571/laws.FnExactPodRight", spec := "fnExactPodRight", apart := false, narrowed := true }
def FnExactPodRightUptoSaid : Prop := fnExactPodRightUptoRow.holds Try.pinned (OpenSpec.upto fnExactPodRightSpec)

end Rows
end Go.Proofs.Ytegnnheljhielaa

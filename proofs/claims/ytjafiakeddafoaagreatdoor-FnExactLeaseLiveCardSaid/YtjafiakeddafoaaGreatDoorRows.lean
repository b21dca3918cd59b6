/-
  NARROWER THAN 'FOR EVERY INPUT', by the rows' own cells (each row's printed sentence says how): FnExactLeaseLive: ifaces, laid · FnExactRunsOn: ifaces, laid.
  DERIVED. THE GIVEN ROWS OF THIS SEAT. 2 by the template 'for every input the law returns true; each argument reads behind the call as it read before'; 0 by the template 'total and deterministic' (their statements: YtjafiakeddafoaaGreatDoorTotals.lean).
  GIVEN WITH THE SEED: the statements are not yours to turn. If you find one false, say at which input.
  Laid BY PROGRAM, IN A SANDBOX (cutbox-rows.mjs): the forced cells as the released guide's own fill.sh prints them over the translation fc19153d52eb84f0… (all of the seat's roots in one cut). By AI agents, Wed Nov 11 2026. No macro, syntax, notation, axiom, sorry.
-/
import Derived.Test.YtjafiakeddafoaaGreatDoorChecked
import GoSem.Claim
import GoSem.ClaimJoined
import GoSem.ClaimMapViews
import Derived.JoinedTies
import Derived.KernelRfl
namespace Go.Proofs.YtjafiakeddafoaaGreatDoor
/- THE CELL 'sum', in the pinned program and in every row, IS THE sha256 OF THE DUMP (.gsa) THAT YtjafiakeddafoaaGreatDoorProg.lean LOADS. Nothing in Lean hashes anything: it is a label: what it is worth is what the hold of that sum in a sandbox is worth. -/
noncomputable def Tryz.pinned : Pinned := { name := "ytjafiakeddafoaagreatdoor", sum := "fc19153d52eb84f0600c2449e81dc4240bfbefaac7ee09a2b8e777b445e55832", checked := Tryz.checked }
namespace Rows
def none {H : Type} : Left H := { results := [], args := [] }

/- WHAT THE LISTED PACKAGE-LEVEL VARIABLES READ AS WHEN THE CALL BEGINS. Each datum BY PROGRAM (the guide's laid-datum.mjs) off the statement by which the dump's own 'gosem.cut.vars' lays the variable. In a bare row this is a premise. The card (YtjafiakeddafoaaGreatDoorCards.lean) ties it to the program's text. -/
def laid_loop_example_g00571_impl_errTooLong {H : Type} : DataW H := .iface "*errors.errorString" (.ptr (.agg [.lit (.string [97, 32, 116, 101, 120, 116, 32, 105, 115, 32, 116, 111, 111, 32, 108, 111, 110, 103])]))
def laid_loop_example_g00571_impl_errNotRight {H : Type} : DataW H := .iface "*errors.errorString" (.ptr (.agg [.lit (.string [105, 116, 32, 105, 115, 32, 110, 111, 116, 32, 114, 105, 103, 104, 116])]))
def laid_loop_example_g00571_impl_errNoSuch {H : Type} : DataW H := .iface "*errors.errorString" (.ptr (.agg [.lit (.string [116, 104, 101, 114, 101, 32, 105, 115, 32, 110, 111, 32, 115, 117, 99, 104, 32, 116, 104, 105, 110, 103])]))

/-- 'laws.FnExactLeaseLive': WHATEVER THE INPUT: true; the input reads as it did. -/
def fnExactLeaseLiveSpec : ChangeSpec := { name := "fnExactLeaseLive", vars := ["loop.example/g00571/impl.errTooLong", "loop.example/g00571/impl.errNotRight", "loop.example/g00571/impl.errNoSuch"], fn := fun _ => fun
  | [d1, d2, g1, g2, g3] => { results := [.lit (.bool true)], args := [d1, d2], vars := [g1, g2, g3] }
  | _ => none }
def fnExactLeaseLiveRow : OpenClaim := { program := "ytjafiakeddafoaagreatdoor", sum := "fc19153d52eb84f0600c2449e81dc4240bfbefaac7ee09a2b8e777b445e55832", func := "loop.example/g00571/laws.FnExactLeaseLive", spec := "fnExactLeaseLive", unfollowed := true, recurses := true, named := ["loop.example/g00571/impl.errTooLong", "loop.example/g00571/impl.errNotRight", "loop.example/g00571/impl.errNoSuch"], ifaces := true, apart := false, laid := [("loop.example/g00571/impl.errTooLong", laid_loop_example_g00571_impl_errTooLong), ("loop.example/g00571/impl.errNotRight", laid_loop_example_g00571_impl_errNotRight), ("loop.example/g00571/impl.errNoSuch", laid_loop_example_g00571_impl_errNoSuch)] }
def FnExactLeaseLiveSaid : Prop := fnExactLeaseLiveRow.holds Tryz.pinned (OpenSpec.ofChange fnExactLeaseLiveSpec)

/-- ITS FALSE NEIGHBOUR: 'it returns false'. Refute it at one input. -/
def fnExactLeaseLiveWrong : ChangeSpec := { name := "fnExactLeaseLive", vars := ["loop.example/g00571/impl.errTooLong", "loop.example/g00571/impl.errNotRight", "loop.example/g00571/impl.errNoSuch"], fn := fun _ => fun
  | [d1, d2, g1, g2, g3] => { results := [.lit (.bool false)], args := [d1, d2], vars := [g1, g2, g3] }
  | _ => none }
def FnExactLeaseLiveWrongFalsely : Prop := fnExactLeaseLiveRow.holds Tryz.pinned (OpenSpec.ofChange fnExactLeaseLiveWrong)

/-- 'laws.FnExactRunsOn': WHATEVER THE INPUT: true; the input reads as it did. -/
def fnExactRunsOnSpec : ChangeSpec := { name := "fnExactRunsOn", vars := ["loop.example/g00571/impl.errTooLong", "loop.example/g00571/impl.errNotRight", "loop.example/g00571/impl.errNoSuch"], fn := fun _ => fun
  | [d1, d2, g1, g2, g3] => { results := [.lit (.bool true)], args := [d1, d2], vars := [g1, g2, g3] }
  | _ => none }
def fnExactRunsOnRow : OpenClaim := { program := "ytjafiakeddafoaagreatdoor", sum := "fc19153d52eb84f0600c2449e81dc4240bfbefaac7ee09a2b8e777b445e55832", func := "loop.example/g00571/laws.FnExactRunsOn", spec := "fnExactRunsOn", unfollowed := true, recurses := true, named := ["loop.example/g00571/impl.errTooLong", "loop.example/g00571/impl.errNotRight", "loop.example/g00571/impl.errNoSuch"], ifaces := true, apart := false, laid := [("loop.example/g00571/impl.errTooLong", laid_loop_example_g00571_impl_errTooLong), ("loop.example/g00571/impl.errNotRight", laid_loop_example_g00571_impl_errNotRight), ("loop.example/g00571/impl.errNoSuch", laid_loop_example_g00571_impl_errNoSuch)] }
def FnExactRunsOnSaid : Prop := fnExactRunsOnRow.holds Tryz.pinned (OpenSpec.ofChange fnExactRunsOnSpec)

/-- ITS FALSE NEIGHBOUR: 'it returns false'. Refute it at one input. -/
def fnExactRunsOnWrong : ChangeSpec := { name := "fnExactRunsOn", vars := ["loop.example/g00571/impl.errTooLong", "loop.example/g00571/impl.errNotRight", "loop.example/g00571/impl.errNoSuch"], fn := fun _ => fun
  | [d1, d2, g1, g2, g3] => { results := [.lit (.bool false)], args := [d1, d2], vars := [g1, g2, g3] }
  | _ => none }
def FnExactRunsOnWrongFalsely : Prop := fnExactRunsOnRow.holds Tryz.pinned (OpenSpec.ofChange fnExactRunsOnWrong)

/- THE SECOND FORM. 'bulk': how many values and letters a reading holds, each counted each time it is reached (what is shared counts as often as it is met; a slice's spare places count too). A statement '..UptoSaid' is the law's where the arguments, and the package variables that the reading takes, are together of bulk at most 1048576: NARROWER than '..Said'. Prove '..Said' where nothing that the law and all that it calls make is longer than what came in: it says more and counts as full. Else prove '..UptoSaid'. A law counts once. -/
mutual
def uptoBulk {H : Type} : DataW H → Nat
  | .lit (.string bytes) => bytes.length + 1
  | .lit _ => 1
  | .nil => 1
  | .ptr d => uptoBulk d + 1
  | .slice elems spare => uptoBulkAll elems + uptoBulkAll spare + 1
  | .agg parts => uptoBulkAll parts + 1
  | .iface _ d => uptoBulk d + 1
  | .map entries => uptoBulkEntries entries + 1
  | .held _ => 1
def uptoBulkAll {H : Type} : List (DataW H) → Nat
  | [] => 0
  | d :: r => uptoBulk d + uptoBulkAll r
def uptoBulkEntries {H : Type} : List (Lit × DataW H) → Nat
  | [] => 0
  | x :: r => uptoBulkEntry x + uptoBulkEntries r
def uptoBulkEntry {H : Type} : Lit × DataW H → Nat
  | (.string bytes, d) => bytes.length + uptoBulk d + 1
  | (_, d) => uptoBulk d + 1
 end
def uptoSmall : (H : Type) → List (DataW H) → Bool := fun _ ds => decide (uptoBulkAll ds ≤ 1048576)
def OpenSpec.upto (s : _root_.Go.ChangeSpec) : _root_.Go.OpenSpec := { _root_.Go.OpenSpec.ofChange s with cond := some uptoSmall }

/-- 'laws.FnExactLeaseLive', WHERE WHAT IT READS IS OF BULK AT MOST 1048576: true; the input reads as it did. -/
def fnExactLeaseLiveUptoRow : OpenClaim := { program := "ytjafiakeddafoaagreatdoor", sum := "fc19153d52eb84f0600c2449e81dc4240bfbefaac7ee09a2b8e777b445e55832", func := "loop.example/g00571/laws.FnExactLeaseLive", spec := "fnExactLeaseLive", unfollowed := true, recurses := true, named := ["loop.example/g00571/impl.errTooLong", "loop.example/g00571/impl.errNotRight", "loop.example/g00571/impl.errNoSuch"], ifaces := true, apart := false, laid := [("loop.example/g00571/impl.errTooLong", laid_loop_example_g00571_impl_errTooLong), ("loop.example/g00571/impl.errNotRight", laid_loop_example_g00571_impl_errNotRight), ("loop.example/g00571/impl.errNoSuch", laid_loop_example_g00571_impl_errNoSuch)], narrowed := true }
def FnExactLeaseLiveUptoSaid : Prop := fnExactLeaseLiveUptoRow.holds Tryz.pinned (OpenSpec.upto fnExactLeaseLiveSpec)

/-- 'laws.FnExactRunsOn', WHERE WHAT IT READS IS OF BULK AT MOST 1048576: true; the input reads as it did. -/
def fnExactRunsOnUptoRow : OpenClaim := { program := "ytjafiakeddafoaagreatdoor", sum := "fc19153d52eb84f0600c2449e81dc4240bfbefaac7ee09a2b8e777b445e55832", func := "loop.example/g00571/laws.FnExactRunsOn", spec := "fnExactRunsOn", unfollowed := true, recurses := true, named := ["loop.example/g00571/impl.errTooLong", "loop.example/g00571/impl.errNotRight", "loop.example/g00571/impl.errNoSuch"], ifaces := true, apart := false, laid := [("loop.example/g00571/impl.errTooLong", laid_loop_example_g00571_impl_errTooLong), ("loop.example/g00571/impl.errNotRight", laid_loop_example_g00571_impl_errNotRight), ("loop.example/g00571/impl.errNoSuch", laid_loop_example_g00571_impl_errNoSuch)], narrowed := true }
def FnExactRunsOnUptoSaid : Prop := fnExactRunsOnUptoRow.holds Tryz.pinned (OpenSpec.upto fnExactRunsOnSpec)

end Rows
end Go.Proofs.YtjafiakeddafoaaGreatDoor

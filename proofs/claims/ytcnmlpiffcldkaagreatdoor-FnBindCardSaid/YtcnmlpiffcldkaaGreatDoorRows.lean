/-
  NARROWER THAN 'FOR EVERY INPUT', by the rows' own cells (each row's printed sentence says how): FnBind: ifaces, laid.
  DERIVED. THE GIVEN ROWS OF THIS SEAT. 1 by the template 'for every input the law returns true; each argument reads behind the call as it read before'; 0 by the template 'total and deterministic' (their statements: YtcnmlpiffcldkaaGreatDoorTotals.lean).
  GIVEN WITH THE SEED: the statements are not yours to turn. If you find one false, say at which input.
  Laid BY PROGRAM, IN A SANDBOX (cutbox-rows.mjs): the forced cells as the released guide's own fill.sh prints them over the translation 99cd820fc49e772c… (all of the seat's roots in one cut). By AI agents, Wed Nov 11 2026. No macro, syntax, notation, axiom, sorry.
-/
import Derived.Test.YtcnmlpiffcldkaaGreatDoorChecked
import GoSem.Claim
import GoSem.ClaimJoined
import GoSem.ClaimMapViews
import Derived.JoinedTies
import Derived.KernelRfl
namespace Go.Proofs.YtcnmlpiffcldkaaGreatDoor
/- THE CELL 'sum', in the pinned program and in every row, IS THE sha256 OF THE DUMP (.gsa) THAT YtcnmlpiffcldkaaGreatDoorProg.lean LOADS. Nothing in Lean hashes anything: it is a label: what it is worth is what the hold of that sum in a sandbox is worth. -/
noncomputable def Tryz.pinned : Pinned := { name := "ytcnmlpiffcldkaagreatdoor", sum := "99cd820fc49e772cf114ff9f35baa4733aa20c9f91e6eea24488366c207d2408", checked := Tryz.checked }
namespace Rows
def none {H : Type} : Left H := { results := [], args := [] }

/- WHAT THE LISTED PACKAGE-LEVEL VARIABLES READ AS WHEN THE CALL BEGINS. Each datum BY PROGRAM (the guide's laid-datum.mjs) off the statement by which the dump's own 'gosem.cut.vars' lays the variable. In a bare row this is a premise. The card (YtcnmlpiffcldkaaGreatDoorCards.lean) ties it to the program's text. -/
def laid_loop_example_g00571_impl_errTooLong {H : Type} : DataW H := .iface "*errors.errorString" (.ptr (.agg [.lit (.string [97, 32, 116, 101, 120, 116, 32, 105, 115, 32, 116, 111, 111, 32, 108, 111, 110, 103])]))
def laid_loop_example_g00571_impl_errNotRight {H : Type} : DataW H := .iface "*errors.errorString" (.ptr (.agg [.lit (.string [105, 116, 32, 105, 115, 32, 110, 111, 116, 32, 114, 105, 103, 104, 116])]))
def laid_loop_example_g00571_impl_errNoSuch {H : Type} : DataW H := .iface "*errors.errorString" (.ptr (.agg [.lit (.string [116, 104, 101, 114, 101, 32, 105, 115, 32, 110, 111, 32, 115, 117, 99, 104, 32, 116, 104, 105, 110, 103])]))
def laid_loop_example_g00571_impl_errSameName {H : Type} : DataW H := .iface "*errors.errorString" (.ptr (.agg [.lit (.string [116, 104, 101, 114, 101, 32, 105, 115, 32, 111, 110, 101, 32, 111, 102, 32, 116, 104, 97, 116, 32, 110, 97, 109, 101])]))
def laid_loop_example_g00571_impl_errNoRoom {H : Type} : DataW H := .iface "*errors.errorString" (.ptr (.agg [.lit (.string [116, 104, 101, 114, 101, 32, 97, 114, 101, 32, 97, 115, 32, 109, 97, 110, 121, 32, 97, 115, 32, 109, 97, 121, 32, 98, 101])]))
def laid_loop_example_g00571_impl_errInUse {H : Type} : DataW H := .iface "*errors.errorString" (.ptr (.agg [.lit (.string [105, 116, 32, 105, 115, 32, 105, 110, 32, 117, 115, 101])]))
def laid_loop_example_g00571_impl_errIsBound {H : Type} : DataW H := .iface "*errors.errorString" (.ptr (.agg [.lit (.string [105, 116, 32, 105, 115, 32, 98, 111, 117, 110, 100, 32, 97, 108, 114, 101, 97, 100, 121])]))
def laid_loop_example_g00571_impl_errNotYet {H : Type} : DataW H := .iface "*errors.errorString" (.ptr (.agg [.lit (.string [105, 116, 32, 105, 115, 32, 110, 111, 116, 32, 116, 105, 109, 101, 32, 102, 111, 114, 32, 105, 116, 32, 121, 101, 116])]))
def laid_loop_example_g00571_impl_errBadState {H : Type} : DataW H := .iface "*errors.errorString" (.ptr (.agg [.lit (.string [105, 116, 32, 105, 115, 32, 105, 110, 32, 97, 110, 111, 116, 104, 101, 114, 32, 115, 116, 97, 116, 101, 32, 116, 104, 97, 110, 32, 105, 116, 32, 111, 117, 103, 104, 116, 32, 116, 111, 32, 98, 101])]))
def laid_loop_example_g00571_impl_errNoAct {H : Type} : DataW H := .iface "*errors.errorString" (.ptr (.agg [.lit (.string [105, 116, 32, 105, 115, 32, 110, 111, 32, 97, 99, 116])]))

/-- 'laws.FnBind': WHATEVER THE INPUT: true; the input reads as it did. -/
def fnBindSpec : ChangeSpec := { name := "fnBind", vars := ["loop.example/g00571/impl.errTooLong", "loop.example/g00571/impl.errNotRight", "loop.example/g00571/impl.errNoSuch", "loop.example/g00571/impl.errNoAct", "loop.example/g00571/impl.errSameName", "loop.example/g00571/impl.errIsBound", "loop.example/g00571/impl.errNoRoom", "loop.example/g00571/impl.errInUse", "loop.example/g00571/impl.errNotYet", "loop.example/g00571/impl.errBadState"], fn := fun _ => fun
  | [d1, d2, g1, g2, g3, g4, g5, g6, g7, g8, g9, g10] => { results := [.lit (.bool true)], args := [d1, d2], vars := [g1, g2, g3, g4, g5, g6, g7, g8, g9, g10] }
  | _ => none }
def fnBindRow : OpenClaim := { program := "ytcnmlpiffcldkaagreatdoor", sum := "99cd820fc49e772cf114ff9f35baa4733aa20c9f91e6eea24488366c207d2408", func := "loop.example/g00571/laws.FnBind", spec := "fnBind", inPlace := ["internal/reflectlite.TypeOf", "slices.overlaps[loop.example/g00571/impl.Claim]", "slices.overlaps[loop.example/g00571/impl.Volume]"], unfollowed := true, recurses := true, named := ["loop.example/g00571/impl.errTooLong", "loop.example/g00571/impl.errNotRight", "loop.example/g00571/impl.errNoSuch", "loop.example/g00571/impl.errNoAct", "loop.example/g00571/impl.errSameName", "loop.example/g00571/impl.errIsBound", "loop.example/g00571/impl.errNoRoom", "loop.example/g00571/impl.errInUse", "loop.example/g00571/impl.errNotYet", "loop.example/g00571/impl.errBadState"], ifaces := true, apart := false, laid := [("loop.example/g00571/impl.errTooLong", laid_loop_example_g00571_impl_errTooLong), ("loop.example/g00571/impl.errNotRight", laid_loop_example_g00571_impl_errNotRight), ("loop.example/g00571/impl.errNoSuch", laid_loop_example_g00571_impl_errNoSuch), ("loop.example/g00571/impl.errSameName", laid_loop_example_g00571_impl_errSameName), ("loop.example/g00571/impl.errNoRoom", laid_loop_example_g00571_impl_errNoRoom), ("loop.example/g00571/impl.errInUse", laid_loop_example_g00571_impl_errInUse), ("loop.example/g00571/impl.errIsBound", laid_loop_example_g00571_impl_errIsBound), ("loop.example/g00571/impl.errNotYet", laid_loop_example_g00571_impl_errNotYet), ("loop.example/g00571/impl.errBadState", laid_loop_example_g00571_impl_errBadState), ("loop.example/g00571/impl.errNoAct", laid_loop_example_g00571_impl_errNoAct)] }
def FnBindSaid : Prop := fnBindRow.holds Tryz.pinned (OpenSpec.ofChange fnBindSpec)

/-- ITS FALSE NEIGHBOUR: 'it returns false'. Refute it at one input. -/
def fnBindWrong : ChangeSpec := { name := "fnBind", vars := ["loop.example/g00571/impl.errTooLong", "loop.example/g00571/impl.errNotRight", "loop.example/g00571/impl.errNoSuch", "loop.example/g00571/impl.errNoAct", "loop.example/g00571/impl.errSameName", "loop.example/g00571/impl.errIsBound", "loop.example/g00571/impl.errNoRoom", "loop.example/g00571/impl.errInUse", "loop.example/g00571/impl.errNotYet", "loop.example/g00571/impl.errBadState"], fn := fun _ => fun
  | [d1, d2, g1, g2, g3, g4, g5, g6, g7, g8, g9, g10] => { results := [.lit (.bool false)], args := [d1, d2], vars := [g1, g2, g3, g4, g5, g6, g7, g8, g9, g10] }
  | _ => none }
def FnBindWrongFalsely : Prop := fnBindRow.holds Tryz.pinned (OpenSpec.ofChange fnBindWrong)

/- THE SECOND FORM. 'bulk': how many values and letters a reading holds, each counted each time it is reached (what is shared counts as often as it is met; a slice's spare places count too). A statement '..UptoSaid' is the law's where the arguments, and the package variables that the reading takes, are together of bulk at most 1048576: NARROWER than '..Said'. Prove '..Said' where nothing that the law and all that it calls make is longer than what came in: it says more and counts as full. Else prove '..UptoSaid'. A law counts once. -/
mutual
def uptoBulk {H : Type} : DataW H → Nat
  | .lit (.string bytes) => bytes.length + 1
  | .lit _ => 1
  | .nil => 1
  | .ptr d => uptoBulk d + 1
  | .slice elems spare => uptoBulkAll elems + uptoBulkAll spare + 1
  | .agg parts => uptoBulkAll parts + 1
  | .iface _ d => uptoBulk d + 1
  | .map entries => uptoBulkEntries entries + 1
  | .held _ => 1
def uptoBulkAll {H : Type} : List (DataW H) → Nat
  | [] => 0
  | d :: r => uptoBulk d + uptoBulkAll r
def uptoBulkEntries {H : Type} : List (Lit × DataW H) → Nat
  | [] => 0
  | x :: r => uptoBulkEntry x + uptoBulkEntries r
def uptoBulkEntry {H : Type} : Lit × DataW H → Nat
  | (.string bytes, d) => bytes.length + uptoBulk d + 1
  | (_, d) => uptoBulk d + 1
 end
def uptoSmall : (H : Type) → List (DataW H) → Bool := fun _ ds => decide (uptoBulkAll ds ≤ 1048576)
def OpenSpec.upto (s : _root_.Go.ChangeSpec) : _root_.Go.OpenSpec := { _root_.Go.OpenSpec.ofChange s with cond := some uptoSmall }

/-- 'laws.FnBind', WHERE WHAT IT READS IS OF BULK AT MOST 1048576: true; the input reads as it did. -/
def fnBindUptoRow : OpenClaim := { program := "ytcnmlpiffcldkaagreatdoor", sum := "99cd820fc49e772cf114ff9f35baa4733aa20c9f91e6eea24488366c207d2408", func := "loop.example/g00571/laws.FnBind", spec := "fnBind", inPlace := ["internal/reflectlite.TypeOf", "slices.overlaps[loop.example/g00571/impl.Claim]", "slices.overlaps[loop.example/g00571/impl.Volume]"], unfollowed := true, recurses := true, named := ["loop.example/g00571/impl.errTooLong", "loop.example/g00571/impl.errNotRight", "loop.example/g00571/impl.errNoSuch", "loop.example/g00571/impl.errNoAct", "loop.example/g00571/impl.errSameName", "loop.example/g00571/impl.errIsBound", "loop.example/g00571/impl.errNoRoom", "loop.example/g00571/impl.errInUse", "loop.example/g00571/impl.errNotYet", "loop.example/g00571/impl.errBadState"], ifaces := true, apart := false, laid := [("loop.example/g00571/impl.errTooLong", laid_loop_example_g00571_impl_errTooLong), ("loop.example/g00571/impl.errNotRight", laid_loop_example_g00571_impl_errNotRight), ("loop.example/g00571/impl.errNoSuch", laid_loop_example_g00571_impl_errNoSuch), ("loop.example/g00571/impl.errSameName", laid_loop_example_g00571_impl_errSameName), ("loop.example/g00571/impl.errNoRoom", laid_loop_example_g00571_impl_errNoRoom), ("loop.example/g00571/impl.errInUse", laid_loop_example_g00571_impl_errInUse), ("loop.example/g00571/impl.errIsBound", laid_loop_example_g00571_impl_errIsBound), ("loop.example/g00571/impl.errNotYet", laid_loop_example_g00571_impl_errNotYet), ("loop.example/g00571/impl.errBadState", laid_loop_example_g00571_impl_errBadState), ("loop.example/g00571/impl.errNoAct", laid_loop_example_g00571_impl_errNoAct)], narrowed := true }
def FnBindUptoSaid : Prop := fnBindUptoRow.holds Tryz.pinned (OpenSpec.upto fnBindSpec)

end Rows
end Go.Proofs.YtcnmlpiffcldkaaGreatDoor

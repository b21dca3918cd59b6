/-
  NARROWER THAN 'FOR EVERY INPUT', by the rows' own cells (each row's printed sentence says how): FnExactClusterRight: ifaces, laid · FnExactAddNode: ifaces, laid · FnExactAddClass: ifaces, laid · FnExactAddVolume: ifaces, laid · FnExactAddClaim: ifaces, laid · FnExactAddPod: ifaces, laid · FnExactDropPod: ifaces, laid · FnExactDropClaim: ifaces, laid · FnExactDropVolume: ifaces, laid.
  DERIVED. THE GIVEN ROWS OF THIS SEAT. 9 by the template 'for every input the law returns true; each argument reads behind the call as it read before'; 0 by the template 'total and deterministic' (their statements: YtcljghpfclegmaaGreatDoorTotals.lean).
  GIVEN WITH THE SEED: the statements are not yours to turn. If you find one false, say at which input.
  Laid BY PROGRAM, IN A SANDBOX (cutbox-rows.mjs): the forced cells as the released guide's own fill.sh prints them over the translation ab8b7bea3694cf1d… (all of the seat's roots in one cut). By AI agents, Wed Nov 11 2026. No macro, syntax, notation, axiom, sorry.
-/
import Derived.Test.YtcljghpfclegmaaGreatDoorChecked
import GoSem.Claim
import GoSem.ClaimJoined
import GoSem.ClaimMapViews
import Derived.JoinedTies
import Derived.KernelRfl
namespace Go.Proofs.YtcljghpfclegmaaGreatDoor
/- THE CELL 'sum', in the pinned program and in every row, IS THE sha256 OF THE DUMP (.gsa) THAT YtcljghpfclegmaaGreatDoorProg.lean LOADS. Nothing in Lean hashes anything: it is a label: what it is worth is what the hold of that sum in a sandbox is worth. -/
noncomputable def Tryz.pinned : Pinned := { name := "ytcljghpfclegmaagreatdoor", sum := "ab8b7bea3694cf1da6632221e2deb7871abfceea74c13b9e34f091bc3e211c38", checked := Tryz.checked }
namespace Rows
def none {H : Type} : Left H := { results := [], args := [] }

/- WHAT THE LISTED PACKAGE-LEVEL VARIABLES READ AS WHEN THE CALL BEGINS. Each datum BY PROGRAM (the guide's laid-datum.mjs) off the statement by which the dump's own 'gosem.cut.vars' lays the variable. In a bare row this is a premise. The card (YtcljghpfclegmaaGreatDoorCards.lean) ties it to the program's text. -/
def laid_loop_example_g00571_impl_errNoSuch {H : Type} : DataW H := .iface "*errors.errorString" (.ptr (.agg [.lit (.string [116, 104, 101, 114, 101, 32, 105, 115, 32, 110, 111, 32, 115, 117, 99, 104, 32, 116, 104, 105, 110, 103])]))
def laid_loop_example_g00571_impl_errTooLong {H : Type} : DataW H := .iface "*errors.errorString" (.ptr (.agg [.lit (.string [97, 32, 116, 101, 120, 116, 32, 105, 115, 32, 116, 111, 111, 32, 108, 111, 110, 103])]))
def laid_loop_example_g00571_impl_errNotRight {H : Type} : DataW H := .iface "*errors.errorString" (.ptr (.agg [.lit (.string [105, 116, 32, 105, 115, 32, 110, 111, 116, 32, 114, 105, 103, 104, 116])]))
def laid_loop_example_g00571_impl_errSameName {H : Type} : DataW H := .iface "*errors.errorString" (.ptr (.agg [.lit (.string [116, 104, 101, 114, 101, 32, 105, 115, 32, 111, 110, 101, 32, 111, 102, 32, 116, 104, 97, 116, 32, 110, 97, 109, 101])]))
def laid_loop_example_g00571_impl_errNoRoom {H : Type} : DataW H := .iface "*errors.errorString" (.ptr (.agg [.lit (.string [116, 104, 101, 114, 101, 32, 97, 114, 101, 32, 97, 115, 32, 109, 97, 110, 121, 32, 97, 115, 32, 109, 97, 121, 32, 98, 101])]))
def laid_loop_example_g00571_impl_errInUse {H : Type} : DataW H := .iface "*errors.errorString" (.ptr (.agg [.lit (.string [105, 116, 32, 105, 115, 32, 105, 110, 32, 117, 115, 101])]))

/-- 'laws.FnExactClusterRight': WHATEVER THE INPUT: true; the input reads as it did. -/
def fnExactClusterRightSpec : ChangeSpec := { name := "fnExactClusterRight", vars := ["loop.example/g00571/impl.errNoSuch"], fn := fun _ => fun
  | [d, g1] => { results := [.lit (.bool true)], args := [d], vars := [g1] }
  | _ => none }
def fnExactClusterRightRow : OpenClaim := { program := "ytcljghpfclegmaagreatdoor", sum := "ab8b7bea3694cf1da6632221e2deb7871abfceea74c13b9e34f091bc3e211c38", func := "loop.example/g00571/laws.FnExactClusterRight", spec := "fnExactClusterRight", unfollowed := true, recurses := true, named := ["loop.example/g00571/impl.errNoSuch"], ifaces := true, plainKeys := false, apart := false, laid := [("loop.example/g00571/impl.errNoSuch", laid_loop_example_g00571_impl_errNoSuch)] }
def FnExactClusterRightSaid : Prop := fnExactClusterRightRow.holds Tryz.pinned (OpenSpec.ofChange fnExactClusterRightSpec)

/-- ITS FALSE NEIGHBOUR: 'it returns false'. Refute it at one input. -/
def fnExactClusterRightWrong : ChangeSpec := { name := "fnExactClusterRight", vars := ["loop.example/g00571/impl.errNoSuch"], fn := fun _ => fun
  | [d, g1] => { results := [.lit (.bool false)], args := [d], vars := [g1] }
  | _ => none }
def FnExactClusterRightWrongFalsely : Prop := fnExactClusterRightRow.holds Tryz.pinned (OpenSpec.ofChange fnExactClusterRightWrong)

/-- 'laws.FnExactAddNode': WHATEVER THE INPUT: true; the input reads as it did. -/
def fnExactAddNodeSpec : ChangeSpec := { name := "fnExactAddNode", vars := ["loop.example/g00571/impl.errTooLong", "loop.example/g00571/impl.errNotRight", "loop.example/g00571/impl.errNoSuch", "loop.example/g00571/impl.errSameName", "loop.example/g00571/impl.errNoRoom", "loop.example/g00571/impl.errInUse"], fn := fun _ => fun
  | [d1, d2, d3, d4, d5, g1, g2, g3, g4, g5, g6] => { results := [.lit (.bool true)], args := [d1, d2, d3, d4, d5], vars := [g1, g2, g3, g4, g5, g6] }
  | _ => none }
def fnExactAddNodeRow : OpenClaim := { program := "ytcljghpfclegmaagreatdoor", sum := "ab8b7bea3694cf1da6632221e2deb7871abfceea74c13b9e34f091bc3e211c38", func := "loop.example/g00571/laws.FnExactAddNode", spec := "fnExactAddNode", inPlace := ["internal/reflectlite.TypeOf", "slices.overlaps[loop.example/g00571/impl.Node]"], unfollowed := true, recurses := true, named := ["loop.example/g00571/impl.errTooLong", "loop.example/g00571/impl.errNotRight", "loop.example/g00571/impl.errNoSuch", "loop.example/g00571/impl.errSameName", "loop.example/g00571/impl.errNoRoom", "loop.example/g00571/impl.errInUse"], ifaces := true, plainKeys := false, apart := false, laid := [("loop.example/g00571/impl.errTooLong", laid_loop_example_g00571_impl_errTooLong), ("loop.example/g00571/impl.errNotRight", laid_loop_example_g00571_impl_errNotRight), ("loop.example/g00571/impl.errNoSuch", laid_loop_example_g00571_impl_errNoSuch), ("loop.example/g00571/impl.errSameName", laid_loop_example_g00571_impl_errSameName), ("loop.example/g00571/impl.errNoRoom", laid_loop_example_g00571_impl_errNoRoom), ("loop.example/g00571/impl.errInUse", laid_loop_example_g00571_impl_errInUse)] }
def FnExactAddNodeSaid : Prop := fnExactAddNodeRow.holds Tryz.pinned (OpenSpec.ofChange fnExactAddNodeSpec)

/-- ITS FALSE NEIGHBOUR: 'it returns false'. Refute it at one input. -/
def fnExactAddNodeWrong : ChangeSpec := { name := "fnExactAddNode", vars := ["loop.example/g00571/impl.errTooLong", "loop.example/g00571/impl.errNotRight", "loop.example/g00571/impl.errNoSuch", "loop.example/g00571/impl.errSameName", "loop.example/g00571/impl.errNoRoom", "loop.example/g00571/impl.errInUse"], fn := fun _ => fun
  | [d1, d2, d3, d4, d5, g1, g2, g3, g4, g5, g6] => { results := [.lit (.bool false)], args := [d1, d2, d3, d4, d5], vars := [g1, g2, g3, g4, g5, g6] }
  | _ => none }
def FnExactAddNodeWrongFalsely : Prop := fnExactAddNodeRow.holds Tryz.pinned (OpenSpec.ofChange fnExactAddNodeWrong)

/-- 'laws.FnExactAddClass': WHATEVER THE INPUT: true; the input reads as it did. -/
def fnExactAddClassSpec : ChangeSpec := { name := "fnExactAddClass", vars := ["loop.example/g00571/impl.errNotRight", "loop.example/g00571/impl.errNoSuch", "loop.example/g00571/impl.errTooLong", "loop.example/g00571/impl.errSameName", "loop.example/g00571/impl.errNoRoom", "loop.example/g00571/impl.errInUse"], fn := fun _ => fun
  | [d1, d2, g1, g2, g3, g4, g5, g6] => { results := [.lit (.bool true)], args := [d1, d2], vars := [g1, g2, g3, g4, g5, g6] }
  | _ => none }
def fnExactAddClassRow : OpenClaim := { program := "ytcljghpfclegmaagreatdoor", sum := "ab8b7bea3694cf1da6632221e2deb7871abfceea74c13b9e34f091bc3e211c38", func := "loop.example/g00571/laws.FnExactAddClass", spec := "fnExactAddClass", inPlace := ["internal/reflectlite.TypeOf", "slices.overlaps[loop.example/g00571/impl.Class]"], unfollowed := true, recurses := true, named := ["loop.example/g00571/impl.errNotRight", "loop.example/g00571/impl.errNoSuch", "loop.example/g00571/impl.errTooLong", "loop.example/g00571/impl.errSameName", "loop.example/g00571/impl.errNoRoom", "loop.example/g00571/impl.errInUse"], ifaces := true, plainKeys := false, apart := false, laid := [("loop.example/g00571/impl.errTooLong", laid_loop_example_g00571_impl_errTooLong), ("loop.example/g00571/impl.errNotRight", laid_loop_example_g00571_impl_errNotRight), ("loop.example/g00571/impl.errNoSuch", laid_loop_example_g00571_impl_errNoSuch), ("loop.example/g00571/impl.errSameName", laid_loop_example_g00571_impl_errSameName), ("loop.example/g00571/impl.errNoRoom", laid_loop_example_g00571_impl_errNoRoom), ("loop.example/g00571/impl.errInUse", laid_loop_example_g00571_impl_errInUse)] }
def FnExactAddClassSaid : Prop := fnExactAddClassRow.holds Tryz.pinned (OpenSpec.ofChange fnExactAddClassSpec)

/-- ITS FALSE NEIGHBOUR: 'it returns false'. Refute it at one input. -/
def fnExactAddClassWrong : ChangeSpec := { name := "fnExactAddClass", vars := ["loop.example/g00571/impl.errNotRight", "loop.example/g00571/impl.errNoSuch", "loop.example/g00571/impl.errTooLong", "loop.example/g00571/impl.errSameName", "loop.example/g00571/impl.errNoRoom", "loop.example/g00571/impl.errInUse"], fn := fun _ => fun
  | [d1, d2, g1, g2, g3, g4, g5, g6] => { results := [.lit (.bool false)], args := [d1, d2], vars := [g1, g2, g3, g4, g5, g6] }
  | _ => none }
def FnExactAddClassWrongFalsely : Prop := fnExactAddClassRow.holds Tryz.pinned (OpenSpec.ofChange fnExactAddClassWrong)

/-- 'laws.FnExactAddVolume': WHATEVER THE INPUT: true; the input reads as it did. -/
def fnExactAddVolumeSpec : ChangeSpec := { name := "fnExactAddVolume", vars := ["loop.example/g00571/impl.errNotRight", "loop.example/g00571/impl.errNoSuch", "loop.example/g00571/impl.errTooLong", "loop.example/g00571/impl.errSameName", "loop.example/g00571/impl.errNoRoom", "loop.example/g00571/impl.errInUse"], fn := fun _ => fun
  | [d1, d2, g1, g2, g3, g4, g5, g6] => { results := [.lit (.bool true)], args := [d1, d2], vars := [g1, g2, g3, g4, g5, g6] }
  | _ => none }
def fnExactAddVolumeRow : OpenClaim := { program := "ytcljghpfclegmaagreatdoor", sum := "ab8b7bea3694cf1da6632221e2deb7871abfceea74c13b9e34f091bc3e211c38", func := "loop.example/g00571/laws.FnExactAddVolume", spec := "fnExactAddVolume", inPlace := ["internal/reflectlite.TypeOf", "slices.overlaps[loop.example/g00571/impl.Volume]"], unfollowed := true, recurses := true, named := ["loop.example/g00571/impl.errNotRight", "loop.example/g00571/impl.errNoSuch", "loop.example/g00571/impl.errTooLong", "loop.example/g00571/impl.errSameName", "loop.example/g00571/impl.errNoRoom", "loop.example/g00571/impl.errInUse"], ifaces := true, plainKeys := false, apart := false, laid := [("loop.example/g00571/impl.errTooLong", laid_loop_example_g00571_impl_errTooLong), ("loop.example/g00571/impl.errNotRight", laid_loop_example_g00571_impl_errNotRight), ("loop.example/g00571/impl.errNoSuch", laid_loop_example_g00571_impl_errNoSuch), ("loop.example/g00571/impl.errSameName", laid_loop_example_g00571_impl_errSameName), ("loop.example/g00571/impl.errNoRoom", laid_loop_example_g00571_impl_errNoRoom), ("loop.example/g00571/impl.errInUse", laid_loop_example_g00571_impl_errInUse)] }
def FnExactAddVolumeSaid : Prop := fnExactAddVolumeRow.holds Tryz.pinned (OpenSpec.ofChange fnExactAddVolumeSpec)

/-- ITS FALSE NEIGHBOUR: 'it returns false'. Refute it at one input. -/
def fnExactAddVolumeWrong : ChangeSpec := { name := "fnExactAddVolume", vars := ["loop.example/g00571/impl.errNotRight", "loop.example/g00571/impl.errNoSuch", "loop.example/g00571/impl.errTooLong", "loop.example/g00571/impl.errSameName", "loop.example/g00571/impl.errNoRoom", "loop.example/g00571/impl.errInUse"], fn := fun _ => fun
  | [d1, d2, g1, g2, g3, g4, g5, g6] => { results := [.lit (.bool false)], args := [d1, d2], vars := [g1, g2, g3, g4, g5, g6] }
  | _ => none }
def FnExactAddVolumeWrongFalsely : Prop := fnExactAddVolumeRow.holds Tryz.pinned (OpenSpec.ofChange fnExactAddVolumeWrong)

/-- 'laws.FnExactAddClaim': WHATEVER THE INPUT: true; the input reads as it did. -/
def fnExactAddClaimSpec : ChangeSpec := { name := "fnExactAddClaim", vars := ["loop.example/g00571/impl.errNotRight", "loop.example/g00571/impl.errNoSuch", "loop.example/g00571/impl.errTooLong", "loop.example/g00571/impl.errSameName", "loop.example/g00571/impl.errNoRoom", "loop.example/g00571/impl.errInUse"], fn := fun _ => fun
  | [d1, d2, g1, g2, g3, g4, g5, g6] => { results := [.lit (.bool true)], args := [d1, d2], vars := [g1, g2, g3, g4, g5, g6] }
  | _ => none }
def fnExactAddClaimRow : OpenClaim := { program := "ytcljghpfclegmaagreatdoor", sum := "ab8b7bea3694cf1da6632221e2deb7871abfceea74c13b9e34f091bc3e211c38", func := "loop.example/g00571/laws.FnExactAddClaim", spec := "fnExactAddClaim", inPlace := ["internal/reflectlite.TypeOf", "slices.overlaps[loop.example/g00571/impl.Claim]"], unfollowed := true, recurses := true, named := ["loop.example/g00571/impl.errNotRight", "loop.example/g00571/impl.errNoSuch", "loop.example/g00571/impl.errTooLong", "loop.example/g00571/impl.errSameName", "loop.example/g00571/impl.errNoRoom", "loop.example/g00571/impl.errInUse"], ifaces := true, plainKeys := false, apart := false, laid := [("loop.example/g00571/impl.errTooLong", laid_loop_example_g00571_impl_errTooLong), ("loop.example/g00571/impl.errNotRight", laid_loop_example_g00571_impl_errNotRight), ("loop.example/g00571/impl.errNoSuch", laid_loop_example_g00571_impl_errNoSuch), ("loop.example/g00571/impl.errSameName", laid_loop_example_g00571_impl_errSameName), ("loop.example/g00571/impl.errNoRoom", laid_loop_example_g00571_impl_errNoRoom), ("loop.example/g00571/impl.errInUse", laid_loop_example_g00571_impl_errInUse)] }
def FnExactAddClaimSaid : Prop := fnExactAddClaimRow.holds Tryz.pinned (OpenSpec.ofChange fnExactAddClaimSpec)

/-- ITS FALSE NEIGHBOUR: 'it returns false'. Refute it at one input. -/
def fnExactAddClaimWrong : ChangeSpec := { name := "fnExactAddClaim", vars := ["loop.example/g00571/impl.errNotRight", "loop.example/g00571/impl.errNoSuch", "loop.example/g00571/impl.errTooLong", "loop.example/g00571/impl.errSameName", "loop.example/g00571/impl.errNoRoom", "loop.example/g00571/impl.errInUse"], fn := fun _ => fun
  | [d1, d2, g1, g2, g3, g4, g5, g6] => { results := [.lit (.bool false)], args := [d1, d2], vars := [g1, g2, g3, g4, g5, g6] }
  | _ => none }
def FnExactAddClaimWrongFalsely : Prop := fnExactAddClaimRow.holds Tryz.pinned (OpenSpec.ofChange fnExactAddClaimWrong)

/-- 'laws.FnExactAddPod': WHATEVER THE INPUT: true; the input reads as it did. -/
def fnExactAddPodSpec : ChangeSpec := { name := "fnExactAddPod", vars := ["loop.example/g00571/impl.errNotRight", "loop.example/g00571/impl.errNoSuch", "loop.example/g00571/impl.errTooLong", "loop.example/g00571/impl.errSameName", "loop.example/g00571/impl.errNoRoom", "loop.example/g00571/impl.errInUse"], fn := fun _ => fun
  | [d1, d2, g1, g2, g3, g4, g5, g6] => { results := [.lit (.bool true)], args := [d1, d2], vars := [g1, g2, g3, g4, g5, g6] }
  | _ => none }
def fnExactAddPodRow : OpenClaim := { program := "ytcljghpfclegmaagreatdoor", sum := "ab8b7bea3694cf1da6632221e2deb7871abfceea74c13b9e34f091bc3e211c38", func := "loop.example/g00571/laws.FnExactAddPod", spec := "fnExactAddPod", inPlace := ["internal/reflectlite.TypeOf", "slices.overlaps[loop.example/g00571/impl.Pod]"], unfollowed := true, recurses := true, named := ["loop.example/g00571/impl.errNotRight", "loop.example/g00571/impl.errNoSuch", "loop.example/g00571/impl.errTooLong", "loop.example/g00571/impl.errSameName", "loop.example/g00571/impl.errNoRoom", "loop.example/g00571/impl.errInUse"], ifaces := true, plainKeys := false, apart := false, laid := [("loop.example/g00571/impl.errTooLong", laid_loop_example_g00571_impl_errTooLong), ("loop.example/g00571/impl.errNotRight", laid_loop_example_g00571_impl_errNotRight), ("loop.example/g00571/impl.errNoSuch", laid_loop_example_g00571_impl_errNoSuch), ("loop.example/g00571/impl.errSameName", laid_loop_example_g00571_impl_errSameName), ("loop.example/g00571/impl.errNoRoom", laid_loop_example_g00571_impl_errNoRoom), ("loop.example/g00571/impl.errInUse", laid_loop_example_g00571_impl_errInUse)] }
def FnExactAddPodSaid : Prop := fnExactAddPodRow.holds Tryz.pinned (OpenSpec.ofChange fnExactAddPodSpec)

/-- ITS FALSE NEIGHBOUR: 'it returns false'. Refute it at one input. -/
def fnExactAddPodWrong : ChangeSpec := { name := "fnExactAddPod", vars := ["loop.example/g00571/impl.errNotRight", "loop.example/g00571/impl.errNoSuch", "loop.example/g00571/impl.errTooLong", "loop.example/g00571/impl.errSameName", "loop.example/g00571/impl.errNoRoom", "loop.example/g00571/impl.errInUse"], fn := fun _ => fun
  | [d1, d2, g1, g2, g3, g4, g5, g6] => { results := [.lit (.bool false)], args := [d1, d2], vars := [g1, g2, g3, g4, g5, g6] }
  | _ => none }
def FnExactAddPodWrongFalsely : Prop := fnExactAddPodRow.holds Tryz.pinned (OpenSpec.ofChange fnExactAddPodWrong)

/-- 'laws.FnExactDropPod': WHATEVER THE INPUT: true; the input reads as it did. -/
def fnExactDropPodSpec : ChangeSpec := { name := "fnExactDropPod", vars := ["loop.example/g00571/impl.errTooLong", "loop.example/g00571/impl.errNotRight", "loop.example/g00571/impl.errNoSuch", "loop.example/g00571/impl.errSameName", "loop.example/g00571/impl.errNoRoom", "loop.example/g00571/impl.errInUse"], fn := fun _ => fun
  | [d1, d2, g1, g2, g3, g4, g5, g6] => { results := [.lit (.bool true)], args := [d1, d2], vars := [g1, g2, g3, g4, g5, g6] }
  | _ => none }
def fnExactDropPodRow : OpenClaim := { program := "ytcljghpfclegmaagreatdoor", sum := "ab8b7bea3694cf1da6632221e2deb7871abfceea74c13b9e34f091bc3e211c38", func := "loop.example/g00571/laws.FnExactDropPod", spec := "fnExactDropPod", inPlace := ["internal/reflectlite.TypeOf"], unfollowed := true, recurses := true, named := ["loop.example/g00571/impl.errTooLong", "loop.example/g00571/impl.errNotRight", "loop.example/g00571/impl.errNoSuch", "loop.example/g00571/impl.errSameName", "loop.example/g00571/impl.errNoRoom", "loop.example/g00571/impl.errInUse"], ifaces := true, plainKeys := false, apart := false, laid := [("loop.example/g00571/impl.errTooLong", laid_loop_example_g00571_impl_errTooLong), ("loop.example/g00571/impl.errNotRight", laid_loop_example_g00571_impl_errNotRight), ("loop.example/g00571/impl.errNoSuch", laid_loop_example_g00571_impl_errNoSuch), ("loop.example/g00571/impl.errSameName", laid_loop_example_g00571_impl_errSameName), ("loop.example/g00571/impl.errNoRoom", laid_loop_example_g00571_impl_errNoRoom), ("loop.example/g00571/impl.errInUse", laid_loop_example_g00571_impl_errInUse)] }
def FnExactDropPodSaid : Prop := fnExactDropPodRow.holds Tryz.pinned (OpenSpec.ofChange fnExactDropPodSpec)

/-- ITS FALSE NEIGHBOUR: 'it returns false'. Refute it at one input. -/
def fnExactDropPodWrong : ChangeSpec := { name := "fnExactDropPod", vars := ["loop.example/g00571/impl.errTooLong", "loop.example/g00571/impl.errNotRight", "loop.example/g00571/impl.errNoSuch", "loop.example/g00571/impl.errSameName", "loop.example/g00571/impl.errNoRoom", "loop.example/g00571/impl.errInUse"], fn := fun _ => fun
  | [d1, d2, g1, g2, g3, g4, g5, g6] => { results := [.lit (.bool false)], args := [d1, d2], vars := [g1, g2, g3, g4, g5, g6] }
  | _ => none }
def FnExactDropPodWrongFalsely : Prop := fnExactDropPodRow.holds Tryz.pinned (OpenSpec.ofChange fnExactDropPodWrong)

/-- 'laws.FnExactDropClaim': WHATEVER THE INPUT: true; the input reads as it did. -/
def fnExactDropClaimSpec : ChangeSpec := { name := "fnExactDropClaim", vars := ["loop.example/g00571/impl.errTooLong", "loop.example/g00571/impl.errNotRight", "loop.example/g00571/impl.errNoSuch", "loop.example/g00571/impl.errInUse", "loop.example/g00571/impl.errSameName", "loop.example/g00571/impl.errNoRoom"], fn := fun _ => fun
  | [d1, d2, g1, g2, g3, g4, g5, g6] => { results := [.lit (.bool true)], args := [d1, d2], vars := [g1, g2, g3, g4, g5, g6] }
  | _ => none }
def fnExactDropClaimRow : OpenClaim := { program := "ytcljghpfclegmaagreatdoor", sum := "ab8b7bea3694cf1da6632221e2deb7871abfceea74c13b9e34f091bc3e211c38", func := "loop.example/g00571/laws.FnExactDropClaim", spec := "fnExactDropClaim", inPlace := ["internal/reflectlite.TypeOf", "slices.overlaps[loop.example/g00571/impl.Volume]"], unfollowed := true, recurses := true, named := ["loop.example/g00571/impl.errTooLong", "loop.example/g00571/impl.errNotRight", "loop.example/g00571/impl.errNoSuch", "loop.example/g00571/impl.errInUse", "loop.example/g00571/impl.errSameName", "loop.example/g00571/impl.errNoRoom"], ifaces := true, plainKeys := false, apart := false, laid := [("loop.example/g00571/impl.errTooLong", laid_loop_example_g00571_impl_errTooLong), ("loop.example/g00571/impl.errNotRight", laid_loop_example_g00571_impl_errNotRight), ("loop.example/g00571/impl.errNoSuch", laid_loop_example_g00571_impl_errNoSuch), ("loop.example/g00571/impl.errSameName", laid_loop_example_g00571_impl_errSameName), ("loop.example/g00571/impl.errNoRoom", laid_loop_example_g00571_impl_errNoRoom), ("loop.example/g00571/impl.errInUse", laid_loop_example_g00571_impl_errInUse)] }
def FnExactDropClaimSaid : Prop := fnExactDropClaimRow.holds Tryz.pinned (OpenSpec.ofChange fnExactDropClaimSpec)

/-- ITS FALSE NEIGHBOUR: 'it returns false'. Refute it at one input. -/
def fnExactDropClaimWrong : ChangeSpec := { name := "fnExactDropClaim", vars := ["loop.example/g00571/impl.errTooLong", "loop.example/g00571/impl.errNotRight", "loop.example/g00571/impl.errNoSuch", "loop.example/g00571/impl.errInUse", "loop.example/g00571/impl.errSameName", "loop.example/g00571/impl.errNoRoom"], fn := fun _ => fun
  | [d1, d2, g1, g2, g3, g4, g5, g6] => { results := [.lit (.bool false)], args := [d1, d2], vars := [g1, g2, g3, g4, g5, g6] }
  | _ => none }
def FnExactDropClaimWrongFalsely : Prop := fnExactDropClaimRow.holds Tryz.pinned (OpenSpec.ofChange fnExactDropClaimWrong)

/-- 'laws.FnExactDropVolume': WHATEVER THE INPUT: true; the input reads as it did. -/
def fnExactDropVolumeSpec : ChangeSpec := { name := "fnExactDropVolume", vars := ["loop.example/g00571/impl.errTooLong", "loop.example/g00571/impl.errNotRight", "loop.example/g00571/impl.errNoSuch", "loop.example/g00571/impl.errInUse", "loop.example/g00571/impl.errSameName", "loop.example/g00571/impl.errNoRoom"], fn := fun _ => fun
  | [d1, d2, g1, g2, g3, g4, g5, g6] => { results := [.lit (.bool true)], args := [d1, d2], vars := [g1, g2, g3, g4, g5, g6] }
  | _ => none }
def fnExactDropVolumeRow : OpenClaim := { program := "ytcljghpfclegmaagreatdoor", sum := "ab8b7bea3694cf1da6632221e2deb7871abfceea74c13b9e34f091bc3e211c38", func := "loop.example/g00571/laws.FnExactDropVolume", spec := "fnExactDropVolume", inPlace := ["internal/reflectlite.TypeOf"], unfollowed := true, recurses := true, named := ["loop.example/g00571/impl.errTooLong", "loop.example/g00571/impl.errNotRight", "loop.example/g00571/impl.errNoSuch", "loop.example/g00571/impl.errInUse", "loop.example/g00571/impl.errSameName", "loop.example/g00571/impl.errNoRoom"], ifaces := true, plainKeys := false, apart := false, laid := [("loop.example/g00571/impl.errTooLong", laid_loop_example_g00571_impl_errTooLong), ("loop.example/g00571/impl.errNotRight", laid_loop_example_g00571_impl_errNotRight), ("loop.example/g00571/impl.errNoSuch", laid_loop_example_g00571_impl_errNoSuch), ("loop.example/g00571/impl.errSameName", laid_loop_example_g00571_impl_errSameName), ("loop.example/g00571/impl.errNoRoom", laid_loop_example_g00571_impl_errNoRoom), ("loop.example/g00571/impl.errInUse", laid_loop_example_g00571_impl_errInUse)] }
def FnExactDropVolumeSaid : Prop := fnExactDropVolumeRow.holds Tryz.pinned (OpenSpec.ofChange fnExactDropVolumeSpec)

/-- ITS FALSE NEIGHBOUR: 'it returns false'. Refute it at one input. -/
def fnExactDropVolumeWrong : ChangeSpec := { name := "fnExactDropVolume", vars := ["loop.example/g00571/impl.errTooLong", "loop.example/g00571/impl.errNotRight", "loop.example/g00571/impl.errNoSuch", "loop.example/g00571/impl.errInUse", "loop.example/g00571/impl.errSameName", "loop.example/g00571/impl.errNoRoom"], fn := fun _ => fun
  | [d1, d2, g1, g2, g3, g4, g5, g6] => { results := [.lit (.bool false)], args := [d1, d2], vars := [g1, g2, g3, g4, g5, g6] }
  | _ => none }
def FnExactDropVolumeWrongFalsely : Prop := fnExactDropVolumeRow.holds Tryz.pinned (OpenSpec.ofChange fnExactDropVolumeWrong)

/- THE SECOND FORM. 'bulk': how many values and letters a reading holds, each counted each time it is reached (what is shared counts as often as it is met; a slice's spare places count too). A statement '..UptoSaid' is the law's where the arguments, and the package variables that the reading takes, are together of bulk at most 1048576: NARROWER than '..Said'. Prove '..Said' where nothing that the law and all that it calls make is longer than what came in: it says more and counts as full. Else prove '..UptoSaid'. A law counts once. -/
mutual
def uptoBulk {H : Type} : DataW H → Nat
  | .lit (.string bytes) => bytes.length + 1
  | .lit _ => 1
  | .nil => 1
  | .ptr d => uptoBulk d + 1
  | .slice elems spare => uptoBulkAll elems + uptoBulkAll spare + 1
  | .agg parts => uptoBulkAll parts + 1
  | .iface _ d => uptoBulk d + 1
  | .map entries => uptoBulkEntries entries + 1
  | .held _ => 1
def uptoBulkAll {H : Type} : List (DataW H) → Nat
  | [] => 0
  | d :: r => uptoBulk d + uptoBulkAll r
def uptoBulkEntries {H : Type} : List (Lit × DataW H) → Nat
  | [] => 0
  | x :: r => uptoBulkEntry x + uptoBulkEntries r
def uptoBulkEntry {H : Type} : Lit × DataW H → Nat
  | (.string bytes, d) => bytes.length + uptoBulk d + 1
  | (_, d) => uptoBulk d + 1
 end
def uptoSmall : (H : Type) → List (DataW H) → Bool := fun _ ds => decide (uptoBulkAll ds ≤ 1048576)
def OpenSpec.upto (s : _root_.Go.ChangeSpec) : _root_.Go.OpenSpec := { _root_.Go.OpenSpec.ofChange s with cond := some uptoSmall }

/-- 'laws.FnExactClusterRight', WHERE WHAT IT READS IS OF BULK AT MOST 1048576: true; the input reads as it did. -/
def fnExactClusterRightUptoRow : OpenClaim := { program := "ytcljghpfclegmaagreatdoor", sum := "ab8b7bea3694cf1da6632221e2deb7871abfceea74c13b9e34f091bc3e211c38", func := "loop.example/g00571/laws.FnExactClusterRight", spec := "fnExactClusterRight", unfollowed := true, recurses := true, named := ["loop.example/g00571/impl.errNoSuch"], ifaces := true, plainKeys := false, apart := false, laid := [("loop.example/g00571/impl.errNoSuch", laid_loop_example_g00571_impl_errNoSuch)], narrowed := true }
def FnExactClusterRightUptoSaid : Prop := fnExactClusterRightUptoRow.holds Tryz.pinned (OpenSpec.upto fnExactClusterRightSpec)

/-- 'laws.FnExactAddNode', WHERE WHAT IT READS IS OF BULK AT MOST 1048576: true; the input reads as it did. -/
def fnExactAddNodeUptoRow : OpenClaim := { program := "ytcljghpfclegmaagreatdoor", sum := "ab8b7bea3694cf1da6632221e2deb7871abfceea74c13b9e34f091bc3e211c38", func := "loop.example/g00571/laws.FnExactAddNode", spec := "fnExactAddNode", inPlace := ["internal/reflectlite.TypeOf", "slices.overlaps[loop.example/g00571/impl.Node]"], unfollowed := true, recurses := true, named := ["loop.example/g00571/impl.errTooLong", "loop.example/g00571/impl.errNotRight", "loop.example/g00571/impl.errNoSuch", "loop.example/g00571/impl.errSameName", "loop.example/g00571/impl.errNoRoom", "loop.example/g00571/impl.errInUse"], ifaces := true, plainKeys := false, apart := false, laid := [("loop.example/g00571/impl.errTooLong", laid_loop_example_g00571_impl_errTooLong), ("loop.example/g00571/impl.errNotRight", laid_loop_example_g00571_impl_errNotRight), ("loop.example/g00571/impl.errNoSuch", laid_loop_example_g00571_impl_errNoSuch), ("loop.example/g00571/impl.errSameName", laid_loop_example_g00571_impl_errSameName), ("loop.example/g00571/impl.errNoRoom", laid_loop_example_g00571_impl_errNoRoom), ("loop.example/g00571/impl.errInUse", laid_loop_example_g00571_impl_errInUse)], narrowed := true }
def FnExactAddNodeUptoSaid : Prop := fnExactAddNodeUptoRow.holds Tryz.pinned (OpenSpec.upto fnExactAddNodeSpec)

/-- 'laws.FnExactAddClass', WHERE WHAT IT READS IS OF BULK AT MOST 1048576: true; the input reads as it did. -/
def fnExactAddClassUptoRow : OpenClaim := { program := "ytcljghpfclegmaagreatdoor", sum := "ab8b7bea3694cf1da6632221e2deb7871abfceea74c13b9e34f091bc3e211c38", func := "loop.example/g00571/laws.FnExactAddClass", spec := "fnExactAddClass", inPlace := ["internal/reflectlite.TypeOf", "slices.overlaps[loop.example/g00571/impl.Class]"], unfollowed := true, recurses := true, named := ["loop.example/g00571/impl.errNotRight", "loop.example/g00571/impl.errNoSuch", "loop.example/g00571/impl.errTooLong", "loop.example/g00571/impl.errSameName", "loop.example/g00571/impl.errNoRoom", "loop.example/g00571/impl.errInUse"], ifaces := true, plainKeys := false, apart := false, laid := [("loop.example/g00571/impl.errTooLong", laid_loop_example_g00571_impl_errTooLong), ("loop.example/g00571/impl.errNotRight", laid_loop_example_g00571_impl_errNotRight), ("loop.example/g00571/impl.errNoSuch", laid_loop_example_g00571_impl_errNoSuch), ("loop.example/g00571/impl.errSameName", laid_loop_example_g00571_impl_errSameName), ("loop.example/g00571/impl.errNoRoom", laid_loop_example_g00571_impl_errNoRoom), ("loop.example/g00571/impl.errInUse", laid_loop_example_g00571_impl_errInUse)], narrowed := true }
def FnExactAddClassUptoSaid : Prop := fnExactAddClassUptoRow.holds Tryz.pinned (OpenSpec.upto fnExactAddClassSpec)

/-- 'laws.FnExactAddVolume', WHERE WHAT IT READS IS OF BULK AT MOST 1048576: true; the input reads as it did. -/
def fnExactAddVolumeUptoRow : OpenClaim := { program := "ytcljghpfclegmaagreatdoor", sum := "ab8b7bea3694cf1da6632221e2deb7871abfceea74c13b9e34f091bc3e211c38", func := "loop.example/g00571/laws.FnExactAddVolume", spec := "fnExactAddVolume", inPlace := ["internal/reflectlite.TypeOf", "slices.overlaps[loop.example/g00571/impl.Volume]"], unfollowed := true, recurses := true, named := ["loop.example/g00571/impl.errNotRight", "loop.example/g00571/impl.errNoSuch", "loop.example/g00571/impl.errTooLong", "loop.example/g00571/impl.errSameName", "loop.example/g00571/impl.errNoRoom", "loop.example/g00571/impl.errInUse"], ifaces := true, plainKeys := false, apart := false, laid := [("loop.example/g00571/impl.errTooLong", laid_loop_example_g00571_impl_errTooLong), ("loop.example/g00571/impl.errNotRight", laid_loop_example_g00571_impl_errNotRight), ("loop.example/g00571/impl.errNoSuch", laid_loop_example_g00571_impl_errNoSuch), ("loop.example/g00571/impl.errSameName", laid_loop_example_g00571_impl_errSameName), ("loop.example/g00571/impl.errNoRoom", laid_loop_example_g00571_impl_errNoRoom), ("loop.example/g00571/impl.errInUse", laid_loop_example_g00571_impl_errInUse)], narrowed := true }
def FnExactAddVolumeUptoSaid : Prop := fnExactAddVolumeUptoRow.holds Tryz.pinned (OpenSpec.upto fnExactAddVolumeSpec)

/-- 'laws.FnExactAddClaim', WHERE WHAT IT READS IS OF BULK AT MOST 1048576: true; the input reads as it did. -/
def fnExactAddClaimUptoRow : OpenClaim := { program := "ytcljghpfclegmaagreatdoor", sum := "ab8b7bea3694cf1da6632221e2deb7871abfceea74c13b9e34f091bc3e211c38", func := "loop.example/g00571/laws.FnExactAddClaim", spec := "fnExactAddClaim", inPlace := ["internal/reflectlite.TypeOf", "slices.overlaps[loop.example/g00571/impl.Claim]"], unfollowed := true, recurses := true, named := ["loop.example/g00571/impl.errNotRight", "loop.example/g00571/impl.errNoSuch", "loop.example/g00571/impl.errTooLong", "loop.example/g00571/impl.errSameName", "loop.example/g00571/impl.errNoRoom", "loop.example/g00571/impl.errInUse"], ifaces := true, plainKeys := false, apart := false, laid := [("loop.example/g00571/impl.errTooLong", laid_loop_example_g00571_impl_errTooLong), ("loop.example/g00571/impl.errNotRight", laid_loop_example_g00571_impl_errNotRight), ("loop.example/g00571/impl.errNoSuch", laid_loop_example_g00571_impl_errNoSuch), ("loop.example/g00571/impl.errSameName", laid_loop_example_g00571_impl_errSameName), ("loop.example/g00571/impl.errNoRoom", laid_loop_example_g00571_impl_errNoRoom), ("loop.example/g00571/impl.errInUse", laid_loop_example_g00571_impl_errInUse)], narrowed := true }
def FnExactAddClaimUptoSaid : Prop := fnExactAddClaimUptoRow.holds Tryz.pinned (OpenSpec.upto fnExactAddClaimSpec)

/-- 'laws.FnExactAddPod', WHERE WHAT IT READS IS OF BULK AT MOST 1048576: true; the input reads as it did. -/
def fnExactAddPodUptoRow : OpenClaim := { program := "ytcljghpfclegmaagreatdoor", sum := "ab8b7bea3694cf1da6632221e2deb7871abfceea74c13b9e34f091bc3e211c38", func := "loop.example/g00571/laws.FnExactAddPod", spec := "fnExactAddPod", inPlace := ["internal/reflectlite.TypeOf", "slices.overlaps[loop.example/g00571/impl.Pod]"], unfollowed := true, recurses := true, named := ["loop.example/g00571/impl.errNotRight", "loop.example/g00571/impl.errNoSuch", "loop.example/g00571/impl.errTooLong", "loop.example/g00571/impl.errSameName", "loop.example/g00571/impl.errNoRoom", "loop.example/g00571/impl.errInUse"], ifaces := true, plainKeys := false, apart := false, laid := [("loop.example/g00571/impl.errTooLong", laid_loop_example_g00571_impl_errTooLong), ("loop.example/g00571/impl.errNotRight", laid_loop_example_g00571_impl_errNotRight), ("loop.example/g00571/impl.errNoSuch", laid_loop_example_g00571_impl_errNoSuch), ("loop.example/g00571/impl.errSameName", laid_loop_example_g00571_impl_errSameName), ("loop.example/g00571/impl.errNoRoom", laid_loop_example_g00571_impl_errNoRoom), ("loop.example/g00571/impl.errInUse", laid_loop_example_g00571_impl_errInUse)], narrowed := true }
def FnExactAddPodUptoSaid : Prop := fnExactAddPodUptoRow.holds Tryz.pinned (OpenSpec.upto fnExactAddPodSpec)

/-- 'laws.FnExactDropPod', WHERE WHAT IT READS IS OF BULK AT MOST 1048576: true; the input reads as it did. -/
def fnExactDropPodUptoRow : OpenClaim := { program := "ytcljghpfclegmaagreatdoor", sum := "ab8b7bea3694cf1da6632221e2deb7871abfceea74c13b9e34f091bc3e211c38", func := "loop.example/g00571/laws.FnExactDropPod", spec := "fnExactDropPod", inPlace := ["internal/reflectlite.TypeOf"], unfollowed := true, recurses := true, named := ["loop.example/g00571/impl.errTooLong", "loop.example/g00571/impl.errNotRight", "loop.example/g00571/impl.errNoSuch", "loop.example/g00571/impl.errSameName", "loop.example/g00571/impl.errNoRoom", "loop.example/g00571/impl.errInUse"], ifaces := true, plainKeys := false, apart := false, laid := [("loop.example/g00571/impl.errTooLong", laid_loop_example_g00571_impl_errTooLong), ("loop.example/g00571/impl.errNotRight", laid_loop_example_g00571_impl_errNotRight), ("loop.example/g00571/impl.errNoSuch", laid_loop_example_g00571_impl_errNoSuch), ("loop.example/g00571/impl.errSameName", laid_loop_example_g00571_impl_errSameName), ("loop.example/g00571/impl.errNoRoom", laid_loop_example_g00571_impl_errNoRoom), ("loop.example/g00571/impl.errInUse", laid_loop_example_g00571_impl_errInUse)], narrowed := true }
def FnExactDropPodUptoSaid : Prop := fnExactDropPodUptoRow.holds Tryz.pinned (OpenSpec.upto fnExactDropPodSpec)

/-- 'laws.FnExactDropClaim', WHERE WHAT IT READS IS OF BULK AT MOST 1048576: true; the input reads as it did. -/
def fnExactDropClaimUptoRow : OpenClaim := { program := "ytcljghpfclegmaagreatdoor", sum := "ab8b7bea3694cf1da6632221e2deb7871abfceea74c13b9e34f091bc3e211c38", func := "loop.example/g00571/laws.FnExactDropClaim", spec := "fnExactDropClaim", inPlace := ["internal/reflectlite.TypeOf", "slices.overlaps[loop.example/g00571/impl.Volume]"], unfollowed := true, recurses := true, named := ["loop.example/g00571/impl.errTooLong", "loop.example/g00571/impl.errNotRight", "loop.example/g00571/impl.errNoSuch", "loop.example/g00571/impl.errInUse", "loop.example/g00571/impl.errSameName", "loop.example/g00571/impl.errNoRoom"], ifaces := true, plainKeys := false, apart := false, laid := [("loop.example/g00571/impl.errTooLong", laid_loop_example_g00571_impl_errTooLong), ("loop.example/g00571/impl.errNotRight", laid_loop_example_g00571_impl_errNotRight), ("loop.example/g00571/impl.errNoSuch", laid_loop_example_g00571_impl_errNoSuch), ("loop.example/g00571/impl.errSameName", laid_loop_example_g00571_impl_errSameName), ("loop.example/g00571/impl.errNoRoom", laid_loop_example_g00571_impl_errNoRoom), ("loop.example/g00571/impl.errInUse", laid_loop_example_g00571_impl_errInUse)], narrowed := true }
def FnExactDropClaimUptoSaid : Prop := fnExactDropClaimUptoRow.holds Tryz.pinned (OpenSpec.upto fnExactDropClaimSpec)

/-- 'laws.FnExactDropVolume', WHERE WHAT IT READS IS OF BULK AT MOST 1048576: true; the input reads as it did. -/
def fnExactDropVolumeUptoRow : OpenClaim := { program := "ytcljghpfclegmaagreatdoor", sum := "ab8b7bea3694cf1da6632221e2deb7871abfceea74c13b9e34f091bc3e211c38", func := "loop.example/g00571/laws.FnExactDropVolume", spec := "fnExactDropVolume", inPlace := ["internal/reflectlite.TypeOf"], unfollowed := true, recurses := true, named := ["loop.example/g00571/impl.errTooLong", "loop.example/g00571/impl.errNotRight", "loop.example/g00571/impl.errNoSuch", "loop.example/g00571/impl.errInUse", "loop.example/g00571/impl.errSameName", "loop.example/g00571/impl.errNoRoom"], ifaces := true, plainKeys := false, apart := false, laid := [("loop.example/g00571/impl.errTooLong", laid_loop_example_g00571_impl_errTooLong), ("loop.example/g00571/impl.errNotRight", laid_loop_example_g00571_impl_errNotRight), ("loop.example/g00571/impl.errNoSuch", laid_loop_example_g00571_impl_errNoSuch), ("loop.example/g00571/impl.errSameName", laid_loop_example_g00571_impl_errSameName), ("loop.example/g00571/impl.errNoRoom", laid_loop_example_g00571_impl_errNoRoom), ("loop.example/g00571/impl.errInUse", laid_loop_example_g00571_impl_errInUse)], narrowed := true }
def FnExactDropVolumeUptoSaid : Prop := fnExactDropVolumeUptoRow.holds Tryz.pinned (OpenSpec.upto fnExactDropVolumeSpec)

end Rows
end Go.Proofs.YtcljghpfclegmaaGreatDoor

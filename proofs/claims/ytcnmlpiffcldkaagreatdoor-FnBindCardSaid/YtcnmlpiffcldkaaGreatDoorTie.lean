/-
  DERIVED. GIVEN WITH THE SEED: THE PROGRAM's TIES (one call each: nine closed facts by the kernel) AND EACH ROW's TIE, after the 31st guide's Derived/Test/Toyas{Tie, Card}.lean. No idea stands in it: it is a product of the set-up. Laid BY PROGRAM, IN A SANDBOX (cutbox-door.mjs). By AI agents, Wed Nov 11 2026. No macro, syntax, notation, axiom, sorry.
-/
import Derived.Test.YtcnmlpiffcldkaaGreatDoorRows
import Derived.LaidByTextLater
import Derived.SevenTiedAt
import Derived.LaidSub
import Derived.LaidOnce
namespace Go.Proofs.YtcnmlpiffcldkaaGreatDoor
open Go
set_option maxRecDepth 100000
theorem seatTie1 : Tryz.prog.laidByTextLater [("loop.example/g00571/impl.errTooLong", Rows.laid_loop_example_g00571_impl_errTooLong), ("loop.example/g00571/impl.errNotRight", Rows.laid_loop_example_g00571_impl_errNotRight), ("loop.example/g00571/impl.errNoSuch", Rows.laid_loop_example_g00571_impl_errNoSuch), ("loop.example/g00571/impl.errSameName", Rows.laid_loop_example_g00571_impl_errSameName), ("loop.example/g00571/impl.errNoRoom", Rows.laid_loop_example_g00571_impl_errNoRoom), ("loop.example/g00571/impl.errInUse", Rows.laid_loop_example_g00571_impl_errInUse), ("loop.example/g00571/impl.errIsBound", Rows.laid_loop_example_g00571_impl_errIsBound), ("loop.example/g00571/impl.errNotYet", Rows.laid_loop_example_g00571_impl_errNotYet), ("loop.example/g00571/impl.errBadState", Rows.laid_loop_example_g00571_impl_errBadState), ("loop.example/g00571/impl.errNoAct", Rows.laid_loop_example_g00571_impl_errNoAct)] [.sentinel, .sentinel, .sentinel, .sentinel, .sentinel, .sentinel, .sentinel, .sentinel, .sentinel, .sentinel] true :=
  Program.laidByTextLater_by_one 199 8 2 (by kernel_rfl) (by kernel_rfl) (by kernel_rfl) (by kernel_rfl) (by kernel_rfl) (by kernel_rfl) (fun _ _ => by kernel_rfl)
theorem noOwnUnsafe : Tryz.pinned.checked.prog.headLifts.contains "ownunsafe" = false := by kernel_rfl
theorem tie : Tryz.prog.laidByTextLater [("loop.example/g00571/impl.errTooLong", Rows.laid_loop_example_g00571_impl_errTooLong), ("loop.example/g00571/impl.errNotRight", Rows.laid_loop_example_g00571_impl_errNotRight), ("loop.example/g00571/impl.errNoSuch", Rows.laid_loop_example_g00571_impl_errNoSuch), ("loop.example/g00571/impl.errSameName", Rows.laid_loop_example_g00571_impl_errSameName), ("loop.example/g00571/impl.errNoRoom", Rows.laid_loop_example_g00571_impl_errNoRoom), ("loop.example/g00571/impl.errInUse", Rows.laid_loop_example_g00571_impl_errInUse), ("loop.example/g00571/impl.errIsBound", Rows.laid_loop_example_g00571_impl_errIsBound), ("loop.example/g00571/impl.errNotYet", Rows.laid_loop_example_g00571_impl_errNotYet), ("loop.example/g00571/impl.errBadState", Rows.laid_loop_example_g00571_impl_errBadState), ("loop.example/g00571/impl.errNoAct", Rows.laid_loop_example_g00571_impl_errNoAct)] [.sentinel, .sentinel, .sentinel, .sentinel, .sentinel, .sentinel, .sentinel, .sentinel, .sentinel, .sentinel] true :=
  Program.laidByTextLater.sub seatTie1 ["loop.example/g00571/impl.errTooLong", "loop.example/g00571/impl.errNotRight", "loop.example/g00571/impl.errNoSuch", "loop.example/g00571/impl.errSameName", "loop.example/g00571/impl.errNoRoom", "loop.example/g00571/impl.errInUse", "loop.example/g00571/impl.errIsBound", "loop.example/g00571/impl.errNotYet", "loop.example/g00571/impl.errBadState", "loop.example/g00571/impl.errNoAct"] (by kernel_rfl) (by kernel_rfl)
theorem fnBind_row_tie : Rows.fnBindRow.laidByTextAt .later Tryz.pinned [.sentinel, .sentinel, .sentinel, .sentinel, .sentinel, .sentinel, .sentinel, .sentinel, .sentinel, .sentinel] true :=
  OpenClaim.laidByTextAt_later rfl rfl tie noOwnUnsafe
theorem fnBindUpto_row_tie : Rows.fnBindUptoRow.laidByTextAt .later Tryz.pinned [.sentinel, .sentinel, .sentinel, .sentinel, .sentinel, .sentinel, .sentinel, .sentinel, .sentinel, .sentinel] true :=
  OpenClaim.laidByTextAt_later rfl rfl tie noOwnUnsafe
end Go.Proofs.YtcnmlpiffcldkaaGreatDoor

/-
  FnExactWake, its card: for every argument the call returns true (the program's function answers as the specification's, every field), and each argument reads afterwards as it read before; the listed package-level variables (loop.example/g00571/impl.errTooLong, loop.example/g00571/impl.errNotRight, loop.example/g00571/impl.errNoSuch, loop.example/g00571/impl.errSameName, loop.example/g00571/impl.errNoRoom, loop.example/g00571/impl.errInUse, loop.example/g00571/impl.errIsBound, loop.example/g00571/impl.errNotYet, loop.example/g00571/impl.errBadState, loop.example/g00571/impl.errNoAct) start as the program's text lays them (tied by the card); no other condition.
-/
import Derived.Test.YtdfgbboadbnodaaGreatDoorK5
import Derived.Test.YtdfgbboadbnodaaGreatDoorTie
import Derived.Test.YtdfgbboadbnodaaGreatDoorCards
import Derived.Carry
import Derived.ProofKit
import Derived.OpenShut
import Derived.ShutString
import Derived.ChangeOld
import Derived.Below
import Derived.ChangeSame
import Derived.ChangeVars
import Derived.OpenVars
import Derived.JoinedOf
import Derived.RowKit
import Derived.RowKitTokens
import Derived.LaidLaws
import Derived.LaidHandle
import Derived.Stop.Joined
import Derived.SevenTiedAt
import Derived.Lib.LaidTab
namespace Go.Proofs.YtdfgbboadbnodaaGreatDoor
open Go.ChangeShapes Go.WideShapes Go.ChangeAt Go.RowKit
open Go.ChangeMaps (open_string shut_string)

namespace fnExactWake
theorem own : ownKnob Tryz.prog.godebug = none := by kernel_rfl
theorem laidOut : laidOutB Tryz.prog = true := by kernel_rfl
def words : List (String × List UInt8) := [("loop.example/g00571/impl.errTooLong", [97, 32, 116, 101, 120, 116, 32, 105, 115, 32, 116, 111, 111, 32, 108, 111, 110, 103]), ("loop.example/g00571/impl.errNotRight", [105, 116, 32, 105, 115, 32, 110, 111, 116, 32, 114, 105, 103, 104, 116]), ("loop.example/g00571/impl.errNoSuch", [116, 104, 101, 114, 101, 32, 105, 115, 32, 110, 111, 32, 115, 117, 99, 104, 32, 116, 104, 105, 110, 103]), ("loop.example/g00571/impl.errSameName", [116, 104, 101, 114, 101, 32, 105, 115, 32, 111, 110, 101, 32, 111, 102, 32, 116, 104, 97, 116, 32, 110, 97, 109, 101]), ("loop.example/g00571/impl.errNoRoom", [116, 104, 101, 114, 101, 32, 97, 114, 101, 32, 97, 115, 32, 109, 97, 110, 121, 32, 97, 115, 32, 109, 97, 121, 32, 98, 101]), ("loop.example/g00571/impl.errInUse", [105, 116, 32, 105, 115, 32, 105, 110, 32, 117, 115, 101]), ("loop.example/g00571/impl.errIsBound", [105, 116, 32, 105, 115, 32, 98, 111, 117, 110, 100, 32, 97, 108, 114, 101, 97, 100, 121]), ("loop.example/g00571/impl.errNotYet", [105, 116, 32, 105, 115, 32, 110, 111, 116, 32, 116, 105, 109, 101, 32, 102, 111, 114, 32, 105, 116, 32, 121, 101, 116]), ("loop.example/g00571/impl.errBadState", [105, 116, 32, 105, 115, 32, 105, 110, 32, 97, 110, 111, 116, 104, 101, 114, 32, 115, 116, 97, 116, 101, 32, 116, 104, 97, 110, 32, 105, 116, 32, 111, 117, 103, 104, 116, 32, 116, 111, 32, 98, 101]), ("loop.example/g00571/impl.errNoAct", [105, 116, 32, 105, 115, 32, 110, 111, 32, 97, 99, 116])]
theorem wG0 : Tryz.prog.globalNamed "loop.example/g00571/impl.errTooLong" = some 1 := by kernel_rfl
theorem wT0 : (Tryz.prog.globals[1]?).map (·.type) = some 70 := by kernel_rfl
theorem wG1 : Tryz.prog.globalNamed "loop.example/g00571/impl.errNotRight" = some 9 := by kernel_rfl
theorem wT1 : (Tryz.prog.globals[9]?).map (·.type) = some 70 := by kernel_rfl
theorem wG2 : Tryz.prog.globalNamed "loop.example/g00571/impl.errNoSuch" = some 3 := by kernel_rfl
theorem wT2 : (Tryz.prog.globals[3]?).map (·.type) = some 70 := by kernel_rfl
theorem wG3 : Tryz.prog.globalNamed "loop.example/g00571/impl.errSameName" = some 4 := by kernel_rfl
theorem wT3 : (Tryz.prog.globals[4]?).map (·.type) = some 70 := by kernel_rfl
theorem wG4 : Tryz.prog.globalNamed "loop.example/g00571/impl.errNoRoom" = some 6 := by kernel_rfl
theorem wT4 : (Tryz.prog.globals[6]?).map (·.type) = some 70 := by kernel_rfl
theorem wG5 : Tryz.prog.globalNamed "loop.example/g00571/impl.errInUse" = some 7 := by kernel_rfl
theorem wT5 : (Tryz.prog.globals[7]?).map (·.type) = some 70 := by kernel_rfl
theorem wG6 : Tryz.prog.globalNamed "loop.example/g00571/impl.errIsBound" = some 5 := by kernel_rfl
theorem wT6 : (Tryz.prog.globals[5]?).map (·.type) = some 70 := by kernel_rfl
theorem wG7 : Tryz.prog.globalNamed "loop.example/g00571/impl.errNotYet" = some 8 := by kernel_rfl
theorem wT7 : (Tryz.prog.globals[8]?).map (·.type) = some 70 := by kernel_rfl
theorem wG8 : Tryz.prog.globalNamed "loop.example/g00571/impl.errBadState" = some 0 := by kernel_rfl
theorem wT8 : (Tryz.prog.globals[0]?).map (·.type) = some 70 := by kernel_rfl
theorem wG9 : Tryz.prog.globalNamed "loop.example/g00571/impl.errNoAct" = some 2 := by kernel_rfl
theorem wT9 : (Tryz.prog.globals[2]?).map (·.type) = some 70 := by kernel_rfl
theorem wAll : ∀ x ∈ words, ∃ g, Tryz.prog.globalNamed x.1 = some g ∧ (Tryz.prog.globals[g]?).map (·.type) = some 70 := by
  intro x hx
  simp only [words, List.mem_cons, List.not_mem_nil, or_false] at hx
  rcases hx with rfl | rfl | rfl | rfl | rfl | rfl | rfl | rfl | rfl | rfl
  · exact ⟨_, wG0, wT0⟩
  · exact ⟨_, wG1, wT1⟩
  · exact ⟨_, wG2, wT2⟩
  · exact ⟨_, wG3, wT3⟩
  · exact ⟨_, wG4, wT4⟩
  · exact ⟨_, wG5, wT5⟩
  · exact ⟨_, wG6, wT6⟩
  · exact ⟨_, wG7, wT7⟩
  · exact ⟨_, wG8, wT8⟩
  · exact ⟨_, wG9, wT9⟩
theorem wCe : Tryz.prog.cellsOf 231 = 1 := by kernel_rfl
theorem wCs : Tryz.prog.cellsOf 9 = 1 := by kernel_rfl

/-- What the row's list gives: the words lie in their variables, different from each other. -/
theorem ers_of_laid {W : World} (h : laidMetH Tryz.prog Rows.fnExactWakeRow.laid W) : ∃ E, Rc.Ers W E := by
  have h' : laidMet Tryz.prog [("loop.example/g00571/impl.errTooLong", Rows.laid_loop_example_g00571_impl_errTooLong), ("loop.example/g00571/impl.errNotRight", Rows.laid_loop_example_g00571_impl_errNotRight), ("loop.example/g00571/impl.errNoSuch", Rows.laid_loop_example_g00571_impl_errNoSuch), ("loop.example/g00571/impl.errSameName", Rows.laid_loop_example_g00571_impl_errSameName), ("loop.example/g00571/impl.errNoRoom", Rows.laid_loop_example_g00571_impl_errNoRoom), ("loop.example/g00571/impl.errInUse", Rows.laid_loop_example_g00571_impl_errInUse), ("loop.example/g00571/impl.errIsBound", Rows.laid_loop_example_g00571_impl_errIsBound), ("loop.example/g00571/impl.errNotYet", Rows.laid_loop_example_g00571_impl_errNotYet), ("loop.example/g00571/impl.errBadState", Rows.laid_loop_example_g00571_impl_errBadState), ("loop.example/g00571/impl.errNoAct", Rows.laid_loop_example_g00571_impl_errNoAct)] W := h
  obtain ⟨ps, hv, hnd, hrows⟩ := h'
  obtain ⟨E, h1, h2⟩ := Rc.j5 (P := Tryz.prog) (W := W) (nm := "*errors.errorString") Tryz.underlying70 Rc.rR Tryz.underlying195 Tryz.underlying231 rfl rfl Tryz.underlying9 wCe wCs words ps wAll hv hnd hrows
  have hc : ∀ (i : Nat) x g, words[i]? = some x → Tryz.prog.globalNamed x.1 = some g → W.cell? ⟨g, 0, none⟩ = some (.iface 195 (.pointer (some (E i)))) := fun i x g hx hg => by
    rw [World.var?_cell hg (h1 i x hx).1 0]
    rfl
  refine ⟨E, hc 0 _ _ rfl wG0, hc 1 _ _ rfl wG1, hc 2 _ _ rfl wG2, hc 3 _ _ rfl wG3, hc 4 _ _ rfl wG4, hc 5 _ _ rfl wG5, hc 6 _ _ rfl wG6, hc 7 _ _ rfl wG7, hc 8 _ _ rfl wG8, hc 9 _ _ rfl wG9, fun i hi => ?_, fun i j hi hj e => h2 i j hi hj e⟩
  exact (hrows _ _ (h1 i _ (List.getElem?_eq_getElem (show i < words.length from hi))).2).1

/-- A world that meets the condition: the settled one, the variable's cell laid. -/
noncomputable def laidWorld (os : Os) : World :=
  { World.holding Tryz.prog os ⟨#[], #[], []⟩ with heap := (((((((((((((((((((((World.holding Tryz.prog os ⟨#[], #[], []⟩).heap.modify 1 fun
      | .cells _ t frozen => .cells (#[.iface 195 (.pointer (some ⟨(World.holding Tryz.prog os ⟨#[], #[], []⟩).heap.size + 0, 0, none⟩))]) t frozen
      | o => o).modify 9 fun
      | .cells _ t frozen => .cells (#[.iface 195 (.pointer (some ⟨(World.holding Tryz.prog os ⟨#[], #[], []⟩).heap.size + 1, 0, none⟩))]) t frozen
      | o => o).modify 3 fun
      | .cells _ t frozen => .cells (#[.iface 195 (.pointer (some ⟨(World.holding Tryz.prog os ⟨#[], #[], []⟩).heap.size + 2, 0, none⟩))]) t frozen
      | o => o).modify 4 fun
      | .cells _ t frozen => .cells (#[.iface 195 (.pointer (some ⟨(World.holding Tryz.prog os ⟨#[], #[], []⟩).heap.size + 3, 0, none⟩))]) t frozen
      | o => o).modify 6 fun
      | .cells _ t frozen => .cells (#[.iface 195 (.pointer (some ⟨(World.holding Tryz.prog os ⟨#[], #[], []⟩).heap.size + 4, 0, none⟩))]) t frozen
      | o => o).modify 7 fun
      | .cells _ t frozen => .cells (#[.iface 195 (.pointer (some ⟨(World.holding Tryz.prog os ⟨#[], #[], []⟩).heap.size + 5, 0, none⟩))]) t frozen
      | o => o).modify 5 fun
      | .cells _ t frozen => .cells (#[.iface 195 (.pointer (some ⟨(World.holding Tryz.prog os ⟨#[], #[], []⟩).heap.size + 6, 0, none⟩))]) t frozen
      | o => o).modify 8 fun
      | .cells _ t frozen => .cells (#[.iface 195 (.pointer (some ⟨(World.holding Tryz.prog os ⟨#[], #[], []⟩).heap.size + 7, 0, none⟩))]) t frozen
      | o => o).modify 0 fun
      | .cells _ t frozen => .cells (#[.iface 195 (.pointer (some ⟨(World.holding Tryz.prog os ⟨#[], #[], []⟩).heap.size + 8, 0, none⟩))]) t frozen
      | o => o).modify 2 fun
      | .cells _ t frozen => .cells (#[.iface 195 (.pointer (some ⟨(World.holding Tryz.prog os ⟨#[], #[], []⟩).heap.size + 9, 0, none⟩))]) t frozen
      | o => o).push (.cells #[.string ⟨#[97, 32, 116, 101, 120, 116, 32, 105, 115, 32, 116, 111, 111, 32, 108, 111, 110, 103]⟩] 231)).push (.cells #[.string ⟨#[105, 116, 32, 105, 115, 32, 110, 111, 116, 32, 114, 105, 103, 104, 116]⟩] 231)).push (.cells #[.string ⟨#[116, 104, 101, 114, 101, 32, 105, 115, 32, 110, 111, 32, 115, 117, 99, 104, 32, 116, 104, 105, 110, 103]⟩] 231)).push (.cells #[.string ⟨#[116, 104, 101, 114, 101, 32, 105, 115, 32, 111, 110, 101, 32, 111, 102, 32, 116, 104, 97, 116, 32, 110, 97, 109, 101]⟩] 231)).push (.cells #[.string ⟨#[116, 104, 101, 114, 101, 32, 97, 114, 101, 32, 97, 115, 32, 109, 97, 110, 121, 32, 97, 115, 32, 109, 97, 121, 32, 98, 101]⟩] 231)).push (.cells #[.string ⟨#[105, 116, 32, 105, 115, 32, 105, 110, 32, 117, 115, 101]⟩] 231)).push (.cells #[.string ⟨#[105, 116, 32, 105, 115, 32, 98, 111, 117, 110, 100, 32, 97, 108, 114, 101, 97, 100, 121]⟩] 231)).push (.cells #[.string ⟨#[105, 116, 32, 105, 115, 32, 110, 111, 116, 32, 116, 105, 109, 101, 32, 102, 111, 114, 32, 105, 116, 32, 121, 101, 116]⟩] 231)).push (.cells #[.string ⟨#[105, 116, 32, 105, 115, 32, 105, 110, 32, 97, 110, 111, 116, 104, 101, 114, 32, 115, 116, 97, 116, 101, 32, 116, 104, 97, 110, 32, 105, 116, 32, 111, 117, 103, 104, 116, 32, 116, 111, 32, 98, 101]⟩] 231)).push (.cells #[.string ⟨#[105, 116, 32, 105, 115, 32, 110, 111, 32, 97, 99, 116]⟩] 231)) }
set_option maxRecDepth 100000 in
theorem laidWorld_met (os : Os) (args : Array Value) : laidMetH Tryz.prog Rows.fnExactWakeRow.laid ((laidWorld os).forCall (fun _ _ => 0) ⟨#[], args, []⟩).memory :=
  laidMetH_of_parts (laidMet_of_run' 8 (by kernel_rfl) (by kernel_rfl)) (by kernel_rfl)

set_option linter.unusedVariables false in
set_option maxRecDepth 100000 in
theorem lifted (os : Os) (started : os.Started) (H : Type) (enc : TypeId × Value → H) :
    ReturnsInHanded {} Tryz.checked os 4 .any (fun w args => (Rows.fnExactWakeSpec.pre enc Tryz.prog Tryz.f4 [] false w args ∧ laidMetH Tryz.prog Rows.fnExactWakeRow.laid w) ∧ sizedMet enc Tryz.prog Tryz.f4 (OpenSpec.ofChange Rows.fnExactWakeSpec) false w args)
      (Rows.fnExactWakeSpec.post enc Tryz.prog Tryz.f4 false true false false) := by
  refine returnsInHanded_of_change_and (C := Tryz.checked) (X := fun w _ => laidMetH Tryz.prog Rows.fnExactWakeRow.laid w) (fun _ _ _ hh h => h.of_heap hh) own started (by kernel_rfl) Tryz.func4
    (ChangeSpec.witness_at (enc := enc) (C := Tryz.checked) (os := os) (X := fun w _ => laidMetH Tryz.prog Rows.fnExactWakeRow.laid w) false (laidWorld os) #[.agg #[.slice none 0 0, .slice none 0 0, .slice none 0 0, .slice none 0 0, .slice none 0 0, .int .i64 0], .string ⟨#[]⟩] 8 rfl (by kernel_rfl) (by kernel_rfl) (by kernel_rfl) (by kernel_rfl) (by kernel_rfl) (laidWorld_met os _)) ?_
  intro W base args ds gs before hval0 hW _ _ hL _
  have hval : ∀ (j : Nat) t v, Tryz.f4.params[j]? = some t → args[j]? = some v → Value.okWide Tryz.prog W .any base t v := hval0
  have hW' := hW
  obtain ⟨p, q, hA0, hV, rfl, hfz, hnd⟩ := hW
  have hA : DataW.TrodAll enc Tryz.prog W 0 (fun _ => true) true Tryz.f4.params.toList args.toList ds p := hA0
  rw [Tryz.params4] at hA hval
  obtain ⟨v0, vs0, d0, ds0, p0, q0, hargs, rfl, rfl, h0, r0⟩ := trodAll_cons hA
  obtain ⟨v1, vs1, d1, ds1, p1, q1, rfl, rfl, rfl, h1, r1⟩ := trodAll_cons r0
  obtain ⟨rfl, rfl, rfl⟩ := trodAll_nil r1
  obtain rfl : args = #[v0, v1] := by cases args; simp_all
  have hV1 := hV
  obtain ⟨_, _, _, _, _, _, _, _, _, _, rfl⟩ := Rc.ss (Rc.hJ _ _ _ hV)
  have k0 := h0
  have lt0 : ∀ x ∈ p0, x.block < W.heap.size := by obtain ⟨m, hm⟩ := k0; exact DataW.trod_lt m _ _ _ hm
  obtain ⟨cs0, n0, rfl, sz0, hf0⟩ := lQ Tryz.underlying28 (by kernel_rfl) (by kernel_rfl) (hval 0 28 v0 rfl rfl) h0
  obtain ⟨x0_0, x0_1, x0_2, x0_3, x0_4, x0_5, rfl⟩ := rC (show cs0.length = 6 from sz0)
  obtain ⟨c, y, e, t⟩ := hf0 0 _ rfl
  obtain rfl := Option.some.inj (show some x0_0 = some c from e)
  clear e
  obtain ⟨b0_0, lb0_0, mb0_0, zb0_0, rfl, w0_0⟩ := Rc.oT t
  clear t
  obtain ⟨c, y, e, t⟩ := hf0 1 _ rfl
  obtain rfl := Option.some.inj (show some x0_1 = some c from e)
  clear e
  obtain ⟨b0_1, lb0_1, mb0_1, zb0_1, rfl, w0_1⟩ := Rc.oU t
  clear t
  obtain ⟨c, y, e, t⟩ := hf0 2 _ rfl
  obtain rfl := Option.some.inj (show some x0_2 = some c from e)
  clear e
  obtain ⟨b0_2, lb0_2, mb0_2, zb0_2, rfl, w0_2⟩ := Rc.oR t
  clear t
  obtain ⟨c, y, e, t⟩ := hf0 3 _ rfl
  obtain rfl := Option.some.inj (show some x0_3 = some c from e)
  clear e
  obtain ⟨b0_3, lb0_3, mb0_3, zb0_3, rfl, w0_3⟩ := Rc.oQ t
  clear t
  obtain ⟨c, y, e, t⟩ := hf0 4 _ rfl
  obtain rfl := Option.some.inj (show some x0_4 = some c from e)
  clear e
  obtain ⟨b0_4, lb0_4, mb0_4, zb0_4, rfl, w0_4⟩ := Rc.oS t
  clear t
  obtain ⟨c, y, e, t⟩ := hf0 5 _ rfl
  obtain rfl := Option.some.inj (show some x0_5 = some c from e)
  clear e
  obtain ⟨b0_5, q, -, w0_5⟩ := DataW.trod_int Tryz.underlying2 t
  obtain rfl : x0_5 = .int .i64 b0_5 := by simpa using q
  clear q t
  obtain ⟨a1, rfl, rfl, rfl, w1⟩ := open_string Tryz.underlying9 (hval 1 9 v1 rfl rfl) h1
  clear hA0 hval0
  refine (eO b0_0 lb0_0 mb0_0 zb0_0 b0_1 lb0_1 mb0_1 zb0_1 b0_2 lb0_2 mb0_2 zb0_2 b0_3 lb0_3 mb0_3 zb0_3 b0_4 lb0_4 mb0_4 zb0_4 b0_5 a1 W w0_0 w0_1 w0_2 w0_3 w0_4 w0_5 w1 (ers_of_laid hL)).mono fun e W' ⟨he, bel⟩ => ?_
  subst he
  exact ⟨_, rfl, _, _, _, [], _, q, hW', trodAll_mk1 (shut_bool Tryz.underlying4 _), (trodAll_cons_mk (Below.trod laidOut (by kernel_rfl) (of_decide_eq_true (by kernel_rfl)) k0 bel lt0) (trodAll_cons_mk (shut_string Tryz.underlying9 w1) trodAll_mk0)), bel.trodVars laidOut (by kernel_rfl) hV1, bel.frame _, fun h => by cases h⟩

theorem over : Rows.fnExactWakeRow.holds Tryz.pinned (OpenSpec.ofChange Rows.fnExactWakeSpec) :=
  OpenClaim.holds_of_wide 4 Tryz.f4 rfl rfl rfl rfl rfl rfl rfl ⟨rfl, rfl, rfl, rfl, rfl⟩ rfl rfl rfl rfl rfl (by kernel_rfl) Tryz.func4 (by kernel_rfl)
    (of_decide_eq_true (by kernel_rfl)) (by unfold Func.isWrapper; first | (rw [if_pos (by decide +kernel)]; kernel_rfl) | (rw [if_neg (by decide +kernel)]; exact ⟨rfl, rfl⟩))
    (fun os started H enc _ => lifted os started H enc)

theorem plain (f : FuncId) (fn : Func) (hf : Tryz.pinned.checked.prog.funcNamed "loop.example/g00571/laws.FnExactWake" = some f) (hfn : Tryz.pinned.checked.prog.funcs[f]? = some fn) :
    true = Tryz.pinned.checked.prog.looks [] ∧ ∀ (j : Nat) t, fn.params[j]? = some t → Tryz.pinned.checked.prog.wantsStandIn t = false := by
  obtain rfl : f = 4 := Option.some.inj ((show Tryz.prog.funcNamed "loop.example/g00571/laws.FnExactWake" = some 4 by kernel_rfl).symm.trans hf) |>.symm
  obtain rfl : fn = Tryz.f4 := (Option.some.inj (Tryz.func4.symm.trans hfn)).symm
  refine ⟨by kernel_rfl, fun j t ht => ?_⟩
  rw [Tryz.params4] at ht
  have hm := Array.mem_of_getElem? ht
  simp at hm
  rcases hm with rfl | rfl
  · exact (show Tryz.prog.wantsStandIn 28 = false by kernel_rfl)
  · exact (show Tryz.prog.wantsStandIn 9 = false by kernel_rfl)
end fnExactWake

theorem fnExactWake_holds : Rows.FnExactWakeSaid := fnExactWake.over
theorem fnExactWake_card : Rows.FnExactWakeCardSaid :=
  Claim7.holds_tied_plain_at .later [] _ _ _ _ fnExactWake_holds (fun _ h => by cases h) (by kernel_rfl) (fun _ h => by cases h) fnExactWake_row_tie rfl ⟨rfl, rfl⟩ (by kernel_rfl) rfl fnExactWake.plain (by kernel_rfl)
#print axioms fnExactWake_card
end Go.Proofs.YtdfgbboadbnodaaGreatDoor

/-
  FnBind, its card: for every argument the call returns true (the law is the promise, tried on what is drawn from the arguments), and each argument reads afterwards as it read before; the listed package-level variables (loop.example/g00571/impl.errTooLong, loop.example/g00571/impl.errNotRight, loop.example/g00571/impl.errNoSuch, loop.example/g00571/impl.errSameName, loop.example/g00571/impl.errNoRoom, loop.example/g00571/impl.errInUse, loop.example/g00571/impl.errIsBound, loop.example/g00571/impl.errNotYet, loop.example/g00571/impl.errBadState, loop.example/g00571/impl.errNoAct) start as the program's text lays them (tied by the card); no other condition.
-/
import Derived.Test.YtcnmlpiffcldkaaGreatDoorN10
import Derived.Test.YtcnmlpiffcldkaaGreatDoorTie
import Derived.Test.YtcnmlpiffcldkaaGreatDoorCards
import Derived.ProofKit
import Derived.OpenShut
import Derived.ShutString
import Derived.ChangeOld
import Derived.Below
import Derived.ChangeSame
import Derived.ChangeVars
import Derived.OpenVars
import Derived.JoinedOf
import Derived.RowKit
import Derived.RowKitTokens
import Derived.LaidLaws
import Derived.LaidHandle
import Derived.Stop.Joined
import Derived.SevenTiedAt
import Derived.Lib.LaidTab
namespace Go.Proofs.YtcnmlpiffcldkaaGreatDoor
open Go.ChangeShapes Go.WideShapes Go.ChangeAt Go.RowKit
open Go.ChangeMaps (open_string shut_string)

namespace fnBind
theorem own : ownKnob Tryz.prog.godebug = none := by kernel_rfl
theorem laidOut : laidOutB Tryz.prog = true := by kernel_rfl
def words : List (String × List UInt8) := [("loop.example/g00571/impl.errTooLong", [97, 32, 116, 101, 120, 116, 32, 105, 115, 32, 116, 111, 111, 32, 108, 111, 110, 103]), ("loop.example/g00571/impl.errNotRight", [105, 116, 32, 105, 115, 32, 110, 111, 116, 32, 114, 105, 103, 104, 116]), ("loop.example/g00571/impl.errNoSuch", [116, 104, 101, 114, 101, 32, 105, 115, 32, 110, 111, 32, 115, 117, 99, 104, 32, 116, 104, 105, 110, 103]), ("loop.example/g00571/impl.errSameName", [116, 104, 101, 114, 101, 32, 105, 115, 32, 111, 110, 101, 32, 111, 102, 32, 116, 104, 97, 116, 32, 110, 97, 109, 101]), ("loop.example/g00571/impl.errNoRoom", [116, 104, 101, 114, 101, 32, 97, 114, 101, 32, 97, 115, 32, 109, 97, 110, 121, 32, 97, 115, 32, 109, 97, 121, 32, 98, 101]), ("loop.example/g00571/impl.errInUse", [105, 116, 32, 105, 115, 32, 105, 110, 32, 117, 115, 101]), ("loop.example/g00571/impl.errIsBound", [105, 116, 32, 105, 115, 32, 98, 111, 117, 110, 100, 32, 97, 108, 114, 101, 97, 100, 121]), ("loop.example/g00571/impl.errNotYet", [105, 116, 32, 105, 115, 32, 110, 111, 116, 32, 116, 105, 109, 101, 32, 102, 111, 114, 32, 105, 116, 32, 121, 101, 116]), ("loop.example/g00571/impl.errBadState", [105, 116, 32, 105, 115, 32, 105, 110, 32, 97, 110, 111, 116, 104, 101, 114, 32, 115, 116, 97, 116, 101, 32, 116, 104, 97, 110, 32, 105, 116, 32, 111, 117, 103, 104, 116, 32, 116, 111, 32, 98, 101]), ("loop.example/g00571/impl.errNoAct", [105, 116, 32, 105, 115, 32, 110, 111, 32, 97, 99, 116])]
theorem wG0 : Tryz.prog.globalNamed "loop.example/g00571/impl.errTooLong" = some 1 := by kernel_rfl
theorem wT0 : (Tryz.prog.globals[1]?).map (·.type) = some 56 := by kernel_rfl
theorem wG1 : Tryz.prog.globalNamed "loop.example/g00571/impl.errNotRight" = some 2 := by kernel_rfl
theorem wT1 : (Tryz.prog.globals[2]?).map (·.type) = some 56 := by kernel_rfl
theorem wG2 : Tryz.prog.globalNamed "loop.example/g00571/impl.errNoSuch" = some 3 := by kernel_rfl
theorem wT2 : (Tryz.prog.globals[3]?).map (·.type) = some 56 := by kernel_rfl
theorem wG3 : Tryz.prog.globalNamed "loop.example/g00571/impl.errSameName" = some 6 := by kernel_rfl
theorem wT3 : (Tryz.prog.globals[6]?).map (·.type) = some 56 := by kernel_rfl
theorem wG4 : Tryz.prog.globalNamed "loop.example/g00571/impl.errNoRoom" = some 7 := by kernel_rfl
theorem wT4 : (Tryz.prog.globals[7]?).map (·.type) = some 56 := by kernel_rfl
theorem wG5 : Tryz.prog.globalNamed "loop.example/g00571/impl.errInUse" = some 8 := by kernel_rfl
theorem wT5 : (Tryz.prog.globals[8]?).map (·.type) = some 56 := by kernel_rfl
theorem wG6 : Tryz.prog.globalNamed "loop.example/g00571/impl.errIsBound" = some 4 := by kernel_rfl
theorem wT6 : (Tryz.prog.globals[4]?).map (·.type) = some 56 := by kernel_rfl
theorem wG7 : Tryz.prog.globalNamed "loop.example/g00571/impl.errNotYet" = some 0 := by kernel_rfl
theorem wT7 : (Tryz.prog.globals[0]?).map (·.type) = some 56 := by kernel_rfl
theorem wG8 : Tryz.prog.globalNamed "loop.example/g00571/impl.errBadState" = some 9 := by kernel_rfl
theorem wT8 : (Tryz.prog.globals[9]?).map (·.type) = some 56 := by kernel_rfl
theorem wG9 : Tryz.prog.globalNamed "loop.example/g00571/impl.errNoAct" = some 5 := by kernel_rfl
theorem wT9 : (Tryz.prog.globals[5]?).map (·.type) = some 56 := by kernel_rfl
theorem wAll : ∀ x ∈ words, ∃ g, Tryz.prog.globalNamed x.1 = some g ∧ (Tryz.prog.globals[g]?).map (·.type) = some 56 := by
  intro x hx
  simp only [words, List.mem_cons, List.not_mem_nil, or_false] at hx
  rcases hx with rfl | rfl | rfl | rfl | rfl | rfl | rfl | rfl | rfl | rfl
  · exact ⟨_, wG0, wT0⟩
  · exact ⟨_, wG1, wT1⟩
  · exact ⟨_, wG2, wT2⟩
  · exact ⟨_, wG3, wT3⟩
  · exact ⟨_, wG4, wT4⟩
  · exact ⟨_, wG5, wT5⟩
  · exact ⟨_, wG6, wT6⟩
  · exact ⟨_, wG7, wT7⟩
  · exact ⟨_, wG8, wT8⟩
  · exact ⟨_, wG9, wT9⟩
theorem wCe : Tryz.prog.cellsOf 249 = 1 := by kernel_rfl
theorem wCs : Tryz.prog.cellsOf 9 = 1 := by kernel_rfl

/-- What the row's list gives: the words lie in their variables, different from each other. -/
theorem ers_of_laid {W : World} (h : laidMetH Tryz.prog Rows.fnBindRow.laid W) : ∃ E, Rc.Ers W E := by
  have h' : laidMet Tryz.prog [("loop.example/g00571/impl.errTooLong", Rows.laid_loop_example_g00571_impl_errTooLong), ("loop.example/g00571/impl.errNotRight", Rows.laid_loop_example_g00571_impl_errNotRight), ("loop.example/g00571/impl.errNoSuch", Rows.laid_loop_example_g00571_impl_errNoSuch), ("loop.example/g00571/impl.errSameName", Rows.laid_loop_example_g00571_impl_errSameName), ("loop.example/g00571/impl.errNoRoom", Rows.laid_loop_example_g00571_impl_errNoRoom), ("loop.example/g00571/impl.errInUse", Rows.laid_loop_example_g00571_impl_errInUse), ("loop.example/g00571/impl.errIsBound", Rows.laid_loop_example_g00571_impl_errIsBound), ("loop.example/g00571/impl.errNotYet", Rows.laid_loop_example_g00571_impl_errNotYet), ("loop.example/g00571/impl.errBadState", Rows.laid_loop_example_g00571_impl_errBadState), ("loop.example/g00571/impl.errNoAct", Rows.laid_loop_example_g00571_impl_errNoAct)] W := h
  obtain ⟨ps, hv, hnd, hrows⟩ := h'
  obtain ⟨E, h1, h2⟩ := Rc.xQ (P := Tryz.prog) (W := W) (nm := "*errors.errorString") Tryz.underlying56 Rc.anf Tryz.underlying217 Tryz.underlying249 rfl rfl Tryz.underlying9 wCe wCs words ps wAll hv hnd hrows
  have hc : ∀ (i : Nat) x g, words[i]? = some x → Tryz.prog.globalNamed x.1 = some g → W.cell? ⟨g, 0, none⟩ = some (.iface 217 (.pointer (some (E i)))) := fun i x g hx hg => by
    rw [World.var?_cell hg (h1 i x hx).1 0]
    rfl
  refine ⟨E, hc 0 _ _ rfl wG0, hc 1 _ _ rfl wG1, hc 2 _ _ rfl wG2, hc 3 _ _ rfl wG3, hc 4 _ _ rfl wG4, hc 5 _ _ rfl wG5, hc 6 _ _ rfl wG6, hc 7 _ _ rfl wG7, hc 8 _ _ rfl wG8, hc 9 _ _ rfl wG9, fun i hi => ?_, fun i j hi hj e => h2 i j hi hj e⟩
  exact (hrows _ _ (h1 i _ (List.getElem?_eq_getElem (show i < words.length from hi))).2).1

/-- A world that meets the condition: the settled one, the variable's cell laid. -/
noncomputable def laidWorld (os : Os) : World :=
  { World.holding Tryz.prog os ⟨#[], #[], []⟩ with heap := (((((((((((((((((((((World.holding Tryz.prog os ⟨#[], #[], []⟩).heap.modify 1 fun
      | .cells _ t frozen => .cells (#[.iface 217 (.pointer (some ⟨(World.holding Tryz.prog os ⟨#[], #[], []⟩).heap.size + 0, 0, none⟩))]) t frozen
      | o => o).modify 2 fun
      | .cells _ t frozen => .cells (#[.iface 217 (.pointer (some ⟨(World.holding Tryz.prog os ⟨#[], #[], []⟩).heap.size + 1, 0, none⟩))]) t frozen
      | o => o).modify 3 fun
      | .cells _ t frozen => .cells (#[.iface 217 (.pointer (some ⟨(World.holding Tryz.prog os ⟨#[], #[], []⟩).heap.size + 2, 0, none⟩))]) t frozen
      | o => o).modify 6 fun
      | .cells _ t frozen => .cells (#[.iface 217 (.pointer (some ⟨(World.holding Tryz.prog os ⟨#[], #[], []⟩).heap.size + 3, 0, none⟩))]) t frozen
      | o => o).modify 7 fun
      | .cells _ t frozen => .cells (#[.iface 217 (.pointer (some ⟨(World.holding Tryz.prog os ⟨#[], #[], []⟩).heap.size + 4, 0, none⟩))]) t frozen
      | o => o).modify 8 fun
      | .cells _ t frozen => .cells (#[.iface 217 (.pointer (some ⟨(World.holding Tryz.prog os ⟨#[], #[], []⟩).heap.size + 5, 0, none⟩))]) t frozen
      | o => o).modify 4 fun
      | .cells _ t frozen => .cells (#[.iface 217 (.pointer (some ⟨(World.holding Tryz.prog os ⟨#[], #[], []⟩).heap.size + 6, 0, none⟩))]) t frozen
      | o => o).modify 0 fun
      | .cells _ t frozen => .cells (#[.iface 217 (.pointer (some ⟨(World.holding Tryz.prog os ⟨#[], #[], []⟩).heap.size + 7, 0, none⟩))]) t frozen
      | o => o).modify 9 fun
      | .cells _ t frozen => .cells (#[.iface 217 (.pointer (some ⟨(World.holding Tryz.prog os ⟨#[], #[], []⟩).heap.size + 8, 0, none⟩))]) t frozen
      | o => o).modify 5 fun
      | .cells _ t frozen => .cells (#[.iface 217 (.pointer (some ⟨(World.holding Tryz.prog os ⟨#[], #[], []⟩).heap.size + 9, 0, none⟩))]) t frozen
      | o => o).push (.cells #[.string ⟨#[97, 32, 116, 101, 120, 116, 32, 105, 115, 32, 116, 111, 111, 32, 108, 111, 110, 103]⟩] 249)).push (.cells #[.string ⟨#[105, 116, 32, 105, 115, 32, 110, 111, 116, 32, 114, 105, 103, 104, 116]⟩] 249)).push (.cells #[.string ⟨#[116, 104, 101, 114, 101, 32, 105, 115, 32, 110, 111, 32, 115, 117, 99, 104, 32, 116, 104, 105, 110, 103]⟩] 249)).push (.cells #[.string ⟨#[116, 104, 101, 114, 101, 32, 105, 115, 32, 111, 110, 101, 32, 111, 102, 32, 116, 104, 97, 116, 32, 110, 97, 109, 101]⟩] 249)).push (.cells #[.string ⟨#[116, 104, 101, 114, 101, 32, 97, 114, 101, 32, 97, 115, 32, 109, 97, 110, 121, 32, 97, 115, 32, 109, 97, 121, 32, 98, 101]⟩] 249)).push (.cells #[.string ⟨#[105, 116, 32, 105, 115, 32, 105, 110, 32, 117, 115, 101]⟩] 249)).push (.cells #[.string ⟨#[105, 116, 32, 105, 115, 32, 98, 111, 117, 110, 100, 32, 97, 108, 114, 101, 97, 100, 121]⟩] 249)).push (.cells #[.string ⟨#[105, 116, 32, 105, 115, 32, 110, 111, 116, 32, 116, 105, 109, 101, 32, 102, 111, 114, 32, 105, 116, 32, 121, 101, 116]⟩] 249)).push (.cells #[.string ⟨#[105, 116, 32, 105, 115, 32, 105, 110, 32, 97, 110, 111, 116, 104, 101, 114, 32, 115, 116, 97, 116, 101, 32, 116, 104, 97, 110, 32, 105, 116, 32, 111, 117, 103, 104, 116, 32, 116, 111, 32, 98, 101]⟩] 249)).push (.cells #[.string ⟨#[105, 116, 32, 105, 115, 32, 110, 111, 32, 97, 99, 116]⟩] 249)) }
set_option maxRecDepth 100000 in
theorem laidWorld_met (os : Os) (args : Array Value) : laidMetH Tryz.prog Rows.fnBindRow.laid ((laidWorld os).forCall (fun _ _ => 0) ⟨#[], args, []⟩).memory :=
  laidMetH_of_parts (laidMet_of_run' 8 (by kernel_rfl) (by kernel_rfl)) (by kernel_rfl)

set_option linter.unusedVariables false in
set_option maxRecDepth 100000 in
theorem lifted (os : Os) (started : os.Started) (H : Type) (enc : TypeId × Value → H) :
    ReturnsInHanded {} Tryz.checked os 3 .any (fun w args => (Rows.fnBindSpec.pre enc Tryz.prog Tryz.f3 [] false w args ∧ laidMetH Tryz.prog Rows.fnBindRow.laid w) ∧ sizedMet enc Tryz.prog Tryz.f3 (OpenSpec.ofChange Rows.fnBindSpec) false w args)
      (Rows.fnBindSpec.post enc Tryz.prog Tryz.f3 false true false false) := by
  refine returnsInHanded_of_change_and (C := Tryz.checked) (X := fun w _ => laidMetH Tryz.prog Rows.fnBindRow.laid w) (fun _ _ _ hh h => h.of_heap hh) own started (by kernel_rfl) Tryz.func3
    (ChangeSpec.witness_at (enc := enc) (C := Tryz.checked) (os := os) (X := fun w _ => laidMetH Tryz.prog Rows.fnBindRow.laid w) false (laidWorld os) #[.slice none 0 0, .slice none 0 0] 8 rfl (by kernel_rfl) (by kernel_rfl) (by kernel_rfl) (by kernel_rfl) (by kernel_rfl) (laidWorld_met os _)) ?_
  intro W base args ds gs before hval0 hW _ _ hL _
  have hval : ∀ (j : Nat) t v, Tryz.f3.params[j]? = some t → args[j]? = some v → Value.okWide Tryz.prog W .any base t v := hval0
  have hW' := hW
  obtain ⟨p, q, hA0, hV, rfl, hfz, hnd⟩ := hW
  have hA : DataW.TrodAll enc Tryz.prog W 0 (fun _ => true) true Tryz.f3.params.toList args.toList ds p := hA0
  rw [Tryz.params3] at hA hval
  obtain ⟨v0, vs0, d0, ds0, p0, q0, hargs, rfl, rfl, h0, r0⟩ := trodAll_cons hA
  obtain ⟨v1, vs1, d1, ds1, p1, q1, rfl, rfl, rfl, h1, r1⟩ := trodAll_cons r0
  obtain ⟨rfl, rfl, rfl⟩ := trodAll_nil r1
  obtain rfl : args = #[v0, v1] := by cases args; simp_all
  have hV1 := hV
  obtain ⟨_, _, _, _, _, _, _, _, _, _, rfl⟩ := Rc.anT (Rc.rN _ _ _ hV)
  obtain ⟨a0, len0, cap0, rfl⟩ := okWide_slice Tryz.underlying22 (hval 0 22 v0 rfl rfl)
  have k0 := h0
  have lt0 : ∀ x ∈ p0, x.block < W.heap.size := by obtain ⟨m, hm⟩ := k0; exact DataW.trod_lt m _ _ _ hm
  obtain ⟨z0, w0⟩ : ∃ zs, pN .u8 W a0 len0 cap0 zs := by
    obtain ⟨fuel, hf⟩ := h0
    rcases open_ints Tryz.underlying22 Tryz.underlying5 (by kernel_rfl) hf with ⟨hcs, _⟩ | ⟨x, l, c, zs, hcs, _, hl, hm, hz, _, hcell, hwz⟩
    · simp [Value.cells] at hcs
      obtain ⟨rfl, rfl, rfl⟩ := hcs
      exact ⟨[], .inl ⟨rfl, rfl, rfl, rfl⟩⟩
    · simp [Value.cells] at hcs
      obtain ⟨rfl, rfl, rfl⟩ := hcs
      exact ⟨zs, .inr ⟨_, rfl, hl, hm, by simpa using hz, hcell, hwz⟩⟩
  obtain ⟨a1, len1, cap1, rfl⟩ := okWide_slice Tryz.underlying22 (hval 1 22 v1 rfl rfl)
  have k1 := h1
  have lt1 : ∀ x ∈ p1, x.block < W.heap.size := by obtain ⟨m, hm⟩ := k1; exact DataW.trod_lt m _ _ _ hm
  obtain ⟨z1, w1⟩ : ∃ zs, pN .u8 W a1 len1 cap1 zs := by
    obtain ⟨fuel, hf⟩ := h1
    rcases open_ints Tryz.underlying22 Tryz.underlying5 (by kernel_rfl) hf with ⟨hcs, _⟩ | ⟨x, l, c, zs, hcs, _, hl, hm, hz, _, hcell, hwz⟩
    · simp [Value.cells] at hcs
      obtain ⟨rfl, rfl, rfl⟩ := hcs
      exact ⟨[], .inl ⟨rfl, rfl, rfl, rfl⟩⟩
    · simp [Value.cells] at hcs
      obtain ⟨rfl, rfl, rfl⟩ := hcs
      exact ⟨zs, .inr ⟨_, rfl, hl, hm, by simpa using hz, hcell, hwz⟩⟩
  clear hA0 hval0
  refine (vU a0 len0 cap0 z0 a1 len1 cap1 z1 W w0 w1 (ers_of_laid hL)).mono fun e W' ⟨he, bel⟩ => ?_
  subst he
  exact ⟨_, rfl, _, _, _, [], _, q, hW', trodAll_mk1 (shut_bool Tryz.underlying4 _), (trodAll_cons_mk (Below.trod laidOut (by kernel_rfl) (of_decide_eq_true (by kernel_rfl)) k0 bel lt0) (trodAll_cons_mk (Below.trod laidOut (by kernel_rfl) (of_decide_eq_true (by kernel_rfl)) k1 bel lt1) trodAll_mk0)), bel.trodVars laidOut (by kernel_rfl) hV1, bel.frame _, fun h => by cases h⟩

theorem over : Rows.fnBindRow.holds Tryz.pinned (OpenSpec.ofChange Rows.fnBindSpec) :=
  OpenClaim.holds_of_wide 3 Tryz.f3 rfl rfl rfl rfl rfl rfl rfl ⟨rfl, rfl, rfl, rfl, rfl⟩ rfl rfl rfl rfl rfl (by kernel_rfl) Tryz.func3 (by kernel_rfl)
    (of_decide_eq_true (by kernel_rfl)) (by unfold Func.isWrapper; first | (rw [if_pos (by decide +kernel)]; kernel_rfl) | (rw [if_neg (by decide +kernel)]; exact ⟨rfl, rfl⟩))
    (fun os started H enc _ => lifted os started H enc)

theorem plain (f : FuncId) (fn : Func) (hf : Tryz.pinned.checked.prog.funcNamed "loop.example/g00571/laws.FnBind" = some f) (hfn : Tryz.pinned.checked.prog.funcs[f]? = some fn) :
    true = Tryz.pinned.checked.prog.looks [] ∧ ∀ (j : Nat) t, fn.params[j]? = some t → Tryz.pinned.checked.prog.wantsStandIn t = false := by
  obtain rfl : f = 3 := Option.some.inj ((show Tryz.prog.funcNamed "loop.example/g00571/laws.FnBind" = some 3 by kernel_rfl).symm.trans hf) |>.symm
  obtain rfl : fn = Tryz.f3 := (Option.some.inj (Tryz.func3.symm.trans hfn)).symm
  refine ⟨by kernel_rfl, fun j t ht => ?_⟩
  rw [Tryz.params3] at ht
  have hm := Array.mem_of_getElem? ht
  simp at hm
  rcases hm with rfl
  exact (show Tryz.prog.wantsStandIn 22 = false by kernel_rfl)
end fnBind

theorem fnBind_holds : Rows.FnBindSaid := fnBind.over
theorem fnBind_card : Rows.FnBindCardSaid :=
  Claim7.holds_tied_plain_at .later [] _ _ _ _ fnBind_holds (fun _ h => by cases h) (by kernel_rfl) (fun _ h => by cases h) fnBind_row_tie rfl ⟨rfl, rfl⟩ (by kernel_rfl) rfl fnBind.plain (by kernel_rfl)
#print axioms fnBind_card
end Go.Proofs.YtcnmlpiffcldkaaGreatDoor

/-
  Class: whether a row of them is right.
-/
import Derived.Test.YtcljghpfclegmaaGreatDoorFClass
namespace Go.Proofs.YtcljghpfclegmaaGreatDoor
open Go.RowKit
namespace Rc
open Mk

set_option maxRecDepth 100000 in
set_option maxHeartbeats 3200000 in
theorem rowrkd_any (a : Option Addr) (len cap : Nat) (xs : List Kd) (most : Int) (w : World) (hr : RRow w a len cap 4 (xs.map kdF)) :
    Calls Tryz.prog 146 #[.slice a len cap, .int .i64 most] w (BoolB (RowOk kdOk Kd.n xs most) w) := by
  have HR := hidK hr
  have hxl : xs.length = len := by simpa using hr.1
  have hlc : len ≤ 9223372036854775807 := Nat.le_trans hr.2.1 hr.2.2.1
  clear hr
  have hmcalled : ∀ (v : Value) (w : World), (method 371 52 v "loop.example/g00571/impl.called").run Tryz.prog w = .ok (251, v) w := fun _ _ => by kernel_rfl
  have hmright : ∀ (v : Value) (w : World), (method 371 52 v "loop.example/g00571/impl.right").run Tryz.prog w = .ok (252, v) w := fun _ _ => by kernel_rfl
  by_cases hmo : most < (len : Int)
  · go_enter Tryz.func146, Tryz.ntmps146
    go_wp2
    go_ret
    exact BoolB.f (fun h => by have := h.1; omega) (Below.refl _ _)
  go_enter Tryz.func146, Tryz.ntmps146
  go_wp2
  go_loopw [5, 14] (fun q i wr => ∃ (k : Nat) (y : ByteArray), k ≤ len ∧ q = .string y ∧ i = .int .i64 k ∧ Hid (k = 0 → y = ⟨#[]⟩) ∧ Hid (∀ z, 0 < k → xs[k - 1]? = some z → z.n = y) ∧ Hid (∀ (j : Nat) z, j < k → xs[j]? = some z → kdOk z) ∧ Hid (∀ (j : Nat) z u, j + 1 < k → xs[j + 1]? = some z → xs[j]? = some u → Op.bytesLess u.n.toList z.n.toList = true) ∧ Hid (Below w.heap.size w wr)) (fun _ i _ => len - (intOf i).toNat)
  case atStart => exact ⟨0, _, by omega, rfl, rfl, fun _ => rfl, fun _ h => absurd h (by omega), fun _ _ h => absurd h (by omega), fun _ _ _ h => absurd h (by omega), Below.refl _ _⟩
  case round =>
    obtain ⟨k, y, hk, rfl, rfl, H0, H1, HE, HO, HB⟩ := hrel
    by_cases hlt : k < len
    · obtain ⟨b, o, x, rfl, hb, hx, hat⟩ := kd_at (HR.out.below HB.out) hlt
      obtain ⟨z0, z3, c0, c1, c2, c3⟩ := kd_cells hat
      have HX := hidK hx
      have HC := hidK (fun v : World => calledkd_any x v)
      have HB1 := hidK (HB.out.alloc HB.out.size (.cells #[.string x.n, .bool x.x, .bool x.y, .string x.z] 52))
      have HRt := hidK (rightkd_any x (wr.alloc (.cells #[.string x.n, .bool x.x, .bool x.y, .string x.z] 52)) z0 z3)
      clear hat hx z0 z3
      go_wp2_with fail
      refine HRt.out.mono ?_
      rintro e w1 ⟨r, rfl, hrt, hb1⟩
      obtain ⟨g1, -, -⟩ := slotK hb1
      have hs1 := hb1.size
      rw [show (wr.alloc (.cells #[.string x.n, .bool x.x, .bool x.y, .string x.z] 52)).heap.size = wr.heap.size + 1 from by simp] at hs1
      have HB2 := hidK (HB1.out.trans (hb1.mono HB1.out.size))
      have d0 : w1.cell? ⟨wr.heap.size, 0, none⟩ = some (.string x.n) := cellK g1 0
      have d1 : w1.cell? ⟨wr.heap.size, 1, none⟩ = some (.bool x.x) := cellK g1 1
      have d2 : w1.cell? ⟨wr.heap.size, 2, none⟩ = some (.bool x.y) := cellK g1 2
      have d3 : w1.cell? ⟨wr.heap.size, 3, none⟩ = some (.string x.z) := cellK g1 3
      have HG := hidK g1
      have HI := hidK hrt
      clear g1 hb1 HB1 HRt hrt c0 c1 c2 c3
      cases r
      · go_wp2
        go_ret
        exact BoolB.f (fun h => by have := HI.out.2 (h.2.1 k x HX.out); cases this) HB2.out
      have HOK := hidK (HI.out.1 rfl)
      clear HI
      go_wp2_with fail
      refine (HC.out _).mono ?_
      rintro e w2 ⟨rfl, hb2⟩
      have HB3 := hidK (HB2.out.trans (hb2.mono (Nat.le_trans HB.out.size (Nat.le_trans (Nat.le_succ _) hs1))))
      have g2 := (hb2.block wr.heap.size (by omega)).trans HG.out
      have hs2 := hb2.size
      have htri := less_tri y.toList x.n.toList
      clear HG hb2 HB2 d0 d1 d2 d3
      have d0 : w2.cell? ⟨wr.heap.size, 0, none⟩ = some (.string x.n) := cellK g2 0
      have d1 : w2.cell? ⟨wr.heap.size, 1, none⟩ = some (.bool x.x) := cellK g2 1
      have d2 : w2.cell? ⟨wr.heap.size, 2, none⟩ = some (.bool x.y) := cellK g2 2
      have d3 : w2.cell? ⟨wr.heap.size, 3, none⟩ = some (.string x.z) := cellK g2 3
      clear g2
      cases hless : Op.bytesLess y.toList x.n.toList
      · rw [hless] at htri
        go_wp2
        go_ret
        refine BoolB.f (fun h => ?_) HB3.out
        by_cases hk0 : 0 < k
        · have hz : xs[k - 1]? = some (xs[k - 1]'(by omega)) := List.getElem?_eq_getElem _
          have h2 := H1.out _ hk0 hz
          have h3 := h.2.2 (k - 1) x _ (by rw [Nat.sub_add_cancel hk0]; exact HX.out) hz
          rw [h2, hless] at h3
          cases h3
        · have := H0.out (by omega)
          subst this
          have hnm : 1 ≤ x.n.size := HOK.out.1.1
          rw [less_nil hnm] at hless
          cases hless
      · rw [hless] at htri
        go_wp2_with fail
        refine (HC.out _).mono ?_
        rintro e w3 ⟨rfl, hb3⟩
        have HB4 := hidK (HB3.out.trans (hb3.mono (Nat.le_trans HB.out.size (by omega))))
        clear hb3 d0 d1 d2 d3
        go_wp2_with fail
        refine ⟨⟨k + 1, x.n, by omega, rfl, by go_num, fun h => absurd h (by omega), fun z _ hz => ?_, fun j z hj hz => ?_, fun j z u hj hz hu => ?_, HB4.out⟩, by simp [intOf]; omega⟩
        · rw [Nat.add_sub_cancel, HX.out] at hz
          rw [Option.some.inj hz]
        · by_cases e : j = k
          · subst e
            rw [HX.out] at hz
            obtain rfl := Option.some.inj hz
            exact HOK.out
          · exact HE.out j z (by omega) hz
        · by_cases e : j + 1 = k
          · subst e
            rw [HX.out] at hz
            obtain rfl := Option.some.inj hz
            have := H1.out u (by omega) (by rw [Nat.add_sub_cancel]; exact hu)
            rw [this]
            exact hless
          · exact HO.out j z u (by omega) hz hu
    · obtain rfl : k = len := by omega
      go_wp2
      go_ret
      refine BoolB.t ⟨by omega, fun j z hz => HE.out j z (by have := (List.getElem?_eq_some_iff.1 hz).1; omega) hz, fun j z u hz hu => HO.out j z u (by have := (List.getElem?_eq_some_iff.1 hz).1; omega) hz hu⟩ HB.out

/-- The number of the one of that name, or -1. -/
def Sxkd (xs : List Kd) (t : ByteArray) (w : World) (e : Ending) (w' : World) : Prop :=
  Below w.heap.size w w' ∧ ((∃ (j : Nat) (x : Kd), xs[j]? = some x ∧ x.n = t ∧ e = .returned (.int .i64 j)) ∨ ((∀ (j : Nat) x, xs[j]? = some x → ¬ x.n = t) ∧ e = .returned (.int .i64 (-1))))

set_option maxRecDepth 100000 in
set_option maxHeartbeats 1600000 in
theorem sxkd_any (d : Ad) (now : Int) (xs : List Kd) (t : ByteArray) (w : World) (hr : RRow w d.a2 d.l2 d.c2 4 (xs.map kdF)) :
    Calls Tryz.prog 94 #[.agg #[.slice d.a1 d.l1 d.c1, .slice d.a2 d.l2 d.c2, .slice d.a3 d.l3 d.c3, .slice d.a4 d.l4 d.c4, .slice d.a5 d.l5 d.c5, .int .i64 now], .string t] w (Sxkd xs t w) := by
  have HR := hidK hr
  have hxl : xs.length = d.l2 := by simpa using hr.1
  have hlc : d.l2 ≤ 9223372036854775807 := Nat.le_trans hr.2.1 hr.2.2.1
  clear hr
  go_enter Tryz.func94, Tryz.ntmps94
  go_wp2
  go_loopw [5] (fun i wr => ∃ k : Nat, k ≤ d.l2 ∧ i = .int .i64 k ∧ wr = w.alloc (.cells #[.slice d.a1 d.l1 d.c1, .slice d.a2 d.l2 d.c2, .slice d.a3 d.l3 d.c3, .slice d.a4 d.l4 d.c4, .slice d.a5 d.l5 d.c5, .int .i64 now] 37) ∧ Hid (∀ (j : Nat) z, j < k → xs[j]? = some z → ¬ z.n = t)) (fun i _ => d.l2 - (intOf i).toNat)
  case atStart => exact ⟨0, by omega, rfl, rfl, fun _ _ h => absurd h (by omega)⟩
  case round =>
    obtain ⟨k, hk, rfl, rfl, HE⟩ := hrel
    by_cases hlt : k < d.l2
    · obtain ⟨b, o, x, ha, hb, hx, hat⟩ := kd_at HR.out hlt
      obtain ⟨-, -, c0, -, -, -⟩ := kd_cells hat
      have HX := hidK hx
      clear hat hx
      by_cases hn : x.n = t
      · have hq := tl_yes hn
        have HN := hidK hn
        clear hn
        go_wp2
        go_ret
        exact ⟨below1 _ _, .inl ⟨k, x, HX.out, HN.out, rfl⟩⟩
      · have hq := tl_no hn
        have HN := hidK hn
        clear hn
        go_wp2
        refine ⟨⟨k + 1, by omega, by go_num, by rw [ha], fun j z hj hz => ?_⟩, by simp [intOf]; omega⟩
        by_cases e : j = k
        · subst e
          rw [HX.out] at hz
          obtain rfl := Option.some.inj hz
          exact HN.out
        · exact HE.out j z (by omega) hz
    · obtain rfl : k = d.l2 := by omega
      go_wp2
      go_ret
      exact ⟨below1 _ _, .inr ⟨fun j z hz => HE.out j z (by have := (List.getElem?_eq_some_iff.1 hz).1; omega) hz, rfl⟩⟩

end Rc
end Go.Proofs.YtcljghpfclegmaaGreatDoor

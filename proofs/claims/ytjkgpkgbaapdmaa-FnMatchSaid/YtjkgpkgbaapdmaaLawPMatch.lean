/-
  The law FnMatch, walked: it returns true at whatever two slices of bytes.
-/
import Derived.Test.YtjkgpkgbaapdmaaMatchM
import Derived.Test.YtjkgpkgbaapdmaaDrawN
import Derived.Test.YtjkgpkgbaapdmaaDrawO
import Derived.Test.YtjkgpkgbaapdmaaDrawP
import Derived.Test.YtjkgpkgbaapdmaaIsRow
import Derived.Deep.Cut
import Derived.Deep.CutRange
namespace Go.Proofs.Ytjkgpkgbaapdmaa
open Go.RowKit

/-- The best again, its list elsewhere. -/
def BestSame (u : Vd) (p : Int) (v : Value) (w : World) : Prop := ∃ a l c, v = .agg #[.string u.n, .int .i64 u.c, .string u.z, .string u.k, .bool u.x, .string u.m, .bool u.y, .slice a l c, .int .i64 p] ∧ TxRow w a l c u.zs
theorem BestSame.mono (u : Vd) (p : Int) : Fact.Mono (BestSame u p) := fun _ _ _ ⟨a, l, c, h, h1⟩ hb => ⟨a, l, c, h, h1.below hb⟩
def VolSame (u : Vd) (v : Value) (w : World) : Prop := ∃ a l c, v = .agg #[.string u.n, .int .i64 u.c, .string u.z, .string u.k, .bool u.x, .string u.m, .bool u.y, .slice a l c] ∧ TxRow w a l c u.zs
theorem VolSame.mono (u : Vd) : Fact.Mono (VolSame u) := fun _ _ _ ⟨a, l, c, h, h1⟩ hb => ⟨a, l, c, h, h1.below hb⟩
theorem row_nil (w : World) : TxRow w none 0 0 [] := ⟨rfl, Nat.le_refl _, by omega, fun j x hx => by simp at hx, .inl rfl⟩
theorem ex_bool (p : Prop) : ∃ r : Bool, (r = true ↔ p) := by
  by_cases h : p
  · exact ⟨true, by simp [h]⟩
  · exact ⟨false, by simp [h]⟩
theorem push_last (w : World) (o : Obj) : (w.alloc o).heap[w.heap.size]? = some o := Array.getElem?_push_size

set_option linter.unusedVariables false in
set_option maxRecDepth 10000 in
set_option maxHeartbeats 12800000 in
theorem fnMatch_go (c m : Value) (q0 q1 : Nat) (w : World) (hc : ∃ a cap, c = .slice a q0 cap) (hm : ∃ a cap, m = .slice a q1 cap) (R0 : RowIn w.heap.size w c q0) (R1 : RowIn w.heap.size w m q1) (h0 : q0 ≤ 1048576) (h1 : q1 ≤ 1048576) :
    Calls Try.prog 3 #[c, m] w fun e w' => e = .returned (.bool true) ∧ Below w.heap.size w w' := by
  obtain ⟨ac, cc, rfl⟩ := hc
  obtain ⟨am, cm, rfl⟩ := hm
  have HR0 : Hid (RowIn w.heap.size w (.slice ac q0 cc) q0) := R0
  have HR1 : Hid (RowIn w.heap.size w (.slice am q1 cm) q1) := R1
  clear R0 R1
  go_enter Try.func3, Try.ntmps3
  go_wp2_with fail
  refine (Dk.drawBest_any _ q0 _ HR0.out).mono ?_
  rintro e w1 ⟨a, l, cp, vs, n1, c1, k1, x1, o1, t1, rfl, ⟨sn1, sk1, su1, st1⟩, hvs, hvl, hb⟩
  have HV1 := hidK (hvs.below (below1 w1 (.cells #[.string n1, .int .i64 c1, .string k1, .bool x1, .string o1] 25)))
  have HB1 := hidK (hb.trans ((below1 w1 (.cells #[.string n1, .int .i64 c1, .string k1, .bool x1, .string o1] 25)).mono hb.size))
  have GC1 : Hid ((w1.alloc (.cells #[.string n1, .int .i64 c1, .string k1, .bool x1, .string o1] 25)).heap[w1.heap.size]? = some (.cells #[.string n1, .int .i64 c1, .string k1, .bool x1, .string o1] 25 (0, 0))) := Array.getElem?_push_size
  clear hvs hb
  go_wp2_with fail
  refine (ibest_any a l cp vs n1 c1 k1 x1 o1 t1 _ (by omega) (by omega) (by omega) (by omega) HV1.out).mono ?_
  rintro e w2 ⟨u, p, ua, ul, uc, rfl, hbest, htx, -, hb⟩
  have HBE := hidK hbest
  have hb2 := hb.trans ((below1 w2 (.cells #[.string u.n, .int .i64 u.c, .string u.z, .string u.k, .bool u.x, .string u.m, .bool u.y, .slice ua ul uc, .int .i64 p] 32)).mono hb.size)
  have HB2 := hidK (HB1.out.trans (hb2.mono HB1.out.size))
  have GC2 := hidK ((hb2.block _ (lt_of_some GC1.out)).trans GC1.out)
  have GX2 : Hid ((w2.alloc (.cells #[.string u.n, .int .i64 u.c, .string u.z, .string u.k, .bool u.x, .string u.m, .bool u.y, .slice ua ul uc, .int .i64 p] 32)).heap[w2.heap.size]? = some (.cells #[.string u.n, .int .i64 u.c, .string u.z, .string u.k, .bool u.x, .string u.m, .bool u.y, .slice ua ul uc, .int .i64 p] 32 (0, 0))) := Array.getElem?_push_size
  have HV2 := hidK (HV1.out.below hb2)
  have HT2 := hidK (htx.below (below1 w2 (.cells #[.string u.n, .int .i64 u.c, .string u.z, .string u.k, .bool u.x, .string u.m, .bool u.y, .slice ua ul uc, .int .i64 p] 32)))
  have HRQ := hidK (Dk.RowIn.up (HR1.out.below HB2.out) HB2.out.size)
  clear hbest htx hb hb2 HB1 HV1 GC1
  go_wp2_with fail
  refine (Dk.drawServes_any _ q1 _ HRQ.out).mono ?_
  rintro e w3 ⟨n2, c2, z2, k2, x2, m2, y2, va, vl, vc, zs2, n3, c3, k3, x3, o3, t3, rfl, ⟨sn2, sz2, sk2, sm2⟩, ⟨sn3, sk3, su3, st3⟩, htx, hb⟩
  have hb3 := hb.trans ((below2 w3 (.cells #[.string n2, .int .i64 c2, .string z2, .string k2, .bool x2, .string m2, .bool y2, .slice va vl vc] 30) (.cells #[.string n3, .int .i64 c3, .string k3, .bool x3, .string o3] 25)).mono hb.size)
  have HB3 := hidK (HB2.out.trans (hb3.mono HB2.out.size))
  have GC3 := hidK ((hb3.block _ (lt_of_some GC2.out)).trans GC2.out)
  have GX3 := hidK ((hb3.block _ (lt_of_some GX2.out)).trans GX2.out)
  have GV3 := hidK (heap2_0 w3 (.cells #[.string n2, .int .i64 c2, .string z2, .string k2, .bool x2, .string m2, .bool y2, .slice va vl vc] 30) (.cells #[.string n3, .int .i64 c3, .string k3, .bool x3, .string o3] 25))
  have GY3 := hidK (heap2_1 w3 (.cells #[.string n2, .int .i64 c2, .string z2, .string k2, .bool x2, .string m2, .bool y2, .slice va vl vc] 30) (.cells #[.string n3, .int .i64 c3, .string k3, .bool x3, .string o3] 25))
  have HV3 := hidK (HV2.out.below hb3)
  have HT3 := hidK (HT2.out.below hb3)
  have HS3 := hidK (htx.below (below2 w3 (.cells #[.string n2, .int .i64 c2, .string z2, .string k2, .bool x2, .string m2, .bool y2, .slice va vl vc] 30) (.cells #[.string n3, .int .i64 c3, .string k3, .bool x3, .string o3] 25)))
  have HRP := hidK (Dk.RowIn.up (HR1.out.below HB3.out) HB3.out.size)
  clear htx hb hb3 HB2 HV2 HT2 GC2 GX2 HRQ
  go_wp2_with fail
  refine (Dk.drawMake_any _ q1 _ HRP.out).mono ?_
  rintro e w4 ⟨n4, c4, k4, x4, o4, n5, x5, y5, z5, t5, rfl, ⟨sn4, sk4, su4, st5⟩, ⟨sn5, sz5⟩, hb⟩
  have hb4 := hb.trans ((below2 w4 (.cells #[.string n4, .int .i64 c4, .string k4, .bool x4, .string o4] 25) (.cells #[.string n5, .bool x5, .bool y5, .string z5] 37)).mono hb.size)
  have HB4 := hidK (HB3.out.trans (hb4.mono HB3.out.size))
  have GC4 := hidK ((hb4.block _ (lt_of_some GC3.out)).trans GC3.out)
  have GX4 := hidK ((hb4.block _ (lt_of_some GX3.out)).trans GX3.out)
  have GV4 := hidK ((hb4.block _ (lt_of_some GV3.out)).trans GV3.out)
  have GY4 := hidK ((hb4.block _ (lt_of_some GY3.out)).trans GY3.out)
  have GM4 := hidK (heap2_0 w4 (.cells #[.string n4, .int .i64 c4, .string k4, .bool x4, .string o4] 25) (.cells #[.string n5, .bool x5, .bool y5, .string z5] 37))
  have GK4 := hidK (heap2_1 w4 (.cells #[.string n4, .int .i64 c4, .string k4, .bool x4, .string o4] 25) (.cells #[.string n5, .bool x5, .bool y5, .string z5] 37))
  have HV4 := hidK (HV3.out.below hb4)
  have HT4 := hidK (HT3.out.below hb4)
  have HS4 := hidK (HS3.out.below hb4)
  clear hb hb4 HB3 HV3 HT3 HS3 GC3 GX3 GV3 GY3 HRP HR1
  go_wp2_with fail
  refine (imake_any n4 c4 k4 x4 o4 n5 x5 y5 z5 t5 _ (by omega) (by omega) (by omega) (by omega) (by omega) (by omega)).mono ?_
  rintro e w5 ⟨n0, c0, z0, k0, x0, m0, p0, rfl, hmk, hb⟩
  have HMK := hidK hmk
  have hb5 := hb.trans ((below1 w5 (.cells #[.string n0, .int .i64 c0, .string z0, .string k0, .bool x0, .string m0, .bool false, .slice none 0 0, .int .i64 p0] 32)).mono hb.size)
  have HB5 := hidK (HB4.out.trans (hb5.mono HB4.out.size))
  have GC5 := hidK ((hb5.block _ (lt_of_some GC4.out)).trans GC4.out)
  have GX5 := hidK ((hb5.block _ (lt_of_some GX4.out)).trans GX4.out)
  have GV5 := hidK ((hb5.block _ (lt_of_some GV4.out)).trans GV4.out)
  have GY5 := hidK ((hb5.block _ (lt_of_some GY4.out)).trans GY4.out)
  have GM5 := hidK ((hb5.block _ (lt_of_some GM4.out)).trans GM4.out)
  have GK5 := hidK ((hb5.block _ (lt_of_some GK4.out)).trans GK4.out)
  have GZ5 : Hid ((w5.alloc (.cells #[.string n0, .int .i64 c0, .string z0, .string k0, .bool x0, .string m0, .bool false, .slice none 0 0, .int .i64 p0] 32)).heap[w5.heap.size]? = some (.cells #[.string n0, .int .i64 c0, .string z0, .string k0, .bool x0, .string m0, .bool false, .slice none 0 0, .int .i64 p0] 32 (0, 0))) := Array.getElem?_push_size
  have HV5 := hidK (HV4.out.below hb5)
  have HT5 := hidK (HT4.out.below hb5)
  have HS5 := hidK (HS4.out.below hb5)
  have HRP := hidK (Dk.RowIn.up (HR0.out.below HB5.out) HB5.out.size)
  clear hmk hb hb5 HB4 HV4 HT4 HS4 GC4 GX4 GV4 GY4 GM4 GK4
  go_wp2_with fail
  refine (Dk.drawMay_any _ q0 _ HRP.out).mono ?_
  rintro e w6 ⟨n6, x6, y6, z6, t6, rfl, sn6, sz6, st6, hb⟩
  have hb6 := hb.trans ((below1 w6 (.cells #[.string n6, .bool x6, .bool y6, .string z6] 37)).mono hb.size)
  have HB6 := hidK (HB5.out.trans (hb6.mono HB5.out.size))
  have GC6 := hidK ((hb6.block _ (lt_of_some GC5.out)).trans GC5.out)
  have GX6 := hidK ((hb6.block _ (lt_of_some GX5.out)).trans GX5.out)
  have GV6 := hidK ((hb6.block _ (lt_of_some GV5.out)).trans GV5.out)
  have GY6 := hidK ((hb6.block _ (lt_of_some GY5.out)).trans GY5.out)
  have GM6 := hidK ((hb6.block _ (lt_of_some GM5.out)).trans GM5.out)
  have GK6 := hidK ((hb6.block _ (lt_of_some GK5.out)).trans GK5.out)
  have GZ6 := hidK ((hb6.block _ (lt_of_some GZ5.out)).trans GZ5.out)
  have GN6 : Hid ((w6.alloc (.cells #[.string n6, .bool x6, .bool y6, .string z6] 37)).heap[w6.heap.size]? = some (.cells #[.string n6, .bool x6, .bool y6, .string z6] 37 (0, 0))) := Array.getElem?_push_size
  have HV6 := hidK (HV5.out.below hb6)
  have HT6 := hidK (HT5.out.below hb6)
  have HS6 := hidK (HS5.out.below hb6)
  clear hb hb6 HB5 HV5 HT5 HS5 GC5 GX5 GV5 GY5 GM5 GK5 GZ5 HRP HR0
  go_wp2_with fail
  have hW6 : Hid (Below w.heap.size w (w6.alloc (.cells #[.string n6, .bool x6, .bool y6, .string z6] 37))) := HB6
  clear HB6
  generalize (w6.alloc (.cells #[.string n6, .bool x6, .bool y6, .string z6] 37)) = W at *
  generalize w6.heap.size = b6 at *
  generalize w5.heap.size = b5 at *
  generalize w4.heap.size = b4 at *
  generalize w3.heap.size = b3 at *
  generalize w2.heap.size = b2 at *
  generalize w1.heap.size = b1 at *
  clear w1 w2 w3 w4 w5 w6
  obtain ⟨rs, hrs⟩ := ex_bool (ServeOk n2 c2 z2 k2 x2 m2 y2 zs2 n3 c3 k3 x3 o3 t3)
  obtain ⟨rm, hrm⟩ := ex_bool (MayOk n6 z6 t6)
  have HRS := hidK hrs
  have HRM := hidK hrm
  clear hrs hrm
  go_cut [118] from 59 to 118 (fun r wx => r = .bool false ∧ Below W.heap.size W wx)
  case first =>
    rename_i J0 K0 hJ0 hK0
    refine wp_region_grow (back := none) (by kernel_rfl) (List.append_nil _).symm (by kernel_rfl) ?_
    refine Grow.stepC (.pointer (some ⟨b2, 8, none⟩)) rfl ?_ ?_
    · refine Obl.plain rfl ?_
      intro ac wg K hsz hW hf hK; clear hsz
      have e8 := hf 8 (by decide)
      simp [slotFact, List.lookup] at e8
      clear hf
      go_simp
      refine hK _ _ (Below.refl _ _) ?_
      first | with_reducible rfl | (simp; done) | (simp; omega) | rfl
    refine Grow.stepC (.int .i64 p) rfl ?_ ?_
    · refine Obl.plain rfl ?_
      intro ac wg K hsz hW hf hK; clear hsz
      have e59 := hf 59 (by decide)
      simp [slotFact, List.lookup] at e59
      clear hf
      have gd := (hW.block _ (lt_of_some GX6.out)).trans GX6.out
      have d8 : wg.cell? ⟨b2, 8, none⟩ = some (.int .i64 p) := cellK gd 8
      clear gd
      go_simp
      refine hK _ _ (Below.refl _ _) ?_
      first | with_reducible rfl | (simp; done) | (simp; omega) | rfl
    refine Grow.stepC (.slice a l cp) rfl ?_ ?_
    · refine Obl.plain rfl ?_
      intro ac wg K hsz hW hf hK; clear hsz
      have e5 := hf 5 (by decide)
      simp [slotFact, List.lookup] at e5
      clear hf
      go_simp
      refine hK _ _ (Below.refl _ _) ?_
      first | with_reducible rfl | (simp; done) | (simp; omega) | rfl
    refine Grow.stepC (.agg #[.string n1, .int .i64 c1, .string k1, .bool x1, .string o1]) rfl ?_ ?_
    · refine Obl.plain rfl ?_
      intro ac wg K hsz hW hf hK; clear hsz
      have e6 := hf 6 (by decide)
      simp [slotFact, List.lookup] at e6
      clear hf
      have gd := (hW.block _ (lt_of_some GC6.out)).trans GC6.out
      have d0 : wg.cell? ⟨b1, 0, none⟩ = some (.string n1) := cellK gd 0
      have d1 : wg.cell? ⟨b1, 1, none⟩ = some (.int .i64 c1) := cellK gd 1
      have d2 : wg.cell? ⟨b1, 2, none⟩ = some (.string k1) := cellK gd 2
      have d3 : wg.cell? ⟨b1, 3, none⟩ = some (.bool x1) := cellK gd 3
      have d4 : wg.cell? ⟨b1, 4, none⟩ = some (.string o1) := cellK gd 4
      clear gd
      go_simp
      refine hK _ _ (Below.refl _ _) ?_
      first | with_reducible rfl | (simp; done) | (simp; omega) | rfl
    refine Grow.stepC (.string t1) rfl ?_ ?_
    · refine Obl.plain rfl ?_
      intro ac wg K hsz hW hf hK; clear hsz
      have e7 := hf 7 (by decide)
      simp [slotFact, List.lookup] at e7
      clear hf
      go_simp
      refine hK _ _ (Below.refl _ _) ?_
      first | with_reducible rfl | (simp; done) | (simp; omega) | rfl
    refine Grow.step (BestSame u p) rfl (BestSame.mono u p) ?_ ?_
    · refine Obl.plain rfl ?_
      intro ac wg K hsz hW hf hK; clear hsz
      have e61 := hf 61 (by decide)
      simp [slotFact, List.lookup] at e61
      have e62 := hf 62 (by decide)
      simp [slotFact, List.lookup] at e62
      have e63 := hf 63 (by decide)
      simp [slotFact, List.lookup] at e63
      clear hf
      go_simp
      refine (sbest_any a l cp vs n1 c1 k1 x1 o1 t1 _ (by omega) (by omega) (by omega) (by omega) (HV6.out.below hW)).mono ?_
      rintro e wh ⟨u', p', a', l', c', rfl, hbs, htx, -, hb⟩
      obtain ⟨rfl, rfl⟩ := HBE.out.same hbs
      exact hK _ _ hb ⟨a', l', c', rfl, htx⟩
    refine Grow.stepC (.int .i64 p) rfl ?_ ?_
    · refine Obl.plain rfl ?_
      intro ac wg K hsz hW hf hK; clear hsz
      have e64 := hf 64 (by decide)
      simp [slotFact, List.lookup] at e64
      obtain ⟨a', l', c', e64, -⟩ := e64
      clear hf
      go_simp
      refine hK _ _ (Below.refl _ _) ?_
      first | with_reducible rfl | (simp; done) | (simp; omega) | rfl
    refine Grow.stepC (.bool false) rfl ?_ ?_
    · refine Obl.plain rfl ?_
      intro ac wg K hsz hW hf hK; clear hsz
      have e60 := hf 60 (by decide)
      simp [slotFact, List.lookup] at e60
      have e65 := hf 65 (by decide)
      simp [slotFact, List.lookup] at e65
      clear hf
      go_simp
      refine hK _ _ (Below.refl _ _) ?_
      first | with_reducible rfl | (simp; done) | (simp; omega) | rfl
    refine Grow.stepC (.bool false) rfl ?_ ?_
    · refine Obl.plain rfl ?_
      intro ac wg K hsz hW hf hK; clear hsz
      have e66 := hf 66 (by decide)
      simp [slotFact, List.lookup] at e66
      clear hf
      go_simp
      refine hK _ _ (Below.refl _ _) ?_
      first | with_reducible rfl | (simp; done) | (simp; omega) | rfl
    refine Grow.stepC (.pointer (some ⟨b2, 0, none⟩)) rfl ?_ ?_
    · refine Obl.guarded rfl rfl (by intro a w e; simpa [slotFact, List.lookup] using e) ?_
      intro ac wg K hsz hW hf hK; clear hsz
      have e8 := hf 8 (by decide)
      simp [slotFact, List.lookup] at e8
      clear hf
      go_simp
      refine hK _ _ (Below.refl _ _) ?_
      first | with_reducible rfl | (simp; done) | (simp; omega) | rfl
    refine Grow.stepC (.agg #[.string u.n, .int .i64 u.c, .string u.z, .string u.k, .bool u.x, .string u.m, .bool u.y, .slice ua ul uc]) rfl ?_ ?_
    · refine Obl.guarded rfl rfl (by intro a w e; simpa [slotFact, List.lookup] using e) ?_
      intro ac wg K hsz hW hf hK; clear hsz
      have e68 := hf 68 (by decide)
      simp [slotFact, List.lookup] at e68
      clear hf
      have gd := (hW.block _ (lt_of_some GX6.out)).trans GX6.out
      have d0 : wg.cell? ⟨b2, 0, none⟩ = some (.string u.n) := cellK gd 0
      have d1 : wg.cell? ⟨b2, 1, none⟩ = some (.int .i64 u.c) := cellK gd 1
      have d2 : wg.cell? ⟨b2, 2, none⟩ = some (.string u.z) := cellK gd 2
      have d3 : wg.cell? ⟨b2, 3, none⟩ = some (.string u.k) := cellK gd 3
      have d4 : wg.cell? ⟨b2, 4, none⟩ = some (.bool u.x) := cellK gd 4
      have d5 : wg.cell? ⟨b2, 5, none⟩ = some (.string u.m) := cellK gd 5
      have d6 : wg.cell? ⟨b2, 6, none⟩ = some (.bool u.y) := cellK gd 6
      have d7 : wg.cell? ⟨b2, 7, none⟩ = some (.slice ua ul uc) := cellK gd 7
      clear gd
      go_simp
      refine hK _ _ (Below.refl _ _) ?_
      first | with_reducible rfl | (simp; done) | (simp; omega) | rfl
    refine Grow.stepC (.slice a l cp) rfl ?_ ?_
    · refine Obl.guarded rfl rfl (by intro a w e; simpa [slotFact, List.lookup] using e) ?_
      intro ac wg K hsz hW hf hK; clear hsz
      have e5 := hf 5 (by decide)
      simp [slotFact, List.lookup] at e5
      clear hf
      go_simp
      refine hK _ _ (Below.refl _ _) ?_
      first | with_reducible rfl | (simp; done) | (simp; omega) | rfl
    refine Grow.stepC (.agg #[.string n1, .int .i64 c1, .string k1, .bool x1, .string o1]) rfl ?_ ?_
    · refine Obl.guarded rfl rfl (by intro a w e; simpa [slotFact, List.lookup] using e) ?_
      intro ac wg K hsz hW hf hK; clear hsz
      have e6 := hf 6 (by decide)
      simp [slotFact, List.lookup] at e6
      clear hf
      have gd := (hW.block _ (lt_of_some GC6.out)).trans GC6.out
      have d0 : wg.cell? ⟨b1, 0, none⟩ = some (.string n1) := cellK gd 0
      have d1 : wg.cell? ⟨b1, 1, none⟩ = some (.int .i64 c1) := cellK gd 1
      have d2 : wg.cell? ⟨b1, 2, none⟩ = some (.string k1) := cellK gd 2
      have d3 : wg.cell? ⟨b1, 3, none⟩ = some (.bool x1) := cellK gd 3
      have d4 : wg.cell? ⟨b1, 4, none⟩ = some (.string o1) := cellK gd 4
      clear gd
      go_simp
      refine hK _ _ (Below.refl _ _) ?_
      first | with_reducible rfl | (simp; done) | (simp; omega) | rfl
    refine Grow.stepC (.string t1) rfl ?_ ?_
    · refine Obl.guarded rfl rfl (by intro a w e; simpa [slotFact, List.lookup] using e) ?_
      intro ac wg K hsz hW hf hK; clear hsz
      have e7 := hf 7 (by decide)
      simp [slotFact, List.lookup] at e7
      clear hf
      go_simp
      refine hK _ _ (Below.refl _ _) ?_
      first | with_reducible rfl | (simp; done) | (simp; omega) | rfl
    refine Grow.step (BestSame u p) rfl (BestSame.mono u p) ?_ ?_
    · refine Obl.guarded rfl rfl (by intro a w e; simpa [slotFact, List.lookup] using e) ?_
      intro ac wg K hsz hW hf hK; clear hsz
      have e70 := hf 70 (by decide)
      simp [slotFact, List.lookup] at e70
      have e71 := hf 71 (by decide)
      simp [slotFact, List.lookup] at e71
      have e72 := hf 72 (by decide)
      simp [slotFact, List.lookup] at e72
      clear hf
      go_simp
      refine (sbest_any a l cp vs n1 c1 k1 x1 o1 t1 _ (by omega) (by omega) (by omega) (by omega) (HV6.out.below hW)).mono ?_
      rintro e wh ⟨u', p', a', l', c', rfl, hbs, htx, -, hb⟩
      obtain ⟨rfl, rfl⟩ := HBE.out.same hbs
      exact hK _ _ hb ⟨a', l', c', rfl, htx⟩
    refine Grow.step (VolSame u) rfl (VolSame.mono u) ?_ ?_
    · refine Obl.guarded rfl rfl (by intro a w e; simpa [slotFact, List.lookup] using e) ?_
      intro ac wg K hsz hW hf hK; clear hsz
      have e73 := hf 73 (by decide)
      simp [slotFact, List.lookup] at e73
      obtain ⟨a', l', c', e73, htx⟩ := e73
      clear hf
      go_simp
      exact hK _ _ (Below.refl _ _) ⟨a', l', c', rfl, htx⟩
    refine Grow.stepC (.bool true) rfl ?_ ?_
    · refine Obl.guarded rfl rfl (by intro a w e; simpa [slotFact, List.lookup] using e) ?_
      intro ac wg K hsz hW hf hK; clear hsz
      have e69 := hf 69 (by decide)
      simp [slotFact, List.lookup] at e69
      have e74 := hf 74 (by decide)
      simp [slotFact, List.lookup] at e74
      clear hf
      obtain ⟨a', l', c', e74, htx⟩ := e74
      go_simp
      refine (lwVolume_any u.n u.c u.z u.k u.x u.m u.y ua ul uc u.zs a' l' c' _ (HT6.out.below hW) htx).mono ?_
      rintro e wh ⟨rfl, hb⟩
      exact hK _ _ hb rfl
    refine Grow.stepC (.bool false) rfl ?_ ?_
    · refine Obl.guarded rfl rfl (by intro a w e; simpa [slotFact, List.lookup] using e) ?_
      intro ac wg K hsz hW hf hK; clear hsz
      have e75 := hf 75 (by decide)
      simp [slotFact, List.lookup] at e75
      clear hf
      go_simp
      refine hK _ _ (Below.refl _ _) ?_
      first | with_reducible rfl | (simp; done) | (simp; omega) | rfl
    refine Grow.stepC (.bool false) rfl ?_ ?_
    · refine Obl.plain rfl ?_
      intro ac wg K hsz hW hf hK; clear hsz
      have e67 := hf 67 (by decide)
      simp [slotFact, List.lookup] at e67
      have e76 := hf 76 (by decide)
      simp [slotFact, List.lookup] at e76
      clear hf
      go_simp
      refine hK _ _ (Below.refl _ _) ?_
      first | with_reducible rfl | (simp; done) | (simp; omega) | rfl
    refine Grow.stepC (.bool false) rfl ?_ ?_
    · refine Obl.plain rfl ?_
      intro ac wg K hsz hW hf hK; clear hsz
      have e77 := hf 77 (by decide)
      simp [slotFact, List.lookup] at e77
      clear hf
      go_simp
      refine hK _ _ (Below.refl _ _) ?_
      first | with_reducible rfl | (simp; done) | (simp; omega) | rfl
    refine Grow.stepC (.agg #[.string n2, .int .i64 c2, .string z2, .string k2, .bool x2, .string m2, .bool y2, .slice va vl vc]) rfl ?_ ?_
    · refine Obl.guarded rfl rfl (by intro a w e; simpa [slotFact, List.lookup] using e) ?_
      intro ac wg K hsz hW hf hK; clear hsz
      have e9 := hf 9 (by decide)
      simp [slotFact, List.lookup] at e9
      clear hf
      have gd := (hW.block _ (lt_of_some GV6.out)).trans GV6.out
      have d0 : wg.cell? ⟨b3, 0, none⟩ = some (.string n2) := cellK gd 0
      have d1 : wg.cell? ⟨b3, 1, none⟩ = some (.int .i64 c2) := cellK gd 1
      have d2 : wg.cell? ⟨b3, 2, none⟩ = some (.string z2) := cellK gd 2
      have d3 : wg.cell? ⟨b3, 3, none⟩ = some (.string k2) := cellK gd 3
      have d4 : wg.cell? ⟨b3, 4, none⟩ = some (.bool x2) := cellK gd 4
      have d5 : wg.cell? ⟨b3, 5, none⟩ = some (.string m2) := cellK gd 5
      have d6 : wg.cell? ⟨b3, 6, none⟩ = some (.bool y2) := cellK gd 6
      have d7 : wg.cell? ⟨b3, 7, none⟩ = some (.slice va vl vc) := cellK gd 7
      clear gd
      go_simp
      refine hK _ _ (Below.refl _ _) ?_
      first | with_reducible rfl | (simp; done) | (simp; omega) | rfl
    refine Grow.stepC (.agg #[.string n3, .int .i64 c3, .string k3, .bool x3, .string o3]) rfl ?_ ?_
    · refine Obl.guarded rfl rfl (by intro a w e; simpa [slotFact, List.lookup] using e) ?_
      intro ac wg K hsz hW hf hK; clear hsz
      have e10 := hf 10 (by decide)
      simp [slotFact, List.lookup] at e10
      clear hf
      have gd := (hW.block _ (lt_of_some GY6.out)).trans GY6.out
      have d0 : wg.cell? ⟨(b3 + 1), 0, none⟩ = some (.string n3) := cellK gd 0
      have d1 : wg.cell? ⟨(b3 + 1), 1, none⟩ = some (.int .i64 c3) := cellK gd 1
      have d2 : wg.cell? ⟨(b3 + 1), 2, none⟩ = some (.string k3) := cellK gd 2
      have d3 : wg.cell? ⟨(b3 + 1), 3, none⟩ = some (.bool x3) := cellK gd 3
      have d4 : wg.cell? ⟨(b3 + 1), 4, none⟩ = some (.string o3) := cellK gd 4
      clear gd
      go_simp
      refine hK _ _ (Below.refl _ _) ?_
      first | with_reducible rfl | (simp; done) | (simp; omega) | rfl
    refine Grow.stepC (.string t3) rfl ?_ ?_
    · refine Obl.guarded rfl rfl (by intro a w e; simpa [slotFact, List.lookup] using e) ?_
      intro ac wg K hsz hW hf hK; clear hsz
      have e11 := hf 11 (by decide)
      simp [slotFact, List.lookup] at e11
      clear hf
      go_simp
      refine hK _ _ (Below.refl _ _) ?_
      first | with_reducible rfl | (simp; done) | (simp; omega) | rfl
    refine Grow.stepC (.bool rs) rfl ?_ ?_
    · refine Obl.guarded rfl rfl (by intro a w e; simpa [slotFact, List.lookup] using e) ?_
      intro ac wg K hsz hW hf hK; clear hsz
      have e79 := hf 79 (by decide)
      simp [slotFact, List.lookup] at e79
      have e80 := hf 80 (by decide)
      simp [slotFact, List.lookup] at e80
      have e81 := hf 81 (by decide)
      simp [slotFact, List.lookup] at e81
      clear hf
      go_simp
      refine (iserves_any n2 c2 z2 k2 x2 m2 y2 va vl vc zs2 n3 c3 k3 x3 o3 t3 _ (by omega) (by omega) (by omega) (by omega) (by omega) (by omega) (by omega) (by omega) (HS6.out.below hW)).mono ?_
      rintro e wh ⟨r, rfl, hr, hb⟩
      obtain rfl : r = rs := Bool.eq_iff_iff.2 (hr.trans HRS.out.symm)
      exact hK _ _ hb rfl
    refine Grow.stepC (.agg #[.string n2, .int .i64 c2, .string z2, .string k2, .bool x2, .string m2, .bool y2, .slice va vl vc]) rfl ?_ ?_
    · refine Obl.guarded rfl rfl (by intro a w e; simpa [slotFact, List.lookup] using e) ?_
      intro ac wg K hsz hW hf hK; clear hsz
      have e9 := hf 9 (by decide)
      simp [slotFact, List.lookup] at e9
      clear hf
      have gd := (hW.block _ (lt_of_some GV6.out)).trans GV6.out
      have d0 : wg.cell? ⟨b3, 0, none⟩ = some (.string n2) := cellK gd 0
      have d1 : wg.cell? ⟨b3, 1, none⟩ = some (.int .i64 c2) := cellK gd 1
      have d2 : wg.cell? ⟨b3, 2, none⟩ = some (.string z2) := cellK gd 2
      have d3 : wg.cell? ⟨b3, 3, none⟩ = some (.string k2) := cellK gd 3
      have d4 : wg.cell? ⟨b3, 4, none⟩ = some (.bool x2) := cellK gd 4
      have d5 : wg.cell? ⟨b3, 5, none⟩ = some (.string m2) := cellK gd 5
      have d6 : wg.cell? ⟨b3, 6, none⟩ = some (.bool y2) := cellK gd 6
      have d7 : wg.cell? ⟨b3, 7, none⟩ = some (.slice va vl vc) := cellK gd 7
      clear gd
      go_simp
      refine hK _ _ (Below.refl _ _) ?_
      first | with_reducible rfl | (simp; done) | (simp; omega) | rfl
    refine Grow.stepC (.agg #[.string n3, .int .i64 c3, .string k3, .bool x3, .string o3]) rfl ?_ ?_
    · refine Obl.guarded rfl rfl (by intro a w e; simpa [slotFact, List.lookup] using e) ?_
      intro ac wg K hsz hW hf hK; clear hsz
      have e10 := hf 10 (by decide)
      simp [slotFact, List.lookup] at e10
      clear hf
      have gd := (hW.block _ (lt_of_some GY6.out)).trans GY6.out
      have d0 : wg.cell? ⟨(b3 + 1), 0, none⟩ = some (.string n3) := cellK gd 0
      have d1 : wg.cell? ⟨(b3 + 1), 1, none⟩ = some (.int .i64 c3) := cellK gd 1
      have d2 : wg.cell? ⟨(b3 + 1), 2, none⟩ = some (.string k3) := cellK gd 2
      have d3 : wg.cell? ⟨(b3 + 1), 3, none⟩ = some (.bool x3) := cellK gd 3
      have d4 : wg.cell? ⟨(b3 + 1), 4, none⟩ = some (.string o3) := cellK gd 4
      clear gd
      go_simp
      refine hK _ _ (Below.refl _ _) ?_
      first | with_reducible rfl | (simp; done) | (simp; omega) | rfl
    refine Grow.stepC (.string t3) rfl ?_ ?_
    · refine Obl.guarded rfl rfl (by intro a w e; simpa [slotFact, List.lookup] using e) ?_
      intro ac wg K hsz hW hf hK; clear hsz
      have e11 := hf 11 (by decide)
      simp [slotFact, List.lookup] at e11
      clear hf
      go_simp
      refine hK _ _ (Below.refl _ _) ?_
      first | with_reducible rfl | (simp; done) | (simp; omega) | rfl
    refine Grow.stepC (.bool rs) rfl ?_ ?_
    · refine Obl.guarded rfl rfl (by intro a w e; simpa [slotFact, List.lookup] using e) ?_
      intro ac wg K hsz hW hf hK; clear hsz
      have e83 := hf 83 (by decide)
      simp [slotFact, List.lookup] at e83
      have e84 := hf 84 (by decide)
      simp [slotFact, List.lookup] at e84
      have e85 := hf 85 (by decide)
      simp [slotFact, List.lookup] at e85
      clear hf
      go_simp
      refine (sserves_any n2 c2 z2 k2 x2 m2 y2 va vl vc zs2 n3 c3 k3 x3 o3 t3 _ (by omega) (by omega) (by omega) (by omega) (by omega) (by omega) (by omega) (by omega) (HS6.out.below hW)).mono ?_
      rintro e wh ⟨r, rfl, hr, hb⟩
      obtain rfl : r = rs := Bool.eq_iff_iff.2 (hr.trans HRS.out.symm)
      exact hK _ _ hb rfl
    refine Grow.stepC (.bool false) rfl ?_ ?_
    · refine Obl.guarded rfl rfl (by intro a w e; simpa [slotFact, List.lookup] using e) ?_
      intro ac wg K hsz hW hf hK; clear hsz
      have e82 := hf 82 (by decide)
      simp [slotFact, List.lookup] at e82
      have e86 := hf 86 (by decide)
      simp [slotFact, List.lookup] at e86
      clear hf
      go_simp
      refine hK _ _ (Below.refl _ _) ?_
      first | with_reducible rfl | (simp; done) | (simp; omega) | rfl
    refine Grow.stepC (.bool false) rfl ?_ ?_
    · refine Obl.plain rfl ?_
      intro ac wg K hsz hW hf hK; clear hsz
      have e78 := hf 78 (by decide)
      simp [slotFact, List.lookup] at e78
      have e87 := hf 87 (by decide)
      simp [slotFact, List.lookup] at e87
      clear hf
      go_simp
      refine hK _ _ (Below.refl _ _) ?_
      first | with_reducible rfl | (simp; done) | (simp; omega) | rfl
    refine Grow.stepC (.bool false) rfl ?_ ?_
    · refine Obl.plain rfl ?_
      intro ac wg K hsz hW hf hK; clear hsz
      have e88 := hf 88 (by decide)
      simp [slotFact, List.lookup] at e88
      clear hf
      go_simp
      refine hK _ _ (Below.refl _ _) ?_
      first | with_reducible rfl | (simp; done) | (simp; omega) | rfl
    refine Grow.stepC (.pointer (some ⟨b5, 8, none⟩)) rfl ?_ ?_
    · refine Obl.guarded rfl rfl (by intro a w e; simpa [slotFact, List.lookup] using e) ?_
      intro ac wg K hsz hW hf hK; clear hsz
      have e15 := hf 15 (by decide)
      simp [slotFact, List.lookup] at e15
      clear hf
      go_simp
      refine hK _ _ (Below.refl _ _) ?_
      first | with_reducible rfl | (simp; done) | (simp; omega) | rfl
    refine Grow.stepC (.int .i64 p0) rfl ?_ ?_
    · refine Obl.guarded rfl rfl (by intro a w e; simpa [slotFact, List.lookup] using e) ?_
      intro ac wg K hsz hW hf hK; clear hsz
      have e90 := hf 90 (by decide)
      simp [slotFact, List.lookup] at e90
      clear hf
      have gd := (hW.block _ (lt_of_some GZ6.out)).trans GZ6.out
      have d8 : wg.cell? ⟨b5, 8, none⟩ = some (.int .i64 p0) := cellK gd 8
      clear gd
      go_simp
      refine hK _ _ (Below.refl _ _) ?_
      first | with_reducible rfl | (simp; done) | (simp; omega) | rfl
    refine Grow.stepC (.agg #[.string n4, .int .i64 c4, .string k4, .bool x4, .string o4]) rfl ?_ ?_
    · refine Obl.guarded rfl rfl (by intro a w e; simpa [slotFact, List.lookup] using e) ?_
      intro ac wg K hsz hW hf hK; clear hsz
      have e12 := hf 12 (by decide)
      simp [slotFact, List.lookup] at e12
      clear hf
      have gd := (hW.block _ (lt_of_some GM6.out)).trans GM6.out
      have d0 : wg.cell? ⟨b4, 0, none⟩ = some (.string n4) := cellK gd 0
      have d1 : wg.cell? ⟨b4, 1, none⟩ = some (.int .i64 c4) := cellK gd 1
      have d2 : wg.cell? ⟨b4, 2, none⟩ = some (.string k4) := cellK gd 2
      have d3 : wg.cell? ⟨b4, 3, none⟩ = some (.bool x4) := cellK gd 3
      have d4 : wg.cell? ⟨b4, 4, none⟩ = some (.string o4) := cellK gd 4
      clear gd
      go_simp
      refine hK _ _ (Below.refl _ _) ?_
      first | with_reducible rfl | (simp; done) | (simp; omega) | rfl
    refine Grow.stepC (.agg #[.string n5, .bool x5, .bool y5, .string z5]) rfl ?_ ?_
    · refine Obl.guarded rfl rfl (by intro a w e; simpa [slotFact, List.lookup] using e) ?_
      intro ac wg K hsz hW hf hK; clear hsz
      have e13 := hf 13 (by decide)
      simp [slotFact, List.lookup] at e13
      clear hf
      have gd := (hW.block _ (lt_of_some GK6.out)).trans GK6.out
      have d0 : wg.cell? ⟨(b4 + 1), 0, none⟩ = some (.string n5) := cellK gd 0
      have d1 : wg.cell? ⟨(b4 + 1), 1, none⟩ = some (.bool x5) := cellK gd 1
      have d2 : wg.cell? ⟨(b4 + 1), 2, none⟩ = some (.bool y5) := cellK gd 2
      have d3 : wg.cell? ⟨(b4 + 1), 3, none⟩ = some (.string z5) := cellK gd 3
      clear gd
      go_simp
      refine hK _ _ (Below.refl _ _) ?_
      first | with_reducible rfl | (simp; done) | (simp; omega) | rfl
    refine Grow.stepC (.string t5) rfl ?_ ?_
    · refine Obl.guarded rfl rfl (by intro a w e; simpa [slotFact, List.lookup] using e) ?_
      intro ac wg K hsz hW hf hK; clear hsz
      have e14 := hf 14 (by decide)
      simp [slotFact, List.lookup] at e14
      clear hf
      go_simp
      refine hK _ _ (Below.refl _ _) ?_
      first | with_reducible rfl | (simp; done) | (simp; omega) | rfl
    refine Grow.stepC (.agg #[.string n0, .int .i64 c0, .string z0, .string k0, .bool x0, .string m0, .bool false, .slice none 0 0, .int .i64 p0]) rfl ?_ ?_
    · refine Obl.guarded rfl rfl (by intro a w e; simpa [slotFact, List.lookup] using e) ?_
      intro ac wg K hsz hW hf hK; clear hsz
      have e92 := hf 92 (by decide)
      simp [slotFact, List.lookup] at e92
      have e93 := hf 93 (by decide)
      simp [slotFact, List.lookup] at e93
      have e94 := hf 94 (by decide)
      simp [slotFact, List.lookup] at e94
      clear hf
      go_simp
      refine (smake_any n4 c4 k4 x4 o4 n5 x5 y5 z5 t5 _ (by omega) (by omega) (by omega) (by omega) (by omega) (by omega)).mono ?_
      rintro e wh ⟨n0', c0', z0', k0', x0', m0', p0', rfl, hmk, hb⟩
      obtain ⟨rfl, rfl, rfl, rfl, rfl, rfl, rfl⟩ := HMK.out.same hmk
      exact hK _ _ hb rfl
    refine Grow.stepC (.int .i64 p0) rfl ?_ ?_
    · refine Obl.guarded rfl rfl (by intro a w e; simpa [slotFact, List.lookup] using e) ?_
      intro ac wg K hsz hW hf hK; clear hsz
      have e95 := hf 95 (by decide)
      simp [slotFact, List.lookup] at e95
      clear hf
      go_simp
      refine hK _ _ (Below.refl _ _) ?_
      first | with_reducible rfl | (simp; done) | (simp; omega) | rfl
    refine Grow.stepC (.bool false) rfl ?_ ?_
    · refine Obl.guarded rfl rfl (by intro a w e; simpa [slotFact, List.lookup] using e) ?_
      intro ac wg K hsz hW hf hK; clear hsz
      have e91 := hf 91 (by decide)
      simp [slotFact, List.lookup] at e91
      have e96 := hf 96 (by decide)
      simp [slotFact, List.lookup] at e96
      clear hf
      go_simp
      refine hK _ _ (Below.refl _ _) ?_
      first | with_reducible rfl | (simp; done) | (simp; omega) | rfl
    refine Grow.stepC (.bool false) rfl ?_ ?_
    · refine Obl.plain rfl ?_
      intro ac wg K hsz hW hf hK; clear hsz
      have e89 := hf 89 (by decide)
      simp [slotFact, List.lookup] at e89
      have e97 := hf 97 (by decide)
      simp [slotFact, List.lookup] at e97
      clear hf
      go_simp
      refine hK _ _ (Below.refl _ _) ?_
      first | with_reducible rfl | (simp; done) | (simp; omega) | rfl
    refine Grow.stepC (.bool false) rfl ?_ ?_
    · refine Obl.plain rfl ?_
      intro ac wg K hsz hW hf hK; clear hsz
      have e98 := hf 98 (by decide)
      simp [slotFact, List.lookup] at e98
      clear hf
      go_simp
      refine hK _ _ (Below.refl _ _) ?_
      first | with_reducible rfl | (simp; done) | (simp; omega) | rfl
    refine Grow.stepC (.pointer (some ⟨b5, 0, none⟩)) rfl ?_ ?_
    · refine Obl.guarded rfl rfl (by intro a w e; simpa [slotFact, List.lookup] using e) ?_
      intro ac wg K hsz hW hf hK; clear hsz
      have e15 := hf 15 (by decide)
      simp [slotFact, List.lookup] at e15
      clear hf
      go_simp
      refine hK _ _ (Below.refl _ _) ?_
      first | with_reducible rfl | (simp; done) | (simp; omega) | rfl
    refine Grow.stepC (.agg #[.string n0, .int .i64 c0, .string z0, .string k0, .bool x0, .string m0, .bool false, .slice none 0 0]) rfl ?_ ?_
    · refine Obl.guarded rfl rfl (by intro a w e; simpa [slotFact, List.lookup] using e) ?_
      intro ac wg K hsz hW hf hK; clear hsz
      have e100 := hf 100 (by decide)
      simp [slotFact, List.lookup] at e100
      clear hf
      have gd := (hW.block _ (lt_of_some GZ6.out)).trans GZ6.out
      have d0 : wg.cell? ⟨b5, 0, none⟩ = some (.string n0) := cellK gd 0
      have d1 : wg.cell? ⟨b5, 1, none⟩ = some (.int .i64 c0) := cellK gd 1
      have d2 : wg.cell? ⟨b5, 2, none⟩ = some (.string z0) := cellK gd 2
      have d3 : wg.cell? ⟨b5, 3, none⟩ = some (.string k0) := cellK gd 3
      have d4 : wg.cell? ⟨b5, 4, none⟩ = some (.bool x0) := cellK gd 4
      have d5 : wg.cell? ⟨b5, 5, none⟩ = some (.string m0) := cellK gd 5
      have d6 : wg.cell? ⟨b5, 6, none⟩ = some (.bool false) := cellK gd 6
      have d7 : wg.cell? ⟨b5, 7, none⟩ = some (.slice none 0 0) := cellK gd 7
      clear gd
      go_simp
      refine hK _ _ (Below.refl _ _) ?_
      first | with_reducible rfl | (simp; done) | (simp; omega) | rfl
    refine Grow.stepC (.agg #[.string n4, .int .i64 c4, .string k4, .bool x4, .string o4]) rfl ?_ ?_
    · refine Obl.guarded rfl rfl (by intro a w e; simpa [slotFact, List.lookup] using e) ?_
      intro ac wg K hsz hW hf hK; clear hsz
      have e12 := hf 12 (by decide)
      simp [slotFact, List.lookup] at e12
      clear hf
      have gd := (hW.block _ (lt_of_some GM6.out)).trans GM6.out
      have d0 : wg.cell? ⟨b4, 0, none⟩ = some (.string n4) := cellK gd 0
      have d1 : wg.cell? ⟨b4, 1, none⟩ = some (.int .i64 c4) := cellK gd 1
      have d2 : wg.cell? ⟨b4, 2, none⟩ = some (.string k4) := cellK gd 2
      have d3 : wg.cell? ⟨b4, 3, none⟩ = some (.bool x4) := cellK gd 3
      have d4 : wg.cell? ⟨b4, 4, none⟩ = some (.string o4) := cellK gd 4
      clear gd
      go_simp
      refine hK _ _ (Below.refl _ _) ?_
      first | with_reducible rfl | (simp; done) | (simp; omega) | rfl
    refine Grow.stepC (.agg #[.string n5, .bool x5, .bool y5, .string z5]) rfl ?_ ?_
    · refine Obl.guarded rfl rfl (by intro a w e; simpa [slotFact, List.lookup] using e) ?_
      intro ac wg K hsz hW hf hK; clear hsz
      have e13 := hf 13 (by decide)
      simp [slotFact, List.lookup] at e13
      clear hf
      have gd := (hW.block _ (lt_of_some GK6.out)).trans GK6.out
      have d0 : wg.cell? ⟨(b4 + 1), 0, none⟩ = some (.string n5) := cellK gd 0
      have d1 : wg.cell? ⟨(b4 + 1), 1, none⟩ = some (.bool x5) := cellK gd 1
      have d2 : wg.cell? ⟨(b4 + 1), 2, none⟩ = some (.bool y5) := cellK gd 2
      have d3 : wg.cell? ⟨(b4 + 1), 3, none⟩ = some (.string z5) := cellK gd 3
      clear gd
      go_simp
      refine hK _ _ (Below.refl _ _) ?_
      first | with_reducible rfl | (simp; done) | (simp; omega) | rfl
    refine Grow.stepC (.string t5) rfl ?_ ?_
    · refine Obl.guarded rfl rfl (by intro a w e; simpa [slotFact, List.lookup] using e) ?_
      intro ac wg K hsz hW hf hK; clear hsz
      have e14 := hf 14 (by decide)
      simp [slotFact, List.lookup] at e14
      clear hf
      go_simp
      refine hK _ _ (Below.refl _ _) ?_
      first | with_reducible rfl | (simp; done) | (simp; omega) | rfl
    refine Grow.stepC (.agg #[.string n0, .int .i64 c0, .string z0, .string k0, .bool x0, .string m0, .bool false, .slice none 0 0, .int .i64 p0]) rfl ?_ ?_
    · refine Obl.guarded rfl rfl (by intro a w e; simpa [slotFact, List.lookup] using e) ?_
      intro ac wg K hsz hW hf hK; clear hsz
      have e102 := hf 102 (by decide)
      simp [slotFact, List.lookup] at e102
      have e103 := hf 103 (by decide)
      simp [slotFact, List.lookup] at e103
      have e104 := hf 104 (by decide)
      simp [slotFact, List.lookup] at e104
      clear hf
      go_simp
      refine (smake_any n4 c4 k4 x4 o4 n5 x5 y5 z5 t5 _ (by omega) (by omega) (by omega) (by omega) (by omega) (by omega)).mono ?_
      rintro e wh ⟨n0', c0', z0', k0', x0', m0', p0', rfl, hmk, hb⟩
      obtain ⟨rfl, rfl, rfl, rfl, rfl, rfl, rfl⟩ := HMK.out.same hmk
      exact hK _ _ hb rfl
    refine Grow.stepC (.agg #[.string n0, .int .i64 c0, .string z0, .string k0, .bool x0, .string m0, .bool false, .slice none 0 0]) rfl ?_ ?_
    · refine Obl.guarded rfl rfl (by intro a w e; simpa [slotFact, List.lookup] using e) ?_
      intro ac wg K hsz hW hf hK; clear hsz
      have e105 := hf 105 (by decide)
      simp [slotFact, List.lookup] at e105
      clear hf
      go_simp
      refine hK _ _ (Below.refl _ _) ?_
      first | with_reducible rfl | (simp; done) | (simp; omega) | rfl
    refine Grow.stepC (.bool true) rfl ?_ ?_
    · refine Obl.guarded rfl rfl (by intro a w e; simpa [slotFact, List.lookup] using e) ?_
      intro ac wg K hsz hW hf hK; clear hsz
      have e101 := hf 101 (by decide)
      simp [slotFact, List.lookup] at e101
      have e106 := hf 106 (by decide)
      simp [slotFact, List.lookup] at e106
      clear hf
      go_simp
      refine (lwVolume_any n0 c0 z0 k0 x0 m0 false none 0 0 [] none 0 0 _ (row_nil _) (row_nil _)).mono ?_
      rintro e wh ⟨rfl, hb⟩
      exact hK _ _ hb rfl
    refine Grow.stepC (.bool false) rfl ?_ ?_
    · refine Obl.guarded rfl rfl (by intro a w e; simpa [slotFact, List.lookup] using e) ?_
      intro ac wg K hsz hW hf hK; clear hsz
      have e107 := hf 107 (by decide)
      simp [slotFact, List.lookup] at e107
      clear hf
      go_simp
      refine hK _ _ (Below.refl _ _) ?_
      first | with_reducible rfl | (simp; done) | (simp; omega) | rfl
    refine Grow.stepC (.bool false) rfl ?_ ?_
    · refine Obl.plain rfl ?_
      intro ac wg K hsz hW hf hK; clear hsz
      have e99 := hf 99 (by decide)
      simp [slotFact, List.lookup] at e99
      have e108 := hf 108 (by decide)
      simp [slotFact, List.lookup] at e108
      clear hf
      go_simp
      refine hK _ _ (Below.refl _ _) ?_
      first | with_reducible rfl | (simp; done) | (simp; omega) | rfl
    refine Grow.stepC (.bool false) rfl ?_ ?_
    · refine Obl.plain rfl ?_
      intro ac wg K hsz hW hf hK; clear hsz
      have e109 := hf 109 (by decide)
      simp [slotFact, List.lookup] at e109
      clear hf
      go_simp
      refine hK _ _ (Below.refl _ _) ?_
      first | with_reducible rfl | (simp; done) | (simp; omega) | rfl
    refine Grow.stepC (.agg #[.string n6, .bool x6, .bool y6, .string z6]) rfl ?_ ?_
    · refine Obl.guarded rfl rfl (by intro a w e; simpa [slotFact, List.lookup] using e) ?_
      intro ac wg K hsz hW hf hK; clear hsz
      have e16 := hf 16 (by decide)
      simp [slotFact, List.lookup] at e16
      clear hf
      have gd := (hW.block _ (lt_of_some GN6.out)).trans GN6.out
      have d0 : wg.cell? ⟨b6, 0, none⟩ = some (.string n6) := cellK gd 0
      have d1 : wg.cell? ⟨b6, 1, none⟩ = some (.bool x6) := cellK gd 1
      have d2 : wg.cell? ⟨b6, 2, none⟩ = some (.bool y6) := cellK gd 2
      have d3 : wg.cell? ⟨b6, 3, none⟩ = some (.string z6) := cellK gd 3
      clear gd
      go_simp
      refine hK _ _ (Below.refl _ _) ?_
      first | with_reducible rfl | (simp; done) | (simp; omega) | rfl
    refine Grow.stepC (.string t6) rfl ?_ ?_
    · refine Obl.guarded rfl rfl (by intro a w e; simpa [slotFact, List.lookup] using e) ?_
      intro ac wg K hsz hW hf hK; clear hsz
      have e17 := hf 17 (by decide)
      simp [slotFact, List.lookup] at e17
      clear hf
      go_simp
      refine hK _ _ (Below.refl _ _) ?_
      first | with_reducible rfl | (simp; done) | (simp; omega) | rfl
    refine Grow.stepC (.bool rm) rfl ?_ ?_
    · refine Obl.guarded rfl rfl (by intro a w e; simpa [slotFact, List.lookup] using e) ?_
      intro ac wg K hsz hW hf hK; clear hsz
      have e111 := hf 111 (by decide)
      simp [slotFact, List.lookup] at e111
      have e112 := hf 112 (by decide)
      simp [slotFact, List.lookup] at e112
      clear hf
      go_simp
      refine (imay_any n6 x6 y6 z6 t6 _ (by omega) (by omega) (by omega)).mono ?_
      rintro e wh ⟨r, rfl, hr, hb⟩
      obtain rfl : r = rm := Bool.eq_iff_iff.2 (hr.trans HRM.out.symm)
      exact hK _ _ hb rfl
    refine Grow.stepC (.agg #[.string n6, .bool x6, .bool y6, .string z6]) rfl ?_ ?_
    · refine Obl.guarded rfl rfl (by intro a w e; simpa [slotFact, List.lookup] using e) ?_
      intro ac wg K hsz hW hf hK; clear hsz
      have e16 := hf 16 (by decide)
      simp [slotFact, List.lookup] at e16
      clear hf
      have gd := (hW.block _ (lt_of_some GN6.out)).trans GN6.out
      have d0 : wg.cell? ⟨b6, 0, none⟩ = some (.string n6) := cellK gd 0
      have d1 : wg.cell? ⟨b6, 1, none⟩ = some (.bool x6) := cellK gd 1
      have d2 : wg.cell? ⟨b6, 2, none⟩ = some (.bool y6) := cellK gd 2
      have d3 : wg.cell? ⟨b6, 3, none⟩ = some (.string z6) := cellK gd 3
      clear gd
      go_simp
      refine hK _ _ (Below.refl _ _) ?_
      first | with_reducible rfl | (simp; done) | (simp; omega) | rfl
    refine Grow.stepC (.string t6) rfl ?_ ?_
    · refine Obl.guarded rfl rfl (by intro a w e; simpa [slotFact, List.lookup] using e) ?_
      intro ac wg K hsz hW hf hK; clear hsz
      have e17 := hf 17 (by decide)
      simp [slotFact, List.lookup] at e17
      clear hf
      go_simp
      refine hK _ _ (Below.refl _ _) ?_
      first | with_reducible rfl | (simp; done) | (simp; omega) | rfl
    refine Grow.stepC (.bool rm) rfl ?_ ?_
    · refine Obl.guarded rfl rfl (by intro a w e; simpa [slotFact, List.lookup] using e) ?_
      intro ac wg K hsz hW hf hK; clear hsz
      have e114 := hf 114 (by decide)
      simp [slotFact, List.lookup] at e114
      have e115 := hf 115 (by decide)
      simp [slotFact, List.lookup] at e115
      clear hf
      go_simp
      refine (smay_any n6 x6 y6 z6 t6 _ (by omega) (by omega) (by omega)).mono ?_
      rintro e wh ⟨r, rfl, hr, hb⟩
      obtain rfl : r = rm := Bool.eq_iff_iff.2 (hr.trans HRM.out.symm)
      exact hK _ _ hb rfl
    refine Grow.stepC (.bool false) rfl ?_ ?_
    · refine Obl.guarded rfl rfl (by intro a w e; simpa [slotFact, List.lookup] using e) ?_
      intro ac wg K hsz hW hf hK; clear hsz
      have e113 := hf 113 (by decide)
      simp [slotFact, List.lookup] at e113
      have e116 := hf 116 (by decide)
      simp [slotFact, List.lookup] at e116
      clear hf
      go_simp
      refine hK _ _ (Below.refl _ _) ?_
      first | with_reducible rfl | (simp; done) | (simp; omega) | rfl
    refine Grow.stepC (.bool false) rfl ?_ ?_
    · refine Obl.plain rfl ?_
      intro ac wg K hsz hW hf hK; clear hsz
      have e110 := hf 110 (by decide)
      simp [slotFact, List.lookup] at e110
      have e117 := hf 117 (by decide)
      simp [slotFact, List.lookup] at e117
      clear hf
      go_simp
      refine hK _ _ (Below.refl _ _) ?_
      first | with_reducible rfl | (simp; done) | (simp; omega) | rfl
    refine Grow.done ?_
    intro q wz hW hf
    simp only [List.forall_mem_cons] at hf
    obtain ⟨h118, -⟩ := hf
    refine hK0 _ _ ?_
    simp only [putsAll, List.foldr, Act.put, List.setIfInBounds_toArray, List.set_cons_zero, List.set_cons_succ]
    refine Met.intro ?_
    refine hJ0 _ _ ?_
    (repeat apply Exists.intro)
    refine ⟨?rel, rfl⟩
    exact ⟨h118, hW⟩
  case rest =>
    obtain ⟨rfl, hX⟩ := hcut
    clear HRS HRM HS6 GV6 GY6 GN6
    have HXc := hidK hX
    clear hX
    have x8 : wc.cell? ⟨b2, 8, none⟩ = some (.int .i64 p) := cellK ((HXc.out.block _ (lt_of_some GX6.out)).trans GX6.out) 8
    go_wp2_with fail
    clear x8
    go_loopw [18] (fun i wr => ∃ k : Nat, k ≤ l ∧ i = .int .i64 k ∧ Hid (Below W.heap.size W wr)) (fun i _ => l - (intOf i).toNat)
    case atStart => exact ⟨0, by omega, rfl, HXc⟩
    case round =>
      clear HXc
      obtain ⟨k, hk, rfl, HB⟩ := hrel
      have hlc : l ≤ 9223372036854775807 := Nat.le_trans HV6.out.2.1 HV6.out.2.2.1
      have HVr := hidK (HV6.out.below HB.out)
      have HTr := hidK (HT6.out.below HB.out)
      have RC := hidK ((HB.out.block _ (lt_of_some GC6.out)).trans GC6.out)
      have RX := hidK ((HB.out.block _ (lt_of_some GX6.out)).trans GX6.out)
      have RM := hidK ((HB.out.block _ (lt_of_some GM6.out)).trans GM6.out)
      have RK := hidK ((HB.out.block _ (lt_of_some GK6.out)).trans GK6.out)
      have RZ := hidK ((HB.out.block _ (lt_of_some GZ6.out)).trans GZ6.out)
      by_cases hlt : k < l
      · by_cases hp : p = 0
        · subst hp
          have g8 : wr.cell? ⟨b2, 8, none⟩ = some (.int .i64 0) := cellK RX.out 8
          obtain ⟨b, o, v, rfl, hbs, hv, hfit, ea, el, ec, hvr, c0_, c1_, c2_, c3_, c4_, c5_, c6_, c7_⟩ := HVr.out.at hlt
          have HE := hidK hvr
          obtain ⟨rv, hrv⟩ := ex_bool (ServeOk v.n v.c v.z v.k v.x v.m v.y v.zs n1 c1 k1 x1 o1 t1)
          have HRV := hidK hrv
          clear hvr hrv
          go_wp2_with fail
          clear g8
          cases rv with
          | false =>
            rename_i K0 hK0
            refine wp_region_grow (back := none) (by kernel_rfl) (List.append_nil _).symm (by kernel_rfl) ?_
            refine Grow.stepC (.slice (some ⟨b, o, none⟩) l cp) rfl ?_ ?_
            · refine Obl.plain rfl ?_
              intro ac wg K hsz hW hf hK; clear hsz
              have e5 := hf 5 (by decide)
              simp [slotFact, List.lookup] at e5
              clear hf
              go_simp
              refine hK _ _ (Below.refl _ _) ?_
              first | with_reducible rfl | (simp; done) | (simp; omega) | rfl
            refine Grow.stepC (.int .i64 k) rfl ?_ ?_
            · refine Obl.plain rfl ?_
              intro ac wg K hsz hW hf hK; clear hsz
              have e18 := hf 18 (by decide)
              simp [slotFact, List.lookup] at e18
              clear hf
              go_simp
              refine hK _ _ (Below.refl _ _) ?_
              first | with_reducible rfl | (simp; done) | (simp; omega) | rfl
            refine Grow.stepC (.pointer (some ⟨b, o + k * 8, none⟩)) rfl ?_ ?_
            · refine Obl.plain rfl ?_
              intro ac wg K hsz hW hf hK; clear hsz
              have e135 := hf 135 (by decide)
              simp [slotFact, List.lookup] at e135
              have e136 := hf 136 (by decide)
              simp [slotFact, List.lookup] at e136
              clear hf
              go_simp
              refine hK _ _ (Below.refl _ _) ?_
              first | with_reducible rfl | (simp; done) | (simp; omega) | rfl
            refine Grow.stepC (.agg #[.string v.n, .int .i64 v.c, .string v.z, .string v.k, .bool v.x, .string v.m, .bool v.y, .slice ea el ec]) rfl ?_ ?_
            · refine Obl.plain rfl ?_
              intro ac wg K hsz hW hf hK; clear hsz
              have e137 := hf 137 (by decide)
              simp [slotFact, List.lookup] at e137
              clear hf
              have d0 : wg.cell? ⟨b, o + k * 8, none⟩ = some (.string v.n) := (cell_below hW hbs).trans c0_
              have d1 : wg.cell? ⟨b, o + k * 8 + 1, none⟩ = some (.int .i64 v.c) := (cell_below hW hbs).trans c1_
              have d2 : wg.cell? ⟨b, o + k * 8 + 2, none⟩ = some (.string v.z) := (cell_below hW hbs).trans c2_
              have d3 : wg.cell? ⟨b, o + k * 8 + 3, none⟩ = some (.string v.k) := (cell_below hW hbs).trans c3_
              have d4 : wg.cell? ⟨b, o + k * 8 + 4, none⟩ = some (.bool v.x) := (cell_below hW hbs).trans c4_
              have d5 : wg.cell? ⟨b, o + k * 8 + 5, none⟩ = some (.string v.m) := (cell_below hW hbs).trans c5_
              have d6 : wg.cell? ⟨b, o + k * 8 + 6, none⟩ = some (.bool v.y) := (cell_below hW hbs).trans c6_
              have d7 : wg.cell? ⟨b, o + k * 8 + 7, none⟩ = some (.slice ea el ec) := (cell_below hW hbs).trans c7_
              go_simp
              refine hK _ _ (Below.refl _ _) ?_
              first | with_reducible rfl | (simp; done) | (simp; omega) | rfl
            refine Grow.stepC (.agg #[.string n1, .int .i64 c1, .string k1, .bool x1, .string o1]) rfl ?_ ?_
            · refine Obl.plain rfl ?_
              intro ac wg K hsz hW hf hK; clear hsz
              have e6 := hf 6 (by decide)
              simp [slotFact, List.lookup] at e6
              clear hf
              have gd := (hW.block _ (lt_of_some RC.out)).trans RC.out
              have d0 : wg.cell? ⟨b1, 0, none⟩ = some (.string n1) := cellK gd 0
              have d1 : wg.cell? ⟨b1, 1, none⟩ = some (.int .i64 c1) := cellK gd 1
              have d2 : wg.cell? ⟨b1, 2, none⟩ = some (.string k1) := cellK gd 2
              have d3 : wg.cell? ⟨b1, 3, none⟩ = some (.bool x1) := cellK gd 3
              have d4 : wg.cell? ⟨b1, 4, none⟩ = some (.string o1) := cellK gd 4
              clear gd
              go_simp
              refine hK _ _ (Below.refl _ _) ?_
              first | with_reducible rfl | (simp; done) | (simp; omega) | rfl
            refine Grow.stepC (.string t1) rfl ?_ ?_
            · refine Obl.plain rfl ?_
              intro ac wg K hsz hW hf hK; clear hsz
              have e7 := hf 7 (by decide)
              simp [slotFact, List.lookup] at e7
              clear hf
              go_simp
              refine hK _ _ (Below.refl _ _) ?_
              first | with_reducible rfl | (simp; done) | (simp; omega) | rfl
            refine Grow.stepC (.bool false) rfl ?_ ?_
            · refine Obl.plain rfl ?_
              intro ac wg K hsz hW hf hK; clear hsz
              have e138 := hf 138 (by decide)
              simp [slotFact, List.lookup] at e138
              have e139 := hf 139 (by decide)
              simp [slotFact, List.lookup] at e139
              have e140 := hf 140 (by decide)
              simp [slotFact, List.lookup] at e140
              clear hf
              go_simp
              refine (iserves_any v.n v.c v.z v.k v.x v.m v.y ea el ec v.zs n1 c1 k1 x1 o1 t1 _ hfit.1 hfit.2.1 hfit.2.2.1 hfit.2.2.2 (by omega) (by omega) (by omega) (by omega) (HE.out.below hW)).mono ?_
              rintro e wh ⟨r, rfl, hr, hb⟩
              obtain rfl : r = false := Bool.eq_iff_iff.2 (hr.trans HRV.out.symm)
              exact hK _ _ hb rfl
            refine Grow.stepC (.bool false) rfl ?_ ?_
            · refine Obl.plain rfl ?_
              intro ac wg K hsz hW hf hK; clear hsz
              have e141 := hf 141 (by decide)
              simp [slotFact, List.lookup] at e141
              clear hf
              go_simp
              refine hK _ _ (Below.refl _ _) ?_
              first | with_reducible rfl | (simp; done) | (simp; omega) | rfl
            refine Grow.stepC undef rfl (Obl.passed rfl rfl (by intro a w e h; simp [slotFact, List.lookup] at e; rw [Array.getD_eq_getD_getElem?, e] at h; cases h)) ?_
            refine Grow.stepC undef rfl (Obl.passed rfl rfl (by intro a w e h; simp [slotFact, List.lookup] at e; rw [Array.getD_eq_getD_getElem?, e] at h; cases h)) ?_
            refine Grow.stepC undef rfl (Obl.passed rfl rfl (by intro a w e h; simp [slotFact, List.lookup] at e; rw [Array.getD_eq_getD_getElem?, e] at h; cases h)) ?_
            refine Grow.stepC undef rfl (Obl.passed rfl rfl (by intro a w e h; simp [slotFact, List.lookup] at e; rw [Array.getD_eq_getD_getElem?, e] at h; cases h)) ?_
            refine Grow.stepC undef rfl (Obl.passed rfl rfl (by intro a w e h; simp [slotFact, List.lookup] at e; rw [Array.getD_eq_getD_getElem?, e] at h; simp [undef] at h)) ?_
            refine Grow.stepC undef rfl (Obl.passed rfl rfl (by intro a w e h; simp [slotFact, List.lookup] at e; rw [Array.getD_eq_getD_getElem?, e] at h; simp [undef] at h)) ?_
            refine Grow.stepC undef rfl (Obl.passed rfl rfl (by intro a w e h; simp [slotFact, List.lookup] at e; rw [Array.getD_eq_getD_getElem?, e] at h; simp [undef] at h)) ?_
            refine Grow.stepC undef rfl (Obl.passed rfl rfl (by intro a w e h; simp [slotFact, List.lookup] at e; rw [Array.getD_eq_getD_getElem?, e] at h; simp [undef] at h)) ?_
            refine Grow.stepC undef rfl (Obl.passed rfl rfl (by intro a w e h; simp [slotFact, List.lookup] at e; rw [Array.getD_eq_getD_getElem?, e] at h; simp [undef] at h)) ?_
            refine Grow.stepC undef rfl (Obl.passed rfl rfl (by intro a w e h; simp [slotFact, List.lookup] at e; rw [Array.getD_eq_getD_getElem?, e] at h; simp [undef] at h)) ?_
            refine Grow.stepC undef rfl (Obl.passed rfl rfl (by intro a w e h; simp [slotFact, List.lookup] at e; rw [Array.getD_eq_getD_getElem?, e] at h; simp [undef] at h)) ?_
            refine Grow.stepC undef rfl (Obl.passed rfl rfl (by intro a w e h; simp [slotFact, List.lookup] at e; rw [Array.getD_eq_getD_getElem?, e] at h; simp [undef] at h)) ?_
            refine Grow.stepC undef rfl (Obl.passed rfl rfl (by intro a w e h; simp [slotFact, List.lookup] at e; rw [Array.getD_eq_getD_getElem?, e] at h; simp [undef] at h)) ?_
            refine Grow.stepC undef rfl (Obl.passed rfl rfl (by intro a w e h; simp [slotFact, List.lookup] at e; rw [Array.getD_eq_getD_getElem?, e] at h; cases h)) ?_
            refine Grow.stepC (.bool false) rfl ?_ ?_
            · refine Obl.plain rfl ?_
              intro ac wg K hsz hW hf hK; clear hsz
              have e142 := hf 142 (by decide)
              simp [slotFact, List.lookup] at e142
              have e156 := hf 156 (by decide)
              simp [slotFact, List.lookup] at e156
              clear hf
              go_simp
              refine hK _ _ (Below.refl _ _) ?_
              first | with_reducible rfl | (simp; done) | (simp; omega) | rfl
            refine Grow.done ?_
            intro q wz hW hf
            simp only [List.forall_mem_cons] at hf
            obtain ⟨h157, -⟩ := hf
            refine hK0 _ _ ?_
            simp only [putsAll, List.foldr, Act.put, List.setIfInBounds_toArray, List.set_cons_zero, List.set_cons_succ, h157]
            have HBZ := hidK (HB.out.trans (hW.mono HB.out.size))
            clear hW h157
            go_wp2_with fail
            exact ⟨⟨k + 1, by omega, by go_num, HBZ⟩, by simp [intOf]; omega⟩
          | true =>
            have hlt2 := (HBE.out.law.2 (.inl rfl) v (List.mem_of_getElem? hv) (HRV.out.1 rfl)).2
            rename_i K0 hK0
            refine wp_region_grow (back := none) (by kernel_rfl) (List.append_nil _).symm (by kernel_rfl) ?_
            refine Grow.stepC (.slice (some ⟨b, o, none⟩) l cp) rfl ?_ ?_
            · refine Obl.plain rfl ?_
              intro ac wg K hsz hW hf hK; clear hsz
              have e5 := hf 5 (by decide)
              simp [slotFact, List.lookup] at e5
              clear hf
              go_simp
              refine hK _ _ (Below.refl _ _) ?_
              first | with_reducible rfl | (simp; done) | (simp; omega) | rfl
            refine Grow.stepC (.int .i64 k) rfl ?_ ?_
            · refine Obl.plain rfl ?_
              intro ac wg K hsz hW hf hK; clear hsz
              have e18 := hf 18 (by decide)
              simp [slotFact, List.lookup] at e18
              clear hf
              go_simp
              refine hK _ _ (Below.refl _ _) ?_
              first | with_reducible rfl | (simp; done) | (simp; omega) | rfl
            refine Grow.stepC (.pointer (some ⟨b, o + k * 8, none⟩)) rfl ?_ ?_
            · refine Obl.plain rfl ?_
              intro ac wg K hsz hW hf hK; clear hsz
              have e135 := hf 135 (by decide)
              simp [slotFact, List.lookup] at e135
              have e136 := hf 136 (by decide)
              simp [slotFact, List.lookup] at e136
              clear hf
              go_simp
              refine hK _ _ (Below.refl _ _) ?_
              first | with_reducible rfl | (simp; done) | (simp; omega) | rfl
            refine Grow.stepC (.agg #[.string v.n, .int .i64 v.c, .string v.z, .string v.k, .bool v.x, .string v.m, .bool v.y, .slice ea el ec]) rfl ?_ ?_
            · refine Obl.plain rfl ?_
              intro ac wg K hsz hW hf hK; clear hsz
              have e137 := hf 137 (by decide)
              simp [slotFact, List.lookup] at e137
              clear hf
              have d0 : wg.cell? ⟨b, o + k * 8, none⟩ = some (.string v.n) := (cell_below hW hbs).trans c0_
              have d1 : wg.cell? ⟨b, o + k * 8 + 1, none⟩ = some (.int .i64 v.c) := (cell_below hW hbs).trans c1_
              have d2 : wg.cell? ⟨b, o + k * 8 + 2, none⟩ = some (.string v.z) := (cell_below hW hbs).trans c2_
              have d3 : wg.cell? ⟨b, o + k * 8 + 3, none⟩ = some (.string v.k) := (cell_below hW hbs).trans c3_
              have d4 : wg.cell? ⟨b, o + k * 8 + 4, none⟩ = some (.bool v.x) := (cell_below hW hbs).trans c4_
              have d5 : wg.cell? ⟨b, o + k * 8 + 5, none⟩ = some (.string v.m) := (cell_below hW hbs).trans c5_
              have d6 : wg.cell? ⟨b, o + k * 8 + 6, none⟩ = some (.bool v.y) := (cell_below hW hbs).trans c6_
              have d7 : wg.cell? ⟨b, o + k * 8 + 7, none⟩ = some (.slice ea el ec) := (cell_below hW hbs).trans c7_
              go_simp
              refine hK _ _ (Below.refl _ _) ?_
              first | with_reducible rfl | (simp; done) | (simp; omega) | rfl
            refine Grow.stepC (.agg #[.string n1, .int .i64 c1, .string k1, .bool x1, .string o1]) rfl ?_ ?_
            · refine Obl.plain rfl ?_
              intro ac wg K hsz hW hf hK; clear hsz
              have e6 := hf 6 (by decide)
              simp [slotFact, List.lookup] at e6
              clear hf
              have gd := (hW.block _ (lt_of_some RC.out)).trans RC.out
              have d0 : wg.cell? ⟨b1, 0, none⟩ = some (.string n1) := cellK gd 0
              have d1 : wg.cell? ⟨b1, 1, none⟩ = some (.int .i64 c1) := cellK gd 1
              have d2 : wg.cell? ⟨b1, 2, none⟩ = some (.string k1) := cellK gd 2
              have d3 : wg.cell? ⟨b1, 3, none⟩ = some (.bool x1) := cellK gd 3
              have d4 : wg.cell? ⟨b1, 4, none⟩ = some (.string o1) := cellK gd 4
              clear gd
              go_simp
              refine hK _ _ (Below.refl _ _) ?_
              first | with_reducible rfl | (simp; done) | (simp; omega) | rfl
            refine Grow.stepC (.string t1) rfl ?_ ?_
            · refine Obl.plain rfl ?_
              intro ac wg K hsz hW hf hK; clear hsz
              have e7 := hf 7 (by decide)
              simp [slotFact, List.lookup] at e7
              clear hf
              go_simp
              refine hK _ _ (Below.refl _ _) ?_
              first | with_reducible rfl | (simp; done) | (simp; omega) | rfl
            refine Grow.stepC (.bool true) rfl ?_ ?_
            · refine Obl.plain rfl ?_
              intro ac wg K hsz hW hf hK; clear hsz
              have e138 := hf 138 (by decide)
              simp [slotFact, List.lookup] at e138
              have e139 := hf 139 (by decide)
              simp [slotFact, List.lookup] at e139
              have e140 := hf 140 (by decide)
              simp [slotFact, List.lookup] at e140
              clear hf
              go_simp
              refine (iserves_any v.n v.c v.z v.k v.x v.m v.y ea el ec v.zs n1 c1 k1 x1 o1 t1 _ hfit.1 hfit.2.1 hfit.2.2.1 hfit.2.2.2 (by omega) (by omega) (by omega) (by omega) (HE.out.below hW)).mono ?_
              rintro e wh ⟨r, rfl, hr, hb⟩
              obtain rfl : r = true := Bool.eq_iff_iff.2 (hr.trans HRV.out.symm)
              exact hK _ _ hb rfl
            refine Grow.stepC (.bool true) rfl ?_ ?_
            · refine Obl.plain rfl ?_
              intro ac wg K hsz hW hf hK; clear hsz
              have e141 := hf 141 (by decide)
              simp [slotFact, List.lookup] at e141
              clear hf
              go_simp
              refine hK _ _ (Below.refl _ _) ?_
              first | with_reducible rfl | (simp; done) | (simp; omega) | rfl
            refine Grow.stepC (.pointer (some ⟨b2, 8, none⟩)) rfl ?_ ?_
            · refine Obl.guarded rfl rfl (by intro a w e; simpa [slotFact, List.lookup] using e) ?_
              intro ac wg K hsz hW hf hK; clear hsz
              have e8 := hf 8 (by decide)
              simp [slotFact, List.lookup] at e8
              clear hf
              go_simp
              refine hK _ _ (Below.refl _ _) ?_
              first | with_reducible rfl | (simp; done) | (simp; omega) | rfl
            refine Grow.stepC (.int .i64 0) rfl ?_ ?_
            · refine Obl.guarded rfl rfl (by intro a w e; simpa [slotFact, List.lookup] using e) ?_
              intro ac wg K hsz hW hf hK; clear hsz
              have e143 := hf 143 (by decide)
              simp [slotFact, List.lookup] at e143
              clear hf
              have gd := (hW.block _ (lt_of_some RX.out)).trans RX.out
              have d8 : wg.cell? ⟨b2, 8, none⟩ = some (.int .i64 0) := cellK gd 8
              clear gd
              go_simp
              refine hK _ _ (Below.refl _ _) ?_
              first | with_reducible rfl | (simp; done) | (simp; omega) | rfl
            refine Grow.stepC (.bool false) rfl ?_ ?_
            · refine Obl.guarded rfl rfl (by intro a w e; simpa [slotFact, List.lookup] using e) ?_
              intro ac wg K hsz hW hf hK; clear hsz
              have e144 := hf 144 (by decide)
              simp [slotFact, List.lookup] at e144
              clear hf
              go_simp
              refine hK _ _ (Below.refl _ _) ?_
              first | with_reducible rfl | (simp; done) | (simp; omega) | rfl
            refine Grow.stepC (.bool false) rfl ?_ ?_
            · refine Obl.guarded rfl rfl (by intro a w e; simpa [slotFact, List.lookup] using e) ?_
              intro ac wg K hsz hW hf hK; clear hsz
              have e145 := hf 145 (by decide)
              simp [slotFact, List.lookup] at e145
              clear hf
              go_simp
              refine hK _ _ (Below.refl _ _) ?_
              first | with_reducible rfl | (simp; done) | (simp; omega) | rfl
            refine Grow.stepC (.slice (some ⟨b, o, none⟩) l cp) rfl ?_ ?_
            · refine Obl.guarded rfl rfl (by intro a w e; simpa [slotFact, List.lookup] using e) ?_
              intro ac wg K hsz hW hf hK; clear hsz
              have e5 := hf 5 (by decide)
              simp [slotFact, List.lookup] at e5
              clear hf
              go_simp
              refine hK _ _ (Below.refl _ _) ?_
              first | with_reducible rfl | (simp; done) | (simp; omega) | rfl
            refine Grow.stepC (.int .i64 k) rfl ?_ ?_
            · refine Obl.guarded rfl rfl (by intro a w e; simpa [slotFact, List.lookup] using e) ?_
              intro ac wg K hsz hW hf hK; clear hsz
              have e18 := hf 18 (by decide)
              simp [slotFact, List.lookup] at e18
              clear hf
              go_simp
              refine hK _ _ (Below.refl _ _) ?_
              first | with_reducible rfl | (simp; done) | (simp; omega) | rfl
            refine Grow.stepC (.pointer (some ⟨b, o + k * 8, none⟩)) rfl ?_ ?_
            · refine Obl.guarded rfl rfl (by intro a w e; simpa [slotFact, List.lookup] using e) ?_
              intro ac wg K hsz hW hf hK; clear hsz
              have e147 := hf 147 (by decide)
              simp [slotFact, List.lookup] at e147
              have e148 := hf 148 (by decide)
              simp [slotFact, List.lookup] at e148
              clear hf
              go_simp
              refine hK _ _ (Below.refl _ _) ?_
              first | with_reducible rfl | (simp; done) | (simp; omega) | rfl
            refine Grow.stepC (.pointer (some ⟨b, o + k * 8 + 1, none⟩)) rfl ?_ ?_
            · refine Obl.guarded rfl rfl (by intro a w e; simpa [slotFact, List.lookup] using e) ?_
              intro ac wg K hsz hW hf hK; clear hsz
              have e149 := hf 149 (by decide)
              simp [slotFact, List.lookup] at e149
              clear hf
              go_simp
              refine hK _ _ (Below.refl _ _) ?_
              first | with_reducible rfl | (simp; done) | (simp; omega) | rfl
            refine Grow.stepC (.int .i64 v.c) rfl ?_ ?_
            · refine Obl.guarded rfl rfl (by intro a w e; simpa [slotFact, List.lookup] using e) ?_
              intro ac wg K hsz hW hf hK; clear hsz
              have e150 := hf 150 (by decide)
              simp [slotFact, List.lookup] at e150
              clear hf
              have d0 : wg.cell? ⟨b, o + k * 8, none⟩ = some (.string v.n) := (cell_below hW hbs).trans c0_
              have d1 : wg.cell? ⟨b, o + k * 8 + 1, none⟩ = some (.int .i64 v.c) := (cell_below hW hbs).trans c1_
              have d2 : wg.cell? ⟨b, o + k * 8 + 2, none⟩ = some (.string v.z) := (cell_below hW hbs).trans c2_
              have d3 : wg.cell? ⟨b, o + k * 8 + 3, none⟩ = some (.string v.k) := (cell_below hW hbs).trans c3_
              have d4 : wg.cell? ⟨b, o + k * 8 + 4, none⟩ = some (.bool v.x) := (cell_below hW hbs).trans c4_
              have d5 : wg.cell? ⟨b, o + k * 8 + 5, none⟩ = some (.string v.m) := (cell_below hW hbs).trans c5_
              have d6 : wg.cell? ⟨b, o + k * 8 + 6, none⟩ = some (.bool v.y) := (cell_below hW hbs).trans c6_
              have d7 : wg.cell? ⟨b, o + k * 8 + 7, none⟩ = some (.slice ea el ec) := (cell_below hW hbs).trans c7_
              go_simp
              refine hK _ _ (Below.refl _ _) ?_
              first | with_reducible rfl | (simp; done) | (simp; omega) | rfl
            refine Grow.stepC (.pointer (some ⟨b2, 0, none⟩)) rfl ?_ ?_
            · refine Obl.guarded rfl rfl (by intro a w e; simpa [slotFact, List.lookup] using e) ?_
              intro ac wg K hsz hW hf hK; clear hsz
              have e8 := hf 8 (by decide)
              simp [slotFact, List.lookup] at e8
              clear hf
              go_simp
              refine hK _ _ (Below.refl _ _) ?_
              first | with_reducible rfl | (simp; done) | (simp; omega) | rfl
            refine Grow.stepC (.pointer (some ⟨b2, 1, none⟩)) rfl ?_ ?_
            · refine Obl.guarded rfl rfl (by intro a w e; simpa [slotFact, List.lookup] using e) ?_
              intro ac wg K hsz hW hf hK; clear hsz
              have e152 := hf 152 (by decide)
              simp [slotFact, List.lookup] at e152
              clear hf
              go_simp
              refine hK _ _ (Below.refl _ _) ?_
              first | with_reducible rfl | (simp; done) | (simp; omega) | rfl
            refine Grow.stepC (.int .i64 u.c) rfl ?_ ?_
            · refine Obl.guarded rfl rfl (by intro a w e; simpa [slotFact, List.lookup] using e) ?_
              intro ac wg K hsz hW hf hK; clear hsz
              have e153 := hf 153 (by decide)
              simp [slotFact, List.lookup] at e153
              clear hf
              have gd := (hW.block _ (lt_of_some RX.out)).trans RX.out
              have d0 : wg.cell? ⟨b2, 0, none⟩ = some (.string u.n) := cellK gd 0
              have d1 : wg.cell? ⟨b2, 1, none⟩ = some (.int .i64 u.c) := cellK gd 1
              have d2 : wg.cell? ⟨b2, 2, none⟩ = some (.string u.z) := cellK gd 2
              have d3 : wg.cell? ⟨b2, 3, none⟩ = some (.string u.k) := cellK gd 3
              have d4 : wg.cell? ⟨b2, 4, none⟩ = some (.bool u.x) := cellK gd 4
              have d5 : wg.cell? ⟨b2, 5, none⟩ = some (.string u.m) := cellK gd 5
              have d6 : wg.cell? ⟨b2, 6, none⟩ = some (.bool u.y) := cellK gd 6
              have d7 : wg.cell? ⟨b2, 7, none⟩ = some (.slice ua ul uc) := cellK gd 7
              clear gd
              go_simp
              refine hK _ _ (Below.refl _ _) ?_
              first | with_reducible rfl | (simp; done) | (simp; omega) | rfl
            refine Grow.stepC (.bool false) rfl ?_ ?_
            · refine Obl.guarded rfl rfl (by intro a w e; simpa [slotFact, List.lookup] using e) ?_
              intro ac wg K hsz hW hf hK; clear hsz
              have e151 := hf 151 (by decide)
              simp [slotFact, List.lookup] at e151
              have e154 := hf 154 (by decide)
              simp [slotFact, List.lookup] at e154
              clear hf
              go_simp
              refine hK _ _ (Below.refl _ _) ?_
              first | with_reducible rfl | (simp; done) | (simp; omega) | rfl
            refine Grow.stepC (.bool false) rfl ?_ ?_
            · refine Obl.guarded rfl rfl (by intro a w e; simpa [slotFact, List.lookup] using e) ?_
              intro ac wg K hsz hW hf hK; clear hsz
              have e146 := hf 146 (by decide)
              simp [slotFact, List.lookup] at e146
              have e155 := hf 155 (by decide)
              simp [slotFact, List.lookup] at e155
              clear hf
              go_simp
              refine hK _ _ (Below.refl _ _) ?_
              first | with_reducible rfl | (simp; done) | (simp; omega) | rfl
            refine Grow.stepC (.bool false) rfl ?_ ?_
            · refine Obl.plain rfl ?_
              intro ac wg K hsz hW hf hK; clear hsz
              have e142 := hf 142 (by decide)
              simp [slotFact, List.lookup] at e142
              have e156 := hf 156 (by decide)
              simp [slotFact, List.lookup] at e156
              clear hf
              go_simp
              refine hK _ _ (Below.refl _ _) ?_
              first | with_reducible rfl | (simp; done) | (simp; omega) | rfl
            refine Grow.done ?_
            intro q wz hW hf
            simp only [List.forall_mem_cons] at hf
            obtain ⟨h157, -⟩ := hf
            refine hK0 _ _ ?_
            simp only [putsAll, List.foldr, Act.put, List.setIfInBounds_toArray, List.set_cons_zero, List.set_cons_succ, h157]
            have HBZ := hidK (HB.out.trans (hW.mono HB.out.size))
            clear hW h157
            go_wp2_with fail
            exact ⟨⟨k + 1, by omega, by go_num, HBZ⟩, by simp [intOf]; omega⟩
        · have hp1 : (p == 0) = false := by simp [hp]
          by_cases hp6 : p = 6
          · subst hp6
            have g8 : wr.cell? ⟨b2, 8, none⟩ = some (.int .i64 6) := cellK RX.out 8
            obtain ⟨b, o, v, rfl, hbs, hv, hfit, ea, el, ec, hvr, c0_, c1_, c2_, c3_, c4_, c5_, c6_, c7_⟩ := HVr.out.at hlt
            have HE := hidK hvr
            obtain ⟨rv, hrv⟩ := ex_bool (ServeOk v.n v.c v.z v.k v.x v.m v.y v.zs n1 c1 k1 x1 o1 t1)
            have HRV := hidK hrv
            clear hvr hrv
            go_wp2_with fail
            clear g8
            cases rv with
            | true =>
              have h6 := (HBE.out.law.2 (.inr rfl) v (List.mem_of_getElem? hv) (HRV.out.1 rfl)).1
              cases h6
            | false =>
              rename_i K0 hK0
              refine wp_region_grow (back := none) (by kernel_rfl) (List.append_nil _).symm (by kernel_rfl) ?_
              refine Grow.stepC (.slice (some ⟨b, o, none⟩) l cp) rfl ?_ ?_
              · refine Obl.plain rfl ?_
                intro ac wg K hsz hW hf hK; clear hsz
                have e5 := hf 5 (by decide)
                simp [slotFact, List.lookup] at e5
                clear hf
                go_simp
                refine hK _ _ (Below.refl _ _) ?_
                first | with_reducible rfl | (simp; done) | (simp; omega) | rfl
              refine Grow.stepC (.int .i64 k) rfl ?_ ?_
              · refine Obl.plain rfl ?_
                intro ac wg K hsz hW hf hK; clear hsz
                have e18 := hf 18 (by decide)
                simp [slotFact, List.lookup] at e18
                clear hf
                go_simp
                refine hK _ _ (Below.refl _ _) ?_
                first | with_reducible rfl | (simp; done) | (simp; omega) | rfl
              refine Grow.stepC (.pointer (some ⟨b, o + k * 8, none⟩)) rfl ?_ ?_
              · refine Obl.plain rfl ?_
                intro ac wg K hsz hW hf hK; clear hsz
                have e135 := hf 135 (by decide)
                simp [slotFact, List.lookup] at e135
                have e136 := hf 136 (by decide)
                simp [slotFact, List.lookup] at e136
                clear hf
                go_simp
                refine hK _ _ (Below.refl _ _) ?_
                first | with_reducible rfl | (simp; done) | (simp; omega) | rfl
              refine Grow.stepC (.agg #[.string v.n, .int .i64 v.c, .string v.z, .string v.k, .bool v.x, .string v.m, .bool v.y, .slice ea el ec]) rfl ?_ ?_
              · refine Obl.plain rfl ?_
                intro ac wg K hsz hW hf hK; clear hsz
                have e137 := hf 137 (by decide)
                simp [slotFact, List.lookup] at e137
                clear hf
                have d0 : wg.cell? ⟨b, o + k * 8, none⟩ = some (.string v.n) := (cell_below hW hbs).trans c0_
                have d1 : wg.cell? ⟨b, o + k * 8 + 1, none⟩ = some (.int .i64 v.c) := (cell_below hW hbs).trans c1_
                have d2 : wg.cell? ⟨b, o + k * 8 + 2, none⟩ = some (.string v.z) := (cell_below hW hbs).trans c2_
                have d3 : wg.cell? ⟨b, o + k * 8 + 3, none⟩ = some (.string v.k) := (cell_below hW hbs).trans c3_
                have d4 : wg.cell? ⟨b, o + k * 8 + 4, none⟩ = some (.bool v.x) := (cell_below hW hbs).trans c4_
                have d5 : wg.cell? ⟨b, o + k * 8 + 5, none⟩ = some (.string v.m) := (cell_below hW hbs).trans c5_
                have d6 : wg.cell? ⟨b, o + k * 8 + 6, none⟩ = some (.bool v.y) := (cell_below hW hbs).trans c6_
                have d7 : wg.cell? ⟨b, o + k * 8 + 7, none⟩ = some (.slice ea el ec) := (cell_below hW hbs).trans c7_
                go_simp
                refine hK _ _ (Below.refl _ _) ?_
                first | with_reducible rfl | (simp; done) | (simp; omega) | rfl
              refine Grow.stepC (.agg #[.string n1, .int .i64 c1, .string k1, .bool x1, .string o1]) rfl ?_ ?_
              · refine Obl.plain rfl ?_
                intro ac wg K hsz hW hf hK; clear hsz
                have e6 := hf 6 (by decide)
                simp [slotFact, List.lookup] at e6
                clear hf
                have gd := (hW.block _ (lt_of_some RC.out)).trans RC.out
                have d0 : wg.cell? ⟨b1, 0, none⟩ = some (.string n1) := cellK gd 0
                have d1 : wg.cell? ⟨b1, 1, none⟩ = some (.int .i64 c1) := cellK gd 1
                have d2 : wg.cell? ⟨b1, 2, none⟩ = some (.string k1) := cellK gd 2
                have d3 : wg.cell? ⟨b1, 3, none⟩ = some (.bool x1) := cellK gd 3
                have d4 : wg.cell? ⟨b1, 4, none⟩ = some (.string o1) := cellK gd 4
                clear gd
                go_simp
                refine hK _ _ (Below.refl _ _) ?_
                first | with_reducible rfl | (simp; done) | (simp; omega) | rfl
              refine Grow.stepC (.string t1) rfl ?_ ?_
              · refine Obl.plain rfl ?_
                intro ac wg K hsz hW hf hK; clear hsz
                have e7 := hf 7 (by decide)
                simp [slotFact, List.lookup] at e7
                clear hf
                go_simp
                refine hK _ _ (Below.refl _ _) ?_
                first | with_reducible rfl | (simp; done) | (simp; omega) | rfl
              refine Grow.stepC (.bool false) rfl ?_ ?_
              · refine Obl.plain rfl ?_
                intro ac wg K hsz hW hf hK; clear hsz
                have e138 := hf 138 (by decide)
                simp [slotFact, List.lookup] at e138
                have e139 := hf 139 (by decide)
                simp [slotFact, List.lookup] at e139
                have e140 := hf 140 (by decide)
                simp [slotFact, List.lookup] at e140
                clear hf
                go_simp
                refine (iserves_any v.n v.c v.z v.k v.x v.m v.y ea el ec v.zs n1 c1 k1 x1 o1 t1 _ hfit.1 hfit.2.1 hfit.2.2.1 hfit.2.2.2 (by omega) (by omega) (by omega) (by omega) (HE.out.below hW)).mono ?_
                rintro e wh ⟨r, rfl, hr, hb⟩
                obtain rfl : r = false := Bool.eq_iff_iff.2 (hr.trans HRV.out.symm)
                exact hK _ _ hb rfl
              refine Grow.stepC (.bool false) rfl ?_ ?_
              · refine Obl.plain rfl ?_
                intro ac wg K hsz hW hf hK; clear hsz
                have e141 := hf 141 (by decide)
                simp [slotFact, List.lookup] at e141
                clear hf
                go_simp
                refine hK _ _ (Below.refl _ _) ?_
                first | with_reducible rfl | (simp; done) | (simp; omega) | rfl
              refine Grow.stepC undef rfl (Obl.passed rfl rfl (by intro a w e h; simp [slotFact, List.lookup] at e; rw [Array.getD_eq_getD_getElem?, e] at h; cases h)) ?_
              refine Grow.stepC undef rfl (Obl.passed rfl rfl (by intro a w e h; simp [slotFact, List.lookup] at e; rw [Array.getD_eq_getD_getElem?, e] at h; cases h)) ?_
              refine Grow.stepC undef rfl (Obl.passed rfl rfl (by intro a w e h; simp [slotFact, List.lookup] at e; rw [Array.getD_eq_getD_getElem?, e] at h; cases h)) ?_
              refine Grow.stepC undef rfl (Obl.passed rfl rfl (by intro a w e h; simp [slotFact, List.lookup] at e; rw [Array.getD_eq_getD_getElem?, e] at h; cases h)) ?_
              refine Grow.stepC undef rfl (Obl.passed rfl rfl (by intro a w e h; simp [slotFact, List.lookup] at e; rw [Array.getD_eq_getD_getElem?, e] at h; simp [undef] at h)) ?_
              refine Grow.stepC undef rfl (Obl.passed rfl rfl (by intro a w e h; simp [slotFact, List.lookup] at e; rw [Array.getD_eq_getD_getElem?, e] at h; simp [undef] at h)) ?_
              refine Grow.stepC undef rfl (Obl.passed rfl rfl (by intro a w e h; simp [slotFact, List.lookup] at e; rw [Array.getD_eq_getD_getElem?, e] at h; simp [undef] at h)) ?_
              refine Grow.stepC undef rfl (Obl.passed rfl rfl (by intro a w e h; simp [slotFact, List.lookup] at e; rw [Array.getD_eq_getD_getElem?, e] at h; simp [undef] at h)) ?_
              refine Grow.stepC undef rfl (Obl.passed rfl rfl (by intro a w e h; simp [slotFact, List.lookup] at e; rw [Array.getD_eq_getD_getElem?, e] at h; simp [undef] at h)) ?_
              refine Grow.stepC undef rfl (Obl.passed rfl rfl (by intro a w e h; simp [slotFact, List.lookup] at e; rw [Array.getD_eq_getD_getElem?, e] at h; simp [undef] at h)) ?_
              refine Grow.stepC undef rfl (Obl.passed rfl rfl (by intro a w e h; simp [slotFact, List.lookup] at e; rw [Array.getD_eq_getD_getElem?, e] at h; simp [undef] at h)) ?_
              refine Grow.stepC undef rfl (Obl.passed rfl rfl (by intro a w e h; simp [slotFact, List.lookup] at e; rw [Array.getD_eq_getD_getElem?, e] at h; simp [undef] at h)) ?_
              refine Grow.stepC undef rfl (Obl.passed rfl rfl (by intro a w e h; simp [slotFact, List.lookup] at e; rw [Array.getD_eq_getD_getElem?, e] at h; simp [undef] at h)) ?_
              refine Grow.stepC undef rfl (Obl.passed rfl rfl (by intro a w e h; simp [slotFact, List.lookup] at e; rw [Array.getD_eq_getD_getElem?, e] at h; cases h)) ?_
              refine Grow.stepC (.bool false) rfl ?_ ?_
              · refine Obl.plain rfl ?_
                intro ac wg K hsz hW hf hK; clear hsz
                have e142 := hf 142 (by decide)
                simp [slotFact, List.lookup] at e142
                have e156 := hf 156 (by decide)
                simp [slotFact, List.lookup] at e156
                clear hf
                go_simp
                refine hK _ _ (Below.refl _ _) ?_
                first | with_reducible rfl | (simp; done) | (simp; omega) | rfl
              refine Grow.done ?_
              intro q wz hW hf
              simp only [List.forall_mem_cons] at hf
              obtain ⟨h157, -⟩ := hf
              refine hK0 _ _ ?_
              simp only [putsAll, List.foldr, Act.put, List.setIfInBounds_toArray, List.set_cons_zero, List.set_cons_succ, h157]
              have HBZ := hidK (HB.out.trans (hW.mono HB.out.size))
              clear hW h157
              go_wp2_with fail
              exact ⟨⟨k + 1, by omega, by go_num, HBZ⟩, by simp [intOf]; omega⟩
          · have hp7 : (p == 6) = false := by simp [hp6]
            have HB2 := HB
            have SM := hidK ((HB2.out.block _ (lt_of_some GM6.out)).trans GM6.out)
            have SK := hidK ((HB2.out.block _ (lt_of_some GK6.out)).trans GK6.out)
            have SZ := hidK ((HB2.out.block _ (lt_of_some GZ6.out)).trans GZ6.out)
            clear RC RM RK RZ HVr HTr
            have g8 : wr.cell? ⟨b2, 8, none⟩ = some (.int .i64 p) := cellK RX.out 8
            clear RX
            have hl5 : b5 < wr.heap.size := lt_of_some SZ.out
            have hl4 : b4 + 1 < wr.heap.size := lt_of_some SK.out
            have hl3 : b4 < wr.heap.size := by omega
            have hn5 : ¬ b5 = wr.heap.size := by omega
            have hn4 : ¬ b4 = wr.heap.size := by omega
            have hn3 : ¬ b4 + 1 = wr.heap.size := by omega
            have hm5 : ¬ wr.heap.size = b5 := by omega
            have hm4 : ¬ wr.heap.size = b4 := by omega
            have hm3 : ¬ wr.heap.size = b4 + 1 := by omega
            by_cases hq : p0 = 0
            · subst hq
              obtain ⟨hsv, hmay, rfl, hvr⟩ := HMK.out.law
              have HSV := hidK hsv
              have HMA := hidK hmay
              have HVR := hidK hvr
              clear hsv hmay hvr
              have hmq : (m0.toList == m0.toList) = true := by simp
              have z0_ : wr.cell? ⟨b5, 0, none⟩ = some (.string n0) := cellK SZ.out 0
              have z1_ : wr.cell? ⟨b5, 1, none⟩ = some (.int .i64 c0) := cellK SZ.out 1
              have z2_ : wr.cell? ⟨b5, 2, none⟩ = some (.string z0) := cellK SZ.out 2
              have z3_ : wr.cell? ⟨b5, 3, none⟩ = some (.string k0) := cellK SZ.out 3
              have z4_ : wr.cell? ⟨b5, 4, none⟩ = some (.bool x0) := cellK SZ.out 4
              have z5_ : wr.cell? ⟨b5, 5, none⟩ = some (.string m0) := cellK SZ.out 5
              have z6_ : wr.cell? ⟨b5, 6, none⟩ = some (.bool false) := cellK SZ.out 6
              have z7_ : wr.cell? ⟨b5, 7, none⟩ = some (.slice none 0 0) := cellK SZ.out 7
              have z8_ : wr.cell? ⟨b5, 8, none⟩ = some (.int .i64 0) := cellK SZ.out 8
              have y0_ : wr.cell? ⟨b4, 0, none⟩ = some (.string m0) := cellK SM.out 0
              have y1_ : wr.cell? ⟨b4, 1, none⟩ = some (.int .i64 c4) := cellK SM.out 1
              have y2_ : wr.cell? ⟨b4, 2, none⟩ = some (.string k4) := cellK SM.out 2
              have y3_ : wr.cell? ⟨b4, 3, none⟩ = some (.bool x4) := cellK SM.out 3
              have y4_ : wr.cell? ⟨b4, 4, none⟩ = some (.string o4) := cellK SM.out 4
              go_wp2_with fail
              refine (iserves_any n0 c0 z0 k0 x0 ⟨#[]⟩ false none 0 0 [] m0 c4 k4 x4 o4 t5 _ (by have := HSV.out.1.1.2.1; omega) (by have := HSV.out.1.2.2.1.2.1; omega) (by have := HSV.out.1.2.2.2.1.2.1; omega) (by decide) (by omega) (by omega) (by omega) (by omega) (row_nil _)).mono ?_
              rintro e w8 ⟨r, rfl, hr, hb⟩
              obtain rfl : r = true := hr.2 HSV.out
              have hb8 := (below1 wr (.cells #[.string n0, .int .i64 c0, .string z0, .string k0, .bool x0, .string ⟨#[]⟩, .bool false, .slice none 0 0] 30)).trans (hb.mono (below1 wr (.cells #[.string n0, .int .i64 c0, .string z0, .string k0, .bool x0, .string ⟨#[]⟩, .bool false, .slice none 0 0] 30)).size)
              have HB8 := hidK (HB2.out.trans (hb8.mono HB2.out.size))
              have TK := hidK ((hb8.block _ (lt_of_some SK.out)).trans SK.out)
              have TM := hidK ((hb8.block _ (lt_of_some SM.out)).trans SM.out)
              have TZ := hidK ((hb8.block _ (lt_of_some SZ.out)).trans SZ.out)
              clear hr hb hb8 SK SM SZ z0_ z1_ z2_ z3_ z4_ z5_ z6_ z7_ z8_ y0_ y1_ y2_ y3_ y4_
              have s0 : w8.cell? ⟨(b4 + 1), 0, none⟩ = some (.string n5) := cellK TK.out 0
              have s1 : w8.cell? ⟨(b4 + 1), 1, none⟩ = some (.bool x5) := cellK TK.out 1
              have s2 : w8.cell? ⟨(b4 + 1), 2, none⟩ = some (.bool y5) := cellK TK.out 2
              have s3 : w8.cell? ⟨(b4 + 1), 3, none⟩ = some (.string z5) := cellK TK.out 3
              go_wp2_with fail
              refine (imay_any n5 x5 y5 z5 t5 _ (by omega) (by omega) (by omega)).mono ?_
              rintro e w9 ⟨r, rfl, hr, hb⟩
              obtain rfl : r = true := hr.2 HMA.out
              have HB9 := hidK (HB8.out.trans (hb.mono HB8.out.size))
              have UM := hidK ((hb.block _ (lt_of_some TM.out)).trans TM.out)
              have UZ := hidK ((hb.block _ (lt_of_some TZ.out)).trans TZ.out)
              clear hr hb TK TM TZ s0 s1 s2 s3
              have z0_ : w9.cell? ⟨b5, 0, none⟩ = some (.string n0) := cellK UZ.out 0
              have z1_ : w9.cell? ⟨b5, 1, none⟩ = some (.int .i64 c0) := cellK UZ.out 1
              have z2_ : w9.cell? ⟨b5, 2, none⟩ = some (.string z0) := cellK UZ.out 2
              have z3_ : w9.cell? ⟨b5, 3, none⟩ = some (.string k0) := cellK UZ.out 3
              have z4_ : w9.cell? ⟨b5, 4, none⟩ = some (.bool x0) := cellK UZ.out 4
              have z5_ : w9.cell? ⟨b5, 5, none⟩ = some (.string m0) := cellK UZ.out 5
              have z6_ : w9.cell? ⟨b5, 6, none⟩ = some (.bool false) := cellK UZ.out 6
              have z7_ : w9.cell? ⟨b5, 7, none⟩ = some (.slice none 0 0) := cellK UZ.out 7
              have z8_ : w9.cell? ⟨b5, 8, none⟩ = some (.int .i64 0) := cellK UZ.out 8
              have y0_ : w9.cell? ⟨b4, 0, none⟩ = some (.string m0) := cellK UM.out 0
              have y1_ : w9.cell? ⟨b4, 1, none⟩ = some (.int .i64 c4) := cellK UM.out 1
              have y2_ : w9.cell? ⟨b4, 2, none⟩ = some (.string k4) := cellK UM.out 2
              have y3_ : w9.cell? ⟨b4, 3, none⟩ = some (.bool x4) := cellK UM.out 3
              have y4_ : w9.cell? ⟨b4, 4, none⟩ = some (.string o4) := cellK UM.out 4
              go_wp2_with fail
              refine (svol_any n0 c0 z0 k0 x0 m0 false none 0 0 [] _ (by have := HSV.out.1.1.2.1; omega) (by have := HSV.out.1.2.2.1.2.1; omega) (by have := HSV.out.1.2.2.2.1.2.1; omega) (by omega) (row_nil _)).mono ?_
              rintro e w10 ⟨r, rfl, hr, hb⟩
              obtain rfl : r = true := hr.2 HVR.out
              have HBA := hidK (HB9.out.trans (hb.mono HB9.out.size))
              clear hr hb UM UZ
              go_wp2_with fail
              go_ret
              exact ⟨rfl, hW6.out.trans (HBA.out.mono hW6.out.size)⟩
            · have hq1 : (p0 == 0) = false := by simp [hq]
              have z0_ : wr.cell? ⟨b5, 0, none⟩ = some (.string n0) := cellK SZ.out 0
              have z1_ : wr.cell? ⟨b5, 1, none⟩ = some (.int .i64 c0) := cellK SZ.out 1
              have z2_ : wr.cell? ⟨b5, 2, none⟩ = some (.string z0) := cellK SZ.out 2
              have z3_ : wr.cell? ⟨b5, 3, none⟩ = some (.string k0) := cellK SZ.out 3
              have z4_ : wr.cell? ⟨b5, 4, none⟩ = some (.bool x0) := cellK SZ.out 4
              have z5_ : wr.cell? ⟨b5, 5, none⟩ = some (.string m0) := cellK SZ.out 5
              have z6_ : wr.cell? ⟨b5, 6, none⟩ = some (.bool false) := cellK SZ.out 6
              have z7_ : wr.cell? ⟨b5, 7, none⟩ = some (.slice none 0 0) := cellK SZ.out 7
              have z8_ : wr.cell? ⟨b5, 8, none⟩ = some (.int .i64 p0) := cellK SZ.out 8
              have hba := HB2.out.trans ((below1 wr (.cells #[.string n0, .int .i64 c0, .string z0, .string k0, .bool x0, .string ⟨#[]⟩, .bool false, .slice none 0 0] 30)).mono HB2.out.size)
              have HBA := hidK hba
              clear hba SM SK SZ
              go_wp2_with fail
              go_ret
              exact ⟨rfl, hW6.out.trans (HBA.out.mono hW6.out.size)⟩
      · obtain rfl : k = l := by omega
        by_cases hp : p = 0
        · subst hp
          obtain ⟨⟨j1, -, j3, j4, j5, -⟩, -⟩ := HBE.out.law.1 rfl
          have hfu : u.Fit := ⟨by have := j1.2.1; omega, by have := j3.2.1; omega, by have := j4.2.1; omega, by have := zone_short j5; omega⟩
          clear j1 j3 j4 j5
          have g0 : wr.cell? ⟨b2, 0, none⟩ = some (.string u.n) := cellK RX.out 0
          have g1 : wr.cell? ⟨b2, 1, none⟩ = some (.int .i64 u.c) := cellK RX.out 1
          have g2 : wr.cell? ⟨b2, 2, none⟩ = some (.string u.z) := cellK RX.out 2
          have g3 : wr.cell? ⟨b2, 3, none⟩ = some (.string u.k) := cellK RX.out 3
          have g4 : wr.cell? ⟨b2, 4, none⟩ = some (.bool u.x) := cellK RX.out 4
          have g5 : wr.cell? ⟨b2, 5, none⟩ = some (.string u.m) := cellK RX.out 5
          have g6 : wr.cell? ⟨b2, 6, none⟩ = some (.bool u.y) := cellK RX.out 6
          have g7 : wr.cell? ⟨b2, 7, none⟩ = some (.slice ua ul uc) := cellK RX.out 7
          have g8 : wr.cell? ⟨b2, 8, none⟩ = some (.int .i64 0) := cellK RX.out 8
          have h0 : wr.cell? ⟨b1, 0, none⟩ = some (.string n1) := cellK RC.out 0
          have h1 : wr.cell? ⟨b1, 1, none⟩ = some (.int .i64 c1) := cellK RC.out 1
          have h2 : wr.cell? ⟨b1, 2, none⟩ = some (.string k1) := cellK RC.out 2
          have h3 : wr.cell? ⟨b1, 3, none⟩ = some (.bool x1) := cellK RC.out 3
          have h4 : wr.cell? ⟨b1, 4, none⟩ = some (.string o1) := cellK RC.out 4
          go_wp2_with fail
          refine (iserves_any u.n u.c u.z u.k u.x u.m u.y ua ul uc u.zs n1 c1 k1 x1 o1 t1 _ hfu.1 hfu.2.1 hfu.2.2.1 hfu.2.2.2 (by omega) (by omega) (by omega) (by omega) HTr.out).mono ?_
          rintro e wr2 ⟨r, rfl, hr, hb⟩
          obtain rfl : r = true := hr.2 (HBE.out.law.1 rfl)
          have HB2 := hidK (HB.out.trans (hb.mono HB.out.size))
          clear hr hb
          clear g0 g1 g2 g3 g4 g5 g6 g7 g8 h0 h1 h2 h3 h4
          have SM := hidK ((HB2.out.block _ (lt_of_some GM6.out)).trans GM6.out)
          have SK := hidK ((HB2.out.block _ (lt_of_some GK6.out)).trans GK6.out)
          have SZ := hidK ((HB2.out.block _ (lt_of_some GZ6.out)).trans GZ6.out)
          clear RC RM RK RZ HVr HTr
          clear RX
          have hl5 : b5 < wr2.heap.size := lt_of_some SZ.out
          have hl4 : b4 + 1 < wr2.heap.size := lt_of_some SK.out
          have hl3 : b4 < wr2.heap.size := by omega
          have hn5 : ¬ b5 = wr2.heap.size := by omega
          have hn4 : ¬ b4 = wr2.heap.size := by omega
          have hn3 : ¬ b4 + 1 = wr2.heap.size := by omega
          have hm5 : ¬ wr2.heap.size = b5 := by omega
          have hm4 : ¬ wr2.heap.size = b4 := by omega
          have hm3 : ¬ wr2.heap.size = b4 + 1 := by omega
          by_cases hq : p0 = 0
          · subst hq
            obtain ⟨hsv, hmay, rfl, hvr⟩ := HMK.out.law
            have HSV := hidK hsv
            have HMA := hidK hmay
            have HVR := hidK hvr
            clear hsv hmay hvr
            have hmq : (m0.toList == m0.toList) = true := by simp
            have z0_ : wr2.cell? ⟨b5, 0, none⟩ = some (.string n0) := cellK SZ.out 0
            have z1_ : wr2.cell? ⟨b5, 1, none⟩ = some (.int .i64 c0) := cellK SZ.out 1
            have z2_ : wr2.cell? ⟨b5, 2, none⟩ = some (.string z0) := cellK SZ.out 2
            have z3_ : wr2.cell? ⟨b5, 3, none⟩ = some (.string k0) := cellK SZ.out 3
            have z4_ : wr2.cell? ⟨b5, 4, none⟩ = some (.bool x0) := cellK SZ.out 4
            have z5_ : wr2.cell? ⟨b5, 5, none⟩ = some (.string m0) := cellK SZ.out 5
            have z6_ : wr2.cell? ⟨b5, 6, none⟩ = some (.bool false) := cellK SZ.out 6
            have z7_ : wr2.cell? ⟨b5, 7, none⟩ = some (.slice none 0 0) := cellK SZ.out 7
            have z8_ : wr2.cell? ⟨b5, 8, none⟩ = some (.int .i64 0) := cellK SZ.out 8
            have y0_ : wr2.cell? ⟨b4, 0, none⟩ = some (.string m0) := cellK SM.out 0
            have y1_ : wr2.cell? ⟨b4, 1, none⟩ = some (.int .i64 c4) := cellK SM.out 1
            have y2_ : wr2.cell? ⟨b4, 2, none⟩ = some (.string k4) := cellK SM.out 2
            have y3_ : wr2.cell? ⟨b4, 3, none⟩ = some (.bool x4) := cellK SM.out 3
            have y4_ : wr2.cell? ⟨b4, 4, none⟩ = some (.string o4) := cellK SM.out 4
            go_wp2_with fail
            refine (iserves_any n0 c0 z0 k0 x0 ⟨#[]⟩ false none 0 0 [] m0 c4 k4 x4 o4 t5 _ (by have := HSV.out.1.1.2.1; omega) (by have := HSV.out.1.2.2.1.2.1; omega) (by have := HSV.out.1.2.2.2.1.2.1; omega) (by decide) (by omega) (by omega) (by omega) (by omega) (row_nil _)).mono ?_
            rintro e w8 ⟨r, rfl, hr, hb⟩
            obtain rfl : r = true := hr.2 HSV.out
            have hb8 := (below1 wr2 (.cells #[.string n0, .int .i64 c0, .string z0, .string k0, .bool x0, .string ⟨#[]⟩, .bool false, .slice none 0 0] 30)).trans (hb.mono (below1 wr2 (.cells #[.string n0, .int .i64 c0, .string z0, .string k0, .bool x0, .string ⟨#[]⟩, .bool false, .slice none 0 0] 30)).size)
            have HB8 := hidK (HB2.out.trans (hb8.mono HB2.out.size))
            have TK := hidK ((hb8.block _ (lt_of_some SK.out)).trans SK.out)
            have TM := hidK ((hb8.block _ (lt_of_some SM.out)).trans SM.out)
            have TZ := hidK ((hb8.block _ (lt_of_some SZ.out)).trans SZ.out)
            clear hr hb hb8 SK SM SZ z0_ z1_ z2_ z3_ z4_ z5_ z6_ z7_ z8_ y0_ y1_ y2_ y3_ y4_
            have s0 : w8.cell? ⟨(b4 + 1), 0, none⟩ = some (.string n5) := cellK TK.out 0
            have s1 : w8.cell? ⟨(b4 + 1), 1, none⟩ = some (.bool x5) := cellK TK.out 1
            have s2 : w8.cell? ⟨(b4 + 1), 2, none⟩ = some (.bool y5) := cellK TK.out 2
            have s3 : w8.cell? ⟨(b4 + 1), 3, none⟩ = some (.string z5) := cellK TK.out 3
            go_wp2_with fail
            refine (imay_any n5 x5 y5 z5 t5 _ (by omega) (by omega) (by omega)).mono ?_
            rintro e w9 ⟨r, rfl, hr, hb⟩
            obtain rfl : r = true := hr.2 HMA.out
            have HB9 := hidK (HB8.out.trans (hb.mono HB8.out.size))
            have UM := hidK ((hb.block _ (lt_of_some TM.out)).trans TM.out)
            have UZ := hidK ((hb.block _ (lt_of_some TZ.out)).trans TZ.out)
            clear hr hb TK TM TZ s0 s1 s2 s3
            have z0_ : w9.cell? ⟨b5, 0, none⟩ = some (.string n0) := cellK UZ.out 0
            have z1_ : w9.cell? ⟨b5, 1, none⟩ = some (.int .i64 c0) := cellK UZ.out 1
            have z2_ : w9.cell? ⟨b5, 2, none⟩ = some (.string z0) := cellK UZ.out 2
            have z3_ : w9.cell? ⟨b5, 3, none⟩ = some (.string k0) := cellK UZ.out 3
            have z4_ : w9.cell? ⟨b5, 4, none⟩ = some (.bool x0) := cellK UZ.out 4
            have z5_ : w9.cell? ⟨b5, 5, none⟩ = some (.string m0) := cellK UZ.out 5
            have z6_ : w9.cell? ⟨b5, 6, none⟩ = some (.bool false) := cellK UZ.out 6
            have z7_ : w9.cell? ⟨b5, 7, none⟩ = some (.slice none 0 0) := cellK UZ.out 7
            have z8_ : w9.cell? ⟨b5, 8, none⟩ = some (.int .i64 0) := cellK UZ.out 8
            have y0_ : w9.cell? ⟨b4, 0, none⟩ = some (.string m0) := cellK UM.out 0
            have y1_ : w9.cell? ⟨b4, 1, none⟩ = some (.int .i64 c4) := cellK UM.out 1
            have y2_ : w9.cell? ⟨b4, 2, none⟩ = some (.string k4) := cellK UM.out 2
            have y3_ : w9.cell? ⟨b4, 3, none⟩ = some (.bool x4) := cellK UM.out 3
            have y4_ : w9.cell? ⟨b4, 4, none⟩ = some (.string o4) := cellK UM.out 4
            go_wp2_with fail
            refine (svol_any n0 c0 z0 k0 x0 m0 false none 0 0 [] _ (by have := HSV.out.1.1.2.1; omega) (by have := HSV.out.1.2.2.1.2.1; omega) (by have := HSV.out.1.2.2.2.1.2.1; omega) (by omega) (row_nil _)).mono ?_
            rintro e w10 ⟨r, rfl, hr, hb⟩
            obtain rfl : r = true := hr.2 HVR.out
            have HBA := hidK (HB9.out.trans (hb.mono HB9.out.size))
            clear hr hb UM UZ
            go_wp2_with fail
            go_ret
            exact ⟨rfl, hW6.out.trans (HBA.out.mono hW6.out.size)⟩
          · have hq1 : (p0 == 0) = false := by simp [hq]
            have z0_ : wr2.cell? ⟨b5, 0, none⟩ = some (.string n0) := cellK SZ.out 0
            have z1_ : wr2.cell? ⟨b5, 1, none⟩ = some (.int .i64 c0) := cellK SZ.out 1
            have z2_ : wr2.cell? ⟨b5, 2, none⟩ = some (.string z0) := cellK SZ.out 2
            have z3_ : wr2.cell? ⟨b5, 3, none⟩ = some (.string k0) := cellK SZ.out 3
            have z4_ : wr2.cell? ⟨b5, 4, none⟩ = some (.bool x0) := cellK SZ.out 4
            have z5_ : wr2.cell? ⟨b5, 5, none⟩ = some (.string m0) := cellK SZ.out 5
            have z6_ : wr2.cell? ⟨b5, 6, none⟩ = some (.bool false) := cellK SZ.out 6
            have z7_ : wr2.cell? ⟨b5, 7, none⟩ = some (.slice none 0 0) := cellK SZ.out 7
            have z8_ : wr2.cell? ⟨b5, 8, none⟩ = some (.int .i64 p0) := cellK SZ.out 8
            have hba := HB2.out.trans ((below1 wr2 (.cells #[.string n0, .int .i64 c0, .string z0, .string k0, .bool x0, .string ⟨#[]⟩, .bool false, .slice none 0 0] 30)).mono HB2.out.size)
            have HBA := hidK hba
            clear hba SM SK SZ
            go_wp2_with fail
            go_ret
            exact ⟨rfl, hW6.out.trans (HBA.out.mono hW6.out.size)⟩
        · have hp1 : (p == 0) = false := by simp [hp]
          have HB2 := HB
          have SM := hidK ((HB2.out.block _ (lt_of_some GM6.out)).trans GM6.out)
          have SK := hidK ((HB2.out.block _ (lt_of_some GK6.out)).trans GK6.out)
          have SZ := hidK ((HB2.out.block _ (lt_of_some GZ6.out)).trans GZ6.out)
          clear RC RM RK RZ HVr HTr
          have g8 : wr.cell? ⟨b2, 8, none⟩ = some (.int .i64 p) := cellK RX.out 8
          clear RX
          have hl5 : b5 < wr.heap.size := lt_of_some SZ.out
          have hl4 : b4 + 1 < wr.heap.size := lt_of_some SK.out
          have hl3 : b4 < wr.heap.size := by omega
          have hn5 : ¬ b5 = wr.heap.size := by omega
          have hn4 : ¬ b4 = wr.heap.size := by omega
          have hn3 : ¬ b4 + 1 = wr.heap.size := by omega
          have hm5 : ¬ wr.heap.size = b5 := by omega
          have hm4 : ¬ wr.heap.size = b4 := by omega
          have hm3 : ¬ wr.heap.size = b4 + 1 := by omega
          by_cases hq : p0 = 0
          · subst hq
            obtain ⟨hsv, hmay, rfl, hvr⟩ := HMK.out.law
            have HSV := hidK hsv
            have HMA := hidK hmay
            have HVR := hidK hvr
            clear hsv hmay hvr
            have hmq : (m0.toList == m0.toList) = true := by simp
            have z0_ : wr.cell? ⟨b5, 0, none⟩ = some (.string n0) := cellK SZ.out 0
            have z1_ : wr.cell? ⟨b5, 1, none⟩ = some (.int .i64 c0) := cellK SZ.out 1
            have z2_ : wr.cell? ⟨b5, 2, none⟩ = some (.string z0) := cellK SZ.out 2
            have z3_ : wr.cell? ⟨b5, 3, none⟩ = some (.string k0) := cellK SZ.out 3
            have z4_ : wr.cell? ⟨b5, 4, none⟩ = some (.bool x0) := cellK SZ.out 4
            have z5_ : wr.cell? ⟨b5, 5, none⟩ = some (.string m0) := cellK SZ.out 5
            have z6_ : wr.cell? ⟨b5, 6, none⟩ = some (.bool false) := cellK SZ.out 6
            have z7_ : wr.cell? ⟨b5, 7, none⟩ = some (.slice none 0 0) := cellK SZ.out 7
            have z8_ : wr.cell? ⟨b5, 8, none⟩ = some (.int .i64 0) := cellK SZ.out 8
            have y0_ : wr.cell? ⟨b4, 0, none⟩ = some (.string m0) := cellK SM.out 0
            have y1_ : wr.cell? ⟨b4, 1, none⟩ = some (.int .i64 c4) := cellK SM.out 1
            have y2_ : wr.cell? ⟨b4, 2, none⟩ = some (.string k4) := cellK SM.out 2
            have y3_ : wr.cell? ⟨b4, 3, none⟩ = some (.bool x4) := cellK SM.out 3
            have y4_ : wr.cell? ⟨b4, 4, none⟩ = some (.string o4) := cellK SM.out 4
            go_wp2_with fail
            refine (iserves_any n0 c0 z0 k0 x0 ⟨#[]⟩ false none 0 0 [] m0 c4 k4 x4 o4 t5 _ (by have := HSV.out.1.1.2.1; omega) (by have := HSV.out.1.2.2.1.2.1; omega) (by have := HSV.out.1.2.2.2.1.2.1; omega) (by decide) (by omega) (by omega) (by omega) (by omega) (row_nil _)).mono ?_
            rintro e w8 ⟨r, rfl, hr, hb⟩
            obtain rfl : r = true := hr.2 HSV.out
            have hb8 := (below1 wr (.cells #[.string n0, .int .i64 c0, .string z0, .string k0, .bool x0, .string ⟨#[]⟩, .bool false, .slice none 0 0] 30)).trans (hb.mono (below1 wr (.cells #[.string n0, .int .i64 c0, .string z0, .string k0, .bool x0, .string ⟨#[]⟩, .bool false, .slice none 0 0] 30)).size)
            have HB8 := hidK (HB2.out.trans (hb8.mono HB2.out.size))
            have TK := hidK ((hb8.block _ (lt_of_some SK.out)).trans SK.out)
            have TM := hidK ((hb8.block _ (lt_of_some SM.out)).trans SM.out)
            have TZ := hidK ((hb8.block _ (lt_of_some SZ.out)).trans SZ.out)
            clear hr hb hb8 SK SM SZ z0_ z1_ z2_ z3_ z4_ z5_ z6_ z7_ z8_ y0_ y1_ y2_ y3_ y4_
            have s0 : w8.cell? ⟨(b4 + 1), 0, none⟩ = some (.string n5) := cellK TK.out 0
            have s1 : w8.cell? ⟨(b4 + 1), 1, none⟩ = some (.bool x5) := cellK TK.out 1
            have s2 : w8.cell? ⟨(b4 + 1), 2, none⟩ = some (.bool y5) := cellK TK.out 2
            have s3 : w8.cell? ⟨(b4 + 1), 3, none⟩ = some (.string z5) := cellK TK.out 3
            go_wp2_with fail
            refine (imay_any n5 x5 y5 z5 t5 _ (by omega) (by omega) (by omega)).mono ?_
            rintro e w9 ⟨r, rfl, hr, hb⟩
            obtain rfl : r = true := hr.2 HMA.out
            have HB9 := hidK (HB8.out.trans (hb.mono HB8.out.size))
            have UM := hidK ((hb.block _ (lt_of_some TM.out)).trans TM.out)
            have UZ := hidK ((hb.block _ (lt_of_some TZ.out)).trans TZ.out)
            clear hr hb TK TM TZ s0 s1 s2 s3
            have z0_ : w9.cell? ⟨b5, 0, none⟩ = some (.string n0) := cellK UZ.out 0
            have z1_ : w9.cell? ⟨b5, 1, none⟩ = some (.int .i64 c0) := cellK UZ.out 1
            have z2_ : w9.cell? ⟨b5, 2, none⟩ = some (.string z0) := cellK UZ.out 2
            have z3_ : w9.cell? ⟨b5, 3, none⟩ = some (.string k0) := cellK UZ.out 3
            have z4_ : w9.cell? ⟨b5, 4, none⟩ = some (.bool x0) := cellK UZ.out 4
            have z5_ : w9.cell? ⟨b5, 5, none⟩ = some (.string m0) := cellK UZ.out 5
            have z6_ : w9.cell? ⟨b5, 6, none⟩ = some (.bool false) := cellK UZ.out 6
            have z7_ : w9.cell? ⟨b5, 7, none⟩ = some (.slice none 0 0) := cellK UZ.out 7
            have z8_ : w9.cell? ⟨b5, 8, none⟩ = some (.int .i64 0) := cellK UZ.out 8
            have y0_ : w9.cell? ⟨b4, 0, none⟩ = some (.string m0) := cellK UM.out 0
            have y1_ : w9.cell? ⟨b4, 1, none⟩ = some (.int .i64 c4) := cellK UM.out 1
            have y2_ : w9.cell? ⟨b4, 2, none⟩ = some (.string k4) := cellK UM.out 2
            have y3_ : w9.cell? ⟨b4, 3, none⟩ = some (.bool x4) := cellK UM.out 3
            have y4_ : w9.cell? ⟨b4, 4, none⟩ = some (.string o4) := cellK UM.out 4
            go_wp2_with fail
            refine (svol_any n0 c0 z0 k0 x0 m0 false none 0 0 [] _ (by have := HSV.out.1.1.2.1; omega) (by have := HSV.out.1.2.2.1.2.1; omega) (by have := HSV.out.1.2.2.2.1.2.1; omega) (by omega) (row_nil _)).mono ?_
            rintro e w10 ⟨r, rfl, hr, hb⟩
            obtain rfl : r = true := hr.2 HVR.out
            have HBA := hidK (HB9.out.trans (hb.mono HB9.out.size))
            clear hr hb UM UZ
            go_wp2_with fail
            go_ret
            exact ⟨rfl, hW6.out.trans (HBA.out.mono hW6.out.size)⟩
          · have hq1 : (p0 == 0) = false := by simp [hq]
            have z0_ : wr.cell? ⟨b5, 0, none⟩ = some (.string n0) := cellK SZ.out 0
            have z1_ : wr.cell? ⟨b5, 1, none⟩ = some (.int .i64 c0) := cellK SZ.out 1
            have z2_ : wr.cell? ⟨b5, 2, none⟩ = some (.string z0) := cellK SZ.out 2
            have z3_ : wr.cell? ⟨b5, 3, none⟩ = some (.string k0) := cellK SZ.out 3
            have z4_ : wr.cell? ⟨b5, 4, none⟩ = some (.bool x0) := cellK SZ.out 4
            have z5_ : wr.cell? ⟨b5, 5, none⟩ = some (.string m0) := cellK SZ.out 5
            have z6_ : wr.cell? ⟨b5, 6, none⟩ = some (.bool false) := cellK SZ.out 6
            have z7_ : wr.cell? ⟨b5, 7, none⟩ = some (.slice none 0 0) := cellK SZ.out 7
            have z8_ : wr.cell? ⟨b5, 8, none⟩ = some (.int .i64 p0) := cellK SZ.out 8
            have hba := HB2.out.trans ((below1 wr (.cells #[.string n0, .int .i64 c0, .string z0, .string k0, .bool x0, .string ⟨#[]⟩, .bool false, .slice none 0 0] 30)).mono HB2.out.size)
            have HBA := hidK hba
            clear hba SM SK SZ
            go_wp2_with fail
            go_ret
            exact ⟨rfl, hW6.out.trans (HBA.out.mono hW6.out.size)⟩

set_option maxRecDepth 10000 in
set_option maxHeartbeats 800000 in
theorem fnMatch_walk (a0 : Option Addr) (len0 cap0 : Nat) (z0 : List Int) (a1 : Option Addr) (len1 cap1 : Nat) (z1 : List Int) (w : World) (w0 : IsRow .u8 w a0 len0 cap0 z0) (w1 : IsRow .u8 w a1 len1 cap1 z1) :
    Calls Try.prog 3 #[.slice a0 len0 cap0, .slice a1 len1 cap1] w fun e w' => e = .returned (.bool true) ∧ Below w.heap.size w w' := by
  by_cases h0 : 1048576 < len0
  · clear w0 w1
    go_enter Try.func3, Try.ntmps3
    go_wp2
    go_ret
    exact ⟨rfl, Below.refl _ _⟩
  by_cases h1 : 1048576 < len1
  · clear w0 w1
    go_enter Try.func3, Try.ntmps3
    go_wp2
    go_ret
    exact ⟨rfl, Below.refl _ _⟩
  exact fnMatch_go _ _ len0 len1 w ⟨_, _, rfl⟩ ⟨_, _, rfl⟩ (w0.rowIn (by omega)) (w1.rowIn (by omega)) (by omega) (by omega)

end Go.Proofs.Ytjkgpkgbaapdmaa

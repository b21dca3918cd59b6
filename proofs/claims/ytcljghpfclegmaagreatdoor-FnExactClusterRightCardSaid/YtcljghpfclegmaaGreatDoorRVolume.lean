/-
  Volume: lists of them, measured, copied, compared, marked.
-/
import Derived.Test.YtcljghpfclegmaaGreatDoorRecs
import Derived.Test.YtcljghpfclegmaaGreatDoorWide
import Derived.Test.YtcljghpfclegmaaGreatDoorVList
namespace Go.Proofs.YtcljghpfclegmaaGreatDoor
open Go.RowKit
namespace Rc
open Mk

/-- Its fields. -/
def vdF (x : Vd) : List Fv := [.s x.n, .i x.c, .s x.z, .s x.k, .b x.x, .s x.m, .b x.y, .l x.zs]
theorem vd_cells {w : World} {b o : Nat} {x : Vd} (h : RAt w b o (vdF x)) : ∃ a len cap, TxRow w a len cap x.zs ∧ x.n.size ≤ 9223372036854775807 ∧ x.z.size ≤ 9223372036854775807 ∧ x.k.size ≤ 9223372036854775807 ∧ x.m.size ≤ 9223372036854775807 ∧ w.cell? ⟨b, o, none⟩ = some (.string x.n) ∧ w.cell? ⟨b, o + 1, none⟩ = some (.int .i64 x.c) ∧ w.cell? ⟨b, o + 2, none⟩ = some (.string x.z) ∧ w.cell? ⟨b, o + 3, none⟩ = some (.string x.k) ∧ w.cell? ⟨b, o + 4, none⟩ = some (.bool x.x) ∧ w.cell? ⟨b, o + 5, none⟩ = some (.string x.m) ∧ w.cell? ⟨b, o + 6, none⟩ = some (.bool x.y) ∧ w.cell? ⟨b, o + 7, none⟩ = some (.slice a len cap) := by
  obtain ⟨v0, h0, rfl, z0⟩ := h 0 _ rfl
  obtain ⟨v1, h1, rfl⟩ := h 1 _ rfl
  obtain ⟨v2, h2, rfl, z2⟩ := h 2 _ rfl
  obtain ⟨v3, h3, rfl, z3⟩ := h 3 _ rfl
  obtain ⟨v4, h4, rfl⟩ := h 4 _ rfl
  obtain ⟨v5, h5, rfl, z5⟩ := h 5 _ rfl
  obtain ⟨v6, h6, rfl⟩ := h 6 _ rfl
  obtain ⟨v7, h7, a, len, cap, rfl, hr⟩ := h 7 _ rfl
  exact ⟨a, len, cap, hr, z0, z2, z3, z5, h0, h1, h2, h3, h4, h5, h6, h7⟩
theorem vd_at {w : World} {a : Option Addr} {len cap : Nat} {xs : List Vd} (h : RRow w a len cap 8 (xs.map vdF)) {j : Nat} (hj : j < len) :
    ∃ b o x, a = some ⟨b, o, none⟩ ∧ b < w.heap.size ∧ xs[j]? = some x ∧ RAt w b (o + j * 8) (vdF x) := by
  obtain ⟨b, o, r, h1, h2, h3, h4⟩ := h.at hj
  rw [List.getElem?_map] at h3
  obtain ⟨x, h5, rfl⟩ := Option.map_eq_some_iff.1 h3
  exact ⟨b, o, x, h1, h2, h5, h4⟩

set_option maxHeartbeats 1600000 in
theorem szvd_any (a : Option Addr) (len cap : Nat) (xs : List Vd) (left : Int) (w : World) (hr : RRow w a len cap 8 (xs.map vdF)) (h0 : 0 ≤ left) (h1 : left ≤ 1048576) :
    Calls Tryz.prog 51 #[.slice a len cap, .int .i64 left] w (SzB left (len ≤ 1048576 ∧ ∀ (j : Nat) x, xs[j]? = some x → x.zs.length ≤ 1048576) w) := by
  have HR := hidK hr
  have hvl : xs.length = len := by simpa using hr.1
  have hlc : len ≤ 9223372036854775807 := Nat.le_trans hr.2.1 hr.2.2.1
  clear hr
  by_cases hl : left < (len : Int)
  · go_enter Tryz.func51, Tryz.ntmps51
    go_wp2
    go_ret
    exact ⟨-1, rfl, .inl rfl, Below.refl _ _⟩
  go_enter Tryz.func51, Tryz.ntmps51
  go_wp2
  go_loopw [1, 5] (fun l i wr => ∃ (k : Nat) (m : Int), k ≤ len ∧ l = .int .i64 m ∧ i = .int .i64 k ∧ 0 ≤ m ∧ m ≤ left ∧ Hid (∀ (j : Nat) x, j < k → xs[j]? = some x → x.zs.length ≤ 1048576) ∧ Hid (Below w.heap.size w wr)) (fun _ i _ => len - (intOf i).toNat)
  case atStart => exact ⟨0, left - len, by omega, by go_num, rfl, by omega, by omega, fun j v hj => by omega, Below.refl _ _⟩
  case round =>
    obtain ⟨k, m, hk, rfl, rfl, hm0, hm1, HE, HB⟩ := hrel
    by_cases hlt : k < len
    · obtain ⟨b, o, v, rfl, hb, hv, hat⟩ := vd_at (HR.out.below HB.out) hlt
      obtain ⟨va, vl, vc, hvr, z0, z2, z3, z5, c0, c1, c2, c3, c4, c5, c6, c7⟩ := vd_cells hat
      have Hz0 := hidK z0
      have Hz2 := hidK z2
      have Hz3 := hidK z3
      have Hz5 := hidK z5
      have HV := hidK hv
      have HT := hidK hvr
      clear hvr
      clear hat hv z0 z2 z3 z5
      go_wp2_with fail
      refine (szVolume_any v.n v.c v.z v.k v.x v.m v.y va vl vc v.zs m _ Hz0.out Hz2.out Hz3.out Hz5.out HT.out hm0 (by omega)).mono ?_
      rintro e w2 ⟨r, rfl, hr, hb2⟩
      have HB2 := hidK (HB.out.trans (hb2.mono HB.out.size))
      clear hb2 c0 c1 c2 c3 c4 c5 c6 c7
      rcases hr with rfl | ⟨hr0, hr1, hvl2⟩
      · go_wp2
        go_ret
        exact ⟨-1, rfl, .inl rfl, HB2.out⟩
      · go_wp2
        refine ⟨⟨k + 1, r, by omega, by go_num, by go_num, by omega, by omega, fun j x hj hx => ?_, HB2.out⟩, by simp [intOf]; omega⟩
        by_cases e : j = k
        · subst e
          rw [HV.out] at hx
          obtain rfl := Option.some.inj hx
          rw [HT.out.1]
          exact hvl2
        · exact HE.out j x (by omega) hx
    · obtain rfl : k = len := by omega
      go_wp2
      go_ret
      exact ⟨m, rfl, .inr ⟨hm0, hm1, by omega, fun j v hv => HE.out j v (by have := (List.getElem?_eq_some_iff.1 hv).1; omega) hv⟩, HB.out⟩

set_option maxHeartbeats 3200000 in
theorem eqvd_any (a a' : Option Addr) (len len' cap cap' : Nat) (xs : List Vd) (w : World) (hr : RRow w a len cap 8 (xs.map vdF)) (hr' : RRow w a' len' cap' 8 (xs.map vdF)) :
    Calls Tryz.prog 73 #[.slice a len cap, .slice a' len' cap'] w fun e w' => e = .returned (.bool true) ∧ Below w.heap.size w w' := by
  obtain rfl : len = len' := hr.1.symm.trans hr'.1
  have HR := hidK hr
  have HR' := hidK hr'
  have hlc : len ≤ 9223372036854775807 := Nat.le_trans hr.2.1 hr.2.2.1
  clear hr hr'
  go_enter Tryz.func73, Tryz.ntmps73
  go_wp2
  go_loopw [5] (fun i wr => ∃ k : Nat, k ≤ len ∧ i = .int .i64 k ∧ Hid (Below w.heap.size w wr)) (fun i _ => len - (intOf i).toNat)
  case atStart => exact ⟨0, by omega, rfl, Below.refl _ _⟩
  case round =>
    obtain ⟨k, hk, rfl, HB⟩ := hrel
    by_cases hlt : k < len
    · obtain ⟨b, o, v, rfl, hb, hv, hat⟩ := vd_at (HR.out.below HB.out) hlt
      obtain ⟨b', o', v', rfl, hb', hv', hat'⟩ := vd_at (HR'.out.below HB.out) hlt
      rw [hv] at hv'
      obtain rfl := Option.some.inj hv'
      clear hv hv'
      obtain ⟨va, vl, vc, hvr, -, -, -, -, c0, c1, c2, c3, c4, c5, c6, c7⟩ := vd_cells hat
      obtain ⟨va', vl', vc', hvr', -, -, -, -, d0, d1, d2, d3, d4, d5, d6, d7⟩ := vd_cells hat'
      clear hat hat'
      have HT := hidK hvr
      have HT' := hidK hvr'
      clear hvr hvr'
      have HE := hidK (fun q : Wd wr => eqVolume_any v.n v.c v.z v.k v.x v.m v.y va vl vc v.zs va' vl' vc' q.w (HT.out.below q.b) (HT'.out.below q.b))
      have hne := Wd.ne wr
      have e0 : ∀ q : Wd wr, q.w.cell? ⟨b, o + k * 8, none⟩ = some (.string v.n) := fun q => (q.cell hb).trans c0
      have e1 : ∀ q : Wd wr, q.w.cell? ⟨b, o + k * 8 + 1, none⟩ = some (.int .i64 v.c) := fun q => (q.cell hb).trans c1
      have e2 : ∀ q : Wd wr, q.w.cell? ⟨b, o + k * 8 + 2, none⟩ = some (.string v.z) := fun q => (q.cell hb).trans c2
      have e3 : ∀ q : Wd wr, q.w.cell? ⟨b, o + k * 8 + 3, none⟩ = some (.string v.k) := fun q => (q.cell hb).trans c3
      have e4 : ∀ q : Wd wr, q.w.cell? ⟨b, o + k * 8 + 4, none⟩ = some (.bool v.x) := fun q => (q.cell hb).trans c4
      have e5 : ∀ q : Wd wr, q.w.cell? ⟨b, o + k * 8 + 5, none⟩ = some (.string v.m) := fun q => (q.cell hb).trans c5
      have e6 : ∀ q : Wd wr, q.w.cell? ⟨b, o + k * 8 + 6, none⟩ = some (.bool v.y) := fun q => (q.cell hb).trans c6
      have e7 : ∀ q : Wd wr, q.w.cell? ⟨b, o + k * 8 + 7, none⟩ = some (.slice va vl vc) := fun q => (q.cell hb).trans c7
      have f0 : ∀ q : Wd wr, q.w.cell? ⟨b', o' + k * 8, none⟩ = some (.string v.n) := fun q => (q.cell hb').trans d0
      have f1 : ∀ q : Wd wr, q.w.cell? ⟨b', o' + k * 8 + 1, none⟩ = some (.int .i64 v.c) := fun q => (q.cell hb').trans d1
      have f2 : ∀ q : Wd wr, q.w.cell? ⟨b', o' + k * 8 + 2, none⟩ = some (.string v.z) := fun q => (q.cell hb').trans d2
      have f3 : ∀ q : Wd wr, q.w.cell? ⟨b', o' + k * 8 + 3, none⟩ = some (.string v.k) := fun q => (q.cell hb').trans d3
      have f4 : ∀ q : Wd wr, q.w.cell? ⟨b', o' + k * 8 + 4, none⟩ = some (.bool v.x) := fun q => (q.cell hb').trans d4
      have f5 : ∀ q : Wd wr, q.w.cell? ⟨b', o' + k * 8 + 5, none⟩ = some (.string v.m) := fun q => (q.cell hb').trans d5
      have f6 : ∀ q : Wd wr, q.w.cell? ⟨b', o' + k * 8 + 6, none⟩ = some (.bool v.y) := fun q => (q.cell hb').trans d6
      have f7 : ∀ q : Wd wr, q.w.cell? ⟨b', o' + k * 8 + 7, none⟩ = some (.slice va' vl' vc') := fun q => (q.cell hb').trans d7
      clear c0 c1 c2 c3 c4 c5 c6 c7 d0 d1 d2 d3 d4 d5 d6 d7
      go_wp2_with fail
      refine wp_region_wide (by kernel_rfl) (by kernel_rfl) ?_
      repeat (go_big_quiet_step (first | (go_at_call 31; exact Calls.wide (HE.out _)) | fail))
      refine wpQuiet_nil ?_
      rintro _ ⟨q, rfl⟩
      go_wp2_with fail
      exact ⟨⟨k + 1, by omega, by go_num, HB.out.trans (q.b.mono HB.out.size)⟩, by simp [intOf]; omega⟩
    · obtain rfl : k = len := by omega
      go_wp2
      go_ret
      exact ⟨rfl, HB.out⟩

set_option maxRecDepth 10000 in
set_option maxHeartbeats 6400000 in
theorem markvd_any (a : Option Addr) (len cap : Nat) (xs : List Vd) (N : Int) (S : Nat → Prop) (w : World) (ho : ROwn w a len cap 8 60 (xs.map vdF) S) (hN : 0 < N) (hb : mkNs N (xs.map vdF) ≤ 1152921504606846976) (hl : len ≤ 9223372036854775807) :
    Calls Tryz.prog 89 #[.slice a len cap, .int .i64 N] w fun e w' => e = .returned (.int .i64 (mkNs N (xs.map vdF))) ∧ ROwn w' a len cap 8 60 (mkRs N (xs.map vdF)) S ∧ KeptS S w w' := by
  have hxl : (xs.map vdF).length = len := ho.1
  have hcp := ho.2.1
  have hcm := ho.2.2.1
  have hml : (mkRs N (xs.map vdF)).length = (xs.map vdF).length := mkRs_length _ _
  have HO : Hid (ROwn w a len cap 8 60 ((mkRs N (xs.map vdF)).take 0 ++ (xs.map vdF).drop 0) S) := by simpa [Hid] using ho
  have HBd := hidK hb
  clear ho hb
  go_enter Tryz.func89, Tryz.ntmps89
  go_wp2
  go_loopw [1, 5] (fun vk vi wr => ∃ (i : Nat) (n : Int), i ≤ len ∧ vk = .int .i64 n ∧ vi = .int .i64 i ∧ Hid (n = mkNs N ((xs.map vdF).take i)) ∧ 0 < n ∧ Hid (ROwn wr a len cap 8 60 ((mkRs N (xs.map vdF)).take i ++ (xs.map vdF).drop i) S) ∧ Hid (KeptS S w wr)) (fun _ vi _ => len - (intOf vi).toNat)
  case atStart => exact ⟨0, N, by omega, rfl, rfl, rfl, hN, HO, KeptS.refl _ _⟩
  case round =>
    obtain ⟨i, n, hi, rfl, rfl, HN, hn0, HS, HK⟩ := hrel
    clear HO
    by_cases hlt : i < len
    · obtain ⟨x, hx⟩ : ∃ x, xs[i]? = some x := ⟨_, List.getElem?_eq_getElem (by simpa using (show i < (xs.map vdF).length by omega))⟩
      have hfx : (xs.map vdF)[i]? = some (vdF x) := by rw [List.getElem?_map, hx]; rfl
      have HF := hidK hfx
      have hbd : mkN n (vdF x) ≤ 1152921504606846976 := by rw [HN.out]; exact Int.le_trans (mkN_le hfx N) HBd.out
      have hbd' : n + 7 + x.zs.length ≤ 1152921504606846976 := by simpa [mkN, mkN1, vdF, Int.add_assoc] using hbd
      obtain ⟨g, rfl, hs⟩ := HS.out.st HK.out ((take_drop_at hml (by omega)).trans hfx)
      have H0 : Hid (StJ g 8 60 S (fun _ => False) w wr ((mkRs N (xs.map vdF)).take i ++ (xs.map vdF).drop i) i [.s x.n, .i x.c, .s x.z, .s x.k, .b x.x, .s x.m, .b x.y, .l x.zs]) := hs
      clear hs hbd hx hfx HS HK
      go_wp2_with fail
      refine (markP _ _ (by omega) (by omega)).mono ?_
      rintro e w1 ⟨rfl, hb⟩
      have h1 := (H0.out).below hb
      have H1 := hidK h1
      obtain ⟨p0, c0⟩ := h1.cell (i := 0) rfl
      have f0 := h1.fro (i * 8)
      rw [Nat.add_zero] at c0
      obtain ⟨p1, c1⟩ := h1.cell (i := 1) rfl
      have f1 := h1.fro (i * 8 + 1)
      clear h1 hb H0
      go_wp2_with fail
      refine (markP _ _ (by omega) (by omega)).mono ?_
      rintro e w2 ⟨rfl, hb⟩
      have h1 := (((H1.out).setS (i := 0) rfl _ (markT_size (by omega))).setI (i := 1) rfl _).below hb
      have H2 := hidK h1
      obtain ⟨p2, c2⟩ := h1.cell (i := 2) rfl
      have f2 := h1.fro (i * 8 + 2)
      clear h1 hb H1 c0 f0 c1 f1
      go_wp2_with fail
      refine (markP _ _ (by omega) (by omega)).mono ?_
      rintro e w3 ⟨rfl, hb⟩
      have h1 := ((H2.out).setS (i := 2) rfl _ (markT_size (by omega))).below hb
      have H3 := hidK h1
      obtain ⟨p3, c3⟩ := h1.cell (i := 3) rfl
      have f3 := h1.fro (i * 8 + 3)
      obtain ⟨p4, c4⟩ := h1.cell (i := 4) rfl
      have f4 := h1.fro (i * 8 + 4)
      clear h1 hb H2 c2 f2
      go_wp2_with fail
      refine (markP _ _ (by omega) (by omega)).mono ?_
      rintro e w4 ⟨rfl, hb⟩
      have h1 := (((H3.out).setS (i := 3) rfl _ (markT_size (by omega))).setB (i := 4) rfl _).below hb
      have H4 := hidK h1
      obtain ⟨p5, c5⟩ := h1.cell (i := 5) rfl
      have f5 := h1.fro (i * 8 + 5)
      obtain ⟨p6, c6⟩ := h1.cell (i := 6) rfl
      have f6 := h1.fro (i * 8 + 6)
      obtain ⟨la, ll, lc, cl, hll⟩ := h1.slice (i := 7) rfl
      clear h1 hb H3 c3 f3 c4 f4
      go_wp2_with fail
      refine ((((H4.out).setS (i := 5) rfl _ (markT_size (by omega))).setB (i := 6) rfl _).markL (i := 7) rfl ((cell_set_ne (by omega)).trans ((cell_set_ne (by omega)).trans (cl))) _ (by omega) (by omega)).mono ?_
      rintro e w5 ⟨rfl, h1⟩
      have H5 := hidK h1
      clear h1 cl H4 c5 f5 c6 f6
      go_wp2_with fail
      have HZ := hidK (H5.out)
      clear H5
      refine ⟨⟨i + 1, mkN n (vdF x), by omega, ?_, by go_num, ?_, ?_, ?_, HZ.out.kept⟩, by simp [intOf]; omega⟩
      · simp [mkN, mkN1, vdF, hll, Int.add_assoc]
      · rw [mkNs_step HF.out, ← HN.out]; rfl
      · simp [mkN, mkN1, vdF]; omega
      · refine ROwn.of_st HZ.out hxl hml hcp hcm HF.out ?_
        rw [← HN.out]
        simp [mkR, mkF, mkN1, vdF, hll]
    · obtain rfl : i = len := by omega
      go_wp2
      go_ret
      have e1 : (xs.map vdF).take i = xs.map vdF := List.take_of_length_le (by omega)
      have e2 : (mkRs N (xs.map vdF)).take i ++ (xs.map vdF).drop i = mkRs N (xs.map vdF) := by
        rw [List.take_of_length_le (by omega), List.drop_of_length_le (by omega), List.append_nil]
      refine ⟨congrArg (fun z => Ending.returned (.int .i64 z)) (HN.out.trans (by rw [e1])), ?_, HK.out⟩
      have := HS.out
      rw [e2] at this
      exact this

set_option maxRecDepth 10000 in
set_option maxHeartbeats 6400000 in
theorem heldvd_any (a : Option Addr) (len cap : Nat) (xs : List Vd) (N : Int) (w : World) (ho : RRow w a len cap 8 (mkRs N (xs.map vdF))) (hN : 0 < N) (hb : mkNs N (xs.map vdF) ≤ 1152921504606846976) (hl : len ≤ 9223372036854775807) :
    Calls Tryz.prog 177 #[.slice a len cap, .int .i64 N] w fun e w' => e = .returned (.int .i64 (mkNs N (xs.map vdF))) ∧ Below w.heap.size w w' := by
  have hxl : (xs.map vdF).length = len := by rw [← mkRs_length (xs.map vdF) N]; exact ho.1
  have HR := hidK ho
  have HBd := hidK hb
  clear ho hb
  go_enter Tryz.func177, Tryz.ntmps177
  go_wp2
  go_loopw [1, 5] (fun vk vi wr => ∃ (i : Nat) (n : Int), i ≤ len ∧ vk = .int .i64 n ∧ vi = .int .i64 i ∧ Hid (n = mkNs N ((xs.map vdF).take i)) ∧ 0 < n ∧ Hid (Below w.heap.size w wr)) (fun _ vi _ => len - (intOf vi).toNat)
  case atStart => exact ⟨0, N, by omega, rfl, rfl, rfl, hN, Below.refl _ _⟩
  case round =>
    obtain ⟨i, n, hi, rfl, rfl, HN, hn0, HB⟩ := hrel
    by_cases hlt : i < len
    · obtain ⟨x, hx⟩ : ∃ x, xs[i]? = some x := ⟨_, List.getElem?_eq_getElem (by simpa using (show i < (xs.map vdF).length by omega))⟩
      have hfx : (xs.map vdF)[i]? = some (vdF x) := by rw [List.getElem?_map, hx]; rfl
      have HF := hidK hfx
      have hbd : mkN n (vdF x) ≤ 1152921504606846976 := by rw [HN.out]; exact Int.le_trans (mkN_le hfx N) HBd.out
      have hbd' : n + 7 + x.zs.length ≤ 1152921504606846976 := by simpa [mkN, mkN1, vdF, Int.add_assoc] using hbd
      obtain ⟨b, o, r, rfl, hb, hr, hat⟩ := (HR.out.below HB.out).at hlt
      rw [mkRs_at, hfx, ← HN.out] at hr
      obtain rfl := Option.some.inj hr
      have HA : Hid (RAt wr b (o + i * 8) (vdF ⟨markT (n).toNat, n + 1, markT (n + 1 + 1).toNat, markT (n + 1 + 1 + 1).toNat, (n + 1 + 1 + 1 + 1) % 3 == 0, markT (n + 1 + 1 + 1 + 1 + 1).toNat, (n + 1 + 1 + 1 + 1 + 1 + 1) % 3 == 0, marksU (n + 1 + 1 + 1 + 1 + 1 + 1 + 1) x.zs.length⟩)) := hat
      clear hat hr hbd hx hfx
      obtain ⟨va, vl, vc, hvr, -, -, -, -, c0, c1, c2, c3, c4, c5, c6, c7⟩ := vd_cells HA.out
      have HL := hidK hvr
      have hvl := hvr.1
      rw [marksU_length] at hvl
      clear hvr
      clear HL hvl
      have hne0 := Wd.ne wr
      have e0 : ∀ q : Wd wr, q.w.cell? ⟨b, o + i * 8, none⟩ = some (.string (markT (n).toNat)) := fun q => (q.cell hb).trans c0
      have HT := hidK (fun v : World => markP (n) v (by omega) (by omega))
      clear c0
      go_wp2_with fail
      refine wp_region_wide (by kernel_rfl) (by kernel_rfl) ?_
      repeat (go_big_quiet_step (first | (go_at_call 174; exact Calls.wide (HT.out _)) | fail))
      refine wpQuiet_nil ?_
      rintro _ ⟨q0, rfl⟩
      clear e0 HT hne0 c1 c2 c3 c4 c5 c6 c7
      have hqs : ((markT (n).toNat).toList == (markT (n).toNat).toList) = true := by simp
      have HA0 := hidK (HA.out.below hb q0.b)
      have HB0 := hidK (HB.out.trans (q0.b.mono HB.out.size))
      have hb0 : b < q0.w.heap.size := Nat.lt_of_lt_of_le hb q0.b.size
      clear HA HB hb
      have HA := HA0
      have HB := HB0
      have hb := hb0
      clear HA0 HB0 hb0
      obtain ⟨va, vl, vc, hvr, -, -, -, -, c0, c1, c2, c3, c4, c5, c6, c7⟩ := vd_cells HA.out
      have HL := hidK hvr
      have hvl1 := hvr.1
      rw [marksU_length] at hvl1
      clear hvr
      clear c0 c3 c4 c5 c6 c7
      clear HL hvl1
      have hne1 := Wd.ne q0.w
      have e2 : ∀ q : Wd q0.w, q.w.cell? ⟨b, o + i * 8 + 2, none⟩ = some (.string (markT (n + 1 + 1).toNat)) := fun q => (q.cell hb).trans c2
      have HT := hidK (fun v : World => markP (n + 1 + 1) v (by omega) (by omega))
      clear c2
      go_wp2_with fail
      refine wp_region_wide (by kernel_rfl) (by kernel_rfl) ?_
      repeat (go_big_quiet_step (first | (go_at_call 174; exact Calls.wide (HT.out _)) | fail))
      refine wpQuiet_nil ?_
      rintro _ ⟨q1, rfl⟩
      clear e2 HT hne1 c1
      have hqs : ((markT (n + 1 + 1).toNat).toList == (markT (n + 1 + 1).toNat).toList) = true := by simp
      have HA1 := hidK (HA.out.below hb q1.b)
      have HB1 := hidK (HB.out.trans (q1.b.mono HB.out.size))
      have hb1 : b < q1.w.heap.size := Nat.lt_of_lt_of_le hb q1.b.size
      clear HA HB hb
      have HA := HA1
      have HB := HB1
      have hb := hb1
      clear HA1 HB1 hb1
      obtain ⟨va, vl, vc, hvr, -, -, -, -, c0, c1, c2, c3, c4, c5, c6, c7⟩ := vd_cells HA.out
      have HL := hidK hvr
      have hvl2 := hvr.1
      rw [marksU_length] at hvl2
      clear hvr
      clear c0 c1 c2 c4 c5 c6 c7
      clear HL hvl2
      have hne2 := Wd.ne q1.w
      have e3 : ∀ q : Wd q1.w, q.w.cell? ⟨b, o + i * 8 + 3, none⟩ = some (.string (markT (n + 1 + 1 + 1).toNat)) := fun q => (q.cell hb).trans c3
      have HT := hidK (fun v : World => markP (n + 1 + 1 + 1) v (by omega) (by omega))
      clear c3
      go_wp2_with fail
      refine wp_region_wide (by kernel_rfl) (by kernel_rfl) ?_
      repeat (go_big_quiet_step (first | (go_at_call 174; exact Calls.wide (HT.out _)) | fail))
      refine wpQuiet_nil ?_
      rintro _ ⟨q2, rfl⟩
      clear e3 HT hne2 
      have hqs : ((markT (n + 1 + 1 + 1).toNat).toList == (markT (n + 1 + 1 + 1).toNat).toList) = true := by simp
      have HA2 := hidK (HA.out.below hb q2.b)
      have HB2 := hidK (HB.out.trans (q2.b.mono HB.out.size))
      have hb2 : b < q2.w.heap.size := Nat.lt_of_lt_of_le hb q2.b.size
      clear HA HB hb
      have HA := HA2
      have HB := HB2
      have hb := hb2
      clear HA2 HB2 hb2
      obtain ⟨va, vl, vc, hvr, -, -, -, -, c0, c1, c2, c3, c4, c5, c6, c7⟩ := vd_cells HA.out
      have HL := hidK hvr
      have hvl3 := hvr.1
      rw [marksU_length] at hvl3
      clear hvr
      clear c0 c1 c2 c3 c6 c7
      clear HL hvl3
      have hne3 := Wd.ne q2.w
      have e5 : ∀ q : Wd q2.w, q.w.cell? ⟨b, o + i * 8 + 5, none⟩ = some (.string (markT (n + 1 + 1 + 1 + 1 + 1).toNat)) := fun q => (q.cell hb).trans c5
      have HT := hidK (fun v : World => markP (n + 1 + 1 + 1 + 1 + 1) v (by omega) (by omega))
      clear c5
      go_wp2_with fail
      refine wp_region_wide (by kernel_rfl) (by kernel_rfl) ?_
      repeat (go_big_quiet_step (first | (go_at_call 174; exact Calls.wide (HT.out _)) | fail))
      refine wpQuiet_nil ?_
      rintro _ ⟨q3, rfl⟩
      clear e5 HT hne3 c4
      have hqs : ((markT (n + 1 + 1 + 1 + 1 + 1).toNat).toList == (markT (n + 1 + 1 + 1 + 1 + 1).toNat).toList) = true := by simp
      have HA3 := hidK (HA.out.below hb q3.b)
      have HB3 := hidK (HB.out.trans (q3.b.mono HB.out.size))
      have hb3 : b < q3.w.heap.size := Nat.lt_of_lt_of_le hb q3.b.size
      clear HA HB hb
      have HA := HA3
      have HB := HB3
      have hb := hb3
      clear HA3 HB3 hb3
      obtain ⟨va, vl, vc, hvr, -, -, -, -, c0, c1, c2, c3, c4, c5, c6, c7⟩ := vd_cells HA.out
      have HL := hidK hvr
      have hvl4 := hvr.1
      rw [marksU_length] at hvl4
      clear hvr
      clear c0 c1 c2 c3 c4 c5
      subst hvl4
      go_wp2_with fail
      refine (heldP va _ vc _ _ (by exact HL.out) (by omega) (by omega)).mono ?_
      rintro e w4 ⟨rfl, hbq⟩
      have HA4 := hidK (HA.out.below hb hbq)
      have HB4 := hidK (HB.out.trans (hbq.mono HB.out.size))
      have hb4 : b < w4.heap.size := Nat.lt_of_lt_of_le hb hbq.size
      clear HA HB hb HL c7 hbq
      have HA := HA4
      have HB := HB4
      have hb := hb4
      clear HA4 HB4 hb4
      go_wp2_with fail
      refine ⟨⟨i + 1, mkN n (vdF x), by omega, ?_, by go_num, ?_, ?_, HB.out⟩, by simp [intOf]; omega⟩
      · simp [mkN, mkN1, vdF, Int.add_assoc]
      · rw [mkNs_step HF.out, ← HN.out]; rfl
      · simp [mkN, mkN1, vdF]; omega
    · obtain rfl : i = len := by omega
      go_wp2
      go_ret
      have e1 : (xs.map vdF).take i = xs.map vdF := List.take_of_length_le (by omega)
      exact ⟨congrArg (fun z => Ending.returned (.int .i64 z)) (HN.out.trans (by rw [e1])), HB.out⟩

end Rc
end Go.Proofs.YtcljghpfclegmaaGreatDoor

/-
  Claim: lists of them, measured, copied, compared, marked.
-/
import Derived.Test.YtcljghpfclegmaaGreatDoorRecs
import Derived.Test.YtcljghpfclegmaaGreatDoorWide
import Derived.Test.YtcljghpfclegmaaGreatDoorVList
namespace Go.Proofs.YtcljghpfclegmaaGreatDoor
open Go.RowKit
namespace Rc
open Mk

structure Xd where
  n : ByteArray
  z : Int
  k : ByteArray
  x : Bool
  v : ByteArray

/-- Its fields. -/
def xdF (x : Xd) : List Fv := [.s x.n, .i x.z, .s x.k, .b x.x, .s x.v]
theorem xd_cells {w : World} {b o : Nat} {x : Xd} (h : RAt w b o (xdF x)) : x.n.size ≤ 9223372036854775807 ∧ x.k.size ≤ 9223372036854775807 ∧ x.v.size ≤ 9223372036854775807 ∧ w.cell? ⟨b, o, none⟩ = some (.string x.n) ∧ w.cell? ⟨b, o + 1, none⟩ = some (.int .i64 x.z) ∧ w.cell? ⟨b, o + 2, none⟩ = some (.string x.k) ∧ w.cell? ⟨b, o + 3, none⟩ = some (.bool x.x) ∧ w.cell? ⟨b, o + 4, none⟩ = some (.string x.v) := by
  obtain ⟨v0, h0, rfl, z0⟩ := h 0 _ rfl
  obtain ⟨v1, h1, rfl⟩ := h 1 _ rfl
  obtain ⟨v2, h2, rfl, z2⟩ := h 2 _ rfl
  obtain ⟨v3, h3, rfl⟩ := h 3 _ rfl
  obtain ⟨v4, h4, rfl, z4⟩ := h 4 _ rfl
  exact ⟨z0, z2, z4, h0, h1, h2, h3, h4⟩
theorem xd_at {w : World} {a : Option Addr} {len cap : Nat} {xs : List Xd} (h : RRow w a len cap 5 (xs.map xdF)) {j : Nat} (hj : j < len) :
    ∃ b o x, a = some ⟨b, o, none⟩ ∧ b < w.heap.size ∧ xs[j]? = some x ∧ RAt w b (o + j * 5) (xdF x) := by
  obtain ⟨b, o, r, h1, h2, h3, h4⟩ := h.at hj
  rw [List.getElem?_map] at h3
  obtain ⟨x, h5, rfl⟩ := Option.map_eq_some_iff.1 h3
  exact ⟨b, o, x, h1, h2, h5, h4⟩

set_option maxHeartbeats 1600000 in
theorem szxd_any (a : Option Addr) (len cap : Nat) (xs : List Xd) (left : Int) (w : World) (hr : RRow w a len cap 5 (xs.map xdF)) (h0 : 0 ≤ left) (h1 : left ≤ 1048576) :
    Calls Tryz.prog 52 #[.slice a len cap, .int .i64 left] w (SzB left (len ≤ 1048576) w) := by
  have HR := hidK hr
  have hvl : xs.length = len := by simpa using hr.1
  have hlc : len ≤ 9223372036854775807 := Nat.le_trans hr.2.1 hr.2.2.1
  clear hr
  by_cases hl : left < (len : Int)
  · go_enter Tryz.func52, Tryz.ntmps52
    go_wp2
    go_ret
    exact ⟨-1, rfl, .inl rfl, Below.refl _ _⟩
  go_enter Tryz.func52, Tryz.ntmps52
  go_wp2
  go_loopw [1, 5] (fun l i wr => ∃ (k : Nat) (m : Int), k ≤ len ∧ l = .int .i64 m ∧ i = .int .i64 k ∧ 0 ≤ m ∧ m ≤ left ∧ Hid (Below w.heap.size w wr)) (fun _ i _ => len - (intOf i).toNat)
  case atStart => exact ⟨0, left - len, by omega, by go_num, rfl, by omega, by omega, Below.refl _ _⟩
  case round =>
    obtain ⟨k, m, hk, rfl, rfl, hm0, hm1, HB⟩ := hrel
    by_cases hlt : k < len
    · obtain ⟨b, o, v, rfl, hb, hv, hat⟩ := xd_at (HR.out.below HB.out) hlt
      obtain ⟨z0, z2, z4, c0, c1, c2, c3, c4⟩ := xd_cells hat
      have Hz0 := hidK z0
      have Hz2 := hidK z2
      have Hz4 := hidK z4
      clear hat hv z0 z2 z4
      go_wp2_with fail
      refine (szClaim_any v.n v.z v.k v.x v.v m _ Hz0.out Hz2.out Hz4.out hm0 (by omega)).mono ?_
      rintro e w2 ⟨r, rfl, hr, hb2⟩
      have HB2 := hidK (HB.out.trans (hb2.mono HB.out.size))
      clear hb2 c0 c1 c2 c3 c4
      rcases hr with rfl | ⟨hr0, hr1, hvl2⟩
      · go_wp2
        go_ret
        exact ⟨-1, rfl, .inl rfl, HB2.out⟩
      · go_wp2
        exact ⟨⟨k + 1, r, by omega, by go_num, by go_num, by omega, by omega, HB2.out⟩, by simp [intOf]; omega⟩
    · obtain rfl : k = len := by omega
      go_wp2
      go_ret
      exact ⟨m, rfl, .inr ⟨hm0, hm1, by omega⟩, HB.out⟩

set_option maxHeartbeats 1600000 in
theorem eqClaim_any (n : ByteArray) (z : Int) (k : ByteArray) (x : Bool) (v : ByteArray) (w : World) :
    Calls Tryz.prog 160 #[.agg #[.string n, .int .i64 z, .string k, .bool x, .string v], .agg #[.string n, .int .i64 z, .string k, .bool x, .string v]] w fun e w' => e = .returned (.bool true) ∧ Below w.heap.size w w' := by
  go_enter Tryz.func160, Tryz.ntmps160
  go_wp2
  go_ret
  exact ⟨rfl, below2 _ _ _⟩

set_option maxHeartbeats 3200000 in
theorem eqxd_any (a a' : Option Addr) (len len' cap cap' : Nat) (xs : List Xd) (w : World) (hr : RRow w a len cap 5 (xs.map xdF)) (hr' : RRow w a' len' cap' 5 (xs.map xdF)) :
    Calls Tryz.prog 74 #[.slice a len cap, .slice a' len' cap'] w fun e w' => e = .returned (.bool true) ∧ Below w.heap.size w w' := by
  obtain rfl : len = len' := hr.1.symm.trans hr'.1
  have HR := hidK hr
  have HR' := hidK hr'
  have hlc : len ≤ 9223372036854775807 := Nat.le_trans hr.2.1 hr.2.2.1
  clear hr hr'
  go_enter Tryz.func74, Tryz.ntmps74
  go_wp2
  go_loopw [5] (fun i wr => ∃ k : Nat, k ≤ len ∧ i = .int .i64 k ∧ Hid (Below w.heap.size w wr)) (fun i _ => len - (intOf i).toNat)
  case atStart => exact ⟨0, by omega, rfl, Below.refl _ _⟩
  case round =>
    obtain ⟨k, hk, rfl, HB⟩ := hrel
    by_cases hlt : k < len
    · obtain ⟨b, o, v, rfl, hb, hv, hat⟩ := xd_at (HR.out.below HB.out) hlt
      obtain ⟨b', o', v', rfl, hb', hv', hat'⟩ := xd_at (HR'.out.below HB.out) hlt
      rw [hv] at hv'
      obtain rfl := Option.some.inj hv'
      clear hv hv'
      obtain ⟨-, -, -, c0, c1, c2, c3, c4⟩ := xd_cells hat
      obtain ⟨-, -, -, d0, d1, d2, d3, d4⟩ := xd_cells hat'
      clear hat hat'
      have HE := hidK (fun q : Wd wr => eqClaim_any v.n v.z v.k v.x v.v q.w)
      have hne := Wd.ne wr
      have e0 : ∀ q : Wd wr, q.w.cell? ⟨b, o + k * 5, none⟩ = some (.string v.n) := fun q => (q.cell hb).trans c0
      have e1 : ∀ q : Wd wr, q.w.cell? ⟨b, o + k * 5 + 1, none⟩ = some (.int .i64 v.z) := fun q => (q.cell hb).trans c1
      have e2 : ∀ q : Wd wr, q.w.cell? ⟨b, o + k * 5 + 2, none⟩ = some (.string v.k) := fun q => (q.cell hb).trans c2
      have e3 : ∀ q : Wd wr, q.w.cell? ⟨b, o + k * 5 + 3, none⟩ = some (.bool v.x) := fun q => (q.cell hb).trans c3
      have e4 : ∀ q : Wd wr, q.w.cell? ⟨b, o + k * 5 + 4, none⟩ = some (.string v.v) := fun q => (q.cell hb).trans c4
      have f0 : ∀ q : Wd wr, q.w.cell? ⟨b', o' + k * 5, none⟩ = some (.string v.n) := fun q => (q.cell hb').trans d0
      have f1 : ∀ q : Wd wr, q.w.cell? ⟨b', o' + k * 5 + 1, none⟩ = some (.int .i64 v.z) := fun q => (q.cell hb').trans d1
      have f2 : ∀ q : Wd wr, q.w.cell? ⟨b', o' + k * 5 + 2, none⟩ = some (.string v.k) := fun q => (q.cell hb').trans d2
      have f3 : ∀ q : Wd wr, q.w.cell? ⟨b', o' + k * 5 + 3, none⟩ = some (.bool v.x) := fun q => (q.cell hb').trans d3
      have f4 : ∀ q : Wd wr, q.w.cell? ⟨b', o' + k * 5 + 4, none⟩ = some (.string v.v) := fun q => (q.cell hb').trans d4
      clear c0 c1 c2 c3 c4 d0 d1 d2 d3 d4
      go_wp2_with fail
      refine wp_region_wide (by kernel_rfl) (by kernel_rfl) ?_
      repeat (go_big_quiet_step (first | (go_at_call 160; exact Calls.wide (HE.out _)) | fail))
      refine wpQuiet_nil ?_
      rintro _ ⟨q, rfl⟩
      go_wp2_with fail
      exact ⟨⟨k + 1, by omega, by go_num, HB.out.trans (q.b.mono HB.out.size)⟩, by simp [intOf]; omega⟩
    · obtain rfl : k = len := by omega
      go_wp2
      go_ret
      exact ⟨rfl, HB.out⟩

set_option maxRecDepth 10000 in
set_option maxHeartbeats 6400000 in
theorem markxd_any (a : Option Addr) (len cap : Nat) (xs : List Xd) (N : Int) (S : Nat → Prop) (w : World) (ho : ROwn w a len cap 5 69 (xs.map xdF) S) (hN : 0 < N) (hb : mkNs N (xs.map xdF) ≤ 1152921504606846976) (hl : len ≤ 9223372036854775807) :
    Calls Tryz.prog 90 #[.slice a len cap, .int .i64 N] w fun e w' => e = .returned (.int .i64 (mkNs N (xs.map xdF))) ∧ ROwn w' a len cap 5 69 (mkRs N (xs.map xdF)) S ∧ KeptS S w w' := by
  have hxl : (xs.map xdF).length = len := ho.1
  have hcp := ho.2.1
  have hcm := ho.2.2.1
  have hml : (mkRs N (xs.map xdF)).length = (xs.map xdF).length := mkRs_length _ _
  have HO : Hid (ROwn w a len cap 5 69 ((mkRs N (xs.map xdF)).take 0 ++ (xs.map xdF).drop 0) S) := by simpa [Hid] using ho
  have HBd := hidK hb
  clear ho hb
  go_enter Tryz.func90, Tryz.ntmps90
  go_wp2
  go_loopw [1, 5] (fun vk vi wr => ∃ (i : Nat) (n : Int), i ≤ len ∧ vk = .int .i64 n ∧ vi = .int .i64 i ∧ Hid (n = mkNs N ((xs.map xdF).take i)) ∧ 0 < n ∧ Hid (ROwn wr a len cap 5 69 ((mkRs N (xs.map xdF)).take i ++ (xs.map xdF).drop i) S) ∧ Hid (KeptS S w wr)) (fun _ vi _ => len - (intOf vi).toNat)
  case atStart => exact ⟨0, N, by omega, rfl, rfl, rfl, hN, HO, KeptS.refl _ _⟩
  case round =>
    obtain ⟨i, n, hi, rfl, rfl, HN, hn0, HS, HK⟩ := hrel
    clear HO
    by_cases hlt : i < len
    · obtain ⟨x, hx⟩ : ∃ x, xs[i]? = some x := ⟨_, List.getElem?_eq_getElem (by simpa using (show i < (xs.map xdF).length by omega))⟩
      have hfx : (xs.map xdF)[i]? = some (xdF x) := by rw [List.getElem?_map, hx]; rfl
      have HF := hidK hfx
      have hbd : mkN n (xdF x) ≤ 1152921504606846976 := by rw [HN.out]; exact Int.le_trans (mkN_le hfx N) HBd.out
      have hbd' : n + 4 + 1 ≤ 1152921504606846976 := by simpa [mkN, mkN1, xdF, Int.add_assoc] using hbd
      obtain ⟨g, rfl, hs⟩ := HS.out.st HK.out ((take_drop_at hml (by omega)).trans hfx)
      have H0 : Hid (StJ g 5 69 S (fun _ => False) w wr ((mkRs N (xs.map xdF)).take i ++ (xs.map xdF).drop i) i [.s x.n, .i x.z, .s x.k, .b x.x, .s x.v]) := hs
      clear hs hbd hx hfx HS HK
      go_wp2_with fail
      refine (markP _ _ (by omega) (by omega)).mono ?_
      rintro e w1 ⟨rfl, hb⟩
      have h1 := (H0.out).below hb
      have H1 := hidK h1
      obtain ⟨p0, c0⟩ := h1.cell (i := 0) rfl
      have f0 := h1.fro (i * 5)
      rw [Nat.add_zero] at c0
      obtain ⟨p1, c1⟩ := h1.cell (i := 1) rfl
      have f1 := h1.fro (i * 5 + 1)
      clear h1 hb H0
      go_wp2_with fail
      refine (markP _ _ (by omega) (by omega)).mono ?_
      rintro e w2 ⟨rfl, hb⟩
      have h1 := (((H1.out).setS (i := 0) rfl _ (markT_size (by omega))).setI (i := 1) rfl _).below hb
      have H2 := hidK h1
      obtain ⟨p2, c2⟩ := h1.cell (i := 2) rfl
      have f2 := h1.fro (i * 5 + 2)
      obtain ⟨p3, c3⟩ := h1.cell (i := 3) rfl
      have f3 := h1.fro (i * 5 + 3)
      clear h1 hb H1 c0 f0 c1 f1
      go_wp2_with fail
      refine (markP _ _ (by omega) (by omega)).mono ?_
      rintro e w3 ⟨rfl, hb⟩
      have h1 := (((H2.out).setS (i := 2) rfl _ (markT_size (by omega))).setB (i := 3) rfl _).below hb
      have H3 := hidK h1
      obtain ⟨p4, c4⟩ := h1.cell (i := 4) rfl
      have f4 := h1.fro (i * 5 + 4)
      clear h1 hb H2 c2 f2 c3 f3
      go_wp2_with fail
      have HZ := hidK ((H3.out).setS (i := 4) rfl (markT (n + 1 + 1 + 1 + 1).toNat) (markT_size (by omega)))
      clear H3
      refine ⟨⟨i + 1, mkN n (xdF x), by omega, ?_, by go_num, ?_, ?_, ?_, HZ.out.kept⟩, by simp [intOf]; omega⟩
      · simp [mkN, mkN1, xdF, Int.add_assoc]
      · rw [mkNs_step HF.out, ← HN.out]; rfl
      · simp [mkN, mkN1, xdF]; omega
      · refine ROwn.of_st HZ.out hxl hml hcp hcm HF.out ?_
        rw [← HN.out]
        simp [mkR, mkF, mkN1, xdF]
    · obtain rfl : i = len := by omega
      go_wp2
      go_ret
      have e1 : (xs.map xdF).take i = xs.map xdF := List.take_of_length_le (by omega)
      have e2 : (mkRs N (xs.map xdF)).take i ++ (xs.map xdF).drop i = mkRs N (xs.map xdF) := by
        rw [List.take_of_length_le (by omega), List.drop_of_length_le (by omega), List.append_nil]
      refine ⟨congrArg (fun z => Ending.returned (.int .i64 z)) (HN.out.trans (by rw [e1])), ?_, HK.out⟩
      have := HS.out
      rw [e2] at this
      exact this

set_option maxRecDepth 10000 in
set_option maxHeartbeats 6400000 in
theorem heldxd_any (a : Option Addr) (len cap : Nat) (xs : List Xd) (N : Int) (w : World) (ho : RRow w a len cap 5 (mkRs N (xs.map xdF))) (hN : 0 < N) (hb : mkNs N (xs.map xdF) ≤ 1152921504606846976) (hl : len ≤ 9223372036854775807) :
    Calls Tryz.prog 178 #[.slice a len cap, .int .i64 N] w fun e w' => e = .returned (.int .i64 (mkNs N (xs.map xdF))) ∧ Below w.heap.size w w' := by
  have hxl : (xs.map xdF).length = len := by rw [← mkRs_length (xs.map xdF) N]; exact ho.1
  have HR := hidK ho
  have HBd := hidK hb
  clear ho hb
  go_enter Tryz.func178, Tryz.ntmps178
  go_wp2
  go_loopw [1, 5] (fun vk vi wr => ∃ (i : Nat) (n : Int), i ≤ len ∧ vk = .int .i64 n ∧ vi = .int .i64 i ∧ Hid (n = mkNs N ((xs.map xdF).take i)) ∧ 0 < n ∧ Hid (Below w.heap.size w wr)) (fun _ vi _ => len - (intOf vi).toNat)
  case atStart => exact ⟨0, N, by omega, rfl, rfl, rfl, hN, Below.refl _ _⟩
  case round =>
    obtain ⟨i, n, hi, rfl, rfl, HN, hn0, HB⟩ := hrel
    by_cases hlt : i < len
    · obtain ⟨x, hx⟩ : ∃ x, xs[i]? = some x := ⟨_, List.getElem?_eq_getElem (by simpa using (show i < (xs.map xdF).length by omega))⟩
      have hfx : (xs.map xdF)[i]? = some (xdF x) := by rw [List.getElem?_map, hx]; rfl
      have HF := hidK hfx
      have hbd : mkN n (xdF x) ≤ 1152921504606846976 := by rw [HN.out]; exact Int.le_trans (mkN_le hfx N) HBd.out
      have hbd' : n + 4 + 1 ≤ 1152921504606846976 := by simpa [mkN, mkN1, xdF, Int.add_assoc] using hbd
      obtain ⟨b, o, r, rfl, hb, hr, hat⟩ := (HR.out.below HB.out).at hlt
      rw [mkRs_at, hfx, ← HN.out] at hr
      obtain rfl := Option.some.inj hr
      have HA : Hid (RAt wr b (o + i * 5) (xdF ⟨markT (n).toNat, n + 1, markT (n + 1 + 1).toNat, (n + 1 + 1 + 1) % 3 == 0, markT (n + 1 + 1 + 1 + 1).toNat⟩)) := hat
      clear hat hr hbd hx hfx
      obtain ⟨-, -, -, c0, c1, c2, c3, c4⟩ := xd_cells HA.out
      have hne0 := Wd.ne wr
      have e0 : ∀ q : Wd wr, q.w.cell? ⟨b, o + i * 5, none⟩ = some (.string (markT (n).toNat)) := fun q => (q.cell hb).trans c0
      have HT := hidK (fun v : World => markP (n) v (by omega) (by omega))
      clear c0
      go_wp2_with fail
      refine wp_region_wide (by kernel_rfl) (by kernel_rfl) ?_
      repeat (go_big_quiet_step (first | (go_at_call 174; exact Calls.wide (HT.out _)) | fail))
      refine wpQuiet_nil ?_
      rintro _ ⟨q0, rfl⟩
      clear e0 HT hne0 c1 c2 c3 c4
      have hqs : ((markT (n).toNat).toList == (markT (n).toNat).toList) = true := by simp
      have HA0 := hidK (HA.out.below hb q0.b)
      have HB0 := hidK (HB.out.trans (q0.b.mono HB.out.size))
      have hb0 : b < q0.w.heap.size := Nat.lt_of_lt_of_le hb q0.b.size
      clear HA HB hb
      have HA := HA0
      have HB := HB0
      have hb := hb0
      clear HA0 HB0 hb0
      obtain ⟨-, -, -, c0, c1, c2, c3, c4⟩ := xd_cells HA.out
      clear c0 c3 c4
      have hne1 := Wd.ne q0.w
      have e2 : ∀ q : Wd q0.w, q.w.cell? ⟨b, o + i * 5 + 2, none⟩ = some (.string (markT (n + 1 + 1).toNat)) := fun q => (q.cell hb).trans c2
      have HT := hidK (fun v : World => markP (n + 1 + 1) v (by omega) (by omega))
      clear c2
      go_wp2_with fail
      refine wp_region_wide (by kernel_rfl) (by kernel_rfl) ?_
      repeat (go_big_quiet_step (first | (go_at_call 174; exact Calls.wide (HT.out _)) | fail))
      refine wpQuiet_nil ?_
      rintro _ ⟨q1, rfl⟩
      clear e2 HT hne1 c1
      have hqs : ((markT (n + 1 + 1).toNat).toList == (markT (n + 1 + 1).toNat).toList) = true := by simp
      have HA1 := hidK (HA.out.below hb q1.b)
      have HB1 := hidK (HB.out.trans (q1.b.mono HB.out.size))
      have hb1 : b < q1.w.heap.size := Nat.lt_of_lt_of_le hb q1.b.size
      clear HA HB hb
      have HA := HA1
      have HB := HB1
      have hb := hb1
      clear HA1 HB1 hb1
      obtain ⟨-, -, -, c0, c1, c2, c3, c4⟩ := xd_cells HA.out
      clear c0 c1 c2
      have hne2 := Wd.ne q1.w
      have e4 : ∀ q : Wd q1.w, q.w.cell? ⟨b, o + i * 5 + 4, none⟩ = some (.string (markT (n + 1 + 1 + 1 + 1).toNat)) := fun q => (q.cell hb).trans c4
      have HT := hidK (fun v : World => markP (n + 1 + 1 + 1 + 1) v (by omega) (by omega))
      clear c4
      go_wp2_with fail
      refine wp_region_wide (by kernel_rfl) (by kernel_rfl) ?_
      repeat (go_big_quiet_step (first | (go_at_call 174; exact Calls.wide (HT.out _)) | fail))
      refine wpQuiet_nil ?_
      rintro _ ⟨q2, rfl⟩
      clear e4 HT hne2 c3
      have hqs : ((markT (n + 1 + 1 + 1 + 1).toNat).toList == (markT (n + 1 + 1 + 1 + 1).toNat).toList) = true := by simp
      have HA2 := hidK (HA.out.below hb q2.b)
      have HB2 := hidK (HB.out.trans (q2.b.mono HB.out.size))
      have hb2 : b < q2.w.heap.size := Nat.lt_of_lt_of_le hb q2.b.size
      clear HA HB hb
      have HA := HA2
      have HB := HB2
      have hb := hb2
      clear HA2 HB2 hb2
      obtain ⟨-, -, -, c0, c1, c2, c3, c4⟩ := xd_cells HA.out
      clear c0 c1 c2 c3 c4
      go_wp2_with fail
      refine ⟨⟨i + 1, mkN n (xdF x), by omega, ?_, by go_num, ?_, ?_, HB.out⟩, by simp [intOf]; omega⟩
      · simp [mkN, mkN1, xdF, Int.add_assoc]
      · rw [mkNs_step HF.out, ← HN.out]; rfl
      · simp [mkN, mkN1, xdF]; omega
    · obtain rfl : i = len := by omega
      go_wp2
      go_ret
      have e1 : (xs.map xdF).take i = xs.map xdF := List.take_of_length_le (by omega)
      exact ⟨congrArg (fun z => Ending.returned (.int .i64 z)) (HN.out.trans (by rw [e1])), HB.out⟩

end Rc
end Go.Proofs.YtcljghpfclegmaaGreatDoor

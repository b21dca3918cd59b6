/-
  Class: lists of them, measured, copied, compared, marked.
-/
import Derived.Test.YtcljghpfclegmaaGreatDoorRecs
import Derived.Test.YtcljghpfclegmaaGreatDoorWide
import Derived.Test.YtcljghpfclegmaaGreatDoorVList
namespace Go.Proofs.YtcljghpfclegmaaGreatDoor
open Go.RowKit
namespace Rc
open Mk

structure Kd where
  n : ByteArray
  x : Bool
  y : Bool
  z : ByteArray

/-- Its fields. -/
def kdF (x : Kd) : List Fv := [.s x.n, .b x.x, .b x.y, .s x.z]
theorem kd_cells {w : World} {b o : Nat} {x : Kd} (h : RAt w b o (kdF x)) : x.n.size ≤ 9223372036854775807 ∧ x.z.size ≤ 9223372036854775807 ∧ w.cell? ⟨b, o, none⟩ = some (.string x.n) ∧ w.cell? ⟨b, o + 1, none⟩ = some (.bool x.x) ∧ w.cell? ⟨b, o + 2, none⟩ = some (.bool x.y) ∧ w.cell? ⟨b, o + 3, none⟩ = some (.string x.z) := by
  obtain ⟨v0, h0, rfl, z0⟩ := h 0 _ rfl
  obtain ⟨v1, h1, rfl⟩ := h 1 _ rfl
  obtain ⟨v2, h2, rfl⟩ := h 2 _ rfl
  obtain ⟨v3, h3, rfl, z3⟩ := h 3 _ rfl
  exact ⟨z0, z3, h0, h1, h2, h3⟩
theorem kd_at {w : World} {a : Option Addr} {len cap : Nat} {xs : List Kd} (h : RRow w a len cap 4 (xs.map kdF)) {j : Nat} (hj : j < len) :
    ∃ b o x, a = some ⟨b, o, none⟩ ∧ b < w.heap.size ∧ xs[j]? = some x ∧ RAt w b (o + j * 4) (kdF x) := by
  obtain ⟨b, o, r, h1, h2, h3, h4⟩ := h.at hj
  rw [List.getElem?_map] at h3
  obtain ⟨x, h5, rfl⟩ := Option.map_eq_some_iff.1 h3
  exact ⟨b, o, x, h1, h2, h5, h4⟩

set_option maxHeartbeats 1600000 in
theorem szkd_any (a : Option Addr) (len cap : Nat) (xs : List Kd) (left : Int) (w : World) (hr : RRow w a len cap 4 (xs.map kdF)) (h0 : 0 ≤ left) (h1 : left ≤ 1048576) :
    Calls Tryz.prog 50 #[.slice a len cap, .int .i64 left] w (SzB left (len ≤ 1048576) w) := by
  have HR := hidK hr
  have hvl : xs.length = len := by simpa using hr.1
  have hlc : len ≤ 9223372036854775807 := Nat.le_trans hr.2.1 hr.2.2.1
  clear hr
  by_cases hl : left < (len : Int)
  · go_enter Tryz.func50, Tryz.ntmps50
    go_wp2
    go_ret
    exact ⟨-1, rfl, .inl rfl, Below.refl _ _⟩
  go_enter Tryz.func50, Tryz.ntmps50
  go_wp2
  go_loopw [1, 5] (fun l i wr => ∃ (k : Nat) (m : Int), k ≤ len ∧ l = .int .i64 m ∧ i = .int .i64 k ∧ 0 ≤ m ∧ m ≤ left ∧ Hid (Below w.heap.size w wr)) (fun _ i _ => len - (intOf i).toNat)
  case atStart => exact ⟨0, left - len, by omega, by go_num, rfl, by omega, by omega, Below.refl _ _⟩
  case round =>
    obtain ⟨k, m, hk, rfl, rfl, hm0, hm1, HB⟩ := hrel
    by_cases hlt : k < len
    · obtain ⟨b, o, v, rfl, hb, hv, hat⟩ := kd_at (HR.out.below HB.out) hlt
      obtain ⟨z0, z3, c0, c1, c2, c3⟩ := kd_cells hat
      have Hz0 := hidK z0
      have Hz3 := hidK z3
      clear hat hv z0 z3
      go_wp2_with fail
      refine (szClass_any v.n v.x v.y v.z m _ Hz0.out Hz3.out hm0 (by omega)).mono ?_
      rintro e w2 ⟨r, rfl, hr, hb2⟩
      have HB2 := hidK (HB.out.trans (hb2.mono HB.out.size))
      clear hb2 c0 c1 c2 c3
      rcases hr with rfl | ⟨hr0, hr1, hvl2⟩
      · go_wp2
        go_ret
        exact ⟨-1, rfl, .inl rfl, HB2.out⟩
      · go_wp2
        exact ⟨⟨k + 1, r, by omega, by go_num, by go_num, by omega, by omega, HB2.out⟩, by simp [intOf]; omega⟩
    · obtain rfl : k = len := by omega
      go_wp2
      go_ret
      exact ⟨m, rfl, .inr ⟨hm0, hm1, by omega⟩, HB.out⟩

set_option maxHeartbeats 1600000 in
theorem eqClass_any (n : ByteArray) (x : Bool) (y : Bool) (z : ByteArray) (w : World) :
    Calls Tryz.prog 159 #[.agg #[.string n, .bool x, .bool y, .string z], .agg #[.string n, .bool x, .bool y, .string z]] w fun e w' => e = .returned (.bool true) ∧ Below w.heap.size w w' := by
  go_enter Tryz.func159, Tryz.ntmps159
  go_wp2
  go_ret
  exact ⟨rfl, below2 _ _ _⟩

set_option maxHeartbeats 3200000 in
theorem eqkd_any (a a' : Option Addr) (len len' cap cap' : Nat) (xs : List Kd) (w : World) (hr : RRow w a len cap 4 (xs.map kdF)) (hr' : RRow w a' len' cap' 4 (xs.map kdF)) :
    Calls Tryz.prog 72 #[.slice a len cap, .slice a' len' cap'] w fun e w' => e = .returned (.bool true) ∧ Below w.heap.size w w' := by
  obtain rfl : len = len' := hr.1.symm.trans hr'.1
  have HR := hidK hr
  have HR' := hidK hr'
  have hlc : len ≤ 9223372036854775807 := Nat.le_trans hr.2.1 hr.2.2.1
  clear hr hr'
  go_enter Tryz.func72, Tryz.ntmps72
  go_wp2
  go_loopw [5] (fun i wr => ∃ k : Nat, k ≤ len ∧ i = .int .i64 k ∧ Hid (Below w.heap.size w wr)) (fun i _ => len - (intOf i).toNat)
  case atStart => exact ⟨0, by omega, rfl, Below.refl _ _⟩
  case round =>
    obtain ⟨k, hk, rfl, HB⟩ := hrel
    by_cases hlt : k < len
    · obtain ⟨b, o, v, rfl, hb, hv, hat⟩ := kd_at (HR.out.below HB.out) hlt
      obtain ⟨b', o', v', rfl, hb', hv', hat'⟩ := kd_at (HR'.out.below HB.out) hlt
      rw [hv] at hv'
      obtain rfl := Option.some.inj hv'
      clear hv hv'
      obtain ⟨-, -, c0, c1, c2, c3⟩ := kd_cells hat
      obtain ⟨-, -, d0, d1, d2, d3⟩ := kd_cells hat'
      clear hat hat'
      have HE := hidK (fun q : Wd wr => eqClass_any v.n v.x v.y v.z q.w)
      have hne := Wd.ne wr
      have e0 : ∀ q : Wd wr, q.w.cell? ⟨b, o + k * 4, none⟩ = some (.string v.n) := fun q => (q.cell hb).trans c0
      have e1 : ∀ q : Wd wr, q.w.cell? ⟨b, o + k * 4 + 1, none⟩ = some (.bool v.x) := fun q => (q.cell hb).trans c1
      have e2 : ∀ q : Wd wr, q.w.cell? ⟨b, o + k * 4 + 2, none⟩ = some (.bool v.y) := fun q => (q.cell hb).trans c2
      have e3 : ∀ q : Wd wr, q.w.cell? ⟨b, o + k * 4 + 3, none⟩ = some (.string v.z) := fun q => (q.cell hb).trans c3
      have f0 : ∀ q : Wd wr, q.w.cell? ⟨b', o' + k * 4, none⟩ = some (.string v.n) := fun q => (q.cell hb').trans d0
      have f1 : ∀ q : Wd wr, q.w.cell? ⟨b', o' + k * 4 + 1, none⟩ = some (.bool v.x) := fun q => (q.cell hb').trans d1
      have f2 : ∀ q : Wd wr, q.w.cell? ⟨b', o' + k * 4 + 2, none⟩ = some (.bool v.y) := fun q => (q.cell hb').trans d2
      have f3 : ∀ q : Wd wr, q.w.cell? ⟨b', o' + k * 4 + 3, none⟩ = some (.string v.z) := fun q => (q.cell hb').trans d3
      clear c0 c1 c2 c3 d0 d1 d2 d3
      go_wp2_with fail
      refine wp_region_wide (by kernel_rfl) (by kernel_rfl) ?_
      repeat (go_big_quiet_step (first | (go_at_call 159; exact Calls.wide (HE.out _)) | fail))
      refine wpQuiet_nil ?_
      rintro _ ⟨q, rfl⟩
      go_wp2_with fail
      exact ⟨⟨k + 1, by omega, by go_num, HB.out.trans (q.b.mono HB.out.size)⟩, by simp [intOf]; omega⟩
    · obtain rfl : k = len := by omega
      go_wp2
      go_ret
      exact ⟨rfl, HB.out⟩

set_option maxRecDepth 10000 in
set_option maxHeartbeats 6400000 in
theorem markkd_any (a : Option Addr) (len cap : Nat) (xs : List Kd) (N : Int) (S : Nat → Prop) (w : World) (ho : ROwn w a len cap 4 52 (xs.map kdF) S) (hN : 0 < N) (hb : mkNs N (xs.map kdF) ≤ 1152921504606846976) (hl : len ≤ 9223372036854775807) :
    Calls Tryz.prog 88 #[.slice a len cap, .int .i64 N] w fun e w' => e = .returned (.int .i64 (mkNs N (xs.map kdF))) ∧ ROwn w' a len cap 4 52 (mkRs N (xs.map kdF)) S ∧ KeptS S w w' := by
  have hxl : (xs.map kdF).length = len := ho.1
  have hcp := ho.2.1
  have hcm := ho.2.2.1
  have hml : (mkRs N (xs.map kdF)).length = (xs.map kdF).length := mkRs_length _ _
  have HO : Hid (ROwn w a len cap 4 52 ((mkRs N (xs.map kdF)).take 0 ++ (xs.map kdF).drop 0) S) := by simpa [Hid] using ho
  have HBd := hidK hb
  clear ho hb
  go_enter Tryz.func88, Tryz.ntmps88
  go_wp2
  go_loopw [1, 5] (fun vk vi wr => ∃ (i : Nat) (n : Int), i ≤ len ∧ vk = .int .i64 n ∧ vi = .int .i64 i ∧ Hid (n = mkNs N ((xs.map kdF).take i)) ∧ 0 < n ∧ Hid (ROwn wr a len cap 4 52 ((mkRs N (xs.map kdF)).take i ++ (xs.map kdF).drop i) S) ∧ Hid (KeptS S w wr)) (fun _ vi _ => len - (intOf vi).toNat)
  case atStart => exact ⟨0, N, by omega, rfl, rfl, rfl, hN, HO, KeptS.refl _ _⟩
  case round =>
    obtain ⟨i, n, hi, rfl, rfl, HN, hn0, HS, HK⟩ := hrel
    clear HO
    by_cases hlt : i < len
    · obtain ⟨x, hx⟩ : ∃ x, xs[i]? = some x := ⟨_, List.getElem?_eq_getElem (by simpa using (show i < (xs.map kdF).length by omega))⟩
      have hfx : (xs.map kdF)[i]? = some (kdF x) := by rw [List.getElem?_map, hx]; rfl
      have HF := hidK hfx
      have hbd : mkN n (kdF x) ≤ 1152921504606846976 := by rw [HN.out]; exact Int.le_trans (mkN_le hfx N) HBd.out
      have hbd' : n + 3 + 1 ≤ 1152921504606846976 := by simpa [mkN, mkN1, kdF, Int.add_assoc] using hbd
      obtain ⟨g, rfl, hs⟩ := HS.out.st HK.out ((take_drop_at hml (by omega)).trans hfx)
      have H0 : Hid (StJ g 4 52 S (fun _ => False) w wr ((mkRs N (xs.map kdF)).take i ++ (xs.map kdF).drop i) i [.s x.n, .b x.x, .b x.y, .s x.z]) := hs
      clear hs hbd hx hfx HS HK
      go_wp2_with fail
      refine (markP _ _ (by omega) (by omega)).mono ?_
      rintro e w1 ⟨rfl, hb⟩
      have h1 := (H0.out).below hb
      have H1 := hidK h1
      obtain ⟨p0, c0⟩ := h1.cell (i := 0) rfl
      have f0 := h1.fro (i * 4)
      rw [Nat.add_zero] at c0
      obtain ⟨p1, c1⟩ := h1.cell (i := 1) rfl
      have f1 := h1.fro (i * 4 + 1)
      obtain ⟨p2, c2⟩ := h1.cell (i := 2) rfl
      have f2 := h1.fro (i * 4 + 2)
      clear h1 hb H0
      go_wp2_with fail
      refine (markP _ _ (by omega) (by omega)).mono ?_
      rintro e w2 ⟨rfl, hb⟩
      have h1 := ((((H1.out).setS (i := 0) rfl _ (markT_size (by omega))).setB (i := 1) rfl _).setB (i := 2) rfl _).below hb
      have H2 := hidK h1
      obtain ⟨p3, c3⟩ := h1.cell (i := 3) rfl
      have f3 := h1.fro (i * 4 + 3)
      clear h1 hb H1 c0 f0 c1 f1 c2 f2
      go_wp2_with fail
      have HZ := hidK ((H2.out).setS (i := 3) rfl (markT (n + 1 + 1 + 1).toNat) (markT_size (by omega)))
      clear H2
      refine ⟨⟨i + 1, mkN n (kdF x), by omega, ?_, by go_num, ?_, ?_, ?_, HZ.out.kept⟩, by simp [intOf]; omega⟩
      · simp [mkN, mkN1, kdF, Int.add_assoc]
      · rw [mkNs_step HF.out, ← HN.out]; rfl
      · simp [mkN, mkN1, kdF]; omega
      · refine ROwn.of_st HZ.out hxl hml hcp hcm HF.out ?_
        rw [← HN.out]
        simp [mkR, mkF, mkN1, kdF]
    · obtain rfl : i = len := by omega
      go_wp2
      go_ret
      have e1 : (xs.map kdF).take i = xs.map kdF := List.take_of_length_le (by omega)
      have e2 : (mkRs N (xs.map kdF)).take i ++ (xs.map kdF).drop i = mkRs N (xs.map kdF) := by
        rw [List.take_of_length_le (by omega), List.drop_of_length_le (by omega), List.append_nil]
      refine ⟨congrArg (fun z => Ending.returned (.int .i64 z)) (HN.out.trans (by rw [e1])), ?_, HK.out⟩
      have := HS.out
      rw [e2] at this
      exact this

set_option maxRecDepth 10000 in
set_option maxHeartbeats 6400000 in
theorem heldkd_any (a : Option Addr) (len cap : Nat) (xs : List Kd) (N : Int) (w : World) (ho : RRow w a len cap 4 (mkRs N (xs.map kdF))) (hN : 0 < N) (hb : mkNs N (xs.map kdF) ≤ 1152921504606846976) (hl : len ≤ 9223372036854775807) :
    Calls Tryz.prog 176 #[.slice a len cap, .int .i64 N] w fun e w' => e = .returned (.int .i64 (mkNs N (xs.map kdF))) ∧ Below w.heap.size w w' := by
  have hxl : (xs.map kdF).length = len := by rw [← mkRs_length (xs.map kdF) N]; exact ho.1
  have HR := hidK ho
  have HBd := hidK hb
  clear ho hb
  go_enter Tryz.func176, Tryz.ntmps176
  go_wp2
  go_loopw [1, 5] (fun vk vi wr => ∃ (i : Nat) (n : Int), i ≤ len ∧ vk = .int .i64 n ∧ vi = .int .i64 i ∧ Hid (n = mkNs N ((xs.map kdF).take i)) ∧ 0 < n ∧ Hid (Below w.heap.size w wr)) (fun _ vi _ => len - (intOf vi).toNat)
  case atStart => exact ⟨0, N, by omega, rfl, rfl, rfl, hN, Below.refl _ _⟩
  case round =>
    obtain ⟨i, n, hi, rfl, rfl, HN, hn0, HB⟩ := hrel
    by_cases hlt : i < len
    · obtain ⟨x, hx⟩ : ∃ x, xs[i]? = some x := ⟨_, List.getElem?_eq_getElem (by simpa using (show i < (xs.map kdF).length by omega))⟩
      have hfx : (xs.map kdF)[i]? = some (kdF x) := by rw [List.getElem?_map, hx]; rfl
      have HF := hidK hfx
      have hbd : mkN n (kdF x) ≤ 1152921504606846976 := by rw [HN.out]; exact Int.le_trans (mkN_le hfx N) HBd.out
      have hbd' : n + 3 + 1 ≤ 1152921504606846976 := by simpa [mkN, mkN1, kdF, Int.add_assoc] using hbd
      obtain ⟨b, o, r, rfl, hb, hr, hat⟩ := (HR.out.below HB.out).at hlt
      rw [mkRs_at, hfx, ← HN.out] at hr
      obtain rfl := Option.some.inj hr
      have HA : Hid (RAt wr b (o + i * 4) (kdF ⟨markT (n).toNat, (n + 1) % 3 == 0, (n + 1 + 1) % 3 == 0, markT (n + 1 + 1 + 1).toNat⟩)) := hat
      clear hat hr hbd hx hfx
      obtain ⟨-, -, c0, c1, c2, c3⟩ := kd_cells HA.out
      have hne0 := Wd.ne wr
      have e0 : ∀ q : Wd wr, q.w.cell? ⟨b, o + i * 4, none⟩ = some (.string (markT (n).toNat)) := fun q => (q.cell hb).trans c0
      have HT := hidK (fun v : World => markP (n) v (by omega) (by omega))
      clear c0
      go_wp2_with fail
      refine wp_region_wide (by kernel_rfl) (by kernel_rfl) ?_
      repeat (go_big_quiet_step (first | (go_at_call 174; exact Calls.wide (HT.out _)) | fail))
      refine wpQuiet_nil ?_
      rintro _ ⟨q0, rfl⟩
      clear e0 HT hne0 c1 c2 c3
      have hqs : ((markT (n).toNat).toList == (markT (n).toNat).toList) = true := by simp
      have HA0 := hidK (HA.out.below hb q0.b)
      have HB0 := hidK (HB.out.trans (q0.b.mono HB.out.size))
      have hb0 : b < q0.w.heap.size := Nat.lt_of_lt_of_le hb q0.b.size
      clear HA HB hb
      have HA := HA0
      have HB := HB0
      have hb := hb0
      clear HA0 HB0 hb0
      obtain ⟨-, -, c0, c1, c2, c3⟩ := kd_cells HA.out
      clear c0
      have hne1 := Wd.ne q0.w
      have e3 : ∀ q : Wd q0.w, q.w.cell? ⟨b, o + i * 4 + 3, none⟩ = some (.string (markT (n + 1 + 1 + 1).toNat)) := fun q => (q.cell hb).trans c3
      have HT := hidK (fun v : World => markP (n + 1 + 1 + 1) v (by omega) (by omega))
      clear c3
      go_wp2_with fail
      refine wp_region_wide (by kernel_rfl) (by kernel_rfl) ?_
      repeat (go_big_quiet_step (first | (go_at_call 174; exact Calls.wide (HT.out _)) | fail))
      refine wpQuiet_nil ?_
      rintro _ ⟨q1, rfl⟩
      clear e3 HT hne1 c1 c2
      have hqs : ((markT (n + 1 + 1 + 1).toNat).toList == (markT (n + 1 + 1 + 1).toNat).toList) = true := by simp
      have HA1 := hidK (HA.out.below hb q1.b)
      have HB1 := hidK (HB.out.trans (q1.b.mono HB.out.size))
      have hb1 : b < q1.w.heap.size := Nat.lt_of_lt_of_le hb q1.b.size
      clear HA HB hb
      have HA := HA1
      have HB := HB1
      have hb := hb1
      clear HA1 HB1 hb1
      obtain ⟨-, -, c0, c1, c2, c3⟩ := kd_cells HA.out
      clear c0 c1 c2 c3
      go_wp2_with fail
      refine ⟨⟨i + 1, mkN n (kdF x), by omega, ?_, by go_num, ?_, ?_, HB.out⟩, by simp [intOf]; omega⟩
      · simp [mkN, mkN1, kdF, Int.add_assoc]
      · rw [mkNs_step HF.out, ← HN.out]; rfl
      · simp [mkN, mkN1, kdF]; omega
    · obtain rfl : i = len := by omega
      go_wp2
      go_ret
      have e1 : (xs.map kdF).take i = xs.map kdF := List.take_of_length_le (by omega)
      exact ⟨congrArg (fun z => Ending.returned (.int .i64 z)) (HN.out.trans (by rw [e1])), HB.out⟩

end Rc
end Go.Proofs.YtcljghpfclegmaaGreatDoor

import Derived.Test.YtjafiakeddafoaaGreatDoorL3
import Derived.Laws.AppendOwn
import Derived.Test.YtjafiakeddafoaaGreatDoorRows
import Derived.WalkKit
import Derived.WalkSpells
import Derived.RegionTactic
import Derived.LaidEql
import Derived.Stop.Asserts
import Derived.RowKitTokens
import Derived.Stop.LaidErr
import Derived.ChangeVars
import Derived.Deep.Strs
import Derived.Deep.Fields
import Derived.WideShapes
import Derived.ChangeArms
/-
  Claim: the laws' copy of a list of them.
-/
namespace Go.Proofs.YtjafiakeddafoaaGreatDoor
open Go.RowKit
namespace Rc
open Mk

theorem infoxd : (Tryz.prog.info? 102).map (fun i => (i.zero, i.size, i.bytes)) = some (some (.agg #[.string ⟨#[]⟩, .int .i64 0, .string ⟨#[]⟩, .bool false, .string ⟨#[]⟩]), 5, 64) := by kernel_rfl
def xdZ : Xd := ⟨⟨#[]⟩, 0, ⟨#[]⟩, false, ⟨#[]⟩⟩

set_option maxRecDepth 10000 in
theorem madexd {w : World} {g len : Nat} (h : w.heap[g]? = some (.cells (madeCells #[.string ⟨#[]⟩, .int .i64 0, .string ⟨#[]⟩, .bool false, .string ⟨#[]⟩] (len * 5)) 102 (0, 0))) (hl : len ≤ 1048576) (S : Nat → Prop) (hS : S g) :
    ROwn w (some ⟨g, 0, none⟩) len len 5 102 ((List.replicate len xdZ).map xdF) S := by
  refine ⟨by simp, Nat.le_refl _, by omega, .inr ⟨g, _, fun _ _ => 0, rfl, h, hS, ?_, ?_, ?_⟩⟩
  · intro j r hr
    rw [List.getElem?_map] at hr
    obtain ⟨x, hx, rfl⟩ := Option.map_eq_some_iff.1 hr
    rfl
  · intro j r hr i f hi
    rw [List.getElem?_map] at hr
    obtain ⟨x, hx, rfl⟩ := Option.map_eq_some_iff.1 hr
    have hj : j < len := by have := (List.getElem?_eq_some_iff.1 hx).1; simpa using this
    obtain rfl : x = xdZ := by
      obtain ⟨h1, h2⟩ := List.getElem?_eq_some_iff.1 hx
      simpa using h2.symm
    have him : i < 5 := (List.getElem?_eq_some_iff.1 hi).1
    have hlt : j * 5 + i < len * 5 := by omega
    have hcell : (madeCells #[.string ⟨#[]⟩, .int .i64 0, .string ⟨#[]⟩, .bool false, .string ⟨#[]⟩] (len * 5))[j * 5 + i]? = some (#[.string ⟨#[]⟩, .int .i64 0, .string ⟨#[]⟩, .bool false, .string ⟨#[]⟩][i]!) := by
      unfold madeCells
      rw [Array.getElem?_map, Array.getElem?_range]
      rw [if_pos hlt]
      have : (j * 5 + i) % 5 = i := by omega
      simp [this]
    refine ⟨_, hcell, ?_⟩
    rcases i with _ | _ | _ | _ | _ | i
    · cases hi; exact ⟨rfl, by decide⟩
    · cases hi; exact rfl
    · cases hi; exact ⟨rfl, by decide⟩
    · cases hi; exact rfl
    · cases hi; exact ⟨rfl, by decide⟩
    · omega
  · intro j r i zs j' r' i' zs' hr hi hz
    exfalso
    rw [List.getElem?_map] at hr
    obtain ⟨x, hx, rfl⟩ := Option.map_eq_some_iff.1 hr
    obtain rfl : x = xdZ := by
      obtain ⟨h1, h2⟩ := List.getElem?_eq_some_iff.1 hx
      simpa using h2.symm
    have him : i < 5 := (List.getElem?_eq_some_iff.1 hi).1
    rcases i with _ | _ | _ | _ | _ | i
    · cases hi
    · cases hi
    · cases hi
    · cases hi
    · cases hi
    · omega

set_option maxRecDepth 10000 in
set_option maxHeartbeats 6400000 in
theorem toxd_any (a : Option Addr) (len cap : Nat) (xs : List Xd) (w : World) (hr : RRow w a len cap 5 (xs.map xdF)) (hl : len ≤ 1048576) :
    Calls Tryz.prog 26 #[.slice a len cap] w fun e w' => e = .returned (.slice (some ⟨w.heap.size, 0, none⟩) len len) ∧ ROwn w' (some ⟨w.heap.size, 0, none⟩) len len 5 102 (xs.map xdF) (fun k => w.heap.size ≤ k) ∧ Below w.heap.size w w' := by
  have HR := hidK hr
  have hvl : xs.length = len := by simpa using hr.1
  skip
  clear hr
  obtain ⟨i0, hi, hz0, hz1, hz2⟩ := info_parts infoxd
  go_enter Tryz.func26, Tryz.ntmps26
  go_wp2_with (at_make; refine wpList_make_full _ rfl _ _ 34 rfl w.heap.size 102 i0 (.agg #[.string ⟨#[]⟩, .int .i64 0, .string ⟨#[]⟩, .bool false, .string ⟨#[]⟩]) 5 Tryz.underlying34 hi hz0 hz1 _ _ _ _ len rfl rfl (by omega) (by omega) (by rw [hz2]; omega) (by unfold maxLen; omega) (Nat.le_refl _) ?_)
  intro w1 hown hgrow
  have hnx1 : Below w.heap.size w w1 := (Below.refl _ _).grown hgrow (Nat.le_refl _) (fun k hk => by cases hk)
  have HB : Hid (Below w.heap.size w w1) := hnx1
  have hc1 : w1.heap[w.heap.size]? = some (.cells (madeCells #[.string ⟨#[]⟩, .int .i64 0, .string ⟨#[]⟩, .bool false, .string ⟨#[]⟩] (len * 5)) 102 (0, 0)) := by
    obtain ⟨h1, h2⟩ := hown
    rcases h2 with ⟨h3, _⟩ | ⟨g', cap', cur, hv, hB, hh, _, _, hsz, htk⟩
    · cases h3
    · simp only [Value.slice.injEq, Option.some.injEq, Addr.mk.injEq] at hv
      obtain ⟨⟨rfl, _, _⟩, _, rfl⟩ := hv
      rw [List.take_of_length_le (by simp [hsz])] at htk
      have : cur = madeCells #[.string ⟨#[]⟩, .int .i64 0, .string ⟨#[]⟩, .bool false, .string ⟨#[]⟩] (len * 5) := by apply Array.ext'; simpa using htk
      rw [this] at hh
      simpa using hh
  have HP : Hid (ROwn w1 (some ⟨w.heap.size, 0, none⟩) len len 5 102 ((xs.take 0 ++ (List.replicate len xdZ).drop 0).map xdF) (fun k => w.heap.size ≤ k)) := by
    have := madexd hc1 hl (fun k => w.heap.size ≤ k) (Nat.le_refl _)
    simpa [Hid] using this
  have hZl : xs.length = (List.replicate len xdZ).length := by simpa using hvl
  clear hown hgrow hi hz0 hz1 hz2 hnx1 hc1
  go_wp2
  go_loopw [4] (fun i wr => ∃ k : Nat, k ≤ len ∧ i = .int .i64 k ∧ Hid (ROwn wr (some ⟨w.heap.size, 0, none⟩) len len 5 102 ((xs.take k ++ (List.replicate len xdZ).drop k).map xdF) (fun k => w.heap.size ≤ k)) ∧ Hid (Below w.heap.size w wr)) (fun i _ => len - (intOf i).toNat)
  case atStart => exact ⟨0, by omega, rfl, HP, HB⟩
  case round =>
    obtain ⟨k, hk, rfl, HP, HB⟩ := hrel
    by_cases hlt : k < len
    · obtain ⟨b, o, v, rfl, hb, hv, hat⟩ := xd_at (HR.out.below HB.out) hlt
      obtain ⟨z0, z2, z4, c0, c1, c2, c3, c4⟩ := xd_cells hat
      have HV := hidK hv
      have Hz0 := hidK z0
      have Hz2 := hidK z2
      have Hz4 := hidK z4
      clear hat hv z0 z2 z4
      have hzk : ((xs.take k ++ (List.replicate len xdZ).drop k).map xdF)[k]? = some (xdF xdZ) := by
        rw [List.getElem?_map, take_drop_at hZl (by omega), List.getElem?_replicate, if_pos hlt]
        rfl
      obtain ⟨g, hg, hs⟩ := HP.out.st (KeptS.refl _ _) hzk
      cases hg
      have HS := hidK hs
      clear hs hzk HP
      go_wp2_with fail
      refine (toClaim_any v.n v.z v.k v.x v.v _).mono ?_
      rintro e w2 ⟨rfl, hb2⟩
      have HB2 := upB HB hb2
      have h1 : StJ w.heap.size 5 102 (fun k => w.heap.size ≤ k) (fun k => wr.heap.size ≤ k) wr w2 ((xs.take k ++ (List.replicate len xdZ).drop k).map xdF) k [.s xdZ.n, .i xdZ.z, .s xdZ.k, .b xdZ.x, .s xdZ.v] := HS.out.fresh hb2
      obtain ⟨q0, e0⟩ := h1.cell (i := 0) rfl
      have f0 := h1.fro (k * 5)
      obtain ⟨q1, e1⟩ := h1.cell (i := 1) rfl
      have f1 := h1.fro (k * 5 + 1)
      obtain ⟨q2, e2⟩ := h1.cell (i := 2) rfl
      have f2 := h1.fro (k * 5 + 2)
      obtain ⟨q3, e3⟩ := h1.cell (i := 3) rfl
      have f3 := h1.fro (k * 5 + 3)
      obtain ⟨q4, e4⟩ := h1.cell (i := 4) rfl
      have f4 := h1.fro (k * 5 + 4)
      rw [Nat.add_zero] at e0
      have HZ := hidK ((((((h1).setS (i := 0) rfl v.n Hz0.out).setI (i := 1) rfl v.z).setS (i := 2) rfl v.k Hz2.out).setB (i := 3) rfl v.x).setS (i := 4) rfl v.v Hz4.out)
      clear h1 hb2 c0 c1 c2 c3 c4 hb
      go_wp2_with fail
      refine ⟨⟨k + 1, by omega, by go_num, ?_, set_below (Nat.le_refl _) (set_below (Nat.le_refl _) (set_below (Nat.le_refl _) (set_below (Nat.le_refl _) (set_below (Nat.le_refl _) (HB2.out)))))⟩, by simp [intOf]; omega⟩
      obtain ⟨⟨cur, H, h2, -⟩, -, -⟩ := HZ.out
      have h3 : (((xs.take k ++ (List.replicate len xdZ).drop k).map xdF).set k (xdF v)) = (xs.take (k + 1) ++ (List.replicate len xdZ).drop (k + 1)).map xdF := by
        rw [← List.map_set, take_drop_set hZl HV.out]
      have h4 : ROwnAt _ w.heap.size 5 102 (((xs.take k ++ (List.replicate len xdZ).drop k).map xdF).set k (xdF v)) (fun k => w.heap.size ≤ k) cur H := h2
      rw [h3] at h4
      exact ⟨by rw [List.length_map, take_drop_len hZl (by omega)]; simp, Nat.le_refl _, by omega, .inr ⟨_, cur, H, rfl, h4⟩⟩
    · obtain rfl : len = k := by omega
      go_wp2
      go_ret
      refine ⟨rfl, ?_, HB.out⟩
      have h5 := HP.out
      rw [List.take_of_length_le (by omega), List.drop_of_length_le (by simp), List.append_nil] at h5
      exact h5

theorem infopd : (Tryz.prog.info? 75).map (fun i => (i.zero, i.size, i.bytes)) = some (some (.agg #[.string ⟨#[]⟩, .int .i64 0, .string ⟨#[]⟩, .slice none 0 0, .string ⟨#[]⟩, .int .i64 0]), 6, 88) := by kernel_rfl
def pdZ : Pd := ⟨⟨#[]⟩, 0, ⟨#[]⟩, [], ⟨#[]⟩, 0⟩

set_option maxRecDepth 10000 in
theorem madepd {w : World} {g len : Nat} (h : w.heap[g]? = some (.cells (madeCells #[.string ⟨#[]⟩, .int .i64 0, .string ⟨#[]⟩, .slice none 0 0, .string ⟨#[]⟩, .int .i64 0] (len * 6)) 75 (0, 0))) (hl : len ≤ 1048576) (S : Nat → Prop) (hS : S g) :
    ROwn w (some ⟨g, 0, none⟩) len len 6 75 ((List.replicate len pdZ).map pdF) S := by
  refine ⟨by simp, Nat.le_refl _, by omega, .inr ⟨g, _, fun _ _ => 0, rfl, h, hS, ?_, ?_, ?_⟩⟩
  · intro j r hr
    rw [List.getElem?_map] at hr
    obtain ⟨x, hx, rfl⟩ := Option.map_eq_some_iff.1 hr
    rfl
  · intro j r hr i f hi
    rw [List.getElem?_map] at hr
    obtain ⟨x, hx, rfl⟩ := Option.map_eq_some_iff.1 hr
    have hj : j < len := by have := (List.getElem?_eq_some_iff.1 hx).1; simpa using this
    obtain rfl : x = pdZ := by
      obtain ⟨h1, h2⟩ := List.getElem?_eq_some_iff.1 hx
      simpa using h2.symm
    have him : i < 6 := (List.getElem?_eq_some_iff.1 hi).1
    have hlt : j * 6 + i < len * 6 := by omega
    have hcell : (madeCells #[.string ⟨#[]⟩, .int .i64 0, .string ⟨#[]⟩, .slice none 0 0, .string ⟨#[]⟩, .int .i64 0] (len * 6))[j * 6 + i]? = some (#[.string ⟨#[]⟩, .int .i64 0, .string ⟨#[]⟩, .slice none 0 0, .string ⟨#[]⟩, .int .i64 0][i]!) := by
      unfold madeCells
      rw [Array.getElem?_map, Array.getElem?_range]
      rw [if_pos hlt]
      have : (j * 6 + i) % 6 = i := by omega
      simp [this]
    refine ⟨_, hcell, ?_⟩
    rcases i with _ | _ | _ | _ | _ | _ | i
    · cases hi; exact ⟨rfl, by decide⟩
    · cases hi; exact rfl
    · cases hi; exact ⟨rfl, by decide⟩
    · cases hi; exact ⟨none, 0, 0, rfl, rfl, Nat.le_refl _, by decide, fun j x hx => by simp [pdZ] at hx, .inl rfl⟩
    · cases hi; exact ⟨rfl, by decide⟩
    · cases hi; exact rfl
    · omega
  · intro j r i zs j' r' i' zs' hr hi hz
    exfalso
    rw [List.getElem?_map] at hr
    obtain ⟨x, hx, rfl⟩ := Option.map_eq_some_iff.1 hr
    obtain rfl : x = pdZ := by
      obtain ⟨h1, h2⟩ := List.getElem?_eq_some_iff.1 hx
      simpa using h2.symm
    have him : i < 6 := (List.getElem?_eq_some_iff.1 hi).1
    rcases i with _ | _ | _ | _ | _ | _ | i
    · cases hi
    · cases hi
    · cases hi
    · cases hi; exact hz rfl
    · cases hi
    · cases hi
    · omega

set_option maxRecDepth 10000 in
set_option maxHeartbeats 6400000 in
theorem topd_any (a : Option Addr) (len cap : Nat) (xs : List Pd) (w : World) (hr : RRow w a len cap 6 (xs.map pdF)) (hl : len ≤ 1048576) (hf : ∀ (j : Nat) x, xs[j]? = some x → x.zs.length ≤ 1048576) :
    Calls Tryz.prog 27 #[.slice a len cap] w fun e w' => e = .returned (.slice (some ⟨w.heap.size, 0, none⟩) len len) ∧ ROwn w' (some ⟨w.heap.size, 0, none⟩) len len 6 75 (xs.map pdF) (fun k => w.heap.size ≤ k) ∧ Below w.heap.size w w' := by
  have HR := hidK hr
  have hvl : xs.length = len := by simpa using hr.1
  have HF := hidK hf
  clear hr hf
  obtain ⟨i0, hi, hz0, hz1, hz2⟩ := info_parts infopd
  go_enter Tryz.func27, Tryz.ntmps27
  go_wp2_with (at_make; refine wpList_make_full _ rfl _ _ 35 rfl w.heap.size 75 i0 (.agg #[.string ⟨#[]⟩, .int .i64 0, .string ⟨#[]⟩, .slice none 0 0, .string ⟨#[]⟩, .int .i64 0]) 6 Tryz.underlying35 hi hz0 hz1 _ _ _ _ len rfl rfl (by omega) (by omega) (by rw [hz2]; omega) (by unfold maxLen; omega) (Nat.le_refl _) ?_)
  intro w1 hown hgrow
  have hnx1 : Below w.heap.size w w1 := (Below.refl _ _).grown hgrow (Nat.le_refl _) (fun k hk => by cases hk)
  have HB : Hid (Below w.heap.size w w1) := hnx1
  have hc1 : w1.heap[w.heap.size]? = some (.cells (madeCells #[.string ⟨#[]⟩, .int .i64 0, .string ⟨#[]⟩, .slice none 0 0, .string ⟨#[]⟩, .int .i64 0] (len * 6)) 75 (0, 0)) := by
    obtain ⟨h1, h2⟩ := hown
    rcases h2 with ⟨h3, _⟩ | ⟨g', cap', cur, hv, hB, hh, _, _, hsz, htk⟩
    · cases h3
    · simp only [Value.slice.injEq, Option.some.injEq, Addr.mk.injEq] at hv
      obtain ⟨⟨rfl, _, _⟩, _, rfl⟩ := hv
      rw [List.take_of_length_le (by simp [hsz])] at htk
      have : cur = madeCells #[.string ⟨#[]⟩, .int .i64 0, .string ⟨#[]⟩, .slice none 0 0, .string ⟨#[]⟩, .int .i64 0] (len * 6) := by apply Array.ext'; simpa using htk
      rw [this] at hh
      simpa using hh
  have HP : Hid (ROwn w1 (some ⟨w.heap.size, 0, none⟩) len len 6 75 ((xs.take 0 ++ (List.replicate len pdZ).drop 0).map pdF) (fun k => w.heap.size ≤ k)) := by
    have := madepd hc1 hl (fun k => w.heap.size ≤ k) (Nat.le_refl _)
    simpa [Hid] using this
  have hZl : xs.length = (List.replicate len pdZ).length := by simpa using hvl
  clear hown hgrow hi hz0 hz1 hz2 hnx1 hc1
  go_wp2
  go_loopw [4] (fun i wr => ∃ k : Nat, k ≤ len ∧ i = .int .i64 k ∧ Hid (ROwn wr (some ⟨w.heap.size, 0, none⟩) len len 6 75 ((xs.take k ++ (List.replicate len pdZ).drop k).map pdF) (fun k => w.heap.size ≤ k)) ∧ Hid (Below w.heap.size w wr)) (fun i _ => len - (intOf i).toNat)
  case atStart => exact ⟨0, by omega, rfl, HP, HB⟩
  case round =>
    obtain ⟨k, hk, rfl, HP, HB⟩ := hrel
    by_cases hlt : k < len
    · obtain ⟨b, o, v, rfl, hb, hv, hat⟩ := pd_at (HR.out.below HB.out) hlt
      obtain ⟨va, vl, vc, hvr, z0, z2, z4, c0, c1, c2, c3, c4, c5⟩ := pd_cells hat
      have HV := hidK hv
      have Hz0 := hidK z0
      have Hz2 := hidK z2
      have Hz4 := hidK z4
      have HT := hidK hvr
      have hvl2 : vl ≤ 1048576 := by have := HF.out k v hv; rw [hvr.1] at this; exact this
      have hvz : v.zs.length = vl := hvr.1
      have HVZ := hidK hvz
      clear hvr hvz
      clear hat hv z0 z2 z4
      have hzk : ((xs.take k ++ (List.replicate len pdZ).drop k).map pdF)[k]? = some (pdF pdZ) := by
        rw [List.getElem?_map, take_drop_at hZl (by omega), List.getElem?_replicate, if_pos hlt]
        rfl
      obtain ⟨g, hg, hs⟩ := HP.out.st (KeptS.refl _ _) hzk
      cases hg
      have HS := hidK hs
      clear hs hzk HP
      go_wp2_with fail
      refine (toPod_any v.n v.c v.z va vl vc v.zs v.d v.p _ HT.out hvl2).mono ?_
      rintro e w2 ⟨rfl, hG, hb2⟩
      have HB2 := upB HB hb2
      have h1 : StJ w.heap.size 6 75 (fun k => w.heap.size ≤ k) (fun k => wr.heap.size ≤ k) wr w2 ((xs.take k ++ (List.replicate len pdZ).drop k).map pdF) k [.s pdZ.n, .i pdZ.c, .s pdZ.z, .l pdZ.zs, .s pdZ.d, .i pdZ.p] := HS.out.fresh hb2
      have hL : LOwn w2 (wr.heap.size + 1 + 1 + 1) (fun k => w.heap.size ≤ k) w.heap.size v.zs (.slice (some ⟨wr.heap.size + 1 + 1 + 1, 0, none⟩) vl vl) := by
        have h9 := HB.out.size
        have hgl := lt_of_some (HS.out.own.choose_spec.choose_spec.1.blk)
        refine ⟨_, _, _, rfl, HVZ.out, Nat.le_refl _, by omega, HT.out.2.2.2.1, .inr ⟨rfl, by show w.heap.size ≤ _; omega, by omega, _, hG, fun j x hx => ?_⟩⟩
        simp [hx]
      have HL := hidK hL
      clear hG hL
      obtain ⟨q0, e0⟩ := h1.cell (i := 0) rfl
      have f0 := h1.fro (k * 6)
      obtain ⟨q1, e1⟩ := h1.cell (i := 1) rfl
      have f1 := h1.fro (k * 6 + 1)
      obtain ⟨q2, e2⟩ := h1.cell (i := 2) rfl
      have f2 := h1.fro (k * 6 + 2)
      obtain ⟨q3, e3⟩ := h1.cell (i := 3) rfl
      have f3 := h1.fro (k * 6 + 3)
      obtain ⟨q4, e4⟩ := h1.cell (i := 4) rfl
      have f4 := h1.fro (k * 6 + 4)
      obtain ⟨q5, e5⟩ := h1.cell (i := 5) rfl
      have f5 := h1.fro (k * 6 + 5)
      rw [Nat.add_zero] at e0
      have HZ := hidK (((((((h1).setS (i := 0) rfl v.n Hz0.out).setI (i := 1) rfl v.c).setS (i := 2) rfl v.z Hz2.out).setL (i := 3) rfl v.zs (fun _ => by show wr.heap.size ≤ _; omega) (Fv.Own.set_cell (u := .l v.zs) (Fv.Own.set_cell (u := .l v.zs) (Fv.Own.set_cell (u := .l v.zs) (HL.out))))).setS (i := 4) rfl v.d Hz4.out).setI (i := 5) rfl v.p)
      clear h1 hb2 c0 c1 c2 c3 c4 c5 hb
      go_wp2_with fail
      refine ⟨⟨k + 1, by omega, by go_num, ?_, set_below (Nat.le_refl _) (set_below (Nat.le_refl _) (set_below (Nat.le_refl _) (set_below (Nat.le_refl _) (set_below (Nat.le_refl _) (set_below (Nat.le_refl _) (HB2.out))))))⟩, by simp [intOf]; omega⟩
      obtain ⟨⟨cur, H, h2, -⟩, -, -⟩ := HZ.out
      have h3 : (((xs.take k ++ (List.replicate len pdZ).drop k).map pdF).set k (pdF v)) = (xs.take (k + 1) ++ (List.replicate len pdZ).drop (k + 1)).map pdF := by
        rw [← List.map_set, take_drop_set hZl HV.out]
      have h4 : ROwnAt _ w.heap.size 6 75 (((xs.take k ++ (List.replicate len pdZ).drop k).map pdF).set k (pdF v)) (fun k => w.heap.size ≤ k) cur H := h2
      rw [h3] at h4
      exact ⟨by rw [List.length_map, take_drop_len hZl (by omega)]; simp, Nat.le_refl _, by omega, .inr ⟨_, cur, H, rfl, h4⟩⟩
    · obtain rfl : len = k := by omega
      go_wp2
      go_ret
      refine ⟨rfl, ?_, HB.out⟩
      have h5 := HP.out
      rw [List.take_of_length_le (by omega), List.drop_of_length_le (by simp), List.append_nil] at h5
      exact h5

structure ClFit (c : Cl) : Prop where
  l1 : c.ns.length ≤ 1048576
  f1 : ∀ (j : Nat) x, c.ns[j]? = some x → x.zs.length ≤ 1048576
  l2 : c.ks.length ≤ 1048576
  l3 : c.vs.length ≤ 1048576
  f3 : ∀ (j : Nat) x, c.vs[j]? = some x → x.zs.length ≤ 1048576
  l4 : c.xs.length ≤ 1048576
  l5 : c.ps.length ≤ 1048576
  f5 : ∀ (j : Nat) x, c.ps[j]? = some x → x.zs.length ≤ 1048576

set_option maxRecDepth 100000 in
set_option maxHeartbeats 3200000 in
theorem szCluster_any (d : Ad) (c : Cl) (w : World) (hr : ClRow w d c.raw) :
    Calls Tryz.prog 5 #[.agg #[.slice d.a1 d.l1 d.c1, .slice d.a2 d.l2 d.c2, .slice d.a3 d.l3 d.c3, .slice d.a4 d.l4 d.c4, .slice d.a5 d.l5 d.c5, .int .i64 c.now], .int .i64 1048576] w (SzB 1048576 (ClFit c) w) := by
  have HR := hidK hr
  have HB := hidK (Below.refl w.heap.size w)
  clear hr
  go_enter Tryz.func5, Tryz.ntmps5
  go_wp2_with fail
  refine (sznd_any d.a1 d.l1 d.c1 c.ns 1048576 _ (HR.out.n.below (HB.out.trans ((below1 _ _).mono HB.out.size))) (by omega) (by omega)).mono ?_
  rintro e w1 ⟨r1, rfl, hi, hb⟩
  obtain ⟨HA0, hbx⟩ := slots1 hb
  have Bk := hidK HA0
  replace HB := upB HB hbx
  clear hb hbx HA0
  rcases hi with rfl | ⟨hr10, hr11, hz1⟩
  · obtain ⟨k0, k1, k2, k3, k4, k5⟩ := cs6 Bk.out
    have ltk_1 := lt_of_some Bk.out
    go_wp2
    go_ret
    exact ⟨-1, rfl, .inl rfl, HB.out⟩
  have HZ1 := hidK hz1
  clear hz1
  obtain ⟨k0, k1, k2, k3, k4, k5⟩ := cs6 Bk.out
  have ltk_1 := lt_of_some Bk.out
  go_wp2_with fail
  refine (szkd_any d.a2 d.l2 d.c2 c.ks r1 _ (HR.out.k.below HB.out) (by omega) (by omega)).mono ?_
  rintro e w2 ⟨r2, rfl, hi, hb⟩
  clear k0 k1 k2 k3 k4 k5 ltk_1
  replace Bk := upK Bk hb
  replace HB := upB HB hb
  clear hb
  rcases hi with rfl | ⟨hr20, hr21, hz2⟩
  · obtain ⟨k0, k1, k2, k3, k4, k5⟩ := cs6 Bk.out
    have ltk_2 := lt_of_some Bk.out
    go_wp2
    go_ret
    exact ⟨-1, rfl, .inl rfl, HB.out⟩
  have HZ2 := hidK hz2
  clear hz2
  obtain ⟨k0, k1, k2, k3, k4, k5⟩ := cs6 Bk.out
  have ltk_2 := lt_of_some Bk.out
  go_wp2_with fail
  refine (szvd_any d.a3 d.l3 d.c3 c.vs r2 _ (HR.out.v.below HB.out) (by omega) (by omega)).mono ?_
  rintro e w3 ⟨r3, rfl, hi, hb⟩
  clear k0 k1 k2 k3 k4 k5 ltk_2
  replace Bk := upK Bk hb
  replace HB := upB HB hb
  clear hb
  rcases hi with rfl | ⟨hr30, hr31, hz3⟩
  · obtain ⟨k0, k1, k2, k3, k4, k5⟩ := cs6 Bk.out
    have ltk_3 := lt_of_some Bk.out
    go_wp2
    go_ret
    exact ⟨-1, rfl, .inl rfl, HB.out⟩
  have HZ3 := hidK hz3
  clear hz3
  obtain ⟨k0, k1, k2, k3, k4, k5⟩ := cs6 Bk.out
  have ltk_3 := lt_of_some Bk.out
  go_wp2_with fail
  refine (szxd_any d.a4 d.l4 d.c4 c.xs r3 _ (HR.out.x.below HB.out) (by omega) (by omega)).mono ?_
  rintro e w4 ⟨r4, rfl, hi, hb⟩
  clear k0 k1 k2 k3 k4 k5 ltk_3
  replace Bk := upK Bk hb
  replace HB := upB HB hb
  clear hb
  rcases hi with rfl | ⟨hr40, hr41, hz4⟩
  · obtain ⟨k0, k1, k2, k3, k4, k5⟩ := cs6 Bk.out
    have ltk_4 := lt_of_some Bk.out
    go_wp2
    go_ret
    exact ⟨-1, rfl, .inl rfl, HB.out⟩
  have HZ4 := hidK hz4
  clear hz4
  obtain ⟨k0, k1, k2, k3, k4, k5⟩ := cs6 Bk.out
  have ltk_4 := lt_of_some Bk.out
  go_wp2_with fail
  refine (szpd_any d.a5 d.l5 d.c5 c.ps r4 _ (HR.out.p.below HB.out) (by omega) (by omega)).mono ?_
  rintro e w5 ⟨r5, rfl, hi, hb⟩
  clear k0 k1 k2 k3 k4 k5 ltk_4
  replace Bk := upK Bk hb
  replace HB := upB HB hb
  clear hb
  rcases hi with rfl | ⟨hr50, hr51, hz5⟩
  · obtain ⟨k0, k1, k2, k3, k4, k5⟩ := cs6 Bk.out
    have ltk_5 := lt_of_some Bk.out
    go_wp2
    go_ret
    exact ⟨-1, rfl, .inl rfl, HB.out⟩
  have HZ5 := hidK hz5
  clear hz5
  go_wp2
  go_ret
  refine ⟨r5, rfl, .inr ⟨by omega, by omega, ?_⟩, HB.out⟩
  have e1 : c.ns.length = d.l1 := by simpa using (show (c.ns.map ndF).length = d.l1 from HR.out.n.1)
  have e2 : c.ks.length = d.l2 := by simpa using (show (c.ks.map kdF).length = d.l2 from HR.out.k.1)
  have e3 : c.vs.length = d.l3 := by simpa using (show (c.vs.map vdF).length = d.l3 from HR.out.v.1)
  have e4 : c.xs.length = d.l4 := by simpa using (show (c.xs.map xdF).length = d.l4 from HR.out.x.1)
  have e5 : c.ps.length = d.l5 := by simpa using (show (c.ps.map pdF).length = d.l5 from HR.out.p.1)
  exact ⟨by rw [e1]; exact HZ1.out.1, HZ1.out.2, by rw [e2]; exact HZ2.out, by rw [e3]; exact HZ3.out.1, HZ3.out.2, by rw [e4]; exact HZ4.out, by rw [e5]; exact HZ5.out.1, HZ5.out.2⟩

set_option maxRecDepth 100000 in
set_option maxHeartbeats 6400000 in
theorem toCluster_any (d : Ad) (c : Cl) (w : World) (hr : ClRow w d c.raw) (hf : ClFit c) :
    Calls Tryz.prog 7 #[.agg #[.slice d.a1 d.l1 d.c1, .slice d.a2 d.l2 d.c2, .slice d.a3 d.l3 d.c3, .slice d.a4 d.l4 d.c4, .slice d.a5 d.l5 d.c5, .int .i64 c.now]] w fun e w' => ∃ d' : Ad, e = .returned (.agg #[.slice d'.a1 d'.l1 d'.c1, .slice d'.a2 d'.l2 d'.c2, .slice d'.a3 d'.l3 d'.c3, .slice d'.a4 d'.l4 d'.c4, .slice d'.a5 d'.l5 d'.c5, .int .i64 c.now]) ∧ ClOwn w' d' c.raw (fun k => w.heap.size ≤ k) ∧ Below w.heap.size w w' := by
  have HR := hidK hr
  have HF := hidK hf
  have e1 : c.ns.length = d.l1 := by simpa using (show (c.ns.map ndF).length = d.l1 from hr.n.1)
  have hL1 : d.l1 ≤ 1048576 := by rw [← e1]; exact hf.l1
  have e2 : c.ks.length = d.l2 := by simpa using (show (c.ks.map kdF).length = d.l2 from hr.k.1)
  have hL2 : d.l2 ≤ 1048576 := by rw [← e2]; exact hf.l2
  have e3 : c.vs.length = d.l3 := by simpa using (show (c.vs.map vdF).length = d.l3 from hr.v.1)
  have hL3 : d.l3 ≤ 1048576 := by rw [← e3]; exact hf.l3
  have e4 : c.xs.length = d.l4 := by simpa using (show (c.xs.map xdF).length = d.l4 from hr.x.1)
  have hL4 : d.l4 ≤ 1048576 := by rw [← e4]; exact hf.l4
  have e5 : c.ps.length = d.l5 := by simpa using (show (c.ps.map pdF).length = d.l5 from hr.p.1)
  have hL5 : d.l5 ≤ 1048576 := by rw [← e5]; exact hf.l5
  clear hr hf e1 e2 e3 e4 e5
  obtain ⟨X0, hX0⟩ : ∃ X, X = ((w.alloc (.cells #[.slice d.a1 d.l1 d.c1, .slice d.a2 d.l2 d.c2, .slice d.a3 d.l3 d.c3, .slice d.a4 d.l4 d.c4, .slice d.a5 d.l5 d.c5, .int .i64 c.now] 28)).alloc (.cells #[.slice none 0 0, .slice none 0 0, .slice none 0 0, .slice none 0 0, .slice none 0 0, .int .i64 0] 37)).alloc (.cells #[.slice none 0 0, .slice none 0 0, .slice none 0 0, .slice none 0 0, .slice none 0 0, .int .i64 0] 37) := ⟨_, rfl⟩
  have B0 : Hid (Below w.heap.size w X0) := by rw [hX0]; exact below3 _ _ _ _
  have bx0 : Hid (X0.heap[w.heap.size]? = some (.cells #[.slice d.a1 d.l1 d.c1, .slice d.a2 d.l2 d.c2, .slice d.a3 d.l3 d.c3, .slice d.a4 d.l4 d.c4, .slice d.a5 d.l5 d.c5, .int .i64 c.now] 28 (0, 0))) := by rw [hX0]; exact heap3_0 _ _ _ _
  have br0 : Hid (X0.heap[w.heap.size + 1]? = some (.cells #[.slice none 0 0, .slice none 0 0, .slice none 0 0, .slice none 0 0, .slice none 0 0, .int .i64 0] 37 (0, 0))) := by rw [hX0]; exact heap3_1 _ _ _ _
  have bl0 : Hid (X0.heap[w.heap.size + 1 + 1]? = some (.cells #[.slice none 0 0, .slice none 0 0, .slice none 0 0, .slice none 0 0, .slice none 0 0, .int .i64 0] 37 (0, 0))) := by rw [hX0]; exact heap3_2 _ _ _ _
  have hs0 : w.heap.size + 1 + 1 < X0.heap.size := lt_of_some bl0.out
  go_enter Tryz.func7, Tryz.ntmps7
  go_wp2_with fail
  rw [← hX0]
  clear hX0
  refine (tond_any d.a1 d.l1 d.c1 c.ns _ (HR.out.n.below B0.out) hL1 HF.out.f1).mono ?_
  rintro e w1 ⟨rfl, ho, hb⟩
  have hsz1 := hb.size
  have gx := (hb.block _ (lt_of_some bx0.out)).trans bx0.out
  have gr := (hb.block _ (lt_of_some br0.out)).trans br0.out
  have gl := (hb.block _ (lt_of_some bl0.out)).trans bl0.out
  have gB := B0.out.trans (hb.mono B0.out.size)
  have P1 := hidK ho
  clear ho hb bx0 br0 bl0 B0
  have pl : w1.cell? ⟨w.heap.size + 1 + 1, 0, none⟩ = some (.slice none 0 0) := cellK gl 0
  have fl : w1.frozen? ⟨w.heap.size + 1 + 1, 0, none⟩ = false := froK gl 0
  have px : w1.cell? ⟨w.heap.size, 1, none⟩ = some (.slice d.a2 d.l2 d.c2) := cellK gx 1
  obtain ⟨X1, hX1⟩ : ∃ X, X = w1.setCell ⟨w.heap.size + 1 + 1, 0, none⟩ (.slice (some ⟨X0.heap.size, 0, none⟩) d.l1 d.l1) := ⟨_, rfl⟩
  have hxa1 : X1.heap.size ≤ w1.heap.size := by rw [hX1]; simp [World.setCell]
  have hxb1 : w1.heap.size ≤ X1.heap.size := by rw [hX1]; simp [World.setCell]
  have bx1 : Hid (X1.heap[w.heap.size]? = some (.cells #[.slice d.a1 d.l1 d.c1, .slice d.a2 d.l2 d.c2, .slice d.a3 d.l3 d.c3, .slice d.a4 d.l4 d.c4, .slice d.a5 d.l5 d.c5, .int .i64 c.now] 28 (0, 0))) := by rw [hX1]; exact set_keeps (by omega) gx
  have br1 : Hid (X1.heap[w.heap.size + 1]? = some (.cells #[.slice none 0 0, .slice none 0 0, .slice none 0 0, .slice none 0 0, .slice none 0 0, .int .i64 0] 37 (0, 0))) := by rw [hX1]; exact set_keeps (by omega) gr
  have bl1 : Hid (X1.heap[w.heap.size + 1 + 1]? = some (.cells #[.slice (some ⟨X0.heap.size, 0, none⟩) d.l1 d.l1, .slice none 0 0, .slice none 0 0, .slice none 0 0, .slice none 0 0, .int .i64 0] 37 (0, 0))) := by rw [hX1]; have := block_set (i := 0) gl (.slice (some ⟨X0.heap.size, 0, none⟩) d.l1 d.l1); simpa [Hid] using this
  have B1 : Hid (Below w.heap.size w X1) := by rw [hX1]; exact set_below (by omega) gB
  have O1 := hidK (P1.out.keep (w' := X1) (fun k hk s => by rw [hX1]; exact Below.heap_setCell _ _ _ _ (show k ≠ w.heap.size + 1 + 1 by have h9 : X0.heap.size ≤ k := s; omega)) (fun k hk s => (⟨s, hk⟩ : X0.heap.size ≤ k ∧ k < w1.heap.size)))
  clear gx gr gl gB P1
  go_wp2_with fail
  rw [← hX1]
  clear hX1
  clear pl fl px
  refine (tokd_any d.a2 d.l2 d.c2 c.ks _ (HR.out.k.below B1.out) hL2).mono ?_
  rintro e w2 ⟨rfl, ho, hb⟩
  have hsz2 := hb.size
  have gx := (hb.block _ (lt_of_some bx1.out)).trans bx1.out
  have gr := (hb.block _ (lt_of_some br1.out)).trans br1.out
  have gl := (hb.block _ (lt_of_some bl1.out)).trans bl1.out
  have gB := B1.out.trans (hb.mono B1.out.size)
  have P2 := hidK ho
  have Q1 := hidK (O1.out.below hb)
  clear ho hb bx1 br1 bl1 B1 O1
  have pl : w2.cell? ⟨w.heap.size + 1 + 1, 1, none⟩ = some (.slice none 0 0) := cellK gl 1
  have fl : w2.frozen? ⟨w.heap.size + 1 + 1, 1, none⟩ = false := froK gl 1
  have px : w2.cell? ⟨w.heap.size, 2, none⟩ = some (.slice d.a3 d.l3 d.c3) := cellK gx 2
  obtain ⟨X2, hX2⟩ : ∃ X, X = w2.setCell ⟨w.heap.size + 1 + 1, 1, none⟩ (.slice (some ⟨X1.heap.size, 0, none⟩) d.l2 d.l2) := ⟨_, rfl⟩
  have hxa2 : X2.heap.size ≤ w2.heap.size := by rw [hX2]; simp [World.setCell]
  have hxb2 : w2.heap.size ≤ X2.heap.size := by rw [hX2]; simp [World.setCell]
  have bx2 : Hid (X2.heap[w.heap.size]? = some (.cells #[.slice d.a1 d.l1 d.c1, .slice d.a2 d.l2 d.c2, .slice d.a3 d.l3 d.c3, .slice d.a4 d.l4 d.c4, .slice d.a5 d.l5 d.c5, .int .i64 c.now] 28 (0, 0))) := by rw [hX2]; exact set_keeps (by omega) gx
  have br2 : Hid (X2.heap[w.heap.size + 1]? = some (.cells #[.slice none 0 0, .slice none 0 0, .slice none 0 0, .slice none 0 0, .slice none 0 0, .int .i64 0] 37 (0, 0))) := by rw [hX2]; exact set_keeps (by omega) gr
  have bl2 : Hid (X2.heap[w.heap.size + 1 + 1]? = some (.cells #[.slice (some ⟨X0.heap.size, 0, none⟩) d.l1 d.l1, .slice (some ⟨X1.heap.size, 0, none⟩) d.l2 d.l2, .slice none 0 0, .slice none 0 0, .slice none 0 0, .int .i64 0] 37 (0, 0))) := by rw [hX2]; have := block_set (i := 1) gl (.slice (some ⟨X1.heap.size, 0, none⟩) d.l2 d.l2); simpa [Hid] using this
  have B2 : Hid (Below w.heap.size w X2) := by rw [hX2]; exact set_below (by omega) gB
  have O1 := hidK (Q1.out.keep (w' := X2) (fun k hk s => by rw [hX2]; exact Below.heap_setCell _ _ _ _ (show k ≠ w.heap.size + 1 + 1 by have h9 : X0.heap.size ≤ k := s.1; omega)) (fun k hk s => s))
  have O2 := hidK (P2.out.keep (w' := X2) (fun k hk s => by rw [hX2]; exact Below.heap_setCell _ _ _ _ (show k ≠ w.heap.size + 1 + 1 by have h9 : X1.heap.size ≤ k := s; omega)) (fun k hk s => (⟨s, hk⟩ : X1.heap.size ≤ k ∧ k < w2.heap.size)))
  clear gx gr gl gB P2 Q1
  go_wp2_with fail
  rw [← hX2]
  clear hX2
  clear pl fl px
  refine (tovd_any d.a3 d.l3 d.c3 c.vs _ (HR.out.v.below B2.out) hL3 HF.out.f3).mono ?_
  rintro e w3 ⟨rfl, ho, hb⟩
  have hsz3 := hb.size
  have gx := (hb.block _ (lt_of_some bx2.out)).trans bx2.out
  have gr := (hb.block _ (lt_of_some br2.out)).trans br2.out
  have gl := (hb.block _ (lt_of_some bl2.out)).trans bl2.out
  have gB := B2.out.trans (hb.mono B2.out.size)
  have P3 := hidK ho
  have Q1 := hidK (O1.out.below hb)
  have Q2 := hidK (O2.out.below hb)
  clear ho hb bx2 br2 bl2 B2 O1 O2
  have pl : w3.cell? ⟨w.heap.size + 1 + 1, 2, none⟩ = some (.slice none 0 0) := cellK gl 2
  have fl : w3.frozen? ⟨w.heap.size + 1 + 1, 2, none⟩ = false := froK gl 2
  have px : w3.cell? ⟨w.heap.size, 3, none⟩ = some (.slice d.a4 d.l4 d.c4) := cellK gx 3
  obtain ⟨X3, hX3⟩ : ∃ X, X = w3.setCell ⟨w.heap.size + 1 + 1, 2, none⟩ (.slice (some ⟨X2.heap.size, 0, none⟩) d.l3 d.l3) := ⟨_, rfl⟩
  have hxa3 : X3.heap.size ≤ w3.heap.size := by rw [hX3]; simp [World.setCell]
  have hxb3 : w3.heap.size ≤ X3.heap.size := by rw [hX3]; simp [World.setCell]
  have bx3 : Hid (X3.heap[w.heap.size]? = some (.cells #[.slice d.a1 d.l1 d.c1, .slice d.a2 d.l2 d.c2, .slice d.a3 d.l3 d.c3, .slice d.a4 d.l4 d.c4, .slice d.a5 d.l5 d.c5, .int .i64 c.now] 28 (0, 0))) := by rw [hX3]; exact set_keeps (by omega) gx
  have br3 : Hid (X3.heap[w.heap.size + 1]? = some (.cells #[.slice none 0 0, .slice none 0 0, .slice none 0 0, .slice none 0 0, .slice none 0 0, .int .i64 0] 37 (0, 0))) := by rw [hX3]; exact set_keeps (by omega) gr
  have bl3 : Hid (X3.heap[w.heap.size + 1 + 1]? = some (.cells #[.slice (some ⟨X0.heap.size, 0, none⟩) d.l1 d.l1, .slice (some ⟨X1.heap.size, 0, none⟩) d.l2 d.l2, .slice (some ⟨X2.heap.size, 0, none⟩) d.l3 d.l3, .slice none 0 0, .slice none 0 0, .int .i64 0] 37 (0, 0))) := by rw [hX3]; have := block_set (i := 2) gl (.slice (some ⟨X2.heap.size, 0, none⟩) d.l3 d.l3); simpa [Hid] using this
  have B3 : Hid (Below w.heap.size w X3) := by rw [hX3]; exact set_below (by omega) gB
  have O1 := hidK (Q1.out.keep (w' := X3) (fun k hk s => by rw [hX3]; exact Below.heap_setCell _ _ _ _ (show k ≠ w.heap.size + 1 + 1 by have h9 : X0.heap.size ≤ k := s.1; omega)) (fun k hk s => s))
  have O2 := hidK (Q2.out.keep (w' := X3) (fun k hk s => by rw [hX3]; exact Below.heap_setCell _ _ _ _ (show k ≠ w.heap.size + 1 + 1 by have h9 : X1.heap.size ≤ k := s.1; omega)) (fun k hk s => s))
  have O3 := hidK (P3.out.keep (w' := X3) (fun k hk s => by rw [hX3]; exact Below.heap_setCell _ _ _ _ (show k ≠ w.heap.size + 1 + 1 by have h9 : X2.heap.size ≤ k := s; omega)) (fun k hk s => (⟨s, hk⟩ : X2.heap.size ≤ k ∧ k < w3.heap.size)))
  clear gx gr gl gB P3 Q1 Q2
  go_wp2_with fail
  rw [← hX3]
  clear hX3
  clear pl fl px
  refine (toxd_any d.a4 d.l4 d.c4 c.xs _ (HR.out.x.below B3.out) hL4).mono ?_
  rintro e w4 ⟨rfl, ho, hb⟩
  have hsz4 := hb.size
  have gx := (hb.block _ (lt_of_some bx3.out)).trans bx3.out
  have gr := (hb.block _ (lt_of_some br3.out)).trans br3.out
  have gl := (hb.block _ (lt_of_some bl3.out)).trans bl3.out
  have gB := B3.out.trans (hb.mono B3.out.size)
  have P4 := hidK ho
  have Q1 := hidK (O1.out.below hb)
  have Q2 := hidK (O2.out.below hb)
  have Q3 := hidK (O3.out.below hb)
  clear ho hb bx3 br3 bl3 B3 O1 O2 O3
  have pl : w4.cell? ⟨w.heap.size + 1 + 1, 3, none⟩ = some (.slice none 0 0) := cellK gl 3
  have fl : w4.frozen? ⟨w.heap.size + 1 + 1, 3, none⟩ = false := froK gl 3
  have px : w4.cell? ⟨w.heap.size, 4, none⟩ = some (.slice d.a5 d.l5 d.c5) := cellK gx 4
  obtain ⟨X4, hX4⟩ : ∃ X, X = w4.setCell ⟨w.heap.size + 1 + 1, 3, none⟩ (.slice (some ⟨X3.heap.size, 0, none⟩) d.l4 d.l4) := ⟨_, rfl⟩
  have hxa4 : X4.heap.size ≤ w4.heap.size := by rw [hX4]; simp [World.setCell]
  have hxb4 : w4.heap.size ≤ X4.heap.size := by rw [hX4]; simp [World.setCell]
  have bx4 : Hid (X4.heap[w.heap.size]? = some (.cells #[.slice d.a1 d.l1 d.c1, .slice d.a2 d.l2 d.c2, .slice d.a3 d.l3 d.c3, .slice d.a4 d.l4 d.c4, .slice d.a5 d.l5 d.c5, .int .i64 c.now] 28 (0, 0))) := by rw [hX4]; exact set_keeps (by omega) gx
  have br4 : Hid (X4.heap[w.heap.size + 1]? = some (.cells #[.slice none 0 0, .slice none 0 0, .slice none 0 0, .slice none 0 0, .slice none 0 0, .int .i64 0] 37 (0, 0))) := by rw [hX4]; exact set_keeps (by omega) gr
  have bl4 : Hid (X4.heap[w.heap.size + 1 + 1]? = some (.cells #[.slice (some ⟨X0.heap.size, 0, none⟩) d.l1 d.l1, .slice (some ⟨X1.heap.size, 0, none⟩) d.l2 d.l2, .slice (some ⟨X2.heap.size, 0, none⟩) d.l3 d.l3, .slice (some ⟨X3.heap.size, 0, none⟩) d.l4 d.l4, .slice none 0 0, .int .i64 0] 37 (0, 0))) := by rw [hX4]; have := block_set (i := 3) gl (.slice (some ⟨X3.heap.size, 0, none⟩) d.l4 d.l4); simpa [Hid] using this
  have B4 : Hid (Below w.heap.size w X4) := by rw [hX4]; exact set_below (by omega) gB
  have O1 := hidK (Q1.out.keep (w' := X4) (fun k hk s => by rw [hX4]; exact Below.heap_setCell _ _ _ _ (show k ≠ w.heap.size + 1 + 1 by have h9 : X0.heap.size ≤ k := s.1; omega)) (fun k hk s => s))
  have O2 := hidK (Q2.out.keep (w' := X4) (fun k hk s => by rw [hX4]; exact Below.heap_setCell _ _ _ _ (show k ≠ w.heap.size + 1 + 1 by have h9 : X1.heap.size ≤ k := s.1; omega)) (fun k hk s => s))
  have O3 := hidK (Q3.out.keep (w' := X4) (fun k hk s => by rw [hX4]; exact Below.heap_setCell _ _ _ _ (show k ≠ w.heap.size + 1 + 1 by have h9 : X2.heap.size ≤ k := s.1; omega)) (fun k hk s => s))
  have O4 := hidK (P4.out.keep (w' := X4) (fun k hk s => by rw [hX4]; exact Below.heap_setCell _ _ _ _ (show k ≠ w.heap.size + 1 + 1 by have h9 : X3.heap.size ≤ k := s; omega)) (fun k hk s => (⟨s, hk⟩ : X3.heap.size ≤ k ∧ k < w4.heap.size)))
  clear gx gr gl gB P4 Q1 Q2 Q3
  go_wp2_with fail
  rw [← hX4]
  clear hX4
  clear pl fl px
  refine (topd_any d.a5 d.l5 d.c5 c.ps _ (HR.out.p.below B4.out) hL5 HF.out.f5).mono ?_
  rintro e w5 ⟨rfl, ho, hb⟩
  have hsz5 := hb.size
  have gx := (hb.block _ (lt_of_some bx4.out)).trans bx4.out
  have gr := (hb.block _ (lt_of_some br4.out)).trans br4.out
  have gl := (hb.block _ (lt_of_some bl4.out)).trans bl4.out
  have gB := B4.out.trans (hb.mono B4.out.size)
  have P5 := hidK ho
  have Q1 := hidK (O1.out.below hb)
  have Q2 := hidK (O2.out.below hb)
  have Q3 := hidK (O3.out.below hb)
  have Q4 := hidK (O4.out.below hb)
  clear ho hb bx4 br4 bl4 B4 O1 O2 O3 O4
  have l4 : w5.cell? ⟨w.heap.size + 1 + 1, 4, none⟩ = some (.slice none 0 0) := cellK gl 4
  have l5 : w5.cell? ⟨w.heap.size + 1 + 1, 5, none⟩ = some (.int .i64 0) := cellK gl 5
  have l0 : w5.cell? ⟨w.heap.size + 1 + 1, 0, none⟩ = some (.slice (some ⟨X0.heap.size, 0, none⟩) d.l1 d.l1) := cellK gl 0
  have l1 : w5.cell? ⟨w.heap.size + 1 + 1, 1, none⟩ = some (.slice (some ⟨X1.heap.size, 0, none⟩) d.l2 d.l2) := cellK gl 1
  have l2 : w5.cell? ⟨w.heap.size + 1 + 1, 2, none⟩ = some (.slice (some ⟨X2.heap.size, 0, none⟩) d.l3 d.l3) := cellK gl 2
  have l3 : w5.cell? ⟨w.heap.size + 1 + 1, 3, none⟩ = some (.slice (some ⟨X3.heap.size, 0, none⟩) d.l4 d.l4) := cellK gl 3
  have fl0 : w5.frozen? ⟨w.heap.size + 1 + 1, 0, none⟩ = false := froK gl 0
  have r0 : w5.cell? ⟨w.heap.size + 1, 0, none⟩ = some (.slice none 0 0) := cellK gr 0
  have fr0 : w5.frozen? ⟨w.heap.size + 1, 0, none⟩ = false := froK gr 0
  have fl1 : w5.frozen? ⟨w.heap.size + 1 + 1, 1, none⟩ = false := froK gl 1
  have r1 : w5.cell? ⟨w.heap.size + 1, 1, none⟩ = some (.slice none 0 0) := cellK gr 1
  have fr1 : w5.frozen? ⟨w.heap.size + 1, 1, none⟩ = false := froK gr 1
  have fl2 : w5.frozen? ⟨w.heap.size + 1 + 1, 2, none⟩ = false := froK gl 2
  have r2 : w5.cell? ⟨w.heap.size + 1, 2, none⟩ = some (.slice none 0 0) := cellK gr 2
  have fr2 : w5.frozen? ⟨w.heap.size + 1, 2, none⟩ = false := froK gr 2
  have fl3 : w5.frozen? ⟨w.heap.size + 1 + 1, 3, none⟩ = false := froK gl 3
  have r3 : w5.cell? ⟨w.heap.size + 1, 3, none⟩ = some (.slice none 0 0) := cellK gr 3
  have fr3 : w5.frozen? ⟨w.heap.size + 1, 3, none⟩ = false := froK gr 3
  have fl4 : w5.frozen? ⟨w.heap.size + 1 + 1, 4, none⟩ = false := froK gl 4
  have r4 : w5.cell? ⟨w.heap.size + 1, 4, none⟩ = some (.slice none 0 0) := cellK gr 4
  have fr4 : w5.frozen? ⟨w.heap.size + 1, 4, none⟩ = false := froK gr 4
  have fl5 : w5.frozen? ⟨w.heap.size + 1 + 1, 5, none⟩ = false := froK gl 5
  have r5 : w5.cell? ⟨w.heap.size + 1, 5, none⟩ = some (.int .i64 0) := cellK gr 5
  have fr5 : w5.frozen? ⟨w.heap.size + 1, 5, none⟩ = false := froK gr 5
  have px : w5.cell? ⟨w.heap.size, 5, none⟩ = some (.int .i64 c.now) := cellK gx 5
  have GB := hidK gB
  clear gx gr gl gB
  go_wp2
  refine bodyPost_ret (v := .agg #[.slice (some ⟨X0.heap.size, 0, none⟩) d.l1 d.l1, .slice (some ⟨X1.heap.size, 0, none⟩) d.l2 d.l2, .slice (some ⟨X2.heap.size, 0, none⟩) d.l3 d.l3, .slice (some ⟨X3.heap.size, 0, none⟩) d.l4 d.l4, .slice (some ⟨X4.heap.size, 0, none⟩) d.l5 d.l5, .int .i64 c.now]) (by simp [results, Tryz.results7, go_sem, *]) rfl ⟨⟨some ⟨X0.heap.size, 0, none⟩, d.l1, d.l1, some ⟨X1.heap.size, 0, none⟩, d.l2, d.l2, some ⟨X2.heap.size, 0, none⟩, d.l3, d.l3, some ⟨X3.heap.size, 0, none⟩, d.l4, d.l4, some ⟨X4.heap.size, 0, none⟩, d.l5, d.l5⟩, rfl, ?_, set_below (show w.heap.size ≤ w.heap.size + 1 by omega) (set_below (show w.heap.size ≤ w.heap.size + 1 by omega) (set_below (show w.heap.size ≤ w.heap.size + 1 by omega) (set_below (show w.heap.size ≤ w.heap.size + 1 by omega) (set_below (show w.heap.size ≤ w.heap.size + 1 by omega) (set_below (show w.heap.size ≤ w.heap.size + 1 by omega) (set_below (show w.heap.size ≤ w.heap.size + 1 + 1 by omega) (set_below (show w.heap.size ≤ w.heap.size + 1 + 1 by omega) (GB.out))))))))⟩
  have keep : ∀ k, w.heap.size + 1 + 1 < k → ∀ (W : World), True → (W.heap[k]? = W.heap[k]?) := fun _ _ _ _ => rfl
  clear keep
  have same : ∀ k, w.heap.size + 1 + 1 < k → ((((((((w5.setCell ⟨w.heap.size + 1 + 1, 4, none⟩ (.slice (some ⟨X4.heap.size, 0, none⟩) d.l5 d.l5)).setCell ⟨w.heap.size + 1 + 1, 5, none⟩ (.int .i64 c.now)).setCell ⟨w.heap.size + 1, 0, none⟩ (.slice (some ⟨X0.heap.size, 0, none⟩) d.l1 d.l1)).setCell ⟨w.heap.size + 1, 1, none⟩ (.slice (some ⟨X1.heap.size, 0, none⟩) d.l2 d.l2)).setCell ⟨w.heap.size + 1, 2, none⟩ (.slice (some ⟨X2.heap.size, 0, none⟩) d.l3 d.l3)).setCell ⟨w.heap.size + 1, 3, none⟩ (.slice (some ⟨X3.heap.size, 0, none⟩) d.l4 d.l4)).setCell ⟨w.heap.size + 1, 4, none⟩ (.slice (some ⟨X4.heap.size, 0, none⟩) d.l5 d.l5)).setCell ⟨w.heap.size + 1, 5, none⟩ (.int .i64 c.now)).heap[k]? = w5.heap[k]? := fun k hk => by
    rw [Below.heap_setCell _ _ _ _ (show k ≠ w.heap.size + 1 by omega), Below.heap_setCell _ _ _ _ (show k ≠ w.heap.size + 1 by omega), Below.heap_setCell _ _ _ _ (show k ≠ w.heap.size + 1 by omega), Below.heap_setCell _ _ _ _ (show k ≠ w.heap.size + 1 by omega), Below.heap_setCell _ _ _ _ (show k ≠ w.heap.size + 1 by omega), Below.heap_setCell _ _ _ _ (show k ≠ w.heap.size + 1 by omega), Below.heap_setCell _ _ _ _ (show k ≠ w.heap.size + 1 + 1 by omega), Below.heap_setCell _ _ _ _ (show k ≠ w.heap.size + 1 + 1 by omega)]
  refine ⟨fun k => if k < w1.heap.size then 1 else if k < w2.heap.size then 2 else if k < w3.heap.size then 3 else if k < w4.heap.size then 4 else 5, ?_, ?_, ?_, ?_, ?_⟩
  · refine Q1.out.keep (fun k hk s => same k (by have h9 : X0.heap.size ≤ k := s.1; omega)) (fun k hk s => ⟨?_, ?_⟩)
    · have h9 : X0.heap.size ≤ k := s.1
      show w.heap.size ≤ k
      omega
    · have h9 : X0.heap.size ≤ k := s.1
      have h8 : k < w1.heap.size := s.2
      show (if k < w1.heap.size then 1 else if k < w2.heap.size then 2 else if k < w3.heap.size then 3 else if k < w4.heap.size then 4 else 5) = 1
      rw [if_pos h8]
  · refine Q2.out.keep (fun k hk s => same k (by have h9 : X1.heap.size ≤ k := s.1; omega)) (fun k hk s => ⟨?_, ?_⟩)
    · have h9 : X1.heap.size ≤ k := s.1
      show w.heap.size ≤ k
      omega
    · have h9 : X1.heap.size ≤ k := s.1
      have h8 : k < w2.heap.size := s.2
      show (if k < w1.heap.size then 1 else if k < w2.heap.size then 2 else if k < w3.heap.size then 3 else if k < w4.heap.size then 4 else 5) = 2
      rw [if_neg (by omega)]; rw [if_pos h8]
  · refine Q3.out.keep (fun k hk s => same k (by have h9 : X2.heap.size ≤ k := s.1; omega)) (fun k hk s => ⟨?_, ?_⟩)
    · have h9 : X2.heap.size ≤ k := s.1
      show w.heap.size ≤ k
      omega
    · have h9 : X2.heap.size ≤ k := s.1
      have h8 : k < w3.heap.size := s.2
      show (if k < w1.heap.size then 1 else if k < w2.heap.size then 2 else if k < w3.heap.size then 3 else if k < w4.heap.size then 4 else 5) = 3
      rw [if_neg (by omega)]; rw [if_neg (by omega)]; rw [if_pos h8]
  · refine Q4.out.keep (fun k hk s => same k (by have h9 : X3.heap.size ≤ k := s.1; omega)) (fun k hk s => ⟨?_, ?_⟩)
    · have h9 : X3.heap.size ≤ k := s.1
      show w.heap.size ≤ k
      omega
    · have h9 : X3.heap.size ≤ k := s.1
      have h8 : k < w4.heap.size := s.2
      show (if k < w1.heap.size then 1 else if k < w2.heap.size then 2 else if k < w3.heap.size then 3 else if k < w4.heap.size then 4 else 5) = 4
      rw [if_neg (by omega)]; rw [if_neg (by omega)]; rw [if_neg (by omega)]; rw [if_pos h8]
  · refine P5.out.keep (fun k hk s => same k (by have h9 : X4.heap.size ≤ k := s; omega)) (fun k hk s => ⟨?_, ?_⟩)
    · have h9 : X4.heap.size ≤ k := s
      show w.heap.size ≤ k
      omega
    · have h9 : X4.heap.size ≤ k := s
      show (if k < w1.heap.size then 1 else if k < w2.heap.size then 2 else if k < w3.heap.size then 3 else if k < w4.heap.size then 4 else 5) = 5
      rw [if_neg (by omega)]; rw [if_neg (by omega)]; rw [if_neg (by omega)]; rw [if_neg (by omega)]; skip

def LFr (w : World) (h : Nat) (S : Nat → Prop) (zs : List ByteArray) (v : Value) : Prop :=
  ∃ a len cap, v = .slice a len cap ∧ zs.length = len ∧ len ≤ cap ∧ cap ≤ 9223372036854775807 ∧ (∀ (j : Nat) x, zs[j]? = some x → x.size ≤ 9223372036854775807) ∧
    (zs = [] ∨ (a = some ⟨h, 0, none⟩ ∧ S h ∧ ∃ cu, w.heap[h]? = some (.cells cu 9 (0, 0)) ∧ ∀ (j : Nat) x, zs[j]? = some x → cu[j]? = some (.string x)))
theorem LFr.keep {w w' : World} {h : Nat} {S S' : Nat → Prop} {zs : List ByteArray} {v : Value} (k : LFr w h S zs v) (hk : ∀ cu, S h → w.heap[h]? = some (.cells cu 9 (0, 0)) → w'.heap[h]? = w.heap[h]?) (hs : h < w.heap.size → S h → S' h) : LFr w' h S' zs v := by
  obtain ⟨a', l', c', h1, h2, h3, h4, h5, h6⟩ := k
  refine ⟨a', l', c', h1, h2, h3, h4, h5, h6.imp id ?_⟩
  rintro ⟨q1, q2, cu, q4, q5⟩
  exact ⟨q1, hs (lt_of_some q4) q2, cu, (hk cu q2 q4).trans q4, q5⟩
theorem LFr.row {w : World} {h : Nat} {S : Nat → Prop} {zs : List ByteArray} {a : Option Addr} {len cap : Nat} (k : LFr w h S zs (.slice a len cap)) : TxRow w a len cap zs := by
  obtain ⟨a', l', c', h1, h2, h3, h4, h5, h6⟩ := k
  cases h1
  refine ⟨h2, h3, h4, h5, h6.imp id ?_⟩
  rintro ⟨q1, q2, cu, q4, q5⟩
  exact ⟨h, 0, q1, lt_of_some q4, fun j x hx => by rw [Nat.zero_add, cellK q4]; exact q5 j x hx⟩
def Fv.Fr (w : World) (h : Nat) (S : Nat → Prop) : Fv → Value → Prop
  | .s t, v => v = .string t ∧ t.size ≤ 9223372036854775807
  | .i n, v => v = .int .i64 n
  | .b x, v => v = .bool x
  | .l zs, v => LFr w h S zs v
theorem Fv.Fr.keep {w w' : World} {h : Nat} {S S' : Nat → Prop} {f : Fv} {v : Value} (k : f.Fr w h S v) (hk : ∀ cu, S h → w.heap[h]? = some (.cells cu 9 (0, 0)) → w'.heap[h]? = w.heap[h]?) (hs : h < w.heap.size → S h → S' h) : f.Fr w' h S' v := by
  cases f with
  | l zs => exact LFr.keep k hk hs
  | _ => exact k
theorem Fv.Fr.own {w : World} {h g : Nat} {S : Nat → Prop} {f : Fv} {v : Value} {cur : Array Value} {T : TypeId} (k : f.Fr w h S v) (hg : w.heap[g]? = some (.cells cur T (0, 0))) (hT : ¬ T = 9) : f.Own w h S g v := by
  cases f with
  | l zs =>
    obtain ⟨a', l', c', h1, h2, h3, h4, h5, h6⟩ := k
    refine ⟨a', l', c', h1, h2, h3, h4, h5, h6.imp id ?_⟩
    rintro ⟨q1, q2, cu, q4, q5⟩
    refine ⟨q1, q2, ?_, cu, q4, q5⟩
    rintro rfl
    rw [hg] at q4
    cases q4
    exact hT rfl
  | _ => exact k
theorem Fv.Own.fr {w : World} {h g : Nat} {S : Nat → Prop} {f : Fv} {v : Value} (k : f.Own w h S g v) : f.Fr w h S v := by
  cases f with
  | l zs =>
    obtain ⟨a', l', c', h1, h2, h3, h4, h5, h6⟩ := k
    refine ⟨a', l', c', h1, h2, h3, h4, h5, h6.imp id ?_⟩
    rintro ⟨q1, q2, q3, cu, q4, q5⟩
    exact ⟨q1, q2, cu, q4, q5⟩
  | _ => exact k
theorem Fv.Fr.one {w : World} {h : Nat} {S : Nat → Prop} {f : Fv} {v : Value} (k : f.Fr w h S v) : v.oneCell' = true := by
  cases f with
  | l zs => obtain ⟨a', l', c', rfl, _⟩ := k; rfl
  | s t => obtain ⟨rfl, _⟩ := k; rfl
  | i n => cases (show v = .int .i64 n from k); rfl
  | b x => cases (show v = .bool x from k); rfl

structure VRecs (w : World) (S : Nat → Prop) (m : Nat) (rs : List (List Fv)) (vss : List (List Value)) (H : Nat → Nat → Nat) : Prop where
  len : vss.length = rs.length
  all : ∀ (j : Nat) vs, vss[j]? = some vs → vs.length = m
  rl : ∀ (j : Nat) r, rs[j]? = some r → r.length = m
  cell : ∀ (j : Nat) r vs, rs[j]? = some r → vss[j]? = some vs → ∀ (i : Nat) f, r[i]? = some f → ∃ v, vs[i]? = some v ∧ f.Fr w (H j i) S v
  inj : ∀ (j : Nat) r (i : Nat) zs (j' : Nat) r' (i' : Nat) zs', rs[j]? = some r → r[i]? = some (.l zs) → zs ≠ [] → rs[j']? = some r' → r'[i']? = some (.l zs') → zs' ≠ [] → H j i = H j' i' → j = j' ∧ i = i'

section
variable {w w' : World} {S S' : Nat → Prop} {m : Nat} {rs : List (List Fv)} {vss : List (List Value)} {H : Nat → Nat → Nat}
theorem VRecs.nil (w : World) (S : Nat → Prop) (m : Nat) (H : Nat → Nat → Nat) : VRecs w S m [] [] H := ⟨rfl, fun j vs h => by simp at h, fun j r h => by simp at h, fun j r vs h => by simp at h, fun j r i zs j' r' i' zs' h => by simp at h⟩
theorem VRecs.keep (h : VRecs w S m rs vss H) (hk : ∀ k cu, S k → w.heap[k]? = some (.cells cu 9 (0, 0)) → w'.heap[k]? = w.heap[k]?) (hs : ∀ k, k < w.heap.size → S k → S' k) : VRecs w' S' m rs vss H :=
  ⟨h.len, h.all, h.rl, fun j r vs h1 h2 i f h3 => by
    obtain ⟨v, h4, h5⟩ := h.cell j r vs h1 h2 i f h3
    exact ⟨v, h4, h5.keep (hk _) (hs _)⟩, h.inj⟩
theorem VRecs.grown (h : VRecs w S m rs vss H) {base n : Nat} {T : TypeId} {v : Value} {xs : List Value} (ho : w.ownsRow base T m v n xs) (hT : ¬ T = 9) (hg : w.grownBy w' v.ownBlock) : VRecs w' S m rs vss H := by
  refine h.keep (fun k cu _ q => hg.block k (lt_of_some q) (fun e => ?_)) (fun _ _ s => s)
  rcases ho.2 with ⟨rfl, _⟩ | ⟨g, cap, cur, rfl, _, hgg, _⟩
  · cases e
  · cases e
    simp only [] at q
    rw [hgg] at q
    cases q
    exact hT rfl
theorem VRecs.push (h : VRecs w S m rs vss H) {r : List Fv} {vs : List Value} {hh : Nat → Nat} (hr : r.length = m) (hvs : vs.length = m) (hc : ∀ (i : Nat) f, r[i]? = some f → ∃ v, vs[i]? = some v ∧ f.Fr w (hh i) S v)
    (hn : ∀ (i : Nat) zs, r[i]? = some (.l zs) → zs ≠ [] → ∀ (j : Nat) r' (i' : Nat) zs', rs[j]? = some r' → r'[i']? = some (.l zs') → zs' ≠ [] → ¬ H j i' = hh i)
    (h1 : ∀ (i i' : Nat) zs zs', r[i]? = some (.l zs) → zs ≠ [] → r[i']? = some (.l zs') → zs' ≠ [] → i = i') :
    VRecs w S m (rs ++ [r]) (vss ++ [vs]) (fun j => if j = rs.length then hh else H j) := by
  have at1 : ∀ {α : Type} {l : List α} {x y : α} {j : Nat}, (l ++ [x])[j]? = some y → (j = l.length ∧ y = x) ∨ (j < l.length ∧ l[j]? = some y) := by
    intro α l x y j hj
    by_cases e : j < l.length
    · rw [List.getElem?_append_left e] at hj; exact .inr ⟨e, hj⟩
    · rw [List.getElem?_append_right (by omega)] at hj
      rcases Nat.eq_zero_or_pos (j - l.length) with e0 | e0
      · rw [e0] at hj; exact .inl ⟨by omega, by simpa using hj.symm⟩
      · rw [List.getElem?_eq_none (by simp; omega)] at hj; cases hj
  refine ⟨by simp [h.len], fun j v hv => ?_, fun j r' hj => ?_, fun j r' v hj hv i f hf => ?_, fun j r1 i zs j' r2 i' zs' a1 a2 a3 b1 b2 b3 e => ?_⟩
  · rcases at1 hv with ⟨_, rfl⟩ | ⟨_, hv⟩
    · exact hvs
    · exact h.all j v hv
  · rcases at1 hj with ⟨_, rfl⟩ | ⟨_, hj⟩
    · exact hr
    · exact h.rl j r' hj
  · rcases at1 hj with ⟨e1, rfl⟩ | ⟨e1, hj⟩
    · rcases at1 hv with ⟨_, rfl⟩ | ⟨e2, hv⟩
      · simp only [e1, if_true]; exact hc i f hf
      · have := h.len; omega
    · rcases at1 hv with ⟨e2, rfl⟩ | ⟨e2, hv⟩
      · have := h.len; omega
      · simp only [if_neg (show ¬ j = rs.length by omega)]
        exact h.cell j r' v hj hv i f hf
  · rcases at1 a1 with ⟨e1, rfl⟩ | ⟨e1, a4⟩ <;> rcases at1 b1 with ⟨e2, rfl⟩ | ⟨e2, b4⟩
    · exact ⟨by omega, h1 _ _ _ _ a2 a3 b2 b3⟩
    · simp only [e1, if_true, if_neg (show ¬ j' = rs.length by omega)] at e
      exact absurd e.symm (hn i zs a2 a3 j' r2 i' zs' b4 b2 b3)
    · simp only [e2, if_true, if_neg (show ¬ j = rs.length by omega)] at e
      exact absurd e (hn i' zs' b2 b3 j r1 i zs a4 a2 a3)
    · simp only [if_neg (show ¬ j = rs.length by omega), if_neg (show ¬ j' = rs.length by omega)] at e
      exact h.inj j r1 i zs j' r2 i' zs' a4 a2 a3 b4 b2 b3 e
end

theorem flat_at {α : Type} {m : Nat} : ∀ {vss : List (List α)}, (∀ (j : Nat) vs, vss[j]? = some vs → vs.length = m) → ∀ {j : Nat} {vs : List α} {i : Nat} {u : α}, vss[j]? = some vs → vs[i]? = some u → vss.flatten[j * m + i]? = some u
  | [], _, j, vs, i, u, h, _ => by simp at h
  | x :: vss, hl, 0, vs, i, u, h, hu => by
    obtain rfl : x = vs := by simpa using h
    have hx := hl 0 x rfl
    have hi := (List.getElem?_eq_some_iff.1 hu).1
    rw [List.flatten_cons, List.getElem?_append_left (by omega), Nat.zero_mul, Nat.zero_add]
    exact hu
  | x :: vss, hl, j + 1, vs, i, u, h, hu => by
    have hx := hl 0 x rfl
    rw [List.flatten_cons, List.getElem?_append_right (by rw [hx, Nat.succ_mul]; omega), hx, show (j + 1) * m + i - m = j * m + i by rw [Nat.succ_mul]; omega]
    exact flat_at (fun j' vs' h' => hl (j' + 1) vs' (by simpa using h')) (by simpa using h) hu
theorem flat_inv {α : Type} {m : Nat} : ∀ {vss : List (List α)}, (∀ (j : Nat) vs, vss[j]? = some vs → vs.length = m) → ∀ {k : Nat} {u : α}, vss.flatten[k]? = some u → ∃ (j i : Nat) (vs : List α), vss[j]? = some vs ∧ vs[i]? = some u ∧ k = j * m + i
  | [], _, k, u, h => by simp at h
  | x :: vss, hl, k, u, h => by
    have hx := hl 0 x rfl
    rw [List.flatten_cons] at h
    by_cases e : k < m
    · rw [List.getElem?_append_left (by omega)] at h
      exact ⟨0, k, x, rfl, h, by omega⟩
    · rw [List.getElem?_append_right (by omega), hx] at h
      obtain ⟨j, i, vs, h1, h2, h3⟩ := flat_inv (fun j' vs' h' => hl (j' + 1) vs' (by simpa using h')) h
      exact ⟨j + 1, i, vs, by simpa using h1, h2, by rw [Nat.succ_mul]; omega⟩
theorem VRecs.one {w : World} {S : Nat → Prop} {m : Nat} {rs : List (List Fv)} {vss : List (List Value)} {H : Nat → Nat → Nat} (h : VRecs w S m rs vss H) : ∀ u ∈ vss.flatten, u.oneCell' = true := by
  intro u hu
  obtain ⟨k, hk, rfl⟩ := List.mem_iff_getElem.1 hu
  obtain ⟨j, i, vs, h1, h2, _⟩ := flat_inv h.all (List.getElem?_eq_getElem hk)
  have hj : j < rs.length := by rw [← h.len]; exact (List.getElem?_eq_some_iff.1 h1).1
  have hr := List.getElem?_eq_getElem hj
  have hi : i < (rs[j]).length := by rw [h.rl j _ hr, ← h.all j vs h1]; exact (List.getElem?_eq_some_iff.1 h2).1
  obtain ⟨v, h3, h4⟩ := h.cell j _ vs hr h1 i _ (List.getElem?_eq_getElem hi)
  rw [h2] at h3
  cases h3
  exact h4.one

theorem VRecs.own {w : World} {S : Nat → Prop} {m : Nat} {T : TypeId} {rs : List (List Fv)} {vss : List (List Value)} {H : Nat → Nat → Nat} (h : VRecs w S m rs vss H) {base n : Nat} {v : Value} (ho : w.ownsRow base T m v n vss.flatten) (hn : n = rs.length) (hT : ¬ T = 9) (hS : ∀ g, v.ownBlock = some g → S g) :
    ∃ a cap, v = .slice a rs.length cap ∧ ROwn w a rs.length cap m T rs S := by
  subst hn
  rcases ho.2 with ⟨rfl, h0⟩ | ⟨g, cap, cur, rfl, _, hgg, h1, h2, h3, h4⟩
  · obtain rfl : rs = [] := List.eq_nil_of_length_eq_zero h0
    exact ⟨none, 0, rfl, ROwn.nil _ _ _ _ _ (by omega)⟩
  · refine ⟨_, cap, rfl, rfl, h1, by unfold maxLen at h2; omega, .inr ⟨g, cur, H, rfl, hgg, hS g rfl, h.rl, fun j r hj i f hi => ?_, h.inj⟩⟩
    have hjl : j < vss.length := by rw [h.len]; exact (List.getElem?_eq_some_iff.1 hj).1
    have hv := List.getElem?_eq_getElem hjl
    obtain ⟨u, h5, h6⟩ := h.cell j r _ hj hv i f hi
    have h7 := flat_at h.all hv h5
    rw [← h4, List.getElem?_take] at h7
    split at h7
    · exact ⟨u, by simpa using h7, h6.own hgg hT⟩
    · cases h7

def Bw (y W : World) : Prop := Below y.heap.size y W
theorem Bw.kept {y W W' : World} {S : Nat → Prop} (h : Bw y W) (hk : KeptS S W W') (hs : ∀ k, S k → y.heap.size ≤ k) : Bw y W' := Below.trans h (hk.low (Below.size h) hs)
theorem Bw.out {y W : World} (h : Bw y W) : Below y.heap.size y W := h
def TOwn (w : World) (a : Option Addr) (l c : Nat) (zs : List ByteArray) (S : Nat → Prop) : Prop :=
  TxRow w a l c zs ∧ (zs = [] ∨ ∃ g cur, a = some ⟨g, 0, none⟩ ∧ S g ∧ w.heap[g]? = some (.cells cur 9 (0, 0)))
theorem TOwn.keep {w w' : World} {a : Option Addr} {l c : Nat} {zs : List ByteArray} {S S' : Nat → Prop} (h : TOwn w a l c zs S) (hk : ∀ k, k < w.heap.size → S k → w'.heap[k]? = w.heap[k]?) (hs : ∀ k, k < w.heap.size → S k → S' k) : TOwn w' a l c zs S' := by
  obtain ⟨⟨h1, h2, h3, h4, h5⟩, h6⟩ := h
  rcases h6 with rfl | ⟨g, cur, rfl, hS, hg⟩
  · exact ⟨⟨h1, h2, h3, h4, .inl rfl⟩, .inl rfl⟩
  · have hg' := (hk g (lt_of_some hg) hS).trans hg
    refine ⟨⟨h1, h2, h3, h4, h5.imp id ?_⟩, .inr ⟨g, cur, rfl, hs g (lt_of_some hg) hS, hg'⟩⟩
    rintro ⟨b, o, e, hlt, hc⟩
    cases e
    exact ⟨g, 0, rfl, lt_of_some hg', fun j x hx => by have := hc j x hx; rw [cellK hg] at this; rw [cellK hg']; exact this⟩
theorem TOwn.kept {w w' : World} {a : Option Addr} {l c : Nat} {zs : List ByteArray} {S S' : Nat → Prop} (h : TOwn w a l c zs S) (hb : KeptS S' w w') (hd : ∀ k, S k → ¬ S' k) : TOwn w' a l c zs S := h.keep (fun k hk s => hb.block k hk (hd k s)) (fun _ _ s => s)
theorem TOwn.into {w : World} {a : Option Addr} {l c : Nat} {zs : List ByteArray} {S S' : Nat → Prop} (h : TOwn w a l c zs S) (hs : ∀ k, k < w.heap.size → S k → S' k) : TOwn w a l c zs S' := h.keep (fun _ _ _ => rfl) hs
theorem TOwn.row {w : World} {a : Option Addr} {l c : Nat} {zs : List ByteArray} {S : Nat → Prop} (h : TOwn w a l c zs S) : TxRow w a l c zs := h.1
theorem mkN_up : ∀ (r : List Fv) (k : Int), (∀ (i : Nat) zs, r[i]? = some (.l zs) → zs.length ≤ 1048576) → mkN k r ≤ k + r.length * 1048577
  | [], k, _ => by simp [mkN]
  | f :: r, k, h => by
    have h1 := mkN_up r (mkN1 k f) (fun i zs hi => h (i + 1) zs (by simpa using hi))
    have h2 : mkN1 k f ≤ k + 1048577 := by
      cases f with
      | l zs => have := h 0 zs rfl; simp only [mkN1]; omega
      | _ => simp only [mkN1]; omega
    simp only [mkN, List.length_cons]
    omega
theorem mkNs_up {m : Nat} : ∀ (rs : List (List Fv)) (k : Int), (∀ (j : Nat) r, rs[j]? = some r → r.length ≤ m ∧ ∀ (i : Nat) zs, r[i]? = some (.l zs) → zs.length ≤ 1048576) → mkNs k rs ≤ k + rs.length * (m * 1048577)
  | [], k, _ => by simp [mkNs]
  | r :: rs, k, h => by
    have h1 := mkNs_up rs (mkN k r) (fun j r' hj => h (j + 1) r' (by simpa using hj))
    obtain ⟨h2, h3⟩ := h 0 r rfl
    have h4 := mkN_up r k h3
    have h5 : r.length * 1048577 ≤ m * 1048577 := Nat.mul_le_mul_right _ h2
    have h6 : ((rs.length + 1 : Nat) : Int) * (m * 1048577) = rs.length * (m * 1048577) + m * 1048577 := by
      rw [Int.natCast_add]
      simp [Int.add_mul]
    simp only [mkNs, List.length_cons]
    rw [h6]
    omega
theorem flat_fit {α : Type} {F : α → List Fv} {xs : List α} {m : Nat} (hm : ∀ x, (F x).length ≤ m) (hl : ∀ (j : Nat) x, xs[j]? = some x → ∀ (i : Nat) zs, (F x)[i]? = some (.l zs) → zs.length ≤ 1048576) (hx : xs.length ≤ 1048576) (hm8 : m ≤ 8) (k : Int) : mkNs k (xs.map F) ≤ k + 8796101410816 := by
  have h := mkNs_up (m := m) (xs.map F) k (fun j r hj => by
    rw [List.getElem?_map] at hj
    obtain ⟨x, h1, rfl⟩ := Option.map_eq_some_iff.1 hj
    exact ⟨hm x, hl j x h1⟩)
  rw [List.length_map] at h
  have h2 : xs.length * (m * 1048577) ≤ 1048576 * (8 * 1048577) := Nat.mul_le_mul hx (Nat.mul_le_mul_right _ hm8)
  have h3 : ((xs.length * (m * 1048577) : Nat) : Int) = (xs.length : Int) * ((m : Int) * 1048577) := by rw [Int.natCast_mul, Int.natCast_mul]; rfl
  rw [← h3] at h
  omega
theorem ClFit.marks2 {c : Cl} (h : ClFit c) : mkCn 1 c.raw ≤ 1000000000000000 := by
  have one : ∀ {zs zs' : List ByteArray}, zs.length ≤ 1048576 → some (Fv.l zs) = some (.l zs') → zs'.length ≤ 1048576 := fun h e => by cases e; exact h
  have a1 := fun k => flat_fit (F := ndF) (m := 7) (xs := c.ns) (fun _ => Nat.le_refl _) (fun j x hx i zs hi => by
    rcases i with _ | _ | _ | _ | _ | _ | _ | i <;> first | (simp [ndF] at hi; done) | exact one (h.f1 j x hx) hi) h.l1 (by decide) k
  have a2 := fun k => flat_fit (F := kdF) (m := 4) (xs := c.ks) (fun _ => Nat.le_refl _) (fun j x hx i zs hi => by
    rcases i with _ | _ | _ | _ | i <;> (simp [kdF] at hi)) h.l2 (by decide) k
  have a3 := fun k => flat_fit (F := vdF) (m := 8) (xs := c.vs) (fun _ => Nat.le_refl _) (fun j x hx i zs hi => by
    rcases i with _ | _ | _ | _ | _ | _ | _ | _ | i <;> first | (simp [vdF] at hi; done) | exact one (h.f3 j x hx) hi) h.l3 (by decide) k
  have a4 := fun k => flat_fit (F := xdF) (m := 5) (xs := c.xs) (fun _ => Nat.le_refl _) (fun j x hx i zs hi => by
    rcases i with _ | _ | _ | _ | _ | i <;> (simp [xdF] at hi)) h.l4 (by decide) k
  have a5 := fun k => flat_fit (F := pdF) (m := 6) (xs := c.ps) (fun _ => Nat.le_refl _) (fun j x hx i zs hi => by
    rcases i with _ | _ | _ | _ | _ | _ | i <;> first | (simp [pdF] at hi; done) | exact one (h.f5 j x hx) hi) h.l5 (by decide) k
  unfold mkCn Cl.raw
  have b1 := a1 1
  have b2 := a2 (mkNs 1 (c.ns.map ndF))
  have b3 := a3 (mkNs (mkNs 1 (c.ns.map ndF)) (c.ks.map kdF))
  have b4 := a4 (mkNs (mkNs (mkNs 1 (c.ns.map ndF)) (c.ks.map kdF)) (c.vs.map vdF))
  have b5 := a5 (mkNs (mkNs (mkNs (mkNs 1 (c.ns.map ndF)) (c.ks.map kdF)) (c.vs.map vdF)) (c.xs.map xdF))
  simp only []
  omega
theorem ClFit.marks {c : Cl} (h : ClFit c) : mkCn 1 c.raw ≤ 1152921504606846976 := Int.le_trans h.marks2 (by decide)

end Rc
end Go.Proofs.YtjafiakeddafoaaGreatDoor

namespace Go.Proofs.YtjafiakeddafoaaGreatDoor
open Go.RowKit

set_option maxHeartbeats 400000 in
theorem long_any (s : ByteArray) (w : World) :
    Calls Tryz.prog 82 #[.string s] w fun e w' => e = .returned (.bool (decide (8000 < s.size))) ∧ w = w' := by
  go_enter Tryz.func82, Tryz.ntmps82
  go_wp2
  go_ret
  exact ⟨by simp; omega, rfl⟩
theorem long_yes (s : ByteArray) (w : World) (h : 8000 < s.size) :
    Calls Tryz.prog 82 #[.string s] w fun e w' => e = .returned (.bool true) ∧ w = w' := by
  have := long_any s w; rw [decide_eq_true h] at this; exact this
theorem long_no (s : ByteArray) (w : World) (h : ¬ 8000 < s.size) :
    Calls Tryz.prog 82 #[.string s] w fun e w' => e = .returned (.bool false) ∧ w = w' := by
  have := long_any s w; rw [decide_eq_false h] at this; exact this

namespace Gs

def FMono (SR : World → World → Prop) (φ : Fact) : Prop := φ.Mono ∧ ∀ v w w', φ v w → SR w w' → φ v w'
def StObl (SR : World → World → Prop) (t4 : Tmp) (Ψ : Fact) (P : Program) (ops : Array Oper) (Q : Exit → Act → World → Prop) (W : World) (a0 : Act) (known : List (Tmp × Fact)) (o : Oper) : Prop :=
  ∀ (a : Act) (w : World) (K : Act → World → Prop), a.tmps.size = a0.tmps.size → Below W.heap.size W w → (∀ t ∈ o.looksAt ops, slotFact a0 known a w t) →
    (∀ v w', SR w w' → Ψ (a.tmps.getD t4 undef) w' → K (a.put o.dst v) w') → if Region.wanted o (yielded ops a.tmps) = true then o.wp P a w K Q else K (a.put o.dst undef) w
def Fin (t4 : Tmp) (Ψ : Fact) (P : Program) (ops : Array Oper) (Q : Exit → Act → World → Prop) (W : World) (a0 : Act) (back : Option Oper) (known : List (Tmp × Fact)) : Prop :=
  ∀ (x : Tmp → Value) (w : World), Below W.heap.size W w → (∀ p ∈ known, p.2 (x p.1) w) → Ψ ((putsAll a0 known x).tmps.getD t4 undef) w → lastStep P ops Q back (putsAll a0 known x) w
def Grow (SR : World → World → Prop) (t4 : Tmp) (Ψ : Fact) (P : Program) (ops : Array Oper) (Q : Exit → Act → World → Prop) (W : World) (a0 : Act) (back : Option Oper) : List Oper → List (Tmp × Fact) → Prop
  | [], known => Fin t4 Ψ P ops Q W a0 back known
  | o :: rest, known => ∃ φ : Fact, FMono SR φ ∧ (¬ o.dst = none → Obl P ops Q W a0 known o φ) ∧ (o.dst = none → StObl SR t4 Ψ P ops Q W a0 known o) ∧ Grow SR t4 Ψ P ops Q W a0 back rest (kn o.dst φ known)
section
variable {SR : World → World → Prop} {t4 : Tmp} {Ψ : Fact} {P : Program} {ops : Array Oper} {Q : Exit → Act → World → Prop} {W : World} {a0 : Act} {back : Option Oper}
theorem Grow.done {known : List (Tmp × Fact)} (h : Fin t4 Ψ P ops Q W a0 back known) : Grow SR t4 Ψ P ops Q W a0 back [] known := h
theorem all_listed {listed : Array Bool} (hs : listed.size = ops.size) (hlt : ∀ (j : Nat) o, ops[j]? = some o → ∀ e ∈ o.after, Region.binds .any e = true → e.on < j) (hr : Region.ready .any ops listed = []) : ∀ i, i < ops.size → listed.getD i false = true := by
  intro i
  induction i using Nat.strongRecOn with
  | _ i ih =>
    intro hi
    cases hb : listed.getD i false with
    | true => rfl
    | false =>
      have ho : ops[i]? = some ops[i] := Array.getElem?_eq_getElem hi
      have hm : i ∈ Region.ready .any ops listed := mem_ready.2 ⟨by rw [← getD_ft (by omega)]; exact hb, _, ho, fun e he hbe => ih e.on (hlt i _ ho e he hbe) (Nat.lt_trans (hlt i _ ho e he hbe) hi)⟩
      rw [hr] at hm
      cases hm

structure At (t4 : Tmp) (Ψ : Fact) (front : List Oper) (φs : List Fact) (W : World) (a0 : Act) (listed : Array Bool) (a : Act) (w : World) : Prop where
  old : Go.Proofs.YtjafiakeddafoaaGreatDoor.At front φs W a0 listed a w
  sto : ∀ (i : Nat) (o : Oper), front[i]? = some o → o.dst = none → listed.getD i false = true → Ψ (a.tmps.getD t4 undef) w ∧ ∀ (i' : Nat) (p : Oper), front[i']? = some p → p.dst = some t4 → listed.getD i' false = true

theorem set_true {listed : Array Bool} {i j : Nat} (h : listed.getD i false = true) : (listed.setIfInBounds j true).getD i false = true := by
  by_cases e : j = i
  · subst e
    simp only [Array.getD_eq_getD_getElem?, Array.getElem?_setIfInBounds]
    split
    · split
      · rfl
      · simp [Array.getD_eq_getD_getElem?] at h
        next hx =>
          have : listed[j]? = none := Array.getElem?_eq_none_iff.2 (by omega)
          rw [this] at h
          cases h
    · contradiction
  · simpa [Array.getD_eq_getD_getElem?, Array.getElem?_setIfInBounds, e] using h
theorem set_of_ne {listed : Array Bool} {i j : Nat} (e : ¬ j = i) (h : (listed.setIfInBounds j true).getD i false = true) : listed.getD i false = true := by
  simpa [Array.getD_eq_getD_getElem?, Array.getElem?_setIfInBounds, e] using h

end
structure Form (W w w' : World) : Prop where
  low : Below W.heap.size w w'
  form : ∀ (k : Nat) (cs : Array Value) (T : TypeId), w.heap[k]? = some (.cells cs T (0, 0)) → ∃ cs', cs'.size = cs.size ∧ w'.heap[k]? = some (.cells cs' T (0, 0))
end Gs
namespace Gt

section
variable {P : Program} {ops : Array Oper} {Q : Exit → Act → World → Prop} {W : World} {a0 : Act} {back : Option Oper}
structure Ac (front : List Oper) (φs : List Fact) (W : World) (a0 : Act) (listed : Array Bool) (a : Act) (w : World) : Prop where
  old : At front φs W a0 listed a w
  cl : ∀ (j : Nat) (o : Oper), front[j]? = some o → listed.getD j false = true → ∀ e ∈ o.after, Region.binds .any e = true → listed.getD e.on false = true
end
end Gt
namespace Gu

def waits (front : List Oper) (i : Nat) : Nat → Array Edge → Bool
  | 0, after => after.any fun e => Region.binds .any e && e.on == i
  | f + 1, after => after.any fun e => Region.binds .any e && (e.on == i || match front[e.on]? with | some p => waits front i f p.after | none => false)
theorem waits_spec {front : List Oper} {i : Nat} {listed : Array Bool} (hc : ∀ (j : Nat) (o : Oper), front[j]? = some o → listed.getD j false = true → ∀ e ∈ o.after, Region.binds .any e = true → listed.getD e.on false = true) : ∀ (f : Nat) (after : Array Edge), waits front i f after = true → (∀ e ∈ after, Region.binds .any e = true → listed.getD e.on false = true) → listed.getD i false = true
  | 0, after, h, ha => by
    obtain ⟨k, hk, hx⟩ := Array.any_eq_true.1 h
    simp only [Bool.and_eq_true, beq_iff_eq] at hx
    have := ha _ (Array.getElem_mem hk) hx.1
    rwa [hx.2] at this
  | f + 1, after, h, ha => by
    obtain ⟨k, hk, hx⟩ := Array.any_eq_true.1 h
    simp only [Bool.and_eq_true, Bool.or_eq_true, beq_iff_eq] at hx
    have h1 := ha _ (Array.getElem_mem hk) hx.1
    rcases hx.2 with h2 | h2
    · rwa [h2] at h1
    · split at h2
      · next p hp => exact waits_spec hc f p.after h2 (fun e he hb => hc _ p hp h1 e he hb)
      · cases h2
def lastTwo (P : Program) (ops : Array Oper) (Q : Exit → Act → World → Prop) (s t : Oper) (a : Act) (w : World) : Prop :=
  ∀ K : Act → World → Prop, (∀ a' w', (∀ K' : Act → World → Prop, (∀ a w, Q .normal a w → K' a w) → if Region.wanted t (yielded ops a'.tmps) = true then t.wp P a' w' K' Q else K' (a'.put t.dst undef) w') → K a' w') → if Region.wanted s (yielded ops a.tmps) = true then s.wp P a w K Q else K (a.put s.dst undef) w
def Fin (P : Program) (ops : Array Oper) (Q : Exit → Act → World → Prop) (W : World) (a0 : Act) (s t : Oper) (known : List (Tmp × Fact)) : Prop :=
  ∀ (x : Tmp → Value) (w : World), Below W.heap.size W w → (∀ p ∈ known, p.2 (x p.1) w) → lastTwo P ops Q s t (putsAll a0 known x) w
def Grow (P : Program) (ops : Array Oper) (Q : Exit → Act → World → Prop) (W : World) (a0 : Act) (s t : Oper) : List Oper → List (Tmp × Fact) → Prop
  | [], known => Fin P ops Q W a0 s t known
  | o :: rest, known => ∃ φ : Fact, φ.Mono ∧ Obl P ops Q W a0 known o φ ∧ Grow P ops Q W a0 s t rest (kn o.dst φ known)
section
variable {P : Program} {ops : Array Oper} {Q : Exit → Act → World → Prop} {W : World} {a0 : Act} {s t : Oper}
theorem Grow.step {o : Oper} {rest : List Oper} {known : List (Tmp × Fact)} {d : Tmp} (φ : Fact) (hd : o.dst = some d) (hφ : φ.Mono) (ho : Obl P ops Q W a0 known o φ)
    (h : Grow P ops Q W a0 s t rest ((d, φ) :: known)) : Grow P ops Q W a0 s t (o :: rest) known := ⟨φ, hφ, ho, (by rw [hd]; exact h)⟩
theorem Grow.stepC {o : Oper} {rest : List Oper} {known : List (Tmp × Fact)} {d : Tmp} (c : Value) (hd : o.dst = some d) (ho : Obl P ops Q W a0 known o (fun v _ => v = c))
    (h : Grow P ops Q W a0 s t rest ((d, fun v _ => v = c) :: known)) : Grow P ops Q W a0 s t (o :: rest) known := Grow.step _ hd (Fact.mono_eq c) ho h
theorem Grow.done {known : List (Tmp × Fact)} (h : Fin P ops Q W a0 s t known) : Grow P ops Q W a0 s t [] known := h
theorem Grow.spec : ∀ (l : List Oper) (known : List (Tmp × Fact)), Grow P ops Q W a0 s t l known → ∃ φs : List Fact, φs.length = l.length ∧
    (∀ (i : Nat) (o : Oper) (φ : Fact), l[i]? = some o → φs[i]? = some φ → φ.Mono ∧ Obl P ops Q W a0 (knAll known (l.take i) (φs.take i)) o φ) ∧ Fin P ops Q W a0 s t (knAll known l φs)
  | [], known, h => ⟨[], rfl, fun i o φ h => by simp at h, by rw [knAll_nil]; exact h⟩
  | o :: l, known, h => by
    obtain ⟨φ, hφ, ho, hr⟩ := h
    obtain ⟨φs, hl, hs, hf⟩ := Grow.spec l _ hr
    refine ⟨φ :: φs, by simp [hl], ?_, hf⟩
    intro i o' φ' h1 h2
    cases i with
    | zero =>
      simp only [List.getElem?_cons_zero, Option.some.injEq] at h1 h2
      subst h1; subst h2
      exact ⟨hφ, ho⟩
    | succ i =>
      simp only [List.getElem?_cons_succ] at h1 h2
      simpa [knAll] using hs i o' φ' h1 h2
def growB (n : Nat) (front : List Oper) (s t : Oper) : Bool :=
  let ops := (front ++ [s, t]).toArray
  decide ((front.filterMap (·.dst)).Nodup) && front.all (fun o => match o.dst with | some d => decide (d < n) | none => true) &&
  (List.range front.length).all (fun j => match front[j]? with
    | some o => (o.looksAt ops).all (fun d => (List.range front.length).all fun i => match front[i]? with
        | some p => p.dst != some d || (decide (i < j) && o.after.any fun e => e.on == i && Region.binds .any e)
        | none => true)
    | none => true) &&
  (List.range ops.size).all (fun j => match ops[j]? with | some o => o.after.all (fun e => !Region.binds .any e || decide (e.on < j)) | none => true) &&
  (List.range front.length).all (fun i => waits front i 12 s.after) && t.after.any (fun e => Region.binds .any e && e.on == front.length)
theorem growB_spec {n : Nat} {front : List Oper} (h : growB n front s t = true) :
    (front.filterMap (·.dst)).Nodup ∧ (∀ o ∈ front, ∀ d, o.dst = some d → d < n) ∧
    (∀ (j : Nat) (o : Oper), front[j]? = some o → ∀ d ∈ o.looksAt (front ++ [s, t]).toArray, ∀ (i : Nat) (p : Oper), front[i]? = some p → p.dst = some d → i < j ∧ ∃ e ∈ o.after, e.on = i ∧ Region.binds .any e = true) ∧
    (∀ (j : Nat) o, (front ++ [s, t]).toArray[j]? = some o → ∀ e ∈ o.after, Region.binds .any e = true → e.on < j) ∧
    (∀ i, i < front.length → waits front i 12 s.after = true) ∧ ∃ e ∈ t.after, Region.binds .any e = true ∧ e.on = front.length := by
  unfold growB at h
  simp only [Bool.and_eq_true, decide_eq_true_eq] at h
  obtain ⟨⟨⟨⟨⟨h1, h2⟩, h3⟩, h4⟩, h5⟩, h6⟩ := h
  refine ⟨h1, ?_, ?_, ?_, ?_, ?_⟩
  · intro o ho d hd
    have := List.all_eq_true.1 h2 o ho
    rw [hd] at this
    simpa using this
  · intro j o ho d hd i p hp hpd
    have hj : j < front.length := (List.getElem?_eq_some_iff.1 ho).1
    have hi : i < front.length := (List.getElem?_eq_some_iff.1 hp).1
    have := List.all_eq_true.1 h3 j (List.mem_range.2 hj)
    rw [ho] at this
    have := List.all_eq_true.1 this d hd
    have := List.all_eq_true.1 this i (List.mem_range.2 hi)
    rw [hp] at this
    simp only [hpd, bne_self_eq_false, Bool.false_or, Bool.and_eq_true, decide_eq_true_eq] at this
    obtain ⟨h6, h7⟩ := this
    obtain ⟨k, hk, hx⟩ := Array.any_eq_true.1 h7
    simp only [Bool.and_eq_true, beq_iff_eq] at hx
    exact ⟨h6, _, Array.getElem_mem hk, hx.1, hx.2⟩
  · intro j o ho e he hbe
    have hj : j < (front ++ [s, t]).toArray.size := (Array.getElem?_eq_some_iff.1 ho).1
    have := List.all_eq_true.1 h4 j (List.mem_range.2 hj)
    rw [ho] at this
    have := Array.all_eq_true.1 this
    obtain ⟨k, hk, rfl⟩ := Array.mem_iff_getElem.1 he
    have h9 := this k hk
    rw [hbe] at h9
    simpa using h9
  · intro i hi
    exact List.all_eq_true.1 h5 i (List.mem_range.2 hi)
  · obtain ⟨k, hk, hx⟩ := Array.any_eq_true.1 h6
    simp only [Bool.and_eq_true, beq_iff_eq] at hx
    exact ⟨_, Array.getElem_mem hk, hx.1, hx.2⟩
theorem Fin.last {front : List Oper} {φs : List Fact} {listed : Array Bool} {a : Act} {w : World} (hf : Fin P ops Q W a0 s t (knAll [] front φs)) (hlen : φs.length = front.length) (hin : ∀ o ∈ front, ∀ d, o.dst = some d → d < a0.tmps.size)
    (h : At front φs W a0 listed a w) (hall : ∀ i, i < front.length → listed.getD i false = true) : lastTwo P ops Q s t a w := by
  have h9 : ∃ x, a = putsAll a0 (knAll [] front φs) x ∧ ∀ p ∈ knAll [] front φs, p.2 (x p.1) w := Go.Proofs.YtjafiakeddafoaaGreatDoor.Fin.last (P := P) (ops := ops) (Q := fun _ a' w' => ∃ x, a' = putsAll a0 (knAll [] front φs) x ∧ ∀ p ∈ knAll [] front φs, p.2 (x p.1) w') (back := none) (fun x _ _ h2 => ⟨x, rfl, h2⟩) hlen hin h hall
  obtain ⟨x, e, h2⟩ := h9
  have h3 := hf x w h.below h2
  rw [← e] at h3
  exact h3
theorem run_op {fuel : Nat} {listed : Array Bool} {a : Act} {w : World} {j : Nat} {o : Oper} (ho : ops[j]? = some o) (h1 : if Region.wanted o (yielded ops a.tmps) = true then o.wp P a w (wpAny P .any ops Q fuel (listed.setIfInBounds j true)) Q else wpAny P .any ops Q fuel (listed.setIfInBounds j true) (a.put o.dst undef) w) : wpOp P ops Q j (wpAny P .any ops Q fuel (listed.setIfInBounds j true)) a w := by
  unfold wpOp
  rw [ho]
  simp only
  split
  · rename_i hw
    rw [if_pos hw] at h1
    exact .inl h1
  · rename_i hw
    rw [if_neg hw] at h1
    exact h1
theorem none_ready {listed : Array Bool} (hz : listed.size = ops.size) (hall : ∀ i, i < ops.size → listed.getD i false = true) : Region.ready .any ops listed = [] := by
  cases hr : Region.ready .any ops listed with
  | nil => rfl
  | cons j js =>
    have hm : j ∈ Region.ready .any ops listed := by rw [hr]; simp
    obtain ⟨h1, o, ho, -⟩ := mem_ready.1 hm
    have hj := (Array.getElem?_eq_some_iff.1 ho).1
    rw [← getD_ft (by omega), hall j hj] at h1
    cases h1
theorem fin_any {fuel : Nat} {listed : Array Bool} {a : Act} {w : World} (hz : listed.size = ops.size) (hall : ∀ i, i < ops.size → listed.getD i false = true) (hq : Q .normal a w) : wpAny P .any ops Q fuel listed a w := by
  have hr := none_ready hz hall
  cases fuel with
  | zero => exact ⟨hr, hq⟩
  | succ fuel => exact ⟨fun _ => hq, fun i hi => by rw [hr] at hi; cases hi⟩
theorem wpAny_grow {front : List Oper} {φs : List Fact} (hops : ops = (front ++ [s, t]).toArray) (hB : growB a0.tmps.size front s t = true) (hlen : φs.length = front.length)
    (hs : ∀ (i : Nat) (o : Oper) (φ : Fact), front[i]? = some o → φs[i]? = some φ → φ.Mono ∧ Obl P ops Q W a0 (knAll [] (front.take i) (φs.take i)) o φ) (hf : Fin P ops Q W a0 s t (knAll [] front φs)) :
    ∀ (fuel : Nat) (listed : Array Bool) (a : Act) (w : World), listed.size = ops.size → listed.toList.count false ≤ fuel → listed.getD front.length false = false → listed.getD (front.length + 1) false = false → Gt.Ac front φs W a0 listed a w → wpAny P .any ops Q fuel listed a w := by
  obtain ⟨hn, hin, hdep, hlt, hwait, e2, he2, hb2, hon2⟩ := growB_spec hB
  rw [← hops] at hdep hlt
  have hsz : ops.size = front.length + 2 := by rw [hops]; simp
  have hos : ops[front.length]? = some s := by rw [hops]; simp
  have hot : ops[front.length + 1]? = some t := by rw [hops]; simp
  intro fuel
  induction fuel with
  | zero =>
    intro listed a w hz hc hb hb' h
    have h9 := no_false (by omega : listed.toList.count false = 0) front.length (by omega)
    rw [hb] at h9
    cases h9
  | succ fuel ih =>
    intro listed a w hz hc hb hb' h
    refine ⟨fun hr => ?_, fun j hj => ?_⟩
    · have h9 := Gs.all_listed hz hlt hr front.length (by omega)
      rw [hb] at h9
      cases h9
    obtain ⟨hun, o, ho, hall⟩ := mem_ready.1 hj
    have hjs : j < ops.size := (Array.getElem?_eq_some_iff.1 ho).1
    have hcs := count_set (listed := listed) (i := j) (by omega) hun
    by_cases hjf : j < front.length
    · have hof : front[j]? = some o := by rw [hops] at ho; simpa [List.getElem?_append_left hjf] using ho
      have hφ : φs[j]? = some (φs[j]'(by omega)) := List.getElem?_eq_getElem _
      obtain ⟨hm, hob⟩ := hs j o _ hof hφ
      have hfacts : ∀ t ∈ o.looksAt ops, slotFact a0 (knAll [] (front.take j) (φs.take j)) a w t := by
        intro t ht
        unfold slotFact
        cases hk : (knAll [] (front.take j) (φs.take j)).lookup t with
        | some φ =>
          rcases lookup_some _ _ _ hk with ⟨i, p, h1, h2, h3⟩ | h1
          · have hij : i < j := by have := (List.getElem?_eq_some_iff.1 h1).1; simp at this; omega
            rw [List.getElem?_take, if_pos hij] at h1 h3
            obtain ⟨-, e, he, hon, hbi⟩ := hdep j o hof t ht i p h1 h2
            have hl := hall e he hbi
            rw [hon] at hl
            exact h.old.known i p φ h1 h3 t h2 hl
          · simp at h1
        | none =>
          refine h.old.other t (fun i p hp hd => ?_)
          exfalso
          obtain ⟨hij, -⟩ := hdep j o hof t ht i p hp hd
          have hi := (List.getElem?_eq_some_iff.1 hp).1
          exact (lookup_none _ _ _ hk).2 i p (φs[i]'(by omega)) (by rw [List.getElem?_take, if_pos hij]; exact hp) (by rw [List.getElem?_take, if_pos hij]; exact List.getElem?_eq_getElem _) hd
      have hkeep : ∀ i, ¬ j = i → listed.getD i false = false → (listed.setIfInBounds j true).getD i false = false := fun i e h2 => by
        simpa [Array.getD_eq_getD_getElem?, Array.getElem?_setIfInBounds, e] using h2
      exact run_op ho (hob a w _ h.old.size h.old.below hfacts (fun v w' hbw hv => ih _ _ _ (by simpa using hz) (by omega) (hkeep _ (by omega) hb) (hkeep _ (by omega) hb') ⟨h.old.step hn hin (fun i o φ h1 h2 => (hs i o φ h1 h2).1) hof hφ (by omega) hbw hv, fun j' o' ho' hl e he hbe => (by
          by_cases ej : j = j'
          · subst ej
            obtain rfl : o = o' := Option.some.inj (hof.symm.trans ho')
            exact Gs.set_true (hall e he hbe)
          · exact Gs.set_true (h.cl j' o' ho' (Gs.set_of_ne ej hl) e he hbe))⟩))
    · by_cases hj1 : j = front.length
      · subst hj1
        obtain rfl : s = o := Option.some.inj (hos.symm.trans ho)
        have hfl : ∀ i, i < front.length → listed.getD i false = true := fun i hi => waits_spec h.cl 12 s.after (hwait i hi) (fun e he hbe => hall e he hbe)
        refine run_op ho (Fin.last hf hlen hin h.old hfl _ (fun a' w' ht => ?_))
        have hz2 : (listed.setIfInBounds front.length true).size = ops.size := by simpa using hz
        have hl2 : ∀ i, i < front.length + 1 → (listed.setIfInBounds front.length true).getD i false = true := fun i hi => by
          by_cases e : front.length = i
          · subst e
            simp [Array.getD_eq_getD_getElem?, show front.length < listed.size from by omega]
          · exact Gs.set_true (hfl i (by omega))
        have hu2 : (listed.setIfInBounds front.length true).getD (front.length + 1) false = false := by
          have e : ¬ front.length = front.length + 1 := by omega
          simpa [Array.getD_eq_getD_getElem?, Array.getElem?_setIfInBounds, e] using hb'
        cases fuel with
        | zero =>
          have h9 := no_false (by omega : (listed.setIfInBounds front.length true).toList.count false = 0) (front.length + 1) (by omega)
          rw [hu2] at h9
          cases h9
        | succ fuel =>
          refine ⟨fun hr => ?_, fun i hi => ?_⟩
          · have h9 := Gs.all_listed hz2 hlt hr (front.length + 1) (by omega)
            rw [hu2] at h9
            cases h9
          · obtain ⟨hun2, o2, ho2, -⟩ := mem_ready.1 hi
            have his : i < ops.size := (Array.getElem?_eq_some_iff.1 ho2).1
            have hie : i = front.length + 1 := Classical.byContradiction fun e => by
              have h9 := hl2 i (by omega)
              rw [getD_ft (by omega)] at h9
              rw [h9] at hun2
              cases hun2
            subst hie
            obtain rfl : t = o2 := Option.some.inj (hot.symm.trans ho2)
            refine run_op ho2 (ht _ (fun a3 w3 hq => fin_any (by simpa using hz2) (fun i hi => ?_) hq))
            by_cases e : front.length + 1 = i
            · subst e
              simp [Array.getD_eq_getD_getElem?, show front.length + 1 < listed.size from by omega]
            · exact Gs.set_true (hl2 i (by omega))
      · obtain rfl : j = front.length + 1 := by omega
        obtain rfl : t = o := Option.some.inj (hot.symm.trans ho)
        have h9 := hall e2 he2 hb2
        rw [hon2, getD_ft (by omega)] at h9
        rw [getD_ft (by omega)] at hb
        rw [hb] at h9
        cases h9
end
theorem wp_region_grow_two {P : Program} {id : Nat} {Q : Exit → Act → World → Prop} {a0 : Act} {W : World} {l : List Oper} {front : List Oper} {s t : Oper} (hm : P.follows .mixedOrders = true) (hfr : l.dropLast.dropLast = front) (hss : l.dropLast.getLast? = some s) (htt : l.getLast? = some t) (hB : growB a0.tmps.size front s t = true)
    (h : Grow P l.toArray Q W a0 s t front []) : (Code.region id l.toArray true).wp P Q a0 W := by
  have hl : l = front ++ [s, t] := by
    obtain ⟨l', rfl⟩ := List.getLast?_eq_some_iff.1 htt
    rw [List.dropLast_concat] at hfr hss
    obtain ⟨l2, rfl⟩ := List.getLast?_eq_some_iff.1 hss
    rw [List.dropLast_concat] at hfr
    rw [← hfr]
    simp
  obtain ⟨φs, hlen, hs, hfi⟩ := Grow.spec _ _ h
  refine wp_region_any hm (wpAny_grow (by rw [hl]) hB hlen hs hfi _ _ _ _ (by simp) ?_ ?_ ?_ ⟨⟨rfl, rfl, (Below.refl _ _).drew, fun i o φ h1 h2 d hd hx => ?_, fun d _ => rfl⟩, fun j o h1 hx => ?_⟩)
  · have := List.count_le_length (a := false) (l := (Array.replicate l.toArray.size false).toList)
    simp at this ⊢
  · exact repl_false _ _
  · exact repl_false _ _
  · rw [repl_false] at hx; cases hx
  · rw [repl_false] at hx; cases hx
end Gu
end Go.Proofs.YtjafiakeddafoaaGreatDoor

namespace Go.Proofs.YtjafiakeddafoaaGreatDoor
open Go.RowKit
namespace Rc
open Mk

theorem Below.drewn {B : Nat} {w w' : World} (h : Below B w w') : Below B w w'.drew := ⟨h.os, h.tape, h.output, h.size, h.block⟩
theorem cell_ltD {w : World} {b o : Nat} {v : Value} (h : w.cell? ⟨b, o, none⟩ = some v) : b < w.heap.size := World.block_lt_of_cell? w _ h
def nnil (w : World) (g : Nat) : Prop := ∃ T v, w.cell? ⟨g, 0, none⟩ = some (.iface T v)
theorem nnil.below {w w' : World} {g : Nat} (h : nnil w g) (hb : Below w.heap.size w w') : nnil w' g := by
  obtain ⟨T, v, h⟩ := h
  exact ⟨T, v, (cell_below hb (cell_ltD h)).trans h⟩
def Es3 (w : World) : Prop := nnil w 0 ∧ nnil w 1 ∧ nnil w 2
theorem Es3.below {w w' : World} (h : Es3 w) (hb : Below w.heap.size w w') : Es3 w' := ⟨h.1.below hb, h.2.1.below hb, h.2.2.below hb⟩
theorem Es3.ens {w : World} (h : Es3 w) : ens w := h.2.2
def NdOk (c : Cl) (t : ByteArray) (n : Nd) : Prop := ¬ 8000 < t.size ∧ RightI c ∧ c.ns[pl Nd.n c.ns t]? = some n ∧ n.n = t
def NdNo (c : Cl) (t : ByteArray) : Prop := ¬ (¬ 8000 < t.size ∧ RightI c ∧ hit Nd.n c.ns t = true)
theorem NdOk.no {c : Cl} {t : ByteArray} {n : Nd} (h : NdOk c t n) (h' : NdNo c t) : False := h' ⟨h.1, h.2.1, (hit_at h.2.1.2.1.1.2.2 h.2.2.1 h.2.2.2).2⟩
theorem NdOk.uniq {c : Cl} {t : ByteArray} {n m : Nd} (h : NdOk c t n) (h' : NdOk c t m) : n = m := by
  have h1 := h.2.2.1
  rw [h'.2.2.1] at h1
  exact (Option.some.inj h1).symm
def AskN3 (c : Cl) (t : ByteArray) (w0 w : World) (e : Ending) (w' : World) : Prop :=
  Below w.heap.size w w' ∧ ((NdNo c t ∧ ∃ T v, e = .returned (.tuple #[.agg #[.string ⟨#[]⟩, .string ⟨#[]⟩, .int .i64 0, .int .i64 0, .int .i64 0, .bool false, .slice none 0 0], .iface T v])) ∨ (∃ (n : Nd) (va : Option Addr) (vl vc : Nat), NdOk c t n ∧ e = .returned (.tuple #[.agg #[.string n.n, .string n.z, .int .i64 n.c, .int .i64 n.s, .int .i64 n.u, .bool n.d, .slice va vl vc], .nilIface]) ∧ TxRow w0 va vl vc n.zs))
def Wrk3 (c : Cl) (d : Ad) (t : ByteArray) (w : World) (e : Ending) (w' : World) : Prop :=
  Below w.heap.size w w' ∧ ((NdNo c t ∧ ∃ T v, e = .returned (.tuple #[.agg #[.int .i64 0, .int .i64 0, .string ⟨#[]⟩, .string ⟨#[]⟩, .int .i64 0, .int .i64 0, .int .i64 0, .bool false, .slice none 0 0, .slice none 0 0, .slice none 0 0, .slice none 0 0, .slice none 0 0, .slice none 0 0, .int .i64 0], .iface T v])) ∨ (∃ (n : Nd) (va : Option Addr) (vl vc : Nat), NdOk c t n ∧ e = .returned (.tuple #[.agg #[.int .i64 n.u, .int .i64 c.now, .string n.n, .string n.z, .int .i64 n.c, .int .i64 n.s, .int .i64 n.u, .bool n.d, .slice va vl vc, .slice d.a1 d.l1 d.c1, .slice d.a2 d.l2 d.c2, .slice d.a3 d.l3 d.c3, .slice d.a4 d.l4 d.c4, .slice d.a5 d.l5 d.c5, .int .i64 c.now], .nilIface]) ∧ TxRow w va vl vc n.zs))
theorem cs15 {w : World} {b : Nat} {v0 v1 v2 v3 v4 v5 v6 v7 v8 v9 v10 v11 v12 v13 v14 : Value} {T : TypeId} (h : w.heap[b]? = some (.cells #[v0, v1, v2, v3, v4, v5, v6, v7, v8, v9, v10, v11, v12, v13, v14] T (0, 0))) : w.cell? ⟨b, 0, none⟩ = some v0 ∧ w.cell? ⟨b, 1, none⟩ = some v1 ∧ w.cell? ⟨b, 2, none⟩ = some v2 ∧ w.cell? ⟨b, 3, none⟩ = some v3 ∧ w.cell? ⟨b, 4, none⟩ = some v4 ∧ w.cell? ⟨b, 5, none⟩ = some v5 ∧ w.cell? ⟨b, 6, none⟩ = some v6 ∧ w.cell? ⟨b, 7, none⟩ = some v7 ∧ w.cell? ⟨b, 8, none⟩ = some v8 ∧ w.cell? ⟨b, 9, none⟩ = some v9 ∧ w.cell? ⟨b, 10, none⟩ = some v10 ∧ w.cell? ⟨b, 11, none⟩ = some v11 ∧ w.cell? ⟨b, 12, none⟩ = some v12 ∧ w.cell? ⟨b, 13, none⟩ = some v13 ∧ w.cell? ⟨b, 14, none⟩ = some v14 := ⟨cellK h 0, cellK h 1, cellK h 2, cellK h 3, cellK h 4, cellK h 5, cellK h 6, cellK h 7, cellK h 8, cellK h 9, cellK h 10, cellK h 11, cellK h 12, cellK h 13, cellK h 14⟩

set_option maxRecDepth 100000 in
set_option maxHeartbeats 3200000 in
theorem iaskN3_any (d : Ad) (c : Cl) (t : ByteArray) (w0 : World) (w : World) (hr0 : ClRow w0 d c.raw) (hb0 : Below w0.heap.size w0 w) (hG : Es3 w) :
    Calls Tryz.prog 58 #[.agg #[.slice d.a1 d.l1 d.c1, .slice d.a2 d.l2 d.c2, .slice d.a3 d.l3 d.c3, .slice d.a4 d.l4 d.c4, .slice d.a5 d.l5 d.c5, .int .i64 c.now], .string t] w (AskN3 c t w0 w) := by
  have HR0 := hidK hr0
  have HB0 := hidK hb0
  have HR := hidK (hr0.below hb0)
  have HE := hidK hG
  have HB := hidK (Below.refl w.heap.size w)
  clear hr0 hb0 hG
  by_cases hl : 8000 < t.size
  · obtain ⟨T, v, ev⟩ := (HE.out.below (below2 w (.cells #[.slice d.a1 d.l1 d.c1, .slice d.a2 d.l2 d.c2, .slice d.a3 d.l3 d.c3, .slice d.a4 d.l4 d.c4, .slice d.a5 d.l5 d.c5, .int .i64 c.now] 37) (.cells #[.string ⟨#[]⟩, .string ⟨#[]⟩, .int .i64 0, .int .i64 0, .int .i64 0, .bool false, .slice none 0 0] 54))).1
    go_enter Tryz.func58, Tryz.ntmps58
    go_wp2_with fail
    refine (long_yes t _ hl).mono ?_
    rintro e w1 ⟨rfl, rfl⟩
    go_wp2
    go_region
    go_wp2
    exact bodyPost_ret (v := .tuple #[.agg #[.string ⟨#[]⟩, .string ⟨#[]⟩, .int .i64 0, .int .i64 0, .int .i64 0, .bool false, .slice none 0 0], .iface T v]) (by simp [results, Tryz.results58, go_sem, *]) rfl ⟨Below.drewn (below2 _ _ _), .inl ⟨fun h => h.1 hl, T, v, rfl⟩⟩
  go_enter Tryz.func58, Tryz.ntmps58
  go_wp2_with fail
  refine (long_no t _ hl).mono ?_
  rintro e w1 ⟨rfl, rfl⟩
  go_wp2_with fail
  refine (iright_any d c _ (HR.out.below (HB.out.trans ((below2 _ _ _).mono HB.out.size))) (HE.out.below (HB.out.trans ((below2 _ _ _).mono HB.out.size))).ens).mono ?_
  rintro e w1 ⟨r, rfl, hi, hb⟩
  obtain ⟨HA0, HA1, hbx⟩ := slots2 hb
  have Bk := hidK HA0
  have Br := hidK HA1
  replace HB := upB HB hbx
  clear hb hbx HA0 HA1
  have HI := hidK hi
  clear hi
  cases r
  · obtain ⟨k0, k1, k2, k3, k4, k5⟩ := cs6 Bk.out
    have ltk_1 := lt_of_some Bk.out
    obtain ⟨r0, r1, r2, r3, r4, r5, r6⟩ := cs7 Br.out
    have ltr_1 := lt_of_some Br.out
    have fr0 : w1.frozen? ⟨w.heap.size + 1, 0, none⟩ = false := froK Br.out 0
    have fr1 : w1.frozen? ⟨w.heap.size + 1, 1, none⟩ = false := froK Br.out 1
    have fr2 : w1.frozen? ⟨w.heap.size + 1, 2, none⟩ = false := froK Br.out 2
    have fr3 : w1.frozen? ⟨w.heap.size + 1, 3, none⟩ = false := froK Br.out 3
    have fr4 : w1.frozen? ⟨w.heap.size + 1, 4, none⟩ = false := froK Br.out 4
    have fr5 : w1.frozen? ⟨w.heap.size + 1, 5, none⟩ = false := froK Br.out 5
    have fr6 : w1.frozen? ⟨w.heap.size + 1, 6, none⟩ = false := froK Br.out 6
    obtain ⟨T, v, ev⟩ := (HE.out.below HB.out).2.1
    have evl := cell_ltD ev
    obtain ⟨_, _, ev0⟩ := HE.out.2.1
    have evl0 := cell_ltD ev0
    clear ev0
    have evn : ¬ 1 = w.heap.size + 1 := by omega
    go_wp2
    go_region
    go_wp2
    exact bodyPost_ret (v := .tuple #[.agg #[.string ⟨#[]⟩, .string ⟨#[]⟩, .int .i64 0, .int .i64 0, .int .i64 0, .bool false, .slice none 0 0], .iface T v]) (by simp [results, Tryz.results58, go_sem, *]) rfl ⟨Below.drewn (set_below (show w.heap.size ≤ w.heap.size + 1 by omega) (set_below (show w.heap.size ≤ w.heap.size + 1 by omega) (set_below (show w.heap.size ≤ w.heap.size + 1 by omega) (set_below (show w.heap.size ≤ w.heap.size + 1 by omega) (set_below (show w.heap.size ≤ w.heap.size + 1 by omega) (set_below (show w.heap.size ≤ w.heap.size + 1 by omega) (set_below (show w.heap.size ≤ w.heap.size + 1 by omega) (HB.out)))))))), .inl ⟨fun h => (by have := HI.out.2 h.2.1; cases this), T, v, rfl⟩⟩
  have HT := hidK (HI.out.1 (by first | trivial | rfl))
  clear HI
  obtain ⟨k0, k1, k2, k3, k4, k5⟩ := cs6 Bk.out
  have ltk_1 := lt_of_some Bk.out
  go_wp2_with fail
  refine (thend_any d c.now c.ns t w0 _ HR0.out.n (HB0.out.trans (HB.out.mono HB0.out.size))).mono ?_
  rintro e w2 ⟨hb, hf⟩
  clear k0 k1 k2 k3 k4 k5 ltk_1
  replace Bk := upK Bk hb
  replace Br := upK Br hb
  replace HB := upB HB hb
  clear hb
  rcases hf with ⟨hh, n, va, vl, vc, hx, hn, rfl, z0, z1, hvr⟩ | ⟨hh, rfl⟩
  · have HX := hidK (And.intro hx (And.intro hn hvr))
    clear hx hn z0 z1 hh hvr
    obtain ⟨k0, k1, k2, k3, k4, k5⟩ := cs6 Bk.out
    have ltk_2 := lt_of_some Bk.out
    obtain ⟨r0, r1, r2, r3, r4, r5, r6⟩ := cs7 Br.out
    have ltr_2 := lt_of_some Br.out
    have fr0 : w2.frozen? ⟨w.heap.size + 1, 0, none⟩ = false := froK Br.out 0
    have fr1 : w2.frozen? ⟨w.heap.size + 1, 1, none⟩ = false := froK Br.out 1
    have fr2 : w2.frozen? ⟨w.heap.size + 1, 2, none⟩ = false := froK Br.out 2
    have fr3 : w2.frozen? ⟨w.heap.size + 1, 3, none⟩ = false := froK Br.out 3
    have fr4 : w2.frozen? ⟨w.heap.size + 1, 4, none⟩ = false := froK Br.out 4
    have fr5 : w2.frozen? ⟨w.heap.size + 1, 5, none⟩ = false := froK Br.out 5
    have fr6 : w2.frozen? ⟨w.heap.size + 1, 6, none⟩ = false := froK Br.out 6
    have hrl : w.heap.size + 1 < w2.heap.size := lt_of_some Br.out
    go_wp2
    exact bodyPost_ret (v := .tuple #[.agg #[.string n.n, .string n.z, .int .i64 n.c, .int .i64 n.s, .int .i64 n.u, .bool n.d, .slice va vl vc], .nilIface]) (by simp [results, Tryz.results58, go_sem, *]) rfl ⟨Below.alloc (set_below (show w.heap.size ≤ w.heap.size + 1 by omega) (set_below (show w.heap.size ≤ w.heap.size + 1 by omega) (set_below (show w.heap.size ≤ w.heap.size + 1 by omega) (set_below (show w.heap.size ≤ w.heap.size + 1 by omega) (set_below (show w.heap.size ≤ w.heap.size + 1 by omega) (set_below (show w.heap.size ≤ w.heap.size + 1 by omega) (set_below (show w.heap.size ≤ w.heap.size + 1 by omega) (HB.out)))))))) (by simp [World.setCell]; have := HB.out.size; omega) _, .inr ⟨n, va, vl, vc, ⟨hl, HT.out, HX.out.1, HX.out.2.1⟩, rfl, HX.out.2.2⟩⟩
  · have HH := hidK hh
    clear hh
    obtain ⟨k0, k1, k2, k3, k4, k5⟩ := cs6 Bk.out
    have ltk_2 := lt_of_some Bk.out
    obtain ⟨r0, r1, r2, r3, r4, r5, r6⟩ := cs7 Br.out
    have ltr_2 := lt_of_some Br.out
    have fr0 : w2.frozen? ⟨w.heap.size + 1, 0, none⟩ = false := froK Br.out 0
    have fr1 : w2.frozen? ⟨w.heap.size + 1, 1, none⟩ = false := froK Br.out 1
    have fr2 : w2.frozen? ⟨w.heap.size + 1, 2, none⟩ = false := froK Br.out 2
    have fr3 : w2.frozen? ⟨w.heap.size + 1, 3, none⟩ = false := froK Br.out 3
    have fr4 : w2.frozen? ⟨w.heap.size + 1, 4, none⟩ = false := froK Br.out 4
    have fr5 : w2.frozen? ⟨w.heap.size + 1, 5, none⟩ = false := froK Br.out 5
    have fr6 : w2.frozen? ⟨w.heap.size + 1, 6, none⟩ = false := froK Br.out 6
    obtain ⟨T, v, ev⟩ := (HE.out.below HB.out).2.2
    have evl := cell_ltD ev
    obtain ⟨_, _, ev0⟩ := HE.out.2.2
    have evl0 := cell_ltD ev0
    clear ev0
    have evn : ¬ 2 = w.heap.size + 1 := by omega
    have hrl : w.heap.size + 1 < w2.heap.size := lt_of_some Br.out
    go_wp2
    go_region
    go_wp2
    exact bodyPost_ret (v := .tuple #[.agg #[.string ⟨#[]⟩, .string ⟨#[]⟩, .int .i64 0, .int .i64 0, .int .i64 0, .bool false, .slice none 0 0], .iface T v]) (by simp [results, Tryz.results58, go_sem, *]) rfl ⟨Below.drewn (Below.alloc (set_below (show w.heap.size ≤ w.heap.size + 1 by omega) (set_below (show w.heap.size ≤ w.heap.size + 1 by omega) (set_below (show w.heap.size ≤ w.heap.size + 1 by omega) (set_below (show w.heap.size ≤ w.heap.size + 1 by omega) (set_below (show w.heap.size ≤ w.heap.size + 1 by omega) (set_below (show w.heap.size ≤ w.heap.size + 1 by omega) (set_below (show w.heap.size ≤ w.heap.size + 1 by omega) (HB.out)))))))) (by simp [World.setCell]; have := HB.out.size; omega) _), .inl ⟨fun h => (by have h1 := h.2.2; rw [HH.out] at h1; cases h1), T, v, rfl⟩⟩

set_option maxRecDepth 10000 in
set_option maxHeartbeats 1600000 in
theorem ileaseW_any (d : Ad) (now : Int) (n : Nd) (va : Option Addr) (vl vc : Nat) (w : World) :
    Calls Tryz.prog 59 #[.agg #[.slice d.a1 d.l1 d.c1, .slice d.a2 d.l2 d.c2, .slice d.a3 d.l3 d.c3, .slice d.a4 d.l4 d.c4, .slice d.a5 d.l5 d.c5, .int .i64 now], .agg #[.string n.n, .string n.z, .int .i64 n.c, .int .i64 n.s, .int .i64 n.u, .bool n.d, .slice va vl vc]] w fun e w' => e = .returned (.agg #[.int .i64 n.u, .int .i64 now]) ∧ Below w.heap.size w w' := by
  go_enter Tryz.func59, Tryz.ntmps59
  go_wp2
  exact bodyPost_ret (v := .agg #[.int .i64 n.u, .int .i64 now]) (by simp [results, Tryz.results59, go_sem]) rfl ⟨rfl, below3 _ _ _ _⟩

set_option maxRecDepth 10000 in
set_option maxHeartbeats 1600000 in
theorem ilive_any (u now : Int) (w : World) :
    Calls Tryz.prog 29 #[.agg #[.int .i64 u, .int .i64 now]] w fun e w' => e = .returned (.bool (decide (now < u))) ∧ Below w.heap.size w w' := by
  go_enter Tryz.func29, Tryz.ntmps29
  go_wp2
  go_ret
  exact ⟨rfl, below1 _ _⟩

set_option maxRecDepth 100000 in
set_option maxHeartbeats 6400000 in
theorem iwrk3_any (d : Ad) (c : Cl) (t : ByteArray) (w : World) (hr : ClRow w d c.raw) (hG : Es3 w) :
    Calls Tryz.prog 28 #[.agg #[.slice d.a1 d.l1 d.c1, .slice d.a2 d.l2 d.c2, .slice d.a3 d.l3 d.c3, .slice d.a4 d.l4 d.c4, .slice d.a5 d.l5 d.c5, .int .i64 c.now], .string t] w (Wrk3 c d t w) := by
  have HR := hidK hr
  have HE := hidK hG
  have HB := hidK (Below.refl w.heap.size w)
  clear hr hG
  go_enter Tryz.func28, Tryz.ntmps28
  go_wp2_with fail
  refine (iaskN3_any d c t w _ HR.out (HB.out.trans ((below2 _ _ _).mono HB.out.size)) (HE.out.below (HB.out.trans ((below2 _ _ _).mono HB.out.size)))).mono ?_
  rintro e w1 ⟨hb, hf⟩
  have HBW := hidK hb
  obtain ⟨HA0, HA1, hbx⟩ := slots2 hb
  have Bk := hidK HA0
  have Br := hidK HA1
  replace HB := upB HB hbx
  clear hb hbx HA0 HA1
  rcases hf with ⟨hno, T, v, rfl⟩ | ⟨n, va, vl, vc, hok, rfl, hvr⟩
  · have HNO := hidK hno
    clear hno HBW
    obtain ⟨r0, r1, r2, r3, r4, r5, r6, r7, r8, r9, r10, r11, r12, r13, r14⟩ := cs15 Br.out
    have fr0 := froK Br.out 0
    have fr1 := froK Br.out 1
    have fr2 := froK Br.out 2
    have fr3 := froK Br.out 3
    have fr4 := froK Br.out 4
    have fr5 := froK Br.out 5
    have fr6 := froK Br.out 6
    have fr7 := froK Br.out 7
    have fr8 := froK Br.out 8
    have fr9 := froK Br.out 9
    have fr10 := froK Br.out 10
    have fr11 := froK Br.out 11
    have fr12 := froK Br.out 12
    have fr13 := froK Br.out 13
    have fr14 := froK Br.out 14
    have hrl : w.heap.size + 1 < w1.heap.size := lt_of_some Br.out
    have hkl : w.heap.size < w1.heap.size := lt_of_some Bk.out
    have hn1 : ¬ w.heap.size + 1 = w1.heap.size := by omega
    have hn2 : ¬ w1.heap.size = w.heap.size + 1 := by omega
    go_wp2
    exact bodyPost_ret (v := .tuple #[.agg #[.int .i64 0, .int .i64 0, .string ⟨#[]⟩, .string ⟨#[]⟩, .int .i64 0, .int .i64 0, .int .i64 0, .bool false, .slice none 0 0, .slice none 0 0, .slice none 0 0, .slice none 0 0, .slice none 0 0, .slice none 0 0, .int .i64 0], .iface T v]) (by simp [results, Tryz.results28, go_sem, *]) rfl ⟨Below.alloc (set_below (show w.heap.size ≤ w.heap.size + 1 by omega) (set_below (show w.heap.size ≤ w.heap.size + 1 by omega) (set_below (show w.heap.size ≤ w.heap.size + 1 by omega) (set_below (show w.heap.size ≤ w.heap.size + 1 by omega) (set_below (show w.heap.size ≤ w.heap.size + 1 by omega) (set_below (show w.heap.size ≤ w.heap.size + 1 by omega) (set_below (show w.heap.size ≤ w.heap.size + 1 by omega) (set_below (show w.heap.size ≤ w.heap.size + 1 by omega) (set_below (show w.heap.size ≤ w.heap.size + 1 by omega) (set_below (show w.heap.size ≤ w.heap.size + 1 by omega) (set_below (show w.heap.size ≤ w.heap.size + 1 by omega) (set_below (show w.heap.size ≤ w.heap.size + 1 by omega) (set_below (show w.heap.size ≤ w.heap.size + 1 by omega) (set_below (show w.heap.size ≤ w.heap.size + 1 by omega) (set_below (show w.heap.size ≤ w.heap.size + 1 by omega) (HB.out)))))))))))))))) (by simp [World.setCell]; have := HB.out.size; omega) _, .inl ⟨HNO.out, T, v, rfl⟩⟩
  have HOK := hidK hok
  clear hok
  have HVR := hidK hvr
  clear hvr
  go_wp2_with fail
  obtain ⟨W, hW0⟩ : ∃ W, W = w1.alloc (.cells #[.string n.n, .string n.z, .int .i64 n.c, .int .i64 n.s, .int .i64 n.u, .bool n.d, .slice va vl vc] 54) := ⟨_, rfl⟩
  have BkW := hidK ((Below.heap_alloc w1 (.cells #[.string n.n, .string n.z, .int .i64 n.c, .int .i64 n.s, .int .i64 n.u, .bool n.d, .slice va vl vc] 54) _ (lt_of_some Bk.out)).trans Bk.out)
  have BrW := hidK ((Below.heap_alloc w1 (.cells #[.string n.n, .string n.z, .int .i64 n.c, .int .i64 n.s, .int .i64 n.u, .bool n.d, .slice va vl vc] 54) _ (lt_of_some Br.out)).trans Br.out)
  have BnW := hidK (heap_alloc_new w1 (.cells #[.string n.n, .string n.z, .int .i64 n.c, .int .i64 n.s, .int .i64 n.u, .bool n.d, .slice va vl vc] 54))
  have HBX := hidK (HB.out.trans ((below1 w1 (.cells #[.string n.n, .string n.z, .int .i64 n.c, .int .i64 n.s, .int .i64 n.u, .bool n.d, .slice va vl vc] 54)).mono HB.out.size))
  rw [← hW0] at BkW BrW BnW HBX ⊢
  clear hW0 Bk Br HB
  rename_i K0 hK0
  refine Gu.wp_region_grow_two (by kernel_rfl) rfl rfl rfl (by kernel_rfl) ?_
  refine' Gu.Grow.stepC _ rfl ?_ ?_
  rotate_left 1
  · refine Obl.plain rfl ?_
    intro ac wg K hsz hW hf hK; clear hsz
    have e2 := hf 2 (by decide)
    simp [slotFact, List.lookup] at e2
    clear hf
    obtain ⟨k0, k1, k2, k3, k4, k5⟩ := cs6 ((hW.block _ (lt_of_some BkW.out)).trans BkW.out)
    go_simp
    refine hK _ _ (Below.refl _ _) ?_
    with_reducible rfl
  refine' Gu.Grow.stepC _ rfl ?_ ?_
  rotate_left 1
  · refine Obl.plain rfl ?_
    intro ac wg K hsz hW hf hK; clear hsz
    have e6 := hf 6 (by decide)
    simp [slotFact, List.lookup] at e6
    clear hf
    obtain ⟨n0, n1, n2, n3, n4, n5, n6⟩ := cs7 ((hW.block _ (lt_of_some BnW.out)).trans BnW.out)
    go_simp
    refine hK _ _ (Below.refl _ _) ?_
    with_reducible rfl
  refine Gu.Grow.step (fun v _ => v = .agg #[.int .i64 n.u, .int .i64 c.now]) rfl (Fact.mono_eq _) ?_ ?_
  · refine Obl.plain rfl ?_
    intro ac wg K hsz hW hf hK; clear hsz
    have e18 := hf 18 (by decide)
    simp [slotFact, List.lookup] at e18
    have e19 := hf 19 (by decide)
    simp [slotFact, List.lookup] at e19
    clear hf
    go_simp
    refine (ileaseW_any d c.now n va vl vc _).mono ?_
    rintro e w6 ⟨rfl, hb6⟩
    exact hK _ _ hb6 rfl
  refine' Gu.Grow.stepC _ rfl ?_ ?_
  rotate_left 1
  · refine Obl.plain rfl ?_
    intro ac wg K hsz hW hf hK; clear hsz
    have e6 := hf 6 (by decide)
    simp [slotFact, List.lookup] at e6
    clear hf
    obtain ⟨n0, n1, n2, n3, n4, n5, n6⟩ := cs7 ((hW.block _ (lt_of_some BnW.out)).trans BnW.out)
    go_simp
    refine hK _ _ (Below.refl _ _) ?_
    with_reducible rfl
  refine' Gu.Grow.stepC _ rfl ?_ ?_
  rotate_left 1
  · refine Obl.plain rfl ?_
    intro ac wg K hsz hW hf hK; clear hsz
    have e2 := hf 2 (by decide)
    simp [slotFact, List.lookup] at e2
    clear hf
    obtain ⟨k0, k1, k2, k3, k4, k5⟩ := cs6 ((hW.block _ (lt_of_some BkW.out)).trans BkW.out)
    go_simp
    refine hK _ _ (Below.refl _ _) ?_
    with_reducible rfl
  refine' Gu.Grow.stepC _ rfl ?_ ?_
  rotate_left 1
  · refine Obl.plain rfl ?_
    intro ac wg K hsz hW hf hK; clear hsz
    have e20 := hf 20 (by decide)
    simp [slotFact, List.lookup] at e20
    have e21 := hf 21 (by decide)
    simp [slotFact, List.lookup] at e21
    have e22 := hf 22 (by decide)
    simp [slotFact, List.lookup] at e22
    clear hf
    go_simp
    refine hK _ _ (Below.refl _ _) ?_
    with_reducible rfl
  refine Gu.Grow.done ?_
  intro q wz hW hf
  simp only [List.forall_mem_cons] at hf
  obtain ⟨h23, h22, h21, h20, h19, h18, -⟩ := hf
  have HWZ := hidK hW
  have Br6 := upK BrW hW
  clear hW
  obtain ⟨r0, r1, r2, r3, r4, r5, r6, r7, r8, r9, r10, r11, r12, r13, r14⟩ := cs15 Br6.out
  have fr0 := froK Br6.out 0
  have fr1 := froK Br6.out 1
  have fr2 := froK Br6.out 2
  have fr3 := froK Br6.out 3
  have fr4 := froK Br6.out 4
  have fr5 := froK Br6.out 5
  have fr6 := froK Br6.out 6
  have fr7 := froK Br6.out 7
  have fr8 := froK Br6.out 8
  have fr9 := froK Br6.out 9
  have fr10 := froK Br6.out 10
  have fr11 := froK Br6.out 11
  have fr12 := froK Br6.out 12
  have fr13 := froK Br6.out 13
  have fr14 := froK Br6.out 14
  have hrl := lt_of_some Br6.out
  intro K hK
  rw [if_pos (by rfl)]
  simp only [putsAll, List.foldr, Act.put, List.setIfInBounds_toArray, List.set_cons_zero, List.set_cons_succ, h23, h22, h21, h20, h19, h18]
  go_simp
  refine hK _ _ ?_
  clear hK K
  intro K hK
  rw [if_pos (by rfl)]
  go_simp
  refine hK _ _ ?_
  refine hK0 _ _ ?_
  clear hK hK0 K K0
  go_wp2
  exact bodyPost_ret (v := .tuple #[.agg #[.int .i64 n.u, .int .i64 c.now, .string n.n, .string n.z, .int .i64 n.c, .int .i64 n.s, .int .i64 n.u, .bool n.d, .slice va vl vc, .slice d.a1 d.l1 d.c1, .slice d.a2 d.l2 d.c2, .slice d.a3 d.l3 d.c3, .slice d.a4 d.l4 d.c4, .slice d.a5 d.l5 d.c5, .int .i64 c.now], .nilIface]) (by simp [results, Tryz.results28, go_sem, *]) rfl ⟨set_below (show w.heap.size ≤ w.heap.size + 1 by omega) (set_below (show w.heap.size ≤ w.heap.size + 1 by omega) (set_below (show w.heap.size ≤ w.heap.size + 1 by omega) (set_below (show w.heap.size ≤ w.heap.size + 1 by omega) (set_below (show w.heap.size ≤ w.heap.size + 1 by omega) (set_below (show w.heap.size ≤ w.heap.size + 1 by omega) (set_below (show w.heap.size ≤ w.heap.size + 1 by omega) (set_below (show w.heap.size ≤ w.heap.size + 1 by omega) (set_below (show w.heap.size ≤ w.heap.size + 1 by omega) (set_below (show w.heap.size ≤ w.heap.size + 1 by omega) (set_below (show w.heap.size ≤ w.heap.size + 1 by omega) (set_below (show w.heap.size ≤ w.heap.size + 1 by omega) (set_below (show w.heap.size ≤ w.heap.size + 1 by omega) (set_below (show w.heap.size ≤ w.heap.size + 1 by omega) (set_below (show w.heap.size ≤ w.heap.size + 1 by omega) (HBX.out.trans (HWZ.out.mono HBX.out.size)))))))))))))))), .inr ⟨n, va, vl, vc, HOK.out, rfl, HVR.out⟩⟩

theorem sright_is (d : Ad) (c : Cl) (w : World) (hr : ClRow w d c.raw) (r : Bool) (h : r = true ↔ RightI c) :
    Calls Tryz.prog 22 #[.agg #[.slice d.a1 d.l1 d.c1, .slice d.a2 d.l2 d.c2, .slice d.a3 d.l3 d.c3, .slice d.a4 d.l4 d.c4, .slice d.a5 d.l5 d.c5, .int .i64 c.now]] w fun e w' => e = .returned (.bool r) ∧ Below w.heap.size w w' := by
  refine (sright_any d c w hr).mono ?_
  rintro e w' ⟨r', rfl, h', hb⟩
  have e : r' = r := by
    cases r <;> cases r'
    · rfl
    · exact (h.2 (h'.1 rfl)).symm
    · exact h'.2 (h.1 rfl)
    · rfl
  rw [e]
  exact ⟨rfl, hb⟩
def Lv (c : Cl) (t : ByteArray) : Prop := ∃ n, NdOk c t n ∧ c.now < n.u

set_option maxRecDepth 100000 in
set_option maxHeartbeats 3200000 in
theorem ilvl_any (d : Ad) (c : Cl) (t : ByteArray) (w : World) (hr : ClRow w d c.raw) (hG : Es3 w) :
    Calls Tryz.prog 8 #[.agg #[.slice d.a1 d.l1 d.c1, .slice d.a2 d.l2 d.c2, .slice d.a3 d.l3 d.c3, .slice d.a4 d.l4 d.c4, .slice d.a5 d.l5 d.c5, .int .i64 c.now], .string t] w (BoolB (Lv c t) w) := by
  have HR := hidK hr
  have HE := hidK hG
  have HB := hidK (Below.refl w.heap.size w)
  clear hr hG
  go_enter Tryz.func8, Tryz.ntmps8
  go_wp2_with fail
  refine (iwrk3_any d c t _ (HR.out.below (HB.out.trans ((below1 _ _).mono HB.out.size))) (HE.out.below (HB.out.trans ((below1 _ _).mono HB.out.size)))).mono ?_
  rintro e w1 ⟨hb, hf⟩
  obtain ⟨HA0, hbx⟩ := slots1 hb
  have Bk := hidK HA0
  replace HB := upB HB hbx
  clear hb hbx HA0
  rcases hf with ⟨hno, T, v, rfl⟩ | ⟨n, va, vl, vc, hok, rfl, hvr⟩
  · have HNO := hidK hno
    clear hno
    go_wp2
    go_ret
    exact BoolB.f (fun ⟨m, h, _⟩ => h.no HNO.out) (HB.out.trans ((below1 _ _).mono HB.out.size))
  have HOK := hidK hok
  clear hok hvr
  go_wp2_with fail
  obtain ⟨r, hr⟩ : ∃ r, r = decide (c.now < n.u) := ⟨_, rfl⟩
  have HRR := hidK hr
  clear hr
  have hg := ilive_any n.u c.now (w1.alloc (.cells #[.int .i64 n.u, .int .i64 c.now, .string n.n, .string n.z, .int .i64 n.c, .int .i64 n.s, .int .i64 n.u, .bool n.d, .slice va vl vc, .slice d.a1 d.l1 d.c1, .slice d.a2 d.l2 d.c2, .slice d.a3 d.l3 d.c3, .slice d.a4 d.l4 d.c4, .slice d.a5 d.l5 d.c5, .int .i64 c.now] 63))
  rw [← HRR.out] at hg
  refine (hg).mono ?_
  rintro e w2 ⟨rfl, hb⟩
  obtain ⟨HA0, hbx⟩ := slots1 hb
  replace Bk := upK Bk hbx
  have Bw := hidK HA0
  replace HB := upB HB hbx
  clear hb hbx HA0
  clear hg
  cases r
  all_goals (
    go_wp2
    go_ret
    first
      | exact BoolB.t ⟨n, HOK.out, of_decide_eq_true HRR.out.symm⟩ HB.out
      | exact BoolB.f (fun ⟨m, h, h2⟩ => by obtain rfl := h.uniq HOK.out; exact (of_decide_eq_false HRR.out.symm) h2) HB.out)

set_option maxRecDepth 100000 in
set_option maxHeartbeats 3200000 in
theorem slive_any (d : Ad) (c : Cl) (t : ByteArray) (w : World) (hr : ClRow w d c.raw) :
    Calls Tryz.prog 6 #[.agg #[.slice d.a1 d.l1 d.c1, .slice d.a2 d.l2 d.c2, .slice d.a3 d.l3 d.c3, .slice d.a4 d.l4 d.c4, .slice d.a5 d.l5 d.c5, .int .i64 c.now], .string t] w (BoolB (Lv c t) w) := by
  obtain ⟨a1, l1, y1, a2, l2, y2, a3, l3, y3, a4, l4, y4, a5, l5, y5⟩ := d
  dsimp only
  have HR := hidK hr
  have hl1 : c.ns.length = l1 := by simpa using (show (c.ns.map ndF).length = l1 from hr.n.1)
  have hm1 : l1 ≤ 9223372036854775807 := Nat.le_trans hr.n.2.1 hr.n.2.2.1
  have hl2 : c.ks.length = l2 := by simpa using (show (c.ks.map kdF).length = l2 from hr.k.1)
  have hm2 : l2 ≤ 9223372036854775807 := Nat.le_trans hr.k.2.1 hr.k.2.2.1
  have hl3 : c.vs.length = l3 := by simpa using (show (c.vs.map vdF).length = l3 from hr.v.1)
  have hm3 : l3 ≤ 9223372036854775807 := Nat.le_trans hr.v.2.1 hr.v.2.2.1
  have hl4 : c.xs.length = l4 := by simpa using (show (c.xs.map xdF).length = l4 from hr.x.1)
  have hm4 : l4 ≤ 9223372036854775807 := Nat.le_trans hr.x.2.1 hr.x.2.2.1
  have hl5 : c.ps.length = l5 := by simpa using (show (c.ps.map pdF).length = l5 from hr.p.1)
  have hm5 : l5 ≤ 9223372036854775807 := Nat.le_trans hr.p.2.1 hr.p.2.2.1
  clear hr
  have HB := hidK (Below.refl w.heap.size w)
  go_enter Tryz.func6, Tryz.ntmps6
  go_wp2_with fail
  refine (sxnd_any ⟨a1, l1, y1, a2, l2, y2, a3, l3, y3, a4, l4, y4, a5, l5, y5⟩ c.now c.ns t _ (HR.out.n.below (HB.out.trans ((below1 _ _).mono HB.out.size)))).mono ?_
  rintro e w1 ⟨hb, hf⟩
  obtain ⟨HA0, hbx⟩ := slots1 hb
  have Bk := hidK HA0
  replace HB := upB HB hbx
  clear hb hbx HA0
  by_cases hl : 8000 < t.size
  · have hd1 : decide ((t.size : Int) ≤ 8000) = false := by simp; omega
    rcases hf with ⟨j, n, hn, hnn, rfl⟩ | ⟨hno, rfl⟩
    · have Gk : Hid (w1.heap[w.heap.size]? = some (.cells #[.slice a1 l1 y1, .slice a2 l2 y2, .slice a3 l3 y3, .slice a4 l4 y4, .slice a5 l5 y5, .int .i64 c.now] 37 (0, 0))) := Bk.out
      have HW : Hid (Below w.heap.size w w1) := HB.out
      have k0 := fun q : Wd w1 => q.slot (o := 0) Gk.out rfl
      have k1 := fun q : Wd w1 => q.slot (o := 1) Gk.out rfl
      have k2 := fun q : Wd w1 => q.slot (o := 2) Gk.out rfl
      have k3 := fun q : Wd w1 => q.slot (o := 3) Gk.out rfl
      have k4 := fun q : Wd w1 => q.slot (o := 4) Gk.out rfl
      have k5 := fun q : Wd w1 => q.slot (o := 5) Gk.out rfl
      have hne0 := Wd.ne w1
      go_wp2_with fail
      refine wp_region_wide (by kernel_rfl) (by kernel_rfl) ?_
      repeat (go_big_quiet_step (first | fail))
      refine wpQuiet_nil ?_
      rintro _ ⟨q1, rfl⟩
      have HB2 := upB HW q1.b
      have Ck := upK Gk q1.b
      clear hne0 HW HB k0 k1 k2 k3 k4 k5 Gk Bk hd1
      have HB := HB2
      clear HB2
      have Bk := Ck
      clear Ck
      go_wp2
      go_ret
      exact BoolB.f (fun ⟨m, h, _⟩ => h.1 hl) HB.out
    · have Gk : Hid (w1.heap[w.heap.size]? = some (.cells #[.slice a1 l1 y1, .slice a2 l2 y2, .slice a3 l3 y3, .slice a4 l4 y4, .slice a5 l5 y5, .int .i64 c.now] 37 (0, 0))) := Bk.out
      have HW : Hid (Below w.heap.size w w1) := HB.out
      have k0 := fun q : Wd w1 => q.slot (o := 0) Gk.out rfl
      have k1 := fun q : Wd w1 => q.slot (o := 1) Gk.out rfl
      have k2 := fun q : Wd w1 => q.slot (o := 2) Gk.out rfl
      have k3 := fun q : Wd w1 => q.slot (o := 3) Gk.out rfl
      have k4 := fun q : Wd w1 => q.slot (o := 4) Gk.out rfl
      have k5 := fun q : Wd w1 => q.slot (o := 5) Gk.out rfl
      have hne0 := Wd.ne w1
      go_wp2_with fail
      refine wp_region_wide (by kernel_rfl) (by kernel_rfl) ?_
      repeat (go_big_quiet_step (first | fail))
      refine wpQuiet_nil ?_
      rintro _ ⟨q1, rfl⟩
      have HB2 := upB HW q1.b
      have Ck := upK Gk q1.b
      clear hne0 HW HB k0 k1 k2 k3 k4 k5 Gk Bk hd1
      have HB := HB2
      clear HB2
      have Bk := Ck
      clear Ck
      go_wp2
      go_ret
      exact BoolB.f (fun ⟨m, h, _⟩ => h.1 hl) HB.out
  have hd1 : decide ((t.size : Int) ≤ 8000) = true := by simp; omega
  rcases hf with ⟨j, n, hn, hnn, rfl⟩ | ⟨hno, rfl⟩
  rotate_left
  · have HNO := hidK hno
    clear hno
    have Gk : Hid (w1.heap[w.heap.size]? = some (.cells #[.slice a1 l1 y1, .slice a2 l2 y2, .slice a3 l3 y3, .slice a4 l4 y4, .slice a5 l5 y5, .int .i64 c.now] 37 (0, 0))) := Bk.out
    have HW : Hid (Below w.heap.size w w1) := HB.out
    have k0 := fun q : Wd w1 => q.slot (o := 0) Gk.out rfl
    have k1 := fun q : Wd w1 => q.slot (o := 1) Gk.out rfl
    have k2 := fun q : Wd w1 => q.slot (o := 2) Gk.out rfl
    have k3 := fun q : Wd w1 => q.slot (o := 3) Gk.out rfl
    have k4 := fun q : Wd w1 => q.slot (o := 4) Gk.out rfl
    have k5 := fun q : Wd w1 => q.slot (o := 5) Gk.out rfl
    have hne0 := Wd.ne w1
    go_wp2_with fail
    refine wp_region_wide (by kernel_rfl) (by kernel_rfl) ?_
    repeat (go_big_quiet_step (first | fail))
    refine wpQuiet_nil ?_
    rintro _ ⟨q1, rfl⟩
    have HB2 := upB HW q1.b
    have Ck := upK Gk q1.b
    clear hne0 HW HB k0 k1 k2 k3 k4 k5 Gk Bk hd1
    have HB := HB2
    clear HB2
    have Bk := Ck
    clear Ck
    go_wp2
    go_ret
    exact BoolB.f (fun ⟨m, h, _⟩ => by have h1 := (hit_at h.2.1.2.1.1.2.2 h.2.2.1 h.2.2.2).2; rw [hit_no HNO.out] at h1; cases h1) HB.out
  have HN := hidK (And.intro hn hnn)
  have hj1 : j < l1 := by have := (List.getElem?_eq_some_iff.1 hn).1; omega
  have hj2 : (j : Int) < l1 := by omega
  have hj0 : ¬ (j : Int) < 0 := by omega
  have hd2 : decide ((0 : Int) ≤ j) = true := by simp
  clear hn hnn
  by_cases hT : RightI c
  rotate_left
  · have Gk : Hid (w1.heap[w.heap.size]? = some (.cells #[.slice a1 l1 y1, .slice a2 l2 y2, .slice a3 l3 y3, .slice a4 l4 y4, .slice a5 l5 y5, .int .i64 c.now] 37 (0, 0))) := Bk.out
    have HW : Hid (Below w.heap.size w w1) := HB.out
    have k0 := fun q : Wd w1 => q.slot (o := 0) Gk.out rfl
    have k1 := fun q : Wd w1 => q.slot (o := 1) Gk.out rfl
    have k2 := fun q : Wd w1 => q.slot (o := 2) Gk.out rfl
    have k3 := fun q : Wd w1 => q.slot (o := 3) Gk.out rfl
    have k4 := fun q : Wd w1 => q.slot (o := 4) Gk.out rfl
    have k5 := fun q : Wd w1 => q.slot (o := 5) Gk.out rfl
    have hne0 := Wd.ne w1
    have HC0 := hidK (fun q : Wd w1 => sright_is ⟨a1, l1, y1, a2, l2, y2, a3, l3, y3, a4, l4, y4, a5, l5, y5⟩ c q.w (HR.out.below (HW.out.trans (q.b.mono HW.out.size))) false (⟨fun h => (by cases h), fun h => absurd h hT⟩))
    go_wp2_with fail
    refine wp_region_wide (by kernel_rfl) (by kernel_rfl) ?_
    repeat (go_big_quiet_step (first | (go_at_call 22; exact Calls.wide (HC0.out _)) | fail))
    refine wpQuiet_nil ?_
    rintro _ ⟨q1, rfl⟩
    have HB2 := upB HW q1.b
    have Ck := upK Gk q1.b
    clear hne0 HW HB HC0 k0 k1 k2 k3 k4 k5 Gk Bk hd1 hd2
    have HB := HB2
    clear HB2
    have Bk := Ck
    clear Ck
    go_wp2
    go_ret
    exact BoolB.f (fun ⟨m, h, _⟩ => hT h.2.1) HB.out
  have HT := hidK hT
  clear hT
  obtain ⟨b, o, y, rfl, hbl, hy, hat⟩ := nd_at (HR.out.n.below HB.out) hj1
  rw [HN.out.1] at hy
  obtain rfl := Option.some.inj hy
  obtain ⟨ua, ul, uc, -, -, -, -, -, -, -, hd4, -, -⟩ := nd_cells hat
  clear hat hy
  have HOK : Hid (NdOk c t n) := ⟨hl, HT.out, by rw [(hit_at HT.out.2.1.1.2.2 HN.out.1 HN.out.2).1]; exact HN.out.1, HN.out.2⟩
  obtain ⟨r, hr⟩ : ∃ r, r = decide (c.now < n.u) := ⟨_, rfl⟩
  have HRR := hidK hr
  replace hr := hr.symm
  have Gk : Hid (w1.heap[w.heap.size]? = some (.cells #[.slice (some ⟨b, o, none⟩) l1 y1, .slice a2 l2 y2, .slice a3 l3 y3, .slice a4 l4 y4, .slice a5 l5 y5, .int .i64 c.now] 37 (0, 0))) := Bk.out
  have HW : Hid (Below w.heap.size w w1) := HB.out
  have k0 := fun q : Wd w1 => q.slot (o := 0) Gk.out rfl
  have k1 := fun q : Wd w1 => q.slot (o := 1) Gk.out rfl
  have k2 := fun q : Wd w1 => q.slot (o := 2) Gk.out rfl
  have k3 := fun q : Wd w1 => q.slot (o := 3) Gk.out rfl
  have k4 := fun q : Wd w1 => q.slot (o := 4) Gk.out rfl
  have k5 := fun q : Wd w1 => q.slot (o := 5) Gk.out rfl
  have nu : ∀ q : Wd w1, q.w.cell? ⟨b, o + j * 7 + 4, none⟩ = some (.int .i64 n.u) := fun q => (q.cell (hbl)).trans (hd4)
  have hne0 := Wd.ne w1
  have HC0 := hidK (fun q : Wd w1 => sright_is ⟨(some ⟨b, o, none⟩), l1, y1, a2, l2, y2, a3, l3, y3, a4, l4, y4, a5, l5, y5⟩ c q.w (HR.out.below (HW.out.trans (q.b.mono HW.out.size))) true (⟨fun _ => HT.out, fun _ => rfl⟩))
  go_wp2_with fail
  refine wp_region_wide (by kernel_rfl) (by kernel_rfl) ?_
  repeat (go_big_quiet_step (first | (go_at_call 22; exact Calls.wide (HC0.out _)) | fail))
  refine wpQuiet_nil ?_
  rintro _ ⟨q1, rfl⟩
  have HB2 := upB HW q1.b
  have Ck := upK Gk q1.b
  clear hne0 HW HB HC0 k0 k1 k2 k3 k4 k5 nu Gk Bk hd1 hd2 hd4 hbl
  have HB := HB2
  clear HB2
  have Bk := Ck
  clear Ck
  go_wp2
  go_ret
  cases r
  · exact BoolB.f (fun ⟨m, h, h2⟩ => by obtain rfl := h.uniq HOK.out; exact (of_decide_eq_false HRR.out.symm) h2) HB.out
  · exact BoolB.t ⟨n, HOK.out, of_decide_eq_true HRR.out.symm⟩ HB.out

end Rc
end Go.Proofs.YtjafiakeddafoaaGreatDoor

namespace Go.Proofs.YtjafiakeddafoaaGreatDoor
open Go.RowKit Rc Mk

def ClV (c : Cl) : Fact := fun v w => ∃ d : Ad, v = .agg #[.slice d.a1 d.l1 d.c1, .slice d.a2 d.l2 d.c2, .slice d.a3 d.l3 d.c3, .slice d.a4 d.l4 d.c4, .slice d.a5 d.l5 d.c5, .int .i64 c.now] ∧ ClRow w d c.raw
theorem ClV.mono (c : Cl) : Fact.Mono (ClV c) := by
  rintro v w w' ⟨d, h1, h2⟩ hb
  exact ⟨d, h1, h2.below hb⟩

set_option linter.unusedVariables false in
set_option maxRecDepth 100000 in
set_option maxHeartbeats 6400000 in
theorem leaseLive_walk (d : Ad) (c : Cl) (t : ByteArray) (w : World) (hr : ClRow w d c.raw) (ht : t.size ≤ maxLen) (hG : Es3 w) :
    Calls Tryz.prog 3 #[.agg #[.slice d.a1 d.l1 d.c1, .slice d.a2 d.l2 d.c2, .slice d.a3 d.l3 d.c3, .slice d.a4 d.l4 d.c4, .slice d.a5 d.l5 d.c5, .int .i64 c.now], .string t] w fun e w' => e = .returned (.bool true) ∧ Below w.heap.size w w' := by
  have HR := hidK hr
  have HE := hidK hG
  have HB := hidK (Below.refl w.heap.size w)
  clear hr hG
  by_cases hlong : 1048576 < t.size
  · go_enter Tryz.func3, Tryz.ntmps3
    go_wp2
    go_ret
    exact ⟨rfl, below1 _ _⟩
  go_enter Tryz.func3, Tryz.ntmps3
  go_wp2_with fail
  refine (szCluster_any d c _ (HR.out.below (HB.out.trans ((below1 _ _).mono HB.out.size)))).mono ?_
  rintro e w1 ⟨r, rfl, hi, hb⟩
  obtain ⟨HA0, hbx⟩ := slots1 hb
  have Bk := hidK HA0
  replace HB := upB HB hbx
  clear hb hbx HA0
  rcases hi with rfl | ⟨hr0, -, hft⟩
  · obtain ⟨k0, k1, k2, k3, k4, k5⟩ := cs6 Bk.out
    have ltk_1 := lt_of_some Bk.out
    go_wp2
    go_ret
    exact ⟨rfl, HB.out⟩
  have HF := hidK hft
  clear hft
  obtain ⟨k0, k1, k2, k3, k4, k5⟩ := cs6 Bk.out
  have ltk_1 := lt_of_some Bk.out
  go_wp2_with fail
  refine (toCluster_any d c _ (HR.out.below HB.out) HF.out).mono ?_
  rintro e w2 ⟨d1, rfl, ho, hb⟩
  clear k0 k1 k2 k3 k4 k5 ltk_1
  replace Bk := upK Bk hb
  replace HB := upB HB hb
  clear hb
  have HO := hidK ho.row
  clear ho
  go_wp2_with fail
  have HO2 := HO
  clear HO
  refine (slive_any d1 c t _ HO2.out).mono ?_
  rintro e w3 ⟨r0, rfl, hi, hb⟩
  replace Bk := upK Bk hb
  replace HB := upB HB hb
  clear hb
  have HI := hidK hi
  clear hi HO2
  obtain ⟨k0, k1, k2, k3, k4, k5⟩ := cs6 Bk.out
  have ltk_3 := lt_of_some Bk.out
  go_wp2_with fail
  refine (toCluster_any d c _ (HR.out.below HB.out) HF.out).mono ?_
  rintro e w4 ⟨d2, rfl, ho, hb⟩
  clear k0 k1 k2 k3 k4 k5 ltk_3
  replace Bk := upK Bk hb
  replace HB := upB HB hb
  clear hb
  have HO := hidK ho.row
  clear ho
  go_wp2_with fail
  have HO3 := hidK (HO.out.below (below1 w4 (.cells #[.slice d2.a1 d2.l1 d2.c1, .slice d2.a2 d2.l2 d2.c2, .slice d2.a3 d2.l3 d2.c3, .slice d2.a4 d2.l4 d2.c4, .slice d2.a5 d2.l5 d2.c5, .int .i64 c.now] 37)))
  clear HO
  refine (ilvl_any d2 c t _ HO3.out (HE.out.below (HB.out.trans ((below1 _ _).mono HB.out.size)))).mono ?_
  rintro e w5 ⟨r1, rfl, hj, hb⟩
  have HO := hidK (HO3.out.below hb)
  clear HO3
  obtain ⟨HA0, hbx⟩ := slots1 hb
  replace Bk := upK Bk hbx
  have Bx := hidK HA0
  replace HB := upB HB hbx
  clear hb hbx HA0
  obtain rfl : r1 = r0 := by
    cases r1 <;> cases r0
    · rfl
    · exact (hj.2 (HI.out.1 rfl)).symm ▸ rfl
    · exact (HI.out.2 (hj.1 rfl)).symm ▸ rfl
    · rfl
  clear hj HI
  obtain ⟨W, hW0⟩ : ∃ W, W = w5 := ⟨_, rfl⟩
  rw [← hW0] at HO HB Bk Bx
  have hrr : (r1 == r1) = true := by simp
  go_wp2_with fail
  rw [← hW0]
  clear hW0 hrr
  rename_i K0 hK0
  refine wp_region_grow (back := none) (by kernel_rfl) (List.append_nil _).symm (by kernel_rfl) ?_
  refine' Grow.stepC _ rfl ?_ ?_
  rotate_left 1
  · refine Obl.plain rfl ?_
    intro ac wg K hsz hW hf hK; clear hsz
    have e7 := hf 7 (by decide)
    simp [slotFact, List.lookup] at e7
    clear hf
    obtain ⟨k0, k1, k2, k3, k4, k5⟩ := cs6 ((hW.block _ (lt_of_some Bx.out)).trans Bx.out)
    go_simp
    refine hK _ _ (Below.refl _ _) ?_
    with_reducible rfl
  refine' Grow.stepC _ rfl ?_ ?_
  rotate_left 1
  · refine Obl.plain rfl ?_
    intro ac wg K hsz hW hf hK; clear hsz
    have e2 := hf 2 (by decide)
    simp [slotFact, List.lookup] at e2
    clear hf
    obtain ⟨k0, k1, k2, k3, k4, k5⟩ := cs6 ((hW.block _ (lt_of_some Bk.out)).trans Bk.out)
    go_simp
    refine hK _ _ (Below.refl _ _) ?_
    with_reducible rfl
  refine Grow.step (ClV c) rfl (ClV.mono c) ?_ ?_
  · refine Obl.plain rfl ?_
    intro ac wg K hsz hW hf hK; clear hsz
    have e30 := hf 30 (by decide)
    simp [slotFact, List.lookup] at e30
    clear hf
    go_simp
    refine (toCluster_any d c _ (HR.out.below (HB.out.trans (hW.mono HB.out.size))) HF.out).mono ?_
    rintro e w6 ⟨d3, rfl, ho, hb6⟩
    exact hK _ _ hb6 ⟨d3, rfl, ho.row⟩
  refine' Grow.stepC (.bool true) rfl ?_ ?_
  · refine Obl.plain rfl ?_
    intro ac wg K hsz hW hf hK; clear hsz
    have e29 := hf 29 (by decide)
    simp [slotFact, List.lookup] at e29
    have e31 := hf 31 (by decide)
    simp [slotFact, List.lookup] at e31
    obtain ⟨d3, e31, hrow⟩ := e31
    clear hf
    go_simp
    refine (eqCluster_any d2 d3 c _ (HO.out.below hW) hrow).mono ?_
    rintro e w6 ⟨rfl, hb6⟩
    exact hK _ _ hb6 rfl
  refine' Grow.stepC _ rfl ?_ ?_
  rotate_left 1
  · refine Obl.plain rfl ?_
    intro ac wg K hsz hW hf hK; clear hsz
    have e32 := hf 32 (by decide)
    simp [slotFact, List.lookup] at e32
    clear hf
    go_simp
    refine hK _ _ (Below.refl _ _) ?_
    with_reducible rfl
  refine Grow.done ?_
  intro q wz hW hf
  simp only [List.forall_mem_cons] at hf
  obtain ⟨h33, -⟩ := hf
  have HZ := upB HB hW
  refine hK0 _ _ ?_
  simp only [putsAll, List.foldr, Act.put, List.setIfInBounds_toArray, List.set_cons_zero, List.set_cons_succ, h33]
  clear hK0
  go_wp2_with fail
  go_ret
  exact ⟨rfl, HZ.out⟩

set_option linter.unusedVariables false in
theorem fnExactLeaseLive_walk (a1 : Option Addr) (l1 y1 : Nat) (ns : List Nd) (a2 : Option Addr) (l2 y2 : Nat) (ks : List Kd) (a3 : Option Addr) (l3 y3 : Nat) (vs : List Vd) (a4 : Option Addr) (l4 y4 : Nat) (xs : List Xd) (a5 : Option Addr) (l5 y5 : Nat) (ps : List Pd) (now : Int) (t : ByteArray) (w : World)
    (h1 : RRow w a1 l1 y1 7 (ns.map ndF)) (h2 : RRow w a2 l2 y2 4 (ks.map kdF)) (h3 : RRow w a3 l3 y3 8 (vs.map vdF)) (h4 : RRow w a4 l4 y4 5 (xs.map xdF)) (h5 : RRow w a5 l5 y5 6 (ps.map pdF)) (_ : (Lit.int .i64 now).wf = true) (ht : t.size ≤ maxLen) (hG : Es3 w) :
    Calls Tryz.prog 3 #[.agg #[.slice a1 l1 y1, .slice a2 l2 y2, .slice a3 l3 y3, .slice a4 l4 y4, .slice a5 l5 y5, .int .i64 now], .string t] w fun e w' => e = .returned (.bool true) ∧ Below w.heap.size w w' :=
  leaseLive_walk ⟨a1, l1, y1, a2, l2, y2, a3, l3, y3, a4, l4, y4, a5, l5, y5⟩ ⟨ns, ks, vs, xs, ps, now⟩ t w ⟨h1, h2, h3, h4, h5⟩ ht hG

end Go.Proofs.YtjafiakeddafoaaGreatDoor

namespace Go.Proofs.YtjafiakeddafoaaGreatDoor
open Go.RowKit Go.Extern.Stop Go.Stop Go.Extern
namespace Rc

end Rc
end Go.Proofs.YtjafiakeddafoaaGreatDoor

namespace Go.Proofs.YtjafiakeddafoaaGreatDoor
open Go.RowKit
namespace Rc

theorem vars_length {H : Type} {enc : TypeId × Value → H} {P : Program} {w : World} {sp : Nat → Bool} : ∀ (ns : List String) (gs : List (DataW H)) (ps : List MemPlace), DataW.TrodVars enc P w sp ns gs ps → gs.length = ns.length
  | [], [], _, _ => rfl
  | [], _ :: _, _, h => h.elim
  | _ :: _, [], _, h => h.elim
  | _ :: ns, _ :: gs, _, h => by
    obtain ⟨_, _, _, _, _, q, _, _, _, _, h1, _⟩ := h
    simp [vars_length ns gs q h1]
theorem len3 {α : Type} : ∀ {l : List α}, l.length = 3 → ∃ a b c, l = [a, b, c]
  | [a, b, c], _ => ⟨a, b, c, rfl⟩
end Rc
end Go.Proofs.YtjafiakeddafoaaGreatDoor

namespace Go.Proofs.YtjafiakeddafoaaGreatDoor
open Go.RowKit Go.ChangeShapes Go.WideShapes Go.Deep

theorem list6 {α : Type} {l : List α} (h : l.length = 6) : ∃ x0 x1 x2 x3 x4 x5, l = [x0, x1, x2, x3, x4, x5] := by
  match l, h with
  | [x0, x1, x2, x3, x4, x5], _ => exact ⟨_, _, _, _, _, _, rfl⟩
section
variable {H : Type} {enc : TypeId × Value → H} {P : Program} {w : World} {base : Nat} {spare : Nat → Bool} {held : Bool}

theorem open_aggN {r : Reach} {b0 : Nat} {t : TypeId} {fs : Array Field} {v : Value} {d : DataW H} {p : List MemPlace} (hs : P.underlying t = some (.struct fs)) (hone : oneCellFields P fs = true) (hC : P.cellsOf t = fs.size)
    (hv : Value.okWide P w r b0 t v) (h : DataW.Trod enc P w base spare held t v d p) :
    ∃ (cs : List Value) (n : Nat), v = .agg cs.toArray ∧ cs.length = fs.size ∧ ∀ (i : Nat) (f : Field), fs[i]? = some f → ∃ c y, cs[i]? = some c ∧ DataW.trod enc P w base spare held n f.type [c] = some y := by
  obtain ⟨cs, rfl, hsz⟩ := okWide_struct hs hv
  obtain ⟨fuel, hf⟩ := h
  obtain ⟨xs, n, _, hx, hl, hlen, hf'⟩ := DataW.trod_struct hs hf
  refine ⟨cs.toList, n, rfl, by rw [Array.length_toList]; exact hsz.trans hC, fun i f hi => ?_⟩
  obtain ⟨o, k⟩ := hone_of hone i f hi
  have hlt : i < fs.size := (Array.getElem?_eq_some_iff.1 hi).1
  have hlc : i < cs.toList.length := by rw [Array.length_toList, hsz, hC]; exact hlt
  have g := hf' i f hi
  rw [o, k] at g
  have e : ((Value.agg cs).cells.toList.drop i).take 1 = [cs.toList[i]'hlc] := by
    show (cs.toList.drop i).take 1 = _
    rw [List.drop_eq_getElem_cons hlc]
    rfl
  rw [e] at g
  exact ⟨_, xs[i]'(by omega), List.getElem?_eq_getElem hlc, by rw [g, List.getElem?_eq_getElem]⟩

theorem row_of_trod {t e : TypeId} {n : Nat} {c : Value} {y : DataW H × List MemPlace} (ht : P.underlying t = some (.slice e)) (he : P.underlying e = some .string) (hc : P.cellsOf e = 1)
    (h : DataW.trod enc P w base spare held n t [c] = some y) : ∃ a len cap zs, c = .slice a len cap ∧ TxRow w a len cap zs := by
  rcases open_strs ht he hc h with ⟨hcs, _⟩ | ⟨a, len, cap, m, Sx, hcs, hb, hl, hm, hmm, _, hx⟩
  · exact ⟨none, 0, 0, [], by simpa using hcs, rfl, Nat.le_refl _, by omega, fun j x hx => by simp at hx, Or.inl rfl⟩
  · have hlm : len ≤ m := by rw [hmm]; split <;> omega
    have hm' : cap ≤ 9223372036854775807 := by unfold maxLen at hm; omega
    refine ⟨some a, len, cap, (List.range len).map Sx, by simpa using hcs, by simp, hl, hm', fun j x hj => ?_, ?_⟩
    · rw [List.getElem?_map] at hj
      by_cases hjl : j < len
      · rw [List.getElem?_range hjl] at hj
        obtain rfl := Option.some.inj hj
        have := (hx j (by omega)).2
        unfold maxLen at this
        omega
      · rw [List.getElem?_eq_none (by simp; omega)] at hj
        cases hj
    · by_cases h0 : len = 0
      · subst h0; exact Or.inl rfl
      right
      obtain ⟨b, o, spot⟩ := a
      have h0' := (hx 0 (by omega)).1
      have hspot : spot = none := by simpa [Addr.add] using World.cell?_spot h0'
      subst hspot
      refine ⟨b, o, rfl, ?_, fun j x hj => ?_⟩
      · rw [Addr.add_lit] at h0'
        rcases Nat.lt_or_ge b w.heap.size with h1 | h1
        · exact h1
        · simp [World.cell?, Array.getElem?_eq_none h1] at h0'
      · rw [List.getElem?_map] at hj
        by_cases hjl : j < len
        · rw [List.getElem?_range hjl] at hj
          obtain rfl := Option.some.inj hj
          have := (hx j (by omega)).1
          rw [Addr.add_lit] at this
          exact this
        · rw [List.getElem?_eq_none (by simp; omega)] at hj
          cases hj
end

section
variable {H : Type} {enc : TypeId × Value → H} {w : World} {base : Nat} {spare : Nat → Bool} {held : Bool}

theorem open_aggC {P : Program} {n : Nat} {t : TypeId} {fs : Array Field} {cs : List Value} {x : DataW H × List MemPlace} (hs : P.underlying t = some (.struct fs)) (hone : oneCellFields P fs = true) (hC : P.cellsOf t = fs.size)
    (h : DataW.trod enc P w base spare held n t cs = some x) :
    ∃ (n : Nat), cs.length = fs.size ∧ ∀ (i : Nat) (f : Field), fs[i]? = some f → ∃ c y, cs[i]? = some c ∧ DataW.trod enc P w base spare held n f.type [c] = some y := by
  obtain ⟨xs, n, _, hx, hl, hlen, hf'⟩ := DataW.trod_struct hs h
  refine ⟨n, hl.trans hC, fun i f hi => ?_⟩
  obtain ⟨o, k⟩ := hone_of hone i f hi
  have hlt : i < fs.size := (Array.getElem?_eq_some_iff.1 hi).1
  have hlc : i < cs.length := by rw [hl, hC]; exact hlt
  have g := hf' i f hi
  rw [o, k] at g
  have e : (cs.drop i).take 1 = [cs[i]'hlc] := by
    rw [List.drop_eq_getElem_cons hlc]
    rfl
  rw [e] at g
  exact ⟨_, xs[i]'(by omega), List.getElem?_eq_getElem hlc, by rw [g, List.getElem?_eq_getElem]⟩

end

end Go.Proofs.YtjafiakeddafoaaGreatDoor

namespace Go.Proofs.YtjafiakeddafoaaGreatDoor
open Go.RowKit Go.ChangeShapes Go.WideShapes Go.Deep
namespace Rc

section
variable {H : Type} {enc : TypeId × Value → H} {w : World} {base : Nat} {spare : Nat → Bool} {held : Bool}

theorem nd_of_trod {b o n : Nat} {cs : List Value} {x : DataW H × List MemPlace} (hc : ∀ i, i < 7 → w.cell? ⟨b, o + i, none⟩ = cs[i]?) (h : DataW.trod enc Tryz.prog w base spare held n 84 cs = some x) : ∃ v : Nd, RAt w b o (ndF v) := by
  obtain ⟨m, hl, hf⟩ := open_aggC Tryz.underlying84 (by kernel_rfl) (by kernel_rfl) h
  obtain ⟨c0, y0, e0, t0⟩ := hf 0 _ rfl
  obtain ⟨b0, q0, -, s0⟩ := DataW.trod_string Tryz.underlying9 t0
  obtain rfl : c0 = .string b0 := by simpa using q0
  obtain ⟨c1, y1, e1, t1⟩ := hf 1 _ rfl
  obtain ⟨b1, q1, -, s1⟩ := DataW.trod_string Tryz.underlying9 t1
  obtain rfl : c1 = .string b1 := by simpa using q1
  obtain ⟨c2, y2, e2, t2⟩ := hf 2 _ rfl
  obtain ⟨b2, q2, -, s2⟩ := DataW.trod_int Tryz.underlying2 t2
  obtain rfl : c2 = .int .i64 b2 := by simpa using q2
  obtain ⟨c3, y3, e3, t3⟩ := hf 3 _ rfl
  obtain ⟨b3, q3, -, s3⟩ := DataW.trod_int Tryz.underlying2 t3
  obtain rfl : c3 = .int .i64 b3 := by simpa using q3
  obtain ⟨c4, y4, e4, t4⟩ := hf 4 _ rfl
  obtain ⟨b4, q4, -, s4⟩ := DataW.trod_int Tryz.underlying2 t4
  obtain rfl : c4 = .int .i64 b4 := by simpa using q4
  obtain ⟨c5, y5, e5, t5⟩ := hf 5 _ rfl
  obtain ⟨b5, q5, -⟩ := DataW.trod_bool Tryz.underlying4 t5
  obtain rfl : c5 = .bool b5 := by simpa using q5
  obtain ⟨c6, y6, e6, t6⟩ := hf 6 _ rfl
  obtain ⟨b6, l6, p6, zz, rfl, r6⟩ := row_of_trod Tryz.underlying41 Tryz.underlying9 (by kernel_rfl) t6
  unfold maxLen at s0 s1
  refine ⟨⟨b0, b1, b2, b3, b4, b5, zz⟩, fun i f hi => ?_⟩
  rcases i with _ | _ | _ | _ | _ | _ | _ | i
  · cases hi
    exact ⟨_, (hc 0 (by omega)).trans e0, rfl, show b0.size ≤ _ by omega⟩
  · cases hi
    exact ⟨_, (hc 1 (by omega)).trans e1, rfl, show b1.size ≤ _ by omega⟩
  · cases hi
    exact ⟨_, (hc 2 (by omega)).trans e2, rfl⟩
  · cases hi
    exact ⟨_, (hc 3 (by omega)).trans e3, rfl⟩
  · cases hi
    exact ⟨_, (hc 4 (by omega)).trans e4, rfl⟩
  · cases hi
    exact ⟨_, (hc 5 (by omega)).trans e5, rfl⟩
  · cases hi
    exact ⟨_, (hc 6 (by omega)).trans e6, b6, l6, p6, rfl, r6⟩
  · first | (cases hi; done) | (simp [ndF] at hi; done)

theorem ndrow_of_trod {n : Nat} {c : Value} {y : DataW H × List MemPlace} (h : DataW.trod enc Tryz.prog w base spare held n 22 [c] = some y) : ∃ a len cap, ∃ xs : List Nd, c = .slice a len cap ∧ RRow w a len cap 7 (xs.map ndF) := by
  rcases open_slice Tryz.underlying22 h with ⟨hcs, _⟩ | ⟨a, len, cap, m, n', D, Pl, hcs, hb, hl, hm, hmm, _, hx⟩
  · exact ⟨none, 0, 0, [], by simpa using hcs, rfl, Nat.le_refl _, by omega, .inl rfl⟩
  have hlm : len ≤ m := by rw [hmm]; split <;> omega
  have hm' : cap ≤ 9223372036854775807 := by unfold maxLen at hm; omega
  have hce : Tryz.prog.cellsOf 84 = 7 := by kernel_rfl
  rw [hce] at hx
  by_cases h0 : len = 0
  · subst h0
    exact ⟨some a, 0, cap, [], by simpa using hcs, rfl, hl, hm', .inl rfl⟩
  obtain ⟨b, o, spot⟩ := a
  obtain ⟨cs0, k1, k2⟩ := hx 0 (by omega)
  have hspot : spot = none := by
    obtain ⟨_, hl0, hc0⟩ := World.cells?_some k1
    have := hc0 0 (by omega)
    rw [List.getElem?_eq_getElem (by omega)] at this
    simpa [Addr.add] using World.cell?_spot this
  subst hspot
  have hblt : b < w.heap.size := by
    obtain ⟨_, hl0, hc0⟩ := World.cells?_some k1
    have := hc0 0 (by omega)
    rw [List.getElem?_eq_getElem (by omega)] at this
    rcases Nat.lt_or_ge b w.heap.size with h1 | h1
    · exact h1
    · simp [Addr.add, World.cell?, Array.getElem?_eq_none h1] at this
  have each : ∀ i, i < len → ∃ v : Nd, RAt w b (o + i * 7) (ndF v) := fun i hi => by
    obtain ⟨cs, k1, k2⟩ := hx i (by omega)
    obtain ⟨_, hl0, hc0⟩ := World.cells?_some k1
    refine nd_of_trod (fun j hj => ?_) k2
    have := hc0 j hj
    rw [add_add, Addr.add_lit] at this
    rw [Nat.add_assoc]
    exact this
  have hin : Inhabited Nd := ⟨⟨⟨#[]⟩, ⟨#[]⟩, 0, 0, 0, false, []⟩⟩
  obtain ⟨f, hf⟩ := choose_lt each
  refine ⟨some ⟨b, o, none⟩, len, cap, (List.range len).map f, by simpa using hcs, by simp, hl, hm', .inr ⟨b, o, rfl, hblt, fun j r hj => ?_⟩⟩
  rw [List.getElem?_map, List.getElem?_map] at hj
  by_cases hjl : j < len
  · rw [List.getElem?_range hjl] at hj
    obtain rfl := Option.some.inj hj
    exact hf j hjl
  · rw [List.getElem?_eq_none (by simp; omega)] at hj
    cases hj

theorem kd_of_trod {b o n : Nat} {cs : List Value} {x : DataW H × List MemPlace} (hc : ∀ i, i < 4 → w.cell? ⟨b, o + i, none⟩ = cs[i]?) (h : DataW.trod enc Tryz.prog w base spare held n 87 cs = some x) : ∃ v : Kd, RAt w b o (kdF v) := by
  obtain ⟨m, hl, hf⟩ := open_aggC Tryz.underlying87 (by kernel_rfl) (by kernel_rfl) h
  obtain ⟨c0, y0, e0, t0⟩ := hf 0 _ rfl
  obtain ⟨b0, q0, -, s0⟩ := DataW.trod_string Tryz.underlying9 t0
  obtain rfl : c0 = .string b0 := by simpa using q0
  obtain ⟨c1, y1, e1, t1⟩ := hf 1 _ rfl
  obtain ⟨b1, q1, -⟩ := DataW.trod_bool Tryz.underlying4 t1
  obtain rfl : c1 = .bool b1 := by simpa using q1
  obtain ⟨c2, y2, e2, t2⟩ := hf 2 _ rfl
  obtain ⟨b2, q2, -⟩ := DataW.trod_bool Tryz.underlying4 t2
  obtain rfl : c2 = .bool b2 := by simpa using q2
  obtain ⟨c3, y3, e3, t3⟩ := hf 3 _ rfl
  obtain ⟨b3, q3, -, s3⟩ := DataW.trod_string Tryz.underlying9 t3
  obtain rfl : c3 = .string b3 := by simpa using q3
  unfold maxLen at s0 s3
  refine ⟨⟨b0, b1, b2, b3⟩, fun i f hi => ?_⟩
  rcases i with _ | _ | _ | _ | i
  · cases hi
    exact ⟨_, (hc 0 (by omega)).trans e0, rfl, show b0.size ≤ _ by omega⟩
  · cases hi
    exact ⟨_, (hc 1 (by omega)).trans e1, rfl⟩
  · cases hi
    exact ⟨_, (hc 2 (by omega)).trans e2, rfl⟩
  · cases hi
    exact ⟨_, (hc 3 (by omega)).trans e3, rfl, show b3.size ≤ _ by omega⟩
  · first | (cases hi; done) | (simp [kdF] at hi; done)

theorem kdrow_of_trod {n : Nat} {c : Value} {y : DataW H × List MemPlace} (h : DataW.trod enc Tryz.prog w base spare held n 23 [c] = some y) : ∃ a len cap, ∃ xs : List Kd, c = .slice a len cap ∧ RRow w a len cap 4 (xs.map kdF) := by
  rcases open_slice Tryz.underlying23 h with ⟨hcs, _⟩ | ⟨a, len, cap, m, n', D, Pl, hcs, hb, hl, hm, hmm, _, hx⟩
  · exact ⟨none, 0, 0, [], by simpa using hcs, rfl, Nat.le_refl _, by omega, .inl rfl⟩
  have hlm : len ≤ m := by rw [hmm]; split <;> omega
  have hm' : cap ≤ 9223372036854775807 := by unfold maxLen at hm; omega
  have hce : Tryz.prog.cellsOf 87 = 4 := by kernel_rfl
  rw [hce] at hx
  by_cases h0 : len = 0
  · subst h0
    exact ⟨some a, 0, cap, [], by simpa using hcs, rfl, hl, hm', .inl rfl⟩
  obtain ⟨b, o, spot⟩ := a
  obtain ⟨cs0, k1, k2⟩ := hx 0 (by omega)
  have hspot : spot = none := by
    obtain ⟨_, hl0, hc0⟩ := World.cells?_some k1
    have := hc0 0 (by omega)
    rw [List.getElem?_eq_getElem (by omega)] at this
    simpa [Addr.add] using World.cell?_spot this
  subst hspot
  have hblt : b < w.heap.size := by
    obtain ⟨_, hl0, hc0⟩ := World.cells?_some k1
    have := hc0 0 (by omega)
    rw [List.getElem?_eq_getElem (by omega)] at this
    rcases Nat.lt_or_ge b w.heap.size with h1 | h1
    · exact h1
    · simp [Addr.add, World.cell?, Array.getElem?_eq_none h1] at this
  have each : ∀ i, i < len → ∃ v : Kd, RAt w b (o + i * 4) (kdF v) := fun i hi => by
    obtain ⟨cs, k1, k2⟩ := hx i (by omega)
    obtain ⟨_, hl0, hc0⟩ := World.cells?_some k1
    refine kd_of_trod (fun j hj => ?_) k2
    have := hc0 j hj
    rw [add_add, Addr.add_lit] at this
    rw [Nat.add_assoc]
    exact this
  have hin : Inhabited Kd := ⟨⟨⟨#[]⟩, false, false, ⟨#[]⟩⟩⟩
  obtain ⟨f, hf⟩ := choose_lt each
  refine ⟨some ⟨b, o, none⟩, len, cap, (List.range len).map f, by simpa using hcs, by simp, hl, hm', .inr ⟨b, o, rfl, hblt, fun j r hj => ?_⟩⟩
  rw [List.getElem?_map, List.getElem?_map] at hj
  by_cases hjl : j < len
  · rw [List.getElem?_range hjl] at hj
    obtain rfl := Option.some.inj hj
    exact hf j hjl
  · rw [List.getElem?_eq_none (by simp; omega)] at hj
    cases hj

theorem vd_of_trod {b o n : Nat} {cs : List Value} {x : DataW H × List MemPlace} (hc : ∀ i, i < 8 → w.cell? ⟨b, o + i, none⟩ = cs[i]?) (h : DataW.trod enc Tryz.prog w base spare held n 90 cs = some x) : ∃ v : Vd, RAt w b o (vdF v) := by
  obtain ⟨m, hl, hf⟩ := open_aggC Tryz.underlying90 (by kernel_rfl) (by kernel_rfl) h
  obtain ⟨c0, y0, e0, t0⟩ := hf 0 _ rfl
  obtain ⟨b0, q0, -, s0⟩ := DataW.trod_string Tryz.underlying9 t0
  obtain rfl : c0 = .string b0 := by simpa using q0
  obtain ⟨c1, y1, e1, t1⟩ := hf 1 _ rfl
  obtain ⟨b1, q1, -, s1⟩ := DataW.trod_int Tryz.underlying2 t1
  obtain rfl : c1 = .int .i64 b1 := by simpa using q1
  obtain ⟨c2, y2, e2, t2⟩ := hf 2 _ rfl
  obtain ⟨b2, q2, -, s2⟩ := DataW.trod_string Tryz.underlying9 t2
  obtain rfl : c2 = .string b2 := by simpa using q2
  obtain ⟨c3, y3, e3, t3⟩ := hf 3 _ rfl
  obtain ⟨b3, q3, -, s3⟩ := DataW.trod_string Tryz.underlying9 t3
  obtain rfl : c3 = .string b3 := by simpa using q3
  obtain ⟨c4, y4, e4, t4⟩ := hf 4 _ rfl
  obtain ⟨b4, q4, -⟩ := DataW.trod_bool Tryz.underlying4 t4
  obtain rfl : c4 = .bool b4 := by simpa using q4
  obtain ⟨c5, y5, e5, t5⟩ := hf 5 _ rfl
  obtain ⟨b5, q5, -, s5⟩ := DataW.trod_string Tryz.underlying9 t5
  obtain rfl : c5 = .string b5 := by simpa using q5
  obtain ⟨c6, y6, e6, t6⟩ := hf 6 _ rfl
  obtain ⟨b6, q6, -⟩ := DataW.trod_bool Tryz.underlying4 t6
  obtain rfl : c6 = .bool b6 := by simpa using q6
  obtain ⟨c7, y7, e7, t7⟩ := hf 7 _ rfl
  obtain ⟨b7, l7, p7, zz, rfl, r7⟩ := row_of_trod Tryz.underlying41 Tryz.underlying9 (by kernel_rfl) t7
  unfold maxLen at s0 s2 s3 s5
  refine ⟨⟨b0, b1, b2, b3, b4, b5, b6, zz⟩, fun i f hi => ?_⟩
  rcases i with _ | _ | _ | _ | _ | _ | _ | _ | i
  · cases hi
    exact ⟨_, (hc 0 (by omega)).trans e0, rfl, show b0.size ≤ _ by omega⟩
  · cases hi
    exact ⟨_, (hc 1 (by omega)).trans e1, rfl⟩
  · cases hi
    exact ⟨_, (hc 2 (by omega)).trans e2, rfl, show b2.size ≤ _ by omega⟩
  · cases hi
    exact ⟨_, (hc 3 (by omega)).trans e3, rfl, show b3.size ≤ _ by omega⟩
  · cases hi
    exact ⟨_, (hc 4 (by omega)).trans e4, rfl⟩
  · cases hi
    exact ⟨_, (hc 5 (by omega)).trans e5, rfl, show b5.size ≤ _ by omega⟩
  · cases hi
    exact ⟨_, (hc 6 (by omega)).trans e6, rfl⟩
  · cases hi
    exact ⟨_, (hc 7 (by omega)).trans e7, b7, l7, p7, rfl, r7⟩
  · first | (cases hi; done) | (simp [vdF] at hi; done)

theorem vdrow_of_trod {n : Nat} {c : Value} {y : DataW H × List MemPlace} (h : DataW.trod enc Tryz.prog w base spare held n 24 [c] = some y) : ∃ a len cap, ∃ xs : List Vd, c = .slice a len cap ∧ RRow w a len cap 8 (xs.map vdF) := by
  rcases open_slice Tryz.underlying24 h with ⟨hcs, _⟩ | ⟨a, len, cap, m, n', D, Pl, hcs, hb, hl, hm, hmm, _, hx⟩
  · exact ⟨none, 0, 0, [], by simpa using hcs, rfl, Nat.le_refl _, by omega, .inl rfl⟩
  have hlm : len ≤ m := by rw [hmm]; split <;> omega
  have hm' : cap ≤ 9223372036854775807 := by unfold maxLen at hm; omega
  have hce : Tryz.prog.cellsOf 90 = 8 := by kernel_rfl
  rw [hce] at hx
  by_cases h0 : len = 0
  · subst h0
    exact ⟨some a, 0, cap, [], by simpa using hcs, rfl, hl, hm', .inl rfl⟩
  obtain ⟨b, o, spot⟩ := a
  obtain ⟨cs0, k1, k2⟩ := hx 0 (by omega)
  have hspot : spot = none := by
    obtain ⟨_, hl0, hc0⟩ := World.cells?_some k1
    have := hc0 0 (by omega)
    rw [List.getElem?_eq_getElem (by omega)] at this
    simpa [Addr.add] using World.cell?_spot this
  subst hspot
  have hblt : b < w.heap.size := by
    obtain ⟨_, hl0, hc0⟩ := World.cells?_some k1
    have := hc0 0 (by omega)
    rw [List.getElem?_eq_getElem (by omega)] at this
    rcases Nat.lt_or_ge b w.heap.size with h1 | h1
    · exact h1
    · simp [Addr.add, World.cell?, Array.getElem?_eq_none h1] at this
  have each : ∀ i, i < len → ∃ v : Vd, RAt w b (o + i * 8) (vdF v) := fun i hi => by
    obtain ⟨cs, k1, k2⟩ := hx i (by omega)
    obtain ⟨_, hl0, hc0⟩ := World.cells?_some k1
    refine vd_of_trod (fun j hj => ?_) k2
    have := hc0 j hj
    rw [add_add, Addr.add_lit] at this
    rw [Nat.add_assoc]
    exact this
  have hin : Inhabited Vd := ⟨⟨⟨#[]⟩, 0, ⟨#[]⟩, ⟨#[]⟩, false, ⟨#[]⟩, false, []⟩⟩
  obtain ⟨f, hf⟩ := choose_lt each
  refine ⟨some ⟨b, o, none⟩, len, cap, (List.range len).map f, by simpa using hcs, by simp, hl, hm', .inr ⟨b, o, rfl, hblt, fun j r hj => ?_⟩⟩
  rw [List.getElem?_map, List.getElem?_map] at hj
  by_cases hjl : j < len
  · rw [List.getElem?_range hjl] at hj
    obtain rfl := Option.some.inj hj
    exact hf j hjl
  · rw [List.getElem?_eq_none (by simp; omega)] at hj
    cases hj

theorem xd_of_trod {b o n : Nat} {cs : List Value} {x : DataW H × List MemPlace} (hc : ∀ i, i < 5 → w.cell? ⟨b, o + i, none⟩ = cs[i]?) (h : DataW.trod enc Tryz.prog w base spare held n 93 cs = some x) : ∃ v : Xd, RAt w b o (xdF v) := by
  obtain ⟨m, hl, hf⟩ := open_aggC Tryz.underlying93 (by kernel_rfl) (by kernel_rfl) h
  obtain ⟨c0, y0, e0, t0⟩ := hf 0 _ rfl
  obtain ⟨b0, q0, -, s0⟩ := DataW.trod_string Tryz.underlying9 t0
  obtain rfl : c0 = .string b0 := by simpa using q0
  obtain ⟨c1, y1, e1, t1⟩ := hf 1 _ rfl
  obtain ⟨b1, q1, -, s1⟩ := DataW.trod_int Tryz.underlying2 t1
  obtain rfl : c1 = .int .i64 b1 := by simpa using q1
  obtain ⟨c2, y2, e2, t2⟩ := hf 2 _ rfl
  obtain ⟨b2, q2, -, s2⟩ := DataW.trod_string Tryz.underlying9 t2
  obtain rfl : c2 = .string b2 := by simpa using q2
  obtain ⟨c3, y3, e3, t3⟩ := hf 3 _ rfl
  obtain ⟨b3, q3, -⟩ := DataW.trod_bool Tryz.underlying4 t3
  obtain rfl : c3 = .bool b3 := by simpa using q3
  obtain ⟨c4, y4, e4, t4⟩ := hf 4 _ rfl
  obtain ⟨b4, q4, -, s4⟩ := DataW.trod_string Tryz.underlying9 t4
  obtain rfl : c4 = .string b4 := by simpa using q4
  unfold maxLen at s0 s2 s4
  refine ⟨⟨b0, b1, b2, b3, b4⟩, fun i f hi => ?_⟩
  rcases i with _ | _ | _ | _ | _ | i
  · cases hi
    exact ⟨_, (hc 0 (by omega)).trans e0, rfl, show b0.size ≤ _ by omega⟩
  · cases hi
    exact ⟨_, (hc 1 (by omega)).trans e1, rfl⟩
  · cases hi
    exact ⟨_, (hc 2 (by omega)).trans e2, rfl, show b2.size ≤ _ by omega⟩
  · cases hi
    exact ⟨_, (hc 3 (by omega)).trans e3, rfl⟩
  · cases hi
    exact ⟨_, (hc 4 (by omega)).trans e4, rfl, show b4.size ≤ _ by omega⟩
  · first | (cases hi; done) | (simp [xdF] at hi; done)

theorem xdrow_of_trod {n : Nat} {c : Value} {y : DataW H × List MemPlace} (h : DataW.trod enc Tryz.prog w base spare held n 25 [c] = some y) : ∃ a len cap, ∃ xs : List Xd, c = .slice a len cap ∧ RRow w a len cap 5 (xs.map xdF) := by
  rcases open_slice Tryz.underlying25 h with ⟨hcs, _⟩ | ⟨a, len, cap, m, n', D, Pl, hcs, hb, hl, hm, hmm, _, hx⟩
  · exact ⟨none, 0, 0, [], by simpa using hcs, rfl, Nat.le_refl _, by omega, .inl rfl⟩
  have hlm : len ≤ m := by rw [hmm]; split <;> omega
  have hm' : cap ≤ 9223372036854775807 := by unfold maxLen at hm; omega
  have hce : Tryz.prog.cellsOf 93 = 5 := by kernel_rfl
  rw [hce] at hx
  by_cases h0 : len = 0
  · subst h0
    exact ⟨some a, 0, cap, [], by simpa using hcs, rfl, hl, hm', .inl rfl⟩
  obtain ⟨b, o, spot⟩ := a
  obtain ⟨cs0, k1, k2⟩ := hx 0 (by omega)
  have hspot : spot = none := by
    obtain ⟨_, hl0, hc0⟩ := World.cells?_some k1
    have := hc0 0 (by omega)
    rw [List.getElem?_eq_getElem (by omega)] at this
    simpa [Addr.add] using World.cell?_spot this
  subst hspot
  have hblt : b < w.heap.size := by
    obtain ⟨_, hl0, hc0⟩ := World.cells?_some k1
    have := hc0 0 (by omega)
    rw [List.getElem?_eq_getElem (by omega)] at this
    rcases Nat.lt_or_ge b w.heap.size with h1 | h1
    · exact h1
    · simp [Addr.add, World.cell?, Array.getElem?_eq_none h1] at this
  have each : ∀ i, i < len → ∃ v : Xd, RAt w b (o + i * 5) (xdF v) := fun i hi => by
    obtain ⟨cs, k1, k2⟩ := hx i (by omega)
    obtain ⟨_, hl0, hc0⟩ := World.cells?_some k1
    refine xd_of_trod (fun j hj => ?_) k2
    have := hc0 j hj
    rw [add_add, Addr.add_lit] at this
    rw [Nat.add_assoc]
    exact this
  have hin : Inhabited Xd := ⟨⟨⟨#[]⟩, 0, ⟨#[]⟩, false, ⟨#[]⟩⟩⟩
  obtain ⟨f, hf⟩ := choose_lt each
  refine ⟨some ⟨b, o, none⟩, len, cap, (List.range len).map f, by simpa using hcs, by simp, hl, hm', .inr ⟨b, o, rfl, hblt, fun j r hj => ?_⟩⟩
  rw [List.getElem?_map, List.getElem?_map] at hj
  by_cases hjl : j < len
  · rw [List.getElem?_range hjl] at hj
    obtain rfl := Option.some.inj hj
    exact hf j hjl
  · rw [List.getElem?_eq_none (by simp; omega)] at hj
    cases hj

theorem pd_of_trod {b o n : Nat} {cs : List Value} {x : DataW H × List MemPlace} (hc : ∀ i, i < 6 → w.cell? ⟨b, o + i, none⟩ = cs[i]?) (h : DataW.trod enc Tryz.prog w base spare held n 95 cs = some x) : ∃ v : Pd, RAt w b o (pdF v) := by
  obtain ⟨m, hl, hf⟩ := open_aggC Tryz.underlying95 (by kernel_rfl) (by kernel_rfl) h
  obtain ⟨c0, y0, e0, t0⟩ := hf 0 _ rfl
  obtain ⟨b0, q0, -, s0⟩ := DataW.trod_string Tryz.underlying9 t0
  obtain rfl : c0 = .string b0 := by simpa using q0
  obtain ⟨c1, y1, e1, t1⟩ := hf 1 _ rfl
  obtain ⟨b1, q1, -, s1⟩ := DataW.trod_int Tryz.underlying2 t1
  obtain rfl : c1 = .int .i64 b1 := by simpa using q1
  obtain ⟨c2, y2, e2, t2⟩ := hf 2 _ rfl
  obtain ⟨b2, q2, -, s2⟩ := DataW.trod_string Tryz.underlying9 t2
  obtain rfl : c2 = .string b2 := by simpa using q2
  obtain ⟨c3, y3, e3, t3⟩ := hf 3 _ rfl
  obtain ⟨b3, l3, p3, zz, rfl, r3⟩ := row_of_trod Tryz.underlying41 Tryz.underlying9 (by kernel_rfl) t3
  obtain ⟨c4, y4, e4, t4⟩ := hf 4 _ rfl
  obtain ⟨b4, q4, -, s4⟩ := DataW.trod_string Tryz.underlying9 t4
  obtain rfl : c4 = .string b4 := by simpa using q4
  obtain ⟨c5, y5, e5, t5⟩ := hf 5 _ rfl
  obtain ⟨b5, q5, -, s5⟩ := DataW.trod_int Tryz.underlying2 t5
  obtain rfl : c5 = .int .i64 b5 := by simpa using q5
  unfold maxLen at s0 s2 s4
  refine ⟨⟨b0, b1, b2, zz, b4, b5⟩, fun i f hi => ?_⟩
  rcases i with _ | _ | _ | _ | _ | _ | i
  · cases hi
    exact ⟨_, (hc 0 (by omega)).trans e0, rfl, show b0.size ≤ _ by omega⟩
  · cases hi
    exact ⟨_, (hc 1 (by omega)).trans e1, rfl⟩
  · cases hi
    exact ⟨_, (hc 2 (by omega)).trans e2, rfl, show b2.size ≤ _ by omega⟩
  · cases hi
    exact ⟨_, (hc 3 (by omega)).trans e3, b3, l3, p3, rfl, r3⟩
  · cases hi
    exact ⟨_, (hc 4 (by omega)).trans e4, rfl, show b4.size ≤ _ by omega⟩
  · cases hi
    exact ⟨_, (hc 5 (by omega)).trans e5, rfl⟩
  · first | (cases hi; done) | (simp [pdF] at hi; done)

theorem pdrow_of_trod {n : Nat} {c : Value} {y : DataW H × List MemPlace} (h : DataW.trod enc Tryz.prog w base spare held n 26 [c] = some y) : ∃ a len cap, ∃ xs : List Pd, c = .slice a len cap ∧ RRow w a len cap 6 (xs.map pdF) := by
  rcases open_slice Tryz.underlying26 h with ⟨hcs, _⟩ | ⟨a, len, cap, m, n', D, Pl, hcs, hb, hl, hm, hmm, _, hx⟩
  · exact ⟨none, 0, 0, [], by simpa using hcs, rfl, Nat.le_refl _, by omega, .inl rfl⟩
  have hlm : len ≤ m := by rw [hmm]; split <;> omega
  have hm' : cap ≤ 9223372036854775807 := by unfold maxLen at hm; omega
  have hce : Tryz.prog.cellsOf 95 = 6 := by kernel_rfl
  rw [hce] at hx
  by_cases h0 : len = 0
  · subst h0
    exact ⟨some a, 0, cap, [], by simpa using hcs, rfl, hl, hm', .inl rfl⟩
  obtain ⟨b, o, spot⟩ := a
  obtain ⟨cs0, k1, k2⟩ := hx 0 (by omega)
  have hspot : spot = none := by
    obtain ⟨_, hl0, hc0⟩ := World.cells?_some k1
    have := hc0 0 (by omega)
    rw [List.getElem?_eq_getElem (by omega)] at this
    simpa [Addr.add] using World.cell?_spot this
  subst hspot
  have hblt : b < w.heap.size := by
    obtain ⟨_, hl0, hc0⟩ := World.cells?_some k1
    have := hc0 0 (by omega)
    rw [List.getElem?_eq_getElem (by omega)] at this
    rcases Nat.lt_or_ge b w.heap.size with h1 | h1
    · exact h1
    · simp [Addr.add, World.cell?, Array.getElem?_eq_none h1] at this
  have each : ∀ i, i < len → ∃ v : Pd, RAt w b (o + i * 6) (pdF v) := fun i hi => by
    obtain ⟨cs, k1, k2⟩ := hx i (by omega)
    obtain ⟨_, hl0, hc0⟩ := World.cells?_some k1
    refine pd_of_trod (fun j hj => ?_) k2
    have := hc0 j hj
    rw [add_add, Addr.add_lit] at this
    rw [Nat.add_assoc]
    exact this
  have hin : Inhabited Pd := ⟨⟨⟨#[]⟩, 0, ⟨#[]⟩, [], ⟨#[]⟩, 0⟩⟩
  obtain ⟨f, hf⟩ := choose_lt each
  refine ⟨some ⟨b, o, none⟩, len, cap, (List.range len).map f, by simpa using hcs, by simp, hl, hm', .inr ⟨b, o, rfl, hblt, fun j r hj => ?_⟩⟩
  rw [List.getElem?_map, List.getElem?_map] at hj
  by_cases hjl : j < len
  · rw [List.getElem?_range hjl] at hj
    obtain rfl := Option.some.inj hj
    exact hf j hjl
  · rw [List.getElem?_eq_none (by simp; omega)] at hj
    cases hj

end

end Rc
end Go.Proofs.YtjafiakeddafoaaGreatDoor

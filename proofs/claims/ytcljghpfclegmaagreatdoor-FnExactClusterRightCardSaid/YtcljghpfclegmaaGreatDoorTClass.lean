/-
  Class: the laws' copy of a list of them.
-/
import Derived.Test.YtcljghpfclegmaaGreatDoorRClass
namespace Go.Proofs.YtcljghpfclegmaaGreatDoor
open Go.RowKit
namespace Rc
open Mk

theorem infokd : (Tryz.prog.info? 52).map (fun i => (i.zero, i.size, i.bytes)) = some (some (.agg #[.string ⟨#[]⟩, .bool false, .bool false, .string ⟨#[]⟩]), 4, 40) := by kernel_rfl
def kdZ : Kd := ⟨⟨#[]⟩, false, false, ⟨#[]⟩⟩

set_option maxRecDepth 10000 in
theorem madekd {w : World} {g len : Nat} (h : w.heap[g]? = some (.cells (madeCells #[.string ⟨#[]⟩, .bool false, .bool false, .string ⟨#[]⟩] (len * 4)) 52 (0, 0))) (hl : len ≤ 1048576) (S : Nat → Prop) (hS : S g) :
    ROwn w (some ⟨g, 0, none⟩) len len 4 52 ((List.replicate len kdZ).map kdF) S := by
  refine ⟨by simp, Nat.le_refl _, by omega, .inr ⟨g, _, fun _ _ => 0, rfl, h, hS, ?_, ?_, ?_⟩⟩
  · intro j r hr
    rw [List.getElem?_map] at hr
    obtain ⟨x, hx, rfl⟩ := Option.map_eq_some_iff.1 hr
    rfl
  · intro j r hr i f hi
    rw [List.getElem?_map] at hr
    obtain ⟨x, hx, rfl⟩ := Option.map_eq_some_iff.1 hr
    have hj : j < len := by have := (List.getElem?_eq_some_iff.1 hx).1; simpa using this
    obtain rfl : x = kdZ := by
      obtain ⟨h1, h2⟩ := List.getElem?_eq_some_iff.1 hx
      simpa using h2.symm
    have him : i < 4 := (List.getElem?_eq_some_iff.1 hi).1
    have hlt : j * 4 + i < len * 4 := by omega
    have hcell : (madeCells #[.string ⟨#[]⟩, .bool false, .bool false, .string ⟨#[]⟩] (len * 4))[j * 4 + i]? = some (#[.string ⟨#[]⟩, .bool false, .bool false, .string ⟨#[]⟩][i]!) := by
      unfold madeCells
      rw [Array.getElem?_map, Array.getElem?_range]
      rw [if_pos hlt]
      have : (j * 4 + i) % 4 = i := by omega
      simp [this]
    refine ⟨_, hcell, ?_⟩
    rcases i with _ | _ | _ | _ | i
    · cases hi; exact ⟨rfl, by decide⟩
    · cases hi; exact rfl
    · cases hi; exact rfl
    · cases hi; exact ⟨rfl, by decide⟩
    · omega
  · intro j r i zs j' r' i' zs' hr hi hz
    exfalso
    rw [List.getElem?_map] at hr
    obtain ⟨x, hx, rfl⟩ := Option.map_eq_some_iff.1 hr
    obtain rfl : x = kdZ := by
      obtain ⟨h1, h2⟩ := List.getElem?_eq_some_iff.1 hx
      simpa using h2.symm
    have him : i < 4 := (List.getElem?_eq_some_iff.1 hi).1
    rcases i with _ | _ | _ | _ | i
    · cases hi
    · cases hi
    · cases hi
    · cases hi
    · omega

set_option maxRecDepth 10000 in
set_option maxHeartbeats 6400000 in
theorem tokd_any (a : Option Addr) (len cap : Nat) (xs : List Kd) (w : World) (hr : RRow w a len cap 4 (xs.map kdF)) (hl : len ≤ 1048576) :
    Calls Tryz.prog 61 #[.slice a len cap] w fun e w' => e = .returned (.slice (some ⟨w.heap.size, 0, none⟩) len len) ∧ ROwn w' (some ⟨w.heap.size, 0, none⟩) len len 4 52 (xs.map kdF) (fun k => w.heap.size ≤ k) ∧ Below w.heap.size w w' := by
  have HR := hidK hr
  have hvl : xs.length = len := by simpa using hr.1
  skip
  clear hr
  obtain ⟨i0, hi, hz0, hz1, hz2⟩ := info_parts infokd
  go_enter Tryz.func61, Tryz.ntmps61
  go_wp2_with (at_make; refine wpList_make_full _ rfl _ _ 32 rfl w.heap.size 52 i0 (.agg #[.string ⟨#[]⟩, .bool false, .bool false, .string ⟨#[]⟩]) 4 Tryz.underlying32 hi hz0 hz1 _ _ _ _ len rfl rfl (by omega) (by omega) (by rw [hz2]; omega) (by unfold maxLen; omega) (Nat.le_refl _) ?_)
  intro w1 hown hgrow
  have hnx1 : Below w.heap.size w w1 := (Below.refl _ _).grown hgrow (Nat.le_refl _) (fun k hk => by cases hk)
  have HB : Hid (Below w.heap.size w w1) := hnx1
  have hc1 : w1.heap[w.heap.size]? = some (.cells (madeCells #[.string ⟨#[]⟩, .bool false, .bool false, .string ⟨#[]⟩] (len * 4)) 52 (0, 0)) := by
    obtain ⟨h1, h2⟩ := hown
    rcases h2 with ⟨h3, _⟩ | ⟨g', cap', cur, hv, hB, hh, _, _, hsz, htk⟩
    · cases h3
    · simp only [Value.slice.injEq, Option.some.injEq, Addr.mk.injEq] at hv
      obtain ⟨⟨rfl, _, _⟩, _, rfl⟩ := hv
      rw [List.take_of_length_le (by simp [hsz])] at htk
      have : cur = madeCells #[.string ⟨#[]⟩, .bool false, .bool false, .string ⟨#[]⟩] (len * 4) := by apply Array.ext'; simpa using htk
      rw [this] at hh
      simpa using hh
  have HP : Hid (ROwn w1 (some ⟨w.heap.size, 0, none⟩) len len 4 52 ((xs.take 0 ++ (List.replicate len kdZ).drop 0).map kdF) (fun k => w.heap.size ≤ k)) := by
    have := madekd hc1 hl (fun k => w.heap.size ≤ k) (Nat.le_refl _)
    simpa [Hid] using this
  have hZl : xs.length = (List.replicate len kdZ).length := by simpa using hvl
  clear hown hgrow hi hz0 hz1 hz2 hnx1 hc1
  go_wp2
  go_loopw [4] (fun i wr => ∃ k : Nat, k ≤ len ∧ i = .int .i64 k ∧ Hid (ROwn wr (some ⟨w.heap.size, 0, none⟩) len len 4 52 ((xs.take k ++ (List.replicate len kdZ).drop k).map kdF) (fun k => w.heap.size ≤ k)) ∧ Hid (Below w.heap.size w wr)) (fun i _ => len - (intOf i).toNat)
  case atStart => exact ⟨0, by omega, rfl, HP, HB⟩
  case round =>
    obtain ⟨k, hk, rfl, HP, HB⟩ := hrel
    by_cases hlt : k < len
    · obtain ⟨b, o, v, rfl, hb, hv, hat⟩ := kd_at (HR.out.below HB.out) hlt
      obtain ⟨z0, z3, c0, c1, c2, c3⟩ := kd_cells hat
      have HV := hidK hv
      have Hz0 := hidK z0
      have Hz3 := hidK z3
      clear hat hv z0 z3
      have hzk : ((xs.take k ++ (List.replicate len kdZ).drop k).map kdF)[k]? = some (kdF kdZ) := by
        rw [List.getElem?_map, take_drop_at hZl (by omega), List.getElem?_replicate, if_pos hlt]
        rfl
      obtain ⟨g, hg, hs⟩ := HP.out.st (KeptS.refl _ _) hzk
      cases hg
      have HS := hidK hs
      clear hs hzk HP
      go_wp2_with fail
      refine (toClass_any v.n v.x v.y v.z _).mono ?_
      rintro e w2 ⟨rfl, hb2⟩
      have HB2 := hidK (HB.out.trans (hb2.mono HB.out.size))
      have h1 : StJ w.heap.size 4 52 (fun k => w.heap.size ≤ k) (fun k => wr.heap.size ≤ k) wr w2 ((xs.take k ++ (List.replicate len kdZ).drop k).map kdF) k [.s kdZ.n, .b kdZ.x, .b kdZ.y, .s kdZ.z] := HS.out.fresh hb2
      obtain ⟨q0, e0⟩ := h1.cell (i := 0) rfl
      have f0 := h1.fro (k * 4)
      obtain ⟨q1, e1⟩ := h1.cell (i := 1) rfl
      have f1 := h1.fro (k * 4 + 1)
      obtain ⟨q2, e2⟩ := h1.cell (i := 2) rfl
      have f2 := h1.fro (k * 4 + 2)
      obtain ⟨q3, e3⟩ := h1.cell (i := 3) rfl
      have f3 := h1.fro (k * 4 + 3)
      rw [Nat.add_zero] at e0
      have HZ := hidK (((((h1).setS (i := 0) rfl v.n Hz0.out).setB (i := 1) rfl v.x).setB (i := 2) rfl v.y).setS (i := 3) rfl v.z Hz3.out)
      clear h1 hb2 c0 c1 c2 c3 hb
      go_wp2_with fail
      refine ⟨⟨k + 1, by omega, by go_num, ?_, set_below (Nat.le_refl _) (set_below (Nat.le_refl _) (set_below (Nat.le_refl _) (set_below (Nat.le_refl _) (HB2.out))))⟩, by simp [intOf]; omega⟩
      obtain ⟨⟨cur, H, h2, -⟩, -, -⟩ := HZ.out
      have h3 : (((xs.take k ++ (List.replicate len kdZ).drop k).map kdF).set k (kdF v)) = (xs.take (k + 1) ++ (List.replicate len kdZ).drop (k + 1)).map kdF := by
        rw [← List.map_set, take_drop_set hZl HV.out]
      have h4 : ROwnAt _ w.heap.size 4 52 (((xs.take k ++ (List.replicate len kdZ).drop k).map kdF).set k (kdF v)) (fun k => w.heap.size ≤ k) cur H := h2
      rw [h3] at h4
      exact ⟨by rw [List.length_map, take_drop_len hZl (by omega)]; simp, Nat.le_refl _, by omega, .inr ⟨_, cur, H, rfl, h4⟩⟩
    · obtain rfl : len = k := by omega
      go_wp2
      go_ret
      refine ⟨rfl, ?_, HB.out⟩
      have h5 := HP.out
      rw [List.take_of_length_le (by omega), List.drop_of_length_le (by simp), List.append_nil] at h5
      exact h5

end Rc
end Go.Proofs.YtcljghpfclegmaaGreatDoor

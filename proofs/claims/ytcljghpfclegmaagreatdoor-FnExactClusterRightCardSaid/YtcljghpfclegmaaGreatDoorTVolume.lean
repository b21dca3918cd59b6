/-
  Volume: the laws' copy of a list of them.
-/
import Derived.Test.YtcljghpfclegmaaGreatDoorRVolume
namespace Go.Proofs.YtcljghpfclegmaaGreatDoor
open Go.RowKit
namespace Rc
open Mk

theorem infovd : (Tryz.prog.info? 60).map (fun i => (i.zero, i.size, i.bytes)) = some (some (.agg #[.string ⟨#[]⟩, .int .i64 0, .string ⟨#[]⟩, .string ⟨#[]⟩, .bool false, .string ⟨#[]⟩, .bool false, .slice none 0 0]), 8, 112) := by kernel_rfl
def vdZ : Vd := ⟨⟨#[]⟩, 0, ⟨#[]⟩, ⟨#[]⟩, false, ⟨#[]⟩, false, []⟩

set_option maxRecDepth 10000 in
theorem madevd {w : World} {g len : Nat} (h : w.heap[g]? = some (.cells (madeCells #[.string ⟨#[]⟩, .int .i64 0, .string ⟨#[]⟩, .string ⟨#[]⟩, .bool false, .string ⟨#[]⟩, .bool false, .slice none 0 0] (len * 8)) 60 (0, 0))) (hl : len ≤ 1048576) (S : Nat → Prop) (hS : S g) :
    ROwn w (some ⟨g, 0, none⟩) len len 8 60 ((List.replicate len vdZ).map vdF) S := by
  refine ⟨by simp, Nat.le_refl _, by omega, .inr ⟨g, _, fun _ _ => 0, rfl, h, hS, ?_, ?_, ?_⟩⟩
  · intro j r hr
    rw [List.getElem?_map] at hr
    obtain ⟨x, hx, rfl⟩ := Option.map_eq_some_iff.1 hr
    rfl
  · intro j r hr i f hi
    rw [List.getElem?_map] at hr
    obtain ⟨x, hx, rfl⟩ := Option.map_eq_some_iff.1 hr
    have hj : j < len := by have := (List.getElem?_eq_some_iff.1 hx).1; simpa using this
    obtain rfl : x = vdZ := by
      obtain ⟨h1, h2⟩ := List.getElem?_eq_some_iff.1 hx
      simpa using h2.symm
    have him : i < 8 := (List.getElem?_eq_some_iff.1 hi).1
    have hlt : j * 8 + i < len * 8 := by omega
    have hcell : (madeCells #[.string ⟨#[]⟩, .int .i64 0, .string ⟨#[]⟩, .string ⟨#[]⟩, .bool false, .string ⟨#[]⟩, .bool false, .slice none 0 0] (len * 8))[j * 8 + i]? = some (#[.string ⟨#[]⟩, .int .i64 0, .string ⟨#[]⟩, .string ⟨#[]⟩, .bool false, .string ⟨#[]⟩, .bool false, .slice none 0 0][i]!) := by
      unfold madeCells
      rw [Array.getElem?_map, Array.getElem?_range]
      rw [if_pos hlt]
      have : (j * 8 + i) % 8 = i := by omega
      simp [this]
    refine ⟨_, hcell, ?_⟩
    rcases i with _ | _ | _ | _ | _ | _ | _ | _ | i
    · cases hi; exact ⟨rfl, by decide⟩
    · cases hi; exact rfl
    · cases hi; exact ⟨rfl, by decide⟩
    · cases hi; exact ⟨rfl, by decide⟩
    · cases hi; exact rfl
    · cases hi; exact ⟨rfl, by decide⟩
    · cases hi; exact rfl
    · cases hi; exact ⟨none, 0, 0, rfl, rfl, Nat.le_refl _, by decide, fun j x hx => by simp [vdZ] at hx, .inl rfl⟩
    · omega
  · intro j r i zs j' r' i' zs' hr hi hz
    exfalso
    rw [List.getElem?_map] at hr
    obtain ⟨x, hx, rfl⟩ := Option.map_eq_some_iff.1 hr
    obtain rfl : x = vdZ := by
      obtain ⟨h1, h2⟩ := List.getElem?_eq_some_iff.1 hx
      simpa using h2.symm
    have him : i < 8 := (List.getElem?_eq_some_iff.1 hi).1
    rcases i with _ | _ | _ | _ | _ | _ | _ | _ | i
    · cases hi
    · cases hi
    · cases hi
    · cases hi
    · cases hi
    · cases hi
    · cases hi
    · cases hi; exact hz rfl
    · omega

set_option maxRecDepth 10000 in
set_option maxHeartbeats 6400000 in
theorem tovd_any (a : Option Addr) (len cap : Nat) (xs : List Vd) (w : World) (hr : RRow w a len cap 8 (xs.map vdF)) (hl : len ≤ 1048576) (hf : ∀ (j : Nat) x, xs[j]? = some x → x.zs.length ≤ 1048576) :
    Calls Tryz.prog 62 #[.slice a len cap] w fun e w' => e = .returned (.slice (some ⟨w.heap.size, 0, none⟩) len len) ∧ ROwn w' (some ⟨w.heap.size, 0, none⟩) len len 8 60 (xs.map vdF) (fun k => w.heap.size ≤ k) ∧ Below w.heap.size w w' := by
  have HR := hidK hr
  have hvl : xs.length = len := by simpa using hr.1
  have HF := hidK hf
  clear hr hf
  obtain ⟨i0, hi, hz0, hz1, hz2⟩ := info_parts infovd
  go_enter Tryz.func62, Tryz.ntmps62
  go_wp2_with (at_make; refine wpList_make_full _ rfl _ _ 33 rfl w.heap.size 60 i0 (.agg #[.string ⟨#[]⟩, .int .i64 0, .string ⟨#[]⟩, .string ⟨#[]⟩, .bool false, .string ⟨#[]⟩, .bool false, .slice none 0 0]) 8 Tryz.underlying33 hi hz0 hz1 _ _ _ _ len rfl rfl (by omega) (by omega) (by rw [hz2]; omega) (by unfold maxLen; omega) (Nat.le_refl _) ?_)
  intro w1 hown hgrow
  have hnx1 : Below w.heap.size w w1 := (Below.refl _ _).grown hgrow (Nat.le_refl _) (fun k hk => by cases hk)
  have HB : Hid (Below w.heap.size w w1) := hnx1
  have hc1 : w1.heap[w.heap.size]? = some (.cells (madeCells #[.string ⟨#[]⟩, .int .i64 0, .string ⟨#[]⟩, .string ⟨#[]⟩, .bool false, .string ⟨#[]⟩, .bool false, .slice none 0 0] (len * 8)) 60 (0, 0)) := by
    obtain ⟨h1, h2⟩ := hown
    rcases h2 with ⟨h3, _⟩ | ⟨g', cap', cur, hv, hB, hh, _, _, hsz, htk⟩
    · cases h3
    · simp only [Value.slice.injEq, Option.some.injEq, Addr.mk.injEq] at hv
      obtain ⟨⟨rfl, _, _⟩, _, rfl⟩ := hv
      rw [List.take_of_length_le (by simp [hsz])] at htk
      have : cur = madeCells #[.string ⟨#[]⟩, .int .i64 0, .string ⟨#[]⟩, .string ⟨#[]⟩, .bool false, .string ⟨#[]⟩, .bool false, .slice none 0 0] (len * 8) := by apply Array.ext'; simpa using htk
      rw [this] at hh
      simpa using hh
  have HP : Hid (ROwn w1 (some ⟨w.heap.size, 0, none⟩) len len 8 60 ((xs.take 0 ++ (List.replicate len vdZ).drop 0).map vdF) (fun k => w.heap.size ≤ k)) := by
    have := madevd hc1 hl (fun k => w.heap.size ≤ k) (Nat.le_refl _)
    simpa [Hid] using this
  have hZl : xs.length = (List.replicate len vdZ).length := by simpa using hvl
  clear hown hgrow hi hz0 hz1 hz2 hnx1 hc1
  go_wp2
  go_loopw [4] (fun i wr => ∃ k : Nat, k ≤ len ∧ i = .int .i64 k ∧ Hid (ROwn wr (some ⟨w.heap.size, 0, none⟩) len len 8 60 ((xs.take k ++ (List.replicate len vdZ).drop k).map vdF) (fun k => w.heap.size ≤ k)) ∧ Hid (Below w.heap.size w wr)) (fun i _ => len - (intOf i).toNat)
  case atStart => exact ⟨0, by omega, rfl, HP, HB⟩
  case round =>
    obtain ⟨k, hk, rfl, HP, HB⟩ := hrel
    by_cases hlt : k < len
    · obtain ⟨b, o, v, rfl, hb, hv, hat⟩ := vd_at (HR.out.below HB.out) hlt
      obtain ⟨va, vl, vc, hvr, z0, z2, z3, z5, c0, c1, c2, c3, c4, c5, c6, c7⟩ := vd_cells hat
      have HV := hidK hv
      have Hz0 := hidK z0
      have Hz2 := hidK z2
      have Hz3 := hidK z3
      have Hz5 := hidK z5
      have HT := hidK hvr
      have hvl2 : vl ≤ 1048576 := by have := HF.out k v hv; rw [hvr.1] at this; exact this
      have hvz : v.zs.length = vl := hvr.1
      have HVZ := hidK hvz
      clear hvr hvz
      clear hat hv z0 z2 z3 z5
      have hzk : ((xs.take k ++ (List.replicate len vdZ).drop k).map vdF)[k]? = some (vdF vdZ) := by
        rw [List.getElem?_map, take_drop_at hZl (by omega), List.getElem?_replicate, if_pos hlt]
        rfl
      obtain ⟨g, hg, hs⟩ := HP.out.st (KeptS.refl _ _) hzk
      cases hg
      have HS := hidK hs
      clear hs hzk HP
      go_wp2_with fail
      refine (toVolume_any v.n v.c v.z v.k v.x v.m v.y va vl vc v.zs _ HT.out hvl2).mono ?_
      rintro e w2 ⟨rfl, hG, hb2⟩
      have HB2 := hidK (HB.out.trans (hb2.mono HB.out.size))
      have h1 : StJ w.heap.size 8 60 (fun k => w.heap.size ≤ k) (fun k => wr.heap.size ≤ k) wr w2 ((xs.take k ++ (List.replicate len vdZ).drop k).map vdF) k [.s vdZ.n, .i vdZ.c, .s vdZ.z, .s vdZ.k, .b vdZ.x, .s vdZ.m, .b vdZ.y, .l vdZ.zs] := HS.out.fresh hb2
      have hL : LOwn w2 (wr.heap.size + 1 + 1 + 1) (fun k => w.heap.size ≤ k) w.heap.size v.zs (.slice (some ⟨wr.heap.size + 1 + 1 + 1, 0, none⟩) vl vl) := by
        have h9 := HB.out.size
        have hgl := lt_of_some (HS.out.own.choose_spec.choose_spec.1.blk)
        refine ⟨_, _, _, rfl, HVZ.out, Nat.le_refl _, by omega, HT.out.2.2.2.1, .inr ⟨rfl, by show w.heap.size ≤ _; omega, by omega, _, hG, fun j x hx => ?_⟩⟩
        simp [hx]
      have HL := hidK hL
      clear hG hL
      obtain ⟨q0, e0⟩ := h1.cell (i := 0) rfl
      have f0 := h1.fro (k * 8)
      obtain ⟨q1, e1⟩ := h1.cell (i := 1) rfl
      have f1 := h1.fro (k * 8 + 1)
      obtain ⟨q2, e2⟩ := h1.cell (i := 2) rfl
      have f2 := h1.fro (k * 8 + 2)
      obtain ⟨q3, e3⟩ := h1.cell (i := 3) rfl
      have f3 := h1.fro (k * 8 + 3)
      obtain ⟨q4, e4⟩ := h1.cell (i := 4) rfl
      have f4 := h1.fro (k * 8 + 4)
      obtain ⟨q5, e5⟩ := h1.cell (i := 5) rfl
      have f5 := h1.fro (k * 8 + 5)
      obtain ⟨q6, e6⟩ := h1.cell (i := 6) rfl
      have f6 := h1.fro (k * 8 + 6)
      obtain ⟨q7, e7⟩ := h1.cell (i := 7) rfl
      have f7 := h1.fro (k * 8 + 7)
      rw [Nat.add_zero] at e0
      have HZ := hidK (((((((((h1).setS (i := 0) rfl v.n Hz0.out).setI (i := 1) rfl v.c).setS (i := 2) rfl v.z Hz2.out).setS (i := 3) rfl v.k Hz3.out).setB (i := 4) rfl v.x).setS (i := 5) rfl v.m Hz5.out).setB (i := 6) rfl v.y).setL (i := 7) rfl v.zs (fun _ => by show wr.heap.size ≤ _; omega) (Fv.Own.set_cell (u := .l v.zs) (Fv.Own.set_cell (u := .l v.zs) (Fv.Own.set_cell (u := .l v.zs) (Fv.Own.set_cell (u := .l v.zs) (Fv.Own.set_cell (u := .l v.zs) (Fv.Own.set_cell (u := .l v.zs) (Fv.Own.set_cell (u := .l v.zs) (HL.out)))))))))
      clear h1 hb2 c0 c1 c2 c3 c4 c5 c6 c7 hb
      go_wp2_with fail
      refine ⟨⟨k + 1, by omega, by go_num, ?_, set_below (Nat.le_refl _) (set_below (Nat.le_refl _) (set_below (Nat.le_refl _) (set_below (Nat.le_refl _) (set_below (Nat.le_refl _) (set_below (Nat.le_refl _) (set_below (Nat.le_refl _) (set_below (Nat.le_refl _) (HB2.out))))))))⟩, by simp [intOf]; omega⟩
      obtain ⟨⟨cur, H, h2, -⟩, -, -⟩ := HZ.out
      have h3 : (((xs.take k ++ (List.replicate len vdZ).drop k).map vdF).set k (vdF v)) = (xs.take (k + 1) ++ (List.replicate len vdZ).drop (k + 1)).map vdF := by
        rw [← List.map_set, take_drop_set hZl HV.out]
      have h4 : ROwnAt _ w.heap.size 8 60 (((xs.take k ++ (List.replicate len vdZ).drop k).map vdF).set k (vdF v)) (fun k => w.heap.size ≤ k) cur H := h2
      rw [h3] at h4
      exact ⟨by rw [List.length_map, take_drop_len hZl (by omega)]; simp, Nat.le_refl _, by omega, .inr ⟨_, cur, H, rfl, h4⟩⟩
    · obtain rfl : len = k := by omega
      go_wp2
      go_ret
      refine ⟨rfl, ?_, HB.out⟩
      have h5 := HP.out
      rw [List.take_of_length_le (by omega), List.drop_of_length_le (by simp), List.append_nil] at h5
      exact h5

end Rc
end Go.Proofs.YtcljghpfclegmaaGreatDoor

/-
  Lists of volumes: copied, compared.
-/
import Derived.Test.YtjkgpkgbaapdmaaVList
namespace Go.Proofs.Ytjkgpkgbaapdmaa
open Go.RowKit

/-- Eight cells written into a row. -/
def put8 (cur : Array Value) (o : Nat) (v0 v1 v2 v3 v4 v5 v6 v7 : Value) : Array Value := ((((((((cur.setIfInBounds (o) v0).setIfInBounds (o + 1) v1).setIfInBounds (o + 2) v2).setIfInBounds (o + 3) v3).setIfInBounds (o + 4) v4).setIfInBounds (o + 5) v5).setIfInBounds (o + 6) v6).setIfInBounds (o + 7) v7)
theorem put8_size (cur : Array Value) (o : Nat) (v0 v1 v2 v3 v4 v5 v6 v7 : Value) : (put8 cur o v0 v1 v2 v3 v4 v5 v6 v7).size = cur.size := by simp [put8]
theorem put8_other {cur : Array Value} {o j : Nat} {v0 v1 v2 v3 v4 v5 v6 v7 : Value} (h : j < o ∨ o + 8 ≤ j) : (put8 cur o v0 v1 v2 v3 v4 v5 v6 v7)[j]? = cur[j]? := by
  unfold put8
  rw [Array.getElem?_setIfInBounds_ne (by omega), Array.getElem?_setIfInBounds_ne (by omega), Array.getElem?_setIfInBounds_ne (by omega), Array.getElem?_setIfInBounds_ne (by omega), Array.getElem?_setIfInBounds_ne (by omega), Array.getElem?_setIfInBounds_ne (by omega), Array.getElem?_setIfInBounds_ne (by omega), Array.getElem?_setIfInBounds_ne (by omega)]
theorem put8_0 {cur : Array Value} {o : Nat} {v0 v1 v2 v3 v4 v5 v6 v7 : Value} (h : o + 8 ≤ cur.size) : (put8 cur o v0 v1 v2 v3 v4 v5 v6 v7)[o]? = some v0 := by
  unfold put8
  rw [Array.getElem?_setIfInBounds_ne (by omega), Array.getElem?_setIfInBounds_ne (by omega), Array.getElem?_setIfInBounds_ne (by omega), Array.getElem?_setIfInBounds_ne (by omega), Array.getElem?_setIfInBounds_ne (by omega), Array.getElem?_setIfInBounds_ne (by omega), Array.getElem?_setIfInBounds_ne (by omega)]
  rw [Array.getElem?_setIfInBounds_self_of_lt (by first | omega | (simp; omega))]
theorem put8_1 {cur : Array Value} {o : Nat} {v0 v1 v2 v3 v4 v5 v6 v7 : Value} (h : o + 8 ≤ cur.size) : (put8 cur o v0 v1 v2 v3 v4 v5 v6 v7)[o + 1]? = some v1 := by
  unfold put8
  rw [Array.getElem?_setIfInBounds_ne (by omega), Array.getElem?_setIfInBounds_ne (by omega), Array.getElem?_setIfInBounds_ne (by omega), Array.getElem?_setIfInBounds_ne (by omega), Array.getElem?_setIfInBounds_ne (by omega), Array.getElem?_setIfInBounds_ne (by omega)]
  rw [Array.getElem?_setIfInBounds_self_of_lt (by first | omega | (simp; omega))]
theorem put8_2 {cur : Array Value} {o : Nat} {v0 v1 v2 v3 v4 v5 v6 v7 : Value} (h : o + 8 ≤ cur.size) : (put8 cur o v0 v1 v2 v3 v4 v5 v6 v7)[o + 2]? = some v2 := by
  unfold put8
  rw [Array.getElem?_setIfInBounds_ne (by omega), Array.getElem?_setIfInBounds_ne (by omega), Array.getElem?_setIfInBounds_ne (by omega), Array.getElem?_setIfInBounds_ne (by omega), Array.getElem?_setIfInBounds_ne (by omega)]
  rw [Array.getElem?_setIfInBounds_self_of_lt (by first | omega | (simp; omega))]
theorem put8_3 {cur : Array Value} {o : Nat} {v0 v1 v2 v3 v4 v5 v6 v7 : Value} (h : o + 8 ≤ cur.size) : (put8 cur o v0 v1 v2 v3 v4 v5 v6 v7)[o + 3]? = some v3 := by
  unfold put8
  rw [Array.getElem?_setIfInBounds_ne (by omega), Array.getElem?_setIfInBounds_ne (by omega), Array.getElem?_setIfInBounds_ne (by omega), Array.getElem?_setIfInBounds_ne (by omega)]
  rw [Array.getElem?_setIfInBounds_self_of_lt (by first | omega | (simp; omega))]
theorem put8_4 {cur : Array Value} {o : Nat} {v0 v1 v2 v3 v4 v5 v6 v7 : Value} (h : o + 8 ≤ cur.size) : (put8 cur o v0 v1 v2 v3 v4 v5 v6 v7)[o + 4]? = some v4 := by
  unfold put8
  rw [Array.getElem?_setIfInBounds_ne (by omega), Array.getElem?_setIfInBounds_ne (by omega), Array.getElem?_setIfInBounds_ne (by omega)]
  rw [Array.getElem?_setIfInBounds_self_of_lt (by first | omega | (simp; omega))]
theorem put8_5 {cur : Array Value} {o : Nat} {v0 v1 v2 v3 v4 v5 v6 v7 : Value} (h : o + 8 ≤ cur.size) : (put8 cur o v0 v1 v2 v3 v4 v5 v6 v7)[o + 5]? = some v5 := by
  unfold put8
  rw [Array.getElem?_setIfInBounds_ne (by omega), Array.getElem?_setIfInBounds_ne (by omega)]
  rw [Array.getElem?_setIfInBounds_self_of_lt (by first | omega | (simp; omega))]
theorem put8_6 {cur : Array Value} {o : Nat} {v0 v1 v2 v3 v4 v5 v6 v7 : Value} (h : o + 8 ≤ cur.size) : (put8 cur o v0 v1 v2 v3 v4 v5 v6 v7)[o + 6]? = some v6 := by
  unfold put8
  rw [Array.getElem?_setIfInBounds_ne (by omega)]
  rw [Array.getElem?_setIfInBounds_self_of_lt (by first | omega | (simp; omega))]
theorem put8_7 {cur : Array Value} {o : Nat} {v0 v1 v2 v3 v4 v5 v6 v7 : Value} (h : o + 8 ≤ cur.size) : (put8 cur o v0 v1 v2 v3 v4 v5 v6 v7)[o + 7]? = some v7 := by
  unfold put8
  rw [Array.getElem?_setIfInBounds_self_of_lt (by first | omega | (simp; omega))]
theorem heap_put8 {w : World} {g o : Nat} {cur : Array Value} {T : TypeId} {v0 v1 v2 v3 v4 v5 v6 v7 : Value} (h : w.heap[g]? = some (.cells cur T (0, 0))) :
    ((((((((w.setCell ⟨g, o, none⟩ v0).setCell ⟨g, o + 1, none⟩ v1).setCell ⟨g, o + 2, none⟩ v2).setCell ⟨g, o + 3, none⟩ v3).setCell ⟨g, o + 4, none⟩ v4).setCell ⟨g, o + 5, none⟩ v5).setCell ⟨g, o + 6, none⟩ v6).setCell ⟨g, o + 7, none⟩ v7).heap[g]? = some (.cells (put8 cur o v0 v1 v2 v3 v4 v5 v6 v7) T (0, 0)) :=
  block_set (block_set (block_set (block_set (block_set (block_set (block_set (block_set h _) _) _) _) _) _) _) _
theorem heap_other8 {w : World} {g o b : Nat} {v0 v1 v2 v3 v4 v5 v6 v7 : Value} (hb : ¬ b = g) :
    ((((((((w.setCell ⟨g, o, none⟩ v0).setCell ⟨g, o + 1, none⟩ v1).setCell ⟨g, o + 2, none⟩ v2).setCell ⟨g, o + 3, none⟩ v3).setCell ⟨g, o + 4, none⟩ v4).setCell ⟨g, o + 5, none⟩ v5).setCell ⟨g, o + 6, none⟩ v6).setCell ⟨g, o + 7, none⟩ v7).heap[b]? = w.heap[b]? := by
  rw [Below.heap_setCell _ _ _ _ hb, Below.heap_setCell _ _ _ _ hb, Below.heap_setCell _ _ _ _ hb, Below.heap_setCell _ _ _ _ hb, Below.heap_setCell _ _ _ _ hb, Below.heap_setCell _ _ _ _ hb, Below.heap_setCell _ _ _ _ hb, Below.heap_setCell _ _ _ _ hb]
theorem set_below8 {w0 w : World} {B g o : Nat} {v0 v1 v2 v3 v4 v5 v6 v7 : Value} (hB : B ≤ g) (h : Below B w0 w) : Below B w0 ((((((((w.setCell ⟨g, o, none⟩ v0).setCell ⟨g, o + 1, none⟩ v1).setCell ⟨g, o + 2, none⟩ v2).setCell ⟨g, o + 3, none⟩ v3).setCell ⟨g, o + 4, none⟩ v4).setCell ⟨g, o + 5, none⟩ v5).setCell ⟨g, o + 6, none⟩ v6).setCell ⟨g, o + 7, none⟩ v7) :=
  set_below hB (set_below hB (set_below hB (set_below hB (set_below hB (set_below hB (set_below hB (set_below hB h)))))))
theorem size_put8 {w : World} {g o : Nat} {v0 v1 v2 v3 v4 v5 v6 v7 : Value} : ((((((((w.setCell ⟨g, o, none⟩ v0).setCell ⟨g, o + 1, none⟩ v1).setCell ⟨g, o + 2, none⟩ v2).setCell ⟨g, o + 3, none⟩ v3).setCell ⟨g, o + 4, none⟩ v4).setCell ⟨g, o + 5, none⟩ v5).setCell ⟨g, o + 6, none⟩ v6).setCell ⟨g, o + 7, none⟩ v7).heap.size = w.heap.size := by simp [World.setCell]

/-- So many volumes have been copied into the row g. -/
def VsPart (w : World) (g len i : Nat) (vs : List Vd) : Prop :=
  ∃ cur : Array Value, w.heap[g]? = some (.cells cur 30 (0, 0)) ∧ cur.size = len * 8 ∧
    ∀ (j : Nat) v, j < i → vs[j]? = some v → ∃ h, g < h ∧ w.heap[h]? = some (.cells (v.zs.map Value.string).toArray 9 (0, 0)) ∧
      cur[j * 8]? = some (.string v.n) ∧ cur[j * 8 + 1]? = some (.int .i64 v.c) ∧ cur[j * 8 + 2]? = some (.string v.z) ∧ cur[j * 8 + 3]? = some (.string v.k) ∧ cur[j * 8 + 4]? = some (.bool v.x) ∧ cur[j * 8 + 5]? = some (.string v.m) ∧ cur[j * 8 + 6]? = some (.bool v.y) ∧
      cur[j * 8 + 7]? = some (.slice (some ⟨h, 0, none⟩) v.zs.length v.zs.length)
theorem VsPart.step {w w2 : World} {g len i : Nat} {vs : List Vd} {v : Vd} {h : Nat} (hp : VsPart w g len i vs) (hb : Below w.heap.size w w2) (hi : i < len) (hv : vs[i]? = some v) (hg : g < h) (hh : w2.heap[h]? = some (.cells (v.zs.map Value.string).toArray 9 (0, 0))) :
    VsPart ((((((((w2.setCell ⟨g, i * 8, none⟩ (.string v.n)).setCell ⟨g, i * 8 + 1, none⟩ (.int .i64 v.c)).setCell ⟨g, i * 8 + 2, none⟩ (.string v.z)).setCell ⟨g, i * 8 + 3, none⟩ (.string v.k)).setCell ⟨g, i * 8 + 4, none⟩ (.bool v.x)).setCell ⟨g, i * 8 + 5, none⟩ (.string v.m)).setCell ⟨g, i * 8 + 6, none⟩ (.bool v.y)).setCell ⟨g, i * 8 + 7, none⟩ (.slice (some ⟨h, 0, none⟩) v.zs.length v.zs.length)) g len (i + 1) vs := by
  obtain ⟨cur, h1, h2, h3⟩ := hp
  have hgl := lt_of_some h1
  refine ⟨_, heap_put8 ((hb.block _ hgl).trans h1), by rw [put8_size, h2], fun j u hj hu => ?_⟩
  by_cases e : j = i
  · subst e
    rw [hv] at hu
    obtain rfl := Option.some.inj hu
    have hsz : j * 8 + 8 ≤ cur.size := by omega
    exact ⟨h, hg, (heap_other8 (by omega)).trans hh, put8_0 hsz, put8_1 hsz, put8_2 hsz, put8_3 hsz, put8_4 hsz, put8_5 hsz, put8_6 hsz, put8_7 hsz⟩
  · obtain ⟨h', q0, q1, q2, q3, q4, q5, q6, q7, q8, q9⟩ := h3 j u (by omega) hu
    have ho : ∀ d, d < 8 → (put8 cur (i * 8) (.string v.n) (.int .i64 v.c) (.string v.z) (.string v.k) (.bool v.x) (.string v.m) (.bool v.y) (.slice (some ⟨h, 0, none⟩) v.zs.length v.zs.length))[j * 8 + d]? = cur[j * 8 + d]? := fun d hd => put8_other (by omega)
    exact ⟨h', q0, (heap_other8 (by omega)).trans ((hb.block _ (lt_of_some q1)).trans q1), (ho 0 (by omega)).trans q2, (ho 1 (by omega)).trans q3, (ho 2 (by omega)).trans q4, (ho 3 (by omega)).trans q5, (ho 4 (by omega)).trans q6, (ho 5 (by omega)).trans q7, (ho 6 (by omega)).trans q8, (ho 7 (by omega)).trans q9⟩
theorem VsPart.row {w : World} {g len : Nat} {vs : List Vd} (hp : VsPart w g len len vs) (hl : vs.length = len) (hl2 : len ≤ 1048576) (hf : ∀ (j : Nat) v, vs[j]? = some v → v.Fit ∧ v.zs.length ≤ 1048576 ∧ ∀ (i : Nat) s, v.zs[i]? = some s → s.size ≤ 9223372036854775807) :
    VsRow w (some ⟨g, 0, none⟩) len len vs := by
  obtain ⟨cur, h1, h2, h3⟩ := hp
  refine ⟨hl, Nat.le_refl _, by omega, .inr ⟨g, 0, rfl, lt_of_some h1, fun j v hv => ?_⟩⟩
  have hj : j < len := by have := (List.getElem?_eq_some_iff.1 hv).1; omega
  obtain ⟨h', q0, q1, q2, q3, q4, q5, q6, q7, q8, q9⟩ := h3 j v hj hv
  obtain ⟨f1, f2, f3⟩ := hf j v hv
  rw [Nat.zero_add]
  exact ⟨f1, _, _, _, TxRow.copy q1 rfl f2 f3, (cellK h1 _).trans q2, (cellK h1 _).trans q3, (cellK h1 _).trans q4, (cellK h1 _).trans q5, (cellK h1 _).trans q6, (cellK h1 _).trans q7, (cellK h1 _).trans q8, (cellK h1 _).trans q9⟩
theorem VsPart.own {w : World} {g len X : Nat} {vs : List Vd} (hp : VsPart w g len len vs) (hl : vs.length = len) (hX : X ≤ g) (hf : ∀ (j : Nat) v, vs[j]? = some v → v.zs.length ≤ 1048576) : VsOwn w g len X w.heap.size := by
  obtain ⟨cur, h1, h2, h3⟩ := hp
  refine ⟨hX, lt_of_some h1, cur, h1, h2, fun j hj => ?_⟩
  have hv : vs[j]? = some (vs[j]'(by omega)) := List.getElem?_eq_getElem _
  obtain ⟨h', q0, q1, q2, q3, q4, q5, q6, q7, q8, q9⟩ := h3 j _ hj hv
  exact ⟨_, _, _, q9, hf j _ hv, .inr ⟨h', _, rfl, by omega, lt_of_some q1, by omega, q1, by simp⟩⟩

set_option maxHeartbeats 3200000 in
theorem toVs_any (a : Option Addr) (len cap : Nat) (vs : List Vd) (w : World) (hr : VsRow w a len cap vs) (hl : len ≤ 1048576) (hf : ∀ (j : Nat) v, vs[j]? = some v → v.zs.length ≤ 1048576) :
    Calls Try.prog 28 #[.slice a len cap] w fun e w' => e = .returned (.slice (some ⟨w.heap.size, 0, none⟩) len len) ∧ VsPart w' w.heap.size len len vs ∧ Below w.heap.size w w' := by
  have HR := hidK hr
  have hvl : vs.length = len := hr.1
  have HF := hidK hf
  clear hr hf
  obtain ⟨i0, hi, hz0, hz1, hz2⟩ := info_parts infoVol
  go_enter Try.func28, Try.ntmps28
  go_wp2_with (at_make; refine wpList_make_full _ rfl _ _ 23 rfl w.heap.size 30 i0 (.agg #[.string ⟨#[]⟩, .int .i64 0, .string ⟨#[]⟩, .string ⟨#[]⟩, .bool false, .string ⟨#[]⟩, .bool false, .slice none 0 0]) 8 Try.underlying23 hi hz0 hz1 _ _ _ _ len rfl rfl (by omega) (by omega) (by rw [hz2]; omega) (by unfold maxLen; omega) (Nat.le_refl _) ?_)
  intro w1 hown hgrow
  have hnx1 : Below w.heap.size w w1 := (Below.refl _ _).grown hgrow (Nat.le_refl _) (fun k hk => by cases hk)
  have HB : Hid (Below w.heap.size w w1) := hnx1
  obtain ⟨cur, hc1, hc2⟩ : ∃ cur : Array Value, w1.heap[w.heap.size]? = some (.cells cur 30 (0, 0)) ∧ cur.size = len * 8 := by
    obtain ⟨h1, h2⟩ := hown
    rcases h2 with ⟨h3, _⟩ | ⟨g', cap', cur, hv, hB, hh, _, _, hsz, htk⟩
    · cases h3
    · simp only [Value.slice.injEq, Option.some.injEq, Addr.mk.injEq] at hv
      obtain ⟨⟨rfl, _, _⟩, _, rfl⟩ := hv
      exact ⟨cur, by simpa using hh, hsz⟩
  have HP : Hid (VsPart w1 w.heap.size len 0 vs) := ⟨cur, hc1, hc2, fun j v hj => by omega⟩
  clear hown hgrow hi hz0 hz1 hz2 hnx1 hc1 hc2
  go_wp2
  go_loopw [4] (fun i wr => ∃ k : Nat, k ≤ len ∧ i = .int .i64 k ∧ Hid (VsPart wr w.heap.size len k vs) ∧ Hid (Below w.heap.size w wr)) (fun i _ => len - (intOf i).toNat)
  case atStart => exact ⟨0, by omega, rfl, HP, HB⟩
  case round =>
    obtain ⟨k, hk, rfl, HP, HB⟩ := hrel
    by_cases hlt : k < len
    · obtain ⟨b, o, v, rfl, hb, hv, hf, va, vl, vc, hvr, c0, c1, c2, c3, c4, c5, c6, c7⟩ := (HR.out.below HB.out).at hlt
      have HV := hidK hv
      have HT := hidK hvr
      have hvl2 : vl ≤ 1048576 := by have := HF.out k v hv; rw [hvr.1] at this; exact this
      clear hf hv
      have hvl3 := hvr.1
      clear hvr
      go_wp2_with fail
      refine (toVolume_any v.n v.c v.z v.k v.x v.m v.y va vl vc v.zs _ HT.out hvl2).mono ?_
      rintro e w2 ⟨rfl, hG, hb2⟩
      have HB2 := hidK (HB.out.trans (hb2.mono HB.out.size))
      have hgl : w.heap.size < wr.heap.size := by obtain ⟨_, h1, _⟩ := HP.out; exact lt_of_some h1
      have HS := hidK (HP.out.step (h := wr.heap.size + 1 + 1 + 1) hb2 hlt HV.out (by omega) hG)
      obtain ⟨cu, hcu, hcs⟩ : ∃ cu : Array Value, w2.heap[w.heap.size]? = some (.cells cu 30 (0, 0)) ∧ cu.size = len * 8 := by
        obtain ⟨cu, h1, h2, _⟩ := HP.out
        exact ⟨cu, (hb2.block _ hgl).trans h1, h2⟩
      rw [hvl3] at HS
      have q0 : w2.cell? ⟨w.heap.size, k * 8, none⟩ = some (cu[k * 8]'(by omega)) := (cellK hcu _).trans (Array.getElem?_eq_getElem _)
      have f0 : w2.frozen? ⟨w.heap.size, k * 8, none⟩ = false := froK hcu _
      have q1 : w2.cell? ⟨w.heap.size, k * 8 + 1, none⟩ = some (cu[k * 8 + 1]'(by omega)) := (cellK hcu _).trans (Array.getElem?_eq_getElem _)
      have f1 : w2.frozen? ⟨w.heap.size, k * 8 + 1, none⟩ = false := froK hcu _
      have q2 : w2.cell? ⟨w.heap.size, k * 8 + 2, none⟩ = some (cu[k * 8 + 2]'(by omega)) := (cellK hcu _).trans (Array.getElem?_eq_getElem _)
      have f2 : w2.frozen? ⟨w.heap.size, k * 8 + 2, none⟩ = false := froK hcu _
      have q3 : w2.cell? ⟨w.heap.size, k * 8 + 3, none⟩ = some (cu[k * 8 + 3]'(by omega)) := (cellK hcu _).trans (Array.getElem?_eq_getElem _)
      have f3 : w2.frozen? ⟨w.heap.size, k * 8 + 3, none⟩ = false := froK hcu _
      have q4 : w2.cell? ⟨w.heap.size, k * 8 + 4, none⟩ = some (cu[k * 8 + 4]'(by omega)) := (cellK hcu _).trans (Array.getElem?_eq_getElem _)
      have f4 : w2.frozen? ⟨w.heap.size, k * 8 + 4, none⟩ = false := froK hcu _
      have q5 : w2.cell? ⟨w.heap.size, k * 8 + 5, none⟩ = some (cu[k * 8 + 5]'(by omega)) := (cellK hcu _).trans (Array.getElem?_eq_getElem _)
      have f5 : w2.frozen? ⟨w.heap.size, k * 8 + 5, none⟩ = false := froK hcu _
      have q6 : w2.cell? ⟨w.heap.size, k * 8 + 6, none⟩ = some (cu[k * 8 + 6]'(by omega)) := (cellK hcu _).trans (Array.getElem?_eq_getElem _)
      have f6 : w2.frozen? ⟨w.heap.size, k * 8 + 6, none⟩ = false := froK hcu _
      have q7 : w2.cell? ⟨w.heap.size, k * 8 + 7, none⟩ = some (cu[k * 8 + 7]'(by omega)) := (cellK hcu _).trans (Array.getElem?_eq_getElem _)
      have f7 : w2.frozen? ⟨w.heap.size, k * 8 + 7, none⟩ = false := froK hcu _
      clear hcu hb2 hG c0 c1 c2 c3 c4 c5 c6 c7 HP
      go_wp2_with fail
      refine ⟨⟨k + 1, by omega, by go_num, HS, set_below8 (Nat.le_refl _) HB2.out⟩, by simp [intOf]; omega⟩
    · obtain rfl : k = len := by omega
      go_wp2
      go_ret
      exact ⟨rfl, HP.out, HB.out⟩

end Go.Proofs.Ytjkgpkgbaapdmaa

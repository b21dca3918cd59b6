/-
  Lists of volumes in the world: measured, copied, compared.
-/
import Derived.Test.YtcljghpfclegmaaGreatDoorKLaw
import Derived.Test.YtcljghpfclegmaaGreatDoorGrow
import Derived.Test.YtcljghpfclegmaaGreatDoorWide
namespace Go.Proofs.YtcljghpfclegmaaGreatDoor
open Go.RowKit

/-- A volume: what its fields say. -/
structure Vd where
  n : ByteArray
  c : Int
  z : ByteArray
  k : ByteArray
  x : Bool
  m : ByteArray
  y : Bool
  zs : List ByteArray
/-- Its texts are no longer than may be. -/
def Vd.Fit (v : Vd) : Prop := v.n.size ≤ 9223372036854775807 ∧ v.z.size ≤ 9223372036854775807 ∧ v.k.size ≤ 9223372036854775807 ∧ v.m.size ≤ 9223372036854775807
/-- It lies at that place. -/
def Vd.At (v : Vd) (w : World) (b o : Nat) : Prop := v.Fit ∧ ∃ a len cap, TxRow w a len cap v.zs ∧
  w.cell? ⟨b, o, none⟩ = some (.string v.n) ∧ w.cell? ⟨b, o + 1, none⟩ = some (.int .i64 v.c) ∧ w.cell? ⟨b, o + 2, none⟩ = some (.string v.z) ∧ w.cell? ⟨b, o + 3, none⟩ = some (.string v.k) ∧
  w.cell? ⟨b, o + 4, none⟩ = some (.bool v.x) ∧ w.cell? ⟨b, o + 5, none⟩ = some (.string v.m) ∧ w.cell? ⟨b, o + 6, none⟩ = some (.bool v.y) ∧ w.cell? ⟨b, o + 7, none⟩ = some (.slice a len cap)
theorem Vd.At.below {v : Vd} {w w' : World} {b o : Nat} (h : v.At w b o) (hl : b < w.heap.size) (hb : Below w.heap.size w w') : v.At w' b o := by
  obtain ⟨hf, a, len, cap, hr, h0, h1, h2, h3, h4, h5, h6, h7⟩ := h
  exact ⟨hf, a, len, cap, hr.below hb, (cell_below hb hl).trans h0, (cell_below hb hl).trans h1, (cell_below hb hl).trans h2, (cell_below hb hl).trans h3, (cell_below hb hl).trans h4, (cell_below hb hl).trans h5, (cell_below hb hl).trans h6, (cell_below hb hl).trans h7⟩
/-- A list of volumes that lies in the world. -/
def VsRow (w : World) (a : Option Addr) (len cap : Nat) (vs : List Vd) : Prop :=
  vs.length = len ∧ len ≤ cap ∧ cap ≤ 9223372036854775807 ∧
  (vs = [] ∨ ∃ b o, a = some ⟨b, o, none⟩ ∧ b < w.heap.size ∧ ∀ (j : Nat) v, vs[j]? = some v → v.At w b (o + j * 8))
theorem VsRow.below {w w' : World} {a : Option Addr} {len cap : Nat} {vs : List Vd} (h : VsRow w a len cap vs) (hb : Below w.heap.size w w') : VsRow w' a len cap vs := by
  obtain ⟨h1, h2, h3, h5⟩ := h
  refine ⟨h1, h2, h3, ?_⟩
  rcases h5 with h5 | ⟨b, o, rfl, hlt, hc⟩
  · exact Or.inl h5
  · exact Or.inr ⟨b, o, rfl, Nat.lt_of_lt_of_le hlt hb.size, fun j v hv => (hc j v hv).below hlt hb⟩
theorem VsRow.at {w : World} {a : Option Addr} {len cap : Nat} {vs : List Vd} (h : VsRow w a len cap vs) {j : Nat} (hj : j < len) :
    ∃ b o v, a = some ⟨b, o, none⟩ ∧ b < w.heap.size ∧ vs[j]? = some v ∧ v.At w b (o + j * 8) := by
  obtain ⟨h1, h2, h3, h5⟩ := h
  have hx : vs[j]? = some (vs[j]'(by omega)) := List.getElem?_eq_getElem _
  rcases h5 with h5 | ⟨b, o, rfl, hlt, hc⟩
  · subst h5; simp at h1; omega
  · exact ⟨b, o, _, rfl, hlt, hx, hc j _ hx⟩

set_option maxHeartbeats 1600000 in
theorem szVs_any (a : Option Addr) (len cap : Nat) (vs : List Vd) (left : Int) (w : World) (hr : VsRow w a len cap vs) (h0 : 0 ≤ left) (h1 : left ≤ 1048576) :
    Calls Tryz.prog 51 #[.slice a len cap, .int .i64 left] w (SzB left (len ≤ 1048576 ∧ ∀ (j : Nat) v, vs[j]? = some v → v.zs.length ≤ 1048576) w) := by
  have HR := hidK hr
  have hvl : vs.length = len := hr.1
  have hlc : len ≤ 9223372036854775807 := Nat.le_trans hr.2.1 hr.2.2.1
  clear hr
  by_cases hl : left < (len : Int)
  · go_enter Tryz.func51, Tryz.ntmps51
    go_wp2
    go_ret
    exact ⟨-1, rfl, .inl rfl, Below.refl _ _⟩
  go_enter Tryz.func51, Tryz.ntmps51
  go_wp2
  go_loopw [1, 5] (fun l i wr => ∃ (k : Nat) (m : Int), k ≤ len ∧ l = .int .i64 m ∧ i = .int .i64 k ∧ 0 ≤ m ∧ m ≤ left ∧ Hid (∀ (j : Nat) v, j < k → vs[j]? = some v → v.zs.length ≤ 1048576) ∧ Hid (Below w.heap.size w wr)) (fun _ i _ => len - (intOf i).toNat)
  case atStart => exact ⟨0, left - len, by omega, by go_num, rfl, by omega, by omega, fun j v hj => by omega, Below.refl _ _⟩
  case round =>
    obtain ⟨k, m, hk, rfl, rfl, hm0, hm1, HE, HB⟩ := hrel
    by_cases hlt : k < len
    · obtain ⟨b, o, v, rfl, hb, hv, hf, va, vl, vc, hvr, c0, c1, c2, c3, c4, c5, c6, c7⟩ := (HR.out.below HB.out).at hlt
      have HI := hidK hf
      have HV := hidK hv
      have HT := hidK hvr
      clear hf hv hvr
      go_wp2_with fail
      refine (szVolume_any v.n v.c v.z v.k v.x v.m v.y va vl vc v.zs m _ HI.out.1 HI.out.2.1 HI.out.2.2.1 HI.out.2.2.2 HT.out hm0 (by omega)).mono ?_
      rintro e w2 ⟨r, rfl, hr, hb2⟩
      have HB2 := hidK (HB.out.trans (hb2.mono HB.out.size))
      clear hb2 c0 c1 c2 c3 c4 c5 c6 c7
      rcases hr with rfl | ⟨hr0, hr1, hvl2⟩
      · go_wp2
        go_ret
        exact ⟨-1, rfl, .inl rfl, HB2.out⟩
      · go_wp2
        refine ⟨⟨k + 1, r, by omega, by go_num, by go_num, by omega, by omega, fun j u hj hu => ?_, HB2.out⟩, by simp [intOf]; omega⟩
        by_cases e : j = k
        · subst e
          rw [HV.out] at hu
          obtain rfl := Option.some.inj hu
          rw [HT.out.1]
          exact hvl2
        · exact HE.out j u (by omega) hu
    · obtain rfl : k = len := by omega
      go_wp2
      go_ret
      exact ⟨m, rfl, .inr ⟨hm0, hm1, by omega, fun j v hv => HE.out j v (by have := (List.getElem?_eq_some_iff.1 hv).1; omega) hv⟩, HB.out⟩

/-- A copied list of volumes: the row in a block of its own, the lists of the volumes in others, all within a span of blocks. -/
def VsOwn (w : World) (g len X Y : Nat) : Prop :=
  X ≤ g ∧ g < Y ∧ ∃ cur : Array Value, w.heap[g]? = some (.cells cur 60 (0, 0)) ∧ cur.size = len * 8 ∧
    ∀ j, j < len → ∃ a l c, cur[j * 8 + 7]? = some (.slice a l c) ∧ l ≤ 1048576 ∧ (l = 0 ∨ ∃ h cu, a = some ⟨h, 0, none⟩ ∧ X ≤ h ∧ h < Y ∧ ¬ h = g ∧ w.heap[h]? = some (.cells cu 9 (0, 0)) ∧ l ≤ cu.size)
theorem VsOwn.below {w w' : World} {g len X Y : Nat} (h : VsOwn w g len X Y) (hY : Y ≤ w.heap.size) (hb : Below w.heap.size w w') : VsOwn w' g len X Y := by
  obtain ⟨h1, h2, cur, h3, h4, h5⟩ := h
  refine ⟨h1, h2, cur, (hb.block _ (Nat.lt_of_lt_of_le h2 hY)).trans h3, h4, fun j hj => ?_⟩
  obtain ⟨a, l, c, h6, h7, h8⟩ := h5 j hj
  refine ⟨a, l, c, h6, h7, h8.imp id ?_⟩
  rintro ⟨h, cu, h9, h10, h11, h12, h13, h14⟩
  exact ⟨h, cu, h9, h10, h11, h12, (hb.block _ (Nat.lt_of_lt_of_le h11 hY)).trans h13, h14⟩

theorem infoVol : (Tryz.prog.info? 60).map (fun i => (i.zero, i.size, i.bytes)) = some (some (.agg #[.string ⟨#[]⟩, .int .i64 0, .string ⟨#[]⟩, .string ⟨#[]⟩, .bool false, .string ⟨#[]⟩, .bool false, .slice none 0 0]), 8, 112) := by kernel_rfl

end Go.Proofs.YtcljghpfclegmaaGreatDoor

/-
  Small questions of the specification on a cluster.
-/
import Derived.Test.YtcljghpfclegmaaGreatDoorIcr
namespace Go.Proofs.YtcljghpfclegmaaGreatDoor
open Go.RowKit
namespace Rc
open Mk

set_option maxRecDepth 100000 in
set_option maxHeartbeats 3200000 in
theorem shas_any (a : Option Addr) (len cap : Nat) (zs : List ByteArray) (t : ByteArray) (w : World) (hr : TxRow w a len cap zs) :
    Calls Tryz.prog 130 #[.slice a len cap, .string t] w (BoolB (InL zs t) w) := by
  have HR := hidK hr
  have hlc : len ≤ 9223372036854775807 := Nat.le_trans hr.2.1 hr.2.2.1
  have hzl : zs.length = len := hr.1
  clear hr
  go_enter Tryz.func130, Tryz.ntmps130
  go_wp2
  go_loop [5] (fun i => ∃ k : Nat, k ≤ len ∧ i = .int .i64 k ∧ Hid (∀ (j : Nat) x, j < k → zs[j]? = some x → ¬ x = t)) (fun i => len - (intOf i).toNat)
  case atStart => exact ⟨0, by omega, rfl, fun _ _ h => absurd h (by omega)⟩
  case round =>
    obtain ⟨k, hk, rfl, HE⟩ := hrel
    by_cases hlt : k < len
    · obtain ⟨b, o, x, rfl, hb, hx, hc, hsz⟩ := HR.out.at hlt
      have HX := hidK hx
      clear hx
      by_cases hn : x = t
      · have hq := tl_yes hn
        have HN := hidK hn
        clear hn
        go_wp2
        go_ret
        exact BoolB.t ⟨k, by rw [HX.out, HN.out]⟩ (Below.refl _ _)
      · have hq := tl_no hn
        have HN := hidK hn
        clear hn
        go_wp2
        refine ⟨⟨k + 1, by omega, by go_num, fun j z hj hz => ?_⟩, by simp [intOf]; omega⟩
        by_cases e : j = k
        · subst e
          rw [HX.out] at hz
          obtain rfl := Option.some.inj hz
          exact HN.out
        · exact HE.out j z (by omega) hz
    · obtain rfl : len = k := by omega
      go_wp2
      go_ret
      exact BoolB.f (fun ⟨j, hj⟩ => HE.out j t (by have := (List.getElem?_eq_some_iff.1 hj).1; omega) hj rfl) (Below.refl _ _)

theorem sxnd_hit (d : Ad) (now : Int) (xs : List Nd) (t : ByteArray) (w : World) (hr : RRow w d.a1 d.l1 d.c1 7 (xs.map ndF)) (hs : RisBy Nd.n xs) {j : Nat} {x : Nd} (hx : xs[j]? = some x) (hn : x.n = t) :
    Calls Tryz.prog 79 #[.agg #[.slice d.a1 d.l1 d.c1, .slice d.a2 d.l2 d.c2, .slice d.a3 d.l3 d.c3, .slice d.a4 d.l4 d.c4, .slice d.a5 d.l5 d.c5, .int .i64 now], .string t] w fun e w' => e = .returned (.int .i64 j) ∧ Below w.heap.size w w' := by
  refine (sxnd_any d now xs t w hr).mono ?_
  rintro e w' ⟨hb, h⟩
  rcases h with ⟨i, y, h1, h2, rfl⟩ | ⟨h1, rfl⟩
  · obtain ⟨rfl, _⟩ := hs.inj h1 hx (h2.trans hn.symm)
    exact ⟨rfl, hb⟩
  · exact absurd hn (h1 j x hx)
theorem sxnd_miss (d : Ad) (now : Int) (xs : List Nd) (t : ByteArray) (w : World) (hr : RRow w d.a1 d.l1 d.c1 7 (xs.map ndF)) (hn : ∀ (j : Nat) x, xs[j]? = some x → ¬ x.n = t) :
    Calls Tryz.prog 79 #[.agg #[.slice d.a1 d.l1 d.c1, .slice d.a2 d.l2 d.c2, .slice d.a3 d.l3 d.c3, .slice d.a4 d.l4 d.c4, .slice d.a5 d.l5 d.c5, .int .i64 now], .string t] w fun e w' => e = .returned (.int .i64 (-1)) ∧ Below w.heap.size w w' := by
  refine (sxnd_any d now xs t w hr).mono ?_
  rintro e w' ⟨hb, h⟩
  rcases h with ⟨i, y, h1, h2, rfl⟩ | ⟨h1, rfl⟩
  · exact absurd h2 (hn i y h1)
  · exact ⟨rfl, hb⟩

theorem sxkd_hit (d : Ad) (now : Int) (xs : List Kd) (t : ByteArray) (w : World) (hr : RRow w d.a2 d.l2 d.c2 4 (xs.map kdF)) (hs : RisBy Kd.n xs) {j : Nat} {x : Kd} (hx : xs[j]? = some x) (hn : x.n = t) :
    Calls Tryz.prog 94 #[.agg #[.slice d.a1 d.l1 d.c1, .slice d.a2 d.l2 d.c2, .slice d.a3 d.l3 d.c3, .slice d.a4 d.l4 d.c4, .slice d.a5 d.l5 d.c5, .int .i64 now], .string t] w fun e w' => e = .returned (.int .i64 j) ∧ Below w.heap.size w w' := by
  refine (sxkd_any d now xs t w hr).mono ?_
  rintro e w' ⟨hb, h⟩
  rcases h with ⟨i, y, h1, h2, rfl⟩ | ⟨h1, rfl⟩
  · obtain ⟨rfl, _⟩ := hs.inj h1 hx (h2.trans hn.symm)
    exact ⟨rfl, hb⟩
  · exact absurd hn (h1 j x hx)
theorem sxkd_miss (d : Ad) (now : Int) (xs : List Kd) (t : ByteArray) (w : World) (hr : RRow w d.a2 d.l2 d.c2 4 (xs.map kdF)) (hn : ∀ (j : Nat) x, xs[j]? = some x → ¬ x.n = t) :
    Calls Tryz.prog 94 #[.agg #[.slice d.a1 d.l1 d.c1, .slice d.a2 d.l2 d.c2, .slice d.a3 d.l3 d.c3, .slice d.a4 d.l4 d.c4, .slice d.a5 d.l5 d.c5, .int .i64 now], .string t] w fun e w' => e = .returned (.int .i64 (-1)) ∧ Below w.heap.size w w' := by
  refine (sxkd_any d now xs t w hr).mono ?_
  rintro e w' ⟨hb, h⟩
  rcases h with ⟨i, y, h1, h2, rfl⟩ | ⟨h1, rfl⟩
  · exact absurd h2 (hn i y h1)
  · exact ⟨rfl, hb⟩

theorem sxvd_hit (d : Ad) (now : Int) (xs : List Vd) (t : ByteArray) (w : World) (hr : RRow w d.a3 d.l3 d.c3 8 (xs.map vdF)) (hs : RisBy Vd.n xs) {j : Nat} {x : Vd} (hx : xs[j]? = some x) (hn : x.n = t) :
    Calls Tryz.prog 100 #[.agg #[.slice d.a1 d.l1 d.c1, .slice d.a2 d.l2 d.c2, .slice d.a3 d.l3 d.c3, .slice d.a4 d.l4 d.c4, .slice d.a5 d.l5 d.c5, .int .i64 now], .string t] w fun e w' => e = .returned (.int .i64 j) ∧ Below w.heap.size w w' := by
  refine (sxvd_any d now xs t w hr).mono ?_
  rintro e w' ⟨hb, h⟩
  rcases h with ⟨i, y, h1, h2, rfl⟩ | ⟨h1, rfl⟩
  · obtain ⟨rfl, _⟩ := hs.inj h1 hx (h2.trans hn.symm)
    exact ⟨rfl, hb⟩
  · exact absurd hn (h1 j x hx)
theorem sxvd_miss (d : Ad) (now : Int) (xs : List Vd) (t : ByteArray) (w : World) (hr : RRow w d.a3 d.l3 d.c3 8 (xs.map vdF)) (hn : ∀ (j : Nat) x, xs[j]? = some x → ¬ x.n = t) :
    Calls Tryz.prog 100 #[.agg #[.slice d.a1 d.l1 d.c1, .slice d.a2 d.l2 d.c2, .slice d.a3 d.l3 d.c3, .slice d.a4 d.l4 d.c4, .slice d.a5 d.l5 d.c5, .int .i64 now], .string t] w fun e w' => e = .returned (.int .i64 (-1)) ∧ Below w.heap.size w w' := by
  refine (sxvd_any d now xs t w hr).mono ?_
  rintro e w' ⟨hb, h⟩
  rcases h with ⟨i, y, h1, h2, rfl⟩ | ⟨h1, rfl⟩
  · exact absurd h2 (hn i y h1)
  · exact ⟨rfl, hb⟩

theorem sxxd_hit (d : Ad) (now : Int) (xs : List Xd) (t : ByteArray) (w : World) (hr : RRow w d.a4 d.l4 d.c4 5 (xs.map xdF)) (hs : RisBy Xd.n xs) {j : Nat} {x : Xd} (hx : xs[j]? = some x) (hn : x.n = t) :
    Calls Tryz.prog 113 #[.agg #[.slice d.a1 d.l1 d.c1, .slice d.a2 d.l2 d.c2, .slice d.a3 d.l3 d.c3, .slice d.a4 d.l4 d.c4, .slice d.a5 d.l5 d.c5, .int .i64 now], .string t] w fun e w' => e = .returned (.int .i64 j) ∧ Below w.heap.size w w' := by
  refine (sxxd_any d now xs t w hr).mono ?_
  rintro e w' ⟨hb, h⟩
  rcases h with ⟨i, y, h1, h2, rfl⟩ | ⟨h1, rfl⟩
  · obtain ⟨rfl, _⟩ := hs.inj h1 hx (h2.trans hn.symm)
    exact ⟨rfl, hb⟩
  · exact absurd hn (h1 j x hx)
theorem sxxd_miss (d : Ad) (now : Int) (xs : List Xd) (t : ByteArray) (w : World) (hr : RRow w d.a4 d.l4 d.c4 5 (xs.map xdF)) (hn : ∀ (j : Nat) x, xs[j]? = some x → ¬ x.n = t) :
    Calls Tryz.prog 113 #[.agg #[.slice d.a1 d.l1 d.c1, .slice d.a2 d.l2 d.c2, .slice d.a3 d.l3 d.c3, .slice d.a4 d.l4 d.c4, .slice d.a5 d.l5 d.c5, .int .i64 now], .string t] w fun e w' => e = .returned (.int .i64 (-1)) ∧ Below w.heap.size w w' := by
  refine (sxxd_any d now xs t w hr).mono ?_
  rintro e w' ⟨hb, h⟩
  rcases h with ⟨i, y, h1, h2, rfl⟩ | ⟨h1, rfl⟩
  · exact absurd h2 (hn i y h1)
  · exact ⟨rfl, hb⟩

/-- The number of the disk of a claim, or -1. -/
def SbAns (c : Cl) (t : ByteArray) (w : World) (e : Ending) (w' : World) : Prop :=
  Below w.heap.size w w' ∧ ((∃ (j : Nat) (v : Vd), c.vs[j]? = some v ∧ IsBd c t v ∧ e = .returned (.int .i64 j)) ∨ ((∀ v, ¬ IsBd c t v) ∧ e = .returned (.int .i64 (-1))))

set_option maxRecDepth 100000 in
set_option maxHeartbeats 3200000 in
theorem sbind_any (d : Ad) (c : Cl) (t : ByteArray) (w : World) (hr : ClRow w d c.raw) (hx : RisBy Xd.n c.xs) (hv : RisBy Vd.n c.vs) (hne : ∀ (j : Nat) v, c.vs[j]? = some v → ¬ v.n = ⟨#[]⟩) :
    Calls Tryz.prog 128 #[.agg #[.slice d.a1 d.l1 d.c1, .slice d.a2 d.l2 d.c2, .slice d.a3 d.l3 d.c3, .slice d.a4 d.l4 d.c4, .slice d.a5 d.l5 d.c5, .int .i64 c.now], .string t] w (SbAns c t w) := by
  obtain ⟨a1, l1, y1, a2, l2, y2, a3, l3, y3, a4, l4, y4, a5, l5, y5⟩ := d
  dsimp only
  have HR := hidK hr
  have hl1 : c.ns.length = l1 := by simpa using (show (c.ns.map ndF).length = l1 from hr.n.1)
  have hm1 : l1 ≤ 9223372036854775807 := Nat.le_trans hr.n.2.1 hr.n.2.2.1
  have hl2 : c.ks.length = l2 := by simpa using (show (c.ks.map kdF).length = l2 from hr.k.1)
  have hm2 : l2 ≤ 9223372036854775807 := Nat.le_trans hr.k.2.1 hr.k.2.2.1
  have hl3 : c.vs.length = l3 := by simpa using (show (c.vs.map vdF).length = l3 from hr.v.1)
  have hm3 : l3 ≤ 9223372036854775807 := Nat.le_trans hr.v.2.1 hr.v.2.2.1
  have hl4 : c.xs.length = l4 := by simpa using (show (c.xs.map xdF).length = l4 from hr.x.1)
  have hm4 : l4 ≤ 9223372036854775807 := Nat.le_trans hr.x.2.1 hr.x.2.2.1
  have hl5 : c.ps.length = l5 := by simpa using (show (c.ps.map pdF).length = l5 from hr.p.1)
  have hm5 : l5 ≤ 9223372036854775807 := Nat.le_trans hr.p.2.1 hr.p.2.2.1
  clear hr
  have HX := hidK hx
  have HV := hidK hv
  have HNE := hidK hne
  have HB := hidK (Below.refl w.heap.size w)
  clear hx hv hne
  go_enter Tryz.func128, Tryz.ntmps128
  go_wp2_with fail
  refine (sxxd_any ⟨a1, l1, y1, a2, l2, y2, a3, l3, y3, a4, l4, y4, a5, l5, y5⟩ c.now c.xs t _ (HR.out.x.below (below1 _ _))).mono ?_
  rintro e w1 ⟨hb, hf⟩
  have hsz1 : (w.alloc (.cells #[.slice a1 l1 y1, .slice a2 l2 y2, .slice a3 l3 y3, .slice a4 l4 y4, .slice a5 l5 y5, .int .i64 c.now] 37)).heap.size = w.heap.size + 1 := by simp
  have Ck : Hid (w1.heap[w.heap.size]? = some (.cells #[.slice a1 l1 y1, .slice a2 l2 y2, .slice a3 l3 y3, .slice a4 l4 y4, .slice a5 l5 y5, .int .i64 c.now] 37 (0, 0))) := (hb.block (w.heap.size) (by rw [hsz1]; omega)).trans (Array.getElem?_push_size)
  have HB1 := hidK (HB.out.trans (((below1 _ _ : Below w.heap.size w (w.alloc (.cells #[.slice a1 l1 y1, .slice a2 l2 y2, .slice a3 l3 y3, .slice a4 l4 y4, .slice a5 l5 y5, .int .i64 c.now] 37))).trans (hb.mono (by rw [hsz1]; omega))).mono HB.out.size))
  clear HB hb hsz1
  have HB := HB1
  clear HB1
  have Bk := Ck
  clear Ck
  rcases hf with ⟨j, x, hx, hn, rfl⟩ | ⟨hh, rfl⟩
  rotate_left
  · have HH := hidK hh
    clear hh
    have k0 : w1.cell? ⟨w.heap.size, 0, none⟩ = some (.slice a1 l1 y1) := cellK Bk.out 0
    have k1 : w1.cell? ⟨w.heap.size, 1, none⟩ = some (.slice a2 l2 y2) := cellK Bk.out 1
    have k2 : w1.cell? ⟨w.heap.size, 2, none⟩ = some (.slice a3 l3 y3) := cellK Bk.out 2
    have k3 : w1.cell? ⟨w.heap.size, 3, none⟩ = some (.slice a4 l4 y4) := cellK Bk.out 3
    have k4 : w1.cell? ⟨w.heap.size, 4, none⟩ = some (.slice a5 l5 y5) := cellK Bk.out 4
    have k5 : w1.cell? ⟨w.heap.size, 5, none⟩ = some (.int .i64 c.now) := cellK Bk.out 5
    have ltk_1 : w.heap.size < w1.heap.size := lt_of_some Bk.out
    go_wp2
    go_ret
    exact ⟨HB.out, .inr ⟨fun v ⟨i, j, x, e1, e2, _⟩ => HH.out i x e1 e2, rfl⟩⟩
  have hj : j < l4 := by have h1 := (List.getElem?_eq_some_iff.1 hx).1; omega
  obtain ⟨b, o, y, rfl, hbb, hy, hat⟩ := xd_at HR.out.x hj
  rw [hx] at hy
  obtain rfl := Option.some.inj hy
  obtain ⟨z0, z2, z4, c0, c1, c2, c3, c4⟩ := xd_cells hat
  have HX1 := hidK hx
  have HN1 := hidK hn
  have e4 := (cell_below HB.out hbb).trans c4
  have hb1 : b < w1.heap.size := Nat.lt_of_lt_of_le hbb HB.out.size
  have hj0 : (0 : Int) ≤ j := by omega
  clear hx hn hy hat z0 z2 z4 c0 c1 c2 c3
  by_cases he : x.v = ⟨#[]⟩
  · have hq := isE_y he
    have HEm := hidK he
    clear he
    have k0 : w1.cell? ⟨w.heap.size, 0, none⟩ = some (.slice a1 l1 y1) := cellK Bk.out 0
    have k1 : w1.cell? ⟨w.heap.size, 1, none⟩ = some (.slice a2 l2 y2) := cellK Bk.out 1
    have k2 : w1.cell? ⟨w.heap.size, 2, none⟩ = some (.slice a3 l3 y3) := cellK Bk.out 2
    have k3 : w1.cell? ⟨w.heap.size, 3, none⟩ = some (.slice (some ⟨b, o, none⟩) l4 y4) := cellK Bk.out 3
    have k4 : w1.cell? ⟨w.heap.size, 4, none⟩ = some (.slice a5 l5 y5) := cellK Bk.out 4
    have k5 : w1.cell? ⟨w.heap.size, 5, none⟩ = some (.int .i64 c.now) := cellK Bk.out 5
    have ltk_1 : w.heap.size < w1.heap.size := lt_of_some Bk.out
    go_wp2
    go_ret
    refine ⟨HB.out, .inr ⟨fun v ⟨i, j2, x2, e1, e2, e3, e5⟩ => ?_, rfl⟩⟩
    obtain ⟨_, rfl⟩ := HX.out.inj e1 HX1.out (e2.trans HN1.out.symm)
    exact HNE.out j2 v e3 (e5.trans HEm.out)
  · have hq := isE_no he
    have HEm := hidK he
    clear he
    have k0 : w1.cell? ⟨w.heap.size, 0, none⟩ = some (.slice a1 l1 y1) := cellK Bk.out 0
    have k1 : w1.cell? ⟨w.heap.size, 1, none⟩ = some (.slice a2 l2 y2) := cellK Bk.out 1
    have k2 : w1.cell? ⟨w.heap.size, 2, none⟩ = some (.slice a3 l3 y3) := cellK Bk.out 2
    have k3 : w1.cell? ⟨w.heap.size, 3, none⟩ = some (.slice (some ⟨b, o, none⟩) l4 y4) := cellK Bk.out 3
    have k4 : w1.cell? ⟨w.heap.size, 4, none⟩ = some (.slice a5 l5 y5) := cellK Bk.out 4
    have k5 : w1.cell? ⟨w.heap.size, 5, none⟩ = some (.int .i64 c.now) := cellK Bk.out 5
    have ltk_1 : w.heap.size < w1.heap.size := lt_of_some Bk.out
    go_wp2_with fail
    by_cases hf : ∃ (j2 : Nat) (v : Vd), c.vs[j2]? = some v ∧ v.n = x.v
    · obtain ⟨j2, v, h1, h2⟩ := hf
      have HF1 := hidK h1
      have HF2 := hidK h2
      clear h1 h2
      clear k0 k1 k2 k3 k4 k5 ltk_1
      have Gk : Hid (w1.heap[w.heap.size]? = some (.cells #[.slice a1 l1 y1, .slice a2 l2 y2, .slice a3 l3 y3, .slice (some ⟨b, o, none⟩) l4 y4, .slice a5 l5 y5, .int .i64 c.now] 37 (0, 0))) := Bk.out
      have HW := hidK HB.out
      have k0 : ∀ q : Wd w1, q.w.cell? ⟨w.heap.size, 0, none⟩ = some (.slice a1 l1 y1) := fun q => q.slot Gk.out rfl
      have k1 : ∀ q : Wd w1, q.w.cell? ⟨w.heap.size, 1, none⟩ = some (.slice a2 l2 y2) := fun q => q.slot Gk.out rfl
      have k2 : ∀ q : Wd w1, q.w.cell? ⟨w.heap.size, 2, none⟩ = some (.slice a3 l3 y3) := fun q => q.slot Gk.out rfl
      have k3 : ∀ q : Wd w1, q.w.cell? ⟨w.heap.size, 3, none⟩ = some (.slice (some ⟨b, o, none⟩) l4 y4) := fun q => q.slot Gk.out rfl
      have k4 : ∀ q : Wd w1, q.w.cell? ⟨w.heap.size, 4, none⟩ = some (.slice a5 l5 y5) := fun q => q.slot Gk.out rfl
      have k5 : ∀ q : Wd w1, q.w.cell? ⟨w.heap.size, 5, none⟩ = some (.int .i64 c.now) := fun q => q.slot Gk.out rfl
      have e4w : ∀ q : Wd w1, q.w.cell? ⟨b, o + j * 5 + 4, none⟩ = some (.string x.v) := fun q => (q.cell (hb1)).trans (e4)
      have hne0 := Wd.ne w1
      have HC0 := hidK (fun q : Wd w1 => sxvd_hit ⟨a1, l1, y1, a2, l2, y2, a3, l3, y3, (some ⟨b, o, none⟩), l4, y4, a5, l5, y5⟩ c.now c.vs x.v q.w (HR.out.v.below (HW.out.trans (q.b.mono HW.out.size))) HV.out HF1.out HF2.out)
      go_wp2_with fail
      refine wp_region_wide (by kernel_rfl) (by kernel_rfl) ?_
      repeat (go_big_quiet_step (first | (go_at_call 100; exact Calls.wide (HC0.out _)) | fail))
      refine wpQuiet_nil ?_
      rintro _ ⟨q, rfl⟩
      have HB2 := hidK (HW.out.trans (q.b.mono HW.out.size))
      have Ck := hidK ((q.b.block _ (lt_of_some Gk.out)).trans Gk.out)
      clear hne0 HW HB HC0 k0 k1 k2 k3 k4 k5 e4w Gk Bk
      have HB := HB2
      clear HB2
      have Bk := Ck
      clear Ck
      go_wp2_with fail
      go_ret
      exact ⟨HB.out, .inl ⟨j2, v, HF1.out, ⟨_, _, x, HX1.out, HN1.out, HF1.out, HF2.out⟩, rfl⟩⟩
    · have HF := hidK hf
      clear hf
      clear k0 k1 k2 k3 k4 k5 ltk_1
      have Gk : Hid (w1.heap[w.heap.size]? = some (.cells #[.slice a1 l1 y1, .slice a2 l2 y2, .slice a3 l3 y3, .slice (some ⟨b, o, none⟩) l4 y4, .slice a5 l5 y5, .int .i64 c.now] 37 (0, 0))) := Bk.out
      have HW := hidK HB.out
      have k0 : ∀ q : Wd w1, q.w.cell? ⟨w.heap.size, 0, none⟩ = some (.slice a1 l1 y1) := fun q => q.slot Gk.out rfl
      have k1 : ∀ q : Wd w1, q.w.cell? ⟨w.heap.size, 1, none⟩ = some (.slice a2 l2 y2) := fun q => q.slot Gk.out rfl
      have k2 : ∀ q : Wd w1, q.w.cell? ⟨w.heap.size, 2, none⟩ = some (.slice a3 l3 y3) := fun q => q.slot Gk.out rfl
      have k3 : ∀ q : Wd w1, q.w.cell? ⟨w.heap.size, 3, none⟩ = some (.slice (some ⟨b, o, none⟩) l4 y4) := fun q => q.slot Gk.out rfl
      have k4 : ∀ q : Wd w1, q.w.cell? ⟨w.heap.size, 4, none⟩ = some (.slice a5 l5 y5) := fun q => q.slot Gk.out rfl
      have k5 : ∀ q : Wd w1, q.w.cell? ⟨w.heap.size, 5, none⟩ = some (.int .i64 c.now) := fun q => q.slot Gk.out rfl
      have e4w : ∀ q : Wd w1, q.w.cell? ⟨b, o + j * 5 + 4, none⟩ = some (.string x.v) := fun q => (q.cell (hb1)).trans (e4)
      have hne0 := Wd.ne w1
      have HC0 := hidK (fun q : Wd w1 => sxvd_miss ⟨a1, l1, y1, a2, l2, y2, a3, l3, y3, (some ⟨b, o, none⟩), l4, y4, a5, l5, y5⟩ c.now c.vs x.v q.w (HR.out.v.below (HW.out.trans (q.b.mono HW.out.size))) (fun j2 v h1 h2 => HF.out ⟨j2, v, h1, h2⟩))
      go_wp2_with fail
      refine wp_region_wide (by kernel_rfl) (by kernel_rfl) ?_
      repeat (go_big_quiet_step (first | (go_at_call 100; exact Calls.wide (HC0.out _)) | fail))
      refine wpQuiet_nil ?_
      rintro _ ⟨q, rfl⟩
      have HB2 := hidK (HW.out.trans (q.b.mono HW.out.size))
      have Ck := hidK ((q.b.block _ (lt_of_some Gk.out)).trans Gk.out)
      clear hne0 HW HB HC0 k0 k1 k2 k3 k4 k5 e4w Gk Bk
      have HB := HB2
      clear HB2
      have Bk := Ck
      clear Ck
      go_wp2_with fail
      go_ret
      refine ⟨HB.out, .inr ⟨fun v ⟨i, j2, x2, e1, e2, e3, e5⟩ => ?_, rfl⟩⟩
      obtain ⟨_, rfl⟩ := HX.out.inj e1 HX1.out (e2.trans HN1.out.symm)
      exact HF.out ⟨j2, v, e3, e5⟩

end Rc
end Go.Proofs.YtcljghpfclegmaaGreatDoor

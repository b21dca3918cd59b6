/-
  Which disk a claim is bound to, what pods use, and where they are, as the program asks it.
-/
import Derived.Test.YtcljghpfclegmaaGreatDoorBnd
namespace Go.Proofs.YtcljghpfclegmaaGreatDoor
open Go.RowKit
namespace Rc
open Mk

/-- It stands in the list. -/
def InL (zs : List ByteArray) (t : ByteArray) : Prop := ∃ j : Nat, zs[j]? = some t

set_option maxRecDepth 100000 in
set_option maxHeartbeats 3200000 in
theorem iindex_any (a : Option Addr) (len cap : Nat) (zs : List ByteArray) (t : ByteArray) (w : World) (hr : TxRow w a len cap zs) :
    Calls Tryz.prog 223 #[.slice a len cap, .string t] w fun e w' => (∃ r : Int, e = .returned (.int .i64 r) ∧ ((0 ≤ r ∧ InL zs t) ∨ (r = -1 ∧ ¬ InL zs t))) ∧ w' = w := by
  have HR := hidK hr
  have hlc : len ≤ 9223372036854775807 := Nat.le_trans hr.2.1 hr.2.2.1
  have hzl : zs.length = len := hr.1
  clear hr
  go_enter Tryz.func223, Tryz.ntmps223
  go_wp2
  go_loop [8] (fun i => ∃ k : Nat, k ≤ len ∧ i = .int .i64 k ∧ Hid (∀ (j : Nat) x, j < k → zs[j]? = some x → ¬ x = t)) (fun i => len - (intOf i).toNat)
  case atStart => exact ⟨0, by omega, rfl, fun _ _ h => absurd h (by omega)⟩
  case round =>
    obtain ⟨k, hk, rfl, HE⟩ := hrel
    by_cases hlt : k < len
    · obtain ⟨b, o, x, rfl, hb, hx, hc, hsz⟩ := HR.out.at hlt
      have HX := hidK hx
      clear hx
      by_cases hn : t = x
      · have hq := tl_yes hn
        have HN := hidK hn
        clear hn
        go_wp2
        go_ret
        exact ⟨⟨k, rfl, .inl ⟨by omega, k, by rw [HX.out, HN.out]⟩⟩, rfl⟩
      · have hq := tl_no hn
        have HN := hidK hn
        clear hn
        go_wp2
        refine ⟨⟨k + 1, by omega, by go_num, fun j z hj hz => ?_⟩, by simp [intOf]; omega⟩
        by_cases e : j = k
        · subst e
          rw [HX.out] at hz
          obtain rfl := Option.some.inj hz
          exact fun q => HN.out q.symm
        · exact HE.out j z (by omega) hz
    · obtain rfl : len = k := by omega
      go_wp2
      go_ret
      exact ⟨⟨-1, rfl, .inr ⟨rfl, fun ⟨j, hj⟩ => HE.out j t (by have := (List.getElem?_eq_some_iff.1 hj).1; omega) hj rfl⟩⟩, rfl⟩

set_option maxRecDepth 100000 in
set_option maxHeartbeats 3200000 in
theorem icontains_any (a : Option Addr) (len cap : Nat) (zs : List ByteArray) (t : ByteArray) (w : World) (hr : TxRow w a len cap zs) :
    Calls Tryz.prog 204 #[.slice a len cap, .string t] w (BoolB (InL zs t) w) := by
  have HR := hidK hr
  clear hr
  go_enter Tryz.func204, Tryz.ntmps204
  go_wp2_with fail
  refine (iindex_any a len cap zs t _ HR.out).mono ?_
  rintro e w1 ⟨⟨r, rfl, hr⟩, rfl⟩
  rcases hr with ⟨h0, hi⟩ | ⟨rfl, hi⟩
  · go_wp2
    go_ret
    exact BoolB.t hi (Below.refl _ _)
  · go_wp2
    go_ret
    exact BoolB.f hi (Below.refl _ _)

set_option maxRecDepth 100000 in
set_option maxHeartbeats 3200000 in
theorem iclaimsWhy_any (d : Ad) (now : Int) (xs : List Xd) (a : Option Addr) (len cap : Nat) (zs : List ByteArray) (w : World) (hr : RRow w d.a4 d.l4 d.c4 5 (xs.map xdF)) (hz : TxRow w a len cap zs) (hG : ens w) :
    Calls Tryz.prog 121 #[.agg #[.slice d.a1 d.l1 d.c1, .slice d.a2 d.l2 d.c2, .slice d.a3 d.l3 d.c3, .slice d.a4 d.l4 d.c4, .slice d.a5 d.l5 d.c5, .int .i64 now], .slice a len cap] w (WhyB (∀ (j : Nat) t, zs[j]? = some t → hit Xd.n xs t = true) w) := by
  have HR := hidK hr
  have HE := hidK hG
  have HZ := hidK hz
  have hlc : len ≤ 9223372036854775807 := Nat.le_trans hz.2.1 hz.2.2.1
  have hzl : zs.length = len := hz.1
  clear hr hG hz
  go_enter Tryz.func121, Tryz.ntmps121
  go_wp2
  go_loopw [11] (fun i wr => ∃ k : Nat, k ≤ len ∧ i = .int .i64 k ∧ Hid (∀ (j : Nat) t, j < k → zs[j]? = some t → hit Xd.n xs t = true) ∧ Hid (Below w.heap.size w wr) ∧ Hid (wr.heap[w.heap.size]? = some (.cells #[.slice d.a1 d.l1 d.c1, .slice d.a2 d.l2 d.c2, .slice d.a3 d.l3 d.c3, .slice d.a4 d.l4 d.c4, .slice d.a5 d.l5 d.c5, .int .i64 now] 37 (0, 0)))) (fun i _ => len - (intOf i).toNat)
  case atStart => exact ⟨0, by omega, rfl, fun _ _ h => absurd h (by omega), below1 _ _, Array.getElem?_push_size⟩
  case round =>
    obtain ⟨k, hk, rfl, HQ, HB, Bk⟩ := hrel
    by_cases hlt : k < len
    · obtain ⟨b, o, t, rfl, hb, hx, hc, hsz⟩ := (HZ.out.below HB.out).at hlt
      have HX := hidK hx
      clear hx
      have k0 : wr.cell? ⟨w.heap.size, 0, none⟩ = some (.slice d.a1 d.l1 d.c1) := cellK Bk.out 0
      have k1 : wr.cell? ⟨w.heap.size, 1, none⟩ = some (.slice d.a2 d.l2 d.c2) := cellK Bk.out 1
      have k2 : wr.cell? ⟨w.heap.size, 2, none⟩ = some (.slice d.a3 d.l3 d.c3) := cellK Bk.out 2
      have k3 : wr.cell? ⟨w.heap.size, 3, none⟩ = some (.slice d.a4 d.l4 d.c4) := cellK Bk.out 3
      have k4 : wr.cell? ⟨w.heap.size, 4, none⟩ = some (.slice d.a5 d.l5 d.c5) := cellK Bk.out 4
      have k5 : wr.cell? ⟨w.heap.size, 5, none⟩ = some (.int .i64 now) := cellK Bk.out 5
      have ltk_0 : w.heap.size < wr.heap.size := lt_of_some Bk.out
      go_wp2_with fail
      refine (thexd_any d now xs t w _ HR.out HB.out).mono ?_
      rintro e w1 ⟨hb2, hf⟩
      clear k0 k1 k2 k3 k4 k5 ltk_0
      have Ck := hidK ((hb2.block (w.heap.size) (by have := lt_of_some Bk.out; omega)).trans (Bk.out))
      have HB1 := hidK (HB.out.trans (hb2.mono HB.out.size))
      clear HB hb2 Bk
      have HB := HB1
      clear HB1
      have Bk := Ck
      clear Ck
      clear hb hc hsz
      obtain ⟨T, q, hv⟩ := HE.out.below HB.out
      have hl := (HE.out.below HB.out).lt
      rcases hf with ⟨hh, x, hx, hn, rfl, z0, z2, z4⟩ | ⟨hh, rfl⟩
      · have HH := hidK hh
        clear hh hx hn z0 z2 z4 hv hl
        go_wp2
        refine ⟨⟨k + 1, by omega, by go_num, fun j z hj hz => ?_, HB.out.alloc HB.out.size _, (Below.heap_alloc _ _ _ (lt_of_some Bk.out)).trans Bk.out⟩, by simp [intOf]; omega⟩
        by_cases e : j = k
        · subst e
          rw [HX.out] at hz
          obtain rfl := Option.some.inj hz
          exact HH.out
        · exact HQ.out j z (by omega) hz
      · have HH := hidK hh
        clear hh
        go_wp2
        go_ret
        exact ⟨HB.out.alloc HB.out.size _, .inr ⟨fun h => (by have := h k t HX.out; rw [HH.out] at this; cases this), T, q, rfl⟩⟩
    · obtain rfl : len = k := by omega
      go_wp2
      go_ret
      exact ⟨HB.out, .inl ⟨fun j t ht => HQ.out j t (by have := (List.getElem?_eq_some_iff.1 ht).1; omega) ht, rfl⟩⟩

/-- The disk that a claim is bound to. -/
def IsBd (c : Cl) (t : ByteArray) (v : Vd) : Prop := ∃ (i j : Nat) (x : Xd), c.xs[i]? = some x ∧ x.n = t ∧ c.vs[j]? = some v ∧ v.n = x.v
def BdAns (c : Cl) (t : ByteArray) (r w : World) (e : Ending) (w' : World) : Prop :=
  Below w.heap.size w w' ∧ ((∃ (v : Vd) (va : Option Addr) (vl vc : Nat), IsBd c t v ∧ e = .returned (.tuple #[.agg #[.string v.n, .int .i64 v.c, .string v.z, .string v.k, .bool v.x, .string v.m, .bool v.y, .slice va vl vc], .bool true]) ∧ v.n.size ≤ 9223372036854775807 ∧ v.z.size ≤ 9223372036854775807 ∧ TxRow r va vl vc v.zs) ∨ ((∀ v, ¬ IsBd c t v) ∧ e = .returned (.tuple #[.agg #[.string ⟨#[]⟩, .int .i64 0, .string ⟨#[]⟩, .string ⟨#[]⟩, .bool false, .string ⟨#[]⟩, .bool false, .slice none 0 0], .bool false])))

set_option maxRecDepth 100000 in
set_option maxHeartbeats 3200000 in
theorem ibd_any (d : Ad) (c : Cl) (t : ByteArray) (r : World) (w : World) (hr : ClRow r d c.raw) (hrw : Below r.heap.size r w) (hx : RisBy Xd.n c.xs) (hv : RisBy Vd.n c.vs) (hne : ∀ (j : Nat) v, c.vs[j]? = some v → ¬ v.n = ⟨#[]⟩) :
    Calls Tryz.prog 134 #[.agg #[.slice d.a1 d.l1 d.c1, .slice d.a2 d.l2 d.c2, .slice d.a3 d.l3 d.c3, .slice d.a4 d.l4 d.c4, .slice d.a5 d.l5 d.c5, .int .i64 c.now], .string t] w (BdAns c t r w) := by
  have HR := hidK hr
  have HRW := hidK hrw
  have HX := hidK hx
  have HV := hidK hv
  have HNE := hidK hne
  have HB := hidK (Below.refl w.heap.size w)
  clear hr hx hv hrw hne
  go_enter Tryz.func134, Tryz.ntmps134
  go_wp2_with fail
  refine (thexd_any d c.now c.xs t r _ HR.out.x (HRW.out.trans ((below2 _ _ _).mono HRW.out.size))).mono ?_
  rintro e w1 ⟨hb, hf⟩
  have hsz1 : ((w.alloc (.cells #[.slice d.a1 d.l1 d.c1, .slice d.a2 d.l2 d.c2, .slice d.a3 d.l3 d.c3, .slice d.a4 d.l4 d.c4, .slice d.a5 d.l5 d.c5, .int .i64 c.now] 37)).alloc (.cells #[.string ⟨#[]⟩, .int .i64 0, .string ⟨#[]⟩, .string ⟨#[]⟩, .bool false, .string ⟨#[]⟩, .bool false, .slice none 0 0] 60)).heap.size = w.heap.size + 1 + 1 := by simp
  have Ck : Hid (w1.heap[w.heap.size]? = some (.cells #[.slice d.a1 d.l1 d.c1, .slice d.a2 d.l2 d.c2, .slice d.a3 d.l3 d.c3, .slice d.a4 d.l4 d.c4, .slice d.a5 d.l5 d.c5, .int .i64 c.now] 37 (0, 0))) := (hb.block (w.heap.size) (by rw [hsz1]; omega)).trans (heap2_0 _ _ _)
  have Cs : Hid (w1.heap[w.heap.size + 1]? = some (.cells #[.string ⟨#[]⟩, .int .i64 0, .string ⟨#[]⟩, .string ⟨#[]⟩, .bool false, .string ⟨#[]⟩, .bool false, .slice none 0 0] 60 (0, 0))) := (hb.block (w.heap.size + 1) (by rw [hsz1]; omega)).trans (heap2_1 _ _ _)
  have HB1 := hidK (HB.out.trans (((below2 _ _ _ : Below w.heap.size w ((w.alloc (.cells #[.slice d.a1 d.l1 d.c1, .slice d.a2 d.l2 d.c2, .slice d.a3 d.l3 d.c3, .slice d.a4 d.l4 d.c4, .slice d.a5 d.l5 d.c5, .int .i64 c.now] 37)).alloc (.cells #[.string ⟨#[]⟩, .int .i64 0, .string ⟨#[]⟩, .string ⟨#[]⟩, .bool false, .string ⟨#[]⟩, .bool false, .slice none 0 0] 60))).trans (hb.mono (by rw [hsz1]; omega))).mono HB.out.size))
  clear HB hb hsz1
  have HB := HB1
  clear HB1
  have Bk := Ck
  clear Ck
  have Bs := Cs
  clear Cs
  rcases hf with ⟨hh, x, hx, hn, rfl, z0, z2, z4⟩ | ⟨hh, rfl⟩
  · have HX1 := hidK hx
    have HN1 := hidK hn
    clear hx hn hh z0 z2 z4
    have k0 : w1.cell? ⟨w.heap.size, 0, none⟩ = some (.slice d.a1 d.l1 d.c1) := cellK Bk.out 0
    have k1 : w1.cell? ⟨w.heap.size, 1, none⟩ = some (.slice d.a2 d.l2 d.c2) := cellK Bk.out 1
    have k2 : w1.cell? ⟨w.heap.size, 2, none⟩ = some (.slice d.a3 d.l3 d.c3) := cellK Bk.out 2
    have k3 : w1.cell? ⟨w.heap.size, 3, none⟩ = some (.slice d.a4 d.l4 d.c4) := cellK Bk.out 3
    have k4 : w1.cell? ⟨w.heap.size, 4, none⟩ = some (.slice d.a5 d.l5 d.c5) := cellK Bk.out 4
    have k5 : w1.cell? ⟨w.heap.size, 5, none⟩ = some (.int .i64 c.now) := cellK Bk.out 5
    have ltk_1 : w.heap.size < w1.heap.size := lt_of_some Bk.out
    go_wp2_with fail
    refine (thevd_any d c.now c.vs x.v r _ HR.out.v (HRW.out.trans ((HB.out.trans ((below1 _ _).mono HB.out.size)).mono HRW.out.size))).mono ?_
    rintro e w2 ⟨hb, hf⟩
    clear k0 k1 k2 k3 k4 k5 ltk_1
    have hsz2 : (w1.alloc (.cells #[.string x.n, .int .i64 x.z, .string x.k, .bool x.x, .string x.v] 69)).heap.size = w1.heap.size + 1 := by simp
    have Ck := hidK ((hb.block (w.heap.size) (by rw [hsz2]; have := lt_of_some Bk.out; omega)).trans ((Below.heap_alloc _ _ _ (lt_of_some Bk.out)).trans (Bk.out)))
    have Cs := hidK ((hb.block (w.heap.size + 1) (by rw [hsz2]; have := lt_of_some Bs.out; omega)).trans ((Below.heap_alloc _ _ _ (lt_of_some Bs.out)).trans (Bs.out)))
    have Cx : Hid (w2.heap[w1.heap.size]? = some (.cells #[.string x.n, .int .i64 x.z, .string x.k, .bool x.x, .string x.v] 69 (0, 0))) := (hb.block (w1.heap.size) (by rw [hsz2]; omega)).trans (Array.getElem?_push_size)
    have HB2 := hidK (HB.out.trans (((below1 _ _ : Below w1.heap.size w1 (w1.alloc (.cells #[.string x.n, .int .i64 x.z, .string x.k, .bool x.x, .string x.v] 69))).trans (hb.mono (by rw [hsz2]; omega))).mono HB.out.size))
    clear HB hb Bk Bs hsz2
    have HB := HB2
    clear HB2
    have Bk := Ck
    clear Ck
    have Bs := Cs
    clear Cs
    have Bx := Cx
    clear Cx
    rcases hf with ⟨hh, v, va, vl, vc, hx, hn, rfl, z0, z2, z3, z5, hvr⟩ | ⟨hh, rfl⟩
    · have HX2 := hidK hx
      have HN2 := hidK hn
      have HT := hidK hvr
      have HZ0 := hidK z0
      have HZ2 := hidK z2
      clear hx hn hh z0 z2 z3 z5 hvr
      have s0 : w2.cell? ⟨w.heap.size + 1, 0, none⟩ = some (.string ⟨#[]⟩) := cellK Bs.out 0
      have s1 : w2.cell? ⟨w.heap.size + 1, 1, none⟩ = some (.int .i64 0) := cellK Bs.out 1
      have s2 : w2.cell? ⟨w.heap.size + 1, 2, none⟩ = some (.string ⟨#[]⟩) := cellK Bs.out 2
      have s3 : w2.cell? ⟨w.heap.size + 1, 3, none⟩ = some (.string ⟨#[]⟩) := cellK Bs.out 3
      have s4 : w2.cell? ⟨w.heap.size + 1, 4, none⟩ = some (.bool false) := cellK Bs.out 4
      have s5 : w2.cell? ⟨w.heap.size + 1, 5, none⟩ = some (.string ⟨#[]⟩) := cellK Bs.out 5
      have s6 : w2.cell? ⟨w.heap.size + 1, 6, none⟩ = some (.bool false) := cellK Bs.out 6
      have s7 : w2.cell? ⟨w.heap.size + 1, 7, none⟩ = some (.slice none 0 0) := cellK Bs.out 7
      have lts_2 : w.heap.size + 1 < w2.heap.size := lt_of_some Bs.out
      have fr0 : w2.frozen? ⟨w.heap.size + 1, 0, none⟩ = false := froK Bs.out 0
      have fr1 : w2.frozen? ⟨w.heap.size + 1, 1, none⟩ = false := froK Bs.out 1
      have fr2 : w2.frozen? ⟨w.heap.size + 1, 2, none⟩ = false := froK Bs.out 2
      have fr3 : w2.frozen? ⟨w.heap.size + 1, 3, none⟩ = false := froK Bs.out 3
      have fr4 : w2.frozen? ⟨w.heap.size + 1, 4, none⟩ = false := froK Bs.out 4
      have fr5 : w2.frozen? ⟨w.heap.size + 1, 5, none⟩ = false := froK Bs.out 5
      have fr6 : w2.frozen? ⟨w.heap.size + 1, 6, none⟩ = false := froK Bs.out 6
      have fr7 : w2.frozen? ⟨w.heap.size + 1, 7, none⟩ = false := froK Bs.out 7
      go_wp2
      refine bodyPost_ret (v := .tuple #[.agg #[.string v.n, .int .i64 v.c, .string v.z, .string v.k, .bool v.x, .string v.m, .bool v.y, .slice va vl vc], .bool true]) (by simp [results, Tryz.results134, go_sem, *]) rfl ⟨set_below (Nat.le_succ _) (set_below (Nat.le_succ _) (set_below (Nat.le_succ _) (set_below (Nat.le_succ _) (set_below (Nat.le_succ _) (set_below (Nat.le_succ _) (set_below (Nat.le_succ _) (set_below (Nat.le_succ _) (HB.out)))))))), .inl ⟨v, va, vl, vc, ⟨_, _, x, HX1.out, HN1.out, HX2.out, HN2.out⟩, rfl, HZ0.out, HZ2.out, HT.out⟩⟩
    · have HH2 := hidK hh
      clear hh
      have s0 : w2.cell? ⟨w.heap.size + 1, 0, none⟩ = some (.string ⟨#[]⟩) := cellK Bs.out 0
      have s1 : w2.cell? ⟨w.heap.size + 1, 1, none⟩ = some (.int .i64 0) := cellK Bs.out 1
      have s2 : w2.cell? ⟨w.heap.size + 1, 2, none⟩ = some (.string ⟨#[]⟩) := cellK Bs.out 2
      have s3 : w2.cell? ⟨w.heap.size + 1, 3, none⟩ = some (.string ⟨#[]⟩) := cellK Bs.out 3
      have s4 : w2.cell? ⟨w.heap.size + 1, 4, none⟩ = some (.bool false) := cellK Bs.out 4
      have s5 : w2.cell? ⟨w.heap.size + 1, 5, none⟩ = some (.string ⟨#[]⟩) := cellK Bs.out 5
      have s6 : w2.cell? ⟨w.heap.size + 1, 6, none⟩ = some (.bool false) := cellK Bs.out 6
      have s7 : w2.cell? ⟨w.heap.size + 1, 7, none⟩ = some (.slice none 0 0) := cellK Bs.out 7
      have lts_2 : w.heap.size + 1 < w2.heap.size := lt_of_some Bs.out
      have fr0 : w2.frozen? ⟨w.heap.size + 1, 0, none⟩ = false := froK Bs.out 0
      have fr1 : w2.frozen? ⟨w.heap.size + 1, 1, none⟩ = false := froK Bs.out 1
      have fr2 : w2.frozen? ⟨w.heap.size + 1, 2, none⟩ = false := froK Bs.out 2
      have fr3 : w2.frozen? ⟨w.heap.size + 1, 3, none⟩ = false := froK Bs.out 3
      have fr4 : w2.frozen? ⟨w.heap.size + 1, 4, none⟩ = false := froK Bs.out 4
      have fr5 : w2.frozen? ⟨w.heap.size + 1, 5, none⟩ = false := froK Bs.out 5
      have fr6 : w2.frozen? ⟨w.heap.size + 1, 6, none⟩ = false := froK Bs.out 6
      have fr7 : w2.frozen? ⟨w.heap.size + 1, 7, none⟩ = false := froK Bs.out 7
      go_wp2
      refine bodyPost_ret (v := .tuple #[.agg #[.string ⟨#[]⟩, .int .i64 0, .string ⟨#[]⟩, .string ⟨#[]⟩, .bool false, .string ⟨#[]⟩, .bool false, .slice none 0 0], .bool false]) (by simp [results, Tryz.results134, go_sem, *]) rfl ⟨set_below (Nat.le_succ _) (set_below (Nat.le_succ _) (set_below (Nat.le_succ _) (set_below (Nat.le_succ _) (set_below (Nat.le_succ _) (set_below (Nat.le_succ _) (set_below (Nat.le_succ _) (set_below (Nat.le_succ _) (HB.out)))))))), .inr ⟨fun v ⟨i, j, x2, e1, e2, e3, e4⟩ => (by obtain ⟨_, rfl⟩ := HX.out.inj e1 HX1.out (e2.trans HN1.out.symm); have := (hit_at HV.out e3 e4).2; rw [HH2.out] at this; cases this), rfl⟩⟩
  · have HH1 := hidK hh
    clear hh
    have k0 : w1.cell? ⟨w.heap.size, 0, none⟩ = some (.slice d.a1 d.l1 d.c1) := cellK Bk.out 0
    have k1 : w1.cell? ⟨w.heap.size, 1, none⟩ = some (.slice d.a2 d.l2 d.c2) := cellK Bk.out 1
    have k2 : w1.cell? ⟨w.heap.size, 2, none⟩ = some (.slice d.a3 d.l3 d.c3) := cellK Bk.out 2
    have k3 : w1.cell? ⟨w.heap.size, 3, none⟩ = some (.slice d.a4 d.l4 d.c4) := cellK Bk.out 3
    have k4 : w1.cell? ⟨w.heap.size, 4, none⟩ = some (.slice d.a5 d.l5 d.c5) := cellK Bk.out 4
    have k5 : w1.cell? ⟨w.heap.size, 5, none⟩ = some (.int .i64 c.now) := cellK Bk.out 5
    have ltk_1 : w.heap.size < w1.heap.size := lt_of_some Bk.out
    go_wp2_with fail
    refine (thevd_any d c.now c.vs ⟨#[]⟩ r _ HR.out.v (HRW.out.trans ((HB.out.trans ((below1 _ _).mono HB.out.size)).mono HRW.out.size))).mono ?_
    rintro e w2 ⟨hb, hf⟩
    clear k0 k1 k2 k3 k4 k5 ltk_1
    have hsz2 : (w1.alloc (.cells #[.string ⟨#[]⟩, .int .i64 0, .string ⟨#[]⟩, .bool false, .string ⟨#[]⟩] 69)).heap.size = w1.heap.size + 1 := by simp
    have Ck := hidK ((hb.block (w.heap.size) (by rw [hsz2]; have := lt_of_some Bk.out; omega)).trans ((Below.heap_alloc _ _ _ (lt_of_some Bk.out)).trans (Bk.out)))
    have Cs := hidK ((hb.block (w.heap.size + 1) (by rw [hsz2]; have := lt_of_some Bs.out; omega)).trans ((Below.heap_alloc _ _ _ (lt_of_some Bs.out)).trans (Bs.out)))
    have Cx : Hid (w2.heap[w1.heap.size]? = some (.cells #[.string ⟨#[]⟩, .int .i64 0, .string ⟨#[]⟩, .bool false, .string ⟨#[]⟩] 69 (0, 0))) := (hb.block (w1.heap.size) (by rw [hsz2]; omega)).trans (Array.getElem?_push_size)
    have HB2 := hidK (HB.out.trans (((below1 _ _ : Below w1.heap.size w1 (w1.alloc (.cells #[.string ⟨#[]⟩, .int .i64 0, .string ⟨#[]⟩, .bool false, .string ⟨#[]⟩] 69))).trans (hb.mono (by rw [hsz2]; omega))).mono HB.out.size))
    clear HB hb Bk Bs hsz2
    have HB := HB2
    clear HB2
    have Bk := Ck
    clear Ck
    have Bs := Cs
    clear Cs
    have Bx := Cx
    clear Cx
    rcases hf with ⟨hh, v, va, vl, vc, hx, hn, rfl, z0, z2, z3, z5, hvr⟩ | ⟨hh, rfl⟩
    · have HX2 := hidK hx
      have HN2 := hidK hn
      have HT := hidK hvr
      have HZ0 := hidK z0
      have HZ2 := hidK z2
      clear hx hn hh z0 z2 z3 z5 hvr
      exact absurd HN2.out (HNE.out _ _ HX2.out)
    · have HH2 := hidK hh
      clear hh
      have s0 : w2.cell? ⟨w.heap.size + 1, 0, none⟩ = some (.string ⟨#[]⟩) := cellK Bs.out 0
      have s1 : w2.cell? ⟨w.heap.size + 1, 1, none⟩ = some (.int .i64 0) := cellK Bs.out 1
      have s2 : w2.cell? ⟨w.heap.size + 1, 2, none⟩ = some (.string ⟨#[]⟩) := cellK Bs.out 2
      have s3 : w2.cell? ⟨w.heap.size + 1, 3, none⟩ = some (.string ⟨#[]⟩) := cellK Bs.out 3
      have s4 : w2.cell? ⟨w.heap.size + 1, 4, none⟩ = some (.bool false) := cellK Bs.out 4
      have s5 : w2.cell? ⟨w.heap.size + 1, 5, none⟩ = some (.string ⟨#[]⟩) := cellK Bs.out 5
      have s6 : w2.cell? ⟨w.heap.size + 1, 6, none⟩ = some (.bool false) := cellK Bs.out 6
      have s7 : w2.cell? ⟨w.heap.size + 1, 7, none⟩ = some (.slice none 0 0) := cellK Bs.out 7
      have lts_2 : w.heap.size + 1 < w2.heap.size := lt_of_some Bs.out
      have fr0 : w2.frozen? ⟨w.heap.size + 1, 0, none⟩ = false := froK Bs.out 0
      have fr1 : w2.frozen? ⟨w.heap.size + 1, 1, none⟩ = false := froK Bs.out 1
      have fr2 : w2.frozen? ⟨w.heap.size + 1, 2, none⟩ = false := froK Bs.out 2
      have fr3 : w2.frozen? ⟨w.heap.size + 1, 3, none⟩ = false := froK Bs.out 3
      have fr4 : w2.frozen? ⟨w.heap.size + 1, 4, none⟩ = false := froK Bs.out 4
      have fr5 : w2.frozen? ⟨w.heap.size + 1, 5, none⟩ = false := froK Bs.out 5
      have fr6 : w2.frozen? ⟨w.heap.size + 1, 6, none⟩ = false := froK Bs.out 6
      have fr7 : w2.frozen? ⟨w.heap.size + 1, 7, none⟩ = false := froK Bs.out 7
      go_wp2
      refine bodyPost_ret (v := .tuple #[.agg #[.string ⟨#[]⟩, .int .i64 0, .string ⟨#[]⟩, .string ⟨#[]⟩, .bool false, .string ⟨#[]⟩, .bool false, .slice none 0 0], .bool false]) (by simp [results, Tryz.results134, go_sem, *]) rfl ⟨set_below (Nat.le_succ _) (set_below (Nat.le_succ _) (set_below (Nat.le_succ _) (set_below (Nat.le_succ _) (set_below (Nat.le_succ _) (set_below (Nat.le_succ _) (set_below (Nat.le_succ _) (set_below (Nat.le_succ _) (HB.out)))))))), .inr ⟨fun v ⟨i, j, x2, e1, e2, e3, e4⟩ => (by have := (hit_at HX.out e1 e2).2; rw [HH1.out] at this; cases this), rfl⟩⟩

/-- How much the pods of a node have together. -/
def cpuOf (t : ByteArray) : List Pd → Int
  | [] => 0
  | p :: ps => (if p.d = t then p.c else 0) + cpuOf t ps
theorem cpuOf_append (t : ByteArray) : ∀ ps qs : List Pd, cpuOf t (ps ++ qs) = cpuOf t ps + cpuOf t qs
  | [], qs => by simp [cpuOf]
  | p :: ps, qs => by simp [cpuOf, cpuOf_append t ps]; omega
theorem cpuOf_step {t : ByteArray} {ps : List Pd} {k : Nat} {p : Pd} (h : ps[k]? = some p) : cpuOf t (ps.take (k + 1)) = cpuOf t (ps.take k) + (if p.d = t then p.c else 0) := by
  rw [List.take_add_one, h, cpuOf_append]
  simp [cpuOf]

set_option maxRecDepth 100000 in
set_option maxHeartbeats 3200000 in
theorem iusedCpu_any (d : Ad) (now : Int) (ps : List Pd) (t : ByteArray) (w : World) (hr : RRow w d.a5 d.l5 d.c5 6 (ps.map pdF)) (hl : ps.length ≤ 8) (hp : ∀ (j : Nat) p, ps[j]? = some p → 0 ≤ p.c ∧ p.c ≤ 1000000) :
    Calls Tryz.prog 152 #[.agg #[.slice d.a1 d.l1 d.c1, .slice d.a2 d.l2 d.c2, .slice d.a3 d.l3 d.c3, .slice d.a4 d.l4 d.c4, .slice d.a5 d.l5 d.c5, .int .i64 now], .string t] w fun e w' => e = .returned (.int .i64 (cpuOf t ps)) ∧ Below w.heap.size w w' := by
  obtain ⟨a1, l1, y1, a2, l2, y2, a3, l3, y3, a4, l4, y4, a5, l5, y5⟩ := d
  dsimp only at hr ⊢
  have HR := hidK hr
  have hxl : ps.length = l5 := by simpa using hr.1
  have hlc : l5 ≤ 9223372036854775807 := Nat.le_trans hr.2.1 hr.2.2.1
  have HP := hidK hp
  clear hr hp
  go_enter Tryz.func152, Tryz.ntmps152
  go_wp2
  go_loopw [5, 11] (fun q i wr => ∃ (k : Nat) (s : Int), k ≤ l5 ∧ q = .int .i64 s ∧ i = .int .i64 k ∧ Hid (s = cpuOf t (ps.take k)) ∧ 0 ≤ s ∧ s ≤ k * 1000000 ∧ Hid (Below w.heap.size w wr)) (fun _ i _ => l5 - (intOf i).toNat)
  case atStart => exact ⟨0, 0, by omega, rfl, rfl, rfl, by omega, by omega, below1 _ _⟩
  case round =>
    obtain ⟨k, s, hk, rfl, rfl, HS, hs0, hs1, HB⟩ := hrel
    by_cases hlt : k < l5
    · obtain ⟨b, o, p, rfl, hb, hx, hat⟩ := pd_at (HR.out.below HB.out) hlt
      obtain ⟨va, vl, vc, hvr, z0, z2, z4, c0, c1, c2, c3, c4, c5⟩ := pd_cells hat
      have HX := hidK hx
      have hpc := HP.out k p hx
      clear hat hx z0 z2 z4 hvr
      by_cases hn : p.d = t
      · have hq := tl_yes hn
        have HN := hidK hn
        clear hn
        go_wp2
        refine ⟨⟨k + 1, s + p.c, by omega, by go_num, by go_num, ?_, by omega, by omega, HB.out.alloc HB.out.size _⟩, by simp [intOf]; omega⟩
        show _ = _
        rw [cpuOf_step HX.out, if_pos HN.out, ← HS.out]
      · have hq := tl_no hn
        have HN := hidK hn
        clear hn
        go_wp2
        refine ⟨⟨k + 1, s, by omega, rfl, by go_num, ?_, by omega, by omega, HB.out.alloc HB.out.size _⟩, by simp [intOf]; omega⟩
        show _ = _
        rw [cpuOf_step HX.out, if_neg HN.out, ← HS.out, Int.add_zero]
    · obtain rfl : l5 = k := by omega
      go_wp2
      go_ret
      exact ⟨congrArg (fun z => Ending.returned (.int .i64 z)) (HS.out.trans (by rw [List.take_of_length_le (by omega)])), HB.out⟩

/-- All pods that have the claim, and a node, are of one. -/
def OneNode (c : Cl) (t : ByteArray) : Prop := ∀ (i j : Nat) p q, c.ps[i]? = some p → c.ps[j]? = some q → ¬ p.d = ⟨#[]⟩ → ¬ q.d = ⟨#[]⟩ → InL p.zs t → InL q.zs t → p.d = q.d

set_option maxRecDepth 100000 in
set_option maxHeartbeats 3200000 in
theorem ione_any (d : Ad) (c : Cl) (t : ByteArray) (w : World) (hr : ClRow w d c.raw) :
    Calls Tryz.prog 153 #[.agg #[.slice d.a1 d.l1 d.c1, .slice d.a2 d.l2 d.c2, .slice d.a3 d.l3 d.c3, .slice d.a4 d.l4 d.c4, .slice d.a5 d.l5 d.c5, .int .i64 c.now], .string t] w (BoolB (OneNode c t) w) := by
  obtain ⟨a1, l1, y1, a2, l2, y2, a3, l3, y3, a4, l4, y4, a5, l5, y5⟩ := d
  dsimp only
  have HR := hidK hr
  have hl1 : c.ns.length = l1 := by simpa using (show (c.ns.map ndF).length = l1 from hr.n.1)
  have hm1 : l1 ≤ 9223372036854775807 := Nat.le_trans hr.n.2.1 hr.n.2.2.1
  have hl2 : c.ks.length = l2 := by simpa using (show (c.ks.map kdF).length = l2 from hr.k.1)
  have hm2 : l2 ≤ 9223372036854775807 := Nat.le_trans hr.k.2.1 hr.k.2.2.1
  have hl3 : c.vs.length = l3 := by simpa using (show (c.vs.map vdF).length = l3 from hr.v.1)
  have hm3 : l3 ≤ 9223372036854775807 := Nat.le_trans hr.v.2.1 hr.v.2.2.1
  have hl4 : c.xs.length = l4 := by simpa using (show (c.xs.map xdF).length = l4 from hr.x.1)
  have hm4 : l4 ≤ 9223372036854775807 := Nat.le_trans hr.x.2.1 hr.x.2.2.1
  have hl5 : c.ps.length = l5 := by simpa using (show (c.ps.map pdF).length = l5 from hr.p.1)
  have hm5 : l5 ≤ 9223372036854775807 := Nat.le_trans hr.p.2.1 hr.p.2.2.1
  clear hr
  go_enter Tryz.func153, Tryz.ntmps153
  go_wp2
  go_loopw [5, 11] (fun q i wr => ∃ (k : Nat) (s : ByteArray), k ≤ l5 ∧ q = .string s ∧ i = .int .i64 k ∧ Hid (∀ (j : Nat) p, j < k → c.ps[j]? = some p → ¬ p.d = ⟨#[]⟩ → InL p.zs t → p.d = s) ∧ Hid (s = ⟨#[]⟩ ∨ ∃ (j : Nat) (p : Pd), j < k ∧ c.ps[j]? = some p ∧ ¬ p.d = ⟨#[]⟩ ∧ InL p.zs t ∧ p.d = s) ∧ Hid (Below w.heap.size w wr)) (fun _ i _ => l5 - (intOf i).toNat)
  case atStart => exact ⟨0, _, by omega, rfl, rfl, fun _ _ h => absurd h (by omega), .inl rfl, below1 _ _⟩
  case round =>
    obtain ⟨k, s, hk, rfl, rfl, HQ, HS, HB⟩ := hrel
    by_cases hlt : k < l5
    · obtain ⟨b, o, p, rfl, hb, hx, hat⟩ := pd_at (HR.out.p.below HB.out) hlt
      obtain ⟨va, vl, vc, hvr, z0, z2, z4, c0, c1, c2, c3, c4, c5⟩ := pd_cells hat
      have HX := hidK hx
      have HT := hidK hvr
      clear hat hx z0 z2 z4 hvr
      have skip : (p.d = ⟨#[]⟩ ∨ ¬ InL p.zs t) → ∀ (j : Nat) q, j < k + 1 → c.ps[j]? = some q → ¬ q.d = ⟨#[]⟩ → InL q.zs t → q.d = s := by
        intro h j q hj hq h1 h2
        by_cases e : j = k
        · subst e
          rw [HX.out] at hq
          obtain rfl := Option.some.inj hq
          rcases h with h | h
          · exact absurd h h1
          · exact absurd h2 h
        · exact HQ.out j q (by omega) hq h1 h2
      have SK := hidK skip
      clear skip
      have keepS : s = ⟨#[]⟩ ∨ ∃ (j : Nat) (p : Pd), j < k + 1 ∧ c.ps[j]? = some p ∧ ¬ p.d = ⟨#[]⟩ ∧ InL p.zs t ∧ p.d = s := HS.out.imp id (fun ⟨j, p, h1, h2⟩ => ⟨j, p, by omega, h2⟩)
      have KS := hidK keepS
      clear keepS
      by_cases he : p.d = ⟨#[]⟩
      · have hq := isE_y he
        have HEm := hidK he
        clear he
        go_wp2
        exact ⟨⟨k + 1, s, by omega, rfl, by go_num, SK.out (.inl HEm.out), KS.out, HB.out.alloc HB.out.size _⟩, by simp [intOf]; omega⟩
      · have hq := isE_no he
        have HEm := hidK he
        clear he
        go_wp2_with fail
        refine (icontains_any va vl vc p.zs t _ (HT.out.below (below1 _ _))).mono ?_
        rintro e w1 ⟨r, rfl, hi, hb2⟩
        have hsz1 : (wr.alloc (.cells #[.string p.n, .int .i64 p.c, .string p.z, .slice va vl vc, .string p.d, .int .i64 p.p] 76)).heap.size = wr.heap.size + 1 := by simp
        have Cr : Hid (w1.heap[wr.heap.size]? = some (.cells #[.string p.n, .int .i64 p.c, .string p.z, .slice va vl vc, .string p.d, .int .i64 p.p] 76 (0, 0))) := (hb2.block (wr.heap.size) (by rw [hsz1]; omega)).trans (Array.getElem?_push_size)
        have HB1 := hidK (HB.out.trans (((below1 _ _ : Below wr.heap.size wr (wr.alloc (.cells #[.string p.n, .int .i64 p.c, .string p.z, .slice va vl vc, .string p.d, .int .i64 p.p] 76))).trans (hb2.mono (by rw [hsz1]; omega))).mono HB.out.size))
        clear HB hb2 hsz1
        have HB := HB1
        clear HB1
        have Br := Cr
        clear Cr
        have HI := hidK hi
        clear hi c0 c1 c2 c3 c4 c5 hb
        cases r
        · have r0 : w1.cell? ⟨wr.heap.size, 0, none⟩ = some (.string p.n) := cellK Br.out 0
          have r1 : w1.cell? ⟨wr.heap.size, 1, none⟩ = some (.int .i64 p.c) := cellK Br.out 1
          have r2 : w1.cell? ⟨wr.heap.size, 2, none⟩ = some (.string p.z) := cellK Br.out 2
          have r3 : w1.cell? ⟨wr.heap.size, 3, none⟩ = some (.slice va vl vc) := cellK Br.out 3
          have r4 : w1.cell? ⟨wr.heap.size, 4, none⟩ = some (.string p.d) := cellK Br.out 4
          have r5 : w1.cell? ⟨wr.heap.size, 5, none⟩ = some (.int .i64 p.p) := cellK Br.out 5
          have ltr_1 : wr.heap.size < w1.heap.size := lt_of_some Br.out
          go_wp2
          exact ⟨⟨k + 1, s, by omega, rfl, by go_num, SK.out (.inr (fun h => by have := HI.out.2 h; cases this)), KS.out, HB.out⟩, by simp [intOf]; omega⟩
        · have HIn := hidK (HI.out.1 (by first | trivial | rfl))
          clear HI
          by_cases hs : s = ⟨#[]⟩
          · have hq2 := isE_y hs
            have HSe := hidK hs
            clear hs
            have r0 : w1.cell? ⟨wr.heap.size, 0, none⟩ = some (.string p.n) := cellK Br.out 0
            have r1 : w1.cell? ⟨wr.heap.size, 1, none⟩ = some (.int .i64 p.c) := cellK Br.out 1
            have r2 : w1.cell? ⟨wr.heap.size, 2, none⟩ = some (.string p.z) := cellK Br.out 2
            have r3 : w1.cell? ⟨wr.heap.size, 3, none⟩ = some (.slice va vl vc) := cellK Br.out 3
            have r4 : w1.cell? ⟨wr.heap.size, 4, none⟩ = some (.string p.d) := cellK Br.out 4
            have r5 : w1.cell? ⟨wr.heap.size, 5, none⟩ = some (.int .i64 p.p) := cellK Br.out 5
            have ltr_1 : wr.heap.size < w1.heap.size := lt_of_some Br.out
            go_wp2_with fail
            refine ⟨⟨k + 1, p.d, by omega, rfl, by go_num, fun j q hj hq h1 h2 => ?_, .inr ⟨k, p, by omega, HX.out, HEm.out, HIn.out, rfl⟩, HB.out⟩, by simp [intOf]; omega⟩
            by_cases e : j = k
            · subst e
              rw [HX.out] at hq
              obtain rfl := Option.some.inj hq
              rfl
            · exact absurd (HSe.out ▸ HQ.out j q (by omega) hq h1 h2) h1
          · have hq2 := isE_no hs
            have HSe := hidK hs
            clear hs
            by_cases hd : p.d = s
            · have hq3 := tl_yes hd
              have HD := hidK hd
              clear hd
              have r0 : w1.cell? ⟨wr.heap.size, 0, none⟩ = some (.string p.n) := cellK Br.out 0
              have r1 : w1.cell? ⟨wr.heap.size, 1, none⟩ = some (.int .i64 p.c) := cellK Br.out 1
              have r2 : w1.cell? ⟨wr.heap.size, 2, none⟩ = some (.string p.z) := cellK Br.out 2
              have r3 : w1.cell? ⟨wr.heap.size, 3, none⟩ = some (.slice va vl vc) := cellK Br.out 3
              have r4 : w1.cell? ⟨wr.heap.size, 4, none⟩ = some (.string p.d) := cellK Br.out 4
              have r5 : w1.cell? ⟨wr.heap.size, 5, none⟩ = some (.int .i64 p.p) := cellK Br.out 5
              have ltr_1 : wr.heap.size < w1.heap.size := lt_of_some Br.out
              go_wp2_with fail
              refine ⟨⟨k + 1, p.d, by omega, rfl, by go_num, fun j q hj hq h1 h2 => ?_, .inr ⟨k, p, by omega, HX.out, HEm.out, HIn.out, rfl⟩, HB.out⟩, by simp [intOf]; omega⟩
              by_cases e : j = k
              · subst e
                rw [HX.out] at hq
                obtain rfl := Option.some.inj hq
                rfl
              · exact (HQ.out j q (by omega) hq h1 h2).trans HD.out.symm
            · have hq3 := tl_no hd
              have HD := hidK hd
              clear hd
              have r0 : w1.cell? ⟨wr.heap.size, 0, none⟩ = some (.string p.n) := cellK Br.out 0
              have r1 : w1.cell? ⟨wr.heap.size, 1, none⟩ = some (.int .i64 p.c) := cellK Br.out 1
              have r2 : w1.cell? ⟨wr.heap.size, 2, none⟩ = some (.string p.z) := cellK Br.out 2
              have r3 : w1.cell? ⟨wr.heap.size, 3, none⟩ = some (.slice va vl vc) := cellK Br.out 3
              have r4 : w1.cell? ⟨wr.heap.size, 4, none⟩ = some (.string p.d) := cellK Br.out 4
              have r5 : w1.cell? ⟨wr.heap.size, 5, none⟩ = some (.int .i64 p.p) := cellK Br.out 5
              have ltr_1 : wr.heap.size < w1.heap.size := lt_of_some Br.out
              go_wp2
              go_ret
              refine BoolB.f (fun h => ?_) HB.out
              rcases HS.out with h1 | ⟨j, q, h1, h2, h3, h4, h5⟩
              · exact HSe.out h1
              · exact HD.out ((h k j p q HX.out h2 HEm.out h3 HIn.out h4).trans h5)
    · obtain rfl : l5 = k := by omega
      go_wp2
      go_ret
      refine BoolB.t (fun i j p q hi hj h1 h2 h3 h4 => ?_) HB.out
      rw [HQ.out i p (by have := (List.getElem?_eq_some_iff.1 hi).1; omega) hi h1 h3, HQ.out j q (by have := (List.getElem?_eq_some_iff.1 hj).1; omega) hj h2 h4]

end Rc
end Go.Proofs.YtcljghpfclegmaaGreatDoor

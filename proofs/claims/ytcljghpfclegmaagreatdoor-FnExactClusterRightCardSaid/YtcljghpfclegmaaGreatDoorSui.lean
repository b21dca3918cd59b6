/-
  Whether a pod may be where it is, and whether it may run there; whether a node's mounts may be; how many disks are on a node; as the program asks it.
-/
import Derived.Test.YtcljghpfclegmaaGreatDoorPlc
namespace Go.Proofs.YtcljghpfclegmaaGreatDoor
open Go.RowKit
namespace Rc
open Mk

theorem IsBd.inj {c : Cl} {t : ByteArray} {v v' : Vd} (hx : RisBy Xd.n c.xs) (hv : RisBy Vd.n c.vs) (h : IsBd c t v) (h' : IsBd c t v') : v = v' := by
  obtain ⟨i, j, x, e1, e2, e3, e4⟩ := h
  obtain ⟨i', j', x', f1, f2, f3, f4⟩ := h'
  obtain ⟨_, rfl⟩ := hx.inj e1 f1 (e2.trans f2.symm)
  exact (hv.inj e3 f3 (e4.trans f4.symm)).2
def SuitI (c : Cl) (p : Pd) : Prop := ∃ (i : Nat) (n : Nd), c.ns[i]? = some n ∧ n.n = p.d ∧ (p.z = ⟨#[]⟩ ∨ p.z = n.z) ∧ ∀ (j : Nat) t, p.zs[j]? = some t → ∃ v, IsBd c t v ∧ v.z = n.z
def RunI (c : Cl) (p : Pd) : Prop := ∃ (i : Nat) (n : Nd), c.ns[i]? = some n ∧ n.n = p.d ∧ n.d = false ∧ ∀ (j : Nat) t, p.zs[j]? = some t → ∃ v, IsBd c t v ∧ InL n.zs v.n
def MntI (c : Cl) (n : Nd) : Prop := ∀ (j : Nat) t, n.zs[j]? = some t → ∃ (i : Nat) (v : Vd), c.vs[i]? = some v ∧ v.n = t ∧ (n.d = true ∨ InL v.zs n.n)

set_option maxRecDepth 100000 in
set_option maxHeartbeats 3200000 in
theorem isuit_any (d : Ad) (c : Cl) (p : Pd) (pa : Option Addr) (pl pc : Nat) (w : World) (hr : ClRow w d c.raw) (hn : RisBy Nd.n c.ns) (hx : RisBy Xd.n c.xs) (hv : RisBy Vd.n c.vs) (hne : ∀ (j : Nat) v, c.vs[j]? = some v → ¬ v.n = ⟨#[]⟩) (hp : TxRow w pa pl pc p.zs) :
    Calls Tryz.prog 151 #[.agg #[.slice d.a1 d.l1 d.c1, .slice d.a2 d.l2 d.c2, .slice d.a3 d.l3 d.c3, .slice d.a4 d.l4 d.c4, .slice d.a5 d.l5 d.c5, .int .i64 c.now], .agg #[.string p.n, .int .i64 p.c, .string p.z, .slice pa pl pc, .string p.d, .int .i64 p.p]] w (BoolB (SuitI c p) w) := by
  have HR := hidK hr
  have HN := hidK hn
  have HX := hidK hx
  have HV := hidK hv
  have HNE := hidK hne
  have HP := hidK hp
  have hlc : pl ≤ 9223372036854775807 := Nat.le_trans hp.2.1 hp.2.2.1
  have hzl : p.zs.length = pl := hp.1
  have HB := hidK (Below.refl w.heap.size w)
  clear hr hn hx hv hne hp
  go_enter Tryz.func151, Tryz.ntmps151
  go_wp2_with fail
  refine (thend_any d c.now c.ns p.d w _ HR.out.n (below2 _ _ _)).mono ?_
  rintro e w1 ⟨hb, hf⟩
  have hsz1 : ((w.alloc (.cells #[.slice d.a1 d.l1 d.c1, .slice d.a2 d.l2 d.c2, .slice d.a3 d.l3 d.c3, .slice d.a4 d.l4 d.c4, .slice d.a5 d.l5 d.c5, .int .i64 c.now] 37)).alloc (.cells #[.string p.n, .int .i64 p.c, .string p.z, .slice pa pl pc, .string p.d, .int .i64 p.p] 76)).heap.size = w.heap.size + 1 + 1 := by simp
  have Ck : Hid (w1.heap[w.heap.size]? = some (.cells #[.slice d.a1 d.l1 d.c1, .slice d.a2 d.l2 d.c2, .slice d.a3 d.l3 d.c3, .slice d.a4 d.l4 d.c4, .slice d.a5 d.l5 d.c5, .int .i64 c.now] 37 (0, 0))) := (hb.block (w.heap.size) (by rw [hsz1]; omega)).trans (heap2_0 _ _ _)
  have Cp : Hid (w1.heap[w.heap.size + 1]? = some (.cells #[.string p.n, .int .i64 p.c, .string p.z, .slice pa pl pc, .string p.d, .int .i64 p.p] 76 (0, 0))) := (hb.block (w.heap.size + 1) (by rw [hsz1]; omega)).trans (heap2_1 _ _ _)
  have HB1 := hidK (HB.out.trans (((below2 _ _ _ : Below w.heap.size w ((w.alloc (.cells #[.slice d.a1 d.l1 d.c1, .slice d.a2 d.l2 d.c2, .slice d.a3 d.l3 d.c3, .slice d.a4 d.l4 d.c4, .slice d.a5 d.l5 d.c5, .int .i64 c.now] 37)).alloc (.cells #[.string p.n, .int .i64 p.c, .string p.z, .slice pa pl pc, .string p.d, .int .i64 p.p] 76))).trans (hb.mono (by rw [hsz1]; omega))).mono HB.out.size))
  clear HB hb hsz1
  have HB := HB1
  clear HB1
  have Bk := Ck
  clear Ck
  have Bp := Cp
  clear Cp
  rcases hf with ⟨hh, n, va, vl, vc, hx, hn, rfl, z0, z1, hvr⟩ | ⟨hh, rfl⟩
  rotate_left
  · have HH := hidK hh
    clear hh
    have k0 : w1.cell? ⟨w.heap.size, 0, none⟩ = some (.slice d.a1 d.l1 d.c1) := cellK Bk.out 0
    have k1 : w1.cell? ⟨w.heap.size, 1, none⟩ = some (.slice d.a2 d.l2 d.c2) := cellK Bk.out 1
    have k2 : w1.cell? ⟨w.heap.size, 2, none⟩ = some (.slice d.a3 d.l3 d.c3) := cellK Bk.out 2
    have k3 : w1.cell? ⟨w.heap.size, 3, none⟩ = some (.slice d.a4 d.l4 d.c4) := cellK Bk.out 3
    have k4 : w1.cell? ⟨w.heap.size, 4, none⟩ = some (.slice d.a5 d.l5 d.c5) := cellK Bk.out 4
    have k5 : w1.cell? ⟨w.heap.size, 5, none⟩ = some (.int .i64 c.now) := cellK Bk.out 5
    have ltk_1 : w.heap.size < w1.heap.size := lt_of_some Bk.out
    have p0 : w1.cell? ⟨w.heap.size + 1, 0, none⟩ = some (.string p.n) := cellK Bp.out 0
    have p1 : w1.cell? ⟨w.heap.size + 1, 1, none⟩ = some (.int .i64 p.c) := cellK Bp.out 1
    have p2 : w1.cell? ⟨w.heap.size + 1, 2, none⟩ = some (.string p.z) := cellK Bp.out 2
    have p3 : w1.cell? ⟨w.heap.size + 1, 3, none⟩ = some (.slice pa pl pc) := cellK Bp.out 3
    have p4 : w1.cell? ⟨w.heap.size + 1, 4, none⟩ = some (.string p.d) := cellK Bp.out 4
    have p5 : w1.cell? ⟨w.heap.size + 1, 5, none⟩ = some (.int .i64 p.p) := cellK Bp.out 5
    have ltp_1 : w.heap.size + 1 < w1.heap.size := lt_of_some Bp.out
    go_wp2
    go_ret
    refine BoolB.f (fun ⟨i, n, e1, e2, _⟩ => ?_) (HB.out.alloc HB.out.size _)
    have := (hit_at HN.out e1 e2).2
    rw [HH.out] at this
    cases this
  have HX1 := hidK hx
  have HN1 := hidK hn
  have HT1 := hidK hvr
  clear hx hn hh z0 z1 hvr
  have hz : (p.z = ⟨#[]⟩ ∨ p.z = n.z) ∨ ¬ (p.z = ⟨#[]⟩ ∨ p.z = n.z) := Classical.em _
  rcases hz with hz | hz
  rotate_left
  · have q1 := isE_no (fun e => hz (.inl e))
    have q2 := tl_no (fun e => hz (.inr e))
    have HC := hidK hz
    clear hz
    have k0 : w1.cell? ⟨w.heap.size, 0, none⟩ = some (.slice d.a1 d.l1 d.c1) := cellK Bk.out 0
    have k1 : w1.cell? ⟨w.heap.size, 1, none⟩ = some (.slice d.a2 d.l2 d.c2) := cellK Bk.out 1
    have k2 : w1.cell? ⟨w.heap.size, 2, none⟩ = some (.slice d.a3 d.l3 d.c3) := cellK Bk.out 2
    have k3 : w1.cell? ⟨w.heap.size, 3, none⟩ = some (.slice d.a4 d.l4 d.c4) := cellK Bk.out 3
    have k4 : w1.cell? ⟨w.heap.size, 4, none⟩ = some (.slice d.a5 d.l5 d.c5) := cellK Bk.out 4
    have k5 : w1.cell? ⟨w.heap.size, 5, none⟩ = some (.int .i64 c.now) := cellK Bk.out 5
    have ltk_1 : w.heap.size < w1.heap.size := lt_of_some Bk.out
    have p0 : w1.cell? ⟨w.heap.size + 1, 0, none⟩ = some (.string p.n) := cellK Bp.out 0
    have p1 : w1.cell? ⟨w.heap.size + 1, 1, none⟩ = some (.int .i64 p.c) := cellK Bp.out 1
    have p2 : w1.cell? ⟨w.heap.size + 1, 2, none⟩ = some (.string p.z) := cellK Bp.out 2
    have p3 : w1.cell? ⟨w.heap.size + 1, 3, none⟩ = some (.slice pa pl pc) := cellK Bp.out 3
    have p4 : w1.cell? ⟨w.heap.size + 1, 4, none⟩ = some (.string p.d) := cellK Bp.out 4
    have p5 : w1.cell? ⟨w.heap.size + 1, 5, none⟩ = some (.int .i64 p.p) := cellK Bp.out 5
    have ltp_1 : w.heap.size + 1 < w1.heap.size := lt_of_some Bp.out
    go_wp2
    go_ret
    refine BoolB.f (fun ⟨i, m, e1, e2, e3, _⟩ => ?_) (HB.out.alloc HB.out.size _)
    obtain ⟨_, rfl⟩ := HN.out.inj e1 HX1.out (e2.trans HN1.out.symm)
    exact HC.out e3
  have HC := hidK hz
  have hq : (p.z.toList.isEmpty = true) ∨ (p.z.toList.isEmpty = false ∧ (p.z.toList == n.z.toList) = true) := by
    by_cases e : p.z = ⟨#[]⟩
    · exact .inl (isE_y e)
    · exact .inr ⟨isE_no e, tl_yes (HC.out.resolve_left e)⟩
  clear hz
  rcases hq with hq | ⟨hq, hq2⟩
  · have k0 : w1.cell? ⟨w.heap.size, 0, none⟩ = some (.slice d.a1 d.l1 d.c1) := cellK Bk.out 0
    have k1 : w1.cell? ⟨w.heap.size, 1, none⟩ = some (.slice d.a2 d.l2 d.c2) := cellK Bk.out 1
    have k2 : w1.cell? ⟨w.heap.size, 2, none⟩ = some (.slice d.a3 d.l3 d.c3) := cellK Bk.out 2
    have k3 : w1.cell? ⟨w.heap.size, 3, none⟩ = some (.slice d.a4 d.l4 d.c4) := cellK Bk.out 3
    have k4 : w1.cell? ⟨w.heap.size, 4, none⟩ = some (.slice d.a5 d.l5 d.c5) := cellK Bk.out 4
    have k5 : w1.cell? ⟨w.heap.size, 5, none⟩ = some (.int .i64 c.now) := cellK Bk.out 5
    have ltk_1 : w.heap.size < w1.heap.size := lt_of_some Bk.out
    have p0 : w1.cell? ⟨w.heap.size + 1, 0, none⟩ = some (.string p.n) := cellK Bp.out 0
    have p1 : w1.cell? ⟨w.heap.size + 1, 1, none⟩ = some (.int .i64 p.c) := cellK Bp.out 1
    have p2 : w1.cell? ⟨w.heap.size + 1, 2, none⟩ = some (.string p.z) := cellK Bp.out 2
    have p3 : w1.cell? ⟨w.heap.size + 1, 3, none⟩ = some (.slice pa pl pc) := cellK Bp.out 3
    have p4 : w1.cell? ⟨w.heap.size + 1, 4, none⟩ = some (.string p.d) := cellK Bp.out 4
    have p5 : w1.cell? ⟨w.heap.size + 1, 5, none⟩ = some (.int .i64 p.p) := cellK Bp.out 5
    have ltp_1 : w.heap.size + 1 < w1.heap.size := lt_of_some Bp.out
    go_wp2
    go_loopw [35] (fun i wr => ∃ k : Nat, k ≤ pl ∧ i = .int .i64 k ∧ Hid (∀ (j : Nat) t, j < k → p.zs[j]? = some t → ∃ v, IsBd c t v ∧ v.z = n.z) ∧ Hid (Below w.heap.size w wr) ∧ Hid (wr.heap[w.heap.size]? = some (.cells #[.slice d.a1 d.l1 d.c1, .slice d.a2 d.l2 d.c2, .slice d.a3 d.l3 d.c3, .slice d.a4 d.l4 d.c4, .slice d.a5 d.l5 d.c5, .int .i64 c.now] 37 (0, 0))) ∧ Hid (wr.heap[w1.heap.size]? = some (.cells #[.string n.n, .string n.z, .int .i64 n.c, .int .i64 n.s, .int .i64 n.u, .bool n.d, .slice va vl vc] 102 (0, 0)))) (fun i _ => pl - (intOf i).toNat)
    case atStart => exact ⟨0, by omega, rfl, fun _ _ h => absurd h (by omega), HB.out.alloc HB.out.size _, (Below.heap_alloc _ _ _ (lt_of_some Bk.out)).trans Bk.out, Array.getElem?_push_size⟩
    case round =>
      obtain ⟨k, hk, rfl, HQ, HB, Bk, Bn⟩ := hrel
      by_cases hlt : k < pl
      · obtain ⟨b, o, t, rfl, hb, hx, hc, hsz⟩ := (HP.out.below HB.out).at hlt
        have HXt := hidK hx
        clear hx hsz
        have k0 : wr.cell? ⟨w.heap.size, 0, none⟩ = some (.slice d.a1 d.l1 d.c1) := cellK Bk.out 0
        have k1 : wr.cell? ⟨w.heap.size, 1, none⟩ = some (.slice d.a2 d.l2 d.c2) := cellK Bk.out 1
        have k2 : wr.cell? ⟨w.heap.size, 2, none⟩ = some (.slice d.a3 d.l3 d.c3) := cellK Bk.out 2
        have k3 : wr.cell? ⟨w.heap.size, 3, none⟩ = some (.slice d.a4 d.l4 d.c4) := cellK Bk.out 3
        have k4 : wr.cell? ⟨w.heap.size, 4, none⟩ = some (.slice d.a5 d.l5 d.c5) := cellK Bk.out 4
        have k5 : wr.cell? ⟨w.heap.size, 5, none⟩ = some (.int .i64 c.now) := cellK Bk.out 5
        have ltk_0 : w.heap.size < wr.heap.size := lt_of_some Bk.out
        have n0 : wr.cell? ⟨w1.heap.size, 0, none⟩ = some (.string n.n) := cellK Bn.out 0
        have n1 : wr.cell? ⟨w1.heap.size, 1, none⟩ = some (.string n.z) := cellK Bn.out 1
        have n2 : wr.cell? ⟨w1.heap.size, 2, none⟩ = some (.int .i64 n.c) := cellK Bn.out 2
        have n3 : wr.cell? ⟨w1.heap.size, 3, none⟩ = some (.int .i64 n.s) := cellK Bn.out 3
        have n4 : wr.cell? ⟨w1.heap.size, 4, none⟩ = some (.int .i64 n.u) := cellK Bn.out 4
        have n5 : wr.cell? ⟨w1.heap.size, 5, none⟩ = some (.bool n.d) := cellK Bn.out 5
        have n6 : wr.cell? ⟨w1.heap.size, 6, none⟩ = some (.slice va vl vc) := cellK Bn.out 6
        have ltn_0 : w1.heap.size < wr.heap.size := lt_of_some Bn.out
        go_wp2_with fail
        refine (ibd_any d c t w _ HR.out HB.out HX.out HV.out HNE.out).mono ?_
        rintro e w2 ⟨hb2, hf⟩
        clear k0 k1 k2 k3 k4 k5 ltk_0 n0 n1 n2 n3 n4 n5 n6 ltn_0
        have Ck := hidK ((hb2.block (w.heap.size) (by have := lt_of_some Bk.out; omega)).trans (Bk.out))
        have Cn := hidK ((hb2.block (w1.heap.size) (by have := lt_of_some Bn.out; omega)).trans (Bn.out))
        have HB1 := hidK (HB.out.trans (hb2.mono HB.out.size))
        clear HB hb2 Bk Bn
        have HB := HB1
        clear HB1
        have Bk := Ck
        clear Ck
        have Bn := Cn
        clear Cn
        clear hb hc
        rcases hf with ⟨v, xa, xl, xc, hbd, rfl, z0, z2, hxr⟩ | ⟨hbd, rfl⟩
        rotate_left
        · have HD := hidK hbd
          clear hbd
          have k0 : w2.cell? ⟨w.heap.size, 0, none⟩ = some (.slice d.a1 d.l1 d.c1) := cellK Bk.out 0
          have k1 : w2.cell? ⟨w.heap.size, 1, none⟩ = some (.slice d.a2 d.l2 d.c2) := cellK Bk.out 1
          have k2 : w2.cell? ⟨w.heap.size, 2, none⟩ = some (.slice d.a3 d.l3 d.c3) := cellK Bk.out 2
          have k3 : w2.cell? ⟨w.heap.size, 3, none⟩ = some (.slice d.a4 d.l4 d.c4) := cellK Bk.out 3
          have k4 : w2.cell? ⟨w.heap.size, 4, none⟩ = some (.slice d.a5 d.l5 d.c5) := cellK Bk.out 4
          have k5 : w2.cell? ⟨w.heap.size, 5, none⟩ = some (.int .i64 c.now) := cellK Bk.out 5
          have ltk_1 : w.heap.size < w2.heap.size := lt_of_some Bk.out
          have n0 : w2.cell? ⟨w1.heap.size, 0, none⟩ = some (.string n.n) := cellK Bn.out 0
          have n1 : w2.cell? ⟨w1.heap.size, 1, none⟩ = some (.string n.z) := cellK Bn.out 1
          have n2 : w2.cell? ⟨w1.heap.size, 2, none⟩ = some (.int .i64 n.c) := cellK Bn.out 2
          have n3 : w2.cell? ⟨w1.heap.size, 3, none⟩ = some (.int .i64 n.s) := cellK Bn.out 3
          have n4 : w2.cell? ⟨w1.heap.size, 4, none⟩ = some (.int .i64 n.u) := cellK Bn.out 4
          have n5 : w2.cell? ⟨w1.heap.size, 5, none⟩ = some (.bool n.d) := cellK Bn.out 5
          have n6 : w2.cell? ⟨w1.heap.size, 6, none⟩ = some (.slice va vl vc) := cellK Bn.out 6
          have ltn_1 : w1.heap.size < w2.heap.size := lt_of_some Bn.out
          go_wp2
          go_ret
          refine BoolB.f (fun ⟨i, m, e1, e2, e3, e4⟩ => ?_) (HB.out.alloc HB.out.size _)
          obtain ⟨v, e5, _⟩ := e4 k t HXt.out
          exact HD.out v e5
        have HD := hidK hbd
        have HTx := hidK hxr
        clear hbd hxr z0 z2
        by_cases hz2 : v.z = n.z
        · have q3 := tl_yes hz2
          have HZ2 := hidK hz2
          clear hz2
          have k0 : w2.cell? ⟨w.heap.size, 0, none⟩ = some (.slice d.a1 d.l1 d.c1) := cellK Bk.out 0
          have k1 : w2.cell? ⟨w.heap.size, 1, none⟩ = some (.slice d.a2 d.l2 d.c2) := cellK Bk.out 1
          have k2 : w2.cell? ⟨w.heap.size, 2, none⟩ = some (.slice d.a3 d.l3 d.c3) := cellK Bk.out 2
          have k3 : w2.cell? ⟨w.heap.size, 3, none⟩ = some (.slice d.a4 d.l4 d.c4) := cellK Bk.out 3
          have k4 : w2.cell? ⟨w.heap.size, 4, none⟩ = some (.slice d.a5 d.l5 d.c5) := cellK Bk.out 4
          have k5 : w2.cell? ⟨w.heap.size, 5, none⟩ = some (.int .i64 c.now) := cellK Bk.out 5
          have ltk_1 : w.heap.size < w2.heap.size := lt_of_some Bk.out
          have n0 : w2.cell? ⟨w1.heap.size, 0, none⟩ = some (.string n.n) := cellK Bn.out 0
          have n1 : w2.cell? ⟨w1.heap.size, 1, none⟩ = some (.string n.z) := cellK Bn.out 1
          have n2 : w2.cell? ⟨w1.heap.size, 2, none⟩ = some (.int .i64 n.c) := cellK Bn.out 2
          have n3 : w2.cell? ⟨w1.heap.size, 3, none⟩ = some (.int .i64 n.s) := cellK Bn.out 3
          have n4 : w2.cell? ⟨w1.heap.size, 4, none⟩ = some (.int .i64 n.u) := cellK Bn.out 4
          have n5 : w2.cell? ⟨w1.heap.size, 5, none⟩ = some (.bool n.d) := cellK Bn.out 5
          have n6 : w2.cell? ⟨w1.heap.size, 6, none⟩ = some (.slice va vl vc) := cellK Bn.out 6
          have ltn_1 : w1.heap.size < w2.heap.size := lt_of_some Bn.out
          go_wp2_with fail
          refine ⟨⟨k + 1, by omega, by go_num, fun j s hj hs => ?_, (HB.out.alloc HB.out.size _), (Below.heap_alloc _ _ _ (lt_of_some Bk.out)).trans Bk.out, (Below.heap_alloc _ _ _ (lt_of_some Bn.out)).trans Bn.out⟩, by simp [intOf]; omega⟩
          by_cases e : j = k
          · subst e
            rw [HXt.out] at hs
            obtain rfl := Option.some.inj hs
            exact ⟨v, HD.out, HZ2.out⟩
          · exact HQ.out j s (by omega) hs
        · have q3 := tl_no hz2
          have HZ2 := hidK hz2
          clear hz2
          have k0 : w2.cell? ⟨w.heap.size, 0, none⟩ = some (.slice d.a1 d.l1 d.c1) := cellK Bk.out 0
          have k1 : w2.cell? ⟨w.heap.size, 1, none⟩ = some (.slice d.a2 d.l2 d.c2) := cellK Bk.out 1
          have k2 : w2.cell? ⟨w.heap.size, 2, none⟩ = some (.slice d.a3 d.l3 d.c3) := cellK Bk.out 2
          have k3 : w2.cell? ⟨w.heap.size, 3, none⟩ = some (.slice d.a4 d.l4 d.c4) := cellK Bk.out 3
          have k4 : w2.cell? ⟨w.heap.size, 4, none⟩ = some (.slice d.a5 d.l5 d.c5) := cellK Bk.out 4
          have k5 : w2.cell? ⟨w.heap.size, 5, none⟩ = some (.int .i64 c.now) := cellK Bk.out 5
          have ltk_1 : w.heap.size < w2.heap.size := lt_of_some Bk.out
          have n0 : w2.cell? ⟨w1.heap.size, 0, none⟩ = some (.string n.n) := cellK Bn.out 0
          have n1 : w2.cell? ⟨w1.heap.size, 1, none⟩ = some (.string n.z) := cellK Bn.out 1
          have n2 : w2.cell? ⟨w1.heap.size, 2, none⟩ = some (.int .i64 n.c) := cellK Bn.out 2
          have n3 : w2.cell? ⟨w1.heap.size, 3, none⟩ = some (.int .i64 n.s) := cellK Bn.out 3
          have n4 : w2.cell? ⟨w1.heap.size, 4, none⟩ = some (.int .i64 n.u) := cellK Bn.out 4
          have n5 : w2.cell? ⟨w1.heap.size, 5, none⟩ = some (.bool n.d) := cellK Bn.out 5
          have n6 : w2.cell? ⟨w1.heap.size, 6, none⟩ = some (.slice va vl vc) := cellK Bn.out 6
          have ltn_1 : w1.heap.size < w2.heap.size := lt_of_some Bn.out
          go_wp2
          go_ret
          refine BoolB.f (fun ⟨i, m, e1, e2, e3, e4⟩ => ?_) (HB.out.alloc HB.out.size _)
          obtain ⟨_, rfl⟩ := HN.out.inj e1 HX1.out (e2.trans HN1.out.symm)
          obtain ⟨v', e5, e6⟩ := e4 k t HXt.out
          obtain rfl := IsBd.inj HX.out HV.out HD.out e5
          exact HZ2.out e6
      · obtain rfl : pl = k := by omega
        go_wp2
        go_ret
        exact BoolB.t ⟨_, n, HX1.out, HN1.out, HC.out, fun j t ht => HQ.out j t (by have := (List.getElem?_eq_some_iff.1 ht).1; omega) ht⟩ HB.out
  · have k0 : w1.cell? ⟨w.heap.size, 0, none⟩ = some (.slice d.a1 d.l1 d.c1) := cellK Bk.out 0
    have k1 : w1.cell? ⟨w.heap.size, 1, none⟩ = some (.slice d.a2 d.l2 d.c2) := cellK Bk.out 1
    have k2 : w1.cell? ⟨w.heap.size, 2, none⟩ = some (.slice d.a3 d.l3 d.c3) := cellK Bk.out 2
    have k3 : w1.cell? ⟨w.heap.size, 3, none⟩ = some (.slice d.a4 d.l4 d.c4) := cellK Bk.out 3
    have k4 : w1.cell? ⟨w.heap.size, 4, none⟩ = some (.slice d.a5 d.l5 d.c5) := cellK Bk.out 4
    have k5 : w1.cell? ⟨w.heap.size, 5, none⟩ = some (.int .i64 c.now) := cellK Bk.out 5
    have ltk_1 : w.heap.size < w1.heap.size := lt_of_some Bk.out
    have p0 : w1.cell? ⟨w.heap.size + 1, 0, none⟩ = some (.string p.n) := cellK Bp.out 0
    have p1 : w1.cell? ⟨w.heap.size + 1, 1, none⟩ = some (.int .i64 p.c) := cellK Bp.out 1
    have p2 : w1.cell? ⟨w.heap.size + 1, 2, none⟩ = some (.string p.z) := cellK Bp.out 2
    have p3 : w1.cell? ⟨w.heap.size + 1, 3, none⟩ = some (.slice pa pl pc) := cellK Bp.out 3
    have p4 : w1.cell? ⟨w.heap.size + 1, 4, none⟩ = some (.string p.d) := cellK Bp.out 4
    have p5 : w1.cell? ⟨w.heap.size + 1, 5, none⟩ = some (.int .i64 p.p) := cellK Bp.out 5
    have ltp_1 : w.heap.size + 1 < w1.heap.size := lt_of_some Bp.out
    go_wp2
    go_loopw [35] (fun i wr => ∃ k : Nat, k ≤ pl ∧ i = .int .i64 k ∧ Hid (∀ (j : Nat) t, j < k → p.zs[j]? = some t → ∃ v, IsBd c t v ∧ v.z = n.z) ∧ Hid (Below w.heap.size w wr) ∧ Hid (wr.heap[w.heap.size]? = some (.cells #[.slice d.a1 d.l1 d.c1, .slice d.a2 d.l2 d.c2, .slice d.a3 d.l3 d.c3, .slice d.a4 d.l4 d.c4, .slice d.a5 d.l5 d.c5, .int .i64 c.now] 37 (0, 0))) ∧ Hid (wr.heap[w1.heap.size]? = some (.cells #[.string n.n, .string n.z, .int .i64 n.c, .int .i64 n.s, .int .i64 n.u, .bool n.d, .slice va vl vc] 102 (0, 0)))) (fun i _ => pl - (intOf i).toNat)
    case atStart => exact ⟨0, by omega, rfl, fun _ _ h => absurd h (by omega), HB.out.alloc HB.out.size _, (Below.heap_alloc _ _ _ (lt_of_some Bk.out)).trans Bk.out, Array.getElem?_push_size⟩
    case round =>
      obtain ⟨k, hk, rfl, HQ, HB, Bk, Bn⟩ := hrel
      by_cases hlt : k < pl
      · obtain ⟨b, o, t, rfl, hb, hx, hc, hsz⟩ := (HP.out.below HB.out).at hlt
        have HXt := hidK hx
        clear hx hsz
        have k0 : wr.cell? ⟨w.heap.size, 0, none⟩ = some (.slice d.a1 d.l1 d.c1) := cellK Bk.out 0
        have k1 : wr.cell? ⟨w.heap.size, 1, none⟩ = some (.slice d.a2 d.l2 d.c2) := cellK Bk.out 1
        have k2 : wr.cell? ⟨w.heap.size, 2, none⟩ = some (.slice d.a3 d.l3 d.c3) := cellK Bk.out 2
        have k3 : wr.cell? ⟨w.heap.size, 3, none⟩ = some (.slice d.a4 d.l4 d.c4) := cellK Bk.out 3
        have k4 : wr.cell? ⟨w.heap.size, 4, none⟩ = some (.slice d.a5 d.l5 d.c5) := cellK Bk.out 4
        have k5 : wr.cell? ⟨w.heap.size, 5, none⟩ = some (.int .i64 c.now) := cellK Bk.out 5
        have ltk_0 : w.heap.size < wr.heap.size := lt_of_some Bk.out
        have n0 : wr.cell? ⟨w1.heap.size, 0, none⟩ = some (.string n.n) := cellK Bn.out 0
        have n1 : wr.cell? ⟨w1.heap.size, 1, none⟩ = some (.string n.z) := cellK Bn.out 1
        have n2 : wr.cell? ⟨w1.heap.size, 2, none⟩ = some (.int .i64 n.c) := cellK Bn.out 2
        have n3 : wr.cell? ⟨w1.heap.size, 3, none⟩ = some (.int .i64 n.s) := cellK Bn.out 3
        have n4 : wr.cell? ⟨w1.heap.size, 4, none⟩ = some (.int .i64 n.u) := cellK Bn.out 4
        have n5 : wr.cell? ⟨w1.heap.size, 5, none⟩ = some (.bool n.d) := cellK Bn.out 5
        have n6 : wr.cell? ⟨w1.heap.size, 6, none⟩ = some (.slice va vl vc) := cellK Bn.out 6
        have ltn_0 : w1.heap.size < wr.heap.size := lt_of_some Bn.out
        go_wp2_with fail
        refine (ibd_any d c t w _ HR.out HB.out HX.out HV.out HNE.out).mono ?_
        rintro e w2 ⟨hb2, hf⟩
        clear k0 k1 k2 k3 k4 k5 ltk_0 n0 n1 n2 n3 n4 n5 n6 ltn_0
        have Ck := hidK ((hb2.block (w.heap.size) (by have := lt_of_some Bk.out; omega)).trans (Bk.out))
        have Cn := hidK ((hb2.block (w1.heap.size) (by have := lt_of_some Bn.out; omega)).trans (Bn.out))
        have HB1 := hidK (HB.out.trans (hb2.mono HB.out.size))
        clear HB hb2 Bk Bn
        have HB := HB1
        clear HB1
        have Bk := Ck
        clear Ck
        have Bn := Cn
        clear Cn
        clear hb hc
        rcases hf with ⟨v, xa, xl, xc, hbd, rfl, z0, z2, hxr⟩ | ⟨hbd, rfl⟩
        rotate_left
        · have HD := hidK hbd
          clear hbd
          have k0 : w2.cell? ⟨w.heap.size, 0, none⟩ = some (.slice d.a1 d.l1 d.c1) := cellK Bk.out 0
          have k1 : w2.cell? ⟨w.heap.size, 1, none⟩ = some (.slice d.a2 d.l2 d.c2) := cellK Bk.out 1
          have k2 : w2.cell? ⟨w.heap.size, 2, none⟩ = some (.slice d.a3 d.l3 d.c3) := cellK Bk.out 2
          have k3 : w2.cell? ⟨w.heap.size, 3, none⟩ = some (.slice d.a4 d.l4 d.c4) := cellK Bk.out 3
          have k4 : w2.cell? ⟨w.heap.size, 4, none⟩ = some (.slice d.a5 d.l5 d.c5) := cellK Bk.out 4
          have k5 : w2.cell? ⟨w.heap.size, 5, none⟩ = some (.int .i64 c.now) := cellK Bk.out 5
          have ltk_1 : w.heap.size < w2.heap.size := lt_of_some Bk.out
          have n0 : w2.cell? ⟨w1.heap.size, 0, none⟩ = some (.string n.n) := cellK Bn.out 0
          have n1 : w2.cell? ⟨w1.heap.size, 1, none⟩ = some (.string n.z) := cellK Bn.out 1
          have n2 : w2.cell? ⟨w1.heap.size, 2, none⟩ = some (.int .i64 n.c) := cellK Bn.out 2
          have n3 : w2.cell? ⟨w1.heap.size, 3, none⟩ = some (.int .i64 n.s) := cellK Bn.out 3
          have n4 : w2.cell? ⟨w1.heap.size, 4, none⟩ = some (.int .i64 n.u) := cellK Bn.out 4
          have n5 : w2.cell? ⟨w1.heap.size, 5, none⟩ = some (.bool n.d) := cellK Bn.out 5
          have n6 : w2.cell? ⟨w1.heap.size, 6, none⟩ = some (.slice va vl vc) := cellK Bn.out 6
          have ltn_1 : w1.heap.size < w2.heap.size := lt_of_some Bn.out
          go_wp2
          go_ret
          refine BoolB.f (fun ⟨i, m, e1, e2, e3, e4⟩ => ?_) (HB.out.alloc HB.out.size _)
          obtain ⟨v, e5, _⟩ := e4 k t HXt.out
          exact HD.out v e5
        have HD := hidK hbd
        have HTx := hidK hxr
        clear hbd hxr z0 z2
        by_cases hz2 : v.z = n.z
        · have q3 := tl_yes hz2
          have HZ2 := hidK hz2
          clear hz2
          have k0 : w2.cell? ⟨w.heap.size, 0, none⟩ = some (.slice d.a1 d.l1 d.c1) := cellK Bk.out 0
          have k1 : w2.cell? ⟨w.heap.size, 1, none⟩ = some (.slice d.a2 d.l2 d.c2) := cellK Bk.out 1
          have k2 : w2.cell? ⟨w.heap.size, 2, none⟩ = some (.slice d.a3 d.l3 d.c3) := cellK Bk.out 2
          have k3 : w2.cell? ⟨w.heap.size, 3, none⟩ = some (.slice d.a4 d.l4 d.c4) := cellK Bk.out 3
          have k4 : w2.cell? ⟨w.heap.size, 4, none⟩ = some (.slice d.a5 d.l5 d.c5) := cellK Bk.out 4
          have k5 : w2.cell? ⟨w.heap.size, 5, none⟩ = some (.int .i64 c.now) := cellK Bk.out 5
          have ltk_1 : w.heap.size < w2.heap.size := lt_of_some Bk.out
          have n0 : w2.cell? ⟨w1.heap.size, 0, none⟩ = some (.string n.n) := cellK Bn.out 0
          have n1 : w2.cell? ⟨w1.heap.size, 1, none⟩ = some (.string n.z) := cellK Bn.out 1
          have n2 : w2.cell? ⟨w1.heap.size, 2, none⟩ = some (.int .i64 n.c) := cellK Bn.out 2
          have n3 : w2.cell? ⟨w1.heap.size, 3, none⟩ = some (.int .i64 n.s) := cellK Bn.out 3
          have n4 : w2.cell? ⟨w1.heap.size, 4, none⟩ = some (.int .i64 n.u) := cellK Bn.out 4
          have n5 : w2.cell? ⟨w1.heap.size, 5, none⟩ = some (.bool n.d) := cellK Bn.out 5
          have n6 : w2.cell? ⟨w1.heap.size, 6, none⟩ = some (.slice va vl vc) := cellK Bn.out 6
          have ltn_1 : w1.heap.size < w2.heap.size := lt_of_some Bn.out
          go_wp2_with fail
          refine ⟨⟨k + 1, by omega, by go_num, fun j s hj hs => ?_, (HB.out.alloc HB.out.size _), (Below.heap_alloc _ _ _ (lt_of_some Bk.out)).trans Bk.out, (Below.heap_alloc _ _ _ (lt_of_some Bn.out)).trans Bn.out⟩, by simp [intOf]; omega⟩
          by_cases e : j = k
          · subst e
            rw [HXt.out] at hs
            obtain rfl := Option.some.inj hs
            exact ⟨v, HD.out, HZ2.out⟩
          · exact HQ.out j s (by omega) hs
        · have q3 := tl_no hz2
          have HZ2 := hidK hz2
          clear hz2
          have k0 : w2.cell? ⟨w.heap.size, 0, none⟩ = some (.slice d.a1 d.l1 d.c1) := cellK Bk.out 0
          have k1 : w2.cell? ⟨w.heap.size, 1, none⟩ = some (.slice d.a2 d.l2 d.c2) := cellK Bk.out 1
          have k2 : w2.cell? ⟨w.heap.size, 2, none⟩ = some (.slice d.a3 d.l3 d.c3) := cellK Bk.out 2
          have k3 : w2.cell? ⟨w.heap.size, 3, none⟩ = some (.slice d.a4 d.l4 d.c4) := cellK Bk.out 3
          have k4 : w2.cell? ⟨w.heap.size, 4, none⟩ = some (.slice d.a5 d.l5 d.c5) := cellK Bk.out 4
          have k5 : w2.cell? ⟨w.heap.size, 5, none⟩ = some (.int .i64 c.now) := cellK Bk.out 5
          have ltk_1 : w.heap.size < w2.heap.size := lt_of_some Bk.out
          have n0 : w2.cell? ⟨w1.heap.size, 0, none⟩ = some (.string n.n) := cellK Bn.out 0
          have n1 : w2.cell? ⟨w1.heap.size, 1, none⟩ = some (.string n.z) := cellK Bn.out 1
          have n2 : w2.cell? ⟨w1.heap.size, 2, none⟩ = some (.int .i64 n.c) := cellK Bn.out 2
          have n3 : w2.cell? ⟨w1.heap.size, 3, none⟩ = some (.int .i64 n.s) := cellK Bn.out 3
          have n4 : w2.cell? ⟨w1.heap.size, 4, none⟩ = some (.int .i64 n.u) := cellK Bn.out 4
          have n5 : w2.cell? ⟨w1.heap.size, 5, none⟩ = some (.bool n.d) := cellK Bn.out 5
          have n6 : w2.cell? ⟨w1.heap.size, 6, none⟩ = some (.slice va vl vc) := cellK Bn.out 6
          have ltn_1 : w1.heap.size < w2.heap.size := lt_of_some Bn.out
          go_wp2
          go_ret
          refine BoolB.f (fun ⟨i, m, e1, e2, e3, e4⟩ => ?_) (HB.out.alloc HB.out.size _)
          obtain ⟨_, rfl⟩ := HN.out.inj e1 HX1.out (e2.trans HN1.out.symm)
          obtain ⟨v', e5, e6⟩ := e4 k t HXt.out
          obtain rfl := IsBd.inj HX.out HV.out HD.out e5
          exact HZ2.out e6
      · obtain rfl : pl = k := by omega
        go_wp2
        go_ret
        exact BoolB.t ⟨_, n, HX1.out, HN1.out, HC.out, fun j t ht => HQ.out j t (by have := (List.getElem?_eq_some_iff.1 ht).1; omega) ht⟩ HB.out

set_option maxRecDepth 100000 in
set_option maxHeartbeats 3200000 in
theorem irun_any (d : Ad) (c : Cl) (p : Pd) (pa : Option Addr) (pl pc : Nat) (w : World) (hr : ClRow w d c.raw) (hn : RisBy Nd.n c.ns) (hx : RisBy Xd.n c.xs) (hv : RisBy Vd.n c.vs) (hne : ∀ (j : Nat) v, c.vs[j]? = some v → ¬ v.n = ⟨#[]⟩) (hp : TxRow w pa pl pc p.zs) :
    Calls Tryz.prog 157 #[.agg #[.slice d.a1 d.l1 d.c1, .slice d.a2 d.l2 d.c2, .slice d.a3 d.l3 d.c3, .slice d.a4 d.l4 d.c4, .slice d.a5 d.l5 d.c5, .int .i64 c.now], .agg #[.string p.n, .int .i64 p.c, .string p.z, .slice pa pl pc, .string p.d, .int .i64 p.p]] w (BoolB (RunI c p) w) := by
  have HR := hidK hr
  have HN := hidK hn
  have HX := hidK hx
  have HV := hidK hv
  have HNE := hidK hne
  have HP := hidK hp
  have hlc : pl ≤ 9223372036854775807 := Nat.le_trans hp.2.1 hp.2.2.1
  have hzl : p.zs.length = pl := hp.1
  have HB := hidK (Below.refl w.heap.size w)
  clear hr hn hx hv hne hp
  go_enter Tryz.func157, Tryz.ntmps157
  go_wp2_with fail
  refine (thend_any d c.now c.ns p.d w _ HR.out.n (below2 _ _ _)).mono ?_
  rintro e w1 ⟨hb, hf⟩
  have hsz1 : ((w.alloc (.cells #[.slice d.a1 d.l1 d.c1, .slice d.a2 d.l2 d.c2, .slice d.a3 d.l3 d.c3, .slice d.a4 d.l4 d.c4, .slice d.a5 d.l5 d.c5, .int .i64 c.now] 37)).alloc (.cells #[.string p.n, .int .i64 p.c, .string p.z, .slice pa pl pc, .string p.d, .int .i64 p.p] 76)).heap.size = w.heap.size + 1 + 1 := by simp
  have Ck : Hid (w1.heap[w.heap.size]? = some (.cells #[.slice d.a1 d.l1 d.c1, .slice d.a2 d.l2 d.c2, .slice d.a3 d.l3 d.c3, .slice d.a4 d.l4 d.c4, .slice d.a5 d.l5 d.c5, .int .i64 c.now] 37 (0, 0))) := (hb.block (w.heap.size) (by rw [hsz1]; omega)).trans (heap2_0 _ _ _)
  have Cp : Hid (w1.heap[w.heap.size + 1]? = some (.cells #[.string p.n, .int .i64 p.c, .string p.z, .slice pa pl pc, .string p.d, .int .i64 p.p] 76 (0, 0))) := (hb.block (w.heap.size + 1) (by rw [hsz1]; omega)).trans (heap2_1 _ _ _)
  have HB1 := hidK (HB.out.trans (((below2 _ _ _ : Below w.heap.size w ((w.alloc (.cells #[.slice d.a1 d.l1 d.c1, .slice d.a2 d.l2 d.c2, .slice d.a3 d.l3 d.c3, .slice d.a4 d.l4 d.c4, .slice d.a5 d.l5 d.c5, .int .i64 c.now] 37)).alloc (.cells #[.string p.n, .int .i64 p.c, .string p.z, .slice pa pl pc, .string p.d, .int .i64 p.p] 76))).trans (hb.mono (by rw [hsz1]; omega))).mono HB.out.size))
  clear HB hb hsz1
  have HB := HB1
  clear HB1
  have Bk := Ck
  clear Ck
  have Bp := Cp
  clear Cp
  rcases hf with ⟨hh, n, va, vl, vc, hx, hn, rfl, z0, z1, hvr⟩ | ⟨hh, rfl⟩
  rotate_left
  · have HH := hidK hh
    clear hh
    have k0 : w1.cell? ⟨w.heap.size, 0, none⟩ = some (.slice d.a1 d.l1 d.c1) := cellK Bk.out 0
    have k1 : w1.cell? ⟨w.heap.size, 1, none⟩ = some (.slice d.a2 d.l2 d.c2) := cellK Bk.out 1
    have k2 : w1.cell? ⟨w.heap.size, 2, none⟩ = some (.slice d.a3 d.l3 d.c3) := cellK Bk.out 2
    have k3 : w1.cell? ⟨w.heap.size, 3, none⟩ = some (.slice d.a4 d.l4 d.c4) := cellK Bk.out 3
    have k4 : w1.cell? ⟨w.heap.size, 4, none⟩ = some (.slice d.a5 d.l5 d.c5) := cellK Bk.out 4
    have k5 : w1.cell? ⟨w.heap.size, 5, none⟩ = some (.int .i64 c.now) := cellK Bk.out 5
    have ltk_1 : w.heap.size < w1.heap.size := lt_of_some Bk.out
    have p0 : w1.cell? ⟨w.heap.size + 1, 0, none⟩ = some (.string p.n) := cellK Bp.out 0
    have p1 : w1.cell? ⟨w.heap.size + 1, 1, none⟩ = some (.int .i64 p.c) := cellK Bp.out 1
    have p2 : w1.cell? ⟨w.heap.size + 1, 2, none⟩ = some (.string p.z) := cellK Bp.out 2
    have p3 : w1.cell? ⟨w.heap.size + 1, 3, none⟩ = some (.slice pa pl pc) := cellK Bp.out 3
    have p4 : w1.cell? ⟨w.heap.size + 1, 4, none⟩ = some (.string p.d) := cellK Bp.out 4
    have p5 : w1.cell? ⟨w.heap.size + 1, 5, none⟩ = some (.int .i64 p.p) := cellK Bp.out 5
    have ltp_1 : w.heap.size + 1 < w1.heap.size := lt_of_some Bp.out
    go_wp2
    go_ret
    refine BoolB.f (fun ⟨i, n, e1, e2, _⟩ => ?_) (HB.out.alloc HB.out.size _)
    have := (hit_at HN.out e1 e2).2
    rw [HH.out] at this
    cases this
  have HX1 := hidK hx
  have HN1 := hidK hn
  have HT1 := hidK hvr
  clear hx hn hh z0 z1 hvr
  cases hd : n.d
  rotate_left
  · have k0 : w1.cell? ⟨w.heap.size, 0, none⟩ = some (.slice d.a1 d.l1 d.c1) := cellK Bk.out 0
    have k1 : w1.cell? ⟨w.heap.size, 1, none⟩ = some (.slice d.a2 d.l2 d.c2) := cellK Bk.out 1
    have k2 : w1.cell? ⟨w.heap.size, 2, none⟩ = some (.slice d.a3 d.l3 d.c3) := cellK Bk.out 2
    have k3 : w1.cell? ⟨w.heap.size, 3, none⟩ = some (.slice d.a4 d.l4 d.c4) := cellK Bk.out 3
    have k4 : w1.cell? ⟨w.heap.size, 4, none⟩ = some (.slice d.a5 d.l5 d.c5) := cellK Bk.out 4
    have k5 : w1.cell? ⟨w.heap.size, 5, none⟩ = some (.int .i64 c.now) := cellK Bk.out 5
    have ltk_1 : w.heap.size < w1.heap.size := lt_of_some Bk.out
    have p0 : w1.cell? ⟨w.heap.size + 1, 0, none⟩ = some (.string p.n) := cellK Bp.out 0
    have p1 : w1.cell? ⟨w.heap.size + 1, 1, none⟩ = some (.int .i64 p.c) := cellK Bp.out 1
    have p2 : w1.cell? ⟨w.heap.size + 1, 2, none⟩ = some (.string p.z) := cellK Bp.out 2
    have p3 : w1.cell? ⟨w.heap.size + 1, 3, none⟩ = some (.slice pa pl pc) := cellK Bp.out 3
    have p4 : w1.cell? ⟨w.heap.size + 1, 4, none⟩ = some (.string p.d) := cellK Bp.out 4
    have p5 : w1.cell? ⟨w.heap.size + 1, 5, none⟩ = some (.int .i64 p.p) := cellK Bp.out 5
    have ltp_1 : w.heap.size + 1 < w1.heap.size := lt_of_some Bp.out
    go_wp2
    go_ret
    refine BoolB.f (fun ⟨i, m, e1, e2, e3, _⟩ => ?_) (HB.out.alloc HB.out.size _)
    obtain ⟨_, rfl⟩ := HN.out.inj e1 HX1.out (e2.trans HN1.out.symm)
    rw [hd] at e3
    cases e3
  have HC := hidK hd
  clear hd
  have k0 : w1.cell? ⟨w.heap.size, 0, none⟩ = some (.slice d.a1 d.l1 d.c1) := cellK Bk.out 0
  have k1 : w1.cell? ⟨w.heap.size, 1, none⟩ = some (.slice d.a2 d.l2 d.c2) := cellK Bk.out 1
  have k2 : w1.cell? ⟨w.heap.size, 2, none⟩ = some (.slice d.a3 d.l3 d.c3) := cellK Bk.out 2
  have k3 : w1.cell? ⟨w.heap.size, 3, none⟩ = some (.slice d.a4 d.l4 d.c4) := cellK Bk.out 3
  have k4 : w1.cell? ⟨w.heap.size, 4, none⟩ = some (.slice d.a5 d.l5 d.c5) := cellK Bk.out 4
  have k5 : w1.cell? ⟨w.heap.size, 5, none⟩ = some (.int .i64 c.now) := cellK Bk.out 5
  have ltk_1 : w.heap.size < w1.heap.size := lt_of_some Bk.out
  have p0 : w1.cell? ⟨w.heap.size + 1, 0, none⟩ = some (.string p.n) := cellK Bp.out 0
  have p1 : w1.cell? ⟨w.heap.size + 1, 1, none⟩ = some (.int .i64 p.c) := cellK Bp.out 1
  have p2 : w1.cell? ⟨w.heap.size + 1, 2, none⟩ = some (.string p.z) := cellK Bp.out 2
  have p3 : w1.cell? ⟨w.heap.size + 1, 3, none⟩ = some (.slice pa pl pc) := cellK Bp.out 3
  have p4 : w1.cell? ⟨w.heap.size + 1, 4, none⟩ = some (.string p.d) := cellK Bp.out 4
  have p5 : w1.cell? ⟨w.heap.size + 1, 5, none⟩ = some (.int .i64 p.p) := cellK Bp.out 5
  have ltp_1 : w.heap.size + 1 < w1.heap.size := lt_of_some Bp.out
  go_wp2
  go_loopw [27] (fun i wr => ∃ k : Nat, k ≤ pl ∧ i = .int .i64 k ∧ Hid (∀ (j : Nat) t, j < k → p.zs[j]? = some t → ∃ v, IsBd c t v ∧ InL n.zs v.n) ∧ Hid (Below w.heap.size w wr) ∧ Hid (wr.heap[w.heap.size]? = some (.cells #[.slice d.a1 d.l1 d.c1, .slice d.a2 d.l2 d.c2, .slice d.a3 d.l3 d.c3, .slice d.a4 d.l4 d.c4, .slice d.a5 d.l5 d.c5, .int .i64 c.now] 37 (0, 0))) ∧ Hid (wr.heap[w1.heap.size]? = some (.cells #[.string n.n, .string n.z, .int .i64 n.c, .int .i64 n.s, .int .i64 n.u, .bool false, .slice va vl vc] 102 (0, 0)))) (fun i _ => pl - (intOf i).toNat)
  case atStart => exact ⟨0, by omega, rfl, fun _ _ h => absurd h (by omega), HB.out.alloc HB.out.size _, (Below.heap_alloc _ _ _ (lt_of_some Bk.out)).trans Bk.out, Array.getElem?_push_size⟩
  case round =>
    obtain ⟨k, hk, rfl, HQ, HB, Bk, Bn⟩ := hrel
    by_cases hlt : k < pl
    · obtain ⟨b, o, t, rfl, hb, hx, hc, hsz⟩ := (HP.out.below HB.out).at hlt
      have HXt := hidK hx
      clear hx hsz
      have k0 : wr.cell? ⟨w.heap.size, 0, none⟩ = some (.slice d.a1 d.l1 d.c1) := cellK Bk.out 0
      have k1 : wr.cell? ⟨w.heap.size, 1, none⟩ = some (.slice d.a2 d.l2 d.c2) := cellK Bk.out 1
      have k2 : wr.cell? ⟨w.heap.size, 2, none⟩ = some (.slice d.a3 d.l3 d.c3) := cellK Bk.out 2
      have k3 : wr.cell? ⟨w.heap.size, 3, none⟩ = some (.slice d.a4 d.l4 d.c4) := cellK Bk.out 3
      have k4 : wr.cell? ⟨w.heap.size, 4, none⟩ = some (.slice d.a5 d.l5 d.c5) := cellK Bk.out 4
      have k5 : wr.cell? ⟨w.heap.size, 5, none⟩ = some (.int .i64 c.now) := cellK Bk.out 5
      have ltk_0 : w.heap.size < wr.heap.size := lt_of_some Bk.out
      have n0 : wr.cell? ⟨w1.heap.size, 0, none⟩ = some (.string n.n) := cellK Bn.out 0
      have n1 : wr.cell? ⟨w1.heap.size, 1, none⟩ = some (.string n.z) := cellK Bn.out 1
      have n2 : wr.cell? ⟨w1.heap.size, 2, none⟩ = some (.int .i64 n.c) := cellK Bn.out 2
      have n3 : wr.cell? ⟨w1.heap.size, 3, none⟩ = some (.int .i64 n.s) := cellK Bn.out 3
      have n4 : wr.cell? ⟨w1.heap.size, 4, none⟩ = some (.int .i64 n.u) := cellK Bn.out 4
      have n5 : wr.cell? ⟨w1.heap.size, 5, none⟩ = some (.bool false) := cellK Bn.out 5
      have n6 : wr.cell? ⟨w1.heap.size, 6, none⟩ = some (.slice va vl vc) := cellK Bn.out 6
      have ltn_0 : w1.heap.size < wr.heap.size := lt_of_some Bn.out
      go_wp2_with fail
      refine (ibd_any d c t w _ HR.out HB.out HX.out HV.out HNE.out).mono ?_
      rintro e w2 ⟨hb2, hf⟩
      clear k0 k1 k2 k3 k4 k5 ltk_0 n0 n1 n2 n3 n4 n5 n6 ltn_0
      have Ck := hidK ((hb2.block (w.heap.size) (by have := lt_of_some Bk.out; omega)).trans (Bk.out))
      have Cn := hidK ((hb2.block (w1.heap.size) (by have := lt_of_some Bn.out; omega)).trans (Bn.out))
      have HB1 := hidK (HB.out.trans (hb2.mono HB.out.size))
      clear HB hb2 Bk Bn
      have HB := HB1
      clear HB1
      have Bk := Ck
      clear Ck
      have Bn := Cn
      clear Cn
      clear hb hc
      rcases hf with ⟨v, xa, xl, xc, hbd, rfl, z0, z2, hxr⟩ | ⟨hbd, rfl⟩
      rotate_left
      · have HD := hidK hbd
        clear hbd
        have k0 : w2.cell? ⟨w.heap.size, 0, none⟩ = some (.slice d.a1 d.l1 d.c1) := cellK Bk.out 0
        have k1 : w2.cell? ⟨w.heap.size, 1, none⟩ = some (.slice d.a2 d.l2 d.c2) := cellK Bk.out 1
        have k2 : w2.cell? ⟨w.heap.size, 2, none⟩ = some (.slice d.a3 d.l3 d.c3) := cellK Bk.out 2
        have k3 : w2.cell? ⟨w.heap.size, 3, none⟩ = some (.slice d.a4 d.l4 d.c4) := cellK Bk.out 3
        have k4 : w2.cell? ⟨w.heap.size, 4, none⟩ = some (.slice d.a5 d.l5 d.c5) := cellK Bk.out 4
        have k5 : w2.cell? ⟨w.heap.size, 5, none⟩ = some (.int .i64 c.now) := cellK Bk.out 5
        have ltk_1 : w.heap.size < w2.heap.size := lt_of_some Bk.out
        have n0 : w2.cell? ⟨w1.heap.size, 0, none⟩ = some (.string n.n) := cellK Bn.out 0
        have n1 : w2.cell? ⟨w1.heap.size, 1, none⟩ = some (.string n.z) := cellK Bn.out 1
        have n2 : w2.cell? ⟨w1.heap.size, 2, none⟩ = some (.int .i64 n.c) := cellK Bn.out 2
        have n3 : w2.cell? ⟨w1.heap.size, 3, none⟩ = some (.int .i64 n.s) := cellK Bn.out 3
        have n4 : w2.cell? ⟨w1.heap.size, 4, none⟩ = some (.int .i64 n.u) := cellK Bn.out 4
        have n5 : w2.cell? ⟨w1.heap.size, 5, none⟩ = some (.bool false) := cellK Bn.out 5
        have n6 : w2.cell? ⟨w1.heap.size, 6, none⟩ = some (.slice va vl vc) := cellK Bn.out 6
        have ltn_1 : w1.heap.size < w2.heap.size := lt_of_some Bn.out
        go_wp2
        go_ret
        refine BoolB.f (fun ⟨i, m, e1, e2, e3, e4⟩ => ?_) (HB.out.alloc HB.out.size _)
        obtain ⟨v, e5, _⟩ := e4 k t HXt.out
        exact HD.out v e5
      have HD := hidK hbd
      have HTx := hidK hxr
      clear hbd hxr z0 z2
      have k0 : w2.cell? ⟨w.heap.size, 0, none⟩ = some (.slice d.a1 d.l1 d.c1) := cellK Bk.out 0
      have k1 : w2.cell? ⟨w.heap.size, 1, none⟩ = some (.slice d.a2 d.l2 d.c2) := cellK Bk.out 1
      have k2 : w2.cell? ⟨w.heap.size, 2, none⟩ = some (.slice d.a3 d.l3 d.c3) := cellK Bk.out 2
      have k3 : w2.cell? ⟨w.heap.size, 3, none⟩ = some (.slice d.a4 d.l4 d.c4) := cellK Bk.out 3
      have k4 : w2.cell? ⟨w.heap.size, 4, none⟩ = some (.slice d.a5 d.l5 d.c5) := cellK Bk.out 4
      have k5 : w2.cell? ⟨w.heap.size, 5, none⟩ = some (.int .i64 c.now) := cellK Bk.out 5
      have ltk_1 : w.heap.size < w2.heap.size := lt_of_some Bk.out
      have n0 : w2.cell? ⟨w1.heap.size, 0, none⟩ = some (.string n.n) := cellK Bn.out 0
      have n1 : w2.cell? ⟨w1.heap.size, 1, none⟩ = some (.string n.z) := cellK Bn.out 1
      have n2 : w2.cell? ⟨w1.heap.size, 2, none⟩ = some (.int .i64 n.c) := cellK Bn.out 2
      have n3 : w2.cell? ⟨w1.heap.size, 3, none⟩ = some (.int .i64 n.s) := cellK Bn.out 3
      have n4 : w2.cell? ⟨w1.heap.size, 4, none⟩ = some (.int .i64 n.u) := cellK Bn.out 4
      have n5 : w2.cell? ⟨w1.heap.size, 5, none⟩ = some (.bool false) := cellK Bn.out 5
      have n6 : w2.cell? ⟨w1.heap.size, 6, none⟩ = some (.slice va vl vc) := cellK Bn.out 6
      have ltn_1 : w1.heap.size < w2.heap.size := lt_of_some Bn.out
      go_wp2_with fail
      refine (icontains_any va vl vc n.zs v.n _ (HT1.out.below (HB.out.trans ((below1 _ _).mono HB.out.size)))).mono ?_
      rintro e w3 ⟨r, rfl, hi, hb3⟩
      clear k0 k1 k2 k3 k4 k5 ltk_1 n0 n1 n2 n3 n4 n5 n6 ltn_1
      have hsz2 : (w2.alloc (.cells #[.string v.n, .int .i64 v.c, .string v.z, .string v.k, .bool v.x, .string v.m, .bool v.y, .slice xa xl xc] 60)).heap.size = w2.heap.size + 1 := by simp
      have Ck := hidK ((hb3.block (w.heap.size) (by rw [hsz2]; have := lt_of_some Bk.out; omega)).trans ((Below.heap_alloc _ _ _ (lt_of_some Bk.out)).trans (Bk.out)))
      have Cn := hidK ((hb3.block (w1.heap.size) (by rw [hsz2]; have := lt_of_some Bn.out; omega)).trans ((Below.heap_alloc _ _ _ (lt_of_some Bn.out)).trans (Bn.out)))
      have Cv : Hid (w3.heap[w2.heap.size]? = some (.cells #[.string v.n, .int .i64 v.c, .string v.z, .string v.k, .bool v.x, .string v.m, .bool v.y, .slice xa xl xc] 60 (0, 0))) := (hb3.block (w2.heap.size) (by rw [hsz2]; omega)).trans (Array.getElem?_push_size)
      have HB2 := hidK (HB.out.trans (((below1 _ _ : Below w2.heap.size w2 (w2.alloc (.cells #[.string v.n, .int .i64 v.c, .string v.z, .string v.k, .bool v.x, .string v.m, .bool v.y, .slice xa xl xc] 60))).trans (hb3.mono (by rw [hsz2]; omega))).mono HB.out.size))
      clear HB hb3 Bk Bn hsz2
      have HB := HB2
      clear HB2
      have Bk := Ck
      clear Ck
      have Bn := Cn
      clear Cn
      have Bv := Cv
      clear Cv
      have HI := hidK hi
      clear hi
      cases r
      · go_wp2
        go_ret
        refine BoolB.f (fun ⟨i, m, e1, e2, e3, e4⟩ => ?_) HB.out
        obtain ⟨_, rfl⟩ := HN.out.inj e1 HX1.out (e2.trans HN1.out.symm)
        obtain ⟨v', e5, e6⟩ := e4 k t HXt.out
        obtain rfl := IsBd.inj HX.out HV.out HD.out e5
        have := HI.out.2 e6
        cases this
      · go_wp2_with fail
        refine ⟨⟨k + 1, by omega, by go_num, fun j s hj hs => ?_, HB.out, Bk.out, Bn.out⟩, by simp [intOf]; omega⟩
        by_cases e : j = k
        · subst e
          rw [HXt.out] at hs
          obtain rfl := Option.some.inj hs
          exact ⟨v, HD.out, HI.out.1 (by first | trivial | rfl)⟩
        · exact HQ.out j s (by omega) hs
    · obtain rfl : pl = k := by omega
      go_wp2
      go_ret
      exact BoolB.t ⟨_, n, HX1.out, HN1.out, HC.out, fun j t ht => HQ.out j t (by have := (List.getElem?_eq_some_iff.1 ht).1; omega) ht⟩ HB.out

set_option maxRecDepth 100000 in
set_option maxHeartbeats 3200000 in
theorem imnt_any (d : Ad) (c : Cl) (n : Nd) (pa : Option Addr) (pl pc : Nat) (w : World) (hr : ClRow w d c.raw) (hv : RisBy Vd.n c.vs) (hp : TxRow w pa pl pc n.zs) :
    Calls Tryz.prog 156 #[.agg #[.slice d.a1 d.l1 d.c1, .slice d.a2 d.l2 d.c2, .slice d.a3 d.l3 d.c3, .slice d.a4 d.l4 d.c4, .slice d.a5 d.l5 d.c5, .int .i64 c.now], .agg #[.string n.n, .string n.z, .int .i64 n.c, .int .i64 n.s, .int .i64 n.u, .bool n.d, .slice pa pl pc]] w (BoolB (MntI c n) w) := by
  have HR := hidK hr
  have HV := hidK hv
  have HP := hidK hp
  have hlc : pl ≤ 9223372036854775807 := Nat.le_trans hp.2.1 hp.2.2.1
  have hzl : n.zs.length = pl := hp.1
  clear hr hv hp
  go_enter Tryz.func156, Tryz.ntmps156
  go_wp2
  go_loopw [12] (fun i wr => ∃ k : Nat, k ≤ pl ∧ i = .int .i64 k ∧ Hid (∀ (j : Nat) t, j < k → n.zs[j]? = some t → ∃ (i : Nat) (v : Vd), c.vs[i]? = some v ∧ v.n = t ∧ (n.d = true ∨ InL v.zs n.n)) ∧ Hid (Below w.heap.size w wr) ∧ Hid (wr.heap[w.heap.size]? = some (.cells #[.slice d.a1 d.l1 d.c1, .slice d.a2 d.l2 d.c2, .slice d.a3 d.l3 d.c3, .slice d.a4 d.l4 d.c4, .slice d.a5 d.l5 d.c5, .int .i64 c.now] 37 (0, 0))) ∧ Hid (wr.heap[w.heap.size + 1]? = some (.cells #[.string n.n, .string n.z, .int .i64 n.c, .int .i64 n.s, .int .i64 n.u, .bool n.d, .slice pa pl pc] 102 (0, 0)))) (fun i _ => pl - (intOf i).toNat)
  case atStart => exact ⟨0, by omega, rfl, fun _ _ h => absurd h (by omega), below2 _ _ _, heap2_0 _ _ _, heap2_1 _ _ _⟩
  case round =>
    obtain ⟨k, hk, rfl, HQ, HB, Bk, Bn⟩ := hrel
    by_cases hlt : k < pl
    · obtain ⟨b, o, t, rfl, hb, hx, hc, hsz⟩ := (HP.out.below HB.out).at hlt
      have HXt := hidK hx
      clear hx hsz
      have k0 : wr.cell? ⟨w.heap.size, 0, none⟩ = some (.slice d.a1 d.l1 d.c1) := cellK Bk.out 0
      have k1 : wr.cell? ⟨w.heap.size, 1, none⟩ = some (.slice d.a2 d.l2 d.c2) := cellK Bk.out 1
      have k2 : wr.cell? ⟨w.heap.size, 2, none⟩ = some (.slice d.a3 d.l3 d.c3) := cellK Bk.out 2
      have k3 : wr.cell? ⟨w.heap.size, 3, none⟩ = some (.slice d.a4 d.l4 d.c4) := cellK Bk.out 3
      have k4 : wr.cell? ⟨w.heap.size, 4, none⟩ = some (.slice d.a5 d.l5 d.c5) := cellK Bk.out 4
      have k5 : wr.cell? ⟨w.heap.size, 5, none⟩ = some (.int .i64 c.now) := cellK Bk.out 5
      have ltk_0 : w.heap.size < wr.heap.size := lt_of_some Bk.out
      have n0 : wr.cell? ⟨w.heap.size + 1, 0, none⟩ = some (.string n.n) := cellK Bn.out 0
      have n1 : wr.cell? ⟨w.heap.size + 1, 1, none⟩ = some (.string n.z) := cellK Bn.out 1
      have n2 : wr.cell? ⟨w.heap.size + 1, 2, none⟩ = some (.int .i64 n.c) := cellK Bn.out 2
      have n3 : wr.cell? ⟨w.heap.size + 1, 3, none⟩ = some (.int .i64 n.s) := cellK Bn.out 3
      have n4 : wr.cell? ⟨w.heap.size + 1, 4, none⟩ = some (.int .i64 n.u) := cellK Bn.out 4
      have n5 : wr.cell? ⟨w.heap.size + 1, 5, none⟩ = some (.bool n.d) := cellK Bn.out 5
      have n6 : wr.cell? ⟨w.heap.size + 1, 6, none⟩ = some (.slice (some ⟨b, o, none⟩) pl pc) := cellK Bn.out 6
      have ltn_0 : w.heap.size + 1 < wr.heap.size := lt_of_some Bn.out
      go_wp2_with fail
      refine (thevd_any d c.now c.vs t w _ HR.out.v HB.out).mono ?_
      rintro e w2 ⟨hb2, hf⟩
      clear k0 k1 k2 k3 k4 k5 ltk_0 n0 n1 n2 n3 n4 n5 n6 ltn_0
      have Ck := hidK ((hb2.block (w.heap.size) (by have := lt_of_some Bk.out; omega)).trans (Bk.out))
      have Cn := hidK ((hb2.block (w.heap.size + 1) (by have := lt_of_some Bn.out; omega)).trans (Bn.out))
      have HB1 := hidK (HB.out.trans (hb2.mono HB.out.size))
      clear HB hb2 Bk Bn
      have HB := HB1
      clear HB1
      have Bk := Ck
      clear Ck
      have Bn := Cn
      clear Cn
      clear hb hc
      rcases hf with ⟨hh, v, va, vl, vc, hx, hn, rfl, z0, z2, z3, z5, hvr⟩ | ⟨hh, rfl⟩
      rotate_left
      · have HH := hidK hh
        clear hh
        have k0 : w2.cell? ⟨w.heap.size, 0, none⟩ = some (.slice d.a1 d.l1 d.c1) := cellK Bk.out 0
        have k1 : w2.cell? ⟨w.heap.size, 1, none⟩ = some (.slice d.a2 d.l2 d.c2) := cellK Bk.out 1
        have k2 : w2.cell? ⟨w.heap.size, 2, none⟩ = some (.slice d.a3 d.l3 d.c3) := cellK Bk.out 2
        have k3 : w2.cell? ⟨w.heap.size, 3, none⟩ = some (.slice d.a4 d.l4 d.c4) := cellK Bk.out 3
        have k4 : w2.cell? ⟨w.heap.size, 4, none⟩ = some (.slice d.a5 d.l5 d.c5) := cellK Bk.out 4
        have k5 : w2.cell? ⟨w.heap.size, 5, none⟩ = some (.int .i64 c.now) := cellK Bk.out 5
        have ltk_1 : w.heap.size < w2.heap.size := lt_of_some Bk.out
        have n0 : w2.cell? ⟨w.heap.size + 1, 0, none⟩ = some (.string n.n) := cellK Bn.out 0
        have n1 : w2.cell? ⟨w.heap.size + 1, 1, none⟩ = some (.string n.z) := cellK Bn.out 1
        have n2 : w2.cell? ⟨w.heap.size + 1, 2, none⟩ = some (.int .i64 n.c) := cellK Bn.out 2
        have n3 : w2.cell? ⟨w.heap.size + 1, 3, none⟩ = some (.int .i64 n.s) := cellK Bn.out 3
        have n4 : w2.cell? ⟨w.heap.size + 1, 4, none⟩ = some (.int .i64 n.u) := cellK Bn.out 4
        have n5 : w2.cell? ⟨w.heap.size + 1, 5, none⟩ = some (.bool n.d) := cellK Bn.out 5
        have n6 : w2.cell? ⟨w.heap.size + 1, 6, none⟩ = some (.slice (some ⟨b, o, none⟩) pl pc) := cellK Bn.out 6
        have ltn_1 : w.heap.size + 1 < w2.heap.size := lt_of_some Bn.out
        go_wp2
        go_ret
        refine BoolB.f (fun h => ?_) (HB.out.alloc HB.out.size _)
        obtain ⟨i, v, e1, e2, _⟩ := h k t HXt.out
        have := (hit_at HV.out e1 e2).2
        rw [HH.out] at this
        cases this
      have HXv := hidK hx
      have HNv := hidK hn
      have HTv := hidK hvr
      clear hx hn hh z0 z2 z3 z5 hvr
      rcases Bool.eq_false_or_eq_true n.d with hd | hd
      · have HD := hidK hd
        clear hd
        have k0 : w2.cell? ⟨w.heap.size, 0, none⟩ = some (.slice d.a1 d.l1 d.c1) := cellK Bk.out 0
        have k1 : w2.cell? ⟨w.heap.size, 1, none⟩ = some (.slice d.a2 d.l2 d.c2) := cellK Bk.out 1
        have k2 : w2.cell? ⟨w.heap.size, 2, none⟩ = some (.slice d.a3 d.l3 d.c3) := cellK Bk.out 2
        have k3 : w2.cell? ⟨w.heap.size, 3, none⟩ = some (.slice d.a4 d.l4 d.c4) := cellK Bk.out 3
        have k4 : w2.cell? ⟨w.heap.size, 4, none⟩ = some (.slice d.a5 d.l5 d.c5) := cellK Bk.out 4
        have k5 : w2.cell? ⟨w.heap.size, 5, none⟩ = some (.int .i64 c.now) := cellK Bk.out 5
        have ltk_1 : w.heap.size < w2.heap.size := lt_of_some Bk.out
        have n0 : w2.cell? ⟨w.heap.size + 1, 0, none⟩ = some (.string n.n) := cellK Bn.out 0
        have n1 : w2.cell? ⟨w.heap.size + 1, 1, none⟩ = some (.string n.z) := cellK Bn.out 1
        have n2 : w2.cell? ⟨w.heap.size + 1, 2, none⟩ = some (.int .i64 n.c) := cellK Bn.out 2
        have n3 : w2.cell? ⟨w.heap.size + 1, 3, none⟩ = some (.int .i64 n.s) := cellK Bn.out 3
        have n4 : w2.cell? ⟨w.heap.size + 1, 4, none⟩ = some (.int .i64 n.u) := cellK Bn.out 4
        have n6 : w2.cell? ⟨w.heap.size + 1, 6, none⟩ = some (.slice (some ⟨b, o, none⟩) pl pc) := cellK Bn.out 6
        have ltn_1 : w.heap.size + 1 < w2.heap.size := lt_of_some Bn.out
        have n5 : w2.cell? ⟨w.heap.size + 1, 5, none⟩ = some (.bool true) := (cellK Bn.out 5).trans (congrArg (fun z => some (Value.bool z)) HD.out)
        go_wp2_with fail
        refine ⟨⟨k + 1, by omega, by go_num, fun j s hj hs => ?_, (HB.out.alloc HB.out.size _), (Below.heap_alloc _ _ _ (lt_of_some Bk.out)).trans Bk.out, (Below.heap_alloc _ _ _ (lt_of_some Bn.out)).trans Bn.out⟩, by simp [intOf]; omega⟩
        by_cases e : j = k
        · subst e
          rw [HXt.out] at hs
          obtain rfl := Option.some.inj hs
          exact ⟨_, v, HXv.out, HNv.out, .inl HD.out⟩
        · exact HQ.out j s (by omega) hs
      · have HD := hidK hd
        clear hd
        have k0 : w2.cell? ⟨w.heap.size, 0, none⟩ = some (.slice d.a1 d.l1 d.c1) := cellK Bk.out 0
        have k1 : w2.cell? ⟨w.heap.size, 1, none⟩ = some (.slice d.a2 d.l2 d.c2) := cellK Bk.out 1
        have k2 : w2.cell? ⟨w.heap.size, 2, none⟩ = some (.slice d.a3 d.l3 d.c3) := cellK Bk.out 2
        have k3 : w2.cell? ⟨w.heap.size, 3, none⟩ = some (.slice d.a4 d.l4 d.c4) := cellK Bk.out 3
        have k4 : w2.cell? ⟨w.heap.size, 4, none⟩ = some (.slice d.a5 d.l5 d.c5) := cellK Bk.out 4
        have k5 : w2.cell? ⟨w.heap.size, 5, none⟩ = some (.int .i64 c.now) := cellK Bk.out 5
        have ltk_1 : w.heap.size < w2.heap.size := lt_of_some Bk.out
        have n0 : w2.cell? ⟨w.heap.size + 1, 0, none⟩ = some (.string n.n) := cellK Bn.out 0
        have n1 : w2.cell? ⟨w.heap.size + 1, 1, none⟩ = some (.string n.z) := cellK Bn.out 1
        have n2 : w2.cell? ⟨w.heap.size + 1, 2, none⟩ = some (.int .i64 n.c) := cellK Bn.out 2
        have n3 : w2.cell? ⟨w.heap.size + 1, 3, none⟩ = some (.int .i64 n.s) := cellK Bn.out 3
        have n4 : w2.cell? ⟨w.heap.size + 1, 4, none⟩ = some (.int .i64 n.u) := cellK Bn.out 4
        have n6 : w2.cell? ⟨w.heap.size + 1, 6, none⟩ = some (.slice (some ⟨b, o, none⟩) pl pc) := cellK Bn.out 6
        have ltn_1 : w.heap.size + 1 < w2.heap.size := lt_of_some Bn.out
        have n5 : w2.cell? ⟨w.heap.size + 1, 5, none⟩ = some (.bool false) := (cellK Bn.out 5).trans (congrArg (fun z => some (Value.bool z)) HD.out)
        go_wp2_with fail
        refine (icontains_any va vl vc v.zs n.n _ (HTv.out.below (HB.out.trans ((below1 _ _).mono HB.out.size)))).mono ?_
        rintro e w3 ⟨r, rfl, hi, hb3⟩
        clear k0 k1 k2 k3 k4 k5 ltk_1 n0 n1 n2 n3 n4 n6 ltn_1 n5
        have hsz2 : (w2.alloc (.cells #[.string v.n, .int .i64 v.c, .string v.z, .string v.k, .bool v.x, .string v.m, .bool v.y, .slice va vl vc] 60)).heap.size = w2.heap.size + 1 := by simp
        have Ck := hidK ((hb3.block (w.heap.size) (by rw [hsz2]; have := lt_of_some Bk.out; omega)).trans ((Below.heap_alloc _ _ _ (lt_of_some Bk.out)).trans (Bk.out)))
        have Cn := hidK ((hb3.block (w.heap.size + 1) (by rw [hsz2]; have := lt_of_some Bn.out; omega)).trans ((Below.heap_alloc _ _ _ (lt_of_some Bn.out)).trans (Bn.out)))
        have Cv : Hid (w3.heap[w2.heap.size]? = some (.cells #[.string v.n, .int .i64 v.c, .string v.z, .string v.k, .bool v.x, .string v.m, .bool v.y, .slice va vl vc] 60 (0, 0))) := (hb3.block (w2.heap.size) (by rw [hsz2]; omega)).trans (Array.getElem?_push_size)
        have HB2 := hidK (HB.out.trans (((below1 _ _ : Below w2.heap.size w2 (w2.alloc (.cells #[.string v.n, .int .i64 v.c, .string v.z, .string v.k, .bool v.x, .string v.m, .bool v.y, .slice va vl vc] 60))).trans (hb3.mono (by rw [hsz2]; omega))).mono HB.out.size))
        clear HB hb3 Bk Bn hsz2
        have HB := HB2
        clear HB2
        have Bk := Ck
        clear Ck
        have Bn := Cn
        clear Cn
        have Bv := Cv
        clear Cv
        have HI := hidK hi
        clear hi
        cases r
        · go_wp2
          go_ret
          refine BoolB.f (fun h => ?_) HB.out
          obtain ⟨i, v', e1, e2, e3⟩ := h k t HXt.out
          obtain ⟨_, rfl⟩ := HV.out.inj e1 HXv.out (e2.trans HNv.out.symm)
          rcases e3 with e3 | e3
          · rw [HD.out] at e3; cases e3
          · have := HI.out.2 e3
            cases this
        · go_wp2_with fail
          refine ⟨⟨k + 1, by omega, by go_num, fun j s hj hs => ?_, HB.out, Bk.out, Bn.out⟩, by simp [intOf]; omega⟩
          by_cases e : j = k
          · subst e
            rw [HXt.out] at hs
            obtain rfl := Option.some.inj hs
            exact ⟨_, v, HXv.out, HNv.out, .inr (HI.out.1 (by first | trivial | rfl))⟩
          · exact HQ.out j s (by omega) hs
    · obtain rfl : pl = k := by omega
      go_wp2
      go_ret
      exact BoolB.t (fun j t ht => HQ.out j t (by have := (List.getElem?_eq_some_iff.1 ht).1; omega) ht) HB.out

open Classical in
/-- How many disks are on a node. -/
noncomputable def onOf (t : ByteArray) : List Vd → Int
  | [] => 0
  | v :: vs => (if InL v.zs t then 1 else 0) + onOf t vs
theorem onOf_append (t : ByteArray) : ∀ vs us : List Vd, onOf t (vs ++ us) = onOf t vs + onOf t us
  | [], us => by simp [onOf]
  | v :: vs, us => by simp [onOf, onOf_append t vs]; omega
open Classical in
theorem onOf_step {t : ByteArray} {vs : List Vd} {k : Nat} {v : Vd} (h : vs[k]? = some v) : onOf t (vs.take (k + 1)) = onOf t (vs.take k) + (if InL v.zs t then 1 else 0) := by
  rw [List.take_add_one, h, onOf_append]
  simp [onOf]

set_option maxRecDepth 100000 in
set_option maxHeartbeats 3200000 in
theorem iusedSlots_any (d : Ad) (now : Int) (vs : List Vd) (t : ByteArray) (w : World) (hr : RRow w d.a3 d.l3 d.c3 8 (vs.map vdF)) (hl : vs.length ≤ 8) :
    Calls Tryz.prog 155 #[.agg #[.slice d.a1 d.l1 d.c1, .slice d.a2 d.l2 d.c2, .slice d.a3 d.l3 d.c3, .slice d.a4 d.l4 d.c4, .slice d.a5 d.l5 d.c5, .int .i64 now], .string t] w fun e w' => e = .returned (.int .i64 (onOf t vs)) ∧ Below w.heap.size w w' := by
  obtain ⟨a1, l1, y1, a2, l2, y2, a3, l3, y3, a4, l4, y4, a5, l5, y5⟩ := d
  dsimp only at hr ⊢
  have HR := hidK hr
  have hxl : vs.length = l3 := by simpa using hr.1
  clear hr
  go_enter Tryz.func155, Tryz.ntmps155
  go_wp2
  go_loopw [5, 11] (fun q i wr => ∃ (k : Nat) (s : Int), k ≤ l3 ∧ q = .int .i64 s ∧ i = .int .i64 k ∧ Hid (s = onOf t (vs.take k)) ∧ 0 ≤ s ∧ s ≤ k ∧ Hid (Below w.heap.size w wr)) (fun _ i _ => l3 - (intOf i).toNat)
  case atStart => exact ⟨0, 0, by omega, rfl, rfl, rfl, by omega, by omega, below1 _ _⟩
  case round =>
    obtain ⟨k, s, hk, rfl, rfl, HS, hs0, hs1, HB⟩ := hrel
    by_cases hlt : k < l3
    · obtain ⟨b, o, v, rfl, hb, hx, hat⟩ := vd_at (HR.out.below HB.out) hlt
      obtain ⟨va, vl, vc, hvr, z0, z2, z3, z5, c0, c1, c2, c3, c4, c5, c6, c7⟩ := vd_cells hat
      have HX := hidK hx
      have HT := hidK hvr
      clear hat hx z0 z2 z3 z5 hvr
      go_wp2_with fail
      refine (icontains_any va vl vc v.zs t _ (HT.out.below (below1 _ _))).mono ?_
      rintro e w1 ⟨r, rfl, hi, hb2⟩
      have hsz1 : (wr.alloc (.cells #[.string v.n, .int .i64 v.c, .string v.z, .string v.k, .bool v.x, .string v.m, .bool v.y, .slice va vl vc] 60)).heap.size = wr.heap.size + 1 := by simp
      have Cv : Hid (w1.heap[wr.heap.size]? = some (.cells #[.string v.n, .int .i64 v.c, .string v.z, .string v.k, .bool v.x, .string v.m, .bool v.y, .slice va vl vc] 60 (0, 0))) := (hb2.block (wr.heap.size) (by rw [hsz1]; omega)).trans (Array.getElem?_push_size)
      have HB1 := hidK (HB.out.trans (((below1 _ _ : Below wr.heap.size wr (wr.alloc (.cells #[.string v.n, .int .i64 v.c, .string v.z, .string v.k, .bool v.x, .string v.m, .bool v.y, .slice va vl vc] 60))).trans (hb2.mono (by rw [hsz1]; omega))).mono HB.out.size))
      clear HB hb2 hsz1
      have HB := HB1
      clear HB1
      have Bv := Cv
      clear Cv
      have HI := hidK hi
      clear hi hb c0 c1 c2 c3 c4 c5 c6 c7
      cases r
      · go_wp2
        refine ⟨⟨k + 1, s, by omega, rfl, by go_num, ?_, by omega, by omega, HB.out⟩, by simp [intOf]; omega⟩
        show _ = _
        rw [onOf_step HX.out, if_neg (fun h => by have := HI.out.2 h; cases this), ← HS.out, Int.add_zero]
      · go_wp2
        refine ⟨⟨k + 1, s + 1, by omega, by go_num, by go_num, ?_, by omega, by omega, HB.out⟩, by simp [intOf]; omega⟩
        show _ = _
        rw [onOf_step HX.out, if_pos (HI.out.1 (by first | trivial | rfl)), ← HS.out]
    · obtain rfl : l3 = k := by omega
      go_wp2
      go_ret
      exact ⟨congrArg (fun z => Ending.returned (.int .i64 z)) (HS.out.trans (by rw [List.take_of_length_le (by omega)])), HB.out⟩

end Rc
end Go.Proofs.YtcljghpfclegmaaGreatDoor

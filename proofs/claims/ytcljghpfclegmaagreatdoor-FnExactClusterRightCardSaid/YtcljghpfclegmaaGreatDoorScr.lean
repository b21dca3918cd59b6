/-
  Whether a cluster is right, as the specification asks it.
-/
import Derived.Test.YtcljghpfclegmaaGreatDoorSp3
import Derived.Test.YtcljghpfclegmaaGreatDoorSp4
import Derived.Test.YtcljghpfclegmaaGreatDoorSp5
import Derived.Test.YtcljghpfclegmaaGreatDoorSp6
import Derived.Test.YtcljghpfclegmaaGreatDoorSp8
namespace Go.Proofs.YtcljghpfclegmaaGreatDoor
open Go.RowKit
namespace Rc
open Mk

theorem hit_iff {α : Type} {nm : α → ByteArray} {xs : List α} {t : ByteArray} (h : RisBy nm xs) : hit nm xs t = true ↔ ∃ (i : Nat) (x : α), xs[i]? = some x ∧ nm x = t := by
  constructor
  · intro e
    obtain ⟨x, h1, h2⟩ := hit_yes e
    exact ⟨_, x, h1, h2⟩
  · rintro ⟨i, x, h1, h2⟩
    exact (hit_at h h1 h2).2
theorem bound_iff {c : Cl} (h : RowsOk c) : BoundI c ↔ BoundS c := by
  have hk := h.2.1.2.2
  have hv := h.2.2.1.2.2
  have hx := h.2.2.2.1.2.2
  constructor
  · rintro ⟨h1, h2⟩
    refine ⟨fun j v e => ?_, fun j x e => ?_⟩
    · obtain ⟨a, b⟩ := h1 j v e
      refine ⟨(hit_iff hk).1 a, b.imp id ?_⟩
      rintro ⟨i, j', x, v', e1, e2, e3, e4, e5, e6, _⟩
      exact ⟨i, x, e1, e2, e5⟩
    · obtain ⟨a, b⟩ := h2 j x e
      refine ⟨(hit_iff hk).1 a, b.imp id ?_⟩
      rintro ⟨i, j', x', v', e1, e2, e3, e4, e5, e6, e7, e8, e9⟩
      obtain ⟨_, rfl⟩ := hx.inj e1 e e2
      exact ⟨j', v', e3, e4, e6, e7, e8, e9⟩
  · rintro ⟨h1, h2⟩
    refine ⟨fun j v e => ?_, fun j x e => ?_⟩
    · obtain ⟨a, b⟩ := h1 j v e
      refine ⟨(hit_iff hk).2 a, b.imp id ?_⟩
      rintro ⟨i, x, e1, e2, e3⟩
      have hne : ¬ x.v = ⟨#[]⟩ := fun q => h.ne j v e (e3.symm.trans q)
      obtain ⟨_, b2⟩ := h2 i x e1
      rcases b2 with b2 | ⟨j', v', f1, f2, f3, f4, f5, f6⟩
      · exact absurd b2 hne
      obtain ⟨_, rfl⟩ := hv.inj f1 e (f2.trans e3)
      exact ⟨i, j, x, v', e1, e2, e, rfl, e3, rfl, f4, f5, f6⟩
    · obtain ⟨a, b⟩ := h2 j x e
      refine ⟨(hit_iff hk).2 a, b.imp id ?_⟩
      rintro ⟨j', v, e1, e2, e3, e4, e5, e6⟩
      exact ⟨j, j', x, v, e, rfl, e1, e2, rfl, e3, e4, e5, e6⟩
theorem placed_iff {c : Cl} (h : RowsOk c) (hb : BoundS c) : PlacedI c ↔ PlacedS c := by
  have hn := h.1.2.2
  have hv := h.2.2.1.2.2
  have hx := h.2.2.2.1.2.2
  have one : (∀ (j : Nat) z, c.vs[j]? = some z → PQ3 c z) ↔ ∀ (k : Nat) p, c.ps[k]? = some p → PSc c k p := by
    constructor
    · intro h3 k p hp j q hj hq
      by_cases e1 : q.d = ⟨#[]⟩
      · exact .inl e1
      by_cases e2 : p.d = ⟨#[]⟩
      · exact .inr (.inl e2)
      by_cases e3 : q.d = p.d
      · exact .inr (.inr (.inl e3))
      refine .inr (.inr (.inr fun i t ht v hbd hs hin => e3 ?_))
      obtain ⟨i1, j1, x, f1, f2, f3, f4⟩ := hbd
      have hxv : ¬ x.v = ⟨#[]⟩ := fun z => h.ne j1 v f3 (f4.trans z)
      have hvm : v.m = t := by
        rcases (hb.2 i1 x f1).2 with z | ⟨j2, v2, g1, g2, g3, _⟩
        · exact absurd z hxv
        · obtain ⟨_, rfl⟩ := hv.inj g1 f3 (g2.trans f4.symm)
          rw [g3, f2]
      have ht0 : ¬ v.m = ⟨#[]⟩ := fun z => by
        have h1 := (h.2.2.2.1.2.1 i1 x f1).1.1
        rw [f2, ← hvm, z] at h1
        exact absurd h1 (by decide)
      have := h3 j1 v f3 hs ht0
      rw [hvm] at this
      exact this j k q p hq hp e1 e2 ⟨i, ht⟩ hin
    · intro h3 j v hj hs hm i1 i2 p q hp hq d1 d2 in1 in2
      obtain ⟨i4, x, f1, f2, f3⟩ := (hb.1 j v hj).2.resolve_left hm
      have hbd : IsBd c v.m v := ⟨i4, j, x, f1, f2, hj, f3.symm⟩
      rcases Nat.lt_trichotomy i1 i2 with k | k | k
      · obtain ⟨r, hr⟩ := in1
        rcases h3 i2 q hq i1 p k hp with z | z | z | z
        · exact absurd z d1
        · exact absurd z d2
        · exact z
        · exact absurd in2 (z r v.m hr v hbd hs)
      · subst k
        rw [hp] at hq
        rw [Option.some.inj hq]
      · obtain ⟨r, hr⟩ := in2
        rcases h3 i1 p hp i2 q k hq with z | z | z | z
        · exact absurd z d2
        · exact absurd z d1
        · exact z.symm
        · exact absurd in1 (z r v.m hr v hbd hs)
  constructor
  · rintro ⟨h1, h2, h3⟩
    refine ⟨fun k p hp => ⟨?_, ?_, one.1 h3 k p hp⟩, h2⟩
    · rcases (h1 k p hp).2 with z | ⟨i, n, e1, e2, e3, e4⟩
      · exact .inl z
      · exact .inr ⟨i, n, e1, e2, e3.imp id Eq.symm⟩
    · intro j t ht
      refine ⟨(hit_iff hx).1 ((h1 k p hp).1 j t ht), ?_⟩
      rcases (h1 k p hp).2 with z | ⟨i, n, e1, e2, e3, e4⟩
      · exact .inl z
      · obtain ⟨v, f1, f2⟩ := e4 j t ht
        exact .inr ⟨v, i, n, f1, e1, e2, f2⟩
  · rintro ⟨h1, h2⟩
    refine ⟨fun k p hp => ⟨fun j t ht => (hit_iff hx).2 ((h1 k p hp).2.1 j t ht).1, ?_⟩, h2, one.2 (fun k p hp => (h1 k p hp).2.2)⟩
    rcases (h1 k p hp).1 with z | ⟨i, n, e1, e2, e3⟩
    · exact .inl z
    by_cases z : p.d = ⟨#[]⟩
    · exact .inl z
    refine .inr ⟨i, n, e1, e2, e3.imp id Eq.symm, fun j t ht => ?_⟩
    obtain ⟨v, i', n', f1, f2, f3, f4⟩ := ((h1 k p hp).2.1 j t ht).2.resolve_left z
    obtain ⟨_, rfl⟩ := hn.inj f2 e1 (f3.trans e2.symm)
    exact ⟨v, f1, f4⟩
theorem running {c : Cl} (h : RowsOk c) (hp : PlacedS c) (j : Nat) (p : Pd) (hj : c.ps[j]? = some p) (h2 : p.p = 2) : (∃ (i : Nat) (n : Nd), c.ns[i]? = some n ∧ n.n = p.d) ∧ ∀ (j : Nat) t, p.zs[j]? = some t → ∃ v, IsBd c t v := by
  have hd : ¬ p.d = ⟨#[]⟩ := fun e => by
    have h1 := (h.2.2.2.2.2.1 j p hj).2.2.2.2
    rcases h1 with ⟨h3, _⟩ | ⟨_, h3⟩
    · rw [h2] at h3; cases h3
    · have h4 := h3.1
      rw [e] at h4
      exact absurd h4 (by decide)
  obtain ⟨a, b, _⟩ := hp.1 j p hj
  obtain ⟨i, n, e1, e2, _⟩ := a.resolve_left hd
  refine ⟨⟨i, n, e1, e2⟩, fun k t ht => ?_⟩
  obtain ⟨v, _, _, e3, _⟩ := (b k t ht).2.resolve_left hd
  exact ⟨v, e3⟩

set_option maxRecDepth 100000 in
set_option maxHeartbeats 3200000 in
theorem sright_any (d : Ad) (c : Cl) (w : World) (hr : ClRow w d c.raw) :
    Calls Tryz.prog 13 #[.agg #[.slice d.a1 d.l1 d.c1, .slice d.a2 d.l2 d.c2, .slice d.a3 d.l3 d.c3, .slice d.a4 d.l4 d.c4, .slice d.a5 d.l5 d.c5, .int .i64 c.now]] w (BoolB (RightI c) w) := by
  have HR := hidK hr
  have HB := hidK (Below.refl w.heap.size w)
  clear hr
  go_enter Tryz.func13, Tryz.ntmps13
  go_wp2_with fail
  refine (ktime_any c.now _).mono ?_
  rintro e w1 ⟨r, rfl, hi, hw⟩
  have hb : Below (w.alloc (.cells #[.slice d.a1 d.l1 d.c1, .slice d.a2 d.l2 d.c2, .slice d.a3 d.l3 d.c3, .slice d.a4 d.l4 d.c4, .slice d.a5 d.l5 d.c5, .int .i64 c.now] 37)).heap.size (w.alloc (.cells #[.slice d.a1 d.l1 d.c1, .slice d.a2 d.l2 d.c2, .slice d.a3 d.l3 d.c3, .slice d.a4 d.l4 d.c4, .slice d.a5 d.l5 d.c5, .int .i64 c.now] 37)) w1 := by first | (rw [hw]; exact Below.refl _ _) | (rw [← hw]; exact Below.refl _ _)
  clear hw
  have hsz1 : (w.alloc (.cells #[.slice d.a1 d.l1 d.c1, .slice d.a2 d.l2 d.c2, .slice d.a3 d.l3 d.c3, .slice d.a4 d.l4 d.c4, .slice d.a5 d.l5 d.c5, .int .i64 c.now] 37)).heap.size = w.heap.size + 1 := by simp
  have Ck : Hid (w1.heap[w.heap.size]? = some (.cells #[.slice d.a1 d.l1 d.c1, .slice d.a2 d.l2 d.c2, .slice d.a3 d.l3 d.c3, .slice d.a4 d.l4 d.c4, .slice d.a5 d.l5 d.c5, .int .i64 c.now] 37 (0, 0))) := (hb.block (w.heap.size) (by rw [hsz1]; omega)).trans (Array.getElem?_push_size)
  have HB1 := hidK (HB.out.trans (((below1 _ _ : Below w.heap.size w (w.alloc (.cells #[.slice d.a1 d.l1 d.c1, .slice d.a2 d.l2 d.c2, .slice d.a3 d.l3 d.c3, .slice d.a4 d.l4 d.c4, .slice d.a5 d.l5 d.c5, .int .i64 c.now] 37))).trans (hb.mono (by rw [hsz1]; omega))).mono HB.out.size))
  clear HB hb hsz1
  have HB := HB1
  clear HB1
  have Bk := Ck
  clear Ck
  have HI1 := hidK hi
  clear hi
  cases r
  · have k0 : w1.cell? ⟨w.heap.size, 0, none⟩ = some (.slice d.a1 d.l1 d.c1) := cellK Bk.out 0
    have k1 : w1.cell? ⟨w.heap.size, 1, none⟩ = some (.slice d.a2 d.l2 d.c2) := cellK Bk.out 1
    have k2 : w1.cell? ⟨w.heap.size, 2, none⟩ = some (.slice d.a3 d.l3 d.c3) := cellK Bk.out 2
    have k3 : w1.cell? ⟨w.heap.size, 3, none⟩ = some (.slice d.a4 d.l4 d.c4) := cellK Bk.out 3
    have k4 : w1.cell? ⟨w.heap.size, 4, none⟩ = some (.slice d.a5 d.l5 d.c5) := cellK Bk.out 4
    have k5 : w1.cell? ⟨w.heap.size, 5, none⟩ = some (.int .i64 c.now) := cellK Bk.out 5
    have ltk_1 : w.heap.size < w1.heap.size := lt_of_some Bk.out
    go_wp2
    go_ret
    exact BoolB.f (fun h => by have := HI1.out.2 h.1; cases this) HB.out
  have k0 : w1.cell? ⟨w.heap.size, 0, none⟩ = some (.slice d.a1 d.l1 d.c1) := cellK Bk.out 0
  have k1 : w1.cell? ⟨w.heap.size, 1, none⟩ = some (.slice d.a2 d.l2 d.c2) := cellK Bk.out 1
  have k2 : w1.cell? ⟨w.heap.size, 2, none⟩ = some (.slice d.a3 d.l3 d.c3) := cellK Bk.out 2
  have k3 : w1.cell? ⟨w.heap.size, 3, none⟩ = some (.slice d.a4 d.l4 d.c4) := cellK Bk.out 3
  have k4 : w1.cell? ⟨w.heap.size, 4, none⟩ = some (.slice d.a5 d.l5 d.c5) := cellK Bk.out 4
  have k5 : w1.cell? ⟨w.heap.size, 5, none⟩ = some (.int .i64 c.now) := cellK Bk.out 5
  have ltk_1 : w.heap.size < w1.heap.size := lt_of_some Bk.out
  go_wp2_with fail
  refine (seach_any d c _ (HR.out.below HB.out)).mono ?_
  rintro e w2 ⟨r, rfl, hi, hb⟩
  clear k0 k1 k2 k3 k4 k5 ltk_1
  have Ck := hidK ((hb.block (w.heap.size) (by have := lt_of_some Bk.out; omega)).trans (Bk.out))
  have HB2 := hidK (HB.out.trans (hb.mono HB.out.size))
  clear HB hb Bk
  have HB := HB2
  clear HB2
  have Bk := Ck
  clear Ck
  have HI2 := hidK hi
  clear hi
  cases r
  · have k0 : w2.cell? ⟨w.heap.size, 0, none⟩ = some (.slice d.a1 d.l1 d.c1) := cellK Bk.out 0
    have k1 : w2.cell? ⟨w.heap.size, 1, none⟩ = some (.slice d.a2 d.l2 d.c2) := cellK Bk.out 1
    have k2 : w2.cell? ⟨w.heap.size, 2, none⟩ = some (.slice d.a3 d.l3 d.c3) := cellK Bk.out 2
    have k3 : w2.cell? ⟨w.heap.size, 3, none⟩ = some (.slice d.a4 d.l4 d.c4) := cellK Bk.out 3
    have k4 : w2.cell? ⟨w.heap.size, 4, none⟩ = some (.slice d.a5 d.l5 d.c5) := cellK Bk.out 4
    have k5 : w2.cell? ⟨w.heap.size, 5, none⟩ = some (.int .i64 c.now) := cellK Bk.out 5
    have ltk_2 : w.heap.size < w2.heap.size := lt_of_some Bk.out
    go_wp2
    go_ret
    exact BoolB.f (fun h => by have := HI2.out.2 h.2.1; cases this) HB.out
  have HOK := hidK (HI2.out.1 (by first | trivial | rfl))
  have k0 : w2.cell? ⟨w.heap.size, 0, none⟩ = some (.slice d.a1 d.l1 d.c1) := cellK Bk.out 0
  have k1 : w2.cell? ⟨w.heap.size, 1, none⟩ = some (.slice d.a2 d.l2 d.c2) := cellK Bk.out 1
  have k2 : w2.cell? ⟨w.heap.size, 2, none⟩ = some (.slice d.a3 d.l3 d.c3) := cellK Bk.out 2
  have k3 : w2.cell? ⟨w.heap.size, 3, none⟩ = some (.slice d.a4 d.l4 d.c4) := cellK Bk.out 3
  have k4 : w2.cell? ⟨w.heap.size, 4, none⟩ = some (.slice d.a5 d.l5 d.c5) := cellK Bk.out 4
  have k5 : w2.cell? ⟨w.heap.size, 5, none⟩ = some (.int .i64 c.now) := cellK Bk.out 5
  have ltk_2 : w.heap.size < w2.heap.size := lt_of_some Bk.out
  go_wp2_with fail
  refine (sbound_any d c _ (HR.out.below HB.out) HOK.out.2.1.2.2 HOK.out.2.2.2.1.2.2 HOK.out.2.2.1.2.2).mono ?_
  rintro e w3 ⟨r, rfl, hi, hb⟩
  clear k0 k1 k2 k3 k4 k5 ltk_2
  have Ck := hidK ((hb.block (w.heap.size) (by have := lt_of_some Bk.out; omega)).trans (Bk.out))
  have HB3 := hidK (HB.out.trans (hb.mono HB.out.size))
  clear HB hb Bk
  have HB := HB3
  clear HB3
  have Bk := Ck
  clear Ck
  have HI3 := hidK hi
  clear hi
  cases r
  · have k0 : w3.cell? ⟨w.heap.size, 0, none⟩ = some (.slice d.a1 d.l1 d.c1) := cellK Bk.out 0
    have k1 : w3.cell? ⟨w.heap.size, 1, none⟩ = some (.slice d.a2 d.l2 d.c2) := cellK Bk.out 1
    have k2 : w3.cell? ⟨w.heap.size, 2, none⟩ = some (.slice d.a3 d.l3 d.c3) := cellK Bk.out 2
    have k3 : w3.cell? ⟨w.heap.size, 3, none⟩ = some (.slice d.a4 d.l4 d.c4) := cellK Bk.out 3
    have k4 : w3.cell? ⟨w.heap.size, 4, none⟩ = some (.slice d.a5 d.l5 d.c5) := cellK Bk.out 4
    have k5 : w3.cell? ⟨w.heap.size, 5, none⟩ = some (.int .i64 c.now) := cellK Bk.out 5
    have ltk_3 : w.heap.size < w3.heap.size := lt_of_some Bk.out
    go_wp2
    go_ret
    exact BoolB.f (fun h => by have := HI3.out.2 ((bound_iff HOK.out).1 h.2.2.1); cases this) HB.out
  have HBd := hidK (HI3.out.1 (by first | trivial | rfl))
  have k0 : w3.cell? ⟨w.heap.size, 0, none⟩ = some (.slice d.a1 d.l1 d.c1) := cellK Bk.out 0
  have k1 : w3.cell? ⟨w.heap.size, 1, none⟩ = some (.slice d.a2 d.l2 d.c2) := cellK Bk.out 1
  have k2 : w3.cell? ⟨w.heap.size, 2, none⟩ = some (.slice d.a3 d.l3 d.c3) := cellK Bk.out 2
  have k3 : w3.cell? ⟨w.heap.size, 3, none⟩ = some (.slice d.a4 d.l4 d.c4) := cellK Bk.out 3
  have k4 : w3.cell? ⟨w.heap.size, 4, none⟩ = some (.slice d.a5 d.l5 d.c5) := cellK Bk.out 4
  have k5 : w3.cell? ⟨w.heap.size, 5, none⟩ = some (.int .i64 c.now) := cellK Bk.out 5
  have ltk_3 : w.heap.size < w3.heap.size := lt_of_some Bk.out
  go_wp2_with fail
  refine (splaced_any d c _ (HR.out.below HB.out) HOK.out.1.2.2 HOK.out.2.2.2.1.2.2 HOK.out.2.2.1.2.2 HOK.out.ne (by have := HOK.out.2.2.2.2.1; omega) HOK.out.cpu).mono ?_
  rintro e w4 ⟨r, rfl, hi, hb⟩
  clear k0 k1 k2 k3 k4 k5 ltk_3
  have Ck := hidK ((hb.block (w.heap.size) (by have := lt_of_some Bk.out; omega)).trans (Bk.out))
  have HB4 := hidK (HB.out.trans (hb.mono HB.out.size))
  clear HB hb Bk
  have HB := HB4
  clear HB4
  have Bk := Ck
  clear Ck
  have HI4 := hidK hi
  clear hi
  cases r
  · have k0 : w4.cell? ⟨w.heap.size, 0, none⟩ = some (.slice d.a1 d.l1 d.c1) := cellK Bk.out 0
    have k1 : w4.cell? ⟨w.heap.size, 1, none⟩ = some (.slice d.a2 d.l2 d.c2) := cellK Bk.out 1
    have k2 : w4.cell? ⟨w.heap.size, 2, none⟩ = some (.slice d.a3 d.l3 d.c3) := cellK Bk.out 2
    have k3 : w4.cell? ⟨w.heap.size, 3, none⟩ = some (.slice d.a4 d.l4 d.c4) := cellK Bk.out 3
    have k4 : w4.cell? ⟨w.heap.size, 4, none⟩ = some (.slice d.a5 d.l5 d.c5) := cellK Bk.out 4
    have k5 : w4.cell? ⟨w.heap.size, 5, none⟩ = some (.int .i64 c.now) := cellK Bk.out 5
    have ltk_4 : w.heap.size < w4.heap.size := lt_of_some Bk.out
    go_wp2
    go_ret
    exact BoolB.f (fun h => by have := HI4.out.2 ((placed_iff HOK.out HBd.out).1 h.2.2.2.1); cases this) HB.out
  have HPl := hidK (HI4.out.1 (by first | trivial | rfl))
  have k0 : w4.cell? ⟨w.heap.size, 0, none⟩ = some (.slice d.a1 d.l1 d.c1) := cellK Bk.out 0
  have k1 : w4.cell? ⟨w.heap.size, 1, none⟩ = some (.slice d.a2 d.l2 d.c2) := cellK Bk.out 1
  have k2 : w4.cell? ⟨w.heap.size, 2, none⟩ = some (.slice d.a3 d.l3 d.c3) := cellK Bk.out 2
  have k3 : w4.cell? ⟨w.heap.size, 3, none⟩ = some (.slice d.a4 d.l4 d.c4) := cellK Bk.out 3
  have k4 : w4.cell? ⟨w.heap.size, 4, none⟩ = some (.slice d.a5 d.l5 d.c5) := cellK Bk.out 4
  have k5 : w4.cell? ⟨w.heap.size, 5, none⟩ = some (.int .i64 c.now) := cellK Bk.out 5
  have ltk_4 : w.heap.size < w4.heap.size := lt_of_some Bk.out
  go_wp2_with fail
  refine (sattached_any d c _ (HR.out.below HB.out) HOK.out.1.2.2 (by have := HOK.out.2.2.1.1; omega)).mono ?_
  rintro e w5 ⟨r, rfl, hi, hb⟩
  clear k0 k1 k2 k3 k4 k5 ltk_4
  have Ck := hidK ((hb.block (w.heap.size) (by have := lt_of_some Bk.out; omega)).trans (Bk.out))
  have HB5 := hidK (HB.out.trans (hb.mono HB.out.size))
  clear HB hb Bk
  have HB := HB5
  clear HB5
  have Bk := Ck
  clear Ck
  have HI5 := hidK hi
  clear hi
  cases r
  · have k0 : w5.cell? ⟨w.heap.size, 0, none⟩ = some (.slice d.a1 d.l1 d.c1) := cellK Bk.out 0
    have k1 : w5.cell? ⟨w.heap.size, 1, none⟩ = some (.slice d.a2 d.l2 d.c2) := cellK Bk.out 1
    have k2 : w5.cell? ⟨w.heap.size, 2, none⟩ = some (.slice d.a3 d.l3 d.c3) := cellK Bk.out 2
    have k3 : w5.cell? ⟨w.heap.size, 3, none⟩ = some (.slice d.a4 d.l4 d.c4) := cellK Bk.out 3
    have k4 : w5.cell? ⟨w.heap.size, 4, none⟩ = some (.slice d.a5 d.l5 d.c5) := cellK Bk.out 4
    have k5 : w5.cell? ⟨w.heap.size, 5, none⟩ = some (.int .i64 c.now) := cellK Bk.out 5
    have ltk_5 : w.heap.size < w5.heap.size := lt_of_some Bk.out
    go_wp2
    go_ret
    exact BoolB.f (fun h => by have := HI5.out.2 h.2.2.2.2.1; cases this) HB.out
  have k0 : w5.cell? ⟨w.heap.size, 0, none⟩ = some (.slice d.a1 d.l1 d.c1) := cellK Bk.out 0
  have k1 : w5.cell? ⟨w.heap.size, 1, none⟩ = some (.slice d.a2 d.l2 d.c2) := cellK Bk.out 1
  have k2 : w5.cell? ⟨w.heap.size, 2, none⟩ = some (.slice d.a3 d.l3 d.c3) := cellK Bk.out 2
  have k3 : w5.cell? ⟨w.heap.size, 3, none⟩ = some (.slice d.a4 d.l4 d.c4) := cellK Bk.out 3
  have k4 : w5.cell? ⟨w.heap.size, 4, none⟩ = some (.slice d.a5 d.l5 d.c5) := cellK Bk.out 4
  have k5 : w5.cell? ⟨w.heap.size, 5, none⟩ = some (.int .i64 c.now) := cellK Bk.out 5
  have ltk_5 : w.heap.size < w5.heap.size := lt_of_some Bk.out
  go_wp2_with fail
  refine (smounted_any d c _ (HR.out.below HB.out) HOK.out.1.2.2 HOK.out.2.2.2.1.2.2 HOK.out.2.2.1.2.2 HOK.out.ne (running HOK.out HPl.out)).mono ?_
  rintro e w6 ⟨r, rfl, hi, hb⟩
  clear k0 k1 k2 k3 k4 k5 ltk_5
  have Ck := hidK ((hb.block (w.heap.size) (by have := lt_of_some Bk.out; omega)).trans (Bk.out))
  have HB6 := hidK (HB.out.trans (hb.mono HB.out.size))
  clear HB hb Bk
  have HB := HB6
  clear HB6
  have Bk := Ck
  clear Ck
  have HI6 := hidK hi
  clear hi
  cases r
  · have k0 : w6.cell? ⟨w.heap.size, 0, none⟩ = some (.slice d.a1 d.l1 d.c1) := cellK Bk.out 0
    have k1 : w6.cell? ⟨w.heap.size, 1, none⟩ = some (.slice d.a2 d.l2 d.c2) := cellK Bk.out 1
    have k2 : w6.cell? ⟨w.heap.size, 2, none⟩ = some (.slice d.a3 d.l3 d.c3) := cellK Bk.out 2
    have k3 : w6.cell? ⟨w.heap.size, 3, none⟩ = some (.slice d.a4 d.l4 d.c4) := cellK Bk.out 3
    have k4 : w6.cell? ⟨w.heap.size, 4, none⟩ = some (.slice d.a5 d.l5 d.c5) := cellK Bk.out 4
    have k5 : w6.cell? ⟨w.heap.size, 5, none⟩ = some (.int .i64 c.now) := cellK Bk.out 5
    have ltk_6 : w.heap.size < w6.heap.size := lt_of_some Bk.out
    go_wp2
    go_ret
    exact BoolB.f (fun h => by have := HI6.out.2 h.2.2.2.2.2; cases this) HB.out
  go_wp2
  go_ret
  exact BoolB.t ⟨HI1.out.1 (by first | trivial | rfl), HOK.out, (bound_iff HOK.out).2 HBd.out, (placed_iff HOK.out HBd.out).2 HPl.out, HI5.out.1 (by first | trivial | rfl), HI6.out.1 (by first | trivial | rfl)⟩ HB.out

end Rc
end Go.Proofs.YtcljghpfclegmaaGreatDoor

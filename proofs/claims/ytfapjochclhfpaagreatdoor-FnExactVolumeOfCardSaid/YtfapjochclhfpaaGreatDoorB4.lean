import Derived.Test.YtfapjochclhfpaaGreatDoorB3
import Derived.WalkKit
import Derived.LaidEql
import Derived.Stop.Asserts
import Derived.RowKitTokens
import Derived.Test.YtfapjochclhfpaaGreatDoorRows
import Derived.WalkSpells
import Derived.RegionTactic
import Derived.Laws.AppendOwn
import Derived.Laws.AppendOwnNone
import Derived.Deep.AppendLies
import Derived.Stop.LaidErr
import Derived.ChangeVars
import Derived.Deep.Strs
import Derived.Deep.Fields
import Derived.WideShapes
import Derived.ChangeArms
/-
  Whether what is mounted may be, and what runs has what it needs, as the specification asks it.
-/
namespace Go.Proofs.YtfapjochclhfpaaGreatDoor
open Go.RowKit
namespace Rc
open Mk

set_option maxRecDepth 100000 in
set_option maxHeartbeats 12800000 in
theorem smounted_any (d : Ad) (c : Cl) (w : World) (hr : ClRow w d c.raw) (hn : RisBy Nd.n c.ns) (hx : RisBy Xd.n c.xs) (hv : RisBy Vd.n c.vs) (hne : ∀ (j : Nat) v, c.vs[j]? = some v → ¬ v.n = ⟨#[]⟩) (hrun : ∀ (j : Nat) p, c.ps[j]? = some p → p.p = 2 → (∃ (i : Nat) (n : Nd), c.ns[i]? = some n ∧ n.n = p.d) ∧ ∀ (j : Nat) t, p.zs[j]? = some t → ∃ v, IsBd c t v) :
    Calls Tryz.prog 76 #[.agg #[.slice d.a1 d.l1 d.c1, .slice d.a2 d.l2 d.c2, .slice d.a3 d.l3 d.c3, .slice d.a4 d.l4 d.c4, .slice d.a5 d.l5 d.c5, .int .i64 c.now]] w (BoolB (MountedI c) w) := by
  obtain ⟨a1, l1, y1, a2, l2, y2, a3, l3, y3, a4, l4, y4, a5, l5, y5⟩ := d
  dsimp only
  have HR := hidK hr
  have hl1 : c.ns.length = l1 := by simpa using (show (c.ns.map ndF).length = l1 from hr.n.1)
  have hm1 : l1 ≤ 9223372036854775807 := Nat.le_trans hr.n.2.1 hr.n.2.2.1
  have hl2 : c.ks.length = l2 := by simpa using (show (c.ks.map kdF).length = l2 from hr.k.1)
  have hm2 : l2 ≤ 9223372036854775807 := Nat.le_trans hr.k.2.1 hr.k.2.2.1
  have hl3 : c.vs.length = l3 := by simpa using (show (c.vs.map vdF).length = l3 from hr.v.1)
  have hm3 : l3 ≤ 9223372036854775807 := Nat.le_trans hr.v.2.1 hr.v.2.2.1
  have hl4 : c.xs.length = l4 := by simpa using (show (c.xs.map xdF).length = l4 from hr.x.1)
  have hm4 : l4 ≤ 9223372036854775807 := Nat.le_trans hr.x.2.1 hr.x.2.2.1
  have hl5 : c.ps.length = l5 := by simpa using (show (c.ps.map pdF).length = l5 from hr.p.1)
  have hm5 : l5 ≤ 9223372036854775807 := Nat.le_trans hr.p.2.1 hr.p.2.2.1
  clear hr
  have HNR := hidK hn
  have HX := hidK hx
  have HV := hidK hv
  have HNE := hidK hne
  have HRun := hidK hrun
  clear hn hx hv hne hrun
  go_enter Tryz.func76, Tryz.ntmps76
  go_wp2
  go_loopw [3] (fun i wr => ∃ k : Nat, k ≤ l1 ∧ i = .int .i64 k ∧ Hid (∀ (j : Nat) z, j < k → c.ns[j]? = some z → MntI c z) ∧ Hid (Below w.heap.size w wr) ∧ Hid (wr.heap[w.heap.size]? = some (.cells #[.slice a1 l1 y1, .slice a2 l2 y2, .slice a3 l3 y3, .slice a4 l4 y4, .slice a5 l5 y5, .int .i64 c.now] 39 (0, 0)))) (fun i _ => l1 - (intOf i).toNat)
  case atStart => exact ⟨0, by omega, rfl, fun _ _ h => absurd h (by omega), below1 _ _, Array.getElem?_push_size⟩
  case round =>
    obtain ⟨k, hk, rfl, HQ, HB, Bk⟩ := hrel
    have pk : wr.cell? ⟨w.heap.size, 0, none⟩ = some (.slice a1 l1 y1) := cellK Bk.out 0
    have pkl : w.heap.size < wr.heap.size := lt_of_some Bk.out
    by_cases hlt : k < l1
    · obtain ⟨b, o, n, rfl, hb, hx, hat⟩ := nd_at (HR.out.n.below HB.out) hlt
      obtain ⟨va, vl, vc, hvr, z0, z1, c0, c1, c2, c3, c4, c5, c6⟩ := nd_cells hat
      have HXn := hidK hx
      have HTn := hidK hvr
      have HZn0 := hidK z0
      have HZn1 := hidK z1
      clear hat hx z0 z1 hvr
      have hvl : n.zs.length = vl := HTn.out.1
      have hvc : vl ≤ 9223372036854775807 := Nat.le_trans HTn.out.2.1 HTn.out.2.2.1
      have HVL := hidK hvl
      clear hvl
      have KV : Hid ((wr.alloc (.cells #[.string n.n, .string n.z, .int .i64 n.c, .int .i64 n.s, .int .i64 n.u, .bool n.d, .slice va vl vc] 117)).heap[w.heap.size]? = some (.cells #[.slice (some ⟨b, o, none⟩) l1 y1, .slice a2 l2 y2, .slice a3 l3 y3, .slice a4 l4 y4, .slice a5 l5 y5, .int .i64 c.now] 39 (0, 0))) := (Below.heap_alloc wr (.cells #[.string n.n, .string n.z, .int .i64 n.c, .int .i64 n.s, .int .i64 n.u, .bool n.d, .slice va vl vc] 117) _ (lt_of_some Bk.out)).trans Bk.out
      have GV : Hid ((wr.alloc (.cells #[.string n.n, .string n.z, .int .i64 n.c, .int .i64 n.s, .int .i64 n.u, .bool n.d, .slice va vl vc] 117)).heap[wr.heap.size]? = some (.cells #[.string n.n, .string n.z, .int .i64 n.c, .int .i64 n.s, .int .i64 n.u, .bool n.d, .slice va vl vc] 117 (0, 0))) := Array.getElem?_push_size
      have BV := hidK (HB.out.trans ((below1 wr (.cells #[.string n.n, .string n.z, .int .i64 n.c, .int .i64 n.s, .int .i64 n.u, .bool n.d, .slice va vl vc] 117)).mono HB.out.size))
      have TT := hidK (HTn.out.below (below1 wr (.cells #[.string n.n, .string n.z, .int .i64 n.c, .int .i64 n.s, .int .i64 n.u, .bool n.d, .slice va vl vc] 117)))
      obtain ⟨W, hW⟩ : ∃ W, W = wr.alloc (.cells #[.string n.n, .string n.z, .int .i64 n.c, .int .i64 n.s, .int .i64 n.u, .bool n.d, .slice va vl vc] 117) := ⟨_, rfl⟩
      obtain ⟨gb, hgb⟩ : ∃ gb, gb = wr.heap.size := ⟨_, rfl⟩
      rw [← hW] at KV GV BV TT
      rw [← hgb] at GV
      go_wp2
      rw [← hW, ← hgb]
      clear hW hgb HB Bk HTn c0 c1 c2 c3 c4 c5 c6 hb pk pkl
      go_loopw [5] (fun i wr => ∃ kq : Nat, kq ≤ vl ∧ i = .int .i64 kq ∧ Hid (∀ (j : Nat) t, j < kq → n.zs[j]? = some t → ∃ (i : Nat) (v : Vd), c.vs[i]? = some v ∧ v.n = t ∧ (n.d = true ∨ InL v.zs n.n)) ∧ Hid (Below W.heap.size W wr)) (fun i _ => vl - (intOf i).toNat)
      case atStart => exact ⟨0, by omega, rfl, fun _ _ h => absurd h (by omega), Below.refl _ _⟩
      case round =>
        obtain ⟨kq, hkq, rfl, HQ2, HBW⟩ := hrel
        have HB := hidK (BV.out.trans (HBW.out.mono BV.out.size))
        have Bk := upK KV HBW.out
        have Bv := upK GV HBW.out
        have pv : wr.cell? ⟨gb, 6, none⟩ = some (.slice va vl vc) := cellK Bv.out 6
        by_cases hlt2 : kq < vl
        · obtain ⟨b2, o2, t, rfl, hb, hx, hc, hsz⟩ := (TT.out.below HBW.out).at hlt2
          have HXt := hidK hx
          clear hx hsz
          by_cases hnn : ∃ (i : Nat) (v : Vd), c.vs[i]? = some v ∧ v.n = t
          rotate_left
          · have HH := hidK hnn
            clear hnn
            have Gk : Hid (wr.heap[w.heap.size]? = some (.cells #[.slice (some ⟨b, o, none⟩) l1 y1, .slice a2 l2 y2, .slice a3 l3 y3, .slice a4 l4 y4, .slice a5 l5 y5, .int .i64 c.now] 39 (0, 0))) := Bk.out
            have Gv : Hid (wr.heap[gb]? = some (.cells #[.string n.n, .string n.z, .int .i64 n.c, .int .i64 n.s, .int .i64 n.u, .bool n.d, .slice (some ⟨b2, o2, none⟩) vl vc] 117 (0, 0))) := Bv.out
            have HW : Hid (Below w.heap.size w wr) := HB.out
            have k0 := fun q : Wd wr => q.slot (o := 0) Gk.out rfl
            have k1 := fun q : Wd wr => q.slot (o := 1) Gk.out rfl
            have k2 := fun q : Wd wr => q.slot (o := 2) Gk.out rfl
            have k3 := fun q : Wd wr => q.slot (o := 3) Gk.out rfl
            have k4 := fun q : Wd wr => q.slot (o := 4) Gk.out rfl
            have k5 := fun q : Wd wr => q.slot (o := 5) Gk.out rfl
            have v6 := fun q : Wd wr => q.slot (o := 6) Gv.out rfl
            have tw : ∀ q : Wd wr, q.w.cell? ⟨b2, o2 + kq, none⟩ = some (.string t) := fun q => (q.cell (hb)).trans (hc)
            have hne0 := Wd.ne wr
            have HC0 := hidK (fun q : Wd wr => sxvd_miss ⟨(some ⟨b, o, none⟩), l1, y1, a2, l2, y2, a3, l3, y3, a4, l4, y4, a5, l5, y5⟩ c.now c.vs t q.w (HR.out.v.below (HW.out.trans (q.b.mono HW.out.size))) (fun i v h1 h2 => HH.out ⟨i, v, h1, h2⟩))
            go_wp2_with fail
            refine wp_region_wide (by kernel_rfl) (by kernel_rfl) ?_
            repeat (go_big_quiet_step (first | (go_at_call 112; exact Calls.wide (HC0.out _)) | fail))
            refine wpQuiet_nil ?_
            rintro _ ⟨q1, rfl⟩
            have HB1 := upB HW q1.b
            have Ck := upK Gk q1.b
            have Cv := upK Gv q1.b
            clear hne0 HW HB HC0 k0 k1 k2 k3 k4 k5 v6 tw Gk Gv Bk Bv pv
            have HB := HB1
            clear HB1
            have Bk := Ck
            clear Ck
            have Bv := Cv
            clear Cv
            have Gk : Hid (q1.w.heap[w.heap.size]? = some (.cells #[.slice (some ⟨b, o, none⟩) l1 y1, .slice a2 l2 y2, .slice a3 l3 y3, .slice a4 l4 y4, .slice a5 l5 y5, .int .i64 c.now] 39 (0, 0))) := Bk.out
            have Gv : Hid (q1.w.heap[gb]? = some (.cells #[.string n.n, .string n.z, .int .i64 n.c, .int .i64 n.s, .int .i64 n.u, .bool n.d, .slice (some ⟨b2, o2, none⟩) vl vc] 117 (0, 0))) := Bv.out
            have HW : Hid (Below w.heap.size w q1.w) := HB.out
            have k2 := fun q : Wd q1.w => q.slot (o := 2) Gk.out rfl
            have v0 := fun q : Wd q1.w => q.slot (o := 0) Gv.out rfl
            have v1 := fun q : Wd q1.w => q.slot (o := 1) Gv.out rfl
            have v2 := fun q : Wd q1.w => q.slot (o := 2) Gv.out rfl
            have v3 := fun q : Wd q1.w => q.slot (o := 3) Gv.out rfl
            have v4 := fun q : Wd q1.w => q.slot (o := 4) Gv.out rfl
            have v5 := fun q : Wd q1.w => q.slot (o := 5) Gv.out rfl
            have v6 := fun q : Wd q1.w => q.slot (o := 6) Gv.out rfl
            have hne0 := Wd.ne q1.w
            go_wp2_with fail
            refine wp_region_wide (by kernel_rfl) (by kernel_rfl) ?_
            repeat (go_big_quiet_step (first | fail))
            refine wpQuiet_nil ?_
            rintro _ ⟨q2, rfl⟩
            have HB2 := upB HW q2.b
            have Ck := upK Gk q2.b
            have Cv := upK Gv q2.b
            clear hne0 HW HB k2 v0 v1 v2 v3 v4 v5 v6 Gk Gv Bk Bv
            have HB := HB2
            clear HB2
            have Bk := Ck
            clear Ck
            have Bv := Cv
            clear Cv
            go_wp2
            go_ret
            refine BoolB.f (fun h => ?_) HB.out
            obtain ⟨i, v, h2, h3, _⟩ := (h.1 k n HXn.out) kq t HXt.out
            exact HH.out ⟨i, v, h2, h3⟩
          obtain ⟨j3, v, h1, h2⟩ := hnn
          have hl3' : j3 < l3 := by have h3 := (List.getElem?_eq_some_iff.1 h1).1; omega
          obtain ⟨b3, o3, v', rfl, hb3, hv', hat⟩ := vd_at HR.out.v hl3'
          rw [h1] at hv'
          obtain rfl := Option.some.inj hv'
          obtain ⟨xa, xl, xc, hvr, z0, z2, z3, z5, d0, d1, d2, d3, d4, d5, d6, d7⟩ := vd_cells hat
          have HJ := hidK h1
          have HNv := hidK h2
          have HTx := hidK hvr
          have HC7 := hidK d7
          have HB3 := hidK hb3
          have hj31 : decide ((j3 : Int) < 0) = false := by simp
          clear hv' hat hvr z0 z2 z3 z5 d0 d1 d2 d3 d4 d5 d6 d7 h1 h2 hb3
          have Gk : Hid (wr.heap[w.heap.size]? = some (.cells #[.slice (some ⟨b, o, none⟩) l1 y1, .slice a2 l2 y2, .slice (some ⟨b3, o3, none⟩) l3 y3, .slice a4 l4 y4, .slice a5 l5 y5, .int .i64 c.now] 39 (0, 0))) := Bk.out
          have Gv : Hid (wr.heap[gb]? = some (.cells #[.string n.n, .string n.z, .int .i64 n.c, .int .i64 n.s, .int .i64 n.u, .bool n.d, .slice (some ⟨b2, o2, none⟩) vl vc] 117 (0, 0))) := Bv.out
          have HW : Hid (Below w.heap.size w wr) := HB.out
          have k0 := fun q : Wd wr => q.slot (o := 0) Gk.out rfl
          have k1 := fun q : Wd wr => q.slot (o := 1) Gk.out rfl
          have k2 := fun q : Wd wr => q.slot (o := 2) Gk.out rfl
          have k3 := fun q : Wd wr => q.slot (o := 3) Gk.out rfl
          have k4 := fun q : Wd wr => q.slot (o := 4) Gk.out rfl
          have k5 := fun q : Wd wr => q.slot (o := 5) Gk.out rfl
          have v6 := fun q : Wd wr => q.slot (o := 6) Gv.out rfl
          have tw : ∀ q : Wd wr, q.w.cell? ⟨b2, o2 + kq, none⟩ = some (.string t) := fun q => (q.cell (hb)).trans (hc)
          have hne0 := Wd.ne wr
          have HC0 := hidK (fun q : Wd wr => sxvd_hit ⟨(some ⟨b, o, none⟩), l1, y1, a2, l2, y2, (some ⟨b3, o3, none⟩), l3, y3, a4, l4, y4, a5, l5, y5⟩ c.now c.vs t q.w (HR.out.v.below (HW.out.trans (q.b.mono HW.out.size))) HV.out HJ.out HNv.out)
          go_wp2_with fail
          refine wp_region_wide (by kernel_rfl) (by kernel_rfl) ?_
          repeat (go_big_quiet_step (first | (go_at_call 112; exact Calls.wide (HC0.out _)) | fail))
          refine wpQuiet_nil ?_
          rintro _ ⟨q1, rfl⟩
          have HB1 := upB HW q1.b
          have Ck := upK Gk q1.b
          have Cv := upK Gv q1.b
          clear hne0 HW HB HC0 k0 k1 k2 k3 k4 k5 v6 tw Gk Gv Bk Bv pv hb hc
          have HB := HB1
          clear HB1
          have Bk := Ck
          clear Ck
          have Bv := Cv
          clear Cv
          have HBW1 := upB HBW q1.b
          have hbv : b3 < q1.w.heap.size := Nat.lt_of_lt_of_le HB3.out HB.out.size
          have v7 := (cell_below HB.out HB3.out).trans HC7.out
          clear HBW
          rcases Bool.eq_false_or_eq_true n.d with hd | hd
          · have HDd := hidK hd
            clear hd
            have Bv2 : Hid (q1.w.heap[gb]? = some (.cells #[.string n.n, .string n.z, .int .i64 n.c, .int .i64 n.s, .int .i64 n.u, .bool true, .slice (some ⟨b2, o2, none⟩) vl vc] 117 (0, 0))) := by have := Bv.out; rw [HDd.out] at this; exact this
            clear Bv
            have Bv := Bv2
            clear Bv2
            have Gk : Hid (q1.w.heap[w.heap.size]? = some (.cells #[.slice (some ⟨b, o, none⟩) l1 y1, .slice a2 l2 y2, .slice (some ⟨b3, o3, none⟩) l3 y3, .slice a4 l4 y4, .slice a5 l5 y5, .int .i64 c.now] 39 (0, 0))) := Bk.out
            have Gv : Hid (q1.w.heap[gb]? = some (.cells #[.string n.n, .string n.z, .int .i64 n.c, .int .i64 n.s, .int .i64 n.u, .bool true, .slice (some ⟨b2, o2, none⟩) vl vc] 117 (0, 0))) := Bv.out
            have HW : Hid (Below w.heap.size w q1.w) := HB.out
            have k2 := fun q : Wd q1.w => q.slot (o := 2) Gk.out rfl
            have v0 := fun q : Wd q1.w => q.slot (o := 0) Gv.out rfl
            have v1 := fun q : Wd q1.w => q.slot (o := 1) Gv.out rfl
            have v2 := fun q : Wd q1.w => q.slot (o := 2) Gv.out rfl
            have v3 := fun q : Wd q1.w => q.slot (o := 3) Gv.out rfl
            have v4 := fun q : Wd q1.w => q.slot (o := 4) Gv.out rfl
            have v5 := fun q : Wd q1.w => q.slot (o := 5) Gv.out rfl
            have v6 := fun q : Wd q1.w => q.slot (o := 6) Gv.out rfl
            have vw : ∀ q : Wd q1.w, q.w.cell? ⟨b3, o3 + j3 * 8 + 7, none⟩ = some (.slice xa xl xc) := fun q => (q.cell (hbv)).trans (v7)
            have hne0 := Wd.ne q1.w
            go_wp2_with fail
            refine wp_region_wide (by kernel_rfl) (by kernel_rfl) ?_
            repeat (go_big_quiet_step (first | fail))
            refine wpQuiet_nil ?_
            rintro _ ⟨q2, rfl⟩
            have HB2 := upB HW q2.b
            have Ck := upK Gk q2.b
            have Cv := upK Gv q2.b
            clear hne0 HW HB k2 v0 v1 v2 v3 v4 v5 v6 vw Gk Gv Bk Bv hbv v7
            have HB := HB2
            clear HB2
            have Bk := Ck
            clear Ck
            have Bv := Cv
            clear Cv
            go_wp2_with fail
            refine ⟨⟨kq + 1, by omega, by go_num, fun j s hj hs => ?_, HBW1.out.trans (q2.b.mono HBW1.out.size)⟩, by simp [intOf]; omega⟩
            by_cases e : j = kq
            · subst e
              rw [HXt.out] at hs
              obtain rfl := Option.some.inj hs
              exact ⟨j3, v, HJ.out, HNv.out, .inl HDd.out⟩
            · exact HQ2.out j s (by omega) hs
          · have HDd := hidK hd
            clear hd
            have Bv2 : Hid (q1.w.heap[gb]? = some (.cells #[.string n.n, .string n.z, .int .i64 n.c, .int .i64 n.s, .int .i64 n.u, .bool false, .slice (some ⟨b2, o2, none⟩) vl vc] 117 (0, 0))) := by have := Bv.out; rw [HDd.out] at this; exact this
            clear Bv
            have Bv := Bv2
            clear Bv2
            by_cases hin : InL v.zs n.n
            · have HIn := hidK hin
              clear hin
              have Gk : Hid (q1.w.heap[w.heap.size]? = some (.cells #[.slice (some ⟨b, o, none⟩) l1 y1, .slice a2 l2 y2, .slice (some ⟨b3, o3, none⟩) l3 y3, .slice a4 l4 y4, .slice a5 l5 y5, .int .i64 c.now] 39 (0, 0))) := Bk.out
              have Gv : Hid (q1.w.heap[gb]? = some (.cells #[.string n.n, .string n.z, .int .i64 n.c, .int .i64 n.s, .int .i64 n.u, .bool false, .slice (some ⟨b2, o2, none⟩) vl vc] 117 (0, 0))) := Bv.out
              have HW : Hid (Below w.heap.size w q1.w) := HB.out
              have k2 := fun q : Wd q1.w => q.slot (o := 2) Gk.out rfl
              have v0 := fun q : Wd q1.w => q.slot (o := 0) Gv.out rfl
              have v1 := fun q : Wd q1.w => q.slot (o := 1) Gv.out rfl
              have v2 := fun q : Wd q1.w => q.slot (o := 2) Gv.out rfl
              have v3 := fun q : Wd q1.w => q.slot (o := 3) Gv.out rfl
              have v4 := fun q : Wd q1.w => q.slot (o := 4) Gv.out rfl
              have v5 := fun q : Wd q1.w => q.slot (o := 5) Gv.out rfl
              have v6 := fun q : Wd q1.w => q.slot (o := 6) Gv.out rfl
              have vw : ∀ q : Wd q1.w, q.w.cell? ⟨b3, o3 + j3 * 8 + 7, none⟩ = some (.slice xa xl xc) := fun q => (q.cell (hbv)).trans (v7)
              have hne0 := Wd.ne q1.w
              have HC0 := hidK (fun q : Wd q1.w => (shas_any xa xl xc v.zs n.n q.w (HTx.out.below (HW.out.trans (q.b.mono HW.out.size)))).mono (fun _ _ h => BoolB.yes h HIn.out))
              go_wp2_with fail
              refine wp_region_wide (by kernel_rfl) (by kernel_rfl) ?_
              repeat (go_big_quiet_step (first | (go_at_call 130; exact Calls.wide (HC0.out _)) | fail))
              refine wpQuiet_nil ?_
              rintro _ ⟨q2, rfl⟩
              have HB2 := upB HW q2.b
              have Ck := upK Gk q2.b
              have Cv := upK Gv q2.b
              clear hne0 HW HB HC0 k2 v0 v1 v2 v3 v4 v5 v6 vw Gk Gv Bk Bv hbv v7
              have HB := HB2
              clear HB2
              have Bk := Ck
              clear Ck
              have Bv := Cv
              clear Cv
              go_wp2_with fail
              refine ⟨⟨kq + 1, by omega, by go_num, fun j s hj hs => ?_, HBW1.out.trans (q2.b.mono HBW1.out.size)⟩, by simp [intOf]; omega⟩
              by_cases e : j = kq
              · subst e
                rw [HXt.out] at hs
                obtain rfl := Option.some.inj hs
                exact ⟨j3, v, HJ.out, HNv.out, .inr HIn.out⟩
              · exact HQ2.out j s (by omega) hs
            · have HIn := hidK hin
              clear hin
              have Gk : Hid (q1.w.heap[w.heap.size]? = some (.cells #[.slice (some ⟨b, o, none⟩) l1 y1, .slice a2 l2 y2, .slice (some ⟨b3, o3, none⟩) l3 y3, .slice a4 l4 y4, .slice a5 l5 y5, .int .i64 c.now] 39 (0, 0))) := Bk.out
              have Gv : Hid (q1.w.heap[gb]? = some (.cells #[.string n.n, .string n.z, .int .i64 n.c, .int .i64 n.s, .int .i64 n.u, .bool false, .slice (some ⟨b2, o2, none⟩) vl vc] 117 (0, 0))) := Bv.out
              have HW : Hid (Below w.heap.size w q1.w) := HB.out
              have k2 := fun q : Wd q1.w => q.slot (o := 2) Gk.out rfl
              have v0 := fun q : Wd q1.w => q.slot (o := 0) Gv.out rfl
              have v1 := fun q : Wd q1.w => q.slot (o := 1) Gv.out rfl
              have v2 := fun q : Wd q1.w => q.slot (o := 2) Gv.out rfl
              have v3 := fun q : Wd q1.w => q.slot (o := 3) Gv.out rfl
              have v4 := fun q : Wd q1.w => q.slot (o := 4) Gv.out rfl
              have v5 := fun q : Wd q1.w => q.slot (o := 5) Gv.out rfl
              have v6 := fun q : Wd q1.w => q.slot (o := 6) Gv.out rfl
              have vw : ∀ q : Wd q1.w, q.w.cell? ⟨b3, o3 + j3 * 8 + 7, none⟩ = some (.slice xa xl xc) := fun q => (q.cell (hbv)).trans (v7)
              have hne0 := Wd.ne q1.w
              have HC0 := hidK (fun q : Wd q1.w => (shas_any xa xl xc v.zs n.n q.w (HTx.out.below (HW.out.trans (q.b.mono HW.out.size)))).mono (fun _ _ h => BoolB.no h HIn.out))
              go_wp2_with fail
              refine wp_region_wide (by kernel_rfl) (by kernel_rfl) ?_
              repeat (go_big_quiet_step (first | (go_at_call 130; exact Calls.wide (HC0.out _)) | fail))
              refine wpQuiet_nil ?_
              rintro _ ⟨q2, rfl⟩
              have HB2 := upB HW q2.b
              have Ck := upK Gk q2.b
              have Cv := upK Gv q2.b
              clear hne0 HW HB HC0 k2 v0 v1 v2 v3 v4 v5 v6 vw Gk Gv Bk Bv hbv v7
              have HB := HB2
              clear HB2
              have Bk := Ck
              clear Ck
              have Bv := Cv
              clear Cv
              go_wp2
              go_ret
              refine BoolB.f (fun h => ?_) HB.out
              obtain ⟨i, v2, e1, e2, e3⟩ := (h.1 k n HXn.out) kq t HXt.out
              obtain ⟨_, rfl⟩ := HV.out.inj e1 HJ.out (e2.trans HNv.out.symm)
              rcases e3 with e3 | e3
              · rw [HDd.out] at e3; cases e3
              · exact HIn.out e3
        · obtain rfl : vl = kq := by omega
          go_wp2_with fail
          refine ⟨⟨k + 1, by omega, by go_num, fun j z hj hz => ?_, HB.out, Bk.out⟩, by simp [intOf]; omega⟩
          by_cases e : j = k
          · subst e
            rw [HXn.out] at hz
            obtain rfl := Option.some.inj hz
            exact fun j s hs => HQ2.out j s (by have h1 := (List.getElem?_eq_some_iff.1 hs).1; have h2 := HVL.out; omega) hs
          · exact HQ.out j z (by omega) hz
    · obtain rfl : l1 = k := by omega
      have HQ1 : Hid (∀ (j : Nat) z, c.ns[j]? = some z → MntI c z) := fun j z hz => HQ.out j z (by have := (List.getElem?_eq_some_iff.1 hz).1; omega) hz
      clear HQ
      have kc : wr.cell? ⟨w.heap.size, 4, none⟩ = some (.slice a5 l5 y5) := cellK Bk.out 4
      go_wp2
      clear pk pkl kc
      go_loopw [7] (fun i wr => ∃ k : Nat, k ≤ l5 ∧ i = .int .i64 k ∧ Hid (∀ (j : Nat) z, j < k → c.ps[j]? = some z → MQ2 c z) ∧ Hid (Below w.heap.size w wr) ∧ Hid (wr.heap[w.heap.size]? = some (.cells #[.slice a1 l1 y1, .slice a2 l2 y2, .slice a3 l3 y3, .slice a4 l4 y4, .slice a5 l5 y5, .int .i64 c.now] 39 (0, 0)))) (fun i _ => l5 - (intOf i).toNat)
      case atStart => exact ⟨0, by omega, rfl, fun _ _ h => absurd h (by omega), HB.out, Bk.out⟩
      case round =>
        obtain ⟨k, hk, rfl, HQ, HB, Bk⟩ := hrel
        have pk : wr.cell? ⟨w.heap.size, 4, none⟩ = some (.slice a5 l5 y5) := cellK Bk.out 4
        have pkl : w.heap.size < wr.heap.size := lt_of_some Bk.out
        by_cases hlt : k < l5
        · obtain ⟨b, o, p, rfl, hb, hx, hat⟩ := pd_at (HR.out.p.below HB.out) hlt
          obtain ⟨va, vl, vc, hvr, z0, z2, z4, c0, c1, c2, c3, c4, c5⟩ := pd_cells hat
          have HXp := hidK hx
          have HTp := hidK hvr
          have HZp0 := hidK z0
          have HZp2 := hidK z2
          have HZp4 := hidK z4
          clear hat hx z0 z2 z4 hvr
          by_cases hp2 : p.p = 2
          rotate_left
          · have HP2 := hidK hp2
            have hp3 : (p.p == 2) = false := by simpa using hp2
            have hszv1 : (wr.alloc (.cells #[.string p.n, .int .i64 p.c, .string p.z, .slice va vl vc, .string p.d, .int .i64 p.p] 118)).heap.size = wr.heap.size + 1 := by simp
            have Gk : Hid ((wr.alloc (.cells #[.string p.n, .int .i64 p.c, .string p.z, .slice va vl vc, .string p.d, .int .i64 p.p] 118)).heap[w.heap.size]? = some (.cells #[.slice a1 l1 y1, .slice a2 l2 y2, .slice a3 l3 y3, .slice a4 l4 y4, .slice (some ⟨b, o, none⟩) l5 y5, .int .i64 c.now] 39 (0, 0))) := (Below.heap_alloc _ _ _ (lt_of_some Bk.out)).trans (Bk.out)
            have Gr : Hid ((wr.alloc (.cells #[.string p.n, .int .i64 p.c, .string p.z, .slice va vl vc, .string p.d, .int .i64 p.p] 118)).heap[wr.heap.size]? = some (.cells #[.string p.n, .int .i64 p.c, .string p.z, .slice va vl vc, .string p.d, .int .i64 p.p] 118 (0, 0))) := Array.getElem?_push_size
            have HW : Hid (Below w.heap.size w (wr.alloc (.cells #[.string p.n, .int .i64 p.c, .string p.z, .slice va vl vc, .string p.d, .int .i64 p.p] 118))) := (HB.out.trans ((below1 _ _).mono HB.out.size))
            have k0 := fun q : Wd (wr.alloc (.cells #[.string p.n, .int .i64 p.c, .string p.z, .slice va vl vc, .string p.d, .int .i64 p.p] 118)) => q.slot (o := 0) Gk.out rfl
            have k1 := fun q : Wd (wr.alloc (.cells #[.string p.n, .int .i64 p.c, .string p.z, .slice va vl vc, .string p.d, .int .i64 p.p] 118)) => q.slot (o := 1) Gk.out rfl
            have k2 := fun q : Wd (wr.alloc (.cells #[.string p.n, .int .i64 p.c, .string p.z, .slice va vl vc, .string p.d, .int .i64 p.p] 118)) => q.slot (o := 2) Gk.out rfl
            have k3 := fun q : Wd (wr.alloc (.cells #[.string p.n, .int .i64 p.c, .string p.z, .slice va vl vc, .string p.d, .int .i64 p.p] 118)) => q.slot (o := 3) Gk.out rfl
            have k4 := fun q : Wd (wr.alloc (.cells #[.string p.n, .int .i64 p.c, .string p.z, .slice va vl vc, .string p.d, .int .i64 p.p] 118)) => q.slot (o := 4) Gk.out rfl
            have k5 := fun q : Wd (wr.alloc (.cells #[.string p.n, .int .i64 p.c, .string p.z, .slice va vl vc, .string p.d, .int .i64 p.p] 118)) => q.slot (o := 5) Gk.out rfl
            have r0 := fun q : Wd (wr.alloc (.cells #[.string p.n, .int .i64 p.c, .string p.z, .slice va vl vc, .string p.d, .int .i64 p.p] 118)) => q.slot (o := 0) Gr.out rfl
            have r1 := fun q : Wd (wr.alloc (.cells #[.string p.n, .int .i64 p.c, .string p.z, .slice va vl vc, .string p.d, .int .i64 p.p] 118)) => q.slot (o := 1) Gr.out rfl
            have r2 := fun q : Wd (wr.alloc (.cells #[.string p.n, .int .i64 p.c, .string p.z, .slice va vl vc, .string p.d, .int .i64 p.p] 118)) => q.slot (o := 2) Gr.out rfl
            have r3 := fun q : Wd (wr.alloc (.cells #[.string p.n, .int .i64 p.c, .string p.z, .slice va vl vc, .string p.d, .int .i64 p.p] 118)) => q.slot (o := 3) Gr.out rfl
            have r4 := fun q : Wd (wr.alloc (.cells #[.string p.n, .int .i64 p.c, .string p.z, .slice va vl vc, .string p.d, .int .i64 p.p] 118)) => q.slot (o := 4) Gr.out rfl
            have r5 := fun q : Wd (wr.alloc (.cells #[.string p.n, .int .i64 p.c, .string p.z, .slice va vl vc, .string p.d, .int .i64 p.p] 118)) => q.slot (o := 5) Gr.out rfl
            have hne0 := Wd.ne (wr.alloc (.cells #[.string p.n, .int .i64 p.c, .string p.z, .slice va vl vc, .string p.d, .int .i64 p.p] 118))
            go_wp2_with fail
            refine wp_region_wide (by kernel_rfl) (by kernel_rfl) ?_
            repeat (go_big_quiet_step (first | fail))
            refine wpQuiet_nil ?_
            rintro _ ⟨q1, rfl⟩
            have HB1 := upB HW q1.b
            have Ck := upK Gk q1.b
            have Cr := upK Gr q1.b
            clear hne0 HW HB k0 k1 k2 k3 k4 k5 r0 r1 r2 r3 r4 r5 Gk Gr Bk hszv1 pk pkl hb c0 c1 c2 c3 c4 c5
            have HB := HB1
            clear HB1
            have Bk := Ck
            clear Ck
            have Br := Cr
            clear Cr
            clear hp2 hp3
            go_wp2_with fail
            refine ⟨⟨k + 1, by omega, by go_num, fun j z hj hz => ?_, HB.out, Bk.out⟩, by simp [intOf]; omega⟩
            by_cases e : j = k
            · subst e
              rw [HXp.out] at hz
              obtain rfl := Option.some.inj hz
              exact fun h => absurd h HP2.out
            · exact HQ.out j z (by omega) hz
          have HP2 := hidK hp2
          obtain ⟨⟨j1, n, h1, h2⟩, hbd⟩ := HRun.out k p HXp.out hp2
          rw [hp2] at c5
          clear hp2
          have HBD := hidK hbd
          have hl1' : j1 < l1 := by have h3 := (List.getElem?_eq_some_iff.1 h1).1; omega
          obtain ⟨b1, o1, n', rfl, hb1n, hn', hat⟩ := nd_at HR.out.n hl1'
          rw [h1] at hn'
          obtain rfl := Option.some.inj hn'
          obtain ⟨na, nl, nc, hnr, z0, z1, d0, d1, d2, d3, d4, d5, d6⟩ := nd_cells hat
          have HJn := hidK h1
          have HNn := hidK h2
          have e5 := (cell_below HB.out hb1n).trans d5
          have hbn : b1 < wr.heap.size := Nat.lt_of_lt_of_le hb1n HB.out.size
          clear hn' hat hnr z0 z1 d0 d1 d2 d3 d4 d5 d6 h1 h2 hb1n hbd
          rcases Bool.eq_false_or_eq_true n.d with hd | hd
          · have HDd := hidK hd
            rw [hd] at e5
            clear hd
            have hbnv : b1 < (wr.alloc (.cells #[.string p.n, .int .i64 p.c, .string p.z, .slice va vl vc, .string p.d, .int .i64 2] 118)).heap.size := by simp; omega
            have e5v := (cell_below (below1 wr (.cells #[.string p.n, .int .i64 p.c, .string p.z, .slice va vl vc, .string p.d, .int .i64 2] 118)) hbn).trans e5
            have hszv1 : (wr.alloc (.cells #[.string p.n, .int .i64 p.c, .string p.z, .slice va vl vc, .string p.d, .int .i64 2] 118)).heap.size = wr.heap.size + 1 := by simp
            have Gk : Hid ((wr.alloc (.cells #[.string p.n, .int .i64 p.c, .string p.z, .slice va vl vc, .string p.d, .int .i64 2] 118)).heap[w.heap.size]? = some (.cells #[.slice (some ⟨b1, o1, none⟩) l1 y1, .slice a2 l2 y2, .slice a3 l3 y3, .slice a4 l4 y4, .slice (some ⟨b, o, none⟩) l5 y5, .int .i64 c.now] 39 (0, 0))) := (Below.heap_alloc _ _ _ (lt_of_some Bk.out)).trans (Bk.out)
            have Gr : Hid ((wr.alloc (.cells #[.string p.n, .int .i64 p.c, .string p.z, .slice va vl vc, .string p.d, .int .i64 2] 118)).heap[wr.heap.size]? = some (.cells #[.string p.n, .int .i64 p.c, .string p.z, .slice va vl vc, .string p.d, .int .i64 2] 118 (0, 0))) := Array.getElem?_push_size
            have HW : Hid (Below w.heap.size w (wr.alloc (.cells #[.string p.n, .int .i64 p.c, .string p.z, .slice va vl vc, .string p.d, .int .i64 2] 118))) := (HB.out.trans ((below1 _ _).mono HB.out.size))
            have k0 := fun q : Wd (wr.alloc (.cells #[.string p.n, .int .i64 p.c, .string p.z, .slice va vl vc, .string p.d, .int .i64 2] 118)) => q.slot (o := 0) Gk.out rfl
            have k1 := fun q : Wd (wr.alloc (.cells #[.string p.n, .int .i64 p.c, .string p.z, .slice va vl vc, .string p.d, .int .i64 2] 118)) => q.slot (o := 1) Gk.out rfl
            have k2 := fun q : Wd (wr.alloc (.cells #[.string p.n, .int .i64 p.c, .string p.z, .slice va vl vc, .string p.d, .int .i64 2] 118)) => q.slot (o := 2) Gk.out rfl
            have k3 := fun q : Wd (wr.alloc (.cells #[.string p.n, .int .i64 p.c, .string p.z, .slice va vl vc, .string p.d, .int .i64 2] 118)) => q.slot (o := 3) Gk.out rfl
            have k4 := fun q : Wd (wr.alloc (.cells #[.string p.n, .int .i64 p.c, .string p.z, .slice va vl vc, .string p.d, .int .i64 2] 118)) => q.slot (o := 4) Gk.out rfl
            have k5 := fun q : Wd (wr.alloc (.cells #[.string p.n, .int .i64 p.c, .string p.z, .slice va vl vc, .string p.d, .int .i64 2] 118)) => q.slot (o := 5) Gk.out rfl
            have r0 := fun q : Wd (wr.alloc (.cells #[.string p.n, .int .i64 p.c, .string p.z, .slice va vl vc, .string p.d, .int .i64 2] 118)) => q.slot (o := 0) Gr.out rfl
            have r1 := fun q : Wd (wr.alloc (.cells #[.string p.n, .int .i64 p.c, .string p.z, .slice va vl vc, .string p.d, .int .i64 2] 118)) => q.slot (o := 1) Gr.out rfl
            have r2 := fun q : Wd (wr.alloc (.cells #[.string p.n, .int .i64 p.c, .string p.z, .slice va vl vc, .string p.d, .int .i64 2] 118)) => q.slot (o := 2) Gr.out rfl
            have r3 := fun q : Wd (wr.alloc (.cells #[.string p.n, .int .i64 p.c, .string p.z, .slice va vl vc, .string p.d, .int .i64 2] 118)) => q.slot (o := 3) Gr.out rfl
            have r4 := fun q : Wd (wr.alloc (.cells #[.string p.n, .int .i64 p.c, .string p.z, .slice va vl vc, .string p.d, .int .i64 2] 118)) => q.slot (o := 4) Gr.out rfl
            have r5 := fun q : Wd (wr.alloc (.cells #[.string p.n, .int .i64 p.c, .string p.z, .slice va vl vc, .string p.d, .int .i64 2] 118)) => q.slot (o := 5) Gr.out rfl
            have nw : ∀ q : Wd (wr.alloc (.cells #[.string p.n, .int .i64 p.c, .string p.z, .slice va vl vc, .string p.d, .int .i64 2] 118)), q.w.cell? ⟨b1, o1 + j1 * 7 + 5, none⟩ = some (.bool true) := fun q => (q.cell (hbnv)).trans (e5v)
            have hne0 := Wd.ne (wr.alloc (.cells #[.string p.n, .int .i64 p.c, .string p.z, .slice va vl vc, .string p.d, .int .i64 2] 118))
            have HC0 := hidK (fun q : Wd (wr.alloc (.cells #[.string p.n, .int .i64 p.c, .string p.z, .slice va vl vc, .string p.d, .int .i64 2] 118)) => sxnd_hit ⟨(some ⟨b1, o1, none⟩), l1, y1, a2, l2, y2, a3, l3, y3, a4, l4, y4, (some ⟨b, o, none⟩), l5, y5⟩ c.now c.ns p.d q.w (HR.out.n.below (HW.out.trans (q.b.mono HW.out.size))) HNR.out HJn.out HNn.out)
            go_wp2_with fail
            refine wp_region_wide (by kernel_rfl) (by kernel_rfl) ?_
            repeat (go_big_quiet_step (first | (go_at_call 126; exact Calls.wide (HC0.out _)) | fail))
            refine wpQuiet_nil ?_
            rintro _ ⟨q1, rfl⟩
            have HB1 := upB HW q1.b
            have Ck := upK Gk q1.b
            have Cr := upK Gr q1.b
            clear hne0 HW HB HC0 k0 k1 k2 k3 k4 k5 r0 r1 r2 r3 r4 r5 nw Gk Gr Bk hszv1 pk pkl hb hbn e5 hbnv e5v c0 c1 c2 c3 c4 c5
            have HB := HB1
            clear HB1
            have Bk := Ck
            clear Ck
            have Br := Cr
            clear Cr
            go_wp2
            go_ret
            refine BoolB.f (fun h => ?_) HB.out
            obtain ⟨i, m, e1, e2, e3, _⟩ := (h.2 k p HXp.out) HP2.out
            obtain ⟨_, rfl⟩ := HNR.out.inj e1 HJn.out (e2.trans HNn.out.symm)
            rw [HDd.out] at e3
            cases e3
          · by_cases hal : AllS c p n
            · have HAl := hidK hal
              clear hal
              have HDd := hidK hd
              rw [hd] at e5
              clear hd
              have hbnv : b1 < (wr.alloc (.cells #[.string p.n, .int .i64 p.c, .string p.z, .slice va vl vc, .string p.d, .int .i64 2] 118)).heap.size := by simp; omega
              have e5v := (cell_below (below1 wr (.cells #[.string p.n, .int .i64 p.c, .string p.z, .slice va vl vc, .string p.d, .int .i64 2] 118)) hbn).trans e5
              have HCA : Hid (∀ q : Wd (wr.alloc (.cells #[.string p.n, .int .i64 p.c, .string p.z, .slice va vl vc, .string p.d, .int .i64 2] 118)), Calls Tryz.prog 131 #[.agg #[.slice (some ⟨b1, o1, none⟩) l1 y1, .slice a2 l2 y2, .slice a3 l3 y3, .slice a4 l4 y4, .slice (some ⟨b, o, none⟩) l5 y5, .int .i64 c.now], .agg #[.string p.n, .int .i64 p.c, .string p.z, .slice va vl vc, .string p.d, .int .i64 2]] q.w fun e w' => e = .returned (.bool true) ∧ Below q.w.heap.size q.w w') := by
                intro q
                have h0 := (sall_any ⟨(some ⟨b1, o1, none⟩), l1, y1, a2, l2, y2, a3, l3, y3, a4, l4, y4, (some ⟨b, o, none⟩), l5, y5⟩ c p va vl vc j1 n q.w (HR.out.below (HB.out.trans (((below1 wr _).trans (q.b.mono (by simp))).mono HB.out.size))) HNR.out HX.out HV.out HNE.out (HTp.out.below ((below1 wr _).trans (q.b.mono (by simp)))) HJn.out HNn.out HBD.out).mono (fun _ _ h => BoolB.yes h HAl.out)
                rw [HP2.out] at h0
                exact h0
              have hszv1 : (wr.alloc (.cells #[.string p.n, .int .i64 p.c, .string p.z, .slice va vl vc, .string p.d, .int .i64 2] 118)).heap.size = wr.heap.size + 1 := by simp
              have Gk : Hid ((wr.alloc (.cells #[.string p.n, .int .i64 p.c, .string p.z, .slice va vl vc, .string p.d, .int .i64 2] 118)).heap[w.heap.size]? = some (.cells #[.slice (some ⟨b1, o1, none⟩) l1 y1, .slice a2 l2 y2, .slice a3 l3 y3, .slice a4 l4 y4, .slice (some ⟨b, o, none⟩) l5 y5, .int .i64 c.now] 39 (0, 0))) := (Below.heap_alloc _ _ _ (lt_of_some Bk.out)).trans (Bk.out)
              have Gr : Hid ((wr.alloc (.cells #[.string p.n, .int .i64 p.c, .string p.z, .slice va vl vc, .string p.d, .int .i64 2] 118)).heap[wr.heap.size]? = some (.cells #[.string p.n, .int .i64 p.c, .string p.z, .slice va vl vc, .string p.d, .int .i64 2] 118 (0, 0))) := Array.getElem?_push_size
              have HW : Hid (Below w.heap.size w (wr.alloc (.cells #[.string p.n, .int .i64 p.c, .string p.z, .slice va vl vc, .string p.d, .int .i64 2] 118))) := (HB.out.trans ((below1 _ _).mono HB.out.size))
              have k0 := fun q : Wd (wr.alloc (.cells #[.string p.n, .int .i64 p.c, .string p.z, .slice va vl vc, .string p.d, .int .i64 2] 118)) => q.slot (o := 0) Gk.out rfl
              have k1 := fun q : Wd (wr.alloc (.cells #[.string p.n, .int .i64 p.c, .string p.z, .slice va vl vc, .string p.d, .int .i64 2] 118)) => q.slot (o := 1) Gk.out rfl
              have k2 := fun q : Wd (wr.alloc (.cells #[.string p.n, .int .i64 p.c, .string p.z, .slice va vl vc, .string p.d, .int .i64 2] 118)) => q.slot (o := 2) Gk.out rfl
              have k3 := fun q : Wd (wr.alloc (.cells #[.string p.n, .int .i64 p.c, .string p.z, .slice va vl vc, .string p.d, .int .i64 2] 118)) => q.slot (o := 3) Gk.out rfl
              have k4 := fun q : Wd (wr.alloc (.cells #[.string p.n, .int .i64 p.c, .string p.z, .slice va vl vc, .string p.d, .int .i64 2] 118)) => q.slot (o := 4) Gk.out rfl
              have k5 := fun q : Wd (wr.alloc (.cells #[.string p.n, .int .i64 p.c, .string p.z, .slice va vl vc, .string p.d, .int .i64 2] 118)) => q.slot (o := 5) Gk.out rfl
              have r0 := fun q : Wd (wr.alloc (.cells #[.string p.n, .int .i64 p.c, .string p.z, .slice va vl vc, .string p.d, .int .i64 2] 118)) => q.slot (o := 0) Gr.out rfl
              have r1 := fun q : Wd (wr.alloc (.cells #[.string p.n, .int .i64 p.c, .string p.z, .slice va vl vc, .string p.d, .int .i64 2] 118)) => q.slot (o := 1) Gr.out rfl
              have r2 := fun q : Wd (wr.alloc (.cells #[.string p.n, .int .i64 p.c, .string p.z, .slice va vl vc, .string p.d, .int .i64 2] 118)) => q.slot (o := 2) Gr.out rfl
              have r3 := fun q : Wd (wr.alloc (.cells #[.string p.n, .int .i64 p.c, .string p.z, .slice va vl vc, .string p.d, .int .i64 2] 118)) => q.slot (o := 3) Gr.out rfl
              have r4 := fun q : Wd (wr.alloc (.cells #[.string p.n, .int .i64 p.c, .string p.z, .slice va vl vc, .string p.d, .int .i64 2] 118)) => q.slot (o := 4) Gr.out rfl
              have r5 := fun q : Wd (wr.alloc (.cells #[.string p.n, .int .i64 p.c, .string p.z, .slice va vl vc, .string p.d, .int .i64 2] 118)) => q.slot (o := 5) Gr.out rfl
              have nw : ∀ q : Wd (wr.alloc (.cells #[.string p.n, .int .i64 p.c, .string p.z, .slice va vl vc, .string p.d, .int .i64 2] 118)), q.w.cell? ⟨b1, o1 + j1 * 7 + 5, none⟩ = some (.bool false) := fun q => (q.cell (hbnv)).trans (e5v)
              have hne0 := Wd.ne (wr.alloc (.cells #[.string p.n, .int .i64 p.c, .string p.z, .slice va vl vc, .string p.d, .int .i64 2] 118))
              have HC0 := hidK (fun q : Wd (wr.alloc (.cells #[.string p.n, .int .i64 p.c, .string p.z, .slice va vl vc, .string p.d, .int .i64 2] 118)) => sxnd_hit ⟨(some ⟨b1, o1, none⟩), l1, y1, a2, l2, y2, a3, l3, y3, a4, l4, y4, (some ⟨b, o, none⟩), l5, y5⟩ c.now c.ns p.d q.w (HR.out.n.below (HW.out.trans (q.b.mono HW.out.size))) HNR.out HJn.out HNn.out)
              have HC1 := hidK (fun q : Wd (wr.alloc (.cells #[.string p.n, .int .i64 p.c, .string p.z, .slice va vl vc, .string p.d, .int .i64 2] 118)) => HCA.out q)
              go_wp2_with fail
              refine wp_region_wide (by kernel_rfl) (by kernel_rfl) ?_
              repeat (go_big_quiet_step (first | (go_at_call 126; exact Calls.wide (HC0.out _)) | (go_at_call 131; exact Calls.wide (HC1.out _)) | fail))
              refine wpQuiet_nil ?_
              rintro _ ⟨q1, rfl⟩
              have HB1 := upB HW q1.b
              have Ck := upK Gk q1.b
              have Cr := upK Gr q1.b
              clear hne0 HW HB HC0 HC1 k0 k1 k2 k3 k4 k5 r0 r1 r2 r3 r4 r5 nw Gk Gr Bk hszv1 pk pkl hb hbn e5 hbnv e5v c0 c1 c2 c3 c4 c5
              have HB := HB1
              clear HB1
              have Bk := Ck
              clear Ck
              have Br := Cr
              clear Cr
              go_wp2_with fail
              refine ⟨⟨k + 1, by omega, by go_num, fun j z hj hz => ?_, HB.out, Bk.out⟩, by simp [intOf]; omega⟩
              by_cases e : j = k
              · subst e
                rw [HXp.out] at hz
                obtain rfl := Option.some.inj hz
                exact fun _ => ⟨j1, n, HJn.out, HNn.out, HDd.out, HAl.out⟩
              · exact HQ.out j z (by omega) hz
            · have HAl := hidK hal
              clear hal
              have HDd := hidK hd
              rw [hd] at e5
              clear hd
              have hbnv : b1 < (wr.alloc (.cells #[.string p.n, .int .i64 p.c, .string p.z, .slice va vl vc, .string p.d, .int .i64 2] 118)).heap.size := by simp; omega
              have e5v := (cell_below (below1 wr (.cells #[.string p.n, .int .i64 p.c, .string p.z, .slice va vl vc, .string p.d, .int .i64 2] 118)) hbn).trans e5
              have HCA : Hid (∀ q : Wd (wr.alloc (.cells #[.string p.n, .int .i64 p.c, .string p.z, .slice va vl vc, .string p.d, .int .i64 2] 118)), Calls Tryz.prog 131 #[.agg #[.slice (some ⟨b1, o1, none⟩) l1 y1, .slice a2 l2 y2, .slice a3 l3 y3, .slice a4 l4 y4, .slice (some ⟨b, o, none⟩) l5 y5, .int .i64 c.now], .agg #[.string p.n, .int .i64 p.c, .string p.z, .slice va vl vc, .string p.d, .int .i64 2]] q.w fun e w' => e = .returned (.bool false) ∧ Below q.w.heap.size q.w w') := by
                intro q
                have h0 := (sall_any ⟨(some ⟨b1, o1, none⟩), l1, y1, a2, l2, y2, a3, l3, y3, a4, l4, y4, (some ⟨b, o, none⟩), l5, y5⟩ c p va vl vc j1 n q.w (HR.out.below (HB.out.trans (((below1 wr _).trans (q.b.mono (by simp))).mono HB.out.size))) HNR.out HX.out HV.out HNE.out (HTp.out.below ((below1 wr _).trans (q.b.mono (by simp)))) HJn.out HNn.out HBD.out).mono (fun _ _ h => BoolB.no h HAl.out)
                rw [HP2.out] at h0
                exact h0
              have hszv1 : (wr.alloc (.cells #[.string p.n, .int .i64 p.c, .string p.z, .slice va vl vc, .string p.d, .int .i64 2] 118)).heap.size = wr.heap.size + 1 := by simp
              have Gk : Hid ((wr.alloc (.cells #[.string p.n, .int .i64 p.c, .string p.z, .slice va vl vc, .string p.d, .int .i64 2] 118)).heap[w.heap.size]? = some (.cells #[.slice (some ⟨b1, o1, none⟩) l1 y1, .slice a2 l2 y2, .slice a3 l3 y3, .slice a4 l4 y4, .slice (some ⟨b, o, none⟩) l5 y5, .int .i64 c.now] 39 (0, 0))) := (Below.heap_alloc _ _ _ (lt_of_some Bk.out)).trans (Bk.out)
              have Gr : Hid ((wr.alloc (.cells #[.string p.n, .int .i64 p.c, .string p.z, .slice va vl vc, .string p.d, .int .i64 2] 118)).heap[wr.heap.size]? = some (.cells #[.string p.n, .int .i64 p.c, .string p.z, .slice va vl vc, .string p.d, .int .i64 2] 118 (0, 0))) := Array.getElem?_push_size
              have HW : Hid (Below w.heap.size w (wr.alloc (.cells #[.string p.n, .int .i64 p.c, .string p.z, .slice va vl vc, .string p.d, .int .i64 2] 118))) := (HB.out.trans ((below1 _ _).mono HB.out.size))
              have k0 := fun q : Wd (wr.alloc (.cells #[.string p.n, .int .i64 p.c, .string p.z, .slice va vl vc, .string p.d, .int .i64 2] 118)) => q.slot (o := 0) Gk.out rfl
              have k1 := fun q : Wd (wr.alloc (.cells #[.string p.n, .int .i64 p.c, .string p.z, .slice va vl vc, .string p.d, .int .i64 2] 118)) => q.slot (o := 1) Gk.out rfl
              have k2 := fun q : Wd (wr.alloc (.cells #[.string p.n, .int .i64 p.c, .string p.z, .slice va vl vc, .string p.d, .int .i64 2] 118)) => q.slot (o := 2) Gk.out rfl
              have k3 := fun q : Wd (wr.alloc (.cells #[.string p.n, .int .i64 p.c, .string p.z, .slice va vl vc, .string p.d, .int .i64 2] 118)) => q.slot (o := 3) Gk.out rfl
              have k4 := fun q : Wd (wr.alloc (.cells #[.string p.n, .int .i64 p.c, .string p.z, .slice va vl vc, .string p.d, .int .i64 2] 118)) => q.slot (o := 4) Gk.out rfl
              have k5 := fun q : Wd (wr.alloc (.cells #[.string p.n, .int .i64 p.c, .string p.z, .slice va vl vc, .string p.d, .int .i64 2] 118)) => q.slot (o := 5) Gk.out rfl
              have r0 := fun q : Wd (wr.alloc (.cells #[.string p.n, .int .i64 p.c, .string p.z, .slice va vl vc, .string p.d, .int .i64 2] 118)) => q.slot (o := 0) Gr.out rfl
              have r1 := fun q : Wd (wr.alloc (.cells #[.string p.n, .int .i64 p.c, .string p.z, .slice va vl vc, .string p.d, .int .i64 2] 118)) => q.slot (o := 1) Gr.out rfl
              have r2 := fun q : Wd (wr.alloc (.cells #[.string p.n, .int .i64 p.c, .string p.z, .slice va vl vc, .string p.d, .int .i64 2] 118)) => q.slot (o := 2) Gr.out rfl
              have r3 := fun q : Wd (wr.alloc (.cells #[.string p.n, .int .i64 p.c, .string p.z, .slice va vl vc, .string p.d, .int .i64 2] 118)) => q.slot (o := 3) Gr.out rfl
              have r4 := fun q : Wd (wr.alloc (.cells #[.string p.n, .int .i64 p.c, .string p.z, .slice va vl vc, .string p.d, .int .i64 2] 118)) => q.slot (o := 4) Gr.out rfl
              have r5 := fun q : Wd (wr.alloc (.cells #[.string p.n, .int .i64 p.c, .string p.z, .slice va vl vc, .string p.d, .int .i64 2] 118)) => q.slot (o := 5) Gr.out rfl
              have nw : ∀ q : Wd (wr.alloc (.cells #[.string p.n, .int .i64 p.c, .string p.z, .slice va vl vc, .string p.d, .int .i64 2] 118)), q.w.cell? ⟨b1, o1 + j1 * 7 + 5, none⟩ = some (.bool false) := fun q => (q.cell (hbnv)).trans (e5v)
              have hne0 := Wd.ne (wr.alloc (.cells #[.string p.n, .int .i64 p.c, .string p.z, .slice va vl vc, .string p.d, .int .i64 2] 118))
              have HC0 := hidK (fun q : Wd (wr.alloc (.cells #[.string p.n, .int .i64 p.c, .string p.z, .slice va vl vc, .string p.d, .int .i64 2] 118)) => sxnd_hit ⟨(some ⟨b1, o1, none⟩), l1, y1, a2, l2, y2, a3, l3, y3, a4, l4, y4, (some ⟨b, o, none⟩), l5, y5⟩ c.now c.ns p.d q.w (HR.out.n.below (HW.out.trans (q.b.mono HW.out.size))) HNR.out HJn.out HNn.out)
              have HC1 := hidK (fun q : Wd (wr.alloc (.cells #[.string p.n, .int .i64 p.c, .string p.z, .slice va vl vc, .string p.d, .int .i64 2] 118)) => HCA.out q)
              go_wp2_with fail
              refine wp_region_wide (by kernel_rfl) (by kernel_rfl) ?_
              repeat (go_big_quiet_step (first | (go_at_call 126; exact Calls.wide (HC0.out _)) | (go_at_call 131; exact Calls.wide (HC1.out _)) | fail))
              refine wpQuiet_nil ?_
              rintro _ ⟨q1, rfl⟩
              have HB1 := upB HW q1.b
              have Ck := upK Gk q1.b
              have Cr := upK Gr q1.b
              clear hne0 HW HB HC0 HC1 k0 k1 k2 k3 k4 k5 r0 r1 r2 r3 r4 r5 nw Gk Gr Bk hszv1 pk pkl hb hbn e5 hbnv e5v c0 c1 c2 c3 c4 c5
              have HB := HB1
              clear HB1
              have Bk := Ck
              clear Ck
              have Br := Cr
              clear Cr
              go_wp2
              go_ret
              refine BoolB.f (fun h => ?_) HB.out
              obtain ⟨i, m, e1, e2, e3, e4⟩ := (h.2 k p HXp.out) HP2.out
              obtain ⟨_, rfl⟩ := HNR.out.inj e1 HJn.out (e2.trans HNn.out.symm)
              exact HAl.out e4
        · obtain rfl : l5 = k := by omega
          go_wp2
          go_ret
          exact BoolB.t ⟨HQ1.out, fun j z hz => HQ.out j z (by have := (List.getElem?_eq_some_iff.1 hz).1; omega) hz⟩ HB.out

theorem hit_iff {α : Type} {nm : α → ByteArray} {xs : List α} {t : ByteArray} (h : RisBy nm xs) : hit nm xs t = true ↔ ∃ (i : Nat) (x : α), xs[i]? = some x ∧ nm x = t := by
  constructor
  · intro e
    obtain ⟨x, h1, h2⟩ := hit_yes e
    exact ⟨_, x, h1, h2⟩
  · rintro ⟨i, x, h1, h2⟩
    exact (hit_at h h1 h2).2
theorem bound_iff {c : Cl} (h : RowsOk c) : BoundI c ↔ BoundS c := by
  have hk := h.2.1.2.2
  have hv := h.2.2.1.2.2
  have hx := h.2.2.2.1.2.2
  constructor
  · rintro ⟨h1, h2⟩
    refine ⟨fun j v e => ?_, fun j x e => ?_⟩
    · obtain ⟨a, b⟩ := h1 j v e
      refine ⟨(hit_iff hk).1 a, b.imp id ?_⟩
      rintro ⟨i, j', x, v', e1, e2, e3, e4, e5, e6, _⟩
      exact ⟨i, x, e1, e2, e5⟩
    · obtain ⟨a, b⟩ := h2 j x e
      refine ⟨(hit_iff hk).1 a, b.imp id ?_⟩
      rintro ⟨i, j', x', v', e1, e2, e3, e4, e5, e6, e7, e8, e9⟩
      obtain ⟨_, rfl⟩ := hx.inj e1 e e2
      exact ⟨j', v', e3, e4, e6, e7, e8, e9⟩
  · rintro ⟨h1, h2⟩
    refine ⟨fun j v e => ?_, fun j x e => ?_⟩
    · obtain ⟨a, b⟩ := h1 j v e
      refine ⟨(hit_iff hk).2 a, b.imp id ?_⟩
      rintro ⟨i, x, e1, e2, e3⟩
      have hne : ¬ x.v = ⟨#[]⟩ := fun q => h.ne j v e (e3.symm.trans q)
      obtain ⟨_, b2⟩ := h2 i x e1
      rcases b2 with b2 | ⟨j', v', f1, f2, f3, f4, f5, f6⟩
      · exact absurd b2 hne
      obtain ⟨_, rfl⟩ := hv.inj f1 e (f2.trans e3)
      exact ⟨i, j, x, v', e1, e2, e, rfl, e3, rfl, f4, f5, f6⟩
    · obtain ⟨a, b⟩ := h2 j x e
      refine ⟨(hit_iff hk).2 a, b.imp id ?_⟩
      rintro ⟨j', v, e1, e2, e3, e4, e5, e6⟩
      exact ⟨j, j', x, v, e, rfl, e1, e2, rfl, e3, e4, e5, e6⟩
theorem placed_iff {c : Cl} (h : RowsOk c) (hb : BoundS c) : PlacedI c ↔ PlacedS c := by
  have hn := h.1.2.2
  have hv := h.2.2.1.2.2
  have hx := h.2.2.2.1.2.2
  have one : (∀ (j : Nat) z, c.vs[j]? = some z → PQ3 c z) ↔ ∀ (k : Nat) p, c.ps[k]? = some p → PSc c k p := by
    constructor
    · intro h3 k p hp j q hj hq
      by_cases e1 : q.d = ⟨#[]⟩
      · exact .inl e1
      by_cases e2 : p.d = ⟨#[]⟩
      · exact .inr (.inl e2)
      by_cases e3 : q.d = p.d
      · exact .inr (.inr (.inl e3))
      refine .inr (.inr (.inr fun i t ht v hbd hs hin => e3 ?_))
      obtain ⟨i1, j1, x, f1, f2, f3, f4⟩ := hbd
      have hxv : ¬ x.v = ⟨#[]⟩ := fun z => h.ne j1 v f3 (f4.trans z)
      have hvm : v.m = t := by
        rcases (hb.2 i1 x f1).2 with z | ⟨j2, v2, g1, g2, g3, _⟩
        · exact absurd z hxv
        · obtain ⟨_, rfl⟩ := hv.inj g1 f3 (g2.trans f4.symm)
          rw [g3, f2]
      have ht0 : ¬ v.m = ⟨#[]⟩ := fun z => by
        have h1 := (h.2.2.2.1.2.1 i1 x f1).1.1
        rw [f2, ← hvm, z] at h1
        exact absurd h1 (by decide)
      have := h3 j1 v f3 hs ht0
      rw [hvm] at this
      exact this j k q p hq hp e1 e2 ⟨i, ht⟩ hin
    · intro h3 j v hj hs hm i1 i2 p q hp hq d1 d2 in1 in2
      obtain ⟨i4, x, f1, f2, f3⟩ := (hb.1 j v hj).2.resolve_left hm
      have hbd : IsBd c v.m v := ⟨i4, j, x, f1, f2, hj, f3.symm⟩
      rcases Nat.lt_trichotomy i1 i2 with k | k | k
      · obtain ⟨r, hr⟩ := in1
        rcases h3 i2 q hq i1 p k hp with z | z | z | z
        · exact absurd z d1
        · exact absurd z d2
        · exact z
        · exact absurd in2 (z r v.m hr v hbd hs)
      · subst k
        rw [hp] at hq
        rw [Option.some.inj hq]
      · obtain ⟨r, hr⟩ := in2
        rcases h3 i1 p hp i2 q k hq with z | z | z | z
        · exact absurd z d2
        · exact absurd z d1
        · exact z.symm
        · exact absurd in1 (z r v.m hr v hbd hs)
  constructor
  · rintro ⟨h1, h2, h3⟩
    refine ⟨fun k p hp => ⟨?_, ?_, one.1 h3 k p hp⟩, h2⟩
    · rcases (h1 k p hp).2 with z | ⟨i, n, e1, e2, e3, e4⟩
      · exact .inl z
      · exact .inr ⟨i, n, e1, e2, e3.imp id Eq.symm⟩
    · intro j t ht
      refine ⟨(hit_iff hx).1 ((h1 k p hp).1 j t ht), ?_⟩
      rcases (h1 k p hp).2 with z | ⟨i, n, e1, e2, e3, e4⟩
      · exact .inl z
      · obtain ⟨v, f1, f2⟩ := e4 j t ht
        exact .inr ⟨v, i, n, f1, e1, e2, f2⟩
  · rintro ⟨h1, h2⟩
    refine ⟨fun k p hp => ⟨fun j t ht => (hit_iff hx).2 ((h1 k p hp).2.1 j t ht).1, ?_⟩, h2, one.2 (fun k p hp => (h1 k p hp).2.2)⟩
    rcases (h1 k p hp).1 with z | ⟨i, n, e1, e2, e3⟩
    · exact .inl z
    by_cases z : p.d = ⟨#[]⟩
    · exact .inl z
    refine .inr ⟨i, n, e1, e2, e3.imp id Eq.symm, fun j t ht => ?_⟩
    obtain ⟨v, i', n', f1, f2, f3, f4⟩ := ((h1 k p hp).2.1 j t ht).2.resolve_left z
    obtain ⟨_, rfl⟩ := hn.inj f2 e1 (f3.trans e2.symm)
    exact ⟨v, f1, f4⟩
theorem running {c : Cl} (h : RowsOk c) (hp : PlacedS c) (j : Nat) (p : Pd) (hj : c.ps[j]? = some p) (h2 : p.p = 2) : (∃ (i : Nat) (n : Nd), c.ns[i]? = some n ∧ n.n = p.d) ∧ ∀ (j : Nat) t, p.zs[j]? = some t → ∃ v, IsBd c t v := by
  have hd : ¬ p.d = ⟨#[]⟩ := fun e => by
    have h1 := (h.2.2.2.2.2.1 j p hj).2.2.2.2
    rcases h1 with ⟨h3, _⟩ | ⟨_, h3⟩
    · rw [h2] at h3; cases h3
    · have h4 := h3.1
      rw [e] at h4
      exact absurd h4 (by decide)
  obtain ⟨a, b, _⟩ := hp.1 j p hj
  obtain ⟨i, n, e1, e2, _⟩ := a.resolve_left hd
  refine ⟨⟨i, n, e1, e2⟩, fun k t ht => ?_⟩
  obtain ⟨v, _, _, e3, _⟩ := (b k t ht).2.resolve_left hd
  exact ⟨v, e3⟩

set_option maxRecDepth 100000 in
set_option maxHeartbeats 3200000 in
theorem sright_any (d : Ad) (c : Cl) (w : World) (hr : ClRow w d c.raw) :
    Calls Tryz.prog 26 #[.agg #[.slice d.a1 d.l1 d.c1, .slice d.a2 d.l2 d.c2, .slice d.a3 d.l3 d.c3, .slice d.a4 d.l4 d.c4, .slice d.a5 d.l5 d.c5, .int .i64 c.now]] w (BoolB (RightI c) w) := by
  have HR := hidK hr
  have HB := hidK (Below.refl w.heap.size w)
  clear hr
  go_enter Tryz.func26, Tryz.ntmps26
  go_wp2_with fail
  refine (ktime_any c.now _).mono ?_
  rintro e w1 ⟨r, rfl, hi, hw⟩
  have hb : Below (w.alloc (.cells #[.slice d.a1 d.l1 d.c1, .slice d.a2 d.l2 d.c2, .slice d.a3 d.l3 d.c3, .slice d.a4 d.l4 d.c4, .slice d.a5 d.l5 d.c5, .int .i64 c.now] 39)).heap.size (w.alloc (.cells #[.slice d.a1 d.l1 d.c1, .slice d.a2 d.l2 d.c2, .slice d.a3 d.l3 d.c3, .slice d.a4 d.l4 d.c4, .slice d.a5 d.l5 d.c5, .int .i64 c.now] 39)) w1 := by first | (rw [hw]; exact Below.refl _ _) | (rw [← hw]; exact Below.refl _ _)
  clear hw
  obtain ⟨HA0, hbx⟩ := slots1 hb
  have Bk := hidK HA0
  replace HB := upB HB hbx
  clear hb hbx HA0
  have HI1 := hidK hi
  clear hi
  cases r
  · obtain ⟨k0, k1, k2, k3, k4, k5⟩ := cs6 Bk.out
    have ltk_1 := lt_of_some Bk.out
    go_wp2
    go_ret
    exact BoolB.f (fun h => by have := HI1.out.2 h.1; cases this) HB.out
  obtain ⟨k0, k1, k2, k3, k4, k5⟩ := cs6 Bk.out
  have ltk_1 := lt_of_some Bk.out
  go_wp2_with fail
  refine (seach_any d c _ (HR.out.below HB.out)).mono ?_
  rintro e w2 ⟨r, rfl, hi, hb⟩
  clear k0 k1 k2 k3 k4 k5 ltk_1
  replace Bk := upK Bk hb
  replace HB := upB HB hb
  clear hb
  have HI2 := hidK hi
  clear hi
  cases r
  · obtain ⟨k0, k1, k2, k3, k4, k5⟩ := cs6 Bk.out
    have ltk_2 := lt_of_some Bk.out
    go_wp2
    go_ret
    exact BoolB.f (fun h => by have := HI2.out.2 h.2.1; cases this) HB.out
  have HOK := hidK (HI2.out.1 (by first | trivial | rfl))
  obtain ⟨k0, k1, k2, k3, k4, k5⟩ := cs6 Bk.out
  have ltk_2 := lt_of_some Bk.out
  go_wp2_with fail
  refine (sbound_any d c _ (HR.out.below HB.out) HOK.out.2.1.2.2 HOK.out.2.2.2.1.2.2 HOK.out.2.2.1.2.2).mono ?_
  rintro e w3 ⟨r, rfl, hi, hb⟩
  clear k0 k1 k2 k3 k4 k5 ltk_2
  replace Bk := upK Bk hb
  replace HB := upB HB hb
  clear hb
  have HI3 := hidK hi
  clear hi
  cases r
  · obtain ⟨k0, k1, k2, k3, k4, k5⟩ := cs6 Bk.out
    have ltk_3 := lt_of_some Bk.out
    go_wp2
    go_ret
    exact BoolB.f (fun h => by have := HI3.out.2 ((bound_iff HOK.out).1 h.2.2.1); cases this) HB.out
  have HBd := hidK (HI3.out.1 (by first | trivial | rfl))
  obtain ⟨k0, k1, k2, k3, k4, k5⟩ := cs6 Bk.out
  have ltk_3 := lt_of_some Bk.out
  go_wp2_with fail
  refine (splaced_any d c _ (HR.out.below HB.out) HOK.out.1.2.2 HOK.out.2.2.2.1.2.2 HOK.out.2.2.1.2.2 HOK.out.ne (by have := HOK.out.2.2.2.2.1; omega) HOK.out.cpu).mono ?_
  rintro e w4 ⟨r, rfl, hi, hb⟩
  clear k0 k1 k2 k3 k4 k5 ltk_3
  replace Bk := upK Bk hb
  replace HB := upB HB hb
  clear hb
  have HI4 := hidK hi
  clear hi
  cases r
  · obtain ⟨k0, k1, k2, k3, k4, k5⟩ := cs6 Bk.out
    have ltk_4 := lt_of_some Bk.out
    go_wp2
    go_ret
    exact BoolB.f (fun h => by have := HI4.out.2 ((placed_iff HOK.out HBd.out).1 h.2.2.2.1); cases this) HB.out
  have HPl := hidK (HI4.out.1 (by first | trivial | rfl))
  obtain ⟨k0, k1, k2, k3, k4, k5⟩ := cs6 Bk.out
  have ltk_4 := lt_of_some Bk.out
  go_wp2_with fail
  refine (sattached_any d c _ (HR.out.below HB.out) HOK.out.1.2.2 (by have := HOK.out.2.2.1.1; omega)).mono ?_
  rintro e w5 ⟨r, rfl, hi, hb⟩
  clear k0 k1 k2 k3 k4 k5 ltk_4
  replace Bk := upK Bk hb
  replace HB := upB HB hb
  clear hb
  have HI5 := hidK hi
  clear hi
  cases r
  · obtain ⟨k0, k1, k2, k3, k4, k5⟩ := cs6 Bk.out
    have ltk_5 := lt_of_some Bk.out
    go_wp2
    go_ret
    exact BoolB.f (fun h => by have := HI5.out.2 h.2.2.2.2.1; cases this) HB.out
  obtain ⟨k0, k1, k2, k3, k4, k5⟩ := cs6 Bk.out
  have ltk_5 := lt_of_some Bk.out
  go_wp2_with fail
  refine (smounted_any d c _ (HR.out.below HB.out) HOK.out.1.2.2 HOK.out.2.2.2.1.2.2 HOK.out.2.2.1.2.2 HOK.out.ne (running HOK.out HPl.out)).mono ?_
  rintro e w6 ⟨r, rfl, hi, hb⟩
  clear k0 k1 k2 k3 k4 k5 ltk_5
  replace Bk := upK Bk hb
  replace HB := upB HB hb
  clear hb
  have HI6 := hidK hi
  clear hi
  cases r
  · obtain ⟨k0, k1, k2, k3, k4, k5⟩ := cs6 Bk.out
    have ltk_6 := lt_of_some Bk.out
    go_wp2
    go_ret
    exact BoolB.f (fun h => by have := HI6.out.2 h.2.2.2.2.2; cases this) HB.out
  go_wp2
  go_ret
  exact BoolB.t ⟨HI1.out.1 (by first | trivial | rfl), HOK.out, (bound_iff HOK.out).2 HBd.out, (placed_iff HOK.out HBd.out).2 HPl.out, HI5.out.1 (by first | trivial | rfl), HI6.out.1 (by first | trivial | rfl)⟩ HB.out

end Rc
end Go.Proofs.YtfapjochclhfpaaGreatDoor

namespace Go.Proofs.YtfapjochclhfpaaGreatDoor
open Go.RowKit Go.Extern.Stop Go.Stop Go.Extern
namespace Rc

structure Ers (w : World) (E : Nat → Addr) : Prop where
  v0 : w.cell? ⟨5, 0, none⟩ = some (.iface 191 (.pointer (some (E 0))))
  v1 : w.cell? ⟨0, 0, none⟩ = some (.iface 191 (.pointer (some (E 1))))
  v2 : w.cell? ⟨4, 0, none⟩ = some (.iface 191 (.pointer (some (E 2))))
  v3 : w.cell? ⟨2, 0, none⟩ = some (.iface 191 (.pointer (some (E 3))))
  v4 : w.cell? ⟨3, 0, none⟩ = some (.iface 191 (.pointer (some (E 4))))
  v5 : w.cell? ⟨8, 0, none⟩ = some (.iface 191 (.pointer (some (E 5))))
  v6 : w.cell? ⟨7, 0, none⟩ = some (.iface 191 (.pointer (some (E 6))))
  v7 : w.cell? ⟨1, 0, none⟩ = some (.iface 191 (.pointer (some (E 7))))
  v8 : w.cell? ⟨9, 0, none⟩ = some (.iface 191 (.pointer (some (E 8))))
  v9 : w.cell? ⟨6, 0, none⟩ = some (.iface 191 (.pointer (some (E 9))))
  blk : ∀ i, i < 10 → ∃ cs T, w.heap[(E i).block]? = some (.cells cs T (0, 0))
  inj : ∀ i j, i < 10 → j < 10 → E i = E j → i = j
theorem cell_lt {w : World} {b o : Nat} {v : Value} (h : w.cell? ⟨b, o, none⟩ = some v) : b < w.heap.size := World.block_lt_of_cell? w _ h
theorem Ers.below {w w' : World} {E : Nat → Addr} (h : Ers w E) (hb : Below w.heap.size w w') : Ers w' E :=
  ⟨(cell_below hb (cell_lt h.v0)).trans h.v0, (cell_below hb (cell_lt h.v1)).trans h.v1, (cell_below hb (cell_lt h.v2)).trans h.v2, (cell_below hb (cell_lt h.v3)).trans h.v3, (cell_below hb (cell_lt h.v4)).trans h.v4, (cell_below hb (cell_lt h.v5)).trans h.v5, (cell_below hb (cell_lt h.v6)).trans h.v6, (cell_below hb (cell_lt h.v7)).trans h.v7, (cell_below hb (cell_lt h.v8)).trans h.v8, (cell_below hb (cell_lt h.v9)).trans h.v9, fun i hi => by
    obtain ⟨cs, T, h1⟩ := h.blk i hi
    exact ⟨cs, T, (hb.block _ (lt_of_some h1)).trans h1⟩, h.inj⟩
theorem Ers.ens {w : World} {E : Nat → Addr} (h : Ers w E) : ens w := ⟨_, _, h.v2⟩

theorem isTypeOf (v : Value) (w : World) : (Extern.ReflectliteType.typeOf #[.iface 191 v]).run Tryz.prog w = .ok (.iface 180 (.agg #[.pointer (some ⟨10, 191, none⟩)])) w := by kernel_rfl
def cmpF : Array Value → Sem Value := Extern.ReflectliteType.method fun t => do Rtype.noPackHeld "Comparable" t; pure (.bool (← typeInfo t).comparable)
theorem isComparable (w : World) : (cmpF #[.agg #[.pointer (some ⟨10, 191, none⟩)]]).run Tryz.prog w = .ok (.bool true) w := by kernel_rfl
theorem isMethodComparable (v : Value) (w : World) : (Go.method 334 180 v "Comparable").run Tryz.prog w = .ok (211, v) w := by kernel_rfl
theorem isComp : (Tryz.prog.info? 191).map (·.comparable) = some true := by kernel_rfl
theorem isSize : (Tryz.prog.info? 222).map (·.size) = some 1 := by kernel_rfl
theorem noIsE (v : Value) (xT : TypeId) (w : World) : (Instr.typeAssert (.iface 191 v) xT 182 true).run Tryz.prog w = .ok (.tuple #[.nilIface, .bool false]) w := run_typeAssert_lacksB Tryz.underlying182 (by kernel_rfl) (by kernel_rfl) v xT w
theorem noUnwrapE (v : Value) (xT : TypeId) (w : World) : (Instr.typeAssert (.iface 191 v) xT 185 true).run Tryz.prog w = .ok (.tuple #[.nilIface, .bool false]) w := run_typeAssert_lacksB Tryz.underlying185 (by kernel_rfl) (by kernel_rfl) v xT w
theorem noUnwrapsE (v : Value) (xT : TypeId) (w : World) : (Instr.typeAssert (.iface 191 v) xT 187 true).run Tryz.prog w = .ok (.tuple #[.nilIface, .bool false]) w := run_typeAssert_lacksB Tryz.underlying187 (by kernel_rfl) (by kernel_rfl) v xT w

set_option maxHeartbeats 1600000 in
theorem is_same (a : Addr) (w : World)  :
    Calls Tryz.prog 115 #[.iface 191 (.pointer (some (a))), .iface 191 (.pointer (some (a)))] w fun e w' => e = .returned (.bool true) ∧ w' = w := by
  obtain ⟨i, hi, hcmp⟩ := Option.map_eq_some_iff.1 isComp
  obtain ⟨j, hj, hjs⟩ := Option.map_eq_some_iff.1 isSize
  have h8 := @run_callFunc_extern Tryz.prog 153 _ Extern.ReflectliteType.typeOf Tryz.func153 (by kernel_rfl) (by kernel_rfl) (by kernel_rfl) (by kernel_rfl)
  have h32 := @run_callFunc_extern Tryz.prog 211 _ cmpF Tryz.func211 (by kernel_rfl) (by kernel_rfl) (by kernel_rfl) (by kernel_rfl)
  have tT := isTypeOf
  have cT := isComparable
  have mR := isMethodComparable
  have heq := run_eql_iface_ptr_same (P := Tryz.prog) w a Tryz.underlying78 Tryz.underlying191 hi hcmp hj
  go_enter Tryz.func115, Tryz.ntmps115
  go_wp2
  refine wp_loop_rounds 1 ?_
  rw [rounds_succ]
  go_wp2
  go_ret
  exact ⟨rfl, rfl⟩

set_option maxHeartbeats 1600000 in
theorem is_other (a b : Addr) (ca cb : Array Value) (ta tb : TypeId) (w : World) (hne : a ≠ b) (ha : w.heap[a.block]? = some (.cells ca ta (0, 0))) (hb : w.heap[b.block]? = some (.cells cb tb (0, 0))) :
    Calls Tryz.prog 115 #[.iface 191 (.pointer (some (a))), .iface 191 (.pointer (some (b)))] w fun e w' => e = .returned (.bool false) ∧ w' = w := by
  obtain ⟨i, hi, hcmp⟩ := Option.map_eq_some_iff.1 isComp
  obtain ⟨j, hj, hjs⟩ := Option.map_eq_some_iff.1 isSize
  have h8 := @run_callFunc_extern Tryz.prog 153 _ Extern.ReflectliteType.typeOf Tryz.func153 (by kernel_rfl) (by kernel_rfl) (by kernel_rfl) (by kernel_rfl)
  have h32 := @run_callFunc_extern Tryz.prog 211 _ cmpF Tryz.func211 (by kernel_rfl) (by kernel_rfl) (by kernel_rfl) (by kernel_rfl)
  have tT := isTypeOf
  have cT := isComparable
  have mR := isMethodComparable
  have nE := noIsE
  have uE := noUnwrapE
  have vE := noUnwrapsE
  have heq := run_eql_iface_ptr_other (P := Tryz.prog) w Tryz.underlying78 Tryz.underlying191 hi hcmp hj (by rw [hjs]; decide) hne ha hb
  go_enter Tryz.func115, Tryz.ntmps115
  go_wp2
  refine wp_loop_rounds 1 ?_
  rw [rounds_succ]
  go_wp2
  go_ret
  exact ⟨rfl, rfl⟩

theorem is_words {w : World} {E : Nat → Addr} (h : Ers w E) (i j : Nat) (hi : i < 10) (hj : j < 10) (hne : ¬ i = j) :
    Calls Tryz.prog 115 #[.iface 191 (.pointer (some (E i))), .iface 191 (.pointer (some (E j)))] w fun e w' => e = .returned (.bool false) ∧ w' = w := by
  obtain ⟨ca, ta, h1⟩ := h.blk i hi
  obtain ⟨cb, tb, h2⟩ := h.blk j hj
  exact is_other (E i) (E j) ca cb ta tb w (fun e => hne (h.inj i j hi hj e)) h1 h2

def codeOf : Nat → Int
  | 0 => 2
  | 1 => 1
  | 2 => 6
  | 3 => 7
  | 4 => 9
  | 5 => 11
  | 6 => 7
  | 7 => 11
  | 8 => 10
  | 9 => 3
  | _ => 0

set_option maxHeartbeats 1600000 in
theorem why0 (E : Nat → Addr) (w : World) (h : Ers w E) : Calls Tryz.prog 61 #[.iface 191 (.pointer (some (E 0)))] w fun e w' => e = .returned (.int .i64 2) ∧ w' = w := by
  have HE := hidK h
  have v0 := h.v0
  have v1 := h.v1
  have v2 := h.v2
  have v3 := h.v3
  have v4 := h.v4
  have v5 := h.v5
  have v6 := h.v6
  have v7 := h.v7
  have v8 := h.v8
  have v9 := h.v9
  clear h
  go_enter Tryz.func61, Tryz.ntmps61
  go_wp2_with fail
  refine (is_same (E 0) _).mono ?_
  rintro e w' ⟨rfl, rfl⟩
  go_wp2
  go_ret
  exact ⟨rfl, rfl⟩

set_option maxHeartbeats 1600000 in
theorem why1 (E : Nat → Addr) (w : World) (h : Ers w E) : Calls Tryz.prog 61 #[.iface 191 (.pointer (some (E 1)))] w fun e w' => e = .returned (.int .i64 1) ∧ w' = w := by
  have HE := hidK h
  have v0 := h.v0
  have v1 := h.v1
  have v2 := h.v2
  have v3 := h.v3
  have v4 := h.v4
  have v5 := h.v5
  have v6 := h.v6
  have v7 := h.v7
  have v8 := h.v8
  have v9 := h.v9
  clear h
  go_enter Tryz.func61, Tryz.ntmps61
  go_wp2_with fail
  refine (is_words HE.out 1 0 (by decide) (by decide) (by decide)).mono ?_
  rintro e w' ⟨rfl, rfl⟩
  go_wp2_with fail
  refine (is_words HE.out 1 9 (by decide) (by decide) (by decide)).mono ?_
  rintro e w' ⟨rfl, rfl⟩
  go_wp2_with fail
  refine (is_words HE.out 1 2 (by decide) (by decide) (by decide)).mono ?_
  rintro e w' ⟨rfl, rfl⟩
  go_wp2_with fail
  refine (is_words HE.out 1 3 (by decide) (by decide) (by decide)).mono ?_
  rintro e w' ⟨rfl, rfl⟩
  go_wp2_with fail
  refine (is_words HE.out 1 6 (by decide) (by decide) (by decide)).mono ?_
  rintro e w' ⟨rfl, rfl⟩
  go_wp2_with fail
  refine (is_words HE.out 1 4 (by decide) (by decide) (by decide)).mono ?_
  rintro e w' ⟨rfl, rfl⟩
  go_wp2_with fail
  refine (is_words HE.out 1 5 (by decide) (by decide) (by decide)).mono ?_
  rintro e w' ⟨rfl, rfl⟩
  go_wp2_with fail
  refine (is_words HE.out 1 7 (by decide) (by decide) (by decide)).mono ?_
  rintro e w' ⟨rfl, rfl⟩
  go_wp2_with fail
  refine (is_words HE.out 1 8 (by decide) (by decide) (by decide)).mono ?_
  rintro e w' ⟨rfl, rfl⟩
  go_wp2
  go_ret
  exact ⟨rfl, rfl⟩

set_option maxHeartbeats 1600000 in
theorem why2 (E : Nat → Addr) (w : World) (h : Ers w E) : Calls Tryz.prog 61 #[.iface 191 (.pointer (some (E 2)))] w fun e w' => e = .returned (.int .i64 6) ∧ w' = w := by
  have HE := hidK h
  have v0 := h.v0
  have v1 := h.v1
  have v2 := h.v2
  have v3 := h.v3
  have v4 := h.v4
  have v5 := h.v5
  have v6 := h.v6
  have v7 := h.v7
  have v8 := h.v8
  have v9 := h.v9
  clear h
  go_enter Tryz.func61, Tryz.ntmps61
  go_wp2_with fail
  refine (is_words HE.out 2 0 (by decide) (by decide) (by decide)).mono ?_
  rintro e w' ⟨rfl, rfl⟩
  go_wp2_with fail
  refine (is_words HE.out 2 9 (by decide) (by decide) (by decide)).mono ?_
  rintro e w' ⟨rfl, rfl⟩
  go_wp2_with fail
  refine (is_same (E 2) _).mono ?_
  rintro e w' ⟨rfl, rfl⟩
  go_wp2
  go_ret
  exact ⟨rfl, rfl⟩

set_option maxHeartbeats 1600000 in
theorem why3 (E : Nat → Addr) (w : World) (h : Ers w E) : Calls Tryz.prog 61 #[.iface 191 (.pointer (some (E 3)))] w fun e w' => e = .returned (.int .i64 7) ∧ w' = w := by
  have HE := hidK h
  have v0 := h.v0
  have v1 := h.v1
  have v2 := h.v2
  have v3 := h.v3
  have v4 := h.v4
  have v5 := h.v5
  have v6 := h.v6
  have v7 := h.v7
  have v8 := h.v8
  have v9 := h.v9
  clear h
  go_enter Tryz.func61, Tryz.ntmps61
  go_wp2_with fail
  refine (is_words HE.out 3 0 (by decide) (by decide) (by decide)).mono ?_
  rintro e w' ⟨rfl, rfl⟩
  go_wp2_with fail
  refine (is_words HE.out 3 9 (by decide) (by decide) (by decide)).mono ?_
  rintro e w' ⟨rfl, rfl⟩
  go_wp2_with fail
  refine (is_words HE.out 3 2 (by decide) (by decide) (by decide)).mono ?_
  rintro e w' ⟨rfl, rfl⟩
  go_wp2_with fail
  refine (is_same (E 3) _).mono ?_
  rintro e w' ⟨rfl, rfl⟩
  go_wp2
  go_ret
  exact ⟨rfl, rfl⟩

set_option maxHeartbeats 1600000 in
theorem why4 (E : Nat → Addr) (w : World) (h : Ers w E) : Calls Tryz.prog 61 #[.iface 191 (.pointer (some (E 4)))] w fun e w' => e = .returned (.int .i64 9) ∧ w' = w := by
  have HE := hidK h
  have v0 := h.v0
  have v1 := h.v1
  have v2 := h.v2
  have v3 := h.v3
  have v4 := h.v4
  have v5 := h.v5
  have v6 := h.v6
  have v7 := h.v7
  have v8 := h.v8
  have v9 := h.v9
  clear h
  go_enter Tryz.func61, Tryz.ntmps61
  go_wp2_with fail
  refine (is_words HE.out 4 0 (by decide) (by decide) (by decide)).mono ?_
  rintro e w' ⟨rfl, rfl⟩
  go_wp2_with fail
  refine (is_words HE.out 4 9 (by decide) (by decide) (by decide)).mono ?_
  rintro e w' ⟨rfl, rfl⟩
  go_wp2_with fail
  refine (is_words HE.out 4 2 (by decide) (by decide) (by decide)).mono ?_
  rintro e w' ⟨rfl, rfl⟩
  go_wp2_with fail
  refine (is_words HE.out 4 3 (by decide) (by decide) (by decide)).mono ?_
  rintro e w' ⟨rfl, rfl⟩
  go_wp2_with fail
  refine (is_words HE.out 4 6 (by decide) (by decide) (by decide)).mono ?_
  rintro e w' ⟨rfl, rfl⟩
  go_wp2_with fail
  refine (is_same (E 4) _).mono ?_
  rintro e w' ⟨rfl, rfl⟩
  go_wp2
  go_ret
  exact ⟨rfl, rfl⟩

set_option maxHeartbeats 1600000 in
theorem why5 (E : Nat → Addr) (w : World) (h : Ers w E) : Calls Tryz.prog 61 #[.iface 191 (.pointer (some (E 5)))] w fun e w' => e = .returned (.int .i64 11) ∧ w' = w := by
  have HE := hidK h
  have v0 := h.v0
  have v1 := h.v1
  have v2 := h.v2
  have v3 := h.v3
  have v4 := h.v4
  have v5 := h.v5
  have v6 := h.v6
  have v7 := h.v7
  have v8 := h.v8
  have v9 := h.v9
  clear h
  go_enter Tryz.func61, Tryz.ntmps61
  go_wp2_with fail
  refine (is_words HE.out 5 0 (by decide) (by decide) (by decide)).mono ?_
  rintro e w' ⟨rfl, rfl⟩
  go_wp2_with fail
  refine (is_words HE.out 5 9 (by decide) (by decide) (by decide)).mono ?_
  rintro e w' ⟨rfl, rfl⟩
  go_wp2_with fail
  refine (is_words HE.out 5 2 (by decide) (by decide) (by decide)).mono ?_
  rintro e w' ⟨rfl, rfl⟩
  go_wp2_with fail
  refine (is_words HE.out 5 3 (by decide) (by decide) (by decide)).mono ?_
  rintro e w' ⟨rfl, rfl⟩
  go_wp2_with fail
  refine (is_words HE.out 5 6 (by decide) (by decide) (by decide)).mono ?_
  rintro e w' ⟨rfl, rfl⟩
  go_wp2_with fail
  refine (is_words HE.out 5 4 (by decide) (by decide) (by decide)).mono ?_
  rintro e w' ⟨rfl, rfl⟩
  go_wp2_with fail
  refine (is_same (E 5) _).mono ?_
  rintro e w' ⟨rfl, rfl⟩
  go_wp2
  go_ret
  exact ⟨rfl, rfl⟩

set_option maxHeartbeats 1600000 in
theorem why6 (E : Nat → Addr) (w : World) (h : Ers w E) : Calls Tryz.prog 61 #[.iface 191 (.pointer (some (E 6)))] w fun e w' => e = .returned (.int .i64 7) ∧ w' = w := by
  have HE := hidK h
  have v0 := h.v0
  have v1 := h.v1
  have v2 := h.v2
  have v3 := h.v3
  have v4 := h.v4
  have v5 := h.v5
  have v6 := h.v6
  have v7 := h.v7
  have v8 := h.v8
  have v9 := h.v9
  clear h
  go_enter Tryz.func61, Tryz.ntmps61
  go_wp2_with fail
  refine (is_words HE.out 6 0 (by decide) (by decide) (by decide)).mono ?_
  rintro e w' ⟨rfl, rfl⟩
  go_wp2_with fail
  refine (is_words HE.out 6 9 (by decide) (by decide) (by decide)).mono ?_
  rintro e w' ⟨rfl, rfl⟩
  go_wp2_with fail
  refine (is_words HE.out 6 2 (by decide) (by decide) (by decide)).mono ?_
  rintro e w' ⟨rfl, rfl⟩
  go_wp2_with fail
  refine (is_words HE.out 6 3 (by decide) (by decide) (by decide)).mono ?_
  rintro e w' ⟨rfl, rfl⟩
  go_wp2_with fail
  refine (is_same (E 6) _).mono ?_
  rintro e w' ⟨rfl, rfl⟩
  go_wp2
  go_ret
  exact ⟨rfl, rfl⟩

set_option maxHeartbeats 1600000 in
theorem why7 (E : Nat → Addr) (w : World) (h : Ers w E) : Calls Tryz.prog 61 #[.iface 191 (.pointer (some (E 7)))] w fun e w' => e = .returned (.int .i64 11) ∧ w' = w := by
  have HE := hidK h
  have v0 := h.v0
  have v1 := h.v1
  have v2 := h.v2
  have v3 := h.v3
  have v4 := h.v4
  have v5 := h.v5
  have v6 := h.v6
  have v7 := h.v7
  have v8 := h.v8
  have v9 := h.v9
  clear h
  go_enter Tryz.func61, Tryz.ntmps61
  go_wp2_with fail
  refine (is_words HE.out 7 0 (by decide) (by decide) (by decide)).mono ?_
  rintro e w' ⟨rfl, rfl⟩
  go_wp2_with fail
  refine (is_words HE.out 7 9 (by decide) (by decide) (by decide)).mono ?_
  rintro e w' ⟨rfl, rfl⟩
  go_wp2_with fail
  refine (is_words HE.out 7 2 (by decide) (by decide) (by decide)).mono ?_
  rintro e w' ⟨rfl, rfl⟩
  go_wp2_with fail
  refine (is_words HE.out 7 3 (by decide) (by decide) (by decide)).mono ?_
  rintro e w' ⟨rfl, rfl⟩
  go_wp2_with fail
  refine (is_words HE.out 7 6 (by decide) (by decide) (by decide)).mono ?_
  rintro e w' ⟨rfl, rfl⟩
  go_wp2_with fail
  refine (is_words HE.out 7 4 (by decide) (by decide) (by decide)).mono ?_
  rintro e w' ⟨rfl, rfl⟩
  go_wp2_with fail
  refine (is_words HE.out 7 5 (by decide) (by decide) (by decide)).mono ?_
  rintro e w' ⟨rfl, rfl⟩
  go_wp2_with fail
  refine (is_same (E 7) _).mono ?_
  rintro e w' ⟨rfl, rfl⟩
  go_wp2
  go_ret
  exact ⟨rfl, rfl⟩

set_option maxHeartbeats 1600000 in
theorem why8 (E : Nat → Addr) (w : World) (h : Ers w E) : Calls Tryz.prog 61 #[.iface 191 (.pointer (some (E 8)))] w fun e w' => e = .returned (.int .i64 10) ∧ w' = w := by
  have HE := hidK h
  have v0 := h.v0
  have v1 := h.v1
  have v2 := h.v2
  have v3 := h.v3
  have v4 := h.v4
  have v5 := h.v5
  have v6 := h.v6
  have v7 := h.v7
  have v8 := h.v8
  have v9 := h.v9
  clear h
  go_enter Tryz.func61, Tryz.ntmps61
  go_wp2_with fail
  refine (is_words HE.out 8 0 (by decide) (by decide) (by decide)).mono ?_
  rintro e w' ⟨rfl, rfl⟩
  go_wp2_with fail
  refine (is_words HE.out 8 9 (by decide) (by decide) (by decide)).mono ?_
  rintro e w' ⟨rfl, rfl⟩
  go_wp2_with fail
  refine (is_words HE.out 8 2 (by decide) (by decide) (by decide)).mono ?_
  rintro e w' ⟨rfl, rfl⟩
  go_wp2_with fail
  refine (is_words HE.out 8 3 (by decide) (by decide) (by decide)).mono ?_
  rintro e w' ⟨rfl, rfl⟩
  go_wp2_with fail
  refine (is_words HE.out 8 6 (by decide) (by decide) (by decide)).mono ?_
  rintro e w' ⟨rfl, rfl⟩
  go_wp2_with fail
  refine (is_words HE.out 8 4 (by decide) (by decide) (by decide)).mono ?_
  rintro e w' ⟨rfl, rfl⟩
  go_wp2_with fail
  refine (is_words HE.out 8 5 (by decide) (by decide) (by decide)).mono ?_
  rintro e w' ⟨rfl, rfl⟩
  go_wp2_with fail
  refine (is_words HE.out 8 7 (by decide) (by decide) (by decide)).mono ?_
  rintro e w' ⟨rfl, rfl⟩
  go_wp2_with fail
  refine (is_same (E 8) _).mono ?_
  rintro e w' ⟨rfl, rfl⟩
  go_wp2
  go_ret
  exact ⟨rfl, rfl⟩

theorem whyCode_any (E : Nat → Addr) (i : Nat) (w : World) (h : Ers w E) (hi : i < 9) : Calls Tryz.prog 61 #[.iface 191 (.pointer (some (E i)))] w fun e w' => e = .returned (.int .i64 (codeOf i)) ∧ w' = w := by
  match i, hi with
  | 0, _ => exact why0 E w h
  | 1, _ => exact why1 E w h
  | 2, _ => exact why2 E w h
  | 3, _ => exact why3 E w h
  | 4, _ => exact why4 E w h
  | 5, _ => exact why5 E w h
  | 6, _ => exact why6 E w h
  | 7, _ => exact why7 E w h
  | 8, _ => exact why8 E w h

end Rc
end Go.Proofs.YtfapjochclhfpaaGreatDoor

namespace Go.Proofs.YtfapjochclhfpaaGreatDoor
open Go.RowKit

set_option maxHeartbeats 400000 in
theorem long_any (s : ByteArray) (w : World) :
    Calls Tryz.prog 113 #[.string s] w fun e w' => e = .returned (.bool (decide (8000 < s.size))) ∧ w = w' := by
  go_enter Tryz.func113, Tryz.ntmps113
  go_wp2
  go_ret
  exact ⟨by simp; omega, rfl⟩
theorem long_yes (s : ByteArray) (w : World) (h : 8000 < s.size) :
    Calls Tryz.prog 113 #[.string s] w fun e w' => e = .returned (.bool true) ∧ w = w' := by
  have := long_any s w; rw [decide_eq_true h] at this; exact this
theorem long_no (s : ByteArray) (w : World) (h : ¬ 8000 < s.size) :
    Calls Tryz.prog 113 #[.string s] w fun e w' => e = .returned (.bool false) ∧ w = w' := by
  have := long_any s w; rw [decide_eq_false h] at this; exact this

end Go.Proofs.YtfapjochclhfpaaGreatDoor

namespace Go.Proofs.YtfapjochclhfpaaGreatDoor
open Go.RowKit
namespace Rc
open Mk

theorem Below.drewn {B : Nat} {w w' : World} (h : Below B w w') : Below B w w'.drew := ⟨h.os, h.tape, h.output, h.size, h.block⟩
def HasX (c : Cl) (t : ByteArray) : Prop := ∃ (i : Nat) (x : Xd), c.xs[i]? = some x ∧ x.n = t
theorem HasX.no {c : Cl} {t : ByteArray} (hr : RightI c) (h : hit Xd.n c.xs t = false) : ¬ HasX c t := fun ⟨i, x, h1, h2⟩ => by
  have := (hit_at hr.2.1.2.2.2.1.2.2 h1 h2).2
  rw [h] at this
  cases this
def AskWhy (c : Cl) (t : ByteArray) : Nat → Prop
  | 0 => 8000 < t.size
  | 1 => ¬ 8000 < t.size ∧ ¬ RightI c
  | 2 => ¬ 8000 < t.size ∧ RightI c ∧ ¬ HasX c t
  | _ => False
def AskI (c : Cl) (t : ByteArray) (E : Nat → Addr) (w : World) (e : Ending) (w' : World) : Prop :=
  Below w.heap.size w w' ∧ ((∃ i, i < 9 ∧ AskWhy c t i ∧ e = .returned (.tuple #[.agg #[.string ⟨#[]⟩, .int .i64 0, .string ⟨#[]⟩, .bool false, .string ⟨#[]⟩], .iface 191 (.pointer (some (E i)))])) ∨
    (¬ 8000 < t.size ∧ RightI c ∧ ∃ x : Xd, c.xs[pl Xd.n c.xs t]? = some x ∧ x.n = t ∧ e = .returned (.tuple #[.agg #[.string x.n, .int .i64 x.z, .string x.k, .bool x.x, .string x.v], .nilIface]) ∧ x.n.size ≤ 9223372036854775807 ∧ x.k.size ≤ 9223372036854775807 ∧ x.v.size ≤ 9223372036854775807))

set_option maxRecDepth 100000 in
set_option maxHeartbeats 3200000 in
theorem iask_any (d : Ad) (c : Cl) (t : ByteArray) (E : Nat → Addr) (w : World) (hr : ClRow w d c.raw) (hG : Ers w E) :
    Calls Tryz.prog 60 #[.agg #[.slice d.a1 d.l1 d.c1, .slice d.a2 d.l2 d.c2, .slice d.a3 d.l3 d.c3, .slice d.a4 d.l4 d.c4, .slice d.a5 d.l5 d.c5, .int .i64 c.now], .string t] w (AskI c t E w) := by
  have HR := hidK hr
  have HE := hidK hG
  have HB := hidK (Below.refl w.heap.size w)
  clear hr hG
  by_cases hl : 8000 < t.size
  · have ev := (HE.out.below (below2 w (.cells #[.slice d.a1 d.l1 d.c1, .slice d.a2 d.l2 d.c2, .slice d.a3 d.l3 d.c3, .slice d.a4 d.l4 d.c4, .slice d.a5 d.l5 d.c5, .int .i64 c.now] 39) (.cells #[.string ⟨#[]⟩, .int .i64 0, .string ⟨#[]⟩, .bool false, .string ⟨#[]⟩] 44))).v0
    go_enter Tryz.func60, Tryz.ntmps60
    go_wp2_with fail
    refine (long_yes t _ hl).mono ?_
    rintro e w1 ⟨rfl, rfl⟩
    go_wp2
    go_region
    go_wp2
    exact bodyPost_ret (v := .tuple #[.agg #[.string ⟨#[]⟩, .int .i64 0, .string ⟨#[]⟩, .bool false, .string ⟨#[]⟩], .iface 191 (.pointer (some (E 0)))]) (by simp [results, Tryz.results60, go_sem, *]) rfl ⟨Below.drewn (below2 _ _ _), .inl ⟨0, by decide, hl, rfl⟩⟩
  go_enter Tryz.func60, Tryz.ntmps60
  go_wp2_with fail
  refine (long_no t _ hl).mono ?_
  rintro e w1 ⟨rfl, rfl⟩
  go_wp2_with fail
  refine (iright_any d c _ (HR.out.below (HB.out.trans ((below2 _ _ _).mono HB.out.size))) (HE.out.below (HB.out.trans ((below2 _ _ _).mono HB.out.size))).ens).mono ?_
  rintro e w1 ⟨r, rfl, hi, hb⟩
  obtain ⟨HA0, HA1, hbx⟩ := slots2 hb
  have Bk := hidK HA0
  have Br := hidK HA1
  replace HB := upB HB hbx
  clear hb hbx HA0 HA1
  have HI := hidK hi
  clear hi
  cases r
  · obtain ⟨k0, k1, k2, k3, k4, k5⟩ := cs6 Bk.out
    have ltk_1 := lt_of_some Bk.out
    obtain ⟨r0, r1, r2, r3, r4⟩ := cs5 Br.out
    have ltr_1 := lt_of_some Br.out
    have fr0 : w1.frozen? ⟨w.heap.size + 1, 0, none⟩ = false := froK Br.out 0
    have fr1 : w1.frozen? ⟨w.heap.size + 1, 1, none⟩ = false := froK Br.out 1
    have fr2 : w1.frozen? ⟨w.heap.size + 1, 2, none⟩ = false := froK Br.out 2
    have fr3 : w1.frozen? ⟨w.heap.size + 1, 3, none⟩ = false := froK Br.out 3
    have fr4 : w1.frozen? ⟨w.heap.size + 1, 4, none⟩ = false := froK Br.out 4
    have ev := (HE.out.below HB.out).v1
    have evl := cell_lt HE.out.v1
    have evn : ¬ 0 = w.heap.size + 1 := by omega
    go_wp2
    go_region
    go_wp2
    exact bodyPost_ret (v := .tuple #[.agg #[.string ⟨#[]⟩, .int .i64 0, .string ⟨#[]⟩, .bool false, .string ⟨#[]⟩], .iface 191 (.pointer (some (E 1)))]) (by simp [results, Tryz.results60, go_sem, *]) rfl ⟨Below.drewn (set_below (show w.heap.size ≤ w.heap.size + 1 by omega) (set_below (show w.heap.size ≤ w.heap.size + 1 by omega) (set_below (show w.heap.size ≤ w.heap.size + 1 by omega) (set_below (show w.heap.size ≤ w.heap.size + 1 by omega) (set_below (show w.heap.size ≤ w.heap.size + 1 by omega) (HB.out)))))), .inl ⟨1, by decide, ⟨hl, fun h => (by have := HI.out.2 h; cases this)⟩, rfl⟩⟩
  have HT := hidK (HI.out.1 (by first | trivial | rfl))
  clear HI
  obtain ⟨k0, k1, k2, k3, k4, k5⟩ := cs6 Bk.out
  have ltk_1 := lt_of_some Bk.out
  go_wp2_with fail
  refine (thexd_any d c.now c.xs t w _ HR.out.x HB.out).mono ?_
  rintro e w2 ⟨hb, hf⟩
  clear k0 k1 k2 k3 k4 k5 ltk_1
  replace Bk := upK Bk hb
  replace Br := upK Br hb
  replace HB := upB HB hb
  clear hb
  rcases hf with ⟨hh, x, hx, hn, rfl, z0, z2, z4⟩ | ⟨hh, rfl⟩
  · have HX := hidK (And.intro hx (And.intro hn (And.intro z0 (And.intro z2 z4))))
    clear hx hn z0 z2 z4 hh
    obtain ⟨k0, k1, k2, k3, k4, k5⟩ := cs6 Bk.out
    have ltk_2 := lt_of_some Bk.out
    obtain ⟨r0, r1, r2, r3, r4⟩ := cs5 Br.out
    have ltr_2 := lt_of_some Br.out
    have fr0 : w2.frozen? ⟨w.heap.size + 1, 0, none⟩ = false := froK Br.out 0
    have fr1 : w2.frozen? ⟨w.heap.size + 1, 1, none⟩ = false := froK Br.out 1
    have fr2 : w2.frozen? ⟨w.heap.size + 1, 2, none⟩ = false := froK Br.out 2
    have fr3 : w2.frozen? ⟨w.heap.size + 1, 3, none⟩ = false := froK Br.out 3
    have fr4 : w2.frozen? ⟨w.heap.size + 1, 4, none⟩ = false := froK Br.out 4
    have hrl : w.heap.size + 1 < w2.heap.size := lt_of_some Br.out
    go_wp2
    exact bodyPost_ret (v := .tuple #[.agg #[.string x.n, .int .i64 x.z, .string x.k, .bool x.x, .string x.v], .nilIface]) (by simp [results, Tryz.results60, go_sem, *]) rfl ⟨Below.alloc (set_below (show w.heap.size ≤ w.heap.size + 1 by omega) (set_below (show w.heap.size ≤ w.heap.size + 1 by omega) (set_below (show w.heap.size ≤ w.heap.size + 1 by omega) (set_below (show w.heap.size ≤ w.heap.size + 1 by omega) (set_below (show w.heap.size ≤ w.heap.size + 1 by omega) (HB.out)))))) (by simp [World.setCell]; have := HB.out.size; omega) _, .inr ⟨hl, HT.out, x, HX.out.1, HX.out.2.1, rfl, HX.out.2.2⟩⟩
  · have HH := hidK hh
    clear hh
    obtain ⟨k0, k1, k2, k3, k4, k5⟩ := cs6 Bk.out
    have ltk_2 := lt_of_some Bk.out
    obtain ⟨r0, r1, r2, r3, r4⟩ := cs5 Br.out
    have ltr_2 := lt_of_some Br.out
    have fr0 : w2.frozen? ⟨w.heap.size + 1, 0, none⟩ = false := froK Br.out 0
    have fr1 : w2.frozen? ⟨w.heap.size + 1, 1, none⟩ = false := froK Br.out 1
    have fr2 : w2.frozen? ⟨w.heap.size + 1, 2, none⟩ = false := froK Br.out 2
    have fr3 : w2.frozen? ⟨w.heap.size + 1, 3, none⟩ = false := froK Br.out 3
    have fr4 : w2.frozen? ⟨w.heap.size + 1, 4, none⟩ = false := froK Br.out 4
    have ev := (HE.out.below HB.out).v2
    have evl := cell_lt HE.out.v2
    have evn : ¬ 4 = w.heap.size + 1 := by omega
    have evl2 : 4 < w2.heap.size := cell_lt ev
    have hrl : w.heap.size + 1 < w2.heap.size := lt_of_some Br.out
    go_wp2
    go_region
    go_wp2
    exact bodyPost_ret (v := .tuple #[.agg #[.string ⟨#[]⟩, .int .i64 0, .string ⟨#[]⟩, .bool false, .string ⟨#[]⟩], .iface 191 (.pointer (some (E 2)))]) (by simp [results, Tryz.results60, go_sem, *]) rfl ⟨Below.drewn (Below.alloc (set_below (show w.heap.size ≤ w.heap.size + 1 by omega) (set_below (show w.heap.size ≤ w.heap.size + 1 by omega) (set_below (show w.heap.size ≤ w.heap.size + 1 by omega) (set_below (show w.heap.size ≤ w.heap.size + 1 by omega) (set_below (show w.heap.size ≤ w.heap.size + 1 by omega) (HB.out)))))) (by simp [World.setCell]; have := HB.out.size; omega) _), .inl ⟨2, by decide, ⟨hl, HT.out, HasX.no HT.out HH.out⟩, rfl⟩⟩

def BegIs (c : Cl) (t : ByteArray) (p : Int) : Prop := (8000 < t.size ∧ p = 2) ∨ (¬ 8000 < t.size ∧ ¬ RightI c ∧ p = 1) ∨ (¬ 8000 < t.size ∧ RightI c ∧ p = 0)

set_option maxRecDepth 100000 in
set_option maxHeartbeats 3200000 in
theorem sbeg_any (d : Ad) (c : Cl) (t : ByteArray) (w : World) (hr : ClRow w d c.raw) :
    Calls Tryz.prog 57 #[.agg #[.slice d.a1 d.l1 d.c1, .slice d.a2 d.l2 d.c2, .slice d.a3 d.l3 d.c3, .slice d.a4 d.l4 d.c4, .slice d.a5 d.l5 d.c5, .int .i64 c.now], .string t] w fun e w' => ∃ p : Int, e = .returned (.int .i64 p) ∧ BegIs c t p ∧ Below w.heap.size w w' := by
  have HR := hidK hr
  have HB := hidK (Below.refl w.heap.size w)
  clear hr
  by_cases hl : 8000 < t.size
  · go_enter Tryz.func57, Tryz.ntmps57
    go_wp2
    go_ret
    exact ⟨2, rfl, .inl ⟨hl, rfl⟩, below1 _ _⟩
  go_enter Tryz.func57, Tryz.ntmps57
  go_wp2_with fail
  refine (sright_any d c _ (HR.out.below (HB.out.trans ((below1 _ _).mono HB.out.size)))).mono ?_
  rintro e w1 ⟨r, rfl, hi, hb⟩
  obtain ⟨HA0, hbx⟩ := slots1 hb
  have Bk := hidK HA0
  replace HB := upB HB hbx
  clear hb hbx HA0
  have HI := hidK hi
  clear hi
  cases r
  · go_wp2
    go_ret
    exact ⟨1, rfl, .inr (.inl ⟨hl, fun h => (by have := HI.out.2 h; cases this), rfl⟩), HB.out⟩
  · go_wp2
    go_ret
    exact ⟨0, rfl, .inr (.inr ⟨hl, HI.out.1 (by first | trivial | rfl), rfl⟩), HB.out⟩

end Rc
end Go.Proofs.YtfapjochclhfpaaGreatDoor

namespace Go.Proofs.YtfapjochclhfpaaGreatDoor
open Go.RowKit
namespace Ap

def OwnAns (zs : List ByteArray) (w : World) (a : Option Addr) (len cap : Nat) (w' : World) : Prop :=
  TxRow w' a len cap zs ∧ (zs = [] ∨ ∃ g cur, a = some ⟨g, 0, none⟩ ∧ w.heap.size ≤ g ∧ w'.heap[g]? = some (.cells cur 9 (0, 0))) ∧ Below w.heap.size w w'
theorem own_of {w w0 : World} {base n : Nat} {v : Value} {zs : List ByteArray} (h : w.ownsRow base 9 1 v n (zs.map Value.string)) (hb : Below base w0 w) (hB : base = w0.heap.size) (hs : ∀ (j : Nat) x, zs[j]? = some x → x.size ≤ 9223372036854775807) :
    ∃ a l c, v = .slice a l c ∧ OwnAns zs w0 a l c w := by
  subst hB
  obtain ⟨hl, h⟩ := h
  have hl' : zs.length = n := by simpa using hl
  rcases h with ⟨rfl, rfl⟩ | ⟨g, cap, cur, rfl, hbg, hg, hnc, hcm, hsz, htk⟩
  · obtain rfl : zs = [] := List.eq_nil_of_length_eq_zero hl'
    exact ⟨none, 0, 0, rfl, ⟨rfl, Nat.le_refl _, by omega, fun j x hx => by simp at hx, .inl rfl⟩, .inl rfl, hb⟩
  · refine ⟨some ⟨g, 0, none⟩, n, cap, rfl, ⟨hl', hnc, by unfold maxLen at hcm; omega, hs, .inr ⟨g, 0, rfl, lt_of_some hg, fun j x hx => ?_⟩⟩, .inr ⟨g, cur, rfl, hbg, hg⟩, hb⟩
    rw [Nat.zero_add, cellK hg]
    have hj : j < n := by have := (List.getElem?_eq_some_iff.1 hx).1; omega
    have e1 : (cur.toList.take (n * 1))[j]? = some (.string x) := by rw [htk]; simp [hx]
    rw [List.getElem?_take, if_pos (by omega)] at e1
    simpa using e1
theorem news_of {w : World} {ad : Addr} {len cap : Nat} {zs : List ByteArray} (h : TxRow w (some ad) len cap zs) : ∀ j u, (zs.map Value.string)[j]? = some u → w.cell? (ad.add j) = some u := by
  intro j u hu
  rw [List.getElem?_map] at hu
  obtain ⟨x, hx, rfl⟩ := Option.map_eq_some_iff.1 hu
  rcases h.2.2.2.2 with h | ⟨b, o, e, _, hc⟩
  · subst h; simp at hx
  · cases e
    rw [Addr.add_lit]
    exact hc j x hx

set_option maxHeartbeats 1600000 in
theorem ownNames_any (a : Option Addr) (len cap : Nat) (zs : List ByteArray) (w : World) (hr : TxRow w a len cap zs) (hl : len ≤ 8001) :
    Calls Tryz.prog 117 #[.slice a len cap] w fun e w' => ∃ a' l c, e = .returned (.slice a' l c) ∧ OwnAns zs w a' l c w' := by
  cases a with
  | none =>
    obtain rfl : zs = [] := by
      rcases hr.2.2.2.2 with h | ⟨b, o, e, _⟩
      · exact h
      · cases e
    obtain rfl : len = 0 := by have := hr.1; simpa using this.symm
    clear hr
    go_enter Tryz.func117, Tryz.ntmps117
    go_wp2
    go_ret
    exact ⟨_, _, _, rfl, ⟨rfl, Nat.le_refl _, by omega, fun j x hx => by simp at hx, .inl rfl⟩, .inl rfl, Below.refl _ _⟩
  | some ad =>
    have HN := hidK (news_of hr)
    have HZ := hidK hr.2.2.2.1
    have hzl : zs.length = len := hr.1
    clear hr
    obtain ⟨i0, hi, hz0, hz1, hz2⟩ := info_parts infoStr
    go_enter Tryz.func117, Tryz.ntmps117
    go_wp2_with (first | (at_builtin; refine wpList_append_own _ rfl _ _ 51 rfl w.heap.size 9 i0 (.string ⟨#[]⟩) 1 16 Tryz.underlying51 hi hz0 hz1 hz2 rfl (by decide) _ 0 _ rfl (World.ownsRow_nil w w.heap.size 9 1) ad len cap (zs.map Value.string) rfl ?c1 HN.out ?c3 ?c4 ?c5 (Nat.le_refl _) ?_))
    case c1 => simpa using hzl
    case c3 => intro u hu; obtain ⟨x, _, rfl⟩ := List.mem_map.1 hu; rfl
    case c4 => unfold maxLen; omega
    case c5 => omega
    intro v' w3 hown3 hgrow hv
    have HB3 := hidK ((Below.refl w.heap.size w).grown hgrow (Nat.le_refl _) (fun k hk => by cases hk))
    have HO := hidK hown3
    clear hown3 hgrow hv
    go_wp2
    go_ret
    obtain ⟨a', l, c, rfl, h2⟩ := own_of HO.out HB3.out rfl HZ.out
    exact ⟨a', l, c, rfl, h2⟩

theorem OwnAns.set {zs : List ByteArray} {w w' : World} {a : Option Addr} {l p b i X : Nat} {v : Value} (h : TxRow w' a l p zs ∧ (zs = [] ∨ ∃ g cur, a = some ⟨g, 0, none⟩ ∧ X ≤ g ∧ w'.heap[g]? = some (.cells cur 9 (0, 0))) ∧ Below w.heap.size w w') (hb : w.heap.size ≤ b) (hX : b < X) :
    TxRow (w'.setCell ⟨b, i, none⟩ v) a l p zs ∧ (zs = [] ∨ ∃ g cur, a = some ⟨g, 0, none⟩ ∧ X ≤ g ∧ (w'.setCell ⟨b, i, none⟩ v).heap[g]? = some (.cells cur 9 (0, 0))) ∧ Below w.heap.size w (w'.setCell ⟨b, i, none⟩ v) := by
  obtain ⟨⟨h1, h2, h3, h4, h5⟩, h6, h7⟩ := h
  refine ⟨⟨h1, h2, h3, h4, ?_⟩, ?_, h7.setCell hb v⟩
  · rcases h6 with h6 | ⟨g, cur, rfl, hg, hh⟩
    · exact .inl h6
    · rcases h5 with h5 | ⟨g', o, e, hl, hc⟩
      · exact .inl h5
      · cases e
        have hs : (w'.setCell ⟨b, i, none⟩ v).heap[g]? = w'.heap[g]? := Below.heap_setCell _ _ _ _ (show g ≠ b by omega)
        exact .inr ⟨g, 0, rfl, by simpa [World.setCell] using hl, fun j x hx => by have := hc j x hx; simp only [World.cell?, hs] at this ⊢; exact this⟩
  · rcases h6 with h6 | ⟨g, cur, rfl, hg, hh⟩
    · exact .inl h6
    · exact .inr ⟨g, cur, rfl, hg, (Below.heap_setCell _ _ _ _ (show g ≠ b by omega)).trans hh⟩

set_option maxHeartbeats 3200000 in
theorem scopy_any (n : ByteArray) (c : Int) (z : ByteArray) (k : ByteArray) (x : Bool) (m : ByteArray) (y : Bool) (a : Option Addr) (len cap : Nat) (zs : List ByteArray) (w : World) (hr : TxRow w a len cap zs) (hl : len ≤ 8001) :
    Calls Tryz.prog 59 #[.agg #[.string n, .int .i64 c, .string z, .string k, .bool x, .string m, .bool y, .slice a len cap]] w fun e w' => ∃ a' l p, e = .returned (.agg #[.string n, .int .i64 c, .string z, .string k, .bool x, .string m, .bool y, .slice a' l p]) ∧ OwnAns zs w a' l p w' := by
  have hown : (((w.alloc (.cells #[.string n, .int .i64 c, .string z, .string k, .bool x, .string m, .bool y, .slice a len cap] 53)).alloc (.cells #[.string ⟨#[]⟩, .int .i64 0, .string ⟨#[]⟩, .string ⟨#[]⟩, .bool false, .string ⟨#[]⟩, .bool false, .slice none 0 0] 53)).alloc (.cells #[] 9)).ownsRow (w.heap.size + 1 + 1) 9 1 (.slice (some ⟨w.heap.size + 1 + 1, 0, none⟩) 0 0) 0 [] := ⟨rfl, .inr ⟨w.heap.size + 1 + 1, 0, #[], rfl, Nat.le_refl _, heap3_2 _ _ _ _, Nat.le_refl _, by unfold maxLen; omega, rfl, rfl⟩⟩
  have HOW := hidK hown
  have hr3 := hr.below (below3 w (.cells #[.string n, .int .i64 c, .string z, .string k, .bool x, .string m, .bool y, .slice a len cap] 53) (.cells #[.string ⟨#[]⟩, .int .i64 0, .string ⟨#[]⟩, .string ⟨#[]⟩, .bool false, .string ⟨#[]⟩, .bool false, .slice none 0 0] 53) (.cells #[] 9))
  have HZ := hidK hr.2.2.2.1
  have hzl : zs.length = len := hr.1
  have HR3 := hidK hr3
  clear hown hr3
  obtain ⟨i0, hi, hz0, hz1, hz2⟩ := info_parts infoStr
  cases a with
  | none =>
    obtain rfl : zs = [] := by
      rcases hr.2.2.2.2 with h | ⟨b, o, e, _⟩
      · exact h
      · cases e
    obtain rfl : len = 0 := by simpa using hzl.symm
    clear hr HOW HR3 hi hz0 hz1 hz2
    go_enter Tryz.func59, Tryz.ntmps59
    go_wp2
    exact bodyPost_ret (v := .agg #[.string n, .int .i64 c, .string z, .string k, .bool x, .string m, .bool y, .slice (some ⟨w.heap.size + 1 + 1, 0, none⟩) 0 0]) (by simp [results, Tryz.results59, go_sem]) rfl ⟨_, _, _, rfl, ⟨rfl, Nat.le_refl _, by omega, fun j x hx => by simp at hx, .inl rfl⟩, .inl rfl, below3 _ _ _ _⟩
  | some ad =>
    have HN := hidK (news_of HR3.out)
    clear hr
    go_enter Tryz.func59, Tryz.ntmps59
    go_wp2_with (first | (at_builtin; refine wpList_append_own _ rfl _ _ 51 rfl (w.heap.size + 1 + 1) 9 i0 (.string ⟨#[]⟩) 1 16 Tryz.underlying51 hi hz0 hz1 hz2 rfl (by decide) _ 0 _ rfl HOW.out ad len cap (zs.map Value.string) rfl ?c1 HN.out ?c3 ?c4 ?c5 (by simp) ?_))
    case c1 => simpa using hzl
    case c3 => intro u hu; obtain ⟨x, _, rfl⟩ := List.mem_map.1 hu; rfl
    case c4 => unfold maxLen; omega
    case c5 => omega
    intro v' w3 hown3 hgrow hv
    have hb3 := (Below.refl (w.heap.size + 1 + 1) _).grown hgrow (by simp) (fun k hk => by simp [Value.ownBlock] at hk; omega)
    have g0 := (hb3.block w.heap.size (by omega)).trans (heap3_0 _ _ _ _)
    have g1 := (hb3.block (w.heap.size + 1) (by omega)).trans (heap3_1 _ _ _ _)
    obtain ⟨a', l, p, rfl, hq⟩ : ∃ a' l p, v' = .slice a' l p ∧ (TxRow w3 a' l p zs ∧ (zs = [] ∨ ∃ g cur, a' = some ⟨g, 0, none⟩ ∧ w.heap.size + 1 + 1 ≤ g ∧ w3.heap[g]? = some (.cells cur 9 (0, 0))) ∧ Below w.heap.size w w3) := by
      have hbw : Below w.heap.size w w3 := (below3 w _ _ _).trans (hb3.mono (by omega))
      have ho := hown3
      obtain ⟨hl1, h⟩ := ho
      have hl' : zs.length = len := hzl
      rcases h with ⟨rfl, h0⟩ | ⟨g, cp, cur, rfl, hbg, hg, hnc, hcm, hsz, htk⟩
      · obtain rfl : zs = [] := List.eq_nil_of_length_eq_zero (by omega)
        exact ⟨none, 0, 0, rfl, ⟨rfl, Nat.le_refl _, by omega, fun j x hx => by simp at hx, .inl rfl⟩, .inl rfl, hbw⟩
      · refine ⟨some ⟨g, 0, none⟩, len, cp, rfl, ⟨hl', hnc, by unfold maxLen at hcm; omega, HZ.out, .inr ⟨g, 0, rfl, lt_of_some hg, fun j x hx => ?_⟩⟩, .inr ⟨g, cur, rfl, hbg, hg⟩, hbw⟩
        rw [Nat.zero_add, cellK hg]
        have hj : j < len := by have := (List.getElem?_eq_some_iff.1 hx).1; omega
        have e1 : (cur.toList.take (len * 1))[j]? = some (.string x) := by rw [htk]; simp [hx]
        rw [List.getElem?_take, if_pos (by omega)] at e1
        simpa using e1
    have HQ := hidK hq
    have d0 : w3.cell? ⟨w.heap.size, 0, none⟩ = some (.string n) := cellK g0 0
    have df0 : w3.frozen? ⟨w.heap.size, 0, none⟩ = false := froK g0 0
    have d1 : w3.cell? ⟨w.heap.size, 1, none⟩ = some (.int .i64 c) := cellK g0 1
    have df1 : w3.frozen? ⟨w.heap.size, 1, none⟩ = false := froK g0 1
    have d2 : w3.cell? ⟨w.heap.size, 2, none⟩ = some (.string z) := cellK g0 2
    have df2 : w3.frozen? ⟨w.heap.size, 2, none⟩ = false := froK g0 2
    have d3 : w3.cell? ⟨w.heap.size, 3, none⟩ = some (.string k) := cellK g0 3
    have df3 : w3.frozen? ⟨w.heap.size, 3, none⟩ = false := froK g0 3
    have d4 : w3.cell? ⟨w.heap.size, 4, none⟩ = some (.bool x) := cellK g0 4
    have df4 : w3.frozen? ⟨w.heap.size, 4, none⟩ = false := froK g0 4
    have d5 : w3.cell? ⟨w.heap.size, 5, none⟩ = some (.string m) := cellK g0 5
    have df5 : w3.frozen? ⟨w.heap.size, 5, none⟩ = false := froK g0 5
    have d6 : w3.cell? ⟨w.heap.size, 6, none⟩ = some (.bool y) := cellK g0 6
    have df6 : w3.frozen? ⟨w.heap.size, 6, none⟩ = false := froK g0 6
    have d7 : w3.cell? ⟨w.heap.size, 7, none⟩ = some (.slice (some ad) len cap) := cellK g0 7
    have df7 : w3.frozen? ⟨w.heap.size, 7, none⟩ = false := froK g0 7
    have e0 : w3.cell? ⟨w.heap.size + 1, 0, none⟩ = some (.string ⟨#[]⟩) := cellK g1 0
    have ef0 : w3.frozen? ⟨w.heap.size + 1, 0, none⟩ = false := froK g1 0
    have e1 : w3.cell? ⟨w.heap.size + 1, 1, none⟩ = some (.int .i64 0) := cellK g1 1
    have ef1 : w3.frozen? ⟨w.heap.size + 1, 1, none⟩ = false := froK g1 1
    have e2 : w3.cell? ⟨w.heap.size + 1, 2, none⟩ = some (.string ⟨#[]⟩) := cellK g1 2
    have ef2 : w3.frozen? ⟨w.heap.size + 1, 2, none⟩ = false := froK g1 2
    have e3 : w3.cell? ⟨w.heap.size + 1, 3, none⟩ = some (.string ⟨#[]⟩) := cellK g1 3
    have ef3 : w3.frozen? ⟨w.heap.size + 1, 3, none⟩ = false := froK g1 3
    have e4 : w3.cell? ⟨w.heap.size + 1, 4, none⟩ = some (.bool false) := cellK g1 4
    have ef4 : w3.frozen? ⟨w.heap.size + 1, 4, none⟩ = false := froK g1 4
    have e5 : w3.cell? ⟨w.heap.size + 1, 5, none⟩ = some (.string ⟨#[]⟩) := cellK g1 5
    have ef5 : w3.frozen? ⟨w.heap.size + 1, 5, none⟩ = false := froK g1 5
    have e6 : w3.cell? ⟨w.heap.size + 1, 6, none⟩ = some (.bool false) := cellK g1 6
    have ef6 : w3.frozen? ⟨w.heap.size + 1, 6, none⟩ = false := froK g1 6
    have e7 : w3.cell? ⟨w.heap.size + 1, 7, none⟩ = some (.slice none 0 0) := cellK g1 7
    have ef7 : w3.frozen? ⟨w.heap.size + 1, 7, none⟩ = false := froK g1 7
    have HQ2 := hidK (OwnAns.set (OwnAns.set (OwnAns.set (OwnAns.set (OwnAns.set (OwnAns.set (OwnAns.set (OwnAns.set (OwnAns.set HQ.out (b := w.heap.size) (i := 7) (by omega) (by omega) (v := .slice a' l p)) (b := w.heap.size + 1) (i := 0) (by omega) (by omega) (v := (.string n))) (b := w.heap.size + 1) (i := 1) (by omega) (by omega) (v := (.int .i64 c))) (b := w.heap.size + 1) (i := 2) (by omega) (by omega) (v := (.string z))) (b := w.heap.size + 1) (i := 3) (by omega) (by omega) (v := (.string k))) (b := w.heap.size + 1) (i := 4) (by omega) (by omega) (v := (.bool x))) (b := w.heap.size + 1) (i := 5) (by omega) (by omega) (v := (.string m))) (b := w.heap.size + 1) (i := 6) (by omega) (by omega) (v := (.bool y))) (b := w.heap.size + 1) (i := 7) (by omega) (by omega) (v := (.slice a' l p)))
    clear hown3 hgrow hv hb3 g0 g1 hq
    go_wp2_with fail
    refine bodyPost_ret (v := .agg #[.string n, .int .i64 c, .string z, .string k, .bool x, .string m, .bool y, .slice a' l p]) (by simp [results, Tryz.results59, go_sem, *]) rfl ⟨a', l, p, rfl, HQ2.out.1, ?_, HQ2.out.2.2⟩
    rcases HQ2.out.2.1 with h | ⟨g, cur, h1, h2, h3⟩
    · exact .inl h
    · exact .inr ⟨g, cur, h1, by omega, h3⟩

set_option maxHeartbeats 3200000 in
theorem iown_any (n : ByteArray) (c : Int) (z : ByteArray) (k : ByteArray) (x : Bool) (m : ByteArray) (y : Bool) (a : Option Addr) (len cap : Nat) (zs : List ByteArray) (w : World) (hr : TxRow w a len cap zs) (hl : len ≤ 8001) :
    Calls Tryz.prog 63 #[.agg #[.string n, .int .i64 c, .string z, .string k, .bool x, .string m, .bool y, .slice a len cap]] w fun e w' => ∃ a' l p, e = .returned (.agg #[.string n, .int .i64 c, .string z, .string k, .bool x, .string m, .bool y, .slice a' l p]) ∧ OwnAns zs w a' l p w' := by
  have HR := hidK (hr.below (below2 w (.cells #[.string n, .int .i64 c, .string z, .string k, .bool x, .string m, .bool y, .slice a len cap] 53) (.cells #[.string ⟨#[]⟩, .int .i64 0, .string ⟨#[]⟩, .string ⟨#[]⟩, .bool false, .string ⟨#[]⟩, .bool false, .slice none 0 0] 53)))
  clear hr
  go_enter Tryz.func63, Tryz.ntmps63
  go_wp2_with fail
  refine (ownNames_any a len cap zs _ HR.out hl).mono ?_
  rintro e w3 ⟨a', l, p, rfl, h1, h2, hb⟩
  have g0 := (hb.block w.heap.size (by simp; omega)).trans (heap2_0 _ _ _)
  have g1 := (hb.block (w.heap.size + 1) (by simp)).trans (heap2_1 _ _ _)
  have HQ : Hid (TxRow w3 a' l p zs ∧ (zs = [] ∨ ∃ g cur, a' = some ⟨g, 0, none⟩ ∧ w.heap.size + 1 + 1 ≤ g ∧ w3.heap[g]? = some (.cells cur 9 (0, 0))) ∧ Below w.heap.size w w3) := ⟨h1, by simpa using h2, (below2 w _ _).trans (hb.mono (by simp; omega))⟩
  have d0 : w3.cell? ⟨w.heap.size, 0, none⟩ = some (.string n) := cellK g0 0
  have df0 : w3.frozen? ⟨w.heap.size, 0, none⟩ = false := froK g0 0
  have d1 : w3.cell? ⟨w.heap.size, 1, none⟩ = some (.int .i64 c) := cellK g0 1
  have df1 : w3.frozen? ⟨w.heap.size, 1, none⟩ = false := froK g0 1
  have d2 : w3.cell? ⟨w.heap.size, 2, none⟩ = some (.string z) := cellK g0 2
  have df2 : w3.frozen? ⟨w.heap.size, 2, none⟩ = false := froK g0 2
  have d3 : w3.cell? ⟨w.heap.size, 3, none⟩ = some (.string k) := cellK g0 3
  have df3 : w3.frozen? ⟨w.heap.size, 3, none⟩ = false := froK g0 3
  have d4 : w3.cell? ⟨w.heap.size, 4, none⟩ = some (.bool x) := cellK g0 4
  have df4 : w3.frozen? ⟨w.heap.size, 4, none⟩ = false := froK g0 4
  have d5 : w3.cell? ⟨w.heap.size, 5, none⟩ = some (.string m) := cellK g0 5
  have df5 : w3.frozen? ⟨w.heap.size, 5, none⟩ = false := froK g0 5
  have d6 : w3.cell? ⟨w.heap.size, 6, none⟩ = some (.bool y) := cellK g0 6
  have df6 : w3.frozen? ⟨w.heap.size, 6, none⟩ = false := froK g0 6
  have d7 : w3.cell? ⟨w.heap.size, 7, none⟩ = some (.slice a len cap) := cellK g0 7
  have df7 : w3.frozen? ⟨w.heap.size, 7, none⟩ = false := froK g0 7
  have e0 : w3.cell? ⟨w.heap.size + 1, 0, none⟩ = some (.string ⟨#[]⟩) := cellK g1 0
  have ef0 : w3.frozen? ⟨w.heap.size + 1, 0, none⟩ = false := froK g1 0
  have e1 : w3.cell? ⟨w.heap.size + 1, 1, none⟩ = some (.int .i64 0) := cellK g1 1
  have ef1 : w3.frozen? ⟨w.heap.size + 1, 1, none⟩ = false := froK g1 1
  have e2 : w3.cell? ⟨w.heap.size + 1, 2, none⟩ = some (.string ⟨#[]⟩) := cellK g1 2
  have ef2 : w3.frozen? ⟨w.heap.size + 1, 2, none⟩ = false := froK g1 2
  have e3 : w3.cell? ⟨w.heap.size + 1, 3, none⟩ = some (.string ⟨#[]⟩) := cellK g1 3
  have ef3 : w3.frozen? ⟨w.heap.size + 1, 3, none⟩ = false := froK g1 3
  have e4 : w3.cell? ⟨w.heap.size + 1, 4, none⟩ = some (.bool false) := cellK g1 4
  have ef4 : w3.frozen? ⟨w.heap.size + 1, 4, none⟩ = false := froK g1 4
  have e5 : w3.cell? ⟨w.heap.size + 1, 5, none⟩ = some (.string ⟨#[]⟩) := cellK g1 5
  have ef5 : w3.frozen? ⟨w.heap.size + 1, 5, none⟩ = false := froK g1 5
  have e6 : w3.cell? ⟨w.heap.size + 1, 6, none⟩ = some (.bool false) := cellK g1 6
  have ef6 : w3.frozen? ⟨w.heap.size + 1, 6, none⟩ = false := froK g1 6
  have e7 : w3.cell? ⟨w.heap.size + 1, 7, none⟩ = some (.slice none 0 0) := cellK g1 7
  have ef7 : w3.frozen? ⟨w.heap.size + 1, 7, none⟩ = false := froK g1 7
  have HQ2 := hidK (OwnAns.set (OwnAns.set (OwnAns.set (OwnAns.set (OwnAns.set (OwnAns.set (OwnAns.set (OwnAns.set (OwnAns.set HQ.out (b := w.heap.size) (i := 7) (by omega) (by omega) (v := .slice a' l p)) (b := w.heap.size + 1) (i := 0) (by omega) (by omega) (v := .string n)) (b := w.heap.size + 1) (i := 1) (by omega) (by omega) (v := .int .i64 c)) (b := w.heap.size + 1) (i := 2) (by omega) (by omega) (v := .string z)) (b := w.heap.size + 1) (i := 3) (by omega) (by omega) (v := .string k)) (b := w.heap.size + 1) (i := 4) (by omega) (by omega) (v := .bool x)) (b := w.heap.size + 1) (i := 5) (by omega) (by omega) (v := .string m)) (b := w.heap.size + 1) (i := 6) (by omega) (by omega) (v := .bool y)) (b := w.heap.size + 1) (i := 7) (by omega) (by omega) (v := .slice a' l p))
  clear h1 h2 hb g0 g1
  go_wp2_with fail
  refine bodyPost_ret (v := .agg #[.string n, .int .i64 c, .string z, .string k, .bool x, .string m, .bool y, .slice a' l p]) (by simp [results, Tryz.results63, go_sem, *]) rfl ⟨a', l, p, rfl, HQ2.out.1, ?_, HQ2.out.2.2⟩
  rcases HQ2.out.2.1 with h | ⟨g, cur, h1, h2, h3⟩
  · exact .inl h
  · exact .inr ⟨g, cur, h1, by omega, h3⟩

end Ap
namespace Mk

set_option maxHeartbeats 1600000 in
theorem markVolume_own (n : ByteArray) (c : Int) (z k : ByteArray) (x : Bool) (m : ByteArray) (y : Bool) (g len cap : Nat) (cur : Array Value) (w : World) (hg : w.heap[g]? = some (.cells cur 9 (0, 0))) (hl : len ≤ cur.size) (hk2 : 1 + len ≤ 1152921504606846976) :
    Calls Tryz.prog 65 #[.agg #[.string n, .int .i64 c, .string z, .string k, .bool x, .string m, .bool y, .slice (some ⟨g, 0, none⟩) len cap], .int .i64 1] w (MarkAns g 1 len cur.size w) := by
  have hlt := lt_of_some hg
  have HG := hidK hg
  have HL := hidK hlt
  clear hg hlt
  go_enter Tryz.func65, Tryz.ntmps65
  go_wp2_with fail
  refine (markS_any g len cap 1 cur _ ((Below.heap_alloc _ _ _ HL.out).trans HG.out) hl (by decide) hk2).mono ?_
  rintro e w1 ⟨rfl, hk, cu, hg1, hm1, hs1⟩
  have HA := hidK (show MarkAns g 1 len cur.size w (.returned (.int .i64 ((1 + len : Nat) : Int))) w1 from ⟨rfl, (Kept.of_below (below1 _ _)).trans hk, cu, hg1, hm1, hs1⟩)
  clear hk hg1 hm1 hs1
  go_wp2_with fail
  go_ret
  exact HA.out

set_option maxHeartbeats 1600000 in
theorem markVolumeOut_own (n : ByteArray) (c : Int) (z k : ByteArray) (x : Bool) (m : ByteArray) (y : Bool) (g len cap : Nat) (p : Int) (cur : Array Value) (w : World) (hg : w.heap[g]? = some (.cells cur 9 (0, 0))) (hl : len ≤ cur.size) (hk2 : 1 + len ≤ 1152921504606846976) :
    Calls Tryz.prog 19 #[.agg #[.string n, .int .i64 c, .string z, .string k, .bool x, .string m, .bool y, .slice (some ⟨g, 0, none⟩) len cap, .int .i64 p], .int .i64 1] w (MarkAns g 1 len cur.size w) := by
  have hlt := lt_of_some hg
  have HG := hidK hg
  have HL := hidK hlt
  clear hg hlt
  go_enter Tryz.func19, Tryz.ntmps19
  go_wp2_with fail
  refine (markVolume_own n c z k x m y g len cap cur _ ((Below.heap_alloc _ _ _ HL.out).trans HG.out) hl hk2).mono ?_
  rintro e w1 ⟨rfl, hk, cu, hg1, hm1, hs1⟩
  have HA := hidK (show MarkAns g 1 len cur.size w (.returned (.int .i64 ((1 + len : Nat) : Int))) w1 from ⟨rfl, (Kept.of_below (below1 _ _)).trans hk, cu, hg1, hm1, hs1⟩)
  clear hk hg1 hm1 hs1
  go_wp2_with fail
  go_ret
  exact HA.out

set_option maxHeartbeats 1600000 in
theorem markVolume_nil (n : ByteArray) (c : Int) (z k : ByteArray) (x : Bool) (m : ByteArray) (y : Bool) (a : Option Addr) (cap : Nat) (w : World) :
    Calls Tryz.prog 65 #[.agg #[.string n, .int .i64 c, .string z, .string k, .bool x, .string m, .bool y, .slice a 0 cap], .int .i64 1] w fun e w' => e = .returned (.int .i64 1) ∧ Below w.heap.size w w' := by
  go_enter Tryz.func65, Tryz.ntmps65
  go_wp2_with fail
  refine (markZ_any a cap _).mono ?_
  rintro e w1 ⟨rfl, hb⟩
  have HB := hidK (slotK hb).2.1
  clear hb
  go_wp2_with fail
  go_ret
  exact ⟨rfl, HB.out⟩

set_option maxHeartbeats 1600000 in
theorem markVolumeOut_nil (n : ByteArray) (c : Int) (z k : ByteArray) (x : Bool) (m : ByteArray) (y : Bool) (a : Option Addr) (cap : Nat) (p : Int) (w : World) :
    Calls Tryz.prog 19 #[.agg #[.string n, .int .i64 c, .string z, .string k, .bool x, .string m, .bool y, .slice a 0 cap, .int .i64 p], .int .i64 1] w fun e w' => e = .returned (.int .i64 1) ∧ Below w.heap.size w w' := by
  go_enter Tryz.func19, Tryz.ntmps19
  go_wp2_with fail
  refine (markVolume_nil n c z k x m y a cap _).mono ?_
  rintro e w1 ⟨rfl, hb⟩
  have HB := hidK (slotK hb).2.1
  clear hb
  go_wp2_with fail
  go_ret
  exact ⟨rfl, HB.out⟩

set_option maxHeartbeats 1600000 in
theorem heldVolume_any (n : ByteArray) (c : Int) (z k : ByteArray) (x : Bool) (m : ByteArray) (y : Bool) (a : Option Addr) (len cap : Nat) (zs : List ByteArray) (w : World) (hr : TxRow w a len cap zs) (hk2 : 1 + len ≤ 1152921504606846976) (hz : ∀ (j : Nat) y, zs[j]? = some y → y = markT (1 + j)) :
    Calls Tryz.prog 66 #[.agg #[.string n, .int .i64 c, .string z, .string k, .bool x, .string m, .bool y, .slice a len cap], .int .i64 1] w fun e w' => e = .returned (.int .i64 ((1 + len : Nat) : Int)) ∧ Below w.heap.size w w' := by
  have HR := hidK (hr.below (below1 w (.cells #[.string n, .int .i64 c, .string z, .string k, .bool x, .string m, .bool y, .slice a len cap] 53)))
  have HZ := hidK hz
  clear hr hz
  go_enter Tryz.func66, Tryz.ntmps66
  go_wp2_with fail
  refine (heldS_any a len cap 1 zs _ HR.out (by decide) hk2 HZ.out).mono ?_
  rintro e w1 ⟨rfl, hb⟩
  have HB := hidK (slotK hb).2.1
  clear hb
  go_wp2_with fail
  go_ret
  exact ⟨rfl, HB.out⟩

set_option maxHeartbeats 1600000 in
theorem heldVolumeOut_any (n : ByteArray) (c : Int) (z k : ByteArray) (x : Bool) (m : ByteArray) (y : Bool) (a : Option Addr) (len cap : Nat) (p : Int) (zs : List ByteArray) (w : World) (hr : TxRow w a len cap zs) (hk2 : 1 + len ≤ 1152921504606846976) (hz : ∀ (j : Nat) y, zs[j]? = some y → y = markT (1 + j)) :
    Calls Tryz.prog 20 #[.agg #[.string n, .int .i64 c, .string z, .string k, .bool x, .string m, .bool y, .slice a len cap, .int .i64 p], .int .i64 1] w fun e w' => e = .returned (.int .i64 ((1 + len : Nat) : Int)) ∧ Below w.heap.size w w' := by
  have HR := hidK (hr.below (below1 w (.cells #[.string n, .int .i64 c, .string z, .string k, .bool x, .string m, .bool y, .slice a len cap, .int .i64 p] 55)))
  have HZ := hidK hz
  clear hr hz
  go_enter Tryz.func20, Tryz.ntmps20
  go_wp2_with fail
  refine (heldVolume_any n c z k x m y a len cap zs _ HR.out hk2 HZ.out).mono ?_
  rintro e w1 ⟨rfl, hb⟩
  have HB := hidK (slotK hb).2.1
  clear hb
  go_wp2_with fail
  go_ret
  exact ⟨rfl, HB.out⟩

set_option maxHeartbeats 1600000 in
theorem eqVolumeOut_any (n : ByteArray) (c : Int) (z k : ByteArray) (x : Bool) (m : ByteArray) (y : Bool) (a : Option Addr) (len cap : Nat) (zs : List ByteArray) (p : Int) (a' : Option Addr) (len' cap' : Nat) (w : World) (hr : TxRow w a len cap zs) (hr' : TxRow w a' len' cap' zs) :
    Calls Tryz.prog 18 #[.agg #[.string n, .int .i64 c, .string z, .string k, .bool x, .string m, .bool y, .slice a len cap, .int .i64 p], .agg #[.string n, .int .i64 c, .string z, .string k, .bool x, .string m, .bool y, .slice a' len' cap', .int .i64 p]] w fun e w' => e = .returned (.bool true) ∧ Below w.heap.size w w' := by
  have HR := hidK (hr.below (below2 w (.cells #[.string n, .int .i64 c, .string z, .string k, .bool x, .string m, .bool y, .slice a len cap, .int .i64 p] 55) (.cells #[.string n, .int .i64 c, .string z, .string k, .bool x, .string m, .bool y, .slice a' len' cap', .int .i64 p] 55)))
  have HR' := hidK (hr'.below (below2 w (.cells #[.string n, .int .i64 c, .string z, .string k, .bool x, .string m, .bool y, .slice a len cap, .int .i64 p] 55) (.cells #[.string n, .int .i64 c, .string z, .string k, .bool x, .string m, .bool y, .slice a' len' cap', .int .i64 p] 55)))
  clear hr hr'
  go_enter Tryz.func18, Tryz.ntmps18
  go_wp2_with fail
  refine (eqVolume_any n c z k x m y a len cap zs a' len' cap' _ HR.out HR'.out).mono ?_
  rintro e w1 ⟨rfl, hb⟩
  have g0 := (hb.block w.heap.size (by simp; omega)).trans (heap2_0 _ _ _)
  have g1 := (hb.block (w.heap.size + 1) (by simp)).trans (heap2_1 _ _ _)
  have c0 : w1.cell? ⟨w.heap.size, 8, none⟩ = some (.int .i64 p) := cellK g0 8
  have c1 : w1.cell? ⟨w.heap.size + 1, 8, none⟩ = some (.int .i64 p) := cellK g1 8
  have HB : Hid (Below w.heap.size w w1) := (below2 _ _ _).trans (hb.mono (by simp; omega))
  clear g0 g1 hb
  go_wp2
  go_ret
  exact ⟨rfl, HB.out⟩

end Mk
end Go.Proofs.YtfapjochclhfpaaGreatDoor

namespace Go.Proofs.YtfapjochclhfpaaGreatDoor
open Go.RowKit
namespace Rc
open Mk

theorem infond : (Tryz.prog.info? 117).map (fun i => (i.zero, i.size, i.bytes)) = some (some (.agg #[.string ⟨#[]⟩, .string ⟨#[]⟩, .int .i64 0, .int .i64 0, .int .i64 0, .bool false, .slice none 0 0]), 7, 88) := by kernel_rfl
def ndZ : Nd := ⟨⟨#[]⟩, ⟨#[]⟩, 0, 0, 0, false, []⟩

set_option maxRecDepth 10000 in
theorem madend {w : World} {g len : Nat} (h : w.heap[g]? = some (.cells (madeCells #[.string ⟨#[]⟩, .string ⟨#[]⟩, .int .i64 0, .int .i64 0, .int .i64 0, .bool false, .slice none 0 0] (len * 7)) 117 (0, 0))) (hl : len ≤ 1048576) (S : Nat → Prop) (hS : S g) :
    ROwn w (some ⟨g, 0, none⟩) len len 7 117 ((List.replicate len ndZ).map ndF) S := by
  refine ⟨by simp, Nat.le_refl _, by omega, .inr ⟨g, _, fun _ _ => 0, rfl, h, hS, ?_, ?_, ?_⟩⟩
  · intro j r hr
    rw [List.getElem?_map] at hr
    obtain ⟨x, hx, rfl⟩ := Option.map_eq_some_iff.1 hr
    rfl
  · intro j r hr i f hi
    rw [List.getElem?_map] at hr
    obtain ⟨x, hx, rfl⟩ := Option.map_eq_some_iff.1 hr
    have hj : j < len := by have := (List.getElem?_eq_some_iff.1 hx).1; simpa using this
    obtain rfl : x = ndZ := by
      obtain ⟨h1, h2⟩ := List.getElem?_eq_some_iff.1 hx
      simpa using h2.symm
    have him : i < 7 := (List.getElem?_eq_some_iff.1 hi).1
    have hlt : j * 7 + i < len * 7 := by omega
    have hcell : (madeCells #[.string ⟨#[]⟩, .string ⟨#[]⟩, .int .i64 0, .int .i64 0, .int .i64 0, .bool false, .slice none 0 0] (len * 7))[j * 7 + i]? = some (#[.string ⟨#[]⟩, .string ⟨#[]⟩, .int .i64 0, .int .i64 0, .int .i64 0, .bool false, .slice none 0 0][i]!) := by
      unfold madeCells
      rw [Array.getElem?_map, Array.getElem?_range]
      rw [if_pos hlt]
      have : (j * 7 + i) % 7 = i := by omega
      simp [this]
    refine ⟨_, hcell, ?_⟩
    rcases i with _ | _ | _ | _ | _ | _ | _ | i
    · cases hi; exact ⟨rfl, by decide⟩
    · cases hi; exact ⟨rfl, by decide⟩
    · cases hi; exact rfl
    · cases hi; exact rfl
    · cases hi; exact rfl
    · cases hi; exact rfl
    · cases hi; exact ⟨none, 0, 0, rfl, rfl, Nat.le_refl _, by decide, fun j x hx => by simp [ndZ] at hx, .inl rfl⟩
    · omega
  · intro j r i zs j' r' i' zs' hr hi hz
    exfalso
    rw [List.getElem?_map] at hr
    obtain ⟨x, hx, rfl⟩ := Option.map_eq_some_iff.1 hr
    obtain rfl : x = ndZ := by
      obtain ⟨h1, h2⟩ := List.getElem?_eq_some_iff.1 hx
      simpa using h2.symm
    have him : i < 7 := (List.getElem?_eq_some_iff.1 hi).1
    rcases i with _ | _ | _ | _ | _ | _ | _ | i
    · cases hi
    · cases hi
    · cases hi
    · cases hi
    · cases hi
    · cases hi
    · cases hi; exact hz rfl
    · omega

set_option maxRecDepth 10000 in
set_option maxHeartbeats 6400000 in
theorem tond_any (a : Option Addr) (len cap : Nat) (xs : List Nd) (w : World) (hr : RRow w a len cap 7 (xs.map ndF)) (hl : len ≤ 1048576) (hf : ∀ (j : Nat) x, xs[j]? = some x → x.zs.length ≤ 1048576) :
    Calls Tryz.prog 33 #[.slice a len cap] w fun e w' => e = .returned (.slice (some ⟨w.heap.size, 0, none⟩) len len) ∧ ROwn w' (some ⟨w.heap.size, 0, none⟩) len len 7 117 (xs.map ndF) (fun k => w.heap.size ≤ k) ∧ Below w.heap.size w w' := by
  have HR := hidK hr
  have hvl : xs.length = len := by simpa using hr.1
  have HF := hidK hf
  clear hr hf
  obtain ⟨i0, hi, hz0, hz1, hz2⟩ := info_parts infond
  go_enter Tryz.func33, Tryz.ntmps33
  go_wp2_with (at_make; refine wpList_make_full _ rfl _ _ 33 rfl w.heap.size 117 i0 (.agg #[.string ⟨#[]⟩, .string ⟨#[]⟩, .int .i64 0, .int .i64 0, .int .i64 0, .bool false, .slice none 0 0]) 7 Tryz.underlying33 hi hz0 hz1 _ _ _ _ len rfl rfl (by omega) (by omega) (by rw [hz2]; omega) (by unfold maxLen; omega) (Nat.le_refl _) ?_)
  intro w1 hown hgrow
  have hnx1 : Below w.heap.size w w1 := (Below.refl _ _).grown hgrow (Nat.le_refl _) (fun k hk => by cases hk)
  have HB : Hid (Below w.heap.size w w1) := hnx1
  have hc1 : w1.heap[w.heap.size]? = some (.cells (madeCells #[.string ⟨#[]⟩, .string ⟨#[]⟩, .int .i64 0, .int .i64 0, .int .i64 0, .bool false, .slice none 0 0] (len * 7)) 117 (0, 0)) := by
    obtain ⟨h1, h2⟩ := hown
    rcases h2 with ⟨h3, _⟩ | ⟨g', cap', cur, hv, hB, hh, _, _, hsz, htk⟩
    · cases h3
    · simp only [Value.slice.injEq, Option.some.injEq, Addr.mk.injEq] at hv
      obtain ⟨⟨rfl, _, _⟩, _, rfl⟩ := hv
      rw [List.take_of_length_le (by simp [hsz])] at htk
      have : cur = madeCells #[.string ⟨#[]⟩, .string ⟨#[]⟩, .int .i64 0, .int .i64 0, .int .i64 0, .bool false, .slice none 0 0] (len * 7) := by apply Array.ext'; simpa using htk
      rw [this] at hh
      simpa using hh
  have HP : Hid (ROwn w1 (some ⟨w.heap.size, 0, none⟩) len len 7 117 ((xs.take 0 ++ (List.replicate len ndZ).drop 0).map ndF) (fun k => w.heap.size ≤ k)) := by
    have := madend hc1 hl (fun k => w.heap.size ≤ k) (Nat.le_refl _)
    simpa [Hid] using this
  have hZl : xs.length = (List.replicate len ndZ).length := by simpa using hvl
  clear hown hgrow hi hz0 hz1 hz2 hnx1 hc1
  go_wp2
  go_loopw [4] (fun i wr => ∃ k : Nat, k ≤ len ∧ i = .int .i64 k ∧ Hid (ROwn wr (some ⟨w.heap.size, 0, none⟩) len len 7 117 ((xs.take k ++ (List.replicate len ndZ).drop k).map ndF) (fun k => w.heap.size ≤ k)) ∧ Hid (Below w.heap.size w wr)) (fun i _ => len - (intOf i).toNat)
  case atStart => exact ⟨0, by omega, rfl, HP, HB⟩
  case round =>
    obtain ⟨k, hk, rfl, HP, HB⟩ := hrel
    by_cases hlt : k < len
    · obtain ⟨b, o, v, rfl, hb, hv, hat⟩ := nd_at (HR.out.below HB.out) hlt
      obtain ⟨va, vl, vc, hvr, z0, z1, c0, c1, c2, c3, c4, c5, c6⟩ := nd_cells hat
      have HV := hidK hv
      have Hz0 := hidK z0
      have Hz1 := hidK z1
      have HT := hidK hvr
      have hvl2 : vl ≤ 1048576 := by have := HF.out k v hv; rw [hvr.1] at this; exact this
      have hvz : v.zs.length = vl := hvr.1
      have HVZ := hidK hvz
      clear hvr hvz
      clear hat hv z0 z1
      have hzk : ((xs.take k ++ (List.replicate len ndZ).drop k).map ndF)[k]? = some (ndF ndZ) := by
        rw [List.getElem?_map, take_drop_at hZl (by omega), List.getElem?_replicate, if_pos hlt]
        rfl
      obtain ⟨g, hg, hs⟩ := HP.out.st (KeptS.refl _ _) hzk
      cases hg
      have HS := hidK hs
      clear hs hzk HP
      go_wp2_with fail
      refine (toNode_any v.n v.z v.c v.s v.u v.d va vl vc v.zs _ HT.out hvl2).mono ?_
      rintro e w2 ⟨rfl, hG, hb2⟩
      have HB2 := upB HB hb2
      have h1 : StJ w.heap.size 7 117 (fun k => w.heap.size ≤ k) (fun k => wr.heap.size ≤ k) wr w2 ((xs.take k ++ (List.replicate len ndZ).drop k).map ndF) k [.s ndZ.n, .s ndZ.z, .i ndZ.c, .i ndZ.s, .i ndZ.u, .b ndZ.d, .l ndZ.zs] := HS.out.fresh hb2
      have hL : LOwn w2 (wr.heap.size + 1 + 1 + 1) (fun k => w.heap.size ≤ k) w.heap.size v.zs (.slice (some ⟨wr.heap.size + 1 + 1 + 1, 0, none⟩) vl vl) := by
        have h9 := HB.out.size
        have hgl := lt_of_some (HS.out.own.choose_spec.choose_spec.1.blk)
        refine ⟨_, _, _, rfl, HVZ.out, Nat.le_refl _, by omega, HT.out.2.2.2.1, .inr ⟨rfl, by show w.heap.size ≤ _; omega, by omega, _, hG, fun j x hx => ?_⟩⟩
        simp [hx]
      have HL := hidK hL
      clear hG hL
      obtain ⟨q0, e0⟩ := h1.cell (i := 0) rfl
      have f0 := h1.fro (k * 7)
      obtain ⟨q1, e1⟩ := h1.cell (i := 1) rfl
      have f1 := h1.fro (k * 7 + 1)
      obtain ⟨q2, e2⟩ := h1.cell (i := 2) rfl
      have f2 := h1.fro (k * 7 + 2)
      obtain ⟨q3, e3⟩ := h1.cell (i := 3) rfl
      have f3 := h1.fro (k * 7 + 3)
      obtain ⟨q4, e4⟩ := h1.cell (i := 4) rfl
      have f4 := h1.fro (k * 7 + 4)
      obtain ⟨q5, e5⟩ := h1.cell (i := 5) rfl
      have f5 := h1.fro (k * 7 + 5)
      obtain ⟨q6, e6⟩ := h1.cell (i := 6) rfl
      have f6 := h1.fro (k * 7 + 6)
      rw [Nat.add_zero] at e0
      have HZ := hidK ((((((((h1).setS (i := 0) rfl v.n Hz0.out).setS (i := 1) rfl v.z Hz1.out).setI (i := 2) rfl v.c).setI (i := 3) rfl v.s).setI (i := 4) rfl v.u).setB (i := 5) rfl v.d).setL (i := 6) rfl v.zs (fun _ => by show wr.heap.size ≤ _; omega) (Fv.Own.set_cell (u := .l v.zs) (Fv.Own.set_cell (u := .l v.zs) (Fv.Own.set_cell (u := .l v.zs) (Fv.Own.set_cell (u := .l v.zs) (Fv.Own.set_cell (u := .l v.zs) (Fv.Own.set_cell (u := .l v.zs) (HL.out))))))))
      clear h1 hb2 c0 c1 c2 c3 c4 c5 c6 hb
      go_wp2_with fail
      refine ⟨⟨k + 1, by omega, by go_num, ?_, set_below (Nat.le_refl _) (set_below (Nat.le_refl _) (set_below (Nat.le_refl _) (set_below (Nat.le_refl _) (set_below (Nat.le_refl _) (set_below (Nat.le_refl _) (set_below (Nat.le_refl _) (HB2.out)))))))⟩, by simp [intOf]; omega⟩
      obtain ⟨⟨cur, H, h2, -⟩, -, -⟩ := HZ.out
      have h3 : (((xs.take k ++ (List.replicate len ndZ).drop k).map ndF).set k (ndF v)) = (xs.take (k + 1) ++ (List.replicate len ndZ).drop (k + 1)).map ndF := by
        rw [← List.map_set, take_drop_set hZl HV.out]
      have h4 : ROwnAt _ w.heap.size 7 117 (((xs.take k ++ (List.replicate len ndZ).drop k).map ndF).set k (ndF v)) (fun k => w.heap.size ≤ k) cur H := h2
      rw [h3] at h4
      exact ⟨by rw [List.length_map, take_drop_len hZl (by omega)]; simp, Nat.le_refl _, by omega, .inr ⟨_, cur, H, rfl, h4⟩⟩
    · obtain rfl : len = k := by omega
      go_wp2
      go_ret
      refine ⟨rfl, ?_, HB.out⟩
      have h5 := HP.out
      rw [List.take_of_length_le (by omega), List.drop_of_length_le (by simp), List.append_nil] at h5
      exact h5

theorem infokd : (Tryz.prog.info? 116).map (fun i => (i.zero, i.size, i.bytes)) = some (some (.agg #[.string ⟨#[]⟩, .bool false, .bool false, .string ⟨#[]⟩]), 4, 40) := by kernel_rfl
def kdZ : Kd := ⟨⟨#[]⟩, false, false, ⟨#[]⟩⟩

set_option maxRecDepth 10000 in
theorem madekd {w : World} {g len : Nat} (h : w.heap[g]? = some (.cells (madeCells #[.string ⟨#[]⟩, .bool false, .bool false, .string ⟨#[]⟩] (len * 4)) 116 (0, 0))) (hl : len ≤ 1048576) (S : Nat → Prop) (hS : S g) :
    ROwn w (some ⟨g, 0, none⟩) len len 4 116 ((List.replicate len kdZ).map kdF) S := by
  refine ⟨by simp, Nat.le_refl _, by omega, .inr ⟨g, _, fun _ _ => 0, rfl, h, hS, ?_, ?_, ?_⟩⟩
  · intro j r hr
    rw [List.getElem?_map] at hr
    obtain ⟨x, hx, rfl⟩ := Option.map_eq_some_iff.1 hr
    rfl
  · intro j r hr i f hi
    rw [List.getElem?_map] at hr
    obtain ⟨x, hx, rfl⟩ := Option.map_eq_some_iff.1 hr
    have hj : j < len := by have := (List.getElem?_eq_some_iff.1 hx).1; simpa using this
    obtain rfl : x = kdZ := by
      obtain ⟨h1, h2⟩ := List.getElem?_eq_some_iff.1 hx
      simpa using h2.symm
    have him : i < 4 := (List.getElem?_eq_some_iff.1 hi).1
    have hlt : j * 4 + i < len * 4 := by omega
    have hcell : (madeCells #[.string ⟨#[]⟩, .bool false, .bool false, .string ⟨#[]⟩] (len * 4))[j * 4 + i]? = some (#[.string ⟨#[]⟩, .bool false, .bool false, .string ⟨#[]⟩][i]!) := by
      unfold madeCells
      rw [Array.getElem?_map, Array.getElem?_range]
      rw [if_pos hlt]
      have : (j * 4 + i) % 4 = i := by omega
      simp [this]
    refine ⟨_, hcell, ?_⟩
    rcases i with _ | _ | _ | _ | i
    · cases hi; exact ⟨rfl, by decide⟩
    · cases hi; exact rfl
    · cases hi; exact rfl
    · cases hi; exact ⟨rfl, by decide⟩
    · omega
  · intro j r i zs j' r' i' zs' hr hi hz
    exfalso
    rw [List.getElem?_map] at hr
    obtain ⟨x, hx, rfl⟩ := Option.map_eq_some_iff.1 hr
    obtain rfl : x = kdZ := by
      obtain ⟨h1, h2⟩ := List.getElem?_eq_some_iff.1 hx
      simpa using h2.symm
    have him : i < 4 := (List.getElem?_eq_some_iff.1 hi).1
    rcases i with _ | _ | _ | _ | i
    · cases hi
    · cases hi
    · cases hi
    · cases hi
    · omega

set_option maxRecDepth 10000 in
set_option maxHeartbeats 6400000 in
theorem tokd_any (a : Option Addr) (len cap : Nat) (xs : List Kd) (w : World) (hr : RRow w a len cap 4 (xs.map kdF)) (hl : len ≤ 1048576) :
    Calls Tryz.prog 34 #[.slice a len cap] w fun e w' => e = .returned (.slice (some ⟨w.heap.size, 0, none⟩) len len) ∧ ROwn w' (some ⟨w.heap.size, 0, none⟩) len len 4 116 (xs.map kdF) (fun k => w.heap.size ≤ k) ∧ Below w.heap.size w w' := by
  have HR := hidK hr
  have hvl : xs.length = len := by simpa using hr.1
  skip
  clear hr
  obtain ⟨i0, hi, hz0, hz1, hz2⟩ := info_parts infokd
  go_enter Tryz.func34, Tryz.ntmps34
  go_wp2_with (at_make; refine wpList_make_full _ rfl _ _ 34 rfl w.heap.size 116 i0 (.agg #[.string ⟨#[]⟩, .bool false, .bool false, .string ⟨#[]⟩]) 4 Tryz.underlying34 hi hz0 hz1 _ _ _ _ len rfl rfl (by omega) (by omega) (by rw [hz2]; omega) (by unfold maxLen; omega) (Nat.le_refl _) ?_)
  intro w1 hown hgrow
  have hnx1 : Below w.heap.size w w1 := (Below.refl _ _).grown hgrow (Nat.le_refl _) (fun k hk => by cases hk)
  have HB : Hid (Below w.heap.size w w1) := hnx1
  have hc1 : w1.heap[w.heap.size]? = some (.cells (madeCells #[.string ⟨#[]⟩, .bool false, .bool false, .string ⟨#[]⟩] (len * 4)) 116 (0, 0)) := by
    obtain ⟨h1, h2⟩ := hown
    rcases h2 with ⟨h3, _⟩ | ⟨g', cap', cur, hv, hB, hh, _, _, hsz, htk⟩
    · cases h3
    · simp only [Value.slice.injEq, Option.some.injEq, Addr.mk.injEq] at hv
      obtain ⟨⟨rfl, _, _⟩, _, rfl⟩ := hv
      rw [List.take_of_length_le (by simp [hsz])] at htk
      have : cur = madeCells #[.string ⟨#[]⟩, .bool false, .bool false, .string ⟨#[]⟩] (len * 4) := by apply Array.ext'; simpa using htk
      rw [this] at hh
      simpa using hh
  have HP : Hid (ROwn w1 (some ⟨w.heap.size, 0, none⟩) len len 4 116 ((xs.take 0 ++ (List.replicate len kdZ).drop 0).map kdF) (fun k => w.heap.size ≤ k)) := by
    have := madekd hc1 hl (fun k => w.heap.size ≤ k) (Nat.le_refl _)
    simpa [Hid] using this
  have hZl : xs.length = (List.replicate len kdZ).length := by simpa using hvl
  clear hown hgrow hi hz0 hz1 hz2 hnx1 hc1
  go_wp2
  go_loopw [4] (fun i wr => ∃ k : Nat, k ≤ len ∧ i = .int .i64 k ∧ Hid (ROwn wr (some ⟨w.heap.size, 0, none⟩) len len 4 116 ((xs.take k ++ (List.replicate len kdZ).drop k).map kdF) (fun k => w.heap.size ≤ k)) ∧ Hid (Below w.heap.size w wr)) (fun i _ => len - (intOf i).toNat)
  case atStart => exact ⟨0, by omega, rfl, HP, HB⟩
  case round =>
    obtain ⟨k, hk, rfl, HP, HB⟩ := hrel
    by_cases hlt : k < len
    · obtain ⟨b, o, v, rfl, hb, hv, hat⟩ := kd_at (HR.out.below HB.out) hlt
      obtain ⟨z0, z3, c0, c1, c2, c3⟩ := kd_cells hat
      have HV := hidK hv
      have Hz0 := hidK z0
      have Hz3 := hidK z3
      clear hat hv z0 z3
      have hzk : ((xs.take k ++ (List.replicate len kdZ).drop k).map kdF)[k]? = some (kdF kdZ) := by
        rw [List.getElem?_map, take_drop_at hZl (by omega), List.getElem?_replicate, if_pos hlt]
        rfl
      obtain ⟨g, hg, hs⟩ := HP.out.st (KeptS.refl _ _) hzk
      cases hg
      have HS := hidK hs
      clear hs hzk HP
      go_wp2_with fail
      refine (toClass_any v.n v.x v.y v.z _).mono ?_
      rintro e w2 ⟨rfl, hb2⟩
      have HB2 := upB HB hb2
      have h1 : StJ w.heap.size 4 116 (fun k => w.heap.size ≤ k) (fun k => wr.heap.size ≤ k) wr w2 ((xs.take k ++ (List.replicate len kdZ).drop k).map kdF) k [.s kdZ.n, .b kdZ.x, .b kdZ.y, .s kdZ.z] := HS.out.fresh hb2
      obtain ⟨q0, e0⟩ := h1.cell (i := 0) rfl
      have f0 := h1.fro (k * 4)
      obtain ⟨q1, e1⟩ := h1.cell (i := 1) rfl
      have f1 := h1.fro (k * 4 + 1)
      obtain ⟨q2, e2⟩ := h1.cell (i := 2) rfl
      have f2 := h1.fro (k * 4 + 2)
      obtain ⟨q3, e3⟩ := h1.cell (i := 3) rfl
      have f3 := h1.fro (k * 4 + 3)
      rw [Nat.add_zero] at e0
      have HZ := hidK (((((h1).setS (i := 0) rfl v.n Hz0.out).setB (i := 1) rfl v.x).setB (i := 2) rfl v.y).setS (i := 3) rfl v.z Hz3.out)
      clear h1 hb2 c0 c1 c2 c3 hb
      go_wp2_with fail
      refine ⟨⟨k + 1, by omega, by go_num, ?_, set_below (Nat.le_refl _) (set_below (Nat.le_refl _) (set_below (Nat.le_refl _) (set_below (Nat.le_refl _) (HB2.out))))⟩, by simp [intOf]; omega⟩
      obtain ⟨⟨cur, H, h2, -⟩, -, -⟩ := HZ.out
      have h3 : (((xs.take k ++ (List.replicate len kdZ).drop k).map kdF).set k (kdF v)) = (xs.take (k + 1) ++ (List.replicate len kdZ).drop (k + 1)).map kdF := by
        rw [← List.map_set, take_drop_set hZl HV.out]
      have h4 : ROwnAt _ w.heap.size 4 116 (((xs.take k ++ (List.replicate len kdZ).drop k).map kdF).set k (kdF v)) (fun k => w.heap.size ≤ k) cur H := h2
      rw [h3] at h4
      exact ⟨by rw [List.length_map, take_drop_len hZl (by omega)]; simp, Nat.le_refl _, by omega, .inr ⟨_, cur, H, rfl, h4⟩⟩
    · obtain rfl : len = k := by omega
      go_wp2
      go_ret
      refine ⟨rfl, ?_, HB.out⟩
      have h5 := HP.out
      rw [List.take_of_length_le (by omega), List.drop_of_length_le (by simp), List.append_nil] at h5
      exact h5

theorem infovd : (Tryz.prog.info? 53).map (fun i => (i.zero, i.size, i.bytes)) = some (some (.agg #[.string ⟨#[]⟩, .int .i64 0, .string ⟨#[]⟩, .string ⟨#[]⟩, .bool false, .string ⟨#[]⟩, .bool false, .slice none 0 0]), 8, 112) := by kernel_rfl
def vdZ : Vd := ⟨⟨#[]⟩, 0, ⟨#[]⟩, ⟨#[]⟩, false, ⟨#[]⟩, false, []⟩

set_option maxRecDepth 10000 in
theorem madevd {w : World} {g len : Nat} (h : w.heap[g]? = some (.cells (madeCells #[.string ⟨#[]⟩, .int .i64 0, .string ⟨#[]⟩, .string ⟨#[]⟩, .bool false, .string ⟨#[]⟩, .bool false, .slice none 0 0] (len * 8)) 53 (0, 0))) (hl : len ≤ 1048576) (S : Nat → Prop) (hS : S g) :
    ROwn w (some ⟨g, 0, none⟩) len len 8 53 ((List.replicate len vdZ).map vdF) S := by
  refine ⟨by simp, Nat.le_refl _, by omega, .inr ⟨g, _, fun _ _ => 0, rfl, h, hS, ?_, ?_, ?_⟩⟩
  · intro j r hr
    rw [List.getElem?_map] at hr
    obtain ⟨x, hx, rfl⟩ := Option.map_eq_some_iff.1 hr
    rfl
  · intro j r hr i f hi
    rw [List.getElem?_map] at hr
    obtain ⟨x, hx, rfl⟩ := Option.map_eq_some_iff.1 hr
    have hj : j < len := by have := (List.getElem?_eq_some_iff.1 hx).1; simpa using this
    obtain rfl : x = vdZ := by
      obtain ⟨h1, h2⟩ := List.getElem?_eq_some_iff.1 hx
      simpa using h2.symm
    have him : i < 8 := (List.getElem?_eq_some_iff.1 hi).1
    have hlt : j * 8 + i < len * 8 := by omega
    have hcell : (madeCells #[.string ⟨#[]⟩, .int .i64 0, .string ⟨#[]⟩, .string ⟨#[]⟩, .bool false, .string ⟨#[]⟩, .bool false, .slice none 0 0] (len * 8))[j * 8 + i]? = some (#[.string ⟨#[]⟩, .int .i64 0, .string ⟨#[]⟩, .string ⟨#[]⟩, .bool false, .string ⟨#[]⟩, .bool false, .slice none 0 0][i]!) := by
      unfold madeCells
      rw [Array.getElem?_map, Array.getElem?_range]
      rw [if_pos hlt]
      have : (j * 8 + i) % 8 = i := by omega
      simp [this]
    refine ⟨_, hcell, ?_⟩
    rcases i with _ | _ | _ | _ | _ | _ | _ | _ | i
    · cases hi; exact ⟨rfl, by decide⟩
    · cases hi; exact rfl
    · cases hi; exact ⟨rfl, by decide⟩
    · cases hi; exact ⟨rfl, by decide⟩
    · cases hi; exact rfl
    · cases hi; exact ⟨rfl, by decide⟩
    · cases hi; exact rfl
    · cases hi; exact ⟨none, 0, 0, rfl, rfl, Nat.le_refl _, by decide, fun j x hx => by simp [vdZ] at hx, .inl rfl⟩
    · omega
  · intro j r i zs j' r' i' zs' hr hi hz
    exfalso
    rw [List.getElem?_map] at hr
    obtain ⟨x, hx, rfl⟩ := Option.map_eq_some_iff.1 hr
    obtain rfl : x = vdZ := by
      obtain ⟨h1, h2⟩ := List.getElem?_eq_some_iff.1 hx
      simpa using h2.symm
    have him : i < 8 := (List.getElem?_eq_some_iff.1 hi).1
    rcases i with _ | _ | _ | _ | _ | _ | _ | _ | i
    · cases hi
    · cases hi
    · cases hi
    · cases hi
    · cases hi
    · cases hi
    · cases hi
    · cases hi; exact hz rfl
    · omega

set_option maxRecDepth 10000 in
set_option maxHeartbeats 6400000 in
theorem tovd_any (a : Option Addr) (len cap : Nat) (xs : List Vd) (w : World) (hr : RRow w a len cap 8 (xs.map vdF)) (hl : len ≤ 1048576) (hf : ∀ (j : Nat) x, xs[j]? = some x → x.zs.length ≤ 1048576) :
    Calls Tryz.prog 35 #[.slice a len cap] w fun e w' => e = .returned (.slice (some ⟨w.heap.size, 0, none⟩) len len) ∧ ROwn w' (some ⟨w.heap.size, 0, none⟩) len len 8 53 (xs.map vdF) (fun k => w.heap.size ≤ k) ∧ Below w.heap.size w w' := by
  have HR := hidK hr
  have hvl : xs.length = len := by simpa using hr.1
  have HF := hidK hf
  clear hr hf
  obtain ⟨i0, hi, hz0, hz1, hz2⟩ := info_parts infovd
  go_enter Tryz.func35, Tryz.ntmps35
  go_wp2_with (at_make; refine wpList_make_full _ rfl _ _ 35 rfl w.heap.size 53 i0 (.agg #[.string ⟨#[]⟩, .int .i64 0, .string ⟨#[]⟩, .string ⟨#[]⟩, .bool false, .string ⟨#[]⟩, .bool false, .slice none 0 0]) 8 Tryz.underlying35 hi hz0 hz1 _ _ _ _ len rfl rfl (by omega) (by omega) (by rw [hz2]; omega) (by unfold maxLen; omega) (Nat.le_refl _) ?_)
  intro w1 hown hgrow
  have hnx1 : Below w.heap.size w w1 := (Below.refl _ _).grown hgrow (Nat.le_refl _) (fun k hk => by cases hk)
  have HB : Hid (Below w.heap.size w w1) := hnx1
  have hc1 : w1.heap[w.heap.size]? = some (.cells (madeCells #[.string ⟨#[]⟩, .int .i64 0, .string ⟨#[]⟩, .string ⟨#[]⟩, .bool false, .string ⟨#[]⟩, .bool false, .slice none 0 0] (len * 8)) 53 (0, 0)) := by
    obtain ⟨h1, h2⟩ := hown
    rcases h2 with ⟨h3, _⟩ | ⟨g', cap', cur, hv, hB, hh, _, _, hsz, htk⟩
    · cases h3
    · simp only [Value.slice.injEq, Option.some.injEq, Addr.mk.injEq] at hv
      obtain ⟨⟨rfl, _, _⟩, _, rfl⟩ := hv
      rw [List.take_of_length_le (by simp [hsz])] at htk
      have : cur = madeCells #[.string ⟨#[]⟩, .int .i64 0, .string ⟨#[]⟩, .string ⟨#[]⟩, .bool false, .string ⟨#[]⟩, .bool false, .slice none 0 0] (len * 8) := by apply Array.ext'; simpa using htk
      rw [this] at hh
      simpa using hh
  have HP : Hid (ROwn w1 (some ⟨w.heap.size, 0, none⟩) len len 8 53 ((xs.take 0 ++ (List.replicate len vdZ).drop 0).map vdF) (fun k => w.heap.size ≤ k)) := by
    have := madevd hc1 hl (fun k => w.heap.size ≤ k) (Nat.le_refl _)
    simpa [Hid] using this
  have hZl : xs.length = (List.replicate len vdZ).length := by simpa using hvl
  clear hown hgrow hi hz0 hz1 hz2 hnx1 hc1
  go_wp2
  go_loopw [4] (fun i wr => ∃ k : Nat, k ≤ len ∧ i = .int .i64 k ∧ Hid (ROwn wr (some ⟨w.heap.size, 0, none⟩) len len 8 53 ((xs.take k ++ (List.replicate len vdZ).drop k).map vdF) (fun k => w.heap.size ≤ k)) ∧ Hid (Below w.heap.size w wr)) (fun i _ => len - (intOf i).toNat)
  case atStart => exact ⟨0, by omega, rfl, HP, HB⟩
  case round =>
    obtain ⟨k, hk, rfl, HP, HB⟩ := hrel
    by_cases hlt : k < len
    · obtain ⟨b, o, v, rfl, hb, hv, hat⟩ := vd_at (HR.out.below HB.out) hlt
      obtain ⟨va, vl, vc, hvr, z0, z2, z3, z5, c0, c1, c2, c3, c4, c5, c6, c7⟩ := vd_cells hat
      have HV := hidK hv
      have Hz0 := hidK z0
      have Hz2 := hidK z2
      have Hz3 := hidK z3
      have Hz5 := hidK z5
      have HT := hidK hvr
      have hvl2 : vl ≤ 1048576 := by have := HF.out k v hv; rw [hvr.1] at this; exact this
      have hvz : v.zs.length = vl := hvr.1
      have HVZ := hidK hvz
      clear hvr hvz
      clear hat hv z0 z2 z3 z5
      have hzk : ((xs.take k ++ (List.replicate len vdZ).drop k).map vdF)[k]? = some (vdF vdZ) := by
        rw [List.getElem?_map, take_drop_at hZl (by omega), List.getElem?_replicate, if_pos hlt]
        rfl
      obtain ⟨g, hg, hs⟩ := HP.out.st (KeptS.refl _ _) hzk
      cases hg
      have HS := hidK hs
      clear hs hzk HP
      go_wp2_with fail
      refine (toVolume_any v.n v.c v.z v.k v.x v.m v.y va vl vc v.zs _ HT.out hvl2).mono ?_
      rintro e w2 ⟨rfl, hG, hb2⟩
      have HB2 := upB HB hb2
      have h1 : StJ w.heap.size 8 53 (fun k => w.heap.size ≤ k) (fun k => wr.heap.size ≤ k) wr w2 ((xs.take k ++ (List.replicate len vdZ).drop k).map vdF) k [.s vdZ.n, .i vdZ.c, .s vdZ.z, .s vdZ.k, .b vdZ.x, .s vdZ.m, .b vdZ.y, .l vdZ.zs] := HS.out.fresh hb2
      have hL : LOwn w2 (wr.heap.size + 1 + 1 + 1) (fun k => w.heap.size ≤ k) w.heap.size v.zs (.slice (some ⟨wr.heap.size + 1 + 1 + 1, 0, none⟩) vl vl) := by
        have h9 := HB.out.size
        have hgl := lt_of_some (HS.out.own.choose_spec.choose_spec.1.blk)
        refine ⟨_, _, _, rfl, HVZ.out, Nat.le_refl _, by omega, HT.out.2.2.2.1, .inr ⟨rfl, by show w.heap.size ≤ _; omega, by omega, _, hG, fun j x hx => ?_⟩⟩
        simp [hx]
      have HL := hidK hL
      clear hG hL
      obtain ⟨q0, e0⟩ := h1.cell (i := 0) rfl
      have f0 := h1.fro (k * 8)
      obtain ⟨q1, e1⟩ := h1.cell (i := 1) rfl
      have f1 := h1.fro (k * 8 + 1)
      obtain ⟨q2, e2⟩ := h1.cell (i := 2) rfl
      have f2 := h1.fro (k * 8 + 2)
      obtain ⟨q3, e3⟩ := h1.cell (i := 3) rfl
      have f3 := h1.fro (k * 8 + 3)
      obtain ⟨q4, e4⟩ := h1.cell (i := 4) rfl
      have f4 := h1.fro (k * 8 + 4)
      obtain ⟨q5, e5⟩ := h1.cell (i := 5) rfl
      have f5 := h1.fro (k * 8 + 5)
      obtain ⟨q6, e6⟩ := h1.cell (i := 6) rfl
      have f6 := h1.fro (k * 8 + 6)
      obtain ⟨q7, e7⟩ := h1.cell (i := 7) rfl
      have f7 := h1.fro (k * 8 + 7)
      rw [Nat.add_zero] at e0
      have HZ := hidK (((((((((h1).setS (i := 0) rfl v.n Hz0.out).setI (i := 1) rfl v.c).setS (i := 2) rfl v.z Hz2.out).setS (i := 3) rfl v.k Hz3.out).setB (i := 4) rfl v.x).setS (i := 5) rfl v.m Hz5.out).setB (i := 6) rfl v.y).setL (i := 7) rfl v.zs (fun _ => by show wr.heap.size ≤ _; omega) (Fv.Own.set_cell (u := .l v.zs) (Fv.Own.set_cell (u := .l v.zs) (Fv.Own.set_cell (u := .l v.zs) (Fv.Own.set_cell (u := .l v.zs) (Fv.Own.set_cell (u := .l v.zs) (Fv.Own.set_cell (u := .l v.zs) (Fv.Own.set_cell (u := .l v.zs) (HL.out)))))))))
      clear h1 hb2 c0 c1 c2 c3 c4 c5 c6 c7 hb
      go_wp2_with fail
      refine ⟨⟨k + 1, by omega, by go_num, ?_, set_below (Nat.le_refl _) (set_below (Nat.le_refl _) (set_below (Nat.le_refl _) (set_below (Nat.le_refl _) (set_below (Nat.le_refl _) (set_below (Nat.le_refl _) (set_below (Nat.le_refl _) (set_below (Nat.le_refl _) (HB2.out))))))))⟩, by simp [intOf]; omega⟩
      obtain ⟨⟨cur, H, h2, -⟩, -, -⟩ := HZ.out
      have h3 : (((xs.take k ++ (List.replicate len vdZ).drop k).map vdF).set k (vdF v)) = (xs.take (k + 1) ++ (List.replicate len vdZ).drop (k + 1)).map vdF := by
        rw [← List.map_set, take_drop_set hZl HV.out]
      have h4 : ROwnAt _ w.heap.size 8 53 (((xs.take k ++ (List.replicate len vdZ).drop k).map vdF).set k (vdF v)) (fun k => w.heap.size ≤ k) cur H := h2
      rw [h3] at h4
      exact ⟨by rw [List.length_map, take_drop_len hZl (by omega)]; simp, Nat.le_refl _, by omega, .inr ⟨_, cur, H, rfl, h4⟩⟩
    · obtain rfl : len = k := by omega
      go_wp2
      go_ret
      refine ⟨rfl, ?_, HB.out⟩
      have h5 := HP.out
      rw [List.take_of_length_le (by omega), List.drop_of_length_le (by simp), List.append_nil] at h5
      exact h5

theorem infoxd : (Tryz.prog.info? 44).map (fun i => (i.zero, i.size, i.bytes)) = some (some (.agg #[.string ⟨#[]⟩, .int .i64 0, .string ⟨#[]⟩, .bool false, .string ⟨#[]⟩]), 5, 64) := by kernel_rfl
def xdZ : Xd := ⟨⟨#[]⟩, 0, ⟨#[]⟩, false, ⟨#[]⟩⟩

set_option maxRecDepth 10000 in
theorem madexd {w : World} {g len : Nat} (h : w.heap[g]? = some (.cells (madeCells #[.string ⟨#[]⟩, .int .i64 0, .string ⟨#[]⟩, .bool false, .string ⟨#[]⟩] (len * 5)) 44 (0, 0))) (hl : len ≤ 1048576) (S : Nat → Prop) (hS : S g) :
    ROwn w (some ⟨g, 0, none⟩) len len 5 44 ((List.replicate len xdZ).map xdF) S := by
  refine ⟨by simp, Nat.le_refl _, by omega, .inr ⟨g, _, fun _ _ => 0, rfl, h, hS, ?_, ?_, ?_⟩⟩
  · intro j r hr
    rw [List.getElem?_map] at hr
    obtain ⟨x, hx, rfl⟩ := Option.map_eq_some_iff.1 hr
    rfl
  · intro j r hr i f hi
    rw [List.getElem?_map] at hr
    obtain ⟨x, hx, rfl⟩ := Option.map_eq_some_iff.1 hr
    have hj : j < len := by have := (List.getElem?_eq_some_iff.1 hx).1; simpa using this
    obtain rfl : x = xdZ := by
      obtain ⟨h1, h2⟩ := List.getElem?_eq_some_iff.1 hx
      simpa using h2.symm
    have him : i < 5 := (List.getElem?_eq_some_iff.1 hi).1
    have hlt : j * 5 + i < len * 5 := by omega
    have hcell : (madeCells #[.string ⟨#[]⟩, .int .i64 0, .string ⟨#[]⟩, .bool false, .string ⟨#[]⟩] (len * 5))[j * 5 + i]? = some (#[.string ⟨#[]⟩, .int .i64 0, .string ⟨#[]⟩, .bool false, .string ⟨#[]⟩][i]!) := by
      unfold madeCells
      rw [Array.getElem?_map, Array.getElem?_range]
      rw [if_pos hlt]
      have : (j * 5 + i) % 5 = i := by omega
      simp [this]
    refine ⟨_, hcell, ?_⟩
    rcases i with _ | _ | _ | _ | _ | i
    · cases hi; exact ⟨rfl, by decide⟩
    · cases hi; exact rfl
    · cases hi; exact ⟨rfl, by decide⟩
    · cases hi; exact rfl
    · cases hi; exact ⟨rfl, by decide⟩
    · omega
  · intro j r i zs j' r' i' zs' hr hi hz
    exfalso
    rw [List.getElem?_map] at hr
    obtain ⟨x, hx, rfl⟩ := Option.map_eq_some_iff.1 hr
    obtain rfl : x = xdZ := by
      obtain ⟨h1, h2⟩ := List.getElem?_eq_some_iff.1 hx
      simpa using h2.symm
    have him : i < 5 := (List.getElem?_eq_some_iff.1 hi).1
    rcases i with _ | _ | _ | _ | _ | i
    · cases hi
    · cases hi
    · cases hi
    · cases hi
    · cases hi
    · omega

set_option maxRecDepth 10000 in
set_option maxHeartbeats 6400000 in
theorem toxd_any (a : Option Addr) (len cap : Nat) (xs : List Xd) (w : World) (hr : RRow w a len cap 5 (xs.map xdF)) (hl : len ≤ 1048576) :
    Calls Tryz.prog 36 #[.slice a len cap] w fun e w' => e = .returned (.slice (some ⟨w.heap.size, 0, none⟩) len len) ∧ ROwn w' (some ⟨w.heap.size, 0, none⟩) len len 5 44 (xs.map xdF) (fun k => w.heap.size ≤ k) ∧ Below w.heap.size w w' := by
  have HR := hidK hr
  have hvl : xs.length = len := by simpa using hr.1
  skip
  clear hr
  obtain ⟨i0, hi, hz0, hz1, hz2⟩ := info_parts infoxd
  go_enter Tryz.func36, Tryz.ntmps36
  go_wp2_with (at_make; refine wpList_make_full _ rfl _ _ 36 rfl w.heap.size 44 i0 (.agg #[.string ⟨#[]⟩, .int .i64 0, .string ⟨#[]⟩, .bool false, .string ⟨#[]⟩]) 5 Tryz.underlying36 hi hz0 hz1 _ _ _ _ len rfl rfl (by omega) (by omega) (by rw [hz2]; omega) (by unfold maxLen; omega) (Nat.le_refl _) ?_)
  intro w1 hown hgrow
  have hnx1 : Below w.heap.size w w1 := (Below.refl _ _).grown hgrow (Nat.le_refl _) (fun k hk => by cases hk)
  have HB : Hid (Below w.heap.size w w1) := hnx1
  have hc1 : w1.heap[w.heap.size]? = some (.cells (madeCells #[.string ⟨#[]⟩, .int .i64 0, .string ⟨#[]⟩, .bool false, .string ⟨#[]⟩] (len * 5)) 44 (0, 0)) := by
    obtain ⟨h1, h2⟩ := hown
    rcases h2 with ⟨h3, _⟩ | ⟨g', cap', cur, hv, hB, hh, _, _, hsz, htk⟩
    · cases h3
    · simp only [Value.slice.injEq, Option.some.injEq, Addr.mk.injEq] at hv
      obtain ⟨⟨rfl, _, _⟩, _, rfl⟩ := hv
      rw [List.take_of_length_le (by simp [hsz])] at htk
      have : cur = madeCells #[.string ⟨#[]⟩, .int .i64 0, .string ⟨#[]⟩, .bool false, .string ⟨#[]⟩] (len * 5) := by apply Array.ext'; simpa using htk
      rw [this] at hh
      simpa using hh
  have HP : Hid (ROwn w1 (some ⟨w.heap.size, 0, none⟩) len len 5 44 ((xs.take 0 ++ (List.replicate len xdZ).drop 0).map xdF) (fun k => w.heap.size ≤ k)) := by
    have := madexd hc1 hl (fun k => w.heap.size ≤ k) (Nat.le_refl _)
    simpa [Hid] using this
  have hZl : xs.length = (List.replicate len xdZ).length := by simpa using hvl
  clear hown hgrow hi hz0 hz1 hz2 hnx1 hc1
  go_wp2
  go_loopw [4] (fun i wr => ∃ k : Nat, k ≤ len ∧ i = .int .i64 k ∧ Hid (ROwn wr (some ⟨w.heap.size, 0, none⟩) len len 5 44 ((xs.take k ++ (List.replicate len xdZ).drop k).map xdF) (fun k => w.heap.size ≤ k)) ∧ Hid (Below w.heap.size w wr)) (fun i _ => len - (intOf i).toNat)
  case atStart => exact ⟨0, by omega, rfl, HP, HB⟩
  case round =>
    obtain ⟨k, hk, rfl, HP, HB⟩ := hrel
    by_cases hlt : k < len
    · obtain ⟨b, o, v, rfl, hb, hv, hat⟩ := xd_at (HR.out.below HB.out) hlt
      obtain ⟨z0, z2, z4, c0, c1, c2, c3, c4⟩ := xd_cells hat
      have HV := hidK hv
      have Hz0 := hidK z0
      have Hz2 := hidK z2
      have Hz4 := hidK z4
      clear hat hv z0 z2 z4
      have hzk : ((xs.take k ++ (List.replicate len xdZ).drop k).map xdF)[k]? = some (xdF xdZ) := by
        rw [List.getElem?_map, take_drop_at hZl (by omega), List.getElem?_replicate, if_pos hlt]
        rfl
      obtain ⟨g, hg, hs⟩ := HP.out.st (KeptS.refl _ _) hzk
      cases hg
      have HS := hidK hs
      clear hs hzk HP
      go_wp2_with fail
      refine (toClaim_any v.n v.z v.k v.x v.v _).mono ?_
      rintro e w2 ⟨rfl, hb2⟩
      have HB2 := upB HB hb2
      have h1 : StJ w.heap.size 5 44 (fun k => w.heap.size ≤ k) (fun k => wr.heap.size ≤ k) wr w2 ((xs.take k ++ (List.replicate len xdZ).drop k).map xdF) k [.s xdZ.n, .i xdZ.z, .s xdZ.k, .b xdZ.x, .s xdZ.v] := HS.out.fresh hb2
      obtain ⟨q0, e0⟩ := h1.cell (i := 0) rfl
      have f0 := h1.fro (k * 5)
      obtain ⟨q1, e1⟩ := h1.cell (i := 1) rfl
      have f1 := h1.fro (k * 5 + 1)
      obtain ⟨q2, e2⟩ := h1.cell (i := 2) rfl
      have f2 := h1.fro (k * 5 + 2)
      obtain ⟨q3, e3⟩ := h1.cell (i := 3) rfl
      have f3 := h1.fro (k * 5 + 3)
      obtain ⟨q4, e4⟩ := h1.cell (i := 4) rfl
      have f4 := h1.fro (k * 5 + 4)
      rw [Nat.add_zero] at e0
      have HZ := hidK ((((((h1).setS (i := 0) rfl v.n Hz0.out).setI (i := 1) rfl v.z).setS (i := 2) rfl v.k Hz2.out).setB (i := 3) rfl v.x).setS (i := 4) rfl v.v Hz4.out)
      clear h1 hb2 c0 c1 c2 c3 c4 hb
      go_wp2_with fail
      refine ⟨⟨k + 1, by omega, by go_num, ?_, set_below (Nat.le_refl _) (set_below (Nat.le_refl _) (set_below (Nat.le_refl _) (set_below (Nat.le_refl _) (set_below (Nat.le_refl _) (HB2.out)))))⟩, by simp [intOf]; omega⟩
      obtain ⟨⟨cur, H, h2, -⟩, -, -⟩ := HZ.out
      have h3 : (((xs.take k ++ (List.replicate len xdZ).drop k).map xdF).set k (xdF v)) = (xs.take (k + 1) ++ (List.replicate len xdZ).drop (k + 1)).map xdF := by
        rw [← List.map_set, take_drop_set hZl HV.out]
      have h4 : ROwnAt _ w.heap.size 5 44 (((xs.take k ++ (List.replicate len xdZ).drop k).map xdF).set k (xdF v)) (fun k => w.heap.size ≤ k) cur H := h2
      rw [h3] at h4
      exact ⟨by rw [List.length_map, take_drop_len hZl (by omega)]; simp, Nat.le_refl _, by omega, .inr ⟨_, cur, H, rfl, h4⟩⟩
    · obtain rfl : len = k := by omega
      go_wp2
      go_ret
      refine ⟨rfl, ?_, HB.out⟩
      have h5 := HP.out
      rw [List.take_of_length_le (by omega), List.drop_of_length_le (by simp), List.append_nil] at h5
      exact h5

theorem infopd : (Tryz.prog.info? 118).map (fun i => (i.zero, i.size, i.bytes)) = some (some (.agg #[.string ⟨#[]⟩, .int .i64 0, .string ⟨#[]⟩, .slice none 0 0, .string ⟨#[]⟩, .int .i64 0]), 6, 88) := by kernel_rfl
def pdZ : Pd := ⟨⟨#[]⟩, 0, ⟨#[]⟩, [], ⟨#[]⟩, 0⟩

set_option maxRecDepth 10000 in
theorem madepd {w : World} {g len : Nat} (h : w.heap[g]? = some (.cells (madeCells #[.string ⟨#[]⟩, .int .i64 0, .string ⟨#[]⟩, .slice none 0 0, .string ⟨#[]⟩, .int .i64 0] (len * 6)) 118 (0, 0))) (hl : len ≤ 1048576) (S : Nat → Prop) (hS : S g) :
    ROwn w (some ⟨g, 0, none⟩) len len 6 118 ((List.replicate len pdZ).map pdF) S := by
  refine ⟨by simp, Nat.le_refl _, by omega, .inr ⟨g, _, fun _ _ => 0, rfl, h, hS, ?_, ?_, ?_⟩⟩
  · intro j r hr
    rw [List.getElem?_map] at hr
    obtain ⟨x, hx, rfl⟩ := Option.map_eq_some_iff.1 hr
    rfl
  · intro j r hr i f hi
    rw [List.getElem?_map] at hr
    obtain ⟨x, hx, rfl⟩ := Option.map_eq_some_iff.1 hr
    have hj : j < len := by have := (List.getElem?_eq_some_iff.1 hx).1; simpa using this
    obtain rfl : x = pdZ := by
      obtain ⟨h1, h2⟩ := List.getElem?_eq_some_iff.1 hx
      simpa using h2.symm
    have him : i < 6 := (List.getElem?_eq_some_iff.1 hi).1
    have hlt : j * 6 + i < len * 6 := by omega
    have hcell : (madeCells #[.string ⟨#[]⟩, .int .i64 0, .string ⟨#[]⟩, .slice none 0 0, .string ⟨#[]⟩, .int .i64 0] (len * 6))[j * 6 + i]? = some (#[.string ⟨#[]⟩, .int .i64 0, .string ⟨#[]⟩, .slice none 0 0, .string ⟨#[]⟩, .int .i64 0][i]!) := by
      unfold madeCells
      rw [Array.getElem?_map, Array.getElem?_range]
      rw [if_pos hlt]
      have : (j * 6 + i) % 6 = i := by omega
      simp [this]
    refine ⟨_, hcell, ?_⟩
    rcases i with _ | _ | _ | _ | _ | _ | i
    · cases hi; exact ⟨rfl, by decide⟩
    · cases hi; exact rfl
    · cases hi; exact ⟨rfl, by decide⟩
    · cases hi; exact ⟨none, 0, 0, rfl, rfl, Nat.le_refl _, by decide, fun j x hx => by simp [pdZ] at hx, .inl rfl⟩
    · cases hi; exact ⟨rfl, by decide⟩
    · cases hi; exact rfl
    · omega
  · intro j r i zs j' r' i' zs' hr hi hz
    exfalso
    rw [List.getElem?_map] at hr
    obtain ⟨x, hx, rfl⟩ := Option.map_eq_some_iff.1 hr
    obtain rfl : x = pdZ := by
      obtain ⟨h1, h2⟩ := List.getElem?_eq_some_iff.1 hx
      simpa using h2.symm
    have him : i < 6 := (List.getElem?_eq_some_iff.1 hi).1
    rcases i with _ | _ | _ | _ | _ | _ | i
    · cases hi
    · cases hi
    · cases hi
    · cases hi; exact hz rfl
    · cases hi
    · cases hi
    · omega

set_option maxRecDepth 10000 in
set_option maxHeartbeats 6400000 in
theorem topd_any (a : Option Addr) (len cap : Nat) (xs : List Pd) (w : World) (hr : RRow w a len cap 6 (xs.map pdF)) (hl : len ≤ 1048576) (hf : ∀ (j : Nat) x, xs[j]? = some x → x.zs.length ≤ 1048576) :
    Calls Tryz.prog 37 #[.slice a len cap] w fun e w' => e = .returned (.slice (some ⟨w.heap.size, 0, none⟩) len len) ∧ ROwn w' (some ⟨w.heap.size, 0, none⟩) len len 6 118 (xs.map pdF) (fun k => w.heap.size ≤ k) ∧ Below w.heap.size w w' := by
  have HR := hidK hr
  have hvl : xs.length = len := by simpa using hr.1
  have HF := hidK hf
  clear hr hf
  obtain ⟨i0, hi, hz0, hz1, hz2⟩ := info_parts infopd
  go_enter Tryz.func37, Tryz.ntmps37
  go_wp2_with (at_make; refine wpList_make_full _ rfl _ _ 37 rfl w.heap.size 118 i0 (.agg #[.string ⟨#[]⟩, .int .i64 0, .string ⟨#[]⟩, .slice none 0 0, .string ⟨#[]⟩, .int .i64 0]) 6 Tryz.underlying37 hi hz0 hz1 _ _ _ _ len rfl rfl (by omega) (by omega) (by rw [hz2]; omega) (by unfold maxLen; omega) (Nat.le_refl _) ?_)
  intro w1 hown hgrow
  have hnx1 : Below w.heap.size w w1 := (Below.refl _ _).grown hgrow (Nat.le_refl _) (fun k hk => by cases hk)
  have HB : Hid (Below w.heap.size w w1) := hnx1
  have hc1 : w1.heap[w.heap.size]? = some (.cells (madeCells #[.string ⟨#[]⟩, .int .i64 0, .string ⟨#[]⟩, .slice none 0 0, .string ⟨#[]⟩, .int .i64 0] (len * 6)) 118 (0, 0)) := by
    obtain ⟨h1, h2⟩ := hown
    rcases h2 with ⟨h3, _⟩ | ⟨g', cap', cur, hv, hB, hh, _, _, hsz, htk⟩
    · cases h3
    · simp only [Value.slice.injEq, Option.some.injEq, Addr.mk.injEq] at hv
      obtain ⟨⟨rfl, _, _⟩, _, rfl⟩ := hv
      rw [List.take_of_length_le (by simp [hsz])] at htk
      have : cur = madeCells #[.string ⟨#[]⟩, .int .i64 0, .string ⟨#[]⟩, .slice none 0 0, .string ⟨#[]⟩, .int .i64 0] (len * 6) := by apply Array.ext'; simpa using htk
      rw [this] at hh
      simpa using hh
  have HP : Hid (ROwn w1 (some ⟨w.heap.size, 0, none⟩) len len 6 118 ((xs.take 0 ++ (List.replicate len pdZ).drop 0).map pdF) (fun k => w.heap.size ≤ k)) := by
    have := madepd hc1 hl (fun k => w.heap.size ≤ k) (Nat.le_refl _)
    simpa [Hid] using this
  have hZl : xs.length = (List.replicate len pdZ).length := by simpa using hvl
  clear hown hgrow hi hz0 hz1 hz2 hnx1 hc1
  go_wp2
  go_loopw [4] (fun i wr => ∃ k : Nat, k ≤ len ∧ i = .int .i64 k ∧ Hid (ROwn wr (some ⟨w.heap.size, 0, none⟩) len len 6 118 ((xs.take k ++ (List.replicate len pdZ).drop k).map pdF) (fun k => w.heap.size ≤ k)) ∧ Hid (Below w.heap.size w wr)) (fun i _ => len - (intOf i).toNat)
  case atStart => exact ⟨0, by omega, rfl, HP, HB⟩
  case round =>
    obtain ⟨k, hk, rfl, HP, HB⟩ := hrel
    by_cases hlt : k < len
    · obtain ⟨b, o, v, rfl, hb, hv, hat⟩ := pd_at (HR.out.below HB.out) hlt
      obtain ⟨va, vl, vc, hvr, z0, z2, z4, c0, c1, c2, c3, c4, c5⟩ := pd_cells hat
      have HV := hidK hv
      have Hz0 := hidK z0
      have Hz2 := hidK z2
      have Hz4 := hidK z4
      have HT := hidK hvr
      have hvl2 : vl ≤ 1048576 := by have := HF.out k v hv; rw [hvr.1] at this; exact this
      have hvz : v.zs.length = vl := hvr.1
      have HVZ := hidK hvz
      clear hvr hvz
      clear hat hv z0 z2 z4
      have hzk : ((xs.take k ++ (List.replicate len pdZ).drop k).map pdF)[k]? = some (pdF pdZ) := by
        rw [List.getElem?_map, take_drop_at hZl (by omega), List.getElem?_replicate, if_pos hlt]
        rfl
      obtain ⟨g, hg, hs⟩ := HP.out.st (KeptS.refl _ _) hzk
      cases hg
      have HS := hidK hs
      clear hs hzk HP
      go_wp2_with fail
      refine (toPod_any v.n v.c v.z va vl vc v.zs v.d v.p _ HT.out hvl2).mono ?_
      rintro e w2 ⟨rfl, hG, hb2⟩
      have HB2 := upB HB hb2
      have h1 : StJ w.heap.size 6 118 (fun k => w.heap.size ≤ k) (fun k => wr.heap.size ≤ k) wr w2 ((xs.take k ++ (List.replicate len pdZ).drop k).map pdF) k [.s pdZ.n, .i pdZ.c, .s pdZ.z, .l pdZ.zs, .s pdZ.d, .i pdZ.p] := HS.out.fresh hb2
      have hL : LOwn w2 (wr.heap.size + 1 + 1 + 1) (fun k => w.heap.size ≤ k) w.heap.size v.zs (.slice (some ⟨wr.heap.size + 1 + 1 + 1, 0, none⟩) vl vl) := by
        have h9 := HB.out.size
        have hgl := lt_of_some (HS.out.own.choose_spec.choose_spec.1.blk)
        refine ⟨_, _, _, rfl, HVZ.out, Nat.le_refl _, by omega, HT.out.2.2.2.1, .inr ⟨rfl, by show w.heap.size ≤ _; omega, by omega, _, hG, fun j x hx => ?_⟩⟩
        simp [hx]
      have HL := hidK hL
      clear hG hL
      obtain ⟨q0, e0⟩ := h1.cell (i := 0) rfl
      have f0 := h1.fro (k * 6)
      obtain ⟨q1, e1⟩ := h1.cell (i := 1) rfl
      have f1 := h1.fro (k * 6 + 1)
      obtain ⟨q2, e2⟩ := h1.cell (i := 2) rfl
      have f2 := h1.fro (k * 6 + 2)
      obtain ⟨q3, e3⟩ := h1.cell (i := 3) rfl
      have f3 := h1.fro (k * 6 + 3)
      obtain ⟨q4, e4⟩ := h1.cell (i := 4) rfl
      have f4 := h1.fro (k * 6 + 4)
      obtain ⟨q5, e5⟩ := h1.cell (i := 5) rfl
      have f5 := h1.fro (k * 6 + 5)
      rw [Nat.add_zero] at e0
      have HZ := hidK (((((((h1).setS (i := 0) rfl v.n Hz0.out).setI (i := 1) rfl v.c).setS (i := 2) rfl v.z Hz2.out).setL (i := 3) rfl v.zs (fun _ => by show wr.heap.size ≤ _; omega) (Fv.Own.set_cell (u := .l v.zs) (Fv.Own.set_cell (u := .l v.zs) (Fv.Own.set_cell (u := .l v.zs) (HL.out))))).setS (i := 4) rfl v.d Hz4.out).setI (i := 5) rfl v.p)
      clear h1 hb2 c0 c1 c2 c3 c4 c5 hb
      go_wp2_with fail
      refine ⟨⟨k + 1, by omega, by go_num, ?_, set_below (Nat.le_refl _) (set_below (Nat.le_refl _) (set_below (Nat.le_refl _) (set_below (Nat.le_refl _) (set_below (Nat.le_refl _) (set_below (Nat.le_refl _) (HB2.out))))))⟩, by simp [intOf]; omega⟩
      obtain ⟨⟨cur, H, h2, -⟩, -, -⟩ := HZ.out
      have h3 : (((xs.take k ++ (List.replicate len pdZ).drop k).map pdF).set k (pdF v)) = (xs.take (k + 1) ++ (List.replicate len pdZ).drop (k + 1)).map pdF := by
        rw [← List.map_set, take_drop_set hZl HV.out]
      have h4 : ROwnAt _ w.heap.size 6 118 (((xs.take k ++ (List.replicate len pdZ).drop k).map pdF).set k (pdF v)) (fun k => w.heap.size ≤ k) cur H := h2
      rw [h3] at h4
      exact ⟨by rw [List.length_map, take_drop_len hZl (by omega)]; simp, Nat.le_refl _, by omega, .inr ⟨_, cur, H, rfl, h4⟩⟩
    · obtain rfl : len = k := by omega
      go_wp2
      go_ret
      refine ⟨rfl, ?_, HB.out⟩
      have h5 := HP.out
      rw [List.take_of_length_le (by omega), List.drop_of_length_le (by simp), List.append_nil] at h5
      exact h5

structure ClFit (c : Cl) : Prop where
  l1 : c.ns.length ≤ 1048576
  f1 : ∀ (j : Nat) x, c.ns[j]? = some x → x.zs.length ≤ 1048576
  l2 : c.ks.length ≤ 1048576
  l3 : c.vs.length ≤ 1048576
  f3 : ∀ (j : Nat) x, c.vs[j]? = some x → x.zs.length ≤ 1048576
  l4 : c.xs.length ≤ 1048576
  l5 : c.ps.length ≤ 1048576
  f5 : ∀ (j : Nat) x, c.ps[j]? = some x → x.zs.length ≤ 1048576

set_option maxRecDepth 100000 in
set_option maxHeartbeats 3200000 in
theorem szCluster_any (d : Ad) (c : Cl) (w : World) (hr : ClRow w d c.raw) :
    Calls Tryz.prog 5 #[.agg #[.slice d.a1 d.l1 d.c1, .slice d.a2 d.l2 d.c2, .slice d.a3 d.l3 d.c3, .slice d.a4 d.l4 d.c4, .slice d.a5 d.l5 d.c5, .int .i64 c.now], .int .i64 1048576] w (SzB 1048576 (ClFit c) w) := by
  have HR := hidK hr
  have HB := hidK (Below.refl w.heap.size w)
  clear hr
  go_enter Tryz.func5, Tryz.ntmps5
  go_wp2_with fail
  refine (sznd_any d.a1 d.l1 d.c1 c.ns 1048576 _ (HR.out.n.below (HB.out.trans ((below1 _ _).mono HB.out.size))) (by omega) (by omega)).mono ?_
  rintro e w1 ⟨r1, rfl, hi, hb⟩
  obtain ⟨HA0, hbx⟩ := slots1 hb
  have Bk := hidK HA0
  replace HB := upB HB hbx
  clear hb hbx HA0
  rcases hi with rfl | ⟨hr10, hr11, hz1⟩
  · obtain ⟨k0, k1, k2, k3, k4, k5⟩ := cs6 Bk.out
    have ltk_1 := lt_of_some Bk.out
    go_wp2
    go_ret
    exact ⟨-1, rfl, .inl rfl, HB.out⟩
  have HZ1 := hidK hz1
  clear hz1
  obtain ⟨k0, k1, k2, k3, k4, k5⟩ := cs6 Bk.out
  have ltk_1 := lt_of_some Bk.out
  go_wp2_with fail
  refine (szkd_any d.a2 d.l2 d.c2 c.ks r1 _ (HR.out.k.below HB.out) (by omega) (by omega)).mono ?_
  rintro e w2 ⟨r2, rfl, hi, hb⟩
  clear k0 k1 k2 k3 k4 k5 ltk_1
  replace Bk := upK Bk hb
  replace HB := upB HB hb
  clear hb
  rcases hi with rfl | ⟨hr20, hr21, hz2⟩
  · obtain ⟨k0, k1, k2, k3, k4, k5⟩ := cs6 Bk.out
    have ltk_2 := lt_of_some Bk.out
    go_wp2
    go_ret
    exact ⟨-1, rfl, .inl rfl, HB.out⟩
  have HZ2 := hidK hz2
  clear hz2
  obtain ⟨k0, k1, k2, k3, k4, k5⟩ := cs6 Bk.out
  have ltk_2 := lt_of_some Bk.out
  go_wp2_with fail
  refine (szvd_any d.a3 d.l3 d.c3 c.vs r2 _ (HR.out.v.below HB.out) (by omega) (by omega)).mono ?_
  rintro e w3 ⟨r3, rfl, hi, hb⟩
  clear k0 k1 k2 k3 k4 k5 ltk_2
  replace Bk := upK Bk hb
  replace HB := upB HB hb
  clear hb
  rcases hi with rfl | ⟨hr30, hr31, hz3⟩
  · obtain ⟨k0, k1, k2, k3, k4, k5⟩ := cs6 Bk.out
    have ltk_3 := lt_of_some Bk.out
    go_wp2
    go_ret
    exact ⟨-1, rfl, .inl rfl, HB.out⟩
  have HZ3 := hidK hz3
  clear hz3
  obtain ⟨k0, k1, k2, k3, k4, k5⟩ := cs6 Bk.out
  have ltk_3 := lt_of_some Bk.out
  go_wp2_with fail
  refine (szxd_any d.a4 d.l4 d.c4 c.xs r3 _ (HR.out.x.below HB.out) (by omega) (by omega)).mono ?_
  rintro e w4 ⟨r4, rfl, hi, hb⟩
  clear k0 k1 k2 k3 k4 k5 ltk_3
  replace Bk := upK Bk hb
  replace HB := upB HB hb
  clear hb
  rcases hi with rfl | ⟨hr40, hr41, hz4⟩
  · obtain ⟨k0, k1, k2, k3, k4, k5⟩ := cs6 Bk.out
    have ltk_4 := lt_of_some Bk.out
    go_wp2
    go_ret
    exact ⟨-1, rfl, .inl rfl, HB.out⟩
  have HZ4 := hidK hz4
  clear hz4
  obtain ⟨k0, k1, k2, k3, k4, k5⟩ := cs6 Bk.out
  have ltk_4 := lt_of_some Bk.out
  go_wp2_with fail
  refine (szpd_any d.a5 d.l5 d.c5 c.ps r4 _ (HR.out.p.below HB.out) (by omega) (by omega)).mono ?_
  rintro e w5 ⟨r5, rfl, hi, hb⟩
  clear k0 k1 k2 k3 k4 k5 ltk_4
  replace Bk := upK Bk hb
  replace HB := upB HB hb
  clear hb
  rcases hi with rfl | ⟨hr50, hr51, hz5⟩
  · obtain ⟨k0, k1, k2, k3, k4, k5⟩ := cs6 Bk.out
    have ltk_5 := lt_of_some Bk.out
    go_wp2
    go_ret
    exact ⟨-1, rfl, .inl rfl, HB.out⟩
  have HZ5 := hidK hz5
  clear hz5
  go_wp2
  go_ret
  refine ⟨r5, rfl, .inr ⟨by omega, by omega, ?_⟩, HB.out⟩
  have e1 : c.ns.length = d.l1 := by simpa using (show (c.ns.map ndF).length = d.l1 from HR.out.n.1)
  have e2 : c.ks.length = d.l2 := by simpa using (show (c.ks.map kdF).length = d.l2 from HR.out.k.1)
  have e3 : c.vs.length = d.l3 := by simpa using (show (c.vs.map vdF).length = d.l3 from HR.out.v.1)
  have e4 : c.xs.length = d.l4 := by simpa using (show (c.xs.map xdF).length = d.l4 from HR.out.x.1)
  have e5 : c.ps.length = d.l5 := by simpa using (show (c.ps.map pdF).length = d.l5 from HR.out.p.1)
  exact ⟨by rw [e1]; exact HZ1.out.1, HZ1.out.2, by rw [e2]; exact HZ2.out, by rw [e3]; exact HZ3.out.1, HZ3.out.2, by rw [e4]; exact HZ4.out, by rw [e5]; exact HZ5.out.1, HZ5.out.2⟩

set_option maxRecDepth 100000 in
set_option maxHeartbeats 6400000 in
theorem toCluster_any (d : Ad) (c : Cl) (w : World) (hr : ClRow w d c.raw) (hf : ClFit c) :
    Calls Tryz.prog 8 #[.agg #[.slice d.a1 d.l1 d.c1, .slice d.a2 d.l2 d.c2, .slice d.a3 d.l3 d.c3, .slice d.a4 d.l4 d.c4, .slice d.a5 d.l5 d.c5, .int .i64 c.now]] w fun e w' => ∃ d' : Ad, e = .returned (.agg #[.slice d'.a1 d'.l1 d'.c1, .slice d'.a2 d'.l2 d'.c2, .slice d'.a3 d'.l3 d'.c3, .slice d'.a4 d'.l4 d'.c4, .slice d'.a5 d'.l5 d'.c5, .int .i64 c.now]) ∧ ClOwn w' d' c.raw (fun k => w.heap.size ≤ k) ∧ Below w.heap.size w w' := by
  have HR := hidK hr
  have HF := hidK hf
  have e1 : c.ns.length = d.l1 := by simpa using (show (c.ns.map ndF).length = d.l1 from hr.n.1)
  have hL1 : d.l1 ≤ 1048576 := by rw [← e1]; exact hf.l1
  have e2 : c.ks.length = d.l2 := by simpa using (show (c.ks.map kdF).length = d.l2 from hr.k.1)
  have hL2 : d.l2 ≤ 1048576 := by rw [← e2]; exact hf.l2
  have e3 : c.vs.length = d.l3 := by simpa using (show (c.vs.map vdF).length = d.l3 from hr.v.1)
  have hL3 : d.l3 ≤ 1048576 := by rw [← e3]; exact hf.l3
  have e4 : c.xs.length = d.l4 := by simpa using (show (c.xs.map xdF).length = d.l4 from hr.x.1)
  have hL4 : d.l4 ≤ 1048576 := by rw [← e4]; exact hf.l4
  have e5 : c.ps.length = d.l5 := by simpa using (show (c.ps.map pdF).length = d.l5 from hr.p.1)
  have hL5 : d.l5 ≤ 1048576 := by rw [← e5]; exact hf.l5
  clear hr hf e1 e2 e3 e4 e5
  obtain ⟨X0, hX0⟩ : ∃ X, X = ((w.alloc (.cells #[.slice d.a1 d.l1 d.c1, .slice d.a2 d.l2 d.c2, .slice d.a3 d.l3 d.c3, .slice d.a4 d.l4 d.c4, .slice d.a5 d.l5 d.c5, .int .i64 c.now] 28)).alloc (.cells #[.slice none 0 0, .slice none 0 0, .slice none 0 0, .slice none 0 0, .slice none 0 0, .int .i64 0] 39)).alloc (.cells #[.slice none 0 0, .slice none 0 0, .slice none 0 0, .slice none 0 0, .slice none 0 0, .int .i64 0] 39) := ⟨_, rfl⟩
  have B0 : Hid (Below w.heap.size w X0) := by rw [hX0]; exact below3 _ _ _ _
  have bx0 : Hid (X0.heap[w.heap.size]? = some (.cells #[.slice d.a1 d.l1 d.c1, .slice d.a2 d.l2 d.c2, .slice d.a3 d.l3 d.c3, .slice d.a4 d.l4 d.c4, .slice d.a5 d.l5 d.c5, .int .i64 c.now] 28 (0, 0))) := by rw [hX0]; exact heap3_0 _ _ _ _
  have br0 : Hid (X0.heap[w.heap.size + 1]? = some (.cells #[.slice none 0 0, .slice none 0 0, .slice none 0 0, .slice none 0 0, .slice none 0 0, .int .i64 0] 39 (0, 0))) := by rw [hX0]; exact heap3_1 _ _ _ _
  have bl0 : Hid (X0.heap[w.heap.size + 1 + 1]? = some (.cells #[.slice none 0 0, .slice none 0 0, .slice none 0 0, .slice none 0 0, .slice none 0 0, .int .i64 0] 39 (0, 0))) := by rw [hX0]; exact heap3_2 _ _ _ _
  have hs0 : w.heap.size + 1 + 1 < X0.heap.size := lt_of_some bl0.out
  go_enter Tryz.func8, Tryz.ntmps8
  go_wp2_with fail
  rw [← hX0]
  clear hX0
  refine (tond_any d.a1 d.l1 d.c1 c.ns _ (HR.out.n.below B0.out) hL1 HF.out.f1).mono ?_
  rintro e w1 ⟨rfl, ho, hb⟩
  have hsz1 := hb.size
  have gx := (hb.block _ (lt_of_some bx0.out)).trans bx0.out
  have gr := (hb.block _ (lt_of_some br0.out)).trans br0.out
  have gl := (hb.block _ (lt_of_some bl0.out)).trans bl0.out
  have gB := B0.out.trans (hb.mono B0.out.size)
  have P1 := hidK ho
  clear ho hb bx0 br0 bl0 B0
  have pl : w1.cell? ⟨w.heap.size + 1 + 1, 0, none⟩ = some (.slice none 0 0) := cellK gl 0
  have fl : w1.frozen? ⟨w.heap.size + 1 + 1, 0, none⟩ = false := froK gl 0
  have px : w1.cell? ⟨w.heap.size, 1, none⟩ = some (.slice d.a2 d.l2 d.c2) := cellK gx 1
  obtain ⟨X1, hX1⟩ : ∃ X, X = w1.setCell ⟨w.heap.size + 1 + 1, 0, none⟩ (.slice (some ⟨X0.heap.size, 0, none⟩) d.l1 d.l1) := ⟨_, rfl⟩
  have hxa1 : X1.heap.size ≤ w1.heap.size := by rw [hX1]; simp [World.setCell]
  have hxb1 : w1.heap.size ≤ X1.heap.size := by rw [hX1]; simp [World.setCell]
  have bx1 : Hid (X1.heap[w.heap.size]? = some (.cells #[.slice d.a1 d.l1 d.c1, .slice d.a2 d.l2 d.c2, .slice d.a3 d.l3 d.c3, .slice d.a4 d.l4 d.c4, .slice d.a5 d.l5 d.c5, .int .i64 c.now] 28 (0, 0))) := by rw [hX1]; exact set_keeps (by omega) gx
  have br1 : Hid (X1.heap[w.heap.size + 1]? = some (.cells #[.slice none 0 0, .slice none 0 0, .slice none 0 0, .slice none 0 0, .slice none 0 0, .int .i64 0] 39 (0, 0))) := by rw [hX1]; exact set_keeps (by omega) gr
  have bl1 : Hid (X1.heap[w.heap.size + 1 + 1]? = some (.cells #[.slice (some ⟨X0.heap.size, 0, none⟩) d.l1 d.l1, .slice none 0 0, .slice none 0 0, .slice none 0 0, .slice none 0 0, .int .i64 0] 39 (0, 0))) := by rw [hX1]; have := block_set (i := 0) gl (.slice (some ⟨X0.heap.size, 0, none⟩) d.l1 d.l1); simpa [Hid] using this
  have B1 : Hid (Below w.heap.size w X1) := by rw [hX1]; exact set_below (by omega) gB
  have O1 := hidK (P1.out.keep (w' := X1) (fun k hk s => by rw [hX1]; exact Below.heap_setCell _ _ _ _ (show k ≠ w.heap.size + 1 + 1 by have h9 : X0.heap.size ≤ k := s; omega)) (fun k hk s => (⟨s, hk⟩ : X0.heap.size ≤ k ∧ k < w1.heap.size)))
  clear gx gr gl gB P1
  go_wp2_with fail
  rw [← hX1]
  clear hX1
  clear pl fl px
  refine (tokd_any d.a2 d.l2 d.c2 c.ks _ (HR.out.k.below B1.out) hL2).mono ?_
  rintro e w2 ⟨rfl, ho, hb⟩
  have hsz2 := hb.size
  have gx := (hb.block _ (lt_of_some bx1.out)).trans bx1.out
  have gr := (hb.block _ (lt_of_some br1.out)).trans br1.out
  have gl := (hb.block _ (lt_of_some bl1.out)).trans bl1.out
  have gB := B1.out.trans (hb.mono B1.out.size)
  have P2 := hidK ho
  have Q1 := hidK (O1.out.below hb)
  clear ho hb bx1 br1 bl1 B1 O1
  have pl : w2.cell? ⟨w.heap.size + 1 + 1, 1, none⟩ = some (.slice none 0 0) := cellK gl 1
  have fl : w2.frozen? ⟨w.heap.size + 1 + 1, 1, none⟩ = false := froK gl 1
  have px : w2.cell? ⟨w.heap.size, 2, none⟩ = some (.slice d.a3 d.l3 d.c3) := cellK gx 2
  obtain ⟨X2, hX2⟩ : ∃ X, X = w2.setCell ⟨w.heap.size + 1 + 1, 1, none⟩ (.slice (some ⟨X1.heap.size, 0, none⟩) d.l2 d.l2) := ⟨_, rfl⟩
  have hxa2 : X2.heap.size ≤ w2.heap.size := by rw [hX2]; simp [World.setCell]
  have hxb2 : w2.heap.size ≤ X2.heap.size := by rw [hX2]; simp [World.setCell]
  have bx2 : Hid (X2.heap[w.heap.size]? = some (.cells #[.slice d.a1 d.l1 d.c1, .slice d.a2 d.l2 d.c2, .slice d.a3 d.l3 d.c3, .slice d.a4 d.l4 d.c4, .slice d.a5 d.l5 d.c5, .int .i64 c.now] 28 (0, 0))) := by rw [hX2]; exact set_keeps (by omega) gx
  have br2 : Hid (X2.heap[w.heap.size + 1]? = some (.cells #[.slice none 0 0, .slice none 0 0, .slice none 0 0, .slice none 0 0, .slice none 0 0, .int .i64 0] 39 (0, 0))) := by rw [hX2]; exact set_keeps (by omega) gr
  have bl2 : Hid (X2.heap[w.heap.size + 1 + 1]? = some (.cells #[.slice (some ⟨X0.heap.size, 0, none⟩) d.l1 d.l1, .slice (some ⟨X1.heap.size, 0, none⟩) d.l2 d.l2, .slice none 0 0, .slice none 0 0, .slice none 0 0, .int .i64 0] 39 (0, 0))) := by rw [hX2]; have := block_set (i := 1) gl (.slice (some ⟨X1.heap.size, 0, none⟩) d.l2 d.l2); simpa [Hid] using this
  have B2 : Hid (Below w.heap.size w X2) := by rw [hX2]; exact set_below (by omega) gB
  have O1 := hidK (Q1.out.keep (w' := X2) (fun k hk s => by rw [hX2]; exact Below.heap_setCell _ _ _ _ (show k ≠ w.heap.size + 1 + 1 by have h9 : X0.heap.size ≤ k := s.1; omega)) (fun k hk s => s))
  have O2 := hidK (P2.out.keep (w' := X2) (fun k hk s => by rw [hX2]; exact Below.heap_setCell _ _ _ _ (show k ≠ w.heap.size + 1 + 1 by have h9 : X1.heap.size ≤ k := s; omega)) (fun k hk s => (⟨s, hk⟩ : X1.heap.size ≤ k ∧ k < w2.heap.size)))
  clear gx gr gl gB P2 Q1
  go_wp2_with fail
  rw [← hX2]
  clear hX2
  clear pl fl px
  refine (tovd_any d.a3 d.l3 d.c3 c.vs _ (HR.out.v.below B2.out) hL3 HF.out.f3).mono ?_
  rintro e w3 ⟨rfl, ho, hb⟩
  have hsz3 := hb.size
  have gx := (hb.block _ (lt_of_some bx2.out)).trans bx2.out
  have gr := (hb.block _ (lt_of_some br2.out)).trans br2.out
  have gl := (hb.block _ (lt_of_some bl2.out)).trans bl2.out
  have gB := B2.out.trans (hb.mono B2.out.size)
  have P3 := hidK ho
  have Q1 := hidK (O1.out.below hb)
  have Q2 := hidK (O2.out.below hb)
  clear ho hb bx2 br2 bl2 B2 O1 O2
  have pl : w3.cell? ⟨w.heap.size + 1 + 1, 2, none⟩ = some (.slice none 0 0) := cellK gl 2
  have fl : w3.frozen? ⟨w.heap.size + 1 + 1, 2, none⟩ = false := froK gl 2
  have px : w3.cell? ⟨w.heap.size, 3, none⟩ = some (.slice d.a4 d.l4 d.c4) := cellK gx 3
  obtain ⟨X3, hX3⟩ : ∃ X, X = w3.setCell ⟨w.heap.size + 1 + 1, 2, none⟩ (.slice (some ⟨X2.heap.size, 0, none⟩) d.l3 d.l3) := ⟨_, rfl⟩
  have hxa3 : X3.heap.size ≤ w3.heap.size := by rw [hX3]; simp [World.setCell]
  have hxb3 : w3.heap.size ≤ X3.heap.size := by rw [hX3]; simp [World.setCell]
  have bx3 : Hid (X3.heap[w.heap.size]? = some (.cells #[.slice d.a1 d.l1 d.c1, .slice d.a2 d.l2 d.c2, .slice d.a3 d.l3 d.c3, .slice d.a4 d.l4 d.c4, .slice d.a5 d.l5 d.c5, .int .i64 c.now] 28 (0, 0))) := by rw [hX3]; exact set_keeps (by omega) gx
  have br3 : Hid (X3.heap[w.heap.size + 1]? = some (.cells #[.slice none 0 0, .slice none 0 0, .slice none 0 0, .slice none 0 0, .slice none 0 0, .int .i64 0] 39 (0, 0))) := by rw [hX3]; exact set_keeps (by omega) gr
  have bl3 : Hid (X3.heap[w.heap.size + 1 + 1]? = some (.cells #[.slice (some ⟨X0.heap.size, 0, none⟩) d.l1 d.l1, .slice (some ⟨X1.heap.size, 0, none⟩) d.l2 d.l2, .slice (some ⟨X2.heap.size, 0, none⟩) d.l3 d.l3, .slice none 0 0, .slice none 0 0, .int .i64 0] 39 (0, 0))) := by rw [hX3]; have := block_set (i := 2) gl (.slice (some ⟨X2.heap.size, 0, none⟩) d.l3 d.l3); simpa [Hid] using this
  have B3 : Hid (Below w.heap.size w X3) := by rw [hX3]; exact set_below (by omega) gB
  have O1 := hidK (Q1.out.keep (w' := X3) (fun k hk s => by rw [hX3]; exact Below.heap_setCell _ _ _ _ (show k ≠ w.heap.size + 1 + 1 by have h9 : X0.heap.size ≤ k := s.1; omega)) (fun k hk s => s))
  have O2 := hidK (Q2.out.keep (w' := X3) (fun k hk s => by rw [hX3]; exact Below.heap_setCell _ _ _ _ (show k ≠ w.heap.size + 1 + 1 by have h9 : X1.heap.size ≤ k := s.1; omega)) (fun k hk s => s))
  have O3 := hidK (P3.out.keep (w' := X3) (fun k hk s => by rw [hX3]; exact Below.heap_setCell _ _ _ _ (show k ≠ w.heap.size + 1 + 1 by have h9 : X2.heap.size ≤ k := s; omega)) (fun k hk s => (⟨s, hk⟩ : X2.heap.size ≤ k ∧ k < w3.heap.size)))
  clear gx gr gl gB P3 Q1 Q2
  go_wp2_with fail
  rw [← hX3]
  clear hX3
  clear pl fl px
  refine (toxd_any d.a4 d.l4 d.c4 c.xs _ (HR.out.x.below B3.out) hL4).mono ?_
  rintro e w4 ⟨rfl, ho, hb⟩
  have hsz4 := hb.size
  have gx := (hb.block _ (lt_of_some bx3.out)).trans bx3.out
  have gr := (hb.block _ (lt_of_some br3.out)).trans br3.out
  have gl := (hb.block _ (lt_of_some bl3.out)).trans bl3.out
  have gB := B3.out.trans (hb.mono B3.out.size)
  have P4 := hidK ho
  have Q1 := hidK (O1.out.below hb)
  have Q2 := hidK (O2.out.below hb)
  have Q3 := hidK (O3.out.below hb)
  clear ho hb bx3 br3 bl3 B3 O1 O2 O3
  have pl : w4.cell? ⟨w.heap.size + 1 + 1, 3, none⟩ = some (.slice none 0 0) := cellK gl 3
  have fl : w4.frozen? ⟨w.heap.size + 1 + 1, 3, none⟩ = false := froK gl 3
  have px : w4.cell? ⟨w.heap.size, 4, none⟩ = some (.slice d.a5 d.l5 d.c5) := cellK gx 4
  obtain ⟨X4, hX4⟩ : ∃ X, X = w4.setCell ⟨w.heap.size + 1 + 1, 3, none⟩ (.slice (some ⟨X3.heap.size, 0, none⟩) d.l4 d.l4) := ⟨_, rfl⟩
  have hxa4 : X4.heap.size ≤ w4.heap.size := by rw [hX4]; simp [World.setCell]
  have hxb4 : w4.heap.size ≤ X4.heap.size := by rw [hX4]; simp [World.setCell]
  have bx4 : Hid (X4.heap[w.heap.size]? = some (.cells #[.slice d.a1 d.l1 d.c1, .slice d.a2 d.l2 d.c2, .slice d.a3 d.l3 d.c3, .slice d.a4 d.l4 d.c4, .slice d.a5 d.l5 d.c5, .int .i64 c.now] 28 (0, 0))) := by rw [hX4]; exact set_keeps (by omega) gx
  have br4 : Hid (X4.heap[w.heap.size + 1]? = some (.cells #[.slice none 0 0, .slice none 0 0, .slice none 0 0, .slice none 0 0, .slice none 0 0, .int .i64 0] 39 (0, 0))) := by rw [hX4]; exact set_keeps (by omega) gr
  have bl4 : Hid (X4.heap[w.heap.size + 1 + 1]? = some (.cells #[.slice (some ⟨X0.heap.size, 0, none⟩) d.l1 d.l1, .slice (some ⟨X1.heap.size, 0, none⟩) d.l2 d.l2, .slice (some ⟨X2.heap.size, 0, none⟩) d.l3 d.l3, .slice (some ⟨X3.heap.size, 0, none⟩) d.l4 d.l4, .slice none 0 0, .int .i64 0] 39 (0, 0))) := by rw [hX4]; have := block_set (i := 3) gl (.slice (some ⟨X3.heap.size, 0, none⟩) d.l4 d.l4); simpa [Hid] using this
  have B4 : Hid (Below w.heap.size w X4) := by rw [hX4]; exact set_below (by omega) gB
  have O1 := hidK (Q1.out.keep (w' := X4) (fun k hk s => by rw [hX4]; exact Below.heap_setCell _ _ _ _ (show k ≠ w.heap.size + 1 + 1 by have h9 : X0.heap.size ≤ k := s.1; omega)) (fun k hk s => s))
  have O2 := hidK (Q2.out.keep (w' := X4) (fun k hk s => by rw [hX4]; exact Below.heap_setCell _ _ _ _ (show k ≠ w.heap.size + 1 + 1 by have h9 : X1.heap.size ≤ k := s.1; omega)) (fun k hk s => s))
  have O3 := hidK (Q3.out.keep (w' := X4) (fun k hk s => by rw [hX4]; exact Below.heap_setCell _ _ _ _ (show k ≠ w.heap.size + 1 + 1 by have h9 : X2.heap.size ≤ k := s.1; omega)) (fun k hk s => s))
  have O4 := hidK (P4.out.keep (w' := X4) (fun k hk s => by rw [hX4]; exact Below.heap_setCell _ _ _ _ (show k ≠ w.heap.size + 1 + 1 by have h9 : X3.heap.size ≤ k := s; omega)) (fun k hk s => (⟨s, hk⟩ : X3.heap.size ≤ k ∧ k < w4.heap.size)))
  clear gx gr gl gB P4 Q1 Q2 Q3
  go_wp2_with fail
  rw [← hX4]
  clear hX4
  clear pl fl px
  refine (topd_any d.a5 d.l5 d.c5 c.ps _ (HR.out.p.below B4.out) hL5 HF.out.f5).mono ?_
  rintro e w5 ⟨rfl, ho, hb⟩
  have hsz5 := hb.size
  have gx := (hb.block _ (lt_of_some bx4.out)).trans bx4.out
  have gr := (hb.block _ (lt_of_some br4.out)).trans br4.out
  have gl := (hb.block _ (lt_of_some bl4.out)).trans bl4.out
  have gB := B4.out.trans (hb.mono B4.out.size)
  have P5 := hidK ho
  have Q1 := hidK (O1.out.below hb)
  have Q2 := hidK (O2.out.below hb)
  have Q3 := hidK (O3.out.below hb)
  have Q4 := hidK (O4.out.below hb)
  clear ho hb bx4 br4 bl4 B4 O1 O2 O3 O4
  have l4 : w5.cell? ⟨w.heap.size + 1 + 1, 4, none⟩ = some (.slice none 0 0) := cellK gl 4
  have l5 : w5.cell? ⟨w.heap.size + 1 + 1, 5, none⟩ = some (.int .i64 0) := cellK gl 5
  have l0 : w5.cell? ⟨w.heap.size + 1 + 1, 0, none⟩ = some (.slice (some ⟨X0.heap.size, 0, none⟩) d.l1 d.l1) := cellK gl 0
  have l1 : w5.cell? ⟨w.heap.size + 1 + 1, 1, none⟩ = some (.slice (some ⟨X1.heap.size, 0, none⟩) d.l2 d.l2) := cellK gl 1
  have l2 : w5.cell? ⟨w.heap.size + 1 + 1, 2, none⟩ = some (.slice (some ⟨X2.heap.size, 0, none⟩) d.l3 d.l3) := cellK gl 2
  have l3 : w5.cell? ⟨w.heap.size + 1 + 1, 3, none⟩ = some (.slice (some ⟨X3.heap.size, 0, none⟩) d.l4 d.l4) := cellK gl 3
  have fl0 : w5.frozen? ⟨w.heap.size + 1 + 1, 0, none⟩ = false := froK gl 0
  have r0 : w5.cell? ⟨w.heap.size + 1, 0, none⟩ = some (.slice none 0 0) := cellK gr 0
  have fr0 : w5.frozen? ⟨w.heap.size + 1, 0, none⟩ = false := froK gr 0
  have fl1 : w5.frozen? ⟨w.heap.size + 1 + 1, 1, none⟩ = false := froK gl 1
  have r1 : w5.cell? ⟨w.heap.size + 1, 1, none⟩ = some (.slice none 0 0) := cellK gr 1
  have fr1 : w5.frozen? ⟨w.heap.size + 1, 1, none⟩ = false := froK gr 1
  have fl2 : w5.frozen? ⟨w.heap.size + 1 + 1, 2, none⟩ = false := froK gl 2
  have r2 : w5.cell? ⟨w.heap.size + 1, 2, none⟩ = some (.slice none 0 0) := cellK gr 2
  have fr2 : w5.frozen? ⟨w.heap.size + 1, 2, none⟩ = false := froK gr 2
  have fl3 : w5.frozen? ⟨w.heap.size + 1 + 1, 3, none⟩ = false := froK gl 3
  have r3 : w5.cell? ⟨w.heap.size + 1, 3, none⟩ = some (.slice none 0 0) := cellK gr 3
  have fr3 : w5.frozen? ⟨w.heap.size + 1, 3, none⟩ = false := froK gr 3
  have fl4 : w5.frozen? ⟨w.heap.size + 1 + 1, 4, none⟩ = false := froK gl 4
  have r4 : w5.cell? ⟨w.heap.size + 1, 4, none⟩ = some (.slice none 0 0) := cellK gr 4
  have fr4 : w5.frozen? ⟨w.heap.size + 1, 4, none⟩ = false := froK gr 4
  have fl5 : w5.frozen? ⟨w.heap.size + 1 + 1, 5, none⟩ = false := froK gl 5
  have r5 : w5.cell? ⟨w.heap.size + 1, 5, none⟩ = some (.int .i64 0) := cellK gr 5
  have fr5 : w5.frozen? ⟨w.heap.size + 1, 5, none⟩ = false := froK gr 5
  have px : w5.cell? ⟨w.heap.size, 5, none⟩ = some (.int .i64 c.now) := cellK gx 5
  have GB := hidK gB
  clear gx gr gl gB
  go_wp2
  refine bodyPost_ret (v := .agg #[.slice (some ⟨X0.heap.size, 0, none⟩) d.l1 d.l1, .slice (some ⟨X1.heap.size, 0, none⟩) d.l2 d.l2, .slice (some ⟨X2.heap.size, 0, none⟩) d.l3 d.l3, .slice (some ⟨X3.heap.size, 0, none⟩) d.l4 d.l4, .slice (some ⟨X4.heap.size, 0, none⟩) d.l5 d.l5, .int .i64 c.now]) (by simp [results, Tryz.results8, go_sem, *]) rfl ⟨⟨some ⟨X0.heap.size, 0, none⟩, d.l1, d.l1, some ⟨X1.heap.size, 0, none⟩, d.l2, d.l2, some ⟨X2.heap.size, 0, none⟩, d.l3, d.l3, some ⟨X3.heap.size, 0, none⟩, d.l4, d.l4, some ⟨X4.heap.size, 0, none⟩, d.l5, d.l5⟩, rfl, ?_, set_below (show w.heap.size ≤ w.heap.size + 1 by omega) (set_below (show w.heap.size ≤ w.heap.size + 1 by omega) (set_below (show w.heap.size ≤ w.heap.size + 1 by omega) (set_below (show w.heap.size ≤ w.heap.size + 1 by omega) (set_below (show w.heap.size ≤ w.heap.size + 1 by omega) (set_below (show w.heap.size ≤ w.heap.size + 1 by omega) (set_below (show w.heap.size ≤ w.heap.size + 1 + 1 by omega) (set_below (show w.heap.size ≤ w.heap.size + 1 + 1 by omega) (GB.out))))))))⟩
  have keep : ∀ k, w.heap.size + 1 + 1 < k → ∀ (W : World), True → (W.heap[k]? = W.heap[k]?) := fun _ _ _ _ => rfl
  clear keep
  have same : ∀ k, w.heap.size + 1 + 1 < k → ((((((((w5.setCell ⟨w.heap.size + 1 + 1, 4, none⟩ (.slice (some ⟨X4.heap.size, 0, none⟩) d.l5 d.l5)).setCell ⟨w.heap.size + 1 + 1, 5, none⟩ (.int .i64 c.now)).setCell ⟨w.heap.size + 1, 0, none⟩ (.slice (some ⟨X0.heap.size, 0, none⟩) d.l1 d.l1)).setCell ⟨w.heap.size + 1, 1, none⟩ (.slice (some ⟨X1.heap.size, 0, none⟩) d.l2 d.l2)).setCell ⟨w.heap.size + 1, 2, none⟩ (.slice (some ⟨X2.heap.size, 0, none⟩) d.l3 d.l3)).setCell ⟨w.heap.size + 1, 3, none⟩ (.slice (some ⟨X3.heap.size, 0, none⟩) d.l4 d.l4)).setCell ⟨w.heap.size + 1, 4, none⟩ (.slice (some ⟨X4.heap.size, 0, none⟩) d.l5 d.l5)).setCell ⟨w.heap.size + 1, 5, none⟩ (.int .i64 c.now)).heap[k]? = w5.heap[k]? := fun k hk => by
    rw [Below.heap_setCell _ _ _ _ (show k ≠ w.heap.size + 1 by omega), Below.heap_setCell _ _ _ _ (show k ≠ w.heap.size + 1 by omega), Below.heap_setCell _ _ _ _ (show k ≠ w.heap.size + 1 by omega), Below.heap_setCell _ _ _ _ (show k ≠ w.heap.size + 1 by omega), Below.heap_setCell _ _ _ _ (show k ≠ w.heap.size + 1 by omega), Below.heap_setCell _ _ _ _ (show k ≠ w.heap.size + 1 by omega), Below.heap_setCell _ _ _ _ (show k ≠ w.heap.size + 1 + 1 by omega), Below.heap_setCell _ _ _ _ (show k ≠ w.heap.size + 1 + 1 by omega)]
  refine ⟨fun k => if k < w1.heap.size then 1 else if k < w2.heap.size then 2 else if k < w3.heap.size then 3 else if k < w4.heap.size then 4 else 5, ?_, ?_, ?_, ?_, ?_⟩
  · refine Q1.out.keep (fun k hk s => same k (by have h9 : X0.heap.size ≤ k := s.1; omega)) (fun k hk s => ⟨?_, ?_⟩)
    · have h9 : X0.heap.size ≤ k := s.1
      show w.heap.size ≤ k
      omega
    · have h9 : X0.heap.size ≤ k := s.1
      have h8 : k < w1.heap.size := s.2
      show (if k < w1.heap.size then 1 else if k < w2.heap.size then 2 else if k < w3.heap.size then 3 else if k < w4.heap.size then 4 else 5) = 1
      rw [if_pos h8]
  · refine Q2.out.keep (fun k hk s => same k (by have h9 : X1.heap.size ≤ k := s.1; omega)) (fun k hk s => ⟨?_, ?_⟩)
    · have h9 : X1.heap.size ≤ k := s.1
      show w.heap.size ≤ k
      omega
    · have h9 : X1.heap.size ≤ k := s.1
      have h8 : k < w2.heap.size := s.2
      show (if k < w1.heap.size then 1 else if k < w2.heap.size then 2 else if k < w3.heap.size then 3 else if k < w4.heap.size then 4 else 5) = 2
      rw [if_neg (by omega)]; rw [if_pos h8]
  · refine Q3.out.keep (fun k hk s => same k (by have h9 : X2.heap.size ≤ k := s.1; omega)) (fun k hk s => ⟨?_, ?_⟩)
    · have h9 : X2.heap.size ≤ k := s.1
      show w.heap.size ≤ k
      omega
    · have h9 : X2.heap.size ≤ k := s.1
      have h8 : k < w3.heap.size := s.2
      show (if k < w1.heap.size then 1 else if k < w2.heap.size then 2 else if k < w3.heap.size then 3 else if k < w4.heap.size then 4 else 5) = 3
      rw [if_neg (by omega)]; rw [if_neg (by omega)]; rw [if_pos h8]
  · refine Q4.out.keep (fun k hk s => same k (by have h9 : X3.heap.size ≤ k := s.1; omega)) (fun k hk s => ⟨?_, ?_⟩)
    · have h9 : X3.heap.size ≤ k := s.1
      show w.heap.size ≤ k
      omega
    · have h9 : X3.heap.size ≤ k := s.1
      have h8 : k < w4.heap.size := s.2
      show (if k < w1.heap.size then 1 else if k < w2.heap.size then 2 else if k < w3.heap.size then 3 else if k < w4.heap.size then 4 else 5) = 4
      rw [if_neg (by omega)]; rw [if_neg (by omega)]; rw [if_neg (by omega)]; rw [if_pos h8]
  · refine P5.out.keep (fun k hk s => same k (by have h9 : X4.heap.size ≤ k := s; omega)) (fun k hk s => ⟨?_, ?_⟩)
    · have h9 : X4.heap.size ≤ k := s
      show w.heap.size ≤ k
      omega
    · have h9 : X4.heap.size ≤ k := s
      show (if k < w1.heap.size then 1 else if k < w2.heap.size then 2 else if k < w3.heap.size then 3 else if k < w4.heap.size then 4 else 5) = 5
      rw [if_neg (by omega)]; rw [if_neg (by omega)]; rw [if_neg (by omega)]; rw [if_neg (by omega)]; skip

def LFr (w : World) (h : Nat) (S : Nat → Prop) (zs : List ByteArray) (v : Value) : Prop :=
  ∃ a len cap, v = .slice a len cap ∧ zs.length = len ∧ len ≤ cap ∧ cap ≤ 9223372036854775807 ∧ (∀ (j : Nat) x, zs[j]? = some x → x.size ≤ 9223372036854775807) ∧
    (zs = [] ∨ (a = some ⟨h, 0, none⟩ ∧ S h ∧ ∃ cu, w.heap[h]? = some (.cells cu 9 (0, 0)) ∧ ∀ (j : Nat) x, zs[j]? = some x → cu[j]? = some (.string x)))
theorem LFr.keep {w w' : World} {h : Nat} {S S' : Nat → Prop} {zs : List ByteArray} {v : Value} (k : LFr w h S zs v) (hk : ∀ cu, S h → w.heap[h]? = some (.cells cu 9 (0, 0)) → w'.heap[h]? = w.heap[h]?) (hs : h < w.heap.size → S h → S' h) : LFr w' h S' zs v := by
  obtain ⟨a', l', c', h1, h2, h3, h4, h5, h6⟩ := k
  refine ⟨a', l', c', h1, h2, h3, h4, h5, h6.imp id ?_⟩
  rintro ⟨q1, q2, cu, q4, q5⟩
  exact ⟨q1, hs (lt_of_some q4) q2, cu, (hk cu q2 q4).trans q4, q5⟩
theorem LFr.row {w : World} {h : Nat} {S : Nat → Prop} {zs : List ByteArray} {a : Option Addr} {len cap : Nat} (k : LFr w h S zs (.slice a len cap)) : TxRow w a len cap zs := by
  obtain ⟨a', l', c', h1, h2, h3, h4, h5, h6⟩ := k
  cases h1
  refine ⟨h2, h3, h4, h5, h6.imp id ?_⟩
  rintro ⟨q1, q2, cu, q4, q5⟩
  exact ⟨h, 0, q1, lt_of_some q4, fun j x hx => by rw [Nat.zero_add, cellK q4]; exact q5 j x hx⟩
def Fv.Fr (w : World) (h : Nat) (S : Nat → Prop) : Fv → Value → Prop
  | .s t, v => v = .string t ∧ t.size ≤ 9223372036854775807
  | .i n, v => v = .int .i64 n
  | .b x, v => v = .bool x
  | .l zs, v => LFr w h S zs v
theorem Fv.Fr.keep {w w' : World} {h : Nat} {S S' : Nat → Prop} {f : Fv} {v : Value} (k : f.Fr w h S v) (hk : ∀ cu, S h → w.heap[h]? = some (.cells cu 9 (0, 0)) → w'.heap[h]? = w.heap[h]?) (hs : h < w.heap.size → S h → S' h) : f.Fr w' h S' v := by
  cases f with
  | l zs => exact LFr.keep k hk hs
  | _ => exact k
theorem Fv.Fr.own {w : World} {h g : Nat} {S : Nat → Prop} {f : Fv} {v : Value} {cur : Array Value} {T : TypeId} (k : f.Fr w h S v) (hg : w.heap[g]? = some (.cells cur T (0, 0))) (hT : ¬ T = 9) : f.Own w h S g v := by
  cases f with
  | l zs =>
    obtain ⟨a', l', c', h1, h2, h3, h4, h5, h6⟩ := k
    refine ⟨a', l', c', h1, h2, h3, h4, h5, h6.imp id ?_⟩
    rintro ⟨q1, q2, cu, q4, q5⟩
    refine ⟨q1, q2, ?_, cu, q4, q5⟩
    rintro rfl
    rw [hg] at q4
    cases q4
    exact hT rfl
  | _ => exact k
theorem Fv.Own.fr {w : World} {h g : Nat} {S : Nat → Prop} {f : Fv} {v : Value} (k : f.Own w h S g v) : f.Fr w h S v := by
  cases f with
  | l zs =>
    obtain ⟨a', l', c', h1, h2, h3, h4, h5, h6⟩ := k
    refine ⟨a', l', c', h1, h2, h3, h4, h5, h6.imp id ?_⟩
    rintro ⟨q1, q2, q3, cu, q4, q5⟩
    exact ⟨q1, q2, cu, q4, q5⟩
  | _ => exact k
theorem Fv.Fr.one {w : World} {h : Nat} {S : Nat → Prop} {f : Fv} {v : Value} (k : f.Fr w h S v) : v.oneCell' = true := by
  cases f with
  | l zs => obtain ⟨a', l', c', rfl, _⟩ := k; rfl
  | s t => obtain ⟨rfl, _⟩ := k; rfl
  | i n => cases (show v = .int .i64 n from k); rfl
  | b x => cases (show v = .bool x from k); rfl

structure VRecs (w : World) (S : Nat → Prop) (m : Nat) (rs : List (List Fv)) (vss : List (List Value)) (H : Nat → Nat → Nat) : Prop where
  len : vss.length = rs.length
  all : ∀ (j : Nat) vs, vss[j]? = some vs → vs.length = m
  rl : ∀ (j : Nat) r, rs[j]? = some r → r.length = m
  cell : ∀ (j : Nat) r vs, rs[j]? = some r → vss[j]? = some vs → ∀ (i : Nat) f, r[i]? = some f → ∃ v, vs[i]? = some v ∧ f.Fr w (H j i) S v
  inj : ∀ (j : Nat) r (i : Nat) zs (j' : Nat) r' (i' : Nat) zs', rs[j]? = some r → r[i]? = some (.l zs) → zs ≠ [] → rs[j']? = some r' → r'[i']? = some (.l zs') → zs' ≠ [] → H j i = H j' i' → j = j' ∧ i = i'

section
variable {w w' : World} {S S' : Nat → Prop} {m : Nat} {rs : List (List Fv)} {vss : List (List Value)} {H : Nat → Nat → Nat}
theorem VRecs.nil (w : World) (S : Nat → Prop) (m : Nat) (H : Nat → Nat → Nat) : VRecs w S m [] [] H := ⟨rfl, fun j vs h => by simp at h, fun j r h => by simp at h, fun j r vs h => by simp at h, fun j r i zs j' r' i' zs' h => by simp at h⟩
theorem VRecs.keep (h : VRecs w S m rs vss H) (hk : ∀ k cu, S k → w.heap[k]? = some (.cells cu 9 (0, 0)) → w'.heap[k]? = w.heap[k]?) (hs : ∀ k, k < w.heap.size → S k → S' k) : VRecs w' S' m rs vss H :=
  ⟨h.len, h.all, h.rl, fun j r vs h1 h2 i f h3 => by
    obtain ⟨v, h4, h5⟩ := h.cell j r vs h1 h2 i f h3
    exact ⟨v, h4, h5.keep (hk _) (hs _)⟩, h.inj⟩
theorem VRecs.grown (h : VRecs w S m rs vss H) {base n : Nat} {T : TypeId} {v : Value} {xs : List Value} (ho : w.ownsRow base T m v n xs) (hT : ¬ T = 9) (hg : w.grownBy w' v.ownBlock) : VRecs w' S m rs vss H := by
  refine h.keep (fun k cu _ q => hg.block k (lt_of_some q) (fun e => ?_)) (fun _ _ s => s)
  rcases ho.2 with ⟨rfl, _⟩ | ⟨g, cap, cur, rfl, _, hgg, _⟩
  · cases e
  · cases e
    simp only [] at q
    rw [hgg] at q
    cases q
    exact hT rfl
theorem VRecs.push (h : VRecs w S m rs vss H) {r : List Fv} {vs : List Value} {hh : Nat → Nat} (hr : r.length = m) (hvs : vs.length = m) (hc : ∀ (i : Nat) f, r[i]? = some f → ∃ v, vs[i]? = some v ∧ f.Fr w (hh i) S v)
    (hn : ∀ (i : Nat) zs, r[i]? = some (.l zs) → zs ≠ [] → ∀ (j : Nat) r' (i' : Nat) zs', rs[j]? = some r' → r'[i']? = some (.l zs') → zs' ≠ [] → ¬ H j i' = hh i)
    (h1 : ∀ (i i' : Nat) zs zs', r[i]? = some (.l zs) → zs ≠ [] → r[i']? = some (.l zs') → zs' ≠ [] → i = i') :
    VRecs w S m (rs ++ [r]) (vss ++ [vs]) (fun j => if j = rs.length then hh else H j) := by
  have at1 : ∀ {α : Type} {l : List α} {x y : α} {j : Nat}, (l ++ [x])[j]? = some y → (j = l.length ∧ y = x) ∨ (j < l.length ∧ l[j]? = some y) := by
    intro α l x y j hj
    by_cases e : j < l.length
    · rw [List.getElem?_append_left e] at hj; exact .inr ⟨e, hj⟩
    · rw [List.getElem?_append_right (by omega)] at hj
      rcases Nat.eq_zero_or_pos (j - l.length) with e0 | e0
      · rw [e0] at hj; exact .inl ⟨by omega, by simpa using hj.symm⟩
      · rw [List.getElem?_eq_none (by simp; omega)] at hj; cases hj
  refine ⟨by simp [h.len], fun j v hv => ?_, fun j r' hj => ?_, fun j r' v hj hv i f hf => ?_, fun j r1 i zs j' r2 i' zs' a1 a2 a3 b1 b2 b3 e => ?_⟩
  · rcases at1 hv with ⟨_, rfl⟩ | ⟨_, hv⟩
    · exact hvs
    · exact h.all j v hv
  · rcases at1 hj with ⟨_, rfl⟩ | ⟨_, hj⟩
    · exact hr
    · exact h.rl j r' hj
  · rcases at1 hj with ⟨e1, rfl⟩ | ⟨e1, hj⟩
    · rcases at1 hv with ⟨_, rfl⟩ | ⟨e2, hv⟩
      · simp only [e1, if_true]; exact hc i f hf
      · have := h.len; omega
    · rcases at1 hv with ⟨e2, rfl⟩ | ⟨e2, hv⟩
      · have := h.len; omega
      · simp only [if_neg (show ¬ j = rs.length by omega)]
        exact h.cell j r' v hj hv i f hf
  · rcases at1 a1 with ⟨e1, rfl⟩ | ⟨e1, a4⟩ <;> rcases at1 b1 with ⟨e2, rfl⟩ | ⟨e2, b4⟩
    · exact ⟨by omega, h1 _ _ _ _ a2 a3 b2 b3⟩
    · simp only [e1, if_true, if_neg (show ¬ j' = rs.length by omega)] at e
      exact absurd e.symm (hn i zs a2 a3 j' r2 i' zs' b4 b2 b3)
    · simp only [e2, if_true, if_neg (show ¬ j = rs.length by omega)] at e
      exact absurd e (hn i' zs' b2 b3 j r1 i zs a4 a2 a3)
    · simp only [if_neg (show ¬ j = rs.length by omega), if_neg (show ¬ j' = rs.length by omega)] at e
      exact h.inj j r1 i zs j' r2 i' zs' a4 a2 a3 b4 b2 b3 e
end

theorem flat_at {α : Type} {m : Nat} : ∀ {vss : List (List α)}, (∀ (j : Nat) vs, vss[j]? = some vs → vs.length = m) → ∀ {j : Nat} {vs : List α} {i : Nat} {u : α}, vss[j]? = some vs → vs[i]? = some u → vss.flatten[j * m + i]? = some u
  | [], _, j, vs, i, u, h, _ => by simp at h
  | x :: vss, hl, 0, vs, i, u, h, hu => by
    obtain rfl : x = vs := by simpa using h
    have hx := hl 0 x rfl
    have hi := (List.getElem?_eq_some_iff.1 hu).1
    rw [List.flatten_cons, List.getElem?_append_left (by omega), Nat.zero_mul, Nat.zero_add]
    exact hu
  | x :: vss, hl, j + 1, vs, i, u, h, hu => by
    have hx := hl 0 x rfl
    rw [List.flatten_cons, List.getElem?_append_right (by rw [hx, Nat.succ_mul]; omega), hx, show (j + 1) * m + i - m = j * m + i by rw [Nat.succ_mul]; omega]
    exact flat_at (fun j' vs' h' => hl (j' + 1) vs' (by simpa using h')) (by simpa using h) hu
theorem flat_inv {α : Type} {m : Nat} : ∀ {vss : List (List α)}, (∀ (j : Nat) vs, vss[j]? = some vs → vs.length = m) → ∀ {k : Nat} {u : α}, vss.flatten[k]? = some u → ∃ (j i : Nat) (vs : List α), vss[j]? = some vs ∧ vs[i]? = some u ∧ k = j * m + i
  | [], _, k, u, h => by simp at h
  | x :: vss, hl, k, u, h => by
    have hx := hl 0 x rfl
    rw [List.flatten_cons] at h
    by_cases e : k < m
    · rw [List.getElem?_append_left (by omega)] at h
      exact ⟨0, k, x, rfl, h, by omega⟩
    · rw [List.getElem?_append_right (by omega), hx] at h
      obtain ⟨j, i, vs, h1, h2, h3⟩ := flat_inv (fun j' vs' h' => hl (j' + 1) vs' (by simpa using h')) h
      exact ⟨j + 1, i, vs, by simpa using h1, h2, by rw [Nat.succ_mul]; omega⟩
theorem VRecs.one {w : World} {S : Nat → Prop} {m : Nat} {rs : List (List Fv)} {vss : List (List Value)} {H : Nat → Nat → Nat} (h : VRecs w S m rs vss H) : ∀ u ∈ vss.flatten, u.oneCell' = true := by
  intro u hu
  obtain ⟨k, hk, rfl⟩ := List.mem_iff_getElem.1 hu
  obtain ⟨j, i, vs, h1, h2, _⟩ := flat_inv h.all (List.getElem?_eq_getElem hk)
  have hj : j < rs.length := by rw [← h.len]; exact (List.getElem?_eq_some_iff.1 h1).1
  have hr := List.getElem?_eq_getElem hj
  have hi : i < (rs[j]).length := by rw [h.rl j _ hr, ← h.all j vs h1]; exact (List.getElem?_eq_some_iff.1 h2).1
  obtain ⟨v, h3, h4⟩ := h.cell j _ vs hr h1 i _ (List.getElem?_eq_getElem hi)
  rw [h2] at h3
  cases h3
  exact h4.one

theorem VRecs.own {w : World} {S : Nat → Prop} {m : Nat} {T : TypeId} {rs : List (List Fv)} {vss : List (List Value)} {H : Nat → Nat → Nat} (h : VRecs w S m rs vss H) {base n : Nat} {v : Value} (ho : w.ownsRow base T m v n vss.flatten) (hn : n = rs.length) (hT : ¬ T = 9) (hS : ∀ g, v.ownBlock = some g → S g) :
    ∃ a cap, v = .slice a rs.length cap ∧ ROwn w a rs.length cap m T rs S := by
  subst hn
  rcases ho.2 with ⟨rfl, h0⟩ | ⟨g, cap, cur, rfl, _, hgg, h1, h2, h3, h4⟩
  · obtain rfl : rs = [] := List.eq_nil_of_length_eq_zero h0
    exact ⟨none, 0, rfl, ROwn.nil _ _ _ _ _ (by omega)⟩
  · refine ⟨_, cap, rfl, rfl, h1, by unfold maxLen at h2; omega, .inr ⟨g, cur, H, rfl, hgg, hS g rfl, h.rl, fun j r hj i f hi => ?_, h.inj⟩⟩
    have hjl : j < vss.length := by rw [h.len]; exact (List.getElem?_eq_some_iff.1 hj).1
    have hv := List.getElem?_eq_getElem hjl
    obtain ⟨u, h5, h6⟩ := h.cell j r _ hj hv i f hi
    have h7 := flat_at h.all hv h5
    rw [← h4, List.getElem?_take] at h7
    split at h7
    · exact ⟨u, by simpa using h7, h6.own hgg hT⟩
    · cases h7

def Bw (y W : World) : Prop := Below y.heap.size y W
theorem Bw.refl (y : World) : Bw y y := Below.refl _ _
theorem Bw.below {y W W' : World} (h : Bw y W) (hb : Below W.heap.size W W') : Bw y W' := Below.trans h (hb.mono (Below.size h))
theorem Bw.kept {y W W' : World} {S : Nat → Prop} (h : Bw y W) (hk : KeptS S W W') (hs : ∀ k, S k → y.heap.size ≤ k) : Bw y W' := Below.trans h (hk.low (Below.size h) hs)
theorem Bw.out {y W : World} (h : Bw y W) : Below y.heap.size y W := h
theorem Bw.le {y W : World} (h : Bw y W) : y.heap.size ≤ W.heap.size := Below.size h

def TOwn (w : World) (a : Option Addr) (l c : Nat) (zs : List ByteArray) (S : Nat → Prop) : Prop :=
  TxRow w a l c zs ∧ (zs = [] ∨ ∃ g cur, a = some ⟨g, 0, none⟩ ∧ S g ∧ w.heap[g]? = some (.cells cur 9 (0, 0)))
theorem TOwn.keep {w w' : World} {a : Option Addr} {l c : Nat} {zs : List ByteArray} {S S' : Nat → Prop} (h : TOwn w a l c zs S) (hk : ∀ k, k < w.heap.size → S k → w'.heap[k]? = w.heap[k]?) (hs : ∀ k, k < w.heap.size → S k → S' k) : TOwn w' a l c zs S' := by
  obtain ⟨⟨h1, h2, h3, h4, h5⟩, h6⟩ := h
  rcases h6 with rfl | ⟨g, cur, rfl, hS, hg⟩
  · exact ⟨⟨h1, h2, h3, h4, .inl rfl⟩, .inl rfl⟩
  · have hg' := (hk g (lt_of_some hg) hS).trans hg
    refine ⟨⟨h1, h2, h3, h4, h5.imp id ?_⟩, .inr ⟨g, cur, rfl, hs g (lt_of_some hg) hS, hg'⟩⟩
    rintro ⟨b, o, e, hlt, hc⟩
    cases e
    exact ⟨g, 0, rfl, lt_of_some hg', fun j x hx => by have := hc j x hx; rw [cellK hg] at this; rw [cellK hg']; exact this⟩
theorem TOwn.below {w w' : World} {a : Option Addr} {l c : Nat} {zs : List ByteArray} {S : Nat → Prop} (h : TOwn w a l c zs S) (hb : Below w.heap.size w w') : TOwn w' a l c zs S := h.keep (fun k hk _ => hb.block k hk) (fun _ _ s => s)
theorem TOwn.kept {w w' : World} {a : Option Addr} {l c : Nat} {zs : List ByteArray} {S S' : Nat → Prop} (h : TOwn w a l c zs S) (hb : KeptS S' w w') (hd : ∀ k, S k → ¬ S' k) : TOwn w' a l c zs S := h.keep (fun k hk s => hb.block k hk (hd k s)) (fun _ _ s => s)
theorem TOwn.into {w : World} {a : Option Addr} {l c : Nat} {zs : List ByteArray} {S S' : Nat → Prop} (h : TOwn w a l c zs S) (hs : ∀ k, k < w.heap.size → S k → S' k) : TOwn w a l c zs S' := h.keep (fun _ _ _ => rfl) hs
theorem TOwn.row {w : World} {a : Option Addr} {l c : Nat} {zs : List ByteArray} {S : Nat → Prop} (h : TOwn w a l c zs S) : TxRow w a l c zs := h.1
theorem mkN_up : ∀ (r : List Fv) (k : Int), (∀ (i : Nat) zs, r[i]? = some (.l zs) → zs.length ≤ 1048576) → mkN k r ≤ k + r.length * 1048577
  | [], k, _ => by simp [mkN]
  | f :: r, k, h => by
    have h1 := mkN_up r (mkN1 k f) (fun i zs hi => h (i + 1) zs (by simpa using hi))
    have h2 : mkN1 k f ≤ k + 1048577 := by
      cases f with
      | l zs => have := h 0 zs rfl; simp only [mkN1]; omega
      | _ => simp only [mkN1]; omega
    simp only [mkN, List.length_cons]
    omega
theorem mkNs_up {m : Nat} : ∀ (rs : List (List Fv)) (k : Int), (∀ (j : Nat) r, rs[j]? = some r → r.length ≤ m ∧ ∀ (i : Nat) zs, r[i]? = some (.l zs) → zs.length ≤ 1048576) → mkNs k rs ≤ k + rs.length * (m * 1048577)
  | [], k, _ => by simp [mkNs]
  | r :: rs, k, h => by
    have h1 := mkNs_up rs (mkN k r) (fun j r' hj => h (j + 1) r' (by simpa using hj))
    obtain ⟨h2, h3⟩ := h 0 r rfl
    have h4 := mkN_up r k h3
    have h5 : r.length * 1048577 ≤ m * 1048577 := Nat.mul_le_mul_right _ h2
    have h6 : ((rs.length + 1 : Nat) : Int) * (m * 1048577) = rs.length * (m * 1048577) + m * 1048577 := by
      rw [Int.natCast_add]
      simp [Int.add_mul]
    simp only [mkNs, List.length_cons]
    rw [h6]
    omega
theorem flat_fit {α : Type} {F : α → List Fv} {xs : List α} {m : Nat} (hm : ∀ x, (F x).length ≤ m) (hl : ∀ (j : Nat) x, xs[j]? = some x → ∀ (i : Nat) zs, (F x)[i]? = some (.l zs) → zs.length ≤ 1048576) (hx : xs.length ≤ 1048576) (hm8 : m ≤ 8) (k : Int) : mkNs k (xs.map F) ≤ k + 8796101410816 := by
  have h := mkNs_up (m := m) (xs.map F) k (fun j r hj => by
    rw [List.getElem?_map] at hj
    obtain ⟨x, h1, rfl⟩ := Option.map_eq_some_iff.1 hj
    exact ⟨hm x, hl j x h1⟩)
  rw [List.length_map] at h
  have h2 : xs.length * (m * 1048577) ≤ 1048576 * (8 * 1048577) := Nat.mul_le_mul hx (Nat.mul_le_mul_right _ hm8)
  have h3 : ((xs.length * (m * 1048577) : Nat) : Int) = (xs.length : Int) * ((m : Int) * 1048577) := by rw [Int.natCast_mul, Int.natCast_mul]; rfl
  rw [← h3] at h
  omega
theorem ClFit.marks2 {c : Cl} (h : ClFit c) : mkCn 1 c.raw ≤ 1000000000000000 := by
  have one : ∀ {zs zs' : List ByteArray}, zs.length ≤ 1048576 → some (Fv.l zs) = some (.l zs') → zs'.length ≤ 1048576 := fun h e => by cases e; exact h
  have a1 := fun k => flat_fit (F := ndF) (m := 7) (xs := c.ns) (fun _ => Nat.le_refl _) (fun j x hx i zs hi => by
    rcases i with _ | _ | _ | _ | _ | _ | _ | i <;> first | (simp [ndF] at hi; done) | exact one (h.f1 j x hx) hi) h.l1 (by decide) k
  have a2 := fun k => flat_fit (F := kdF) (m := 4) (xs := c.ks) (fun _ => Nat.le_refl _) (fun j x hx i zs hi => by
    rcases i with _ | _ | _ | _ | i <;> (simp [kdF] at hi)) h.l2 (by decide) k
  have a3 := fun k => flat_fit (F := vdF) (m := 8) (xs := c.vs) (fun _ => Nat.le_refl _) (fun j x hx i zs hi => by
    rcases i with _ | _ | _ | _ | _ | _ | _ | _ | i <;> first | (simp [vdF] at hi; done) | exact one (h.f3 j x hx) hi) h.l3 (by decide) k
  have a4 := fun k => flat_fit (F := xdF) (m := 5) (xs := c.xs) (fun _ => Nat.le_refl _) (fun j x hx i zs hi => by
    rcases i with _ | _ | _ | _ | _ | i <;> (simp [xdF] at hi)) h.l4 (by decide) k
  have a5 := fun k => flat_fit (F := pdF) (m := 6) (xs := c.ps) (fun _ => Nat.le_refl _) (fun j x hx i zs hi => by
    rcases i with _ | _ | _ | _ | _ | _ | i <;> first | (simp [pdF] at hi; done) | exact one (h.f5 j x hx) hi) h.l5 (by decide) k
  unfold mkCn Cl.raw
  have b1 := a1 1
  have b2 := a2 (mkNs 1 (c.ns.map ndF))
  have b3 := a3 (mkNs (mkNs 1 (c.ns.map ndF)) (c.ks.map kdF))
  have b4 := a4 (mkNs (mkNs (mkNs 1 (c.ns.map ndF)) (c.ks.map kdF)) (c.vs.map vdF))
  have b5 := a5 (mkNs (mkNs (mkNs (mkNs 1 (c.ns.map ndF)) (c.ks.map kdF)) (c.vs.map vdF)) (c.xs.map xdF))
  simp only []
  omega
theorem ClFit.marks {c : Cl} (h : ClFit c) : mkCn 1 c.raw ≤ 1152921504606846976 := Int.le_trans h.marks2 (by decide)

def vZ0 : Vd := ⟨⟨#[]⟩, 0, ⟨#[]⟩, ⟨#[]⟩, false, ⟨#[]⟩, false, []⟩
structure Vo where
  u : Vd
  p : Int
def VolIs (c : Cl) (t : ByteArray) (o : Vo) : Prop :=
  (∃ i, AskWhy c t i ∧ o = ⟨vZ0, codeOf i⟩) ∨ (¬ 8000 < t.size ∧ RightI c ∧ HasX c t ∧ (∀ v, ¬ IsBd c t v) ∧ o = ⟨vZ0, 11⟩) ∨ (¬ 8000 < t.size ∧ RightI c ∧ IsBd c t o.u ∧ o.p = 0)
theorem AskWhy.same {c : Cl} {t : ByteArray} {i j : Nat} (h : AskWhy c t i) (h' : AskWhy c t j) : i = j := by
  rcases i with _ | _ | _ | i <;> rcases j with _ | _ | _ | j <;> simp only [AskWhy] at h h' <;> first | rfl | exact absurd h h'.1 | exact absurd h' h.1 | exact absurd h'.2.1 h.2 | exact absurd h.2.1 h'.2
theorem AskWhy.not {c : Cl} {t : ByteArray} {i : Nat} (h : AskWhy c t i) (h1 : ¬ 8000 < t.size) (h2 : RightI c) (h3 : HasX c t) : False := by
  rcases i with _ | _ | _ | i <;> simp only [AskWhy] at h
  · exact h1 h
  · exact h.2 h2
  · exact h.2.2 h3
theorem IsBd.has {c : Cl} {t : ByteArray} {v : Vd} (h : IsBd c t v) : HasX c t := by
  obtain ⟨i, j, x, h1, h2, _⟩ := h
  exact ⟨i, x, h1, h2⟩
theorem VolIs.same {c : Cl} {t : ByteArray} {o o' : Vo} (h : VolIs c t o) (h' : VolIs c t o') : o = o' := by
  rcases h with ⟨i, a, rfl⟩ | ⟨a1, a2, a3, a4, rfl⟩ | ⟨a1, a2, a3, a4⟩ <;> rcases h' with ⟨j, b, rfl⟩ | ⟨b1, b2, b3, b4, rfl⟩ | ⟨b1, b2, b3, b4⟩
  · rw [a.same b]
  · exact (a.not b1 b2 b3).elim
  · exact (a.not b1 b2 b3.has).elim
  · exact (b.not a1 a2 a3).elim
  · rfl
  · exact absurd b3 (a4 _)
  · exact (b.not a1 a2 a3.has).elim
  · exact absurd a3 (b4 _)
  · have := a3.inj a2.2.1.2.2.2.1.2.2 a2.2.1.2.2.1.2.2 b3
    cases o; cases o'
    simp_all
theorem VolIs.few {c : Cl} {t : ByteArray} {o : Vo} (h : VolIs c t o) (hf : ClFit c) : o.u.zs.length ≤ 1048576 := by
  rcases h with ⟨i, _, rfl⟩ | ⟨_, _, _, _, rfl⟩ | ⟨_, _, ⟨i, j, x, _, _, h3, _⟩, _⟩
  · simp [vZ0]
  · simp [vZ0]
  · exact hf.f3 j _ h3
def VofI (c : Cl) (t : ByteArray) (w : World) (e : Ending) (w' : World) : Prop := ∃ va vl vc o, e = .returned (.agg #[.string o.u.n, .int .i64 o.u.c, .string o.u.z, .string o.u.k, .bool o.u.x, .string o.u.m, .bool o.u.y, .slice va vl vc, .int .i64 o.p]) ∧ VolIs c t o ∧ TOwn w' va vl vc o.u.zs (fun k => w.heap.size ≤ k) ∧ Below w.heap.size w w'
theorem vZ_own (w : World) (S : Nat → Prop) : TOwn w none 0 0 vZ0.zs S := ⟨⟨rfl, Nat.le_refl _, by omega, fun j x hx => by simp [vZ0] at hx, .inl rfl⟩, .inl rfl⟩
theorem names_few0 {zs : List ByteArray} {x : Bool} (h : NamesOk zs (if x = true then 1 else 6)) : zs.length ≤ 6 := by
  have := (names_six h).1
  omega
theorem RightI.few {c : Cl} (h : RightI c) {j : Nat} {v : Vd} (hj : c.vs[j]? = some v) : v.zs.length ≤ 6 := names_few0 (h.2.1.2.2.1.2.1 j v hj).2.2.2.2.2.2
theorem sets9 {w : World} {b k : Nat} {v0 v1 v2 v3 v4 v5 v6 v7 v8 : Value} (hk : ¬ k = b) : (((((((((w.setCell ⟨b, 0, none⟩ v0).setCell ⟨b, 1, none⟩ v1).setCell ⟨b, 2, none⟩ v2).setCell ⟨b, 3, none⟩ v3).setCell ⟨b, 4, none⟩ v4).setCell ⟨b, 5, none⟩ v5).setCell ⟨b, 6, none⟩ v6).setCell ⟨b, 7, none⟩ v7).setCell ⟨b, 8, none⟩ v8).heap[k]? = w.heap[k]? := by
  rw [Below.heap_setCell _ _ _ _ hk, Below.heap_setCell _ _ _ _ hk, Below.heap_setCell _ _ _ _ hk, Below.heap_setCell _ _ _ _ hk, Below.heap_setCell _ _ _ _ hk, Below.heap_setCell _ _ _ _ hk, Below.heap_setCell _ _ _ _ hk, Below.heap_setCell _ _ _ _ hk, Below.heap_setCell _ _ _ _ hk]

set_option maxRecDepth 100000 in
set_option maxHeartbeats 3200000 in
theorem ivof_any (d : Ad) (c : Cl) (t : ByteArray) (E : Nat → Addr) (w : World) (hr : ClRow w d c.raw) (hG : Ers w E) :
    Calls Tryz.prog 17 #[.agg #[.slice d.a1 d.l1 d.c1, .slice d.a2 d.l2 d.c2, .slice d.a3 d.l3 d.c3, .slice d.a4 d.l4 d.c4, .slice d.a5 d.l5 d.c5, .int .i64 c.now], .string t] w (VofI c t w) := by
  have HR := hidK hr
  have HE := hidK hG
  have HB := hidK (Below.refl w.heap.size w)
  clear hr hG
  go_enter Tryz.func17, Tryz.ntmps17
  go_wp2_with fail
  refine (iask_any d c t E _ (HR.out.below (HB.out.trans ((below2 _ _ _).mono HB.out.size))) (HE.out.below (HB.out.trans ((below2 _ _ _).mono HB.out.size)))).mono ?_
  rintro e w1 ⟨hb, hf⟩
  obtain ⟨HA0, HA1, hbx⟩ := slots2 hb
  have Bk := hidK HA0
  have Br := hidK HA1
  replace HB := upB HB hbx
  clear hb hbx HA0 HA1
  rcases hf with ⟨i, hi8, hwhy, rfl⟩ | ⟨hl, hT, x, hx, hn, rfl, z0, z2, z4⟩
  · have HV : Hid (VolIs c t ⟨vZ0, codeOf i⟩) := .inl ⟨i, hwhy, rfl⟩
    clear hwhy
    obtain ⟨k0, k1, k2, k3, k4, k5⟩ := cs6 Bk.out
    have ltk_1 := lt_of_some Bk.out
    obtain ⟨r0, r1, r2, r3, r4, r5, r6, r7, r8⟩ := cs9 Br.out
    have ltr_1 := lt_of_some Br.out
    have fr0 : w1.frozen? ⟨w.heap.size + 1, 0, none⟩ = false := froK Br.out 0
    have fr1 : w1.frozen? ⟨w.heap.size + 1, 1, none⟩ = false := froK Br.out 1
    have fr2 : w1.frozen? ⟨w.heap.size + 1, 2, none⟩ = false := froK Br.out 2
    have fr3 : w1.frozen? ⟨w.heap.size + 1, 3, none⟩ = false := froK Br.out 3
    have fr4 : w1.frozen? ⟨w.heap.size + 1, 4, none⟩ = false := froK Br.out 4
    have fr5 : w1.frozen? ⟨w.heap.size + 1, 5, none⟩ = false := froK Br.out 5
    have fr6 : w1.frozen? ⟨w.heap.size + 1, 6, none⟩ = false := froK Br.out 6
    have fr7 : w1.frozen? ⟨w.heap.size + 1, 7, none⟩ = false := froK Br.out 7
    have fr8 : w1.frozen? ⟨w.heap.size + 1, 8, none⟩ = false := froK Br.out 8
    have hrl : w.heap.size + 1 < w1.heap.size := lt_of_some Br.out
    go_wp2_with fail
    refine (whyCode_any E i _ (HE.out.below (HB.out.trans ((below1 _ _).mono HB.out.size))) hi8).mono ?_
    rintro e w2 ⟨rfl, rfl⟩
    generalize codeOf i = cc at HV ⊢
    go_wp2
    refine bodyPost_ret (v := .agg #[.string ⟨#[]⟩, .int .i64 0, .string ⟨#[]⟩, .string ⟨#[]⟩, .bool false, .string ⟨#[]⟩, .bool false, .slice none 0 0, .int .i64 cc]) (by simp [results, Tryz.results17, go_sem, *]) rfl ⟨_, _, _, ⟨vZ0, cc⟩, rfl, HV.out, vZ_own _ _, Below.alloc (set_below (show w.heap.size ≤ w.heap.size + 1 by omega) (set_below (show w.heap.size ≤ w.heap.size + 1 by omega) (set_below (show w.heap.size ≤ w.heap.size + 1 by omega) (set_below (show w.heap.size ≤ w.heap.size + 1 by omega) (set_below (show w.heap.size ≤ w.heap.size + 1 by omega) (set_below (show w.heap.size ≤ w.heap.size + 1 by omega) (set_below (show w.heap.size ≤ w.heap.size + 1 by omega) (set_below (show w.heap.size ≤ w.heap.size + 1 by omega) (set_below (show w.heap.size ≤ w.heap.size + 1 by omega) (HB.out)))))))))) (by simp [World.setCell]; have := HB.out.size; omega) _⟩
  have HT := hidK hT
  have HX := hidK (And.intro hx hn)
  clear hx hn hT z0 z2 z4
  obtain ⟨k0, k1, k2, k3, k4, k5⟩ := cs6 Bk.out
  have ltk_1 := lt_of_some Bk.out
  go_wp2_with fail
  refine (thevd_any d c.now c.vs x.v w _ HR.out.v (HB.out.trans ((below1 _ _).mono HB.out.size))).mono ?_
  rintro e w2 ⟨hb, hf⟩
  clear k0 k1 k2 k3 k4 k5 ltk_1
  obtain ⟨HA0, hbx⟩ := slots1 hb
  replace Bk := upK Bk hbx
  replace Br := upK Br hbx
  have Bx := hidK HA0
  replace HB := upB HB hbx
  clear hb hbx HA0
  rcases hf with ⟨hh, v, va, vl, vc, hv, hvn, rfl, z0, z2, z3, z5, hvr⟩ | ⟨hh, rfl⟩
  rotate_left
  · have HV : Hid (VolIs c t ⟨vZ0, codeOf 7⟩) := .inr (.inl ⟨hl, HT.out, ⟨_, x, HX.out.1, HX.out.2⟩, ?_, rfl⟩)
    rotate_left
    · rintro v ⟨i, j, y, e1, e2, e3, e4⟩
      obtain ⟨_, rfl⟩ := HT.out.2.1.2.2.2.1.2.2.inj e1 HX.out.1 (e2.trans HX.out.2.symm)
      have := (hit_at HT.out.2.1.2.2.1.2.2 e3 e4).2
      rw [hh] at this
      cases this
    clear hh
    obtain ⟨k0, k1, k2, k3, k4, k5⟩ := cs6 Bk.out
    have ltk_2 := lt_of_some Bk.out
    obtain ⟨r0, r1, r2, r3, r4, r5, r6, r7, r8⟩ := cs9 Br.out
    have ltr_2 := lt_of_some Br.out
    have fr0 : w2.frozen? ⟨w.heap.size + 1, 0, none⟩ = false := froK Br.out 0
    have fr1 : w2.frozen? ⟨w.heap.size + 1, 1, none⟩ = false := froK Br.out 1
    have fr2 : w2.frozen? ⟨w.heap.size + 1, 2, none⟩ = false := froK Br.out 2
    have fr3 : w2.frozen? ⟨w.heap.size + 1, 3, none⟩ = false := froK Br.out 3
    have fr4 : w2.frozen? ⟨w.heap.size + 1, 4, none⟩ = false := froK Br.out 4
    have fr5 : w2.frozen? ⟨w.heap.size + 1, 5, none⟩ = false := froK Br.out 5
    have fr6 : w2.frozen? ⟨w.heap.size + 1, 6, none⟩ = false := froK Br.out 6
    have fr7 : w2.frozen? ⟨w.heap.size + 1, 7, none⟩ = false := froK Br.out 7
    have fr8 : w2.frozen? ⟨w.heap.size + 1, 8, none⟩ = false := froK Br.out 8
    have hrl : w.heap.size + 1 < w2.heap.size := lt_of_some Br.out
    have ev := (HE.out.below HB.out).v7
    have evl := cell_lt ev
    go_wp2_with fail
    refine (whyCode_any E 7 _ (HE.out.below (HB.out.trans ((below1 _ _).mono HB.out.size))) (by decide)).mono ?_
    rintro e w3 ⟨rfl, rfl⟩
    generalize codeOf 7 = cc at HV ⊢
    go_wp2
    refine bodyPost_ret (v := .agg #[.string ⟨#[]⟩, .int .i64 0, .string ⟨#[]⟩, .string ⟨#[]⟩, .bool false, .string ⟨#[]⟩, .bool false, .slice none 0 0, .int .i64 cc]) (by simp [results, Tryz.results17, go_sem, *]) rfl ⟨_, _, _, ⟨vZ0, cc⟩, rfl, HV.out, vZ_own _ _, Below.alloc (set_below (show w.heap.size ≤ w.heap.size + 1 by omega) (set_below (show w.heap.size ≤ w.heap.size + 1 by omega) (set_below (show w.heap.size ≤ w.heap.size + 1 by omega) (set_below (show w.heap.size ≤ w.heap.size + 1 by omega) (set_below (show w.heap.size ≤ w.heap.size + 1 by omega) (set_below (show w.heap.size ≤ w.heap.size + 1 by omega) (set_below (show w.heap.size ≤ w.heap.size + 1 by omega) (set_below (show w.heap.size ≤ w.heap.size + 1 by omega) (set_below (show w.heap.size ≤ w.heap.size + 1 by omega) (HB.out)))))))))) (by simp [World.setCell]; have := HB.out.size; omega) _⟩
  have HRL0 : Hid (w.heap.size + 1 ≤ w2.heap.size) := Nat.le_of_lt (lt_of_some Br.out)
  have HV : Hid (VolIs c t ⟨v, 0⟩) := .inr (.inr ⟨hl, HT.out, ⟨_, _, x, HX.out.1, HX.out.2, hv, hvn⟩, rfl⟩)
  have hz6 : vl ≤ 8001 := by have h1 := hvr.1; have h2 := HT.out.few hv; omega
  have HVR := hidK hvr
  clear hv hvn hh z0 z2 z3 z5 hvr
  obtain ⟨k0, k1, k2, k3, k4, k5⟩ := cs6 Bk.out
  have ltk_2 := lt_of_some Bk.out
  obtain ⟨r0, r1, r2, r3, r4, r5, r6, r7, r8⟩ := cs9 Br.out
  have ltr_2 := lt_of_some Br.out
  go_wp2_with fail
  refine (Ap.iown_any v.n v.c v.z v.k v.x v.m v.y va vl vc v.zs _ (HVR.out.below (HB.out.trans ((below1 _ _).mono HB.out.size))) hz6).mono ?_
  rintro e w3 ⟨a9, l9, c9, rfl, ho1, ho2, hb⟩
  clear k0 k1 k2 k3 k4 k5 ltk_2 r0 r1 r2 r3 r4 r5 r6 r7 r8 ltr_2
  obtain ⟨HA0, hbx⟩ := slots1 hb
  replace Bk := upK Bk hbx
  replace Br := upK Br hbx
  replace Bx := upK Bx hbx
  have Bv := hidK HA0
  replace HB := upB HB hbx
  clear hb hbx HA0
  have hs23 : w2.heap.size < w3.heap.size := lt_of_some Bv.out
  have HO : Hid (TOwn w3 a9 l9 c9 v.zs (fun k => w2.heap.size + 1 ≤ k)) := ⟨ho1, ho2.imp id fun ⟨g, cur, e1, e2, e3⟩ => ⟨g, cur, e1, by simpa using e2, e3⟩⟩
  clear ho1 ho2
  obtain ⟨r0, r1, r2, r3, r4, r5, r6, r7, r8⟩ := cs9 Br.out
  have ltr_3 := lt_of_some Br.out
  have fr0 : w3.frozen? ⟨w.heap.size + 1, 0, none⟩ = false := froK Br.out 0
  have fr1 : w3.frozen? ⟨w.heap.size + 1, 1, none⟩ = false := froK Br.out 1
  have fr2 : w3.frozen? ⟨w.heap.size + 1, 2, none⟩ = false := froK Br.out 2
  have fr3 : w3.frozen? ⟨w.heap.size + 1, 3, none⟩ = false := froK Br.out 3
  have fr4 : w3.frozen? ⟨w.heap.size + 1, 4, none⟩ = false := froK Br.out 4
  have fr5 : w3.frozen? ⟨w.heap.size + 1, 5, none⟩ = false := froK Br.out 5
  have fr6 : w3.frozen? ⟨w.heap.size + 1, 6, none⟩ = false := froK Br.out 6
  have fr7 : w3.frozen? ⟨w.heap.size + 1, 7, none⟩ = false := froK Br.out 7
  have fr8 : w3.frozen? ⟨w.heap.size + 1, 8, none⟩ = false := froK Br.out 8
  have hrl : w.heap.size + 1 < w3.heap.size := lt_of_some Br.out
  have HRL : Hid (w.heap.size + 1 ≤ w2.heap.size) := HRL0.out
  go_wp2
  refine bodyPost_ret (v := .agg #[.string v.n, .int .i64 v.c, .string v.z, .string v.k, .bool v.x, .string v.m, .bool v.y, .slice a9 l9 c9, .int .i64 0]) (by simp [results, Tryz.results17, go_sem, *]) rfl ⟨_, _, _, ⟨v, 0⟩, rfl, HV.out, HO.out.keep (fun k _ s => sets9 (by have s1 : w2.heap.size + 1 ≤ k := s; have := HRL.out; omega)) (fun k _ s => by have s1 : w2.heap.size + 1 ≤ k := s; have := HRL.out; show w.heap.size ≤ k; omega), set_below (show w.heap.size ≤ w.heap.size + 1 by omega) (set_below (show w.heap.size ≤ w.heap.size + 1 by omega) (set_below (show w.heap.size ≤ w.heap.size + 1 by omega) (set_below (show w.heap.size ≤ w.heap.size + 1 by omega) (set_below (show w.heap.size ≤ w.heap.size + 1 by omega) (set_below (show w.heap.size ≤ w.heap.size + 1 by omega) (set_below (show w.heap.size ≤ w.heap.size + 1 by omega) (set_below (show w.heap.size ≤ w.heap.size + 1 by omega) (set_below (show w.heap.size ≤ w.heap.size + 1 by omega) (HB.out)))))))))⟩

set_option maxRecDepth 100000 in
set_option maxHeartbeats 3200000 in
theorem svof_any (d : Ad) (c : Cl) (t : ByteArray) (w : World) (hr : ClRow w d c.raw) :
    Calls Tryz.prog 16 #[.agg #[.slice d.a1 d.l1 d.c1, .slice d.a2 d.l2 d.c2, .slice d.a3 d.l3 d.c3, .slice d.a4 d.l4 d.c4, .slice d.a5 d.l5 d.c5, .int .i64 c.now], .string t] w (VofI c t w) := by
  obtain ⟨a1, l1, y1, a2, l2, y2, a3, l3, y3, a4, l4, y4, a5, l5, y5⟩ := d
  dsimp only
  have HR := hidK hr
  have hl1 : c.ns.length = l1 := by simpa using (show (c.ns.map ndF).length = l1 from hr.n.1)
  have hm1 : l1 ≤ 9223372036854775807 := Nat.le_trans hr.n.2.1 hr.n.2.2.1
  have hl2 : c.ks.length = l2 := by simpa using (show (c.ks.map kdF).length = l2 from hr.k.1)
  have hm2 : l2 ≤ 9223372036854775807 := Nat.le_trans hr.k.2.1 hr.k.2.2.1
  have hl3 : c.vs.length = l3 := by simpa using (show (c.vs.map vdF).length = l3 from hr.v.1)
  have hm3 : l3 ≤ 9223372036854775807 := Nat.le_trans hr.v.2.1 hr.v.2.2.1
  have hl4 : c.xs.length = l4 := by simpa using (show (c.xs.map xdF).length = l4 from hr.x.1)
  have hm4 : l4 ≤ 9223372036854775807 := Nat.le_trans hr.x.2.1 hr.x.2.2.1
  have hl5 : c.ps.length = l5 := by simpa using (show (c.ps.map pdF).length = l5 from hr.p.1)
  have hm5 : l5 ≤ 9223372036854775807 := Nat.le_trans hr.p.2.1 hr.p.2.2.1
  clear hr
  have HB := hidK (Below.refl w.heap.size w)
  go_enter Tryz.func16, Tryz.ntmps16
  go_wp2_with fail
  refine (sbeg_any ⟨a1, l1, y1, a2, l2, y2, a3, l3, y3, a4, l4, y4, a5, l5, y5⟩ c t _ (HR.out.below (HB.out.trans ((below2 _ _ _).mono HB.out.size)))).mono ?_
  rintro e w1 ⟨p, rfl, hp, hb⟩
  obtain ⟨HA0, HA1, hbx⟩ := slots2 hb
  have Bk := hidK HA0
  have Br := hidK HA1
  replace HB := upB HB hbx
  clear hb hbx HA0 HA1
  have hp0 : (¬ p = 0 ∧ VolIs c t ⟨vZ0, p⟩) ∨ (p = 0 ∧ ¬ 8000 < t.size ∧ RightI c) := by
    rcases hp with ⟨h1, rfl⟩ | ⟨h1, h2, rfl⟩ | ⟨h1, h2, rfl⟩
    · exact .inl ⟨by decide, .inl ⟨0, h1, rfl⟩⟩
    · exact .inl ⟨by decide, .inl ⟨1, ⟨h1, h2⟩, rfl⟩⟩
    · exact .inr ⟨rfl, h1, h2⟩
  clear hp
  rcases hp0 with ⟨hp0, hV⟩ | ⟨rfl, hl, hT⟩
  · have HV := hidK hV
    clear hV
    have hp1 : (p == 0) = false := by simpa using hp0
    obtain ⟨k0, k1, k2, k3, k4, k5⟩ := cs6 Bk.out
    have ltk_1 := lt_of_some Bk.out
    obtain ⟨r0, r1, r2, r3, r4, r5, r6, r7, r8⟩ := cs9 Br.out
    have ltr_1 := lt_of_some Br.out
    have fr0 : w1.frozen? ⟨w.heap.size + 1, 0, none⟩ = false := froK Br.out 0
    have fr1 : w1.frozen? ⟨w.heap.size + 1, 1, none⟩ = false := froK Br.out 1
    have fr2 : w1.frozen? ⟨w.heap.size + 1, 2, none⟩ = false := froK Br.out 2
    have fr3 : w1.frozen? ⟨w.heap.size + 1, 3, none⟩ = false := froK Br.out 3
    have fr4 : w1.frozen? ⟨w.heap.size + 1, 4, none⟩ = false := froK Br.out 4
    have fr5 : w1.frozen? ⟨w.heap.size + 1, 5, none⟩ = false := froK Br.out 5
    have fr6 : w1.frozen? ⟨w.heap.size + 1, 6, none⟩ = false := froK Br.out 6
    have fr7 : w1.frozen? ⟨w.heap.size + 1, 7, none⟩ = false := froK Br.out 7
    have fr8 : w1.frozen? ⟨w.heap.size + 1, 8, none⟩ = false := froK Br.out 8
    go_wp2
    refine bodyPost_ret (v := .agg #[.string ⟨#[]⟩, .int .i64 0, .string ⟨#[]⟩, .string ⟨#[]⟩, .bool false, .string ⟨#[]⟩, .bool false, .slice none 0 0, .int .i64 p]) (by simp [results, Tryz.results16, go_sem, *]) rfl ⟨_, _, _, ⟨vZ0, p⟩, rfl, HV.out, vZ_own _ _, set_below (show w.heap.size ≤ w.heap.size + 1 by omega) (set_below (show w.heap.size ≤ w.heap.size + 1 by omega) (set_below (show w.heap.size ≤ w.heap.size + 1 by omega) (set_below (show w.heap.size ≤ w.heap.size + 1 by omega) (set_below (show w.heap.size ≤ w.heap.size + 1 by omega) (set_below (show w.heap.size ≤ w.heap.size + 1 by omega) (set_below (show w.heap.size ≤ w.heap.size + 1 by omega) (set_below (show w.heap.size ≤ w.heap.size + 1 by omega) (set_below (show w.heap.size ≤ w.heap.size + 1 by omega) (HB.out)))))))))⟩
  have HT := hidK hT
  clear hT
  obtain ⟨k0, k1, k2, k3, k4, k5⟩ := cs6 Bk.out
  have ltk_1 := lt_of_some Bk.out
  go_wp2_with fail
  refine (sxxd_any ⟨a1, l1, y1, a2, l2, y2, a3, l3, y3, a4, l4, y4, a5, l5, y5⟩ c.now c.xs t _ (HR.out.x.below HB.out)).mono ?_
  rintro e w2 ⟨hb, hf⟩
  clear k0 k1 k2 k3 k4 k5 ltk_1
  replace Bk := upK Bk hb
  replace Br := upK Br hb
  replace HB := upB HB hb
  clear hb
  rcases hf with ⟨i, x, hx, hn, rfl⟩ | ⟨hno, rfl⟩
  rotate_left
  · have HV : Hid (VolIs c t ⟨vZ0, 6⟩) := .inl ⟨2, ⟨hl, HT.out, fun ⟨i, x, h1, h2⟩ => hno i x h1 h2⟩, rfl⟩
    clear hno
    obtain ⟨k0, k1, k2, k3, k4, k5⟩ := cs6 Bk.out
    have ltk_2 := lt_of_some Bk.out
    obtain ⟨r0, r1, r2, r3, r4, r5, r6, r7, r8⟩ := cs9 Br.out
    have ltr_2 := lt_of_some Br.out
    have fr0 : w2.frozen? ⟨w.heap.size + 1, 0, none⟩ = false := froK Br.out 0
    have fr1 : w2.frozen? ⟨w.heap.size + 1, 1, none⟩ = false := froK Br.out 1
    have fr2 : w2.frozen? ⟨w.heap.size + 1, 2, none⟩ = false := froK Br.out 2
    have fr3 : w2.frozen? ⟨w.heap.size + 1, 3, none⟩ = false := froK Br.out 3
    have fr4 : w2.frozen? ⟨w.heap.size + 1, 4, none⟩ = false := froK Br.out 4
    have fr5 : w2.frozen? ⟨w.heap.size + 1, 5, none⟩ = false := froK Br.out 5
    have fr6 : w2.frozen? ⟨w.heap.size + 1, 6, none⟩ = false := froK Br.out 6
    have fr7 : w2.frozen? ⟨w.heap.size + 1, 7, none⟩ = false := froK Br.out 7
    have fr8 : w2.frozen? ⟨w.heap.size + 1, 8, none⟩ = false := froK Br.out 8
    go_wp2
    refine bodyPost_ret (v := .agg #[.string ⟨#[]⟩, .int .i64 0, .string ⟨#[]⟩, .string ⟨#[]⟩, .bool false, .string ⟨#[]⟩, .bool false, .slice none 0 0, .int .i64 6]) (by simp [results, Tryz.results16, go_sem, *]) rfl ⟨_, _, _, ⟨vZ0, 6⟩, rfl, HV.out, vZ_own _ _, set_below (show w.heap.size ≤ w.heap.size + 1 by omega) (set_below (show w.heap.size ≤ w.heap.size + 1 by omega) (set_below (show w.heap.size ≤ w.heap.size + 1 by omega) (set_below (show w.heap.size ≤ w.heap.size + 1 by omega) (set_below (show w.heap.size ≤ w.heap.size + 1 by omega) (set_below (show w.heap.size ≤ w.heap.size + 1 by omega) (set_below (show w.heap.size ≤ w.heap.size + 1 by omega) (set_below (show w.heap.size ≤ w.heap.size + 1 by omega) (set_below (show w.heap.size ≤ w.heap.size + 1 by omega) (HB.out)))))))))⟩
  have HX := hidK (show HasX c t from ⟨i, x, hx, hn⟩)
  clear hx hn
  have hi0 : ¬ (i : Int) < 0 := by omega
  obtain ⟨k0, k1, k2, k3, k4, k5⟩ := cs6 Bk.out
  have ltk_2 := lt_of_some Bk.out
  go_wp2_with fail
  refine (sbind_any ⟨a1, l1, y1, a2, l2, y2, a3, l3, y3, a4, l4, y4, a5, l5, y5⟩ c t _ (HR.out.below HB.out) HT.out.2.1.2.2.2.1.2.2 HT.out.2.1.2.2.1.2.2 HT.out.2.1.ne).mono ?_
  rintro e w3 ⟨hb, hf⟩
  clear k0 k1 k2 k3 k4 k5 ltk_2
  replace Bk := upK Bk hb
  replace Br := upK Br hb
  replace HB := upB HB hb
  clear hb
  clear hi0
  rcases hf with ⟨j, v, hv, hbd, rfl⟩ | ⟨hno, rfl⟩
  rotate_left
  · have HV : Hid (VolIs c t ⟨vZ0, 11⟩) := .inr (.inl ⟨hl, HT.out, HX.out, hno, rfl⟩)
    clear hno
    obtain ⟨k0, k1, k2, k3, k4, k5⟩ := cs6 Bk.out
    have ltk_3 := lt_of_some Bk.out
    obtain ⟨r0, r1, r2, r3, r4, r5, r6, r7, r8⟩ := cs9 Br.out
    have ltr_3 := lt_of_some Br.out
    have fr0 : w3.frozen? ⟨w.heap.size + 1, 0, none⟩ = false := froK Br.out 0
    have fr1 : w3.frozen? ⟨w.heap.size + 1, 1, none⟩ = false := froK Br.out 1
    have fr2 : w3.frozen? ⟨w.heap.size + 1, 2, none⟩ = false := froK Br.out 2
    have fr3 : w3.frozen? ⟨w.heap.size + 1, 3, none⟩ = false := froK Br.out 3
    have fr4 : w3.frozen? ⟨w.heap.size + 1, 4, none⟩ = false := froK Br.out 4
    have fr5 : w3.frozen? ⟨w.heap.size + 1, 5, none⟩ = false := froK Br.out 5
    have fr6 : w3.frozen? ⟨w.heap.size + 1, 6, none⟩ = false := froK Br.out 6
    have fr7 : w3.frozen? ⟨w.heap.size + 1, 7, none⟩ = false := froK Br.out 7
    have fr8 : w3.frozen? ⟨w.heap.size + 1, 8, none⟩ = false := froK Br.out 8
    go_wp2
    refine bodyPost_ret (v := .agg #[.string ⟨#[]⟩, .int .i64 0, .string ⟨#[]⟩, .string ⟨#[]⟩, .bool false, .string ⟨#[]⟩, .bool false, .slice none 0 0, .int .i64 11]) (by simp [results, Tryz.results16, go_sem, *]) rfl ⟨_, _, _, ⟨vZ0, 11⟩, rfl, HV.out, vZ_own _ _, set_below (show w.heap.size ≤ w.heap.size + 1 by omega) (set_below (show w.heap.size ≤ w.heap.size + 1 by omega) (set_below (show w.heap.size ≤ w.heap.size + 1 by omega) (set_below (show w.heap.size ≤ w.heap.size + 1 by omega) (set_below (show w.heap.size ≤ w.heap.size + 1 by omega) (set_below (show w.heap.size ≤ w.heap.size + 1 by omega) (set_below (show w.heap.size ≤ w.heap.size + 1 by omega) (set_below (show w.heap.size ≤ w.heap.size + 1 by omega) (set_below (show w.heap.size ≤ w.heap.size + 1 by omega) (HB.out)))))))))⟩
  have HV : Hid (VolIs c t ⟨v, 0⟩) := .inr (.inr ⟨hl, HT.out, hbd, rfl⟩)
  clear hbd
  have hlt : j < l3 := by have := (List.getElem?_eq_some_iff.1 hv).1; omega
  have hj0 : ¬ (j : Int) < 0 := by omega
  have HVV := hidK hv
  clear hv
  obtain ⟨b, o, y, rfl, hb, hx, hat⟩ := vd_at (HR.out.v.below HB.out) hlt
  obtain ⟨va, vl, vc, hvr, z0, z2, z3, z5, c0, c1, c2, c3, c4, c5, c6, c7⟩ := vd_cells hat
  have HXy := hidK hx
  have HTy := hidK hvr
  have HZy0 := hidK z0
  have HZy2 := hidK z2
  have HZy3 := hidK z3
  have HZy5 := hidK z5
  clear hat hx z0 z2 z3 z5 hvr
  obtain rfl : y = v := Option.some.inj (HXy.out.symm.trans HVV.out)
  have hz6 : vl ≤ 8001 := by have h1 := HTy.out.1; have h2 := HT.out.few HVV.out; omega
  obtain ⟨k0, k1, k2, k3, k4, k5⟩ := cs6 Bk.out
  have ltk_3 := lt_of_some Bk.out
  have hrl0 : w.heap.size + 1 < w3.heap.size := lt_of_some Br.out
  go_wp2_with fail
  refine (Ap.scopy_any y.n y.c y.z y.k y.x y.m y.y va vl vc y.zs _ HTy.out hz6).mono ?_
  rintro e w4 ⟨a9, l9, c9, rfl, ho1, ho2, hb4⟩
  clear hb c0 c1 c2 c3 c4 c5 c6 c7
  clear k0 k1 k2 k3 k4 k5 ltk_3
  replace Bk := upK Bk hb4
  replace Br := upK Br hb4
  replace HB := upB HB hb4
  clear hb4
  have HO : Hid (TOwn w4 a9 l9 c9 y.zs (fun k => w3.heap.size ≤ k)) := ⟨ho1, ho2⟩
  have HRL := hidK hrl0
  clear ho1 ho2 hrl0
  obtain ⟨r0, r1, r2, r3, r4, r5, r6, r7, r8⟩ := cs9 Br.out
  have ltr_4 := lt_of_some Br.out
  have fr0 : w4.frozen? ⟨w.heap.size + 1, 0, none⟩ = false := froK Br.out 0
  have fr1 : w4.frozen? ⟨w.heap.size + 1, 1, none⟩ = false := froK Br.out 1
  have fr2 : w4.frozen? ⟨w.heap.size + 1, 2, none⟩ = false := froK Br.out 2
  have fr3 : w4.frozen? ⟨w.heap.size + 1, 3, none⟩ = false := froK Br.out 3
  have fr4 : w4.frozen? ⟨w.heap.size + 1, 4, none⟩ = false := froK Br.out 4
  have fr5 : w4.frozen? ⟨w.heap.size + 1, 5, none⟩ = false := froK Br.out 5
  have fr6 : w4.frozen? ⟨w.heap.size + 1, 6, none⟩ = false := froK Br.out 6
  have fr7 : w4.frozen? ⟨w.heap.size + 1, 7, none⟩ = false := froK Br.out 7
  have fr8 : w4.frozen? ⟨w.heap.size + 1, 8, none⟩ = false := froK Br.out 8
  go_wp2
  refine bodyPost_ret (v := .agg #[.string y.n, .int .i64 y.c, .string y.z, .string y.k, .bool y.x, .string y.m, .bool y.y, .slice a9 l9 c9, .int .i64 0]) (by simp [results, Tryz.results16, go_sem, *]) rfl ⟨_, _, _, ⟨y, 0⟩, rfl, HV.out, HO.out.keep (fun k _ s => sets9 (by have s1 : w3.heap.size ≤ k := s; have := HRL.out; omega)) (fun k _ s => by have s1 : w3.heap.size ≤ k := s; have := HRL.out; show w.heap.size ≤ k; omega), set_below (show w.heap.size ≤ w.heap.size + 1 by omega) (set_below (show w.heap.size ≤ w.heap.size + 1 by omega) (set_below (show w.heap.size ≤ w.heap.size + 1 by omega) (set_below (show w.heap.size ≤ w.heap.size + 1 by omega) (set_below (show w.heap.size ≤ w.heap.size + 1 by omega) (set_below (show w.heap.size ≤ w.heap.size + 1 by omega) (set_below (show w.heap.size ≤ w.heap.size + 1 by omega) (set_below (show w.heap.size ≤ w.heap.size + 1 by omega) (set_below (show w.heap.size ≤ w.heap.size + 1 by omega) (HB.out)))))))))⟩

theorem markVout {w : World} {va : Option Addr} {vl vc : Nat} (o : Vo) {S : Nat → Prop} (h : TOwn w va vl vc o.u.zs S) (hl : vl ≤ 1048576) :
    Calls Tryz.prog 19 #[.agg #[.string o.u.n, .int .i64 o.u.c, .string o.u.z, .string o.u.k, .bool o.u.x, .string o.u.m, .bool o.u.y, .slice va vl vc, .int .i64 o.p], .int .i64 1] w fun e w' => e = .returned (.int .i64 (1 + vl)) ∧ TOwn w' va vl vc (marksU 1 vl) S ∧ KeptS S w w' := by
  obtain ⟨⟨h1, h2, h3, h4, h5⟩, h6⟩ := h
  by_cases hz : o.u.zs = []
  · rw [hz] at h1
    obtain rfl : vl = 0 := by simpa using h1.symm
    refine (markVolumeOut_nil _ _ _ _ _ _ _ va vc _ w).mono ?_
    rintro e w' ⟨rfl, hb⟩
    exact ⟨by simp, ⟨⟨rfl, h2, h3, fun j x hx => by simp [marksU] at hx, .inl rfl⟩, .inl rfl⟩, KeptS.of_below hb⟩
  rcases h6 with h6 | ⟨g, cur, rfl, hS, hg⟩
  · exact absurd h6 hz
  rcases h5 with h5 | ⟨b, q, e, hlt, hc⟩
  · exact absurd h5 hz
  cases e
  have hls : vl ≤ cur.size := by
    rcases Nat.eq_zero_or_pos vl with e | e
    · omega
    · have hx : o.u.zs[vl - 1]? = some (o.u.zs[vl - 1]'(by omega)) := List.getElem?_eq_getElem _
      have h7 := hc _ _ hx
      rw [cellK hg] at h7
      have := (Array.getElem?_eq_some_iff.1 h7).1
      omega
  refine (markVolumeOut_own _ _ _ _ _ _ _ g vl vc _ cur w hg hls (by omega)).mono ?_
  rintro e w' ⟨rfl, hk, cu', hg', hm, hsz⟩
  refine ⟨by simp, ⟨⟨marksU_length _ _, h2, h3, fun t x hx => ?_, .inr ⟨g, 0, rfl, lt_of_some hg', fun t x hx => ?_⟩⟩, .inr ⟨g, cu', rfl, hS, hg'⟩⟩, (KeptS.refl S w).kept hS hk⟩
  · obtain ⟨rfl, ht⟩ := marksU_at hx
    exact markT_size (by simp; omega)
  · obtain ⟨rfl, ht⟩ := marksU_at hx
    rw [cellK hg', Nat.zero_add]
    have := hm t ht
    simpa using this
theorem heldVout {w : World} {va : Option Addr} {vl vc : Nat} (o : Vo) (hr : TxRow w va vl vc (marksU 1 vl)) (hl : vl ≤ 1048576) :
    Calls Tryz.prog 20 #[.agg #[.string o.u.n, .int .i64 o.u.c, .string o.u.z, .string o.u.k, .bool o.u.x, .string o.u.m, .bool o.u.y, .slice va vl vc, .int .i64 o.p], .int .i64 1] w fun e w' => e = .returned (.int .i64 (1 + vl)) ∧ Below w.heap.size w w' := by
  refine (heldVolumeOut_any _ _ _ _ _ _ _ va vl vc _ _ w hr (by omega) (fun j y hy => ?_)).mono ?_
  · have := (marksU_at hy).1
    simpa using this
  · rintro e w' ⟨rfl, hb⟩
    exact ⟨by simp, hb⟩

end Rc
end Go.Proofs.YtfapjochclhfpaaGreatDoor

namespace Go.Proofs.YtfapjochclhfpaaGreatDoor
open Go.RowKit Rc Mk

def VolumeOfClV (c : Cl) : Fact := fun v w => ∃ d : Ad, v = .agg #[.slice d.a1 d.l1 d.c1, .slice d.a2 d.l2 d.c2, .slice d.a3 d.l3 d.c3, .slice d.a4 d.l4 d.c4, .slice d.a5 d.l5 d.c5, .int .i64 c.now] ∧ ClRow w d c.raw
theorem VolumeOfClV.mono (c : Cl) : Fact.Mono (VolumeOfClV c) := by
  rintro v w w' ⟨d, h1, h2⟩ hb
  exact ⟨d, h1, h2.below hb⟩

set_option linter.unusedVariables false in
set_option maxRecDepth 100000 in
set_option maxHeartbeats 6400000 in
theorem volumeOf_walk (d : Ad) (c : Cl) (t : ByteArray) (E : Nat → Addr) (w : World) (hr : ClRow w d c.raw) (ht : t.size ≤ maxLen) (hG : Ers w E) :
    Calls Tryz.prog 4 #[.agg #[.slice d.a1 d.l1 d.c1, .slice d.a2 d.l2 d.c2, .slice d.a3 d.l3 d.c3, .slice d.a4 d.l4 d.c4, .slice d.a5 d.l5 d.c5, .int .i64 c.now], .string t] w fun e w' => e = .returned (.bool true) ∧ Below w.heap.size w w' := by
  have HR := hidK hr
  have HE := hidK hG
  have HB := hidK (Below.refl w.heap.size w)
  clear hr hG
  by_cases hlongt : 1048576 < t.size
  · go_enter Tryz.func4, Tryz.ntmps4
    go_wp2
    go_ret
    exact ⟨rfl, below1 _ _⟩
  go_enter Tryz.func4, Tryz.ntmps4
  go_wp2_with fail
  refine (szCluster_any d c _ (HR.out.below (HB.out.trans ((below1 _ _).mono HB.out.size)))).mono ?_
  rintro e w1 ⟨r, rfl, hi, hb⟩
  obtain ⟨HA0, hbx⟩ := slots1 hb
  have Bk := hidK HA0
  replace HB := upB HB hbx
  clear hb hbx HA0
  rcases hi with rfl | ⟨hr0, -, hft⟩
  · obtain ⟨k0, k1, k2, k3, k4, k5⟩ := cs6 Bk.out
    have ltk_1 := lt_of_some Bk.out
    go_wp2
    go_ret
    exact ⟨rfl, HB.out⟩
  have HF := hidK hft
  clear hft
  obtain ⟨k0, k1, k2, k3, k4, k5⟩ := cs6 Bk.out
  have ltk_1 := lt_of_some Bk.out
  go_wp2_with fail
  refine (toCluster_any d c _ (HR.out.below HB.out) HF.out).mono ?_
  rintro e w2 ⟨d1, rfl, ho, hb⟩
  clear k0 k1 k2 k3 k4 k5 ltk_1
  replace Bk := upK Bk hb
  replace HB := upB HB hb
  clear hb
  have HO := hidK ho.row
  clear ho
  go_wp2_with fail
  refine (svof_any d1 c t _ HO.out).mono ?_
  rintro e w3 ⟨va0, vl0, vc0, o, rfl, hI, ho, hb⟩
  have R0 := hidK ho.row
  have HIS := hidK hI
  clear ho hI HO
  replace Bk := upK Bk hb
  replace HB := upB HB hb
  clear hb
  have HY := hidK (Bw.refl w3)
  have HQ3 := hidK (show w.heap.size < w3.heap.size from lt_of_some Bk.out)
  obtain ⟨k0, k1, k2, k3, k4, k5⟩ := cs6 Bk.out
  have ltk_3 := lt_of_some Bk.out
  go_wp2_with fail
  refine (toCluster_any d c _ (HR.out.below (HB.out.trans ((below1 _ _).mono HB.out.size))) HF.out).mono ?_
  rintro e w4 ⟨d2, rfl, ho, hb⟩
  clear k0 k1 k2 k3 k4 k5 ltk_3
  obtain ⟨HA0, hbx⟩ := slots1 hb
  replace Bk := upK Bk hbx
  have Ba := hidK HA0
  replace HY := hidK (HY.out.below hbx)
  replace HB := upB HB hbx
  clear hb hbx HA0
  have HQ4 : Hid (w3.heap.size + 1 ≤ w4.heap.size) := by have := HY.out.le; have := lt_of_some Ba.out; show w3.heap.size + 1 ≤ _; omega
  have HO2 := hidK (ho.into (S' := fun k => w3.heap.size + 1 ≤ k ∧ k < w4.heap.size) (fun k hk s => ⟨(show w3.heap.size + 1 ≤ k by simpa using s), hk⟩))
  clear ho
  obtain ⟨k0, k1, k2, k3, k4, k5⟩ := cs6 Bk.out
  have ltk_4 := lt_of_some Bk.out
  obtain ⟨a0, a1, a2, a3, a4, a5, a6, a7, a8⟩ := cs9 Ba.out
  have lta_4 := lt_of_some Ba.out
  go_wp2_with fail
  have HOX := hidK (HO2.out.below (below1 w4 (.cells #[.slice d2.a1 d2.l1 d2.c1, .slice d2.a2 d2.l2 d2.c2, .slice d2.a3 d2.l3 d2.c3, .slice d2.a4 d2.l4 d2.c4, .slice d2.a5 d2.l5 d2.c5, .int .i64 c.now] 39)))
  refine (ivof_any d2 c t E _ HOX.out.row (HE.out.below (HB.out.trans ((below1 _ _).mono HB.out.size)))).mono ?_
  rintro e w5 ⟨va1, vl1, vc1, o1, rfl, hI, ho, hb⟩
  clear HOX
  obtain rfl := HIS.out.same hI
  clear hI
  clear k0 k1 k2 k3 k4 k5 ltk_4 a0 a1 a2 a3 a4 a5 a6 a7 a8 lta_4
  obtain ⟨HA0, hbx⟩ := slots1 hb
  replace Bk := upK Bk hbx
  replace Ba := upK Ba hbx
  have Bx := hidK HA0
  replace HY := hidK (HY.out.below hbx)
  replace HO2 := hidK (HO2.out.below hbx)
  replace HB := upB HB hbx
  clear hb hbx HA0
  have HQ5 : Hid (w4.heap.size < w5.heap.size) := lt_of_some Bx.out
  have HO1 := hidK (ho.into (S' := fun k => w4.heap.size + 1 ≤ k ∧ k < w5.heap.size) (fun k hk s => ⟨(show w4.heap.size + 1 ≤ k by simpa using s), hk⟩))
  clear ho
  have hlz : vl1 ≤ 1048576 := by have q0 := HIS.out.few HF.out; have q1 := HO1.out.row.1; omega
  have HH := hidK (fun (W : World) (hr : TxRow W va1 vl1 vc1 (marksU 1 vl1)) => heldVout o hr hlz)
  obtain ⟨M, hM⟩ : ∃ M : Int, M = ((1 : Int) + vl1) := ⟨_, rfl⟩
  have hM0 : (0 : Int) < M := by rw [hM]; omega
  rw [← hM] at HH
  have HMM := hidK hM
  clear hM
  obtain ⟨k0, k1, k2, k3, k4, k5⟩ := cs6 Bk.out
  have ltk_5 := lt_of_some Bk.out
  obtain ⟨a0, a1, a2, a3, a4, a5, a6, a7, a8⟩ := cs9 Ba.out
  have lta_5 := lt_of_some Ba.out
  obtain ⟨x0, x1, x2, x3, x4, x5⟩ := cs6 Bx.out
  have ltx_5 := lt_of_some Bx.out
  go_wp2_with fail
  refine (eqVolumeOut_any o.u.n o.u.c o.u.z o.u.k o.u.x o.u.m o.u.y va1 vl1 vc1 o.u.zs o.p va0 vl0 vc0 _ (HO1.out.row.below (below1 _ _)) (R0.out.below (HY.out.below (below1 _ _)).out)).mono ?_
  rintro e w6 ⟨rfl, hb⟩
  clear k0 k1 k2 k3 k4 k5 ltk_5 a0 a1 a2 a3 a4 a5 a6 a7 a8 lta_5 x0 x1 x2 x3 x4 x5 ltx_5
  obtain ⟨HA0, hbx⟩ := slots1 hb
  replace Bk := upK Bk hbx
  replace Ba := upK Ba hbx
  replace Bx := upK Bx hbx
  have Bg := hidK HA0
  replace HY := hidK (HY.out.below hbx)
  replace HO2 := hidK (HO2.out.below hbx)
  replace HO1 := hidK (HO1.out.below hbx)
  replace HB := upB HB hbx
  clear hb hbx HA0
  obtain ⟨W, hW0⟩ : ∃ W, W = w6 := ⟨_, rfl⟩
  rw [← hW0] at HB HY HO2 HO1 Bk Ba Bx Bg
  go_wp2_with fail
  rw [← hW0]
  clear hW0
  rename_i K0 hK0
  refine wp_region_grow (back := none) (by kernel_rfl) (List.append_nil _).symm (by kernel_rfl) ?_
  refine' Grow.stepC _ rfl ?_ ?_
  rotate_left 1
  · refine Obl.plain rfl ?_
    intro ac wg K hsz hW hf hK; clear hsz
    have e7 := hf 7 (by decide)
    simp [slotFact, List.lookup] at e7
    clear hf
    obtain ⟨k0, k1, k2, k3, k4, k5⟩ := cs6 ((hW.block _ (lt_of_some Bx.out)).trans Bx.out)
    go_simp
    refine hK _ _ (Below.refl _ _) ?_
    with_reducible rfl
  refine' Grow.stepC _ rfl ?_ ?_
  rotate_left 1
  · refine Obl.plain rfl ?_
    intro ac wg K hsz hW hf hK; clear hsz
    have e2 := hf 2 (by decide)
    simp [slotFact, List.lookup] at e2
    clear hf
    obtain ⟨k0, k1, k2, k3, k4, k5⟩ := cs6 ((hW.block _ (lt_of_some Bk.out)).trans Bk.out)
    go_simp
    refine hK _ _ (Below.refl _ _) ?_
    with_reducible rfl
  refine Grow.step (VolumeOfClV c) rfl (VolumeOfClV.mono c) ?_ ?_
  · refine Obl.plain rfl ?_
    intro ac wg K hsz hW hf hK; clear hsz
    have e35 := hf 35 (by decide)
    simp [slotFact, List.lookup] at e35
    clear hf
    go_simp
    refine (toCluster_any d c _ (HR.out.below (HB.out.trans (hW.mono HB.out.size))) HF.out).mono ?_
    rintro e w6 ⟨d3, rfl, ho, hb6⟩
    exact hK _ _ hb6 ⟨d3, rfl, ho.row⟩
  refine' Grow.stepC (.bool true) rfl ?_ ?_
  · refine Obl.plain rfl ?_
    intro ac wg K hsz hW hf hK; clear hsz
    have e34 := hf 34 (by decide)
    simp [slotFact, List.lookup] at e34
    have e36 := hf 36 (by decide)
    simp [slotFact, List.lookup] at e36
    obtain ⟨d3, e36, hrow⟩ := e36
    clear hf
    go_simp
    refine (eqCluster_any d2 d3 c _ (HO2.out.row.below hW) hrow).mono ?_
    rintro e w6 ⟨rfl, hb6⟩
    exact hK _ _ hb6 rfl
  refine' Grow.stepC _ rfl ?_ ?_
  rotate_left 1
  · refine Obl.plain rfl ?_
    intro ac wg K hsz hW hf hK; clear hsz
    have e37 := hf 37 (by decide)
    simp [slotFact, List.lookup] at e37
    clear hf
    go_simp
    refine hK _ _ (Below.refl _ _) ?_
    with_reducible rfl
  refine Grow.done ?_
  intro q wz hW hf
  simp only [List.forall_mem_cons] at hf
  obtain ⟨h38, -⟩ := hf
  have hb := hW
  refine hK0 _ _ ?_
  simp only [putsAll, List.foldr, Act.put, List.setIfInBounds_toArray, List.set_cons_zero, List.set_cons_succ, h38]
  clear hK0
  replace Bk := upK Bk hb
  replace Ba := upK Ba hb
  replace Bx := upK Bx hb
  replace Bg := upK Bg hb
  replace HY := hidK (HY.out.below hb)
  replace HO2 := hidK (HO2.out.below hb)
  replace HO1 := hidK (HO1.out.below hb)
  replace HB := upB HB hb
  clear hb
  clear hW
  obtain ⟨rk, hrk⟩ : ∃ r : Int, r = mkCn 1 c.raw := ⟨_, rfl⟩
  have hrk0 : decide (rk < 0) = false := by rw [decide_eq_false_iff_not, hrk]; have := mkCn_ge 1 c.raw; omega
  obtain ⟨k0, k1, k2, k3, k4, k5⟩ := cs6 Bk.out
  have ltk_7 := lt_of_some Bk.out
  obtain ⟨a0, a1, a2, a3, a4, a5, a6, a7, a8⟩ := cs9 Ba.out
  have lta_7 := lt_of_some Ba.out
  obtain ⟨x0, x1, x2, x3, x4, x5⟩ := cs6 Bx.out
  have ltx_7 := lt_of_some Bx.out
  obtain ⟨g0, g1, g2, g3, g4, g5, g6, g7, g8⟩ := cs9 Bg.out
  have ltg_7 := lt_of_some Bg.out
  go_wp2_with fail
  refine (markCluster_any d2 c 1 _ wz HO2.out (fun k s => by have s2 := s.2; have q9 := HY.out.le; have q8 := lt_of_some Bx.out; have q3 := HQ3.out; have q4 := HQ4.out; have q5 := HQ5.out; omega) (by decide) HF.out.marks).mono ?_
  rintro e w8 ⟨rfl, ho, hk⟩
  clear k0 k1 k2 k3 k4 k5 ltk_7 a0 a1 a2 a3 a4 a5 a6 a7 a8 lta_7 x0 x1 x2 x3 x4 x5 ltx_7 g0 g1 g2 g3 g4 g5 g6 g7 g8 ltg_7
  have Ck := hidK ((hk.block (w.heap.size) (lt_of_some Bk.out) (fun s => by have s1 := s.1; have s2 := s.2; have q3 := HQ3.out; have q4 := HQ4.out; have q5 := HQ5.out; omega)).trans Bk.out)
  have Ca := hidK ((hk.block (w3.heap.size) (lt_of_some Ba.out) (fun s => by have s1 := s.1; have s2 := s.2; have q3 := HQ3.out; have q4 := HQ4.out; have q5 := HQ5.out; omega)).trans Ba.out)
  have Cx := hidK ((hk.block (w4.heap.size) (lt_of_some Bx.out) (fun s => by have s1 := s.1; have s2 := s.2; have q3 := HQ3.out; have q4 := HQ4.out; have q5 := HQ5.out; omega)).trans Bx.out)
  have Cg := hidK ((hk.block (w5.heap.size) (lt_of_some Bg.out) (fun s => by have s1 := s.1; have s2 := s.2; have q3 := HQ3.out; have q4 := HQ4.out; have q5 := HQ5.out; omega)).trans Bg.out)
  have HB8 := hidK (HB.out.trans (hk.low (X := w.heap.size) HB.out.size (fun k s => by have s1 := s.1; have q3 := HQ3.out; have q4 := HQ4.out; have q5 := HQ5.out; omega)))
  have CHY := hidK (HY.out.kept hk (fun k s => by have s1 := s.1; have q3 := HQ3.out; have q4 := HQ4.out; have q5 := HQ5.out; omega))
  have CHO1 := hidK (HO1.out.kept hk (fun k s s' => by have s1 := s.1; have s2 := s.2; have t1 := s'.1; have t2 := s'.2; have q3 := HQ3.out; have q4 := HQ4.out; have q5 := HQ5.out; omega))
  clear HB HY hk HO2 HO1 Bk Ba Bx Bg
  have HB := HB8
  clear HB8
  have HY := CHY
  clear CHY
  have HO1 := CHO1
  clear CHO1
  have Bk := Ck
  clear Ck
  have Ba := Ca
  clear Ca
  have Bx := Cx
  clear Cx
  have Bg := Cg
  clear Cg
  clear ho
  rw [← hrk]
  clear hrk
  obtain ⟨k0, k1, k2, k3, k4, k5⟩ := cs6 Bk.out
  have ltk_8 := lt_of_some Bk.out
  obtain ⟨a0, a1, a2, a3, a4, a5, a6, a7, a8⟩ := cs9 Ba.out
  have lta_8 := lt_of_some Ba.out
  obtain ⟨x0, x1, x2, x3, x4, x5⟩ := cs6 Bx.out
  have ltx_8 := lt_of_some Bx.out
  obtain ⟨g0, g1, g2, g3, g4, g5, g6, g7, g8⟩ := cs9 Bg.out
  have ltg_8 := lt_of_some Bg.out
  go_wp2_with fail
  refine (eqVolumeOut_any o.u.n o.u.c o.u.z o.u.k o.u.x o.u.m o.u.y va1 vl1 vc1 o.u.zs o.p va0 vl0 vc0 _ (HO1.out.row) (R0.out.below HY.out.out)).mono ?_
  rintro e w9 ⟨rfl, hb⟩
  clear k0 k1 k2 k3 k4 k5 ltk_8 a0 a1 a2 a3 a4 a5 a6 a7 a8 lta_8 x0 x1 x2 x3 x4 x5 ltx_8 g0 g1 g2 g3 g4 g5 g6 g7 g8 ltg_8
  replace Bk := upK Bk hb
  replace Ba := upK Ba hb
  replace Bx := upK Bx hb
  replace Bg := upK Bg hb
  replace HY := hidK (HY.out.below hb)
  replace HO1 := hidK (HO1.out.below hb)
  replace HB := upB HB hb
  clear hb
  clear hrk0
  obtain ⟨k0, k1, k2, k3, k4, k5⟩ := cs6 Bk.out
  have ltk_9 := lt_of_some Bk.out
  obtain ⟨a0, a1, a2, a3, a4, a5, a6, a7, a8⟩ := cs9 Ba.out
  have lta_9 := lt_of_some Ba.out
  obtain ⟨x0, x1, x2, x3, x4, x5⟩ := cs6 Bx.out
  have ltx_9 := lt_of_some Bx.out
  obtain ⟨g0, g1, g2, g3, g4, g5, g6, g7, g8⟩ := cs9 Bg.out
  have ltg_9 := lt_of_some Bg.out
  go_wp2_with fail
  refine (markVout o HO1.out hlz).mono ?_
  rintro e w10 ⟨rfl, ho, hk⟩
  clear k0 k1 k2 k3 k4 k5 ltk_9 a0 a1 a2 a3 a4 a5 a6 a7 a8 lta_9 x0 x1 x2 x3 x4 x5 ltx_9 g0 g1 g2 g3 g4 g5 g6 g7 g8 ltg_9
  have Ck := hidK ((hk.block (w.heap.size) (lt_of_some Bk.out) (fun s => by have s1 := s.1; have s2 := s.2; have q3 := HQ3.out; have q4 := HQ4.out; have q5 := HQ5.out; omega)).trans Bk.out)
  have Ca := hidK ((hk.block (w3.heap.size) (lt_of_some Ba.out) (fun s => by have s1 := s.1; have s2 := s.2; have q3 := HQ3.out; have q4 := HQ4.out; have q5 := HQ5.out; omega)).trans Ba.out)
  have Cx := hidK ((hk.block (w4.heap.size) (lt_of_some Bx.out) (fun s => by have s1 := s.1; have s2 := s.2; have q3 := HQ3.out; have q4 := HQ4.out; have q5 := HQ5.out; omega)).trans Bx.out)
  have Cg := hidK ((hk.block (w5.heap.size) (lt_of_some Bg.out) (fun s => by have s1 := s.1; have s2 := s.2; have q3 := HQ3.out; have q4 := HQ4.out; have q5 := HQ5.out; omega)).trans Bg.out)
  have HB10 := hidK (HB.out.trans (hk.low (X := w.heap.size) HB.out.size (fun k s => by have s1 := s.1; have q3 := HQ3.out; have q4 := HQ4.out; have q5 := HQ5.out; omega)))
  have CHY := hidK (HY.out.kept hk (fun k s => by have s1 := s.1; have q3 := HQ3.out; have q4 := HQ4.out; have q5 := HQ5.out; omega))
  clear HB HY hk HO1 Bk Ba Bx Bg
  have HB := HB10
  clear HB10
  have HY := CHY
  clear CHY
  have Bk := Ck
  clear Ck
  have Ba := Ca
  clear Ca
  have Bx := Cx
  clear Cx
  have Bg := Cg
  clear Cg
  have HM1 := hidK ho
  clear ho
  rw [← HMM.out]
  obtain ⟨k0, k1, k2, k3, k4, k5⟩ := cs6 Bk.out
  have ltk_10 := lt_of_some Bk.out
  obtain ⟨a0, a1, a2, a3, a4, a5, a6, a7, a8⟩ := cs9 Ba.out
  have lta_10 := lt_of_some Ba.out
  obtain ⟨x0, x1, x2, x3, x4, x5⟩ := cs6 Bx.out
  have ltx_10 := lt_of_some Bx.out
  obtain ⟨g0, g1, g2, g3, g4, g5, g6, g7, g8⟩ := cs9 Bg.out
  have ltg_10 := lt_of_some Bg.out
  go_wp2_with fail
  refine (HH.out _ HM1.out.row).mono ?_
  rintro e w11 ⟨rfl, hb⟩
  clear k0 k1 k2 k3 k4 k5 ltk_10 a0 a1 a2 a3 a4 a5 a6 a7 a8 lta_10 x0 x1 x2 x3 x4 x5 ltx_10 g0 g1 g2 g3 g4 g5 g6 g7 g8 ltg_10
  replace Bk := upK Bk hb
  replace Ba := upK Ba hb
  replace Bx := upK Bx hb
  replace Bg := upK Bg hb
  replace HY := hidK (HY.out.below hb)
  replace HM1 := hidK (HM1.out.below hb)
  replace HB := upB HB hb
  clear hb
  obtain ⟨k0, k1, k2, k3, k4, k5⟩ := cs6 Bk.out
  have ltk_11 := lt_of_some Bk.out
  go_wp2_with fail
  refine (toCluster_any d c _ (HR.out.below HB.out) HF.out).mono ?_
  rintro e w12 ⟨d4, rfl, ho, hb⟩
  clear k0 k1 k2 k3 k4 k5 ltk_11
  replace Bk := upK Bk hb
  replace Ba := upK Ba hb
  replace Bx := upK Bx hb
  replace Bg := upK Bg hb
  replace HY := hidK (HY.out.below hb)
  replace HM1 := hidK (HM1.out.below hb)
  replace HB := upB HB hb
  clear hb
  have HO := hidK ho.row
  clear ho
  go_wp2_with fail
  refine (ivof_any d4 c t E _ HO.out (HE.out.below HB.out)).mono ?_
  rintro e w13 ⟨va2, vl2, vc2, o2, rfl, hI, ho, hb⟩
  obtain rfl := HIS.out.same hI
  clear hI HO
  have HR2 := hidK ho.row
  clear ho
  replace Bk := upK Bk hb
  replace Ba := upK Ba hb
  replace Bx := upK Bx hb
  replace Bg := upK Bg hb
  replace HY := hidK (HY.out.below hb)
  replace HM1 := hidK (HM1.out.below hb)
  replace HB := upB HB hb
  clear hb
  obtain ⟨k0, k1, k2, k3, k4, k5⟩ := cs6 Bk.out
  have ltk_13 := lt_of_some Bk.out
  obtain ⟨a0, a1, a2, a3, a4, a5, a6, a7, a8⟩ := cs9 Ba.out
  have lta_13 := lt_of_some Ba.out
  obtain ⟨x0, x1, x2, x3, x4, x5⟩ := cs6 Bx.out
  have ltx_13 := lt_of_some Bx.out
  obtain ⟨g0, g1, g2, g3, g4, g5, g6, g7, g8⟩ := cs9 Bg.out
  have ltg_13 := lt_of_some Bg.out
  go_wp2_with fail
  refine (eqVolumeOut_any o.u.n o.u.c o.u.z o.u.k o.u.x o.u.m o.u.y va2 vl2 vc2 o.u.zs o.p va0 vl0 vc0 _ (HR2.out.below (below1 _ _)) (R0.out.below (HY.out.below (below1 _ _)).out)).mono ?_
  rintro e w14 ⟨rfl, hb⟩
  clear k0 k1 k2 k3 k4 k5 ltk_13 a0 a1 a2 a3 a4 a5 a6 a7 a8 lta_13 x0 x1 x2 x3 x4 x5 ltx_13 g0 g1 g2 g3 g4 g5 g6 g7 g8 ltg_13
  obtain ⟨HA0, hbx⟩ := slots1 hb
  replace Bk := upK Bk hbx
  replace Ba := upK Ba hbx
  replace Bx := upK Bx hbx
  replace Bg := upK Bg hbx
  have Bh := hidK HA0
  replace HY := hidK (HY.out.below hbx)
  replace HM1 := hidK (HM1.out.below hbx)
  replace HB := upB HB hbx
  clear hb hbx HA0
  obtain ⟨k0, k1, k2, k3, k4, k5⟩ := cs6 Bk.out
  have ltk_14 := lt_of_some Bk.out
  obtain ⟨g0, g1, g2, g3, g4, g5, g6, g7, g8⟩ := cs9 Bg.out
  have ltg_14 := lt_of_some Bg.out
  go_wp2_with fail
  refine (HH.out _ HM1.out.row).mono ?_
  rintro e w15 ⟨rfl, hb⟩
  clear k0 k1 k2 k3 k4 k5 ltk_14 g0 g1 g2 g3 g4 g5 g6 g7 g8 ltg_14
  replace Bk := upK Bk hb
  replace Ba := upK Ba hb
  replace Bx := upK Bx hb
  replace Bg := upK Bg hb
  replace Bh := upK Bh hb
  replace HY := hidK (HY.out.below hb)
  replace HM1 := hidK (HM1.out.below hb)
  replace HB := upB HB hb
  clear hb
  go_wp2_with fail
  go_ret
  exact ⟨rfl, HB.out⟩

set_option linter.unusedVariables false in
theorem fnExactVolumeOf_walk (a1 : Option Addr) (l1 y1 : Nat) (ns : List Nd) (a2 : Option Addr) (l2 y2 : Nat) (ks : List Kd) (a3 : Option Addr) (l3 y3 : Nat) (vs : List Vd) (a4 : Option Addr) (l4 y4 : Nat) (xs : List Xd) (a5 : Option Addr) (l5 y5 : Nat) (ps : List Pd) (now : Int) (t : ByteArray) (w : World)
    (h1 : RRow w a1 l1 y1 7 (ns.map ndF)) (h2 : RRow w a2 l2 y2 4 (ks.map kdF)) (h3 : RRow w a3 l3 y3 8 (vs.map vdF)) (h4 : RRow w a4 l4 y4 5 (xs.map xdF)) (h5 : RRow w a5 l5 y5 6 (ps.map pdF)) (_ : (Lit.int .i64 now).wf = true) (ht : t.size ≤ maxLen) (hG : ∃ E, Ers w E) :
    Calls Tryz.prog 4 #[.agg #[.slice a1 l1 y1, .slice a2 l2 y2, .slice a3 l3 y3, .slice a4 l4 y4, .slice a5 l5 y5, .int .i64 now], .string t] w fun e w' => e = .returned (.bool true) ∧ Below w.heap.size w w' :=
  by obtain ⟨E, hG⟩ := hG; exact volumeOf_walk ⟨a1, l1, y1, a2, l2, y2, a3, l3, y3, a4, l4, y4, a5, l5, y5⟩ ⟨ns, ks, vs, xs, ps, now⟩ t E w ⟨h1, h2, h3, h4, h5⟩ ht hG

end Go.Proofs.YtfapjochclhfpaaGreatDoor

namespace Go.Proofs.YtfapjochclhfpaaGreatDoor
open Go.RowKit
namespace Rc

theorem wordStar : "*" ++ "errors.errorString" = "*errors.errorString" := by decide
theorem wordRow (u : TypeId) (h : Tryz.prog.typeName? 3 u = some "*errors.errorString") : u = 191 :=
  typeName_ptr_named (nm := "errors.errorString") (by rw [wordStar]; kernel_rfl) (by kernel_rfl) (by decide) u (by rw [wordStar]; exact h)

theorem laid_words {P : Program} {W : World} {nm : String} {ti tp te ts : TypeId} {ms : Array (String × TypeId)} {f : Field} (hi : P.underlying ti = some (.interface ms)) (hrow : ∀ u, P.typeName? 3 u = some nm → u = tp)
    (hp : P.underlying tp = some (.pointer te)) (he : P.underlying te = some (.struct #[f])) (hft : f.type = ts) (hfo : f.offset = 0) (hs : P.underlying ts = some .string) (hc : P.cellsOf te = 1) (hcs : P.cellsOf ts = 1) :
    ∀ (l : List (String × List UInt8)) (ps : List MemPlace), (∀ x ∈ l, ∃ g, P.globalNamed x.1 = some g ∧ (P.globals[g]?).map (·.type) = some ti) →
      DataW.LaidVars P W (l.map fun x => (x.1, .iface nm (.ptr (.agg [.lit (.string x.2)])))) ps → ps.Nodup →
      (∀ b off, MemPlace.cell b off ∈ ps → (∃ c t, W.heap[b]? = some (.cells c t (0, 0))) ∧ ∀ u v, W.cell? ⟨b, off, none⟩ = some (.iface u v) → Value.okWide P W .any 0 u v) →
      ∃ E : Nat → Addr, (∀ (i : Nat) x, l[i]? = some x → W.var? P x.1 = some #[.iface tp (.pointer (some (E i)))] ∧ MemPlace.cell (E i).block (E i).off ∈ ps) ∧ ∀ i j, i < l.length → j < l.length → E i = E j → i = j
  | [], ps, _, _, _, _ => ⟨fun _ => ⟨0, 0, none⟩, fun i x h => by simp at h, fun i j h => by simp at h⟩
  | x :: l, ps, hT, hv, hnd, hrows => by
    obtain ⟨g, t, cs, fuel, p, q, hg, ht, hvar, hd, hq, rfl⟩ := hv
    obtain ⟨g', hg', ht'⟩ := hT x (by simp)
    obtain rfl := Option.some.inj (hg.symm.trans hg')
    obtain rfl := Option.some.inj (ht.symm.trans ht')
    have hsub : ∀ {y}, y ∈ q → y ∈ MemPlace.row ⟨g, 0, none⟩ cs.size ++ p ++ q := fun h => List.mem_append_right _ h
    obtain ⟨E, hE1, hE2⟩ := laid_words hi hrow hp he hft hfo hs hc hcs l q (fun y hy => hT y (by simp [hy])) hq (List.Nodup.sublist (List.sublist_append_right _ _) hnd) (fun b off hm => hrows b off (hsub hm))
    obtain ⟨l0⟩ := cs
    have ok0 : ∀ u v, l0 = [.iface u v] → Value.okWide P W .any 0 u v := fun u v e => by
      subst e
      exact (hrows g 0 (by simp [MemPlace.row])).2 u v (by simpa using World.var?_cell hg hvar 0)
    obtain ⟨a0, s0, rfl, hc0, hs0, hz0, rfl⟩ := errorString_of_trod hi hrow hp he hft hfo hs hc hcs hd ok0
    have ha : MemPlace.cell a0.block a0.off ∈ MemPlace.row a0 1 := by simp [MemPlace.row]
    have hdis : ∀ i, i < l.length → ¬ E i = a0 := fun i hi' e => by
      have h1 := (hE1 i _ (List.getElem?_eq_getElem hi')).2
      rw [e] at h1
      have h2 := (List.nodup_append.1 hnd).2.2 _ (List.mem_append_right _ ha) _ h1
      exact h2 rfl
    refine ⟨fun i => match i with | 0 => a0 | i + 1 => E i, fun i y hy => ?_, fun i j hi' hj' e => ?_⟩
    · cases i with
      | zero =>
        obtain rfl : x = y := by simpa using hy
        exact ⟨hvar, List.mem_append_left _ (List.mem_append_right _ ha)⟩
      | succ i =>
        obtain ⟨h1, h2⟩ := hE1 i y (by simpa using hy)
        exact ⟨h1, hsub h2⟩
    · cases i with
      | zero => cases j with
        | zero => rfl
        | succ j => exact absurd e.symm (hdis j (by simpa using hj'))
      | succ i => cases j with
        | zero => exact absurd e (hdis i (by simpa using hi'))
        | succ j => rw [hE2 i j (by simpa using hi') (by simpa using hj') e]

theorem vars_length {H : Type} {enc : TypeId × Value → H} {P : Program} {w : World} {sp : Nat → Bool} : ∀ (ns : List String) (gs : List (DataW H)) (ps : List MemPlace), DataW.TrodVars enc P w sp ns gs ps → gs.length = ns.length
  | [], [], _, _ => rfl
  | [], _ :: _, _, h => h.elim
  | _ :: _, [], _, h => h.elim
  | _ :: ns, _ :: gs, _, h => by
    obtain ⟨_, _, _, _, _, q, _, _, _, _, h1, _⟩ := h
    simp [vars_length ns gs q h1]
theorem len10 {α : Type} : ∀ {l : List α}, l.length = 10 → ∃ a b c d e f g h i j, l = [a, b, c, d, e, f, g, h, i, j]
  | [a, b, c, d, e, f, g, h, i, j], _ => ⟨a, b, c, d, e, f, g, h, i, j, rfl⟩

end Rc
end Go.Proofs.YtfapjochclhfpaaGreatDoor

namespace Go.Proofs.YtfapjochclhfpaaGreatDoor
open Go.RowKit Go.ChangeShapes Go.WideShapes Go.Deep

theorem list6 {α : Type} {l : List α} (h : l.length = 6) : ∃ x0 x1 x2 x3 x4 x5, l = [x0, x1, x2, x3, x4, x5] := by
  match l, h with
  | [x0, x1, x2, x3, x4, x5], _ => exact ⟨_, _, _, _, _, _, rfl⟩
section
variable {H : Type} {enc : TypeId × Value → H} {P : Program} {w : World} {base : Nat} {spare : Nat → Bool} {held : Bool}

theorem open_aggN {r : Reach} {b0 : Nat} {t : TypeId} {fs : Array Field} {v : Value} {d : DataW H} {p : List MemPlace} (hs : P.underlying t = some (.struct fs)) (hone : oneCellFields P fs = true) (hC : P.cellsOf t = fs.size)
    (hv : Value.okWide P w r b0 t v) (h : DataW.Trod enc P w base spare held t v d p) :
    ∃ (cs : List Value) (n : Nat), v = .agg cs.toArray ∧ cs.length = fs.size ∧ ∀ (i : Nat) (f : Field), fs[i]? = some f → ∃ c y, cs[i]? = some c ∧ DataW.trod enc P w base spare held n f.type [c] = some y := by
  obtain ⟨cs, rfl, hsz⟩ := okWide_struct hs hv
  obtain ⟨fuel, hf⟩ := h
  obtain ⟨xs, n, _, hx, hl, hlen, hf'⟩ := DataW.trod_struct hs hf
  refine ⟨cs.toList, n, rfl, by rw [Array.length_toList]; exact hsz.trans hC, fun i f hi => ?_⟩
  obtain ⟨o, k⟩ := hone_of hone i f hi
  have hlt : i < fs.size := (Array.getElem?_eq_some_iff.1 hi).1
  have hlc : i < cs.toList.length := by rw [Array.length_toList, hsz, hC]; exact hlt
  have g := hf' i f hi
  rw [o, k] at g
  have e : ((Value.agg cs).cells.toList.drop i).take 1 = [cs.toList[i]'hlc] := by
    show (cs.toList.drop i).take 1 = _
    rw [List.drop_eq_getElem_cons hlc]
    rfl
  rw [e] at g
  exact ⟨_, xs[i]'(by omega), List.getElem?_eq_getElem hlc, by rw [g, List.getElem?_eq_getElem]⟩

theorem row_of_trod {t e : TypeId} {n : Nat} {c : Value} {y : DataW H × List MemPlace} (ht : P.underlying t = some (.slice e)) (he : P.underlying e = some .string) (hc : P.cellsOf e = 1)
    (h : DataW.trod enc P w base spare held n t [c] = some y) : ∃ a len cap zs, c = .slice a len cap ∧ TxRow w a len cap zs := by
  rcases open_strs ht he hc h with ⟨hcs, _⟩ | ⟨a, len, cap, m, Sx, hcs, hb, hl, hm, hmm, _, hx⟩
  · exact ⟨none, 0, 0, [], by simpa using hcs, rfl, Nat.le_refl _, by omega, fun j x hx => by simp at hx, Or.inl rfl⟩
  · have hlm : len ≤ m := by rw [hmm]; split <;> omega
    have hm' : cap ≤ 9223372036854775807 := by unfold maxLen at hm; omega
    refine ⟨some a, len, cap, (List.range len).map Sx, by simpa using hcs, by simp, hl, hm', fun j x hj => ?_, ?_⟩
    · rw [List.getElem?_map] at hj
      by_cases hjl : j < len
      · rw [List.getElem?_range hjl] at hj
        obtain rfl := Option.some.inj hj
        have := (hx j (by omega)).2
        unfold maxLen at this
        omega
      · rw [List.getElem?_eq_none (by simp; omega)] at hj
        cases hj
    · by_cases h0 : len = 0
      · subst h0; exact Or.inl rfl
      right
      obtain ⟨b, o, spot⟩ := a
      have h0' := (hx 0 (by omega)).1
      have hspot : spot = none := by simpa [Addr.add] using World.cell?_spot h0'
      subst hspot
      refine ⟨b, o, rfl, ?_, fun j x hj => ?_⟩
      · rw [Addr.add_lit] at h0'
        rcases Nat.lt_or_ge b w.heap.size with h1 | h1
        · exact h1
        · simp [World.cell?, Array.getElem?_eq_none h1] at h0'
      · rw [List.getElem?_map] at hj
        by_cases hjl : j < len
        · rw [List.getElem?_range hjl] at hj
          obtain rfl := Option.some.inj hj
          have := (hx j (by omega)).1
          rw [Addr.add_lit] at this
          exact this
        · rw [List.getElem?_eq_none (by simp; omega)] at hj
          cases hj
end

section
variable {H : Type} {enc : TypeId × Value → H} {w : World} {base : Nat} {spare : Nat → Bool} {held : Bool}

theorem open_aggC {P : Program} {n : Nat} {t : TypeId} {fs : Array Field} {cs : List Value} {x : DataW H × List MemPlace} (hs : P.underlying t = some (.struct fs)) (hone : oneCellFields P fs = true) (hC : P.cellsOf t = fs.size)
    (h : DataW.trod enc P w base spare held n t cs = some x) :
    ∃ (n : Nat), cs.length = fs.size ∧ ∀ (i : Nat) (f : Field), fs[i]? = some f → ∃ c y, cs[i]? = some c ∧ DataW.trod enc P w base spare held n f.type [c] = some y := by
  obtain ⟨xs, n, _, hx, hl, hlen, hf'⟩ := DataW.trod_struct hs h
  refine ⟨n, hl.trans hC, fun i f hi => ?_⟩
  obtain ⟨o, k⟩ := hone_of hone i f hi
  have hlt : i < fs.size := (Array.getElem?_eq_some_iff.1 hi).1
  have hlc : i < cs.length := by rw [hl, hC]; exact hlt
  have g := hf' i f hi
  rw [o, k] at g
  have e : (cs.drop i).take 1 = [cs[i]'hlc] := by
    rw [List.drop_eq_getElem_cons hlc]
    rfl
  rw [e] at g
  exact ⟨_, xs[i]'(by omega), List.getElem?_eq_getElem hlc, by rw [g, List.getElem?_eq_getElem]⟩

end

end Go.Proofs.YtfapjochclhfpaaGreatDoor

namespace Go.Proofs.YtfapjochclhfpaaGreatDoor
open Go.RowKit Go.ChangeShapes Go.WideShapes Go.Deep
namespace Rc

section
variable {H : Type} {enc : TypeId × Value → H} {w : World} {base : Nat} {spare : Nat → Bool} {held : Bool}

theorem nd_of_trod {b o n : Nat} {cs : List Value} {x : DataW H × List MemPlace} (hc : ∀ i, i < 7 → w.cell? ⟨b, o + i, none⟩ = cs[i]?) (h : DataW.trod enc Tryz.prog w base spare held n 105 cs = some x) : ∃ v : Nd, RAt w b o (ndF v) := by
  obtain ⟨m, hl, hf⟩ := open_aggC Tryz.underlying105 (by kernel_rfl) (by kernel_rfl) h
  obtain ⟨c0, y0, e0, t0⟩ := hf 0 _ rfl
  obtain ⟨b0, q0, -, s0⟩ := DataW.trod_string Tryz.underlying9 t0
  obtain rfl : c0 = .string b0 := by simpa using q0
  obtain ⟨c1, y1, e1, t1⟩ := hf 1 _ rfl
  obtain ⟨b1, q1, -, s1⟩ := DataW.trod_string Tryz.underlying9 t1
  obtain rfl : c1 = .string b1 := by simpa using q1
  obtain ⟨c2, y2, e2, t2⟩ := hf 2 _ rfl
  obtain ⟨b2, q2, -, s2⟩ := DataW.trod_int Tryz.underlying2 t2
  obtain rfl : c2 = .int .i64 b2 := by simpa using q2
  obtain ⟨c3, y3, e3, t3⟩ := hf 3 _ rfl
  obtain ⟨b3, q3, -, s3⟩ := DataW.trod_int Tryz.underlying2 t3
  obtain rfl : c3 = .int .i64 b3 := by simpa using q3
  obtain ⟨c4, y4, e4, t4⟩ := hf 4 _ rfl
  obtain ⟨b4, q4, -, s4⟩ := DataW.trod_int Tryz.underlying2 t4
  obtain rfl : c4 = .int .i64 b4 := by simpa using q4
  obtain ⟨c5, y5, e5, t5⟩ := hf 5 _ rfl
  obtain ⟨b5, q5, -⟩ := DataW.trod_bool Tryz.underlying4 t5
  obtain rfl : c5 = .bool b5 := by simpa using q5
  obtain ⟨c6, y6, e6, t6⟩ := hf 6 _ rfl
  obtain ⟨b6, l6, p6, zz, rfl, r6⟩ := row_of_trod Tryz.underlying51 Tryz.underlying9 (by kernel_rfl) t6
  unfold maxLen at s0 s1
  refine ⟨⟨b0, b1, b2, b3, b4, b5, zz⟩, fun i f hi => ?_⟩
  rcases i with _ | _ | _ | _ | _ | _ | _ | i
  · cases hi
    exact ⟨_, (hc 0 (by omega)).trans e0, rfl, show b0.size ≤ _ by omega⟩
  · cases hi
    exact ⟨_, (hc 1 (by omega)).trans e1, rfl, show b1.size ≤ _ by omega⟩
  · cases hi
    exact ⟨_, (hc 2 (by omega)).trans e2, rfl⟩
  · cases hi
    exact ⟨_, (hc 3 (by omega)).trans e3, rfl⟩
  · cases hi
    exact ⟨_, (hc 4 (by omega)).trans e4, rfl⟩
  · cases hi
    exact ⟨_, (hc 5 (by omega)).trans e5, rfl⟩
  · cases hi
    exact ⟨_, (hc 6 (by omega)).trans e6, b6, l6, p6, rfl, r6⟩
  · first | (cases hi; done) | (simp [ndF] at hi; done)

theorem ndrow_of_trod {n : Nat} {c : Value} {y : DataW H × List MemPlace} (h : DataW.trod enc Tryz.prog w base spare held n 22 [c] = some y) : ∃ a len cap, ∃ xs : List Nd, c = .slice a len cap ∧ RRow w a len cap 7 (xs.map ndF) := by
  rcases open_slice Tryz.underlying22 h with ⟨hcs, _⟩ | ⟨a, len, cap, m, n', D, Pl, hcs, hb, hl, hm, hmm, _, hx⟩
  · exact ⟨none, 0, 0, [], by simpa using hcs, rfl, Nat.le_refl _, by omega, .inl rfl⟩
  have hlm : len ≤ m := by rw [hmm]; split <;> omega
  have hm' : cap ≤ 9223372036854775807 := by unfold maxLen at hm; omega
  have hce : Tryz.prog.cellsOf 105 = 7 := by kernel_rfl
  rw [hce] at hx
  by_cases h0 : len = 0
  · subst h0
    exact ⟨some a, 0, cap, [], by simpa using hcs, rfl, hl, hm', .inl rfl⟩
  obtain ⟨b, o, spot⟩ := a
  obtain ⟨cs0, k1, k2⟩ := hx 0 (by omega)
  have hspot : spot = none := by
    obtain ⟨_, hl0, hc0⟩ := World.cells?_some k1
    have := hc0 0 (by omega)
    rw [List.getElem?_eq_getElem (by omega)] at this
    simpa [Addr.add] using World.cell?_spot this
  subst hspot
  have hblt : b < w.heap.size := by
    obtain ⟨_, hl0, hc0⟩ := World.cells?_some k1
    have := hc0 0 (by omega)
    rw [List.getElem?_eq_getElem (by omega)] at this
    rcases Nat.lt_or_ge b w.heap.size with h1 | h1
    · exact h1
    · simp [Addr.add, World.cell?, Array.getElem?_eq_none h1] at this
  have each : ∀ i, i < len → ∃ v : Nd, RAt w b (o + i * 7) (ndF v) := fun i hi => by
    obtain ⟨cs, k1, k2⟩ := hx i (by omega)
    obtain ⟨_, hl0, hc0⟩ := World.cells?_some k1
    refine nd_of_trod (fun j hj => ?_) k2
    have := hc0 j hj
    rw [add_add, Addr.add_lit] at this
    rw [Nat.add_assoc]
    exact this
  have hin : Inhabited Nd := ⟨⟨⟨#[]⟩, ⟨#[]⟩, 0, 0, 0, false, []⟩⟩
  obtain ⟨f, hf⟩ := choose_lt each
  refine ⟨some ⟨b, o, none⟩, len, cap, (List.range len).map f, by simpa using hcs, by simp, hl, hm', .inr ⟨b, o, rfl, hblt, fun j r hj => ?_⟩⟩
  rw [List.getElem?_map, List.getElem?_map] at hj
  by_cases hjl : j < len
  · rw [List.getElem?_range hjl] at hj
    obtain rfl := Option.some.inj hj
    exact hf j hjl
  · rw [List.getElem?_eq_none (by simp; omega)] at hj
    cases hj

theorem kd_of_trod {b o n : Nat} {cs : List Value} {x : DataW H × List MemPlace} (hc : ∀ i, i < 4 → w.cell? ⟨b, o + i, none⟩ = cs[i]?) (h : DataW.trod enc Tryz.prog w base spare held n 108 cs = some x) : ∃ v : Kd, RAt w b o (kdF v) := by
  obtain ⟨m, hl, hf⟩ := open_aggC Tryz.underlying108 (by kernel_rfl) (by kernel_rfl) h
  obtain ⟨c0, y0, e0, t0⟩ := hf 0 _ rfl
  obtain ⟨b0, q0, -, s0⟩ := DataW.trod_string Tryz.underlying9 t0
  obtain rfl : c0 = .string b0 := by simpa using q0
  obtain ⟨c1, y1, e1, t1⟩ := hf 1 _ rfl
  obtain ⟨b1, q1, -⟩ := DataW.trod_bool Tryz.underlying4 t1
  obtain rfl : c1 = .bool b1 := by simpa using q1
  obtain ⟨c2, y2, e2, t2⟩ := hf 2 _ rfl
  obtain ⟨b2, q2, -⟩ := DataW.trod_bool Tryz.underlying4 t2
  obtain rfl : c2 = .bool b2 := by simpa using q2
  obtain ⟨c3, y3, e3, t3⟩ := hf 3 _ rfl
  obtain ⟨b3, q3, -, s3⟩ := DataW.trod_string Tryz.underlying9 t3
  obtain rfl : c3 = .string b3 := by simpa using q3
  unfold maxLen at s0 s3
  refine ⟨⟨b0, b1, b2, b3⟩, fun i f hi => ?_⟩
  rcases i with _ | _ | _ | _ | i
  · cases hi
    exact ⟨_, (hc 0 (by omega)).trans e0, rfl, show b0.size ≤ _ by omega⟩
  · cases hi
    exact ⟨_, (hc 1 (by omega)).trans e1, rfl⟩
  · cases hi
    exact ⟨_, (hc 2 (by omega)).trans e2, rfl⟩
  · cases hi
    exact ⟨_, (hc 3 (by omega)).trans e3, rfl, show b3.size ≤ _ by omega⟩
  · first | (cases hi; done) | (simp [kdF] at hi; done)

theorem kdrow_of_trod {n : Nat} {c : Value} {y : DataW H × List MemPlace} (h : DataW.trod enc Tryz.prog w base spare held n 23 [c] = some y) : ∃ a len cap, ∃ xs : List Kd, c = .slice a len cap ∧ RRow w a len cap 4 (xs.map kdF) := by
  rcases open_slice Tryz.underlying23 h with ⟨hcs, _⟩ | ⟨a, len, cap, m, n', D, Pl, hcs, hb, hl, hm, hmm, _, hx⟩
  · exact ⟨none, 0, 0, [], by simpa using hcs, rfl, Nat.le_refl _, by omega, .inl rfl⟩
  have hlm : len ≤ m := by rw [hmm]; split <;> omega
  have hm' : cap ≤ 9223372036854775807 := by unfold maxLen at hm; omega
  have hce : Tryz.prog.cellsOf 108 = 4 := by kernel_rfl
  rw [hce] at hx
  by_cases h0 : len = 0
  · subst h0
    exact ⟨some a, 0, cap, [], by simpa using hcs, rfl, hl, hm', .inl rfl⟩
  obtain ⟨b, o, spot⟩ := a
  obtain ⟨cs0, k1, k2⟩ := hx 0 (by omega)
  have hspot : spot = none := by
    obtain ⟨_, hl0, hc0⟩ := World.cells?_some k1
    have := hc0 0 (by omega)
    rw [List.getElem?_eq_getElem (by omega)] at this
    simpa [Addr.add] using World.cell?_spot this
  subst hspot
  have hblt : b < w.heap.size := by
    obtain ⟨_, hl0, hc0⟩ := World.cells?_some k1
    have := hc0 0 (by omega)
    rw [List.getElem?_eq_getElem (by omega)] at this
    rcases Nat.lt_or_ge b w.heap.size with h1 | h1
    · exact h1
    · simp [Addr.add, World.cell?, Array.getElem?_eq_none h1] at this
  have each : ∀ i, i < len → ∃ v : Kd, RAt w b (o + i * 4) (kdF v) := fun i hi => by
    obtain ⟨cs, k1, k2⟩ := hx i (by omega)
    obtain ⟨_, hl0, hc0⟩ := World.cells?_some k1
    refine kd_of_trod (fun j hj => ?_) k2
    have := hc0 j hj
    rw [add_add, Addr.add_lit] at this
    rw [Nat.add_assoc]
    exact this
  have hin : Inhabited Kd := ⟨⟨⟨#[]⟩, false, false, ⟨#[]⟩⟩⟩
  obtain ⟨f, hf⟩ := choose_lt each
  refine ⟨some ⟨b, o, none⟩, len, cap, (List.range len).map f, by simpa using hcs, by simp, hl, hm', .inr ⟨b, o, rfl, hblt, fun j r hj => ?_⟩⟩
  rw [List.getElem?_map, List.getElem?_map] at hj
  by_cases hjl : j < len
  · rw [List.getElem?_range hjl] at hj
    obtain rfl := Option.some.inj hj
    exact hf j hjl
  · rw [List.getElem?_eq_none (by simp; omega)] at hj
    cases hj

theorem vd_of_trod {b o n : Nat} {cs : List Value} {x : DataW H × List MemPlace} (hc : ∀ i, i < 8 → w.cell? ⟨b, o + i, none⟩ = cs[i]?) (h : DataW.trod enc Tryz.prog w base spare held n 110 cs = some x) : ∃ v : Vd, RAt w b o (vdF v) := by
  obtain ⟨m, hl, hf⟩ := open_aggC Tryz.underlying110 (by kernel_rfl) (by kernel_rfl) h
  obtain ⟨c0, y0, e0, t0⟩ := hf 0 _ rfl
  obtain ⟨b0, q0, -, s0⟩ := DataW.trod_string Tryz.underlying9 t0
  obtain rfl : c0 = .string b0 := by simpa using q0
  obtain ⟨c1, y1, e1, t1⟩ := hf 1 _ rfl
  obtain ⟨b1, q1, -, s1⟩ := DataW.trod_int Tryz.underlying2 t1
  obtain rfl : c1 = .int .i64 b1 := by simpa using q1
  obtain ⟨c2, y2, e2, t2⟩ := hf 2 _ rfl
  obtain ⟨b2, q2, -, s2⟩ := DataW.trod_string Tryz.underlying9 t2
  obtain rfl : c2 = .string b2 := by simpa using q2
  obtain ⟨c3, y3, e3, t3⟩ := hf 3 _ rfl
  obtain ⟨b3, q3, -, s3⟩ := DataW.trod_string Tryz.underlying9 t3
  obtain rfl : c3 = .string b3 := by simpa using q3
  obtain ⟨c4, y4, e4, t4⟩ := hf 4 _ rfl
  obtain ⟨b4, q4, -⟩ := DataW.trod_bool Tryz.underlying4 t4
  obtain rfl : c4 = .bool b4 := by simpa using q4
  obtain ⟨c5, y5, e5, t5⟩ := hf 5 _ rfl
  obtain ⟨b5, q5, -, s5⟩ := DataW.trod_string Tryz.underlying9 t5
  obtain rfl : c5 = .string b5 := by simpa using q5
  obtain ⟨c6, y6, e6, t6⟩ := hf 6 _ rfl
  obtain ⟨b6, q6, -⟩ := DataW.trod_bool Tryz.underlying4 t6
  obtain rfl : c6 = .bool b6 := by simpa using q6
  obtain ⟨c7, y7, e7, t7⟩ := hf 7 _ rfl
  obtain ⟨b7, l7, p7, zz, rfl, r7⟩ := row_of_trod Tryz.underlying51 Tryz.underlying9 (by kernel_rfl) t7
  unfold maxLen at s0 s2 s3 s5
  refine ⟨⟨b0, b1, b2, b3, b4, b5, b6, zz⟩, fun i f hi => ?_⟩
  rcases i with _ | _ | _ | _ | _ | _ | _ | _ | i
  · cases hi
    exact ⟨_, (hc 0 (by omega)).trans e0, rfl, show b0.size ≤ _ by omega⟩
  · cases hi
    exact ⟨_, (hc 1 (by omega)).trans e1, rfl⟩
  · cases hi
    exact ⟨_, (hc 2 (by omega)).trans e2, rfl, show b2.size ≤ _ by omega⟩
  · cases hi
    exact ⟨_, (hc 3 (by omega)).trans e3, rfl, show b3.size ≤ _ by omega⟩
  · cases hi
    exact ⟨_, (hc 4 (by omega)).trans e4, rfl⟩
  · cases hi
    exact ⟨_, (hc 5 (by omega)).trans e5, rfl, show b5.size ≤ _ by omega⟩
  · cases hi
    exact ⟨_, (hc 6 (by omega)).trans e6, rfl⟩
  · cases hi
    exact ⟨_, (hc 7 (by omega)).trans e7, b7, l7, p7, rfl, r7⟩
  · first | (cases hi; done) | (simp [vdF] at hi; done)

theorem vdrow_of_trod {n : Nat} {c : Value} {y : DataW H × List MemPlace} (h : DataW.trod enc Tryz.prog w base spare held n 24 [c] = some y) : ∃ a len cap, ∃ xs : List Vd, c = .slice a len cap ∧ RRow w a len cap 8 (xs.map vdF) := by
  rcases open_slice Tryz.underlying24 h with ⟨hcs, _⟩ | ⟨a, len, cap, m, n', D, Pl, hcs, hb, hl, hm, hmm, _, hx⟩
  · exact ⟨none, 0, 0, [], by simpa using hcs, rfl, Nat.le_refl _, by omega, .inl rfl⟩
  have hlm : len ≤ m := by rw [hmm]; split <;> omega
  have hm' : cap ≤ 9223372036854775807 := by unfold maxLen at hm; omega
  have hce : Tryz.prog.cellsOf 110 = 8 := by kernel_rfl
  rw [hce] at hx
  by_cases h0 : len = 0
  · subst h0
    exact ⟨some a, 0, cap, [], by simpa using hcs, rfl, hl, hm', .inl rfl⟩
  obtain ⟨b, o, spot⟩ := a
  obtain ⟨cs0, k1, k2⟩ := hx 0 (by omega)
  have hspot : spot = none := by
    obtain ⟨_, hl0, hc0⟩ := World.cells?_some k1
    have := hc0 0 (by omega)
    rw [List.getElem?_eq_getElem (by omega)] at this
    simpa [Addr.add] using World.cell?_spot this
  subst hspot
  have hblt : b < w.heap.size := by
    obtain ⟨_, hl0, hc0⟩ := World.cells?_some k1
    have := hc0 0 (by omega)
    rw [List.getElem?_eq_getElem (by omega)] at this
    rcases Nat.lt_or_ge b w.heap.size with h1 | h1
    · exact h1
    · simp [Addr.add, World.cell?, Array.getElem?_eq_none h1] at this
  have each : ∀ i, i < len → ∃ v : Vd, RAt w b (o + i * 8) (vdF v) := fun i hi => by
    obtain ⟨cs, k1, k2⟩ := hx i (by omega)
    obtain ⟨_, hl0, hc0⟩ := World.cells?_some k1
    refine vd_of_trod (fun j hj => ?_) k2
    have := hc0 j hj
    rw [add_add, Addr.add_lit] at this
    rw [Nat.add_assoc]
    exact this
  have hin : Inhabited Vd := ⟨⟨⟨#[]⟩, 0, ⟨#[]⟩, ⟨#[]⟩, false, ⟨#[]⟩, false, []⟩⟩
  obtain ⟨f, hf⟩ := choose_lt each
  refine ⟨some ⟨b, o, none⟩, len, cap, (List.range len).map f, by simpa using hcs, by simp, hl, hm', .inr ⟨b, o, rfl, hblt, fun j r hj => ?_⟩⟩
  rw [List.getElem?_map, List.getElem?_map] at hj
  by_cases hjl : j < len
  · rw [List.getElem?_range hjl] at hj
    obtain rfl := Option.some.inj hj
    exact hf j hjl
  · rw [List.getElem?_eq_none (by simp; omega)] at hj
    cases hj

theorem xd_of_trod {b o n : Nat} {cs : List Value} {x : DataW H × List MemPlace} (hc : ∀ i, i < 5 → w.cell? ⟨b, o + i, none⟩ = cs[i]?) (h : DataW.trod enc Tryz.prog w base spare held n 30 cs = some x) : ∃ v : Xd, RAt w b o (xdF v) := by
  obtain ⟨m, hl, hf⟩ := open_aggC Tryz.underlying30 (by kernel_rfl) (by kernel_rfl) h
  obtain ⟨c0, y0, e0, t0⟩ := hf 0 _ rfl
  obtain ⟨b0, q0, -, s0⟩ := DataW.trod_string Tryz.underlying9 t0
  obtain rfl : c0 = .string b0 := by simpa using q0
  obtain ⟨c1, y1, e1, t1⟩ := hf 1 _ rfl
  obtain ⟨b1, q1, -, s1⟩ := DataW.trod_int Tryz.underlying2 t1
  obtain rfl : c1 = .int .i64 b1 := by simpa using q1
  obtain ⟨c2, y2, e2, t2⟩ := hf 2 _ rfl
  obtain ⟨b2, q2, -, s2⟩ := DataW.trod_string Tryz.underlying9 t2
  obtain rfl : c2 = .string b2 := by simpa using q2
  obtain ⟨c3, y3, e3, t3⟩ := hf 3 _ rfl
  obtain ⟨b3, q3, -⟩ := DataW.trod_bool Tryz.underlying4 t3
  obtain rfl : c3 = .bool b3 := by simpa using q3
  obtain ⟨c4, y4, e4, t4⟩ := hf 4 _ rfl
  obtain ⟨b4, q4, -, s4⟩ := DataW.trod_string Tryz.underlying9 t4
  obtain rfl : c4 = .string b4 := by simpa using q4
  unfold maxLen at s0 s2 s4
  refine ⟨⟨b0, b1, b2, b3, b4⟩, fun i f hi => ?_⟩
  rcases i with _ | _ | _ | _ | _ | i
  · cases hi
    exact ⟨_, (hc 0 (by omega)).trans e0, rfl, show b0.size ≤ _ by omega⟩
  · cases hi
    exact ⟨_, (hc 1 (by omega)).trans e1, rfl⟩
  · cases hi
    exact ⟨_, (hc 2 (by omega)).trans e2, rfl, show b2.size ≤ _ by omega⟩
  · cases hi
    exact ⟨_, (hc 3 (by omega)).trans e3, rfl⟩
  · cases hi
    exact ⟨_, (hc 4 (by omega)).trans e4, rfl, show b4.size ≤ _ by omega⟩
  · first | (cases hi; done) | (simp [xdF] at hi; done)

theorem xdrow_of_trod {n : Nat} {c : Value} {y : DataW H × List MemPlace} (h : DataW.trod enc Tryz.prog w base spare held n 25 [c] = some y) : ∃ a len cap, ∃ xs : List Xd, c = .slice a len cap ∧ RRow w a len cap 5 (xs.map xdF) := by
  rcases open_slice Tryz.underlying25 h with ⟨hcs, _⟩ | ⟨a, len, cap, m, n', D, Pl, hcs, hb, hl, hm, hmm, _, hx⟩
  · exact ⟨none, 0, 0, [], by simpa using hcs, rfl, Nat.le_refl _, by omega, .inl rfl⟩
  have hlm : len ≤ m := by rw [hmm]; split <;> omega
  have hm' : cap ≤ 9223372036854775807 := by unfold maxLen at hm; omega
  have hce : Tryz.prog.cellsOf 30 = 5 := by kernel_rfl
  rw [hce] at hx
  by_cases h0 : len = 0
  · subst h0
    exact ⟨some a, 0, cap, [], by simpa using hcs, rfl, hl, hm', .inl rfl⟩
  obtain ⟨b, o, spot⟩ := a
  obtain ⟨cs0, k1, k2⟩ := hx 0 (by omega)
  have hspot : spot = none := by
    obtain ⟨_, hl0, hc0⟩ := World.cells?_some k1
    have := hc0 0 (by omega)
    rw [List.getElem?_eq_getElem (by omega)] at this
    simpa [Addr.add] using World.cell?_spot this
  subst hspot
  have hblt : b < w.heap.size := by
    obtain ⟨_, hl0, hc0⟩ := World.cells?_some k1
    have := hc0 0 (by omega)
    rw [List.getElem?_eq_getElem (by omega)] at this
    rcases Nat.lt_or_ge b w.heap.size with h1 | h1
    · exact h1
    · simp [Addr.add, World.cell?, Array.getElem?_eq_none h1] at this
  have each : ∀ i, i < len → ∃ v : Xd, RAt w b (o + i * 5) (xdF v) := fun i hi => by
    obtain ⟨cs, k1, k2⟩ := hx i (by omega)
    obtain ⟨_, hl0, hc0⟩ := World.cells?_some k1
    refine xd_of_trod (fun j hj => ?_) k2
    have := hc0 j hj
    rw [add_add, Addr.add_lit] at this
    rw [Nat.add_assoc]
    exact this
  have hin : Inhabited Xd := ⟨⟨⟨#[]⟩, 0, ⟨#[]⟩, false, ⟨#[]⟩⟩⟩
  obtain ⟨f, hf⟩ := choose_lt each
  refine ⟨some ⟨b, o, none⟩, len, cap, (List.range len).map f, by simpa using hcs, by simp, hl, hm', .inr ⟨b, o, rfl, hblt, fun j r hj => ?_⟩⟩
  rw [List.getElem?_map, List.getElem?_map] at hj
  by_cases hjl : j < len
  · rw [List.getElem?_range hjl] at hj
    obtain rfl := Option.some.inj hj
    exact hf j hjl
  · rw [List.getElem?_eq_none (by simp; omega)] at hj
    cases hj

theorem pd_of_trod {b o n : Nat} {cs : List Value} {x : DataW H × List MemPlace} (hc : ∀ i, i < 6 → w.cell? ⟨b, o + i, none⟩ = cs[i]?) (h : DataW.trod enc Tryz.prog w base spare held n 113 cs = some x) : ∃ v : Pd, RAt w b o (pdF v) := by
  obtain ⟨m, hl, hf⟩ := open_aggC Tryz.underlying113 (by kernel_rfl) (by kernel_rfl) h
  obtain ⟨c0, y0, e0, t0⟩ := hf 0 _ rfl
  obtain ⟨b0, q0, -, s0⟩ := DataW.trod_string Tryz.underlying9 t0
  obtain rfl : c0 = .string b0 := by simpa using q0
  obtain ⟨c1, y1, e1, t1⟩ := hf 1 _ rfl
  obtain ⟨b1, q1, -, s1⟩ := DataW.trod_int Tryz.underlying2 t1
  obtain rfl : c1 = .int .i64 b1 := by simpa using q1
  obtain ⟨c2, y2, e2, t2⟩ := hf 2 _ rfl
  obtain ⟨b2, q2, -, s2⟩ := DataW.trod_string Tryz.underlying9 t2
  obtain rfl : c2 = .string b2 := by simpa using q2
  obtain ⟨c3, y3, e3, t3⟩ := hf 3 _ rfl
  obtain ⟨b3, l3, p3, zz, rfl, r3⟩ := row_of_trod Tryz.underlying51 Tryz.underlying9 (by kernel_rfl) t3
  obtain ⟨c4, y4, e4, t4⟩ := hf 4 _ rfl
  obtain ⟨b4, q4, -, s4⟩ := DataW.trod_string Tryz.underlying9 t4
  obtain rfl : c4 = .string b4 := by simpa using q4
  obtain ⟨c5, y5, e5, t5⟩ := hf 5 _ rfl
  obtain ⟨b5, q5, -, s5⟩ := DataW.trod_int Tryz.underlying2 t5
  obtain rfl : c5 = .int .i64 b5 := by simpa using q5
  unfold maxLen at s0 s2 s4
  refine ⟨⟨b0, b1, b2, zz, b4, b5⟩, fun i f hi => ?_⟩
  rcases i with _ | _ | _ | _ | _ | _ | i
  · cases hi
    exact ⟨_, (hc 0 (by omega)).trans e0, rfl, show b0.size ≤ _ by omega⟩
  · cases hi
    exact ⟨_, (hc 1 (by omega)).trans e1, rfl⟩
  · cases hi
    exact ⟨_, (hc 2 (by omega)).trans e2, rfl, show b2.size ≤ _ by omega⟩
  · cases hi
    exact ⟨_, (hc 3 (by omega)).trans e3, b3, l3, p3, rfl, r3⟩
  · cases hi
    exact ⟨_, (hc 4 (by omega)).trans e4, rfl, show b4.size ≤ _ by omega⟩
  · cases hi
    exact ⟨_, (hc 5 (by omega)).trans e5, rfl⟩
  · first | (cases hi; done) | (simp [pdF] at hi; done)

theorem pdrow_of_trod {n : Nat} {c : Value} {y : DataW H × List MemPlace} (h : DataW.trod enc Tryz.prog w base spare held n 26 [c] = some y) : ∃ a len cap, ∃ xs : List Pd, c = .slice a len cap ∧ RRow w a len cap 6 (xs.map pdF) := by
  rcases open_slice Tryz.underlying26 h with ⟨hcs, _⟩ | ⟨a, len, cap, m, n', D, Pl, hcs, hb, hl, hm, hmm, _, hx⟩
  · exact ⟨none, 0, 0, [], by simpa using hcs, rfl, Nat.le_refl _, by omega, .inl rfl⟩
  have hlm : len ≤ m := by rw [hmm]; split <;> omega
  have hm' : cap ≤ 9223372036854775807 := by unfold maxLen at hm; omega
  have hce : Tryz.prog.cellsOf 113 = 6 := by kernel_rfl
  rw [hce] at hx
  by_cases h0 : len = 0
  · subst h0
    exact ⟨some a, 0, cap, [], by simpa using hcs, rfl, hl, hm', .inl rfl⟩
  obtain ⟨b, o, spot⟩ := a
  obtain ⟨cs0, k1, k2⟩ := hx 0 (by omega)
  have hspot : spot = none := by
    obtain ⟨_, hl0, hc0⟩ := World.cells?_some k1
    have := hc0 0 (by omega)
    rw [List.getElem?_eq_getElem (by omega)] at this
    simpa [Addr.add] using World.cell?_spot this
  subst hspot
  have hblt : b < w.heap.size := by
    obtain ⟨_, hl0, hc0⟩ := World.cells?_some k1
    have := hc0 0 (by omega)
    rw [List.getElem?_eq_getElem (by omega)] at this
    rcases Nat.lt_or_ge b w.heap.size with h1 | h1
    · exact h1
    · simp [Addr.add, World.cell?, Array.getElem?_eq_none h1] at this
  have each : ∀ i, i < len → ∃ v : Pd, RAt w b (o + i * 6) (pdF v) := fun i hi => by
    obtain ⟨cs, k1, k2⟩ := hx i (by omega)
    obtain ⟨_, hl0, hc0⟩ := World.cells?_some k1
    refine pd_of_trod (fun j hj => ?_) k2
    have := hc0 j hj
    rw [add_add, Addr.add_lit] at this
    rw [Nat.add_assoc]
    exact this
  have hin : Inhabited Pd := ⟨⟨⟨#[]⟩, 0, ⟨#[]⟩, [], ⟨#[]⟩, 0⟩⟩
  obtain ⟨f, hf⟩ := choose_lt each
  refine ⟨some ⟨b, o, none⟩, len, cap, (List.range len).map f, by simpa using hcs, by simp, hl, hm', .inr ⟨b, o, rfl, hblt, fun j r hj => ?_⟩⟩
  rw [List.getElem?_map, List.getElem?_map] at hj
  by_cases hjl : j < len
  · rw [List.getElem?_range hjl] at hj
    obtain rfl := Option.some.inj hj
    exact hf j hjl
  · rw [List.getElem?_eq_none (by simp; omega)] at hj
    cases hj

end

end Rc
end Go.Proofs.YtfapjochclhfpaaGreatDoor

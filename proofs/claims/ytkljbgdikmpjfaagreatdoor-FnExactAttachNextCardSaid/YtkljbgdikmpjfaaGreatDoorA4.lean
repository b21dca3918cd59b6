import Derived.Test.YtkljbgdikmpjfaaGreatDoorA3
import Derived.WalkKit
import Derived.LaidEql
import Derived.Stop.Asserts
import Derived.RowKitTokens
import Derived.Test.YtkljbgdikmpjfaaGreatDoorRows
import Derived.WalkSpells
import Derived.RegionTactic
import Derived.Lib.Overlaps
import Derived.Lib.SliceRun
import Derived.Lib.AppendZerosOnto
import Derived.Deep.RegionLaw
import Derived.Shelf.RegionOpenPlain
import Derived.Deep.AppendLies
import Derived.Laws.StructEq
/-
 Whether volumes are on nodes where they may be, as the specification asks it.
-/
set_option maxRecDepth 100000
set_option maxHeartbeats 12800000
namespace Go.Proofs.YtkljbgdikmpjfaaGreatDoor
open Go.RowKit
namespace Rc
open Mk

def AttachedS (c : Cl) : Prop:=(∀ (j : Nat) z,c.vs[j]? = some z → AQ1 c z) ∧ ∀ (j : Nat) n,c.ns[j]? = some n → onOf n.n c.vs ≤ n.s

theorem sattached_any (d : Ad) (c : Cl) (w : World) (hr : ClRow w d c.raw) (hn : RisBy Nd.n c.ns) (hvs8 : c.vs.length ≤ 8) :
  Calls Tryz.prog 74 #[.agg #[.slice d.a1 d.l1 d.c1,.slice d.a2 d.l2 d.c2,.slice d.a3 d.l3 d.c3,.slice d.a4 d.l4 d.c4,.slice d.a5 d.l5 d.c5,.int .i64 c.now]] w (BoolB (AttachedS c) w):=by
 obtain ⟨a1,l1,y1,a2,l2,y2,a3,l3,y3,a4,l4,y4,a5,l5,y5⟩:=d;dsimp only;have HR:=hidK hr
 have hl1 : c.ns.length = l1:=by simpa using (show (c.ns.map ndF).length = l1 from hr.n.1)
 have hm1 : l1 ≤ 9223372036854775807:=Nat.le_trans hr.n.2.1 hr.n.2.2.1
 have hl2 : c.ks.length = l2:=by simpa using (show (c.ks.map kdF).length = l2 from hr.k.1)
 have hm2 : l2 ≤ 9223372036854775807:=Nat.le_trans hr.k.2.1 hr.k.2.2.1
 have hl3 : c.vs.length = l3:=by simpa using (show (c.vs.map vdF).length = l3 from hr.v.1)
 have hm3 : l3 ≤ 9223372036854775807:=Nat.le_trans hr.v.2.1 hr.v.2.2.1
 have hl4 : c.xs.length = l4:=by simpa using (show (c.xs.map xdF).length = l4 from hr.x.1)
 have hm4 : l4 ≤ 9223372036854775807:=Nat.le_trans hr.x.2.1 hr.x.2.2.1
 have hl5 : c.ps.length = l5:=by simpa using (show (c.ps.map pdF).length = l5 from hr.p.1)
 have hm5 : l5 ≤ 9223372036854775807:=Nat.le_trans hr.p.2.1 hr.p.2.2.1;clear hr;have HNR:=hidK hn;have HL3:=hidK hvs8;clear hn hvs8
 go_enter Tryz.func74,Tryz.ntmps74
 go_wp2
 go_loopw [3] (fun i wr => ∃ k : Nat,k ≤ l3 ∧ i = .int .i64 k ∧ Hid (∀ (j : Nat) z,j < k → c.vs[j]? = some z → AQ1 c z) ∧ Hid (Below w.heap.size w wr) ∧ Hid (wr.heap[w.heap.size]? = some (.cells #[.slice a1 l1 y1,.slice a2 l2 y2,.slice a3 l3 y3,.slice a4 l4 y4,.slice a5 l5 y5,.int .i64 c.now] 38 (0,0)))) (fun i _ => l3 - (intOf i).toNat)
 case atStart => exact ⟨0,by omega,rfl,fun _ _ h => absurd h (by omega),below1 _ _,Array.getElem?_push_size⟩
 case round =>
  obtain ⟨k,hk,rfl,HQ,HB,Bk⟩:=hrel;have pk : wr.cell? ⟨w.heap.size,2,none⟩ = some (.slice a3 l3 y3):=cellK Bk.out 2;have pkl : w.heap.size < wr.heap.size:=lt_of_some Bk.out
  by_cases hlt : k < l3
  ·obtain ⟨b,o,v,rfl,hb,hx,hat⟩:=vd_at (HR.out.v.below HB.out) hlt;obtain ⟨va,vl,vc,hvr,z0,z2,z3,z5,c0,c1,c2,c3,c4,c5,c6,c7⟩:=vd_cells hat;have HXv:=hidK hx;have HTv:=hidK hvr;have HZv0:=hidK z0;have HZv2:=hidK z2;have HZv3:=hidK z3;have HZv5:=hidK z5;clear hat hx z0 z2 z3 z5 hvr;have hvl : v.zs.length = vl:=HTv.out.1;have hvc : vl ≤ 9223372036854775807:=Nat.le_trans HTv.out.2.1 HTv.out.2.2.1;have HVL:=hidK hvl;clear hvl;have KV : Hid ((wr.alloc (.cells #[.string v.n,.int .i64 v.c,.string v.z,.string v.k,.bool v.x,.string v.m,.bool v.y,.slice va vl vc] 81)).heap[w.heap.size]? = some (.cells #[.slice a1 l1 y1,.slice a2 l2 y2,.slice (some ⟨b,o,none⟩) l3 y3,.slice a4 l4 y4,.slice a5 l5 y5,.int .i64 c.now] 38 (0,0))):=(Below.heap_alloc wr (.cells #[.string v.n,.int .i64 v.c,.string v.z,.string v.k,.bool v.x,.string v.m,.bool v.y,.slice va vl vc] 81) _ (lt_of_some Bk.out)).trans Bk.out;have GV : Hid ((wr.alloc (.cells #[.string v.n,.int .i64 v.c,.string v.z,.string v.k,.bool v.x,.string v.m,.bool v.y,.slice va vl vc] 81)).heap[wr.heap.size]? = some (.cells #[.string v.n,.int .i64 v.c,.string v.z,.string v.k,.bool v.x,.string v.m,.bool v.y,.slice va vl vc] 81 (0,0))):=Array.getElem?_push_size;have BV:=hidK (HB.out.trans ((below1 wr (.cells #[.string v.n,.int .i64 v.c,.string v.z,.string v.k,.bool v.x,.string v.m,.bool v.y,.slice va vl vc] 81)).mono HB.out.size));have TT:=hidK (HTv.out.below (below1 wr (.cells #[.string v.n,.int .i64 v.c,.string v.z,.string v.k,.bool v.x,.string v.m,.bool v.y,.slice va vl vc] 81)));obtain ⟨W,hW⟩ : ∃ W,W = wr.alloc (.cells #[.string v.n,.int .i64 v.c,.string v.z,.string v.k,.bool v.x,.string v.m,.bool v.y,.slice va vl vc] 81):=⟨_,rfl⟩;obtain ⟨gb,hgb⟩ : ∃ gb,gb = wr.heap.size:=⟨_,rfl⟩;rw [← hW] at KV GV BV TT;rw [← hgb] at GV
   go_wp2
   rw [← hW,← hgb];clear hW hgb HB Bk HTv c0 c1 c2 c3 c4 c5 c6 c7 hb pk pkl
   go_loopw [5] (fun i wr => ∃ kq : Nat,kq ≤ vl ∧ i = .int .i64 kq ∧ Hid (∀ (j : Nat) t,j < kq → v.zs[j]? = some t → ∃ (i : Nat) (n : Nd),c.ns[i]? = some n ∧ n.n = t ∧ n.z = v.z) ∧ Hid (Below W.heap.size W wr)) (fun i _ => vl - (intOf i).toNat)
   case atStart => exact ⟨0,by omega,rfl,fun _ _ h => absurd h (by omega),Below.refl _ _⟩
   case round =>
    obtain ⟨kq,hkq,rfl,HQ2,HBW⟩:=hrel;have HB:=hidK (BV.out.trans (HBW.out.mono BV.out.size));have Bk:=upK KV HBW.out;have Bv:=upK GV HBW.out;have pv : wr.cell? ⟨gb,7,none⟩ = some (.slice va vl vc):=cellK Bv.out 7
    by_cases hlt2 : kq < vl
    ·obtain ⟨b2,o2,t,rfl,hb,hx,hc,hsz⟩:=(TT.out.below HBW.out).at hlt2;have HXt:=hidK hx;clear hx hsz
     by_cases hnn : ∃ (i : Nat) (n : Nd),c.ns[i]? = some n ∧ n.n = t
     rotate_left
     ·have HH:=hidK hnn;clear hnn;have Gk:=Bk;have Gv:=Bv;have HW:=HB;obtain ⟨k0,k1,k2,k3,k4,k5⟩:=sl6 Gk;have v7:=fun q : Wd wr => q.slot (o:=7) Gv.out rfl;have tw:=fun q : Wd wr => (q.cell hb).trans hc;have hne0:=Wd.ne wr;have HC0:=hidK (fun q : Wd wr => sxnd_miss ⟨a1,l1,y1,a2,l2,y2,(some ⟨b,o,none⟩),l3,y3,a4,l4,y4,a5,l5,y5⟩ c.now c.ns t q.w (HR.out.n.below (HW.out.trans (q.b.mono HW.out.size))) (fun i n h1 h2 => HH.out ⟨i,n,h1,h2⟩));go_wp2_with fail;refine wp_region_wide (by kernel_rfl) (by kernel_rfl) ?_
      repeat (go_big_quiet_step (first | (go_at_call 105;exact Calls.wide (HC0.out _)) | fail))
      refine wpQuiet_nil ?_;rintro _ ⟨q1,rfl⟩;have HB1:=upB HW q1.b;have Ck:=upK Gk q1.b;have Cv:=upK Gv q1.b;clear hne0 HW HB HC0 k0 k1 k2 k3 k4 k5 v7 tw Gk Gv Bk Bv pv;have HB:=HB1;clear HB1;have Bk:=Ck;clear Ck;have Bv:=Cv;clear Cv;have Gk:=Bk;have Gv:=Bv;have HW:=HB;have k0:=fun q : Wd q1.w => q.slot (o:=0) Gk.out rfl;obtain ⟨v0,v1,v2,v3,v4,v5,v6,v7⟩:=sl8 Gv;have hne0:=Wd.ne q1.w;go_wp2_with fail;refine wp_region_wide (by kernel_rfl) (by kernel_rfl) ?_
      repeat (go_big_quiet_step (first | fail))
      refine wpQuiet_nil ?_;rintro _ ⟨q2,rfl⟩;have HB2:=upB HW q2.b;have Ck:=upK Gk q2.b;have Cv:=upK Gv q2.b;clear hne0 HW HB k0 v0 v1 v2 v3 v4 v5 v6 v7 Gk Gv Bk Bv;have HB:=HB2;clear HB2;have Bk:=Ck;clear Ck;have Bv:=Cv;clear Cv
      go_wp2
      go_ret;refine BoolB.f (fun h => ?_) HB.out;obtain ⟨i,n,h2,h3,_⟩:=(h.1 k v HXv.out) kq t HXt.out;exact HH.out ⟨i,n,h2,h3⟩
     obtain ⟨j1,n,h1,h2⟩:=hnn
     have hl1' : j1 < l1:=by have h3:=(List.getElem?_eq_some_iff.1 h1).1;omega
     obtain ⟨b1,o1,n',rfl,hb1n,hn',hat⟩:=nd_at HR.out.n hl1';rw [h1] at hn';obtain rfl:=Option.some.inj hn';obtain ⟨na,nl,nc,hnr,z0,z1,d0,d1,d2,d3,d4,d5,d6⟩:=nd_cells hat;have HJn:=hidK h1;have HNn:=hidK h2;have HCn:=hidK d1;have HBn:=hidK hb1n
     have hj11 : decide ((j1 : Int) < 0) = false:=by simp
     clear hn' hat hnr z0 z1 d0 d1 d2 d3 d4 d5 d6 h1 h2 hb1n;have Gk:=Bk;have Gv:=Bv;have HW:=HB;obtain ⟨k0,k1,k2,k3,k4,k5⟩:=sl6 Gk;have v7:=fun q : Wd wr => q.slot (o:=7) Gv.out rfl;have tw:=fun q : Wd wr => (q.cell hb).trans hc;have hne0:=Wd.ne wr;have HC0:=hidK (fun q : Wd wr => sxnd_hit ⟨(some ⟨b1,o1,none⟩),l1,y1,a2,l2,y2,(some ⟨b,o,none⟩),l3,y3,a4,l4,y4,a5,l5,y5⟩ c.now c.ns t q.w (HR.out.n.below (HW.out.trans (q.b.mono HW.out.size))) HNR.out HJn.out HNn.out);go_wp2_with fail;refine wp_region_wide (by kernel_rfl) (by kernel_rfl) ?_
     repeat (go_big_quiet_step (first | (go_at_call 105;exact Calls.wide (HC0.out _)) | fail))
     refine wpQuiet_nil ?_;rintro _ ⟨q1,rfl⟩;have HB1:=upB HW q1.b;have Ck:=upK Gk q1.b;have Cv:=upK Gv q1.b;clear hne0 HW HB HC0 k0 k1 k2 k3 k4 k5 v7 tw Gk Gv Bk Bv pv hb hc;have HB:=HB1;clear HB1;have Bk:=Ck;clear Ck;have Bv:=Cv;clear Cv;have HBW1:=upB HBW q1.b;have hbn : b1 < q1.w.heap.size:=Nat.lt_of_lt_of_le HBn.out HB.out.size;have n1:=(cell_below HB.out HBn.out).trans HCn.out;clear HBW
     by_cases hz : n.z = v.z
     ·have q8:=tl_yes hz;have HZ:=hidK hz;clear hz;have Gk:=Bk;have Gv:=Bv;have HW:=HB;have k0:=fun q : Wd q1.w => q.slot (o:=0) Gk.out rfl;obtain ⟨v0,v1,v2,v3,v4,v5,v6,v7⟩:=sl8 Gv;have nw:=fun q : Wd q1.w => (q.cell hbn).trans n1;have hne0:=Wd.ne q1.w;go_wp2_with fail;refine wp_region_wide (by kernel_rfl) (by kernel_rfl) ?_
      repeat (go_big_quiet_step (first | fail))
      refine wpQuiet_nil ?_;rintro _ ⟨q2,rfl⟩;have HB2:=upB HW q2.b;have Ck:=upK Gk q2.b;have Cv:=upK Gv q2.b;clear hne0 HW HB k0 v0 v1 v2 v3 v4 v5 v6 v7 nw Gk Gv Bk Bv hbn n1;have HB:=HB2;clear HB2;have Bk:=Ck;clear Ck;have Bv:=Cv;clear Cv;clear q8;go_wp2_with fail;refine ⟨⟨kq + 1,by omega,by go_num,fun j s hj hs => ?_,HBW1.out.trans (q2.b.mono HBW1.out.size)⟩,by simp [intOf];omega⟩
      by_cases e : j = kq
      ·subst e;rw [HXt.out] at hs;obtain rfl:=Option.some.inj hs;exact ⟨j1,n,HJn.out,HNn.out,HZ.out⟩
      ·exact HQ2.out j s (by omega) hs
     ·have q8:=tl_no hz;have HZ:=hidK hz;clear hz;have Gk:=Bk;have Gv:=Bv;have HW:=HB;have k0:=fun q : Wd q1.w => q.slot (o:=0) Gk.out rfl;obtain ⟨v0,v1,v2,v3,v4,v5,v6,v7⟩:=sl8 Gv;have nw:=fun q : Wd q1.w => (q.cell hbn).trans n1;have hne0:=Wd.ne q1.w;go_wp2_with fail;refine wp_region_wide (by kernel_rfl) (by kernel_rfl) ?_
      repeat (go_big_quiet_step (first | fail))
      refine wpQuiet_nil ?_;rintro _ ⟨q2,rfl⟩;have HB2:=upB HW q2.b;have Ck:=upK Gk q2.b;have Cv:=upK Gv q2.b;clear hne0 HW HB k0 v0 v1 v2 v3 v4 v5 v6 v7 nw Gk Gv Bk Bv hbn n1;have HB:=HB2;clear HB2;have Bk:=Ck;clear Ck;have Bv:=Cv;clear Cv
      go_wp2
      go_ret;refine BoolB.f (fun h => ?_) HB.out;obtain ⟨i,m2,e1,e2,e3⟩:=(h.1 k v HXv.out) kq t HXt.out;obtain ⟨_,rfl⟩:=HNR.out.inj e1 HJn.out (e2.trans HNn.out.symm);exact HZ.out e3
    ·obtain rfl : vl = kq:=by omega
     go_wp2_with fail;refine ⟨⟨k + 1,by omega,by go_num,fun j z hj hz => ?_,HB.out,Bk.out⟩,by simp [intOf];omega⟩
     by_cases e : j = k
     ·subst e;rw [HXv.out] at hz;obtain rfl:=Option.some.inj hz;exact fun j s hs => HQ2.out j s (by have h1:=(List.getElem?_eq_some_iff.1 hs).1;have h2:=HVL.out;omega) hs
     ·exact HQ.out j z (by omega) hz
  ·obtain rfl : l3 = k:=by omega
   have HQ1 : Hid (∀ (j : Nat) z,c.vs[j]? = some z → AQ1 c z):=fun j z hz => HQ.out j z (by have:=(List.getElem?_eq_some_iff.1 hz).1;omega) hz;clear HQ;have kc : wr.cell? ⟨w.heap.size,0,none⟩ = some (.slice a1 l1 y1):=cellK Bk.out 0
   go_wp2
   clear pk kc
   go_loopw [7] (fun i wr => ∃ k : Nat,k ≤ l1 ∧ i = .int .i64 k ∧ Hid (∀ (j : Nat) n,j < k → c.ns[j]? = some n → onOf n.n c.vs ≤ n.s) ∧ Hid (Below w.heap.size w wr) ∧ Hid (wr.heap[w.heap.size]? = some (.cells #[.slice a1 l1 y1,.slice a2 l2 y2,.slice a3 l3 y3,.slice a4 l4 y4,.slice a5 l5 y5,.int .i64 c.now] 38 (0,0)))) (fun i _ => l1 - (intOf i).toNat)
   case atStart => exact ⟨0,by omega,rfl,fun _ _ h => absurd h (by omega),HB.out,Bk.out⟩
   case round =>
    obtain ⟨k,hk,rfl,HQ,HB,Bk⟩:=hrel;have pk : wr.cell? ⟨w.heap.size,0,none⟩ = some (.slice a1 l1 y1):=cellK Bk.out 0
    by_cases hlt : k < l1
    ·obtain ⟨b,o,n,rfl,hb,hx,hat⟩:=nd_at (HR.out.n.below HB.out) hlt;obtain ⟨va,vl,vc,hvr,z0,z1,c0,c1,c2,c3,c4,c5,c6⟩:=nd_cells hat;have HXn:=hidK hx;have HTn:=hidK hvr;have HZn0:=hidK z0;have HZn1:=hidK z1;clear hat hx z0 z1 hvr;have Gk:=Bk;have HW:=HB;obtain ⟨k0,k1,k2,k3,k4,k5⟩:=sl6 Gk;have n0w:=fun q : Wd wr => (q.cell hb).trans c0;have n2w:=fun q : Wd wr => (q.cell hb).trans c3;have hne0:=Wd.ne wr;have HC0:=hidK (fun q : Wd wr => son_any ⟨(some ⟨b,o,none⟩),l1,y1,a2,l2,y2,a3,l3,y3,a4,l4,y4,a5,l5,y5⟩ c.now c.vs n.n q.w (HR.out.v.below (HW.out.trans (q.b.mono HW.out.size))) HL3.out);go_wp2_with fail;refine wp_region_wide (by kernel_rfl) (by kernel_rfl) ?_
     repeat (go_big_quiet_step (first | (go_at_call 104;exact Calls.wide (HC0.out _)) | fail))
     refine wpQuiet_nil ?_;rintro _ ⟨q1,rfl⟩;have HB1:=upB HW q1.b;have Ck:=upK Gk q1.b;clear hne0 HW HB HC0 k0 k1 k2 k3 k4 k5 n0w n2w Gk Bk pk c0 c1 c2 c3 c4 c5 c6 hb;have HB:=HB1;clear HB1;have Bk:=Ck;clear Ck
     by_cases hq : onOf n.n c.vs ≤ n.s
     ·have HCq:=hidK hq;go_wp2_with fail;refine ⟨⟨k + 1,by omega,by go_num,fun j z hj hz => ?_,HB.out,Bk.out⟩,by simp [intOf];omega⟩
      by_cases e : j = k
      ·subst e;rw [HXn.out] at hz;obtain rfl:=Option.some.inj hz;exact HCq.out
      ·exact HQ.out j z (by omega) hz
     ·have HCq:=hidK hq
      go_wp2
      go_ret;exact BoolB.f (fun h => by have h1 : onOf n.n c.vs ≤ n.s:=h.2 k n HXn.out;have h2:=HCq.out;omega) HB.out
    ·obtain rfl : l1 = k:=by omega
     go_wp2
     go_ret;exact BoolB.t ⟨HQ1.out,fun j n hz => HQ.out j n (by have:=(List.getElem?_eq_some_iff.1 hz).1;omega) hz⟩ HB.out

def FreshN (W : World) : Fact:=fun v w => ∃ g,v = .pointer (some ⟨g,0,none⟩) ∧ W.heap.size ≤ g ∧ w.heap[g]? = some (.cells #[.string ⟨#[]⟩,.string ⟨#[]⟩,.int .i64 0,.int .i64 0,.int .i64 0,.bool false,.slice none 0 0] 109 (0,0))
theorem FreshN.mono (W : World) : Fact.Mono (FreshN W):=by
 rintro v w w' ⟨g,h1,h2,h3⟩ hb;exact ⟨g,h1,h2,(hb.block g (lt_of_some h3)).trans h3⟩
theorem put7N {w : World} {g : Nat} {v0 v1 v2 v3 v4 v5 v6 : Value} (h : w.heap[g]? = some (.cells #[.string ⟨#[]⟩,.string ⟨#[]⟩,.int .i64 0,.int .i64 0,.int .i64 0,.bool false,.slice none 0 0] 109 (0,0))) :
  (((((((w.setCell ⟨g,0,none⟩ (v0)).setCell ⟨g,1,none⟩ (v1)).setCell ⟨g,2,none⟩ (v2)).setCell ⟨g,3,none⟩ (v3)).setCell ⟨g,4,none⟩ (v4)).setCell ⟨g,5,none⟩ (v5)).setCell ⟨g,6,none⟩ (v6)).heap[g]? = some (.cells #[v0,v1,v2,v3,v4,v5,v6] 109 (0,0)):=by
 have:=block_set (i:=6) (block_set (i:=5) (block_set (i:=4) (block_set (i:=3) (block_set (i:=2) (block_set (i:=1) (block_set (i:=0) h v0) v1) v2) v3) v4) v5) v6
 simpa using this
theorem set_below7 {W w : World} {g : Nat} {v0 v1 v2 v3 v4 v5 v6 : Value} (hg : W.heap.size ≤ g) (h : Below W.heap.size W w) : Below W.heap.size W (((((((w.setCell ⟨g,0,none⟩ (v0)).setCell ⟨g,1,none⟩ (v1)).setCell ⟨g,2,none⟩ (v2)).setCell ⟨g,3,none⟩ (v3)).setCell ⟨g,4,none⟩ (v4)).setCell ⟨g,5,none⟩ (v5)).setCell ⟨g,6,none⟩ (v6)) :=
 set_below hg (set_below hg (set_below hg (set_below hg (set_below hg (set_below hg (set_below hg h))))))
def AllS (c : Cl) (p : Pd) (n : Nd) : Prop:=∀ (j : Nat) t,p.zs[j]? = some t → ∃ v,IsBd c t v ∧ InL n.zs v.n

theorem sall_any (d : Ad) (c : Cl) (p : Pd) (pa : Option Addr) (pl pc : Nat) (j1 : Nat) (n : Nd) (w : World) (hr : ClRow w d c.raw) (hn : RisBy Nd.n c.ns) (hx : RisBy Xd.n c.xs) (hv : RisBy Vd.n c.vs) (hne : ∀ (j : Nat) v,c.vs[j]? = some v → ¬ v.n = ⟨#[]⟩) (hp : TxRow w pa pl pc p.zs) (hj1 : c.ns[j1]? = some n) (hnn : n.n = p.d) (hbd : ∀ (j : Nat) t,p.zs[j]? = some t → ∃ v,IsBd c t v) :
  Calls Tryz.prog 132 #[.agg #[.slice d.a1 d.l1 d.c1,.slice d.a2 d.l2 d.c2,.slice d.a3 d.l3 d.c3,.slice d.a4 d.l4 d.c4,.slice d.a5 d.l5 d.c5,.int .i64 c.now],.agg #[.string p.n,.int .i64 p.c,.string p.z,.slice pa pl pc,.string p.d,.int .i64 p.p]] w (BoolB (AllS c p n) w):=by
 obtain ⟨a1,l1,y1,a2,l2,y2,a3,l3,y3,a4,l4,y4,a5,l5,y5⟩:=d;dsimp only;have HR:=hidK hr
 have hl1 : c.ns.length = l1:=by simpa using (show (c.ns.map ndF).length = l1 from hr.n.1)
 have hm1 : l1 ≤ 9223372036854775807:=Nat.le_trans hr.n.2.1 hr.n.2.2.1
 have hl2 : c.ks.length = l2:=by simpa using (show (c.ks.map kdF).length = l2 from hr.k.1)
 have hm2 : l2 ≤ 9223372036854775807:=Nat.le_trans hr.k.2.1 hr.k.2.2.1
 have hl3 : c.vs.length = l3:=by simpa using (show (c.vs.map vdF).length = l3 from hr.v.1)
 have hm3 : l3 ≤ 9223372036854775807:=Nat.le_trans hr.v.2.1 hr.v.2.2.1
 have hl4 : c.xs.length = l4:=by simpa using (show (c.xs.map xdF).length = l4 from hr.x.1)
 have hm4 : l4 ≤ 9223372036854775807:=Nat.le_trans hr.x.2.1 hr.x.2.2.1
 have hl5 : c.ps.length = l5:=by simpa using (show (c.ps.map pdF).length = l5 from hr.p.1)
 have hm5 : l5 ≤ 9223372036854775807:=Nat.le_trans hr.p.2.1 hr.p.2.2.1;clear hr;have HNR:=hidK hn;have HX:=hidK hx;have HV:=hidK hv;have HNE:=hidK hne;have HP:=hidK hp;have HBD:=hidK hbd;have hlc : pl ≤ 9223372036854775807:=Nat.le_trans hp.2.1 hp.2.2.1;have hzl : p.zs.length = pl:=hp.1
 have hl1' : j1 < l1:=by have h3:=(List.getElem?_eq_some_iff.1 hj1).1;omega
 obtain ⟨b1,o1,n',rfl,hb1n,hn',hat⟩:=nd_at HR.out.n hl1';rw [hj1] at hn';obtain rfl:=Option.some.inj hn';obtain ⟨na,nl,nc,hnr,z0,z1,d0,d1,d2,d3,d4,d5,d6⟩:=nd_cells hat;have HJn:=hidK hj1;have HNn:=hidK hnn;have HTn:=hidK hnr;have HBn:=hidK hb1n;have HD : Hid (w.cell? ⟨b1,o1 + j1 * 7,none⟩ = some (.string n.n) ∧ w.cell? ⟨b1,o1 + j1 * 7 + 1,none⟩ = some (.string n.z) ∧ w.cell? ⟨b1,o1 + j1 * 7 + 2,none⟩ = some (.int .i64 n.c) ∧ w.cell? ⟨b1,o1 + j1 * 7 + 3,none⟩ = some (.int .i64 n.s) ∧ w.cell? ⟨b1,o1 + j1 * 7 + 4,none⟩ = some (.int .i64 n.u) ∧ w.cell? ⟨b1,o1 + j1 * 7 + 5,none⟩ = some (.bool n.d) ∧ w.cell? ⟨b1,o1 + j1 * 7 + 6,none⟩ = some (.slice na nl nc)):=⟨d0,d1,d2,d3,d4,d5,d6⟩;clear hn' hat hnr z0 z1 d0 d1 d2 d3 d4 d5 d6 hj1 hnn hb1n hn hx hv hne hp hbd;obtain ⟨W,hW0⟩ : ∃ W,W = (w.alloc (.cells #[.slice (some ⟨b1,o1,none⟩) l1 y1,.slice a2 l2 y2,.slice a3 l3 y3,.slice a4 l4 y4,.slice a5 l5 y5,.int .i64 c.now] 38)).alloc (.cells #[.string p.n,.int .i64 p.c,.string p.z,.slice pa pl pc,.string p.d,.int .i64 p.p] 107):=⟨_,rfl⟩
 have GK : Hid (W.heap[w.heap.size]? = some (.cells #[.slice (some ⟨b1,o1,none⟩) l1 y1,.slice a2 l2 y2,.slice a3 l3 y3,.slice a4 l4 y4,.slice a5 l5 y5,.int .i64 c.now] 38 (0,0))):=by rw [hW0];exact heap2_0 _ _ _
 have GP : Hid (W.heap[w.heap.size + 1]? = some (.cells #[.string p.n,.int .i64 p.c,.string p.z,.slice pa pl pc,.string p.d,.int .i64 p.p] 107 (0,0))):=by rw [hW0];exact heap2_1 _ _ _
 have BW : Hid (Below w.heap.size w W):=by rw [hW0];exact below2 _ _ _
 go_enter Tryz.func132,Tryz.ntmps132
 go_wp2_with fail;rw [← hW0];clear hW0;rename_i K0 hK0;refine wp_region_grow_last (by kernel_rfl) rfl rfl (by kernel_rfl) ?_;refine' Grow.stepC _ rfl ?_ ?_;rotate_left 1
 ·refine Obl.plain rfl ?_;intro ac wg K hsz hW hf hK;clear hsz;have e2:=hf 2 (by decide)
  simp [slotFact,List.lookup] at e2
  clear hf;go_simp;refine hK _ _ (Below.refl _ _) ?_;with_reducible rfl
 refine' Grow.stepC _ rfl ?_ ?_;rotate_left 1
 ·refine Obl.plain rfl ?_;intro ac wg K hsz hW hf hK;clear hsz;have e7:=hf 7 (by decide)
  simp [slotFact,List.lookup] at e7
  clear hf;obtain ⟨k0,k1,k2,k3,k4,k5⟩:=cs6 ((hW.block _ (lt_of_some GK.out)).trans GK.out);go_simp;refine hK _ _ (Below.refl _ _) ?_;with_reducible rfl
 refine' Grow.stepC _ rfl ?_ ?_;rotate_left 1
 ·refine Obl.plain rfl ?_;intro ac wg K hsz hW hf hK;clear hsz;have e2:=hf 2 (by decide)
  simp [slotFact,List.lookup] at e2
  clear hf;obtain ⟨k0,k1,k2,k3,k4,k5⟩:=cs6 ((hW.block _ (lt_of_some GK.out)).trans GK.out);go_simp;refine hK _ _ (Below.refl _ _) ?_;with_reducible rfl
 refine' Grow.stepC _ rfl ?_ ?_;rotate_left 1
 ·refine Obl.plain rfl ?_;intro ac wg K hsz hW hf hK;clear hsz;have e3:=hf 3 (by decide)
  simp [slotFact,List.lookup] at e3
  clear hf;go_simp;refine hK _ _ (Below.refl _ _) ?_;with_reducible rfl
 refine' Grow.stepC _ rfl ?_ ?_;rotate_left 1
 ·refine Obl.plain rfl ?_;intro ac wg K hsz hW hf hK;clear hsz;have e10:=hf 10 (by decide)
  simp [slotFact,List.lookup] at e10
  clear hf;obtain ⟨r0,r1,r2,r3,r4,r5⟩:=cs6 ((hW.block _ (lt_of_some GP.out)).trans GP.out);go_simp;refine hK _ _ (Below.refl _ _) ?_;with_reducible rfl
 refine' Grow.stepC (.int .i64 j1) rfl ?_ ?_
 ·refine Obl.plain rfl ?_;intro ac wg K hsz hW hf hK;clear hsz;have e9:=hf 9 (by decide)
  simp [slotFact,List.lookup] at e9
  have e11:=hf 11 (by decide)
  simp [slotFact,List.lookup] at e11
  clear hf;go_simp;refine (sxnd_hit ⟨(some ⟨b1,o1,none⟩),l1,y1,a2,l2,y2,a3,l3,y3,a4,l4,y4,a5,l5,y5⟩ c.now c.ns p.d _ (HR.out.n.below (BW.out.trans (hW.mono BW.out.size))) HNR.out HJn.out HNn.out).mono ?_;rintro e w5 ⟨rfl,hb5⟩;exact hK _ _ hb5 rfl
 refine' Grow.stepC _ rfl ?_ ?_;rotate_left 1
 ·refine Obl.plain rfl ?_;intro ac wg K hsz hW hf hK;clear hsz;have e8:=hf 8 (by decide)
  simp [slotFact,List.lookup] at e8
  have e12:=hf 12 (by decide)
  simp [slotFact,List.lookup] at e12
  clear hf;go_simp;refine hK _ _ (Below.refl _ _) ?_;with_reducible rfl
 refine' Grow.stepC _ rfl ?_ ?_;rotate_left 1
 ·refine Obl.plain rfl ?_;intro ac wg K hsz hW hf hK;clear hsz;have e13:=hf 13 (by decide)
  simp [slotFact,List.lookup] at e13
  clear hf;have hBg:=BW.out.trans (hW.mono BW.out.size);obtain ⟨d0,d1,d2,d3,d4,d5,d6⟩:=HD.out;have g0:=(cell_below hBg HBn.out).trans d0;have g1:=(cell_below hBg HBn.out).trans d1;have g2:=(cell_below hBg HBn.out).trans d2;have g3:=(cell_below hBg HBn.out).trans d3;have g4:=(cell_below hBg HBn.out).trans d4;have g5:=(cell_below hBg HBn.out).trans d5;have g6:=(cell_below hBg HBn.out).trans d6;clear d0 d1 d2 d3 d4 d5 d6 hBg;go_simp;refine hK _ _ (Below.refl _ _) ?_;with_reducible rfl
 refine Grow.step (FreshN W) rfl (FreshN.mono W) ?_ ?_
 ·refine Obl.plain rfl ?_;intro ac wg K hsz hW hf hK;clear hsz;clear hf;go_simp;exact hK _ _ (below1 _ _) ⟨_,rfl,hW.size,Array.getElem?_push_size⟩
 refine Grow.done ?_;intro q wz hW hf;simp only [List.forall_mem_cons] at hf;obtain ⟨⟨g5,h5,hbW,hgb⟩,h14,-⟩:=hf;have r0 : wz.cell? ⟨g5,0,none⟩ = some (.string ⟨#[]⟩):=cellK hgb 0;have r1 : wz.cell? ⟨g5,1,none⟩ = some (.string ⟨#[]⟩):=cellK hgb 1;have r2 : wz.cell? ⟨g5,2,none⟩ = some (.int .i64 0):=cellK hgb 2;have r3 : wz.cell? ⟨g5,3,none⟩ = some (.int .i64 0):=cellK hgb 3;have r4 : wz.cell? ⟨g5,4,none⟩ = some (.int .i64 0):=cellK hgb 4;have r5 : wz.cell? ⟨g5,5,none⟩ = some (.bool false):=cellK hgb 5;have r6 : wz.cell? ⟨g5,6,none⟩ = some (.slice none 0 0):=cellK hgb 6;have f0:=froK hgb 0;have f1:=froK hgb 1;have f2:=froK hgb 2;have f3:=froK hgb 3;have f4:=froK hgb 4;have f5:=froK hgb 5;have f6:=froK hgb 6;have GN:=hidK (put7N (v0:=.string n.n) (v1:=.string n.z) (v2:=.int .i64 n.c) (v3:=.int .i64 n.s) (v4:=.int .i64 n.u) (v5:=.bool n.d) (v6:=.slice na nl nc) hgb);have BN:=hidK (set_below7 (v0:=.string n.n) (v1:=.string n.z) (v2:=.int .i64 n.c) (v3:=.int .i64 n.s) (v4:=.int .i64 n.u) (v5:=.bool n.d) (v6:=.slice na nl nc) hbW hW);clear hgb hW;intro K hK;rw [if_pos (by rfl)];simp only [putsAll,List.foldr,Act.put,List.setIfInBounds_toArray,List.set_cons_zero,List.set_cons_succ,h5,h14];simp only [List.getLast];go_simp;refine hK _ _ ?_;refine hK0 _ _ ?_;clear hK hK0 K K0
 generalize (((((((wz.setCell ⟨g5,0,none⟩ (.string n.n)).setCell ⟨g5,1,none⟩ (.string n.z)).setCell ⟨g5,2,none⟩ (.int .i64 n.c)).setCell ⟨g5,3,none⟩ (.int .i64 n.s)).setCell ⟨g5,4,none⟩ (.int .i64 n.u)).setCell ⟨g5,5,none⟩ (.bool n.d)).setCell ⟨g5,6,none⟩ (.slice na nl nc)) = Y at GN BN ⊢
 clear r0 f0 r1 f1 r2 f2 r3 f3 r4 f4 r5 f5 r6 f6;have KV:=upK GK BN.out;have PVv:=upK GP BN.out;have BV:=hidK (BW.out.trans (BN.out.mono BW.out.size));clear GK GP BW BN hbW;have pp : Y.cell? ⟨w.heap.size + 1,3,none⟩ = some (.slice pa pl pc):=cellK PVv.out 3
 go_wp2
 clear pp
 go_loopw [6] (fun i wr => ∃ k : Nat,k ≤ pl ∧ i = .int .i64 k ∧ Hid (∀ (j : Nat) t,j < k → p.zs[j]? = some t → ∃ v,IsBd c t v ∧ InL n.zs v.n) ∧ Hid (Below Y.heap.size Y wr)) (fun i _ => pl - (intOf i).toNat)
 case atStart => exact ⟨0,by omega,rfl,fun _ _ h => absurd h (by omega),Below.refl _ _⟩
 case round =>
  obtain ⟨k,hk,rfl,HQ,HBY⟩:=hrel;have HB:=hidK (BV.out.trans (HBY.out.mono BV.out.size));have Bk:=upK KV HBY.out;have Bp:=upK PVv HBY.out;have Bn:=upK GN HBY.out;have pp : wr.cell? ⟨w.heap.size + 1,3,none⟩ = some (.slice pa pl pc):=cellK Bp.out 3
  by_cases hlt : k < pl
  ·obtain ⟨b,o,t,rfl,hb,hxt,hc,hsz⟩:=(HP.out.below HB.out).at hlt;have HXt:=hidK hxt;clear hxt hsz;obtain ⟨v,hbd⟩:=HBD.out k t HXt.out;obtain ⟨j3,hj3⟩:=hbd.at
   have hl3' : j3 < l3:=by have h1:=(List.getElem?_eq_some_iff.1 hj3).1;omega
   obtain ⟨b3,o3,v',rfl,hb3,hv',hat⟩:=vd_at HR.out.v hl3';rw [hj3] at hv';obtain rfl:=Option.some.inj hv';obtain ⟨xa,xl,xc,hvr,z0,z2,z3,z5,d0,d1,d2,d3,d4,d5,d6,d7⟩:=vd_cells hat;have HJ:=hidK hj3;have HDb:=hidK hbd;have hbv : b3 < wr.heap.size:=Nat.lt_of_lt_of_le hb3 HB.out.size;have v0:=(cell_below HB.out hb3).trans d0;clear hv' hat hvr z0 z2 z3 z5 d0 d1 d2 d3 d4 d5 d6 d7 hj3 hbd hb3
   by_cases hin : InL n.zs v.n
   ·have HIn:=hidK hin;clear hin;have Gk:=Bk;have Gp:=Bp;have Gn:=Bn;have HW:=HB;obtain ⟨k0,k1,k2,k3,k4,k5⟩:=sl6 Gk;have p3:=fun q : Wd wr => q.slot (o:=3) Gp.out rfl;have n6:=fun q : Wd wr => q.slot (o:=6) Gn.out rfl;have tw:=fun q : Wd wr => (q.cell hb).trans hc;have vw:=fun q : Wd wr => (q.cell hbv).trans v0;have hne0:=Wd.ne wr;have HC0:=hidK (fun q : Wd wr => sbind_hit ⟨(some ⟨b1,o1,none⟩),l1,y1,a2,l2,y2,(some ⟨b3,o3,none⟩),l3,y3,a4,l4,y4,a5,l5,y5⟩ c t q.w (HR.out.below (HW.out.trans (q.b.mono HW.out.size))) HX.out HV.out HNE.out HJ.out HDb.out);have HC1:=hidK (fun q : Wd wr => (shas_any na nl nc n.zs v.n q.w (HTn.out.below (HW.out.trans (q.b.mono HW.out.size)))).mono (fun _ _ h => BoolB.yes h HIn.out));go_wp2_with fail;refine wp_region_wide (by kernel_rfl) (by kernel_rfl) ?_
    repeat (go_big_quiet_step (first | (go_at_call 77;exact Calls.wide (HC0.out _)) | (go_at_call 103;exact Calls.wide (HC1.out _)) | fail))
    refine wpQuiet_nil ?_;rintro _ ⟨q2,rfl⟩;have HB1:=upB HW q2.b;have Ck:=upK Gk q2.b;have Cp:=upK Gp q2.b;have Cn:=upK Gn q2.b;clear hne0 HW HB HC0 HC1 k0 k1 k2 k3 k4 k5 p3 n6 tw vw Gk Gp Gn Bk Bp Bn pp hb hc hbv v0;have HB:=HB1;clear HB1;have Bk:=Ck;clear Ck;have Bp:=Cp;clear Cp;have Bn:=Cn;clear Cn;go_wp2_with fail;refine ⟨⟨k + 1,by omega,by go_num,fun j s hj hs => ?_,HBY.out.trans (q2.b.mono HBY.out.size)⟩,by simp [intOf];omega⟩
    by_cases e : j = k
    ·subst e;rw [HXt.out] at hs;obtain rfl:=Option.some.inj hs;exact ⟨v,HDb.out,HIn.out⟩
    ·exact HQ.out j s (by omega) hs
   ·have HIn:=hidK hin;clear hin;have Gk:=Bk;have Gp:=Bp;have Gn:=Bn;have HW:=HB;obtain ⟨k0,k1,k2,k3,k4,k5⟩:=sl6 Gk;have p3:=fun q : Wd wr => q.slot (o:=3) Gp.out rfl;have n6:=fun q : Wd wr => q.slot (o:=6) Gn.out rfl;have tw:=fun q : Wd wr => (q.cell hb).trans hc;have vw:=fun q : Wd wr => (q.cell hbv).trans v0;have hne0:=Wd.ne wr;have HC0:=hidK (fun q : Wd wr => sbind_hit ⟨(some ⟨b1,o1,none⟩),l1,y1,a2,l2,y2,(some ⟨b3,o3,none⟩),l3,y3,a4,l4,y4,a5,l5,y5⟩ c t q.w (HR.out.below (HW.out.trans (q.b.mono HW.out.size))) HX.out HV.out HNE.out HJ.out HDb.out);have HC1:=hidK (fun q : Wd wr => (shas_any na nl nc n.zs v.n q.w (HTn.out.below (HW.out.trans (q.b.mono HW.out.size)))).mono (fun _ _ h => BoolB.no h HIn.out));go_wp2_with fail;refine wp_region_wide (by kernel_rfl) (by kernel_rfl) ?_
    repeat (go_big_quiet_step (first | (go_at_call 77;exact Calls.wide (HC0.out _)) | (go_at_call 103;exact Calls.wide (HC1.out _)) | fail))
    refine wpQuiet_nil ?_;rintro _ ⟨q2,rfl⟩;have HB1:=upB HW q2.b;have Ck:=upK Gk q2.b;have Cp:=upK Gp q2.b;have Cn:=upK Gn q2.b;clear hne0 HW HB HC0 HC1 k0 k1 k2 k3 k4 k5 p3 n6 tw vw Gk Gp Gn Bk Bp Bn pp hb hc hbv v0;have HB:=HB1;clear HB1;have Bk:=Ck;clear Ck;have Bp:=Cp;clear Cp;have Bn:=Cn;clear Cn
    go_wp2
    go_ret;refine BoolB.f (fun h => ?_) HB.out;obtain ⟨v2,e1,e2⟩:=h k t HXt.out;obtain rfl:=IsBd.inj HX.out HV.out HDb.out e1;exact HIn.out e2
  ·obtain rfl : pl = k:=by omega
   go_wp2
   go_ret;exact BoolB.t (fun j t ht => HQ.out j t (by have:=(List.getElem?_eq_some_iff.1 ht).1;omega) ht) HB.out

theorem smounted_any (d : Ad) (c : Cl) (w : World) (hr : ClRow w d c.raw) (hn : RisBy Nd.n c.ns) (hx : RisBy Xd.n c.xs) (hv : RisBy Vd.n c.vs) (hne : ∀ (j : Nat) v,c.vs[j]? = some v → ¬ v.n = ⟨#[]⟩) (hrun : ∀ (j : Nat) p,c.ps[j]? = some p → p.p = 2 → (∃ (i : Nat) (n : Nd),c.ns[i]? = some n ∧ n.n = p.d) ∧ ∀ (j : Nat) t,p.zs[j]? = some t → ∃ v,IsBd c t v) :
  Calls Tryz.prog 75 #[.agg #[.slice d.a1 d.l1 d.c1,.slice d.a2 d.l2 d.c2,.slice d.a3 d.l3 d.c3,.slice d.a4 d.l4 d.c4,.slice d.a5 d.l5 d.c5,.int .i64 c.now]] w (BoolB (MountedI c) w):=by
 obtain ⟨a1,l1,y1,a2,l2,y2,a3,l3,y3,a4,l4,y4,a5,l5,y5⟩:=d;dsimp only;have HR:=hidK hr
 have hl1 : c.ns.length = l1:=by simpa using (show (c.ns.map ndF).length = l1 from hr.n.1)
 have hm1 : l1 ≤ 9223372036854775807:=Nat.le_trans hr.n.2.1 hr.n.2.2.1
 have hl2 : c.ks.length = l2:=by simpa using (show (c.ks.map kdF).length = l2 from hr.k.1)
 have hm2 : l2 ≤ 9223372036854775807:=Nat.le_trans hr.k.2.1 hr.k.2.2.1
 have hl3 : c.vs.length = l3:=by simpa using (show (c.vs.map vdF).length = l3 from hr.v.1)
 have hm3 : l3 ≤ 9223372036854775807:=Nat.le_trans hr.v.2.1 hr.v.2.2.1
 have hl4 : c.xs.length = l4:=by simpa using (show (c.xs.map xdF).length = l4 from hr.x.1)
 have hm4 : l4 ≤ 9223372036854775807:=Nat.le_trans hr.x.2.1 hr.x.2.2.1
 have hl5 : c.ps.length = l5:=by simpa using (show (c.ps.map pdF).length = l5 from hr.p.1)
 have hm5 : l5 ≤ 9223372036854775807:=Nat.le_trans hr.p.2.1 hr.p.2.2.1;clear hr;have HNR:=hidK hn;have HX:=hidK hx;have HV:=hidK hv;have HNE:=hidK hne;have HRun:=hidK hrun;clear hn hx hv hne hrun
 go_enter Tryz.func75,Tryz.ntmps75
 go_wp2
 go_loopw [3] (fun i wr => ∃ k : Nat,k ≤ l1 ∧ i = .int .i64 k ∧ Hid (∀ (j : Nat) z,j < k → c.ns[j]? = some z → MntI c z) ∧ Hid (Below w.heap.size w wr) ∧ Hid (wr.heap[w.heap.size]? = some (.cells #[.slice a1 l1 y1,.slice a2 l2 y2,.slice a3 l3 y3,.slice a4 l4 y4,.slice a5 l5 y5,.int .i64 c.now] 38 (0,0)))) (fun i _ => l1 - (intOf i).toNat)
 case atStart => exact ⟨0,by omega,rfl,fun _ _ h => absurd h (by omega),below1 _ _,Array.getElem?_push_size⟩
 case round =>
  obtain ⟨k,hk,rfl,HQ,HB,Bk⟩:=hrel;have pk : wr.cell? ⟨w.heap.size,0,none⟩ = some (.slice a1 l1 y1):=cellK Bk.out 0;have pkl : w.heap.size < wr.heap.size:=lt_of_some Bk.out
  by_cases hlt : k < l1
  ·obtain ⟨b,o,n,rfl,hb,hx,hat⟩:=nd_at (HR.out.n.below HB.out) hlt;obtain ⟨va,vl,vc,hvr,z0,z1,c0,c1,c2,c3,c4,c5,c6⟩:=nd_cells hat;have HXn:=hidK hx;have HTn:=hidK hvr;have HZn0:=hidK z0;have HZn1:=hidK z1;clear hat hx z0 z1 hvr;have hvl : n.zs.length = vl:=HTn.out.1;have hvc : vl ≤ 9223372036854775807:=Nat.le_trans HTn.out.2.1 HTn.out.2.2.1;have HVL:=hidK hvl;clear hvl;have KV : Hid ((wr.alloc (.cells #[.string n.n,.string n.z,.int .i64 n.c,.int .i64 n.s,.int .i64 n.u,.bool n.d,.slice va vl vc] 109)).heap[w.heap.size]? = some (.cells #[.slice (some ⟨b,o,none⟩) l1 y1,.slice a2 l2 y2,.slice a3 l3 y3,.slice a4 l4 y4,.slice a5 l5 y5,.int .i64 c.now] 38 (0,0))):=(Below.heap_alloc wr (.cells #[.string n.n,.string n.z,.int .i64 n.c,.int .i64 n.s,.int .i64 n.u,.bool n.d,.slice va vl vc] 109) _ (lt_of_some Bk.out)).trans Bk.out;have GV : Hid ((wr.alloc (.cells #[.string n.n,.string n.z,.int .i64 n.c,.int .i64 n.s,.int .i64 n.u,.bool n.d,.slice va vl vc] 109)).heap[wr.heap.size]? = some (.cells #[.string n.n,.string n.z,.int .i64 n.c,.int .i64 n.s,.int .i64 n.u,.bool n.d,.slice va vl vc] 109 (0,0))):=Array.getElem?_push_size;have BV:=hidK (HB.out.trans ((below1 wr (.cells #[.string n.n,.string n.z,.int .i64 n.c,.int .i64 n.s,.int .i64 n.u,.bool n.d,.slice va vl vc] 109)).mono HB.out.size));have TT:=hidK (HTn.out.below (below1 wr (.cells #[.string n.n,.string n.z,.int .i64 n.c,.int .i64 n.s,.int .i64 n.u,.bool n.d,.slice va vl vc] 109)));obtain ⟨W,hW⟩ : ∃ W,W = wr.alloc (.cells #[.string n.n,.string n.z,.int .i64 n.c,.int .i64 n.s,.int .i64 n.u,.bool n.d,.slice va vl vc] 109):=⟨_,rfl⟩;obtain ⟨gb,hgb⟩ : ∃ gb,gb = wr.heap.size:=⟨_,rfl⟩;rw [← hW] at KV GV BV TT;rw [← hgb] at GV
   go_wp2
   rw [← hW,← hgb];clear hW hgb HB Bk HTn c0 c1 c2 c3 c4 c5 c6 hb pk pkl
   go_loopw [5] (fun i wr => ∃ kq : Nat,kq ≤ vl ∧ i = .int .i64 kq ∧ Hid (∀ (j : Nat) t,j < kq → n.zs[j]? = some t → ∃ (i : Nat) (v : Vd),c.vs[i]? = some v ∧ v.n = t ∧ (n.d = true ∨ InL v.zs n.n)) ∧ Hid (Below W.heap.size W wr)) (fun i _ => vl - (intOf i).toNat)
   case atStart => exact ⟨0,by omega,rfl,fun _ _ h => absurd h (by omega),Below.refl _ _⟩
   case round =>
    obtain ⟨kq,hkq,rfl,HQ2,HBW⟩:=hrel;have HB:=hidK (BV.out.trans (HBW.out.mono BV.out.size));have Bk:=upK KV HBW.out;have Bv:=upK GV HBW.out;have pv : wr.cell? ⟨gb,6,none⟩ = some (.slice va vl vc):=cellK Bv.out 6
    by_cases hlt2 : kq < vl
    ·obtain ⟨b2,o2,t,rfl,hb,hx,hc,hsz⟩:=(TT.out.below HBW.out).at hlt2;have HXt:=hidK hx;clear hx hsz
     by_cases hnn : ∃ (i : Nat) (v : Vd),c.vs[i]? = some v ∧ v.n = t
     rotate_left
     ·have HH:=hidK hnn;clear hnn;have Gk:=Bk;have Gv:=Bv;have HW:=HB;obtain ⟨k0,k1,k2,k3,k4,k5⟩:=sl6 Gk;have v6:=fun q : Wd wr => q.slot (o:=6) Gv.out rfl;have tw:=fun q : Wd wr => (q.cell hb).trans hc;have hne0:=Wd.ne wr;have HC0:=hidK (fun q : Wd wr => sxvd_miss ⟨(some ⟨b,o,none⟩),l1,y1,a2,l2,y2,a3,l3,y3,a4,l4,y4,a5,l5,y5⟩ c.now c.vs t q.w (HR.out.v.below (HW.out.trans (q.b.mono HW.out.size))) (fun i v h1 h2 => HH.out ⟨i,v,h1,h2⟩));go_wp2_with fail;refine wp_region_wide (by kernel_rfl) (by kernel_rfl) ?_
      repeat (go_big_quiet_step (first | (go_at_call 52;exact Calls.wide (HC0.out _)) | fail))
      refine wpQuiet_nil ?_;rintro _ ⟨q1,rfl⟩;have HB1:=upB HW q1.b;have Ck:=upK Gk q1.b;have Cv:=upK Gv q1.b;clear hne0 HW HB HC0 k0 k1 k2 k3 k4 k5 v6 tw Gk Gv Bk Bv pv;have HB:=HB1;clear HB1;have Bk:=Ck;clear Ck;have Bv:=Cv;clear Cv;have Gk:=Bk;have Gv:=Bv;have HW:=HB;have k2:=fun q : Wd q1.w => q.slot (o:=2) Gk.out rfl;obtain ⟨v0,v1,v2,v3,v4,v5,v6⟩:=sl7 Gv;have hne0:=Wd.ne q1.w;go_wp2_with fail;refine wp_region_wide (by kernel_rfl) (by kernel_rfl) ?_
      repeat (go_big_quiet_step (first | fail))
      refine wpQuiet_nil ?_;rintro _ ⟨q2,rfl⟩;have HB2:=upB HW q2.b;have Ck:=upK Gk q2.b;have Cv:=upK Gv q2.b;clear hne0 HW HB k2 v0 v1 v2 v3 v4 v5 v6 Gk Gv Bk Bv;have HB:=HB2;clear HB2;have Bk:=Ck;clear Ck;have Bv:=Cv;clear Cv
      go_wp2
      go_ret;refine BoolB.f (fun h => ?_) HB.out;obtain ⟨i,v,h2,h3,_⟩:=(h.1 k n HXn.out) kq t HXt.out;exact HH.out ⟨i,v,h2,h3⟩
     obtain ⟨j3,v,h1,h2⟩:=hnn
     have hl3' : j3 < l3:=by have h3:=(List.getElem?_eq_some_iff.1 h1).1;omega
     obtain ⟨b3,o3,v',rfl,hb3,hv',hat⟩:=vd_at HR.out.v hl3';rw [h1] at hv';obtain rfl:=Option.some.inj hv';obtain ⟨xa,xl,xc,hvr,z0,z2,z3,z5,d0,d1,d2,d3,d4,d5,d6,d7⟩:=vd_cells hat;have HJ:=hidK h1;have HNv:=hidK h2;have HTx:=hidK hvr;have HC7:=hidK d7;have HB3:=hidK hb3
     have hj31 : decide ((j3 : Int) < 0) = false:=by simp
     clear hv' hat hvr z0 z2 z3 z5 d0 d1 d2 d3 d4 d5 d6 d7 h1 h2 hb3;have Gk:=Bk;have Gv:=Bv;have HW:=HB;obtain ⟨k0,k1,k2,k3,k4,k5⟩:=sl6 Gk;have v6:=fun q : Wd wr => q.slot (o:=6) Gv.out rfl;have tw:=fun q : Wd wr => (q.cell hb).trans hc;have hne0:=Wd.ne wr;have HC0:=hidK (fun q : Wd wr => sxvd_hit ⟨(some ⟨b,o,none⟩),l1,y1,a2,l2,y2,(some ⟨b3,o3,none⟩),l3,y3,a4,l4,y4,a5,l5,y5⟩ c.now c.vs t q.w (HR.out.v.below (HW.out.trans (q.b.mono HW.out.size))) HV.out HJ.out HNv.out);go_wp2_with fail;refine wp_region_wide (by kernel_rfl) (by kernel_rfl) ?_
     repeat (go_big_quiet_step (first | (go_at_call 52;exact Calls.wide (HC0.out _)) | fail))
     refine wpQuiet_nil ?_;rintro _ ⟨q1,rfl⟩;have HB1:=upB HW q1.b;have Ck:=upK Gk q1.b;have Cv:=upK Gv q1.b;clear hne0 HW HB HC0 k0 k1 k2 k3 k4 k5 v6 tw Gk Gv Bk Bv pv hb hc;have HB:=HB1;clear HB1;have Bk:=Ck;clear Ck;have Bv:=Cv;clear Cv;have HBW1:=upB HBW q1.b;have hbv : b3 < q1.w.heap.size:=Nat.lt_of_lt_of_le HB3.out HB.out.size;have v7:=(cell_below HB.out HB3.out).trans HC7.out;clear HBW
     rcases Bool.eq_false_or_eq_true n.d with hd | hd
     ·have HDd:=hidK hd;clear hd
      have Bv2 : Hid (q1.w.heap[gb]? = some (.cells #[.string n.n,.string n.z,.int .i64 n.c,.int .i64 n.s,.int .i64 n.u,.bool true,.slice (some ⟨b2,o2,none⟩) vl vc] 109 (0,0))):=by have:=Bv.out;rw [HDd.out] at this;exact this
      clear Bv;have Bv:=Bv2;clear Bv2;have Gk:=Bk;have Gv:=Bv;have HW:=HB;have k2:=fun q : Wd q1.w => q.slot (o:=2) Gk.out rfl;obtain ⟨v0,v1,v2,v3,v4,v5,v6⟩:=sl7 Gv;have vw:=fun q : Wd q1.w => (q.cell hbv).trans v7;have hne0:=Wd.ne q1.w;go_wp2_with fail;refine wp_region_wide (by kernel_rfl) (by kernel_rfl) ?_
      repeat (go_big_quiet_step (first | fail))
      refine wpQuiet_nil ?_;rintro _ ⟨q2,rfl⟩;have HB2:=upB HW q2.b;have Ck:=upK Gk q2.b;have Cv:=upK Gv q2.b;clear hne0 HW HB k2 v0 v1 v2 v3 v4 v5 v6 vw Gk Gv Bk Bv hbv v7;have HB:=HB2;clear HB2;have Bk:=Ck;clear Ck;have Bv:=Cv;clear Cv;go_wp2_with fail;refine ⟨⟨kq + 1,by omega,by go_num,fun j s hj hs => ?_,HBW1.out.trans (q2.b.mono HBW1.out.size)⟩,by simp [intOf];omega⟩
      by_cases e : j = kq
      ·subst e;rw [HXt.out] at hs;obtain rfl:=Option.some.inj hs;exact ⟨j3,v,HJ.out,HNv.out,.inl HDd.out⟩
      ·exact HQ2.out j s (by omega) hs
     ·have HDd:=hidK hd;clear hd
      have Bv2 : Hid (q1.w.heap[gb]? = some (.cells #[.string n.n,.string n.z,.int .i64 n.c,.int .i64 n.s,.int .i64 n.u,.bool false,.slice (some ⟨b2,o2,none⟩) vl vc] 109 (0,0))):=by have:=Bv.out;rw [HDd.out] at this;exact this
      clear Bv;have Bv:=Bv2;clear Bv2
      by_cases hin : InL v.zs n.n
      ·have HIn:=hidK hin;clear hin;have Gk:=Bk;have Gv:=Bv;have HW:=HB;have k2:=fun q : Wd q1.w => q.slot (o:=2) Gk.out rfl;obtain ⟨v0,v1,v2,v3,v4,v5,v6⟩:=sl7 Gv;have vw:=fun q : Wd q1.w => (q.cell hbv).trans v7;have hne0:=Wd.ne q1.w;have HC0:=hidK (fun q : Wd q1.w => (shas_any xa xl xc v.zs n.n q.w (HTx.out.below (HW.out.trans (q.b.mono HW.out.size)))).mono (fun _ _ h => BoolB.yes h HIn.out));go_wp2_with fail;refine wp_region_wide (by kernel_rfl) (by kernel_rfl) ?_
       repeat (go_big_quiet_step (first | (go_at_call 103;exact Calls.wide (HC0.out _)) | fail))
       refine wpQuiet_nil ?_;rintro _ ⟨q2,rfl⟩;have HB2:=upB HW q2.b;have Ck:=upK Gk q2.b;have Cv:=upK Gv q2.b;clear hne0 HW HB HC0 k2 v0 v1 v2 v3 v4 v5 v6 vw Gk Gv Bk Bv hbv v7;have HB:=HB2;clear HB2;have Bk:=Ck;clear Ck;have Bv:=Cv;clear Cv;go_wp2_with fail;refine ⟨⟨kq + 1,by omega,by go_num,fun j s hj hs => ?_,HBW1.out.trans (q2.b.mono HBW1.out.size)⟩,by simp [intOf];omega⟩
       by_cases e : j = kq
       ·subst e;rw [HXt.out] at hs;obtain rfl:=Option.some.inj hs;exact ⟨j3,v,HJ.out,HNv.out,.inr HIn.out⟩
       ·exact HQ2.out j s (by omega) hs
      ·have HIn:=hidK hin;clear hin;have Gk:=Bk;have Gv:=Bv;have HW:=HB;have k2:=fun q : Wd q1.w => q.slot (o:=2) Gk.out rfl;obtain ⟨v0,v1,v2,v3,v4,v5,v6⟩:=sl7 Gv;have vw:=fun q : Wd q1.w => (q.cell hbv).trans v7;have hne0:=Wd.ne q1.w;have HC0:=hidK (fun q : Wd q1.w => (shas_any xa xl xc v.zs n.n q.w (HTx.out.below (HW.out.trans (q.b.mono HW.out.size)))).mono (fun _ _ h => BoolB.no h HIn.out));go_wp2_with fail;refine wp_region_wide (by kernel_rfl) (by kernel_rfl) ?_
       repeat (go_big_quiet_step (first | (go_at_call 103;exact Calls.wide (HC0.out _)) | fail))
       refine wpQuiet_nil ?_;rintro _ ⟨q2,rfl⟩;have HB2:=upB HW q2.b;have Ck:=upK Gk q2.b;have Cv:=upK Gv q2.b;clear hne0 HW HB HC0 k2 v0 v1 v2 v3 v4 v5 v6 vw Gk Gv Bk Bv hbv v7;have HB:=HB2;clear HB2;have Bk:=Ck;clear Ck;have Bv:=Cv;clear Cv
       go_wp2
       go_ret;refine BoolB.f (fun h => ?_) HB.out;obtain ⟨i,v2,e1,e2,e3⟩:=(h.1 k n HXn.out) kq t HXt.out;obtain ⟨_,rfl⟩:=HV.out.inj e1 HJ.out (e2.trans HNv.out.symm)
       rcases e3 with e3 | e3
       ·rw [HDd.out] at e3;cases e3
       ·exact HIn.out e3
    ·obtain rfl : vl = kq:=by omega
     go_wp2_with fail;refine ⟨⟨k + 1,by omega,by go_num,fun j z hj hz => ?_,HB.out,Bk.out⟩,by simp [intOf];omega⟩
     by_cases e : j = k
     ·subst e;rw [HXn.out] at hz;obtain rfl:=Option.some.inj hz;exact fun j s hs => HQ2.out j s (by have h1:=(List.getElem?_eq_some_iff.1 hs).1;have h2:=HVL.out;omega) hs
     ·exact HQ.out j z (by omega) hz
  ·obtain rfl : l1 = k:=by omega
   have HQ1 : Hid (∀ (j : Nat) z,c.ns[j]? = some z → MntI c z):=fun j z hz => HQ.out j z (by have:=(List.getElem?_eq_some_iff.1 hz).1;omega) hz;clear HQ;have kc : wr.cell? ⟨w.heap.size,4,none⟩ = some (.slice a5 l5 y5):=cellK Bk.out 4
   go_wp2
   clear pk pkl kc
   go_loopw [7] (fun i wr => ∃ k : Nat,k ≤ l5 ∧ i = .int .i64 k ∧ Hid (∀ (j : Nat) z,j < k → c.ps[j]? = some z → MQ2 c z) ∧ Hid (Below w.heap.size w wr) ∧ Hid (wr.heap[w.heap.size]? = some (.cells #[.slice a1 l1 y1,.slice a2 l2 y2,.slice a3 l3 y3,.slice a4 l4 y4,.slice a5 l5 y5,.int .i64 c.now] 38 (0,0)))) (fun i _ => l5 - (intOf i).toNat)
   case atStart => exact ⟨0,by omega,rfl,fun _ _ h => absurd h (by omega),HB.out,Bk.out⟩
   case round =>
    obtain ⟨k,hk,rfl,HQ,HB,Bk⟩:=hrel;have pk : wr.cell? ⟨w.heap.size,4,none⟩ = some (.slice a5 l5 y5):=cellK Bk.out 4;have pkl : w.heap.size < wr.heap.size:=lt_of_some Bk.out
    by_cases hlt : k < l5
    ·obtain ⟨b,o,p,rfl,hb,hx,hat⟩:=pd_at (HR.out.p.below HB.out) hlt;obtain ⟨va,vl,vc,hvr,z0,z2,z4,c0,c1,c2,c3,c4,c5⟩:=pd_cells hat;have HXp:=hidK hx;have HTp:=hidK hvr;have HZp0:=hidK z0;have HZp2:=hidK z2;have HZp4:=hidK z4;clear hat hx z0 z2 z4 hvr
     by_cases hp2 : p.p = 2
     rotate_left
     ·have HP2:=hidK hp2
      have hp3 : (p.p == 2) = false:=by simpa using hp2
      have hszv1 : (wr.alloc (.cells #[.string p.n,.int .i64 p.c,.string p.z,.slice va vl vc,.string p.d,.int .i64 p.p] 107)).heap.size = wr.heap.size + 1:=by simp
      have Gk : Hid ((wr.alloc (.cells #[.string p.n,.int .i64 p.c,.string p.z,.slice va vl vc,.string p.d,.int .i64 p.p] 107)).heap[w.heap.size]? = some (.cells #[.slice a1 l1 y1,.slice a2 l2 y2,.slice a3 l3 y3,.slice a4 l4 y4,.slice (some ⟨b,o,none⟩) l5 y5,.int .i64 c.now] 38 (0,0))):=(Below.heap_alloc _ _ _ (lt_of_some Bk.out)).trans (Bk.out);have Gr : Hid ((wr.alloc (.cells #[.string p.n,.int .i64 p.c,.string p.z,.slice va vl vc,.string p.d,.int .i64 p.p] 107)).heap[wr.heap.size]? = some (.cells #[.string p.n,.int .i64 p.c,.string p.z,.slice va vl vc,.string p.d,.int .i64 p.p] 107 (0,0))):=Array.getElem?_push_size;have HW : Hid (Below w.heap.size w (wr.alloc (.cells #[.string p.n,.int .i64 p.c,.string p.z,.slice va vl vc,.string p.d,.int .i64 p.p] 107))):=(HB.out.trans ((below1 _ _).mono HB.out.size));obtain ⟨k0,k1,k2,k3,k4,k5⟩:=sl6 Gk;obtain ⟨r0,r1,r2,r3,r4,r5⟩:=sl6 Gr;have hne0:=Wd.ne (wr.alloc (.cells #[.string p.n,.int .i64 p.c,.string p.z,.slice va vl vc,.string p.d,.int .i64 p.p] 107));go_wp2_with fail;refine wp_region_wide (by kernel_rfl) (by kernel_rfl) ?_
      repeat (go_big_quiet_step (first | fail))
      refine wpQuiet_nil ?_;rintro _ ⟨q1,rfl⟩;have HB1:=upB HW q1.b;have Ck:=upK Gk q1.b;have Cr:=upK Gr q1.b;clear hne0 HW HB k0 k1 k2 k3 k4 k5 r0 r1 r2 r3 r4 r5 Gk Gr Bk hszv1 pk pkl hb c0 c1 c2 c3 c4 c5;have HB:=HB1;clear HB1;have Bk:=Ck;clear Ck;have Br:=Cr;clear Cr;clear hp2 hp3;go_wp2_with fail;refine ⟨⟨k + 1,by omega,by go_num,fun j z hj hz => ?_,HB.out,Bk.out⟩,by simp [intOf];omega⟩
      by_cases e : j = k
      ·subst e;rw [HXp.out] at hz;obtain rfl:=Option.some.inj hz;exact fun h => absurd h HP2.out
      ·exact HQ.out j z (by omega) hz
     have HP2:=hidK hp2;obtain ⟨⟨j1,n,h1,h2⟩,hbd⟩:=HRun.out k p HXp.out hp2;rw [hp2] at c5;clear hp2;have HBD:=hidK hbd
     have hl1' : j1 < l1:=by have h3:=(List.getElem?_eq_some_iff.1 h1).1;omega
     obtain ⟨b1,o1,n',rfl,hb1n,hn',hat⟩:=nd_at HR.out.n hl1';rw [h1] at hn';obtain rfl:=Option.some.inj hn';obtain ⟨na,nl,nc,hnr,z0,z1,d0,d1,d2,d3,d4,d5,d6⟩:=nd_cells hat;have HJn:=hidK h1;have HNn:=hidK h2;have e5:=(cell_below HB.out hb1n).trans d5;have hbn : b1 < wr.heap.size:=Nat.lt_of_lt_of_le hb1n HB.out.size;clear hn' hat hnr z0 z1 d0 d1 d2 d3 d4 d5 d6 h1 h2 hb1n hbd
     rcases Bool.eq_false_or_eq_true n.d with hd | hd
     ·have HDd:=hidK hd;rw [hd] at e5;clear hd
      have hbnv : b1 < (wr.alloc (.cells #[.string p.n,.int .i64 p.c,.string p.z,.slice va vl vc,.string p.d,.int .i64 2] 107)).heap.size:=by simp;omega
      have e5v:=(cell_below (below1 wr (.cells #[.string p.n,.int .i64 p.c,.string p.z,.slice va vl vc,.string p.d,.int .i64 2] 107)) hbn).trans e5
      have hszv1 : (wr.alloc (.cells #[.string p.n,.int .i64 p.c,.string p.z,.slice va vl vc,.string p.d,.int .i64 2] 107)).heap.size = wr.heap.size + 1:=by simp
      have Gk : Hid ((wr.alloc (.cells #[.string p.n,.int .i64 p.c,.string p.z,.slice va vl vc,.string p.d,.int .i64 2] 107)).heap[w.heap.size]? = some (.cells #[.slice (some ⟨b1,o1,none⟩) l1 y1,.slice a2 l2 y2,.slice a3 l3 y3,.slice a4 l4 y4,.slice (some ⟨b,o,none⟩) l5 y5,.int .i64 c.now] 38 (0,0))):=(Below.heap_alloc _ _ _ (lt_of_some Bk.out)).trans (Bk.out);have Gr : Hid ((wr.alloc (.cells #[.string p.n,.int .i64 p.c,.string p.z,.slice va vl vc,.string p.d,.int .i64 2] 107)).heap[wr.heap.size]? = some (.cells #[.string p.n,.int .i64 p.c,.string p.z,.slice va vl vc,.string p.d,.int .i64 2] 107 (0,0))):=Array.getElem?_push_size;have HW : Hid (Below w.heap.size w (wr.alloc (.cells #[.string p.n,.int .i64 p.c,.string p.z,.slice va vl vc,.string p.d,.int .i64 2] 107))):=(HB.out.trans ((below1 _ _).mono HB.out.size));obtain ⟨k0,k1,k2,k3,k4,k5⟩:=sl6 Gk;obtain ⟨r0,r1,r2,r3,r4,r5⟩:=sl6 Gr;have nw:=fun q : Wd (wr.alloc (.cells #[.string p.n,.int .i64 p.c,.string p.z,.slice va vl vc,.string p.d,.int .i64 2] 107)) => (q.cell hbnv).trans e5v;have hne0:=Wd.ne (wr.alloc (.cells #[.string p.n,.int .i64 p.c,.string p.z,.slice va vl vc,.string p.d,.int .i64 2] 107));have HC0:=hidK (fun q : Wd (wr.alloc (.cells #[.string p.n,.int .i64 p.c,.string p.z,.slice va vl vc,.string p.d,.int .i64 2] 107)) => sxnd_hit ⟨(some ⟨b1,o1,none⟩),l1,y1,a2,l2,y2,a3,l3,y3,a4,l4,y4,(some ⟨b,o,none⟩),l5,y5⟩ c.now c.ns p.d q.w (HR.out.n.below (HW.out.trans (q.b.mono HW.out.size))) HNR.out HJn.out HNn.out);go_wp2_with fail;refine wp_region_wide (by kernel_rfl) (by kernel_rfl) ?_
      repeat (go_big_quiet_step (first | (go_at_call 105;exact Calls.wide (HC0.out _)) | fail))
      refine wpQuiet_nil ?_;rintro _ ⟨q1,rfl⟩;have HB1:=upB HW q1.b;have Ck:=upK Gk q1.b;have Cr:=upK Gr q1.b;clear hne0 HW HB HC0 k0 k1 k2 k3 k4 k5 r0 r1 r2 r3 r4 r5 nw Gk Gr Bk hszv1 pk pkl hb hbn e5 hbnv e5v c0 c1 c2 c3 c4 c5;have HB:=HB1;clear HB1;have Bk:=Ck;clear Ck;have Br:=Cr;clear Cr
      go_wp2
      go_ret;refine BoolB.f (fun h => ?_) HB.out;obtain ⟨i,m,e1,e2,e3,_⟩:=(h.2 k p HXp.out) HP2.out;obtain ⟨_,rfl⟩:=HNR.out.inj e1 HJn.out (e2.trans HNn.out.symm);rw [HDd.out] at e3
      cases e3
     ·by_cases hal : AllS c p n
      ·have HAl:=hidK hal;clear hal;have HDd:=hidK hd;rw [hd] at e5;clear hd
       have hbnv : b1 < (wr.alloc (.cells #[.string p.n,.int .i64 p.c,.string p.z,.slice va vl vc,.string p.d,.int .i64 2] 107)).heap.size:=by simp;omega
       have e5v:=(cell_below (below1 wr (.cells #[.string p.n,.int .i64 p.c,.string p.z,.slice va vl vc,.string p.d,.int .i64 2] 107)) hbn).trans e5
       have HCA : Hid (∀ q : Wd (wr.alloc (.cells #[.string p.n,.int .i64 p.c,.string p.z,.slice va vl vc,.string p.d,.int .i64 2] 107)),Calls Tryz.prog 132 #[.agg #[.slice (some ⟨b1,o1,none⟩) l1 y1,.slice a2 l2 y2,.slice a3 l3 y3,.slice a4 l4 y4,.slice (some ⟨b,o,none⟩) l5 y5,.int .i64 c.now],.agg #[.string p.n,.int .i64 p.c,.string p.z,.slice va vl vc,.string p.d,.int .i64 2]] q.w fun e w' => e = .returned (.bool true) ∧ Below q.w.heap.size q.w w'):=by
        intro q;have h0:=(sall_any ⟨(some ⟨b1,o1,none⟩),l1,y1,a2,l2,y2,a3,l3,y3,a4,l4,y4,(some ⟨b,o,none⟩),l5,y5⟩ c p va vl vc j1 n q.w (HR.out.below (HB.out.trans (((below1 wr _).trans (q.b.mono (by simp))).mono HB.out.size))) HNR.out HX.out HV.out HNE.out (HTp.out.below ((below1 wr _).trans (q.b.mono (by simp)))) HJn.out HNn.out HBD.out).mono (fun _ _ h => BoolB.yes h HAl.out);rw [HP2.out] at h0;exact h0
       have hszv1 : (wr.alloc (.cells #[.string p.n,.int .i64 p.c,.string p.z,.slice va vl vc,.string p.d,.int .i64 2] 107)).heap.size = wr.heap.size + 1:=by simp
       have Gk : Hid ((wr.alloc (.cells #[.string p.n,.int .i64 p.c,.string p.z,.slice va vl vc,.string p.d,.int .i64 2] 107)).heap[w.heap.size]? = some (.cells #[.slice (some ⟨b1,o1,none⟩) l1 y1,.slice a2 l2 y2,.slice a3 l3 y3,.slice a4 l4 y4,.slice (some ⟨b,o,none⟩) l5 y5,.int .i64 c.now] 38 (0,0))):=(Below.heap_alloc _ _ _ (lt_of_some Bk.out)).trans (Bk.out);have Gr : Hid ((wr.alloc (.cells #[.string p.n,.int .i64 p.c,.string p.z,.slice va vl vc,.string p.d,.int .i64 2] 107)).heap[wr.heap.size]? = some (.cells #[.string p.n,.int .i64 p.c,.string p.z,.slice va vl vc,.string p.d,.int .i64 2] 107 (0,0))):=Array.getElem?_push_size;have HW : Hid (Below w.heap.size w (wr.alloc (.cells #[.string p.n,.int .i64 p.c,.string p.z,.slice va vl vc,.string p.d,.int .i64 2] 107))):=(HB.out.trans ((below1 _ _).mono HB.out.size));obtain ⟨k0,k1,k2,k3,k4,k5⟩:=sl6 Gk;obtain ⟨r0,r1,r2,r3,r4,r5⟩:=sl6 Gr;have nw:=fun q : Wd (wr.alloc (.cells #[.string p.n,.int .i64 p.c,.string p.z,.slice va vl vc,.string p.d,.int .i64 2] 107)) => (q.cell hbnv).trans e5v;have hne0:=Wd.ne (wr.alloc (.cells #[.string p.n,.int .i64 p.c,.string p.z,.slice va vl vc,.string p.d,.int .i64 2] 107));have HC0:=hidK (fun q : Wd (wr.alloc (.cells #[.string p.n,.int .i64 p.c,.string p.z,.slice va vl vc,.string p.d,.int .i64 2] 107)) => sxnd_hit ⟨(some ⟨b1,o1,none⟩),l1,y1,a2,l2,y2,a3,l3,y3,a4,l4,y4,(some ⟨b,o,none⟩),l5,y5⟩ c.now c.ns p.d q.w (HR.out.n.below (HW.out.trans (q.b.mono HW.out.size))) HNR.out HJn.out HNn.out);have HC1:=hidK (fun q : Wd (wr.alloc (.cells #[.string p.n,.int .i64 p.c,.string p.z,.slice va vl vc,.string p.d,.int .i64 2] 107)) => HCA.out q);go_wp2_with fail;refine wp_region_wide (by kernel_rfl) (by kernel_rfl) ?_
       repeat (go_big_quiet_step (first | (go_at_call 105;exact Calls.wide (HC0.out _)) | (go_at_call 132;exact Calls.wide (HC1.out _)) | fail))
       refine wpQuiet_nil ?_;rintro _ ⟨q1,rfl⟩;have HB1:=upB HW q1.b;have Ck:=upK Gk q1.b;have Cr:=upK Gr q1.b;clear hne0 HW HB HC0 HC1 k0 k1 k2 k3 k4 k5 r0 r1 r2 r3 r4 r5 nw Gk Gr Bk hszv1 pk pkl hb hbn e5 hbnv e5v c0 c1 c2 c3 c4 c5;have HB:=HB1;clear HB1;have Bk:=Ck;clear Ck;have Br:=Cr;clear Cr;go_wp2_with fail;refine ⟨⟨k + 1,by omega,by go_num,fun j z hj hz => ?_,HB.out,Bk.out⟩,by simp [intOf];omega⟩
       by_cases e : j = k
       ·subst e;rw [HXp.out] at hz;obtain rfl:=Option.some.inj hz;exact fun _ => ⟨j1,n,HJn.out,HNn.out,HDd.out,HAl.out⟩
       ·exact HQ.out j z (by omega) hz
      ·have HAl:=hidK hal;clear hal;have HDd:=hidK hd;rw [hd] at e5;clear hd
       have hbnv : b1 < (wr.alloc (.cells #[.string p.n,.int .i64 p.c,.string p.z,.slice va vl vc,.string p.d,.int .i64 2] 107)).heap.size:=by simp;omega
       have e5v:=(cell_below (below1 wr (.cells #[.string p.n,.int .i64 p.c,.string p.z,.slice va vl vc,.string p.d,.int .i64 2] 107)) hbn).trans e5
       have HCA : Hid (∀ q : Wd (wr.alloc (.cells #[.string p.n,.int .i64 p.c,.string p.z,.slice va vl vc,.string p.d,.int .i64 2] 107)),Calls Tryz.prog 132 #[.agg #[.slice (some ⟨b1,o1,none⟩) l1 y1,.slice a2 l2 y2,.slice a3 l3 y3,.slice a4 l4 y4,.slice (some ⟨b,o,none⟩) l5 y5,.int .i64 c.now],.agg #[.string p.n,.int .i64 p.c,.string p.z,.slice va vl vc,.string p.d,.int .i64 2]] q.w fun e w' => e = .returned (.bool false) ∧ Below q.w.heap.size q.w w'):=by
        intro q;have h0:=(sall_any ⟨(some ⟨b1,o1,none⟩),l1,y1,a2,l2,y2,a3,l3,y3,a4,l4,y4,(some ⟨b,o,none⟩),l5,y5⟩ c p va vl vc j1 n q.w (HR.out.below (HB.out.trans (((below1 wr _).trans (q.b.mono (by simp))).mono HB.out.size))) HNR.out HX.out HV.out HNE.out (HTp.out.below ((below1 wr _).trans (q.b.mono (by simp)))) HJn.out HNn.out HBD.out).mono (fun _ _ h => BoolB.no h HAl.out);rw [HP2.out] at h0;exact h0
       have hszv1 : (wr.alloc (.cells #[.string p.n,.int .i64 p.c,.string p.z,.slice va vl vc,.string p.d,.int .i64 2] 107)).heap.size = wr.heap.size + 1:=by simp
       have Gk : Hid ((wr.alloc (.cells #[.string p.n,.int .i64 p.c,.string p.z,.slice va vl vc,.string p.d,.int .i64 2] 107)).heap[w.heap.size]? = some (.cells #[.slice (some ⟨b1,o1,none⟩) l1 y1,.slice a2 l2 y2,.slice a3 l3 y3,.slice a4 l4 y4,.slice (some ⟨b,o,none⟩) l5 y5,.int .i64 c.now] 38 (0,0))):=(Below.heap_alloc _ _ _ (lt_of_some Bk.out)).trans (Bk.out);have Gr : Hid ((wr.alloc (.cells #[.string p.n,.int .i64 p.c,.string p.z,.slice va vl vc,.string p.d,.int .i64 2] 107)).heap[wr.heap.size]? = some (.cells #[.string p.n,.int .i64 p.c,.string p.z,.slice va vl vc,.string p.d,.int .i64 2] 107 (0,0))):=Array.getElem?_push_size;have HW : Hid (Below w.heap.size w (wr.alloc (.cells #[.string p.n,.int .i64 p.c,.string p.z,.slice va vl vc,.string p.d,.int .i64 2] 107))):=(HB.out.trans ((below1 _ _).mono HB.out.size));obtain ⟨k0,k1,k2,k3,k4,k5⟩:=sl6 Gk;obtain ⟨r0,r1,r2,r3,r4,r5⟩:=sl6 Gr;have nw:=fun q : Wd (wr.alloc (.cells #[.string p.n,.int .i64 p.c,.string p.z,.slice va vl vc,.string p.d,.int .i64 2] 107)) => (q.cell hbnv).trans e5v;have hne0:=Wd.ne (wr.alloc (.cells #[.string p.n,.int .i64 p.c,.string p.z,.slice va vl vc,.string p.d,.int .i64 2] 107));have HC0:=hidK (fun q : Wd (wr.alloc (.cells #[.string p.n,.int .i64 p.c,.string p.z,.slice va vl vc,.string p.d,.int .i64 2] 107)) => sxnd_hit ⟨(some ⟨b1,o1,none⟩),l1,y1,a2,l2,y2,a3,l3,y3,a4,l4,y4,(some ⟨b,o,none⟩),l5,y5⟩ c.now c.ns p.d q.w (HR.out.n.below (HW.out.trans (q.b.mono HW.out.size))) HNR.out HJn.out HNn.out);have HC1:=hidK (fun q : Wd (wr.alloc (.cells #[.string p.n,.int .i64 p.c,.string p.z,.slice va vl vc,.string p.d,.int .i64 2] 107)) => HCA.out q);go_wp2_with fail;refine wp_region_wide (by kernel_rfl) (by kernel_rfl) ?_
       repeat (go_big_quiet_step (first | (go_at_call 105;exact Calls.wide (HC0.out _)) | (go_at_call 132;exact Calls.wide (HC1.out _)) | fail))
       refine wpQuiet_nil ?_;rintro _ ⟨q1,rfl⟩;have HB1:=upB HW q1.b;have Ck:=upK Gk q1.b;have Cr:=upK Gr q1.b;clear hne0 HW HB HC0 HC1 k0 k1 k2 k3 k4 k5 r0 r1 r2 r3 r4 r5 nw Gk Gr Bk hszv1 pk pkl hb hbn e5 hbnv e5v c0 c1 c2 c3 c4 c5;have HB:=HB1;clear HB1;have Bk:=Ck;clear Ck;have Br:=Cr;clear Cr
       go_wp2
       go_ret;refine BoolB.f (fun h => ?_) HB.out;obtain ⟨i,m,e1,e2,e3,e4⟩:=(h.2 k p HXp.out) HP2.out;obtain ⟨_,rfl⟩:=HNR.out.inj e1 HJn.out (e2.trans HNn.out.symm);exact HAl.out e4
    ·obtain rfl : l5 = k:=by omega
     go_wp2
     go_ret;exact BoolB.t ⟨HQ1.out,fun j z hz => HQ.out j z (by have:=(List.getElem?_eq_some_iff.1 hz).1;omega) hz⟩ HB.out

theorem hit_iff {α : Type} {nm : α → ByteArray} {xs : List α} {t : ByteArray} (h : RisBy nm xs) : hit nm xs t = true ↔ ∃ (i : Nat) (x : α),xs[i]? = some x ∧ nm x = t:=by
 constructor
 ·intro e;obtain ⟨x,h1,h2⟩:=hit_yes e;exact ⟨_,x,h1,h2⟩
 ·rintro ⟨i,x,h1,h2⟩;exact (hit_at h h1 h2).2
theorem bound_iff {c : Cl} (h : RowsOk c) : BoundI c ↔ BoundS c:=by
 have hk:=h.2.1.2.2;have hv:=h.2.2.1.2.2;have hx:=h.2.2.2.1.2.2
 constructor
 ·rintro ⟨h1,h2⟩;refine ⟨fun j v e => ?_,fun j x e => ?_⟩
  ·obtain ⟨a,b⟩:=h1 j v e;refine ⟨(hit_iff hk).1 a,b.imp id ?_⟩;rintro ⟨i,j',x,v',e1,e2,e3,e4,e5,e6,_⟩;exact ⟨i,x,e1,e2,e5⟩
  ·obtain ⟨a,b⟩:=h2 j x e;refine ⟨(hit_iff hk).1 a,b.imp id ?_⟩;rintro ⟨i,j',x',v',e1,e2,e3,e4,e5,e6,e7,e8,e9⟩;obtain ⟨_,rfl⟩:=hx.inj e1 e e2;exact ⟨j',v',e3,e4,e6,e7,e8,e9⟩
 ·rintro ⟨h1,h2⟩;refine ⟨fun j v e => ?_,fun j x e => ?_⟩
  ·obtain ⟨a,b⟩:=h1 j v e;refine ⟨(hit_iff hk).2 a,b.imp id ?_⟩;rintro ⟨i,x,e1,e2,e3⟩;have hne : ¬ x.v = ⟨#[]⟩:=fun q => h.ne j v e (e3.symm.trans q);obtain ⟨_,b2⟩:=h2 i x e1
   rcases b2 with b2 | ⟨j',v',f1,f2,f3,f4,f5,f6⟩
   ·exact absurd b2 hne
   obtain ⟨_,rfl⟩:=hv.inj f1 e (f2.trans e3);exact ⟨i,j,x,v',e1,e2,e,rfl,e3,rfl,f4,f5,f6⟩
  ·obtain ⟨a,b⟩:=h2 j x e;refine ⟨(hit_iff hk).2 a,b.imp id ?_⟩;rintro ⟨j',v,e1,e2,e3,e4,e5,e6⟩;exact ⟨j,j',x,v,e,rfl,e1,e2,rfl,e3,e4,e5,e6⟩
theorem placed_iff {c : Cl} (h : RowsOk c) (hb : BoundS c) : PlacedI c ↔ PlacedS c:=by
 have hn:=h.1.2.2;have hv:=h.2.2.1.2.2;have hx:=h.2.2.2.1.2.2
 have one : (∀ (j : Nat) z,c.vs[j]? = some z → PQ3 c z) ↔ ∀ (k : Nat) p,c.ps[k]? = some p → PSc c k p:=by
  constructor
  ·intro h3 k p hp j q hj hq
   by_cases e1 : q.d = ⟨#[]⟩
   ·exact .inl e1
   by_cases e2 : p.d = ⟨#[]⟩
   ·exact .inr (.inl e2)
   by_cases e3 : q.d = p.d
   ·exact .inr (.inr (.inl e3))
   refine .inr (.inr (.inr fun i t ht v hbd hs hin => e3 ?_));obtain ⟨i1,j1,x,f1,f2,f3,f4⟩:=hbd;have hxv : ¬ x.v = ⟨#[]⟩:=fun z => h.ne j1 v f3 (f4.trans z)
   have hvm : v.m = t:=by
    rcases (hb.2 i1 x f1).2 with z | ⟨j2,v2,g1,g2,g3,_⟩
    ·exact absurd z hxv
    ·obtain ⟨_,rfl⟩:=hv.inj g1 f3 (g2.trans f4.symm);rw [g3,f2]
   have ht0 : ¬ v.m = ⟨#[]⟩:=fun z => by
    have h1:=(h.2.2.2.1.2.1 i1 x f1).1.1;rw [f2,← hvm,z] at h1;exact absurd h1 (by decide)
   have:=h3 j1 v f3 hs ht0;rw [hvm] at this;exact this j k q p hq hp e1 e2 ⟨i,ht⟩ hin
  ·intro h3 j v hj hs hm i1 i2 p q hp hq d1 d2 in1 in2;obtain ⟨i4,x,f1,f2,f3⟩:=(hb.1 j v hj).2.resolve_left hm;have hbd : IsBd c v.m v:=⟨i4,j,x,f1,f2,hj,f3.symm⟩
   rcases Nat.lt_trichotomy i1 i2 with k | k | k
   ·obtain ⟨r,hr⟩:=in1
    rcases h3 i2 q hq i1 p k hp with z | z | z | z
    ·exact absurd z d1
    ·exact absurd z d2
    ·exact z
    ·exact absurd in2 (z r v.m hr v hbd hs)
   ·subst k;rw [hp] at hq;rw [Option.some.inj hq]
   ·obtain ⟨r,hr⟩:=in2
    rcases h3 i1 p hp i2 q k hq with z | z | z | z
    ·exact absurd z d2
    ·exact absurd z d1
    ·exact z.symm
    ·exact absurd in1 (z r v.m hr v hbd hs)
 constructor
 ·rintro ⟨h1,h2,h3⟩;refine ⟨fun k p hp => ⟨?_,?_,one.1 h3 k p hp⟩,h2⟩
  ·rcases (h1 k p hp).2 with z | ⟨i,n,e1,e2,e3,e4⟩
   ·exact .inl z
   ·exact .inr ⟨i,n,e1,e2,e3.imp id Eq.symm⟩
  ·intro j t ht;refine ⟨(hit_iff hx).1 ((h1 k p hp).1 j t ht),?_⟩
   rcases (h1 k p hp).2 with z | ⟨i,n,e1,e2,e3,e4⟩
   ·exact .inl z
   ·obtain ⟨v,f1,f2⟩:=e4 j t ht;exact .inr ⟨v,i,n,f1,e1,e2,f2⟩
 ·rintro ⟨h1,h2⟩;refine ⟨fun k p hp => ⟨fun j t ht => (hit_iff hx).2 ((h1 k p hp).2.1 j t ht).1,?_⟩,h2,one.2 (fun k p hp => (h1 k p hp).2.2)⟩
  rcases (h1 k p hp).1 with z | ⟨i,n,e1,e2,e3⟩
  ·exact .inl z
  by_cases z : p.d = ⟨#[]⟩
  ·exact .inl z
  refine .inr ⟨i,n,e1,e2,e3.imp id Eq.symm,fun j t ht => ?_⟩;obtain ⟨v,i',n',f1,f2,f3,f4⟩:=((h1 k p hp).2.1 j t ht).2.resolve_left z;obtain ⟨_,rfl⟩:=hn.inj f2 e1 (f3.trans e2.symm);exact ⟨v,f1,f4⟩
theorem running {c : Cl} (h : RowsOk c) (hp : PlacedS c) (j : Nat) (p : Pd) (hj : c.ps[j]? = some p) (h2 : p.p = 2) : (∃ (i : Nat) (n : Nd),c.ns[i]? = some n ∧ n.n = p.d) ∧ ∀ (j : Nat) t,p.zs[j]? = some t → ∃ v,IsBd c t v:=by
 have hd : ¬ p.d = ⟨#[]⟩:=fun e => by
  have h1:=(h.2.2.2.2.2.1 j p hj).2.2.2.2
  rcases h1 with ⟨h3,_⟩ | ⟨_,h3⟩
  ·rw [h2] at h3;cases h3
  ·have h4:=h3.1;rw [e] at h4;exact absurd h4 (by decide)
 obtain ⟨a,b,_⟩:=hp.1 j p hj;obtain ⟨i,n,e1,e2,_⟩:=a.resolve_left hd;refine ⟨⟨i,n,e1,e2⟩,fun k t ht => ?_⟩;obtain ⟨v,_,_,e3,_⟩:=(b k t ht).2.resolve_left hd;exact ⟨v,e3⟩

theorem sright_any (d : Ad) (c : Cl) (w : World) (hr : ClRow w d c.raw) :
  Calls Tryz.prog 27 #[.agg #[.slice d.a1 d.l1 d.c1,.slice d.a2 d.l2 d.c2,.slice d.a3 d.l3 d.c3,.slice d.a4 d.l4 d.c4,.slice d.a5 d.l5 d.c5,.int .i64 c.now]] w (BoolB (RightI c) w):=by
 have HR:=hidK hr;have HB:=hidK (Below.refl w.heap.size w);clear hr
 go_enter Tryz.func27,Tryz.ntmps27
 go_wp2_with fail;refine (ktime_any c.now _).mono ?_;rintro e w1 ⟨r,rfl,hi,hw⟩
 have hb : Below (w.alloc (.cells #[.slice d.a1 d.l1 d.c1,.slice d.a2 d.l2 d.c2,.slice d.a3 d.l3 d.c3,.slice d.a4 d.l4 d.c4,.slice d.a5 d.l5 d.c5,.int .i64 c.now] 38)).heap.size (w.alloc (.cells #[.slice d.a1 d.l1 d.c1,.slice d.a2 d.l2 d.c2,.slice d.a3 d.l3 d.c3,.slice d.a4 d.l4 d.c4,.slice d.a5 d.l5 d.c5,.int .i64 c.now] 38)) w1:=by first | (rw [hw];exact Below.refl _ _) | (rw [← hw];exact Below.refl _ _)
 clear hw;obtain ⟨HA0,hbx⟩:=slots1 hb;have Bk:=hidK HA0;replace HB:=upB HB hbx;clear hb hbx HA0;have HI1:=hidK hi;clear hi
 cases r
 ·obtain ⟨k0,k1,k2,k3,k4,k5⟩:=cs6 Bk.out;have ltk_1:=lt_of_some Bk.out
  go_wp2
  go_ret;exact BoolB.f (fun h => by have:=HI1.out.2 h.1;cases this) HB.out
 obtain ⟨k0,k1,k2,k3,k4,k5⟩:=cs6 Bk.out;have ltk_1:=lt_of_some Bk.out;go_wp2_with fail;refine (seach_any d c _ (HR.out.below HB.out)).mono ?_;rintro e w2 ⟨r,rfl,hi,hb⟩;clear k0 k1 k2 k3 k4 k5 ltk_1;replace Bk:=upK Bk hb;replace HB:=upB HB hb;clear hb;have HI2:=hidK hi;clear hi
 cases r
 ·obtain ⟨k0,k1,k2,k3,k4,k5⟩:=cs6 Bk.out;have ltk_2:=lt_of_some Bk.out
  go_wp2
  go_ret;exact BoolB.f (fun h => by have:=HI2.out.2 h.2.1;cases this) HB.out
 have HOK:=hidK (HI2.out.1 (by first | trivial | rfl));obtain ⟨k0,k1,k2,k3,k4,k5⟩:=cs6 Bk.out;have ltk_2:=lt_of_some Bk.out;go_wp2_with fail;refine (sbound_any d c _ (HR.out.below HB.out) HOK.out.2.1.2.2 HOK.out.2.2.2.1.2.2 HOK.out.2.2.1.2.2).mono ?_;rintro e w3 ⟨r,rfl,hi,hb⟩;clear k0 k1 k2 k3 k4 k5 ltk_2;replace Bk:=upK Bk hb;replace HB:=upB HB hb;clear hb;have HI3:=hidK hi;clear hi
 cases r
 ·obtain ⟨k0,k1,k2,k3,k4,k5⟩:=cs6 Bk.out;have ltk_3:=lt_of_some Bk.out
  go_wp2
  go_ret;exact BoolB.f (fun h => by have:=HI3.out.2 ((bound_iff HOK.out).1 h.2.2.1);cases this) HB.out
 have HBd:=hidK (HI3.out.1 (by first | trivial | rfl));obtain ⟨k0,k1,k2,k3,k4,k5⟩:=cs6 Bk.out;have ltk_3:=lt_of_some Bk.out;go_wp2_with fail;refine (splaced_any d c _ (HR.out.below HB.out) HOK.out.1.2.2 HOK.out.2.2.2.1.2.2 HOK.out.2.2.1.2.2 HOK.out.ne (by have:=HOK.out.2.2.2.2.1;omega) HOK.out.cpu).mono ?_;rintro e w4 ⟨r,rfl,hi,hb⟩;clear k0 k1 k2 k3 k4 k5 ltk_3;replace Bk:=upK Bk hb;replace HB:=upB HB hb;clear hb;have HI4:=hidK hi;clear hi
 cases r
 ·obtain ⟨k0,k1,k2,k3,k4,k5⟩:=cs6 Bk.out;have ltk_4:=lt_of_some Bk.out
  go_wp2
  go_ret;exact BoolB.f (fun h => by have:=HI4.out.2 ((placed_iff HOK.out HBd.out).1 h.2.2.2.1);cases this) HB.out
 have HPl:=hidK (HI4.out.1 (by first | trivial | rfl));obtain ⟨k0,k1,k2,k3,k4,k5⟩:=cs6 Bk.out;have ltk_4:=lt_of_some Bk.out;go_wp2_with fail;refine (sattached_any d c _ (HR.out.below HB.out) HOK.out.1.2.2 (by have:=HOK.out.2.2.1.1;omega)).mono ?_;rintro e w5 ⟨r,rfl,hi,hb⟩;clear k0 k1 k2 k3 k4 k5 ltk_4;replace Bk:=upK Bk hb;replace HB:=upB HB hb;clear hb;have HI5:=hidK hi;clear hi
 cases r
 ·obtain ⟨k0,k1,k2,k3,k4,k5⟩:=cs6 Bk.out;have ltk_5:=lt_of_some Bk.out
  go_wp2
  go_ret;exact BoolB.f (fun h => by have:=HI5.out.2 h.2.2.2.2.1;cases this) HB.out
 obtain ⟨k0,k1,k2,k3,k4,k5⟩:=cs6 Bk.out;have ltk_5:=lt_of_some Bk.out;go_wp2_with fail;refine (smounted_any d c _ (HR.out.below HB.out) HOK.out.1.2.2 HOK.out.2.2.2.1.2.2 HOK.out.2.2.1.2.2 HOK.out.ne (running HOK.out HPl.out)).mono ?_;rintro e w6 ⟨r,rfl,hi,hb⟩;clear k0 k1 k2 k3 k4 k5 ltk_5;replace Bk:=upK Bk hb;replace HB:=upB HB hb;clear hb;have HI6:=hidK hi;clear hi
 cases r
 ·obtain ⟨k0,k1,k2,k3,k4,k5⟩:=cs6 Bk.out;have ltk_6:=lt_of_some Bk.out
  go_wp2
  go_ret;exact BoolB.f (fun h => by have:=HI6.out.2 h.2.2.2.2.2;cases this) HB.out
 go_wp2
 go_ret;exact BoolB.t ⟨HI1.out.1 (by first | trivial | rfl),HOK.out,(bound_iff HOK.out).2 HBd.out,(placed_iff HOK.out HBd.out).2 HPl.out,HI5.out.1 (by first | trivial | rfl),HI6.out.1 (by first | trivial | rfl)⟩ HB.out

end Rc
end Go.Proofs.YtkljbgdikmpjfaaGreatDoor

namespace Go.Proofs.YtkljbgdikmpjfaaGreatDoor
open Go.RowKit Go.Extern.Stop Go.Stop Go.Extern
namespace Rc

structure Ers (w : World) (E : Nat → Addr) : Prop where
 v0 : w.cell? ⟨2,0,none⟩ = some (.iface 218 (.pointer (some (E 0))))
 v1 : w.cell? ⟨0,0,none⟩ = some (.iface 218 (.pointer (some (E 1))))
 v2 : w.cell? ⟨1,0,none⟩ = some (.iface 218 (.pointer (some (E 2))))
 v3 : w.cell? ⟨3,0,none⟩ = some (.iface 218 (.pointer (some (E 3))))
 v4 : w.cell? ⟨5,0,none⟩ = some (.iface 218 (.pointer (some (E 4))))
 v5 : w.cell? ⟨6,0,none⟩ = some (.iface 218 (.pointer (some (E 5))))
 v6 : w.cell? ⟨4,0,none⟩ = some (.iface 218 (.pointer (some (E 6))))
 v7 : w.cell? ⟨7,0,none⟩ = some (.iface 218 (.pointer (some (E 7))))
 v8 : w.cell? ⟨8,0,none⟩ = some (.iface 218 (.pointer (some (E 8))))
 blk : ∀ i,i < 9 → ∃ cs T,w.heap[(E i).block]? = some (.cells cs T (0,0))
 inj : ∀ i j,i < 9 → j < 9 → E i = E j → i = j
theorem cell_lt {w : World} {b o : Nat} {v : Value} (h : w.cell? ⟨b,o,none⟩ = some v) : b < w.heap.size:=World.block_lt_of_cell? w _ h
theorem Ers.below {w w' : World} {E : Nat → Addr} (h : Ers w E) (hb : Below w.heap.size w w') : Ers w' E :=
 ⟨(cell_below hb (cell_lt h.v0)).trans h.v0,(cell_below hb (cell_lt h.v1)).trans h.v1,(cell_below hb (cell_lt h.v2)).trans h.v2,(cell_below hb (cell_lt h.v3)).trans h.v3,(cell_below hb (cell_lt h.v4)).trans h.v4,(cell_below hb (cell_lt h.v5)).trans h.v5,(cell_below hb (cell_lt h.v6)).trans h.v6,(cell_below hb (cell_lt h.v7)).trans h.v7,(cell_below hb (cell_lt h.v8)).trans h.v8,fun i hi => by
  obtain ⟨cs,T,h1⟩:=h.blk i hi
  exact ⟨cs,T,(hb.block _ (lt_of_some h1)).trans h1⟩,h.inj⟩
theorem Ers.ens {w : World} {E : Nat → Addr} (h : Ers w E) : ens w:=⟨_,_,h.v2⟩

theorem isTypeOf (v : Value) (w : World) : (Extern.ReflectliteType.typeOf #[.iface 218 v]).run Tryz.prog w = .ok (.iface 204 (.agg #[.pointer (some ⟨10,218,none⟩)])) w:=by kernel_rfl
def cmpF : Array Value → Sem Value:=Extern.ReflectliteType.method fun t => do Rtype.noPackHeld "Comparable" t;pure (.bool (← typeInfo t).comparable)
theorem isComparable (w : World) : (cmpF #[.agg #[.pointer (some ⟨10,218,none⟩)]]).run Tryz.prog w = .ok (.bool true) w:=by kernel_rfl
theorem isMethodComparable (v : Value) (w : World) : (Go.method 364 204 v "Comparable").run Tryz.prog w = .ok (251,v) w:=by kernel_rfl
theorem isComp : (Tryz.prog.info? 218).map (·.comparable) = some true:=by kernel_rfl
theorem isSize : (Tryz.prog.info? 253).map (·.size) = some 1:=by kernel_rfl
theorem noIsE (v : Value) (xT : TypeId) (w : World) : (Instr.typeAssert (.iface 218 v) xT 206 true).run Tryz.prog w = .ok (.tuple #[.nilIface,.bool false]) w:=run_typeAssert_lacksB Tryz.underlying206 (by kernel_rfl) (by kernel_rfl) v xT w
theorem noUnwrapE (v : Value) (xT : TypeId) (w : World) : (Instr.typeAssert (.iface 218 v) xT 209 true).run Tryz.prog w = .ok (.tuple #[.nilIface,.bool false]) w:=run_typeAssert_lacksB Tryz.underlying209 (by kernel_rfl) (by kernel_rfl) v xT w
theorem noUnwrapsE (v : Value) (xT : TypeId) (w : World) : (Instr.typeAssert (.iface 218 v) xT 211 true).run Tryz.prog w = .ok (.tuple #[.nilIface,.bool false]) w:=run_typeAssert_lacksB Tryz.underlying211 (by kernel_rfl) (by kernel_rfl) v xT w

theorem is_same (a : Addr) (w : World)  :
  Calls Tryz.prog 160 #[.iface 218 (.pointer (some (a))),.iface 218 (.pointer (some (a)))] w fun e w' => e = .returned (.bool true) ∧ w' = w:=by
 obtain ⟨i,hi,hcmp⟩:=Option.map_eq_some_iff.1 isComp;obtain ⟨j,hj,hjs⟩:=Option.map_eq_some_iff.1 isSize;have h8:=@run_callFunc_extern Tryz.prog 185 _ Extern.ReflectliteType.typeOf Tryz.func185 (by kernel_rfl) (by kernel_rfl) (by kernel_rfl) (by kernel_rfl);have h32:=@run_callFunc_extern Tryz.prog 251 _ cmpF Tryz.func251 (by kernel_rfl) (by kernel_rfl) (by kernel_rfl) (by kernel_rfl);have tT:=isTypeOf;have cT:=isComparable;have mR:=isMethodComparable;have heq:=run_eql_iface_ptr_same (P:=Tryz.prog) w a Tryz.underlying85 Tryz.underlying218 hi hcmp hj
 go_enter Tryz.func160,Tryz.ntmps160
 go_wp2
 refine wp_loop_rounds 1 ?_;rw [rounds_succ]
 go_wp2
 go_ret;exact ⟨rfl,rfl⟩

theorem is_other (a b : Addr) (ca cb : Array Value) (ta tb : TypeId) (w : World) (hne : a ≠ b) (ha : w.heap[a.block]? = some (.cells ca ta (0,0))) (hb : w.heap[b.block]? = some (.cells cb tb (0,0))) :
  Calls Tryz.prog 160 #[.iface 218 (.pointer (some (a))),.iface 218 (.pointer (some (b)))] w fun e w' => e = .returned (.bool false) ∧ w' = w:=by
 obtain ⟨i,hi,hcmp⟩:=Option.map_eq_some_iff.1 isComp;obtain ⟨j,hj,hjs⟩:=Option.map_eq_some_iff.1 isSize;have h8:=@run_callFunc_extern Tryz.prog 185 _ Extern.ReflectliteType.typeOf Tryz.func185 (by kernel_rfl) (by kernel_rfl) (by kernel_rfl) (by kernel_rfl);have h32:=@run_callFunc_extern Tryz.prog 251 _ cmpF Tryz.func251 (by kernel_rfl) (by kernel_rfl) (by kernel_rfl) (by kernel_rfl);have tT:=isTypeOf;have cT:=isComparable;have mR:=isMethodComparable;have nE:=noIsE;have uE:=noUnwrapE;have vE:=noUnwrapsE;have heq:=run_eql_iface_ptr_other (P:=Tryz.prog) w Tryz.underlying85 Tryz.underlying218 hi hcmp hj (by rw [hjs];decide) hne ha hb
 go_enter Tryz.func160,Tryz.ntmps160
 go_wp2
 refine wp_loop_rounds 1 ?_;rw [rounds_succ]
 go_wp2
 go_ret;exact ⟨rfl,rfl⟩

theorem is_words {w : World} {E : Nat → Addr} (h : Ers w E) (i j : Nat) (hi : i < 9) (hj : j < 9) (hne : ¬ i = j) :
  Calls Tryz.prog 160 #[.iface 218 (.pointer (some (E i))),.iface 218 (.pointer (some (E j)))] w fun e w' => e = .returned (.bool false) ∧ w' = w:=by
 obtain ⟨ca,ta,h1⟩:=h.blk i hi;obtain ⟨cb,tb,h2⟩:=h.blk j hj;exact is_other (E i) (E j) ca cb ta tb w (fun e => hne (h.inj i j hi hj e)) h1 h2

def codeOf : Nat → Int
 | 0 => 2
 | 1 => 1
 | 2 => 6
 | 3 => 7
 | 4 => 9
 | 5 => 11
 | 6 => 7
 | 7 => 11
 | 8 => 10
 | _ => 0

theorem why0 (E : Nat → Addr) (w : World) (h : Ers w E) : Calls Tryz.prog 106 #[.iface 218 (.pointer (some (E 0)))] w fun e w' => e = .returned (.int .i64 2) ∧ w' = w:=by
 have HE:=hidK h;have v0:=h.v0;have v1:=h.v1;have v2:=h.v2;have v3:=h.v3;have v4:=h.v4;have v5:=h.v5;have v6:=h.v6;have v7:=h.v7;have v8:=h.v8;clear h
 go_enter Tryz.func106,Tryz.ntmps106
 go_wp2_with fail;refine (is_same (E 0) _).mono ?_;rintro e w' ⟨rfl,rfl⟩
 go_wp2
 go_ret;exact ⟨rfl,rfl⟩

theorem why1 (E : Nat → Addr) (w : World) (h : Ers w E) : Calls Tryz.prog 106 #[.iface 218 (.pointer (some (E 1)))] w fun e w' => e = .returned (.int .i64 1) ∧ w' = w:=by
 have HE:=hidK h;have v0:=h.v0;have v1:=h.v1;have v2:=h.v2;have v3:=h.v3;have v4:=h.v4;have v5:=h.v5;have v6:=h.v6;have v7:=h.v7;have v8:=h.v8;clear h
 go_enter Tryz.func106,Tryz.ntmps106
 go_wp2_with fail;refine (is_words HE.out 1 0 (by decide) (by decide) (by decide)).mono ?_;rintro e w' ⟨rfl,rfl⟩;go_wp2_with fail;refine (is_words HE.out 1 2 (by decide) (by decide) (by decide)).mono ?_;rintro e w' ⟨rfl,rfl⟩;go_wp2_with fail;refine (is_words HE.out 1 3 (by decide) (by decide) (by decide)).mono ?_;rintro e w' ⟨rfl,rfl⟩;go_wp2_with fail;refine (is_words HE.out 1 6 (by decide) (by decide) (by decide)).mono ?_;rintro e w' ⟨rfl,rfl⟩;go_wp2_with fail;refine (is_words HE.out 1 4 (by decide) (by decide) (by decide)).mono ?_;rintro e w' ⟨rfl,rfl⟩;go_wp2_with fail;refine (is_words HE.out 1 5 (by decide) (by decide) (by decide)).mono ?_;rintro e w' ⟨rfl,rfl⟩;go_wp2_with fail;refine (is_words HE.out 1 7 (by decide) (by decide) (by decide)).mono ?_;rintro e w' ⟨rfl,rfl⟩;go_wp2_with fail;refine (is_words HE.out 1 8 (by decide) (by decide) (by decide)).mono ?_;rintro e w' ⟨rfl,rfl⟩
 go_wp2
 go_ret;exact ⟨rfl,rfl⟩

theorem why2 (E : Nat → Addr) (w : World) (h : Ers w E) : Calls Tryz.prog 106 #[.iface 218 (.pointer (some (E 2)))] w fun e w' => e = .returned (.int .i64 6) ∧ w' = w:=by
 have HE:=hidK h;have v0:=h.v0;have v1:=h.v1;have v2:=h.v2;have v3:=h.v3;have v4:=h.v4;have v5:=h.v5;have v6:=h.v6;have v7:=h.v7;have v8:=h.v8;clear h
 go_enter Tryz.func106,Tryz.ntmps106
 go_wp2_with fail;refine (is_words HE.out 2 0 (by decide) (by decide) (by decide)).mono ?_;rintro e w' ⟨rfl,rfl⟩;go_wp2_with fail;refine (is_same (E 2) _).mono ?_;rintro e w' ⟨rfl,rfl⟩
 go_wp2
 go_ret;exact ⟨rfl,rfl⟩

theorem why3 (E : Nat → Addr) (w : World) (h : Ers w E) : Calls Tryz.prog 106 #[.iface 218 (.pointer (some (E 3)))] w fun e w' => e = .returned (.int .i64 7) ∧ w' = w:=by
 have HE:=hidK h;have v0:=h.v0;have v1:=h.v1;have v2:=h.v2;have v3:=h.v3;have v4:=h.v4;have v5:=h.v5;have v6:=h.v6;have v7:=h.v7;have v8:=h.v8;clear h
 go_enter Tryz.func106,Tryz.ntmps106
 go_wp2_with fail;refine (is_words HE.out 3 0 (by decide) (by decide) (by decide)).mono ?_;rintro e w' ⟨rfl,rfl⟩;go_wp2_with fail;refine (is_words HE.out 3 2 (by decide) (by decide) (by decide)).mono ?_;rintro e w' ⟨rfl,rfl⟩;go_wp2_with fail;refine (is_same (E 3) _).mono ?_;rintro e w' ⟨rfl,rfl⟩
 go_wp2
 go_ret;exact ⟨rfl,rfl⟩

theorem why4 (E : Nat → Addr) (w : World) (h : Ers w E) : Calls Tryz.prog 106 #[.iface 218 (.pointer (some (E 4)))] w fun e w' => e = .returned (.int .i64 9) ∧ w' = w:=by
 have HE:=hidK h;have v0:=h.v0;have v1:=h.v1;have v2:=h.v2;have v3:=h.v3;have v4:=h.v4;have v5:=h.v5;have v6:=h.v6;have v7:=h.v7;have v8:=h.v8;clear h
 go_enter Tryz.func106,Tryz.ntmps106
 go_wp2_with fail;refine (is_words HE.out 4 0 (by decide) (by decide) (by decide)).mono ?_;rintro e w' ⟨rfl,rfl⟩;go_wp2_with fail;refine (is_words HE.out 4 2 (by decide) (by decide) (by decide)).mono ?_;rintro e w' ⟨rfl,rfl⟩;go_wp2_with fail;refine (is_words HE.out 4 3 (by decide) (by decide) (by decide)).mono ?_;rintro e w' ⟨rfl,rfl⟩;go_wp2_with fail;refine (is_words HE.out 4 6 (by decide) (by decide) (by decide)).mono ?_;rintro e w' ⟨rfl,rfl⟩;go_wp2_with fail;refine (is_same (E 4) _).mono ?_;rintro e w' ⟨rfl,rfl⟩
 go_wp2
 go_ret;exact ⟨rfl,rfl⟩

theorem why5 (E : Nat → Addr) (w : World) (h : Ers w E) : Calls Tryz.prog 106 #[.iface 218 (.pointer (some (E 5)))] w fun e w' => e = .returned (.int .i64 11) ∧ w' = w:=by
 have HE:=hidK h;have v0:=h.v0;have v1:=h.v1;have v2:=h.v2;have v3:=h.v3;have v4:=h.v4;have v5:=h.v5;have v6:=h.v6;have v7:=h.v7;have v8:=h.v8;clear h
 go_enter Tryz.func106,Tryz.ntmps106
 go_wp2_with fail;refine (is_words HE.out 5 0 (by decide) (by decide) (by decide)).mono ?_;rintro e w' ⟨rfl,rfl⟩;go_wp2_with fail;refine (is_words HE.out 5 2 (by decide) (by decide) (by decide)).mono ?_;rintro e w' ⟨rfl,rfl⟩;go_wp2_with fail;refine (is_words HE.out 5 3 (by decide) (by decide) (by decide)).mono ?_;rintro e w' ⟨rfl,rfl⟩;go_wp2_with fail;refine (is_words HE.out 5 6 (by decide) (by decide) (by decide)).mono ?_;rintro e w' ⟨rfl,rfl⟩;go_wp2_with fail;refine (is_words HE.out 5 4 (by decide) (by decide) (by decide)).mono ?_;rintro e w' ⟨rfl,rfl⟩;go_wp2_with fail;refine (is_same (E 5) _).mono ?_;rintro e w' ⟨rfl,rfl⟩
 go_wp2
 go_ret;exact ⟨rfl,rfl⟩

theorem why6 (E : Nat → Addr) (w : World) (h : Ers w E) : Calls Tryz.prog 106 #[.iface 218 (.pointer (some (E 6)))] w fun e w' => e = .returned (.int .i64 7) ∧ w' = w:=by
 have HE:=hidK h;have v0:=h.v0;have v1:=h.v1;have v2:=h.v2;have v3:=h.v3;have v4:=h.v4;have v5:=h.v5;have v6:=h.v6;have v7:=h.v7;have v8:=h.v8;clear h
 go_enter Tryz.func106,Tryz.ntmps106
 go_wp2_with fail;refine (is_words HE.out 6 0 (by decide) (by decide) (by decide)).mono ?_;rintro e w' ⟨rfl,rfl⟩;go_wp2_with fail;refine (is_words HE.out 6 2 (by decide) (by decide) (by decide)).mono ?_;rintro e w' ⟨rfl,rfl⟩;go_wp2_with fail;refine (is_words HE.out 6 3 (by decide) (by decide) (by decide)).mono ?_;rintro e w' ⟨rfl,rfl⟩;go_wp2_with fail;refine (is_same (E 6) _).mono ?_;rintro e w' ⟨rfl,rfl⟩
 go_wp2
 go_ret;exact ⟨rfl,rfl⟩

theorem why7 (E : Nat → Addr) (w : World) (h : Ers w E) : Calls Tryz.prog 106 #[.iface 218 (.pointer (some (E 7)))] w fun e w' => e = .returned (.int .i64 11) ∧ w' = w:=by
 have HE:=hidK h;have v0:=h.v0;have v1:=h.v1;have v2:=h.v2;have v3:=h.v3;have v4:=h.v4;have v5:=h.v5;have v6:=h.v6;have v7:=h.v7;have v8:=h.v8;clear h
 go_enter Tryz.func106,Tryz.ntmps106
 go_wp2_with fail;refine (is_words HE.out 7 0 (by decide) (by decide) (by decide)).mono ?_;rintro e w' ⟨rfl,rfl⟩;go_wp2_with fail;refine (is_words HE.out 7 2 (by decide) (by decide) (by decide)).mono ?_;rintro e w' ⟨rfl,rfl⟩;go_wp2_with fail;refine (is_words HE.out 7 3 (by decide) (by decide) (by decide)).mono ?_;rintro e w' ⟨rfl,rfl⟩;go_wp2_with fail;refine (is_words HE.out 7 6 (by decide) (by decide) (by decide)).mono ?_;rintro e w' ⟨rfl,rfl⟩;go_wp2_with fail;refine (is_words HE.out 7 4 (by decide) (by decide) (by decide)).mono ?_;rintro e w' ⟨rfl,rfl⟩;go_wp2_with fail;refine (is_words HE.out 7 5 (by decide) (by decide) (by decide)).mono ?_;rintro e w' ⟨rfl,rfl⟩;go_wp2_with fail;refine (is_same (E 7) _).mono ?_;rintro e w' ⟨rfl,rfl⟩
 go_wp2
 go_ret;exact ⟨rfl,rfl⟩

theorem why8 (E : Nat → Addr) (w : World) (h : Ers w E) : Calls Tryz.prog 106 #[.iface 218 (.pointer (some (E 8)))] w fun e w' => e = .returned (.int .i64 10) ∧ w' = w:=by
 have HE:=hidK h;have v0:=h.v0;have v1:=h.v1;have v2:=h.v2;have v3:=h.v3;have v4:=h.v4;have v5:=h.v5;have v6:=h.v6;have v7:=h.v7;have v8:=h.v8;clear h
 go_enter Tryz.func106,Tryz.ntmps106
 go_wp2_with fail;refine (is_words HE.out 8 0 (by decide) (by decide) (by decide)).mono ?_;rintro e w' ⟨rfl,rfl⟩;go_wp2_with fail;refine (is_words HE.out 8 2 (by decide) (by decide) (by decide)).mono ?_;rintro e w' ⟨rfl,rfl⟩;go_wp2_with fail;refine (is_words HE.out 8 3 (by decide) (by decide) (by decide)).mono ?_;rintro e w' ⟨rfl,rfl⟩;go_wp2_with fail;refine (is_words HE.out 8 6 (by decide) (by decide) (by decide)).mono ?_;rintro e w' ⟨rfl,rfl⟩;go_wp2_with fail;refine (is_words HE.out 8 4 (by decide) (by decide) (by decide)).mono ?_;rintro e w' ⟨rfl,rfl⟩;go_wp2_with fail;refine (is_words HE.out 8 5 (by decide) (by decide) (by decide)).mono ?_;rintro e w' ⟨rfl,rfl⟩;go_wp2_with fail;refine (is_words HE.out 8 7 (by decide) (by decide) (by decide)).mono ?_;rintro e w' ⟨rfl,rfl⟩;go_wp2_with fail;refine (is_same (E 8) _).mono ?_;rintro e w' ⟨rfl,rfl⟩
 go_wp2
 go_ret;exact ⟨rfl,rfl⟩

theorem whyCode_any (E : Nat → Addr) (i : Nat) (w : World) (h : Ers w E) (hi : i < 9) : Calls Tryz.prog 106 #[.iface 218 (.pointer (some (E i)))] w fun e w' => e = .returned (.int .i64 (codeOf i)) ∧ w' = w:=by
 match i,hi with
 | 0,_ => exact why0 E w h
 | 1,_ => exact why1 E w h
 | 2,_ => exact why2 E w h
 | 3,_ => exact why3 E w h
 | 4,_ => exact why4 E w h
 | 5,_ => exact why5 E w h
 | 6,_ => exact why6 E w h
 | 7,_ => exact why7 E w h
 | 8,_ => exact why8 E w h

theorem refused_any (E : Nat → Addr) (i : Nat) (cc : Int) (hcc : cc = codeOf i) (w : World) (h : Ers w E) (hi : i < 9) : Calls Tryz.prog 56 #[.iface 218 (.pointer (some (E i)))] w fun e w' => e = .returned (.agg #[.slice none 0 0,.slice none 0 0,.slice none 0 0,.slice none 0 0,.slice none 0 0,.int .i64 0,.string ⟨#[]⟩,.int .i64 cc]) ∧ Below w.heap.size w w':=by
 have HE:=hidK (h.below (below1 w (.cells #[.slice none 0 0,.slice none 0 0,.slice none 0 0,.slice none 0 0,.slice none 0 0,.int .i64 0,.string ⟨#[]⟩,.int .i64 0] 46)));clear h
 go_enter Tryz.func56,Tryz.ntmps56
 go_wp2_with fail;refine (whyCode_any E i _ HE.out hi).mono ?_;rintro e w' ⟨rfl,rfl⟩;rw [← hcc];clear hcc
 go_wp2
 exact bodyPost_ret (v:=.agg #[.slice none 0 0,.slice none 0 0,.slice none 0 0,.slice none 0 0,.slice none 0 0,.int .i64 0,.string ⟨#[]⟩,.int .i64 cc]) (by simp [results,Tryz.results56,go_sem]) rfl ⟨rfl,below1 _ _⟩

end Rc
end Go.Proofs.YtkljbgdikmpjfaaGreatDoor

namespace Go.Proofs.YtkljbgdikmpjfaaGreatDoor
open Go.RowKit

end Go.Proofs.YtkljbgdikmpjfaaGreatDoor

namespace Go.Proofs.YtkljbgdikmpjfaaGreatDoor
open Go.RowKit
namespace Rc
open Mk

theorem Below.drewn {B : Nat} {w w' : World} (h : Below B w w') : Below B w w'.drew:=⟨h.os,h.tape,h.output,h.size,h.block⟩
def HasX (c : Cl) (t : ByteArray) : Prop:=∃ (i : Nat) (x : Xd),c.xs[i]? = some x ∧ x.n = t
theorem HasX.no {c : Cl} {t : ByteArray} (hr : RightI c) (h : hit Xd.n c.xs t = false) : ¬ HasX c t:=fun ⟨i,x,h1,h2⟩ => by
 have:=(hit_at hr.2.1.2.2.2.1.2.2 h1 h2).2;rw [h] at this
 cases this
end Rc
end Go.Proofs.YtkljbgdikmpjfaaGreatDoor

namespace Go.Proofs.YtkljbgdikmpjfaaGreatDoor
open Go.RowKit
namespace Gi

abbrev Rs:=Option Tmp → World → World → Prop
structure Rel (R : Rs) (sp : Tmp) : Prop where
 refl : ∀ w,R none w w
 trans : ∀ {a b c},R none a b → R none b c → R none a c
 size : ∀ {a b},R none a b → a.heap.size ≤ b.heap.size
 drew : ∀ w,R none w w.drew
 sub : ∀ s {a b},R s a b → R none a b
 low : ∀ s {a b},¬ s = none → ¬ s = some sp → R s a b → Below a.heap.size a b
abbrev Fact:=Value → World → Nat → Nat → Prop
abbrev Ex:=Tmp → Option Tmp
def Fact.Mono (R : Rs) (ex : Ex) (d : Option Tmp) (φ : Fact) : Prop:=∀ s,¬ s = none → ¬ s = d → (∀ t e,d = some t → ex t = some e → ¬ s = some e) → ∀ v w w' l h,φ v w l h → R s w w' → φ v w' l h
theorem Fact.mono_eq (R : Rs) (ex : Ex) (d : Option Tmp) (c : Value) : Fact.Mono R ex d (fun v _ _ _ => v = c):=fun _ _ _ _ _ _ _ _ _ h _ => h

def slotFact (ex : Ex) (d : Option Tmp) (a0 : Act) (known : List (Tmp × Fact)) (a : Act) (w : World) (lo hi : Tmp → Nat) (t : Tmp) : Prop :=
 match known.lookup t with
 | some φ => (ex t = none ∨ ex t = d) → φ (a.tmps.getD t undef) w (lo t) (hi t)
 | none => a.tmps.getD t undef = a0.tmps.getD t undef

def ApartAt (known : List (Tmp × Fact)) (lo hi : Tmp → Nat) (ts : List Tmp) : Prop:=∀ t ∈ ts,∀ t' ∈ ts,(known.lookup t).isSome = true → (known.lookup t').isSome = true → ¬ t = t' → hi t ≤ lo t' ∨ hi t' ≤ lo t
def Obl (R : Rs) (sp : Tmp) (ex : Ex) (P : Program) (ops : Array Oper) (Q : Exit → Act → World → Prop) (W : World) (a0 : Act) (known : List (Tmp × Fact)) (o : Oper) (φ : Fact) : Prop :=
 ∀ (a : Act) (w : World) (K : Act → World → Prop) (lo hi : Tmp → Nat),a.tmps.size = a0.tmps.size → R none W w → (o.dst = some sp → Below W.heap.size W w) → (∀ t ∈ o.looksAt ops,slotFact ex o.dst a0 known a w lo hi t) → ApartAt known lo hi (o.looksAt ops) →
  (∀ v w',R o.dst w w' → φ v w' w.heap.size w'.heap.size → K (a.put o.dst v) w') → if Region.wanted o (yielded ops a.tmps) = true then o.wp P a w K Q else K (a.put o.dst undef) w

theorem Obl.plain {R : Rs} {sp : Tmp} {ex : Ex} {P : Program} {ops : Array Oper} {Q : Exit → Act → World → Prop} {W : World} {a0 : Act} {known : List (Tmp × Fact)} {o : Oper} {φ : Fact} (hg : o.guard = none)
  (h : ∀ (a : Act) (w : World) (K : Act → World → Prop) (lo hi : Tmp → Nat),a.tmps.size = a0.tmps.size → R none W w → (o.dst = some sp → Below W.heap.size W w) → (∀ t ∈ looksOf o,slotFact ex o.dst a0 known a w lo hi t) → ApartAt known lo hi (looksOf o) → (∀ v w',R o.dst w w' → φ v w' w.heap.size w'.heap.size → K (a.put o.dst v) w') → o.wp P a w K Q) : Obl R sp ex P ops Q W a0 known o φ:=by
 intro a w K lo hi h1 h2 h6 h3 h5 h4
 have hw : Region.wanted o (yielded ops a.tmps) = true:=by simp [Region.wanted,hg]
 rw [if_pos hw]
 have hs : ∀ t ∈ looksOf o,t ∈ o.looksAt ops:=fun t ht => by unfold Oper.looksAt;exact List.mem_append_left _ ht
 exact h a w K lo hi h1 h2 h6 (fun t ht => h3 t (hs t ht)) (fun t ht t' ht' => h5 t (hs t ht) t' (hs t' ht')) h4

def putsAll (a0 : Act) (known : List (Tmp × Fact)) (x : Tmp → Value) : Act:=known.foldr (fun p b => b.put (some p.1) (x p.1)) a0
def Apart (known : List (Tmp × Fact)) (lo hi : Tmp → Nat) : Prop:=∀ p ∈ known,∀ q ∈ known,¬ p.1 = q.1 → hi p.1 ≤ lo q.1 ∨ hi q.1 ≤ lo p.1
def Fin (R : Rs) (ex : Ex) (P : Program) (ops : Array Oper) (Q : Exit → Act → World → Prop) (W : World) (a0 : Act) (back : Option Oper) (known : List (Tmp × Fact)) : Prop :=
 ∀ (x : Tmp → Value) (w : World) (lo hi : Tmp → Nat),R none W w → (∀ p ∈ known,ex p.1 = none → p.2 (x p.1) w (lo p.1) (hi p.1)) → Apart known lo hi → lastStep P ops Q back (putsAll a0 known x) w

def kn (d : Option Tmp) (φ : Fact) (known : List (Tmp × Fact)) : List (Tmp × Fact):=match d with | some t => (t,φ) :: known | none => known

def Grow (R : Rs) (sp : Tmp) (ex : Ex) (P : Program) (ops : Array Oper) (Q : Exit → Act → World → Prop) (W : World) (a0 : Act) (back : Option Oper) : List Oper → List (Tmp × Fact) → Prop
 | [],known => Fin R ex P ops Q W a0 back known
 | o :: rest,known => ∃ φ : Fact,φ.Mono R ex o.dst ∧ Obl R sp ex P ops Q W a0 known o φ ∧ Grow R sp ex P ops Q W a0 back rest (kn o.dst φ known)
theorem Grow.step {R : Rs} {sp : Tmp} {ex : Ex} {P : Program} {ops : Array Oper} {Q : Exit → Act → World → Prop} {W : World} {a0 : Act} {back : Option Oper} {o : Oper} {rest : List Oper} {known : List (Tmp × Fact)} {t : Tmp} (φ : Fact) (hd : o.dst = some t) (hφ : φ.Mono R ex (some t)) (ho : Obl R sp ex P ops Q W a0 known o φ)
  (h : Grow R sp ex P ops Q W a0 back rest ((t,φ) :: known)) : Grow R sp ex P ops Q W a0 back (o :: rest) known:=⟨φ,by rw [hd];exact hφ,ho,by rw [hd];exact h⟩
theorem Grow.stepC {R : Rs} {sp : Tmp} {ex : Ex} {P : Program} {ops : Array Oper} {Q : Exit → Act → World → Prop} {W : World} {a0 : Act} {back : Option Oper} {o : Oper} {rest : List Oper} {known : List (Tmp × Fact)} {t : Tmp} (c : Value) (hd : o.dst = some t) (ho : Obl R sp ex P ops Q W a0 known o (fun v _ _ _ => v = c))
  (h : Grow R sp ex P ops Q W a0 back rest ((t,fun v _ _ _ => v = c) :: known)) : Grow R sp ex P ops Q W a0 back (o :: rest) known:=Grow.step _ hd (Fact.mono_eq R ex _ c) ho h
theorem Grow.done {R : Rs} {sp : Tmp} {ex : Ex} {P : Program} {ops : Array Oper} {Q : Exit → Act → World → Prop} {W : World} {a0 : Act} {back : Option Oper} {known : List (Tmp × Fact)} (h : Fin R ex P ops Q W a0 back known) : Grow R sp ex P ops Q W a0 back [] known:=h

section
variable {R : Rs} {sp : Tmp} {ex : Ex} {P : Program} {ops : Array Oper} {Q : Exit → Act → World → Prop} {W : World} {a0 : Act} {back : Option Oper}

def knAll : List (Tmp × Fact) → List Oper → List Fact → List (Tmp × Fact)
 | known,o :: l,φ :: φs => knAll (kn o.dst φ known) l φs
 | known,_,_ => known
theorem knAll_nil (known : List (Tmp × Fact)) (φs : List Fact) : knAll known [] φs = known:=by cases φs <;> rfl

theorem Grow.spec : ∀ (l : List Oper) (known : List (Tmp × Fact)),Grow R sp ex P ops Q W a0 back l known → ∃ φs : List Fact,φs.length = l.length ∧
  (∀ (i : Nat) (o : Oper) (φ : Fact),l[i]? = some o → φs[i]? = some φ → φ.Mono R ex o.dst ∧ Obl R sp ex P ops Q W a0 (knAll known (l.take i) (φs.take i)) o φ) ∧ Fin R ex P ops Q W a0 back (knAll known l φs)
 | [],known,h => ⟨[],rfl,fun i o φ h => by simp at h,by rw [knAll_nil];exact h⟩
 | o :: l,known,h => by
  obtain ⟨φ,hφ,ho,hr⟩:=h;obtain ⟨φs,hl,hs,hf⟩:=Grow.spec l _ hr;refine ⟨φ :: φs,by simp [hl],?_,hf⟩;intro i o' φ' h1 h2
  cases i with
  | zero =>
   simp only [List.getElem?_cons_zero,Option.some.injEq] at h1 h2;subst h1;subst h2;exact ⟨hφ,ho⟩
  | succ i =>
   simp only [List.getElem?_cons_succ] at h1 h2
   simpa [knAll] using hs i o' φ' h1 h2

theorem lookup_kn (d : Option Tmp) (φ : Fact) (known : List (Tmp × Fact)) (t : Tmp) : (kn d φ known).lookup t = if d = some t then some φ else known.lookup t:=by
 cases d with
 | none => simp [kn]
 | some d =>
  simp only [kn,Option.some.injEq,List.lookup_cons]
  by_cases h : d = t
  ·subst h;simp
  ·rw [if_neg h]
   have : (t == d) = false:=by simpa using fun e => h e.symm
   rw [this]

theorem lookup_some : ∀ (l : List Oper) (φs : List Fact) (known : List (Tmp × Fact)) {t : Tmp} {φ : Fact},(knAll known l φs).lookup t = some φ →
  (∃ (i : Nat) (o : Oper),l[i]? = some o ∧ o.dst = some t ∧ φs[i]? = some φ) ∨ known.lookup t = some φ
 | [],φs,known,t,φ,h => by rw [knAll_nil] at h;exact .inr h
 | o :: l,[],known,t,φ,h => .inr h
 | o :: l,ψ :: φs,known,t,φ,h => by
  rcases lookup_some l φs (kn o.dst ψ known) h with ⟨i,o',h1,h2,h3⟩ | h
  ·exact .inl ⟨i + 1,o',by simpa using h1,h2,by simpa using h3⟩
  ·rw [lookup_kn] at h
   by_cases hd : o.dst = some t
   ·rw [if_pos hd] at h;exact .inl ⟨0,o,rfl,hd,by simpa using h⟩
   ·rw [if_neg hd] at h;exact .inr h
theorem lookup_none : ∀ (l : List Oper) (φs : List Fact) (known : List (Tmp × Fact)) {t : Tmp},(knAll known l φs).lookup t = none →
  known.lookup t = none ∧ ∀ (i : Nat) (o : Oper) (φ : Fact),l[i]? = some o → φs[i]? = some φ → o.dst ≠ some t
 | [],φs,known,t,h => by rw [knAll_nil] at h;exact ⟨h,fun i o φ h => by simp at h⟩
 | o :: l,[],known,t,h => ⟨h,fun i o φ _ h => by simp at h⟩
 | o :: l,ψ :: φs,known,t,h => by
  obtain ⟨h1,h2⟩:=lookup_none l φs (kn o.dst ψ known) h;rw [lookup_kn] at h1
  by_cases hd : o.dst = some t
  ·rw [if_pos hd] at h1;cases h1
  ·rw [if_neg hd] at h1;refine ⟨h1,fun i o' φ h3 h4 => ?_⟩
   cases i with
   | zero => simp only [List.getElem?_cons_zero,Option.some.injEq] at h3;subst h3;exact hd
   | succ i => exact h2 i o' φ (by simpa using h3) (by simpa using h4)
theorem mem_knAll : ∀ (l : List Oper) (φs : List Fact) (known : List (Tmp × Fact)) {p : Tmp × Fact},p ∈ knAll known l φs →
  (∃ (i : Nat) (o : Oper),l[i]? = some o ∧ o.dst = some p.1 ∧ φs[i]? = some p.2) ∨ p ∈ known
 | [],φs,known,p,h => by rw [knAll_nil] at h;exact .inr h
 | o :: l,[],known,p,h => .inr h
 | o :: l,ψ :: φs,known,p,h => by
  rcases mem_knAll l φs (kn o.dst ψ known) h with ⟨i,o',h1,h2,h3⟩ | h
  ·exact .inl ⟨i + 1,o',by simpa using h1,h2,by simpa using h3⟩
  ·cases hd : o.dst with
   | none => rw [hd] at h;exact .inr h
   | some d =>
    rw [hd] at h;simp only [kn,List.mem_cons] at h
    rcases h with rfl | h
    ·exact .inl ⟨0,o,rfl,hd,rfl⟩
    ·exact .inr h

theorem putsAll_size (a0 : Act) (x : Tmp → Value) : ∀ known,(putsAll a0 known x).tmps.size = a0.tmps.size
 | [] => rfl
 | p :: l => by unfold putsAll;rw [List.foldr_cons,size_put];exact putsAll_size a0 x l
theorem putsAll_defers (a0 : Act) (x : Tmp → Value) : ∀ known,(putsAll a0 known x).defers = a0.defers
 | [] => rfl
 | p :: l => by unfold putsAll;rw [List.foldr_cons,defers_put];exact putsAll_defers a0 x l
theorem putsAll_getD (a0 a : Act) (known : List (Tmp × Fact)) (hk : ∀ p ∈ known,p.1 < a0.tmps.size) (t : Tmp) (h : (∀ p ∈ known,p.1 ≠ t) → a.tmps.getD t undef = a0.tmps.getD t undef) :
  (putsAll a0 known (fun t => a.tmps.getD t undef)).tmps.getD t undef = a.tmps.getD t undef:=by
 induction known with
 | nil => exact (h (fun p hp => by simp at hp)).symm
 | cons p l ih =>
  have e : putsAll a0 (p :: l) (fun t => a.tmps.getD t undef) = (putsAll a0 l (fun t => a.tmps.getD t undef)).put (some p.1) (a.tmps.getD p.1 undef):=rfl;rw [e,getD_put,putsAll_size]
  by_cases hp : p.1 = t
  ·subst hp;rw [if_pos ⟨rfl,hk p (by simp)⟩]
  ·rw [if_neg (fun h => hp h.1)]
   exact ih (fun q hq => hk q (by simp [hq])) (fun hn => h (fun q hq => by
    rcases List.mem_cons.1 hq with rfl | hq
    ·exact hp
    ·exact hn q hq))
structure At (R : Rs) (sp : Tmp) (ex : Ex) (front : List Oper) (φs : List Fact) (W : World) (a0 : Act) (listed : Array Bool) (a : Act) (w : World) (lo hi : Tmp → Nat) : Prop where
 size : a.tmps.size = a0.tmps.size
 defers : a.defers = a0.defers
 below : R none W w
 pre : (∀ (i : Nat) (p : Oper),front[i]? = some p → p.dst = some sp → listed.getD i false = false) → Below W.heap.size W w
 known : ∀ (i : Nat) (o : Oper) (φ : Fact),front[i]? = some o → φs[i]? = some φ → ∀ t,o.dst = some t → listed.getD i false = true → (∀ e,ex t = some e → ∀ (i' : Nat) (p' : Oper),front[i']? = some p' → p'.dst = some e → listed.getD i' false = false) → φ (a.tmps.getD t undef) w (lo t) (hi t)
 top : ∀ (i : Nat) (o : Oper),front[i]? = some o → ∀ t,o.dst = some t → listed.getD i false = true → hi t ≤ w.heap.size
 apart : ∀ (i : Nat) (o : Oper) (i' : Nat) (o' : Oper),front[i]? = some o → front[i']? = some o' → ∀ t t',o.dst = some t → o'.dst = some t' → listed.getD i false = true → listed.getD i' false = true → ¬ t = t' → hi t ≤ lo t' ∨ hi t' ≤ lo t
 other : ∀ t,(∀ (i : Nat) (o : Oper),front[i]? = some o → o.dst = some t → listed.getD i false = false) → a.tmps.getD t undef = a0.tmps.getD t undef

theorem At.step {front : List Oper} {φs : List Fact} {listed : Array Bool} {a : Act} {w w' : World} {lo hi : Tmp → Nat} {j : Nat} {o : Oper} {φ : Fact} {v : Value} (hR : Rel R sp) (hds : ¬ o.dst = none) (h : At R sp ex front φs W a0 listed a w lo hi)
  (hn : (front.filterMap (·.dst)).Nodup) (hin : ∀ o ∈ front,∀ t,o.dst = some t → t < a0.tmps.size) (hmono : ∀ (i : Nat) (o : Oper) (φ : Fact),front[i]? = some o → φs[i]? = some φ → φ.Mono R ex o.dst)
  (ho : front[j]? = some o) (hφ : φs[j]? = some φ) (hj : j < listed.size) (hb : R o.dst w w') (hv : φ v w' w.heap.size w'.heap.size) : ∃ lo hi,At R sp ex front φs W a0 (listed.setIfInBounds j true) (a.put o.dst v) w' lo hi:=by
 have old : ∀ (i : Nat) (p : Oper) t,front[i]? = some p → p.dst = some t → ¬ j = i → (listed.setIfInBounds j true).getD i false = true → ¬ o.dst = some t ∧ listed.getD i false = true:=fun i p t hp ht e hl =>
  ⟨fun hd => e (nodup_dst front hn ho hp hd ht),by simpa [Array.getD_eq_getD_getElem?,Array.getElem?_setIfInBounds,e] using hl⟩
 refine ⟨fun t => if o.dst = some t then w.heap.size else lo t,fun t => if o.dst = some t then w'.heap.size else hi t,(size_put _ _ _).trans h.size,(defers_put _ _ _).trans h.defers,hR.trans h.below (hR.sub _ hb),fun hx => ?_,?_,?_,?_,?_⟩
 ·have hns : ¬ o.dst = some sp:=fun e => by
   have:=hx j o ho e
   simp [Array.getD_eq_getD_getElem?,hj] at this
  have h1:=h.pre (fun i p hp hd => by
   have h2:=hx i p hp hd
   have e : ¬ j = i:=fun e => by subst e;exact hns (by rw [Option.some.inj (ho.symm.trans hp)];exact hd)
   simpa [Array.getD_eq_getD_getElem?,Array.getElem?_setIfInBounds,e] using h2)
  exact h1.trans ((hR.low _ hds hns hb).mono h1.size)
 ·intro i p ψ hp hψ t ht hl hx
  by_cases e : j = i
  ·subst e;obtain rfl : o = p:=Option.some.inj (ho.symm.trans hp);obtain rfl : φ = ψ:=Option.some.inj (hφ.symm.trans hψ);simp only [if_pos ht];rw [ht,getD_put,if_pos ⟨rfl,by rw [h.size];exact hin o (List.mem_of_getElem? ho) t ht⟩];exact hv
  ·obtain ⟨hne,hl'⟩:=old i p t hp ht e hl;simp only [if_neg hne]
   have hxo : ∀ e,ex t = some e → ∀ (i' : Nat) (p' : Oper),front[i']? = some p' → p'.dst = some e → ¬ j = i' ∧ listed.getD i' false = false:=fun e9 he i' p' hp' hd' => by
    have h9:=hx e9 he i' p' hp' hd'
    by_cases ej : j = i'
    ·subst ej;simp [Array.getD_eq_getD_getElem?,hj] at h9
    ·exact ⟨ej,by simpa [Array.getD_eq_getD_getElem?,Array.getElem?_setIfInBounds,ej] using h9⟩
   have h1:=hmono i p ψ hp hψ o.dst hds (fun e9 => hne (e9.trans ht)) (fun t9 e9 h8 h9 hd => by
    obtain rfl : t = t9:=Option.some.inj (ht.symm.trans h8)
    exact (hxo e9 h9 j o ho hd).1 rfl) _ _ _ _ _ (h.known i p ψ hp hψ t ht hl' (fun e9 he i' p' hp' hd' => (hxo e9 he i' p' hp' hd').2)) hb
   cases hd : o.dst with
   | none => exact h1
   | some d =>
    rw [getD_put,if_neg (fun hx => hne (hd.trans (by rw [hx.1])))];exact h1
 ·intro i p hp t ht hl
  by_cases e : j = i
  ·subst e;obtain rfl : o = p:=Option.some.inj (ho.symm.trans hp);simp only [if_pos ht];exact Nat.le_refl _
  ·obtain ⟨hne,hl'⟩:=old i p t hp ht e hl;simp only [if_neg hne];exact Nat.le_trans (h.top i p hp t ht hl') (hR.size (hR.sub _ hb))
 ·intro i p i' p' hp hp' t t' ht ht' hl hl' hne
  by_cases e : j = i
  ·subst e;obtain rfl : o = p:=Option.some.inj (ho.symm.trans hp)
   by_cases e' : j = i'
   ·subst e';obtain rfl : o = p':=Option.some.inj (ho.symm.trans hp');exact absurd (Option.some.inj (ht.symm.trans ht')) hne
   ·obtain ⟨hne',hl''⟩:=old i' p' t' hp' ht' e' hl';simp only [if_pos ht,if_neg hne'];exact .inr (h.top i' p' hp' t' ht' hl'')
  ·obtain ⟨hne1,hl1⟩:=old i p t hp ht e hl
   by_cases e' : j = i'
   ·subst e';obtain rfl : o = p':=Option.some.inj (ho.symm.trans hp');simp only [if_pos ht',if_neg hne1];exact .inl (h.top i p hp t ht hl1)
   ·obtain ⟨hne',hl''⟩:=old i' p' t' hp' ht' e' hl';simp only [if_neg hne1,if_neg hne'];exact h.apart i p i' p' hp hp' t t' ht ht' hl1 hl'' hne
 ·intro t ht
  have hne : o.dst ≠ some t:=fun hd => by
   have:=ht j o ho hd
   simp [Array.getD_eq_getD_getElem?,hj] at this
  have h1:=h.other t (fun i p hp hd => by
   have h2:=ht i p hp hd
   have e : ¬ j = i:=fun e => by subst e;exact hne (by rw [Option.some.inj (ho.symm.trans hp)];exact hd)
   simpa [Array.getD_eq_getD_getElem?,Array.getElem?_setIfInBounds,e] using h2)
  cases hd : o.dst with
  | none => exact h1
  | some d =>
   rw [getD_put,if_neg (fun hx => hne (hd.trans (by rw [hx.1])))];exact h1

theorem Fin.last {front : List Oper} {φs : List Fact} {listed : Array Bool} {a : Act} {w : World} {lo hi : Tmp → Nat} (hf : Fin R ex P ops Q W a0 back (knAll [] front φs)) (hlen : φs.length = front.length) (hin : ∀ o ∈ front,∀ t,o.dst = some t → t < a0.tmps.size)
  (h : At R sp ex front φs W a0 listed a w lo hi) (hall : ∀ i,i < front.length → listed.getD i false = true) : lastStep P ops Q back a w:=by
 have h1:=hf (fun t => a.tmps.getD t undef) w lo hi h.below (fun p hp hpe => by
  rcases mem_knAll front φs [] hp with ⟨i,o,h1,h2,h3⟩ | h1
  ·exact h.known i o p.2 h1 h3 p.1 h2 (hall i (List.getElem?_eq_some_iff.1 h1).1) (fun e he => by rw [hpe] at he;cases he)
  ·simp at h1) (fun p hp q hq hne => by
  rcases mem_knAll front φs [] hp with ⟨i,o,h1,h2,h3⟩ | h1
  ·rcases mem_knAll front φs [] hq with ⟨i',o',g1,g2,g3⟩ | g1
   ·exact h.apart i o i' o' h1 g1 p.1 q.1 h2 g2 (hall i (List.getElem?_eq_some_iff.1 h1).1) (hall i' (List.getElem?_eq_some_iff.1 g1).1) hne
   ·simp at g1
  ·simp at h1)
 have e : putsAll a0 (knAll [] front φs) (fun t => a.tmps.getD t undef) = a:=by
  refine act_ext ((putsAll_size _ _ _).trans h.size.symm) ((putsAll_defers _ _ _).trans h.defers.symm) (fun t => putsAll_getD a0 a _ (fun p hp => ?_) t (fun hn => ?_))
  ·rcases mem_knAll front φs [] hp with ⟨i,o,h1,h2,h3⟩ | h1
   ·exact hin o (List.mem_of_getElem? h1) _ h2
   ·simp at h1
  ·refine h.other t (fun i o ho hd => ?_)
   exfalso
   have hi:=(List.getElem?_eq_some_iff.1 ho).1;have hφ : φs[i]? = some (φs[i]'(by omega)):=List.getElem?_eq_getElem _
   cases hk : (knAll [] front φs).lookup t with
   | none => exact (lookup_none front φs [] hk).2 i o _ ho hφ hd
   | some φ =>
    have : ∃ p ∈ knAll [] front φs,p.1 = t:=by
     revert hk
     generalize knAll [] front φs = l
     intro hk
     induction l with
     | nil => simp at hk
     | cons p l ih =>
      rw [List.lookup_cons] at hk
      cases hb : t == p.1 with
      | true => exact ⟨p,by simp,(by simpa using hb : t = p.1).symm⟩
      | false =>
       rw [hb] at hk;obtain ⟨q,hq,he⟩:=ih hk;exact ⟨q,by simp [hq],he⟩
    obtain ⟨p,hp,he⟩:=this;exact hn p hp he
 rw [e] at h1;exact h1

theorem wpAny_grow {front : List Oper} {φs : List Fact} (hR : Rel R sp) (hds : ∀ o ∈ front,¬ o.dst = none) (hops : ops = (front ++ back.toList).toArray) (hB : growB a0.tmps.size front back = true) (hlen : φs.length = front.length)
  (hs : ∀ (i : Nat) (o : Oper) (φ : Fact),front[i]? = some o → φs[i]? = some φ → φ.Mono R ex o.dst ∧ Obl R sp ex P ops Q W a0 (knAll [] (front.take i) (φs.take i)) o φ) (hf : Fin R ex P ops Q W a0 back (knAll [] front φs)) :
  ∀ (fuel : Nat) (listed : Array Bool) (a : Act) (w : World),listed.size = ops.size → listed.toList.count false ≤ fuel → (∀ o,back = some o → listed.getD front.length false = false) → (∃ lo hi,At R sp ex front φs W a0 listed a w lo hi) → wpAny P .any ops Q fuel listed a w:=by
 obtain ⟨hn,hin,hdep,hlt,hback⟩:=growB_spec hB;rw [← hops] at hdep hlt
 have hsz : ops.size = front.length + back.toList.length:=by rw [hops];simp
 -- all have come up
 have hend : ∀ (listed : Array Bool) (a : Act) (w : World),listed.size = ops.size → (∀ i,i < ops.size → listed.getD i false = true) → (∀ o,back = some o → listed.getD front.length false = false) → (∃ lo hi,At R sp ex front φs W a0 listed a w lo hi) → Q .normal a w:=by
  rintro listed a w hz hall hb ⟨lo,hi,h⟩;have h1:=hf.last hlen hin h (fun i hi => hall i (by omega))
  cases hk : back with
  | none => rw [hk] at h1;exact h1
  | some o =>
   have h2:=hb o hk;rw [hall _ (by rw [hsz,hk];simp)] at h2
   cases h2
 intro fuel
 induction fuel with
 | zero =>
  intro listed a w hz hc hb h;have hall : ∀ i,i < ops.size → listed.getD i false = true:=fun i hi => no_false (by omega) i (by omega);refine ⟨?_,hend listed a w hz hall hb h⟩
  cases hr : Region.ready .any ops listed with
  | nil => rfl
  | cons j js =>
   have hm : j ∈ Region.ready .any ops listed:=by rw [hr];simp
   obtain ⟨h1,o,ho,-⟩:=mem_ready.1 hm;have hj:=(Array.getElem?_eq_some_iff.1 ho).1;rw [← getD_ft (by omega),hall j hj] at h1
   cases h1
 | succ fuel ih =>
  intro listed a w hz hc hb hlh;refine ⟨fun hr => hend listed a w hz (all_listed hz hlt hr) hb hlh,fun j hj => ?_⟩;obtain ⟨lo,hi,h⟩:=hlh;obtain ⟨hun,o,ho,hall⟩:=mem_ready.1 hj;have hjs : j < ops.size:=(Array.getElem?_eq_some_iff.1 ho).1;have hcs:=count_set (listed:=listed) (i:=j) (by omega) hun
  by_cases hjf : j < front.length
  ·have hof : front[j]? = some o:=by rw [hops] at ho;simpa [List.getElem?_append_left hjf] using ho
   have hφ : φs[j]? = some (φs[j]'(by omega)):=List.getElem?_eq_getElem _;obtain ⟨hm,hob⟩:=hs j o _ hof hφ
   have hfacts : ∀ t ∈ o.looksAt ops,slotFact ex o.dst a0 (knAll [] (front.take j) (φs.take j)) a w lo hi t:=by
    intro t ht;unfold slotFact
    cases hk : (knAll [] (front.take j) (φs.take j)).lookup t with
    | some φ =>
     rcases lookup_some _ _ _ hk with ⟨i,p,h1,h2,h3⟩ | h1
     ·have hij : i < j:=by have:=(List.getElem?_eq_some_iff.1 h1).1;simp at this;omega
      rw [List.getElem?_take,if_pos hij] at h1 h3;obtain ⟨-,e,he,hon,hbi⟩:=hdep j o hof t ht i p h1 h2;have hl:=hall e he hbi;rw [hon] at hl;intro hex;refine h.known i p φ h1 h3 t h2 hl (fun e9 he i' p' hp' hd' => ?_)
      rcases hex with h9 | h9
      ·rw [h9] at he;cases he
      ·have : i' = j:=nodup_dst front hn hp' hof hd' (h9.symm.trans he);subst this;rw [getD_ft (by omega)];exact hun
     ·simp at h1
    | none =>
     refine h.other t (fun i p hp hd => ?_)
     exfalso
     obtain ⟨hij,-⟩:=hdep j o hof t ht i p hp hd;have hi:=(List.getElem?_eq_some_iff.1 hp).1;exact (lookup_none _ _ _ hk).2 i p (φs[i]'(by omega)) (by rw [List.getElem?_take,if_pos hij];exact hp) (by rw [List.getElem?_take,if_pos hij];exact List.getElem?_eq_getElem _) hd
   have hfind : ∀ t ∈ o.looksAt ops,((knAll [] (front.take j) (φs.take j)).lookup t).isSome = true → ∃ (i : Nat) (p : Oper),front[i]? = some p ∧ p.dst = some t ∧ listed.getD i false = true:=by
    intro t ht hk;obtain ⟨φ,hφ'⟩:=Option.isSome_iff_exists.1 hk
    rcases lookup_some _ _ _ hφ' with ⟨i,p,h1,h2,h3⟩ | h1
    ·have hij : i < j:=by have:=(List.getElem?_eq_some_iff.1 h1).1;simp at this;omega
     rw [List.getElem?_take,if_pos hij] at h1;obtain ⟨-,e,he,hon,hbi⟩:=hdep j o hof t ht i p h1 h2;have hl:=hall e he hbi;rw [hon] at hl;exact ⟨i,p,h1,h2,hl⟩
    ·simp at h1
   have hap : ApartAt (knAll [] (front.take j) (φs.take j)) lo hi (o.looksAt ops):=by
    intro t ht t' ht' hk hk' hne;obtain ⟨i,p,h1,h2,h3⟩:=hfind t ht hk;obtain ⟨i',p',g1,g2,g3⟩:=hfind t' ht' hk';exact h.apart i p i' p' h1 g1 t t' h2 g2 h3 g3 hne
   have hpre : o.dst = some sp → Below W.heap.size W w:=fun hd => h.pre (fun i p hp hd' => by
    have : i = j:=nodup_dst front hn hp hof hd' hd;subst this;rw [getD_ft (by omega)]
    exact hun)
   have h1:=hob a w (wpAny P .any ops Q fuel (listed.setIfInBounds j true)) lo hi h.size h.below hpre hfacts hap (fun v w' hbw hv => by
    refine ih _ _ _ (by simpa using hz) (by omega) (fun o' ho' => ?_) (h.step hR (hds o (List.mem_of_getElem? hof)) hn hin (fun i o φ h1 h2 => (hs i o φ h1 h2).1) hof hφ (by omega) hbw hv);have h2:=hb o' ho'
    have e : ¬ j = front.length:=by omega
    simpa [Array.getD_eq_getD_getElem?,Array.getElem?_setIfInBounds,e] using h2)
   unfold wpOp;rw [ho]
   simp only
   split
   ·rename_i hw;rw [if_pos hw] at h1;exact .inl h1
   ·rename_i hw;rw [if_neg hw] at h1;exact h1
  ·cases hk : back with
   | none => rw [hk] at hsz;simp at hsz;omega
   | some b =>
    have hjn : j = front.length:=by rw [hk] at hsz;simp at hsz;omega
    subst hjn
    have hob : o = b:=by
     rw [hops,hk] at ho
     simp at ho
     exact ho.symm
    subst hob
    have hfl : ∀ i,i < front.length → listed.getD i false = true:=fun i hi => by
     obtain ⟨e,he,hon,hbi⟩:=hback o hk i hi;have:=hall e he hbi
     rwa [hon] at this
    have h1:=hf.last hlen hin h hfl;rw [hk] at h1
    have h2:=h1 (wpAny P .any ops Q fuel (listed.setIfInBounds front.length true)) (fun a' w' hq => by
     have hr : Region.ready .any ops (listed.setIfInBounds front.length true) = []:=by
      cases hr : Region.ready .any ops (listed.setIfInBounds front.length true) with
      | nil => rfl
      | cons i is =>
       have hm : i ∈ Region.ready .any ops (listed.setIfInBounds front.length true):=by rw [hr];simp
       obtain ⟨h3,o',ho',-⟩:=mem_ready.1 hm;have hi:=(Array.getElem?_eq_some_iff.1 ho').1
       exfalso
       by_cases e : front.length = i
       ·subst e
        simp [Array.getD_eq_getD_getElem?,show front.length < listed.size from by omega] at h3
       ·have h4:=hfl i (by rw [hk] at hsz;simp at hsz;omega);rw [getD_ft (by omega)] at h4
        simp [Array.getD_eq_getD_getElem?,e] at h3 h4
        rw [h3] at h4
        cases h4
     cases fuel with
     | zero => exact ⟨hr,hq⟩
     | succ fuel => exact ⟨fun _ => hq,fun i hi => by rw [hr] at hi;cases hi⟩)
    unfold wpOp;rw [ho]
    simp only
    split
    ·rename_i hw;rw [if_pos hw] at h2;exact .inl h2
    ·rename_i hw;rw [if_neg hw] at h2;exact h2
end

theorem wp_region_grow {R : Rs} {sp : Tmp} {ex : Ex} (hR : Rel R sp) {P : Program} {id : Nat} {Q : Exit → Act → World → Prop} {a0 : Act} {W : World} {l : List Oper} {front : List Oper} {back : Option Oper} (hm : P.follows .mixedOrders = true) (hl : l = front ++ back.toList) (hds : front.all (fun o => o.dst.isSome) = true) (hB : growB a0.tmps.size front back = true)
  (h : Grow R sp ex P l.toArray Q W a0 back front []) : (Code.region id l.toArray true).wp P Q a0 W:=by
 obtain ⟨φs,hlen,hs,hf⟩:=Grow.spec _ _ h;refine wp_region_any hm (wpAny_grow hR (fun o ho e => by have:=List.all_eq_true.1 hds o ho;rw [e] at this;cases this) (by rw [hl]) hB hlen hs hf _ _ _ _ (by simp) ?_ (fun o ho => ?_) ⟨fun _ => 0,fun _ => 0,rfl,rfl,hR.drew _,fun _ => (Below.refl _ _).drew,fun i o φ h1 h2 t ht hx _ => ?_,fun i o h1 t ht hx => ?_,fun i o i' o' h1 h2 t t' ht ht' hx => ?_,fun t _ => rfl⟩)
 ·have:=List.count_le_length (a:=false) (l:=(Array.replicate l.toArray.size false).toList)
  simp at this ⊢
 ·exact repl_false _ _
 ·rw [repl_false] at hx;cases hx
 ·rw [repl_false] at hx;cases hx
 ·rw [repl_false] at hx;cases hx
theorem wp_region_grow_last {R : Rs} {sp : Tmp} {ex : Ex} (hR : Rel R sp) {P : Program} {id : Nat} {Q : Exit → Act → World → Prop} {a0 : Act} {W : World} {l : List Oper} {front : List Oper} {last : Oper} (hm : P.follows .mixedOrders = true) (hf : l.dropLast = front) (hb : l.getLast? = some last) (hds : front.all (fun o => o.dst.isSome) = true) (hB : growB a0.tmps.size front (some last) = true)
  (h : Grow R sp ex P l.toArray Q W a0 (some last) front []) : (Code.region id l.toArray true).wp P Q a0 W:=by
 refine wp_region_grow hR hm ?_ hds hB h;obtain ⟨l',rfl⟩:=List.getLast?_eq_some_iff.1 hb;rw [← hf]
 simp

def Bel (w w' : World) : Prop:=Below w.heap.size w w'
theorem Bel.rel (sp : Tmp) : Rel (fun _ => Bel) sp:=⟨fun _ => Below.refl _ _,fun h k => Below.trans h (Below.mono k (Below.size h)),fun h => Below.size h,fun _ => (Below.refl _ _).drew,fun _ _ _ h => h,fun _ _ _ _ _ h => h⟩
end Gi
end Go.Proofs.YtkljbgdikmpjfaaGreatDoor

namespace Go.Proofs.YtkljbgdikmpjfaaGreatDoor
open Go.RowKit
namespace Rc
open Mk

structure Sm (c : Cl) : Prop where
 n : c.ns.length ≤ 8
 ns : ∀ (j : Nat) x,c.ns[j]? = some x → x.zs.length ≤ 8001
 k : c.ks.length ≤ 8
 v : c.vs.length ≤ 8
 vs : ∀ (j : Nat) x,c.vs[j]? = some x → x.zs.length ≤ 8001
 x : c.xs.length ≤ 8
 p : c.ps.length ≤ 8
 ps : ∀ (j : Nat) x,c.ps[j]? = some x → x.zs.length ≤ 8001
theorem RightI.sm {c : Cl} (h : RightI c) : Sm c:=by
 obtain ⟨_,⟨⟨h1,h2,_⟩,⟨h3,_⟩,⟨h4,h5,_⟩,⟨h6,_⟩,⟨h7,h8,_⟩⟩,_⟩:=h;refine ⟨by omega,fun j x hj => ?_,by omega,by omega,fun j x hj => ?_,by omega,by omega,fun j x hj => ?_⟩
 ·have:=(h2 j x hj).2.2.2.2.2.1;omega
 ·have:=(names_six (h5 j x hj).2.2.2.2.2.2).1;omega
 ·have:=(h8 j x hj).2.2.2.1.1;omega

def flatV (r : List Fv) : List Value:=r.map fun f => f.val.getD undef
def FlatR (r : List Fv) : Prop:=∀ (i : Nat) f,r[i]? = some f → ∃ v,f.val = some v
theorem Fv.Is.val {w : World} {f : Fv} {v u : Value} (h : f.Is w v) (hu : f.val = some u) : v = u ∧ f.Fr w 0 (fun _ => False) v:=by
 cases f with
 | s t => cases hu;exact ⟨h.1,h⟩
 | i n => cases hu;exact ⟨h,h⟩
 | b x => cases hu;exact ⟨h,h⟩
 | l zs => cases hu
theorem Fv.Fr.any {w w' : World} {f : Fv} {v u : Value} {h h' : Nat} {S S' : Nat → Prop} (k : f.Fr w h S v) (hu : f.val = some u) : f.Fr w' h' S' v:=by
 cases f with
 | l zs => cases hu
 | _ => exact k
theorem flatV_at {r : List Fv} (hf : FlatR r) {i : Nat} {f : Fv} (hi : r[i]? = some f) : ∃ u,f.val = some u ∧ (flatV r)[i]? = some u:=by
 obtain ⟨u,hu⟩:=hf i f hi;exact ⟨u,hu,by rw [flatV,List.getElem?_map,hi];simp [hu]⟩
theorem flatV_inv {r : List Fv} (hf : FlatR r) {i : Nat} {u : Value} (hi : (flatV r)[i]? = some u) : ∃ f,r[i]? = some f ∧ f.val = some u:=by
 rw [flatV,List.getElem?_map] at hi;obtain ⟨f,h1,h2⟩:=Option.map_eq_some_iff.1 hi;obtain ⟨v,hv⟩:=hf i f h1;rw [hv] at h2;exact ⟨f,h1,by rw [hv];simpa using h2⟩
section
variable {w : World} {a : Option Addr} {len cap m : Nat} {rs : List (List Fv)}
theorem flat_all (hm : ∀ (j : Nat) r,rs[j]? = some r → r.length = m) : ∀ (j : Nat) vs,(rs.map flatV)[j]? = some vs → vs.length = m:=by
 intro j vs hj;rw [List.getElem?_map] at hj;obtain ⟨r,h1,rfl⟩:=Option.map_eq_some_iff.1 hj;rw [flatV,List.length_map];exact hm j r h1
theorem flat_news {b o : Nat} (h : RRow w (some ⟨b,o,none⟩) len cap m rs) (hm : ∀ (j : Nat) r,rs[j]? = some r → r.length = m ∧ FlatR r) : ∀ (k : Nat) u,(rs.map flatV).flatten[k]? = some u → w.cell? ((⟨b,o,none⟩ : Addr).add k) = some u:=by
 intro k u hk;obtain ⟨j,i,vs,h1,h2,rfl⟩:=flat_inv (flat_all fun j r hj => (hm j r hj).1) hk;rw [List.getElem?_map] at h1;obtain ⟨r,h3,rfl⟩:=Option.map_eq_some_iff.1 h1;obtain ⟨f,h4,h5⟩:=flatV_inv (hm j r h3).2 h2
 rcases h.2.2.2 with rfl | ⟨b',o',e,_,hc⟩
 ·simp at h3
 ·cases e
  obtain ⟨v,h6,h7⟩:=hc j r h3 i f h4;rw [Addr.add_lit,← Nat.add_assoc,h6,(h7.val h5).1]
theorem flat_recs (h : RRow w a len cap m rs) (hm : ∀ (j : Nat) r,rs[j]? = some r → r.length = m ∧ FlatR r) (w' : World) (S : Nat → Prop) : VRecs w' S m rs (rs.map flatV) (fun _ _ => 0):=by
 refine ⟨by simp,flat_all fun j r hj => (hm j r hj).1,fun j r hj => (hm j r hj).1,fun j r vs hj hv i f hi => ?_,fun j r i zs j' r' i' zs' hj hi => ?_⟩
 ·rw [List.getElem?_map,hj] at hv
  cases hv
  obtain ⟨u,h1,h2⟩:=flatV_at (hm j r hj).2 hi
  rcases h.2.2.2 with rfl | ⟨b',o',e,_,hc⟩
  ·simp at hj
  ·obtain ⟨v,h6,h7⟩:=hc j r hj i f hi;obtain ⟨rfl,h8⟩:=h7.val h1;exact ⟨v,h2,h8.any h1⟩
 ·obtain ⟨v,hv⟩:=(hm j r hj).2 i _ hi
  cases hv
end
theorem wp_copy {o : Oper} {a : Act} {w : World} {K : Act → World → Prop} {Q : Exit → Act → World → Prop} (s x : Operand) (t T : TypeId) (ho : o.op = .call { callee:=.builtin .append,args:=#[s,x],argTypes:=#[t,t] }) (i : TypeInfo) (z : Value) (m bytes : Nat) (ht : Tryz.prog.underlying t = some (.slice T)) (hi : Tryz.prog.info? T = some i) (hz : i.zero = some z)
  (hsize : i.size = m) (hby : i.bytes = bytes) (hzs : z.cells.size = m) (hsz : 0 < m) (hT : ¬ T = 9) (base : Nat) (v0 : Value) (hs : a.eval s = v0) (hown : w.ownsRow base T m v0 0 []) (hbw : base ≤ w.heap.size) {ad : Addr} {len cap : Nat} {rs : List (List Fv)} (hx : a.eval x = .slice (some ad) len cap) (hr : RRow w (some ad) len cap m rs) (hm : ∀ (j : Nat) r,rs[j]? = some r → r.length = m ∧ FlatR r) (hl : len ≤ 8) (hb8 : bytes ≤ 1000)
  (h : ∀ a' c' w',ROwn w' a' len c' m T rs (fun k => base ≤ k ∧ k < w'.heap.size) → w.grownBy w' v0.ownBlock → K (a.put o.dst (.slice a' len c')) w') : o.wp Tryz.prog a w K Q:=by
 have hlen : ((rs.map flatV).flatten).length = len * m:=by rw [flat_len (flat_all fun j r hj => (hm j r hj).1),List.length_map,hr.1]
 have hne : rs = [] ∨ ∃ b o,ad = (⟨b,o,none⟩ : Addr):=by
  rcases hr.2.2.2 with h1 | ⟨b,o,e,_⟩
  ·exact .inl h1
  ·cases e;exact .inr ⟨b,o,rfl⟩
 have hnews : ∀ (j : Nat) u,((rs.map flatV).flatten)[j]? = some u → w.cell? (ad.add j) = some u:=by
  rcases hne with rfl | ⟨b,o,rfl⟩
  ·intro j u hu;simp at hu
  ·exact flat_news hr hm
 refine wp_append_own w s x t ho base T i z m bytes ht hi hz hsize hby hzs hsz v0 0 [] hs hown ad len cap (rs.map flatV).flatten hx hlen hnews (flat_recs hr hm w (fun _ => True)).one (by unfold maxLen;omega) (by have : (0 + len) * bytes ≤ 8 * 1000:=Nat.mul_le_mul (by omega) hb8;omega) hbw ?_;intro v' w' ho' hg' _;rw [Nat.zero_add,List.nil_append] at ho';obtain ⟨a',c',rfl,hR⟩:=(flat_recs hr hm w' (fun k => base ≤ k ∧ k < w'.heap.size)).own ho' hr.1.symm hT (fun g hg => ho'.lt g hg);rw [hr.1] at hR ⊢;exact h a' c' w' hR hg'
theorem kd_flat (x : Kd) : (kdF x).length = 4 ∧ FlatR (kdF x):=⟨rfl,fun i f h => by
 rcases i with _ | _ | _ | _ | i <;> first | (cases h;exact ⟨_,rfl⟩) | (simp [kdF] at h)⟩
theorem xd_flat (x : Xd) : (xdF x).length = 5 ∧ FlatR (xdF x):=⟨rfl,fun i f h => by
 rcases i with _ | _ | _ | _ | _ | i <;> first | (cases h;exact ⟨_,rfl⟩) | (simp [xdF] at h)⟩
theorem map_flat {α : Type} {F : α → List Fv} {m : Nat} (hF : ∀ x,(F x).length = m ∧ FlatR (F x)) (xs : List α) : ∀ (j : Nat) r,(xs.map F)[j]? = some r → r.length = m ∧ FlatR r:=by
 intro j r hj;rw [List.getElem?_map] at hj;obtain ⟨x,_,rfl⟩:=Option.map_eq_some_iff.1 hj;exact hF x
def OwnF (B : Nat) (len m : Nat) (T : TypeId) (rs : List (List Fv)) : Gi.Fact:=fun v w l h => ∃ a c,v = .slice a len c ∧ ROwn w a len c m T rs (fun k => l ≤ k ∧ k < h) ∧ B ≤ l
theorem OwnF.mono (ex : Gi.Ex) (s : Option Tmp) (B len m : Nat) (T : TypeId) (rs : List (List Fv)) : Gi.Fact.Mono (fun _ => Gi.Bel) ex s (OwnF B len m T rs):=by
 rintro s' _ _ _ v w w' l h ⟨a,c,h1,h2,h3⟩ hb;exact ⟨a,c,h1,h2.below hb,h3⟩
def ClF (B : Nat) (c : Cl) : Gi.Fact:=fun v w _ _ => ∃ d : Ad,v = .agg #[.slice d.a1 d.l1 d.c1,.slice d.a2 d.l2 d.c2,.slice d.a3 d.l3 d.c3,.slice d.a4 d.l4 d.c4,.slice d.a5 d.l5 d.c5,.int .i64 c.now] ∧ ClOwn w d c.raw (fun k => B ≤ k)
theorem ClF.mono (ex : Gi.Ex) (s : Option Tmp) (B : Nat) (c : Cl) : Gi.Fact.Mono (fun _ => Gi.Bel) ex s (ClF B c):=by
 rintro s' _ _ _ v w w' l h ⟨d,h1,h2⟩ hb;exact ⟨d,h1,h2.below hb⟩

theorem iownC_any (d : Ad) (c : Cl) (w : World) (hr : ClRow w d c.raw) (hs : Sm c) :
  Calls Tryz.prog 108 #[.agg #[.slice d.a1 d.l1 d.c1,.slice d.a2 d.l2 d.c2,.slice d.a3 d.l3 d.c3,.slice d.a4 d.l4 d.c4,.slice d.a5 d.l5 d.c5,.int .i64 c.now]] w fun e w' => ∃ d',e = .returned (.agg #[.slice d'.a1 d'.l1 d'.c1,.slice d'.a2 d'.l2 d'.c2,.slice d'.a3 d'.l3 d'.c3,.slice d'.a4 d'.l4 d'.c4,.slice d'.a5 d'.l5 d'.c5,.int .i64 c.now]) ∧ ClOwn w' d' c.raw (fun k => w.heap.size ≤ k) ∧ Below w.heap.size w w':=by
 have HR:=hidK hr;have HS:=hidK hs
 have hl1 : c.ns.length = d.l1:=by simpa using (show (c.ns.map ndF).length = d.l1 from hr.n.1)
 have hl2 : c.ks.length = d.l2:=by simpa using (show (c.ks.map kdF).length = d.l2 from hr.k.1)
 have hl3 : c.vs.length = d.l3:=by simpa using (show (c.vs.map vdF).length = d.l3 from hr.v.1)
 have hl4 : c.xs.length = d.l4:=by simpa using (show (c.xs.map xdF).length = d.l4 from hr.x.1)
 have hl5 : c.ps.length = d.l5:=by simpa using (show (c.ps.map pdF).length = d.l5 from hr.p.1)
 clear hr hs;obtain ⟨i2,hi2⟩:=Option.map_eq_some_iff.1 infokd;obtain ⟨i4,hi4⟩:=Option.map_eq_some_iff.1 infoxd;have HI2:=hidK hi2;have HI4:=hidK hi4;clear hi2 hi4;obtain ⟨W,hW0⟩ : ∃ W,W = (w.alloc (.cells #[.slice d.a1 d.l1 d.c1,.slice d.a2 d.l2 d.c2,.slice d.a3 d.l3 d.c3,.slice d.a4 d.l4 d.c4,.slice d.a5 d.l5 d.c5,.int .i64 c.now] 38)).alloc (.cells #[.slice none 0 0,.slice none 0 0,.slice none 0 0,.slice none 0 0,.slice none 0 0,.int .i64 0] 38):=⟨_,rfl⟩
 have HB : Hid (Below w.heap.size w W):=by rw [hW0];exact below2 _ _ _
 have Bk : Hid (W.heap[w.heap.size]? = some (.cells #[.slice d.a1 d.l1 d.c1,.slice d.a2 d.l2 d.c2,.slice d.a3 d.l3 d.c3,.slice d.a4 d.l4 d.c4,.slice d.a5 d.l5 d.c5,.int .i64 c.now] 38 (0,0))):=by rw [hW0];exact heap2_0 _ _ _
 have Br : Hid (W.heap[w.heap.size + 1]? = some (.cells #[.slice none 0 0,.slice none 0 0,.slice none 0 0,.slice none 0 0,.slice none 0 0,.int .i64 0] 38 (0,0))):=by rw [hW0];exact heap2_1 _ _ _
 have hWs : W.heap.size = w.heap.size + 1 + 1:=by rw [hW0];simp
 go_enter Tryz.func108,Tryz.ntmps108
 go_wp2_with fail;rw [← hW0];clear hW0;rename_i K0 hK0;refine Gi.wp_region_grow_last (ex:=fun _ => none) (Gi.Bel.rel 0) (by kernel_rfl) rfl rfl (by kernel_rfl) (by kernel_rfl) ?_;refine' Gi.Grow.stepC _ rfl ?_ ?_;rotate_left 1
 ·refine Gi.Obl.plain rfl ?_;intro ac wg K lo hi hsz hW hpr hf hap hK;clear hsz hap hpr;have e1:=hf 1 (by decide)
  simp [Gi.slotFact,List.lookup] at e1
  clear hf;go_simp;refine hK _ _ (Below.refl _ _) ?_;with_reducible rfl
 refine' Gi.Grow.stepC _ rfl ?_ ?_;rotate_left 1
 ·refine Gi.Obl.plain rfl ?_;intro ac wg K lo hi hsz hW hpr hf hap hK;clear hsz hap hpr;have e3:=hf 3 (by decide)
  simp [Gi.slotFact,List.lookup] at e3
  clear hf;obtain ⟨k0,k1,k2,k3,k4,k5⟩:=cs6 ((Below.block hW _ (lt_of_some Bk.out)).trans Bk.out);go_simp;refine hK _ _ (Below.refl _ _) ?_;with_reducible rfl
 refine Gi.Grow.step (OwnF W.heap.size d.l1 7 109 (c.ns.map ndF)) rfl (OwnF.mono _ _ _ _ _ _ _) ?_ ?_
 ·refine Gi.Obl.plain rfl ?_;intro ac wg K lo hi hsz hW hpr hf hap hK;clear hsz hpr hap;have e4:=hf 4 (by decide)
  simp [Gi.slotFact,List.lookup] at e4
  clear hf;go_simp;refine (iownednd_any d.a1 d.l1 d.c1 c.ns _ (HR.out.n.below (HB.out.trans (Below.mono hW HB.out.size))) (by have:=HS.out.n;omega) HS.out.ns).mono ?_;rintro e w6 ⟨a',c',rfl,ho,hb6⟩;exact hK _ _ hb6 ⟨a',c',rfl,ho.into (fun k hk s => ⟨s,hk⟩),Below.size hW⟩
 refine' Gi.Grow.stepC _ rfl ?_ ?_;rotate_left 1
 ·refine Gi.Obl.plain rfl ?_;intro ac wg K lo hi hsz hW hpr hf hap hK;clear hsz hap hpr;have e1:=hf 1 (by decide)
  simp [Gi.slotFact,List.lookup] at e1
  clear hf;go_simp;refine hK _ _ (Below.refl _ _) ?_;with_reducible rfl
 refine' Gi.Grow.stepC _ rfl ?_ ?_;rotate_left 1
 ·refine Gi.Obl.plain rfl ?_;intro ac wg K lo hi hsz hW hpr hf hap hK;clear hsz hap hpr;have e6:=hf 6 (by decide)
  simp [Gi.slotFact,List.lookup] at e6
  clear hf;obtain ⟨k0,k1,k2,k3,k4,k5⟩:=cs6 ((Below.block hW _ (lt_of_some Bk.out)).trans Bk.out);go_simp;refine hK _ _ (Below.refl _ _) ?_;with_reducible rfl
 refine Gi.Grow.step (OwnF W.heap.size d.l2 4 111 (c.ks.map kdF)) rfl (OwnF.mono _ _ _ _ _ _ _) ?_ ?_
 ·refine Gi.Obl.plain rfl ?_;intro ac wg K lo hi hsz hW hpr hf hap hK;clear hsz hpr hap;have e7:=hf 7 (by decide)
  simp [Gi.slotFact,List.lookup] at e7
  clear hf
  cases hq : d.a2 with
  | none =>
   have h0 : c.ks = []:=by
    rcases HR.out.k.2.2.2 with h | ⟨b,o,e,_⟩
    ·have h9 : c.ks.map kdF = []:=h
     simpa using h9
    ·rw [hq] at e;cases e
   have hl0 : d.l2 = 0:=by rw [← hl2,h0];rfl
   rw [hq,hl0] at e7;go_simp;refine hK _ _ (Below.refl _ _) ⟨none,0,by rw [hl0],?_,Below.size hW⟩;rw [hl0,h0];exact ROwn.nil _ _ _ _ _ (by omega)
  | some ad =>
   rw [hq] at e7;have hin:=HR.out.k.below (HB.out.trans (Below.mono hW HB.out.size));have hin2 : RRow wg d.a2 d.l2 d.c2 4 (c.ks.map kdF):=hin;rw [hq] at hin2
   have hz : i2.zero = some (.agg #[.string ⟨#[]⟩,.bool false,.bool false,.string ⟨#[]⟩]) ∧ i2.size = 4 ∧ i2.bytes = 40:=by have:=HI2.out.2;simp only [Prod.mk.injEq] at this;exact this
   refine wp_copy _ (.tmp 7) 33 111 rfl i2 (.agg #[.string ⟨#[]⟩,.bool false,.bool false,.string ⟨#[]⟩]) 4 40 Tryz.underlying33 HI2.out.1 hz.1 hz.2.1 hz.2.2 rfl (by decide) (by decide) wg.heap.size (.slice none 0 0) rfl (World.ownsRow_nil _ _ _ _) (Nat.le_refl _) (by simpa [Act.eval] using e7) hin2 (map_flat kd_flat _) (by have:=HS.out.k;omega) (by decide) ?_;intro a' c' w' hR hg;exact hK _ _ ((Below.refl _ _).grown hg (Nat.le_refl _) (fun k hk => by cases hk)) ⟨a',c',rfl,hR,Below.size hW⟩
 refine' Gi.Grow.stepC _ rfl ?_ ?_;rotate_left 1
 ·refine Gi.Obl.plain rfl ?_;intro ac wg K lo hi hsz hW hpr hf hap hK;clear hsz hap hpr;have e1:=hf 1 (by decide)
  simp [Gi.slotFact,List.lookup] at e1
  clear hf;go_simp;refine hK _ _ (Below.refl _ _) ?_;with_reducible rfl
 refine' Gi.Grow.stepC _ rfl ?_ ?_;rotate_left 1
 ·refine Gi.Obl.plain rfl ?_;intro ac wg K lo hi hsz hW hpr hf hap hK;clear hsz hap hpr;have e9:=hf 9 (by decide)
  simp [Gi.slotFact,List.lookup] at e9
  clear hf;obtain ⟨k0,k1,k2,k3,k4,k5⟩:=cs6 ((Below.block hW _ (lt_of_some Bk.out)).trans Bk.out);go_simp;refine hK _ _ (Below.refl _ _) ?_;with_reducible rfl
 refine Gi.Grow.step (OwnF W.heap.size d.l3 8 81 (c.vs.map vdF)) rfl (OwnF.mono _ _ _ _ _ _ _) ?_ ?_
 ·refine Gi.Obl.plain rfl ?_;intro ac wg K lo hi hsz hW hpr hf hap hK;clear hsz hpr hap;have e10:=hf 10 (by decide)
  simp [Gi.slotFact,List.lookup] at e10
  clear hf;go_simp;refine (iownedvd_any d.a3 d.l3 d.c3 c.vs _ (HR.out.v.below (HB.out.trans (Below.mono hW HB.out.size))) (by have:=HS.out.v;omega) HS.out.vs).mono ?_;rintro e w6 ⟨a',c',rfl,ho,hb6⟩;exact hK _ _ hb6 ⟨a',c',rfl,ho.into (fun k hk s => ⟨s,hk⟩),Below.size hW⟩
 refine' Gi.Grow.stepC _ rfl ?_ ?_;rotate_left 1
 ·refine Gi.Obl.plain rfl ?_;intro ac wg K lo hi hsz hW hpr hf hap hK;clear hsz hap hpr;have e1:=hf 1 (by decide)
  simp [Gi.slotFact,List.lookup] at e1
  clear hf;go_simp;refine hK _ _ (Below.refl _ _) ?_;with_reducible rfl
 refine' Gi.Grow.stepC _ rfl ?_ ?_;rotate_left 1
 ·refine Gi.Obl.plain rfl ?_;intro ac wg K lo hi hsz hW hpr hf hap hK;clear hsz hap hpr;have e12:=hf 12 (by decide)
  simp [Gi.slotFact,List.lookup] at e12
  clear hf;obtain ⟨k0,k1,k2,k3,k4,k5⟩:=cs6 ((Below.block hW _ (lt_of_some Bk.out)).trans Bk.out);go_simp;refine hK _ _ (Below.refl _ _) ?_;with_reducible rfl
 refine Gi.Grow.step (OwnF W.heap.size d.l4 5 114 (c.xs.map xdF)) rfl (OwnF.mono _ _ _ _ _ _ _) ?_ ?_
 ·refine Gi.Obl.plain rfl ?_;intro ac wg K lo hi hsz hW hpr hf hap hK;clear hsz hpr hap;have e13:=hf 13 (by decide)
  simp [Gi.slotFact,List.lookup] at e13
  clear hf
  cases hq : d.a4 with
  | none =>
   have h0 : c.xs = []:=by
    rcases HR.out.x.2.2.2 with h | ⟨b,o,e,_⟩
    ·have h9 : c.xs.map xdF = []:=h
     simpa using h9
    ·rw [hq] at e;cases e
   have hl0 : d.l4 = 0:=by rw [← hl4,h0];rfl
   rw [hq,hl0] at e13;go_simp;refine hK _ _ (Below.refl _ _) ⟨none,0,by rw [hl0],?_,Below.size hW⟩;rw [hl0,h0];exact ROwn.nil _ _ _ _ _ (by omega)
  | some ad =>
   rw [hq] at e13;have hin:=HR.out.x.below (HB.out.trans (Below.mono hW HB.out.size));have hin2 : RRow wg d.a4 d.l4 d.c4 5 (c.xs.map xdF):=hin;rw [hq] at hin2
   have hz : i4.zero = some (.agg #[.string ⟨#[]⟩,.int .i64 0,.string ⟨#[]⟩,.bool false,.string ⟨#[]⟩]) ∧ i4.size = 5 ∧ i4.bytes = 64:=by have:=HI4.out.2;simp only [Prod.mk.injEq] at this;exact this
   refine wp_copy _ (.tmp 13) 35 114 rfl i4 (.agg #[.string ⟨#[]⟩,.int .i64 0,.string ⟨#[]⟩,.bool false,.string ⟨#[]⟩]) 5 64 Tryz.underlying35 HI4.out.1 hz.1 hz.2.1 hz.2.2 rfl (by decide) (by decide) wg.heap.size (.slice none 0 0) rfl (World.ownsRow_nil _ _ _ _) (Nat.le_refl _) (by simpa [Act.eval] using e13) hin2 (map_flat xd_flat _) (by have:=HS.out.x;omega) (by decide) ?_;intro a' c' w' hR hg;exact hK _ _ ((Below.refl _ _).grown hg (Nat.le_refl _) (fun k hk => by cases hk)) ⟨a',c',rfl,hR,Below.size hW⟩
 refine' Gi.Grow.stepC _ rfl ?_ ?_;rotate_left 1
 ·refine Gi.Obl.plain rfl ?_;intro ac wg K lo hi hsz hW hpr hf hap hK;clear hsz hap hpr;have e1:=hf 1 (by decide)
  simp [Gi.slotFact,List.lookup] at e1
  clear hf;go_simp;refine hK _ _ (Below.refl _ _) ?_;with_reducible rfl
 refine' Gi.Grow.stepC _ rfl ?_ ?_;rotate_left 1
 ·refine Gi.Obl.plain rfl ?_;intro ac wg K lo hi hsz hW hpr hf hap hK;clear hsz hap hpr;have e15:=hf 15 (by decide)
  simp [Gi.slotFact,List.lookup] at e15
  clear hf;obtain ⟨k0,k1,k2,k3,k4,k5⟩:=cs6 ((Below.block hW _ (lt_of_some Bk.out)).trans Bk.out);go_simp;refine hK _ _ (Below.refl _ _) ?_;with_reducible rfl
 refine Gi.Grow.step (OwnF W.heap.size d.l5 6 107 (c.ps.map pdF)) rfl (OwnF.mono _ _ _ _ _ _ _) ?_ ?_
 ·refine Gi.Obl.plain rfl ?_;intro ac wg K lo hi hsz hW hpr hf hap hK;clear hsz hpr hap;have e16:=hf 16 (by decide)
  simp [Gi.slotFact,List.lookup] at e16
  clear hf;go_simp;refine (iownedpd_any d.a5 d.l5 d.c5 c.ps _ (HR.out.p.below (HB.out.trans (Below.mono hW HB.out.size))) (by have:=HS.out.p;omega) HS.out.ps).mono ?_;rintro e w6 ⟨a',c',rfl,ho,hb6⟩;exact hK _ _ hb6 ⟨a',c',rfl,ho.into (fun k hk s => ⟨s,hk⟩),Below.size hW⟩
 refine' Gi.Grow.stepC _ rfl ?_ ?_;rotate_left 1
 ·refine Gi.Obl.plain rfl ?_;intro ac wg K lo hi hsz hW hpr hf hap hK;clear hsz hap hpr;have e1:=hf 1 (by decide)
  simp [Gi.slotFact,List.lookup] at e1
  clear hf;go_simp;refine hK _ _ (Below.refl _ _) ?_;with_reducible rfl
 refine' Gi.Grow.stepC _ rfl ?_ ?_;rotate_left 1
 ·refine Gi.Obl.plain rfl ?_;intro ac wg K lo hi hsz hW hpr hf hap hK;clear hsz hap hpr;have e18:=hf 18 (by decide)
  simp [Gi.slotFact,List.lookup] at e18
  clear hf;obtain ⟨k0,k1,k2,k3,k4,k5⟩:=cs6 ((Below.block hW _ (lt_of_some Bk.out)).trans Bk.out);go_simp;refine hK _ _ (Below.refl _ _) ?_;with_reducible rfl
 refine Gi.Grow.step (ClF W.heap.size c) rfl (ClF.mono _ _ _ _) ?_ ?_
 ·refine Gi.Obl.plain rfl ?_;intro ac wg K lo hi hsz hW hpr hf hap hK;clear hsz hpr;have e5:=hf 5 (by decide)
  simp [Gi.slotFact,List.lookup] at e5
  have e8:=hf 8 (by decide)
  simp [Gi.slotFact,List.lookup] at e8
  have e11:=hf 11 (by decide)
  simp [Gi.slotFact,List.lookup] at e11
  have e14:=hf 14 (by decide)
  simp [Gi.slotFact,List.lookup] at e14
  have e17:=hf 17 (by decide)
  simp [Gi.slotFact,List.lookup] at e17
  have e19:=hf 19 (by decide)
  simp [Gi.slotFact,List.lookup] at e19
  clear hf;obtain ⟨a1,c1,e5,ho1,hB1⟩:=e5;obtain ⟨a2,c2,e8,ho2,hB2⟩:=e8;obtain ⟨a3,c3,e11,ho3,hB3⟩:=e11;obtain ⟨a4,c4,e14,ho4,hB4⟩:=e14;obtain ⟨a5,c5,e17,ho5,hB5⟩:=e17
  have hap2 : ∀ t ∈ [5,8,11,14,17],∀ t' ∈ [5,8,11,14,17],¬ t = t' → hi t ≤ lo t' ∨ hi t' ≤ lo t:=by
   intro t ht t' ht' hne;refine hap t ?_ t' ?_ ?_ ?_ hne
   ·simp only [List.mem_cons,List.not_mem_nil,or_false] at ht;rcases ht with rfl | rfl | rfl | rfl | rfl <;> decide
   ·simp only [List.mem_cons,List.not_mem_nil,or_false] at ht';rcases ht' with rfl | rfl | rfl | rfl | rfl <;> decide
   ·simp only [List.mem_cons,List.not_mem_nil,or_false] at ht;rcases ht with rfl | rfl | rfl | rfl | rfl <;> rfl
   ·simp only [List.mem_cons,List.not_mem_nil,or_false] at ht';rcases ht' with rfl | rfl | rfl | rfl | rfl <;> rfl
  clear hap;have q01:=hap2 5 (by decide) 8 (by decide) (by decide);have q02:=hap2 5 (by decide) 11 (by decide) (by decide);have q03:=hap2 5 (by decide) 14 (by decide) (by decide);have q04:=hap2 5 (by decide) 17 (by decide) (by decide);have q12:=hap2 8 (by decide) 11 (by decide) (by decide);have q13:=hap2 8 (by decide) 14 (by decide) (by decide);have q14:=hap2 8 (by decide) 17 (by decide) (by decide);have q23:=hap2 11 (by decide) 14 (by decide) (by decide);have q24:=hap2 11 (by decide) 17 (by decide) (by decide);have q34:=hap2 14 (by decide) 17 (by decide) (by decide);clear hap2
  have hC : ClOwn wg ⟨a1,d.l1,c1,a2,d.l2,c2,a3,d.l3,c3,a4,d.l4,c4,a5,d.l5,c5⟩ c.raw (fun k => W.heap.size ≤ k):=by
   refine ⟨fun k => if lo 5 ≤ k ∧ k < hi 5 then 1 else if lo 8 ≤ k ∧ k < hi 8 then 2 else if lo 11 ≤ k ∧ k < hi 11 then 3 else if lo 14 ≤ k ∧ k < hi 14 then 4 else 5,?_,?_,?_,?_,?_⟩
   ·exact ho1.into (fun k _ s => ⟨by have s1 : lo 5 ≤ k:=s.1;show W.heap.size ≤ k;omega,by have s1 : lo 5 ≤ k:=s.1;have s2 : k < hi 5:=s.2;show (if lo 5 ≤ k ∧ k < hi 5 then 1 else if lo 8 ≤ k ∧ k < hi 8 then 2 else if lo 11 ≤ k ∧ k < hi 11 then 3 else if lo 14 ≤ k ∧ k < hi 14 then 4 else 5) = 1;rw [if_pos ⟨s1,s2⟩]⟩)
   ·exact ho2.into (fun k _ s => ⟨by have s1 : lo 8 ≤ k:=s.1;show W.heap.size ≤ k;omega,by have s1 : lo 8 ≤ k:=s.1;have s2 : k < hi 8:=s.2;show (if lo 5 ≤ k ∧ k < hi 5 then 1 else if lo 8 ≤ k ∧ k < hi 8 then 2 else if lo 11 ≤ k ∧ k < hi 11 then 3 else if lo 14 ≤ k ∧ k < hi 14 then 4 else 5) = 2;rw [if_neg (by omega)];rw [if_pos ⟨s1,s2⟩]⟩)
   ·exact ho3.into (fun k _ s => ⟨by have s1 : lo 11 ≤ k:=s.1;show W.heap.size ≤ k;omega,by have s1 : lo 11 ≤ k:=s.1;have s2 : k < hi 11:=s.2;show (if lo 5 ≤ k ∧ k < hi 5 then 1 else if lo 8 ≤ k ∧ k < hi 8 then 2 else if lo 11 ≤ k ∧ k < hi 11 then 3 else if lo 14 ≤ k ∧ k < hi 14 then 4 else 5) = 3;rw [if_neg (by omega)];rw [if_neg (by omega)];rw [if_pos ⟨s1,s2⟩]⟩)
   ·exact ho4.into (fun k _ s => ⟨by have s1 : lo 14 ≤ k:=s.1;show W.heap.size ≤ k;omega,by have s1 : lo 14 ≤ k:=s.1;have s2 : k < hi 14:=s.2;show (if lo 5 ≤ k ∧ k < hi 5 then 1 else if lo 8 ≤ k ∧ k < hi 8 then 2 else if lo 11 ≤ k ∧ k < hi 11 then 3 else if lo 14 ≤ k ∧ k < hi 14 then 4 else 5) = 4;rw [if_neg (by omega)];rw [if_neg (by omega)];rw [if_neg (by omega)];rw [if_pos ⟨s1,s2⟩]⟩)
   ·exact ho5.into (fun k _ s => ⟨by have s1 : lo 17 ≤ k:=s.1;show W.heap.size ≤ k;omega,by have s1 : lo 17 ≤ k:=s.1;have s2 : k < hi 17:=s.2;show (if lo 5 ≤ k ∧ k < hi 5 then 1 else if lo 8 ≤ k ∧ k < hi 8 then 2 else if lo 11 ≤ k ∧ k < hi 11 then 3 else if lo 14 ≤ k ∧ k < hi 14 then 4 else 5) = 5;rw [if_neg (by omega)];rw [if_neg (by omega)];rw [if_neg (by omega)];rw [if_neg (by omega)]⟩)
  have HC:=hidK hC;clear hC ho1 ho2 ho3 ho4 ho5 q01 q02 q03 q04 q12 q13 q14 q23 q24 q34 hB1 hB2 hB3 hB4 hB5;go_simp;exact hK _ _ (Below.refl _ _) ⟨_,rfl,HC.out⟩
 refine Gi.Grow.done ?_;intro q wz lo hi hW hf hap;clear hap;simp only [List.forall_mem_cons] at hf;obtain ⟨hf20,-⟩:=hf;obtain ⟨d',h20,ho⟩:=hf20 (by first | trivial | rfl);have HO:=hidK ho;have HBz:=hidK (HB.out.trans (Below.mono hW HB.out.size));have gr:=(Below.block hW _ (lt_of_some Br.out)).trans Br.out;have hws:=Below.size hW;obtain ⟨r0,r1,r2,r3,r4,r5⟩:=cs6 gr;have f0:=froK gr 0;have f1:=froK gr 1;have f2:=froK gr 2;have f3:=froK gr 3;have f4:=froK gr 4;have f5:=froK gr 5;clear gr ho hW;intro K hK;rw [if_pos (by rfl)];simp only [Gi.putsAll,List.foldr,Act.put,List.setIfInBounds_toArray,List.set_cons_zero,List.set_cons_succ,h20];simp only [List.getLast];go_simp;refine hK _ _ ?_;refine hK0 _ _ ?_;clear hK hK0 K K0;go_wp2_with fail;refine bodyPost_ret (v:=.agg #[.slice d'.a1 d'.l1 d'.c1,.slice d'.a2 d'.l2 d'.c2,.slice d'.a3 d'.l3 d'.c3,.slice d'.a4 d'.l4 d'.c4,.slice d'.a5 d'.l5 d'.c5,.int .i64 c.now]) (by simp [results,Tryz.results108,go_sem, *]) rfl ⟨d',rfl,?_,set_below (show w.heap.size ≤ w.heap.size + 1 by omega) (set_below (show w.heap.size ≤ w.heap.size + 1 by omega) (set_below (show w.heap.size ≤ w.heap.size + 1 by omega) (set_below (show w.heap.size ≤ w.heap.size + 1 by omega) (set_below (show w.heap.size ≤ w.heap.size + 1 by omega) (set_below (show w.heap.size ≤ w.heap.size + 1 by omega) (HBz.out))))))⟩;obtain ⟨P,hP⟩:=HO.out;exact ⟨P,hP.keep (fun k _ s => by have s1 : W.heap.size ≤ k:=s;rw [Below.heap_setCell _ _ _ _ (show k ≠ w.heap.size + 1 by omega),Below.heap_setCell _ _ _ _ (show k ≠ w.heap.size + 1 by omega),Below.heap_setCell _ _ _ _ (show k ≠ w.heap.size + 1 by omega),Below.heap_setCell _ _ _ _ (show k ≠ w.heap.size + 1 by omega),Below.heap_setCell _ _ _ _ (show k ≠ w.heap.size + 1 by omega),Below.heap_setCell _ _ _ _ (show k ≠ w.heap.size + 1 by omega)]) (fun k _ s => by have s1 : W.heap.size ≤ k:=s;show w.heap.size ≤ k;omega)⟩

structure Co where
 c : Cl
 n : ByteArray
 p : Int
def cl0 : Cl:=⟨[],[],[],[],[],0⟩
def co0 (p : Int) : Co:=⟨cl0,⟨#[]⟩,p⟩
def ad0 : Ad:=⟨none,0,0,none,0,0,none,0,0,none,0,0,none,0,0⟩
theorem own0 (w : World) (S : Nat → Prop) : ClOwn w ad0 cl0.raw S:=⟨fun _ => 1,ROwn.nil _ _ _ _ _ (by decide),ROwn.nil _ _ _ _ _ (by decide),ROwn.nil _ _ _ _ _ (by decide),ROwn.nil _ _ _ _ _ (by decide),ROwn.nil _ _ _ _ _ (by decide)⟩
def OutI (Is : Co → Prop) (w : World) (e : Ending) (w' : World) : Prop:=∃ g o,e = .returned (.agg #[.slice g.a1 g.l1 g.c1,.slice g.a2 g.l2 g.c2,.slice g.a3 g.l3 g.c3,.slice g.a4 g.l4 g.c4,.slice g.a5 g.l5 g.c5,.int .i64 o.c.now,.string o.n,.int .i64 o.p]) ∧ Is o ∧ ClOwn w' g o.c.raw (fun k => w.heap.size ≤ k) ∧ Below w.heap.size w w'
def OutS (Is : Co → Prop) (w : World) (e : Ending) (w' : World) : Prop:=∃ g o,e = .returned (.agg #[.slice g.a1 g.l1 g.c1,.slice g.a2 g.l2 g.c2,.slice g.a3 g.l3 g.c3,.slice g.a4 g.l4 g.c4,.slice g.a5 g.l5 g.c5,.int .i64 o.c.now,.string o.n,.int .i64 o.p]) ∧ Is o ∧ ClRow w' g o.c.raw ∧ Below w.heap.size w w'

theorem eqCout_any (g g' : Ad) (o : Co) (w : World) (hr : ClRow w g o.c.raw) (hr' : ClRow w g' o.c.raw) :
  Calls Tryz.prog 19 #[.agg #[.slice g.a1 g.l1 g.c1,.slice g.a2 g.l2 g.c2,.slice g.a3 g.l3 g.c3,.slice g.a4 g.l4 g.c4,.slice g.a5 g.l5 g.c5,.int .i64 o.c.now,.string o.n,.int .i64 o.p],.agg #[.slice g'.a1 g'.l1 g'.c1,.slice g'.a2 g'.l2 g'.c2,.slice g'.a3 g'.l3 g'.c3,.slice g'.a4 g'.l4 g'.c4,.slice g'.a5 g'.l5 g'.c5,.int .i64 o.c.now,.string o.n,.int .i64 o.p]] w fun e w' => e = .returned (.bool true) ∧ Below w.heap.size w w':=by
 have HR:=hidK hr;have HR':=hidK hr';have HB:=hidK (Below.refl w.heap.size w);clear hr hr'
 go_enter Tryz.func19,Tryz.ntmps19
 go_wp2_with fail;refine (eqCluster_any g g' o.c _ (HR.out.below (HB.out.trans ((below2 _ _ _).mono HB.out.size))) (HR'.out.below (HB.out.trans ((below2 _ _ _).mono HB.out.size)))).mono ?_;rintro e w1 ⟨rfl,hb⟩;obtain ⟨HA0,HA1,hbx⟩:=slots2 hb;have Ba:=hidK HA0;have Bb:=hidK HA1;replace HB:=upB HB hbx;clear hb hbx HA0 HA1;obtain ⟨a0,a1,a2,a3,a4,a5,a6,a7⟩:=cs8 Ba.out;have lta_1:=lt_of_some Ba.out;obtain ⟨b0,b1,b2,b3,b4,b5,b6,b7⟩:=cs8 Bb.out;have ltb_1:=lt_of_some Bb.out
 go_wp2
 go_ret;exact ⟨rfl,HB.out⟩

theorem markCout_any (g : Ad) (o : Co) (N : Int) (S : Nat → Prop) (w : World) (ho : ClOwn w g o.c.raw S) (hS : ∀ k,S k → k < w.heap.size) (hN : 0 < N) (hb : mkCn N o.c.raw ≤ 1152921504606846976) :
  Calls Tryz.prog 20 #[.agg #[.slice g.a1 g.l1 g.c1,.slice g.a2 g.l2 g.c2,.slice g.a3 g.l3 g.c3,.slice g.a4 g.l4 g.c4,.slice g.a5 g.l5 g.c5,.int .i64 o.c.now,.string o.n,.int .i64 o.p],.int .i64 N] w fun e w' => e = .returned (.int .i64 (mkCn N o.c.raw)) ∧ ClOwn w' g (mkC N o.c.raw) S ∧ KeptS S w w':=by
 have HO:=hidK (ho.below (below1 w (.cells #[.slice g.a1 g.l1 g.c1,.slice g.a2 g.l2 g.c2,.slice g.a3 g.l3 g.c3,.slice g.a4 g.l4 g.c4,.slice g.a5 g.l5 g.c5,.int .i64 o.c.now,.string o.n,.int .i64 o.p] 46)));have HS:=hidK hS;clear ho hS
 go_enter Tryz.func20,Tryz.ntmps20
 go_wp2_with fail;refine (markCluster_any g o.c N S _ HO.out (fun k s => by have:=HS.out k s;simp;omega) hN hb).mono ?_;rintro e w1 ⟨rfl,ho,hk⟩;have HO1:=hidK ho;have HK:=hidK ((KeptS.of_below (S:=S) (below1 w (.cells #[.slice g.a1 g.l1 g.c1,.slice g.a2 g.l2 g.c2,.slice g.a3 g.l3 g.c3,.slice g.a4 g.l4 g.c4,.slice g.a5 g.l5 g.c5,.int .i64 o.c.now,.string o.n,.int .i64 o.p] 46))).trans hk);clear ho hk
 go_wp2
 go_ret;exact ⟨rfl,HO1.out,HK.out⟩

theorem heldCout_any (g : Ad) (o : Co) (N : Int) (w : World) (hr : ClRow w g (mkC N o.c.raw)) (hN : 0 < N) (hb : mkCn N o.c.raw ≤ 1152921504606846976) :
  Calls Tryz.prog 21 #[.agg #[.slice g.a1 g.l1 g.c1,.slice g.a2 g.l2 g.c2,.slice g.a3 g.l3 g.c3,.slice g.a4 g.l4 g.c4,.slice g.a5 g.l5 g.c5,.int .i64 o.c.now,.string o.n,.int .i64 o.p],.int .i64 N] w fun e w' => e = .returned (.int .i64 (mkCn N o.c.raw)) ∧ Below w.heap.size w w':=by
 have HR:=hidK (hr.below (below1 w (.cells #[.slice g.a1 g.l1 g.c1,.slice g.a2 g.l2 g.c2,.slice g.a3 g.l3 g.c3,.slice g.a4 g.l4 g.c4,.slice g.a5 g.l5 g.c5,.int .i64 o.c.now,.string o.n,.int .i64 o.p] 46)));clear hr;obtain ⟨M,hM⟩ : ∃ M,M = mkCn N o.c.raw:=⟨_,rfl⟩
 have hM0 : ¬ M < 0:=by rw [hM];have:=mkCn_ge N o.c.raw;omega
 have HM:=hidK hM;clear hM
 go_enter Tryz.func21,Tryz.ntmps21
 go_wp2_with fail;refine (heldCluster_any g o.c o.c.now N _ HR.out hN hb).mono ?_;rintro e w1 ⟨rfl,hb1⟩;rw [← HM.out];have HB:=hidK (slots1 hb1).2;clear hb1
 go_wp2
 go_ret;exact ⟨by rw [← HM.out];rfl,HB.out⟩

def wo {α : Type} (nm : α → ByteArray) (t : ByteArray) (xs : List α) : List α:=xs.filter fun x => !((nm x).toList == t.toList)
theorem wo_yes {α : Type} {nm : α → ByteArray} {t : ByteArray} {xs : List α} {k : Nat} {x : α} (h : xs[k]? = some x) (hn : ((nm x).toList == t.toList) = false) : wo nm t (xs.take (k + 1)) = wo nm t (xs.take k) ++ [x]:=by
 unfold wo;rw [List.take_add_one,h,List.filter_append]
 simp [hn]
theorem wo_no {α : Type} {nm : α → ByteArray} {t : ByteArray} {xs : List α} {k : Nat} {x : α} (h : xs[k]? = some x) (hn : ((nm x).toList == t.toList) = true) : wo nm t (xs.take (k + 1)) = wo nm t (xs.take k):=by
 unfold wo;rw [List.take_add_one,h,List.filter_append]
 simp [hn]
theorem wo_le {α : Type} (nm : α → ByteArray) (t : ByteArray) (xs : List α) : (wo nm t xs).length ≤ xs.length:=List.length_filter_le _ _
structure Sel {α β : Type} (xs ys : List α) (vss ws : List β) (k : Nat) (f : Nat → Nat) : Prop where
 len : ws.length = ys.length
 y : ∀ j,j < ys.length → ys[j]? = xs[f j]?
 v : ∀ j,j < ys.length → ws[j]? = vss[f j]?
 lt : ∀ j,j < ys.length → f j < k
 inj : ∀ i j,i < ys.length → j < ys.length → f i = f j → i = j
theorem Sel.nil {α β : Type} (xs : List α) (vss : List β) (k : Nat) (f : Nat → Nat) : Sel xs [] vss [] k f:=⟨rfl,fun j h => by simp at h,fun j h => by simp at h,fun j h => by simp at h,fun i j h => by simp at h⟩
theorem Sel.up {α β : Type} {xs ys : List α} {vss ws : List β} {k : Nat} {f : Nat → Nat} (h : Sel xs ys vss ws k f) : Sel xs ys vss ws (k + 1) f:=⟨h.len,h.y,h.v,fun j hj => Nat.lt_succ_of_lt (h.lt j hj),h.inj⟩
theorem Sel.push {α β : Type} {xs ys : List α} {vss ws : List β} {k : Nat} {f : Nat → Nat} (h : Sel xs ys vss ws k f) {x : α} {u : β} (hx : xs[k]? = some x) (hu : vss[k]? = some u) : Sel xs (ys ++ [x]) vss (ws ++ [u]) (k + 1) (fun j => if j = ys.length then k else f j):=by
 have hl:=h.len;refine ⟨by simp [hl],fun j hj => ?_,fun j hj => ?_,fun j hj => ?_,fun i j hi hj e => ?_⟩
 ·by_cases e : j = ys.length
  ·subst e;simp [hx]
  ·have hj' : j < ys.length:=by simp at hj;omega
   rw [List.getElem?_append_left hj',if_neg e];exact h.y j hj'
 ·by_cases e : j = ys.length
  ·subst e;rw [if_pos rfl,hu,List.getElem?_append_right (by omega),hl,Nat.sub_self]
   rfl
  ·have hj' : j < ys.length:=by simp at hj;omega
   rw [List.getElem?_append_left (by omega),if_neg e];exact h.v j hj'
 ·by_cases e : j = ys.length
  ·simp only [if_pos e];omega
  ·have hj' : j < ys.length:=by simp at hj;omega
   simp only [if_neg e];have:=h.lt j hj'
   omega
 ·by_cases e1 : i = ys.length <;> by_cases e2 : j = ys.length
  ·omega
  ·have hj' : j < ys.length:=by simp at hj;omega
   simp only [if_pos e1,if_neg e2] at e;have:=h.lt j hj'
   omega
  ·have hi' : i < ys.length:=by simp at hi;omega
   simp only [if_pos e2,if_neg e1] at e;have:=h.lt i hi'
   omega
  ·simp only [if_neg e1,if_neg e2] at e;exact h.inj i j (by simp at hi;omega) (by simp at hj;omega) e
theorem Sel.recs {w : World} {S : Nat → Prop} {m k : Nat} {α : Type} {F : α → List Fv} {xs ys : List α} {vss ws : List (List Value)} {H : Nat → Nat → Nat} {f : Nat → Nat} (h : Sel xs ys vss ws k f) (hv : VRecs w S m (xs.map F) vss H) : VRecs w S m (ys.map F) ws (fun j => H (f j)) :=
 hv.sel f (by rw [h.len,List.length_map]) (fun j hj => by rw [List.length_map] at hj;rw [List.getElem?_map,List.getElem?_map,h.y j hj]) (fun j hj => by rw [List.length_map] at hj;exact h.v j hj) (fun i j hi hj e => h.inj i j (by simpa using hi) (by simpa using hj) e)
theorem vals_eq8 {vs : List Value} {a0 a1 a2 a3 a4 a5 a6 a7 : Value} (hl : vs.length = 8) (h0 : vs[0]? = some a0) (h1 : vs[1]? = some a1) (h2 : vs[2]? = some a2) (h3 : vs[3]? = some a3) (h4 : vs[4]? = some a4) (h5 : vs[5]? = some a5) (h6 : vs[6]? = some a6) (h7 : vs[7]? = some a7) : vs = [a0,a1,a2,a3,a4,a5,a6,a7]:=by
 apply List.ext_getElem?
 intro i
 rcases i with _ | _ | _ | _ | _ | _ | _ | _ | i
 ·exact h0
 ·exact h1
 ·exact h2
 ·exact h3
 ·exact h4
 ·exact h5
 ·exact h6
 ·exact h7
 ·rw [List.getElem?_eq_none (by omega),List.getElem?_eq_none (by simp)]
theorem recs_at {w : World} {S : Nat → Prop} {m g : Nat} {rs : List (List Fv)} {vss : List (List Value)} {H : Nat → Nat → Nat} (hV : VRecs w S m rs vss H) (hc : ∀ (k : Nat) u,vss.flatten[k]? = some u → w.cell? ⟨g,k,none⟩ = some u) {k : Nat} {vs : List Value} (hk : vss[k]? = some vs) {i : Nat} {u : Value} (hi : i < m) (hu : w.cell? ⟨g,k * m + i,none⟩ = some u) : vs[i]? = some u:=by
 have hl:=hV.all k vs hk;have h1 : vs[i]? = some (vs[i]'(by omega)):=List.getElem?_eq_getElem _;have h2:=hc _ _ (flat_at hV.all hk h1);rw [hu] at h2;rw [h1];exact h2.symm

theorem iwovd_any (a : Option Addr) (len cap : Nat) (xs : List Vd) (t : ByteArray) (Q : Nat → Prop) (w : World) (ho : ROwn w a len cap 8 81 (xs.map vdF) Q) (hl : len ≤ 8) :
  Calls Tryz.prog 109 #[.slice a len cap,.string t] w fun e w' => ∃ a' l' c',e = .returned (.slice a' l' c') ∧ ROwn w' a' l' c' 8 81 ((wo Vd.n t xs).map vdF) (fun k => Q k ∨ w.heap.size ≤ k) ∧ Below w.heap.size w w':=by
 have HR:=hidK ho.row
 have hxl : xs.length = len:=by simpa using ho.1
 obtain ⟨vss,H,hV,hcell⟩:=ho.recs;have HV:=hidK hV;have HC:=hidK hcell
 have hvl : vss.length = xs.length:=by rw [hV.len,List.length_map]
 clear ho hV hcell;obtain ⟨i0,hi,hz0,hz1,hz2⟩:=info_parts infovd;have HI0:=hidK (And.intro hi (And.intro hz0 (And.intro hz1 hz2)));clear hi hz0 hz1 hz2
 have hmcalled : ∀ (v : Value) (w : World),(method 364 81 v "loop.example/g00571/impl.called").run Tryz.prog w = .ok (214,v) w:=fun _ _ => by kernel_rfl
 go_enter Tryz.func109,Tryz.ntmps109
 go_wp2
 go_loopw [5,10] (fun vo vi wr => ∃ (k : Nat) (ws : List (List Value)) (f : Nat → Nat),k ≤ len ∧ vi = .int .i64 k ∧ Hid (wr.ownsRow w.heap.size 81 8 vo (wo Vd.n t (xs.take k)).length ws.flatten) ∧ Hid (Sel xs (wo Vd.n t (xs.take k)) vss ws k f) ∧ Hid (Below w.heap.size w wr)) (fun _ vi _ => len - (intOf vi).toNat)
 case atStart => exact ⟨0,[],fun _ => 0,by omega,rfl,World.ownsRow_nil _ _ _ _,Sel.nil _ _ _ _,Below.refl _ _⟩
 case round =>
  obtain ⟨k,ws,f,hk,rfl,HO,HF,HB⟩:=hrel;have hBs:=HB.out.size
  by_cases hlt : k < len
  ·obtain ⟨b,o,x,rfl,hb,hx,hat⟩:=vd_at HR.out hlt;obtain ⟨va,vl,vc,hvr,z0,z2,z3,z5,c0,c1,c2,c3,c4,c5,c6,c7⟩:=vd_cells hat
   have hvk : vss[k]? = some [.string x.n,.int .i64 x.c,.string x.z,.string x.k,.bool x.x,.string x.m,.bool x.y,.slice va vl vc]:=by
    have hkv : k < vss.length:=by omega
    have h1:=List.getElem?_eq_getElem hkv
    have hoz : o = 0:=by
     have h2 : 0 < (vss[k]).length:=by rw [HV.out.all k _ h1];decide
     obtain ⟨g,e,_,_⟩:=HC.out _ _ (flat_at HV.out.all h1 (List.getElem?_eq_getElem h2))
     cases e
     rfl
    subst hoz
    have hc2 : ∀ (j : Nat) u,vss.flatten[j]? = some u → w.cell? ⟨b,j,none⟩ = some u:=fun j u hj => by
     obtain ⟨g,e,_,h3⟩:=HC.out j u hj
     cases e
     exact h3
    rw [h1];refine congrArg some (vals_eq8 (HV.out.all k _ h1) (recs_at HV.out hc2 h1 (by decide) (by simpa using c0)) (recs_at HV.out hc2 h1 (by decide) (by simpa using c1)) (recs_at HV.out hc2 h1 (by decide) (by simpa using c2)) (recs_at HV.out hc2 h1 (by decide) (by simpa using c3)) (recs_at HV.out hc2 h1 (by decide) (by simpa using c4)) (recs_at HV.out hc2 h1 (by decide) (by simpa using c5)) (recs_at HV.out hc2 h1 (by decide) (by simpa using c6)) (recs_at HV.out hc2 h1 (by decide) (by simpa using c7)))
   have HX:=hidK hx;have HVK:=hidK hvk;replace c0:=(cell_below HB.out hb).trans c0;replace c1:=(cell_below HB.out hb).trans c1;replace c2:=(cell_below HB.out hb).trans c2;replace c3:=(cell_below HB.out hb).trans c3;replace c4:=(cell_below HB.out hb).trans c4;replace c5:=(cell_below HB.out hb).trans c5;replace c6:=(cell_below HB.out hb).trans c6;replace c7:=(cell_below HB.out hb).trans c7;have hbr : b < wr.heap.size:=Nat.lt_of_lt_of_le hb hBs;clear hat hx hvk hvr z0 z2 z3 z5;have hn8:=wo_le Vd.n t (xs.take k)
   have hn9 : (wo Vd.n t (xs.take k)).length ≤ k:=by rw [List.length_take] at hn8;omega
   go_wp2_with fail;refine (calledvd_any x va vl vc _).mono ?_;rintro e w1 ⟨rfl,hb1⟩;obtain ⟨hn1,hbx⟩:=slots1 hb1;obtain ⟨n0,n1,n2,n3,n4,n5,n6,n7⟩:=cs8 hn1;have hs1:=lt_of_some hn1;have HO1:=hidK (owns_below HO.out hbx);have HB1:=hidK (HB.out.trans (hbx.mono hBs));clear hb1 hbx hn1 c0 c1 c2 c3 c4 c5 c6 c7
   cases hq : (x.n.toList == t.toList)
   ·have hq2 : (x.n.toList != t.toList) = true:=by simp [bne,hq]
    go_wp2_with (first | (at_builtin;refine wpList_append_own _ rfl _ _ 134 rfl w.heap.size 81 i0 (.agg #[.string ⟨#[]⟩,.int .i64 0,.string ⟨#[]⟩,.string ⟨#[]⟩,.bool false,.string ⟨#[]⟩,.bool false,.slice none 0 0]) 8 112 Tryz.underlying134 HI0.out.1 HI0.out.2.1 HI0.out.2.2.1 HI0.out.2.2.2 rfl (by decide) _ _ _ rfl (HO1.out.alloc _) ⟨w1.heap.size,0,none⟩ 1 1 [.string x.n,.int .i64 x.c,.string x.z,.string x.k,.bool x.x,.string x.m,.bool x.y,.slice va vl vc] rfl rfl ?c1 ?c2 ?c3 ?c4 ?c5 ?_))
    case c1 => exact news_alloc _ _ _
    case c2 => intro u hu;simp only [List.mem_cons,List.not_mem_nil,or_false] at hu;rcases hu with rfl | rfl | rfl | rfl | rfl | rfl | rfl | rfl <;> rfl
    case c3 => unfold maxLen;omega
    case c4 => omega
    case c5 => simp;omega
    rintro v' w3 hown3 hgrow -
    have HO3 : Hid (w3.ownsRow w.heap.size 81 8 v' (wo Vd.n t (xs.take (k + 1))).length (ws ++ ([[.string x.n,.int .i64 x.c,.string x.z,.string x.k,.bool x.x,.string x.m,.bool x.y,.slice va vl vc]] : List (List Value))).flatten):=by
     show World.ownsRow _ _ _ _ _ _ _
     rw [wo_yes HX.out hq,List.length_append,List.flatten_append]
     simpa using hown3
    have hF:=HF.out.push HX.out HVK.out;rw [← wo_yes HX.out hq] at hF;have HF3:=hidK hF;have HB3:=hidK ((HB1.out.trans ((below1 _ _).mono HB1.out.size)).grown hgrow (by simp;omega) (fun g hg => (HO1.out.lt g hg).1));clear hown3 hgrow hF
    go_wp2
    exact ⟨⟨k + 1,_,_,by omega,by go_num,HO3,HF3,HB3⟩,by simp [intOf];omega⟩
   ·have hq2 : (x.n.toList != t.toList) = false:=by simp [bne,hq]
    have HF3:=hidK HF.out.up;rw [← wo_no HX.out hq] at HF3 HO1
    go_wp2
    exact ⟨⟨k + 1,ws,f,by omega,by go_num,HO1,HF3,HB1⟩,by simp [intOf];omega⟩
  ·obtain rfl : len = k:=by omega
   have h5:=HF.out;have HO5:=HO;rw [List.take_of_length_le (by omega)] at h5 HO5;have h6:=(h5.recs (HV.out.below HB.out)).keep (w':=wr) (S':=fun k => Q k ∨ w.heap.size ≤ k) (fun _ _ _ _ => rfl) (fun _ _ s => .inl s);obtain ⟨a',c',e,hR⟩:=h6.own HO5.out (by simp) (by decide) (fun g hg => .inr (HO5.out.lt g hg).1);subst e;have HR5:=hidK hR;clear h5 h6 hR HF HO HO5
   go_wp2
   go_ret;exact ⟨a',_,c',rfl,by simpa using HR5.out,HB.out⟩

theorem ClOwnP.put3 {w2 w3 w4 : World} {d : Ad} {c : Cr} {B : Nat} {P : Nat → Nat} (h : ClOwnP w2 d c (fun k => B ≤ k) P) (hB : B ≤ w2.heap.size) {a : Option Addr} {l cp : Nat} {rs : List (List Fv)} (hN : ROwn w3 a l cp 8 81 rs (fun k => ((B ≤ k ∧ P k = 3) ∧ k < w2.heap.size) ∨ w2.heap.size + 1 ≤ k)) (hb : Below w2.heap.size w2 w3) (hk : ∀ k,B ≤ k → ¬ k = w2.heap.size → w4.heap[k]? = w3.heap[k]?) : ClOwn w4 ⟨d.a1,d.l1,d.c1,d.a2,d.l2,d.c2,a,l,cp,d.a4,d.l4,d.c4,d.a5,d.l5,d.c5⟩ ⟨c.n,c.k,rs,c.x,c.p⟩ (fun k => B ≤ k):=by
 refine ⟨fun k => if w2.heap.size + 1 ≤ k then 3 else P k,?_,?_,?_,?_,?_⟩
 ·exact h.n.keep (fun k hl s => (hk k s.1 (by omega)).trans (hb.block k hl)) (fun k hl s => ⟨s.1,by show (if w2.heap.size + 1 ≤ k then 3 else P k) = 1;rw [if_neg (by omega)];exact s.2⟩)
 ·exact h.k.keep (fun k hl s => (hk k s.1 (by omega)).trans (hb.block k hl)) (fun k hl s => ⟨s.1,by show (if w2.heap.size + 1 ≤ k then 3 else P k) = 2;rw [if_neg (by omega)];exact s.2⟩)
 ·refine hN.keep (fun k _ s => hk k (by rcases s with s | s;exact s.1.1;omega) (by rcases s with s | s <;> omega)) (fun k _ s => ?_)
  rcases s with s | s
  ·exact ⟨s.1.1,by show (if w2.heap.size + 1 ≤ k then 3 else P k) = 3;rw [if_neg (by omega)];exact s.1.2⟩
  ·exact ⟨by show B ≤ k;omega,if_pos s⟩
 ·exact h.x.keep (fun k hl s => (hk k s.1 (by omega)).trans (hb.block k hl)) (fun k hl s => ⟨s.1,by show (if w2.heap.size + 1 ≤ k then 3 else P k) = 4;rw [if_neg (by omega)];exact s.2⟩)
 ·exact h.p.keep (fun k hl s => (hk k s.1 (by omega)).trans (hb.block k hl)) (fun k hl s => ⟨s.1,by show (if w2.heap.size + 1 ≤ k then 3 else P k) = 5;rw [if_neg (by omega)];exact s.2⟩)
theorem co0_marks (p : Int) : mkCn 1 (co0 p).c.raw ≤ 1152921504606846976:=by simp [co0,cl0,Cl.raw,mkCn,mkNs]

theorem run_append_types (w : World) (t t' ty e e' : TypeId) (i : TypeInfo) (ht : Tryz.prog.underlying t = some (.slice e)) (ht' : Tryz.prog.underlying t' = some (.slice e')) (hi : Tryz.prog.info? e = some i) (a : Option Addr) (l c : Nat) (b : Value) : (Builtin.append_ #[t,t'] ty #[.slice a l c,b]).run Tryz.prog w = (Builtin.append_ #[t,t] ty #[.slice a l c,b]).run Tryz.prog w:=by
 simp [Builtin.append_,run_underlying ht,run_underlying ht',sizeOf,typeInfo,hi]
theorem wpList_append_two {w : World} {ops : Array Oper} {rest : List Oper} {o : Oper} {a : Act} {Q : Exit → Act → World → Prop} (hgd : o.guard = none) (s x : Operand) (t t' : TypeId)
  (ho : o.op = .call { callee:=.builtin .append,args:=#[s,x],argTypes:=#[t,t'] })
  (base : Nat) (e e' : TypeId) (i : TypeInfo) (z : Value) (size bytes : Nat) (ht : Tryz.prog.underlying t = some (.slice e)) (ht' : Tryz.prog.underlying t' = some (.slice e')) (hi : Tryz.prog.info? e = some i) (hz : i.zero = some z)
  (hsize : i.size = size) (hby : i.bytes = bytes) (hzs : z.cells.size = size) (hsz : 0 < size)
  (v : Value) (n : Nat) (xs : List Value) (hs : a.eval s = v) (hown : w.ownsRow base e size v n xs)
  (ad : Addr) (m c : Nat) (news : List Value) (hx : a.eval x = .slice (some ad) m c) (hl : news.length = m * size) (hnews : ∀ j u,news[j]? = some u → w.cell? (ad.add j) = some u) (h1 : ∀ u ∈ news,u.oneCell' = true)
  (h63 : n + m ≤ maxLen) (hbytes : (n + m) * bytes ≤ 140737488355328) (hbase : base ≤ w.heap.size)
  (h : ∀ v' w',w'.ownsRow base e size v' (n + m) (xs ++ news) → w.grownBy w' v.ownBlock → wpList Tryz.prog ops Q rest (a.put o.dst v') w') : wpList Tryz.prog ops Q (o :: rest) a w:=by
 refine wpList_plain hgd fun K hK => ?_;obtain ⟨v',w',hr,h2,h3,h4⟩:=run_append_own (P:=Tryz.prog) w base t o.type e i z size bytes ht hi hz hsize hby hzs hsz v n xs hown ad m c news hl hnews h1 h63 hbytes hbase
 obtain ⟨va,vl,vc,rfl⟩ : ∃ a l c,v = .slice a l c:=by
  rcases hown.2 with ⟨rfl,_⟩ | ⟨g,cap,cur,rfl,_⟩
  ·exact ⟨_,_,_,rfl⟩
  ·exact ⟨_,_,_,rfl⟩
 rw [← run_append_types w t t' o.type e e' i ht ht' hi] at hr;unfold Oper.wp execOp;simp only [ho,resolve,invoke,builtin,Sem.run_bind,Sem.run_pure,Result.andThen_ok,List.map_toArray,List.map_cons,List.map_nil,hs,hx,hr];exact hK _ _ (h v' w' h2 h3)
theorem run_copy_rec (w : World) (dT sT ty elem : TypeId) (g o dLen dCap : Nat) (a : Addr) (sLen sCap m : Nat) (cur : Array Value) (t : TypeId) (cs : List Value) (i : TypeInfo)
  (hu : Tryz.prog.underlying dT = some (.slice elem)) (hi : Tryz.prog.info? elem = some i) (hs : i.size = m)
  (hg : w.heap[g]? = some (.cells cur t (0,0))) (hn : cs.length = Nat.min sLen dLen * m)
  (hsrc : ∀ j v,cs[j]? = some v → w.cell? (a.add j) = some v) (hfit : o + cs.length ≤ cur.size) (h1 : ∀ v ∈ cs,v.oneCell' = true) :
  (Builtin.copy_ #[dT,sT] ty #[.slice (some ⟨g,o,none⟩) dLen dCap,.slice (some a) sLen sCap]).run Tryz.prog w =
   .ok (goInt (Nat.min sLen dLen)) (w.setRow g (cur.toList.take o ++ cs ++ cur.toList.drop (o + cs.length)).toArray):=by
 have hl:=run_loadCells_list (P:=Tryz.prog) w a cs hsrc;have hst:=run_storeCells_at Tryz.prog g o t cs 0 cur w hg (by simpa using hfit) h1;rw [hn] at hl
 simp [Builtin.copy_,run_underlying hu,Builtin.lenOf,Builtin.firstCells,sizeOf,typeInfo,hi,hs,hl,hst]
theorem wpList_copy_run (w : World) {ops : Array Oper} {rest : List Oper} {o : Oper} {a : Act} {Q : Exit → Act → World → Prop} (hgd : o.guard = none) (d s : Operand) (t t' : TypeId)
  (ho : o.op = .call { callee:=.builtin .copy,args:=#[d,s],argTypes:=#[t,t'] }) (v u : Value) (hd : a.eval d = v) (hs : a.eval s = u) {v' : Value} {w' : World}
  (hr : (Builtin.copy_ #[t,t'] o.type #[v,u]).run Tryz.prog w = .ok v' w') (h : wpList Tryz.prog ops Q rest (a.put o.dst v') w') : wpList Tryz.prog ops Q (o :: rest) a w:=by
 refine wpList_plain hgd fun K hK => ?_;unfold Oper.wp execOp;simp only [ho,resolve,invoke,builtin,Sem.run_bind,Sem.run_pure,Result.andThen_ok,List.map_toArray,List.map_cons,List.map_nil,hd,hs,hr];exact hK _ _ h
theorem ins_list {a b c m : Nat} {X ys cur c1 : List Value} (hX : cur.take b = X) (hc : cur.length = c) (h1 : a + m ≤ b) (h2 : b + m ≤ c) (hy : ys.length = m) (h : c1 = cur.take (a + m) ++ X.drop a ++ cur.drop (a + m + (X.drop a).length)) : (c1.take a ++ (ys ++ c1.drop (a + m))).take (b + m) = X.take a ++ ys ++ X.drop a:=by
 have hXl : X.length = b:=by rw [← hX,List.length_take];omega
 have e1 : c1.take a = X.take a:=by
  rw [h,List.append_assoc,List.take_append_of_le_length (by rw [List.length_take];omega),List.take_take,← hX,List.take_take]
  congr 1
  omega
 have e2 : c1.drop (a + m) = X.drop a ++ cur.drop (a + m + (X.drop a).length):=by
  rw [h,List.append_assoc];exact List.drop_left' (by rw [List.length_take];omega)
 rw [e1,e2,← List.append_assoc,← List.append_assoc];exact List.take_left' (by simp only [List.length_append,List.length_take,List.length_drop];omega)
theorem grow_list {a b m : Nat} {X ys R R2 S : List Value} (hX : R.take a = X.take a) (hXl : X.length = b) (h1 : a ≤ b) (hy : ys.length = m) (h : R2 = R.take a ++ ys ++ S) (T : List Value) : (R2.take (a + m) ++ X.drop a ++ T).take (b + m) = X.take a ++ ys ++ X.drop a:=by
 have e1 : R2.take (a + m) = X.take a ++ ys:=by
  rw [h,hX];exact List.take_left' (by simp only [List.length_append,List.length_take];omega)
 rw [e1];exact List.take_left' (by simp only [List.length_append,List.length_take,List.length_drop];omega)
theorem grown_setRow (w : World) (g : Nat) (cs : Array Value) : w.grownBy (w.setRow g cs) (some g):=⟨rfl,rfl,rfl,by simp [World.setRow],fun k _ h => setRow_other w g k cs (fun e => h (by rw [e]))⟩
theorem step_copy_run {ops : Array Oper} {o : Oper} {a : Act} {w : World} {K : Act → World → Prop} {Q : Exit → Act → World → Prop} {E : Prop}
  (hg : o.guard = none) (d x : Operand) (dT sT : TypeId) (hop : o.op = Op.call { callee:=Callee.builtin Builtin.copy,args:=#[d,x],argTypes:=#[dT,sT] })
  (v u : Value) (hd : a.eval d = v) (hx : a.eval x = u) {v' : Value} {w' : World} (hr : (Builtin.copy_ #[dT,sT] o.type #[v,u]).run Tryz.prog w = .ok v' w') (hK : K (a.put o.dst v') w') :
  if Region.wanted o (yielded ops a.tmps) = true then Oper.wp Tryz.prog o a w K Q else E:=by
 have hw : Region.wanted o (yielded ops a.tmps) = true:=by simp [Region.wanted,hg]
 rw [if_pos hw];unfold Oper.wp
 simp [execOp,hop,resolve,invoke,builtin,hd,hx,hr,Result.andThen]
 exact hK

def inAt {α : Type} (p : Nat) (x : α) (xs : List α) : List α:=xs.take p ++ [x] ++ xs.drop p
theorem inAt_len {α : Type} {p : Nat} {x : α} {xs : List α} (h : p ≤ xs.length) : (inAt p x xs).length = xs.length + 1:=by
 simp only [inAt,List.length_append,List.length_take,List.length_drop,List.length_cons,List.length_nil]
 omega
theorem inAt_map {α β : Type} (f : α → β) (p : Nat) (x : α) (xs : List α) : (inAt p x xs).map f = inAt p (f x) (xs.map f):=by simp [inAt,List.map_take,List.map_drop]
theorem inAt_at {α : Type} {p : Nat} {x : α} {xs : List α} (h : p ≤ xs.length) (j : Nat) (hj : j < xs.length + 1) : (inAt p x xs)[j]? = (xs ++ [x])[if j < p then j else if j = p then xs.length else j - 1]?:=by
 unfold inAt
 by_cases h1 : j < p
 ·rw [if_pos h1,List.append_assoc,List.getElem?_append_left (by rw [List.length_take];omega),List.getElem?_append_left (by omega),List.getElem?_take,if_pos h1]
 ·rw [if_neg h1]
  by_cases h2 : j = p
  ·subst h2
   have hl : (xs.take j).length = j:=by rw [List.length_take,Nat.min_eq_left h]
   have e1 : (xs.take j ++ [x] ++ xs.drop j)[j]? = some x:=by
    rw [List.append_assoc,List.getElem?_append_right (by omega),hl,Nat.sub_self]
    rfl
   rw [e1,if_pos rfl]
   simp
  ·rw [if_neg h2,List.getElem?_append_right (by simp only [List.length_append,List.length_take,List.length_cons,List.length_nil];omega),List.getElem?_append_left (by omega),List.getElem?_drop]
   congr 1
   simp only [List.length_append,List.length_take,List.length_cons,List.length_nil]
   omega
theorem inAt_flat {α : Type} {m p : Nat} {vss : List (List α)} (h : ∀ (j : Nat) vs,vss[j]? = some vs → vs.length = m) (hp : p ≤ vss.length) (vs : List α) : (inAt p vs vss).flatten = vss.flatten.take (p * m) ++ vs ++ vss.flatten.drop (p * m):=by
 have hl : ((vss.take p).flatten).length = p * m:=by
  rw [flat_len (m:=m) (fun j v hv => by
   rw [List.getElem?_take] at hv
   split at hv
   ·exact h j v hv
   ·cases hv),List.length_take,Nat.min_eq_left hp]
 have e : vss.flatten = (vss.take p).flatten ++ (vss.drop p).flatten:=by rw [← List.flatten_append,List.take_append_drop]
 have e1 : vss.flatten.take (p * m) = (vss.take p).flatten:=by rw [e];exact List.take_left' hl
 have e2 : vss.flatten.drop (p * m) = (vss.drop p).flatten:=by rw [e];exact List.drop_left' hl
 rw [e1,e2]
 simp [inAt]
theorem VRecs.ins {w : World} {S : Nat → Prop} {m : Nat} {rs : List (List Fv)} {vss : List (List Value)} {H : Nat → Nat → Nat} (h : VRecs w S m rs vss H) {r : List Fv} {vs : List Value} {hh : Nat → Nat} (hr : r.length = m) (hvs : vs.length = m) (hc : ∀ (i : Nat) f,r[i]? = some f → ∃ v,vs[i]? = some v ∧ f.Fr w (hh i) S v)
  (hn : ∀ (i : Nat) zs,r[i]? = some (.l zs) → zs ≠ [] → ∀ (j : Nat) r' (i' : Nat) zs',rs[j]? = some r' → r'[i']? = some (.l zs') → zs' ≠ [] → ¬ H j i' = hh i)
  (h1 : ∀ (i i' : Nat) zs zs',r[i]? = some (.l zs) → zs ≠ [] → r[i']? = some (.l zs') → zs' ≠ [] → i = i') {p : Nat} (hp : p ≤ rs.length) : ∃ H',VRecs w S m (inAt p r rs) (inAt p vs vss) H':=by
 have hl:=h.len;have e1 : (inAt p r rs).length = rs.length + 1:=inAt_len hp;have e2 : (inAt p vs vss).length = vss.length + 1:=inAt_len (by omega);refine ⟨_,(h.push hr hvs hc hn h1).sel (fun j => if j < p then j else if j = p then rs.length else j - 1) (by omega) (fun j hj => inAt_at hp j (by omega)) (fun j hj => ?_) (fun j j' hj hj' e => ?_)⟩
 ·have:=inAt_at (x:=vs) (xs:=vss) (p:=p) (by omega) j (by omega);rw [hl] at this;exact this
 ·split at e <;> split at e
  ·exact e
  all_goals (try split at e) <;> (try split at e) <;> omega

theorem take_flat {m : Nat} {vss : List (List Value)} (hl : ∀ (j : Nat) vs,vss[j]? = some vs → vs.length = m) {k : Nat} (hk : k ≤ vss.length) : (vss.take k).flatten.length = k * m:=by
 rw [flat_len (m:=m) (fun j vs h => ?_),List.length_take,Nat.min_eq_left hk];rw [List.getElem?_take] at h
 split at h
 ·exact hl j vs h
 ·cases h
theorem drop_flat {m : Nat} {vss : List (List Value)} (hl : ∀ (j : Nat) vs,vss[j]? = some vs → vs.length = m) {k : Nat} : (vss.drop k).flatten.length = (vss.length - k) * m:=by
 rw [flat_len (m:=m) (fun j vs h => ?_),List.length_drop];rw [List.getElem?_drop] at h;exact hl _ vs h
theorem take_at {vss : List (List Value)} {k i : Nat} {u : Value} (h : (vss.take k).flatten[i]? = some u) : vss.flatten[i]? = some u:=by
 have h1 : vss.flatten = (vss.take k).flatten ++ (vss.drop k).flatten:=by rw [← List.flatten_append,List.take_append_drop]
 rw [h1,List.getElem?_append_left (List.getElem?_eq_some_iff.1 h).1];exact h
theorem drop_at {m : Nat} {vss : List (List Value)} (hl : ∀ (j : Nat) vs,vss[j]? = some vs → vs.length = m) {k i : Nat} {u : Value} (hk : k ≤ vss.length) (h : (vss.drop k).flatten[i]? = some u) : vss.flatten[k * m + i]? = some u:=by
 have h1 : vss.flatten = (vss.take k).flatten ++ (vss.drop k).flatten:=by rw [← List.flatten_append,List.take_append_drop]
 rw [h1,List.getElem?_append_right (by rw [take_flat hl hk];omega),take_flat hl hk,Nat.add_sub_cancel_left];exact h
theorem mem_take_one {P : Value → Prop} {vss : List (List Value)} (h : ∀ u ∈ vss.flatten,P u) (k : Nat) : (∀ u ∈ (vss.take k).flatten,P u) ∧ ∀ u ∈ (vss.drop k).flatten,P u:=by
 have h1 : vss.flatten = (vss.take k).flatten ++ (vss.drop k).flatten:=by rw [← List.flatten_append,List.take_append_drop]
 exact ⟨fun u hu => h u (by rw [h1];exact List.mem_append_left _ hu),fun u hu => h u (by rw [h1];exact List.mem_append_right _ hu)⟩

theorem sill_any (p : Int) (w : World) :
  Calls Tryz.prog 50 #[.int .i64 p] w fun e w' => e = .returned (.agg #[.slice none 0 0,.slice none 0 0,.slice none 0 0,.slice none 0 0,.slice none 0 0,.int .i64 0,.string ⟨#[]⟩,.int .i64 p]) ∧ Below w.heap.size w w':=by
 go_enter Tryz.func50,Tryz.ntmps50
 go_wp2
 exact bodyPost_ret (v:=.agg #[.slice none 0 0,.slice none 0 0,.slice none 0 0,.slice none 0 0,.slice none 0 0,.int .i64 0,.string ⟨#[]⟩,.int .i64 p]) (by simp [results,Tryz.results50,go_sem]) rfl ⟨rfl,below1 _ _⟩

theorem run_append_empty {w : World} {base : Nat} {t ty e : TypeId} {i : TypeInfo} {size : Nat} (ht : Tryz.prog.underlying t = some (.slice e)) (hi : Tryz.prog.info? e = some i) {v : Value} {n : Nat} {xs : List Value} (hown : w.ownsRow base e size v n xs) (ax : Option Addr) (cx : Nat) :
  (Builtin.append_ #[t,t] ty #[v,.slice ax 0 cx]).run Tryz.prog w = .ok v w:=by
 rcases hown.2 with ⟨rfl,rfl⟩ | ⟨g,cap,cur,rfl,_,_,hnc,_⟩
 ·cases ax <;> simp [Builtin.append_,run_underlying ht,sizeOf,typeInfo,hi,Builtin.lenOf,Builtin.firstCells,loadCells,loadCellsFrom]
 ·cases ax <;> simp [Builtin.append_,run_underlying ht,sizeOf,typeInfo,hi,Builtin.lenOf,Builtin.firstCells,hnc,storeCells,loadCells,loadCellsFrom]
theorem wpList_append_any {w : World} {ops : Array Oper} {rest : List Oper} {o : Oper} {a : Act} {Q : Exit → Act → World → Prop} (hgd : o.guard = none) (s x : Operand) (t : TypeId)
  (ho : o.op = .call { callee:=.builtin .append,args:=#[s,x],argTypes:=#[t,t] })
  (base : Nat) (e : TypeId) (i : TypeInfo) (z : Value) (size bytes : Nat) (ht : Tryz.prog.underlying t = some (.slice e)) (hi : Tryz.prog.info? e = some i) (hz : i.zero = some z)
  (hsize : i.size = size) (hby : i.bytes = bytes) (hzs : z.cells.size = size) (hsz : 0 < size)
  (v : Value) (n : Nat) (xs : List Value) (hs : a.eval s = v) (hown : w.ownsRow base e size v n xs)
  (ax : Option Addr) (l c : Nat) (news : List Value) (hx : a.eval x = .slice ax l c) (hl : news.length = l * size) (hnews : ∀ (j : Nat) u,news[j]? = some u → ∃ ad : Addr,ax = some ad ∧ w.cell? (ad.add j) = some u) (h1 : ∀ u ∈ news,u.oneCell' = true)
  (h63 : n + l ≤ maxLen) (hbytes : (n + l) * bytes ≤ 140737488355328) (hbase : base ≤ w.heap.size)
  (h : ∀ v' w',w'.ownsRow base e size v' (n + l) (xs ++ news) → w.grownBy w' v.ownBlock → wpList Tryz.prog ops Q rest (a.put o.dst v') w') : wpList Tryz.prog ops Q (o :: rest) a w:=by
 rcases news with _ | ⟨u,news⟩
 ·have hl0 : l = 0:=by
   rcases Nat.eq_zero_or_pos l with e | e
   ·exact e
   ·have:=Nat.mul_pos e hsz
    simp at hl
    omega
  subst hl0;refine wpList_plain hgd fun K hK => ?_;have hr:=run_append_empty (ty:=o.type) ht hi hown ax c;unfold Oper.wp execOp;simp only [ho,resolve,invoke,builtin,Sem.run_bind,Sem.run_pure,Result.andThen_ok,List.map_toArray,List.map_cons,List.map_nil,hs,hx,hr];exact hK _ _ (h v w (by simpa using hown) (World.grownBy.refl _ _))
 ·obtain ⟨ad,rfl,_⟩:=hnews 0 u rfl
  exact wpList_append_two hgd s x t t ho base e e i z size bytes ht ht hi hz hsize hby hzs hsz v n xs hs hown ad l c (u :: news) hx hl (fun j y hy => by
   obtain ⟨ad',e,h2⟩:=hnews j y hy
   cases e
   exact h2) h1 h63 hbytes hbase h

theorem row_same {w : World} {g : Nat} {cs : Array Value} {T : TypeId} {f : Nat × Nat} (h : w.heap[g]? = some (.cells cs T f)) : Below w.heap.size w (w.setRow g cs):=by
 refine ⟨rfl,rfl,rfl,by simp,fun k hk => ?_⟩
 by_cases e : k = g
 ·subst e;rw [setRow_heap w k cs cs T f h,h]
 ·exact setRow_other w g k cs e

theorem run_append_empty_none {w : World} (t ty e : TypeId) (i : TypeInfo) (ht : Tryz.prog.underlying t = some (.slice e)) (hi : Tryz.prog.info? e = some i) (g cap : Nat) :
  (Builtin.append_ #[t,t] ty #[.slice (some ⟨g,0,none⟩) 0 0,.slice none 0 cap]).run Tryz.prog w = .ok (.slice (some ⟨g,0,none⟩) 0 0) w:=by
 simp [Builtin.append_,run_underlying ht,sizeOf,typeInfo,hi,Builtin.lenOf,Builtin.firstCells,storeCells]

theorem TOwn.here {w : World} {g l c : Nat} {zs : List ByteArray} {S S' : Nat → Prop} (h : TOwn w (some ⟨g,0,none⟩) l c zs S) (hS : S' g) : TOwn w (some ⟨g,0,none⟩) l c zs S' :=
 ⟨h.1,h.2.imp id fun ⟨g',cur,e,_,hg⟩ => by cases e;exact ⟨g,cur,rfl,hS,hg⟩⟩

theorem run_append_texts {w : World} {g0 : Nat} {va : Option Addr} {len cap : Nat} {zs : List ByteArray} (ty : TypeId) (hg : w.heap[g0]? = some (.cells #[] 9 (0,0))) (hr : TxRow w va len cap zs) (hl : len ≤ 8001) :
  ∃ a l c w',(Builtin.append_ #[78,78] ty #[.slice (some ⟨g0,0,none⟩) 0 0,.slice va len cap]).run Tryz.prog w = .ok (.slice a l c) w' ∧ TOwn w' a l c zs (fun k => k = g0 ∨ w.heap.size ≤ k) ∧ Below w.heap.size w w':=by
 obtain ⟨i0,hi,hz0,hz1,hz2⟩:=info_parts infoStr;have hzl : zs.length = len:=hr.1
 rcases Nat.eq_zero_or_pos len with h0 | h0
 ·subst h0;obtain rfl : zs = []:=List.eq_nil_of_length_eq_zero hzl
  cases va with
  | none => exact ⟨_,_,_,_,run_append_empty_none 78 ty 9 i0 Tryz.underlying78 hi g0 cap,⟨⟨rfl,Nat.le_refl _,by omega,fun j x hx => by simp at hx,.inl rfl⟩,.inl rfl⟩,Below.refl _ _⟩
  | some ad =>
   have h:=run_append_room (P:=Tryz.prog) w 78 ty 9 i0 Tryz.underlying78 hi g0 0 0 #[] hg ad 0 cap [] (by simp) (fun j u hu => by simp at hu) (fun u hu => by simp at hu) (by omega) (by simp);exact ⟨_,_,_,_,h,⟨⟨rfl,Nat.le_refl _,by omega,fun j x hx => by simp at hx,.inl rfl⟩,.inl rfl⟩,by simpa using row_same hg⟩
 ·cases va with
  | none =>
   rcases hr.2.2.2.2 with h | ⟨b,o,e,_⟩
   ·subst h;simp at hzl;omega
   ·cases e
  | some ad =>
   have h:=run_append_grow (P:=Tryz.prog) w 78 ty 9 i0 (.string ⟨#[]⟩) Tryz.underlying78 hi hz0 ⟨g0,0,none⟩ 0 0 [] (by simp) (fun j u hu => by simp at hu) ad len cap (zs.map Value.string) (by rw [hz1];simpa using hzl) (Ap.news_of hr) (by omega) (by omega) (growslice_fits (by omega) (by rw [hz2];omega));obtain ⟨v',w',hr2,h2,h3,h4⟩:=run_append_own (P:=Tryz.prog) w (base:=0) 78 ty 9 i0 (.string ⟨#[]⟩) 1 16 Tryz.underlying78 hi hz0 hz1 hz2 rfl (by decide) (.slice (some ⟨g0,0,none⟩) 0 0) 0 [] ⟨rfl,.inr ⟨g0,0,#[],rfl,Nat.zero_le _,hg,Nat.le_refl _,by unfold maxLen;omega,rfl,rfl⟩⟩ ad len cap (zs.map Value.string) (by simpa using hzl) (Ap.news_of hr) (fun u hu => by obtain ⟨x,_,rfl⟩:=List.mem_map.1 hu;rfl) (by unfold maxLen;omega) (by omega) (Nat.zero_le _);rw [h] at hr2
   cases hr2
   rw [Nat.zero_add,List.nil_append] at h2;obtain ⟨a',c',e,hT⟩:=TOwn.of_row h2 hr.2.2.2.1;have hbel : Below w.heap.size w (w.drew.alloc (.cells (([] : List Value).toArray ++ (zs.map Value.string).toArray ++ Builtin.zeroCells (Value.string ⟨#[]⟩).cells (grownCap w (0 + len) 0 9 - (0 + len))) 9)):=⟨rfl,rfl,rfl,by simp,fun k hk => heap_alloc_old w.drew _ (by simpa using hk)⟩;simp only [Nat.zero_add] at e h hbel ⊢
   cases e
   exact ⟨_,_,_,_,h,hT.here (.inr (Nat.le_refl _)),hbel⟩
theorem wpList_texts {ops : Array Oper} {rest : List Oper} {o : Oper} {a : Act} {w : World} {Q : Exit → Act → World → Prop} (hgd : o.guard = none) (s x : Operand) (ho : o.op = .call { callee:=.builtin .append,args:=#[s,x],argTypes:=#[78,78] }) (g0 : Nat) (hs : a.eval s = .slice (some ⟨g0,0,none⟩) 0 0) (hg : w.heap[g0]? = some (.cells #[] 9 (0,0)))
  (va : Option Addr) (len cap : Nat) (hx : a.eval x = .slice va len cap) (zs : List ByteArray) (hr : TxRow w va len cap zs) (hl : len ≤ 8001)
  (h : ∀ a' l c w',TOwn w' a' l c zs (fun k => k = g0 ∨ w.heap.size ≤ k) → Below w.heap.size w w' → wpList Tryz.prog ops Q rest (a.put o.dst (.slice a' l c)) w') : wpList Tryz.prog ops Q (o :: rest) a w:=by
 refine wpList_plain hgd fun K hK => ?_;obtain ⟨a',l,c,w',hrun,h1,h2⟩:=run_append_texts o.type hg hr hl;unfold Oper.wp execOp;simp only [ho,resolve,invoke,builtin,Sem.run_bind,Sem.run_pure,Result.andThen_ok,List.map_toArray,List.map_cons,List.map_nil,hs,hx,hrun];exact hK _ _ (h a' l c w' h1 h2)

theorem run_append_recs {w : World} {g0 : Nat} {va : Option Addr} {len cap m bytes : Nat} {rs : List (List Fv)} (t ty T : TypeId) (i : TypeInfo) (z : Value) (ht : Tryz.prog.underlying t = some (.slice T)) (hi : Tryz.prog.info? T = some i) (hz : i.zero = some z) (hsize : i.size = m) (hby : i.bytes = bytes) (hzs : z.cells.size = m) (hsz : 0 < m) (hT : ¬ T = 9) (hg : w.heap[g0]? = some (.cells #[] T (0,0)))
  (hr : RRow w va len cap m rs) (hm : ∀ (j : Nat) r,rs[j]? = some r → r.length = m ∧ FlatR r) (hl : len ≤ 8) (hb8 : bytes ≤ 1000) :
  ∃ a c w',(Builtin.append_ #[t,t] ty #[.slice (some ⟨g0,0,none⟩) 0 0,.slice va len cap]).run Tryz.prog w = .ok (.slice a len c) w' ∧ ROwn w' a len c m T rs (fun k => k = g0 ∨ w.heap.size ≤ k) ∧ Below w.heap.size w w':=by
 rcases Nat.eq_zero_or_pos len with h0 | h0
 ·subst h0;obtain rfl : rs = []:=List.eq_nil_of_length_eq_zero hr.1
  cases va with
  | none => exact ⟨_,_,_,run_append_empty_none t ty T i ht hi g0 cap,ROwn.nil _ _ _ _ _ (by omega),Below.refl _ _⟩
  | some ad =>
   have h:=run_append_room (P:=Tryz.prog) w t ty T i ht hi g0 0 0 #[] hg ad 0 cap [] (by simp) (fun j u hu => by simp at hu) (fun u hu => by simp at hu) (by omega) (by simp);exact ⟨_,_,_,h,ROwn.nil _ _ _ _ _ (by omega),by simpa using row_same hg⟩
 ·have hlen : ((rs.map flatV).flatten).length = len * m:=by rw [flat_len (flat_all fun j r hj => (hm j r hj).1),List.length_map,hr.1]
  obtain ⟨ad,rfl,hnews⟩ : ∃ ad,va = some ad ∧ ∀ (j : Nat) u,((rs.map flatV).flatten)[j]? = some u → w.cell? (ad.add j) = some u:=by
   rcases hr.2.2.2 with h | ⟨b,o,rfl,_⟩
   ·subst h;have:=hr.1;simp at this;omega
   ·exact ⟨_,rfl,flat_news hr hm⟩
  have h:=run_append_grow (P:=Tryz.prog) w t ty T i z ht hi hz ⟨g0,0,none⟩ 0 0 [] (by simp) (fun j u hu => by simp at hu) ad len cap (rs.map flatV).flatten (by rw [hsize];exact hlen) hnews (by omega) (by omega) (growslice_fits (by omega) (by rw [hby];have : (0 + len) * bytes ≤ 8 * 1000:=Nat.mul_le_mul (by omega) hb8;omega));obtain ⟨v',w',hr2,h2,h3,h4⟩:=run_append_own (P:=Tryz.prog) w (base:=0) t ty T i z m bytes ht hi hz hsize hby hzs hsz (.slice (some ⟨g0,0,none⟩) 0 0) 0 [] ⟨by simp,.inr ⟨g0,0,#[],rfl,Nat.zero_le _,hg,Nat.le_refl _,by unfold maxLen;omega,by simp,by simp⟩⟩ ad len cap (rs.map flatV).flatten hlen hnews (flat_recs hr hm w (fun _ => True)).one (by unfold maxLen;omega) (by have : (0 + len) * bytes ≤ 8 * 1000:=Nat.mul_le_mul (by omega) hb8;omega) (Nat.zero_le _);rw [h] at hr2
  cases hr2
  rw [Nat.zero_add,List.nil_append] at h2;obtain ⟨a',c',e,hR⟩:=(flat_recs hr hm _ (fun k => k = g0 ∨ w.heap.size ≤ k)).own h2 hr.1.symm hT (fun g hg => by simp [Value.ownBlock] at hg;exact .inr (by omega));have hbel : Below w.heap.size w (w.drew.alloc (.cells (([] : List Value).toArray ++ ((rs.map flatV).flatten).toArray ++ Builtin.zeroCells z.cells (grownCap w (0 + len) 0 T - (0 + len))) T)):=⟨rfl,rfl,rfl,by simp,fun k hk => heap_alloc_old w.drew _ (by simpa using hk)⟩;rw [hr.1] at e hR;simp only [Nat.zero_add] at e h hbel hR ⊢
  cases e
  exact ⟨_,_,_,h,hR,hbel⟩
theorem wp_copy0 {o : Oper} {a : Act} {w : World} {K : Act → World → Prop} {Q : Exit → Act → World → Prop} {g0 : Nat} {va : Option Addr} {len cap m bytes : Nat} {rs : List (List Fv)} (s x : Operand) (t T : TypeId) (ho : o.op = .call { callee:=.builtin .append,args:=#[s,x],argTypes:=#[t,t] }) (i : TypeInfo) (z : Value) (ht : Tryz.prog.underlying t = some (.slice T)) (hi : Tryz.prog.info? T = some i) (hz : i.zero = some z) (hsize : i.size = m) (hby : i.bytes = bytes) (hzs : z.cells.size = m) (hsz : 0 < m) (hT : ¬ T = 9) (hs : a.eval s = .slice (some ⟨g0,0,none⟩) 0 0) (hg : w.heap[g0]? = some (.cells #[] T (0,0)))
  (hx : a.eval x = .slice va len cap) (hr : RRow w va len cap m rs) (hm : ∀ (j : Nat) r,rs[j]? = some r → r.length = m ∧ FlatR r) (hl : len ≤ 8) (hb8 : bytes ≤ 1000)
  (h : ∀ a' c' w',ROwn w' a' len c' m T rs (fun k => k = g0 ∨ w.heap.size ≤ k) → Below w.heap.size w w' → K (a.put o.dst (.slice a' len c')) w') : o.wp Tryz.prog a w K Q:=by
 obtain ⟨a',c',w',hrun,h1,h2⟩:=run_append_recs t o.type T i z ht hi hz hsize hby hzs hsz hT hg hr hm hl hb8;unfold Oper.wp execOp;simp only [ho,resolve,invoke,builtin,Sem.run_bind,Sem.run_pure,Result.andThen_ok,List.map_toArray,List.map_cons,List.map_nil,hs,hx,hrun];exact h a' c' w' h1 h2

theorem slots2n {w w' : World} {o p : Obj} (h : Below (w.heap.size + 1 + 1) ((w.alloc o).alloc p) w') : w'.heap[w.heap.size]? = some o ∧ w'.heap[w.heap.size + 1]? = some p ∧ Below w.heap.size w w':=slots2 (by rw [size1,size1];exact h)
theorem news_alloc_at (w : World) (n : Nat) (hn : w.heap.size = n) (vs : List Value) (T : TypeId) : ∀ (j : Nat) u,vs[j]? = some u → (w.alloc (.cells vs.toArray T)).cell? ((⟨n,0,none⟩ : Addr).add j) = some u:=by
 subst hn;exact news_alloc w vs T
theorem put6 {w : World} {b : Nat} {T : TypeId} {u0 u1 u2 u3 u4 u5 v0 v1 v2 v3 v4 v5 : Value} (h : w.heap[b]? = some (.cells #[u0,u1,u2,u3,u4,u5] T (0,0))) :
  ((((((w.setCell ⟨b,0,none⟩ v0).setCell ⟨b,1,none⟩ v1).setCell ⟨b,2,none⟩ v2).setCell ⟨b,3,none⟩ v3).setCell ⟨b,4,none⟩ v4).setCell ⟨b,5,none⟩ v5).heap[b]? = some (.cells #[v0,v1,v2,v3,v4,v5] T (0,0)) :=
 block_set (block_set (block_set (block_set (block_set (block_set h v0) v1) v2) v3) v4) v5
theorem put6_ne {w : World} {b k : Nat} {v0 v1 v2 v3 v4 v5 : Value} (hk : ¬ k = b) :
  ((((((w.setCell ⟨b,0,none⟩ v0).setCell ⟨b,1,none⟩ v1).setCell ⟨b,2,none⟩ v2).setCell ⟨b,3,none⟩ v3).setCell ⟨b,4,none⟩ v4).setCell ⟨b,5,none⟩ v5).heap[k]? = w.heap[k]?:=by
 rw [Below.heap_setCell _ _ _ _ hk,Below.heap_setCell _ _ _ _ hk,Below.heap_setCell _ _ _ _ hk,Below.heap_setCell _ _ _ _ hk,Below.heap_setCell _ _ _ _ hk,Below.heap_setCell _ _ _ _ hk]
theorem ROwn.away {w : World} {a : Option Addr} {len cap m : Nat} {T T' : TypeId} {rs : List (List Fv)} {S : Nat → Prop} (h : ROwn w a len cap m T rs S) {b : Nat} {cs : Array Value} (hb : w.heap[b]? = some (.cells cs T' (0,0))) (h1 : ¬ T' = T) (h2 : ¬ T' = 9) : ROwn w a len cap m T rs (fun k => S k ∧ ¬ k = b):=by
 obtain ⟨a1,a2,a3,a4⟩:=h;refine ⟨a1,a2,a3,a4.imp id ?_⟩;rintro ⟨g,cur,H,e,h5⟩;refine ⟨g,cur,H,e,h5.blk,⟨h5.inS,fun q => ?_⟩,h5.len,fun j r hj i f hi => ?_,h5.inj⟩
 ·subst q;have:=h5.blk;rw [hb] at this
  cases this
  exact h1 rfl
 ·obtain ⟨v,q1,q2⟩:=h5.cell j r hj i f hi;refine ⟨v,q1,?_⟩
  cases f with
  | l zs =>
   obtain ⟨a',l',c',k1,k2,k3,k4,k5,k6⟩:=q2;refine ⟨a',l',c',k1,k2,k3,k4,k5,k6.imp id ?_⟩;rintro ⟨z1,z2,z3,cu,z4,z5⟩;refine ⟨z1,⟨z2,fun q => ?_⟩,z3,cu,z4,z5⟩;rw [q] at z4;rw [hb] at z4
   cases z4
   exact h2 rfl
  | _ => exact q2
theorem owns_set {w : World} {base n m : Nat} {T T' : TypeId} {v u : Value} {xs : List Value} {b i : Nat} {cs : Array Value} (h : w.ownsRow base T m v n xs) (hb : w.heap[b]? = some (.cells cs T' (0,0))) (hT : ¬ T' = T) : (w.setCell ⟨b,i,none⟩ u).ownsRow base T m v n xs:=by
 refine ⟨h.1,h.2.imp id ?_⟩;rintro ⟨g,cap,cur,h1,h2,h3,h4⟩;refine ⟨g,cap,cur,h1,h2,(Below.heap_setCell _ _ _ _ (fun e => ?_)).trans h3,h4⟩;subst e;rw [hb] at h3
 cases h3
 exact hT rfl
theorem VRecs.set {w : World} {S : Nat → Prop} {m : Nat} {rs : List (List Fv)} {vss : List (List Value)} {H : Nat → Nat → Nat} (h : VRecs w S m rs vss H) {b i : Nat} {cs : Array Value} {T' : TypeId} {u : Value} (hb : w.heap[b]? = some (.cells cs T' (0,0))) (hT : ¬ T' = 9) : VRecs (w.setCell ⟨b,i,none⟩ u) S m rs vss H :=
 h.keep (fun k cu _ q => Below.heap_setCell _ _ _ _ (fun e => by subst e;rw [hb] at q;cases q;exact hT rfl)) (fun _ _ s => s)
theorem KeptS.of_grown {S : Nat → Prop} {W w : World} {vb : Option Nat} (hg : W.grownBy w vb) (h : ∀ g,vb = some g → S g) : KeptS S W w:=⟨hg.os,hg.tape,hg.output,hg.size,fun k hk hn => hg.block k hk (fun e => hn (h k e.symm))⟩
theorem owns_slice {w : World} {base n m : Nat} {T : TypeId} {v : Value} {xs : List Value} (h : w.ownsRow base T m v n xs) : ∃ a l c,v = .slice a l c:=by
 rcases h.2 with ⟨rfl,_⟩ | ⟨g,cap,cur,rfl,_⟩
 ·exact ⟨_,_,_,rfl⟩
 ·exact ⟨_,_,_,rfl⟩
abbrev Cps (b : Nat) (X : World) : Nat → Prop:=fun k => k = b ∨ X.heap.size ≤ k
theorem cp_blk {X wr W w5 : World} {b3 k m : Nat} {T TC : TypeId} {v : Value} {xs : List Value} {cs : Array Value} (hO : wr.ownsRow X.heap.size T m v k xs) (hBo : wr.heap[b3]? = some (.cells cs TC (0,0))) (hb3 : b3 < X.heap.size) (hb : Below wr.heap.size wr W) (hg : W.grownBy w5 v.ownBlock) : w5.heap[b3]? = some (.cells cs TC (0,0)) :=
 (hg.block b3 (Nat.lt_of_lt_of_le (lt_of_some hBo) hb.size) (fun e => by have:=(hO.lt b3 e.symm).1;omega)).trans ((hb.block _ (lt_of_some hBo)).trans hBo)
theorem cp_step {X wr W w5 : World} {b3 k m f : Nat} {T TC : TypeId} {v v' : Value} {rs : List (List Fv)} {vss : List (List Value)} {H : Nat → Nat → Nat} {cs : Array Value} {r : List Fv} {vs : List Value} {hh : Nat} (hK : KeptS (Cps b3 X) X wr) (hO : wr.ownsRow X.heap.size T m v k vss.flatten) (hV : VRecs wr (fun k => X.heap.size ≤ k) m rs vss H) (hBo : wr.heap[b3]? = some (.cells cs TC (0,0))) (hb3 : b3 < X.heap.size)
  (hb : Below wr.heap.size wr W) (hown : w5.ownsRow X.heap.size T m v' (k + 1) (vss.flatten ++ vs)) (hg : W.grownBy w5 v.ownBlock) (hT : ¬ T = 9) (hTC : ¬ TC = T) (hTS : ¬ TC = 9) (hr : r.length = m) (hvs : vs.length = m) (hc : ∀ (i : Nat) f,r[i]? = some f → ∃ v,vs[i]? = some v ∧ f.Fr W hh (fun k => X.heap.size ≤ k) v) (hfr : ∀ (i : Nat) zs,r[i]? = some (.l zs) → zs ≠ [] → wr.heap.size ≤ hh)
  (h1 : ∀ (i i' : Nat) zs zs',r[i]? = some (.l zs) → zs ≠ [] → r[i']? = some (.l zs') → zs' ≠ [] → i = i') :
  KeptS (Cps b3 X) X (w5.setCell ⟨b3,f,none⟩ v') ∧ (w5.setCell ⟨b3,f,none⟩ v').ownsRow X.heap.size T m v' (k + 1) (vss ++ [vs]).flatten ∧ (∃ H',VRecs (w5.setCell ⟨b3,f,none⟩ v') (fun k => X.heap.size ≤ k) m (rs ++ [r]) (vss ++ [vs]) H') ∧ (w5.setCell ⟨b3,f,none⟩ v').heap[b3]? = some (.cells (cs.setIfInBounds f v') TC (0,0)):=by
 have hb5:=cp_blk hO hBo hb3 hb hg;refine ⟨?_,?_,⟨_,(hV.app hb (owns_below hO hb) hT hg hr hvs hc hfr h1).set hb5 hTS⟩,block_set hb5 v'⟩
 ·exact ((hK.trans (KeptS.of_below hb)).trans (KeptS.of_grown hg (fun g e => .inr (hO.lt g e).1))).set (.inl rfl)
 ·rw [List.flatten_append];refine owns_set ?_ hb5 hTC
  simpa using hown
structure ClFr (w : World) (d : Ad) (c : Cr) (S : Nat → Prop) : Prop where
 n : ROwn w d.a1 d.l1 d.c1 7 109 c.n S
 k : ROwn w d.a2 d.l2 d.c2 4 111 c.k S
 v : ROwn w d.a3 d.l3 d.c3 8 81 c.v S
 x : ROwn w d.a4 d.l4 d.c4 5 114 c.x S
 p : ROwn w d.a5 d.l5 d.c5 6 107 c.p S
def EmF (B : Nat) (T : TypeId) : Fact:=fun v w => ∃ b,v = .slice (some ⟨b,0,none⟩) 0 0 ∧ B ≤ b ∧ w.heap[b]? = some (.cells #[] T (0,0))
theorem EmF.mono (B : Nat) (T : TypeId) : Fact.Mono (EmF B T):=by
 rintro v w w' ⟨b,h1,h2,h3⟩ hb;exact ⟨b,h1,h2,(hb.block _ (lt_of_some h3)).trans h3⟩
def RwF (B len m : Nat) (T : TypeId) (rs : List (List Fv)) : Fact:=fun v w => ∃ a c,v = .slice a len c ∧ ROwn w a len c m T rs (fun k => B ≤ k)
theorem RwF.mono (B len m : Nat) (T : TypeId) (rs : List (List Fv)) : Fact.Mono (RwF B len m T rs):=by
 rintro v w w' ⟨a,c,h1,h2⟩ hb;exact ⟨a,c,h1,h2.below hb⟩
def CpF (B l2 l4 : Nat) (c : Cl) : Fact:=fun v w => ∃ a2 c2 a4 c4,v = .agg #[.slice none 0 0,.slice a2 l2 c2,.slice none 0 0,.slice a4 l4 c4,.slice none 0 0,.int .i64 c.now] ∧ ROwn w a2 l2 c2 4 111 (c.ks.map kdF) (fun k => B ≤ k) ∧ ROwn w a4 l4 c4 5 114 (c.xs.map xdF) (fun k => B ≤ k)
theorem CpF.mono (B l2 l4 : Nat) (c : Cl) : Fact.Mono (CpF B l2 l4 c):=by
 rintro v w w' ⟨a2,c2,a4,c4,h1,h2,h3⟩ hb;exact ⟨a2,c2,a4,c4,h1,h2.below hb,h3.below hb⟩
def FrF (B : Nat) : Fact:=fun v w => ∃ b,v = .pointer (some ⟨b,0,none⟩) ∧ B ≤ b ∧ w.heap[b]? = some (.cells #[.slice none 0 0,.slice none 0 0,.slice none 0 0,.slice none 0 0,.slice none 0 0,.int .i64 0] 38 (0,0))
theorem FrF.mono (B : Nat) : Fact.Mono (FrF B):=by
 rintro v w w' ⟨b,h1,h2,h3⟩ hb;exact ⟨b,h1,h2,(hb.block _ (lt_of_some h3)).trans h3⟩

def Rv (vb : Option Nat) (sp : Tmp) : Gi.Rs:=fun s w w' => match s with
 | none => w.grownBy w' vb
 | some t => if t = sp then w.grownBy w' vb else Below w.heap.size w w'
theorem grown_of_below {w w' : World} (vb : Option Nat) (h : Below w.heap.size w w') : w.grownBy w' vb:=⟨h.os,h.tape,h.output,h.size,fun k hk _ => h.block k hk⟩
theorem Rv.below {vb : Option Nat} {sp : Tmp} {s : Option Tmp} {w w' : World} (h : Rv vb sp s w w') (h1 : ¬ s = none) (h2 : ¬ s = some sp) : Below w.heap.size w w':=by
 cases s with
 | none => exact absurd rfl h1
 | some t =>
  simp only [Rv] at h;rw [if_neg (fun e => h2 (by rw [e]))] at h;exact h
theorem Rv.rel (vb : Option Nat) (sp : Tmp) : Gi.Rel (Rv vb sp) sp:=by
 refine ⟨fun w => grown_of_below vb (Below.refl _ _),fun {a b c} h k => ?_,fun h => World.grownBy.size h,fun w => grown_of_below vb (Below.refl _ _).drew,fun s {a b} h => ?_,fun s {a b} h1 h2 h => Rv.below h h1 h2⟩
 ·have h : World.grownBy a b vb:=h;have k : World.grownBy b c vb:=k;exact ⟨k.os.trans h.os,k.tape.trans h.tape,k.output.trans h.output,Nat.le_trans h.size k.size,fun i hi hn => (k.block i (Nat.lt_of_lt_of_le hi h.size) hn).trans (h.block i hi hn)⟩
 ·cases s with
  | none => exact h
  | some t =>
   show World.grownBy a b vb
   simp only [Rv] at h
   split at h
   ·exact h
   ·exact grown_of_below vb h
theorem Rv.other {vb : Option Nat} {sp t : Tmp} {w w' : World} (ht : ¬ t = sp) (h : Below w.heap.size w w') : Rv vb sp (some t) w w':=by
 show (if t = sp then w.grownBy w' vb else Below w.heap.size w w')
 rw [if_neg ht];exact h
theorem Rv.this {vb : Option Nat} {sp : Tmp} {w w' : World} (h : w.grownBy w' vb) : Rv vb sp (some sp) w w':=by
 show (if sp = sp then w.grownBy w' vb else Below w.heap.size w w')
 rw [if_pos rfl];exact h
theorem news_blk {w : World} {b : Nat} {vs : List Value} {T : TypeId} (h : w.heap[b]? = some (.cells vs.toArray T (0,0))) : ∀ (j : Nat) u,vs[j]? = some u → w.cell? ((⟨b,0,none⟩ : Addr).add j) = some u:=by
 intro j u hu;rw [Addr.add_lit,cellK h,Nat.zero_add]
 simpa using hu
def TvF (B : Nat) (x : Vd) : Gi.Fact:=fun u w _ _ => ∃ a l c,u = .agg #[.string x.n,.int .i64 x.c,.string x.z,.string x.k,.bool x.x,.string x.m,.bool x.y,.slice a l c] ∧ TOwn w a l c x.zs (fun k => B ≤ k)
def BsF (B : Nat) (x : Vd) : Gi.Fact:=fun u w _ _ => ∃ b a l c,u = .slice (some ⟨b,0,none⟩) 1 1 ∧ B ≤ b ∧ w.heap[b]? = some (.cells #[.string x.n,.int .i64 x.c,.string x.z,.string x.k,.bool x.x,.string x.m,.bool x.y,.slice a l c] 81 (0,0)) ∧ TOwn w a l c x.zs (fun k => B ≤ k)
def ApF (B k : Nat) (rs : List (List Fv)) (vss : List (List Value)) : Gi.Fact:=fun u w _ _ => ∃ H' vs,w.ownsRow B 81 8 u (k + 1) (vss ++ [vs]).flatten ∧ VRecs w (fun k => B ≤ k) 8 rs (vss ++ [vs]) H'
theorem TvF.mono {vb : Option Nat} {sp : Tmp} {ex : Gi.Ex} {d : Option Tmp} {B : Nat} {x : Vd} (hv : ∀ g,vb = some g → g < B) : Gi.Fact.Mono (Rv vb sp) ex d (TvF B x):=by
 rintro s _ _ _ v w w' l h ⟨a,l,c,h1,h2⟩ hb;have hb : w.grownBy w' vb:=(Rv.rel vb sp).sub s hb;exact ⟨a,l,c,h1,h2.keep (fun k hk s => hb.block k hk (fun e => by have s1 : B ≤ k:=s;have:=hv k e.symm;omega)) (fun _ _ s => s)⟩
theorem BsF.mono {vb : Option Nat} {sp : Tmp} {ex : Gi.Ex} {d : Option Tmp} {B : Nat} {x : Vd} (hv : ∀ g,vb = some g → g < B) : Gi.Fact.Mono (Rv vb sp) ex d (BsF B x):=by
 rintro s _ _ _ v w w' l h ⟨b,a,l,c,h1,h2,h3,h4⟩ hb;have hb : w.grownBy w' vb:=(Rv.rel vb sp).sub s hb;exact ⟨b,a,l,c,h1,h2,(hb.block _ (lt_of_some h3) (fun e => by have:=hv b e.symm;omega)).trans h3,h4.keep (fun k hk s => hb.block k hk (fun e => by have s1 : B ≤ k:=s;have:=hv k e.symm;omega)) (fun _ _ s => s)⟩
theorem ApF.mono {vb : Option Nat} {sp : Tmp} {ex : Gi.Ex} {B k : Nat} {rs : List (List Fv)} {vss : List (List Value)} : Gi.Fact.Mono (Rv vb sp) ex (some sp) (ApF B k rs vss):=by
 rintro s h1 h2 _ v w w' l h ⟨H',vs,h3,h4⟩ hb;have hb:=Rv.below hb h1 h2;exact ⟨H',vs,owns_below h3 hb,h4.below hb⟩

theorem scopyC_any (d : Ad) (c : Cl) (w : World) (hr : ClRow w d c.raw) (hs : Sm c) :
  Calls Tryz.prog 51 #[.agg #[.slice d.a1 d.l1 d.c1,.slice d.a2 d.l2 d.c2,.slice d.a3 d.l3 d.c3,.slice d.a4 d.l4 d.c4,.slice d.a5 d.l5 d.c5,.int .i64 c.now]] w fun e w' => ∃ d',e = .returned (.agg #[.slice d'.a1 d'.l1 d'.c1,.slice d'.a2 d'.l2 d'.c2,.slice d'.a3 d'.l3 d'.c3,.slice d'.a4 d'.l4 d'.c4,.slice d'.a5 d'.l5 d'.c5,.int .i64 c.now]) ∧ ClFr w' d' c.raw (fun k => w.heap.size ≤ k) ∧ Below w.heap.size w w':=by
 obtain ⟨a1,l1,y1,a2,l2,y2,a3,l3,y3,a4,l4,y4,a5,l5,y5⟩:=d;dsimp only;have HR:=hidK hr
 have hl1 : c.ns.length = l1:=by simpa using (show (c.ns.map ndF).length = l1 from hr.n.1)
 have hm1 : l1 ≤ 9223372036854775807:=Nat.le_trans hr.n.2.1 hr.n.2.2.1
 have hl2 : c.ks.length = l2:=by simpa using (show (c.ks.map kdF).length = l2 from hr.k.1)
 have hm2 : l2 ≤ 9223372036854775807:=Nat.le_trans hr.k.2.1 hr.k.2.2.1
 have hl3 : c.vs.length = l3:=by simpa using (show (c.vs.map vdF).length = l3 from hr.v.1)
 have hm3 : l3 ≤ 9223372036854775807:=Nat.le_trans hr.v.2.1 hr.v.2.2.1
 have hl4 : c.xs.length = l4:=by simpa using (show (c.xs.map xdF).length = l4 from hr.x.1)
 have hm4 : l4 ≤ 9223372036854775807:=Nat.le_trans hr.x.2.1 hr.x.2.2.1
 have hl5 : c.ps.length = l5:=by simpa using (show (c.ps.map pdF).length = l5 from hr.p.1)
 have hm5 : l5 ≤ 9223372036854775807:=Nat.le_trans hr.p.2.1 hr.p.2.2.1;clear hr;have HS:=hidK hs;clear hs;obtain ⟨i2,hi2⟩:=Option.map_eq_some_iff.1 infokd;obtain ⟨i4,hi4⟩:=Option.map_eq_some_iff.1 infoxd;obtain ⟨i1,hi1⟩:=Option.map_eq_some_iff.1 infond;obtain ⟨i3,hi3⟩:=Option.map_eq_some_iff.1 infovd;obtain ⟨i5,hi5⟩:=Option.map_eq_some_iff.1 infopd;have HI1:=hidK hi1;have HI2:=hidK hi2;have HI3:=hidK hi3;have HI4:=hidK hi4;have HI5:=hidK hi5;clear hi1 hi2 hi3 hi4 hi5;obtain ⟨W,hW0⟩ : ∃ W,W = (w.alloc (.cells #[.slice a1 l1 y1,.slice a2 l2 y2,.slice a3 l3 y3,.slice a4 l4 y4,.slice a5 l5 y5,.int .i64 c.now] 38)).alloc (.cells #[.slice none 0 0,.slice none 0 0,.slice none 0 0,.slice none 0 0,.slice none 0 0,.int .i64 0] 38):=⟨_,rfl⟩
 have HB : Hid (Below w.heap.size w W):=by rw [hW0];exact below2 _ _ _
 have Bk : Hid (W.heap[w.heap.size]? = some (.cells #[.slice a1 l1 y1,.slice a2 l2 y2,.slice a3 l3 y3,.slice a4 l4 y4,.slice a5 l5 y5,.int .i64 c.now] 38 (0,0))):=by rw [hW0];exact heap2_0 _ _ _
 have Br : Hid (W.heap[w.heap.size + 1]? = some (.cells #[.slice none 0 0,.slice none 0 0,.slice none 0 0,.slice none 0 0,.slice none 0 0,.int .i64 0] 38 (0,0))):=by rw [hW0];exact heap2_1 _ _ _
 have hWs : W.heap.size = w.heap.size + 1 + 1:=by rw [hW0];simp
 go_enter Tryz.func51,Tryz.ntmps51
 go_wp2_with fail;rw [← hW0];clear hW0;rename_i K0 hK0;refine wp_region_grow_last (by kernel_rfl) rfl rfl (by kernel_rfl) ?_;refine Grow.step (EmF W.heap.size 111) rfl (EmF.mono _ _) ?_ ?_
 ·refine Obl.plain rfl ?_;intro ac wg K hsz hW hf hK;clear hsz;clear hf;go_simp;exact hK _ _ (below1 _ _) ⟨_,rfl,hW.size,Array.getElem?_push_size⟩
 refine' Grow.stepC _ rfl ?_ ?_;rotate_left 1
 ·refine Obl.plain rfl ?_;intro ac wg K hsz hW hf hK;clear hsz;have e1:=hf 1 (by decide)
  simp [slotFact,List.lookup] at e1
  clear hf;go_simp;refine hK _ _ (Below.refl _ _) ?_;with_reducible rfl
 refine' Grow.stepC _ rfl ?_ ?_;rotate_left 1
 ·refine Obl.plain rfl ?_;intro ac wg K hsz hW hf hK;clear hsz;have e10:=hf 10 (by decide)
  simp [slotFact,List.lookup] at e10
  clear hf;obtain ⟨k0,k1,k2,k3,k4,k5⟩:=cs6 ((hW.block _ (lt_of_some Bk.out)).trans Bk.out);go_simp;refine hK _ _ (Below.refl _ _) ?_;with_reducible rfl
 refine Grow.step (RwF W.heap.size l2 4 111 (c.ks.map kdF)) rfl (RwF.mono _ _ _ _ _) ?_ ?_
 ·refine Obl.plain rfl ?_;intro ac wg K hsz hW hf hK;clear hsz;have e9:=hf 9 (by decide)
  simp [slotFact,List.lookup] at e9
  have e11:=hf 11 (by decide)
  simp [slotFact,List.lookup] at e11
  clear hf;obtain ⟨b0,e9,hB0,hg0⟩:=e9
  have hz : i2.zero = some (.agg #[.string ⟨#[]⟩,.bool false,.bool false,.string ⟨#[]⟩]) ∧ i2.size = 4 ∧ i2.bytes = 40:=by have:=HI2.out.2;simp only [Prod.mk.injEq] at this;exact this
  refine wp_copy0 (.tmp 9) (.tmp 11) 33 111 rfl i2 (.agg #[.string ⟨#[]⟩,.bool false,.bool false,.string ⟨#[]⟩]) Tryz.underlying33 HI2.out.1 hz.1 hz.2.1 hz.2.2 rfl (by decide) (by decide) (by simpa [Act.eval] using e9) hg0 (by simpa [Act.eval] using e11) (HR.out.k.below (HB.out.trans (hW.mono HB.out.size))) (map_flat kd_flat _) (show l2 ≤ 8 by have:=HS.out.k;omega) (by decide) ?_;intro a' c' w' hR hb6;have hsw:=hW.size
  exact hK _ _ hb6 ⟨a',c',rfl,hR.into (fun k _ s => by show W.heap.size ≤ k;rcases s with rfl | s <;> omega)⟩
 refine Grow.step (EmF W.heap.size 114) rfl (EmF.mono _ _) ?_ ?_
 ·refine Obl.plain rfl ?_;intro ac wg K hsz hW hf hK;clear hsz;clear hf;go_simp;exact hK _ _ (below1 _ _) ⟨_,rfl,hW.size,Array.getElem?_push_size⟩
 refine' Grow.stepC _ rfl ?_ ?_;rotate_left 1
 ·refine Obl.plain rfl ?_;intro ac wg K hsz hW hf hK;clear hsz;have e1:=hf 1 (by decide)
  simp [slotFact,List.lookup] at e1
  clear hf;go_simp;refine hK _ _ (Below.refl _ _) ?_;with_reducible rfl
 refine' Grow.stepC _ rfl ?_ ?_;rotate_left 1
 ·refine Obl.plain rfl ?_;intro ac wg K hsz hW hf hK;clear hsz;have e14:=hf 14 (by decide)
  simp [slotFact,List.lookup] at e14
  clear hf;obtain ⟨k0,k1,k2,k3,k4,k5⟩:=cs6 ((hW.block _ (lt_of_some Bk.out)).trans Bk.out);go_simp;refine hK _ _ (Below.refl _ _) ?_;with_reducible rfl
 refine Grow.step (RwF W.heap.size l4 5 114 (c.xs.map xdF)) rfl (RwF.mono _ _ _ _ _) ?_ ?_
 ·refine Obl.plain rfl ?_;intro ac wg K hsz hW hf hK;clear hsz;have e13:=hf 13 (by decide)
  simp [slotFact,List.lookup] at e13
  have e15:=hf 15 (by decide)
  simp [slotFact,List.lookup] at e15
  clear hf;obtain ⟨b0,e13,hB0,hg0⟩:=e13
  have hz : i4.zero = some (.agg #[.string ⟨#[]⟩,.int .i64 0,.string ⟨#[]⟩,.bool false,.string ⟨#[]⟩]) ∧ i4.size = 5 ∧ i4.bytes = 64:=by have:=HI4.out.2;simp only [Prod.mk.injEq] at this;exact this
  refine wp_copy0 (.tmp 13) (.tmp 15) 35 114 rfl i4 (.agg #[.string ⟨#[]⟩,.int .i64 0,.string ⟨#[]⟩,.bool false,.string ⟨#[]⟩]) Tryz.underlying35 HI4.out.1 hz.1 hz.2.1 hz.2.2 rfl (by decide) (by decide) (by simpa [Act.eval] using e13) hg0 (by simpa [Act.eval] using e15) (HR.out.x.below (HB.out.trans (hW.mono HB.out.size))) (map_flat xd_flat _) (show l4 ≤ 8 by have:=HS.out.x;omega) (by decide) ?_;intro a' c' w' hR hb6;have hsw:=hW.size
  exact hK _ _ hb6 ⟨a',c',rfl,hR.into (fun k _ s => by show W.heap.size ≤ k;rcases s with rfl | s <;> omega)⟩
 refine' Grow.stepC _ rfl ?_ ?_;rotate_left 1
 ·refine Obl.plain rfl ?_;intro ac wg K hsz hW hf hK;clear hsz;have e1:=hf 1 (by decide)
  simp [slotFact,List.lookup] at e1
  clear hf;go_simp;refine hK _ _ (Below.refl _ _) ?_;with_reducible rfl
 refine' Grow.stepC _ rfl ?_ ?_;rotate_left 1
 ·refine Obl.plain rfl ?_;intro ac wg K hsz hW hf hK;clear hsz;have e17:=hf 17 (by decide)
  simp [slotFact,List.lookup] at e17
  clear hf;obtain ⟨k0,k1,k2,k3,k4,k5⟩:=cs6 ((hW.block _ (lt_of_some Bk.out)).trans Bk.out);go_simp;refine hK _ _ (Below.refl _ _) ?_;with_reducible rfl
 refine Grow.step (CpF W.heap.size l2 l4 c) rfl (CpF.mono _ _ _ _) ?_ ?_
 ·refine Obl.plain rfl ?_;intro ac wg K hsz hW hf hK;clear hsz;have e12:=hf 12 (by decide)
  simp [slotFact,List.lookup] at e12
  have e16:=hf 16 (by decide)
  simp [slotFact,List.lookup] at e16
  have e18:=hf 18 (by decide)
  simp [slotFact,List.lookup] at e18
  clear hf;obtain ⟨p2,q2,e12,h12⟩:=e12;obtain ⟨p4,q4,e16,h16⟩:=e16;have H12:=hidK h12;have H16:=hidK h16;clear h12 h16;go_simp;exact hK _ _ (Below.refl _ _) ⟨p2,q2,p4,q4,rfl,H12.out,H16.out⟩
 refine Grow.step (FrF W.heap.size) rfl (FrF.mono _) ?_ ?_
 ·refine Obl.plain rfl ?_;intro ac wg K hsz hW hf hK;clear hsz;clear hf;go_simp;exact hK _ _ (below1 _ _) ⟨_,rfl,hW.size,Array.getElem?_push_size⟩
 refine Grow.done ?_;intro q wz hW hf;simp only [List.forall_mem_cons] at hf;obtain ⟨⟨b3,h3,hb3,hg3⟩,⟨p2,q2,p4,q4,h19,hR2,hR4⟩,-⟩:=hf;obtain ⟨t0,t1,t2,t3,t4,t5⟩:=cs6 hg3;have f0:=froK hg3 0;have f1:=froK hg3 1;have f2:=froK hg3 2;have f3:=froK hg3 3;have f4:=froK hg3 4;have f5:=froK hg3 5;have BoX:=hidK (put6 (v0:=.slice none 0 0) (v1:=.slice p2 l2 q2) (v2:=.slice none 0 0) (v3:=.slice p4 l4 q4) (v4:=.slice none 0 0) (v5:=.int .i64 c.now) hg3);have HWX : Hid (Below W.heap.size W ((((((wz.setCell ⟨b3,0,none⟩ (.slice none 0 0)).setCell ⟨b3,1,none⟩ (.slice p2 l2 q2)).setCell ⟨b3,2,none⟩ (.slice none 0 0)).setCell ⟨b3,3,none⟩ (.slice p4 l4 q4)).setCell ⟨b3,4,none⟩ (.slice none 0 0)).setCell ⟨b3,5,none⟩ (.int .i64 c.now))):=set_below hb3 (set_below hb3 (set_below hb3 (set_below hb3 (set_below hb3 (set_below hb3 hW)))));have R2 : Hid (ROwn ((((((wz.setCell ⟨b3,0,none⟩ (.slice none 0 0)).setCell ⟨b3,1,none⟩ (.slice p2 l2 q2)).setCell ⟨b3,2,none⟩ (.slice none 0 0)).setCell ⟨b3,3,none⟩ (.slice p4 l4 q4)).setCell ⟨b3,4,none⟩ (.slice none 0 0)).setCell ⟨b3,5,none⟩ (.int .i64 c.now)) p2 l2 q2 4 111 (c.ks.map kdF) (fun k => W.heap.size ≤ k ∧ ¬ k = b3)):=(hR2.away hg3 (by decide) (by decide)).keep (fun k hk s => put6_ne s.2) (fun k _ s => s);have R4 : Hid (ROwn ((((((wz.setCell ⟨b3,0,none⟩ (.slice none 0 0)).setCell ⟨b3,1,none⟩ (.slice p2 l2 q2)).setCell ⟨b3,2,none⟩ (.slice none 0 0)).setCell ⟨b3,3,none⟩ (.slice p4 l4 q4)).setCell ⟨b3,4,none⟩ (.slice none 0 0)).setCell ⟨b3,5,none⟩ (.int .i64 c.now)) p4 l4 q4 5 114 (c.xs.map xdF) (fun k => W.heap.size ≤ k ∧ ¬ k = b3)):=(hR4.away hg3 (by decide) (by decide)).keep (fun k hk s => put6_ne s.2) (fun k _ s => s);clear hg3 hR2 hR4 hW;intro K hK;rw [if_pos (by rfl)];simp only [putsAll,List.foldr,Act.put,List.setIfInBounds_toArray,List.set_cons_zero,List.set_cons_succ,h3,h19];simp only [List.getLast];go_simp;refine hK _ _ ?_
 refine hK0 _ _ ?_;clear hK hK0 K K0
 generalize ((((((wz.setCell ⟨b3,0,none⟩ (.slice none 0 0)).setCell ⟨b3,1,none⟩ (.slice p2 l2 q2)).setCell ⟨b3,2,none⟩ (.slice none 0 0)).setCell ⟨b3,3,none⟩ (.slice p4 l4 q4)).setCell ⟨b3,4,none⟩ (.slice none 0 0)).setCell ⟨b3,5,none⟩ (.int .i64 c.now)) = X at BoX HWX R2 R4 ⊢
 clear t0 t1 t2 t3 t4 t5 f0 f1 f2 f3 f4 f5;have HBX:=hidK (HB.out.trans (HWX.out.mono HB.out.size));replace Bk:=hidK ((HWX.out.block _ (lt_of_some Bk.out)).trans Bk.out);replace Br:=hidK ((HWX.out.block _ (lt_of_some Br.out)).trans Br.out);have hb3X : b3 < X.heap.size:=lt_of_some BoX.out;clear HB
 go_wp2
 go_loopw [4] (fun vi wr => ∃ (k : Nat) (vss : List (List Value)) (H : Nat → Nat → Nat) (v : Value),k ≤ l1 ∧ vi = .int .i64 k ∧ Hid (KeptS (Cps b3 X) X wr) ∧ Hid (wr.ownsRow X.heap.size 109 7 v k vss.flatten) ∧ Hid (VRecs wr (fun k => X.heap.size ≤ k) 7 ((c.ns.take k).map ndF) vss H) ∧ Hid (wr.heap[b3]? = some (.cells #[v,.slice p2 l2 q2,.slice none 0 0,.slice p4 l4 q4,.slice none 0 0,.int .i64 c.now] 38 (0,0)))) (fun vi _ => l1 - (intOf vi).toNat)
 case atStart => exact ⟨0,[],fun _ _ => 0,.slice none 0 0,by omega,rfl,KeptS.refl _ _,World.ownsRow_nil _ _ _ _,VRecs.nil _ _ _ _,BoX⟩
 case round =>
  obtain ⟨k,vss,H,v,hk,rfl,HK,HO,HV,Bo⟩:=hrel;have hXs:=HBX.out.size
  have HBW:=hidK (HBX.out.trans (HK.out.low (X:=w.heap.size) hXs (fun k s => by rcases s with rfl | s <;> omega)))
  have BkR:=hidK ((HK.out.block w.heap.size (by omega) (fun s => by rcases s with s | s <;> omega)).trans Bk.out)
  have hKs:=HK.out.size
  by_cases hlt : k < l1
  ·obtain ⟨b,o,x,rfl,hb0,hx,hat⟩:=nd_at HR.out.n hlt;obtain ⟨va,vl,vc,hvr,z0,z1,c0,c1,c2,c3,c4,c5,c6⟩:=nd_cells hat
   have hz8 : vl ≤ 8001:=by have h1:=hvr.1;have h2:=HS.out.ns k x hx;omega
   have HX:=hidK hx;have HT:=hidK hvr;have HZz0:=hidK z0;have HZz1:=hidK z1;clear hat hx hvr z0 z1;replace c0:=(cell_below HBW.out hb0).trans c0;replace c1:=(cell_below HBW.out hb0).trans c1;replace c2:=(cell_below HBW.out hb0).trans c2;replace c3:=(cell_below HBW.out hb0).trans c3;replace c4:=(cell_below HBW.out hb0).trans c4;replace c5:=(cell_below HBW.out hb0).trans c5;replace c6:=(cell_below HBW.out hb0).trans c6;have hbr : b < wr.heap.size:=Nat.lt_of_lt_of_le hb0 HBW.out.size;have hkr:=lt_of_some BkR.out;have hor:=lt_of_some Bo.out
   have hz : i1.zero = some (.agg #[.string ⟨#[]⟩,.string ⟨#[]⟩,.int .i64 0,.int .i64 0,.int .i64 0,.bool false,.slice none 0 0]) ∧ i1.size = 7 ∧ i1.bytes = 88:=by have:=HI1.out.2;simp only [Prod.mk.injEq] at this;exact this
   obtain ⟨k0,k1,k2,k3,k4,k5⟩:=cs6 BkR.out
   go_wp2_with (first | (at_builtin;refine wpList_texts rfl _ _ rfl (wr.heap.size + 1) rfl (heap2_1 _ _ _) va vl vc rfl x.zs (HT.out.below (HBW.out.trans ((below2 _ _ _).mono HBW.out.size))) hz8 ?_))
   intro a' l' c' w2 hT2 hb2;obtain ⟨hn2,-,hbx⟩:=slots2n hb2;obtain ⟨g,hg⟩:=hT2.fr
   have hs2 : wr.heap.size + 1 < w2.heap.size:=by have:=hb2.size;simp at this;omega
   have hsl : ∀ k,(k = wr.heap.size + 1 ∨ wr.heap.size + 1 + 1 ≤ k) → wr.heap.size + 1 ≤ k:=fun k s => by omega
   have hb4 : Below wr.heap.size wr ((w2.setCell ⟨wr.heap.size,6,none⟩ (.slice a' l' c')).alloc (.cells #[.string x.n,.string x.z,.int .i64 x.c,.int .i64 x.s,.int .i64 x.u,.bool x.d,.slice a' l' c'] 109)):=(set_below (Nat.le_refl _) hbx).alloc (by simp [World.setCell];omega) _;have HF4 : Hid (LFr ((w2.setCell ⟨wr.heap.size,6,none⟩ (.slice a' l' c')).alloc (.cells #[.string x.n,.string x.z,.int .i64 x.c,.int .i64 x.s,.int .i64 x.u,.bool x.d,.slice a' l' c'] 109)) g (fun k => X.heap.size ≤ k) x.zs (.slice a' l' c')):=hg.keep (fun cu _ q => (Below.heap_alloc _ _ _ (by simp [World.setCell];exact lt_of_some q)).trans (Below.heap_setCell _ _ _ _ (fun e => by subst e;rw [hn2] at q;cases q))) (fun _ s => by have:=hsl _ s;show X.heap.size ≤ g;omega)
   have HG : Hid (∀ zs : List ByteArray,x.zs = zs → zs ≠ [] → wr.heap.size ≤ g):=fun zs e hz => by subst e;have:=hsl _ (hg.lt hz).1;omega
   have HB4:=hidK hb4;have HO4:=hidK (owns_below HO.out hb4);obtain ⟨n0,n1,n2,n3,n4,n5,n6⟩:=cs7 hn2;have fn0:=froK hn2 0;have fn1:=froK hn2 1;have fn2:=froK hn2 2;have fn3:=froK hn2 3;have fn4:=froK hn2 4;have fn5:=froK hn2 5;have fn6:=froK hn2 6;have bo2:=(hbx.block _ hor).trans Bo.out;obtain ⟨o0,o1,o2,o3,o4,o5⟩:=cs6 bo2;have hor2 : b3 < w2.heap.size:=lt_of_some bo2
   have hne3 : ¬ b3 = wr.heap.size:=by omega
   clear hn2 hbx hT2 hg hb2 hsl hb4 bo2 k0 k1 k2 k3 k4 k5 c0 c1 c2 c3 c4 c5 c6
   go_wp2_with (first | (at_builtin;refine wpList_append_own _ rfl _ _ 32 rfl X.heap.size 109 i1 (.agg #[.string ⟨#[]⟩,.string ⟨#[]⟩,.int .i64 0,.int .i64 0,.int .i64 0,.bool false,.slice none 0 0]) 7 88 Tryz.underlying32 HI1.out.1 hz.1 hz.2.1 hz.2.2 rfl (by decide) _ _ _ rfl HO4.out ⟨w2.heap.size,0,none⟩ 1 1 [.string x.n,.string x.z,.int .i64 x.c,.int .i64 x.s,.int .i64 x.u,.bool x.d,.slice a' l' c'] rfl rfl ?c1 ?c2 ?c3 ?c4 ?c5 ?_))
   case c1 => exact news_alloc_at _ _ (by simp [World.setCell]) _ _
   case c2 => intro u hu;simp only [List.mem_cons,List.not_mem_nil,or_false] at hu;rcases hu with rfl | rfl | rfl | rfl | rfl | rfl | rfl <;> rfl
   case c3 => unfold maxLen;have:=HS.out.n;omega
   case c4 => have:=HS.out.n;omega
   case c5 => simp [World.setCell];omega
   rintro v' w5 hown5 hgrow -;obtain ⟨v1',v2',v3',rfl⟩:=owns_slice hown5;clear n0 fn0 n1 fn1 n2 fn2 n3 fn3 n4 fn4 n5 fn5 n6 fn6 o0 o1 o2 o3 o4 o5;have bo5:=cp_blk HO.out Bo.out hb3X HB4.out hgrow;obtain ⟨hs1,hs2',⟨H',hs3⟩,hs4⟩:=cp_step (f:=0) (r:=ndF x) (vs:=[.string x.n,.string x.z,.int .i64 x.c,.int .i64 x.s,.int .i64 x.u,.bool x.d,.slice a' l' c']) (hh:=g) HK.out HO.out HV.out Bo.out hb3X HB4.out hown5 hgrow (by decide) (by decide) (by decide) rfl rfl (nd_fr HZz0.out HZz1.out HF4.out) (fun i zs hi hz => HG.out zs (nd_l hi).2.symm hz) (fun i i' zs zs' h1 _ h2 _ => (nd_l h1).1.trans (nd_l h2).1.symm)
   have e1 : (c.ns.take (k + 1)).map ndF = (c.ns.take k).map ndF ++ [ndF x]:=by rw [List.take_add_one,HX.out];simp
   rw [← e1] at hs3;have HS1:=hidK hs1;have HS2:=hidK hs2';have HS3:=hidK hs3;have HS4:=hidK hs4;obtain ⟨o0,o1,o2,o3,o4,o5⟩:=cs6 bo5;have fo0:=froK bo5 0;have fo1:=froK bo5 1;have fo2:=froK bo5 2;have fo3:=froK bo5 3;have fo4:=froK bo5 4;have fo5:=froK bo5 5;clear hs1 hs2' hs3 hs4 bo5 hown5 hgrow e1
   go_wp2
   exact ⟨⟨k + 1,_,H',_,by omega,by go_num,HS1,HS2,HS3,HS4⟩,by simp [intOf];omega⟩
  ·have hkl : k = l1:=by omega
   have h5:=HV.out;rw [List.take_of_length_le (by omega)] at h5;obtain ⟨p1,q1,hv,hR⟩:=h5.own HO.out (by simp;omega) (by decide) (fun g hg => (HO.out.lt g hg).1)
   have hl5 : (c.ns.map ndF).length = l1:=by simpa using hl1
   rw [hl5] at hv hR;subst hv;have R1:=hidK (hR.away Bo.out (by decide) (by decide))
   replace R2:=hidK (R2.out.keep (fun k hk s => HK.out.block k hk (fun q9 => by rcases q9 with q9 | q9;exact s.2 q9;omega)) (fun _ _ s => s))
   replace R4:=hidK (R4.out.keep (fun k hk s => HK.out.block k hk (fun q9 => by rcases q9 with q9 | q9;exact s.2 q9;omega)) (fun _ _ s => s))
   replace Br:=hidK ((HK.out.block (w.heap.size + 1) (by omega) (fun s => by rcases s with s | s <;> omega)).trans Br.out)
   replace Bk:=BkR;replace BoX:=Bo;replace HBX:=HBW;have hb3X1 : b3 < wr.heap.size:=lt_of_some BoX.out;clear BkR Bo HBW h5 hR HV HO HK hl5 hkl hk hKs hXs
   generalize wr = X1 at *
   obtain ⟨k0,k1,k2,k3,k4,k5⟩:=cs6 Bk.out
   go_wp2
   clear k0 k1 k2 k3 k4 k5 hlt
   go_loopw [6] (fun vi wr => ∃ (k : Nat) (vss : List (List Value)) (H : Nat → Nat → Nat) (v : Value),k ≤ l3 ∧ vi = .int .i64 k ∧ Hid (KeptS (Cps b3 X1) X1 wr) ∧ Hid (wr.ownsRow X1.heap.size 81 8 v k vss.flatten) ∧ Hid (VRecs wr (fun k => X1.heap.size ≤ k) 8 ((c.vs.take k).map vdF) vss H) ∧ Hid (wr.heap[b3]? = some (.cells #[.slice p1 l1 q1,.slice p2 l2 q2,v,.slice p4 l4 q4,.slice none 0 0,.int .i64 c.now] 38 (0,0)))) (fun vi _ => l3 - (intOf vi).toNat)
   case atStart => exact ⟨0,[],fun _ _ => 0,.slice none 0 0,by omega,rfl,KeptS.refl _ _,World.ownsRow_nil _ _ _ _,VRecs.nil _ _ _ _,BoX⟩
   case round =>
    obtain ⟨k,vss,H,v,hk,rfl,HK,HO,HV,Bo⟩:=hrel;have hXs:=HBX.out.size
    have HBW:=hidK (HBX.out.trans (HK.out.low (X:=w.heap.size) hXs (fun k s => by rcases s with rfl | s <;> omega)))
    have BkR:=hidK ((HK.out.block w.heap.size (by omega) (fun s => by rcases s with s | s <;> omega)).trans Bk.out)
    have hKs:=HK.out.size
    by_cases hlt : k < l3
    ·obtain ⟨b,o,x,rfl,hb0,hx,hat⟩:=vd_at HR.out.v hlt;obtain ⟨va,vl,vc,hvr,z0,z2,z3,z5,c0,c1,c2,c3,c4,c5,c6,c7⟩:=vd_cells hat
     have hz8 : vl ≤ 8001:=by have h1:=hvr.1;have h2:=HS.out.vs k x hx;omega
     have HX:=hidK hx;have HT:=hidK hvr;have HZz0:=hidK z0;have HZz2:=hidK z2;have HZz3:=hidK z3;have HZz5:=hidK z5;clear hat hx hvr z0 z2 z3 z5;replace c0:=(cell_below HBW.out hb0).trans c0;replace c1:=(cell_below HBW.out hb0).trans c1;replace c2:=(cell_below HBW.out hb0).trans c2;replace c3:=(cell_below HBW.out hb0).trans c3;replace c4:=(cell_below HBW.out hb0).trans c4;replace c5:=(cell_below HBW.out hb0).trans c5;replace c6:=(cell_below HBW.out hb0).trans c6;replace c7:=(cell_below HBW.out hb0).trans c7;have hbr : b < wr.heap.size:=Nat.lt_of_lt_of_le hb0 HBW.out.size;have hkr:=lt_of_some BkR.out;have hor:=lt_of_some Bo.out
     have hz : i3.zero = some (.agg #[.string ⟨#[]⟩,.int .i64 0,.string ⟨#[]⟩,.string ⟨#[]⟩,.bool false,.string ⟨#[]⟩,.bool false,.slice none 0 0]) ∧ i3.size = 8 ∧ i3.bytes = 112:=by have:=HI3.out.2;simp only [Prod.mk.injEq] at this;exact this
     obtain ⟨k0,k1,k2,k3,k4,k5⟩:=cs6 BkR.out;have hvb : ∀ g,v.ownBlock = some g → g < wr.heap.size:=fun g hg => (HO.out.lt g hg).2;have hb0w : b < w.heap.size:=hb0;go_wp2_with fail;clear k0 k1 k2 k3 k4 k5;rename_i K0 hK0;refine Gi.wp_region_grow_last (R:=Rv v.ownBlock 59) (ex:=fun _ => none) (Rv.rel _ _) (by kernel_rfl) rfl rfl (by kernel_rfl) (by kernel_rfl) ?_;refine' Gi.Grow.stepC _ rfl ?_ ?_;rotate_left 1
     ·refine Gi.Obl.plain rfl ?_;intro ac wg K lo hi hsz hW hpr hf hap hK;clear hsz hap hpr;have hW : wr.grownBy wg v.ownBlock:=hW;have e3:=hf 3 (by decide)
      simp [Gi.slotFact,List.lookup] at e3
      clear hf;go_simp;refine hK _ _ (Rv.other (by decide) (Below.refl _ _)) ?_;with_reducible rfl
     refine' Gi.Grow.stepC _ rfl ?_ ?_;rotate_left 1
     ·refine Gi.Obl.plain rfl ?_;intro ac wg K lo hi hsz hW hpr hf hap hK;clear hsz hap hpr;have hW : wr.grownBy wg v.ownBlock:=hW;have e50:=hf 50 (by decide)
      simp [Gi.slotFact,List.lookup] at e50
      clear hf;obtain ⟨o0,o1,o2,o3,o4,o5⟩:=cs6 ((hW.block b3 hor (fun e => by have:=(HO.out.lt _ e.symm).1;omega)).trans Bo.out);go_simp;refine hK _ _ (Rv.other (by decide) (Below.refl _ _)) ?_;with_reducible rfl
     refine' Gi.Grow.stepC _ rfl ?_ ?_;rotate_left 1
     ·refine Gi.Obl.plain rfl ?_;intro ac wg K lo hi hsz hW hpr hf hap hK;clear hsz hap hpr;have hW : wr.grownBy wg v.ownBlock:=hW;have e1:=hf 1 (by decide)
      simp [Gi.slotFact,List.lookup] at e1
      clear hf;go_simp;refine hK _ _ (Rv.other (by decide) (Below.refl _ _)) ?_;with_reducible rfl
     refine' Gi.Grow.stepC _ rfl ?_ ?_;rotate_left 1
     ·refine Gi.Obl.plain rfl ?_;intro ac wg K lo hi hsz hW hpr hf hap hK;clear hsz hap hpr;have hW : wr.grownBy wg v.ownBlock:=hW;have e52:=hf 52 (by decide)
      simp [Gi.slotFact,List.lookup] at e52
      clear hf;obtain ⟨k0,k1,k2,k3,k4,k5⟩:=cs6 ((hW.block w.heap.size hkr (fun e => by have:=(HO.out.lt _ e.symm).1;omega)).trans BkR.out);go_simp;refine hK _ _ (Rv.other (by decide) (Below.refl _ _)) ?_;with_reducible rfl
     refine' Gi.Grow.stepC _ rfl ?_ ?_;rotate_left 1
     ·refine Gi.Obl.plain rfl ?_;intro ac wg K lo hi hsz hW hpr hf hap hK;clear hsz hap hpr;have hW : wr.grownBy wg v.ownBlock:=hW;have e6:=hf 6 (by decide)
      simp [Gi.slotFact,List.lookup] at e6
      clear hf;go_simp;refine hK _ _ (Rv.other (by decide) (Below.refl _ _)) ?_;with_reducible rfl
     refine' Gi.Grow.stepC _ rfl ?_ ?_;rotate_left 1
     ·refine Gi.Obl.plain rfl ?_;intro ac wg K lo hi hsz hW hpr hf hap hK;clear hsz hap hpr;have hW : wr.grownBy wg v.ownBlock:=hW;have e53:=hf 53 (by decide)
      simp [Gi.slotFact,List.lookup] at e53
      have e54:=hf 54 (by decide)
      simp [Gi.slotFact,List.lookup] at e54
      clear hf;go_simp;refine hK _ _ (Rv.other (by decide) (Below.refl _ _)) ?_;with_reducible rfl
     refine' Gi.Grow.stepC _ rfl ?_ ?_;rotate_left 1
     ·refine Gi.Obl.plain rfl ?_;intro ac wg K lo hi hsz hW hpr hf hap hK;clear hsz hap hpr;have hW : wr.grownBy wg v.ownBlock:=hW;have e55:=hf 55 (by decide)
      simp [Gi.slotFact,List.lookup] at e55
      clear hf;have c0g:=(World.cell?_of_block (hW.block b hbr (fun e => by have:=(HO.out.lt _ e.symm).1;omega))).trans c0;have c1g:=(World.cell?_of_block (hW.block b hbr (fun e => by have:=(HO.out.lt _ e.symm).1;omega))).trans c1;have c2g:=(World.cell?_of_block (hW.block b hbr (fun e => by have:=(HO.out.lt _ e.symm).1;omega))).trans c2;have c3g:=(World.cell?_of_block (hW.block b hbr (fun e => by have:=(HO.out.lt _ e.symm).1;omega))).trans c3;have c4g:=(World.cell?_of_block (hW.block b hbr (fun e => by have:=(HO.out.lt _ e.symm).1;omega))).trans c4;have c5g:=(World.cell?_of_block (hW.block b hbr (fun e => by have:=(HO.out.lt _ e.symm).1;omega))).trans c5;have c6g:=(World.cell?_of_block (hW.block b hbr (fun e => by have:=(HO.out.lt _ e.symm).1;omega))).trans c6;have c7g:=(World.cell?_of_block (hW.block b hbr (fun e => by have:=(HO.out.lt _ e.symm).1;omega))).trans c7;go_simp;refine hK _ _ (Rv.other (by decide) (Below.refl _ _)) ?_;with_reducible rfl
     refine Gi.Grow.step (TvF wr.heap.size x) rfl (TvF.mono hvb) ?_ ?_
     ·refine Gi.Obl.plain rfl ?_;intro ac wg K lo hi hsz hW hpr hf hap hK;clear hsz hap hpr;have hW : wr.grownBy wg v.ownBlock:=hW;have e56:=hf 56 (by decide)
      simp [Gi.slotFact,List.lookup] at e56
      clear hf;have hBg:=HBW.out.grown hW HBW.out.size (fun g hg => by have:=(HO.out.lt g hg).1;omega);go_simp;refine (Ap.scopy_any x.n x.c x.z x.k x.x x.m x.y va vl vc x.zs _ (HT.out.below hBg) hz8).mono ?_;rintro e w6 ⟨a',l',c',rfl,ho1,ho2,hb6⟩;have hws:=hW.size;exact hK _ _ (Rv.other (by decide) hb6) ⟨a',l',c',rfl,TOwn.into ⟨ho1,ho2⟩ (fun k _ s => Nat.le_trans hws s)⟩
     refine Gi.Grow.step (BsF wr.heap.size x) rfl (BsF.mono hvb) ?_ ?_
     ·refine Gi.Obl.plain rfl ?_;intro ac wg K lo hi hsz hW hpr hf hap hK;clear hsz hap hpr;have hW : wr.grownBy wg v.ownBlock:=hW;have e57:=hf 57 (by decide)
      simp [Gi.slotFact,List.lookup] at e57
      clear hf;obtain ⟨a',l',c',e57,ho⟩:=e57;have HO7:=hidK ho;clear ho;go_simp;exact hK _ _ (Rv.other (by decide) (below1 _ _)) ⟨_,a',l',c',rfl,hW.size,Array.getElem?_push_size,HO7.out.below (below1 _ _)⟩
     refine Gi.Grow.step (ApF X1.heap.size k ((c.vs.take (k + 1)).map vdF) vss) rfl (ApF.mono) ?_ ?_
     ·refine Gi.Obl.plain rfl ?_;intro ac wg K lo hi hsz hW hpr hf hap hK;clear hsz hap;have hW : wr.grownBy wg v.ownBlock:=hW;have e51:=hf 51 (by decide)
      simp [Gi.slotFact,List.lookup] at e51
      have e58:=hf 58 (by decide)
      simp [Gi.slotFact,List.lookup] at e58
      clear hf;have hbW : Below wr.heap.size wr wg:=hpr rfl;clear hpr;obtain ⟨b5,a',l',c',e58,hb5,hg5,ho5⟩:=e58;obtain ⟨g,hg⟩:=ho5.fr;have hws:=hW.size
      refine wp_append_own wg (.tmp 51) (.tmp 58) 34 rfl X1.heap.size 81 i3 (.agg #[.string ⟨#[]⟩,.int .i64 0,.string ⟨#[]⟩,.string ⟨#[]⟩,.bool false,.string ⟨#[]⟩,.bool false,.slice none 0 0]) 8 112 Tryz.underlying34 HI3.out.1 hz.1 hz.2.1 hz.2.2 rfl (by decide) v k vss.flatten (by simpa [Act.eval] using e51) (owns_below HO.out hbW) ⟨b5,0,none⟩ 1 1 [.string x.n,.int .i64 x.c,.string x.z,.string x.k,.bool x.x,.string x.m,.bool x.y,.slice a' l' c'] (by simpa [Act.eval] using e58) rfl (news_blk hg5) (by intro u hu;simp only [List.mem_cons,List.not_mem_nil,or_false] at hu;rcases hu with rfl | rfl | rfl | rfl | rfl | rfl | rfl | rfl <;> rfl) (by unfold maxLen;have:=HS.out.v;omega) (by have:=HS.out.v;omega) (by omega) ?_
      intro v' w' hown hgr _;have hV:=HV.out.app (r:=vdF x) (vs:=[.string x.n,.int .i64 x.c,.string x.z,.string x.k,.bool x.x,.string x.m,.bool x.y,.slice a' l' c']) (hh:=g) hbW (owns_below HO.out hbW) (by decide) hgr rfl rfl (vd_fr HZz0.out HZz2.out HZz3.out HZz5.out (hg.keep (S':=fun k => X1.heap.size ≤ k) (fun cu _ q => rfl) (fun _ s => by have s1 : wr.heap.size ≤ g:=s;show X1.heap.size ≤ g;omega))) (fun i zs hi hz => by obtain ⟨_,rfl⟩:=vd_l hi;exact (hg.lt hz).1) (fun i i' zs zs' h1 _ h2 _ => (vd_l h1).1.trans (vd_l h2).1.symm)
      have e1 : (c.vs.take (k + 1)).map vdF = (c.vs.take k).map vdF ++ [vdF x]:=by rw [List.take_add_one,HX.out];simp
      rw [← e1] at hV;exact hK _ _ (Rv.this hgr) ⟨_,[.string x.n,.int .i64 x.c,.string x.z,.string x.k,.bool x.x,.string x.m,.bool x.y,.slice a' l' c'],by rw [List.flatten_append];simpa using hown,hV⟩
     refine' Gi.Grow.stepC _ rfl ?_ ?_;rotate_left 1
     ·refine Gi.Obl.plain rfl ?_;intro ac wg K lo hi hsz hW hpr hf hap hK;clear hsz hap hpr;have hW : wr.grownBy wg v.ownBlock:=hW;have e3:=hf 3 (by decide)
      simp [Gi.slotFact,List.lookup] at e3
      clear hf;go_simp;refine hK _ _ (Rv.other (by decide) (Below.refl _ _)) ?_;with_reducible rfl
     refine Gi.Grow.done ?_;intro q wz lo hi hW hf hap;clear hap;have hW : wr.grownBy wz v.ownBlock:=hW;simp only [List.forall_mem_cons] at hf;obtain ⟨h60,h59,-⟩:=hf;have h60:=h60 (by first | trivial | rfl);obtain ⟨H',vs',hs2,hs3⟩:=h59 (by first | trivial | rfl);obtain ⟨v',hv'⟩ : ∃ v',q 59 = v':=⟨_,rfl⟩;rw [hv'] at hs2;obtain ⟨v1',v2',v3',rfl⟩:=owns_slice hs2;have bo5:=(hW.block b3 hor (fun e => by have:=(HO.out.lt _ e.symm).1;omega)).trans Bo.out;have HS1:=hidK (((HK.out.trans (KeptS.of_grown hW (fun g e => .inr (HO.out.lt g e).1))).set (i:=2) (v:=.slice v1' v2' v3') (.inl rfl)));have HS2:=hidK (owns_set (i:=2) (u:=.slice v1' v2' v3') hs2 bo5 (by decide));have HS3:=hidK (hs3.set (i:=2) (u:=.slice v1' v2' v3') bo5 (by decide));have HS4:=hidK (block_set (i:=2) bo5 (.slice v1' v2' v3'));obtain ⟨o0,o1,o2,o3,o4,o5⟩:=cs6 bo5;have fo0:=froK bo5 0;have fo1:=froK bo5 1;have fo2:=froK bo5 2;have fo3:=froK bo5 3;have fo4:=froK bo5 4;have fo5:=froK bo5 5;clear bo5 hs2 hs3 hW c0 c1 c2 c3 c4 c5 c6 c7;intro K hK;rw [if_pos (by rfl)];simp only [Gi.putsAll,List.foldr,Act.put,List.setIfInBounds_toArray,List.set_cons_zero,List.set_cons_succ,h60,hv'];simp only [List.getLast];go_simp;refine hK _ _ ?_;refine hK0 _ _ ?_;clear hK hK0 K K0
     go_wp2
     exact ⟨⟨k + 1,_,H',_,by omega,by go_num,HS1,HS2,HS3,HS4⟩,by simp [intOf];omega⟩
    ·have hkl : k = l3:=by omega
     have h5:=HV.out;rw [List.take_of_length_le (by omega)] at h5;obtain ⟨p3,q3,hv,hR⟩:=h5.own HO.out (by simp;omega) (by decide) (fun g hg => (HO.out.lt g hg).1)
     have hl5 : (c.vs.map vdF).length = l3:=by simpa using hl3
     rw [hl5] at hv hR;subst hv;have R3:=hidK (hR.away Bo.out (by decide) (by decide))
     replace R2:=hidK (R2.out.keep (fun k hk s => HK.out.block k hk (fun q9 => by rcases q9 with q9 | q9;exact s.2 q9;omega)) (fun _ _ s => s))
     replace R4:=hidK (R4.out.keep (fun k hk s => HK.out.block k hk (fun q9 => by rcases q9 with q9 | q9;exact s.2 q9;omega)) (fun _ _ s => s))
     replace R1:=hidK (R1.out.keep (fun k hk s => HK.out.block k hk (fun q9 => by rcases q9 with q9 | q9;exact s.2 q9;omega)) (fun _ _ s => s))
     replace Br:=hidK ((HK.out.block (w.heap.size + 1) (by omega) (fun s => by rcases s with s | s <;> omega)).trans Br.out)
     replace Bk:=BkR;replace BoX:=Bo;replace HBX:=HBW;have hb3X2 : b3 < wr.heap.size:=lt_of_some BoX.out;clear BkR Bo HBW h5 hR HV HO HK hl5 hkl hk hKs hXs
     generalize wr = X2 at *
     obtain ⟨k0,k1,k2,k3,k4,k5⟩:=cs6 Bk.out
     go_wp2
     clear k0 k1 k2 k3 k4 k5 hlt
     go_loopw [7] (fun vi wr => ∃ (k : Nat) (vss : List (List Value)) (H : Nat → Nat → Nat) (v : Value),k ≤ l5 ∧ vi = .int .i64 k ∧ Hid (KeptS (Cps b3 X2) X2 wr) ∧ Hid (wr.ownsRow X2.heap.size 107 6 v k vss.flatten) ∧ Hid (VRecs wr (fun k => X2.heap.size ≤ k) 6 ((c.ps.take k).map pdF) vss H) ∧ Hid (wr.heap[b3]? = some (.cells #[.slice p1 l1 q1,.slice p2 l2 q2,.slice p3 l3 q3,.slice p4 l4 q4,v,.int .i64 c.now] 38 (0,0)))) (fun vi _ => l5 - (intOf vi).toNat)
     case atStart => exact ⟨0,[],fun _ _ => 0,.slice none 0 0,by omega,rfl,KeptS.refl _ _,World.ownsRow_nil _ _ _ _,VRecs.nil _ _ _ _,BoX⟩
     case round =>
      obtain ⟨k,vss,H,v,hk,rfl,HK,HO,HV,Bo⟩:=hrel;have hXs:=HBX.out.size
      have HBW:=hidK (HBX.out.trans (HK.out.low (X:=w.heap.size) hXs (fun k s => by rcases s with rfl | s <;> omega)))
      have BkR:=hidK ((HK.out.block w.heap.size (by omega) (fun s => by rcases s with s | s <;> omega)).trans Bk.out)
      have hKs:=HK.out.size
      by_cases hlt : k < l5
      ·obtain ⟨b,o,x,rfl,hb0,hx,hat⟩:=pd_at HR.out.p hlt;obtain ⟨va,vl,vc,hvr,z0,z2,z4,c0,c1,c2,c3,c4,c5⟩:=pd_cells hat
       have hz8 : vl ≤ 8001:=by have h1:=hvr.1;have h2:=HS.out.ps k x hx;omega
       have HX:=hidK hx;have HT:=hidK hvr;have HZz0:=hidK z0;have HZz2:=hidK z2;have HZz4:=hidK z4;clear hat hx hvr z0 z2 z4;replace c0:=(cell_below HBW.out hb0).trans c0;replace c1:=(cell_below HBW.out hb0).trans c1;replace c2:=(cell_below HBW.out hb0).trans c2;replace c3:=(cell_below HBW.out hb0).trans c3;replace c4:=(cell_below HBW.out hb0).trans c4;replace c5:=(cell_below HBW.out hb0).trans c5;have hbr : b < wr.heap.size:=Nat.lt_of_lt_of_le hb0 HBW.out.size;have hkr:=lt_of_some BkR.out;have hor:=lt_of_some Bo.out
       have hz : i5.zero = some (.agg #[.string ⟨#[]⟩,.int .i64 0,.string ⟨#[]⟩,.slice none 0 0,.string ⟨#[]⟩,.int .i64 0]) ∧ i5.size = 6 ∧ i5.bytes = 88:=by have:=HI5.out.2;simp only [Prod.mk.injEq] at this;exact this
       obtain ⟨k0,k1,k2,k3,k4,k5⟩:=cs6 BkR.out
       go_wp2_with (first | (at_builtin;refine wpList_texts rfl _ _ rfl (wr.heap.size + 1) rfl (heap2_1 _ _ _) va vl vc rfl x.zs (HT.out.below (HBW.out.trans ((below2 _ _ _).mono HBW.out.size))) hz8 ?_))
       intro a' l' c' w2 hT2 hb2;obtain ⟨hn2,-,hbx⟩:=slots2n hb2;obtain ⟨g,hg⟩:=hT2.fr
       have hs2 : wr.heap.size + 1 < w2.heap.size:=by have:=hb2.size;simp at this;omega
       have hsl : ∀ k,(k = wr.heap.size + 1 ∨ wr.heap.size + 1 + 1 ≤ k) → wr.heap.size + 1 ≤ k:=fun k s => by omega
       have hb4 : Below wr.heap.size wr ((w2.setCell ⟨wr.heap.size,3,none⟩ (.slice a' l' c')).alloc (.cells #[.string x.n,.int .i64 x.c,.string x.z,.slice a' l' c',.string x.d,.int .i64 x.p] 107)):=(set_below (Nat.le_refl _) hbx).alloc (by simp [World.setCell];omega) _;have HF4 : Hid (LFr ((w2.setCell ⟨wr.heap.size,3,none⟩ (.slice a' l' c')).alloc (.cells #[.string x.n,.int .i64 x.c,.string x.z,.slice a' l' c',.string x.d,.int .i64 x.p] 107)) g (fun k => X2.heap.size ≤ k) x.zs (.slice a' l' c')):=hg.keep (fun cu _ q => (Below.heap_alloc _ _ _ (by simp [World.setCell];exact lt_of_some q)).trans (Below.heap_setCell _ _ _ _ (fun e => by subst e;rw [hn2] at q;cases q))) (fun _ s => by have:=hsl _ s;show X2.heap.size ≤ g;omega)
       have HG : Hid (∀ zs : List ByteArray,x.zs = zs → zs ≠ [] → wr.heap.size ≤ g):=fun zs e hz => by subst e;have:=hsl _ (hg.lt hz).1;omega
       have HB4:=hidK hb4;have HO4:=hidK (owns_below HO.out hb4);obtain ⟨n0,n1,n2,n3,n4,n5⟩:=cs6 hn2;have fn0:=froK hn2 0;have fn1:=froK hn2 1;have fn2:=froK hn2 2;have fn3:=froK hn2 3;have fn4:=froK hn2 4;have fn5:=froK hn2 5;have bo2:=(hbx.block _ hor).trans Bo.out;obtain ⟨o0,o1,o2,o3,o4,o5⟩:=cs6 bo2;have hor2 : b3 < w2.heap.size:=lt_of_some bo2
       have hne3 : ¬ b3 = wr.heap.size:=by omega
       clear hn2 hbx hT2 hg hb2 hsl hb4 bo2 k0 k1 k2 k3 k4 k5 c0 c1 c2 c3 c4 c5
       go_wp2_with (first | (at_builtin;refine wpList_append_own _ rfl _ _ 36 rfl X2.heap.size 107 i5 (.agg #[.string ⟨#[]⟩,.int .i64 0,.string ⟨#[]⟩,.slice none 0 0,.string ⟨#[]⟩,.int .i64 0]) 6 88 Tryz.underlying36 HI5.out.1 hz.1 hz.2.1 hz.2.2 rfl (by decide) _ _ _ rfl HO4.out ⟨w2.heap.size,0,none⟩ 1 1 [.string x.n,.int .i64 x.c,.string x.z,.slice a' l' c',.string x.d,.int .i64 x.p] rfl rfl ?c1 ?c2 ?c3 ?c4 ?c5 ?_))
       case c1 => exact news_alloc_at _ _ (by simp [World.setCell]) _ _
       case c2 => intro u hu;simp only [List.mem_cons,List.not_mem_nil,or_false] at hu;rcases hu with rfl | rfl | rfl | rfl | rfl | rfl <;> rfl
       case c3 => unfold maxLen;have:=HS.out.p;omega
       case c4 => have:=HS.out.p;omega
       case c5 => simp [World.setCell];omega
       rintro v' w5 hown5 hgrow -;obtain ⟨v1',v2',v3',rfl⟩:=owns_slice hown5;clear n0 fn0 n1 fn1 n2 fn2 n3 fn3 n4 fn4 n5 fn5 o0 o1 o2 o3 o4 o5;have bo5:=cp_blk HO.out Bo.out hb3X2 HB4.out hgrow;obtain ⟨hs1,hs2',⟨H',hs3⟩,hs4⟩:=cp_step (f:=4) (r:=pdF x) (vs:=[.string x.n,.int .i64 x.c,.string x.z,.slice a' l' c',.string x.d,.int .i64 x.p]) (hh:=g) HK.out HO.out HV.out Bo.out hb3X2 HB4.out hown5 hgrow (by decide) (by decide) (by decide) rfl rfl (pd_fr HZz0.out HZz2.out HZz4.out HF4.out) (fun i zs hi hz => HG.out zs (pd_l hi).2.symm hz) (fun i i' zs zs' h1 _ h2 _ => (pd_l h1).1.trans (pd_l h2).1.symm)
       have e1 : (c.ps.take (k + 1)).map pdF = (c.ps.take k).map pdF ++ [pdF x]:=by rw [List.take_add_one,HX.out];simp
       rw [← e1] at hs3;have HS1:=hidK hs1;have HS2:=hidK hs2';have HS3:=hidK hs3;have HS4:=hidK hs4;obtain ⟨o0,o1,o2,o3,o4,o5⟩:=cs6 bo5;have fo0:=froK bo5 0;have fo1:=froK bo5 1;have fo2:=froK bo5 2;have fo3:=froK bo5 3;have fo4:=froK bo5 4;have fo5:=froK bo5 5;clear hs1 hs2' hs3 hs4 bo5 hown5 hgrow e1
       go_wp2
       exact ⟨⟨k + 1,_,H',_,by omega,by go_num,HS1,HS2,HS3,HS4⟩,by simp [intOf];omega⟩
      ·have hkl : k = l5:=by omega
       have h5:=HV.out;rw [List.take_of_length_le (by omega)] at h5;obtain ⟨p5,q5,hv,hR⟩:=h5.own HO.out (by simp;omega) (by decide) (fun g hg => (HO.out.lt g hg).1)
       have hl5 : (c.ps.map pdF).length = l5:=by simpa using hl5
       rw [hl5] at hv hR;subst hv;have R5:=hidK (hR.away Bo.out (by decide) (by decide))
       replace R2:=hidK (R2.out.keep (fun k hk s => HK.out.block k hk (fun q9 => by rcases q9 with q9 | q9;exact s.2 q9;omega)) (fun _ _ s => s))
       replace R4:=hidK (R4.out.keep (fun k hk s => HK.out.block k hk (fun q9 => by rcases q9 with q9 | q9;exact s.2 q9;omega)) (fun _ _ s => s))
       replace R1:=hidK (R1.out.keep (fun k hk s => HK.out.block k hk (fun q9 => by rcases q9 with q9 | q9;exact s.2 q9;omega)) (fun _ _ s => s))
       replace R3:=hidK (R3.out.keep (fun k hk s => HK.out.block k hk (fun q9 => by rcases q9 with q9 | q9;exact s.2 q9;omega)) (fun _ _ s => s))
       replace Br:=hidK ((HK.out.block (w.heap.size + 1) (by omega) (fun s => by rcases s with s | s <;> omega)).trans Br.out)
       replace Bk:=BkR;replace BoX:=Bo;replace HBX:=HBW;have hb3X3 : b3 < wr.heap.size:=lt_of_some BoX.out;clear BkR Bo HBW h5 hR HV HO HK hl5 hkl hk hKs hXs
       generalize wr = X3 at *
       obtain ⟨k0,k1,k2,k3,k4,k5⟩:=cs6 Bk.out;obtain ⟨o0,o1,o2,o3,o4,o5⟩:=cs6 BoX.out;obtain ⟨r0,r1,r2,r3,r4,r5⟩:=cs6 Br.out;have hXs:=HBX.out.size;have fr0:=froK Br.out 0;have fr1:=froK Br.out 1;have fr2:=froK Br.out 2;have fr3:=froK Br.out 3;have fr4:=froK Br.out 4;have fr5:=froK Br.out 5
       go_wp2
       refine bodyPost_ret (v:=.agg #[.slice p1 l1 q1,.slice p2 l2 q2,.slice p3 l3 q3,.slice p4 l4 q4,.slice p5 l5 q5,.int .i64 c.now]) (by simp [results,Tryz.results51,go_sem, *]) rfl ⟨⟨p1,l1,q1,p2,l2,q2,p3,l3,q3,p4,l4,q4,p5,l5,q5⟩,rfl,⟨?_,?_,?_,?_,?_⟩,set_below (show w.heap.size ≤ w.heap.size + 1 by omega) (set_below (show w.heap.size ≤ w.heap.size + 1 by omega) (set_below (show w.heap.size ≤ w.heap.size + 1 by omega) (set_below (show w.heap.size ≤ w.heap.size + 1 by omega) (set_below (show w.heap.size ≤ w.heap.size + 1 by omega) (set_below (show w.heap.size ≤ w.heap.size + 1 by omega) (HBX.out))))))⟩
       ·exact (R1.out.keep (S':=fun k => w.heap.size ≤ k) (fun k hk s => put6_ne (by have s1 : X.heap.size ≤ k:=s.1;omega)) (fun k _ s => by have s1 : X.heap.size ≤ k:=s.1;show w.heap.size ≤ k;omega))
       ·exact (R2.out.keep (S':=fun k => w.heap.size ≤ k) (fun k hk s => put6_ne (by have s1 : W.heap.size ≤ k:=s.1;omega)) (fun k _ s => by have s1 : W.heap.size ≤ k:=s.1;show w.heap.size ≤ k;omega))
       ·exact (R3.out.keep (S':=fun k => w.heap.size ≤ k) (fun k hk s => put6_ne (by have s1 : X1.heap.size ≤ k:=s.1;omega)) (fun k _ s => by have s1 : X1.heap.size ≤ k:=s.1;show w.heap.size ≤ k;omega))
       ·exact (R4.out.keep (S':=fun k => w.heap.size ≤ k) (fun k hk s => put6_ne (by have s1 : W.heap.size ≤ k:=s.1;omega)) (fun k _ s => by have s1 : W.heap.size ≤ k:=s.1;show w.heap.size ≤ k;omega))
       ·exact (R5.out.keep (S':=fun k => w.heap.size ≤ k) (fun k hk s => put6_ne (by have s1 : X2.heap.size ≤ k:=s.1;omega)) (fun k _ s => by have s1 : X2.heap.size ≤ k:=s.1;show w.heap.size ≤ k;omega))

theorem infoqd : (Tryz.prog.info? 63).map (fun i => (i.zero,i.size,i.bytes)) = some (some (.agg #[.string ⟨#[]⟩,.string ⟨#[]⟩]),2,32):=by kernel_rfl
theorem slessQ_any (a b : Qd) (w : World) :
  Calls Tryz.prog 133 #[.agg #[.string a.n,.string a.d],.agg #[.string b.n,.string b.d]] w fun e w' => e = .returned (.bool (lessQ a b)) ∧ Below w.heap.size w w':=by
 obtain ⟨r,hr⟩ : ∃ r,r = lessQ a b:=⟨_,rfl⟩;rw [← hr]
 have hr2 : (Op.bytesLess a.n.toList b.n.toList = true ∧ r = true) ∨ (Op.bytesLess a.n.toList b.n.toList = false ∧ (a.n.toList == b.n.toList) = false ∧ r = false) ∨ (Op.bytesLess a.n.toList b.n.toList = false ∧ (a.n.toList == b.n.toList) = true ∧ Op.bytesLess a.d.toList b.d.toList = r):=by
  unfold lessQ at hr
  cases h1 : Op.bytesLess a.n.toList b.n.toList
  ·cases h2 : (a.n.toList == b.n.toList)
   ·rw [h1,h2] at hr;exact .inr (.inl ⟨rfl,rfl,hr⟩)
   ·rw [h1,h2] at hr;exact .inr (.inr ⟨rfl,rfl,by rw [hr];simp⟩)
  ·rw [h1] at hr;exact .inl ⟨rfl,hr⟩
 clear hr
 rcases hr2 with ⟨h1,rfl⟩ | ⟨h1,h2,rfl⟩ | ⟨h1,h2,h3⟩
 all_goals (
  go_enter Tryz.func133,Tryz.ntmps133
  go_wp2
  go_ret
  first | exact ⟨rfl,below2 _ _ _⟩ | exact ⟨by rw [h3],below2 _ _ _⟩)

theorem eqQ (a b c d : ByteArray) (w : World) : (Op.equalIn 10000 63 (.agg #[.string a,.string b]) (.agg #[.string c,.string d])).run Tryz.prog w = .ok ((a.toList == c.toList) && (b.toList == d.toList)) w:=by
 have u3:=Tryz.underlying9
 have hS : Tryz.prog.underlying 63 = some (.struct (Tryz.prog.fieldsOf 63)):=by kernel_rfl
 have hp : Tryz.prog.stoodInHeld 63 = false:=by kernel_rfl
 rw [show (10000 : Nat) = 9999 + 1 from rfl,run_equalIn_agg w 9999 63 _ _ hS hp];simp only [Program.fieldsOf,Tryz.underlying63];go_simp
 by_cases h1 : a.toList = c.toList
 ·by_cases h2 : b.toList = d.toList <;> simp [h1,h2]
 ·simp [h1]
theorem qd_ins {w w4 : World} {v4 : Value} {base n j : Nat} {xs : List Qd} {x : Qd} {vss : List (List Value)} {H : Nat → Nat → Nat} {Q : Nat → Prop} (hV : VRecs w Q 2 (xs.map qdF) vss H) (hxl : xs.length = n) (hjn : j ≤ n) (hB4 : Below w.heap.size w w4) (hx1 : x.n.size ≤ 9223372036854775807) (hx2 : x.d.size ≤ 9223372036854775807) (hQ : ∀ k,base ≤ k → Q k)
  (ho4 : w4.ownsRow base 63 2 v4 (n + 1) (inAt j [.string x.n,.string x.d] vss).flatten) : ∃ a' c',v4 = .slice a' (n + 1) c' ∧ ROwn w4 a' (n + 1) c' 2 63 ((inAt j x xs).map qdF) Q:=by
 obtain ⟨H4,hV5⟩:=(hV.below hB4).ins (p:=j) (r:=qdF x) (vs:=[.string x.n,.string x.d]) (hh:=fun _ => 0) rfl rfl (fun i f hf => by
  rcases i with _ | _ | i <;> simp [qdF] at hf <;> subst hf
  ·exact ⟨_,rfl,rfl,hx1⟩
  ·exact ⟨_,rfl,rfl,hx2⟩) (fun i zs h hz => by rcases i with _ | _ | i <;> simp [qdF] at h) (fun i i2 zs zs2 h => by rcases i with _ | _ | i <;> simp [qdF] at h) (by rw [List.length_map];omega)
 have h45 : VRecs w4 Q 2 ((inAt j x xs).map qdF) (inAt j [.string x.n,.string x.d] vss) H4:=by rw [inAt_map];exact hV5
 have hle : ((inAt j x xs).map qdF).length = n + 1:=by rw [List.length_map,inAt_len (by omega),hxl]
 obtain ⟨a',c',e,hR⟩:=h45.own ho4 hle.symm (by decide) (fun g hg => hQ g (ho4.lt g hg).1);rw [hle] at e hR;exact ⟨a',c',e,hR⟩
theorem slessQ_is (a b : Qd) (w : World) (r : Bool) (h : lessQ a b = r) : Calls Tryz.prog 133 #[.agg #[.string a.n,.string a.d],.agg #[.string b.n,.string b.d]] w fun e w' => e = .returned (.bool r) ∧ Below w.heap.size w w':=by
 rw [← h];exact slessQ_any a b w

def PutQAns (t : Qd) (zs : List Qd) (B : Nat) (w : World) (e : Ending) (w' : World) : Prop:=∃ a' l' c' zs',e = .returned (.slice a' l' c') ∧ ROwn w' a' l' c' 2 63 (zs'.map qdF) (fun k => B ≤ k) ∧ PutQ t zs zs' ∧ Below w.heap.size w w'

theorem sputQ_any (a : Option Addr) (len cap : Nat) (zs : List Qd) (x : Qd) (B : Nat) (w : World) (ho : ROwn w a len cap 2 63 (zs.map qdF) (fun k => B ≤ k)) (hB : B ≤ w.heap.size) (hl : len ≤ 64) (hx1 : x.n.size ≤ 9223372036854775807) (hx2 : x.d.size ≤ 9223372036854775807) :
  Calls Tryz.prog 76 #[.slice a len cap,.agg #[.string x.n,.string x.d]] w (PutQAns x zs B w):=by
 have hll : zs.length = len:=by simpa using ho.1
 have hlc : len ≤ cap:=ho.2.1;have hcm : cap ≤ 9223372036854775807:=ho.2.2.1;have HR:=hidK ho.row;have HOW0:=hidK ho;obtain ⟨vss,H,hV,hcell⟩:=ho.recs
 have hvl : vss.length = len:=by rw [hV.len,List.length_map,hll]
 have HC : Hid (∀ (j : Nat) u,vss.flatten[j]? = some u → ∃ b,a = some ⟨b,0,none⟩ ∧ w.cell? ⟨b,j,none⟩ = some u):=fun j u hj => by
  obtain ⟨b,e,_,h3⟩:=hcell j u hj;exact ⟨b,e,h3⟩
 have HVA:=hidK hV.all;have HV1:=hidK hV.one;have HFIN : Hid (∀ (w4 : World) v4 base k,k ≤ len → w.heap.size ≤ base → Below w.heap.size w w4 → w4.ownsRow base 63 2 v4 (len + 1) (inAt k [.string x.n,.string x.d] vss).flatten → ∃ a' c',v4 = .slice a' (len + 1) c' ∧ ROwn w4 a' (len + 1) c' 2 63 ((inAt k x zs).map qdF) (fun k => B ≤ k)):=fun w4 v4 base k hk hbs hB4 ho4 => qd_ins hV hll hk hB4 hx1 hx2 (fun k hk => by omega) ho4;obtain ⟨i5,hi5',hz0,hz1,hz2⟩:=info_parts infoqd;have HI0:=hidK (And.intro hi5' (And.intro hz0 (And.intro hz1 hz2)));clear hi5' hz0 hz1 hz2 hV hcell ho
 go_enter Tryz.func76,Tryz.ntmps76
 go_wp2
 go_loopw [5] (fun vi wr => ∃ k : Nat,k ≤ len ∧ vi = .int .i64 k ∧ Hid (∀ (j : Nat) y,j < k → zs[j]? = some y → lessQ y x = true) ∧ Hid (Below (w.heap.size + 1) (w.alloc (.cells #[.string x.n,.string x.d] 63)) wr)) (fun vi _ => len - (intOf vi).toNat)
 case atStart => exact ⟨0,by omega,rfl,fun j y hj => by omega,Below.refl _ _⟩
 case round =>
  obtain ⟨k,hk,rfl,HE,HL⟩:=hrel
  have hLs : w.heap.size + 1 ≤ wr.heap.size:=by have:=HL.out.size;simpa using this
  have HB:=hidK ((below1 w (.cells #[.string x.n,.string x.d] 63)).trans (HL.out.mono (by omega)));have Bx:=hidK ((HL.out.block w.heap.size (by omega)).trans (heap_alloc_new w (.cells #[.string x.n,.string x.d] 63)))
  by_cases hlt : k < len
  ·obtain ⟨b,o,y,rfl,hb,hx,hat⟩:=qd_at (HR.out.below HB.out) hlt;obtain ⟨-,-,hc0,hc1⟩:=qd_cells hat;have HXy:=hidK hx;have hbw : b < wr.heap.size:=hb;have HC0:=hidK hc0;have HC1:=hidK hc1;have HBW:=hidK hbw
   have hk1 : (k : Int) < len:=by omega
   have hk2 : decide ((k : Int) < len) = true:=by simp;omega
   clear hb hat hx
   cases hless : lessQ y x
   ·have HLS:=hidK hless;clear hless;have Gx:=Bx;have HW:=HB;obtain ⟨x0,x1⟩:=sl2 Gx;have yn:=fun q : Wd wr => (q.cell hbw).trans hc0;have yd:=fun q : Wd wr => (q.cell hbw).trans hc1;have hne0:=Wd.ne wr;have HC0:=hidK (fun q : Wd wr => slessQ_is y x q.w false HLS.out);go_wp2_with fail;refine wp_region_wide (by kernel_rfl) (by kernel_rfl) ?_
    repeat (go_big_quiet_step (first | (go_at_call 133;exact Calls.wide (HC0.out _)) | fail))
    refine wpQuiet_nil ?_;rintro _ ⟨q2,rfl⟩;have HB1:=upB HW q2.b;have Cx:=upK Gx q2.b;clear hne0 HW HB HC0 x0 x1 yn yd Gx Bx hc0 hc1 hbw;have HB:=HB1;clear HB1;have Bx:=Cx;clear Cx;have hbw : b < q2.w.heap.size:=Nat.lt_of_lt_of_le HBW.out q2.b.size;have hc0:=(q2.cell HBW.out).trans HC0.out;have hc1:=(q2.cell HBW.out).trans HC1.out
    by_cases he : y = x
    ·have HP : Hid (PutQ x zs zs):=.inl ⟨he ▸ List.mem_of_getElem? HXy.out,rfl⟩;have hq1 : (y.n.toList == x.n.toList) = true:=tl_yes (by rw [he]);have hq2 : (y.d.toList == x.d.toList) = true:=tl_yes (by rw [he])
     have hn1 : y.n = x.n:=by rw [he]
     have hn2 : y.d = x.d:=by rw [he]
     clear he
     have hqe : ∀ W : World,(Op.equalIn 10000 63 (.agg #[.string y.n,.string y.d]) (.agg #[.string x.n,.string x.d])).run Tryz.prog W = .ok true W:=fun W => by rw [eqQ,hq1,hq2];rfl
     clear hn1 hn2;have Gx:=Bx;have HW:=HB;obtain ⟨x0,x1⟩:=sl2 Gx;have yn:=fun q : Wd q2.w => (q.cell hbw).trans hc0;have yd:=fun q : Wd q2.w => (q.cell hbw).trans hc1;have hne0:=Wd.ne q2.w;go_wp2_with fail;refine wp_region_wide (by kernel_rfl) (by kernel_rfl) ?_
     repeat (go_big_quiet_step (first | fail))
     refine wpQuiet_nil ?_;rintro _ ⟨q3,rfl⟩;have HB2:=upB HW q3.b;have Cx:=upK Gx q3.b;clear hne0 HW HB x0 x1 yn yd Gx Bx hc0 hc1 hbw hqe;have HB:=HB2;clear HB2;have Bx:=Cx;clear Cx
     go_wp2
     go_ret;exact ⟨_,_,_,_,rfl,HOW0.out.below HB.out,HP.out,HB.out⟩
    have HP : Hid (PutQ x zs (inAt k x zs)):=.inr ⟨k,by omega,rfl,HE.out,fun z hz => by rw [HXy.out] at hz;cases hz;exact lessQ_tot HLS.out he⟩
    have hq1 : ((y.n.toList == x.n.toList) && (y.d.toList == x.d.toList)) = false:=by
     cases h1 : (y.n.toList == x.n.toList)
     ·rfl
     ·cases h2 : (y.d.toList == x.d.toList)
      ·rfl
      ·exact absurd (by have e1:=tl_inj h1;have e2:=tl_inj h2;obtain ⟨y1,y2⟩:=y;obtain ⟨x1,x2⟩:=x;cases e1;cases e2;rfl) he
    have hqe : ∀ W : World,(Op.equalIn 10000 63 (.agg #[.string y.n,.string y.d]) (.agg #[.string x.n,.string x.d])).run Tryz.prog W = .ok false W:=fun W => by rw [eqQ,hq1]
    clear he;have Gx:=Bx;have HW:=HB;obtain ⟨x0,x1⟩:=sl2 Gx;have yn:=fun q : Wd q2.w => (q.cell hbw).trans hc0;have yd:=fun q : Wd q2.w => (q.cell hbw).trans hc1;have hne0:=Wd.ne q2.w;go_wp2_with fail;refine wp_region_wide (by kernel_rfl) (by kernel_rfl) ?_
    repeat (go_big_quiet_step (first | fail))
    refine wpQuiet_nil ?_;rintro _ ⟨q3,rfl⟩;have HB2:=upB HW q3.b;have Cx:=upK Gx q3.b;clear hne0 HW HB x0 x1 yn yd Gx Bx hc0 hc1 hbw hqe;have HB:=HB2;clear HB2;have Bx:=Cx;clear Cx;clear hq1
    have HCQ : Hid (∀ (j : Nat) u,vss.flatten[j]? = some u → ∃ b9,(some ⟨b,o,none⟩ : Option Addr) = some ⟨b9,0,none⟩ ∧ b9 < q3.w.heap.size ∧ q3.w.cell? ⟨b9,j,none⟩ = some u):=fun j u hj => by
     obtain ⟨b,e,h3⟩:=HC.out j u hj;exact ⟨b,e,Nat.lt_of_lt_of_le (cell_lt h3) HB.out.size,(cell_below HB.out (cell_lt h3)).trans h3⟩
    have HOW : Hid ((q3.w.alloc (.cells #[] 63)).ownsRow q3.w.heap.size 63 2 (.slice (some ⟨q3.w.heap.size,0,none⟩) 0 0) 0 []):=World.ownsRow_made q3.w #[] 0 (Nat.le_refl _) (Nat.zero_le _) (by simp)
    have hik : (k : Int) ≤ cap:=by omega
    have hkn : k ≤ cap:=by omega
    have hcap : ¬ cap = k:=by omega
    all_goals (
     go_wp2_with (first | (at_builtin;refine wpList_append_any rfl _ _ 30 rfl q3.w.heap.size 63 i5 (.agg #[.string ⟨#[]⟩,.string ⟨#[]⟩]) 2 32 Tryz.underlying30 HI0.out.1 HI0.out.2.1 HI0.out.2.2.1 HI0.out.2.2.2 rfl (by decide) _ _ _ rfl (HOW.out) _ k _ (vss.take k).flatten rfl (take_flat HVA.out (by omega)) (fun j u hu => by obtain ⟨g,e,hgl,h3⟩:=HCQ.out _ _ (take_at hu);cases e <;> exact ⟨_,rfl,by simp only [Addr.add_lit,Nat.zero_add];exact (cell_below (below1 q3.w _) hgl).trans h3⟩) (mem_take_one HV1.out k).1 (by unfold maxLen;omega) (by omega) (by simp) ?_))
     intro v5 w5 hown5 hgr5
     replace hown5 : w5.ownsRow q3.w.heap.size 63 2 v5 k (vss.take k).flatten:=by simpa using hown5
     have hb5 : Below q3.w.heap.size q3.w w5:=(below1 q3.w (.cells #[] 63)).grown hgr5 (by simp) (fun g hg => by simp [Value.ownBlock] at hg;omega);obtain ⟨s1,s2,s3,rfl⟩:=owns_slice hown5;have HO5:=hidK hown5;have H5:=hidK hb5;have hs6:=hb5.size;have Bx5:=upK Bx hb5;obtain ⟨x0,x1⟩:=cs2 Bx5.out;have hxl:=lt_of_some Bx5.out;clear hown5 hgr5 hb5 HOW
     go_wp2_with (first | (at_builtin;refine wpList_append_any rfl _ _ 30 rfl q3.w.heap.size 63 i5 (.agg #[.string ⟨#[]⟩,.string ⟨#[]⟩]) 2 32 Tryz.underlying30 HI0.out.1 HI0.out.2.1 HI0.out.2.2.1 HI0.out.2.2.2 rfl (by decide) _ _ _ rfl (HO5.out.alloc _) _ 1 _ [.string x.n,.string x.d] rfl rfl (fun j u hu => ⟨_,rfl,by rw [Addr.add_lit,Nat.zero_add,cellK (heap_alloc_new w5 _)];simpa using hu⟩) (by simp [Value.oneCell']) (by unfold maxLen;omega) (by omega) (by simp;omega) ?_))
     intro v6 w6 hown6 hgr6;have hb6 : Below q3.w.heap.size q3.w w6:=(H5.out.alloc H5.out.size _).grown hgr6 (by simp;omega) (fun g hg => (HO5.out.lt g hg).1);obtain ⟨r1,r2,r3,rfl⟩:=owns_slice hown6;have HO6:=hidK hown6;have H6:=hidK hb6;have hs7:=hb6.size;clear hown6 hgr6 hb6 x0 x1 hxl
     go_wp2_with (first | (at_builtin;refine wpList_append_any rfl _ _ 30 rfl q3.w.heap.size 63 i5 (.agg #[.string ⟨#[]⟩,.string ⟨#[]⟩]) 2 32 Tryz.underlying30 HI0.out.1 HI0.out.2.1 HI0.out.2.2.1 HI0.out.2.2.2 rfl (by decide) _ _ _ rfl (HO6.out) _ (len - k) _ (vss.drop k).flatten rfl (by rw [drop_flat HVA.out,hvl]) (fun j u hu => by first | (rw [List.drop_eq_nil_of_le (by omega)] at hu;simp at hu;done) | (obtain ⟨g,e,hgl,h3⟩:=HCQ.out _ _ (drop_at HVA.out (by omega) hu);cases e <;> exact ⟨_,rfl,by simp only [Addr.add_lit,Nat.zero_add];exact (cell_below H6.out hgl).trans h3⟩)) (mem_take_one HV1.out k).2 (by unfold maxLen;omega) (by omega) (by omega) ?_))
     intro v7 w7 hown7 hgr7;have hb7 : Below q3.w.heap.size q3.w w7:=H6.out.grown hgr7 (by omega) (fun g hg => (HO6.out.lt g hg).1)
     replace hown7 : w7.ownsRow q3.w.heap.size 63 2 v7 (len + 1) (inAt k [.string x.n,.string x.d] vss).flatten:=by
      have e9 : k + 1 + (len - k) = len + 1:=by omega
      try rw [e9] at hown7
      simpa [inAt] using hown7
     have HB7:=upB HB hb7;obtain ⟨a',c',rfl,hR⟩:=HFIN.out w7 v7 q3.w.heap.size k (by omega) HB.out.size HB7.out hown7;have HR7:=hidK hR;clear hown7 hgr7 hb7 hR hik hkn hcap
     go_wp2
     go_ret
     exact ⟨a',_,c',_,rfl,HR7.out,HP.out,HB7.out⟩)
   ·have HLS:=hidK hless;clear hless;have Gx:=Bx;have HW:=HB;obtain ⟨x0,x1⟩:=sl2 Gx;have yn:=fun q : Wd wr => (q.cell hbw).trans hc0;have yd:=fun q : Wd wr => (q.cell hbw).trans hc1;have hne0:=Wd.ne wr;have HC0:=hidK (fun q : Wd wr => slessQ_is y x q.w true HLS.out);go_wp2_with fail;refine wp_region_wide (by kernel_rfl) (by kernel_rfl) ?_
    repeat (go_big_quiet_step (first | (go_at_call 133;exact Calls.wide (HC0.out _)) | fail))
    refine wpQuiet_nil ?_;rintro _ ⟨q2,rfl⟩;have HB1:=upB HW q2.b;have Cx:=upK Gx q2.b;clear hne0 HW HB HC0 x0 x1 yn yd Gx Bx hc0 hc1 hbw;have HB:=HB1;clear HB1;have Bx:=Cx;clear Cx
    go_wp2
    refine ⟨⟨k + 1,by omega,by go_num,fun j z hj hz => ?_,HL.out.trans (q2.b.mono (by omega))⟩,by simp [intOf];omega⟩
    by_cases e : j = k
    ·subst e;rw [HXy.out] at hz;obtain rfl:=Option.some.inj hz;exact HLS.out
    ·exact HE.out j z (by omega) hz
  ·have hk1 : ¬ (k : Int) < len:=by omega
   have hk2 : decide ((k : Int) < len) = false:=by simp;omega
   have HP : Hid (PutQ x zs (inAt k x zs)):=.inr ⟨k,by omega,rfl,HE.out,fun z hz => by have:=(List.getElem?_eq_some_iff.1 hz).1;omega⟩;have Gx:=Bx;have HW:=HB;obtain ⟨x0,x1⟩:=sl2 Gx;have hne0:=Wd.ne wr;go_wp2_with fail;refine wp_region_wide (by kernel_rfl) (by kernel_rfl) ?_
   repeat (go_big_quiet_step (first | fail))
   refine wpQuiet_nil ?_;rintro _ ⟨q2,rfl⟩;have HB1:=upB HW q2.b;have Cx:=upK Gx q2.b;clear hne0 HW HB x0 x1 Gx Bx;have HB:=HB1;clear HB1;have Bx:=Cx;clear Cx;have Gx:=Bx;have HW:=HB;obtain ⟨x0,x1⟩:=sl2 Gx;have hne0:=Wd.ne q2.w;go_wp2_with fail;refine wp_region_wide (by kernel_rfl) (by kernel_rfl) ?_
   repeat (go_big_quiet_step (first | fail))
   refine wpQuiet_nil ?_;rintro _ ⟨q3,rfl⟩;have HB2:=upB HW q3.b;have Cx:=upK Gx q3.b;clear hne0 HW HB x0 x1 Gx Bx;have HB:=HB2;clear HB2;have Bx:=Cx;clear Cx
   have HCQ : Hid (∀ (j : Nat) u,vss.flatten[j]? = some u → ∃ b9,a = some ⟨b9,0,none⟩ ∧ b9 < q3.w.heap.size ∧ q3.w.cell? ⟨b9,j,none⟩ = some u):=fun j u hj => by
    obtain ⟨b,e,h3⟩:=HC.out j u hj;exact ⟨b,e,Nat.lt_of_lt_of_le (cell_lt h3) HB.out.size,(cell_below HB.out (cell_lt h3)).trans h3⟩
   have HOW : Hid ((q3.w.alloc (.cells #[] 63)).ownsRow q3.w.heap.size 63 2 (.slice (some ⟨q3.w.heap.size,0,none⟩) 0 0) 0 []):=World.ownsRow_made q3.w #[] 0 (Nat.le_refl _) (Nat.zero_le _) (by simp)
   have hik : (k : Int) ≤ cap:=by omega
   have hkn : k ≤ cap:=by omega
   rcases a with _ | ⟨b2,f2,sp⟩
   ·have hl0 : len = 0:=Classical.byContradiction fun hne0 => by
     have h1 : vss[0]? = some (vss[0]'(by omega)):=List.getElem?_eq_getElem _
     have h2 : 0 < (vss[0]'(by omega)).length:=by rw [HVA.out 0 _ h1];decide
     obtain ⟨g,e,_⟩:=HCQ.out _ _ (flat_at HVA.out h1 (List.getElem?_eq_getElem h2))
     cases e
    obtain rfl : k = 0:=by omega
    subst hl0
    by_cases hcap : cap = 0
    all_goals (
     go_wp2_with (first | (at_builtin;refine wpList_append_any rfl _ _ 30 rfl q3.w.heap.size 63 i5 (.agg #[.string ⟨#[]⟩,.string ⟨#[]⟩]) 2 32 Tryz.underlying30 HI0.out.1 HI0.out.2.1 HI0.out.2.2.1 HI0.out.2.2.2 rfl (by decide) _ _ _ rfl (HOW.out) _ 0 _ (vss.take 0).flatten rfl (take_flat HVA.out (by omega)) (fun j u hu => by obtain ⟨g,e,hgl,h3⟩:=HCQ.out _ _ (take_at hu);cases e <;> exact ⟨_,rfl,by simp only [Addr.add_lit,Nat.zero_add];exact (cell_below (below1 q3.w _) hgl).trans h3⟩) (mem_take_one HV1.out 0).1 (by unfold maxLen;omega) (by omega) (by simp) ?_))
     intro v5 w5 hown5 hgr5
     replace hown5 : w5.ownsRow q3.w.heap.size 63 2 v5 0 (vss.take 0).flatten:=by simpa using hown5
     have hb5 : Below q3.w.heap.size q3.w w5:=(below1 q3.w (.cells #[] 63)).grown hgr5 (by simp) (fun g hg => by simp [Value.ownBlock] at hg;omega);obtain ⟨s1,s2,s3,rfl⟩:=owns_slice hown5;have HO5:=hidK hown5;have H5:=hidK hb5;have hs6:=hb5.size;have Bx5:=upK Bx hb5;obtain ⟨x0,x1⟩:=cs2 Bx5.out;have hxl:=lt_of_some Bx5.out;clear hown5 hgr5 hb5 HOW
     go_wp2_with (first | (at_builtin;refine wpList_append_any rfl _ _ 30 rfl q3.w.heap.size 63 i5 (.agg #[.string ⟨#[]⟩,.string ⟨#[]⟩]) 2 32 Tryz.underlying30 HI0.out.1 HI0.out.2.1 HI0.out.2.2.1 HI0.out.2.2.2 rfl (by decide) _ _ _ rfl (HO5.out.alloc _) _ 1 _ [.string x.n,.string x.d] rfl rfl (fun j u hu => ⟨_,rfl,by rw [Addr.add_lit,Nat.zero_add,cellK (heap_alloc_new w5 _)];simpa using hu⟩) (by simp [Value.oneCell']) (by unfold maxLen;omega) (by omega) (by simp;omega) ?_))
     intro v6 w6 hown6 hgr6;have hb6 : Below q3.w.heap.size q3.w w6:=(H5.out.alloc H5.out.size _).grown hgr6 (by simp;omega) (fun g hg => (HO5.out.lt g hg).1);obtain ⟨r1,r2,r3,rfl⟩:=owns_slice hown6;have HO6:=hidK hown6;have H6:=hidK hb6;have hs7:=hb6.size;clear hown6 hgr6 hb6 x0 x1 hxl
     go_wp2_with (first | (at_builtin;refine wpList_append_any rfl _ _ 30 rfl q3.w.heap.size 63 i5 (.agg #[.string ⟨#[]⟩,.string ⟨#[]⟩]) 2 32 Tryz.underlying30 HI0.out.1 HI0.out.2.1 HI0.out.2.2.1 HI0.out.2.2.2 rfl (by decide) _ _ _ rfl (HO6.out) _ (0 - 0) _ (vss.drop 0).flatten rfl (by rw [drop_flat HVA.out,hvl]) (fun j u hu => by first | (rw [List.drop_eq_nil_of_le (by omega)] at hu;simp at hu;done) | (obtain ⟨g,e,hgl,h3⟩:=HCQ.out _ _ (drop_at HVA.out (by omega) hu);cases e <;> exact ⟨_,rfl,by simp only [Addr.add_lit,Nat.zero_add];exact (cell_below H6.out hgl).trans h3⟩)) (mem_take_one HV1.out 0).2 (by unfold maxLen;omega) (by omega) (by omega) ?_))
     intro v7 w7 hown7 hgr7;have hb7 : Below q3.w.heap.size q3.w w7:=H6.out.grown hgr7 (by omega) (fun g hg => (HO6.out.lt g hg).1)
     replace hown7 : w7.ownsRow q3.w.heap.size 63 2 v7 (0 + 1) (inAt 0 [.string x.n,.string x.d] vss).flatten:=by
      have e9 : 0 + 1 + (0 - 0) = 0 + 1:=by omega
      try rw [e9] at hown7
      simpa [inAt] using hown7
     have HB7:=upB HB hb7;obtain ⟨a',c',rfl,hR⟩:=HFIN.out w7 v7 q3.w.heap.size 0 (by omega) HB.out.size HB7.out hown7;have HR7:=hidK hR;clear hown7 hgr7 hb7 hR hik hkn hcap
     go_wp2
     go_ret
     exact ⟨a',_,c',_,rfl,HR7.out,HP.out,HB7.out⟩)
   by_cases hcap : cap = k
   all_goals (
    go_wp2_with (first | (at_builtin;refine wpList_append_any rfl _ _ 30 rfl q3.w.heap.size 63 i5 (.agg #[.string ⟨#[]⟩,.string ⟨#[]⟩]) 2 32 Tryz.underlying30 HI0.out.1 HI0.out.2.1 HI0.out.2.2.1 HI0.out.2.2.2 rfl (by decide) _ _ _ rfl (HOW.out) _ k _ (vss.take k).flatten rfl (take_flat HVA.out (by omega)) (fun j u hu => by obtain ⟨g,e,hgl,h3⟩:=HCQ.out _ _ (take_at hu);cases e <;> exact ⟨_,rfl,by simp only [Addr.add_lit,Nat.zero_add];exact (cell_below (below1 q3.w _) hgl).trans h3⟩) (mem_take_one HV1.out k).1 (by unfold maxLen;omega) (by omega) (by simp) ?_))
    intro v5 w5 hown5 hgr5
    replace hown5 : w5.ownsRow q3.w.heap.size 63 2 v5 k (vss.take k).flatten:=by simpa using hown5
    have hb5 : Below q3.w.heap.size q3.w w5:=(below1 q3.w (.cells #[] 63)).grown hgr5 (by simp) (fun g hg => by simp [Value.ownBlock] at hg;omega);obtain ⟨s1,s2,s3,rfl⟩:=owns_slice hown5;have HO5:=hidK hown5;have H5:=hidK hb5;have hs6:=hb5.size;have Bx5:=upK Bx hb5;obtain ⟨x0,x1⟩:=cs2 Bx5.out;have hxl:=lt_of_some Bx5.out;clear hown5 hgr5 hb5 HOW
    go_wp2_with (first | (at_builtin;refine wpList_append_any rfl _ _ 30 rfl q3.w.heap.size 63 i5 (.agg #[.string ⟨#[]⟩,.string ⟨#[]⟩]) 2 32 Tryz.underlying30 HI0.out.1 HI0.out.2.1 HI0.out.2.2.1 HI0.out.2.2.2 rfl (by decide) _ _ _ rfl (HO5.out.alloc _) _ 1 _ [.string x.n,.string x.d] rfl rfl (fun j u hu => ⟨_,rfl,by rw [Addr.add_lit,Nat.zero_add,cellK (heap_alloc_new w5 _)];simpa using hu⟩) (by simp [Value.oneCell']) (by unfold maxLen;omega) (by omega) (by simp;omega) ?_))
    intro v6 w6 hown6 hgr6;have hb6 : Below q3.w.heap.size q3.w w6:=(H5.out.alloc H5.out.size _).grown hgr6 (by simp;omega) (fun g hg => (HO5.out.lt g hg).1);obtain ⟨r1,r2,r3,rfl⟩:=owns_slice hown6;have HO6:=hidK hown6;have H6:=hidK hb6;have hs7:=hb6.size;clear hown6 hgr6 hb6 x0 x1 hxl
    go_wp2_with (first | (at_builtin;refine wpList_append_any rfl _ _ 30 rfl q3.w.heap.size 63 i5 (.agg #[.string ⟨#[]⟩,.string ⟨#[]⟩]) 2 32 Tryz.underlying30 HI0.out.1 HI0.out.2.1 HI0.out.2.2.1 HI0.out.2.2.2 rfl (by decide) _ _ _ rfl (HO6.out) _ (len - k) _ (vss.drop k).flatten rfl (by rw [drop_flat HVA.out,hvl]) (fun j u hu => by first | (rw [List.drop_eq_nil_of_le (by omega)] at hu;simp at hu;done) | (obtain ⟨g,e,hgl,h3⟩:=HCQ.out _ _ (drop_at HVA.out (by omega) hu);cases e <;> exact ⟨_,rfl,by simp only [Addr.add_lit,Nat.zero_add];exact (cell_below H6.out hgl).trans h3⟩)) (mem_take_one HV1.out k).2 (by unfold maxLen;omega) (by omega) (by omega) ?_))
    intro v7 w7 hown7 hgr7;have hb7 : Below q3.w.heap.size q3.w w7:=H6.out.grown hgr7 (by omega) (fun g hg => (HO6.out.lt g hg).1)
    replace hown7 : w7.ownsRow q3.w.heap.size 63 2 v7 (len + 1) (inAt k [.string x.n,.string x.d] vss).flatten:=by
     have e9 : k + 1 + (len - k) = len + 1:=by omega
     try rw [e9] at hown7
     simpa [inAt] using hown7
    have HB7:=upB HB hb7;obtain ⟨a',c',rfl,hR⟩:=HFIN.out w7 v7 q3.w.heap.size k (by omega) HB.out.size HB7.out hown7;have HR7:=hidK hR;clear hown7 hgr7 hb7 hR hik hkn hcap
    go_wp2
    go_ret
    exact ⟨a',_,c',_,rfl,HR7.out,HP.out,HB7.out⟩)

def Wn (c : Cl) (k : Nat) (q : Qd) : Prop:=∃ (j : Nat) (p : Pd),j < k ∧ c.ps[j]? = some p ∧ ¬ p.d = ⟨#[]⟩ ∧ ∃ (i : Nat) (t : ByteArray) (v : Vd),p.zs[i]? = some t ∧ IsBd c t v ∧ q = ⟨v.n,p.d⟩
def Wc (c : Cl) (p : Pd) (k : Nat) (q : Qd) : Prop:=∃ (i : Nat) (t : ByteArray) (v : Vd),i < k ∧ p.zs[i]? = some t ∧ IsBd c t v ∧ q = ⟨v.n,p.d⟩
def WanAns (c : Cl) (B : Nat) (w : World) (e : Ending) (w' : World) : Prop:=∃ a' l' c' zs',e = .returned (.slice a' l' c') ∧ ROwn w' a' l' c' 2 63 (zs'.map qdF) (fun k => B ≤ k) ∧ RQ zs' ∧ (∀ q,q ∈ zs' ↔ Wn c c.ps.length q) ∧ zs'.length ≤ 24 ∧ Below w.heap.size w w'

def PqF (t : Qd) (zs : List Qd) (B : Nat) : Fact:=fun v w => ∃ a' l' c' zs',v = .slice a' l' c' ∧ ROwn w a' l' c' 2 63 (zs'.map qdF) (fun k => B ≤ k) ∧ PutQ t zs zs'
theorem PqF.mono {t : Qd} {zs : List Qd} {B : Nat} : Fact.Mono (PqF t zs B):=by
 rintro v w w' ⟨a',l',c',zs',h1,h2,h3⟩ hb;exact ⟨a',l',c',zs',h1,h2.below hb,h3⟩
theorem IsBd.nameQ {c : Cl} {t : ByteArray} {v v' : Vd} (hx : RisBy Xd.n c.xs) (h : IsBd c t v) (h' : IsBd c t v') : v.n = v'.n:=by
 obtain ⟨i,j,x,h1,h2,h3,h4⟩:=h;obtain ⟨i',j',x',k1,k2,k3,k4⟩:=h';obtain ⟨_,rfl⟩:=hx.inj h1 k1 (h2.trans k2.symm);rw [h4,k4]
theorem sbindQ_yes (d : Ad) (c : Cl) (t : ByteArray) (w : World) (hr : ClRow w d c.raw) (hT : RightI c) {j : Nat} {v : Vd} (hv : c.vs[j]? = some v) (hb : IsBd c t v) :
  Calls Tryz.prog 77 #[.agg #[.slice d.a1 d.l1 d.c1,.slice d.a2 d.l2 d.c2,.slice d.a3 d.l3 d.c3,.slice d.a4 d.l4 d.c4,.slice d.a5 d.l5 d.c5,.int .i64 c.now],.string t] w fun e w' => e = .returned (.int .i64 j) ∧ Below w.heap.size w w':=by
 refine (sbind_any d c t w hr hT.2.1.2.2.2.1.2.2 hT.2.1.2.2.1.2.2 (fun j v hv e => by have h9:=(hT.2.1.2.2.1.2.1 j v hv).1;rw [e] at h9;have h8:=h9.1;revert h8;decide)).mono ?_;rintro e w' ⟨hb2,⟨j',v',h1,h2,rfl⟩ | ⟨hno,rfl⟩⟩
 ·obtain ⟨rfl,_⟩:=hT.2.1.2.2.1.2.2.inj h1 hv (h2.nameQ hT.2.1.2.2.2.1.2.2 hb);exact ⟨rfl,hb2⟩
 ·exact absurd hb (hno v)
theorem Wc.step {c : Cl} {p : Pd} {k : Nat} {t : ByteArray} {v : Vd} {q : Qd} (hx : RisBy Xd.n c.xs) (ht : p.zs[k]? = some t) (hb : IsBd c t v) : Wc c p (k + 1) q ↔ Wc c p k q ∨ q = ⟨v.n,p.d⟩:=by
 constructor
 ·rintro ⟨i,t',v',h1,h2,h3,rfl⟩
  by_cases e : i = k
  ·subst e;rw [ht] at h2;obtain rfl:=Option.some.inj h2;exact .inr (by rw [h3.nameQ hx hb])
  ·exact .inl ⟨i,t',v',by omega,h2,h3,rfl⟩
 ·rintro (⟨i,t',v',h1,h2,h3,rfl⟩ | rfl)
  ·exact ⟨i,t',v',by omega,h2,h3,rfl⟩
  ·exact ⟨k,t,v,by omega,ht,hb,rfl⟩
theorem Wn.yes {c : Cl} {k : Nat} {p : Pd} {q : Qd} (hp : c.ps[k]? = some p) (hd : ¬ p.d = ⟨#[]⟩) : Wn c (k + 1) q ↔ Wn c k q ∨ Wc c p p.zs.length q:=by
 constructor
 ·rintro ⟨j,p',h1,h2,h3,i,t,v,h4,h5,h6⟩
  by_cases e : j = k
  ·subst e;rw [hp] at h2;obtain rfl:=Option.some.inj h2;exact .inr ⟨i,t,v,(List.getElem?_eq_some_iff.1 h4).1,h4,h5,h6⟩
  ·exact .inl ⟨j,p',by omega,h2,h3,i,t,v,h4,h5,h6⟩
 ·rintro (⟨j,p',h1,h2,h3,h4⟩ | ⟨i,t,v,_,h4,h5,h6⟩)
  ·exact ⟨j,p',by omega,h2,h3,h4⟩
  ·exact ⟨k,p,by omega,hp,hd,i,t,v,h4,h5,h6⟩
theorem Wn.no {c : Cl} {k : Nat} {p : Pd} {q : Qd} (hp : c.ps[k]? = some p) (hd : p.d = ⟨#[]⟩) : Wn c (k + 1) q ↔ Wn c k q:=by
 constructor
 ·rintro ⟨j,p',h1,h2,h3,h4⟩
  by_cases e : j = k
  ·subst e;rw [hp] at h2;obtain rfl:=Option.some.inj h2;exact absurd hd h3
  ·exact ⟨j,p',by omega,h2,h3,h4⟩
 ·rintro ⟨j,p',h1,h2,h3,h4⟩;exact ⟨j,p',by omega,h2,h3,h4⟩

theorem swan_any (d : Ad) (c : Cl) (w : World) (hr : ClRow w d c.raw) (hT : RightI c) :
  Calls Tryz.prog 28 #[.agg #[.slice d.a1 d.l1 d.c1,.slice d.a2 d.l2 d.c2,.slice d.a3 d.l3 d.c3,.slice d.a4 d.l4 d.c4,.slice d.a5 d.l5 d.c5,.int .i64 c.now]] w (WanAns c (w.heap.size + 1) w):=by
 obtain ⟨a1,l1,y1,a2,l2,y2,a3,l3,y3,a4,l4,y4,a5,l5,y5⟩:=d;dsimp only;have HR:=hidK hr
 have hl1 : c.ns.length = l1:=by simpa using (show (c.ns.map ndF).length = l1 from hr.n.1)
 have hm1 : l1 ≤ 9223372036854775807:=Nat.le_trans hr.n.2.1 hr.n.2.2.1
 have hl2 : c.ks.length = l2:=by simpa using (show (c.ks.map kdF).length = l2 from hr.k.1)
 have hm2 : l2 ≤ 9223372036854775807:=Nat.le_trans hr.k.2.1 hr.k.2.2.1
 have hl3 : c.vs.length = l3:=by simpa using (show (c.vs.map vdF).length = l3 from hr.v.1)
 have hm3 : l3 ≤ 9223372036854775807:=Nat.le_trans hr.v.2.1 hr.v.2.2.1
 have hl4 : c.xs.length = l4:=by simpa using (show (c.xs.map xdF).length = l4 from hr.x.1)
 have hm4 : l4 ≤ 9223372036854775807:=Nat.le_trans hr.x.2.1 hr.x.2.2.1
 have hl5 : c.ps.length = l5:=by simpa using (show (c.ps.map pdF).length = l5 from hr.p.1)
 have hm5 : l5 ≤ 9223372036854775807:=Nat.le_trans hr.p.2.1 hr.p.2.2.1;clear hr;have HT:=hidK hT;clear hT
 have h58 : c.ps.length ≤ 8:=by have:=HT.out.sm.p;omega
 go_enter Tryz.func28,Tryz.ntmps28
 go_wp2
 go_loopw [3,4] (fun vo vi wr => ∃ (k : Nat) (ca : Option Addr) (cl cc : Nat) (ys : List Qd),k ≤ l5 ∧ vi = .int .i64 k ∧ vo = .slice ca cl cc ∧ Hid (ROwn wr ca cl cc 2 63 (ys.map qdF) (fun j => w.heap.size + 1 ≤ j) ∧ RQ ys ∧ (∀ q,q ∈ ys ↔ Wn c k q) ∧ ys.length ≤ 3 * k) ∧ Hid (Below (w.heap.size + 1) (w.alloc (.cells #[.slice a1 l1 y1,.slice a2 l2 y2,.slice a3 l3 y3,.slice a4 l4 y4,.slice a5 l5 y5,.int .i64 c.now] 38)) wr)) (fun _ vi _ => l5 - (intOf vi).toNat)
 case atStart => exact ⟨0,_,0,0,[],by omega,rfl,rfl,⟨⟨rfl,Nat.le_refl _,by omega,.inl rfl⟩,List.Pairwise.nil,fun q => ⟨fun h => by simp at h,fun ⟨j,p,h,_⟩ => by omega⟩,by simp⟩,by first | exact Below.refl _ _ | exact (below1 _ _).mono (by simp)⟩
 case round =>
  obtain ⟨k,ca,cl,cc,ys,hk,rfl,rfl,HQ,HL⟩:=hrel;have Bk:=hidK ((HL.out.block w.heap.size (by omega)).trans (heap_alloc_new w (.cells #[.slice a1 l1 y1,.slice a2 l2 y2,.slice a3 l3 y3,.slice a4 l4 y4,.slice a5 l5 y5,.int .i64 c.now] 38)));have HB:=hidK ((below1 w (.cells #[.slice a1 l1 y1,.slice a2 l2 y2,.slice a3 l3 y3,.slice a4 l4 y4,.slice a5 l5 y5,.int .i64 c.now] 38)).trans (HL.out.mono (by omega)))
  have hLs : w.heap.size + 1 ≤ wr.heap.size:=by have h8:=HL.out.size;rw [size1] at h8;exact h8
  by_cases hlt : k < l5
  ·obtain ⟨b,o,x,rfl,hb,hx,hat⟩:=pd_at (HR.out.p.below HB.out) hlt;obtain ⟨va,vl,vc,hvr,z0,z2,z4,c0,c1,c2,c3,c4,c5⟩:=pd_cells hat;have HXx:=hidK hx;have HTx:=hidK hvr;have HZx0:=hidK z0;have HZx2:=hidK z2;have HZx4:=hidK z4;clear hat hx z0 z2 z4 hvr;have hbw:=hb;clear hb
   have hk1 : (k : Int) < l5:=by omega
   obtain ⟨W1,hW1⟩ : ∃ W1,W1 = wr:=⟨_,rfl⟩;subst hW1;have hxz : x.zs.length = vl:=HTx.out.1
   have hv3 : vl ≤ 3:=by have h9 : (x.zs.length : Int) ≤ 3:=(HT.out.2.1.2.2.2.2.2.1 k x HXx.out).2.2.2.1.1;omega
   obtain ⟨k0,k1,k2,k3,k4,k5⟩:=cs6 Bk.out;have ltk_0:=lt_of_some Bk.out
   go_wp2
   clear k0 k1 k2 k3 k4 k5 ltk_0;clear c0 c1 c2 c3 c4 c5 hbw
   go_loopw [3,6] (fun vo vi wr => ∃ (n : Nat) (ca : Option Addr) (cl cc : Nat) (ys : List Qd),n ≤ vl ∧ (x.d = ⟨#[]⟩ → n = 0) ∧ vi = .int .i64 n ∧ vo = .slice ca cl cc ∧ Hid (ROwn wr ca cl cc 2 63 (ys.map qdF) (fun j => w.heap.size + 1 ≤ j) ∧ RQ ys ∧ (∀ q,q ∈ ys ↔ Wn c k q ∨ Wc c x n q) ∧ ys.length ≤ 3 * k + n) ∧ Hid (Below (W1.heap.size + 1) (W1.alloc (.cells #[.string x.n,.int .i64 x.c,.string x.z,.slice va vl vc,.string x.d,.int .i64 x.p] 107)) wr)) (fun _ vi _ => vl - (intOf vi).toNat)
   case atStart => exact ⟨0,_,_,_,ys,by omega,fun _ => rfl,rfl,rfl,⟨HQ.out.1.below (below1 _ _),HQ.out.2.1,fun q => by rw [HQ.out.2.2.1];exact ⟨.inl,fun h => h.elim id (fun ⟨i,t,v,h,_⟩ => by omega)⟩,by have:=HQ.out.2.2.2;omega⟩,Below.refl _ _⟩
   case round =>
    clear HQ;obtain ⟨n,ca,cl,cc,ys,hn,hn0,rfl,rfl,HQ,HL2⟩:=hrel;have hbP : Below W1.heap.size W1 wr:=(below1 W1 (.cells #[.string x.n,.int .i64 x.c,.string x.z,.slice va vl vc,.string x.d,.int .i64 x.p] 107)).trans (HL2.out.mono (by omega));have Bp:=hidK ((HL2.out.block W1.heap.size (by omega)).trans (heap_alloc_new W1 (.cells #[.string x.n,.int .i64 x.c,.string x.z,.slice va vl vc,.string x.d,.int .i64 x.p] 107)));replace Bk:=upK Bk hbP;replace HB:=upB HB hbP;have HBP:=hidK hbP;have hs2:=hbP.size
    have hyl : ys.length = cl:=by have h9 : (ys.map qdF).length = cl:=HQ.out.1.1;rw [List.length_map] at h9;exact h9
    have hyb:=HQ.out.2.2.2;clear hbP
    by_cases he : x.d = ⟨#[]⟩
    ·obtain rfl:=hn0 he;have hq:=isE_y he;have HHE:=hidK he;clear he;obtain ⟨p0,p1,p2,p3,p4,p5⟩:=cs6 Bp.out;have ltp_0:=lt_of_some Bp.out
     go_wp2
     all_goals (
      refine ⟨⟨k + 1,ca,cl,cc,ys,by omega,by go_num,rfl,⟨HQ.out.1,HQ.out.2.1,fun q => ?_,by omega⟩,HL.out.trans (HBP.out.mono (by omega))⟩,by simp [intOf];omega⟩;rw [HQ.out.2.2.1,Wn.no HXx.out HHE.out]
      exact ⟨fun h => h.elim id (fun ⟨i,t,v,h,_⟩ => by omega),.inl⟩)
    have hq:=isE_no he;have HHE:=hidK he;clear he hn0
    by_cases hlt2 : n < vl
    ·have hk3 : (n : Int) < vl:=by omega
     obtain ⟨b2,o2,t,rfl,hb2,hx2,hc2,hsz2⟩:=(HTx.out.below HBP.out).at hlt2;have HXT:=hidK hx2
     obtain ⟨v,hbd⟩ : ∃ v,IsBd c t v:=by
      obtain ⟨i9,n9,_,_,_,h9⟩:=(HT.out.2.2.2.1.1 k x HXx.out).2.resolve_left HHE.out;obtain ⟨v,hv,_⟩:=h9 n t hx2;exact ⟨v,hv⟩
     obtain ⟨i9,j,x9,h91,h92,hv,h94⟩:=hbd;have hbd : IsBd c t v:=⟨i9,j,x9,h91,h92,hv,h94⟩;have HVJ:=hidK hv;have HBD:=hidK hbd;clear h91 h92 h94 hbd hx2 hsz2
     have hj3 : j < l3:=by have:=(List.getElem?_eq_some_iff.1 hv).1;omega
     obtain ⟨b3,o3,y,rfl,hb3,hy,hat⟩:=vd_at (HR.out.v.below HB.out) hj3;rw [hv] at hy;obtain rfl:=Option.some.inj hy;obtain ⟨ya,yl,yc,-,hz0,-,-,-,hc3,-,-,-,-,-,-,-⟩:=vd_cells hat;have HTC:=hidK (And.intro hb2 hc2);have HVC:=hidK (And.intro hb3 hc3);have HZ0:=hidK hz0;have HZD : Hid (x.d.size ≤ 9223372036854775807):=HZx4.out;clear hv hy hat hb2 hc2 hb3 hc3 hz0;obtain ⟨k0,k1,k2,k3,k4,k5⟩:=cs6 Bk.out;have ltk_0:=lt_of_some Bk.out;obtain ⟨p0,p1,p2,p3,p4,p5⟩:=cs6 Bp.out;have ltp_0:=lt_of_some Bp.out;go_wp2_with fail;clear k0 k1 k2 k3 k4 k5 ltk_0 p0 p1 p2 p3 p4 p5 ltp_0;rename_i K0 hK0;refine wp_region_grow_last (by kernel_rfl) rfl rfl (by kernel_rfl) ?_;refine' Grow.stepC _ rfl ?_ ?_;rotate_left 1
     ·refine Obl.plain rfl ?_;intro ac wg K hsz hW hf hK;clear hsz;have e3:=hf 3 (by decide)
      simp [slotFact,List.lookup] at e3
      clear hf;go_simp;refine hK _ _ (Below.refl _ _) ?_;with_reducible rfl
     refine' Grow.stepC _ rfl ?_ ?_;rotate_left 1
     ·refine Obl.plain rfl ?_;intro ac wg K hsz hW hf hK;clear hsz;have e1:=hf 1 (by decide)
      simp [slotFact,List.lookup] at e1
      clear hf;go_simp;refine hK _ _ (Below.refl _ _) ?_;with_reducible rfl
     refine' Grow.stepC _ rfl ?_ ?_;rotate_left 1
     ·refine Obl.plain rfl ?_;intro ac wg K hsz hW hf hK;clear hsz;have e33:=hf 33 (by decide)
      simp [slotFact,List.lookup] at e33
      clear hf;obtain ⟨k0,k1,k2,k3,k4,k5⟩:=cs6 ((hW.block _ (lt_of_some Bk.out)).trans Bk.out);go_simp;refine hK _ _ (Below.refl _ _) ?_;with_reducible rfl
     refine' Grow.stepC _ rfl ?_ ?_;rotate_left 1
     ·refine Obl.plain rfl ?_;intro ac wg K hsz hW hf hK;clear hsz;have e1:=hf 1 (by decide)
      simp [slotFact,List.lookup] at e1
      clear hf;obtain ⟨k0,k1,k2,k3,k4,k5⟩:=cs6 ((hW.block _ (lt_of_some Bk.out)).trans Bk.out);go_simp;refine hK _ _ (Below.refl _ _) ?_;with_reducible rfl
     refine' Grow.stepC _ rfl ?_ ?_;rotate_left 1
     ·refine Obl.plain rfl ?_;intro ac wg K hsz hW hf hK;clear hsz;have e5:=hf 5 (by decide)
      simp [slotFact,List.lookup] at e5
      clear hf;go_simp;refine hK _ _ (Below.refl _ _) ?_;with_reducible rfl
     refine' Grow.stepC _ rfl ?_ ?_;rotate_left 1
     ·refine Obl.plain rfl ?_;intro ac wg K hsz hW hf hK;clear hsz;have e36:=hf 36 (by decide)
      simp [slotFact,List.lookup] at e36
      clear hf;obtain ⟨p0,p1,p2,p3,p4,p5⟩:=cs6 ((hW.block _ (lt_of_some Bp.out)).trans Bp.out);go_simp;refine hK _ _ (Below.refl _ _) ?_;with_reducible rfl
     refine' Grow.stepC _ rfl ?_ ?_;rotate_left 1
     ·refine Obl.plain rfl ?_;intro ac wg K hsz hW hf hK;clear hsz;have e6:=hf 6 (by decide)
      simp [slotFact,List.lookup] at e6
      clear hf;go_simp;refine hK _ _ (Below.refl _ _) ?_;with_reducible rfl
     refine' Grow.stepC _ rfl ?_ ?_;rotate_left 1
     ·refine Obl.plain rfl ?_;intro ac wg K hsz hW hf hK;clear hsz;have e37:=hf 37 (by decide)
      simp [slotFact,List.lookup] at e37
      have e38:=hf 38 (by decide)
      simp [slotFact,List.lookup] at e38
      clear hf;go_simp;refine hK _ _ (Below.refl _ _) ?_;with_reducible rfl
     refine' Grow.stepC _ rfl ?_ ?_;rotate_left 1
     ·refine Obl.plain rfl ?_;intro ac wg K hsz hW hf hK;clear hsz;have e39:=hf 39 (by decide)
      simp [slotFact,List.lookup] at e39
      clear hf;have tc:=(cell_below hW HTC.out.1).trans HTC.out.2;go_simp;refine hK _ _ (Below.refl _ _) ?_;with_reducible rfl
     refine' Grow.stepC (.int .i64 j) rfl ?_ ?_
     ·refine Obl.plain rfl ?_;intro ac wg K hsz hW hf hK;clear hsz;have e35:=hf 35 (by decide)
      simp [slotFact,List.lookup] at e35
      have e40:=hf 40 (by decide)
      simp [slotFact,List.lookup] at e40
      clear hf;go_simp;refine (sbindQ_yes ⟨a1,l1,y1,a2,l2,y2,(some ⟨b3,o3,none⟩),l3,y3,a4,l4,y4,(some ⟨b,o,none⟩),l5,y5⟩ c t _ (HR.out.below (HB.out.trans (hW.mono HB.out.size))) HT.out HVJ.out HBD.out).mono ?_;rintro e w6 ⟨rfl,hb6⟩;exact hK _ _ hb6 rfl
     refine' Grow.stepC _ rfl ?_ ?_;rotate_left 1
     ·refine Obl.plain rfl ?_;intro ac wg K hsz hW hf hK;clear hsz;have e34:=hf 34 (by decide)
      simp [slotFact,List.lookup] at e34
      have e41:=hf 41 (by decide)
      simp [slotFact,List.lookup] at e41
      clear hf
      have hj0 : ¬ (j : Int) < 0:=by omega
      have hj2 : (j : Int) < l3:=by omega
      go_simp;refine hK _ _ (Below.refl _ _) ?_;with_reducible rfl
     refine' Grow.stepC _ rfl ?_ ?_;rotate_left 1
     ·refine Obl.plain rfl ?_;intro ac wg K hsz hW hf hK;clear hsz;have e42:=hf 42 (by decide)
      simp [slotFact,List.lookup] at e42
      clear hf;go_simp;refine hK _ _ (Below.refl _ _) ?_;with_reducible rfl
     refine' Grow.stepC _ rfl ?_ ?_;rotate_left 1
     ·refine Obl.plain rfl ?_;intro ac wg K hsz hW hf hK;clear hsz;have e43:=hf 43 (by decide)
      simp [slotFact,List.lookup] at e43
      clear hf;have vc9:=(cell_below hW HVC.out.1).trans HVC.out.2;go_simp;refine hK _ _ (Below.refl _ _) ?_;with_reducible rfl
     refine' Grow.stepC _ rfl ?_ ?_;rotate_left 1
     ·refine Obl.plain rfl ?_;intro ac wg K hsz hW hf hK;clear hsz;have e5:=hf 5 (by decide)
      simp [slotFact,List.lookup] at e5
      clear hf;go_simp;refine hK _ _ (Below.refl _ _) ?_;with_reducible rfl
     refine' Grow.stepC _ rfl ?_ ?_;rotate_left 1
     ·refine Obl.plain rfl ?_;intro ac wg K hsz hW hf hK;clear hsz;have e45:=hf 45 (by decide)
      simp [slotFact,List.lookup] at e45
      clear hf;obtain ⟨p0,p1,p2,p3,p4,p5⟩:=cs6 ((hW.block _ (lt_of_some Bp.out)).trans Bp.out);go_simp;refine hK _ _ (Below.refl _ _) ?_;with_reducible rfl
     refine' Grow.stepC _ rfl ?_ ?_;rotate_left 1
     ·refine Obl.plain rfl ?_;intro ac wg K hsz hW hf hK;clear hsz;have e44:=hf 44 (by decide)
      simp [slotFact,List.lookup] at e44
      have e46:=hf 46 (by decide)
      simp [slotFact,List.lookup] at e46
      clear hf;go_simp;refine hK _ _ (Below.refl _ _) ?_;with_reducible rfl
     refine Grow.step (PqF ⟨v.n,x.d⟩ ys (w.heap.size + 1)) rfl (PqF.mono) ?_ ?_
     ·refine Obl.plain rfl ?_;intro ac wg K hsz hW hf hK;clear hsz;have e32:=hf 32 (by decide)
      simp [slotFact,List.lookup] at e32
      have e47:=hf 47 (by decide)
      simp [slotFact,List.lookup] at e47
      clear hf;go_simp;refine (sputQ_any ca cl cc ys ⟨v.n,x.d⟩ (w.heap.size + 1) _ (HQ.out.1.below hW) (by have:=hW.size;omega) (by omega) HZ0.out HZD.out).mono ?_;rintro e w6 ⟨sa,sl,sc,zs2,rfl,ho2,hp2,hb6⟩;exact hK _ _ hb6 ⟨sa,sl,sc,zs2,rfl,ho2,hp2⟩
     refine Grow.done ?_;intro q w5 hW hf;simp only [List.forall_mem_cons] at hf;obtain ⟨⟨sa,sl,sc,zs2,h48,ho2,hp2⟩,-⟩:=hf;have HP2:=hidK hp2;have HO2:=hidK ho2;have HW2:=hidK hW;clear hp2 ho2;intro K hK;rw [if_pos (by rfl)];simp only [putsAll,List.foldr,Act.put,List.setIfInBounds_toArray,List.set_cons_zero,List.set_cons_succ,h48];simp only [List.getLast];go_simp;refine hK _ _ ?_;refine hK0 _ _ ?_;clear hK hK0 K K0
     go_wp2
     refine ⟨⟨n + 1,sa,sl,sc,zs2,by omega,fun e => absurd e HHE.out,by go_num,rfl,⟨HO2.out,HP2.out.ris HQ.out.2.1,fun q => ?_,by have h9:=HP2.out.len;omega⟩,HL2.out.trans (HW2.out.mono (by have h8:=HL2.out.size;rw [size1] at h8;exact h8))⟩,by simp [intOf];omega⟩;rw [HP2.out.mem,HQ.out.2.2.1,Wc.step HT.out.2.1.2.2.2.1.2.2 HXT.out HBD.out,or_assoc]
    have hk3 : ¬ (n : Int) < vl:=by omega
    have hnv : n = vl:=by omega
    obtain ⟨p0,p1,p2,p3,p4,p5⟩:=cs6 Bp.out;have ltp_0:=lt_of_some Bp.out
    go_wp2
    refine ⟨⟨k + 1,ca,cl,cc,ys,by omega,by go_num,rfl,⟨HQ.out.1,HQ.out.2.1,fun q => ?_,by omega⟩,HL.out.trans (HBP.out.mono (by omega))⟩,by simp [intOf];omega⟩;rw [HQ.out.2.2.1,Wn.yes HXx.out HHE.out,hxz,hnv]
  have hk1 : ¬ (k : Int) < l5:=by omega
  have hkl : k = l5:=by omega
  obtain ⟨k0,k1,k2,k3,k4,k5⟩:=cs6 Bk.out;have ltk_0:=lt_of_some Bk.out
  go_wp2
  go_ret;exact ⟨_,_,_,ys,rfl,HQ.out.1,HQ.out.2.1,by rw [hl5,← hkl];exact HQ.out.2.2.1,by have:=HQ.out.2.2.2;omega,HB.out⟩

end Rc
end Go.Proofs.YtkljbgdikmpjfaaGreatDoor

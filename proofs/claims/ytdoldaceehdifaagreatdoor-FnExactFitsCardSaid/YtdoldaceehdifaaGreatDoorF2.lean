import Derived.Test.YtdoldaceehdifaaGreatDoorF1
/-
 Volume: whether a row of them is right.
-/
set_option maxRecDepth 100000
set_option maxHeartbeats 12800000
namespace Go.Proofs.YtdoldaceehdifaaGreatDoor
theorem al {p : Prop} (h : p:=by decide) : p:=h
theorem bS {p : Prop} (h : p:=by first | trivial | rfl) : p:=h
theorem mT {p : Prop} (h : p:=by have:=(List.getElem?_eq_some_iff.1 hj).1;omega) : p:=h
theorem mP {p : Prop} (h : p:=by rw [Nat.sub_add_cancel hk0];exact HXx.out) : p:=h
theorem rj {p : Prop} (h : p:=by have:=(List.getElem?_eq_some_iff.1 ht).1;omega) : p:=h
theorem tQ {p : Prop} (h : p:=by simp [results,Tryz.results166,go_sem, *]) : p:=h
end Go.Proofs.YtdoldaceehdifaaGreatDoor
namespace Go.Proofs.YtdoldaceehdifaaGreatDoor
theorem CX {p : Prop} (h : p:=by
 obtain ⟨k0,k1,k2,k3,k4,k5⟩:=cs6 Bk.out;have ltk_1:=aa Bk.out;obtain ⟨p0,p1,p2,p3,p4,p5⟩:=cs6 Bp.out;have ltp_1:=aa Bp.out;go_wp2;go_loopw [35] (fun i wr => ∃ k : Nat,k ≤ pl ∧ i = .int .i64 k ∧ Hid (∀ (j : Nat) t,j < k → p.zs[j]? = some t → ∃ v,bu c t v ∧ v.z = n.z) ∧ Hid (Below w.heap.size w wr) ∧ Hid (wr.heap[w.heap.size]? = some (.cells #[.slice d.a1 d.l1 d.c1,.slice d.a2 d.l2 d.c2,.slice d.a3 d.l3 d.c3,.slice d.a4 d.l4 d.c4,.slice d.a5 d.l5 d.c5,.int .i64 c.now] 37 (0,0))) ∧ Hid (wr.heap[w1.heap.size]? = some (.cells #[.string n.n,.string n.z,.int .i64 n.c,.int .i64 n.s,.int .i64 n.u,.bool n.d,.slice va vl vc] 72 (0,0)))) (fun i _ => pl - (intOf i).toNat);case atStart => exact ⟨0,by omega,rfl,fun _ _ h => absurd h af,HB.out.alloc HB.out.size _,(Below.heap_alloc _ _ _ (aa Bk.out)).trans Bk.out,Array.getElem?_push_size⟩
 case round =>
  obtain ⟨k,hk,rfl,HQ,HB,Bk,Bn⟩:=hrel;by_cases hlt : k < pl
  ·obtain ⟨b,o,t,rfl,hb,hx,hc,hsz⟩:=(HP.out.below HB.out).at hlt;have HXt:=ae hx;clear hx hsz;obtain ⟨k0,k1,k2,k3,k4,k5⟩:=cs6 Bk.out;have ltk_0:=aa Bk.out;obtain ⟨n0,n1,n2,n3,n4,n5,n6⟩:=cs7 Bn.out;have ltn_0:=aa Bn.out;go_wp2_with fail;refine (rM d c t w _ HR.out HB.out HX.out HV.out HNE.out).mono ?_;rintro e w2 ⟨hb2,hf⟩;clear k0 k1 k2 k3 k4 k5 ltk_0 n0 n1 n2 n3 n4 n5 n6 ltn_0;replace Bk:=upK Bk hb2;replace Bn:=upK Bn hb2;replace HB:=upB HB hb2;clear hb2;clear hb hc;rcases hf with ⟨v,xa,xl,xc,hbd,rfl,z0,z2,hxr⟩ | ⟨hbd,rfl⟩;rotate_left
   ·exact wv
   have HD:=ae hbd;have HTx:=ae hxr;clear hbd hxr z0 z2;by_cases hz2 : v.z = n.z
   ·have q3:=aV hz2;have HZ2:=ae hz2;clear hz2;obtain ⟨k0,k1,k2,k3,k4,k5⟩:=cs6 Bk.out;have ltk_1:=aa Bk.out;obtain ⟨n0,n1,n2,n3,n4,n5,n6⟩:=cs7 Bn.out;have ltn_1:=aa Bn.out;go_wp2_with fail;refine ⟨⟨k + 1,by omega,by go_num,fun j s hj hs => ?_,(HB.out.alloc HB.out.size _),(Below.heap_alloc _ _ _ (aa Bk.out)).trans Bk.out,(Below.heap_alloc _ _ _ (aa Bn.out)).trans Bn.out⟩,by simp [intOf];omega⟩;by_cases e : j = k
    ·subst e;rw [HXt.out] at hs;obtain rfl:=Option.some.inj hs;exact ⟨v,HD.out,HZ2.out⟩
    ·exact HQ.out j s af hs
   ·have q3:=bo hz2;have HZ2:=ae hz2;clear hz2;obtain ⟨k0,k1,k2,k3,k4,k5⟩:=cs6 Bk.out;have ltk_1:=aa Bk.out;obtain ⟨n0,n1,n2,n3,n4,n5,n6⟩:=cs7 Bn.out;have ltn_1:=aa Bn.out;go_wp2;go_ret;refine ar.f (fun ⟨i,m,e1,e2,e3,e4⟩ => ?_) (HB.out.alloc HB.out.size _);obtain ⟨_,rfl⟩:=HN.out.inj e1 HX1.out (e2.trans HN1.out.symm);obtain ⟨v',e5,e6⟩:=e4 k t HXt.out;obtain rfl:=bu.inj HX.out HV.out HD.out e5;exact HZ2.out e6
  ·exact wa) : p:=h
theorem nI {p : Prop} (h : p:=by
 have HB:=HB1;clear HB1;have Bk:=Ck;clear Ck;clear hk0' ek;go_wp2_with fail;refine ⟨⟨k + 1,by omega,by go_num,fun j z hj hz => ?_,fun j z y hj hz hy => ?_,HB.out,Bk.out⟩,by simp [intOf];omega⟩
 ·exact vN
 ·by_cases e : j + 1 = k
  ·have hj : j = k - 1:=af
   subst hj;rw [Nat.sub_add_cancel hk0,HXx.out] at hz;obtain rfl:=Option.some.inj hz;rw [HXy.out] at hy;obtain rfl:=Option.some.inj hy;exact hless
  ·exact HO.out j z y af hz hy) : p:=h
theorem nH {p : Prop} (h : p:=by
 have HB:=HB1;clear HB1;have Bk:=Ck;clear Ck;clear hd;go_wp2_with fail;refine ⟨⟨k + 1,by omega,by go_num,fun j z hj hz => ?_,fun j z y hj hz hy => ?_,HB.out,Bk.out⟩,by simp [intOf];omega⟩
 ·exact vN
 ·by_cases e : j + 1 = k
  ·exact absurd hk0 af
  ·exact HO.out j z y af hz hy) : p:=h
theorem v_ {p : Prop} (h : p:=by
 rw [hs] at c4;clear hs;obtain ⟨k0,k1,k2,k3,k4,k5⟩:=cs6 Bk.out;have ltk_0:=aa Bk.out;go_wp2;refine ⟨⟨k + 1,by omega,by go_num,fun j z hj hz => ?_,(HB.out.alloc HB.out.size _),(Below.heap_alloc _ _ _ (aa Bk.out)).trans Bk.out⟩,by simp [intOf];omega⟩;by_cases e : j = k
 ·subst e;rw [HXv.out] at hz;obtain rfl:=Option.some.inj hz;exact fun h1 h2 => by rcases HCs.out with h | h;(rw [h] at h1;cases h1);exact absurd h h2
 ·exact HQ.out j z af hz) : p:=h
theorem rD {p : Prop} (h : p:=by
 rintro e w' ⟨hb,h⟩;rcases h with ⟨i,y,h1,h2,rfl⟩ | ⟨h1,rfl⟩
 ·obtain ⟨rfl,_⟩:=hs.inj h1 hx (h2.trans hn.symm);exact ⟨rfl,hb⟩
 ·exact absurd hn (h1 j x hx)) : p:=h
theorem AW {p : Prop} (h : p:=by
 obtain rfl : vl = kq:=af
 go_wp2_with fail;refine ⟨⟨k + 1,by omega,by go_num,fun j z hj hz => ?_,HB.out,Bk.out⟩,by simp [intOf];omega⟩;by_cases e : j = k
 ·subst e;rw [HXv.out] at hz;exact vP
 ·exact HQ.out j z af hz) : p:=h
theorem rA {p : Prop} (h : p:=by
 rintro e w' ⟨hb,h⟩;rcases h with ⟨i,y,h1,h2,rfl⟩ | ⟨h1,rfl⟩
 ·exact absurd h2 (hn i y h1)
 ·exact ⟨rfl,hb⟩) : p:=h
theorem AP {p : Prop} (h : p:=by
 have HH:=ae hh;clear hh;obtain ⟨k0,k1,k2,k3,k4,k5⟩:=cs6 Bk.out;have ltk_1:=aa Bk.out;obtain ⟨p0,p1,p2,p3,p4,p5⟩:=cs6 Bp.out;have ltp_1:=aa Bp.out;go_wp2;go_ret;refine ar.f (fun ⟨i,n,e1,e2,_⟩ => ?_) (HB.out.alloc HB.out.size _);have:=(bU HN.out e1 e2).2;rw [HH.out] at this;cases this) : p:=h
theorem uy {p : Prop} (h : p:=by
 obtain ⟨k0,k1,k2,k3,k4,k5⟩:=cs6 Bk.out;have ltk_2:=aa Bk.out;go_wp2;go_ret;exact ar.f (fun h => by have:=HI2.out.2 h.2.1;cases this) HB.out) : p:=h
theorem p_ {p : Prop} (h : p:=by
 obtain ⟨k0,k1,k2,k3,k4,k5⟩:=cs6 Bk.out;have ltk_1:=aa Bk.out;go_wp2;go_ret;exact ar.f (fun h => by have:=HI1.out.2 h.1;cases this) HB.out) : p:=h
theorem p8 {p : Prop} (h : p:=by
 go_wp2;go_ret;exact ⟨congrArg (fun z => Ending.returned (.int .i64 z)) (HS.out.trans (by rw [List.take_of_length_le af])),HB.out⟩) : p:=h
theorem je {p : Prop} (h : p:=by
 obtain ⟨q,h1,h2⟩:=haty 0 _ rfl;obtain ⟨rfl,-⟩:=h2;exact h1) : p:=h
theorem xC {p : Prop} (h : p:=by
 go_wp2_with fail;refine ⟨⟨k + 1,by omega,by go_num,fun j z hj hz => ?_,HB.out,Bk.out⟩,by simp [intOf];omega⟩;by_cases e : j = k
 ·subst e;rw [HXn.out] at hz;obtain rfl:=Option.some.inj hz;exact hq
 ·exact HQ.out j z af hz) : p:=h
theorem xB {p : Prop} (h : p:=by
 obtain ⟨x0,x1,x2,x3,x4⟩:=cs5 Bx.out;have ltx_2:=aa Bx.out;go_wp2;go_ret;refine ar.f (fun ⟨i,j,x',v',e1,e2,e3,e4,_⟩ => ?_) (HB.out.alloc HB.out.size _);have:=(bU HX.out e1 e2).2;rw [HH1.out] at this;cases this) : p:=h
theorem xA {p : Prop} (h : p:=by
 by_cases h : ∃ v,bu c t v
 ·exact .inl h
 ·exact .inr (fun v hv => h ⟨v,hv⟩)) : p:=h
theorem lG {p : Prop} (h : p:=by
 clear HQ;go_wp2;go_ret;exact ar.t ⟨HQ1.out,HQ2.out⟩ HB.out) : p:=h
theorem pM {p : Prop} (h : p:=by
 obtain rfl:=Option.some.inj hz;exact ⟨HH.out,.inr (HI.out.1 bS)⟩) : p:=h
theorem xi {p : Prop} (h : p:=by
 obtain ⟨k0,k1,k2,k3,k4,k5⟩:=cs6 Bk.out;have ltk_5:=aa Bk.out;go_wp2;go_ret;exact ar.f (fun h => by have:=HI5.out.2 h.2.2.2.2.1;cases this) HB.out) : p:=h
theorem xh {p : Prop} (h : p:=by
 obtain ⟨k0,k1,k2,k3,k4,k5⟩:=cs6 Bk.out;have ltk_6:=aa Bk.out;go_wp2;go_ret;exact ar.f (fun h => by have:=HI6.out.2 h.2.2.2.2.2;cases this) HB.out) : p:=h
theorem xg {p : Prop} (h : p:=by
 obtain ⟨k0,k1,k2,k3,k4,k5⟩:=cs6 Bk.out;have ltk_4:=aa Bk.out;go_wp2;go_ret;exact ar.f (fun h => by have:=HI4.out.2 h.2.2.2.1;cases this) HB.out) : p:=h
theorem xe {p : Prop} (h : p:=by
 obtain ⟨k0,k1,k2,k3,k4,k5⟩:=cs6 Bk.out;have ltk_3:=aa Bk.out;go_wp2;go_ret;exact ar.f (fun h => by have:=HI3.out.2 h.2.2.1;cases this) HB.out) : p:=h
theorem xb {p : Prop} (h : p:=by
 exact ag (Nat.le_succ _) (ag (Nat.le_succ _) (ag (Nat.le_succ _) (ag (Nat.le_succ _) (ag (Nat.le_succ _) (HB.out)))))) : p:=h
theorem w9 {p : Prop} (h : p:=by
 obtain rfl : pl = k:=af
 go_wp2;go_ret;exact ar.t (fun j t ht => HQ.out j t rj ht) HB.out) : p:=h
theorem w8 {p : Prop} (h : p:=by
 by_cases e : j = k
 ·subst e;rw [HXp.out] at hz;obtain rfl:=Option.some.inj hz;exact fun h => absurd h HP2.out
 ·exact HQ.out j z af hz) : p:=h
theorem pE {p : Prop} (h : p:=by
 obtain rfl:=Option.some.inj hz;exact ⟨HH.out,.inl HEm.out⟩) : p:=h
theorem wL {p : Prop} (h : p:=by
 show _ = _;rw [gJ HX.out,if_neg (fun h => by have:=HI.out.2 h;cases this),← HS.out,Int.add_zero]) : p:=h
theorem wv {p : Prop} (h : p:=by
 have HD:=ae hbd;clear hbd;obtain ⟨k0,k1,k2,k3,k4,k5⟩:=cs6 Bk.out;have ltk_1:=aa Bk.out;obtain ⟨n0,n1,n2,n3,n4,n5,n6⟩:=cs7 Bn.out;have ltn_1:=aa Bn.out;go_wp2;go_ret;refine ar.f (fun ⟨i,m,e1,e2,e3,e4⟩ => ?_) (HB.out.alloc HB.out.size _);obtain ⟨v,e5,_⟩:=e4 k t HXt.out;exact HD.out v e5) : p:=h
theorem wa {p : Prop} (h : p:=by
 obtain rfl : pl = k:=af
 go_wp2;go_ret;exact ar.t ⟨_,n,HX1.out,HN1.out,HC.out,fun j t ht => HQ.out j t rj ht⟩ HB.out) : p:=h
theorem vP {p : Prop} (h : p:=by
 obtain rfl:=Option.some.inj hz;exact fun j s hs => HQ2.out j s (by have h1:=(List.getElem?_eq_some_iff.1 hs).1;have h2:=HVL.out;omega) hs) : p:=h
theorem vN {p : Prop} (h : p:=by
 by_cases e : j = k
 ·subst e;rw [HXx.out] at hz;obtain rfl:=Option.some.inj hz;exact HOK.out
 ·exact HQ.out j z af hz) : p:=h
theorem ew {p : Prop} (h : p:=by
 have HR:=ae hr;have hl1 : c.ns.length = l1:=by simpa using (show (c.ns.map ndF).length = l1 from hr.n.1)
 have hm1 : l1 ≤ 9223372036854775807:=Nat.le_trans hr.n.2.1 hr.n.2.2.1;have hl2 : c.ks.length = l2:=by simpa using (show (c.ks.map kdF).length = l2 from hr.k.1)
 have hm2 : l2 ≤ 9223372036854775807:=Nat.le_trans hr.k.2.1 hr.k.2.2.1;have hl3 : c.vs.length = l3:=by simpa using (show (c.vs.map vdF).length = l3 from hr.v.1)
 have hm3 : l3 ≤ 9223372036854775807:=Nat.le_trans hr.v.2.1 hr.v.2.2.1;have hl4 : c.xs.length = l4:=by simpa using (show (c.xs.map xdF).length = l4 from hr.x.1)
 have hm4 : l4 ≤ 9223372036854775807:=Nat.le_trans hr.x.2.1 hr.x.2.2.1;have hl5 : c.ps.length = l5:=by simpa using (show (c.ps.map pdF).length = l5 from hr.p.1)
 have hm5 : l5 ≤ 9223372036854775807:=Nat.le_trans hr.p.2.1 hr.p.2.2.1;exact And.intro HR (And.intro hl1 (And.intro hm1 (And.intro hl2 (And.intro hm2 (And.intro hl3 (And.intro hm3 (And.intro hl4 (And.intro hm4 (And.intro hl5 hm5)))))))))) : p:=h
theorem fc {p : Prop} (h : p:=by
 have x0:=fun q : Wd wr => (q.cell hb).trans c0;have x1:=fun q : Wd wr => (q.cell hb).trans c1;have x2:=fun q : Wd wr => (q.cell hb).trans c2;have x3:=fun q : Wd wr => (q.cell hb).trans c3;have x4:=fun q : Wd wr => (q.cell hb).trans c4;exact And.intro x0 (And.intro x1 (And.intro x2 (And.intro x3 x4)))) : p:=h
theorem ni {p : Prop} (h : p:=by
 have v1w:=fun q : Wd w2 => (q.cell hbv).trans v1;have v3w:=fun q : Wd w2 => (q.cell hbv).trans v3;have v4w:=fun q : Wd w2 => (q.cell hbv).trans v4;have v5w:=fun q : Wd w2 => (q.cell hbv).trans v5;have hne0:=Wd.ne w2;exact And.intro v1w (And.intro v3w (And.intro v4w (And.intro v5w hne0)))) : p:=h
theorem rz {p : Prop} (h : p:=by
 have HW:=HB;have k1:=fun q : Wd wr => q.slot (o:=1) Gk.out rfl;have x0:=fun q : Wd wr => (q.cell hb).trans c0;have x1:=fun q : Wd wr => (q.cell hb).trans c1;have x2:=fun q : Wd wr => (q.cell hb).trans c2;have x3:=fun q : Wd wr => (q.cell hb).trans c3;exact And.intro HW (And.intro k1 (And.intro x0 (And.intro x1 (And.intro x2 x3))))) : p:=h
theorem AG {p : Prop} (h : p:=by
 have GK:=ae ((Below.heap_alloc wr (.cells #[.string n.n,.string n.z,.int .i64 n.c,.int .i64 n.s,.int .i64 n.u,.bool n.d,.slice va vl vc] 72) _ (aa Bk.out)).trans Bk.out);have GR : Hid ((wr.alloc (.cells #[.string n.n,.string n.z,.int .i64 n.c,.int .i64 n.s,.int .i64 n.u,.bool n.d,.slice va vl vc] 72)).heap[wr.heap.size]? = some (.cells #[.string n.n,.string n.z,.int .i64 n.c,.int .i64 n.s,.int .i64 n.u,.bool n.d,.slice va vl vc] 72 (0,0))):=Array.getElem?_push_size;have HW:=ae (HB.out.trans ((an wr (.cells #[.string n.n,.string n.z,.int .i64 n.c,.int .i64 n.s,.int .i64 n.u,.bool n.d,.slice va vl vc] 72)).mono HB.out.size));exact And.intro GK (And.intro GR HW)) : p:=h
theorem uv {p : Prop} (h : p:=by
 have Gk:=Bk;have Gx:=Bx;have Gy:=By;have HW:=HB;have k2:=fun q : Wd q1.w => q.slot (o:=2) Gk.out rfl;have x3:=fun q : Wd q1.w => q.slot (o:=3) Gx.out rfl;have y3:=fun q : Wd q1.w => q.slot (o:=3) Gy.out rfl;have tw:=fun q : Wd q1.w => (q.cell hbw1).trans hcw1;have vw:=fun q : Wd q1.w => (q.cell hbv1).trans hcv1;have hne0:=Wd.ne q1.w;exact And.intro Gk (And.intro Gx (And.intro Gy (And.intro HW (And.intro k2 (And.intro x3 (And.intro y3 (And.intro tw (And.intro vw hne0))))))))) : p:=h
theorem ia {p : Prop} (h : p:=by
 have x5:=fun q : Wd wr => (q.cell hb).trans c5;have x6:=fun q : Wd wr => (q.cell hb).trans c6;exact And.intro x5 x6) : p:=h
theorem AF {p : Prop} (h : p:=by
 have GV : Hid ((wr.alloc (.cells #[.string v.n,.int .i64 v.c,.string v.z,.string v.k,.bool v.x,.string v.m,.bool v.y,.slice va vl vc] 118)).heap[wr.heap.size]? = some (.cells #[.string v.n,.int .i64 v.c,.string v.z,.string v.k,.bool v.x,.string v.m,.bool v.y,.slice va vl vc] 118 (0,0))):=Array.getElem?_push_size;have BV:=ae (HB.out.trans ((an wr (.cells #[.string v.n,.int .i64 v.c,.string v.z,.string v.k,.bool v.x,.string v.m,.bool v.y,.slice va vl vc] 118)).mono HB.out.size));exact And.intro GV BV) : p:=h
theorem cH {p : Prop} (h : p:=by
 have HB1:=upB HW q1.b;have Ck:=upK Gk q1.b;exact And.intro HB1 Ck) : p:=h
theorem fh {p : Prop} (h : p:=by
 have yw:=fun q : Wd wr => (q.cell hb).trans y0;have hne0:=Wd.ne wr;exact And.intro yw hne0) : p:=h
theorem bD {p : Prop} (h : p:=by
 have Gk:=Bk;have Gr:=Br;have HW:=HB;exact And.intro Gk (And.intro Gr HW)) : p:=h
theorem cN {p : Prop} (h : p:=by
 have HB1:=upB HW q.b;have Ck:=upK Gk q.b;exact And.intro HB1 Ck) : p:=h
theorem kj {p : Prop} (h : p:=by
 have HXv:=ae hx;have HTv:=ae hvr;have HZv0:=ae z0;have HZv2:=ae z2;have HZv3:=ae z3;have HZv5:=ae z5;exact And.intro HXv (And.intro HTv (And.intro HZv0 (And.intro HZv2 (And.intro HZv3 HZv5))))) : p:=h
theorem dq {p : Prop} (h : p:=by
 have HB2:=upB HW q2.b;have Ck:=upK Gk q2.b;exact And.intro HB2 Ck) : p:=h
theorem uj {p : Prop} (h : p:=by
 have lts_2:=aa Bs.out;have fr0:=au Bs.out 0;have fr1:=au Bs.out 1;have fr2:=au Bs.out 2;have fr3:=au Bs.out 3;have fr4:=au Bs.out 4;have fr5:=au Bs.out 5;have fr6:=au Bs.out 6;have fr7:=au Bs.out 7;exact And.intro lts_2 (And.intro fr0 (And.intro fr1 (And.intro fr2 (And.intro fr3 (And.intro fr4 (And.intro fr5 (And.intro fr6 fr7)))))))) : p:=h
theorem Ay {p : Prop} (h : p:=by
 have yw:=fun q : Wd w1 => (q.cell hbv).trans hcv;have hne0:=Wd.ne w1;have HC0:=ae (fun q : Wd w1 => dA ⟨a1,l1,y1,a2,l2,y2,(some ⟨b,o,none⟩),l3,y3,(some ⟨b4,o4,none⟩),l4,y4,a5,l5,y5⟩ c.now c.ks v.k q.w (HR.out.k.below (HW.out.trans (q.b.mono HW.out.size))) HKS.out HG1.out HG2.out);exact And.intro yw (And.intro hne0 HC0)) : p:=h
theorem hQ {p : Prop} (h : p:=by
 have HR:=ae hr;have HB:=ae (Below.refl w.heap.size w);exact And.intro HR HB) : p:=h
theorem m9 {p : Prop} (h : p:=by
 have hk0' : (0 : Int) < k:=af
 have ek : ((k : Int) - 1).toNat = k - 1:=af
 exact And.intro hk0' ek) : p:=h
theorem m8 {p : Prop} (h : p:=by
 have HB:=ae (BV.out.trans (HBW.out.mono BV.out.size));have Bk:=upK KV HBW.out;exact And.intro HB Bk) : p:=h
theorem rn {p : Prop} (h : p:=by
 have hlc : pl ≤ 9223372036854775807:=Nat.le_trans hp.2.1 hp.2.2.1;have hzl : p.zs.length = pl:=hp.1;exact And.intro hlc hzl) : p:=h
theorem Ar {p : Prop} (h : p:=by
 have Gk : Hid (wr.heap[w.heap.size]? = some (.cells #[.slice (some ⟨b,o,none⟩) l1 y1,.slice a2 l2 y2,.slice a3 l3 y3,.slice a4 l4 y4,.slice a5 l5 y5,.int .i64 c.now] 37 (0,0))):=Bk.out;have HW:=HB;have k0:=fun q : Wd wr => q.slot (o:=0) Gk.out rfl;exact And.intro Gk (And.intro HW k0)) : p:=h
theorem Aq {p : Prop} (h : p:=by
 have Gk : Hid (wr.heap[w.heap.size]? = some (.cells #[.slice a1 l1 y1,.slice a2 l2 y2,.slice (some ⟨b,o,none⟩) l3 y3,.slice a4 l4 y4,.slice a5 l5 y5,.int .i64 c.now] 37 (0,0))):=Bk.out;have HW:=HB;have k2:=fun q : Wd wr => q.slot (o:=2) Gk.out rfl;exact And.intro Gk (And.intro HW k2)) : p:=h
theorem Ao {p : Prop} (h : p:=by
 have Gk : Hid (wr.heap[w.heap.size]? = some (.cells #[.slice a1 l1 y1,.slice a2 l2 y2,.slice a3 l3 y3,.slice (some ⟨b,o,none⟩) l4 y4,.slice a5 l5 y5,.int .i64 c.now] 37 (0,0))):=Bk.out;have HW:=HB;have k3:=fun q : Wd wr => q.slot (o:=3) Gk.out rfl;exact And.intro Gk (And.intro HW k3)) : p:=h
theorem An {p : Prop} (h : p:=by
 have Gk : Hid (wr.heap[w.heap.size]? = some (.cells #[.slice a1 l1 y1,.slice a2 l2 y2,.slice a3 l3 y3,.slice a4 l4 y4,.slice (some ⟨b,o,none⟩) l5 y5,.int .i64 c.now] 37 (0,0))):=Bk.out;have HW:=HB;have k4:=fun q : Wd wr => q.slot (o:=4) Gk.out rfl;exact And.intro Gk (And.intro HW k4)) : p:=h
theorem Al {p : Prop} (h : p:=by
 have hne0:=Wd.ne w1;have HC0:=ae (fun q : Wd w1 => dA ⟨a1,l1,y1,a2,l2,y2,(some ⟨b,o,none⟩),l3,y3,a4,l4,y4,a5,l5,y5⟩ c.now c.ks v.k q.w (HR.out.k.below (HW.out.trans (q.b.mono HW.out.size))) HKS.out HG1.out HG2.out);exact And.intro hne0 HC0) : p:=h
theorem mY {p : Prop} (h : p:=by
 have HR:=ae hr;have HE:=ae hG;have HB:=ae (Below.refl w.heap.size w);exact And.intro HR (And.intro HE HB)) : p:=h
theorem mX {p : Prop} (h : p:=by
 have hd : decide ((0 : Int) < k) = false:=by simp;omega
 have Gk:=Bk;exact And.intro hd Gk) : p:=h
theorem hE {p : Prop} (h : p:=by
 have HX:=ae hx;have HV:=ae hv;have HNE:=ae hne;exact And.intro HX (And.intro HV HNE)) : p:=h
theorem ki {p : Prop} (h : p:=by
 have HXn:=ae hx;have HTn:=ae hvr;have HZn0:=ae z0;have HZn1:=ae z1;exact And.intro HXn (And.intro HTn (And.intro HZn0 HZn1))) : p:=h
theorem fg {p : Prop} (h : p:=by
 have Ck:=upK Gk q1.b;have Cr:=upK Gr q1.b;exact And.intro Ck Cr) : p:=h
theorem mW {p : Prop} (h : p:=by
 have HW:=HB;have k2:=fun q : Wd q1.w => q.slot (o:=2) Gk.out rfl;exact And.intro HW k2) : p:=h
theorem Ah {p : Prop} (h : p:=by
 have HC:=ae (fun v : World => ei x va vl vc v);have HB1:=ae (HB.out.alloc HB.out.size (.cells #[.string x.n,.int .i64 x.c,.string x.z,.slice va vl vc,.string x.d,.int .i64 x.p] 65));exact And.intro HC HB1) : p:=h
end Go.Proofs.YtdoldaceehdifaaGreatDoor
namespace Go.Proofs.YtdoldaceehdifaaGreatDoor
open Go.RowKit
namespace Rc
open Mk

theorem oP (a : Option Addr) (len cap : Nat) (xs : List Vd) (most : Int) (w : World) (hr : aI w a len cap 8 (xs.map vdF)) :
  Calls Tryz.prog 135 #[.slice a len cap,.int .i64 most] w (ar (dE oB Vd.n xs most) w):=by
 have HR:=ae hr;obtain ⟨hxl,hlc⟩:=fu;clear hr;have hmcalled : ∀ (v : Value) (w : World),(method 406 118 v "loop.example/g00571/impl.called").run Tryz.prog w = .ok (237,v) w:=fun _ _ => by kernel_rfl
 have hmright : ∀ (v : Value) (w : World),(method 406 118 v "loop.example/g00571/impl.right").run Tryz.prog w = .ok (238,v) w:=fun _ _ => by kernel_rfl
 by_cases hmo : most < (len : Int)
 ·go_enter Tryz.func135,Tryz.ntmps135;exact jg
 go_enter Tryz.func135,Tryz.ntmps135;go_wp2;go_loopw [5,14] (fun q i wr => ∃ (k : Nat) (y : ByteArray),k ≤ len ∧ q = .string y ∧ i = .int .i64 k ∧ Hid (k = 0 → y = ⟨#[]⟩) ∧ Hid (∀ z,0 < k → xs[k - 1]? = some z → z.n = y) ∧ Hid (∀ (j : Nat) z,j < k → xs[j]? = some z → oB z) ∧ Hid (∀ (j : Nat) z u,j + 1 < k → xs[j + 1]? = some z → xs[j]? = some u → Op.bytesLess u.n.toList z.n.toList = true) ∧ Hid (Below w.heap.size w wr)) (fun _ i _ => len - (intOf i).toNat);case atStart => exact ⟨0,_,by omega,rfl,rfl,fun _ => rfl,fun _ h => absurd h af,fun _ _ h => absurd h af,fun _ _ _ h => absurd h af,Below.refl _ _⟩
 case round =>
  obtain ⟨k,y,hk,rfl,rfl,H0,H1,HE,HO,HB⟩:=hrel;by_cases hlt : k < len
  ·obtain ⟨b,o,x,rfl,hb,hx,hat⟩:=bC (HR.out.below HB.out) hlt;obtain ⟨va,vl,vc,hvr,z0,z2,z3,z5,c0,c1,c2,c3,c4,c5,c6,c7⟩:=aK hat;have HX:=ae hx;obtain ⟨HC,HB1⟩:=Ak;have HRt:=ae (mJ x va vl vc (wr.alloc (.cells #[.string x.n,.int .i64 x.c,.string x.z,.string x.k,.bool x.x,.string x.m,.bool x.y,.slice va vl vc] 118)) z0 z2 z3 z5 (hvr.below (an _ _)));clear hat hx z0 z2 z3 z5 hvr;go_wp2_with fail;refine HRt.out.mono ?_;rintro e w1 ⟨r,rfl,hrt,hb1⟩;obtain ⟨g1,-,-⟩:=b_ hb1;have hs1:=hb1.size;rw [show (wr.alloc (.cells #[.string x.n,.int .i64 x.c,.string x.z,.string x.k,.bool x.x,.string x.m,.bool x.y,.slice va vl vc] 118)).heap.size = wr.heap.size + 1 from by simp] at hs1;have HB2:=upB HB1 hb1;obtain ⟨d0,d1,d2,d3,d4,d5,d6,d7⟩:=cs8 g1;have HG:=ae g1;have HI:=ae hrt;clear g1 hb1 HB1 HRt hrt c0 c1 c2 c3 c4 c5 c6 c7;cases r
   ·exact nk
   have HOK:=ae (HI.out.1 rfl);clear HI;go_wp2_with fail;refine (HC.out _).mono ?_;rintro e w2 ⟨rfl,hb2⟩;obtain ⟨HB3,g2,hs2,htri⟩:=nj;clear HG hb2 HB2 d0 d1 d2 d3 d4 d5 d6 d7;obtain ⟨d0,d1,d2,d3,d4,d5,d6,d7⟩:=cs8 g2;clear g2;cases hless : Op.bytesLess y.toList x.n.toList
   ·exact nG
   ·rw [hless] at htri;go_wp2_with fail;refine (HC.out _).mono ?_;rintro e w3 ⟨rfl,hb3⟩;have HB4:=ae (HB3.out.trans (hb3.mono (Nat.le_trans HB.out.size af)));clear hb3 d0 d1 d2 d3 d4 d5 d6 d7;exact uC
  ·exact nC

def DS (xs : List Vd) (t : ByteArray) (w : World) (e : Ending) (w' : World) : Prop :=
 Below w.heap.size w w' ∧ ((∃ (j : Nat) (x : Vd),xs[j]? = some x ∧ x.n = t ∧ e = .returned (.int .i64 j)) ∨ ((∀ (j : Nat) x,xs[j]? = some x → ¬ x.n = t) ∧ e = .returned (.int .i64 (-1))))

theorem iN (d : Ad) (now : Int) (xs : List Vd) (t : ByteArray) (w : World) (hr : aI w d.a3 d.l3 d.c3 8 (xs.map vdF)) :
  Calls Tryz.prog 112 #[.agg #[.slice d.a1 d.l1 d.c1,.slice d.a2 d.l2 d.c2,.slice d.a3 d.l3 d.c3,.slice d.a4 d.l4 d.c4,.slice d.a5 d.l5 d.c5,.int .i64 now],.string t] w (DS xs t w):=by
 have HR:=ae hr;have hxl : xs.length = d.l3:=cY
 have hlc : d.l3 ≤ 9223372036854775807:=Nat.le_trans hr.2.1 hr.2.2.1;clear hr;go_enter Tryz.func112,Tryz.ntmps112;go_wp2;go_loopw [5] (fun i wr => ∃ k : Nat,k ≤ d.l3 ∧ i = .int .i64 k ∧ wr = w.alloc (.cells #[.slice d.a1 d.l1 d.c1,.slice d.a2 d.l2 d.c2,.slice d.a3 d.l3 d.c3,.slice d.a4 d.l4 d.c4,.slice d.a5 d.l5 d.c5,.int .i64 now] 37) ∧ Hid (∀ (j : Nat) z,j < k → xs[j]? = some z → ¬ z.n = t)) (fun i _ => d.l3 - (intOf i).toNat);case atStart => exact ⟨0,by omega,rfl,rfl,fun _ _ h => absurd h af⟩
 case round =>
  obtain ⟨k,hk,rfl,rfl,HE⟩:=hrel;by_cases hlt : k < d.l3
  ·obtain ⟨b,o,x,ha,hb,hx,hat⟩:=bC HR.out hlt;obtain ⟨va,vl,vc,hvr,-,-,-,-,c0,-,-,-,-,-,-,-⟩:=aK hat;have HX:=ae hx;clear hat hx hvr;exact nF
  ·obtain rfl : k = d.l3:=af
   exact nr

theorem dv (x : Xd)  (w : World) :
  Calls Tryz.prog 239 #[.agg #[.string x.n,.int .i64 x.z,.string x.k,.bool x.x,.string x.v]] w fun e w' => e = .returned (.string x.n) ∧ Below w.heap.size w w':=by
 go_enter Tryz.func239,Tryz.ntmps239;go_wp2;go_ret;exact ⟨rfl,an _ _⟩

theorem mI (x : Xd)  (w : World) (hn : x.n.size ≤ 9223372036854775807) (hk : x.k.size ≤ 9223372036854775807) (hv : x.v.size ≤ 9223372036854775807) :
  Calls Tryz.prog 240 #[.agg #[.string x.n,.int .i64 x.z,.string x.k,.bool x.x,.string x.v]] w (ar (oq x) w):=by
 skip;skip;go_enter Tryz.func240,Tryz.ntmps240;go_wp2_with fail;refine (ee x.n x.z x.k x.x x.v _ hn hk hv).mono ?_;exact nt

theorem ic (a : Option Addr) (len cap : Nat) (xs : List Xd) (t : ByteArray) (w : World) (hr : aI w a len cap 5 (xs.map xdF)) :
  Calls Tryz.prog 169 #[.slice a len cap,.string t] w fun e w' => e = .returned (.tuple #[.int .i64 (pl Xd.n xs t : Nat),.bool (hit Xd.n xs t)]) ∧ Below w.heap.size w w':=by
 have HR:=ae hr;obtain ⟨hxl,hlc⟩:=fu;clear hr;have hmcalled : ∀ (v : Value) (w : World),(method 406 120 v "loop.example/g00571/impl.called").run Tryz.prog w = .ok (239,v) w:=fun _ _ => by kernel_rfl
 go_enter Tryz.func169,Tryz.ntmps169;go_wp2;go_loopw [10] (fun i wr => ∃ k : Nat,k ≤ len ∧ i = .int .i64 k ∧ Hid (∀ (j : Nat) y,j < k → xs[j]? = some y → Op.bytesLess y.n.toList t.toList = true) ∧ Hid (Below w.heap.size w wr)) (fun i _ => len - (intOf i).toNat);case atStart => exact ⟨0,by omega,rfl,fun j y hj => by omega,Below.refl _ _⟩
 case round =>
  obtain ⟨k,hk,rfl,HE,HB⟩:=hrel;by_cases hlt : k < len
  ·obtain ⟨b,o,x,rfl,hb,hx,hat⟩:=de (HR.out.below HB.out) hlt;obtain ⟨z0,z2,z4,c0,c1,c2,c3,c4⟩:=bB hat;have HX:=ae hx;clear hat hx z0 z2 z4;have HC:=ae (fun v : World => dv x v);have HB1:=ae (HB.out.alloc HB.out.size (.cells #[.string x.n,.int .i64 x.z,.string x.k,.bool x.x,.string x.v] 120));go_wp2_with fail;refine (HC.out _).mono ?_;rintro e w1 ⟨rfl,hb1⟩;obtain ⟨g1,-,-⟩:=b_ hb1;have hs1:=hb1.size;rw [show (wr.alloc (.cells #[.string x.n,.int .i64 x.z,.string x.k,.bool x.x,.string x.v] 120)).heap.size = wr.heap.size + 1 from by simp] at hs1;have HB2:=upB HB1 hb1;obtain ⟨d0,d1,d2,d3,d4⟩:=cs5 g1;clear g1 hb1 c0 c1 c2 c3 c4 HB1;cases hless : Op.bytesLess x.n.toList t.toList
   ·go_wp2_with fail;refine (HC.out _).mono ?_;rintro e w2 ⟨rfl,hb2⟩;obtain ⟨HB3,hp⟩:=ng;clear hb2;go_wp2_with fail;refine bodyPost_ret (v:=.tuple #[.int .i64 k,.bool (x.n.toList == t.toList)]) (by simp [results,Tryz.results169,go_sem]) rfl ⟨?_,HB3.out⟩;unfold hit;rw [hp,HX.out]
   ·exact nB
  ·obtain rfl : k = len:=af
   have hp : pl Xd.n xs t = xs.length:=fw (fun j y hy => HE.out j y ke hy);have hh : hit Xd.n xs t = false:=by unfold hit;rw [hp,List.getElem?_eq_none (Nat.le_refl _)]
   have HP:=ae hp;have HH:=ae hh;clear hp hh;go_wp2;exact bodyPost_ret (v:=.tuple #[.int .i64 k,.bool false]) (by simp [results,Tryz.results169,go_sem]) rfl ⟨by rw [HP.out,HH.out,hxl],HB.out⟩

def rU (xs : List Xd) (t : ByteArray) (_r w : World) (e : Ending) (w' : World) : Prop :=
 Below w.heap.size w w' ∧ ((hit Xd.n xs t = true ∧ ∃ (x : Xd),xs[pl Xd.n xs t]? = some x ∧ x.n = t ∧ e = .returned (.tuple #[.agg #[.string x.n,.int .i64 x.z,.string x.k,.bool x.x,.string x.v],.bool true]) ∧ x.n.size ≤ 9223372036854775807 ∧ x.k.size ≤ 9223372036854775807 ∧ x.v.size ≤ 9223372036854775807) ∨ (hit Xd.n xs t = false ∧ e = .returned (.tuple #[.agg #[.string ⟨#[]⟩,.int .i64 0,.string ⟨#[]⟩,.bool false,.string ⟨#[]⟩],.bool false])))

theorem qJ (a : Option Addr) (len cap : Nat) (xs : List Xd) (t : ByteArray) (r w : World) (hr : aI r a len cap 5 (xs.map xdF)) (hrw : Below r.heap.size r w) :
  Calls Tryz.prog 158 #[.slice a len cap,.string t] w (rU xs t r w):=by
 have HR:=ae hr;have HRW:=ae hrw;obtain ⟨hxl,hlc⟩:=fu;have HR1:=ae ((hr.below hrw).below (an w (.cells #[.string ⟨#[]⟩,.int .i64 0,.string ⟨#[]⟩,.bool false,.string ⟨#[]⟩] 120)));have hsr:=hrw.size;clear hr hrw;go_enter Tryz.func158,Tryz.ntmps158;go_wp2_with fail;refine (ic a len cap xs t _ HR1.out).mono ?_;rintro e w1 ⟨rfl,hb⟩;obtain ⟨g1,hb1,-⟩:=b_ hb;obtain ⟨d0,f0,d1,f1,d2,f2⟩:=ur;have d3 : w1.cell? ⟨w.heap.size,3,none⟩ = some (.bool false):=ah g1 3;have f3:=au g1 3;have d4 : w1.cell? ⟨w.heap.size,4,none⟩ = some (.string ⟨#[]⟩):=ah g1 4;have f4:=au g1 4;have HB:=ae hb1;have hs1:=hb.size;rw [show (w.alloc (.cells #[.string ⟨#[]⟩,.int .i64 0,.string ⟨#[]⟩,.bool false,.string ⟨#[]⟩] 120)).heap.size = w.heap.size + 1 from by simp] at hs1;have hlt1 : w.heap.size < w1.heap.size:=af
 clear hb g1 HR1 hs1;cases hh : hit Xd.n xs t
 ·generalize pl Xd.n xs t = j;have HH:=ae hh;clear hh hb1 HR hxl hlc;go_wp2;refine bodyPost_ret (v:=.tuple #[.agg #[.string ⟨#[]⟩,.int .i64 0,.string ⟨#[]⟩,.bool false,.string ⟨#[]⟩],.bool false]) (by simp [results,Tryz.results158,go_sem, *]) rfl ⟨?_,.inr ⟨HH.out,rfl⟩⟩;exact Below.alloc (ag (Nat.le_refl _) (ag (Nat.le_refl _) (ag (Nat.le_refl _) (ag (Nat.le_refl _) (ag (Nat.le_refl _) (HB.out)))))) iR _
 ·obtain ⟨x,hx,hn⟩:=da hh;have hj : pl Xd.n xs t < len:=by have:=(List.getElem?_eq_some_iff.1 hx).1;omega
  obtain ⟨b,o,y,rfl,hbl,hy,hat⟩:=de HR.out hj;rw [hx] at hy;obtain rfl:=Option.some.inj hy;obtain ⟨z0,z2,z4,c0,c1,c2,c3,c4⟩:=bB hat;obtain ⟨hbw,e0,e1,e2,e3⟩:=tZ;have e4:=(ak hb1 hbw).trans ((ak HRW.out hbl).trans c4);have HI : Hid (rU xs t r w (.returned (.tuple #[.agg #[.string x.n,.int .i64 x.z,.string x.k,.bool x.x,.string x.v],.bool true])) w):=⟨Below.refl _ _,.inl ⟨hh,x,hx,hn,rfl,z0,z2,z4⟩⟩;clear c0 c1 c2 c3 c4 hat hx hn hy hh z0 z2 z4 HR HRW hb1 hsr;have hne : ¬ b = w.heap.size:=af
  obtain ⟨j,hjj⟩ : ∃ j,pl Xd.n xs t = j:=⟨_,rfl⟩;rw [hjj] at hj;simp only [hjj] at *;clear hjj;go_wp2;refine bodyPost_ret (v:=.tuple #[.agg #[.string x.n,.int .i64 x.z,.string x.k,.bool x.x,.string x.v],.bool true]) (by simp [results,Tryz.results158,go_sem, *]) rfl ⟨?_,HI.out.2⟩;exact ag (Nat.le_refl _) (ag (Nat.le_refl _) (ag (Nat.le_refl _) (ag (Nat.le_refl _) (ag (Nat.le_refl _) (HB.out)))))

theorem eN (d : Ad) (now : Int) (xs : List Xd) (t : ByteArray) (r w : World) (hr : aI r d.a4 d.l4 d.c4 5 (xs.map xdF)) (hrw : Below r.heap.size r w) :
  Calls Tryz.prog 126 #[.agg #[.slice d.a1 d.l1 d.c1,.slice d.a2 d.l2 d.c2,.slice d.a3 d.l3 d.c3,.slice d.a4 d.l4 d.c4,.slice d.a5 d.l5 d.c5,.int .i64 now],.string t] w (rU xs t r w):=by
 have HR:=ae hr;have HRW:=ae (hrw.trans ((aF w (.cells #[.slice d.a1 d.l1 d.c1,.slice d.a2 d.l2 d.c2,.slice d.a3 d.l3 d.c3,.slice d.a4 d.l4 d.c4,.slice d.a5 d.l5 d.c5,.int .i64 now] 37) (.cells #[.string ⟨#[]⟩,.int .i64 0,.string ⟨#[]⟩,.bool false,.string ⟨#[]⟩] 120)).mono hrw.size));clear hr hrw;go_enter Tryz.func126,Tryz.ntmps126;go_wp2_with fail;refine (qJ _ _ _ xs t r _ HR.out HRW.out).mono ?_;rintro e w1 ⟨hb,hf⟩;obtain ⟨g1,d0,f0⟩:=rv;obtain ⟨d1,f1,d2,f2⟩:=Ag;have d3 : w1.cell? ⟨w.heap.size + 1,3,none⟩ = some (.bool false):=ah g1 3;have f3:=au g1 3;have d4 : w1.cell? ⟨w.heap.size + 1,4,none⟩ = some (.string ⟨#[]⟩):=ah g1 4;have f4:=au g1 4;have HB : Hid (Below w.heap.size w w1):=(aF _ _ _).trans (hb.mono bF);clear g1 hb HR HRW;rcases hf with ⟨hh,x,hx,hn,rfl,z0,z2,z4⟩ | ⟨hh,rfl⟩
 ·have HI : Hid (rU xs t r w (.returned (.tuple #[.agg #[.string x.n,.int .i64 x.z,.string x.k,.bool x.x,.string x.v],.bool true])) w):=⟨Below.refl _ _,.inl ⟨hh,x,hx,hn,rfl,z0,z2,z4⟩⟩;clear hx hn hh z0 z2 z4;go_wp2;refine bodyPost_ret (v:=.tuple #[.agg #[.string x.n,.int .i64 x.z,.string x.k,.bool x.x,.string x.v],.bool true]) (by simp [results,Tryz.results126,go_sem, *]) rfl ⟨?_,HI.out.2⟩;exact xb
 ·have HH:=ae hh;clear hh;go_wp2;refine bodyPost_ret (v:=.tuple #[.agg #[.string ⟨#[]⟩,.int .i64 0,.string ⟨#[]⟩,.bool false,.string ⟨#[]⟩],.bool false]) (by simp [results,Tryz.results126,go_sem, *]) rfl ⟨?_,.inr ⟨HH.out,rfl⟩⟩;exact xb

theorem oO (a : Option Addr) (len cap : Nat) (xs : List Xd) (most : Int) (w : World) (hr : aI w a len cap 5 (xs.map xdF)) :
  Calls Tryz.prog 136 #[.slice a len cap,.int .i64 most] w (ar (dE oq Xd.n xs most) w):=by
 have HR:=ae hr;obtain ⟨hxl,hlc⟩:=fu;clear hr;have hmcalled : ∀ (v : Value) (w : World),(method 406 120 v "loop.example/g00571/impl.called").run Tryz.prog w = .ok (239,v) w:=fun _ _ => by kernel_rfl
 have hmright : ∀ (v : Value) (w : World),(method 406 120 v "loop.example/g00571/impl.right").run Tryz.prog w = .ok (240,v) w:=fun _ _ => by kernel_rfl
 by_cases hmo : most < (len : Int)
 ·go_enter Tryz.func136,Tryz.ntmps136;exact jg
 go_enter Tryz.func136,Tryz.ntmps136;go_wp2;go_loopw [5,14] (fun q i wr => ∃ (k : Nat) (y : ByteArray),k ≤ len ∧ q = .string y ∧ i = .int .i64 k ∧ Hid (k = 0 → y = ⟨#[]⟩) ∧ Hid (∀ z,0 < k → xs[k - 1]? = some z → z.n = y) ∧ Hid (∀ (j : Nat) z,j < k → xs[j]? = some z → oq z) ∧ Hid (∀ (j : Nat) z u,j + 1 < k → xs[j + 1]? = some z → xs[j]? = some u → Op.bytesLess u.n.toList z.n.toList = true) ∧ Hid (Below w.heap.size w wr)) (fun _ i _ => len - (intOf i).toNat);case atStart => exact ⟨0,_,by omega,rfl,rfl,fun _ => rfl,fun _ h => absurd h af,fun _ _ h => absurd h af,fun _ _ _ h => absurd h af,Below.refl _ _⟩
 case round =>
  obtain ⟨k,y,hk,rfl,rfl,H0,H1,HE,HO,HB⟩:=hrel;by_cases hlt : k < len
  ·obtain ⟨b,o,x,rfl,hb,hx,hat⟩:=de (HR.out.below HB.out) hlt;obtain ⟨z0,z2,z4,c0,c1,c2,c3,c4⟩:=bB hat;have HX:=ae hx;have HC:=ae (fun v : World => dv x v);have HB1:=ae (HB.out.alloc HB.out.size (.cells #[.string x.n,.int .i64 x.z,.string x.k,.bool x.x,.string x.v] 120));have HRt:=ae (mI x (wr.alloc (.cells #[.string x.n,.int .i64 x.z,.string x.k,.bool x.x,.string x.v] 120)) z0 z2 z4);clear hat hx z0 z2 z4;go_wp2_with fail;refine HRt.out.mono ?_;rintro e w1 ⟨r,rfl,hrt,hb1⟩;obtain ⟨g1,-,-⟩:=b_ hb1;have hs1:=hb1.size;rw [show (wr.alloc (.cells #[.string x.n,.int .i64 x.z,.string x.k,.bool x.x,.string x.v] 120)).heap.size = wr.heap.size + 1 from by simp] at hs1;have HB2:=upB HB1 hb1;obtain ⟨d0,d1,d2,d3,d4⟩:=cs5 g1;have HG:=ae g1;have HI:=ae hrt;clear g1 hb1 HB1 HRt hrt c0 c1 c2 c3 c4;cases r
   ·exact nk
   have HOK:=ae (HI.out.1 rfl);clear HI;go_wp2_with fail;refine (HC.out _).mono ?_;rintro e w2 ⟨rfl,hb2⟩;obtain ⟨HB3,g2,hs2,htri⟩:=nj;clear HG hb2 HB2 d0 d1 d2 d3 d4;obtain ⟨d0,d1,d2,d3,d4⟩:=cs5 g2;clear g2;cases hless : Op.bytesLess y.toList x.n.toList
   ·exact nG
   ·rw [hless] at htri;go_wp2_with fail;refine (HC.out _).mono ?_;rintro e w3 ⟨rfl,hb3⟩;have HB4:=ae (HB3.out.trans (hb3.mono (Nat.le_trans HB.out.size af)));clear hb3 d0 d1 d2 d3 d4;exact uC
  ·exact nC

def DR (xs : List Xd) (t : ByteArray) (w : World) (e : Ending) (w' : World) : Prop :=
 Below w.heap.size w w' ∧ ((∃ (j : Nat) (x : Xd),xs[j]? = some x ∧ x.n = t ∧ e = .returned (.int .i64 j)) ∨ ((∀ (j : Nat) x,xs[j]? = some x → ¬ x.n = t) ∧ e = .returned (.int .i64 (-1))))

theorem fE (d : Ad) (now : Int) (xs : List Xd) (t : ByteArray) (w : World) (hr : aI w d.a4 d.l4 d.c4 5 (xs.map xdF)) :
  Calls Tryz.prog 110 #[.agg #[.slice d.a1 d.l1 d.c1,.slice d.a2 d.l2 d.c2,.slice d.a3 d.l3 d.c3,.slice d.a4 d.l4 d.c4,.slice d.a5 d.l5 d.c5,.int .i64 now],.string t] w (DR xs t w):=by
 have HR:=ae hr;have hxl : xs.length = d.l4:=cY
 have hlc : d.l4 ≤ 9223372036854775807:=Nat.le_trans hr.2.1 hr.2.2.1;clear hr;go_enter Tryz.func110,Tryz.ntmps110;go_wp2;go_loopw [5] (fun i wr => ∃ k : Nat,k ≤ d.l4 ∧ i = .int .i64 k ∧ wr = w.alloc (.cells #[.slice d.a1 d.l1 d.c1,.slice d.a2 d.l2 d.c2,.slice d.a3 d.l3 d.c3,.slice d.a4 d.l4 d.c4,.slice d.a5 d.l5 d.c5,.int .i64 now] 37) ∧ Hid (∀ (j : Nat) z,j < k → xs[j]? = some z → ¬ z.n = t)) (fun i _ => d.l4 - (intOf i).toNat);case atStart => exact ⟨0,by omega,rfl,rfl,fun _ _ h => absurd h af⟩
 case round =>
  obtain ⟨k,hk,rfl,rfl,HE⟩:=hrel;by_cases hlt : k < d.l4
  ·obtain ⟨b,o,x,ha,hb,hx,hat⟩:=de HR.out hlt;obtain ⟨-,-,-,c0,-,-,-,-⟩:=bB hat;have HX:=ae hx;clear hat hx;exact nF
  ·obtain rfl : k = d.l4:=af
   exact nr

theorem ei (x : Pd) (va : Option Addr) (vl vc : Nat) (w : World) :
  Calls Tryz.prog 228 #[.agg #[.string x.n,.int .i64 x.c,.string x.z,.slice va vl vc,.string x.d,.int .i64 x.p]] w fun e w' => e = .returned (.string x.n) ∧ Below w.heap.size w w':=by
 go_enter Tryz.func228,Tryz.ntmps228;go_wp2;go_ret;exact ⟨rfl,an _ _⟩

theorem mK (x : Pd) (va : Option Addr) (vl vc : Nat) (w : World) (hn : x.n.size ≤ 9223372036854775807) (hz : x.z.size ≤ 9223372036854775807) (hd : x.d.size ≤ 9223372036854775807) (hr : ay w va vl vc x.zs) :
  Calls Tryz.prog 229 #[.agg #[.string x.n,.int .i64 x.c,.string x.z,.slice va vl vc,.string x.d,.int .i64 x.p]] w (ar (qf x) w):=by
 have HR:=ae (hr.below (an w (.cells #[.string x.n,.int .i64 x.c,.string x.z,.slice va vl vc,.string x.d,.int .i64 x.p] 65)));clear hr;go_enter Tryz.func229,Tryz.ntmps229;go_wp2_with fail;refine (yg x.n x.c x.z va vl vc x.zs x.d x.p _ hn hz hd HR.out).mono ?_;exact nt

theorem ie (a : Option Addr) (len cap : Nat) (xs : List Pd) (t : ByteArray) (w : World) (hr : aI w a len cap 6 (xs.map pdF)) :
  Calls Tryz.prog 122 #[.slice a len cap,.string t] w fun e w' => e = .returned (.tuple #[.int .i64 (pl Pd.n xs t : Nat),.bool (hit Pd.n xs t)]) ∧ Below w.heap.size w w':=by
 have HR:=ae hr;obtain ⟨hxl,hlc⟩:=fu;clear hr;have hmcalled : ∀ (v : Value) (w : World),(method 406 65 v "loop.example/g00571/impl.called").run Tryz.prog w = .ok (228,v) w:=fun _ _ => by kernel_rfl
 go_enter Tryz.func122,Tryz.ntmps122;go_wp2;go_loopw [10] (fun i wr => ∃ k : Nat,k ≤ len ∧ i = .int .i64 k ∧ Hid (∀ (j : Nat) y,j < k → xs[j]? = some y → Op.bytesLess y.n.toList t.toList = true) ∧ Hid (Below w.heap.size w wr)) (fun i _ => len - (intOf i).toNat);case atStart => exact ⟨0,by omega,rfl,fun j y hj => by omega,Below.refl _ _⟩
 case round =>
  obtain ⟨k,hk,rfl,HE,HB⟩:=hrel;by_cases hlt : k < len
  ·obtain ⟨b,o,x,rfl,hb,hx,hat⟩:=bQ (HR.out.below HB.out) hlt;obtain ⟨va,vl,vc,hvr,z0,z2,z4,c0,c1,c2,c3,c4,c5⟩:=aU hat;have HX:=ae hx;clear hat hx z0 z2 z4 hvr;obtain ⟨HC,HB1⟩:=Ah;go_wp2_with fail;refine (HC.out _).mono ?_;rintro e w1 ⟨rfl,hb1⟩;obtain ⟨g1,-,-⟩:=b_ hb1;have hs1:=hb1.size;rw [show (wr.alloc (.cells #[.string x.n,.int .i64 x.c,.string x.z,.slice va vl vc,.string x.d,.int .i64 x.p] 65)).heap.size = wr.heap.size + 1 from by simp] at hs1;have HB2:=upB HB1 hb1;obtain ⟨d0,d1,d2,d3,d4,d5⟩:=cs6 g1;clear g1 hb1 c0 c1 c2 c3 c4 c5 HB1;cases hless : Op.bytesLess x.n.toList t.toList
   ·go_wp2_with fail;refine (HC.out _).mono ?_;rintro e w2 ⟨rfl,hb2⟩;obtain ⟨HB3,hp⟩:=ng;clear hb2;go_wp2_with fail;refine bodyPost_ret (v:=.tuple #[.int .i64 k,.bool (x.n.toList == t.toList)]) (by simp [results,Tryz.results122,go_sem]) rfl ⟨?_,HB3.out⟩;unfold hit;rw [hp,HX.out]
   ·exact nB
  ·obtain rfl : k = len:=af
   have hp : pl Pd.n xs t = xs.length:=fw (fun j y hy => HE.out j y ke hy);have hh : hit Pd.n xs t = false:=by unfold hit;rw [hp,List.getElem?_eq_none (Nat.le_refl _)]
   have HP:=ae hp;have HH:=ae hh;clear hp hh;go_wp2;exact bodyPost_ret (v:=.tuple #[.int .i64 k,.bool false]) (by simp [results,Tryz.results122,go_sem]) rfl ⟨by rw [HP.out,HH.out,hxl],HB.out⟩

def BF (xs : List Pd) (t : ByteArray) (r w : World) (e : Ending) (w' : World) : Prop :=
 Below w.heap.size w w' ∧ ((hit Pd.n xs t = true ∧ ∃ (x : Pd) (va : Option Addr) (vl vc : Nat),xs[pl Pd.n xs t]? = some x ∧ x.n = t ∧ e = .returned (.tuple #[.agg #[.string x.n,.int .i64 x.c,.string x.z,.slice va vl vc,.string x.d,.int .i64 x.p],.bool true]) ∧ x.n.size ≤ 9223372036854775807 ∧ x.z.size ≤ 9223372036854775807 ∧ x.d.size ≤ 9223372036854775807 ∧ ay r va vl vc x.zs) ∨ (hit Pd.n xs t = false ∧ e = .returned (.tuple #[.agg #[.string ⟨#[]⟩,.int .i64 0,.string ⟨#[]⟩,.slice none 0 0,.string ⟨#[]⟩,.int .i64 0],.bool false])))

theorem qL (a : Option Addr) (len cap : Nat) (xs : List Pd) (t : ByteArray) (r w : World) (hr : aI r a len cap 6 (xs.map pdF)) (hrw : Below r.heap.size r w) :
  Calls Tryz.prog 74 #[.slice a len cap,.string t] w (BF xs t r w):=by
 have HR:=ae hr;have HRW:=ae hrw;obtain ⟨hxl,hlc⟩:=fu;have HR1:=ae ((hr.below hrw).below (an w (.cells #[.string ⟨#[]⟩,.int .i64 0,.string ⟨#[]⟩,.slice none 0 0,.string ⟨#[]⟩,.int .i64 0] 65)));have hsr:=hrw.size;clear hr hrw;go_enter Tryz.func74,Tryz.ntmps74;go_wp2_with fail;refine (ie a len cap xs t _ HR1.out).mono ?_;rintro e w1 ⟨rfl,hb⟩;obtain ⟨g1,hb1,-⟩:=b_ hb;obtain ⟨d0,f0,d1,f1,d2,f2⟩:=ur;have d3 : w1.cell? ⟨w.heap.size,3,none⟩ = some (.slice none 0 0):=ah g1 3;have f3:=au g1 3;have d4 : w1.cell? ⟨w.heap.size,4,none⟩ = some (.string ⟨#[]⟩):=ah g1 4;have f4:=au g1 4;have d5 : w1.cell? ⟨w.heap.size,5,none⟩ = some (.int .i64 0):=ah g1 5;have f5:=au g1 5;have HB:=ae hb1;have hs1:=hb.size;rw [show (w.alloc (.cells #[.string ⟨#[]⟩,.int .i64 0,.string ⟨#[]⟩,.slice none 0 0,.string ⟨#[]⟩,.int .i64 0] 65)).heap.size = w.heap.size + 1 from by simp] at hs1;have hlt1 : w.heap.size < w1.heap.size:=af
 clear hb g1 HR1 hs1;cases hh : hit Pd.n xs t
 ·generalize pl Pd.n xs t = j;have HH:=ae hh;clear hh hb1 HR hxl hlc;go_wp2;refine bodyPost_ret (v:=.tuple #[.agg #[.string ⟨#[]⟩,.int .i64 0,.string ⟨#[]⟩,.slice none 0 0,.string ⟨#[]⟩,.int .i64 0],.bool false]) (by simp [results,Tryz.results74,go_sem, *]) rfl ⟨?_,.inr ⟨HH.out,rfl⟩⟩;exact Below.alloc (ag (Nat.le_refl _) (ag (Nat.le_refl _) (ag (Nat.le_refl _) (ag (Nat.le_refl _) (ag (Nat.le_refl _) (ag (Nat.le_refl _) (HB.out))))))) iR _
 ·obtain ⟨x,hx,hn⟩:=da hh;have hj : pl Pd.n xs t < len:=by have:=(List.getElem?_eq_some_iff.1 hx).1;omega
  obtain ⟨b,o,y,rfl,hbl,hy,hat⟩:=bQ HR.out hj;rw [hx] at hy;obtain rfl:=Option.some.inj hy;obtain ⟨va,vl,vc,hvr,z0,z2,z4,c0,c1,c2,c3,c4,c5⟩:=aU hat;obtain ⟨hbw,e0,e1,e2,e3⟩:=tZ;obtain ⟨e4,e5⟩:=uh;have HI : Hid (BF xs t r w (.returned (.tuple #[.agg #[.string x.n,.int .i64 x.c,.string x.z,.slice va vl vc,.string x.d,.int .i64 x.p],.bool true])) w):=⟨Below.refl _ _,.inl ⟨hh,x,va,vl,vc,hx,hn,rfl,z0,z2,z4,hvr⟩⟩;clear c0 c1 c2 c3 c4 c5 hat hx hn hy hh z0 z2 z4 hvr HR HRW hb1 hsr;have hne : ¬ b = w.heap.size:=af
  obtain ⟨j,hjj⟩ : ∃ j,pl Pd.n xs t = j:=⟨_,rfl⟩;rw [hjj] at hj;simp only [hjj] at *;clear hjj;go_wp2;refine bodyPost_ret (v:=.tuple #[.agg #[.string x.n,.int .i64 x.c,.string x.z,.slice va vl vc,.string x.d,.int .i64 x.p],.bool true]) (by simp [results,Tryz.results74,go_sem, *]) rfl ⟨?_,HI.out.2⟩;exact ag (Nat.le_refl _) (ag (Nat.le_refl _) (ag (Nat.le_refl _) (ag (Nat.le_refl _) (ag (Nat.le_refl _) (ag (Nat.le_refl _) (HB.out))))))

theorem oQ (a : Option Addr) (len cap : Nat) (xs : List Pd) (most : Int) (w : World) (hr : aI w a len cap 6 (xs.map pdF)) :
  Calls Tryz.prog 137 #[.slice a len cap,.int .i64 most] w (ar (dE qf Pd.n xs most) w):=by
 have HR:=ae hr;obtain ⟨hxl,hlc⟩:=fu;clear hr;have hmcalled : ∀ (v : Value) (w : World),(method 406 65 v "loop.example/g00571/impl.called").run Tryz.prog w = .ok (228,v) w:=fun _ _ => by kernel_rfl
 have hmright : ∀ (v : Value) (w : World),(method 406 65 v "loop.example/g00571/impl.right").run Tryz.prog w = .ok (229,v) w:=fun _ _ => by kernel_rfl
 by_cases hmo : most < (len : Int)
 ·go_enter Tryz.func137,Tryz.ntmps137;exact jg
 go_enter Tryz.func137,Tryz.ntmps137;go_wp2;go_loopw [5,14] (fun q i wr => ∃ (k : Nat) (y : ByteArray),k ≤ len ∧ q = .string y ∧ i = .int .i64 k ∧ Hid (k = 0 → y = ⟨#[]⟩) ∧ Hid (∀ z,0 < k → xs[k - 1]? = some z → z.n = y) ∧ Hid (∀ (j : Nat) z,j < k → xs[j]? = some z → qf z) ∧ Hid (∀ (j : Nat) z u,j + 1 < k → xs[j + 1]? = some z → xs[j]? = some u → Op.bytesLess u.n.toList z.n.toList = true) ∧ Hid (Below w.heap.size w wr)) (fun _ i _ => len - (intOf i).toNat);case atStart => exact ⟨0,_,by omega,rfl,rfl,fun _ => rfl,fun _ h => absurd h af,fun _ _ h => absurd h af,fun _ _ _ h => absurd h af,Below.refl _ _⟩
 case round =>
  obtain ⟨k,y,hk,rfl,rfl,H0,H1,HE,HO,HB⟩:=hrel;by_cases hlt : k < len
  ·obtain ⟨b,o,x,rfl,hb,hx,hat⟩:=bQ (HR.out.below HB.out) hlt;obtain ⟨va,vl,vc,hvr,z0,z2,z4,c0,c1,c2,c3,c4,c5⟩:=aU hat;have HX:=ae hx;obtain ⟨HC,HB1⟩:=Ah;have HRt:=ae (mK x va vl vc (wr.alloc (.cells #[.string x.n,.int .i64 x.c,.string x.z,.slice va vl vc,.string x.d,.int .i64 x.p] 65)) z0 z2 z4 (hvr.below (an _ _)));clear hat hx z0 z2 z4 hvr;go_wp2_with fail;refine HRt.out.mono ?_;rintro e w1 ⟨r,rfl,hrt,hb1⟩;obtain ⟨g1,-,-⟩:=b_ hb1;have hs1:=hb1.size;rw [show (wr.alloc (.cells #[.string x.n,.int .i64 x.c,.string x.z,.slice va vl vc,.string x.d,.int .i64 x.p] 65)).heap.size = wr.heap.size + 1 from by simp] at hs1;have HB2:=upB HB1 hb1;obtain ⟨d0,d1,d2,d3,d4,d5⟩:=cs6 g1;have HG:=ae g1;have HI:=ae hrt;clear g1 hb1 HB1 HRt hrt c0 c1 c2 c3 c4 c5;cases r
   ·exact nk
   have HOK:=ae (HI.out.1 rfl);clear HI;go_wp2_with fail;refine (HC.out _).mono ?_;rintro e w2 ⟨rfl,hb2⟩;obtain ⟨HB3,g2,hs2,htri⟩:=nj;clear HG hb2 HB2 d0 d1 d2 d3 d4 d5;obtain ⟨d0,d1,d2,d3,d4,d5⟩:=cs6 g2;clear g2;cases hless : Op.bytesLess y.toList x.n.toList
   ·exact nG
   ·rw [hless] at htri;go_wp2_with fail;refine (HC.out _).mono ?_;rintro e w3 ⟨rfl,hb3⟩;have HB4:=ae (HB3.out.trans (hb3.mono (Nat.le_trans HB.out.size af)));clear hb3 d0 d1 d2 d3 d4 d5;exact uC
  ·exact nC

def DT (xs : List Pd) (t : ByteArray) (w : World) (e : Ending) (w' : World) : Prop :=
 Below w.heap.size w w' ∧ ((∃ (j : Nat) (x : Pd),xs[j]? = some x ∧ x.n = t ∧ e = .returned (.int .i64 j)) ∨ ((∀ (j : Nat) x,xs[j]? = some x → ¬ x.n = t) ∧ e = .returned (.int .i64 (-1))))

theorem tE (d : Ad) (now : Int) (xs : List Pd) (t : ByteArray) (w : World) (hr : aI w d.a5 d.l5 d.c5 6 (xs.map pdF)) :
  Calls Tryz.prog 22 #[.agg #[.slice d.a1 d.l1 d.c1,.slice d.a2 d.l2 d.c2,.slice d.a3 d.l3 d.c3,.slice d.a4 d.l4 d.c4,.slice d.a5 d.l5 d.c5,.int .i64 now],.string t] w (DT xs t w):=by
 have HR:=ae hr;have hxl : xs.length = d.l5:=cY
 have hlc : d.l5 ≤ 9223372036854775807:=Nat.le_trans hr.2.1 hr.2.2.1;clear hr;go_enter Tryz.func22,Tryz.ntmps22;go_wp2;go_loopw [5] (fun i wr => ∃ k : Nat,k ≤ d.l5 ∧ i = .int .i64 k ∧ wr = w.alloc (.cells #[.slice d.a1 d.l1 d.c1,.slice d.a2 d.l2 d.c2,.slice d.a3 d.l3 d.c3,.slice d.a4 d.l4 d.c4,.slice d.a5 d.l5 d.c5,.int .i64 now] 37) ∧ Hid (∀ (j : Nat) z,j < k → xs[j]? = some z → ¬ z.n = t)) (fun i _ => d.l5 - (intOf i).toNat);case atStart => exact ⟨0,by omega,rfl,rfl,fun _ _ h => absurd h af⟩
 case round =>
  obtain ⟨k,hk,rfl,rfl,HE⟩:=hrel;by_cases hlt : k < d.l5
  ·obtain ⟨b,o,x,ha,hb,hx,hat⟩:=bQ HR.out hlt;obtain ⟨va,vl,vc,hvr,-,-,-,c0,-,-,-,-,-⟩:=aU hat;have HX:=ae hx;clear hat hx hvr;exact nF
  ·obtain rfl : k = d.l5:=af
   exact nr

def ens (w : World) : Prop:=∃ T v,w.cell? ⟨2,0,none⟩ = some (.iface T v)
theorem ens.lt {w : World} (h : ens w) : 2 < w.heap.size:=by
 obtain ⟨T,v,h⟩:=h;rcases Nat.lt_or_ge (2) w.heap.size with h1 | h1
 ·exact h1
 ·simp [World.cell?,Array.getElem?_eq_none h1] at h
theorem ens.below {w w' : World} (h : ens w) (hb : Below w.heap.size w w') : ens w':=by
 have hl:=h.lt;obtain ⟨T,v,h⟩:=h;exact ⟨T,v,(ak hb hl).trans h⟩
theorem cA {s : ByteArray} (h : s = ⟨#[]⟩) : s.toList.isEmpty = true:=by rw [h];exact rK
def De (p : Prop) (w : World) (e : Ending) (w' : World) : Prop:=Below w.heap.size w w' ∧ ((p ∧ e = .returned .nilIface) ∨ (¬ p ∧ ∃ T v,e = .returned (.iface T v)))

theorem fk (d : Ad) (now : Int) (xs : List Kd) (t : ByteArray) (w : World) (hr : aI w d.a2 d.l2 d.c2 4 (xs.map kdF)) (hG : ens w) :
  Calls Tryz.prog 138 #[.agg #[.slice d.a1 d.l1 d.c1,.slice d.a2 d.l2 d.c2,.slice d.a3 d.l3 d.c3,.slice d.a4 d.l4 d.c4,.slice d.a5 d.l5 d.c5,.int .i64 now],.string t] w (De (hit Kd.n xs t = true) w):=by
 obtain ⟨HR,HE,HB⟩:=mY;clear hr hG;go_enter Tryz.func138,Tryz.ntmps138;go_wp2_with fail;refine (gu d now xs t w _ HR.out (an _ _)).mono ?_;rintro e w1 ⟨hb,hf⟩;obtain ⟨HA0,hbx⟩:=aG hb;have Bk:=ae HA0;replace HB:=upB HB hbx;clear hb hbx HA0;obtain ⟨T,v,hv⟩:=HE.out.below HB.out;have hl:=(HE.out.below HB.out).lt;clear HE HR;rcases hf with ⟨hh,x,hx,hn,rfl,z0,z3⟩ | ⟨hh,rfl⟩
 ·have HH:=ae hh;clear hh hx hn z0 z3;go_wp2;go_ret;exact ⟨(HB.out.alloc HB.out.size _),.inl ⟨HH.out,rfl⟩⟩
 ·have HH:=ae hh;clear hh;go_wp2;go_ret;exact ⟨(HB.out.alloc HB.out.size _),.inr ⟨by rw [HH.out];decide,T,v,rfl⟩⟩

def j6 (c : Cl) (t s : ByteArray) : Prop:=∃ (i j : Nat) (x : Xd) (v : Vd),c.xs[i]? = some x ∧ x.n = t ∧ c.vs[j]? = some v ∧ v.n = s ∧ x.v = s ∧ v.m = t ∧ x.z ≤ v.c ∧ v.k = x.k ∧ v.x = x.x

theorem kI (d : Ad) (c : Cl) (t s : ByteArray) (w : World) (hr : aM w d c.raw) (hx : aJ Xd.n c.xs) (hv : aJ Vd.n c.vs) :
  Calls Tryz.prog 139 #[.agg #[.slice d.a1 d.l1 d.c1,.slice d.a2 d.l2 d.c2,.slice d.a3 d.l3 d.c3,.slice d.a4 d.l4 d.c4,.slice d.a5 d.l5 d.c5,.int .i64 c.now],.string t,.string s] w (ar (j6 c t s) w):=by
 obtain ⟨HR,HB⟩:=hQ;have HX:=ae hx;have HV:=ae hv;clear hr hx hv;go_enter Tryz.func139,Tryz.ntmps139;go_wp2_with fail;refine (eN d c.now c.xs t w _ HR.out.x (an _ _)).mono ?_;rintro e w1 ⟨hb,hf⟩;obtain ⟨HA0,hbx⟩:=aG hb;have Bk:=ae HA0;replace HB:=upB HB hbx;clear hb hbx HA0;rcases hf with ⟨hh,x,hx,hn,rfl,z0,z2,z4⟩ | ⟨hh,rfl⟩
 ·have HX1:=ae hx;have HN1:=ae hn;clear hx hn hh z0 z2 z4;obtain ⟨k0,k1,k2,k3,k4,k5⟩:=cs6 Bk.out;have ltk_1:=aa Bk.out;go_wp2_with fail;refine (dy d c.now c.vs s w _ HR.out.v (HB.out.trans ((an _ _).mono HB.out.size))).mono ?_;rintro e w2 ⟨hb,hf⟩;clear k0 k1 k2 k3 k4 k5 ltk_1;obtain ⟨HA0,hbx⟩:=aG hb;replace Bk:=upK Bk hbx;have Bx:=ae HA0;replace HB:=upB HB hbx;clear hb hbx HA0;rcases hf with ⟨hh,v,va,vl,vc,hx,hn,rfl,z0,z2,z3,z5,hvr⟩ | ⟨hh,rfl⟩
  ·have HX2:=ae hx;have HN2:=ae hn;clear hx hn hh z0 z2 z3 z5 hvr;obtain ⟨x0,x1,x2,x3,x4⟩:=cs5 Bx.out;have ltx_2:=aa Bx.out;cases q1 : (x.v.toList == s.toList)
   ·go_wp2;go_ret;refine ar.f (fun ⟨i,j,x',v',e1,e2,e3,e4,e5,_⟩ => ?_) (HB.out.alloc HB.out.size _);obtain ⟨_,rfl⟩:=HX.out.inj e1 HX1.out (e2.trans HN1.out.symm);rw [aV e5] at q1;cases q1
   cases q2 : (v.m.toList == t.toList)
   ·go_wp2;go_ret;refine ar.f (fun ⟨i,j,x',v',e1,e2,e3,e4,e5,e6,_⟩ => ?_) (HB.out.alloc HB.out.size _);obtain ⟨_,rfl⟩:=HV.out.inj e3 HX2.out (e4.trans HN2.out.symm);rw [aV e6] at q2;cases q2
   by_cases q3 : x.z ≤ v.c;rotate_left
   ·go_wp2;go_ret;refine ar.f (fun ⟨i,j,x',v',e1,e2,e3,e4,e5,e6,e7,_⟩ => ?_) (HB.out.alloc HB.out.size _);obtain ⟨_,rfl⟩:=HX.out.inj e1 HX1.out (e2.trans HN1.out.symm);obtain ⟨_,rfl⟩:=HV.out.inj e3 HX2.out (e4.trans HN2.out.symm);omega
   cases q4 : (v.k.toList == x.k.toList)
   ·go_wp2;go_ret;refine ar.f (fun ⟨i,j,x',v',e1,e2,e3,e4,e5,e6,e7,e8,_⟩ => ?_) (HB.out.alloc HB.out.size _);obtain ⟨_,rfl⟩:=HX.out.inj e1 HX1.out (e2.trans HN1.out.symm);obtain ⟨_,rfl⟩:=HV.out.inj e3 HX2.out (e4.trans HN2.out.symm);rw [aV e8] at q4;cases q4
   cases q5 : (v.x == x.x)
   ·go_wp2;go_ret;refine ar.f (fun ⟨i,j,x',v',e1,e2,e3,e4,e5,e6,e7,e8,e9⟩ => ?_) (HB.out.alloc HB.out.size _);obtain ⟨_,rfl⟩:=HX.out.inj e1 HX1.out (e2.trans HN1.out.symm);obtain ⟨_,rfl⟩:=HV.out.inj e3 HX2.out (e4.trans HN2.out.symm);rw [e9] at q5;simp at q5
   ·go_wp2;go_ret;exact ar.t ⟨_,_,x,v,HX1.out,HN1.out,HX2.out,HN2.out,fp q1,fp q2,q3,fp q4,by simpa using q5⟩ (HB.out.alloc HB.out.size _)
  ·have HH2:=ae hh;clear hh;obtain ⟨x0,x1,x2,x3,x4⟩:=cs5 Bx.out;have ltx_2:=aa Bx.out;go_wp2;go_ret;refine ar.f (fun ⟨i,j,x',v',e1,e2,e3,e4,_⟩ => ?_) (HB.out.alloc HB.out.size _);have:=(bU HV.out e3 e4).2;rw [HH2.out] at this;cases this
 ·have HH1:=ae hh;clear hh;obtain ⟨k0,k1,k2,k3,k4,k5⟩:=cs6 Bk.out;have ltk_1:=aa Bk.out;go_wp2_with fail;refine (dy d c.now c.vs s w _ HR.out.v (HB.out.trans ((an _ _).mono HB.out.size))).mono ?_;rintro e w2 ⟨hb,hf⟩;clear k0 k1 k2 k3 k4 k5 ltk_1;obtain ⟨HA0,hbx⟩:=aG hb;replace Bk:=upK Bk hbx;have Bx:=ae HA0;replace HB:=upB HB hbx;clear hb hbx HA0;rcases hf with ⟨hh,v,va,vl,vc,hx,hn,rfl,z0,z2,z3,z5,hvr⟩ | ⟨hh,rfl⟩
  ·have HX2:=ae hx;have HN2:=ae hn;clear hx hn hh z0 z2 z3 z5 hvr;exact xB
  ·have HH2:=ae hh;clear hh;exact xB

def QV (c : Cl) (v : Vd) : Prop:=hit Kd.n c.ks v.k = true ∧ (v.m = ⟨#[]⟩ ∨ j6 c v.m v.n)
def QX (c : Cl) (x : Xd) : Prop:=hit Kd.n c.ks x.k = true ∧ (x.v = ⟨#[]⟩ ∨ j6 c x.n x.v)
def qW (c : Cl) : Prop:=(∀ (j : Nat) v,c.vs[j]? = some v → QV c v) ∧ (∀ (j : Nat) x,c.xs[j]? = some x → QX c x)

theorem qI (d : Ad) (c : Cl) (w : World) (hr : aM w d c.raw) (hxr : aJ Xd.n c.xs) (hvr : aJ Vd.n c.vs) (hG : ens w) :
  Calls Tryz.prog 87 #[.agg #[.slice d.a1 d.l1 d.c1,.slice d.a2 d.l2 d.c2,.slice d.a3 d.l3 d.c3,.slice d.a4 d.l4 d.c4,.slice d.a5 d.l5 d.c5,.int .i64 c.now]] w (ar (qW c) w):=by
 obtain ⟨a1,l1,y1,a2,l2,y2,a3,l3,y3,a4,l4,y4,a5,l5,y5⟩:=d;dsimp only;obtain ⟨HR,hl1,hm1,hl2,hm2,hl3,hm3,hl4,hm4,hl5,hm5⟩:=ew;clear hr;have HE:=ae hG;have HXR:=ae hxr;have HVR:=ae hvr;clear hG hxr hvr;go_enter Tryz.func87,Tryz.ntmps87;go_wp2;go_loopw [10] (fun i wr => ∃ k : Nat,k ≤ l3 ∧ i = .int .i64 k ∧ Hid (∀ (j : Nat) z,j < k → c.vs[j]? = some z → QV c z) ∧ Hid (Below w.heap.size w wr) ∧ Hid (wr.heap[w.heap.size]? = some (.cells #[.slice a1 l1 y1,.slice a2 l2 y2,.slice a3 l3 y3,.slice a4 l4 y4,.slice a5 l5 y5,.int .i64 c.now] 37 (0,0)))) (fun i _ => l3 - (intOf i).toNat);case atStart => exact ⟨0,by omega,rfl,fun _ _ h => absurd h af,an _ _,Array.getElem?_push_size⟩
 case round =>
  obtain ⟨k,hk,rfl,HQ,HB,Bk⟩:=hrel;by_cases hlt : k < l3
  ·obtain ⟨b,o,v,rfl,hb,hx,hat⟩:=bC (HR.out.v.below HB.out) hlt;obtain ⟨va,vl,vc,hvr,z0,z2,z3,z5,c0,c1,c2,c3,c4,c5,c6,c7⟩:=aK hat;obtain ⟨HXv,HTv,HZv0,HZv2,HZv3,HZv5⟩:=kj;clear hat hx z0 z2 z3 z5 hvr;obtain ⟨k0,k1,k2,k3,k4,k5⟩:=cs6 Bk.out;have ltk_0:=aa Bk.out;go_wp2_with fail;refine (fk ⟨a1,l1,y1,a2,l2,y2,(some ⟨b,o,none⟩),l3,y3,a4,l4,y4,a5,l5,y5⟩ c.now c.ks v.k _ (HR.out.k.below (HB.out.trans ((an _ _).mono HB.out.size))) (HE.out.below (HB.out.trans ((an _ _).mono HB.out.size)))).mono ?_;rintro e w1 ⟨hb2,hf⟩;clear k0 k1 k2 k3 k4 k5 ltk_0;obtain ⟨HA0,hbx⟩:=aG hb2;replace Bk:=upK Bk hbx;have Br:=ae HA0;replace HB:=upB HB hbx;clear hb2 hbx HA0;clear hb c0 c1 c2 c3 c4 c5 c6 c7;rcases hf with ⟨hh,rfl⟩ | ⟨hh,T,q,rfl⟩;rotate_left
   ·have HH:=ae hh;clear hh;obtain ⟨k0,k1,k2,k3,k4,k5⟩:=cs6 Bk.out;have ltk_1:=aa Bk.out;obtain ⟨r0,r1,r2,r3,r4,r5,r6,r7⟩:=cs8 Br.out;have ltr_1:=aa Br.out;go_wp2;go_ret;exact ar.f (fun h => HH.out (h.1 k v HXv.out).1) HB.out
   have HH:=ae hh;clear hh;by_cases he : v.m = ⟨#[]⟩
   ·have hq:=cA he;have HEm:=ae he;clear he;obtain ⟨k0,k1,k2,k3,k4,k5⟩:=cs6 Bk.out;have ltk_1:=aa Bk.out;obtain ⟨r0,r1,r2,r3,r4,r5,r6,r7⟩:=cs8 Br.out;have ltr_1:=aa Br.out;go_wp2_with fail;refine ⟨⟨k + 1,by omega,by go_num,fun j z hj hz => ?_,HB.out,Bk.out⟩,by simp [intOf];omega⟩;by_cases e : j = k
    ·subst e;rw [HXv.out] at hz;exact pE
    ·exact HQ.out j z af hz
   ·have hq:=aY he;have HEm:=ae he;clear he;obtain ⟨k0,k1,k2,k3,k4,k5⟩:=cs6 Bk.out;have ltk_1:=aa Bk.out;obtain ⟨r0,r1,r2,r3,r4,r5,r6,r7⟩:=cs8 Br.out;have ltr_1:=aa Br.out;go_wp2_with fail;refine (kI ⟨a1,l1,y1,a2,l2,y2,(some ⟨b,o,none⟩),l3,y3,a4,l4,y4,a5,l5,y5⟩ c v.m v.n _ (HR.out.below HB.out) HXR.out HVR.out).mono ?_;rintro e w2 ⟨r,rfl,hi,hb3⟩;clear k0 k1 k2 k3 k4 k5 ltk_1 r0 r1 r2 r3 r4 r5 r6 r7 ltr_1;replace Bk:=upK Bk hb3;replace Br:=upK Br hb3;replace HB:=upB HB hb3;clear hb3;have HI:=ae hi;clear hi;cases r
    ·go_wp2;go_ret;refine ar.f (fun h => ?_) HB.out;rcases (h.1 k v HXv.out).2 with h2 | h2
     ·exact HEm.out h2
     ·have:=HI.out.2 h2;cases this
    ·go_wp2_with fail;refine ⟨⟨k + 1,by omega,by go_num,fun j z hj hz => ?_,HB.out,Bk.out⟩,by simp [intOf];omega⟩;by_cases e : j = k
     ·subst e;rw [HXv.out] at hz;exact pM
     ·exact HQ.out j z af hz
  ·obtain rfl : l3 = k:=af
   have HQ1 : Hid (∀ (j : Nat) z,c.vs[j]? = some z → QV c z):=fun j z hz => HQ.out j z cG hz;clear HQ;have k3 : wr.cell? ⟨w.heap.size,3,none⟩ = some (.slice a4 l4 y4):=ah Bk.out 3;have kl : w.heap.size < wr.heap.size:=aa Bk.out;go_wp2;go_loopw [37] (fun i wr => ∃ k : Nat,k ≤ l4 ∧ i = .int .i64 k ∧ Hid (∀ (j : Nat) z,j < k → c.xs[j]? = some z → QX c z) ∧ Hid (Below w.heap.size w wr) ∧ Hid (wr.heap[w.heap.size]? = some (.cells #[.slice a1 l1 y1,.slice a2 l2 y2,.slice a3 l3 y3,.slice a4 l4 y4,.slice a5 l5 y5,.int .i64 c.now] 37 (0,0)))) (fun i _ => l4 - (intOf i).toNat);case atStart => exact ⟨0,by omega,rfl,fun _ _ h => absurd h af,HB.out,Bk.out⟩
   case round =>
    obtain ⟨k,hk,rfl,HQ,HB,Bk⟩:=hrel;by_cases hlt : k < l4
    ·obtain ⟨b,o,x,rfl,hb,hx,hat⟩:=de (HR.out.x.below HB.out) hlt;obtain ⟨z0,z2,z4,c0,c1,c2,c3,c4⟩:=bB hat;have HXx:=ae hx;have HZx0:=ae z0;have HZx2:=ae z2;have HZx4:=ae z4;clear hat hx z0 z2 z4;obtain ⟨k0,k1,k2,k3,k4,k5⟩:=cs6 Bk.out;have ltk_0:=aa Bk.out;go_wp2_with fail;refine (fk ⟨a1,l1,y1,a2,l2,y2,a3,l3,y3,(some ⟨b,o,none⟩),l4,y4,a5,l5,y5⟩ c.now c.ks x.k _ (HR.out.k.below (HB.out.trans ((an _ _).mono HB.out.size))) (HE.out.below (HB.out.trans ((an _ _).mono HB.out.size)))).mono ?_;rintro e w1 ⟨hb2,hf⟩;clear k0 k1 k2 k3 k4 k5 ltk_0;obtain ⟨HA0,hbx⟩:=aG hb2;replace Bk:=upK Bk hbx;have Br:=ae HA0;replace HB:=upB HB hbx;clear hb2 hbx HA0;clear hb c0 c1 c2 c3 c4;rcases hf with ⟨hh,rfl⟩ | ⟨hh,T,q,rfl⟩;rotate_left
     ·have HH:=ae hh;clear hh;obtain ⟨k0,k1,k2,k3,k4,k5⟩:=cs6 Bk.out;have ltk_1:=aa Bk.out;obtain ⟨r0,r1,r2,r3,r4⟩:=cs5 Br.out;have ltr_1:=aa Br.out;go_wp2;go_ret;exact ar.f (fun h => HH.out (h.2 k x HXx.out).1) HB.out
     have HH:=ae hh;clear hh;by_cases he : x.v = ⟨#[]⟩
     ·have hq:=cA he;have HEm:=ae he;clear he;obtain ⟨k0,k1,k2,k3,k4,k5⟩:=cs6 Bk.out;have ltk_1:=aa Bk.out;obtain ⟨r0,r1,r2,r3,r4⟩:=cs5 Br.out;have ltr_1:=aa Br.out;go_wp2_with fail;refine ⟨⟨k + 1,by omega,by go_num,fun j z hj hz => ?_,HB.out,Bk.out⟩,by simp [intOf];omega⟩;by_cases e : j = k
      ·subst e;rw [HXx.out] at hz;exact pE
      ·exact HQ.out j z af hz
     ·have hq:=aY he;have HEm:=ae he;clear he;obtain ⟨k0,k1,k2,k3,k4,k5⟩:=cs6 Bk.out;have ltk_1:=aa Bk.out;obtain ⟨r0,r1,r2,r3,r4⟩:=cs5 Br.out;have ltr_1:=aa Br.out;go_wp2_with fail;refine (kI ⟨a1,l1,y1,a2,l2,y2,a3,l3,y3,(some ⟨b,o,none⟩),l4,y4,a5,l5,y5⟩ c x.n x.v _ (HR.out.below HB.out) HXR.out HVR.out).mono ?_;rintro e w2 ⟨r,rfl,hi,hb3⟩;clear k0 k1 k2 k3 k4 k5 ltk_1 r0 r1 r2 r3 r4 ltr_1;replace Bk:=upK Bk hb3;replace Br:=upK Br hb3;replace HB:=upB HB hb3;clear hb3;have HI:=ae hi;clear hi;cases r
      ·go_wp2;go_ret;refine ar.f (fun h => ?_) HB.out;rcases (h.2 k x HXx.out).2 with h2 | h2
       ·exact HEm.out h2
       ·have:=HI.out.2 h2;cases this
      ·go_wp2_with fail;refine ⟨⟨k + 1,by omega,by go_num,fun j z hj hz => ?_,HB.out,Bk.out⟩,by simp [intOf];omega⟩;by_cases e : j = k
       ·subst e;rw [HXx.out] at hz;exact pM
       ·exact HQ.out j z af hz
    ·obtain rfl : l4 = k:=af
     have HQ2 : Hid (∀ (j : Nat) z,c.xs[j]? = some z → QX c z):=fun j z hz => HQ.out j z cG hz;exact lG

def InL (zs : List ByteArray) (t : ByteArray) : Prop:=∃ j : Nat,zs[j]? = some t

theorem qG (a : Option Addr) (len cap : Nat) (zs : List ByteArray) (t : ByteArray) (w : World) (hr : ay w a len cap zs) :
  Calls Tryz.prog 181 #[.slice a len cap,.string t] w fun e w' => (∃ r : Int,e = .returned (.int .i64 r) ∧ ((0 ≤ r ∧ InL zs t) ∨ (r = -1 ∧ ¬ InL zs t))) ∧ w' = w:=by
 have HR:=ae hr;obtain ⟨hlc,hzl⟩:=rp;clear hr;go_enter Tryz.func181,Tryz.ntmps181;go_wp2;go_loop [8] (fun i => ∃ k : Nat,k ≤ len ∧ i = .int .i64 k ∧ Hid (∀ (j : Nat) x,j < k → zs[j]? = some x → ¬ x = t)) (fun i => len - (intOf i).toNat);case atStart => exact ⟨0,by omega,rfl,fun _ _ h => absurd h af⟩
 case round =>
  obtain ⟨k,hk,rfl,HE⟩:=hrel;by_cases hlt : k < len
  ·obtain ⟨b,o,x,rfl,hb,hx,hc,hsz⟩:=HR.out.at hlt;have HX:=ae hx;clear hx;by_cases hn : t = x
   ·have hq:=aV hn;have HN:=ae hn;clear hn;go_wp2;go_ret;exact ⟨⟨k,rfl,.inl ⟨by omega,k,by rw [HX.out,HN.out]⟩⟩,rfl⟩
   ·have hq:=bo hn;have HN:=ae hn;clear hn;go_wp2;refine ⟨⟨k + 1,by omega,by go_num,fun j z hj hz => ?_⟩,by simp [intOf];omega⟩;by_cases e : j = k
    ·subst e;rw [HX.out] at hz;obtain rfl:=Option.some.inj hz;exact fun q => HN.out q.symm
    ·exact HE.out j z af hz
  ·obtain rfl : len = k:=af
   go_wp2;go_ret;exact ⟨⟨-1,rfl,.inr ⟨rfl,fun ⟨j,hj⟩ => HE.out j t mT hj rfl⟩⟩,rfl⟩

theorem bP (a : Option Addr) (len cap : Nat) (zs : List ByteArray) (t : ByteArray) (w : World) (hr : ay w a len cap zs) :
  Calls Tryz.prog 167 #[.slice a len cap,.string t] w (ar (InL zs t) w):=by
 have HR:=ae hr;clear hr;go_enter Tryz.func167,Tryz.ntmps167;go_wp2_with fail;refine (qG a len cap zs t _ HR.out).mono ?_;rintro e w1 ⟨⟨r,rfl,hr⟩,rfl⟩;rcases hr with ⟨h0,hi⟩ | ⟨rfl,hi⟩
 ·go_wp2;go_ret;exact ar.t hi (Below.refl _ _)
 ·go_wp2;go_ret;exact ar.f hi (Below.refl _ _)

theorem ju (d : Ad) (now : Int) (xs : List Xd) (a : Option Addr) (len cap : Nat) (zs : List ByteArray) (w : World) (hr : aI w d.a4 d.l4 d.c4 5 (xs.map xdF)) (hz : ay w a len cap zs) (hG : ens w) :
  Calls Tryz.prog 140 #[.agg #[.slice d.a1 d.l1 d.c1,.slice d.a2 d.l2 d.c2,.slice d.a3 d.l3 d.c3,.slice d.a4 d.l4 d.c4,.slice d.a5 d.l5 d.c5,.int .i64 now],.slice a len cap] w (De (∀ (j : Nat) t,zs[j]? = some t → hit Xd.n xs t = true) w):=by
 have HR:=ae hr;have HE:=ae hG;have HZ:=ae hz;have hlc : len ≤ 9223372036854775807:=Nat.le_trans hz.2.1 hz.2.2.1;have hzl : zs.length = len:=hz.1;clear hr hG hz;go_enter Tryz.func140,Tryz.ntmps140;go_wp2;go_loopw [11] (fun i wr => ∃ k : Nat,k ≤ len ∧ i = .int .i64 k ∧ Hid (∀ (j : Nat) t,j < k → zs[j]? = some t → hit Xd.n xs t = true) ∧ Hid (Below w.heap.size w wr) ∧ Hid (wr.heap[w.heap.size]? = some (.cells #[.slice d.a1 d.l1 d.c1,.slice d.a2 d.l2 d.c2,.slice d.a3 d.l3 d.c3,.slice d.a4 d.l4 d.c4,.slice d.a5 d.l5 d.c5,.int .i64 now] 37 (0,0)))) (fun i _ => len - (intOf i).toNat);case atStart => exact ⟨0,by omega,rfl,fun _ _ h => absurd h af,an _ _,Array.getElem?_push_size⟩
 case round =>
  obtain ⟨k,hk,rfl,HQ,HB,Bk⟩:=hrel;by_cases hlt : k < len
  ·obtain ⟨b,o,t,rfl,hb,hx,hc,hsz⟩:=(HZ.out.below HB.out).at hlt;have HX:=ae hx;clear hx;obtain ⟨k0,k1,k2,k3,k4,k5⟩:=cs6 Bk.out;have ltk_0:=aa Bk.out;go_wp2_with fail;refine (eN d now xs t w _ HR.out HB.out).mono ?_;rintro e w1 ⟨hb2,hf⟩;clear k0 k1 k2 k3 k4 k5 ltk_0;replace Bk:=upK Bk hb2;replace HB:=upB HB hb2;clear hb2;clear hb hc hsz;obtain ⟨T,q,hv⟩:=HE.out.below HB.out;have hl:=(HE.out.below HB.out).lt;rcases hf with ⟨hh,x,hx,hn,rfl,z0,z2,z4⟩ | ⟨hh,rfl⟩
   ·have HH:=ae hh;clear hh hx hn z0 z2 z4 hv hl;go_wp2;refine ⟨⟨k + 1,by omega,by go_num,fun j z hj hz => ?_,HB.out.alloc HB.out.size _,(Below.heap_alloc _ _ _ (aa Bk.out)).trans Bk.out⟩,by simp [intOf];omega⟩;by_cases e : j = k
    ·subst e;rw [HX.out] at hz;obtain rfl:=Option.some.inj hz;exact HH.out
    ·exact HQ.out j z af hz
   ·have HH:=ae hh;clear hh;go_wp2;go_ret;exact ⟨HB.out.alloc HB.out.size _,.inr ⟨fun h => (by have:=h k t HX.out;rw [HH.out] at this;cases this),T,q,rfl⟩⟩
  ·obtain rfl : len = k:=af
   go_wp2;go_ret;exact ⟨HB.out,.inl ⟨fun j t ht => HQ.out j t rj ht,rfl⟩⟩

def bu (c : Cl) (t : ByteArray) (v : Vd) : Prop:=∃ (i j : Nat) (x : Xd),c.xs[i]? = some x ∧ x.n = t ∧ c.vs[j]? = some v ∧ v.n = x.v
def Dp (c : Cl) (t : ByteArray) (r w : World) (e : Ending) (w' : World) : Prop :=
 Below w.heap.size w w' ∧ ((∃ (v : Vd) (va : Option Addr) (vl vc : Nat),bu c t v ∧ e = .returned (.tuple #[.agg #[.string v.n,.int .i64 v.c,.string v.z,.string v.k,.bool v.x,.string v.m,.bool v.y,.slice va vl vc],.bool true]) ∧ v.n.size ≤ 9223372036854775807 ∧ v.z.size ≤ 9223372036854775807 ∧ ay r va vl vc v.zs) ∨ ((∀ v,¬ bu c t v) ∧ e = .returned (.tuple #[.agg #[.string ⟨#[]⟩,.int .i64 0,.string ⟨#[]⟩,.string ⟨#[]⟩,.bool false,.string ⟨#[]⟩,.bool false,.slice none 0 0],.bool false])))

theorem rM (d : Ad) (c : Cl) (t : ByteArray) (r : World) (w : World) (hr : aM r d c.raw) (hrw : Below r.heap.size r w) (hx : aJ Xd.n c.xs) (hv : aJ Vd.n c.vs) (hne : ∀ (j : Nat) v,c.vs[j]? = some v → ¬ v.n = ⟨#[]⟩) :
  Calls Tryz.prog 166 #[.agg #[.slice d.a1 d.l1 d.c1,.slice d.a2 d.l2 d.c2,.slice d.a3 d.l3 d.c3,.slice d.a4 d.l4 d.c4,.slice d.a5 d.l5 d.c5,.int .i64 c.now],.string t] w (Dp c t r w):=by
 have HR:=ae hr;have HRW:=ae hrw;obtain ⟨HX,HV,HNE⟩:=hE;have HB:=ae (Below.refl w.heap.size w);clear hr hx hv hrw hne;go_enter Tryz.func166,Tryz.ntmps166;go_wp2_with fail;refine (eN d c.now c.xs t r _ HR.out.x (HRW.out.trans ((aF _ _ _).mono HRW.out.size))).mono ?_;rintro e w1 ⟨hb,hf⟩;obtain ⟨HA0,HA1,hbx⟩:=cP hb;have Bk:=ae HA0;have Bs:=ae HA1;replace HB:=upB HB hbx;clear hb hbx HA0 HA1;rcases hf with ⟨hh,x,hx,hn,rfl,z0,z2,z4⟩ | ⟨hh,rfl⟩
 ·have HX1:=ae hx;have HN1:=ae hn;clear hx hn hh z0 z2 z4;obtain ⟨k0,k1,k2,k3,k4,k5⟩:=cs6 Bk.out;have ltk_1:=aa Bk.out;go_wp2_with fail;refine (dy d c.now c.vs x.v r _ HR.out.v (HRW.out.trans ((HB.out.trans ((an _ _).mono HB.out.size)).mono HRW.out.size))).mono ?_;rintro e w2 ⟨hb,hf⟩;clear k0 k1 k2 k3 k4 k5 ltk_1;obtain ⟨HA0,hbx⟩:=aG hb;replace Bk:=upK Bk hbx;replace Bs:=upK Bs hbx;have Bx:=ae HA0;replace HB:=upB HB hbx;clear hb hbx HA0;rcases hf with ⟨hh,v,va,vl,vc,hx,hn,rfl,z0,z2,z3,z5,hvr⟩ | ⟨hh,rfl⟩
  ·have HX2:=ae hx;have HN2:=ae hn;have HT:=ae hvr;have HZ0:=ae z0;have HZ2:=ae z2;clear hx hn hh z0 z2 z3 z5 hvr;obtain ⟨s0,s1,s2,s3,s4,s5,s6,s7⟩:=cs8 Bs.out;obtain ⟨lts_2,fr0,fr1,fr2,fr3,fr4,fr5,fr6,fr7⟩:=uj;go_wp2;refine bodyPost_ret (v:=.tuple #[.agg #[.string v.n,.int .i64 v.c,.string v.z,.string v.k,.bool v.x,.string v.m,.bool v.y,.slice va vl vc],.bool true]) tQ rfl ⟨ag (Nat.le_succ _) (ag (Nat.le_succ _) (ag (Nat.le_succ _) (ag (Nat.le_succ _) (ag (Nat.le_succ _) (ag (Nat.le_succ _) (ag (Nat.le_succ _) (ag (Nat.le_succ _) (HB.out)))))))),.inl ⟨v,va,vl,vc,⟨_,_,x,HX1.out,HN1.out,HX2.out,HN2.out⟩,rfl,HZ0.out,HZ2.out,HT.out⟩⟩
  ·have HH2:=ae hh;clear hh;obtain ⟨s0,s1,s2,s3,s4,s5,s6,s7⟩:=cs8 Bs.out;obtain ⟨lts_2,fr0,fr1,fr2,fr3,fr4,fr5,fr6,fr7⟩:=uj;go_wp2;refine bodyPost_ret (v:=.tuple #[.agg #[.string ⟨#[]⟩,.int .i64 0,.string ⟨#[]⟩,.string ⟨#[]⟩,.bool false,.string ⟨#[]⟩,.bool false,.slice none 0 0],.bool false]) tQ rfl ⟨ag (Nat.le_succ _) (ag (Nat.le_succ _) (ag (Nat.le_succ _) (ag (Nat.le_succ _) (ag (Nat.le_succ _) (ag (Nat.le_succ _) (ag (Nat.le_succ _) (ag (Nat.le_succ _) (HB.out)))))))),.inr ⟨fun v ⟨i,j,x2,e1,e2,e3,e4⟩ => (by obtain ⟨_,rfl⟩:=HX.out.inj e1 HX1.out (e2.trans HN1.out.symm);have:=(bU HV.out e3 e4).2;rw [HH2.out] at this;cases this),rfl⟩⟩
 ·have HH1:=ae hh;clear hh;obtain ⟨k0,k1,k2,k3,k4,k5⟩:=cs6 Bk.out;have ltk_1:=aa Bk.out;go_wp2_with fail;refine (dy d c.now c.vs ⟨#[]⟩ r _ HR.out.v (HRW.out.trans ((HB.out.trans ((an _ _).mono HB.out.size)).mono HRW.out.size))).mono ?_;rintro e w2 ⟨hb,hf⟩;clear k0 k1 k2 k3 k4 k5 ltk_1;obtain ⟨HA0,hbx⟩:=aG hb;replace Bk:=upK Bk hbx;replace Bs:=upK Bs hbx;have Bx:=ae HA0;replace HB:=upB HB hbx;clear hb hbx HA0;rcases hf with ⟨hh,v,va,vl,vc,hx,hn,rfl,z0,z2,z3,z5,hvr⟩ | ⟨hh,rfl⟩
  ·have HX2:=ae hx;have HN2:=ae hn;have HT:=ae hvr;have HZ0:=ae z0;have HZ2:=ae z2;clear hx hn hh z0 z2 z3 z5 hvr;exact absurd HN2.out (HNE.out _ _ HX2.out)
  ·have HH2:=ae hh;clear hh;obtain ⟨s0,s1,s2,s3,s4,s5,s6,s7⟩:=cs8 Bs.out;obtain ⟨lts_2,fr0,fr1,fr2,fr3,fr4,fr5,fr6,fr7⟩:=uj;go_wp2;refine bodyPost_ret (v:=.tuple #[.agg #[.string ⟨#[]⟩,.int .i64 0,.string ⟨#[]⟩,.string ⟨#[]⟩,.bool false,.string ⟨#[]⟩,.bool false,.slice none 0 0],.bool false]) tQ rfl ⟨ag (Nat.le_succ _) (ag (Nat.le_succ _) (ag (Nat.le_succ _) (ag (Nat.le_succ _) (ag (Nat.le_succ _) (ag (Nat.le_succ _) (ag (Nat.le_succ _) (ag (Nat.le_succ _) (HB.out)))))))),.inr ⟨fun v ⟨i,j,x2,e1,e2,e3,e4⟩ => (by have:=(bU HX.out e1 e2).2;rw [HH1.out] at this;cases this),rfl⟩⟩

def cpuOf (t : ByteArray) : List Pd → Int
 | [] => 0
 | p :: ps => (if p.d = t then p.c else 0) + cpuOf t ps
theorem gj (t : ByteArray) : ∀ ps qs : List Pd,cpuOf t (ps ++ qs) = cpuOf t ps + cpuOf t qs
 | [],qs => by simp [cpuOf]
 | p :: ps,qs => by simp [cpuOf,gj t ps];omega
theorem eg {t : ByteArray} {ps : List Pd} {k : Nat} {p : Pd} (h : ps[k]? = some p) : cpuOf t (ps.take (k + 1)) = cpuOf t (ps.take k) + (if p.d = t then p.c else 0):=by
 rw [List.take_add_one,h,gj];simp [cpuOf]

theorem fZ (d : Ad) (now : Int) (ps : List Pd) (t : ByteArray) (w : World) (hr : aI w d.a5 d.l5 d.c5 6 (ps.map pdF)) (hl : ps.length ≤ 8) (hp : ∀ (j : Nat) p,ps[j]? = some p → 0 ≤ p.c ∧ p.c ≤ 1000000) :
  Calls Tryz.prog 142 #[.agg #[.slice d.a1 d.l1 d.c1,.slice d.a2 d.l2 d.c2,.slice d.a3 d.l3 d.c3,.slice d.a4 d.l4 d.c4,.slice d.a5 d.l5 d.c5,.int .i64 now],.string t] w fun e w' => e = .returned (.int .i64 (cpuOf t ps)) ∧ Below w.heap.size w w':=by
 obtain ⟨a1,l1,y1,a2,l2,y2,a3,l3,y3,a4,l4,y4,a5,l5,y5⟩:=d;dsimp only at hr ⊢;have HR:=ae hr;have hxl : ps.length = l5:=cY
 have hlc : l5 ≤ 9223372036854775807:=Nat.le_trans hr.2.1 hr.2.2.1;have HP:=ae hp;clear hr hp;go_enter Tryz.func142,Tryz.ntmps142;go_wp2;go_loopw [5,11] (fun q i wr => ∃ (k : Nat) (s : Int),k ≤ l5 ∧ q = .int .i64 s ∧ i = .int .i64 k ∧ Hid (s = cpuOf t (ps.take k)) ∧ 0 ≤ s ∧ s ≤ k * 1000000 ∧ Hid (Below w.heap.size w wr)) (fun _ i _ => l5 - (intOf i).toNat);case atStart => exact ⟨0,0,by omega,rfl,rfl,rfl,by omega,by omega,an _ _⟩
 case round =>
  obtain ⟨k,s,hk,rfl,rfl,HS,hs0,hs1,HB⟩:=hrel;by_cases hlt : k < l5
  ·obtain ⟨b,o,p,rfl,hb,hx,hat⟩:=bQ (HR.out.below HB.out) hlt;obtain ⟨va,vl,vc,hvr,z0,z2,z4,c0,c1,c2,c3,c4,c5⟩:=aU hat;have HX:=ae hx;have hpc:=HP.out k p hx;clear hat hx z0 z2 z4 hvr;by_cases hn : p.d = t
   ·have hq:=aV hn;have HN:=ae hn;clear hn;go_wp2;refine ⟨⟨k + 1,s + p.c,by omega,by go_num,by go_num,?_,by omega,by omega,HB.out.alloc HB.out.size _⟩,by simp [intOf];omega⟩;show _ = _;rw [eg HX.out,if_pos HN.out,← HS.out]
   ·have hq:=bo hn;have HN:=ae hn;clear hn;go_wp2;refine ⟨⟨k + 1,s,by omega,rfl,by go_num,?_,by omega,by omega,HB.out.alloc HB.out.size _⟩,by simp [intOf];omega⟩;show _ = _;rw [eg HX.out,if_neg HN.out,← HS.out,Int.add_zero]
  ·obtain rfl : l5 = k:=af
   exact p8

def rT (c : Cl) (t : ByteArray) : Prop:=∀ (i j : Nat) p q,c.ps[i]? = some p → c.ps[j]? = some q → ¬ p.d = ⟨#[]⟩ → ¬ q.d = ⟨#[]⟩ → InL p.zs t → InL q.zs t → p.d = q.d

theorem yh (d : Ad) (c : Cl) (t : ByteArray) (w : World) (hr : aM w d c.raw) :
  Calls Tryz.prog 143 #[.agg #[.slice d.a1 d.l1 d.c1,.slice d.a2 d.l2 d.c2,.slice d.a3 d.l3 d.c3,.slice d.a4 d.l4 d.c4,.slice d.a5 d.l5 d.c5,.int .i64 c.now],.string t] w (ar (rT c t) w):=by
 obtain ⟨a1,l1,y1,a2,l2,y2,a3,l3,y3,a4,l4,y4,a5,l5,y5⟩:=d;dsimp only;obtain ⟨HR,hl1,hm1,hl2,hm2,hl3,hm3,hl4,hm4,hl5,hm5⟩:=ew;clear hr;go_enter Tryz.func143,Tryz.ntmps143;go_wp2;go_loopw [5,11] (fun q i wr => ∃ (k : Nat) (s : ByteArray),k ≤ l5 ∧ q = .string s ∧ i = .int .i64 k ∧ Hid (∀ (j : Nat) p,j < k → c.ps[j]? = some p → ¬ p.d = ⟨#[]⟩ → InL p.zs t → p.d = s) ∧ Hid (s = ⟨#[]⟩ ∨ ∃ (j : Nat) (p : Pd),j < k ∧ c.ps[j]? = some p ∧ ¬ p.d = ⟨#[]⟩ ∧ InL p.zs t ∧ p.d = s) ∧ Hid (Below w.heap.size w wr)) (fun _ i _ => l5 - (intOf i).toNat);case atStart => exact ⟨0,_,by omega,rfl,rfl,fun _ _ h => absurd h af,.inl rfl,an _ _⟩
 case round =>
  obtain ⟨k,s,hk,rfl,rfl,HQ,HS,HB⟩:=hrel;by_cases hlt : k < l5
  ·obtain ⟨b,o,p,rfl,hb,hx,hat⟩:=bQ (HR.out.p.below HB.out) hlt;obtain ⟨va,vl,vc,hvr,z0,z2,z4,c0,c1,c2,c3,c4,c5⟩:=aU hat;have HX:=ae hx;have HT:=ae hvr;clear hat hx z0 z2 z4 hvr;have skip : (p.d = ⟨#[]⟩ ∨ ¬ InL p.zs t) → ∀ (j : Nat) q,j < k + 1 → c.ps[j]? = some q → ¬ q.d = ⟨#[]⟩ → InL q.zs t → q.d = s:=by
    intro h j q hj hq h1 h2;by_cases e : j = k
    ·subst e;rw [HX.out] at hq;obtain rfl:=Option.some.inj hq;rcases h with h | h
     ·exact absurd h h1
     ·exact absurd h2 h
    ·exact HQ.out j q af hq h1 h2
   have SK:=ae skip;clear skip;have keepS : s = ⟨#[]⟩ ∨ ∃ (j : Nat) (p : Pd),j < k + 1 ∧ c.ps[j]? = some p ∧ ¬ p.d = ⟨#[]⟩ ∧ InL p.zs t ∧ p.d = s:=HS.out.imp id (fun ⟨j,p,h1,h2⟩ => ⟨j,p,by omega,h2⟩);have KS:=ae keepS;clear keepS;by_cases he : p.d = ⟨#[]⟩
   ·have hq:=cA he;have HEm:=ae he;clear he;go_wp2;exact ⟨⟨k + 1,s,by omega,rfl,by go_num,SK.out (.inl HEm.out),KS.out,HB.out.alloc HB.out.size _⟩,by simp [intOf];omega⟩
   ·have hq:=aY he;have HEm:=ae he;clear he;go_wp2_with fail;refine (bP va vl vc p.zs t _ (HT.out.below (an _ _))).mono ?_;rintro e w1 ⟨r,rfl,hi,hb2⟩;obtain ⟨HA0,hbx⟩:=aG hb2;have Br:=ae HA0;replace HB:=upB HB hbx;clear hb2 hbx HA0;have HI:=ae hi;clear hi c0 c1 c2 c3 c4 c5 hb;cases r
    ·obtain ⟨r0,r1,r2,r3,r4,r5⟩:=cs6 Br.out;have ltr_1:=aa Br.out;go_wp2;exact ⟨⟨k + 1,s,by omega,rfl,by go_num,SK.out (.inr (fun h => by have:=HI.out.2 h;cases this)),KS.out,HB.out⟩,by simp [intOf];omega⟩
    ·have HIn:=ae (HI.out.1 bS);clear HI;by_cases hs : s = ⟨#[]⟩
     ·have hq2:=cA hs;have HSe:=ae hs;clear hs;obtain ⟨r0,r1,r2,r3,r4,r5⟩:=cs6 Br.out;have ltr_1:=aa Br.out;go_wp2_with fail;refine ⟨⟨k + 1,p.d,by omega,rfl,by go_num,fun j q hj hq h1 h2 => ?_,.inr ⟨k,p,by omega,HX.out,HEm.out,HIn.out,rfl⟩,HB.out⟩,by simp [intOf];omega⟩;by_cases e : j = k
      ·subst e;rw [HX.out] at hq;obtain rfl:=Option.some.inj hq;rfl
      ·exact absurd (HSe.out ▸ HQ.out j q af hq h1 h2) h1
     ·have hq2:=aY hs;have HSe:=ae hs;clear hs;by_cases hd : p.d = s
      ·have hq3:=aV hd;have HD:=ae hd;clear hd;obtain ⟨r0,r1,r2,r3,r4,r5⟩:=cs6 Br.out;have ltr_1:=aa Br.out;go_wp2_with fail;refine ⟨⟨k + 1,p.d,by omega,rfl,by go_num,fun j q hj hq h1 h2 => ?_,.inr ⟨k,p,by omega,HX.out,HEm.out,HIn.out,rfl⟩,HB.out⟩,by simp [intOf];omega⟩;by_cases e : j = k
       ·subst e;rw [HX.out] at hq;obtain rfl:=Option.some.inj hq;rfl
       ·exact (HQ.out j q af hq h1 h2).trans HD.out.symm
      ·have hq3:=bo hd;have HD:=ae hd;clear hd;obtain ⟨r0,r1,r2,r3,r4,r5⟩:=cs6 Br.out;have ltr_1:=aa Br.out;go_wp2;go_ret;refine ar.f (fun h => ?_) HB.out;rcases HS.out with h1 | ⟨j,q,h1,h2,h3,h4,h5⟩
       ·exact HSe.out h1
       ·exact HD.out ((h k j p q HX.out h2 HEm.out h3 HIn.out h4).trans h5)
  ·obtain rfl : l5 = k:=af
   go_wp2;go_ret;refine ar.t (fun i j p q hi hj h1 h2 h3 h4 => ?_) HB.out;rw [HQ.out i p (by have:=(List.getElem?_eq_some_iff.1 hi).1;omega) hi h1 h3,HQ.out j q mT hj h2 h4]

theorem bu.inj {c : Cl} {t : ByteArray} {v v' : Vd} (hx : aJ Xd.n c.xs) (hv : aJ Vd.n c.vs) (h : bu c t v) (h' : bu c t v') : v = v':=by
 obtain ⟨i,j,x,e1,e2,e3,e4⟩:=h;obtain ⟨i',j',x',f1,f2,f3,f4⟩:=h';obtain ⟨_,rfl⟩:=hx.inj e1 f1 (e2.trans f2.symm);exact (hv.inj e3 f3 (e4.trans f4.symm)).2
def BD (c : Cl) (p : Pd) : Prop:=∃ (i : Nat) (n : Nd),c.ns[i]? = some n ∧ n.n = p.d ∧ (p.z = ⟨#[]⟩ ∨ p.z = n.z) ∧ ∀ (j : Nat) t,p.zs[j]? = some t → ∃ v,bu c t v ∧ v.z = n.z
def Dm (c : Cl) (p : Pd) : Prop:=∃ (i : Nat) (n : Nd),c.ns[i]? = some n ∧ n.n = p.d ∧ n.d = false ∧ ∀ (j : Nat) t,p.zs[j]? = some t → ∃ v,bu c t v ∧ InL n.zs v.n
def s_ (c : Cl) (n : Nd) : Prop:=∀ (j : Nat) t,n.zs[j]? = some t → ∃ (i : Nat) (v : Vd),c.vs[i]? = some v ∧ v.n = t ∧ (n.d = true ∨ InL v.zs n.n)

theorem sF (d : Ad) (c : Cl) (p : Pd) (pa : Option Addr) (pl pc : Nat) (w : World) (hr : aM w d c.raw) (hn : aJ Nd.n c.ns) (hx : aJ Xd.n c.xs) (hv : aJ Vd.n c.vs) (hne : ∀ (j : Nat) v,c.vs[j]? = some v → ¬ v.n = ⟨#[]⟩) (hp : ay w pa pl pc p.zs) :
  Calls Tryz.prog 141 #[.agg #[.slice d.a1 d.l1 d.c1,.slice d.a2 d.l2 d.c2,.slice d.a3 d.l3 d.c3,.slice d.a4 d.l4 d.c4,.slice d.a5 d.l5 d.c5,.int .i64 c.now],.agg #[.string p.n,.int .i64 p.c,.string p.z,.slice pa pl pc,.string p.d,.int .i64 p.p]] w (ar (BD c p) w):=by
 have HR:=ae hr;have HN:=ae hn;obtain ⟨HX,HV,HNE⟩:=hE;have HP:=ae hp;obtain ⟨hlc,hzl⟩:=rn;have HB:=ae (Below.refl w.heap.size w);clear hr hn hx hv hne hp;go_enter Tryz.func141,Tryz.ntmps141;go_wp2_with fail;refine (eO d c.now c.ns p.d w _ HR.out.n (aF _ _ _)).mono ?_;rintro e w1 ⟨hb,hf⟩;obtain ⟨HA0,HA1,hbx⟩:=cP hb;have Bk:=ae HA0;have Bp:=ae HA1;replace HB:=upB HB hbx;clear hb hbx HA0 HA1;rcases hf with ⟨hh,n,va,vl,vc,hx,hn,rfl,z0,z1,hvr⟩ | ⟨hh,rfl⟩;rotate_left
 ·exact AP
 have HX1:=ae hx;have HN1:=ae hn;have HT1:=ae hvr;clear hx hn hh z0 z1 hvr;have hz : (p.z = ⟨#[]⟩ ∨ p.z = n.z) ∨ ¬ (p.z = ⟨#[]⟩ ∨ p.z = n.z):=Classical.em _;rcases hz with hz | hz;rotate_left
 ·have q1:=aY (fun e => hz (.inl e));have q2:=bo (fun e => hz (.inr e));have HC:=ae hz;clear hz;obtain ⟨k0,k1,k2,k3,k4,k5⟩:=cs6 Bk.out;have ltk_1:=aa Bk.out;obtain ⟨p0,p1,p2,p3,p4,p5⟩:=cs6 Bp.out;have ltp_1:=aa Bp.out;go_wp2;go_ret;refine ar.f (fun ⟨i,m,e1,e2,e3,_⟩ => ?_) (HB.out.alloc HB.out.size _);obtain ⟨_,rfl⟩:=HN.out.inj e1 HX1.out (e2.trans HN1.out.symm);exact HC.out e3
 have HC:=ae hz;have hq : (p.z.toList.isEmpty = true) ∨ (p.z.toList.isEmpty = false ∧ (p.z.toList == n.z.toList) = true):=by
  by_cases e : p.z = ⟨#[]⟩
  ·exact .inl (cA e)
  ·exact .inr ⟨aY e,aV (HC.out.resolve_left e)⟩
 clear hz;rcases hq with hq | ⟨hq,hq2⟩
 ·exact CX
 ·exact CX

theorem ye (d : Ad) (c : Cl) (p : Pd) (pa : Option Addr) (pl pc : Nat) (w : World) (hr : aM w d c.raw) (hn : aJ Nd.n c.ns) (hx : aJ Xd.n c.xs) (hv : aJ Vd.n c.vs) (hne : ∀ (j : Nat) v,c.vs[j]? = some v → ¬ v.n = ⟨#[]⟩) (hp : ay w pa pl pc p.zs) :
  Calls Tryz.prog 146 #[.agg #[.slice d.a1 d.l1 d.c1,.slice d.a2 d.l2 d.c2,.slice d.a3 d.l3 d.c3,.slice d.a4 d.l4 d.c4,.slice d.a5 d.l5 d.c5,.int .i64 c.now],.agg #[.string p.n,.int .i64 p.c,.string p.z,.slice pa pl pc,.string p.d,.int .i64 p.p]] w (ar (Dm c p) w):=by
 have HR:=ae hr;have HN:=ae hn;obtain ⟨HX,HV,HNE⟩:=hE;have HP:=ae hp;obtain ⟨hlc,hzl⟩:=rn;have HB:=ae (Below.refl w.heap.size w);clear hr hn hx hv hne hp;go_enter Tryz.func146,Tryz.ntmps146;go_wp2_with fail;refine (eO d c.now c.ns p.d w _ HR.out.n (aF _ _ _)).mono ?_;rintro e w1 ⟨hb,hf⟩;obtain ⟨HA0,HA1,hbx⟩:=cP hb;have Bk:=ae HA0;have Bp:=ae HA1;replace HB:=upB HB hbx;clear hb hbx HA0 HA1;rcases hf with ⟨hh,n,va,vl,vc,hx,hn,rfl,z0,z1,hvr⟩ | ⟨hh,rfl⟩;rotate_left
 ·exact AP
 have HX1:=ae hx;have HN1:=ae hn;have HT1:=ae hvr;clear hx hn hh z0 z1 hvr;cases hd : n.d;rotate_left
 ·obtain ⟨k0,k1,k2,k3,k4,k5⟩:=cs6 Bk.out;have ltk_1:=aa Bk.out;obtain ⟨p0,p1,p2,p3,p4,p5⟩:=cs6 Bp.out;have ltp_1:=aa Bp.out;go_wp2;go_ret;refine ar.f (fun ⟨i,m,e1,e2,e3,_⟩ => ?_) (HB.out.alloc HB.out.size _);obtain ⟨_,rfl⟩:=HN.out.inj e1 HX1.out (e2.trans HN1.out.symm);rw [hd] at e3;cases e3
 have HC:=ae hd;clear hd;obtain ⟨k0,k1,k2,k3,k4,k5⟩:=cs6 Bk.out;have ltk_1:=aa Bk.out;obtain ⟨p0,p1,p2,p3,p4,p5⟩:=cs6 Bp.out;have ltp_1:=aa Bp.out;go_wp2;go_loopw [27] (fun i wr => ∃ k : Nat,k ≤ pl ∧ i = .int .i64 k ∧ Hid (∀ (j : Nat) t,j < k → p.zs[j]? = some t → ∃ v,bu c t v ∧ InL n.zs v.n) ∧ Hid (Below w.heap.size w wr) ∧ Hid (wr.heap[w.heap.size]? = some (.cells #[.slice d.a1 d.l1 d.c1,.slice d.a2 d.l2 d.c2,.slice d.a3 d.l3 d.c3,.slice d.a4 d.l4 d.c4,.slice d.a5 d.l5 d.c5,.int .i64 c.now] 37 (0,0))) ∧ Hid (wr.heap[w1.heap.size]? = some (.cells #[.string n.n,.string n.z,.int .i64 n.c,.int .i64 n.s,.int .i64 n.u,.bool false,.slice va vl vc] 72 (0,0)))) (fun i _ => pl - (intOf i).toNat);case atStart => exact ⟨0,by omega,rfl,fun _ _ h => absurd h af,HB.out.alloc HB.out.size _,(Below.heap_alloc _ _ _ (aa Bk.out)).trans Bk.out,Array.getElem?_push_size⟩
 case round =>
  obtain ⟨k,hk,rfl,HQ,HB,Bk,Bn⟩:=hrel;by_cases hlt : k < pl
  ·obtain ⟨b,o,t,rfl,hb,hx,hc,hsz⟩:=(HP.out.below HB.out).at hlt;have HXt:=ae hx;clear hx hsz;obtain ⟨k0,k1,k2,k3,k4,k5⟩:=cs6 Bk.out;have ltk_0:=aa Bk.out;obtain ⟨n0,n1,n2,n3,n4,n5,n6⟩:=cs7 Bn.out;have ltn_0:=aa Bn.out;go_wp2_with fail;refine (rM d c t w _ HR.out HB.out HX.out HV.out HNE.out).mono ?_;rintro e w2 ⟨hb2,hf⟩;clear k0 k1 k2 k3 k4 k5 ltk_0 n0 n1 n2 n3 n4 n5 n6 ltn_0;replace Bk:=upK Bk hb2;replace Bn:=upK Bn hb2;replace HB:=upB HB hb2;clear hb2;clear hb hc;rcases hf with ⟨v,xa,xl,xc,hbd,rfl,z0,z2,hxr⟩ | ⟨hbd,rfl⟩;rotate_left
   ·exact wv
   have HD:=ae hbd;have HTx:=ae hxr;clear hbd hxr z0 z2;obtain ⟨k0,k1,k2,k3,k4,k5⟩:=cs6 Bk.out;have ltk_1:=aa Bk.out;obtain ⟨n0,n1,n2,n3,n4,n5,n6⟩:=cs7 Bn.out;have ltn_1:=aa Bn.out;go_wp2_with fail;refine (bP va vl vc n.zs v.n _ (HT1.out.below (HB.out.trans ((an _ _).mono HB.out.size)))).mono ?_;rintro e w3 ⟨r,rfl,hi,hb3⟩;clear k0 k1 k2 k3 k4 k5 ltk_1 n0 n1 n2 n3 n4 n5 n6 ltn_1;obtain ⟨HA0,hbx⟩:=aG hb3;replace Bk:=upK Bk hbx;replace Bn:=upK Bn hbx;have Bv:=ae HA0;replace HB:=upB HB hbx;clear hb3 hbx HA0;have HI:=ae hi;clear hi;cases r
   ·go_wp2;go_ret;refine ar.f (fun ⟨i,m,e1,e2,e3,e4⟩ => ?_) HB.out;obtain ⟨_,rfl⟩:=HN.out.inj e1 HX1.out (e2.trans HN1.out.symm);obtain ⟨v',e5,e6⟩:=e4 k t HXt.out;obtain rfl:=bu.inj HX.out HV.out HD.out e5;have:=HI.out.2 e6;cases this
   ·go_wp2_with fail;refine ⟨⟨k + 1,by omega,by go_num,fun j s hj hs => ?_,HB.out,Bk.out,Bn.out⟩,by simp [intOf];omega⟩;by_cases e : j = k
    ·subst e;rw [HXt.out] at hs;obtain rfl:=Option.some.inj hs;exact ⟨v,HD.out,HI.out.1 bS⟩
    ·exact HQ.out j s af hs
  ·exact wa

theorem yi (d : Ad) (c : Cl) (n : Nd) (pa : Option Addr) (pl pc : Nat) (w : World) (hr : aM w d c.raw) (hv : aJ Vd.n c.vs) (hp : ay w pa pl pc n.zs) :
  Calls Tryz.prog 145 #[.agg #[.slice d.a1 d.l1 d.c1,.slice d.a2 d.l2 d.c2,.slice d.a3 d.l3 d.c3,.slice d.a4 d.l4 d.c4,.slice d.a5 d.l5 d.c5,.int .i64 c.now],.agg #[.string n.n,.string n.z,.int .i64 n.c,.int .i64 n.s,.int .i64 n.u,.bool n.d,.slice pa pl pc]] w (ar (s_ c n) w):=by
 have HR:=ae hr;have HV:=ae hv;have HP:=ae hp;have hlc : pl ≤ 9223372036854775807:=Nat.le_trans hp.2.1 hp.2.2.1;have hzl : n.zs.length = pl:=hp.1;clear hr hv hp;go_enter Tryz.func145,Tryz.ntmps145;go_wp2;go_loopw [12] (fun i wr => ∃ k : Nat,k ≤ pl ∧ i = .int .i64 k ∧ Hid (∀ (j : Nat) t,j < k → n.zs[j]? = some t → ∃ (i : Nat) (v : Vd),c.vs[i]? = some v ∧ v.n = t ∧ (n.d = true ∨ InL v.zs n.n)) ∧ Hid (Below w.heap.size w wr) ∧ Hid (wr.heap[w.heap.size]? = some (.cells #[.slice d.a1 d.l1 d.c1,.slice d.a2 d.l2 d.c2,.slice d.a3 d.l3 d.c3,.slice d.a4 d.l4 d.c4,.slice d.a5 d.l5 d.c5,.int .i64 c.now] 37 (0,0))) ∧ Hid (wr.heap[w.heap.size + 1]? = some (.cells #[.string n.n,.string n.z,.int .i64 n.c,.int .i64 n.s,.int .i64 n.u,.bool n.d,.slice pa pl pc] 72 (0,0)))) (fun i _ => pl - (intOf i).toNat);case atStart => exact ⟨0,by omega,rfl,fun _ _ h => absurd h af,aF _ _ _,cK _ _ _,bK _ _ _⟩
 case round =>
  obtain ⟨k,hk,rfl,HQ,HB,Bk,Bn⟩:=hrel;by_cases hlt : k < pl
  ·obtain ⟨b,o,t,rfl,hb,hx,hc,hsz⟩:=(HP.out.below HB.out).at hlt;have HXt:=ae hx;clear hx hsz;obtain ⟨k0,k1,k2,k3,k4,k5⟩:=cs6 Bk.out;have ltk_0:=aa Bk.out;obtain ⟨n0,n1,n2,n3,n4,n5,n6⟩:=cs7 Bn.out;have ltn_0:=aa Bn.out;go_wp2_with fail;refine (dy d c.now c.vs t w _ HR.out.v HB.out).mono ?_;rintro e w2 ⟨hb2,hf⟩;clear k0 k1 k2 k3 k4 k5 ltk_0 n0 n1 n2 n3 n4 n5 n6 ltn_0;replace Bk:=upK Bk hb2;replace Bn:=upK Bn hb2;replace HB:=upB HB hb2;clear hb2;clear hb hc;rcases hf with ⟨hh,v,va,vl,vc,hx,hn,rfl,z0,z2,z3,z5,hvr⟩ | ⟨hh,rfl⟩;rotate_left
   ·have HH:=ae hh;clear hh;obtain ⟨k0,k1,k2,k3,k4,k5⟩:=cs6 Bk.out;have ltk_1:=aa Bk.out;obtain ⟨n0,n1,n2,n3,n4,n5,n6⟩:=cs7 Bn.out;have ltn_1:=aa Bn.out;go_wp2;go_ret;refine ar.f (fun h => ?_) (HB.out.alloc HB.out.size _);obtain ⟨i,v,e1,e2,_⟩:=h k t HXt.out;have:=(bU HV.out e1 e2).2;rw [HH.out] at this;cases this
   have HXv:=ae hx;have HNv:=ae hn;have HTv:=ae hvr;clear hx hn hh z0 z2 z3 z5 hvr;rcases Bool.eq_false_or_eq_true n.d with hd | hd
   ·have HD:=ae hd;clear hd;obtain ⟨k0,k1,k2,k3,k4,k5⟩:=cs6 Bk.out;have ltk_1:=aa Bk.out;obtain ⟨n0,n1,n2,n3,n4,-,n6⟩:=cs7 Bn.out;have ltn_1:=aa Bn.out;have n5 : w2.cell? ⟨w.heap.size + 1,5,none⟩ = some (.bool true):=(ah Bn.out 5).trans (congrArg (fun z => some (Value.bool z)) HD.out);go_wp2_with fail;refine ⟨⟨k + 1,by omega,by go_num,fun j s hj hs => ?_,(HB.out.alloc HB.out.size _),(Below.heap_alloc _ _ _ (aa Bk.out)).trans Bk.out,(Below.heap_alloc _ _ _ (aa Bn.out)).trans Bn.out⟩,by simp [intOf];omega⟩;by_cases e : j = k
    ·subst e;rw [HXt.out] at hs;obtain rfl:=Option.some.inj hs;exact ⟨_,v,HXv.out,HNv.out,.inl HD.out⟩
    ·exact HQ.out j s af hs
   ·have HD:=ae hd;clear hd;obtain ⟨k0,k1,k2,k3,k4,k5⟩:=cs6 Bk.out;have ltk_1:=aa Bk.out;obtain ⟨n0,n1,n2,n3,n4,-,n6⟩:=cs7 Bn.out;have ltn_1:=aa Bn.out;have n5 : w2.cell? ⟨w.heap.size + 1,5,none⟩ = some (.bool false):=(ah Bn.out 5).trans (congrArg (fun z => some (Value.bool z)) HD.out);go_wp2_with fail;refine (bP va vl vc v.zs n.n _ (HTv.out.below (HB.out.trans ((an _ _).mono HB.out.size)))).mono ?_;rintro e w3 ⟨r,rfl,hi,hb3⟩;clear k0 k1 k2 k3 k4 k5 ltk_1 n0 n1 n2 n3 n4 n6 ltn_1 n5;obtain ⟨HA0,hbx⟩:=aG hb3;replace Bk:=upK Bk hbx;replace Bn:=upK Bn hbx;have Bv:=ae HA0;replace HB:=upB HB hbx;clear hb3 hbx HA0;have HI:=ae hi;clear hi;cases r
    ·go_wp2;go_ret;refine ar.f (fun h => ?_) HB.out;obtain ⟨i,v',e1,e2,e3⟩:=h k t HXt.out;obtain ⟨_,rfl⟩:=HV.out.inj e1 HXv.out (e2.trans HNv.out.symm);rcases e3 with e3 | e3
     ·rw [HD.out] at e3;cases e3
     ·have:=HI.out.2 e3;cases this
    ·go_wp2_with fail;refine ⟨⟨k + 1,by omega,by go_num,fun j s hj hs => ?_,HB.out,Bk.out,Bn.out⟩,by simp [intOf];omega⟩;by_cases e : j = k
     ·subst e;rw [HXt.out] at hs;obtain rfl:=Option.some.inj hs;exact ⟨_,v,HXv.out,HNv.out,.inr (HI.out.1 bS)⟩
     ·exact HQ.out j s af hs
  ·exact w9

open Classical in
noncomputable def onOf (t : ByteArray) : List Vd → Int
 | [] => 0
 | v :: vs => (if InL v.zs t then 1 else 0) + onOf t vs
theorem dh (t : ByteArray) : ∀ vs us : List Vd,onOf t (vs ++ us) = onOf t vs + onOf t us
 | [],us => by simp [onOf]
 | v :: vs,us => by simp [onOf,dh t vs];omega
open Classical in
theorem gJ {t : ByteArray} {vs : List Vd} {k : Nat} {v : Vd} (h : vs[k]? = some v) : onOf t (vs.take (k + 1)) = onOf t (vs.take k) + (if InL v.zs t then 1 else 0):=by
 rw [List.take_add_one,h,dh];simp [onOf]

theorem jn (d : Ad) (now : Int) (vs : List Vd) (t : ByteArray) (w : World) (hr : aI w d.a3 d.l3 d.c3 8 (vs.map vdF)) (hl : vs.length ≤ 8) :
  Calls Tryz.prog 144 #[.agg #[.slice d.a1 d.l1 d.c1,.slice d.a2 d.l2 d.c2,.slice d.a3 d.l3 d.c3,.slice d.a4 d.l4 d.c4,.slice d.a5 d.l5 d.c5,.int .i64 now],.string t] w fun e w' => e = .returned (.int .i64 (onOf t vs)) ∧ Below w.heap.size w w':=by
 obtain ⟨a1,l1,y1,a2,l2,y2,a3,l3,y3,a4,l4,y4,a5,l5,y5⟩:=d;dsimp only at hr ⊢;have HR:=ae hr;have hxl : vs.length = l3:=cY
 clear hr;go_enter Tryz.func144,Tryz.ntmps144;go_wp2;go_loopw [5,11] (fun q i wr => ∃ (k : Nat) (s : Int),k ≤ l3 ∧ q = .int .i64 s ∧ i = .int .i64 k ∧ Hid (s = onOf t (vs.take k)) ∧ 0 ≤ s ∧ s ≤ k ∧ Hid (Below w.heap.size w wr)) (fun _ i _ => l3 - (intOf i).toNat);case atStart => exact ⟨0,0,by omega,rfl,rfl,rfl,by omega,by omega,an _ _⟩
 case round =>
  obtain ⟨k,s,hk,rfl,rfl,HS,hs0,hs1,HB⟩:=hrel;by_cases hlt : k < l3
  ·obtain ⟨b,o,v,rfl,hb,hx,hat⟩:=bC (HR.out.below HB.out) hlt;obtain ⟨va,vl,vc,hvr,z0,z2,z3,z5,c0,c1,c2,c3,c4,c5,c6,c7⟩:=aK hat;have HX:=ae hx;have HT:=ae hvr;clear hat hx z0 z2 z3 z5 hvr;go_wp2_with fail;refine (bP va vl vc v.zs t _ (HT.out.below (an _ _))).mono ?_;rintro e w1 ⟨r,rfl,hi,hb2⟩;obtain ⟨HA0,hbx⟩:=aG hb2;have Bv:=ae HA0;replace HB:=upB HB hbx;clear hb2 hbx HA0;have HI:=ae hi;clear hi hb c0 c1 c2 c3 c4 c5 c6 c7;cases r
   ·go_wp2;refine ⟨⟨k + 1,s,by omega,rfl,by go_num,?_,by omega,by omega,HB.out⟩,by simp [intOf];omega⟩;exact wL
   ·go_wp2;refine ⟨⟨k + 1,s + 1,by omega,by go_num,by go_num,?_,by omega,by omega,HB.out⟩,by simp [intOf];omega⟩;show _ = _;rw [gJ HX.out,if_pos (HI.out.1 bS),← HS.out]
  ·obtain rfl : l3 = k:=af
   exact p8

def PQ1 (c : Cl) (p : Pd) : Prop:=(∀ (j : Nat) t,p.zs[j]? = some t → hit Xd.n c.xs t = true) ∧ (p.d = ⟨#[]⟩ ∨ BD c p)
def PQ2 (c : Cl) (n : Nd) : Prop:=cpuOf n.n c.ps ≤ n.c
def PQ3 (c : Cl) (v : Vd) : Prop:=v.x = true → ¬ v.m = ⟨#[]⟩ → rT c v.m
def lX (c : Cl) : Prop:=(∀ (j : Nat) z,c.ps[j]? = some z → PQ1 c z) ∧ (∀ (j : Nat) z,c.ns[j]? = some z → PQ2 c z) ∧ (∀ (j : Nat) z,c.vs[j]? = some z → PQ3 c z)

theorem n_ (d : Ad) (c : Cl) (w : World) (hr : aM w d c.raw) (hn : aJ Nd.n c.ns) (hx : aJ Xd.n c.xs) (hv : aJ Vd.n c.vs) (hne : ∀ (j : Nat) v,c.vs[j]? = some v → ¬ v.n = ⟨#[]⟩) (hps8 : c.ps.length ≤ 8) (hpc : ∀ (j : Nat) p,c.ps[j]? = some p → 0 ≤ p.c ∧ p.c ≤ 1000000) (hG : ens w) :
  Calls Tryz.prog 88 #[.agg #[.slice d.a1 d.l1 d.c1,.slice d.a2 d.l2 d.c2,.slice d.a3 d.l3 d.c3,.slice d.a4 d.l4 d.c4,.slice d.a5 d.l5 d.c5,.int .i64 c.now]] w (ar (lX c) w):=by
 obtain ⟨a1,l1,y1,a2,l2,y2,a3,l3,y3,a4,l4,y4,a5,l5,y5⟩:=d;dsimp only;obtain ⟨HR,hl1,hm1,hl2,hm2,hl3,hm3,hl4,hm4,hl5,hm5⟩:=ew;clear hr;have HE:=ae hG;have HNR:=ae hn;have HXR:=ae hx;have HVR:=ae hv;have HNE:=ae hne;have HL5:=ae hps8;have HPC:=ae hpc;clear hn hx hv hne hps8 hpc hG;go_enter Tryz.func88,Tryz.ntmps88;go_wp2;go_loopw [12] (fun i wr => ∃ k : Nat,k ≤ l5 ∧ i = .int .i64 k ∧ Hid (∀ (j : Nat) z,j < k → c.ps[j]? = some z → PQ1 c z) ∧ Hid (Below w.heap.size w wr) ∧ Hid (wr.heap[w.heap.size]? = some (.cells #[.slice a1 l1 y1,.slice a2 l2 y2,.slice a3 l3 y3,.slice a4 l4 y4,.slice a5 l5 y5,.int .i64 c.now] 37 (0,0)))) (fun i _ => l5 - (intOf i).toNat);case atStart => exact ⟨0,by omega,rfl,fun _ _ h => absurd h af,an _ _,Array.getElem?_push_size⟩
 case round =>
  obtain ⟨k,hk,rfl,HQ,HB,Bk⟩:=hrel;by_cases hlt : k < l5
  ·obtain ⟨b,o,p,rfl,hb,hx,hat⟩:=bQ (HR.out.p.below HB.out) hlt;obtain ⟨va,vl,vc,hvr,z0,z2,z4,c0,c1,c2,c3,c4,c5⟩:=aU hat;have HXp:=ae hx;have HTp:=ae hvr;have HZp0:=ae z0;have HZp2:=ae z2;have HZp4:=ae z4;clear hat hx z0 z2 z4 hvr;obtain ⟨k0,k1,k2,k3,k4,k5⟩:=cs6 Bk.out;have ltk_0:=aa Bk.out;go_wp2_with fail;refine (ju ⟨a1,l1,y1,a2,l2,y2,a3,l3,y3,a4,l4,y4,(some ⟨b,o,none⟩),l5,y5⟩ c.now c.xs va vl vc p.zs _ (HR.out.x.below (HB.out.trans ((an _ _).mono HB.out.size))) (HTp.out.below (an _ _)) (HE.out.below (HB.out.trans ((an _ _).mono HB.out.size)))).mono ?_;rintro e w1 ⟨hb2,hf⟩;clear k0 k1 k2 k3 k4 k5 ltk_0;obtain ⟨HA0,hbx⟩:=aG hb2;replace Bk:=upK Bk hbx;have Br:=ae HA0;replace HTp:=ae (HTp.out.below hbx);replace HB:=upB HB hbx;clear hb2 hbx HA0;clear hb c0 c1 c2 c3 c4 c5;rcases hf with ⟨hh,rfl⟩ | ⟨hh,T,q,rfl⟩;rotate_left
   ·have HH:=ae hh;clear hh;obtain ⟨k0,k1,k2,k3,k4,k5⟩:=cs6 Bk.out;have ltk_1:=aa Bk.out;obtain ⟨r0,r1,r2,r3,r4,r5⟩:=cs6 Br.out;have ltr_1:=aa Br.out;go_wp2;go_ret;exact ar.f (fun h => HH.out (h.1 k p HXp.out).1) HB.out
   have HH:=ae hh;clear hh;by_cases he : p.d = ⟨#[]⟩
   ·have hq:=cA he;have HEm:=ae he;clear he;obtain ⟨k0,k1,k2,k3,k4,k5⟩:=cs6 Bk.out;have ltk_1:=aa Bk.out;obtain ⟨r0,r1,r2,r3,r4,r5⟩:=cs6 Br.out;have ltr_1:=aa Br.out;go_wp2_with fail;refine ⟨⟨k + 1,by omega,by go_num,fun j z hj hz => ?_,HB.out,Bk.out⟩,by simp [intOf];omega⟩;by_cases e : j = k
    ·subst e;rw [HXp.out] at hz;exact pE
    ·exact HQ.out j z af hz
   ·have hq:=aY he;have HEm:=ae he;clear he;obtain ⟨k0,k1,k2,k3,k4,k5⟩:=cs6 Bk.out;have ltk_1:=aa Bk.out;obtain ⟨r0,r1,r2,r3,r4,r5⟩:=cs6 Br.out;have ltr_1:=aa Br.out;go_wp2_with fail;refine (sF ⟨a1,l1,y1,a2,l2,y2,a3,l3,y3,a4,l4,y4,(some ⟨b,o,none⟩),l5,y5⟩ c p va vl vc _ (HR.out.below HB.out) HNR.out HXR.out HVR.out HNE.out HTp.out).mono ?_;rintro e w2 ⟨r,rfl,hi,hb3⟩;clear k0 k1 k2 k3 k4 k5 ltk_1 r0 r1 r2 r3 r4 r5 ltr_1;replace Bk:=upK Bk hb3;replace Br:=upK Br hb3;replace HTp:=ae (HTp.out.below hb3);replace HB:=upB HB hb3;clear hb3;have HI:=ae hi;clear hi;cases r
    ·go_wp2;go_ret;refine ar.f (fun h => ?_) HB.out;rcases (h.1 k p HXp.out).2 with h2 | h2
     ·exact HEm.out h2
     ·have:=HI.out.2 h2;cases this
    ·go_wp2_with fail;refine ⟨⟨k + 1,by omega,by go_num,fun j z hj hz => ?_,HB.out,Bk.out⟩,by simp [intOf];omega⟩;by_cases e : j = k
     ·subst e;rw [HXp.out] at hz;exact pM
     ·exact HQ.out j z af hz
  ·obtain rfl : l5 = k:=af
   have HQ1 : Hid (∀ (j : Nat) z,c.ps[j]? = some z → PQ1 c z):=fun j z hz => HQ.out j z cG hz;clear HQ;have kc : wr.cell? ⟨w.heap.size,0,none⟩ = some (.slice a1 l1 y1):=ah Bk.out 0;have kl : w.heap.size < wr.heap.size:=aa Bk.out;go_wp2;go_loopw [36] (fun i wr => ∃ k : Nat,k ≤ l1 ∧ i = .int .i64 k ∧ Hid (∀ (j : Nat) z,j < k → c.ns[j]? = some z → PQ2 c z) ∧ Hid (Below w.heap.size w wr) ∧ Hid (wr.heap[w.heap.size]? = some (.cells #[.slice a1 l1 y1,.slice a2 l2 y2,.slice a3 l3 y3,.slice a4 l4 y4,.slice a5 l5 y5,.int .i64 c.now] 37 (0,0)))) (fun i _ => l1 - (intOf i).toNat);case atStart => exact ⟨0,by omega,rfl,fun _ _ h => absurd h af,HB.out,Bk.out⟩
   case round =>
    obtain ⟨k,hk,rfl,HQ,HB,Bk⟩:=hrel;by_cases hlt : k < l1
    ·obtain ⟨b,o,n,rfl,hb,hx,hat⟩:=cn (HR.out.n.below HB.out) hlt;obtain ⟨va,vl,vc,hvr,z0,z1,c0,c1,c2,c3,c4,c5,c6⟩:=bc hat;obtain ⟨HXn,HTn,HZn0,HZn1⟩:=ki;clear hat hx z0 z1 hvr;obtain ⟨GK,GR,HW⟩:=AG;obtain ⟨k0,k1,k2,k3,k4,k5⟩:=sl6 GK;obtain ⟨r0,r1,r2,r3,r4,r5,r6⟩:=sl7 GR;have hne0:=Wd.ne (wr.alloc (.cells #[.string n.n,.string n.z,.int .i64 n.c,.int .i64 n.s,.int .i64 n.u,.bool n.d,.slice va vl vc] 72));have HC:=ae (fun q : Wd (wr.alloc (.cells #[.string n.n,.string n.z,.int .i64 n.c,.int .i64 n.s,.int .i64 n.u,.bool n.d,.slice va vl vc] 72)) => fZ ⟨(some ⟨b,o,none⟩),l1,y1,a2,l2,y2,a3,l3,y3,a4,l4,y4,a5,l5,y5⟩ c.now c.ps n.n q.w (HR.out.p.below (HW.out.trans (q.b.mono HW.out.size))) HL5.out HPC.out);go_wp2_with fail;refine aj av av ?_;repeat (go_big_quiet_step (first | (go_at_call 142;exact Calls.wide (HC.out _)) | fail))
     refine wpQuiet_nil ?_;rintro _ ⟨q,rfl⟩;have HB2:=upB HW q.b;have Bk2:=upK GK q.b;clear HC hne0 k0 k1 k2 k3 k4 k5 r0 r1 r2 r3 r4 r5 r6 c0 c1 c2 c3 c4 c5 c6 hb HB Bk HW GK GR;have HB:=HB2;have Bk:=Bk2;clear HB2 Bk2;by_cases hq : cpuOf n.n c.ps ≤ n.c
     ·exact xC
     ·have HQ2:=ae hq;go_wp2;go_ret;exact ar.f (fun h => by have h1 : cpuOf n.n c.ps ≤ n.c:=(h.2.1 k n HXn.out);have h2:=HQ2.out;omega) HB.out
    ·obtain rfl : l1 = k:=af
     have HQ2 : Hid (∀ (j : Nat) z,c.ns[j]? = some z → PQ2 c z):=fun j z hz => HQ.out j z cG hz;clear HQ;have kc : wr.cell? ⟨w.heap.size,2,none⟩ = some (.slice a3 l3 y3):=ah Bk.out 2;have kl : w.heap.size < wr.heap.size:=aa Bk.out;go_wp2;go_loopw [51] (fun i wr => ∃ k : Nat,k ≤ l3 ∧ i = .int .i64 k ∧ Hid (∀ (j : Nat) z,j < k → c.vs[j]? = some z → PQ3 c z) ∧ Hid (Below w.heap.size w wr) ∧ Hid (wr.heap[w.heap.size]? = some (.cells #[.slice a1 l1 y1,.slice a2 l2 y2,.slice a3 l3 y3,.slice a4 l4 y4,.slice a5 l5 y5,.int .i64 c.now] 37 (0,0)))) (fun i _ => l3 - (intOf i).toNat);case atStart => exact ⟨0,by omega,rfl,fun _ _ h => absurd h af,HB.out,Bk.out⟩
     case round =>
      obtain ⟨k,hk,rfl,HQ,HB,Bk⟩:=hrel;by_cases hlt : k < l3
      ·obtain ⟨b,o,v,rfl,hb,hx,hat⟩:=bC (HR.out.v.below HB.out) hlt;obtain ⟨va,vl,vc,hvr,z0,z2,z3,z5,c0,c1,c2,c3,c4,c5,c6,c7⟩:=aK hat;obtain ⟨HXv,HTv,HZv0,HZv2,HZv3,HZv5⟩:=kj;clear hat hx z0 z2 z3 z5 hvr;have hcase : (v.x = false ∨ v.m = ⟨#[]⟩) ∨ (v.x = true ∧ ¬ v.m = ⟨#[]⟩):=by
        rcases Bool.eq_false_or_eq_true v.x with h | h
        ·by_cases e : v.m = ⟨#[]⟩
         ·exact .inl (.inr e)
         ·exact .inr ⟨h,e⟩
        ·exact .inl (.inl h)
       rcases hcase with hcase | ⟨hs,he⟩
       ·have HCs:=ae hcase;rcases hcase with hs | he
        ·exact v_
        ·have hq:=cA he;clear he;rcases Bool.eq_false_or_eq_true v.x with hs | hs
         ·exact v_
         ·exact v_
       ·have hq:=aY he;have HEm:=ae he;have HSi:=ae hs;rw [hs] at c4;clear he hs;obtain ⟨k0,k1,k2,k3,k4,k5⟩:=cs6 Bk.out;have ltk_0:=aa Bk.out;go_wp2_with fail;refine (yh ⟨a1,l1,y1,a2,l2,y2,(some ⟨b,o,none⟩),l3,y3,a4,l4,y4,a5,l5,y5⟩ c v.m _ (HR.out.below (HB.out.trans ((an _ _).mono HB.out.size)))).mono ?_;rintro e w2 ⟨r,rfl,hi,hb3⟩;clear k0 k1 k2 k3 k4 k5 ltk_0;obtain ⟨HA0,hbx⟩:=aG hb3;replace Bk:=upK Bk hbx;have Br:=ae HA0;replace HB:=upB HB hbx;clear hb3 hbx HA0;have HI:=ae hi;clear hi hb c0 c1 c2 c3 c4 c5 c6 c7;cases r
        ·go_wp2;go_ret;exact ar.f (fun h => by have:=HI.out.2 ((h.2.2 k v HXv.out) HSi.out HEm.out);cases this) HB.out
        ·go_wp2_with fail;refine ⟨⟨k + 1,by omega,by go_num,fun j z hj hz => ?_,HB.out,Bk.out⟩,by simp [intOf];omega⟩;by_cases e : j = k
         ·subst e;rw [HXv.out] at hz;obtain rfl:=Option.some.inj hz;exact fun _ _ => HI.out.1 bS
         ·exact HQ.out j z af hz
      ·obtain rfl : l3 = k:=af
       have HQ3 : Hid (∀ (j : Nat) z,c.vs[j]? = some z → PQ3 c z):=fun j z hz => HQ.out j z cG hz;clear HQ;go_wp2;go_ret;exact ar.t ⟨HQ1.out,HQ2.out,HQ3.out⟩ HB.out

def AQ1 (c : Cl) (v : Vd) : Prop:=∀ (j : Nat) t,v.zs[j]? = some t → ∃ (i : Nat) (n : Nd),c.ns[i]? = some n ∧ n.n = t ∧ n.z = v.z
def AQ2 (c : Cl) (n : Nd) : Prop:=onOf n.n c.vs ≤ n.s
def kU (c : Cl) : Prop:=(∀ (j : Nat) z,c.vs[j]? = some z → AQ1 c z) ∧ (∀ (j : Nat) z,c.ns[j]? = some z → AQ2 c z)

theorem jZ (d : Ad) (c : Cl) (w : World) (hr : aM w d c.raw) (hn : aJ Nd.n c.ns) (hvs8 : c.vs.length ≤ 8) :
  Calls Tryz.prog 89 #[.agg #[.slice d.a1 d.l1 d.c1,.slice d.a2 d.l2 d.c2,.slice d.a3 d.l3 d.c3,.slice d.a4 d.l4 d.c4,.slice d.a5 d.l5 d.c5,.int .i64 c.now]] w (ar (kU c) w):=by
 obtain ⟨a1,l1,y1,a2,l2,y2,a3,l3,y3,a4,l4,y4,a5,l5,y5⟩:=d;dsimp only;obtain ⟨HR,hl1,hm1,hl2,hm2,hl3,hm3,hl4,hm4,hl5,hm5⟩:=ew;clear hr;have HNR:=ae hn;have HL3:=ae hvs8;clear hn hvs8;go_enter Tryz.func89,Tryz.ntmps89;go_wp2;go_loopw [14] (fun i wr => ∃ k : Nat,k ≤ l3 ∧ i = .int .i64 k ∧ Hid (∀ (j : Nat) z,j < k → c.vs[j]? = some z → AQ1 c z) ∧ Hid (Below w.heap.size w wr) ∧ Hid (wr.heap[w.heap.size]? = some (.cells #[.slice a1 l1 y1,.slice a2 l2 y2,.slice a3 l3 y3,.slice a4 l4 y4,.slice a5 l5 y5,.int .i64 c.now] 37 (0,0)))) (fun i _ => l3 - (intOf i).toNat);case atStart => exact ⟨0,by omega,rfl,fun _ _ h => absurd h af,an _ _,Array.getElem?_push_size⟩
 case round =>
  obtain ⟨k,hk,rfl,HQ,HB,Bk⟩:=hrel;by_cases hlt : k < l3
  ·obtain ⟨b,o,v,rfl,hb,hx,hat⟩:=bC (HR.out.v.below HB.out) hlt;obtain ⟨va,vl,vc,hvr,z0,z2,z3,z5,c0,c1,c2,c3,c4,c5,c6,c7⟩:=aK hat;obtain ⟨HXv,HTv,HZv0,HZv2,HZv3,HZv5⟩:=kj;clear hat hx z0 z2 z3 z5 hvr;have hvl:=HTv.out.1;have hvc : vl ≤ 9223372036854775807:=Nat.le_trans HTv.out.2.1 HTv.out.2.2.1;have HVL:=ae hvl;clear hvl;have KV:=ae ((Below.heap_alloc wr (.cells #[.string v.n,.int .i64 v.c,.string v.z,.string v.k,.bool v.x,.string v.m,.bool v.y,.slice va vl vc] 118) _ (aa Bk.out)).trans Bk.out);obtain ⟨GV,BV⟩:=AF;have TV:=ae (HTv.out.below (an wr (.cells #[.string v.n,.int .i64 v.c,.string v.z,.string v.k,.bool v.x,.string v.m,.bool v.y,.slice va vl vc] 118)));obtain ⟨W,hW⟩ : ∃ W,W = wr.alloc (.cells #[.string v.n,.int .i64 v.c,.string v.z,.string v.k,.bool v.x,.string v.m,.bool v.y,.slice va vl vc] 118):=⟨_,rfl⟩;obtain ⟨gb,hgb⟩ : ∃ gb,gb = wr.heap.size:=⟨_,rfl⟩;rw [← hW] at KV GV BV TV;rw [← hgb] at GV;go_wp2;rw [← hW,← hgb];clear hW hgb HB Bk HTv c0 c1 c2 c3 c4 c5 c6 c7 hb;go_loopw [21] (fun i wr => ∃ kq : Nat,kq ≤ vl ∧ i = .int .i64 kq ∧ Hid (∀ (j : Nat) t,j < kq → v.zs[j]? = some t → ∃ (i : Nat) (n : Nd),c.ns[i]? = some n ∧ n.n = t ∧ n.z = v.z) ∧ Hid (Below W.heap.size W wr)) (fun i _ => vl - (intOf i).toNat);case atStart => exact ⟨0,by omega,rfl,fun _ _ h => absurd h af,Below.refl _ _⟩
   case round =>
    obtain ⟨kq,hkq,rfl,HQ2,HBW⟩:=hrel;obtain ⟨HB,Bk⟩:=m8;have Bv:=upK GV HBW.out;by_cases hlt2 : kq < vl
    ·obtain ⟨b2,o2,t,rfl,hb,hx,hc,hsz⟩:=(TV.out.below HBW.out).at hlt2;have HXt:=ae hx;clear hx hsz;obtain ⟨k0,k1,k2,k3,k4,k5⟩:=cs6 Bk.out;have ltk_0:=aa Bk.out;obtain ⟨v0,v1,v2,v3,v4,v5,v6,v7⟩:=cs8 Bv.out;have ltv_0:=aa Bv.out;go_wp2_with fail;refine (eO ⟨a1,l1,y1,a2,l2,y2,(some ⟨b,o,none⟩),l3,y3,a4,l4,y4,a5,l5,y5⟩ c.now c.ns t w _ HR.out.n HB.out).mono ?_;rintro e w1 ⟨hb2,hf⟩;have HBW1:=upB HBW hb2;clear k0 k1 k2 k3 k4 k5 ltk_0 v0 v1 v2 v3 v4 v5 v6 v7 ltv_0;replace Bk:=upK Bk hb2;replace Bv:=upK Bv hb2;replace HB:=upB HB hb2;clear hb2;clear hb hc;rcases hf with ⟨hh,m,ma,ml,mc,hx,hn,rfl,z0,z1,hmr⟩ | ⟨hh,rfl⟩;rotate_left
     ·have HH:=ae hh;clear hh;obtain ⟨k0,k1,k2,k3,k4,k5⟩:=cs6 Bk.out;have ltk_1:=aa Bk.out;obtain ⟨v0,v1,v2,v3,v4,v5,v6,v7⟩:=cs8 Bv.out;have ltv_1:=aa Bv.out;go_wp2;go_ret;refine ar.f (fun h => ?_) (HB.out.alloc HB.out.size _);obtain ⟨i,m,e1,e2,_⟩:=(h.1 k v HXv.out) kq t HXt.out;have:=(bU HNR.out e1 e2).2;rw [HH.out] at this;cases this
     have HXm:=ae hx;have HNm:=ae hn;clear hx hn hh z0 z1 hmr;by_cases hz : m.z = v.z
     ·have q1:=aV hz;have HZ:=ae hz;clear hz;obtain ⟨k0,k1,k2,k3,k4,k5⟩:=cs6 Bk.out;have ltk_1:=aa Bk.out;obtain ⟨v0,v1,v2,v3,v4,v5,v6,v7⟩:=cs8 Bv.out;have ltv_1:=aa Bv.out;go_wp2_with fail;refine ⟨⟨kq + 1,by omega,by go_num,fun j s hj hs => ?_,HBW1.out.alloc HBW1.out.size _⟩,by simp [intOf];omega⟩;by_cases e : j = kq
      ·subst e;rw [HXt.out] at hs;obtain rfl:=Option.some.inj hs;exact ⟨_,m,HXm.out,HNm.out,HZ.out⟩
      ·exact HQ2.out j s af hs
     ·have q1:=bo hz;have HZ:=ae hz;clear hz;obtain ⟨k0,k1,k2,k3,k4,k5⟩:=cs6 Bk.out;have ltk_1:=aa Bk.out;obtain ⟨v0,v1,v2,v3,v4,v5,v6,v7⟩:=cs8 Bv.out;have ltv_1:=aa Bv.out;go_wp2;go_ret;refine ar.f (fun h => ?_) (HB.out.alloc HB.out.size _);obtain ⟨i,m2,e1,e2,e3⟩:=(h.1 k v HXv.out) kq t HXt.out;obtain ⟨_,rfl⟩:=HNR.out.inj e1 HXm.out (e2.trans HNm.out.symm);exact HZ.out e3
    ·exact AW
  ·obtain rfl : l3 = k:=af
   have HQ1 : Hid (∀ (j : Nat) z,c.vs[j]? = some z → AQ1 c z):=fun j z hz => HQ.out j z cG hz;clear HQ;have kc : wr.cell? ⟨w.heap.size,0,none⟩ = some (.slice a1 l1 y1):=ah Bk.out 0;have kl : w.heap.size < wr.heap.size:=aa Bk.out;go_wp2;go_loopw [45] (fun i wr => ∃ k : Nat,k ≤ l1 ∧ i = .int .i64 k ∧ Hid (∀ (j : Nat) z,j < k → c.ns[j]? = some z → AQ2 c z) ∧ Hid (Below w.heap.size w wr) ∧ Hid (wr.heap[w.heap.size]? = some (.cells #[.slice a1 l1 y1,.slice a2 l2 y2,.slice a3 l3 y3,.slice a4 l4 y4,.slice a5 l5 y5,.int .i64 c.now] 37 (0,0)))) (fun i _ => l1 - (intOf i).toNat);case atStart => exact ⟨0,by omega,rfl,fun _ _ h => absurd h af,HB.out,Bk.out⟩
   case round =>
    obtain ⟨k,hk,rfl,HQ,HB,Bk⟩:=hrel;by_cases hlt : k < l1
    ·obtain ⟨b,o,n,rfl,hb,hx,hat⟩:=cn (HR.out.n.below HB.out) hlt;obtain ⟨va,vl,vc,hvr,z0,z1,c0,c1,c2,c3,c4,c5,c6⟩:=bc hat;obtain ⟨HXn,HTn,HZn0,HZn1⟩:=ki;clear hat hx z0 z1 hvr;obtain ⟨GK,GR,HW⟩:=AG;obtain ⟨k0,k1,k2,k3,k4,k5⟩:=sl6 GK;obtain ⟨r0,r1,r2,r3,r4,r5,r6⟩:=sl7 GR;have hne0:=Wd.ne (wr.alloc (.cells #[.string n.n,.string n.z,.int .i64 n.c,.int .i64 n.s,.int .i64 n.u,.bool n.d,.slice va vl vc] 72));have HC:=ae (fun q : Wd (wr.alloc (.cells #[.string n.n,.string n.z,.int .i64 n.c,.int .i64 n.s,.int .i64 n.u,.bool n.d,.slice va vl vc] 72)) => jn ⟨(some ⟨b,o,none⟩),l1,y1,a2,l2,y2,a3,l3,y3,a4,l4,y4,a5,l5,y5⟩ c.now c.vs n.n q.w (HR.out.v.below (HW.out.trans (q.b.mono HW.out.size))) HL3.out);go_wp2_with fail;refine aj av av ?_;repeat (go_big_quiet_step (first | (go_at_call 144;exact Calls.wide (HC.out _)) | fail))
     refine wpQuiet_nil ?_;rintro _ ⟨q,rfl⟩;have HB2:=upB HW q.b;have Bk2:=upK GK q.b;clear HC hne0 k0 k1 k2 k3 k4 k5 r0 r1 r2 r3 r4 r5 r6 c0 c1 c2 c3 c4 c5 c6 hb HB Bk HW GK GR;have HB:=HB2;have Bk:=Bk2;clear HB2 Bk2;by_cases hq : onOf n.n c.vs ≤ n.s
     ·exact xC
     ·have HQ2:=ae hq;go_wp2;go_ret;exact ar.f (fun h => by have h1 : onOf n.n c.vs ≤ n.s:=(h.2 k n HXn.out);have h2:=HQ2.out;omega) HB.out
    ·obtain rfl : l1 = k:=af
     have HQ2 : Hid (∀ (j : Nat) z,c.ns[j]? = some z → AQ2 c z):=fun j z hz => HQ.out j z cG hz;exact lG

def MQ2 (c : Cl) (p : Pd) : Prop:=p.p = 2 → Dm c p
def jz (c : Cl) : Prop:=(∀ (j : Nat) z,c.ns[j]? = some z → s_ c z) ∧ (∀ (j : Nat) z,c.ps[j]? = some z → MQ2 c z)

theorem lR (d : Ad) (c : Cl) (w : World) (hr : aM w d c.raw) (hn : aJ Nd.n c.ns) (hx : aJ Xd.n c.xs) (hv : aJ Vd.n c.vs) (hne : ∀ (j : Nat) v,c.vs[j]? = some v → ¬ v.n = ⟨#[]⟩) :
  Calls Tryz.prog 90 #[.agg #[.slice d.a1 d.l1 d.c1,.slice d.a2 d.l2 d.c2,.slice d.a3 d.l3 d.c3,.slice d.a4 d.l4 d.c4,.slice d.a5 d.l5 d.c5,.int .i64 c.now]] w (ar (jz c) w):=by
 obtain ⟨a1,l1,y1,a2,l2,y2,a3,l3,y3,a4,l4,y4,a5,l5,y5⟩:=d;dsimp only;obtain ⟨HR,hl1,hm1,hl2,hm2,hl3,hm3,hl4,hm4,hl5,hm5⟩:=ew;clear hr;have HNR:=ae hn;have HXR:=ae hx;have HVR:=ae hv;have HNE:=ae hne;clear hn hx hv hne;go_enter Tryz.func90,Tryz.ntmps90;go_wp2;go_loopw [10] (fun i wr => ∃ k : Nat,k ≤ l1 ∧ i = .int .i64 k ∧ Hid (∀ (j : Nat) z,j < k → c.ns[j]? = some z → s_ c z) ∧ Hid (Below w.heap.size w wr) ∧ Hid (wr.heap[w.heap.size]? = some (.cells #[.slice a1 l1 y1,.slice a2 l2 y2,.slice a3 l3 y3,.slice a4 l4 y4,.slice a5 l5 y5,.int .i64 c.now] 37 (0,0)))) (fun i _ => l1 - (intOf i).toNat);case atStart => exact ⟨0,by omega,rfl,fun _ _ h => absurd h af,an _ _,Array.getElem?_push_size⟩
 case round =>
  obtain ⟨k,hk,rfl,HQ,HB,Bk⟩:=hrel;by_cases hlt : k < l1
  ·obtain ⟨b,o,n,rfl,hb,hx,hat⟩:=cn (HR.out.n.below HB.out) hlt;obtain ⟨va,vl,vc,hvr,z0,z1,c0,c1,c2,c3,c4,c5,c6⟩:=bc hat;obtain ⟨HXn,HTn,HZn0,HZn1⟩:=ki;clear hat hx z0 z1 hvr;obtain ⟨k0,k1,k2,k3,k4,k5⟩:=cs6 Bk.out;have ltk_0:=aa Bk.out;go_wp2_with fail;refine (yi ⟨(some ⟨b,o,none⟩),l1,y1,a2,l2,y2,a3,l3,y3,a4,l4,y4,a5,l5,y5⟩ c n va vl vc _ (HR.out.below (HB.out.trans ((an _ _).mono HB.out.size))) HVR.out (HTn.out.below (an _ _))).mono ?_;rintro e w2 ⟨r,rfl,hi,hb3⟩;clear k0 k1 k2 k3 k4 k5 ltk_0;obtain ⟨HA0,hbx⟩:=aG hb3;replace Bk:=upK Bk hbx;have Br:=ae HA0;replace HB:=upB HB hbx;clear hb3 hbx HA0;have HI:=ae hi;clear hi hb c0 c1 c2 c3 c4 c5 c6;cases r
   ·go_wp2;go_ret;exact ar.f (fun h => by have:=HI.out.2 (h.1 k n HXn.out);cases this) HB.out
   ·go_wp2_with fail;refine ⟨⟨k + 1,by omega,by go_num,fun j z hj hz => ?_,HB.out,Bk.out⟩,by simp [intOf];omega⟩;by_cases e : j = k
    ·subst e;rw [HXn.out] at hz;obtain rfl:=Option.some.inj hz;exact HI.out.1 bS
    ·exact HQ.out j z af hz
  ·obtain rfl : l1 = k:=af
   have HQ1 : Hid (∀ (j : Nat) z,c.ns[j]? = some z → s_ c z):=fun j z hz => HQ.out j z cG hz;clear HQ;have kc : wr.cell? ⟨w.heap.size,4,none⟩ = some (.slice a5 l5 y5):=ah Bk.out 4;have kl : w.heap.size < wr.heap.size:=aa Bk.out;go_wp2;go_loopw [22] (fun i wr => ∃ k : Nat,k ≤ l5 ∧ i = .int .i64 k ∧ Hid (∀ (j : Nat) z,j < k → c.ps[j]? = some z → MQ2 c z) ∧ Hid (Below w.heap.size w wr) ∧ Hid (wr.heap[w.heap.size]? = some (.cells #[.slice a1 l1 y1,.slice a2 l2 y2,.slice a3 l3 y3,.slice a4 l4 y4,.slice a5 l5 y5,.int .i64 c.now] 37 (0,0)))) (fun i _ => l5 - (intOf i).toNat);case atStart => exact ⟨0,by omega,rfl,fun _ _ h => absurd h af,HB.out,Bk.out⟩
   case round =>
    obtain ⟨k,hk,rfl,HQ,HB,Bk⟩:=hrel;by_cases hlt : k < l5
    ·obtain ⟨b,o,p,rfl,hb,hx,hat⟩:=bQ (HR.out.p.below HB.out) hlt;obtain ⟨va,vl,vc,hvr,z0,z2,z4,c0,c1,c2,c3,c4,c5⟩:=aU hat;have HXp:=ae hx;have HTp:=ae hvr;have HZp0:=ae z0;have HZp2:=ae z2;have HZp4:=ae z4;clear hat hx z0 z2 z4 hvr;by_cases hp2 : p.p = 2;rotate_left
     ·have HP2:=ae hp2;obtain ⟨k0,k1,k2,k3,k4,k5⟩:=cs6 Bk.out;have ltk_0:=aa Bk.out;go_wp2;refine ⟨⟨k + 1,by omega,by go_num,fun j z hj hz => ?_,(HB.out.alloc HB.out.size _),(Below.heap_alloc _ _ _ (aa Bk.out)).trans Bk.out⟩,by simp [intOf];omega⟩;exact w8
     have HP2:=ae hp2;rw [hp2] at c5;clear hp2;obtain ⟨k0,k1,k2,k3,k4,k5⟩:=cs6 Bk.out;have ltk_0:=aa Bk.out;go_wp2_with fail;have HCall:=ae (ye ⟨a1,l1,y1,a2,l2,y2,a3,l3,y3,a4,l4,y4,(some ⟨b,o,none⟩),l5,y5⟩ c p va vl vc (wr.alloc (.cells #[.string p.n,.int .i64 p.c,.string p.z,.slice va vl vc,.string p.d,.int .i64 2] 65)) (HR.out.below (HB.out.trans ((an _ _).mono HB.out.size))) HNR.out HXR.out HVR.out HNE.out (HTp.out.below (an _ _)));rw [HP2.out] at HCall;refine (HCall.out).mono ?_;rintro e w2 ⟨r,rfl,hi,hb3⟩;clear k0 k1 k2 k3 k4 k5 ltk_0;obtain ⟨HA0,hbx⟩:=aG hb3;replace Bk:=upK Bk hbx;have Br:=ae HA0;replace HB:=upB HB hbx;clear hb3 hbx HA0;have HI:=ae hi;clear hi hb HCall c0 c1 c2 c3 c4 c5;cases r
     ·go_wp2;go_ret;exact ar.f (fun h => by have:=HI.out.2 ((h.2 k p HXp.out) HP2.out);cases this) HB.out
     ·go_wp2_with fail;refine ⟨⟨k + 1,by omega,by go_num,fun j z hj hz => ?_,HB.out,Bk.out⟩,by simp [intOf];omega⟩;by_cases e : j = k
      ·subst e;rw [HXp.out] at hz;obtain rfl:=Option.some.inj hz;exact fun _ => HI.out.1 bS
      ·exact HQ.out j z af hz
    ·obtain rfl : l5 = k:=af
     have HQ2 : Hid (∀ (j : Nat) z,c.ps[j]? = some z → MQ2 c z):=fun j z hz => HQ.out j z cG hz;exact lG

def cC (c : Cl) : Prop:=dE nQ Nd.n c.ns 6 ∧ dE qu Kd.n c.ks 8 ∧ dE oB Vd.n c.vs 8 ∧ dE oq Xd.n c.xs 8 ∧ dE qf Pd.n c.ps 8
def aC (c : Cl) : Prop:=Inn c.now 0 1000000 ∧ cC c ∧ qW c ∧ lX c ∧ kU c ∧ jz c

theorem sI (d : Ad) (c : Cl) (w : World) (hr : aM w d c.raw) :
  Calls Tryz.prog 86 #[.agg #[.slice d.a1 d.l1 d.c1,.slice d.a2 d.l2 d.c2,.slice d.a3 d.l3 d.c3,.slice d.a4 d.l4 d.c4,.slice d.a5 d.l5 d.c5,.int .i64 c.now]] w (ar (cC c) w):=by
 obtain ⟨HR,HB⟩:=hQ;clear hr;go_enter Tryz.func86,Tryz.ntmps86;go_wp2_with fail;refine (oR _ _ _ c.ns 6 _ (HR.out.n.below (HB.out.trans ((an _ _).mono HB.out.size)))).mono ?_;rintro e w1 ⟨r,rfl,hi,hb⟩;obtain ⟨HA0,hbx⟩:=aG hb;have Bk:=ae HA0;replace HB:=upB HB hbx;clear hb hbx HA0;have HI1:=ae hi;clear hi;cases r
 ·exact p_
 obtain ⟨k0,k1,k2,k3,k4,k5⟩:=cs6 Bk.out;have ltk_1:=aa Bk.out;go_wp2_with fail;refine (oS _ _ _ c.ks 8 _ (HR.out.k.below HB.out)).mono ?_;rintro e w2 ⟨r,rfl,hi,hb⟩;clear k0 k1 k2 k3 k4 k5 ltk_1;replace Bk:=upK Bk hb;replace HB:=upB HB hb;clear hb;have HI2:=ae hi;clear hi;cases r
 ·exact uy
 obtain ⟨k0,k1,k2,k3,k4,k5⟩:=cs6 Bk.out;have ltk_2:=aa Bk.out;go_wp2_with fail;refine (oP _ _ _ c.vs 8 _ (HR.out.v.below HB.out)).mono ?_;rintro e w3 ⟨r,rfl,hi,hb⟩;clear k0 k1 k2 k3 k4 k5 ltk_2;replace Bk:=upK Bk hb;replace HB:=upB HB hb;clear hb;have HI3:=ae hi;clear hi;cases r
 ·exact xe
 obtain ⟨k0,k1,k2,k3,k4,k5⟩:=cs6 Bk.out;have ltk_3:=aa Bk.out;go_wp2_with fail;refine (oO _ _ _ c.xs 8 _ (HR.out.x.below HB.out)).mono ?_;rintro e w4 ⟨r,rfl,hi,hb⟩;clear k0 k1 k2 k3 k4 k5 ltk_3;replace Bk:=upK Bk hb;replace HB:=upB HB hb;clear hb;have HI4:=ae hi;clear hi;cases r
 ·exact xg
 obtain ⟨k0,k1,k2,k3,k4,k5⟩:=cs6 Bk.out;have ltk_4:=aa Bk.out;go_wp2_with fail;refine (oQ _ _ _ c.ps 8 _ (HR.out.p.below HB.out)).mono ?_;rintro e w5 ⟨r,rfl,hi,hb⟩;clear k0 k1 k2 k3 k4 k5 ltk_4;replace Bk:=upK Bk hb;replace HB:=upB HB hb;clear hb;have HI5:=ae hi;clear hi;cases r
 ·obtain ⟨k0,k1,k2,k3,k4,k5⟩:=cs6 Bk.out;have ltk_5:=aa Bk.out;go_wp2;go_ret;exact ar.f (fun h => by have:=HI5.out.2 h.2.2.2.2;cases this) HB.out
 go_wp2;go_ret;exact ar.t ⟨HI1.out.1 bS,HI2.out.1 bS,HI3.out.1 bS,HI4.out.1 bS,HI5.out.1 bS⟩ HB.out

theorem cC.ne {c : Cl} (h : cC c) (j : Nat) (v : Vd) (hv : c.vs[j]? = some v) : ¬ v.n = ⟨#[]⟩:=fun e => by
 have h1:=(h.2.2.1.2.1 j v hv).1.1;rw [e] at h1;exact absurd h1 al
theorem cC.D1 {c : Cl} (h : cC c) (j : Nat) (p : Pd) (hp : c.ps[j]? = some p) : 0 ≤ p.c ∧ p.c ≤ 1000000:=(h.2.2.2.2.2.1 j p hp).2.1

theorem qA (d : Ad) (c : Cl) (w : World) (hr : aM w d c.raw) (hG : ens w) :
  Calls Tryz.prog 44 #[.agg #[.slice d.a1 d.l1 d.c1,.slice d.a2 d.l2 d.c2,.slice d.a3 d.l3 d.c3,.slice d.a4 d.l4 d.c4,.slice d.a5 d.l5 d.c5,.int .i64 c.now]] w (ar (aC c) w):=by
 obtain ⟨HR,HE,HB⟩:=mY;clear hr hG;go_enter Tryz.func44,Tryz.ntmps44;go_wp2_with fail;refine (bO c.now 0 1000000 _).mono ?_;rintro e w1 ⟨r,rfl,hi,hw⟩;have hb : Below (w.alloc (.cells #[.slice d.a1 d.l1 d.c1,.slice d.a2 d.l2 d.c2,.slice d.a3 d.l3 d.c3,.slice d.a4 d.l4 d.c4,.slice d.a5 d.l5 d.c5,.int .i64 c.now] 37)).heap.size (w.alloc (.cells #[.slice d.a1 d.l1 d.c1,.slice d.a2 d.l2 d.c2,.slice d.a3 d.l3 d.c3,.slice d.a4 d.l4 d.c4,.slice d.a5 d.l5 d.c5,.int .i64 c.now] 37)) w1:=by first | (rw [hw];exact Below.refl _ _) | (rw [← hw];exact Below.refl _ _)
 clear hw;obtain ⟨HA0,hbx⟩:=aG hb;have Bk:=ae HA0;replace HB:=upB HB hbx;clear hb hbx HA0;have HI1:=ae hi;clear hi;cases r
 ·exact p_
 obtain ⟨k0,k1,k2,k3,k4,k5⟩:=cs6 Bk.out;have ltk_1:=aa Bk.out;go_wp2_with fail;refine (sI d c _ (HR.out.below HB.out)).mono ?_;rintro e w2 ⟨r,rfl,hi,hb⟩;clear k0 k1 k2 k3 k4 k5 ltk_1;replace Bk:=upK Bk hb;replace HB:=upB HB hb;clear hb;have HI2:=ae hi;clear hi;cases r
 ·exact uy
 have HOK:=ae (HI2.out.1 bS);obtain ⟨k0,k1,k2,k3,k4,k5⟩:=cs6 Bk.out;have ltk_2:=aa Bk.out;go_wp2_with fail;refine (qI d c _ (HR.out.below HB.out) HOK.out.2.2.2.1.2.2 HOK.out.2.2.1.2.2 (HE.out.below HB.out)).mono ?_;rintro e w3 ⟨r,rfl,hi,hb⟩;clear k0 k1 k2 k3 k4 k5 ltk_2;replace Bk:=upK Bk hb;replace HB:=upB HB hb;clear hb;have HI3:=ae hi;clear hi;cases r
 ·exact xe
 obtain ⟨k0,k1,k2,k3,k4,k5⟩:=cs6 Bk.out;have ltk_3:=aa Bk.out;go_wp2_with fail;refine (n_ d c _ (HR.out.below HB.out) HOK.out.1.2.2 HOK.out.2.2.2.1.2.2 HOK.out.2.2.1.2.2 HOK.out.ne (by have:=HOK.out.2.2.2.2.1;omega) HOK.out.D1 (HE.out.below HB.out)).mono ?_;rintro e w4 ⟨r,rfl,hi,hb⟩;clear k0 k1 k2 k3 k4 k5 ltk_3;replace Bk:=upK Bk hb;replace HB:=upB HB hb;clear hb;have HI4:=ae hi;clear hi;cases r
 ·exact xg
 obtain ⟨k0,k1,k2,k3,k4,k5⟩:=cs6 Bk.out;have ltk_4:=aa Bk.out;go_wp2_with fail;refine (jZ d c _ (HR.out.below HB.out) HOK.out.1.2.2 (by have:=HOK.out.2.2.1.1;omega)).mono ?_;rintro e w5 ⟨r,rfl,hi,hb⟩;clear k0 k1 k2 k3 k4 k5 ltk_4;replace Bk:=upK Bk hb;replace HB:=upB HB hb;clear hb;have HI5:=ae hi;clear hi;cases r
 ·exact xi
 obtain ⟨k0,k1,k2,k3,k4,k5⟩:=cs6 Bk.out;have ltk_5:=aa Bk.out;go_wp2_with fail;refine (lR d c _ (HR.out.below HB.out) HOK.out.1.2.2 HOK.out.2.2.2.1.2.2 HOK.out.2.2.1.2.2 HOK.out.ne).mono ?_;rintro e w6 ⟨r,rfl,hi,hb⟩;clear k0 k1 k2 k3 k4 k5 ltk_5;replace Bk:=upK Bk hb;replace HB:=upB HB hb;clear hb;have HI6:=ae hi;clear hi;cases r
 ·exact xh
 go_wp2;go_ret;exact ar.t ⟨HI1.out.1 bS,HI2.out.1 bS,HI3.out.1 bS,HI4.out.1 bS,HI5.out.1 bS,HI6.out.1 bS⟩ HB.out

theorem cQ (a : Option Addr) (len cap : Nat) (zs : List ByteArray) (t : ByteArray) (w : World) (hr : ay w a len cap zs) :
  Calls Tryz.prog 116 #[.slice a len cap,.string t] w (ar (InL zs t) w):=by
 have HR:=ae hr;obtain ⟨hlc,hzl⟩:=rp;clear hr;go_enter Tryz.func116,Tryz.ntmps116;go_wp2;go_loop [5] (fun i => ∃ k : Nat,k ≤ len ∧ i = .int .i64 k ∧ Hid (∀ (j : Nat) x,j < k → zs[j]? = some x → ¬ x = t)) (fun i => len - (intOf i).toNat);case atStart => exact ⟨0,by omega,rfl,fun _ _ h => absurd h af⟩
 case round =>
  obtain ⟨k,hk,rfl,HE⟩:=hrel;by_cases hlt : k < len
  ·obtain ⟨b,o,x,rfl,hb,hx,hc,hsz⟩:=HR.out.at hlt;have HX:=ae hx;clear hx;by_cases hn : x = t
   ·have hq:=aV hn;have HN:=ae hn;clear hn;go_wp2;go_ret;exact ar.t ⟨k,by rw [HX.out,HN.out]⟩ (Below.refl _ _)
   ·have hq:=bo hn;have HN:=ae hn;clear hn;go_wp2;refine ⟨⟨k + 1,by omega,by go_num,fun j z hj hz => ?_⟩,by simp [intOf];omega⟩;exact vM
  ·obtain rfl : len = k:=af
   go_wp2;go_ret;exact ar.f (fun ⟨j,hj⟩ => HE.out j t mT hj rfl) (Below.refl _ _)

theorem iO (d : Ad) (now : Int) (xs : List Nd) (t : ByteArray) (w : World) (hr : aI w d.a1 d.l1 d.c1 7 (xs.map ndF)) (hs : aJ Nd.n xs) {j : Nat} {x : Nd} (hx : xs[j]? = some x) (hn : x.n = t) :
  Calls Tryz.prog 23 #[.agg #[.slice d.a1 d.l1 d.c1,.slice d.a2 d.l2 d.c2,.slice d.a3 d.l3 d.c3,.slice d.a4 d.l4 d.c4,.slice d.a5 d.l5 d.c5,.int .i64 now],.string t] w fun e w' => e = .returned (.int .i64 j) ∧ Below w.heap.size w w':=by
 refine (eA d now xs t w hr).mono ?_;exact rD
theorem sh (d : Ad) (now : Int) (xs : List Nd) (t : ByteArray) (w : World) (hr : aI w d.a1 d.l1 d.c1 7 (xs.map ndF)) (hn : ∀ (j : Nat) x,xs[j]? = some x → ¬ x.n = t) :
  Calls Tryz.prog 23 #[.agg #[.slice d.a1 d.l1 d.c1,.slice d.a2 d.l2 d.c2,.slice d.a3 d.l3 d.c3,.slice d.a4 d.l4 d.c4,.slice d.a5 d.l5 d.c5,.int .i64 now],.string t] w fun e w' => e = .returned (.int .i64 (-1)) ∧ Below w.heap.size w w':=by
 refine (eA d now xs t w hr).mono ?_;exact rA

theorem dA (d : Ad) (now : Int) (xs : List Kd) (t : ByteArray) (w : World) (hr : aI w d.a2 d.l2 d.c2 4 (xs.map kdF)) (hs : aJ Kd.n xs) {j : Nat} {x : Kd} (hx : xs[j]? = some x) (hn : x.n = t) :
  Calls Tryz.prog 111 #[.agg #[.slice d.a1 d.l1 d.c1,.slice d.a2 d.l2 d.c2,.slice d.a3 d.l3 d.c3,.slice d.a4 d.l4 d.c4,.slice d.a5 d.l5 d.c5,.int .i64 now],.string t] w fun e w' => e = .returned (.int .i64 j) ∧ Below w.heap.size w w':=by
 refine (my d now xs t w hr).mono ?_;exact rD
theorem j7 (d : Ad) (now : Int) (xs : List Kd) (t : ByteArray) (w : World) (hr : aI w d.a2 d.l2 d.c2 4 (xs.map kdF)) (hn : ∀ (j : Nat) x,xs[j]? = some x → ¬ x.n = t) :
  Calls Tryz.prog 111 #[.agg #[.slice d.a1 d.l1 d.c1,.slice d.a2 d.l2 d.c2,.slice d.a3 d.l3 d.c3,.slice d.a4 d.l4 d.c4,.slice d.a5 d.l5 d.c5,.int .i64 now],.string t] w fun e w' => e = .returned (.int .i64 (-1)) ∧ Below w.heap.size w w':=by
 refine (my d now xs t w hr).mono ?_;exact rA

theorem iM (d : Ad) (now : Int) (xs : List Vd) (t : ByteArray) (w : World) (hr : aI w d.a3 d.l3 d.c3 8 (xs.map vdF)) (hs : aJ Vd.n xs) {j : Nat} {x : Vd} (hx : xs[j]? = some x) (hn : x.n = t) :
  Calls Tryz.prog 112 #[.agg #[.slice d.a1 d.l1 d.c1,.slice d.a2 d.l2 d.c2,.slice d.a3 d.l3 d.c3,.slice d.a4 d.l4 d.c4,.slice d.a5 d.l5 d.c5,.int .i64 now],.string t] w fun e w' => e = .returned (.int .i64 j) ∧ Below w.heap.size w w':=by
 refine (iN d now xs t w hr).mono ?_;exact rD
theorem gw (d : Ad) (now : Int) (xs : List Vd) (t : ByteArray) (w : World) (hr : aI w d.a3 d.l3 d.c3 8 (xs.map vdF)) (hn : ∀ (j : Nat) x,xs[j]? = some x → ¬ x.n = t) :
  Calls Tryz.prog 112 #[.agg #[.slice d.a1 d.l1 d.c1,.slice d.a2 d.l2 d.c2,.slice d.a3 d.l3 d.c3,.slice d.a4 d.l4 d.c4,.slice d.a5 d.l5 d.c5,.int .i64 now],.string t] w fun e w' => e = .returned (.int .i64 (-1)) ∧ Below w.heap.size w w':=by
 refine (iN d now xs t w hr).mono ?_;exact rA

theorem ez (d : Ad) (now : Int) (xs : List Xd) (t : ByteArray) (w : World) (hr : aI w d.a4 d.l4 d.c4 5 (xs.map xdF)) (hs : aJ Xd.n xs) {j : Nat} {x : Xd} (hx : xs[j]? = some x) (hn : x.n = t) :
  Calls Tryz.prog 110 #[.agg #[.slice d.a1 d.l1 d.c1,.slice d.a2 d.l2 d.c2,.slice d.a3 d.l3 d.c3,.slice d.a4 d.l4 d.c4,.slice d.a5 d.l5 d.c5,.int .i64 now],.string t] w fun e w' => e = .returned (.int .i64 j) ∧ Below w.heap.size w w':=by
 refine (fE d now xs t w hr).mono ?_;exact rD
theorem eQ (d : Ad) (now : Int) (xs : List Xd) (t : ByteArray) (w : World) (hr : aI w d.a4 d.l4 d.c4 5 (xs.map xdF)) (hn : ∀ (j : Nat) x,xs[j]? = some x → ¬ x.n = t) :
  Calls Tryz.prog 110 #[.agg #[.slice d.a1 d.l1 d.c1,.slice d.a2 d.l2 d.c2,.slice d.a3 d.l3 d.c3,.slice d.a4 d.l4 d.c4,.slice d.a5 d.l5 d.c5,.int .i64 now],.string t] w fun e w' => e = .returned (.int .i64 (-1)) ∧ Below w.heap.size w w':=by
 refine (fE d now xs t w hr).mono ?_;exact rA

def Di (c : Cl) (t : ByteArray) (w : World) (e : Ending) (w' : World) : Prop :=
 Below w.heap.size w w' ∧ ((∃ (j : Nat) (v : Vd),c.vs[j]? = some v ∧ bu c t v ∧ e = .returned (.int .i64 j)) ∨ ((∀ v,¬ bu c t v) ∧ e = .returned (.int .i64 (-1))))

theorem eV (d : Ad) (c : Cl) (t : ByteArray) (w : World) (hr : aM w d c.raw) (hx : aJ Xd.n c.xs) (hv : aJ Vd.n c.vs) (hne : ∀ (j : Nat) v,c.vs[j]? = some v → ¬ v.n = ⟨#[]⟩) :
  Calls Tryz.prog 113 #[.agg #[.slice d.a1 d.l1 d.c1,.slice d.a2 d.l2 d.c2,.slice d.a3 d.l3 d.c3,.slice d.a4 d.l4 d.c4,.slice d.a5 d.l5 d.c5,.int .i64 c.now],.string t] w (Di c t w):=by
 obtain ⟨a1,l1,y1,a2,l2,y2,a3,l3,y3,a4,l4,y4,a5,l5,y5⟩:=d;dsimp only;obtain ⟨HR,hl1,hm1,hl2,hm2,hl3,hm3,hl4,hm4,hl5,hm5⟩:=ew;clear hr;obtain ⟨HX,HV,HNE⟩:=hE;have HB:=ae (Below.refl w.heap.size w);clear hx hv hne;go_enter Tryz.func113,Tryz.ntmps113;go_wp2_with fail;refine (fE ⟨a1,l1,y1,a2,l2,y2,a3,l3,y3,a4,l4,y4,a5,l5,y5⟩ c.now c.xs t _ (HR.out.x.below (an _ _))).mono ?_;rintro e w1 ⟨hb,hf⟩;obtain ⟨HA0,hbx⟩:=aG hb;have Bk:=ae HA0;replace HB:=upB HB hbx;clear hb hbx HA0;rcases hf with ⟨j,x,hx,hn,rfl⟩ | ⟨hh,rfl⟩;rotate_left
 ·have HH:=ae hh;clear hh;obtain ⟨k0,k1,k2,k3,k4,k5⟩:=cs6 Bk.out;have ltk_1:=aa Bk.out;go_wp2;go_ret;exact ⟨HB.out,.inr ⟨fun v ⟨i,j,x,e1,e2,_⟩ => HH.out i x e1 e2,rfl⟩⟩
 have hj : j < l4:=by have h1:=(List.getElem?_eq_some_iff.1 hx).1;omega
 obtain ⟨b,o,y,rfl,hbb,hy,hat⟩:=de HR.out.x hj;rw [hx] at hy;obtain rfl:=Option.some.inj hy;obtain ⟨z0,z2,z4,c0,c1,c2,c3,c4⟩:=bB hat;have HX1:=ae hx;have HN1:=ae hn;have e4:=(ak HB.out hbb).trans c4;have hb1 : b < w1.heap.size:=Nat.lt_of_lt_of_le hbb HB.out.size;have hj0 : (0 : Int) ≤ j:=af
 clear hx hn hy hat z0 z2 z4 c0 c1 c2 c3;by_cases he : x.v = ⟨#[]⟩
 ·have hq:=cA he;have HEm:=ae he;clear he;obtain ⟨k0,k1,k2,k3,k4,k5⟩:=cs6 Bk.out;have ltk_1:=aa Bk.out;go_wp2;go_ret;refine ⟨HB.out,.inr ⟨fun v ⟨i,j2,x2,e1,e2,e3,e5⟩ => ?_,rfl⟩⟩;obtain ⟨_,rfl⟩:=HX.out.inj e1 HX1.out (e2.trans HN1.out.symm);exact HNE.out j2 v e3 (e5.trans HEm.out)
 ·have hq:=aY he;have HEm:=ae he;clear he;obtain ⟨k0,k1,k2,k3,k4,k5⟩:=cs6 Bk.out;have ltk_1:=aa Bk.out;go_wp2_with fail;by_cases hf : ∃ (j2 : Nat) (v : Vd),c.vs[j2]? = some v ∧ v.n = x.v
  ·obtain ⟨j2,v,h1,h2⟩:=hf;have HF1:=ae h1;have HF2:=ae h2;clear h1 h2;clear k0 k1 k2 k3 k4 k5 ltk_1;have Gk:=Bk;have HW:=HB;obtain ⟨k0,k1,k2,k3,k4,k5⟩:=sl6 Gk;have e4w:=fun q : Wd w1 => (q.cell hb1).trans e4;have hne0:=Wd.ne w1;have HC0:=ae (fun q : Wd w1 => iM ⟨a1,l1,y1,a2,l2,y2,a3,l3,y3,(some ⟨b,o,none⟩),l4,y4,a5,l5,y5⟩ c.now c.vs x.v q.w (HR.out.v.below (HW.out.trans (q.b.mono HW.out.size))) HV.out HF1.out HF2.out);go_wp2_with fail;refine aj av av ?_;repeat (go_big_quiet_step (first | (go_at_call 112;exact Calls.wide (HC0.out _)) | fail))
   refine wpQuiet_nil ?_;rintro _ ⟨q,rfl⟩;have HB2:=upB HW q.b;have Ck:=upK Gk q.b;clear hne0 HW HB HC0 k0 k1 k2 k3 k4 k5 e4w Gk Bk;have HB:=HB2;clear HB2;have Bk:=Ck;clear Ck;go_wp2_with fail;go_ret;exact ⟨HB.out,.inl ⟨j2,v,HF1.out,⟨_,_,x,HX1.out,HN1.out,HF1.out,HF2.out⟩,rfl⟩⟩
  ·have HF:=ae hf;clear hf;clear k0 k1 k2 k3 k4 k5 ltk_1;have Gk:=Bk;have HW:=HB;obtain ⟨k0,k1,k2,k3,k4,k5⟩:=sl6 Gk;have e4w:=fun q : Wd w1 => (q.cell hb1).trans e4;have hne0:=Wd.ne w1;have HC0:=ae (fun q : Wd w1 => gw ⟨a1,l1,y1,a2,l2,y2,a3,l3,y3,(some ⟨b,o,none⟩),l4,y4,a5,l5,y5⟩ c.now c.vs x.v q.w (HR.out.v.below (HW.out.trans (q.b.mono HW.out.size))) (fun j2 v h1 h2 => HF.out ⟨j2,v,h1,h2⟩));go_wp2_with fail;refine aj av av ?_;repeat (go_big_quiet_step (first | (go_at_call 112;exact Calls.wide (HC0.out _)) | fail))
   refine wpQuiet_nil ?_;rintro _ ⟨q,rfl⟩;have HB2:=upB HW q.b;have Ck:=upK Gk q.b;clear hne0 HW HB HC0 k0 k1 k2 k3 k4 k5 e4w Gk Bk;have HB:=HB2;clear HB2;have Bk:=Ck;clear Ck;go_wp2_with fail;go_ret;refine ⟨HB.out,.inr ⟨fun v ⟨i,j2,x2,e1,e2,e3,e5⟩ => ?_,rfl⟩⟩;obtain ⟨_,rfl⟩:=HX.out.inj e1 HX1.out (e2.trans HN1.out.symm);exact HF.out ⟨j2,v,e3,e5⟩

theorem eU (d : Ad) (c : Cl) (t : ByteArray) (w : World) (hr : aM w d c.raw) (hx : aJ Xd.n c.xs) (hv : aJ Vd.n c.vs) (hne : ∀ (j : Nat) v,c.vs[j]? = some v → ¬ v.n = ⟨#[]⟩) {j : Nat} {v : Vd} (hj : c.vs[j]? = some v) (hb : bu c t v) :
  Calls Tryz.prog 113 #[.agg #[.slice d.a1 d.l1 d.c1,.slice d.a2 d.l2 d.c2,.slice d.a3 d.l3 d.c3,.slice d.a4 d.l4 d.c4,.slice d.a5 d.l5 d.c5,.int .i64 c.now],.string t] w fun e w' => e = .returned (.int .i64 j) ∧ Below w.heap.size w w':=by
 refine (eV d c t w hr hx hv hne).mono ?_;rintro e w' ⟨hw,h⟩;rcases h with ⟨i,u,h1,h2,rfl⟩ | ⟨h1,rfl⟩
 ·obtain rfl:=bu.inj hx hv h2 hb;obtain ⟨rfl,_⟩:=hv.inj h1 hj rfl;exact ⟨rfl,hw⟩
 ·exact absurd hb (h1 v)
theorem ft (d : Ad) (c : Cl) (t : ByteArray) (w : World) (hr : aM w d c.raw) (hx : aJ Xd.n c.xs) (hv : aJ Vd.n c.vs) (hne : ∀ (j : Nat) v,c.vs[j]? = some v → ¬ v.n = ⟨#[]⟩) (hb : ∀ v,¬ bu c t v) :
  Calls Tryz.prog 113 #[.agg #[.slice d.a1 d.l1 d.c1,.slice d.a2 d.l2 d.c2,.slice d.a3 d.l3 d.c3,.slice d.a4 d.l4 d.c4,.slice d.a5 d.l5 d.c5,.int .i64 c.now],.string t] w fun e w' => e = .returned (.int .i64 (-1)) ∧ Below w.heap.size w w':=by
 refine (eV d c t w hr hx hv hne).mono ?_;rintro e w' ⟨hw,h⟩;rcases h with ⟨i,u,h1,h2,rfl⟩ | ⟨h1,rfl⟩
 ·exact absurd h2 (hb u)
 ·exact ⟨rfl,hw⟩
theorem bu.at {c : Cl} {t : ByteArray} {v : Vd} (h : bu c t v) : ∃ j : Nat,c.vs[j]? = some v:=by
 obtain ⟨_,j,_,_,_,h,_⟩:=h;exact ⟨j,h⟩

theorem j8 (d : Ad) (now : Int) (ps : List Pd) (t : ByteArray) (w : World) (hr : aI w d.a5 d.l5 d.c5 6 (ps.map pdF)) (hl : ps.length ≤ 8) (hp : ∀ (j : Nat) p,ps[j]? = some p → 0 ≤ p.c ∧ p.c ≤ 1000000) :
  Calls Tryz.prog 65 #[.agg #[.slice d.a1 d.l1 d.c1,.slice d.a2 d.l2 d.c2,.slice d.a3 d.l3 d.c3,.slice d.a4 d.l4 d.c4,.slice d.a5 d.l5 d.c5,.int .i64 now],.string t] w fun e w' => e = .returned (.int .i64 (cpuOf t ps)) ∧ Below w.heap.size w w':=by
 obtain ⟨a1,l1,y1,a2,l2,y2,a3,l3,y3,a4,l4,y4,a5,l5,y5⟩:=d;dsimp only at hr ⊢;have HR:=ae hr;have hxl : ps.length = l5:=cY
 have HP:=ae hp;clear hr hp;go_enter Tryz.func65,Tryz.ntmps65;go_wp2;go_loopw [5,6] (fun q i wr => ∃ (k : Nat) (s : Int),k ≤ l5 ∧ q = .int .i64 s ∧ i = .int .i64 k ∧ Hid (s = cpuOf t (ps.take k)) ∧ 0 ≤ s ∧ s ≤ k * 1000000 ∧ wr = w.alloc (.cells #[.slice a1 l1 y1,.slice a2 l2 y2,.slice a3 l3 y3,.slice a4 l4 y4,.slice a5 l5 y5,.int .i64 now] 37)) (fun _ i _ => l5 - (intOf i).toNat);case atStart => exact ⟨0,0,by omega,rfl,rfl,rfl,by omega,by omega,rfl⟩
 case round =>
  obtain ⟨k,s,hk,rfl,rfl,HS,hs0,hs1,rfl⟩:=hrel;by_cases hlt : k < l5
  ·obtain ⟨b,o,p,rfl,hb,hx,hat⟩:=bQ HR.out hlt;obtain ⟨va,vl,vc,hvr,z0,z2,z4,c0,c1,c2,c3,c4,c5⟩:=aU hat;have HX:=ae hx;have hpc:=HP.out k p hx;clear hat hx z0 z2 z4 hvr;by_cases hn : p.d = t
   ·have hq:=aV hn;have HN:=ae hn;clear hn;go_wp2;refine ⟨⟨k + 1,s + p.c,by omega,by go_num,by go_num,?_,by omega,by omega,by first | rfl | trivial⟩,by simp [intOf];omega⟩;show _ = _;rw [eg HX.out,if_pos HN.out,← HS.out]
   ·have hq:=bo hn;have HN:=ae hn;clear hn;go_wp2;refine ⟨⟨k + 1,s,by omega,rfl,by go_num,?_,by omega,by omega,by first | rfl | trivial⟩,by simp [intOf];omega⟩;show _ = _;rw [eg HX.out,if_neg HN.out,← HS.out,Int.add_zero]
  ·obtain rfl : l5 = k:=af
   go_wp2;go_ret;exact ⟨congrArg (fun z => Ending.returned (.int .i64 z)) (HS.out.trans (by rw [List.take_of_length_le af])),an _ _⟩

theorem yY (d : Ad) (now : Int) (vs : List Vd) (t : ByteArray) (w : World) (hr : aI w d.a3 d.l3 d.c3 8 (vs.map vdF)) (hl : vs.length ≤ 8) :
  Calls Tryz.prog 115 #[.agg #[.slice d.a1 d.l1 d.c1,.slice d.a2 d.l2 d.c2,.slice d.a3 d.l3 d.c3,.slice d.a4 d.l4 d.c4,.slice d.a5 d.l5 d.c5,.int .i64 now],.string t] w fun e w' => e = .returned (.int .i64 (onOf t vs)) ∧ Below w.heap.size w w':=by
 obtain ⟨a1,l1,y1,a2,l2,y2,a3,l3,y3,a4,l4,y4,a5,l5,y5⟩:=d;dsimp only at hr ⊢;have HR:=ae hr;have hxl : vs.length = l3:=cY
 clear hr;go_enter Tryz.func115,Tryz.ntmps115;go_wp2;go_loopw [5,6] (fun q i wr => ∃ (k : Nat) (s : Int),k ≤ l3 ∧ q = .int .i64 s ∧ i = .int .i64 k ∧ Hid (s = onOf t (vs.take k)) ∧ 0 ≤ s ∧ s ≤ k ∧ Hid (Below w.heap.size w wr) ∧ Hid (wr.heap[w.heap.size]? = some (.cells #[.slice a1 l1 y1,.slice a2 l2 y2,.slice a3 l3 y3,.slice a4 l4 y4,.slice a5 l5 y5,.int .i64 now] 37 (0,0)))) (fun _ i _ => l3 - (intOf i).toNat);case atStart => exact ⟨0,0,by omega,rfl,rfl,rfl,by omega,by omega,an _ _,Array.getElem?_push_size⟩
 case round =>
  obtain ⟨k,s,hk,rfl,rfl,HS,hs0,hs1,HB,Bk⟩:=hrel;have kk : wr.cell? ⟨w.heap.size,2,none⟩ = some (.slice a3 l3 y3):=ah Bk.out 2;by_cases hlt : k < l3
  ·obtain ⟨b,o,v,rfl,hb,hx,hat⟩:=bC (HR.out.below HB.out) hlt;obtain ⟨va,vl,vc,hvr,z0,z2,z3,z5,c0,c1,c2,c3,c4,c5,c6,c7⟩:=aK hat;have HX:=ae hx;have HT:=ae hvr;clear hat hx z0 z2 z3 z5 hvr;go_wp2_with fail;refine (cQ va vl vc v.zs t _ HT.out).mono ?_;rintro e w1 ⟨r,rfl,hi,hb2⟩;replace Bk:=upK Bk hb2;replace HB:=upB HB hb2;clear hb2;have HI:=ae hi;clear hi hb kk c0 c1 c2 c3 c4 c5 c6 c7;cases r
   ·go_wp2;refine ⟨⟨k + 1,s,by omega,rfl,by go_num,?_,by omega,by omega,HB.out,Bk.out⟩,by simp [intOf];omega⟩;exact wL
   ·go_wp2;refine ⟨⟨k + 1,s + 1,by omega,by go_num,by go_num,?_,by omega,by omega,HB.out,Bk.out⟩,by simp [intOf];omega⟩;show _ = _;rw [gJ HX.out,if_pos (HI.out.1 bS),← HS.out]
  ·obtain rfl : l3 = k:=af
   exact p8

def kR (c : Cl) (p q : Pd) : Prop:=p.d = ⟨#[]⟩ ∨ q.d = ⟨#[]⟩ ∨ p.d = q.d ∨ ∀ (j : Nat) t,p.zs[j]? = some t → ∀ v,bu c t v → v.x = true → ¬ InL q.zs t

theorem eR (d : Ad) (c : Cl) (p q : Pd) (pa : Option Addr) (pl pc : Nat) (qa : Option Addr) (ql qc : Nat) (w : World) (hr : aM w d c.raw) (hx : aJ Xd.n c.xs) (hv : aJ Vd.n c.vs) (hne : ∀ (j : Nat) v,c.vs[j]? = some v → ¬ v.n = ⟨#[]⟩) (hp : ay w pa pl pc p.zs) (hq : ay w qa ql qc q.zs) :
  Calls Tryz.prog 114 #[.agg #[.slice d.a1 d.l1 d.c1,.slice d.a2 d.l2 d.c2,.slice d.a3 d.l3 d.c3,.slice d.a4 d.l4 d.c4,.slice d.a5 d.l5 d.c5,.int .i64 c.now],.agg #[.string p.n,.int .i64 p.c,.string p.z,.slice pa pl pc,.string p.d,.int .i64 p.p],.agg #[.string q.n,.int .i64 q.c,.string q.z,.slice qa ql qc,.string q.d,.int .i64 q.p]] w (ar (kR c p q) w):=by
 obtain ⟨a1,l1,y1,a2,l2,y2,a3,l3,y3,a4,l4,y4,a5,l5,y5⟩:=d;dsimp only;obtain ⟨HR,hl1,hm1,hl2,hm2,hl3,hm3,hl4,hm4,hl5,hm5⟩:=ew;clear hr;obtain ⟨HX,HV,HNE⟩:=hE;have HP:=ae hp;have HQ0:=ae hq;obtain ⟨hlc,hzl⟩:=rn;clear hx hv hne hp hq;by_cases hp0 : p.d = ⟨#[]⟩
 ·have e1:=cA hp0;have HH:=ae hp0;clear hp0;go_enter Tryz.func114,Tryz.ntmps114;go_wp2;go_ret;exact ar.t (.inl HH.out) (br _ _ _ _)
 by_cases hq0 : q.d = ⟨#[]⟩
 ·have e1:=aY hp0;have e2:=cA hq0;have HH:=ae hq0;clear hp0 hq0;go_enter Tryz.func114,Tryz.ntmps114;go_wp2;go_ret;exact ar.t (.inr (.inl HH.out)) (br _ _ _ _)
 by_cases hpq : p.d = q.d
 ·have e1:=aY hp0;have e2:=aY hq0;have e3:=aV hpq;have HH:=ae hpq;clear hp0 hq0 hpq;go_enter Tryz.func114,Tryz.ntmps114;go_wp2;go_ret;exact ar.t (.inr (.inr (.inl HH.out))) (br _ _ _ _)
 have e1:=aY hp0;have e2:=aY hq0;have e3:=bo hpq;have HP0:=ae hp0;have HQ1:=ae hq0;have HPQ:=ae hpq;clear hp0 hq0 hpq;go_enter Tryz.func114,Tryz.ntmps114;go_wp2;clear e1 e2 e3;go_loopw [7] (fun i wr => ∃ k : Nat,k ≤ pl ∧ i = .int .i64 k ∧ Hid (∀ (j : Nat) t,j < k → p.zs[j]? = some t → ∀ v,bu c t v → v.x = true → ¬ InL q.zs t) ∧ Hid (Below w.heap.size w wr) ∧ Hid (wr.heap[w.heap.size]? = some (.cells #[.slice a1 l1 y1,.slice a2 l2 y2,.slice a3 l3 y3,.slice a4 l4 y4,.slice a5 l5 y5,.int .i64 c.now] 37 (0,0))) ∧ Hid (wr.heap[w.heap.size + 1]? = some (.cells #[.string p.n,.int .i64 p.c,.string p.z,.slice pa pl pc,.string p.d,.int .i64 p.p] 65 (0,0))) ∧ Hid (wr.heap[w.heap.size + 1 + 1]? = some (.cells #[.string q.n,.int .i64 q.c,.string q.z,.slice qa ql qc,.string q.d,.int .i64 q.p] 65 (0,0)))) (fun i _ => pl - (intOf i).toNat);case atStart => exact ⟨0,by omega,rfl,fun _ _ h => absurd h af,br _ _ _ _,dJ _ _ _ _,db _ _ _ _,cz _ _ _ _⟩
 case round =>
  obtain ⟨k,hk,rfl,HQ,HB,Bk,Bx,By⟩:=hrel;have px3 : wr.cell? ⟨w.heap.size + 1,3,none⟩ = some (.slice pa pl pc):=ah Bx.out 3;by_cases hlt : k < pl
  ·obtain ⟨b,o,t,rfl,hb,hxt,hc,hsz⟩:=HP.out.at hlt;have HXt:=ae hxt;have hcw:=(ak HB.out hb).trans hc;have hbw : b < wr.heap.size:=Nat.lt_of_lt_of_le hb HB.out.size;clear hxt hsz;have hcase : (∃ v,bu c t v) ∨ (∀ v,¬ bu c t v):=by
    exact xA
   rcases hcase with ⟨v,hbd⟩ | hbd
   ·obtain ⟨j3,hj3⟩:=hbd.at;have hl3' : j3 < l3:=by have h1:=(List.getElem?_eq_some_iff.1 hj3).1;omega
    obtain ⟨b3,o3,v',rfl,hb3,hv',hat⟩:=bC HR.out.v hl3';rw [hj3] at hv';obtain rfl:=Option.some.inj hv';obtain ⟨va,vl,vc,hvr,z0,z2,z3,z5,c0,c1,c2,c3,c4,c5,c6,c7⟩:=aK hat;have HJ:=ae hj3;have HD:=ae hbd;have hcv:=(ak HB.out hb3).trans c4;have hbv : b3 < wr.heap.size:=Nat.lt_of_lt_of_le hb3 HB.out.size;have hj0 : (0 : Int) ≤ j3:=af
    clear hv' hat hvr z0 z2 z3 z5 c0 c1 c2 c3 c4 c5 c6 c7 hj3 hbd;have Gk:=Bk;have Gx:=Bx;have Gy:=By;have HW:=HB;obtain ⟨k0,k1,k2,k3,k4,k5⟩:=sl6 Gk;have x3:=fun q : Wd wr => q.slot (o:=3) Gx.out rfl;have tw:=fun q : Wd wr => (q.cell hbw).trans hcw;have hne0:=Wd.ne wr;have HC0:=ae (fun q : Wd wr => eU ⟨a1,l1,y1,a2,l2,y2,(some ⟨b3,o3,none⟩),l3,y3,a4,l4,y4,a5,l5,y5⟩ c t q.w (HR.out.below (HW.out.trans (q.b.mono HW.out.size))) HX.out HV.out HNE.out HJ.out HD.out);go_wp2_with fail;refine aj av av ?_;repeat (go_big_quiet_step (first | (go_at_call 113;exact Calls.wide (HC0.out _)) | fail))
    refine wpQuiet_nil ?_;rintro _ ⟨q1,rfl⟩;obtain ⟨HB1,Ck⟩:=cH;have Cx:=upK Gx q1.b;have Cy:=upK Gy q1.b;clear hne0 HW HB HC0 k0 k1 k2 k3 k4 k5 x3 tw Gk Gx Gy Bk Bx By px3;have HB:=HB1;clear HB1;have Bk:=Ck;clear Ck;have Bx:=Cx;clear Cx;have By:=Cy;clear Cy;have hcw1:=(q1.cell hbw).trans hcw;have hbw1 : b < q1.w.heap.size:=Nat.lt_of_lt_of_le hbw q1.b.size;have hcv1:=(q1.cell hbv).trans hcv;have hbv1 : b3 < q1.w.heap.size:=Nat.lt_of_lt_of_le hbv q1.b.size;clear hcw hbw hcv hbv;rcases Bool.eq_false_or_eq_true v.x with hs | hs;rotate_left
    ·have HSi:=ae hs;rw [hs] at hcv1;clear hs;obtain ⟨Gk,Gx,Gy,HW,k2,x3,y3,tw,vw,hne0⟩:=uv;go_wp2_with fail;refine aj av av ?_;repeat (go_big_quiet_step (first | fail))
     refine wpQuiet_nil ?_;rintro _ ⟨q2,rfl⟩;obtain ⟨HB2,Ck⟩:=dq;have Cx:=upK Gx q2.b;have Cy:=upK Gy q2.b;clear hne0 HW HB k2 x3 y3 tw vw Gk Gx Gy Bk Bx By;have HB:=HB2;clear HB2;have Bk:=Ck;clear Ck;have Bx:=Cx;clear Cx;have By:=Cy;clear Cy;go_wp2_with fail;refine ⟨⟨k + 1,by omega,by go_num,fun j s hj hs => ?_,HB.out,Bk.out,Bx.out,By.out⟩,by simp [intOf];omega⟩;by_cases e : j = k
     ·subst e;rw [HXt.out] at hs;obtain rfl:=Option.some.inj hs;intro v2 h1 h2;obtain rfl:=bu.inj HX.out HV.out HD.out h1;rw [HSi.out] at h2;cases h2
     ·exact HQ.out j s af hs
    have HSi:=ae hs;rw [hs] at hcv1;clear hs;by_cases hin : InL q.zs t
    ·have HIn:=ae hin;clear hin;obtain ⟨Gk,Gx,Gy,HW,k2,x3,y3,tw,vw,hne0⟩:=uv;have HC0:=ae (fun qq : Wd q1.w => (cQ qa ql qc q.zs t qq.w (HQ0.out.below (HW.out.trans (qq.b.mono HW.out.size)))).mono (fun _ _ h => ar.yes h HIn.out));go_wp2_with fail;refine aj av av ?_;repeat (go_big_quiet_step (first | (go_at_call 116;exact Calls.wide (HC0.out _)) | fail))
     refine wpQuiet_nil ?_;rintro _ ⟨q2,rfl⟩;obtain ⟨HB2,Ck⟩:=dq;have Cx:=upK Gx q2.b;have Cy:=upK Gy q2.b;clear hne0 HW HB HC0 k2 x3 y3 tw vw Gk Gx Gy Bk Bx By;have HB:=HB2;clear HB2;have Bk:=Ck;clear Ck;have Bx:=Cx;clear Cx;have By:=Cy;clear Cy;go_wp2;go_ret;refine ar.f (fun h => ?_) HB.out;rcases h with h | h | h | h
     ·exact HP0.out h
     ·exact HQ1.out h
     ·exact HPQ.out h
     ·exact h k t HXt.out v HD.out HSi.out HIn.out
    ·have HIn:=ae hin;clear hin;obtain ⟨Gk,Gx,Gy,HW,k2,x3,y3,tw,vw,hne0⟩:=uv;have HC0:=ae (fun qq : Wd q1.w => (cQ qa ql qc q.zs t qq.w (HQ0.out.below (HW.out.trans (qq.b.mono HW.out.size)))).mono (fun _ _ h => ar.no h HIn.out));go_wp2_with fail;refine aj av av ?_;repeat (go_big_quiet_step (first | (go_at_call 116;exact Calls.wide (HC0.out _)) | fail))
     refine wpQuiet_nil ?_;rintro _ ⟨q2,rfl⟩;obtain ⟨HB2,Ck⟩:=dq;have Cx:=upK Gx q2.b;have Cy:=upK Gy q2.b;clear hne0 HW HB HC0 k2 x3 y3 tw vw Gk Gx Gy Bk Bx By;have HB:=HB2;clear HB2;have Bk:=Ck;clear Ck;have Bx:=Cx;clear Cx;have By:=Cy;clear Cy;go_wp2_with fail;refine ⟨⟨k + 1,by omega,by go_num,fun j s hj hs => ?_,HB.out,Bk.out,Bx.out,By.out⟩,by simp [intOf];omega⟩;by_cases e : j = k
     ·subst e;rw [HXt.out] at hs;obtain rfl:=Option.some.inj hs;intro v2 h1 h2;exact HIn.out
     ·exact HQ.out j s af hs
   ·have HD:=ae hbd;clear hbd;have Gk:=Bk;have Gx:=Bx;have Gy:=By;have HW:=HB;obtain ⟨k0,k1,k2,k3,k4,k5⟩:=sl6 Gk;have x3:=fun q : Wd wr => q.slot (o:=3) Gx.out rfl;have tw:=fun q : Wd wr => (q.cell hbw).trans hcw;have hne0:=Wd.ne wr;have HC0:=ae (fun q : Wd wr => ft ⟨a1,l1,y1,a2,l2,y2,a3,l3,y3,a4,l4,y4,a5,l5,y5⟩ c t q.w (HR.out.below (HW.out.trans (q.b.mono HW.out.size))) HX.out HV.out HNE.out HD.out);go_wp2_with fail;refine aj av av ?_;repeat (go_big_quiet_step (first | (go_at_call 113;exact Calls.wide (HC0.out _)) | fail))
    refine wpQuiet_nil ?_;rintro _ ⟨q1,rfl⟩;obtain ⟨HB1,Ck⟩:=cH;have Cx:=upK Gx q1.b;have Cy:=upK Gy q1.b;clear hne0 HW HB HC0 k0 k1 k2 k3 k4 k5 x3 tw Gk Gx Gy Bk Bx By px3;have HB:=HB1;clear HB1;have Bk:=Ck;clear Ck;have Bx:=Cx;clear Cx;have By:=Cy;clear Cy;have Gk:=Bk;have Gx:=Bx;have Gy:=By;obtain ⟨HW,k2⟩:=mW;have x3:=fun q : Wd q1.w => q.slot (o:=3) Gx.out rfl;have y3:=fun q : Wd q1.w => q.slot (o:=3) Gy.out rfl;have hne0:=Wd.ne q1.w;go_wp2_with fail;refine aj av av ?_;repeat (go_big_quiet_step (first | fail))
    refine wpQuiet_nil ?_;rintro _ ⟨q2,rfl⟩;obtain ⟨HB2,Ck⟩:=dq;have Cx:=upK Gx q2.b;have Cy:=upK Gy q2.b;clear hne0 HW HB k2 x3 y3 Gk Gx Gy Bk Bx By;have HB:=HB2;clear HB2;have Bk:=Ck;clear Ck;have Bx:=Cx;clear Cx;have By:=Cy;clear Cy;go_wp2_with fail;refine ⟨⟨k + 1,by omega,by go_num,fun j s hj hs => ?_,HB.out,Bk.out,Bx.out,By.out⟩,by simp [intOf];omega⟩;by_cases e : j = k
    ·subst e;rw [HXt.out] at hs;obtain rfl:=Option.some.inj hs;intro v2 h1;exact absurd h1 (HD.out v2)
    ·exact HQ.out j s af hs
  ·obtain rfl : pl = k:=af
   go_wp2;go_ret;exact ar.t (.inr (.inr (.inr (fun j t ht => HQ.out j t rj ht)))) HB.out

theorem sn (d : Ad) (c : Cl) (w : World) (hr : aM w d c.raw) :
  Calls Tryz.prog 60 #[.agg #[.slice d.a1 d.l1 d.c1,.slice d.a2 d.l2 d.c2,.slice d.a3 d.l3 d.c3,.slice d.a4 d.l4 d.c4,.slice d.a5 d.l5 d.c5,.int .i64 c.now]] w (ar (cC c) w):=by
 obtain ⟨a1,l1,y1,a2,l2,y2,a3,l3,y3,a4,l4,y4,a5,l5,y5⟩:=d;dsimp only;obtain ⟨HR,hl1,hm1,hl2,hm2,hl3,hm3,hl4,hm4,hl5,hm5⟩:=ew;clear hr;by_cases hL1 : (6 : Int) < l1
 ·go_enter Tryz.func60,Tryz.ntmps60;go_wp2;go_ret;exact ar.f (fun h => by have:=h.1.1;omega) (an _ _)
 by_cases hL2 : (8 : Int) < l2
 ·go_enter Tryz.func60,Tryz.ntmps60;go_wp2;go_ret;exact ar.f (fun h => by have:=h.2.1.1;omega) (an _ _)
 by_cases hL3 : (8 : Int) < l3
 ·go_enter Tryz.func60,Tryz.ntmps60;go_wp2;go_ret;exact ar.f (fun h => by have:=h.2.2.1.1;omega) (an _ _)
 by_cases hL4 : (8 : Int) < l4
 ·go_enter Tryz.func60,Tryz.ntmps60;go_wp2;go_ret;exact ar.f (fun h => by have:=h.2.2.2.1.1;omega) (an _ _)
 by_cases hL5 : (8 : Int) < l5
 ·go_enter Tryz.func60,Tryz.ntmps60;go_wp2;go_ret;exact ar.f (fun h => by have:=h.2.2.2.2.1;omega) (an _ _)
 go_enter Tryz.func60,Tryz.ntmps60;go_wp2;go_loopw [3] (fun i wr => ∃ k : Nat,k ≤ l1 ∧ i = .int .i64 k ∧ Hid (∀ (j : Nat) z,j < k → c.ns[j]? = some z → nQ z) ∧ Hid (∀ (j : Nat) z u,j + 1 < k → c.ns[j + 1]? = some z → c.ns[j]? = some u → Op.bytesLess u.n.toList z.n.toList = true) ∧ Hid (Below w.heap.size w wr) ∧ Hid (wr.heap[w.heap.size]? = some (.cells #[.slice a1 l1 y1,.slice a2 l2 y2,.slice a3 l3 y3,.slice a4 l4 y4,.slice a5 l5 y5,.int .i64 c.now] 37 (0,0)))) (fun i _ => l1 - (intOf i).toNat);case atStart => exact ⟨0,by omega,rfl,fun _ _ h => absurd h af,fun _ _ _ h => absurd h af,an _ _,Array.getElem?_push_size⟩
 case round =>
  obtain ⟨k,hk,rfl,HQ,HO,HB,Bk⟩:=hrel;have pk : wr.cell? ⟨w.heap.size,0,none⟩ = some (.slice a1 l1 y1):=ah Bk.out 0;by_cases hlt : k < l1
  ·obtain ⟨b,o,x,rfl,hb,hx,hat⟩:=cn (HR.out.n.below HB.out) hlt;obtain ⟨va,vl,vc,hvr,z0,z1,c0,c1,c2,c3,c4,c5,c6⟩:=bc hat;have HXx:=ae hx;have HTx:=ae hvr;have HZx0:=ae z0;have HZx1:=ae z1;clear hat hx z0 z1 hvr;by_cases hok : nQ x;rotate_left
   ·have HOK:=ae hok;clear hok;have Gk:=Bk;have HW:=HB;have k0:=fun q : Wd wr => q.slot (o:=0) Gk.out rfl;obtain ⟨x0,x1,x2,x3,x4⟩:=fc;obtain ⟨x5,x6⟩:=ia;have hne0:=Wd.ne wr;have HC0:=ae (fun q : Wd wr => (eS x.n x.z x.c x.s x.u x.d va vl vc x.zs q.w HZx0.out HZx1.out (HTx.out.below q.b)).mono (fun _ _ h => ar.no h HOK.out));go_wp2_with fail;refine aj av av ?_;repeat (go_big_quiet_step (first | (go_at_call 105;exact Calls.wide (HC0.out _)) | fail))
    refine wpQuiet_nil ?_;rintro _ ⟨q,rfl⟩;obtain ⟨HB1,Ck⟩:=cN;clear hne0 HW HB HC0 k0 x0 x1 x2 x3 x4 x5 x6 Gk Bk c0 c1 c2 c3 c4 c5 c6 pk;have HB:=HB1;clear HB1;have Bk:=Ck;clear Ck;go_wp2;go_ret;exact ar.f (fun h => HOK.out (h.1.2.1 k x HXx.out)) HB.out
   have HOK:=ae hok;clear hok;by_cases hk0 : 0 < k;rotate_left
   ·obtain ⟨hd,Gk⟩:=mX;have HW:=HB;have k0:=fun q : Wd wr => q.slot (o:=0) Gk.out rfl;obtain ⟨x0,x1,x2,x3,x4⟩:=fc;obtain ⟨x5,x6⟩:=ia;have hne0:=Wd.ne wr;have HC0:=ae (fun q : Wd wr => (eS x.n x.z x.c x.s x.u x.d va vl vc x.zs q.w HZx0.out HZx1.out (HTx.out.below q.b)).mono (fun _ _ h => ar.yes h HOK.out));go_wp2_with fail;refine aj av av ?_;repeat (go_big_quiet_step (first | (go_at_call 105;exact Calls.wide (HC0.out _)) | fail))
    refine wpQuiet_nil ?_;rintro _ ⟨q,rfl⟩;obtain ⟨HB1,Ck⟩:=cN;clear hne0 HW HB HC0 k0 x0 x1 x2 x3 x4 x5 x6 Gk Bk c0 c1 c2 c3 c4 c5 c6 pk;exact nH
   obtain ⟨hk0',ek⟩:=m9;obtain ⟨b',o',y,e',hb',hy,haty⟩:=cn (HR.out.n.below HB.out) (show k - 1 < l1 by omega);cases e';have y0 : wr.cell? ⟨b,o + (k - 1) * 7,none⟩ = some (.string y.n):=by
    exact je
   have HXy:=ae hy;clear hy haty;cases hless : Op.bytesLess y.n.toList x.n.toList
   ·obtain ⟨Gk,HW,k0⟩:=Ar;obtain ⟨x0,x1,x2,x3,x4⟩:=fc;obtain ⟨x5,x6⟩:=ia;obtain ⟨yw,hne0⟩:=fh;have HC0:=ae (fun q : Wd wr => (eS x.n x.z x.c x.s x.u x.d va vl vc x.zs q.w HZx0.out HZx1.out (HTx.out.below q.b)).mono (fun _ _ h => ar.yes h HOK.out));go_wp2_with fail;refine aj av av ?_;repeat (go_big_quiet_step (first | (go_at_call 105;exact Calls.wide (HC0.out _)) | fail))
    refine wpQuiet_nil ?_;rintro _ ⟨q,rfl⟩;obtain ⟨HB1,Ck⟩:=cN;clear hne0 HW HB HC0 k0 x0 x1 x2 x3 x4 x5 x6 yw Gk Bk c0 c1 c2 c3 c4 c5 c6 pk y0;have HB:=HB1;clear HB1;have Bk:=Ck;clear Ck;go_wp2;go_ret;refine ar.f (fun h => ?_) HB.out;have h3:=h.1.2.2 (k - 1) x y mP HXy.out;rw [hless] at h3;cases h3
   ·obtain ⟨Gk,HW,k0⟩:=Ar;obtain ⟨x0,x1,x2,x3,x4⟩:=fc;obtain ⟨x5,x6⟩:=ia;obtain ⟨yw,hne0⟩:=fh;have HC0:=ae (fun q : Wd wr => (eS x.n x.z x.c x.s x.u x.d va vl vc x.zs q.w HZx0.out HZx1.out (HTx.out.below q.b)).mono (fun _ _ h => ar.yes h HOK.out));go_wp2_with fail;refine aj av av ?_;repeat (go_big_quiet_step (first | (go_at_call 105;exact Calls.wide (HC0.out _)) | fail))
    refine wpQuiet_nil ?_;rintro _ ⟨q,rfl⟩;obtain ⟨HB1,Ck⟩:=cN;clear hne0 HW HB HC0 k0 x0 x1 x2 x3 x4 x5 x6 yw Gk Bk c0 c1 c2 c3 c4 c5 c6 pk y0;exact nI
  ·obtain rfl : l1 = k:=af
   have HR1 : Hid (dE nQ Nd.n c.ns 6):=⟨by omega,fun j z hz => HQ.out j z cG hz,fun j z u hz hu => HO.out j z u cG hz hu⟩;clear HQ HO;skip;have kc : wr.cell? ⟨w.heap.size,1,none⟩ = some (.slice a2 l2 y2):=ah Bk.out 1;go_wp2;go_loopw [4] (fun i wr => ∃ k : Nat,k ≤ l2 ∧ i = .int .i64 k ∧ Hid (∀ (j : Nat) z,j < k → c.ks[j]? = some z → qu z) ∧ Hid (∀ (j : Nat) z u,j + 1 < k → c.ks[j + 1]? = some z → c.ks[j]? = some u → Op.bytesLess u.n.toList z.n.toList = true) ∧ Hid (Below w.heap.size w wr) ∧ Hid (wr.heap[w.heap.size]? = some (.cells #[.slice a1 l1 y1,.slice a2 l2 y2,.slice a3 l3 y3,.slice a4 l4 y4,.slice a5 l5 y5,.int .i64 c.now] 37 (0,0)))) (fun i _ => l2 - (intOf i).toNat);case atStart => exact ⟨0,by omega,rfl,fun _ _ h => absurd h af,fun _ _ _ h => absurd h af,HB.out,Bk.out⟩
   case round =>
    obtain ⟨k,hk,rfl,HQ,HO,HB,Bk⟩:=hrel;have pk : wr.cell? ⟨w.heap.size,1,none⟩ = some (.slice a2 l2 y2):=ah Bk.out 1;by_cases hlt : k < l2
    ·obtain ⟨b,o,x,rfl,hb,hx,hat⟩:=et (HR.out.k.below HB.out) hlt;obtain ⟨z0,z3,c0,c1,c2,c3⟩:=cr hat;have HXx:=ae hx;have HZx0:=ae z0;have HZx3:=ae z3;clear hat hx z0 z3;by_cases hok : qu x;rotate_left
     ·have HOK:=ae hok;clear hok;have Gk:=Bk;obtain ⟨HW,k1,x0,x1,x2,x3⟩:=rz;have hne0:=Wd.ne wr;have HC0:=ae (fun q : Wd wr => (dY x.n x.z x.x x.y q.w HZx0.out HZx3.out).mono (fun _ _ h => ar.no h HOK.out));go_wp2_with fail;refine aj av av ?_;repeat (go_big_quiet_step (first | (go_at_call 106;exact Calls.wide (HC0.out _)) | fail))
      refine wpQuiet_nil ?_;rintro _ ⟨q,rfl⟩;obtain ⟨HB1,Ck⟩:=cN;clear hne0 HW HB HC0 k1 x0 x1 x2 x3 Gk Bk c0 c1 c2 c3 pk;have HB:=HB1;clear HB1;have Bk:=Ck;clear Ck;go_wp2;go_ret;exact ar.f (fun h => HOK.out (h.2.1.2.1 k x HXx.out)) HB.out
     have HOK:=ae hok;clear hok;by_cases hk0 : 0 < k;rotate_left
     ·obtain ⟨hd,Gk⟩:=mX;obtain ⟨HW,k1,x0,x1,x2,x3⟩:=rz;have hne0:=Wd.ne wr;have HC0:=ae (fun q : Wd wr => (dY x.n x.z x.x x.y q.w HZx0.out HZx3.out).mono (fun _ _ h => ar.yes h HOK.out));go_wp2_with fail;refine aj av av ?_;repeat (go_big_quiet_step (first | (go_at_call 106;exact Calls.wide (HC0.out _)) | fail))
      refine wpQuiet_nil ?_;rintro _ ⟨q,rfl⟩;obtain ⟨HB1,Ck⟩:=cN;clear hne0 HW HB HC0 k1 x0 x1 x2 x3 Gk Bk c0 c1 c2 c3 pk;exact nH
     obtain ⟨hk0',ek⟩:=m9;obtain ⟨b',o',y,e',hb',hy,haty⟩:=et (HR.out.k.below HB.out) (show k - 1 < l2 by omega);cases e';have y0 : wr.cell? ⟨b,o + (k - 1) * 4,none⟩ = some (.string y.n):=by
      exact je
     have HXy:=ae hy;clear hy haty;cases hless : Op.bytesLess y.n.toList x.n.toList
     ·have Gk : Hid (wr.heap[w.heap.size]? = some (.cells #[.slice a1 l1 y1,.slice (some ⟨b,o,none⟩) l2 y2,.slice a3 l3 y3,.slice a4 l4 y4,.slice a5 l5 y5,.int .i64 c.now] 37 (0,0))):=Bk.out;obtain ⟨HW,k1,x0,x1,x2,x3⟩:=rz;obtain ⟨yw,hne0⟩:=fh;have HC0:=ae (fun q : Wd wr => (dY x.n x.z x.x x.y q.w HZx0.out HZx3.out).mono (fun _ _ h => ar.yes h HOK.out));go_wp2_with fail;refine aj av av ?_;repeat (go_big_quiet_step (first | (go_at_call 106;exact Calls.wide (HC0.out _)) | fail))
      refine wpQuiet_nil ?_;rintro _ ⟨q,rfl⟩;obtain ⟨HB1,Ck⟩:=cN;clear hne0 HW HB HC0 k1 x0 x1 x2 x3 yw Gk Bk c0 c1 c2 c3 pk y0;have HB:=HB1;clear HB1;have Bk:=Ck;clear Ck;go_wp2;go_ret;refine ar.f (fun h => ?_) HB.out;have h3:=h.2.1.2.2 (k - 1) x y mP HXy.out;rw [hless] at h3;cases h3
     ·have Gk : Hid (wr.heap[w.heap.size]? = some (.cells #[.slice a1 l1 y1,.slice (some ⟨b,o,none⟩) l2 y2,.slice a3 l3 y3,.slice a4 l4 y4,.slice a5 l5 y5,.int .i64 c.now] 37 (0,0))):=Bk.out;obtain ⟨HW,k1,x0,x1,x2,x3⟩:=rz;obtain ⟨yw,hne0⟩:=fh;have HC0:=ae (fun q : Wd wr => (dY x.n x.z x.x x.y q.w HZx0.out HZx3.out).mono (fun _ _ h => ar.yes h HOK.out));go_wp2_with fail;refine aj av av ?_;repeat (go_big_quiet_step (first | (go_at_call 106;exact Calls.wide (HC0.out _)) | fail))
      refine wpQuiet_nil ?_;rintro _ ⟨q,rfl⟩;obtain ⟨HB1,Ck⟩:=cN;clear hne0 HW HB HC0 k1 x0 x1 x2 x3 yw Gk Bk c0 c1 c2 c3 pk y0;exact nI
    ·obtain rfl : l2 = k:=af
     have HR2 : Hid (dE qu Kd.n c.ks 8):=⟨by omega,fun j z hz => HQ.out j z cG hz,fun j z u hz hu => HO.out j z u cG hz hu⟩;clear HQ HO;skip;have kc : wr.cell? ⟨w.heap.size,2,none⟩ = some (.slice a3 l3 y3):=ah Bk.out 2;go_wp2;go_loopw [5] (fun i wr => ∃ k : Nat,k ≤ l3 ∧ i = .int .i64 k ∧ Hid (∀ (j : Nat) z,j < k → c.vs[j]? = some z → oB z) ∧ Hid (∀ (j : Nat) z u,j + 1 < k → c.vs[j + 1]? = some z → c.vs[j]? = some u → Op.bytesLess u.n.toList z.n.toList = true) ∧ Hid (Below w.heap.size w wr) ∧ Hid (wr.heap[w.heap.size]? = some (.cells #[.slice a1 l1 y1,.slice a2 l2 y2,.slice a3 l3 y3,.slice a4 l4 y4,.slice a5 l5 y5,.int .i64 c.now] 37 (0,0)))) (fun i _ => l3 - (intOf i).toNat);case atStart => exact ⟨0,by omega,rfl,fun _ _ h => absurd h af,fun _ _ _ h => absurd h af,HB.out,Bk.out⟩
     case round =>
      obtain ⟨k,hk,rfl,HQ,HO,HB,Bk⟩:=hrel;have pk : wr.cell? ⟨w.heap.size,2,none⟩ = some (.slice a3 l3 y3):=ah Bk.out 2;by_cases hlt : k < l3
      ·obtain ⟨b,o,x,rfl,hb,hx,hat⟩:=bC (HR.out.v.below HB.out) hlt;obtain ⟨va,vl,vc,hvr,z0,z2,z3,z5,c0,c1,c2,c3,c4,c5,c6,c7⟩:=aK hat;have HXx:=ae hx;have HTx:=ae hvr;have HZx0:=ae z0;have HZx2:=ae z2;have HZx3:=ae z3;have HZx5:=ae z5;clear hat hx z0 z2 z3 z5 hvr;by_cases hok : oB x;rotate_left
       ·have HOK:=ae hok;clear hok;have Gk:=Bk;have HW:=HB;have k2:=fun q : Wd wr => q.slot (o:=2) Gk.out rfl;obtain ⟨x0,x1,x2,x3,x4⟩:=fc;obtain ⟨x5,x6⟩:=ia;have x7:=fun q : Wd wr => (q.cell hb).trans c7;have hne0:=Wd.ne wr;have HC0:=ae (fun q : Wd wr => (fF x.n x.c x.z x.k x.x x.m x.y va vl vc x.zs q.w HZx0.out HZx2.out HZx3.out HZx5.out (HTx.out.below q.b)).mono (fun _ _ h => ar.no h HOK.out));go_wp2_with fail;refine aj av av ?_;repeat (go_big_quiet_step (first | (go_at_call 107;exact Calls.wide (HC0.out _)) | fail))
        refine wpQuiet_nil ?_;rintro _ ⟨q,rfl⟩;obtain ⟨HB1,Ck⟩:=cN;clear hne0 HW HB HC0 k2 x0 x1 x2 x3 x4 x5 x6 x7 Gk Bk c0 c1 c2 c3 c4 c5 c6 c7 pk;have HB:=HB1;clear HB1;have Bk:=Ck;clear Ck;go_wp2;go_ret;exact ar.f (fun h => HOK.out (h.2.2.1.2.1 k x HXx.out)) HB.out
       have HOK:=ae hok;clear hok;by_cases hk0 : 0 < k;rotate_left
       ·obtain ⟨hd,Gk⟩:=mX;have HW:=HB;have k2:=fun q : Wd wr => q.slot (o:=2) Gk.out rfl;obtain ⟨x0,x1,x2,x3,x4⟩:=fc;obtain ⟨x5,x6⟩:=ia;have x7:=fun q : Wd wr => (q.cell hb).trans c7;have hne0:=Wd.ne wr;have HC0:=ae (fun q : Wd wr => (fF x.n x.c x.z x.k x.x x.m x.y va vl vc x.zs q.w HZx0.out HZx2.out HZx3.out HZx5.out (HTx.out.below q.b)).mono (fun _ _ h => ar.yes h HOK.out));go_wp2_with fail;refine aj av av ?_;repeat (go_big_quiet_step (first | (go_at_call 107;exact Calls.wide (HC0.out _)) | fail))
        refine wpQuiet_nil ?_;rintro _ ⟨q,rfl⟩;obtain ⟨HB1,Ck⟩:=cN;clear hne0 HW HB HC0 k2 x0 x1 x2 x3 x4 x5 x6 x7 Gk Bk c0 c1 c2 c3 c4 c5 c6 c7 pk;exact nH
       obtain ⟨hk0',ek⟩:=m9;obtain ⟨b',o',y,e',hb',hy,haty⟩:=bC (HR.out.v.below HB.out) (show k - 1 < l3 by omega);cases e';have y0 : wr.cell? ⟨b,o + (k - 1) * 8,none⟩ = some (.string y.n):=by
        exact je
       have HXy:=ae hy;clear hy haty;cases hless : Op.bytesLess y.n.toList x.n.toList
       ·obtain ⟨Gk,HW,k2⟩:=Aq;obtain ⟨x0,x1,x2,x3,x4⟩:=fc;obtain ⟨x5,x6⟩:=ia;have x7:=fun q : Wd wr => (q.cell hb).trans c7;obtain ⟨yw,hne0⟩:=fh;have HC0:=ae (fun q : Wd wr => (fF x.n x.c x.z x.k x.x x.m x.y va vl vc x.zs q.w HZx0.out HZx2.out HZx3.out HZx5.out (HTx.out.below q.b)).mono (fun _ _ h => ar.yes h HOK.out));go_wp2_with fail;refine aj av av ?_;repeat (go_big_quiet_step (first | (go_at_call 107;exact Calls.wide (HC0.out _)) | fail))
        refine wpQuiet_nil ?_;rintro _ ⟨q,rfl⟩;obtain ⟨HB1,Ck⟩:=cN;clear hne0 HW HB HC0 k2 x0 x1 x2 x3 x4 x5 x6 x7 yw Gk Bk c0 c1 c2 c3 c4 c5 c6 c7 pk y0;have HB:=HB1;clear HB1;have Bk:=Ck;clear Ck;go_wp2;go_ret;refine ar.f (fun h => ?_) HB.out;have h3:=h.2.2.1.2.2 (k - 1) x y mP HXy.out;rw [hless] at h3;cases h3
       ·obtain ⟨Gk,HW,k2⟩:=Aq;obtain ⟨x0,x1,x2,x3,x4⟩:=fc;obtain ⟨x5,x6⟩:=ia;have x7:=fun q : Wd wr => (q.cell hb).trans c7;obtain ⟨yw,hne0⟩:=fh;have HC0:=ae (fun q : Wd wr => (fF x.n x.c x.z x.k x.x x.m x.y va vl vc x.zs q.w HZx0.out HZx2.out HZx3.out HZx5.out (HTx.out.below q.b)).mono (fun _ _ h => ar.yes h HOK.out));go_wp2_with fail;refine aj av av ?_;repeat (go_big_quiet_step (first | (go_at_call 107;exact Calls.wide (HC0.out _)) | fail))
        refine wpQuiet_nil ?_;rintro _ ⟨q,rfl⟩;obtain ⟨HB1,Ck⟩:=cN;clear hne0 HW HB HC0 k2 x0 x1 x2 x3 x4 x5 x6 x7 yw Gk Bk c0 c1 c2 c3 c4 c5 c6 c7 pk y0;exact nI
      ·obtain rfl : l3 = k:=af
       have HR3 : Hid (dE oB Vd.n c.vs 8):=⟨by omega,fun j z hz => HQ.out j z cG hz,fun j z u hz hu => HO.out j z u cG hz hu⟩;clear HQ HO;skip;have kc : wr.cell? ⟨w.heap.size,3,none⟩ = some (.slice a4 l4 y4):=ah Bk.out 3;go_wp2;go_loopw [6] (fun i wr => ∃ k : Nat,k ≤ l4 ∧ i = .int .i64 k ∧ Hid (∀ (j : Nat) z,j < k → c.xs[j]? = some z → oq z) ∧ Hid (∀ (j : Nat) z u,j + 1 < k → c.xs[j + 1]? = some z → c.xs[j]? = some u → Op.bytesLess u.n.toList z.n.toList = true) ∧ Hid (Below w.heap.size w wr) ∧ Hid (wr.heap[w.heap.size]? = some (.cells #[.slice a1 l1 y1,.slice a2 l2 y2,.slice a3 l3 y3,.slice a4 l4 y4,.slice a5 l5 y5,.int .i64 c.now] 37 (0,0)))) (fun i _ => l4 - (intOf i).toNat);case atStart => exact ⟨0,by omega,rfl,fun _ _ h => absurd h af,fun _ _ _ h => absurd h af,HB.out,Bk.out⟩
       case round =>
        obtain ⟨k,hk,rfl,HQ,HO,HB,Bk⟩:=hrel;have pk : wr.cell? ⟨w.heap.size,3,none⟩ = some (.slice a4 l4 y4):=ah Bk.out 3;by_cases hlt : k < l4
        ·obtain ⟨b,o,x,rfl,hb,hx,hat⟩:=de (HR.out.x.below HB.out) hlt;obtain ⟨z0,z2,z4,c0,c1,c2,c3,c4⟩:=bB hat;have HXx:=ae hx;have HZx0:=ae z0;have HZx2:=ae z2;have HZx4:=ae z4;clear hat hx z0 z2 z4;by_cases hok : oq x;rotate_left
         ·have HOK:=ae hok;clear hok;have Gk:=Bk;have HW:=HB;have k3:=fun q : Wd wr => q.slot (o:=3) Gk.out rfl;obtain ⟨x0,x1,x2,x3,x4⟩:=fc;have hne0:=Wd.ne wr;have HC0:=ae (fun q : Wd wr => (dZ x.n x.z x.k x.x x.v q.w HZx0.out HZx2.out HZx4.out).mono (fun _ _ h => ar.no h HOK.out));go_wp2_with fail;refine aj av av ?_;repeat (go_big_quiet_step (first | (go_at_call 108;exact Calls.wide (HC0.out _)) | fail))
          refine wpQuiet_nil ?_;rintro _ ⟨q,rfl⟩;obtain ⟨HB1,Ck⟩:=cN;clear hne0 HW HB HC0 k3 x0 x1 x2 x3 x4 Gk Bk c0 c1 c2 c3 c4 pk;have HB:=HB1;clear HB1;have Bk:=Ck;clear Ck;go_wp2;go_ret;exact ar.f (fun h => HOK.out (h.2.2.2.1.2.1 k x HXx.out)) HB.out
         have HOK:=ae hok;clear hok;by_cases hk0 : 0 < k;rotate_left
         ·obtain ⟨hd,Gk⟩:=mX;have HW:=HB;have k3:=fun q : Wd wr => q.slot (o:=3) Gk.out rfl;obtain ⟨x0,x1,x2,x3,x4⟩:=fc;have hne0:=Wd.ne wr;have HC0:=ae (fun q : Wd wr => (dZ x.n x.z x.k x.x x.v q.w HZx0.out HZx2.out HZx4.out).mono (fun _ _ h => ar.yes h HOK.out));go_wp2_with fail;refine aj av av ?_;repeat (go_big_quiet_step (first | (go_at_call 108;exact Calls.wide (HC0.out _)) | fail))
          refine wpQuiet_nil ?_;rintro _ ⟨q,rfl⟩;obtain ⟨HB1,Ck⟩:=cN;clear hne0 HW HB HC0 k3 x0 x1 x2 x3 x4 Gk Bk c0 c1 c2 c3 c4 pk;exact nH
         obtain ⟨hk0',ek⟩:=m9;obtain ⟨b',o',y,e',hb',hy,haty⟩:=de (HR.out.x.below HB.out) (show k - 1 < l4 by omega);cases e';have y0 : wr.cell? ⟨b,o + (k - 1) * 5,none⟩ = some (.string y.n):=by
          exact je
         have HXy:=ae hy;clear hy haty;cases hless : Op.bytesLess y.n.toList x.n.toList
         ·obtain ⟨Gk,HW,k3⟩:=Ao;obtain ⟨x0,x1,x2,x3,x4⟩:=fc;obtain ⟨yw,hne0⟩:=fh;have HC0:=ae (fun q : Wd wr => (dZ x.n x.z x.k x.x x.v q.w HZx0.out HZx2.out HZx4.out).mono (fun _ _ h => ar.yes h HOK.out));go_wp2_with fail;refine aj av av ?_;repeat (go_big_quiet_step (first | (go_at_call 108;exact Calls.wide (HC0.out _)) | fail))
          refine wpQuiet_nil ?_;rintro _ ⟨q,rfl⟩;obtain ⟨HB1,Ck⟩:=cN;clear hne0 HW HB HC0 k3 x0 x1 x2 x3 x4 yw Gk Bk c0 c1 c2 c3 c4 pk y0;have HB:=HB1;clear HB1;have Bk:=Ck;clear Ck;go_wp2;go_ret;refine ar.f (fun h => ?_) HB.out;have h3:=h.2.2.2.1.2.2 (k - 1) x y mP HXy.out;rw [hless] at h3;cases h3
         ·obtain ⟨Gk,HW,k3⟩:=Ao;obtain ⟨x0,x1,x2,x3,x4⟩:=fc;obtain ⟨yw,hne0⟩:=fh;have HC0:=ae (fun q : Wd wr => (dZ x.n x.z x.k x.x x.v q.w HZx0.out HZx2.out HZx4.out).mono (fun _ _ h => ar.yes h HOK.out));go_wp2_with fail;refine aj av av ?_;repeat (go_big_quiet_step (first | (go_at_call 108;exact Calls.wide (HC0.out _)) | fail))
          refine wpQuiet_nil ?_;rintro _ ⟨q,rfl⟩;obtain ⟨HB1,Ck⟩:=cN;clear hne0 HW HB HC0 k3 x0 x1 x2 x3 x4 yw Gk Bk c0 c1 c2 c3 c4 pk y0;exact nI
        ·obtain rfl : l4 = k:=af
         have HR4 : Hid (dE oq Xd.n c.xs 8):=⟨by omega,fun j z hz => HQ.out j z cG hz,fun j z u hz hu => HO.out j z u cG hz hu⟩;clear HQ HO;skip;have kc : wr.cell? ⟨w.heap.size,4,none⟩ = some (.slice a5 l5 y5):=ah Bk.out 4;go_wp2;go_loopw [7] (fun i wr => ∃ k : Nat,k ≤ l5 ∧ i = .int .i64 k ∧ Hid (∀ (j : Nat) z,j < k → c.ps[j]? = some z → qf z) ∧ Hid (∀ (j : Nat) z u,j + 1 < k → c.ps[j + 1]? = some z → c.ps[j]? = some u → Op.bytesLess u.n.toList z.n.toList = true) ∧ Hid (Below w.heap.size w wr) ∧ Hid (wr.heap[w.heap.size]? = some (.cells #[.slice a1 l1 y1,.slice a2 l2 y2,.slice a3 l3 y3,.slice a4 l4 y4,.slice a5 l5 y5,.int .i64 c.now] 37 (0,0)))) (fun i _ => l5 - (intOf i).toNat);case atStart => exact ⟨0,by omega,rfl,fun _ _ h => absurd h af,fun _ _ _ h => absurd h af,HB.out,Bk.out⟩
         case round =>
          obtain ⟨k,hk,rfl,HQ,HO,HB,Bk⟩:=hrel;have pk : wr.cell? ⟨w.heap.size,4,none⟩ = some (.slice a5 l5 y5):=ah Bk.out 4;by_cases hlt : k < l5
          ·obtain ⟨b,o,x,rfl,hb,hx,hat⟩:=bQ (HR.out.p.below HB.out) hlt;obtain ⟨va,vl,vc,hvr,z0,z2,z4,c0,c1,c2,c3,c4,c5⟩:=aU hat;have HXx:=ae hx;have HTx:=ae hvr;have HZx0:=ae z0;have HZx2:=ae z2;have HZx4:=ae z4;clear hat hx z0 z2 z4 hvr;by_cases hok : qf x;rotate_left
           ·have HOK:=ae hok;clear hok;have Gk:=Bk;have HW:=HB;have k4:=fun q : Wd wr => q.slot (o:=4) Gk.out rfl;obtain ⟨x0,x1,x2,x3,x4⟩:=fc;have x5:=fun q : Wd wr => (q.cell hb).trans c5;have hne0:=Wd.ne wr;have HC0:=ae (fun q : Wd wr => (fH x.n x.c x.z va vl vc x.zs x.d x.p q.w HZx0.out HZx2.out HZx4.out (HTx.out.below q.b)).mono (fun _ _ h => ar.no h HOK.out));go_wp2_with fail;refine aj av av ?_;repeat (go_big_quiet_step (first | (go_at_call 109;exact Calls.wide (HC0.out _)) | fail))
            refine wpQuiet_nil ?_;rintro _ ⟨q,rfl⟩;obtain ⟨HB1,Ck⟩:=cN;clear hne0 HW HB HC0 k4 x0 x1 x2 x3 x4 x5 Gk Bk c0 c1 c2 c3 c4 c5 pk;have HB:=HB1;clear HB1;have Bk:=Ck;clear Ck;go_wp2;go_ret;exact ar.f (fun h => HOK.out (h.2.2.2.2.2.1 k x HXx.out)) HB.out
           have HOK:=ae hok;clear hok;by_cases hk0 : 0 < k;rotate_left
           ·obtain ⟨hd,Gk⟩:=mX;have HW:=HB;have k4:=fun q : Wd wr => q.slot (o:=4) Gk.out rfl;obtain ⟨x0,x1,x2,x3,x4⟩:=fc;have x5:=fun q : Wd wr => (q.cell hb).trans c5;have hne0:=Wd.ne wr;have HC0:=ae (fun q : Wd wr => (fH x.n x.c x.z va vl vc x.zs x.d x.p q.w HZx0.out HZx2.out HZx4.out (HTx.out.below q.b)).mono (fun _ _ h => ar.yes h HOK.out));go_wp2_with fail;refine aj av av ?_;repeat (go_big_quiet_step (first | (go_at_call 109;exact Calls.wide (HC0.out _)) | fail))
            refine wpQuiet_nil ?_;rintro _ ⟨q,rfl⟩;obtain ⟨HB1,Ck⟩:=cN;clear hne0 HW HB HC0 k4 x0 x1 x2 x3 x4 x5 Gk Bk c0 c1 c2 c3 c4 c5 pk;exact nH
           obtain ⟨hk0',ek⟩:=m9;obtain ⟨b',o',y,e',hb',hy,haty⟩:=bQ (HR.out.p.below HB.out) (show k - 1 < l5 by omega);cases e';have y0 : wr.cell? ⟨b,o + (k - 1) * 6,none⟩ = some (.string y.n):=by
            exact je
           have HXy:=ae hy;clear hy haty;cases hless : Op.bytesLess y.n.toList x.n.toList
           ·obtain ⟨Gk,HW,k4⟩:=An;obtain ⟨x0,x1,x2,x3,x4⟩:=fc;have x5:=fun q : Wd wr => (q.cell hb).trans c5;obtain ⟨yw,hne0⟩:=fh;have HC0:=ae (fun q : Wd wr => (fH x.n x.c x.z va vl vc x.zs x.d x.p q.w HZx0.out HZx2.out HZx4.out (HTx.out.below q.b)).mono (fun _ _ h => ar.yes h HOK.out));go_wp2_with fail;refine aj av av ?_;repeat (go_big_quiet_step (first | (go_at_call 109;exact Calls.wide (HC0.out _)) | fail))
            refine wpQuiet_nil ?_;rintro _ ⟨q,rfl⟩;obtain ⟨HB1,Ck⟩:=cN;clear hne0 HW HB HC0 k4 x0 x1 x2 x3 x4 x5 yw Gk Bk c0 c1 c2 c3 c4 c5 pk y0;have HB:=HB1;clear HB1;have Bk:=Ck;clear Ck;go_wp2;go_ret;refine ar.f (fun h => ?_) HB.out;have h3:=h.2.2.2.2.2.2 (k - 1) x y mP HXy.out;rw [hless] at h3;cases h3
           ·obtain ⟨Gk,HW,k4⟩:=An;obtain ⟨x0,x1,x2,x3,x4⟩:=fc;have x5:=fun q : Wd wr => (q.cell hb).trans c5;obtain ⟨yw,hne0⟩:=fh;have HC0:=ae (fun q : Wd wr => (fH x.n x.c x.z va vl vc x.zs x.d x.p q.w HZx0.out HZx2.out HZx4.out (HTx.out.below q.b)).mono (fun _ _ h => ar.yes h HOK.out));go_wp2_with fail;refine aj av av ?_;repeat (go_big_quiet_step (first | (go_at_call 109;exact Calls.wide (HC0.out _)) | fail))
            refine wpQuiet_nil ?_;rintro _ ⟨q,rfl⟩;obtain ⟨HB1,Ck⟩:=cN;clear hne0 HW HB HC0 k4 x0 x1 x2 x3 x4 x5 yw Gk Bk c0 c1 c2 c3 c4 c5 pk y0;exact nI
          ·obtain rfl : l5 = k:=af
           have HR5 : Hid (dE qf Pd.n c.ps 8):=⟨by omega,fun j z hz => HQ.out j z cG hz,fun j z u hz hu => HO.out j z u cG hz hu⟩;clear HQ HO;go_wp2;go_ret;exact ar.t ⟨HR1.out,HR2.out,HR3.out,HR4.out,HR5.out⟩ HB.out

def zZ (c : Cl) (t : ByteArray) : Prop:=∃ (i : Nat) (k : Kd),c.ks[i]? = some k ∧ k.n = t
def SV (c : Cl) (v : Vd) : Prop:=zZ c v.k ∧ (v.m = ⟨#[]⟩ ∨ ∃ (i : Nat) (x : Xd),c.xs[i]? = some x ∧ x.n = v.m ∧ x.v = v.n)
def SX (c : Cl) (x : Xd) : Prop:=zZ c x.k ∧ (x.v = ⟨#[]⟩ ∨ ∃ (j : Nat) (v : Vd),c.vs[j]? = some v ∧ v.n = x.v ∧ v.m = x.n ∧ x.z ≤ v.c ∧ v.k = x.k ∧ v.x = x.x)
def qV (c : Cl) : Prop:=(∀ (j : Nat) z,c.vs[j]? = some z → SV c z) ∧ (∀ (j : Nat) z,c.xs[j]? = some z → SX c z)

theorem oL (d : Ad) (c : Cl) (w : World) (hr : aM w d c.raw) (hks : aJ Kd.n c.ks) (hxs : aJ Xd.n c.xs) (hvs : aJ Vd.n c.vs) :
  Calls Tryz.prog 61 #[.agg #[.slice d.a1 d.l1 d.c1,.slice d.a2 d.l2 d.c2,.slice d.a3 d.l3 d.c3,.slice d.a4 d.l4 d.c4,.slice d.a5 d.l5 d.c5,.int .i64 c.now]] w (ar (qV c) w):=by
 obtain ⟨a1,l1,y1,a2,l2,y2,a3,l3,y3,a4,l4,y4,a5,l5,y5⟩:=d;dsimp only;obtain ⟨HR,hl1,hm1,hl2,hm2,hl3,hm3,hl4,hm4,hl5,hm5⟩:=ew;clear hr;have HKS:=ae hks;have HXS:=ae hxs;have HVS:=ae hvs;clear hks hxs hvs;go_enter Tryz.func61,Tryz.ntmps61;go_wp2;go_loopw [3] (fun i wr => ∃ k : Nat,k ≤ l3 ∧ i = .int .i64 k ∧ Hid (∀ (j : Nat) z,j < k → c.vs[j]? = some z → SV c z) ∧ Hid (Below w.heap.size w wr) ∧ Hid (wr.heap[w.heap.size]? = some (.cells #[.slice a1 l1 y1,.slice a2 l2 y2,.slice a3 l3 y3,.slice a4 l4 y4,.slice a5 l5 y5,.int .i64 c.now] 37 (0,0)))) (fun i _ => l3 - (intOf i).toNat);case atStart => exact ⟨0,by omega,rfl,fun _ _ h => absurd h af,an _ _,Array.getElem?_push_size⟩
 case round =>
  obtain ⟨k,hk,rfl,HQ,HB,Bk⟩:=hrel;have pk : wr.cell? ⟨w.heap.size,2,none⟩ = some (.slice a3 l3 y3):=ah Bk.out 2;by_cases hlt : k < l3
  ·obtain ⟨b,o,v,rfl,hb,hx,hat⟩:=bC (HR.out.v.below HB.out) hlt;obtain ⟨va,vl,vc,hvr,z0,z2,z3,z5,c0,c1,c2,c3,c4,c5,c6,c7⟩:=aK hat;obtain ⟨HXv,HTv,HZv0,HZv2,HZv3,HZv5⟩:=kj;clear hat hx z0 z2 z3 z5 hvr;obtain ⟨k0,k1,k2,k3,k4,k5⟩:=cs6 Bk.out;have ltk_0:=aa Bk.out;go_wp2_with fail;refine (fE ⟨a1,l1,y1,a2,l2,y2,(some ⟨b,o,none⟩),l3,y3,a4,l4,y4,a5,l5,y5⟩ c.now c.xs v.m _ (HR.out.x.below (HB.out.trans ((an _ _).mono HB.out.size)))).mono ?_;rintro e w1 ⟨hb2,hf⟩;clear k0 k1 k2 k3 k4 k5 ltk_0;obtain ⟨HA0,hbx⟩:=aG hb2;replace Bk:=upK Bk hbx;have Br:=ae HA0;replace HB:=upB HB hbx;clear hb2 hbx HA0;clear pk hb c0 c1 c2 c3 c4 c5 c6 c7;by_cases hkh : zZ c v.k;rotate_left
   ·have HKH:=ae hkh;clear hkh;obtain ⟨r,hre⟩ : ∃ r : Int,e = .returned (.int .i64 r):=by rcases hf with ⟨j,y,_,_,h⟩ | ⟨_,h⟩ <;> exact ⟨_,h⟩
    subst hre;clear hf;obtain ⟨Gk,Gr,HW⟩:=bD;obtain ⟨k0,k1,k2,k3,k4,k5⟩:=sl6 Gk;obtain ⟨r0,r1,r2,r3,r4,r5,r6,r7⟩:=sl8 Gr;have hne0:=Wd.ne w1;have HC0:=ae (fun q : Wd w1 => j7 ⟨a1,l1,y1,a2,l2,y2,(some ⟨b,o,none⟩),l3,y3,a4,l4,y4,a5,l5,y5⟩ c.now c.ks v.k q.w (HR.out.k.below (HW.out.trans (q.b.mono HW.out.size))) (fun j y h1 h2 => HKH.out ⟨j,y,h1,h2⟩));go_wp2_with fail;refine aj av av ?_;repeat (go_big_quiet_step (first | (go_at_call 111;exact Calls.wide (HC0.out _)) | fail))
    refine wpQuiet_nil ?_;rintro _ ⟨q1,rfl⟩;have HB2:=upB HW q1.b;obtain ⟨Ck,Cr⟩:=fg;clear hne0 HW HB HC0 k0 k1 k2 k3 k4 k5 r0 r1 r2 r3 r4 r5 r6 r7 Gk Gr Bk Br;have HB:=HB2;clear HB2;have Bk:=Ck;clear Ck;have Br:=Cr;clear Cr;go_wp2;go_ret;exact ar.f (fun h => HKH.out (h.1 k v HXv.out).1) HB.out
   obtain ⟨i2,kd2,g1,g2⟩:=hkh;have HG1:=ae g1;have HG2:=ae g2;have hi20 : ¬ ((i2 : Int) < 0):=af
   have hi21 : decide ((i2 : Int) < 0) = false:=aN
   clear g1 g2;by_cases he : v.m = ⟨#[]⟩
   ·have hq:=cA he;have HEm:=ae he;clear he;obtain ⟨r,hre⟩ : ∃ r : Int,e = .returned (.int .i64 r):=by rcases hf with ⟨j,y,_,_,h⟩ | ⟨_,h⟩ <;> exact ⟨_,h⟩
    subst hre;clear hf;obtain ⟨Gk,Gr,HW⟩:=bD;obtain ⟨k0,k1,k2,k3,k4,k5⟩:=sl6 Gk;obtain ⟨r0,r1,r2,r3,r4,r5,r6,r7⟩:=sl8 Gr;obtain ⟨hne0,HC0⟩:=Al;go_wp2_with fail;refine aj av av ?_;repeat (go_big_quiet_step (first | (go_at_call 111;exact Calls.wide (HC0.out _)) | fail))
    refine wpQuiet_nil ?_;rintro _ ⟨q1,rfl⟩;have HB2:=upB HW q1.b;obtain ⟨Ck,Cr⟩:=fg;clear hne0 HW HB HC0 k0 k1 k2 k3 k4 k5 r0 r1 r2 r3 r4 r5 r6 r7 Gk Gr Bk Br;have HB:=HB2;clear HB2;have Bk:=Ck;clear Ck;have Br:=Cr;clear Cr;go_wp2_with fail;refine ⟨⟨k + 1,by omega,by go_num,fun j z hj hz => ?_,HB.out,Bk.out⟩,by simp [intOf];omega⟩;by_cases e : j = k
    ·subst e;rw [HXv.out] at hz;obtain rfl:=Option.some.inj hz;exact ⟨⟨i2,kd2,HG1.out,HG2.out⟩,.inl HEm.out⟩
    ·exact HQ.out j z af hz
   have hq:=aY he;have HEm:=ae he;clear he;rcases hf with ⟨j4,y,h1,h2,rfl⟩ | ⟨hh,rfl⟩;rotate_left
   ·have HH:=ae hh;clear hh;obtain ⟨Gk,Gr,HW⟩:=bD;obtain ⟨k0,k1,k2,k3,k4,k5⟩:=sl6 Gk;obtain ⟨r0,r1,r2,r3,r4,r5,r6,r7⟩:=sl8 Gr;obtain ⟨hne0,HC0⟩:=Al;go_wp2_with fail;refine aj av av ?_;repeat (go_big_quiet_step (first | (go_at_call 111;exact Calls.wide (HC0.out _)) | fail))
    refine wpQuiet_nil ?_;rintro _ ⟨q1,rfl⟩;have HB2:=upB HW q1.b;obtain ⟨Ck,Cr⟩:=fg;clear hne0 HW HB HC0 k0 k1 k2 k3 k4 k5 r0 r1 r2 r3 r4 r5 r6 r7 Gk Gr Bk Br;have HB:=HB2;clear HB2;have Bk:=Ck;clear Ck;have Br:=Cr;clear Cr;go_wp2;go_ret;refine ar.f (fun h => ?_) HB.out;rcases (h.1 k v HXv.out).2 with h2 | ⟨i,y,h2,h3,_⟩
    ·exact HEm.out h2
    ·exact HH.out i y h2 h3
   have hl4' : j4 < l4:=by have h3:=(List.getElem?_eq_some_iff.1 h1).1;omega
   obtain ⟨b4,o4,y',rfl,hb4,hy',hat⟩:=de HR.out.x hl4';rw [h1] at hy';obtain rfl:=Option.some.inj hy';obtain ⟨z0,z2,z4,c0,c1,c2,c3,c4⟩:=bB hat;have HJ:=ae h1;have HN:=ae h2;have hcv:=(ak HB.out hb4).trans c4;have hbv : b4 < w1.heap.size:=Nat.lt_of_lt_of_le hb4 HB.out.size;have hj0 : ¬ ((j4 : Int) < 0):=af
   have hj1 : decide ((j4 : Int) < 0) = false:=aN
   clear hy' hat z0 z2 z4 c0 c1 c2 c3 c4 h1 h2;by_cases hvn : y.v = v.n
   ·have hq2:=aV hvn;have HVN:=ae hvn;clear hvn;obtain ⟨Gk,Gr,HW⟩:=bD;obtain ⟨k0,k1,k2,k3,k4,k5⟩:=sl6 Gk;obtain ⟨r0,r1,r2,r3,r4,r5,r6,r7⟩:=sl8 Gr;obtain ⟨yw,hne0,HC0⟩:=Ay;go_wp2_with fail;refine aj av av ?_;repeat (go_big_quiet_step (first | (go_at_call 111;exact Calls.wide (HC0.out _)) | fail))
    refine wpQuiet_nil ?_;rintro _ ⟨q1,rfl⟩;have HB2:=upB HW q1.b;obtain ⟨Ck,Cr⟩:=fg;clear hne0 HW HB HC0 k0 k1 k2 k3 k4 k5 r0 r1 r2 r3 r4 r5 r6 r7 yw Gk Gr Bk Br hcv hbv;have HB:=HB2;clear HB2;have Bk:=Ck;clear Ck;have Br:=Cr;clear Cr;go_wp2_with fail;refine ⟨⟨k + 1,by omega,by go_num,fun j z hj hz => ?_,HB.out,Bk.out⟩,by simp [intOf];omega⟩;by_cases e : j = k
    ·subst e;rw [HXv.out] at hz;obtain rfl:=Option.some.inj hz;exact ⟨⟨i2,kd2,HG1.out,HG2.out⟩,.inr ⟨j4,y,HJ.out,HN.out,HVN.out⟩⟩
    ·exact HQ.out j z af hz
   ·have hq2:=bo hvn;have HVN:=ae hvn;clear hvn;obtain ⟨Gk,Gr,HW⟩:=bD;obtain ⟨k0,k1,k2,k3,k4,k5⟩:=sl6 Gk;obtain ⟨r0,r1,r2,r3,r4,r5,r6,r7⟩:=sl8 Gr;obtain ⟨yw,hne0,HC0⟩:=Ay;go_wp2_with fail;refine aj av av ?_;repeat (go_big_quiet_step (first | (go_at_call 111;exact Calls.wide (HC0.out _)) | fail))
    refine wpQuiet_nil ?_;rintro _ ⟨q1,rfl⟩;have HB2:=upB HW q1.b;obtain ⟨Ck,Cr⟩:=fg;clear hne0 HW HB HC0 k0 k1 k2 k3 k4 k5 r0 r1 r2 r3 r4 r5 r6 r7 yw Gk Gr Bk Br hcv hbv;have HB:=HB2;clear HB2;have Bk:=Ck;clear Ck;have Br:=Cr;clear Cr;go_wp2;go_ret;refine ar.f (fun h => ?_) HB.out;rcases (h.1 k v HXv.out).2 with h2 | ⟨i,y2,h2,h3,h4⟩
    ·exact HEm.out h2
    ·obtain ⟨_,rfl⟩:=HXS.out.inj h2 HJ.out (h3.trans HN.out.symm);exact HVN.out h4
  ·obtain rfl : l3 = k:=af
   have HQ1 : Hid (∀ (j : Nat) z,c.vs[j]? = some z → SV c z):=fun j z hz => HQ.out j z cG hz;clear HQ;have kc : wr.cell? ⟨w.heap.size,3,none⟩ = some (.slice a4 l4 y4):=ah Bk.out 3;go_wp2;go_loopw [6] (fun i wr => ∃ k : Nat,k ≤ l4 ∧ i = .int .i64 k ∧ Hid (∀ (j : Nat) z,j < k → c.xs[j]? = some z → SX c z) ∧ Hid (Below w.heap.size w wr) ∧ Hid (wr.heap[w.heap.size]? = some (.cells #[.slice a1 l1 y1,.slice a2 l2 y2,.slice a3 l3 y3,.slice a4 l4 y4,.slice a5 l5 y5,.int .i64 c.now] 37 (0,0)))) (fun i _ => l4 - (intOf i).toNat);case atStart => exact ⟨0,by omega,rfl,fun _ _ h => absurd h af,HB.out,Bk.out⟩
   case round =>
    obtain ⟨k,hk,rfl,HQ,HB,Bk⟩:=hrel;have pk : wr.cell? ⟨w.heap.size,3,none⟩ = some (.slice a4 l4 y4):=ah Bk.out 3;by_cases hlt : k < l4
    ·obtain ⟨b,o,x,rfl,hb,hx,hat⟩:=de (HR.out.x.below HB.out) hlt;obtain ⟨z0,z2,z4,c0,c1,c2,c3,c4⟩:=bB hat;have HXx:=ae hx;have HZx0:=ae z0;have HZx2:=ae z2;have HZx4:=ae z4;clear hat hx z0 z2 z4;obtain ⟨k0,k1,k2,k3,k4,k5⟩:=cs6 Bk.out;have ltk_0:=aa Bk.out;go_wp2_with fail;refine (iN ⟨a1,l1,y1,a2,l2,y2,a3,l3,y3,(some ⟨b,o,none⟩),l4,y4,a5,l5,y5⟩ c.now c.vs x.v _ (HR.out.v.below (HB.out.trans ((an _ _).mono HB.out.size)))).mono ?_;rintro e w1 ⟨hb2,hf⟩;clear k0 k1 k2 k3 k4 k5 ltk_0;obtain ⟨HA0,hbx⟩:=aG hb2;replace Bk:=upK Bk hbx;have Br:=ae HA0;replace HB:=upB HB hbx;clear hb2 hbx HA0;clear pk hb c0 c1 c2 c3 c4;by_cases hkh : zZ c x.k;rotate_left
     ·have HKH:=ae hkh;clear hkh;obtain ⟨r,hre⟩ : ∃ r : Int,e = .returned (.int .i64 r):=by rcases hf with ⟨j,y,_,_,h⟩ | ⟨_,h⟩ <;> exact ⟨_,h⟩
      subst hre;clear hf;obtain ⟨k0,k1,k2,k3,k4,k5⟩:=cs6 Bk.out;have ltk_1:=aa Bk.out;obtain ⟨r0,r1,r2,r3,r4⟩:=cs5 Br.out;have ltr_1:=aa Br.out;go_wp2_with fail;refine (j7 ⟨a1,l1,y1,a2,l2,y2,a3,l3,y3,(some ⟨b,o,none⟩),l4,y4,a5,l5,y5⟩ c.now c.ks x.k _ (HR.out.k.below HB.out) (fun j y h1 h2 => HKH.out ⟨j,y,h1,h2⟩)).mono ?_;rintro e w2 ⟨rfl,hb3⟩;clear k0 k1 k2 k3 k4 k5 ltk_1 r0 r1 r2 r3 r4 ltr_1;replace Bk:=upK Bk hb3;replace Br:=upK Br hb3;replace HB:=upB HB hb3;clear hb3;go_wp2;go_ret;exact ar.f (fun h => HKH.out (h.2 k x HXx.out).1) HB.out
     obtain ⟨i2,kd2,g1,g2⟩:=hkh;have HG1:=ae g1;have HG2:=ae g2;have hi20 : ¬ ((i2 : Int) < 0):=af
     have hi21 : decide ((i2 : Int) < 0) = false:=aN
     clear g1 g2;by_cases he : x.v = ⟨#[]⟩
     ·have hq:=cA he;have HEm:=ae he;clear he;obtain ⟨r,hre⟩ : ∃ r : Int,e = .returned (.int .i64 r):=by rcases hf with ⟨j,y,_,_,h⟩ | ⟨_,h⟩ <;> exact ⟨_,h⟩
      subst hre;clear hf;obtain ⟨k0,k1,k2,k3,k4,k5⟩:=cs6 Bk.out;have ltk_1:=aa Bk.out;obtain ⟨r0,r1,r2,r3,r4⟩:=cs5 Br.out;have ltr_1:=aa Br.out;go_wp2_with fail;refine (dA ⟨a1,l1,y1,a2,l2,y2,a3,l3,y3,(some ⟨b,o,none⟩),l4,y4,a5,l5,y5⟩ c.now c.ks x.k _ (HR.out.k.below HB.out) HKS.out HG1.out HG2.out).mono ?_;rintro e w2 ⟨rfl,hb3⟩;clear k0 k1 k2 k3 k4 k5 ltk_1 r0 r1 r2 r3 r4 ltr_1;replace Bk:=upK Bk hb3;replace Br:=upK Br hb3;replace HB:=upB HB hb3;clear hb3;obtain ⟨k0,k1,k2,k3,k4,k5⟩:=cs6 Bk.out;have ltk_2:=aa Bk.out;obtain ⟨r0,r1,r2,r3,r4⟩:=cs5 Br.out;have ltr_2:=aa Br.out;go_wp2_with fail;refine ⟨⟨k + 1,by omega,by go_num,fun j z hj hz => ?_,HB.out,Bk.out⟩,by simp [intOf];omega⟩;by_cases e : j = k
      ·subst e;rw [HXx.out] at hz;obtain rfl:=Option.some.inj hz;exact ⟨⟨i2,kd2,HG1.out,HG2.out⟩,.inl HEm.out⟩
      ·exact HQ.out j z af hz
     have hq:=aY he;have HEm:=ae he;clear he;rcases hf with ⟨j3,y,h1,h2,rfl⟩ | ⟨hh,rfl⟩;rotate_left
     ·have HH:=ae hh;clear hh;obtain ⟨k0,k1,k2,k3,k4,k5⟩:=cs6 Bk.out;have ltk_1:=aa Bk.out;obtain ⟨r0,r1,r2,r3,r4⟩:=cs5 Br.out;have ltr_1:=aa Br.out;go_wp2_with fail;refine (dA ⟨a1,l1,y1,a2,l2,y2,a3,l3,y3,(some ⟨b,o,none⟩),l4,y4,a5,l5,y5⟩ c.now c.ks x.k _ (HR.out.k.below HB.out) HKS.out HG1.out HG2.out).mono ?_;rintro e w2 ⟨rfl,hb3⟩;clear k0 k1 k2 k3 k4 k5 ltk_1 r0 r1 r2 r3 r4 ltr_1;replace Bk:=upK Bk hb3;replace Br:=upK Br hb3;replace HB:=upB HB hb3;clear hb3;have pr : w2.cell? ⟨wr.heap.size,4,none⟩ = some (.string x.v):=ah Br.out 4;obtain ⟨Gk,Gr,HW⟩:=bD;have k2:=fun q : Wd w2 => q.slot (o:=2) Gk.out rfl;obtain ⟨r0,r1,r2,r3,r4⟩:=sl5 Gr;have hne0:=Wd.ne w2;go_wp2_with fail;refine aj av av ?_;repeat (go_big_quiet_step (first | fail))
      refine wpQuiet_nil ?_;rintro _ ⟨q1,rfl⟩;have HB3:=upB HW q1.b;obtain ⟨Ck,Cr⟩:=fg;clear hne0 HW HB k2 r0 r1 r2 r3 r4 Gk Gr Bk Br pr;have HB:=HB3;clear HB3;have Bk:=Ck;clear Ck;have Br:=Cr;clear Cr;go_wp2;go_ret;refine ar.f (fun h => ?_) HB.out;rcases (h.2 k x HXx.out).2 with h2 | ⟨i,y,h2,h3,_⟩
      ·exact HEm.out h2
      ·exact HH.out i y h2 h3
     have hl3' : j3 < l3:=by have h3:=(List.getElem?_eq_some_iff.1 h1).1;omega
     obtain ⟨b3,o3,y',rfl,hb3,hy',hat⟩:=bC HR.out.v hl3';rw [h1] at hy';obtain rfl:=Option.some.inj hy';obtain ⟨va,vl,vc,hvr,z0,z2,z3,z5,c0,c1,c2,c3,c4,c5,c6,c7⟩:=aK hat;have HJ:=ae h1;have HN:=ae h2;have hj0 : ¬ ((j3 : Int) < 0):=af
     have hj1 : decide ((j3 : Int) < 0) = false:=aN
     have HC1:=ae c1;have HC3:=ae c3;have HC4:=ae c4;have HC5:=ae c5;have HB3:=ae hb3;clear hy' hat hvr z0 z2 z3 z5 c0 c1 c2 c3 c4 c5 c6 c7 h1 h2 hb3;obtain ⟨k0,k1,k2,k3,k4,k5⟩:=cs6 Bk.out;have ltk_1:=aa Bk.out;obtain ⟨r0,r1,r2,r3,r4⟩:=cs5 Br.out;have ltr_1:=aa Br.out;go_wp2_with fail;refine (dA ⟨a1,l1,y1,a2,l2,y2,(some ⟨b3,o3,none⟩),l3,y3,(some ⟨b,o,none⟩),l4,y4,a5,l5,y5⟩ c.now c.ks x.k _ (HR.out.k.below HB.out) HKS.out HG1.out HG2.out).mono ?_;rintro e w2 ⟨rfl,hb3⟩;clear k0 k1 k2 k3 k4 k5 ltk_1 r0 r1 r2 r3 r4 ltr_1;replace Bk:=upK Bk hb3;replace Br:=upK Br hb3;replace HB:=upB HB hb3;clear hb3;have pr : w2.cell? ⟨wr.heap.size,4,none⟩ = some (.string x.v):=ah Br.out 4;have hbv : b3 < w2.heap.size:=Nat.lt_of_lt_of_le HB3.out HB.out.size;have v1:=(ak HB.out HB3.out).trans HC1.out;have v3:=(ak HB.out HB3.out).trans HC3.out;have v4:=(ak HB.out HB3.out).trans HC4.out;have v5:=(ak HB.out HB3.out).trans HC5.out;clear HC1 HC3 HC4 HC5 HB3;by_cases hno : y.m = x.n;rotate_left
     ·have HNo:=ae hno;clear hno;have n1:=bo HNo.out;obtain ⟨Gk,Gr,HW⟩:=bD;have k2:=fun q : Wd w2 => q.slot (o:=2) Gk.out rfl;obtain ⟨r0,r1,r2,r3,r4⟩:=sl5 Gr;obtain ⟨v1w,v3w,v4w,v5w,hne0⟩:=ni;go_wp2_with fail;refine aj av av ?_;repeat (go_big_quiet_step (first | fail))
      refine wpQuiet_nil ?_;rintro _ ⟨q1,rfl⟩;have HB3:=upB HW q1.b;obtain ⟨Ck,Cr⟩:=fg;clear hne0 HW HB k2 r0 r1 r2 r3 r4 v1w v3w v4w v5w Gk Gr Bk Br pr v1 v3 v4 v5 hbv;have HB:=HB3;clear HB3;have Bk:=Ck;clear Ck;have Br:=Cr;clear Cr;go_wp2;go_ret;refine ar.f (fun h => ?_) HB.out;rcases (h.2 k x HXx.out).2 with h2 | ⟨i,y2,h2,h3,h4⟩
      ·exact HEm.out h2
      ·obtain ⟨_,rfl⟩:=HVS.out.inj h2 HJ.out (h3.trans HN.out.symm);exact HNo.out h4.1
     have HY1:=ae hno;have q1:=aV hno;clear hno;by_cases hno : x.z ≤ y.c;rotate_left
     ·have HNo:=ae hno;clear hno;have n1 : y.c < x.z:=by have:=HNo.out;omega
      obtain ⟨Gk,Gr,HW⟩:=bD;have k2:=fun q : Wd w2 => q.slot (o:=2) Gk.out rfl;obtain ⟨r0,r1,r2,r3,r4⟩:=sl5 Gr;obtain ⟨v1w,v3w,v4w,v5w,hne0⟩:=ni;go_wp2_with fail;refine aj av av ?_;repeat (go_big_quiet_step (first | fail))
      refine wpQuiet_nil ?_;rintro _ ⟨q1,rfl⟩;have HB3:=upB HW q1.b;obtain ⟨Ck,Cr⟩:=fg;clear hne0 HW HB k2 r0 r1 r2 r3 r4 v1w v3w v4w v5w Gk Gr Bk Br pr v1 v3 v4 v5 hbv;have HB:=HB3;clear HB3;have Bk:=Ck;clear Ck;have Br:=Cr;clear Cr;go_wp2;go_ret;refine ar.f (fun h => ?_) HB.out;rcases (h.2 k x HXx.out).2 with h2 | ⟨i,y2,h2,h3,h4⟩
      ·exact HEm.out h2
      ·obtain ⟨_,rfl⟩:=HVS.out.inj h2 HJ.out (h3.trans HN.out.symm);have h5:=h4.2.1;have h6:=HNo.out;omega
     have HY2:=ae hno;have q2 : decide (y.c < x.z) = false:=by simp;omega
     clear hno;by_cases hno : y.k = x.k;rotate_left
     ·have HNo:=ae hno;clear hno;have n1:=bo HNo.out;obtain ⟨Gk,Gr,HW⟩:=bD;have k2:=fun q : Wd w2 => q.slot (o:=2) Gk.out rfl;obtain ⟨r0,r1,r2,r3,r4⟩:=sl5 Gr;obtain ⟨v1w,v3w,v4w,v5w,hne0⟩:=ni;go_wp2_with fail;refine aj av av ?_;repeat (go_big_quiet_step (first | fail))
      refine wpQuiet_nil ?_;rintro _ ⟨q1,rfl⟩;have HB3:=upB HW q1.b;obtain ⟨Ck,Cr⟩:=fg;clear hne0 HW HB k2 r0 r1 r2 r3 r4 v1w v3w v4w v5w Gk Gr Bk Br pr v1 v3 v4 v5 hbv;have HB:=HB3;clear HB3;have Bk:=Ck;clear Ck;have Br:=Cr;clear Cr;go_wp2;go_ret;refine ar.f (fun h => ?_) HB.out;rcases (h.2 k x HXx.out).2 with h2 | ⟨i,y2,h2,h3,h4⟩
      ·exact HEm.out h2
      ·obtain ⟨_,rfl⟩:=HVS.out.inj h2 HJ.out (h3.trans HN.out.symm);exact HNo.out h4.2.2.1
     have HY3:=ae hno;have q3:=aV hno;clear hno;by_cases hno : y.x = x.x;rotate_left
     ·have HNo:=ae hno;clear hno;have n1 : (y.x == x.x) = false:=by simpa using HNo.out
      obtain ⟨Gk,Gr,HW⟩:=bD;have k2:=fun q : Wd w2 => q.slot (o:=2) Gk.out rfl;obtain ⟨r0,r1,r2,r3,r4⟩:=sl5 Gr;obtain ⟨v1w,v3w,v4w,v5w,hne0⟩:=ni;go_wp2_with fail;refine aj av av ?_;repeat (go_big_quiet_step (first | fail))
      refine wpQuiet_nil ?_;rintro _ ⟨q1,rfl⟩;have HB3:=upB HW q1.b;obtain ⟨Ck,Cr⟩:=fg;clear hne0 HW HB k2 r0 r1 r2 r3 r4 v1w v3w v4w v5w Gk Gr Bk Br pr v1 v3 v4 v5 hbv;have HB:=HB3;clear HB3;have Bk:=Ck;clear Ck;have Br:=Cr;clear Cr;go_wp2;go_ret;refine ar.f (fun h => ?_) HB.out;rcases (h.2 k x HXx.out).2 with h2 | ⟨i,y2,h2,h3,h4⟩
      ·exact HEm.out h2
      ·obtain ⟨_,rfl⟩:=HVS.out.inj h2 HJ.out (h3.trans HN.out.symm);exact HNo.out h4.2.2.2
     have HY4:=ae hno;have q4 : (y.x == x.x) = true:=by simpa using hno
     clear hno;obtain ⟨Gk,Gr,HW⟩:=bD;have k2:=fun q : Wd w2 => q.slot (o:=2) Gk.out rfl;obtain ⟨r0,r1,r2,r3,r4⟩:=sl5 Gr;obtain ⟨v1w,v3w,v4w,v5w,hne0⟩:=ni;go_wp2_with fail;refine aj av av ?_;repeat (go_big_quiet_step (first | fail))
     refine wpQuiet_nil ?_;rintro _ ⟨qz,rfl⟩;have HB3:=upB HW qz.b;have Ck:=upK Gk qz.b;have Cr:=upK Gr qz.b;clear hne0 HW HB k2 r0 r1 r2 r3 r4 v1w v3w v4w v5w Gk Gr Bk Br pr v1 v3 v4 v5 hbv;have HB:=HB3;clear HB3;have Bk:=Ck;clear Ck;have Br:=Cr;clear Cr;clear q1 q2 q3 q4;go_wp2_with fail;refine ⟨⟨k + 1,by omega,by go_num,fun j z hj hz => ?_,HB.out,Bk.out⟩,by simp [intOf];omega⟩;by_cases e : j = k
     ·subst e;rw [HXx.out] at hz;obtain rfl:=Option.some.inj hz;exact ⟨⟨i2,kd2,HG1.out,HG2.out⟩,.inr ⟨j3,y,HJ.out,HN.out,HY1.out,HY2.out,HY3.out,HY4.out⟩⟩
     ·exact HQ.out j z af hz
    ·obtain rfl : l4 = k:=af
     have HQ2 : Hid (∀ (j : Nat) z,c.xs[j]? = some z → SX c z):=fun j z hz => HQ.out j z cG hz;exact lG

end Rc
end Go.Proofs.YtdoldaceehdifaaGreatDoor

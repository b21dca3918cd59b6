import Derived.Test.YtpibkpofdbjdaaaGreatDoorB2
/-
 Small questions of the specification on a cluster.
-/
set_option maxRecDepth 100000
set_option maxHeartbeats 12800000
namespace Go.Proofs.YtpibkpofdbjdaaaGreatDoor
theorem qqd12 {p : Prop} (h : p:=by rw [Nat.sub_add_cancel hk0];exact HXx.out) : p:=h
theorem qqd27 {p : Prop} (h : p:=by have h1:=(List.getElem?_eq_some_iff.1 ht).1;have h2:=HVL.out;omega) : p:=h
end Go.Proofs.YtpibkpofdbjdaaaGreatDoor
namespace Go.Proofs.YtpibkpofdbjdaaaGreatDoor
theorem qqa1 {p : Prop} (h : p:=by
 rcases hcase with ⟨v,hbd⟩ | hbd
 ·obtain ⟨j3,hj3⟩:=hbd.at;have hl3' : j3 < l3:=by have h1:=(List.getElem?_eq_some_iff.1 hj3).1;omega
  obtain ⟨b3,o3,v',rfl,hb3,hv',hat⟩:=vd_at HR.out.v hl3';rw [hj3] at hv';obtain rfl:=Option.some.inj hv';obtain ⟨xa,xl,xc,hvr,z0,z2,z3,z5,d0,d1,d2,d3,d4,d5,d6,d7⟩:=vd_cells hat;have HJ:=hidK hj3;have HD:=hidK hbd;have HC2:=hidK d2;have HB3:=hidK hb3;have hj31 : decide ((j3 : Int) < 0) = false:=qqd6
  clear hv' hat hvr z0 z2 z3 z5 d0 d1 d2 d3 d4 d5 d6 d7 hj3 hbd hb3;obtain ⟨Gk,Gr,HW⟩:=qqb37;obtain ⟨k0,k1,k2,k3,k4,k5⟩:=sl6 Gk;have r3:=fun q : Wd wr => q.slot (o:=3) Gr.out rfl;obtain ⟨tw,hne0⟩:=qqb44;have HC0:=hidK (fun q : Wd wr => sbind_hit ⟨(some ⟨b1,o1,none⟩),l1,y1,a2,l2,y2,(some ⟨b3,o3,none⟩),l3,y3,a4,l4,y4,(some ⟨b,o,none⟩),l5,y5⟩ c t q.w (HR.out.below (HW.out.trans (q.b.mono HW.out.size))) HX.out HV.out HNE.out HJ.out HD.out);go_wp2_with fail;refine wp_region_wide qqd2 qqd2 ?_;repeat (go_big_quiet_step (first | (go_at_call 120;exact Calls.wide (HC0.out _)) | fail))
  refine wpQuiet_nil ?_;rintro _ ⟨q1,rfl⟩;have HB1:=upB HW q1.b;obtain ⟨Ck,Cr⟩:=qqb34;clear hne0 HW HB HC0 k0 k1 k2 k3 k4 k5 r3 tw Gk Gr Bk Br pr3;have HB:=HB1;clear HB1;have Bk:=Ck;clear Ck;have Br:=Cr;clear Cr;obtain ⟨hc1,hb1,HBW1⟩:=qqb51;clear hc hb HBW;by_cases hg : ∃ (i : Nat) (x : Xd),c.xs[i]? = some x ∧ x.n = t;rotate_left
  ·have HG:=hidK hg;clear hg;obtain ⟨Gk,Gr,HW⟩:=qqb37;obtain ⟨k0,k1,k2,k3,k4,k5⟩:=sl6 Gk;obtain ⟨r0,r1,r2,r3,r4,r5⟩:=sl6 Gr;obtain ⟨tw,hne0⟩:=qqb45;have HC0:=hidK (fun q : Wd q1.w => sxxd_miss ⟨(some ⟨b1,o1,none⟩),l1,y1,a2,l2,y2,(some ⟨b3,o3,none⟩),l3,y3,a4,l4,y4,(some ⟨b,o,none⟩),l5,y5⟩ c.now c.xs t q.w (HR.out.x.below (HW.out.trans (q.b.mono HW.out.size))) (fun i x h1 h2 => HG.out ⟨i,x,h1,h2⟩));exact qqa112
  obtain ⟨i4,x4,g1,g2⟩:=hg;obtain ⟨HG1,HG2,hi41⟩:=qqb87;clear g1 g2;have hbv : b3 < q1.w.heap.size:=Nat.lt_of_lt_of_le HB3.out HB.out.size;have v2:=(cell_below HB.out HB3.out).trans HC2.out;have hbn : b1 < q1.w.heap.size:=Nat.lt_of_lt_of_le HBn.out HB.out.size;have n1:=(cell_below HB.out HBn.out).trans HCn.out;by_cases hz : v.z = n.z
  ·have hzq:=tl_yes hz;have HZ:=hidK hz;clear hz;obtain ⟨Gk,Gr,HW⟩:=qqb37;obtain ⟨k0,k1,k2,k3,k4,k5⟩:=sl6 Gk;obtain ⟨r0,r1,r2,r3,r4,r5⟩:=sl6 Gr;obtain ⟨tw,vw,nw,hne0,HC0⟩:=qqb38;go_wp2_with fail;refine wp_region_wide qqd2 qqd2 ?_;repeat (go_big_quiet_step (first | (go_at_call 117;exact Calls.wide (HC0.out _)) | fail))
   refine wpQuiet_nil ?_;rintro _ ⟨q2,rfl⟩;obtain ⟨HB2,Ck⟩:=qqb42;have Cr:=upK Gr q2.b;clear hne0 HW HB HC0 k0 k1 k2 k3 k4 k5 r0 r1 r2 r3 r4 r5 tw vw nw Gk Gr Bk Br hc1 hb1 hbv v2 hbn n1;have HB:=HB2;clear HB2;have Bk:=Ck;clear Ck;have Br:=Cr;clear Cr;clear hzq;go_wp2_with fail;refine ⟨⟨kq + 1,by omega,by go_num,fun j s hj hs => ?_,HBW1.out.trans (q2.b.mono HBW1.out.size)⟩,by simp [intOf];omega⟩;by_cases e : j = kq
   ·subst e;rw [HXt.out] at hs;obtain rfl:=Option.some.inj hs;exact ⟨⟨i4,x4,HG1.out,HG2.out⟩,.inr ⟨v,j1,n,HD.out,HJn.out,HNn.out,HZ.out⟩⟩
   ·exact HQ2.out j s qqd1 hs
  ·have hzq:=tl_no hz;have HZ:=hidK hz;clear hz;obtain ⟨Gk,Gr,HW⟩:=qqb37;obtain ⟨k0,k1,k2,k3,k4,k5⟩:=sl6 Gk;obtain ⟨r0,r1,r2,r3,r4,r5⟩:=sl6 Gr;obtain ⟨tw,vw,nw,hne0,HC0⟩:=qqb38;go_wp2_with fail;refine wp_region_wide qqd2 qqd2 ?_;repeat (go_big_quiet_step (first | (go_at_call 117;exact Calls.wide (HC0.out _)) | fail))
   refine wpQuiet_nil ?_;rintro _ ⟨q2,rfl⟩;obtain ⟨HB2,Ck⟩:=qqb42;have Cr:=upK Gr q2.b;clear hne0 HW HB HC0 k0 k1 k2 k3 k4 k5 r0 r1 r2 r3 r4 r5 tw vw nw Gk Gr Bk Br hc1 hb1 hbv v2 hbn n1;have HB:=HB2;clear HB2;have Bk:=Ck;clear Ck;have Br:=Cr;clear Cr;go_wp2;go_ret;refine BoolB.f (fun h => ?_) HB.out;have h9:=(h.1 k p HXp.out).2.1 kq t HXt.out;rcases h9.2 with h2 | ⟨v',i,n',h2,h3,h4,h5⟩
   ·exact HEm.out h2
   ·obtain rfl:=IsBd.inj HX.out HV.out HD.out h2;obtain ⟨_,rfl⟩:=HNR.out.inj h3 HJn.out (h4.trans HNn.out.symm);exact HZ.out h5
 ·have HD:=hidK hbd;clear hbd;obtain ⟨Gk,Gr,HW⟩:=qqb37;obtain ⟨k0,k1,k2,k3,k4,k5⟩:=sl6 Gk;have r3:=fun q : Wd wr => q.slot (o:=3) Gr.out rfl;obtain ⟨tw,hne0⟩:=qqb44;have HC0:=hidK (fun q : Wd wr => sbind_miss ⟨(some ⟨b1,o1,none⟩),l1,y1,a2,l2,y2,a3,l3,y3,a4,l4,y4,(some ⟨b,o,none⟩),l5,y5⟩ c t q.w (HR.out.below (HW.out.trans (q.b.mono HW.out.size))) HX.out HV.out HNE.out HD.out);go_wp2_with fail;refine wp_region_wide qqd2 qqd2 ?_;repeat (go_big_quiet_step (first | (go_at_call 120;exact Calls.wide (HC0.out _)) | fail))
  refine wpQuiet_nil ?_;rintro _ ⟨q1,rfl⟩;have HB1:=upB HW q1.b;obtain ⟨Ck,Cr⟩:=qqb34;clear hne0 HW HB HC0 k0 k1 k2 k3 k4 k5 r3 tw Gk Gr Bk Br pr3;have HB:=HB1;clear HB1;have Bk:=Ck;clear Ck;have Br:=Cr;clear Cr;obtain ⟨hc1,hb1,HBW1⟩:=qqb51;clear hc hb HBW;by_cases hg : ∃ (i : Nat) (x : Xd),c.xs[i]? = some x ∧ x.n = t;rotate_left
  ·have HG:=hidK hg;clear hg;obtain ⟨Gk,Gr,HW⟩:=qqb37;obtain ⟨k0,k1,k2,k3,k4,k5⟩:=sl6 Gk;obtain ⟨r0,r1,r2,r3,r4,r5⟩:=sl6 Gr;obtain ⟨tw,hne0⟩:=qqb45;have HC0:=hidK (fun q : Wd q1.w => sxxd_miss ⟨(some ⟨b1,o1,none⟩),l1,y1,a2,l2,y2,a3,l3,y3,a4,l4,y4,(some ⟨b,o,none⟩),l5,y5⟩ c.now c.xs t q.w (HR.out.x.below (HW.out.trans (q.b.mono HW.out.size))) (fun i x h1 h2 => HG.out ⟨i,x,h1,h2⟩));exact qqa112
  obtain ⟨i4,x4,g1,g2⟩:=hg;obtain ⟨HG1,HG2,hi41⟩:=qqb87;clear g1 g2;obtain ⟨Gk,Gr,HW⟩:=qqb37;obtain ⟨k0,k1,k2,k3,k4,k5⟩:=sl6 Gk;obtain ⟨r0,r1,r2,r3,r4,r5⟩:=sl6 Gr;obtain ⟨tw,hne0⟩:=qqb45;have HC0:=hidK (fun q : Wd q1.w => sxxd_hit ⟨(some ⟨b1,o1,none⟩),l1,y1,a2,l2,y2,a3,l3,y3,a4,l4,y4,(some ⟨b,o,none⟩),l5,y5⟩ c.now c.xs t q.w (HR.out.x.below (HW.out.trans (q.b.mono HW.out.size))) HX.out HG1.out HG2.out);go_wp2_with fail;refine wp_region_wide qqd2 qqd2 ?_;repeat (go_big_quiet_step (first | (go_at_call 117;exact Calls.wide (HC0.out _)) | fail))
  refine wpQuiet_nil ?_;rintro _ ⟨q2,rfl⟩;obtain ⟨HB2,Ck⟩:=qqb42;have Cr:=upK Gr q2.b;clear hne0 HW HB HC0 k0 k1 k2 k3 k4 k5 r0 r1 r2 r3 r4 r5 tw Gk Gr Bk Br hc1 hb1;have HB:=HB2;clear HB2;have Bk:=Ck;clear Ck;have Br:=Cr;clear Cr;go_wp2;go_ret;refine BoolB.f (fun h => ?_) HB.out;have h9:=(h.1 k p HXp.out).2.1 kq t HXt.out;rcases h9.2 with h2 | ⟨v',i,n',h2,_⟩
  ·exact HEm.out h2
  ·exact HD.out v' h2) : p:=h
theorem qqa2 {p : Prop} (h : p:=by
 obtain rfl : vl = kq:=qqd1
 have HQb : Hid (PSb c p):=fun j t ht => HQ2.out j t qqd27 ht;clear HQ2;have TV2:=hidK (TV.out.below HBW.out);have KV2:=Bk;have GV2:=Br;have BV2:=HB;clear KV GV BV TV Bk Br HB HBW;obtain ⟨W2,hW⟩ : ∃ W2,W2 = wr:=⟨_,rfl⟩;rw [← hW] at KV2 GV2 BV2 TV2;go_wp2;clear pr3;rw [← hW];clear hW;go_loopw [8] (fun i wr => ∃ kz : Nat,kz ≤ k ∧ i = .int .i64 kz ∧ Hid (∀ (j : Nat) q,j < kz → c.ps[j]? = some q → PairS c q p) ∧ Hid (Below W2.heap.size W2 wr)) (fun i _ => k - (intOf i).toNat);case atStart => exact ⟨0,by omega,rfl,fun _ _ h => absurd h qqd1,Below.refl _ _⟩
 case round =>
  obtain ⟨kz,hkz,rfl,HQ3,HBW⟩:=hrel;have HB:=hidK (BV2.out.trans (HBW.out.mono BV2.out.size));have Bk:=upK KV2 HBW.out;have Br:=upK GV2 HBW.out;have HTp:=hidK (TV2.out.below HBW.out);by_cases hlt3 : kz < k
  ·obtain ⟨b',o',pq,e',hb',hqq,hatq⟩:=pd_at (HR.out.p.below HB.out) (show kz < l5 by omega);cases e';obtain ⟨qa,ql,qc,hqr,z0,z2,z4,d0,d1,d2,d3,d4,d5⟩:=pd_cells hatq;have HXq:=hidK hqq;have HTq:=hidK hqr;clear hatq hqq hqr z0 z2 z4;by_cases hpr : PairS c pq p
   ·have HPr:=hidK hpr;clear hpr;obtain ⟨Gk,Gr,HW⟩:=qqb37;obtain ⟨k0,k1,k2,k3,k4,k5⟩:=sl6 Gk;obtain ⟨r0,r1,r2,r3,r4,r5⟩:=sl6 Gr;obtain ⟨q0,q1,q2,q3,q4,q5,hne0⟩:=qqb3;have HC0:=hidK (fun qw : Wd wr => (spair_any ⟨(some ⟨b1,o1,none⟩),l1,y1,a2,l2,y2,a3,l3,y3,a4,l4,y4,(some ⟨b,o,none⟩),l5,y5⟩ c pq p qa ql qc va vl vc qw.w (HR.out.below (HW.out.trans (qw.b.mono HW.out.size))) HX.out HV.out HNE.out (HTq.out.below qw.b) (HTp.out.below qw.b)).mono (fun _ _ h => BoolB.yes h HPr.out));exact qqa115
   ·have HPr:=hidK hpr;clear hpr;obtain ⟨Gk,Gr,HW⟩:=qqb37;obtain ⟨k0,k1,k2,k3,k4,k5⟩:=sl6 Gk;obtain ⟨r0,r1,r2,r3,r4,r5⟩:=sl6 Gr;obtain ⟨q0,q1,q2,q3,q4,q5,hne0⟩:=qqb3;have HC0:=hidK (fun qw : Wd wr => (spair_any ⟨(some ⟨b1,o1,none⟩),l1,y1,a2,l2,y2,a3,l3,y3,a4,l4,y4,(some ⟨b,o,none⟩),l5,y5⟩ c pq p qa ql qc va vl vc qw.w (HR.out.below (HW.out.trans (qw.b.mono HW.out.size))) HX.out HV.out HNE.out (HTq.out.below qw.b) (HTp.out.below qw.b)).mono (fun _ _ h => BoolB.no h HPr.out));exact qqa118
  ·exact qqa122) : p:=h
theorem qqa4 {p : Prop} (h : p:=by
 exact qqa112) : p:=h
theorem qqa6 {p : Prop} (h : p:=by
 have HB:=HB1;clear HB1;have Bk:=Ck;clear Ck;clear hk0' ek;go_wp2_with fail;refine ⟨⟨k + 1,by omega,by go_num,fun j z hj hz => ?_,fun j z y hj hz hy => ?_,HB.out,Bk.out⟩,by simp [intOf];omega⟩
 ·exact qqa139
 ·by_cases e : j + 1 = k
  ·have hj : j = k - 1:=qqd1
   subst hj;rw [Nat.sub_add_cancel hk0,HXx.out] at hz;obtain rfl:=Option.some.inj hz;rw [HXy.out] at hy;obtain rfl:=Option.some.inj hy;exact hless
  ·exact HO.out j z y qqd1 hz hy) : p:=h
theorem qqa9 {p : Prop} (h : p:=by
 have HB:=HB1;clear HB1;have Bk:=Ck;clear Ck;clear hd;go_wp2_with fail;refine ⟨⟨k + 1,by omega,by go_num,fun j z hj hz => ?_,fun j z y hj hz hy => ?_,HB.out,Bk.out⟩,by simp [intOf];omega⟩
 ·exact qqa139
 ·by_cases e : j + 1 = k
  ·exact absurd hk0 qqd1
  ·exact HO.out j z y qqd1 hz hy) : p:=h
theorem qqa36 {p : Prop} (h : p:=by
 rintro e w' ⟨hb,h⟩;rcases h with ⟨i,y,h1,h2,rfl⟩ | ⟨h1,rfl⟩
 ·obtain ⟨rfl,_⟩:=hs.inj h1 hx (h2.trans hn.symm);exact ⟨rfl,hb⟩
 ·exact absurd hn (h1 j x hx)) : p:=h
theorem qqa49 {p : Prop} (h : p:=by
 rintro e w' ⟨hb,h⟩;rcases h with ⟨i,y,h1,h2,rfl⟩ | ⟨h1,rfl⟩
 ·exact absurd h2 (hn i y h1)
 ·exact ⟨rfl,hb⟩) : p:=h
theorem qqa64 {p : Prop} (h : p:=by
 have HCq:=hidK hq;go_wp2_with fail;refine ⟨⟨k + 1,by omega,by go_num,fun j z hj hz => ?_,HB.out,Bk.out⟩,by simp [intOf];omega⟩;by_cases e : j = k
 ·subst e;rw [HXn.out] at hz;obtain rfl:=Option.some.inj hz;exact HCq.out
 ·exact HQ.out j z qqd1 hz) : p:=h
theorem qqa68 {p : Prop} (h : p:=by
 obtain ⟨q,h1,h2⟩:=haty 0 _ rfl;obtain ⟨rfl,-⟩:=h2;exact h1) : p:=h
theorem qqa71 {p : Prop} (h : p:=by
 by_cases h : ∃ v,IsBd c t v
 ·exact .inl h
 ·exact .inr (fun v hv => h ⟨v,hv⟩)) : p:=h
theorem qqa90 {p : Prop} (h : p:=by
 obtain rfl : l1 = k:=qqd1
 go_wp2;go_ret;exact BoolB.t ⟨HQ1.out,fun j n hz => HQ.out j n qqd4 hz⟩ HB.out) : p:=h
theorem qqa103 {p : Prop} (h : p:=by
 subst e;rw [HXt.out] at hs;obtain rfl:=Option.some.inj hs;exact ⟨⟨i4,x4,HG1.out,HG2.out⟩,.inl HEm.out⟩) : p:=h
theorem qqa111 {p : Prop} (h : p:=by
 obtain ⟨gb,hgb⟩ : ∃ gb,gb = wr.heap.size:=⟨_,rfl⟩;rw [← hgb] at Br;have pr3 : q0.w.cell? ⟨gb,3,none⟩ = some (.slice va vl vc):=cellK Br.out 3;rw [hgb] at pr3;go_wp2;rw [← hgb];clear pr3 hgb;have KV:=Bk;have GV:=Br;have BV:=HB;have TV:=HTp;clear Bk Br HB HTp;obtain ⟨W,hW⟩ : ∃ W,W = q0.w:=⟨_,rfl⟩;rw [← hW] at KV GV BV TV ⊢;clear hW;go_loopw [6] (fun i wr => ∃ kq : Nat,kq ≤ vl ∧ i = .int .i64 kq ∧ Hid (∀ (j : Nat) t,j < kq → p.zs[j]? = some t → PSb1 c p t) ∧ Hid (Below W.heap.size W wr)) (fun i _ => vl - (intOf i).toNat);case atStart => exact ⟨0,by omega,rfl,fun _ _ h => absurd h qqd1,Below.refl _ _⟩
 case round =>
  obtain ⟨kq,hkq,rfl,HQ2,HBW⟩:=hrel;obtain ⟨HB,Bk⟩:=qqb60;have Br:=upK GV HBW.out;have pr3 : wr.cell? ⟨gb,3,none⟩ = some (.slice va vl vc):=cellK Br.out 3;by_cases hlt2 : kq < vl
  ·obtain ⟨b2,o2,t,rfl,hb,hxt,hc,hsz⟩:=(TV.out.below HBW.out).at hlt2;have HXt:=hidK hxt;clear hxt hsz;have hcase : (∃ v,IsBd c t v) ∨ (∀ v,¬ IsBd c t v):=by
    by_cases h : ∃ v,IsBd c t v
    ·exact .inl h
    ·exact .inr (fun v hv => h ⟨v,hv⟩)
   exact qqa1
  ·exact qqa2) : p:=h
theorem qqa112 {p : Prop} (h : p:=by
 go_wp2_with fail;refine wp_region_wide qqd2 qqd2 ?_;repeat (go_big_quiet_step (first | (go_at_call 117;exact Calls.wide (HC0.out _)) | fail))
 refine wpQuiet_nil ?_;rintro _ ⟨q2,rfl⟩;obtain ⟨HB2,Ck⟩:=qqb42;have Cr:=upK Gr q2.b;clear hne0 HW HB HC0 k0 k1 k2 k3 k4 k5 r0 r1 r2 r3 r4 r5 tw Gk Gr Bk Br hc1 hb1;have HB:=HB2;clear HB2;have Bk:=Ck;clear Ck;have Br:=Cr;clear Cr;go_wp2;go_ret;refine BoolB.f (fun h => ?_) HB.out;have h9:=(h.1 k p HXp.out).2.1 kq t HXt.out;exact HG.out h9.1) : p:=h
theorem qqa115 {p : Prop} (h : p:=by
 go_wp2_with fail;refine wp_region_wide qqd2 qqd2 ?_;repeat (go_big_quiet_step (first | (go_at_call 121;exact Calls.wide (HC0.out _)) | fail))
 refine wpQuiet_nil ?_;rintro _ ⟨q9,rfl⟩;have HB1:=upB HW q9.b;have Ck:=upK Gk q9.b;have Cr:=upK Gr q9.b;clear hne0 HW HB HC0 k0 k1 k2 k3 k4 k5 r0 r1 r2 r3 r4 r5 q0 q1 q2 q3 q4 q5 Gk Gr Bk Br d0 d1 d2 d3 d4 d5;have HB:=HB1;clear HB1;have Bk:=Ck;clear Ck;have Br:=Cr;clear Cr;go_wp2_with fail;refine ⟨⟨kz + 1,by omega,by go_num,fun j s hj hs => ?_,HBW.out.trans (q9.b.mono HBW.out.size)⟩,by simp [intOf];omega⟩;by_cases e : j = kz
 ·subst e;rw [HXq.out] at hs;obtain rfl:=Option.some.inj hs;exact HPr.out
 ·exact HQ3.out j s qqd1 hs) : p:=h
theorem qqa116 {p : Prop} (h : p:=by
 go_wp2_with fail;refine wp_region_wide qqd2 qqd2 ?_;repeat (go_big_quiet_step (first | (go_at_call 117;exact Calls.wide (HC0.out _)) | fail))
 refine wpQuiet_nil ?_;rintro _ ⟨q2,rfl⟩;obtain ⟨HB2,Ck⟩:=qqb42;have Cr:=upK Gr q2.b;clear hne0 HW HB HC0 k0 k1 k2 k3 k4 k5 r0 r1 r2 r3 r4 r5 tw Gk Gr Bk Br hc1 hb1;have HB:=HB2;clear HB2;have Bk:=Ck;clear Ck;have Br:=Cr;clear Cr;go_wp2_with fail;refine ⟨⟨kq + 1,by omega,by go_num,fun j s hj hs => ?_,HBW1.out.trans (q2.b.mono HBW1.out.size)⟩,by simp [intOf];omega⟩;by_cases e : j = kq
 ·exact qqa103
 ·exact HQ2.out j s qqd1 hs) : p:=h
theorem qqa118 {p : Prop} (h : p:=by
 go_wp2_with fail;refine wp_region_wide qqd2 qqd2 ?_;repeat (go_big_quiet_step (first | (go_at_call 121;exact Calls.wide (HC0.out _)) | fail))
 refine wpQuiet_nil ?_;rintro _ ⟨q9,rfl⟩;have HB1:=upB HW q9.b;have Ck:=upK Gk q9.b;have Cr:=upK Gr q9.b;clear hne0 HW HB HC0 k0 k1 k2 k3 k4 k5 r0 r1 r2 r3 r4 r5 q0 q1 q2 q3 q4 q5 Gk Gr Bk Br d0 d1 d2 d3 d4 d5;have HB:=HB1;clear HB1;have Bk:=Ck;clear Ck;have Br:=Cr;clear Cr;go_wp2;go_ret;exact BoolB.f (fun h => HPr.out ((h.1 k p HXp.out).2.2 kz pq hlt3 HXq.out)) HB.out) : p:=h
theorem qqa122 {p : Prop} (h : p:=by
 obtain rfl : k = kz:=qqd1
 go_wp2_with fail;refine ⟨⟨k + 1,by omega,by go_num,fun j z hj hz => ?_,HB.out,Bk.out⟩,by simp [intOf];omega⟩;by_cases e : j = k
 ·subst e;rw [HXp.out] at hz;obtain rfl:=Option.some.inj hz;exact ⟨HPa.out,HQb.out,fun j2 q2 hj2 hq2 => HQ3.out j2 q2 hj2 hq2⟩
 ·exact HQ.out j z qqd1 hz) : p:=h
theorem qqa139 {p : Prop} (h : p:=by
 by_cases e : j = k
 ·subst e;rw [HXx.out] at hz;obtain rfl:=Option.some.inj hz;exact HOK.out
 ·exact HQ.out j z qqd1 hz) : p:=h
theorem qqb2 {p : Prop} (h : p:=by
 have x0:=fun q : Wd wr => (q.cell hb).trans c0;have x1:=fun q : Wd wr => (q.cell hb).trans c1;have x2:=fun q : Wd wr => (q.cell hb).trans c2;have x3:=fun q : Wd wr => (q.cell hb).trans c3;have x4:=fun q : Wd wr => (q.cell hb).trans c4;exact And.intro x0 (And.intro x1 (And.intro x2 (And.intro x3 x4)))) : p:=h
theorem qqb3 {p : Prop} (h : p:=by
 have q0 : ∀ q : Wd wr,q.w.cell? ⟨b,o + kz * 6,none⟩ = some (.string pq.n):=fun q => (q.cell (hb')).trans (d0);have q1 : ∀ q : Wd wr,q.w.cell? ⟨b,o + kz * 6 + 1,none⟩ = some (.int .i64 pq.c):=fun q => (q.cell (hb')).trans (d1);have q2 : ∀ q : Wd wr,q.w.cell? ⟨b,o + kz * 6 + 2,none⟩ = some (.string pq.z):=fun q => (q.cell (hb')).trans (d2);have q3 : ∀ q : Wd wr,q.w.cell? ⟨b,o + kz * 6 + 3,none⟩ = some (.slice qa ql qc):=fun q => (q.cell (hb')).trans (d3);have q4 : ∀ q : Wd wr,q.w.cell? ⟨b,o + kz * 6 + 4,none⟩ = some (.string pq.d):=fun q => (q.cell (hb')).trans (d4);have q5 : ∀ q : Wd wr,q.w.cell? ⟨b,o + kz * 6 + 5,none⟩ = some (.int .i64 pq.p):=fun q => (q.cell (hb')).trans (d5);have hne0:=Wd.ne wr;exact And.intro q0 (And.intro q1 (And.intro q2 (And.intro q3 (And.intro q4 (And.intro q5 hne0)))))) : p:=h
theorem qqb13 {p : Prop} (h : p:=by
 have v1w:=fun q : Wd w2 => (q.cell hbv).trans v1;have v3w:=fun q : Wd w2 => (q.cell hbv).trans v3;have v4w:=fun q : Wd w2 => (q.cell hbv).trans v4;have v5w:=fun q : Wd w2 => (q.cell hbv).trans v5;have hne0:=Wd.ne w2;exact And.intro v1w (And.intro v3w (And.intro v4w (And.intro v5w hne0)))) : p:=h
theorem qqb16 {p : Prop} (h : p:=by
 have HW:=HB;have k1:=fun q : Wd wr => q.slot (o:=1) Gk.out rfl;have x0:=fun q : Wd wr => (q.cell hb).trans c0;have x1:=fun q : Wd wr => (q.cell hb).trans c1;have x2:=fun q : Wd wr => (q.cell hb).trans c2;have x3:=fun q : Wd wr => (q.cell hb).trans c3;exact And.intro HW (And.intro k1 (And.intro x0 (And.intro x1 (And.intro x2 x3))))) : p:=h
theorem qqb19 {p : Prop} (h : p:=by
 have Gk:=Bk;have Gx:=Bx;have Gy:=By;have HW:=HB;have k2:=fun q : Wd q1.w => q.slot (o:=2) Gk.out rfl;have x3:=fun q : Wd q1.w => q.slot (o:=3) Gx.out rfl;have y3:=fun q : Wd q1.w => q.slot (o:=3) Gy.out rfl;have tw:=fun q : Wd q1.w => (q.cell hbw1).trans hcw1;have vw:=fun q : Wd q1.w => (q.cell hbv1).trans hcv1;have hne0:=Wd.ne q1.w;exact And.intro Gk (And.intro Gx (And.intro Gy (And.intro HW (And.intro k2 (And.intro x3 (And.intro y3 (And.intro tw (And.intro vw hne0))))))))) : p:=h
theorem qqb23 {p : Prop} (h : p:=by
 have x5:=fun q : Wd wr => (q.cell hb).trans c5;have x6:=fun q : Wd wr => (q.cell hb).trans c6;exact And.intro x5 x6) : p:=h
theorem qqb33 {p : Prop} (h : p:=by
 have yw:=fun q : Wd wr => (q.cell hb).trans y0;have hne0:=Wd.ne wr;exact And.intro yw hne0) : p:=h
theorem qqb34 {p : Prop} (h : p:=by
 have Ck:=upK Gk q1.b;have Cr:=upK Gr q1.b;exact And.intro Ck Cr) : p:=h
theorem qqb37 {p : Prop} (h : p:=by
 have Gk:=Bk;have Gr:=Br;have HW:=HB;exact And.intro Gk (And.intro Gr HW)) : p:=h
theorem qqb38 {p : Prop} (h : p:=by
 have tw:=fun q : Wd q1.w => (q.cell hb1).trans hc1;have vw:=fun q : Wd q1.w => (q.cell hbv).trans v2;have nw:=fun q : Wd q1.w => (q.cell hbn).trans n1;have hne0:=Wd.ne q1.w;have HC0:=hidK (fun q : Wd q1.w => sxxd_hit ⟨(some ⟨b1,o1,none⟩),l1,y1,a2,l2,y2,(some ⟨b3,o3,none⟩),l3,y3,a4,l4,y4,(some ⟨b,o,none⟩),l5,y5⟩ c.now c.xs t q.w (HR.out.x.below (HW.out.trans (q.b.mono HW.out.size))) HX.out HG1.out HG2.out);exact And.intro tw (And.intro vw (And.intro nw (And.intro hne0 HC0)))) : p:=h
theorem qqb40 {p : Prop} (h : p:=by
 have HB1:=upB HW q.b;have Ck:=upK Gk q.b;exact And.intro HB1 Ck) : p:=h
theorem qqb42 {p : Prop} (h : p:=by
 have HB2:=upB HW q2.b;have Ck:=upK Gk q2.b;exact And.intro HB2 Ck) : p:=h
theorem qqb44 {p : Prop} (h : p:=by
 have tw:=fun q : Wd wr => (q.cell hb).trans hc;have hne0:=Wd.ne wr;exact And.intro tw hne0) : p:=h
theorem qqb45 {p : Prop} (h : p:=by
 have tw:=fun q : Wd q1.w => (q.cell hb1).trans hc1;have hne0:=Wd.ne q1.w;exact And.intro tw hne0) : p:=h
theorem qqb49 {p : Prop} (h : p:=by
 have HB2:=upB HW q0.b;have Ck:=upK Gk q0.b;have Cr:=upK Gr q0.b;have CHTp:=hidK ((HTp.out).below q0.b);exact And.intro HB2 (And.intro Ck (And.intro Cr CHTp))) : p:=h
theorem qqb50 {p : Prop} (h : p:=by
 have yw:=fun q : Wd w1 => (q.cell hbv).trans hcv;have hne0:=Wd.ne w1;have HC0:=hidK (fun q : Wd w1 => sxkd_hit ⟨a1,l1,y1,a2,l2,y2,(some ⟨b,o,none⟩),l3,y3,(some ⟨b4,o4,none⟩),l4,y4,a5,l5,y5⟩ c.now c.ks v.k q.w (HR.out.k.below (HW.out.trans (q.b.mono HW.out.size))) HKS.out HG1.out HG2.out);exact And.intro yw (And.intro hne0 HC0)) : p:=h
theorem qqb51 {p : Prop} (h : p:=by
 have hc1:=(q1.cell hb).trans hc;have hb1 : b2 < q1.w.heap.size:=Nat.lt_of_lt_of_le hb q1.b.size;have HBW1:=upB HBW q1.b;exact And.intro hc1 (And.intro hb1 HBW1)) : p:=h
theorem qqb57 {p : Prop} (h : p:=by
 have hk0' : (0 : Int) < k:=qqd1
 have ek : ((k : Int) - 1).toNat = k - 1:=qqd1
 exact And.intro hk0' ek) : p:=h
theorem qqb66 {p : Prop} (h : p:=by
 have Gk : Hid (wr.heap[w.heap.size]? = some (.cells #[.slice (some ⟨b,o,none⟩) l1 y1,.slice a2 l2 y2,.slice a3 l3 y3,.slice a4 l4 y4,.slice a5 l5 y5,.int .i64 c.now] 36 (0,0))):=Bk.out;have HW:=HB;have k0:=fun q : Wd wr => q.slot (o:=0) Gk.out rfl;exact And.intro Gk (And.intro HW k0)) : p:=h
theorem qqb67 {p : Prop} (h : p:=by
 have Gk : Hid (wr.heap[w.heap.size]? = some (.cells #[.slice a1 l1 y1,.slice a2 l2 y2,.slice (some ⟨b,o,none⟩) l3 y3,.slice a4 l4 y4,.slice a5 l5 y5,.int .i64 c.now] 36 (0,0))):=Bk.out;have HW:=HB;have k2:=fun q : Wd wr => q.slot (o:=2) Gk.out rfl;exact And.intro Gk (And.intro HW k2)) : p:=h
theorem qqb68 {p : Prop} (h : p:=by
 have Gk : Hid (wr.heap[w.heap.size]? = some (.cells #[.slice a1 l1 y1,.slice a2 l2 y2,.slice a3 l3 y3,.slice (some ⟨b,o,none⟩) l4 y4,.slice a5 l5 y5,.int .i64 c.now] 36 (0,0))):=Bk.out;have HW:=HB;have k3:=fun q : Wd wr => q.slot (o:=3) Gk.out rfl;exact And.intro Gk (And.intro HW k3)) : p:=h
theorem qqb69 {p : Prop} (h : p:=by
 have Gk : Hid (wr.heap[w.heap.size]? = some (.cells #[.slice a1 l1 y1,.slice a2 l2 y2,.slice a3 l3 y3,.slice a4 l4 y4,.slice (some ⟨b,o,none⟩) l5 y5,.int .i64 c.now] 36 (0,0))):=Bk.out;have HW:=HB;have k4:=fun q : Wd wr => q.slot (o:=4) Gk.out rfl;exact And.intro Gk (And.intro HW k4)) : p:=h
theorem qqb72 {p : Prop} (h : p:=by
 have hne0:=Wd.ne w1;have HC0:=hidK (fun q : Wd w1 => sxkd_hit ⟨a1,l1,y1,a2,l2,y2,(some ⟨b,o,none⟩),l3,y3,a4,l4,y4,a5,l5,y5⟩ c.now c.ks v.k q.w (HR.out.k.below (HW.out.trans (q.b.mono HW.out.size))) HKS.out HG1.out HG2.out);exact And.intro hne0 HC0) : p:=h
theorem qqb76 {p : Prop} (h : p:=by
 have hd : decide ((0 : Int) < k) = false:=by simp;omega
 have Gk:=Bk;exact And.intro hd Gk) : p:=h
theorem qqb82 {p : Prop} (h : p:=by
 have HW:=HB;have k2:=fun q : Wd q1.w => q.slot (o:=2) Gk.out rfl;exact And.intro HW k2) : p:=h
theorem qqb87 {p : Prop} (h : p:=by
 have HG1:=hidK g1;have HG2:=hidK g2;have hi41 : decide ((i4 : Int) < 0) = false:=qqd6
 exact And.intro HG1 (And.intro HG2 hi41)) : p:=h
end Go.Proofs.YtpibkpofdbjdaaaGreatDoor
namespace Go.Proofs.YtpibkpofdbjdaaaGreatDoor
open Go.RowKit
namespace Rc
open Mk

theorem shas_any (a : Option Addr) (len cap : Nat) (zs : List ByteArray) (t : ByteArray) (w : World) (hr : TxRow w a len cap zs) :
  Calls Tryz.prog 124 #[.slice a len cap,.string t] w (BoolB (InL zs t) w):=by
 have HR:=hidK hr;obtain ⟨hlc,hzl⟩:=qqb63;clear hr;go_enter Tryz.func124,Tryz.ntmps124;go_wp2;go_loop [5] (fun i => ∃ k : Nat,k ≤ len ∧ i = .int .i64 k ∧ Hid (∀ (j : Nat) x,j < k → zs[j]? = some x → ¬ x = t)) (fun i => len - (intOf i).toNat);case atStart => exact ⟨0,by omega,rfl,fun _ _ h => absurd h qqd1⟩
 case round =>
  obtain ⟨k,hk,rfl,HE⟩:=hrel;by_cases hlt : k < len
  ·obtain ⟨b,o,x,rfl,hb,hx,hc,hsz⟩:=HR.out.at hlt;have HX:=hidK hx;clear hx;by_cases hn : x = t
   ·have hq:=tl_yes hn;have HN:=hidK hn;clear hn;go_wp2;go_ret;exact BoolB.t ⟨k,by rw [HX.out,HN.out]⟩ (Below.refl _ _)
   ·have hq:=tl_no hn;have HN:=hidK hn;clear hn;go_wp2;refine ⟨⟨k + 1,by omega,by go_num,fun j z hj hz => ?_⟩,by simp [intOf];omega⟩;exact qqa140
  ·obtain rfl : len = k:=qqd1
   go_wp2;go_ret;exact BoolB.f (fun ⟨j,hj⟩ => HE.out j t qqd19 hj rfl) (Below.refl _ _)

theorem sxnd_hit (d : Ad) (now : Int) (xs : List Nd) (t : ByteArray) (w : World) (hr : RRow w d.a1 d.l1 d.c1 7 (xs.map ndF)) (hs : RisBy Nd.n xs) {j : Nat} {x : Nd} (hx : xs[j]? = some x) (hn : x.n = t) :
  Calls Tryz.prog 47 #[.agg #[.slice d.a1 d.l1 d.c1,.slice d.a2 d.l2 d.c2,.slice d.a3 d.l3 d.c3,.slice d.a4 d.l4 d.c4,.slice d.a5 d.l5 d.c5,.int .i64 now],.string t] w fun e w' => e = .returned (.int .i64 j) ∧ Below w.heap.size w w':=by
 refine (sxnd_any d now xs t w hr).mono ?_;exact qqa36
theorem sxnd_miss (d : Ad) (now : Int) (xs : List Nd) (t : ByteArray) (w : World) (hr : RRow w d.a1 d.l1 d.c1 7 (xs.map ndF)) (hn : ∀ (j : Nat) x,xs[j]? = some x → ¬ x.n = t) :
  Calls Tryz.prog 47 #[.agg #[.slice d.a1 d.l1 d.c1,.slice d.a2 d.l2 d.c2,.slice d.a3 d.l3 d.c3,.slice d.a4 d.l4 d.c4,.slice d.a5 d.l5 d.c5,.int .i64 now],.string t] w fun e w' => e = .returned (.int .i64 (-1)) ∧ Below w.heap.size w w':=by
 refine (sxnd_any d now xs t w hr).mono ?_;exact qqa49

theorem sxkd_hit (d : Ad) (now : Int) (xs : List Kd) (t : ByteArray) (w : World) (hr : RRow w d.a2 d.l2 d.c2 4 (xs.map kdF)) (hs : RisBy Kd.n xs) {j : Nat} {x : Kd} (hx : xs[j]? = some x) (hn : x.n = t) :
  Calls Tryz.prog 118 #[.agg #[.slice d.a1 d.l1 d.c1,.slice d.a2 d.l2 d.c2,.slice d.a3 d.l3 d.c3,.slice d.a4 d.l4 d.c4,.slice d.a5 d.l5 d.c5,.int .i64 now],.string t] w fun e w' => e = .returned (.int .i64 j) ∧ Below w.heap.size w w':=by
 refine (sxkd_any d now xs t w hr).mono ?_;exact qqa36
theorem sxkd_miss (d : Ad) (now : Int) (xs : List Kd) (t : ByteArray) (w : World) (hr : RRow w d.a2 d.l2 d.c2 4 (xs.map kdF)) (hn : ∀ (j : Nat) x,xs[j]? = some x → ¬ x.n = t) :
  Calls Tryz.prog 118 #[.agg #[.slice d.a1 d.l1 d.c1,.slice d.a2 d.l2 d.c2,.slice d.a3 d.l3 d.c3,.slice d.a4 d.l4 d.c4,.slice d.a5 d.l5 d.c5,.int .i64 now],.string t] w fun e w' => e = .returned (.int .i64 (-1)) ∧ Below w.heap.size w w':=by
 refine (sxkd_any d now xs t w hr).mono ?_;exact qqa49

theorem sxvd_hit (d : Ad) (now : Int) (xs : List Vd) (t : ByteArray) (w : World) (hr : RRow w d.a3 d.l3 d.c3 8 (xs.map vdF)) (hs : RisBy Vd.n xs) {j : Nat} {x : Vd} (hx : xs[j]? = some x) (hn : x.n = t) :
  Calls Tryz.prog 119 #[.agg #[.slice d.a1 d.l1 d.c1,.slice d.a2 d.l2 d.c2,.slice d.a3 d.l3 d.c3,.slice d.a4 d.l4 d.c4,.slice d.a5 d.l5 d.c5,.int .i64 now],.string t] w fun e w' => e = .returned (.int .i64 j) ∧ Below w.heap.size w w':=by
 refine (sxvd_any d now xs t w hr).mono ?_;exact qqa36
theorem sxvd_miss (d : Ad) (now : Int) (xs : List Vd) (t : ByteArray) (w : World) (hr : RRow w d.a3 d.l3 d.c3 8 (xs.map vdF)) (hn : ∀ (j : Nat) x,xs[j]? = some x → ¬ x.n = t) :
  Calls Tryz.prog 119 #[.agg #[.slice d.a1 d.l1 d.c1,.slice d.a2 d.l2 d.c2,.slice d.a3 d.l3 d.c3,.slice d.a4 d.l4 d.c4,.slice d.a5 d.l5 d.c5,.int .i64 now],.string t] w fun e w' => e = .returned (.int .i64 (-1)) ∧ Below w.heap.size w w':=by
 refine (sxvd_any d now xs t w hr).mono ?_;exact qqa49

theorem sxxd_hit (d : Ad) (now : Int) (xs : List Xd) (t : ByteArray) (w : World) (hr : RRow w d.a4 d.l4 d.c4 5 (xs.map xdF)) (hs : RisBy Xd.n xs) {j : Nat} {x : Xd} (hx : xs[j]? = some x) (hn : x.n = t) :
  Calls Tryz.prog 117 #[.agg #[.slice d.a1 d.l1 d.c1,.slice d.a2 d.l2 d.c2,.slice d.a3 d.l3 d.c3,.slice d.a4 d.l4 d.c4,.slice d.a5 d.l5 d.c5,.int .i64 now],.string t] w fun e w' => e = .returned (.int .i64 j) ∧ Below w.heap.size w w':=by
 refine (sxxd_any d now xs t w hr).mono ?_;exact qqa36
theorem sxxd_miss (d : Ad) (now : Int) (xs : List Xd) (t : ByteArray) (w : World) (hr : RRow w d.a4 d.l4 d.c4 5 (xs.map xdF)) (hn : ∀ (j : Nat) x,xs[j]? = some x → ¬ x.n = t) :
  Calls Tryz.prog 117 #[.agg #[.slice d.a1 d.l1 d.c1,.slice d.a2 d.l2 d.c2,.slice d.a3 d.l3 d.c3,.slice d.a4 d.l4 d.c4,.slice d.a5 d.l5 d.c5,.int .i64 now],.string t] w fun e w' => e = .returned (.int .i64 (-1)) ∧ Below w.heap.size w w':=by
 refine (sxxd_any d now xs t w hr).mono ?_;exact qqa49

def SbAns (c : Cl) (t : ByteArray) (w : World) (e : Ending) (w' : World) : Prop :=
 Below w.heap.size w w' ∧ ((∃ (j : Nat) (v : Vd),c.vs[j]? = some v ∧ IsBd c t v ∧ e = .returned (.int .i64 j)) ∨ ((∀ v,¬ IsBd c t v) ∧ e = .returned (.int .i64 (-1))))

theorem sbind_any (d : Ad) (c : Cl) (t : ByteArray) (w : World) (hr : ClRow w d c.raw) (hx : RisBy Xd.n c.xs) (hv : RisBy Vd.n c.vs) (hne : ∀ (j : Nat) v,c.vs[j]? = some v → ¬ v.n = ⟨#[]⟩) :
  Calls Tryz.prog 120 #[.agg #[.slice d.a1 d.l1 d.c1,.slice d.a2 d.l2 d.c2,.slice d.a3 d.l3 d.c3,.slice d.a4 d.l4 d.c4,.slice d.a5 d.l5 d.c5,.int .i64 c.now],.string t] w (SbAns c t w):=by
 obtain ⟨a1,l1,y1,a2,l2,y2,a3,l3,y3,a4,l4,y4,a5,l5,y5⟩:=d;dsimp only;obtain ⟨HR,hl1,hm1,hl2,hm2,hl3,hm3,hl4,hm4,hl5,hm5⟩:=qqb1;clear hr;obtain ⟨HX,HV,HNE⟩:=qqb78;have HB:=hidK (Below.refl w.heap.size w);clear hx hv hne;go_enter Tryz.func120,Tryz.ntmps120;go_wp2_with fail;refine (sxxd_any ⟨a1,l1,y1,a2,l2,y2,a3,l3,y3,a4,l4,y4,a5,l5,y5⟩ c.now c.xs t _ (HR.out.x.below (below1 _ _))).mono ?_;rintro e w1 ⟨hb,hf⟩;obtain ⟨HA0,hbx⟩:=slots1 hb;have Bk:=hidK HA0;replace HB:=upB HB hbx;clear hb hbx HA0;rcases hf with ⟨j,x,hx,hn,rfl⟩ | ⟨hh,rfl⟩;rotate_left
 ·have HH:=hidK hh;clear hh;obtain ⟨k0,k1,k2,k3,k4,k5⟩:=cs6 Bk.out;have ltk_1:=lt_of_some Bk.out;go_wp2;go_ret;exact ⟨HB.out,.inr ⟨fun v ⟨i,j,x,e1,e2,_⟩ => HH.out i x e1 e2,rfl⟩⟩
 have hj : j < l4:=by have h1:=(List.getElem?_eq_some_iff.1 hx).1;omega
 obtain ⟨b,o,y,rfl,hbb,hy,hat⟩:=xd_at HR.out.x hj;rw [hx] at hy;obtain rfl:=Option.some.inj hy;obtain ⟨z0,z2,z4,c0,c1,c2,c3,c4⟩:=xd_cells hat;have HX1:=hidK hx;have HN1:=hidK hn;have e4:=(cell_below HB.out hbb).trans c4;have hb1 : b < w1.heap.size:=Nat.lt_of_lt_of_le hbb HB.out.size;have hj0 : (0 : Int) ≤ j:=qqd1
 clear hx hn hy hat z0 z2 z4 c0 c1 c2 c3;by_cases he : x.v = ⟨#[]⟩
 ·have hq:=isE_y he;have HEm:=hidK he;clear he;obtain ⟨k0,k1,k2,k3,k4,k5⟩:=cs6 Bk.out;have ltk_1:=lt_of_some Bk.out;go_wp2;go_ret;refine ⟨HB.out,.inr ⟨fun v ⟨i,j2,x2,e1,e2,e3,e5⟩ => ?_,rfl⟩⟩;obtain ⟨_,rfl⟩:=HX.out.inj e1 HX1.out (e2.trans HN1.out.symm);exact HNE.out j2 v e3 (e5.trans HEm.out)
 ·have hq:=isE_no he;have HEm:=hidK he;clear he;obtain ⟨k0,k1,k2,k3,k4,k5⟩:=cs6 Bk.out;have ltk_1:=lt_of_some Bk.out;go_wp2_with fail;by_cases hf : ∃ (j2 : Nat) (v : Vd),c.vs[j2]? = some v ∧ v.n = x.v
  ·obtain ⟨j2,v,h1,h2⟩:=hf;have HF1:=hidK h1;have HF2:=hidK h2;clear h1 h2;clear k0 k1 k2 k3 k4 k5 ltk_1;have Gk:=Bk;have HW:=HB;obtain ⟨k0,k1,k2,k3,k4,k5⟩:=sl6 Gk;have e4w:=fun q : Wd w1 => (q.cell hb1).trans e4;have hne0:=Wd.ne w1;have HC0:=hidK (fun q : Wd w1 => sxvd_hit ⟨a1,l1,y1,a2,l2,y2,a3,l3,y3,(some ⟨b,o,none⟩),l4,y4,a5,l5,y5⟩ c.now c.vs x.v q.w (HR.out.v.below (HW.out.trans (q.b.mono HW.out.size))) HV.out HF1.out HF2.out);go_wp2_with fail;refine wp_region_wide qqd2 qqd2 ?_;repeat (go_big_quiet_step (first | (go_at_call 119;exact Calls.wide (HC0.out _)) | fail))
   refine wpQuiet_nil ?_;rintro _ ⟨q,rfl⟩;have HB2:=upB HW q.b;have Ck:=upK Gk q.b;clear hne0 HW HB HC0 k0 k1 k2 k3 k4 k5 e4w Gk Bk;have HB:=HB2;clear HB2;have Bk:=Ck;clear Ck;go_wp2_with fail;go_ret;exact ⟨HB.out,.inl ⟨j2,v,HF1.out,⟨_,_,x,HX1.out,HN1.out,HF1.out,HF2.out⟩,rfl⟩⟩
  ·have HF:=hidK hf;clear hf;clear k0 k1 k2 k3 k4 k5 ltk_1;have Gk:=Bk;have HW:=HB;obtain ⟨k0,k1,k2,k3,k4,k5⟩:=sl6 Gk;have e4w:=fun q : Wd w1 => (q.cell hb1).trans e4;have hne0:=Wd.ne w1;have HC0:=hidK (fun q : Wd w1 => sxvd_miss ⟨a1,l1,y1,a2,l2,y2,a3,l3,y3,(some ⟨b,o,none⟩),l4,y4,a5,l5,y5⟩ c.now c.vs x.v q.w (HR.out.v.below (HW.out.trans (q.b.mono HW.out.size))) (fun j2 v h1 h2 => HF.out ⟨j2,v,h1,h2⟩));go_wp2_with fail;refine wp_region_wide qqd2 qqd2 ?_;repeat (go_big_quiet_step (first | (go_at_call 119;exact Calls.wide (HC0.out _)) | fail))
   refine wpQuiet_nil ?_;rintro _ ⟨q,rfl⟩;have HB2:=upB HW q.b;have Ck:=upK Gk q.b;clear hne0 HW HB HC0 k0 k1 k2 k3 k4 k5 e4w Gk Bk;have HB:=HB2;clear HB2;have Bk:=Ck;clear Ck;go_wp2_with fail;go_ret;refine ⟨HB.out,.inr ⟨fun v ⟨i,j2,x2,e1,e2,e3,e5⟩ => ?_,rfl⟩⟩;obtain ⟨_,rfl⟩:=HX.out.inj e1 HX1.out (e2.trans HN1.out.symm);exact HF.out ⟨j2,v,e3,e5⟩

theorem sbind_hit (d : Ad) (c : Cl) (t : ByteArray) (w : World) (hr : ClRow w d c.raw) (hx : RisBy Xd.n c.xs) (hv : RisBy Vd.n c.vs) (hne : ∀ (j : Nat) v,c.vs[j]? = some v → ¬ v.n = ⟨#[]⟩) {j : Nat} {v : Vd} (hj : c.vs[j]? = some v) (hb : IsBd c t v) :
  Calls Tryz.prog 120 #[.agg #[.slice d.a1 d.l1 d.c1,.slice d.a2 d.l2 d.c2,.slice d.a3 d.l3 d.c3,.slice d.a4 d.l4 d.c4,.slice d.a5 d.l5 d.c5,.int .i64 c.now],.string t] w fun e w' => e = .returned (.int .i64 j) ∧ Below w.heap.size w w':=by
 refine (sbind_any d c t w hr hx hv hne).mono ?_;rintro e w' ⟨hw,h⟩;rcases h with ⟨i,u,h1,h2,rfl⟩ | ⟨h1,rfl⟩
 ·obtain rfl:=IsBd.inj hx hv h2 hb;obtain ⟨rfl,_⟩:=hv.inj h1 hj rfl;exact ⟨rfl,hw⟩
 ·exact absurd hb (h1 v)
theorem sbind_miss (d : Ad) (c : Cl) (t : ByteArray) (w : World) (hr : ClRow w d c.raw) (hx : RisBy Xd.n c.xs) (hv : RisBy Vd.n c.vs) (hne : ∀ (j : Nat) v,c.vs[j]? = some v → ¬ v.n = ⟨#[]⟩) (hb : ∀ v,¬ IsBd c t v) :
  Calls Tryz.prog 120 #[.agg #[.slice d.a1 d.l1 d.c1,.slice d.a2 d.l2 d.c2,.slice d.a3 d.l3 d.c3,.slice d.a4 d.l4 d.c4,.slice d.a5 d.l5 d.c5,.int .i64 c.now],.string t] w fun e w' => e = .returned (.int .i64 (-1)) ∧ Below w.heap.size w w':=by
 refine (sbind_any d c t w hr hx hv hne).mono ?_;rintro e w' ⟨hw,h⟩;rcases h with ⟨i,u,h1,h2,rfl⟩ | ⟨h1,rfl⟩
 ·exact absurd h2 (hb u)
 ·exact ⟨rfl,hw⟩
theorem IsBd.at {c : Cl} {t : ByteArray} {v : Vd} (h : IsBd c t v) : ∃ j : Nat,c.vs[j]? = some v:=by
 obtain ⟨_,j,_,_,_,h,_⟩:=h;exact ⟨j,h⟩

theorem sused_any (d : Ad) (now : Int) (ps : List Pd) (t : ByteArray) (w : World) (hr : RRow w d.a5 d.l5 d.c5 6 (ps.map pdF)) (hl : ps.length ≤ 8) (hp : ∀ (j : Nat) p,ps[j]? = some p → 0 ≤ p.c ∧ p.c ≤ 1000000) :
  Calls Tryz.prog 122 #[.agg #[.slice d.a1 d.l1 d.c1,.slice d.a2 d.l2 d.c2,.slice d.a3 d.l3 d.c3,.slice d.a4 d.l4 d.c4,.slice d.a5 d.l5 d.c5,.int .i64 now],.string t] w fun e w' => e = .returned (.int .i64 (cpuOf t ps)) ∧ Below w.heap.size w w':=by
 obtain ⟨a1,l1,y1,a2,l2,y2,a3,l3,y3,a4,l4,y4,a5,l5,y5⟩:=d;dsimp only at hr ⊢;have HR:=hidK hr;have hxl : ps.length = l5:=qqd8
 have HP:=hidK hp;clear hr hp;go_enter Tryz.func122,Tryz.ntmps122;go_wp2;go_loopw [5,6] (fun q i wr => ∃ (k : Nat) (s : Int),k ≤ l5 ∧ q = .int .i64 s ∧ i = .int .i64 k ∧ Hid (s = cpuOf t (ps.take k)) ∧ 0 ≤ s ∧ s ≤ k * 1000000 ∧ wr = w.alloc (.cells #[.slice a1 l1 y1,.slice a2 l2 y2,.slice a3 l3 y3,.slice a4 l4 y4,.slice a5 l5 y5,.int .i64 now] 36)) (fun _ i _ => l5 - (intOf i).toNat);case atStart => exact ⟨0,0,by omega,rfl,rfl,rfl,by omega,by omega,rfl⟩
 case round =>
  obtain ⟨k,s,hk,rfl,rfl,HS,hs0,hs1,rfl⟩:=hrel;by_cases hlt : k < l5
  ·obtain ⟨b,o,p,rfl,hb,hx,hat⟩:=pd_at HR.out hlt;obtain ⟨va,vl,vc,hvr,z0,z2,z4,c0,c1,c2,c3,c4,c5⟩:=pd_cells hat;have HX:=hidK hx;have hpc:=HP.out k p hx;clear hat hx z0 z2 z4 hvr;by_cases hn : p.d = t
   ·have hq:=tl_yes hn;have HN:=hidK hn;clear hn;go_wp2;refine ⟨⟨k + 1,s + p.c,by omega,by go_num,by go_num,?_,by omega,by omega,by first | rfl | trivial⟩,by simp [intOf];omega⟩;show _ = _;rw [cpuOf_step HX.out,if_pos HN.out,← HS.out]
   ·have hq:=tl_no hn;have HN:=hidK hn;clear hn;go_wp2;refine ⟨⟨k + 1,s,by omega,rfl,by go_num,?_,by omega,by omega,by first | rfl | trivial⟩,by simp [intOf];omega⟩;show _ = _;rw [cpuOf_step HX.out,if_neg HN.out,← HS.out,Int.add_zero]
  ·obtain rfl : l5 = k:=qqd1
   go_wp2;go_ret;exact ⟨congrArg (fun z => Ending.returned (.int .i64 z)) (HS.out.trans (by rw [List.take_of_length_le qqd1])),below1 _ _⟩

theorem son_any (d : Ad) (now : Int) (vs : List Vd) (t : ByteArray) (w : World) (hr : RRow w d.a3 d.l3 d.c3 8 (vs.map vdF)) (hl : vs.length ≤ 8) :
  Calls Tryz.prog 123 #[.agg #[.slice d.a1 d.l1 d.c1,.slice d.a2 d.l2 d.c2,.slice d.a3 d.l3 d.c3,.slice d.a4 d.l4 d.c4,.slice d.a5 d.l5 d.c5,.int .i64 now],.string t] w fun e w' => e = .returned (.int .i64 (onOf t vs)) ∧ Below w.heap.size w w':=by
 obtain ⟨a1,l1,y1,a2,l2,y2,a3,l3,y3,a4,l4,y4,a5,l5,y5⟩:=d;dsimp only at hr ⊢;have HR:=hidK hr;have hxl : vs.length = l3:=qqd8
 clear hr;go_enter Tryz.func123,Tryz.ntmps123;go_wp2;go_loopw [5,6] (fun q i wr => ∃ (k : Nat) (s : Int),k ≤ l3 ∧ q = .int .i64 s ∧ i = .int .i64 k ∧ Hid (s = onOf t (vs.take k)) ∧ 0 ≤ s ∧ s ≤ k ∧ Hid (Below w.heap.size w wr) ∧ Hid (wr.heap[w.heap.size]? = some (.cells #[.slice a1 l1 y1,.slice a2 l2 y2,.slice a3 l3 y3,.slice a4 l4 y4,.slice a5 l5 y5,.int .i64 now] 36 (0,0)))) (fun _ i _ => l3 - (intOf i).toNat);case atStart => exact ⟨0,0,by omega,rfl,rfl,rfl,by omega,by omega,below1 _ _,Array.getElem?_push_size⟩
 case round =>
  obtain ⟨k,s,hk,rfl,rfl,HS,hs0,hs1,HB,Bk⟩:=hrel;have kk : wr.cell? ⟨w.heap.size,2,none⟩ = some (.slice a3 l3 y3):=cellK Bk.out 2;by_cases hlt : k < l3
  ·obtain ⟨b,o,v,rfl,hb,hx,hat⟩:=vd_at (HR.out.below HB.out) hlt;obtain ⟨va,vl,vc,hvr,z0,z2,z3,z5,c0,c1,c2,c3,c4,c5,c6,c7⟩:=vd_cells hat;have HX:=hidK hx;have HT:=hidK hvr;clear hat hx z0 z2 z3 z5 hvr;go_wp2_with fail;refine (shas_any va vl vc v.zs t _ HT.out).mono ?_;rintro e w1 ⟨r,rfl,hi,hb2⟩;replace Bk:=upK Bk hb2;replace HB:=upB HB hb2;clear hb2;have HI:=hidK hi;clear hi hb kk c0 c1 c2 c3 c4 c5 c6 c7;cases r
   ·go_wp2;refine ⟨⟨k + 1,s,by omega,rfl,by go_num,?_,by omega,by omega,HB.out,Bk.out⟩,by simp [intOf];omega⟩;exact qqa106
   ·go_wp2;refine ⟨⟨k + 1,s + 1,by omega,by go_num,by go_num,?_,by omega,by omega,HB.out,Bk.out⟩,by simp [intOf];omega⟩;show _ = _;rw [onOf_step HX.out,if_pos (HI.out.1 qqd5),← HS.out]
  ·obtain rfl : l3 = k:=qqd1
   exact qqa62

def PairS (c : Cl) (p q : Pd) : Prop:=p.d = ⟨#[]⟩ ∨ q.d = ⟨#[]⟩ ∨ p.d = q.d ∨ ∀ (j : Nat) t,p.zs[j]? = some t → ∀ v,IsBd c t v → v.x = true → ¬ InL q.zs t

theorem spair_any (d : Ad) (c : Cl) (p q : Pd) (pa : Option Addr) (pl pc : Nat) (qa : Option Addr) (ql qc : Nat) (w : World) (hr : ClRow w d c.raw) (hx : RisBy Xd.n c.xs) (hv : RisBy Vd.n c.vs) (hne : ∀ (j : Nat) v,c.vs[j]? = some v → ¬ v.n = ⟨#[]⟩) (hp : TxRow w pa pl pc p.zs) (hq : TxRow w qa ql qc q.zs) :
  Calls Tryz.prog 121 #[.agg #[.slice d.a1 d.l1 d.c1,.slice d.a2 d.l2 d.c2,.slice d.a3 d.l3 d.c3,.slice d.a4 d.l4 d.c4,.slice d.a5 d.l5 d.c5,.int .i64 c.now],.agg #[.string p.n,.int .i64 p.c,.string p.z,.slice pa pl pc,.string p.d,.int .i64 p.p],.agg #[.string q.n,.int .i64 q.c,.string q.z,.slice qa ql qc,.string q.d,.int .i64 q.p]] w (BoolB (PairS c p q) w):=by
 obtain ⟨a1,l1,y1,a2,l2,y2,a3,l3,y3,a4,l4,y4,a5,l5,y5⟩:=d;dsimp only;obtain ⟨HR,hl1,hm1,hl2,hm2,hl3,hm3,hl4,hm4,hl5,hm5⟩:=qqb1;clear hr;obtain ⟨HX,HV,HNE⟩:=qqb78;have HP:=hidK hp;have HQ0:=hidK hq;obtain ⟨hlc,hzl⟩:=qqb64;clear hx hv hne hp hq;by_cases hp0 : p.d = ⟨#[]⟩
 ·have e1:=isE_y hp0;have HH:=hidK hp0;clear hp0;go_enter Tryz.func121,Tryz.ntmps121;go_wp2;go_ret;exact BoolB.t (.inl HH.out) (below3 _ _ _ _)
 by_cases hq0 : q.d = ⟨#[]⟩
 ·have e1:=isE_no hp0;have e2:=isE_y hq0;have HH:=hidK hq0;clear hp0 hq0;go_enter Tryz.func121,Tryz.ntmps121;go_wp2;go_ret;exact BoolB.t (.inr (.inl HH.out)) (below3 _ _ _ _)
 by_cases hpq : p.d = q.d
 ·have e1:=isE_no hp0;have e2:=isE_no hq0;have e3:=tl_yes hpq;have HH:=hidK hpq;clear hp0 hq0 hpq;go_enter Tryz.func121,Tryz.ntmps121;go_wp2;go_ret;exact BoolB.t (.inr (.inr (.inl HH.out))) (below3 _ _ _ _)
 have e1:=isE_no hp0;have e2:=isE_no hq0;have e3:=tl_no hpq;have HP0:=hidK hp0;have HQ1:=hidK hq0;have HPQ:=hidK hpq;clear hp0 hq0 hpq;go_enter Tryz.func121,Tryz.ntmps121;go_wp2;clear e1 e2 e3;go_loopw [7] (fun i wr => ∃ k : Nat,k ≤ pl ∧ i = .int .i64 k ∧ Hid (∀ (j : Nat) t,j < k → p.zs[j]? = some t → ∀ v,IsBd c t v → v.x = true → ¬ InL q.zs t) ∧ Hid (Below w.heap.size w wr) ∧ Hid (wr.heap[w.heap.size]? = some (.cells #[.slice a1 l1 y1,.slice a2 l2 y2,.slice a3 l3 y3,.slice a4 l4 y4,.slice a5 l5 y5,.int .i64 c.now] 36 (0,0))) ∧ Hid (wr.heap[w.heap.size + 1]? = some (.cells #[.string p.n,.int .i64 p.c,.string p.z,.slice pa pl pc,.string p.d,.int .i64 p.p] 69 (0,0))) ∧ Hid (wr.heap[w.heap.size + 1 + 1]? = some (.cells #[.string q.n,.int .i64 q.c,.string q.z,.slice qa ql qc,.string q.d,.int .i64 q.p] 69 (0,0)))) (fun i _ => pl - (intOf i).toNat);case atStart => exact ⟨0,by omega,rfl,fun _ _ h => absurd h qqd1,below3 _ _ _ _,heap3_0 _ _ _ _,heap3_1 _ _ _ _,heap3_2 _ _ _ _⟩
 case round =>
  obtain ⟨k,hk,rfl,HQ,HB,Bk,Bx,By⟩:=hrel;have px3 : wr.cell? ⟨w.heap.size + 1,3,none⟩ = some (.slice pa pl pc):=cellK Bx.out 3;by_cases hlt : k < pl
  ·obtain ⟨b,o,t,rfl,hb,hxt,hc,hsz⟩:=HP.out.at hlt;have HXt:=hidK hxt;have hcw:=(cell_below HB.out hb).trans hc;have hbw : b < wr.heap.size:=Nat.lt_of_lt_of_le hb HB.out.size;clear hxt hsz;have hcase : (∃ v,IsBd c t v) ∨ (∀ v,¬ IsBd c t v):=by
    exact qqa71
   rcases hcase with ⟨v,hbd⟩ | hbd
   ·obtain ⟨j3,hj3⟩:=hbd.at;have hl3' : j3 < l3:=by have h1:=(List.getElem?_eq_some_iff.1 hj3).1;omega
    obtain ⟨b3,o3,v',rfl,hb3,hv',hat⟩:=vd_at HR.out.v hl3';rw [hj3] at hv';obtain rfl:=Option.some.inj hv';obtain ⟨va,vl,vc,hvr,z0,z2,z3,z5,c0,c1,c2,c3,c4,c5,c6,c7⟩:=vd_cells hat;have HJ:=hidK hj3;have HD:=hidK hbd;have hcv:=(cell_below HB.out hb3).trans c4;have hbv : b3 < wr.heap.size:=Nat.lt_of_lt_of_le hb3 HB.out.size;have hj0 : (0 : Int) ≤ j3:=qqd1
    clear hv' hat hvr z0 z2 z3 z5 c0 c1 c2 c3 c4 c5 c6 c7 hj3 hbd;have Gk:=Bk;have Gx:=Bx;have Gy:=By;have HW:=HB;obtain ⟨k0,k1,k2,k3,k4,k5⟩:=sl6 Gk;have x3:=fun q : Wd wr => q.slot (o:=3) Gx.out rfl;have tw:=fun q : Wd wr => (q.cell hbw).trans hcw;have hne0:=Wd.ne wr;have HC0:=hidK (fun q : Wd wr => sbind_hit ⟨a1,l1,y1,a2,l2,y2,(some ⟨b3,o3,none⟩),l3,y3,a4,l4,y4,a5,l5,y5⟩ c t q.w (HR.out.below (HW.out.trans (q.b.mono HW.out.size))) HX.out HV.out HNE.out HJ.out HD.out);go_wp2_with fail;refine wp_region_wide qqd2 qqd2 ?_;repeat (go_big_quiet_step (first | (go_at_call 120;exact Calls.wide (HC0.out _)) | fail))
    refine wpQuiet_nil ?_;rintro _ ⟨q1,rfl⟩;have HB1:=upB HW q1.b;have Ck:=upK Gk q1.b;have Cx:=upK Gx q1.b;have Cy:=upK Gy q1.b;clear hne0 HW HB HC0 k0 k1 k2 k3 k4 k5 x3 tw Gk Gx Gy Bk Bx By px3;have HB:=HB1;clear HB1;have Bk:=Ck;clear Ck;have Bx:=Cx;clear Cx;have By:=Cy;clear Cy;have hcw1:=(q1.cell hbw).trans hcw;have hbw1 : b < q1.w.heap.size:=Nat.lt_of_lt_of_le hbw q1.b.size;have hcv1:=(q1.cell hbv).trans hcv;have hbv1 : b3 < q1.w.heap.size:=Nat.lt_of_lt_of_le hbv q1.b.size;clear hcw hbw hcv hbv;rcases Bool.eq_false_or_eq_true v.x with hs | hs;rotate_left
    ·have HSi:=hidK hs;rw [hs] at hcv1;clear hs;obtain ⟨Gk,Gx,Gy,HW,k2,x3,y3,tw,vw,hne0⟩:=qqb19;go_wp2_with fail;refine wp_region_wide qqd2 qqd2 ?_;repeat (go_big_quiet_step (first | fail))
     refine wpQuiet_nil ?_;rintro _ ⟨q2,rfl⟩;obtain ⟨HB2,Ck⟩:=qqb42;have Cx:=upK Gx q2.b;have Cy:=upK Gy q2.b;clear hne0 HW HB k2 x3 y3 tw vw Gk Gx Gy Bk Bx By;have HB:=HB2;clear HB2;have Bk:=Ck;clear Ck;have Bx:=Cx;clear Cx;have By:=Cy;clear Cy;go_wp2_with fail;refine ⟨⟨k + 1,by omega,by go_num,fun j s hj hs => ?_,HB.out,Bk.out,Bx.out,By.out⟩,by simp [intOf];omega⟩;by_cases e : j = k
     ·subst e;rw [HXt.out] at hs;obtain rfl:=Option.some.inj hs;intro v2 h1 h2;obtain rfl:=IsBd.inj HX.out HV.out HD.out h1;rw [HSi.out] at h2;cases h2
     ·exact HQ.out j s qqd1 hs
    have HSi:=hidK hs;rw [hs] at hcv1;clear hs;by_cases hin : InL q.zs t
    ·have HIn:=hidK hin;clear hin;obtain ⟨Gk,Gx,Gy,HW,k2,x3,y3,tw,vw,hne0⟩:=qqb19;have HC0:=hidK (fun qq : Wd q1.w => (shas_any qa ql qc q.zs t qq.w (HQ0.out.below (HW.out.trans (qq.b.mono HW.out.size)))).mono (fun _ _ h => BoolB.yes h HIn.out));go_wp2_with fail;refine wp_region_wide qqd2 qqd2 ?_;repeat (go_big_quiet_step (first | (go_at_call 124;exact Calls.wide (HC0.out _)) | fail))
     refine wpQuiet_nil ?_;rintro _ ⟨q2,rfl⟩;obtain ⟨HB2,Ck⟩:=qqb42;have Cx:=upK Gx q2.b;have Cy:=upK Gy q2.b;clear hne0 HW HB HC0 k2 x3 y3 tw vw Gk Gx Gy Bk Bx By;have HB:=HB2;clear HB2;have Bk:=Ck;clear Ck;have Bx:=Cx;clear Cx;have By:=Cy;clear Cy;go_wp2;go_ret;refine BoolB.f (fun h => ?_) HB.out;rcases h with h | h | h | h
     ·exact HP0.out h
     ·exact HQ1.out h
     ·exact HPQ.out h
     ·exact h k t HXt.out v HD.out HSi.out HIn.out
    ·have HIn:=hidK hin;clear hin;obtain ⟨Gk,Gx,Gy,HW,k2,x3,y3,tw,vw,hne0⟩:=qqb19;have HC0:=hidK (fun qq : Wd q1.w => (shas_any qa ql qc q.zs t qq.w (HQ0.out.below (HW.out.trans (qq.b.mono HW.out.size)))).mono (fun _ _ h => BoolB.no h HIn.out));go_wp2_with fail;refine wp_region_wide qqd2 qqd2 ?_;repeat (go_big_quiet_step (first | (go_at_call 124;exact Calls.wide (HC0.out _)) | fail))
     refine wpQuiet_nil ?_;rintro _ ⟨q2,rfl⟩;obtain ⟨HB2,Ck⟩:=qqb42;have Cx:=upK Gx q2.b;have Cy:=upK Gy q2.b;clear hne0 HW HB HC0 k2 x3 y3 tw vw Gk Gx Gy Bk Bx By;have HB:=HB2;clear HB2;have Bk:=Ck;clear Ck;have Bx:=Cx;clear Cx;have By:=Cy;clear Cy;go_wp2_with fail;refine ⟨⟨k + 1,by omega,by go_num,fun j s hj hs => ?_,HB.out,Bk.out,Bx.out,By.out⟩,by simp [intOf];omega⟩;by_cases e : j = k
     ·subst e;rw [HXt.out] at hs;obtain rfl:=Option.some.inj hs;intro v2 h1 h2;exact HIn.out
     ·exact HQ.out j s qqd1 hs
   ·have HD:=hidK hbd;clear hbd;have Gk:=Bk;have Gx:=Bx;have Gy:=By;have HW:=HB;obtain ⟨k0,k1,k2,k3,k4,k5⟩:=sl6 Gk;have x3:=fun q : Wd wr => q.slot (o:=3) Gx.out rfl;have tw:=fun q : Wd wr => (q.cell hbw).trans hcw;have hne0:=Wd.ne wr;have HC0:=hidK (fun q : Wd wr => sbind_miss ⟨a1,l1,y1,a2,l2,y2,a3,l3,y3,a4,l4,y4,a5,l5,y5⟩ c t q.w (HR.out.below (HW.out.trans (q.b.mono HW.out.size))) HX.out HV.out HNE.out HD.out);go_wp2_with fail;refine wp_region_wide qqd2 qqd2 ?_;repeat (go_big_quiet_step (first | (go_at_call 120;exact Calls.wide (HC0.out _)) | fail))
    refine wpQuiet_nil ?_;rintro _ ⟨q1,rfl⟩;have HB1:=upB HW q1.b;have Ck:=upK Gk q1.b;have Cx:=upK Gx q1.b;have Cy:=upK Gy q1.b;clear hne0 HW HB HC0 k0 k1 k2 k3 k4 k5 x3 tw Gk Gx Gy Bk Bx By px3;have HB:=HB1;clear HB1;have Bk:=Ck;clear Ck;have Bx:=Cx;clear Cx;have By:=Cy;clear Cy;have Gk:=Bk;have Gx:=Bx;have Gy:=By;obtain ⟨HW,k2⟩:=qqb82;have x3:=fun q : Wd q1.w => q.slot (o:=3) Gx.out rfl;have y3:=fun q : Wd q1.w => q.slot (o:=3) Gy.out rfl;have hne0:=Wd.ne q1.w;go_wp2_with fail;refine wp_region_wide qqd2 qqd2 ?_;repeat (go_big_quiet_step (first | fail))
    refine wpQuiet_nil ?_;rintro _ ⟨q2,rfl⟩;obtain ⟨HB2,Ck⟩:=qqb42;have Cx:=upK Gx q2.b;have Cy:=upK Gy q2.b;clear hne0 HW HB k2 x3 y3 Gk Gx Gy Bk Bx By;have HB:=HB2;clear HB2;have Bk:=Ck;clear Ck;have Bx:=Cx;clear Cx;have By:=Cy;clear Cy;go_wp2_with fail;refine ⟨⟨k + 1,by omega,by go_num,fun j s hj hs => ?_,HB.out,Bk.out,Bx.out,By.out⟩,by simp [intOf];omega⟩;by_cases e : j = k
    ·subst e;rw [HXt.out] at hs;obtain rfl:=Option.some.inj hs;intro v2 h1;exact absurd h1 (HD.out v2)
    ·exact HQ.out j s qqd1 hs
  ·obtain rfl : pl = k:=qqd1
   go_wp2;go_ret;exact BoolB.t (.inr (.inr (.inr (fun j t ht => HQ.out j t qqd15 ht)))) HB.out

theorem seach_any (d : Ad) (c : Cl) (w : World) (hr : ClRow w d c.raw) :
  Calls Tryz.prog 91 #[.agg #[.slice d.a1 d.l1 d.c1,.slice d.a2 d.l2 d.c2,.slice d.a3 d.l3 d.c3,.slice d.a4 d.l4 d.c4,.slice d.a5 d.l5 d.c5,.int .i64 c.now]] w (BoolB (RowsOk c) w):=by
 obtain ⟨a1,l1,y1,a2,l2,y2,a3,l3,y3,a4,l4,y4,a5,l5,y5⟩:=d;dsimp only;obtain ⟨HR,hl1,hm1,hl2,hm2,hl3,hm3,hl4,hm4,hl5,hm5⟩:=qqb1;clear hr;by_cases hL1 : (6 : Int) < l1
 ·go_enter Tryz.func91,Tryz.ntmps91;go_wp2;go_ret;exact BoolB.f (fun h => by have:=h.1.1;omega) (below1 _ _)
 by_cases hL2 : (8 : Int) < l2
 ·go_enter Tryz.func91,Tryz.ntmps91;go_wp2;go_ret;exact BoolB.f (fun h => by have:=h.2.1.1;omega) (below1 _ _)
 by_cases hL3 : (8 : Int) < l3
 ·go_enter Tryz.func91,Tryz.ntmps91;go_wp2;go_ret;exact BoolB.f (fun h => by have:=h.2.2.1.1;omega) (below1 _ _)
 by_cases hL4 : (8 : Int) < l4
 ·go_enter Tryz.func91,Tryz.ntmps91;go_wp2;go_ret;exact BoolB.f (fun h => by have:=h.2.2.2.1.1;omega) (below1 _ _)
 by_cases hL5 : (8 : Int) < l5
 ·go_enter Tryz.func91,Tryz.ntmps91;go_wp2;go_ret;exact BoolB.f (fun h => by have:=h.2.2.2.2.1;omega) (below1 _ _)
 go_enter Tryz.func91,Tryz.ntmps91;go_wp2;go_loopw [3] (fun i wr => ∃ k : Nat,k ≤ l1 ∧ i = .int .i64 k ∧ Hid (∀ (j : Nat) z,j < k → c.ns[j]? = some z → ndOk z) ∧ Hid (∀ (j : Nat) z u,j + 1 < k → c.ns[j + 1]? = some z → c.ns[j]? = some u → Op.bytesLess u.n.toList z.n.toList = true) ∧ Hid (Below w.heap.size w wr) ∧ Hid (wr.heap[w.heap.size]? = some (.cells #[.slice a1 l1 y1,.slice a2 l2 y2,.slice a3 l3 y3,.slice a4 l4 y4,.slice a5 l5 y5,.int .i64 c.now] 36 (0,0)))) (fun i _ => l1 - (intOf i).toNat);case atStart => exact ⟨0,by omega,rfl,fun _ _ h => absurd h qqd1,fun _ _ _ h => absurd h qqd1,below1 _ _,Array.getElem?_push_size⟩
 case round =>
  obtain ⟨k,hk,rfl,HQ,HO,HB,Bk⟩:=hrel;have pk : wr.cell? ⟨w.heap.size,0,none⟩ = some (.slice a1 l1 y1):=cellK Bk.out 0;by_cases hlt : k < l1
  ·obtain ⟨b,o,x,rfl,hb,hx,hat⟩:=nd_at (HR.out.n.below HB.out) hlt;obtain ⟨va,vl,vc,hvr,z0,z1,c0,c1,c2,c3,c4,c5,c6⟩:=nd_cells hat;have HXx:=hidK hx;have HTx:=hidK hvr;have HZx0:=hidK z0;have HZx1:=hidK z1;clear hat hx z0 z1 hvr;by_cases hok : ndOk x;rotate_left
   ·have HOK:=hidK hok;clear hok;have Gk:=Bk;have HW:=HB;have k0:=fun q : Wd wr => q.slot (o:=0) Gk.out rfl;obtain ⟨x0,x1,x2,x3,x4⟩:=qqb2;obtain ⟨x5,x6⟩:=qqb23;have hne0:=Wd.ne wr;have HC0:=hidK (fun q : Wd wr => (snode_any x.n x.z x.c x.s x.u x.d va vl vc x.zs q.w HZx0.out HZx1.out (HTx.out.below q.b)).mono (fun _ _ h => BoolB.no h HOK.out));go_wp2_with fail;refine wp_region_wide qqd2 qqd2 ?_;repeat (go_big_quiet_step (first | (go_at_call 112;exact Calls.wide (HC0.out _)) | fail))
    refine wpQuiet_nil ?_;rintro _ ⟨q,rfl⟩;obtain ⟨HB1,Ck⟩:=qqb40;clear hne0 HW HB HC0 k0 x0 x1 x2 x3 x4 x5 x6 Gk Bk c0 c1 c2 c3 c4 c5 c6 pk;have HB:=HB1;clear HB1;have Bk:=Ck;clear Ck;go_wp2;go_ret;exact BoolB.f (fun h => HOK.out (h.1.2.1 k x HXx.out)) HB.out
   have HOK:=hidK hok;clear hok;by_cases hk0 : 0 < k;rotate_left
   ·obtain ⟨hd,Gk⟩:=qqb76;have HW:=HB;have k0:=fun q : Wd wr => q.slot (o:=0) Gk.out rfl;obtain ⟨x0,x1,x2,x3,x4⟩:=qqb2;obtain ⟨x5,x6⟩:=qqb23;have hne0:=Wd.ne wr;have HC0:=hidK (fun q : Wd wr => (snode_any x.n x.z x.c x.s x.u x.d va vl vc x.zs q.w HZx0.out HZx1.out (HTx.out.below q.b)).mono (fun _ _ h => BoolB.yes h HOK.out));go_wp2_with fail;refine wp_region_wide qqd2 qqd2 ?_;repeat (go_big_quiet_step (first | (go_at_call 112;exact Calls.wide (HC0.out _)) | fail))
    refine wpQuiet_nil ?_;rintro _ ⟨q,rfl⟩;obtain ⟨HB1,Ck⟩:=qqb40;clear hne0 HW HB HC0 k0 x0 x1 x2 x3 x4 x5 x6 Gk Bk c0 c1 c2 c3 c4 c5 c6 pk;exact qqa9
   obtain ⟨hk0',ek⟩:=qqb57;obtain ⟨b',o',y,e',hb',hy,haty⟩:=nd_at (HR.out.n.below HB.out) (show k - 1 < l1 by omega);cases e';have y0 : wr.cell? ⟨b,o + (k - 1) * 7,none⟩ = some (.string y.n):=by
    exact qqa68
   have HXy:=hidK hy;clear hy haty;cases hless : Op.bytesLess y.n.toList x.n.toList
   ·obtain ⟨Gk,HW,k0⟩:=qqb66;obtain ⟨x0,x1,x2,x3,x4⟩:=qqb2;obtain ⟨x5,x6⟩:=qqb23;obtain ⟨yw,hne0⟩:=qqb33;have HC0:=hidK (fun q : Wd wr => (snode_any x.n x.z x.c x.s x.u x.d va vl vc x.zs q.w HZx0.out HZx1.out (HTx.out.below q.b)).mono (fun _ _ h => BoolB.yes h HOK.out));go_wp2_with fail;refine wp_region_wide qqd2 qqd2 ?_;repeat (go_big_quiet_step (first | (go_at_call 112;exact Calls.wide (HC0.out _)) | fail))
    refine wpQuiet_nil ?_;rintro _ ⟨q,rfl⟩;obtain ⟨HB1,Ck⟩:=qqb40;clear hne0 HW HB HC0 k0 x0 x1 x2 x3 x4 x5 x6 yw Gk Bk c0 c1 c2 c3 c4 c5 c6 pk y0;have HB:=HB1;clear HB1;have Bk:=Ck;clear Ck;go_wp2;go_ret;refine BoolB.f (fun h => ?_) HB.out;have h3:=h.1.2.2 (k - 1) x y qqd12 HXy.out;rw [hless] at h3;cases h3
   ·obtain ⟨Gk,HW,k0⟩:=qqb66;obtain ⟨x0,x1,x2,x3,x4⟩:=qqb2;obtain ⟨x5,x6⟩:=qqb23;obtain ⟨yw,hne0⟩:=qqb33;have HC0:=hidK (fun q : Wd wr => (snode_any x.n x.z x.c x.s x.u x.d va vl vc x.zs q.w HZx0.out HZx1.out (HTx.out.below q.b)).mono (fun _ _ h => BoolB.yes h HOK.out));go_wp2_with fail;refine wp_region_wide qqd2 qqd2 ?_;repeat (go_big_quiet_step (first | (go_at_call 112;exact Calls.wide (HC0.out _)) | fail))
    refine wpQuiet_nil ?_;rintro _ ⟨q,rfl⟩;obtain ⟨HB1,Ck⟩:=qqb40;clear hne0 HW HB HC0 k0 x0 x1 x2 x3 x4 x5 x6 yw Gk Bk c0 c1 c2 c3 c4 c5 c6 pk y0;exact qqa6
  ·obtain rfl : l1 = k:=qqd1
   have HR1 : Hid (RowOk ndOk Nd.n c.ns 6):=⟨by omega,fun j z hz => HQ.out j z qqd4 hz,fun j z u hz hu => HO.out j z u qqd4 hz hu⟩;clear HQ HO;skip;have kc : wr.cell? ⟨w.heap.size,1,none⟩ = some (.slice a2 l2 y2):=cellK Bk.out 1;go_wp2;go_loopw [4] (fun i wr => ∃ k : Nat,k ≤ l2 ∧ i = .int .i64 k ∧ Hid (∀ (j : Nat) z,j < k → c.ks[j]? = some z → kdOk z) ∧ Hid (∀ (j : Nat) z u,j + 1 < k → c.ks[j + 1]? = some z → c.ks[j]? = some u → Op.bytesLess u.n.toList z.n.toList = true) ∧ Hid (Below w.heap.size w wr) ∧ Hid (wr.heap[w.heap.size]? = some (.cells #[.slice a1 l1 y1,.slice a2 l2 y2,.slice a3 l3 y3,.slice a4 l4 y4,.slice a5 l5 y5,.int .i64 c.now] 36 (0,0)))) (fun i _ => l2 - (intOf i).toNat);case atStart => exact ⟨0,by omega,rfl,fun _ _ h => absurd h qqd1,fun _ _ _ h => absurd h qqd1,HB.out,Bk.out⟩
   case round =>
    obtain ⟨k,hk,rfl,HQ,HO,HB,Bk⟩:=hrel;have pk : wr.cell? ⟨w.heap.size,1,none⟩ = some (.slice a2 l2 y2):=cellK Bk.out 1;by_cases hlt : k < l2
    ·obtain ⟨b,o,x,rfl,hb,hx,hat⟩:=kd_at (HR.out.k.below HB.out) hlt;obtain ⟨z0,z3,c0,c1,c2,c3⟩:=kd_cells hat;have HXx:=hidK hx;have HZx0:=hidK z0;have HZx3:=hidK z3;clear hat hx z0 z3;by_cases hok : kdOk x;rotate_left
     ·have HOK:=hidK hok;clear hok;have Gk:=Bk;obtain ⟨HW,k1,x0,x1,x2,x3⟩:=qqb16;have hne0:=Wd.ne wr;have HC0:=hidK (fun q : Wd wr => (sclass_any x.n x.z x.x x.y q.w HZx0.out HZx3.out).mono (fun _ _ h => BoolB.no h HOK.out));go_wp2_with fail;refine wp_region_wide qqd2 qqd2 ?_;repeat (go_big_quiet_step (first | (go_at_call 113;exact Calls.wide (HC0.out _)) | fail))
      refine wpQuiet_nil ?_;rintro _ ⟨q,rfl⟩;obtain ⟨HB1,Ck⟩:=qqb40;clear hne0 HW HB HC0 k1 x0 x1 x2 x3 Gk Bk c0 c1 c2 c3 pk;have HB:=HB1;clear HB1;have Bk:=Ck;clear Ck;go_wp2;go_ret;exact BoolB.f (fun h => HOK.out (h.2.1.2.1 k x HXx.out)) HB.out
     have HOK:=hidK hok;clear hok;by_cases hk0 : 0 < k;rotate_left
     ·obtain ⟨hd,Gk⟩:=qqb76;obtain ⟨HW,k1,x0,x1,x2,x3⟩:=qqb16;have hne0:=Wd.ne wr;have HC0:=hidK (fun q : Wd wr => (sclass_any x.n x.z x.x x.y q.w HZx0.out HZx3.out).mono (fun _ _ h => BoolB.yes h HOK.out));go_wp2_with fail;refine wp_region_wide qqd2 qqd2 ?_;repeat (go_big_quiet_step (first | (go_at_call 113;exact Calls.wide (HC0.out _)) | fail))
      refine wpQuiet_nil ?_;rintro _ ⟨q,rfl⟩;obtain ⟨HB1,Ck⟩:=qqb40;clear hne0 HW HB HC0 k1 x0 x1 x2 x3 Gk Bk c0 c1 c2 c3 pk;exact qqa9
     obtain ⟨hk0',ek⟩:=qqb57;obtain ⟨b',o',y,e',hb',hy,haty⟩:=kd_at (HR.out.k.below HB.out) (show k - 1 < l2 by omega);cases e';have y0 : wr.cell? ⟨b,o + (k - 1) * 4,none⟩ = some (.string y.n):=by
      exact qqa68
     have HXy:=hidK hy;clear hy haty;cases hless : Op.bytesLess y.n.toList x.n.toList
     ·have Gk : Hid (wr.heap[w.heap.size]? = some (.cells #[.slice a1 l1 y1,.slice (some ⟨b,o,none⟩) l2 y2,.slice a3 l3 y3,.slice a4 l4 y4,.slice a5 l5 y5,.int .i64 c.now] 36 (0,0))):=Bk.out;obtain ⟨HW,k1,x0,x1,x2,x3⟩:=qqb16;obtain ⟨yw,hne0⟩:=qqb33;have HC0:=hidK (fun q : Wd wr => (sclass_any x.n x.z x.x x.y q.w HZx0.out HZx3.out).mono (fun _ _ h => BoolB.yes h HOK.out));go_wp2_with fail;refine wp_region_wide qqd2 qqd2 ?_;repeat (go_big_quiet_step (first | (go_at_call 113;exact Calls.wide (HC0.out _)) | fail))
      refine wpQuiet_nil ?_;rintro _ ⟨q,rfl⟩;obtain ⟨HB1,Ck⟩:=qqb40;clear hne0 HW HB HC0 k1 x0 x1 x2 x3 yw Gk Bk c0 c1 c2 c3 pk y0;have HB:=HB1;clear HB1;have Bk:=Ck;clear Ck;go_wp2;go_ret;refine BoolB.f (fun h => ?_) HB.out;have h3:=h.2.1.2.2 (k - 1) x y qqd12 HXy.out;rw [hless] at h3;cases h3
     ·have Gk : Hid (wr.heap[w.heap.size]? = some (.cells #[.slice a1 l1 y1,.slice (some ⟨b,o,none⟩) l2 y2,.slice a3 l3 y3,.slice a4 l4 y4,.slice a5 l5 y5,.int .i64 c.now] 36 (0,0))):=Bk.out;obtain ⟨HW,k1,x0,x1,x2,x3⟩:=qqb16;obtain ⟨yw,hne0⟩:=qqb33;have HC0:=hidK (fun q : Wd wr => (sclass_any x.n x.z x.x x.y q.w HZx0.out HZx3.out).mono (fun _ _ h => BoolB.yes h HOK.out));go_wp2_with fail;refine wp_region_wide qqd2 qqd2 ?_;repeat (go_big_quiet_step (first | (go_at_call 113;exact Calls.wide (HC0.out _)) | fail))
      refine wpQuiet_nil ?_;rintro _ ⟨q,rfl⟩;obtain ⟨HB1,Ck⟩:=qqb40;clear hne0 HW HB HC0 k1 x0 x1 x2 x3 yw Gk Bk c0 c1 c2 c3 pk y0;exact qqa6
    ·obtain rfl : l2 = k:=qqd1
     have HR2 : Hid (RowOk kdOk Kd.n c.ks 8):=⟨by omega,fun j z hz => HQ.out j z qqd4 hz,fun j z u hz hu => HO.out j z u qqd4 hz hu⟩;clear HQ HO;skip;have kc : wr.cell? ⟨w.heap.size,2,none⟩ = some (.slice a3 l3 y3):=cellK Bk.out 2;go_wp2;go_loopw [5] (fun i wr => ∃ k : Nat,k ≤ l3 ∧ i = .int .i64 k ∧ Hid (∀ (j : Nat) z,j < k → c.vs[j]? = some z → vdOk z) ∧ Hid (∀ (j : Nat) z u,j + 1 < k → c.vs[j + 1]? = some z → c.vs[j]? = some u → Op.bytesLess u.n.toList z.n.toList = true) ∧ Hid (Below w.heap.size w wr) ∧ Hid (wr.heap[w.heap.size]? = some (.cells #[.slice a1 l1 y1,.slice a2 l2 y2,.slice a3 l3 y3,.slice a4 l4 y4,.slice a5 l5 y5,.int .i64 c.now] 36 (0,0)))) (fun i _ => l3 - (intOf i).toNat);case atStart => exact ⟨0,by omega,rfl,fun _ _ h => absurd h qqd1,fun _ _ _ h => absurd h qqd1,HB.out,Bk.out⟩
     case round =>
      obtain ⟨k,hk,rfl,HQ,HO,HB,Bk⟩:=hrel;have pk : wr.cell? ⟨w.heap.size,2,none⟩ = some (.slice a3 l3 y3):=cellK Bk.out 2;by_cases hlt : k < l3
      ·obtain ⟨b,o,x,rfl,hb,hx,hat⟩:=vd_at (HR.out.v.below HB.out) hlt;obtain ⟨va,vl,vc,hvr,z0,z2,z3,z5,c0,c1,c2,c3,c4,c5,c6,c7⟩:=vd_cells hat;have HXx:=hidK hx;have HTx:=hidK hvr;have HZx0:=hidK z0;have HZx2:=hidK z2;have HZx3:=hidK z3;have HZx5:=hidK z5;clear hat hx z0 z2 z3 z5 hvr;by_cases hok : vdOk x;rotate_left
       ·have HOK:=hidK hok;clear hok;have Gk:=Bk;have HW:=HB;have k2:=fun q : Wd wr => q.slot (o:=2) Gk.out rfl;obtain ⟨x0,x1,x2,x3,x4⟩:=qqb2;obtain ⟨x5,x6⟩:=qqb23;have x7:=fun q : Wd wr => (q.cell hb).trans c7;have hne0:=Wd.ne wr;have HC0:=hidK (fun q : Wd wr => (svol_any x.n x.c x.z x.k x.x x.m x.y va vl vc x.zs q.w HZx0.out HZx2.out HZx3.out HZx5.out (HTx.out.below q.b)).mono (fun _ _ h => BoolB.no h HOK.out));go_wp2_with fail;refine wp_region_wide qqd2 qqd2 ?_;repeat (go_big_quiet_step (first | (go_at_call 114;exact Calls.wide (HC0.out _)) | fail))
        refine wpQuiet_nil ?_;rintro _ ⟨q,rfl⟩;obtain ⟨HB1,Ck⟩:=qqb40;clear hne0 HW HB HC0 k2 x0 x1 x2 x3 x4 x5 x6 x7 Gk Bk c0 c1 c2 c3 c4 c5 c6 c7 pk;have HB:=HB1;clear HB1;have Bk:=Ck;clear Ck;go_wp2;go_ret;exact BoolB.f (fun h => HOK.out (h.2.2.1.2.1 k x HXx.out)) HB.out
       have HOK:=hidK hok;clear hok;by_cases hk0 : 0 < k;rotate_left
       ·obtain ⟨hd,Gk⟩:=qqb76;have HW:=HB;have k2:=fun q : Wd wr => q.slot (o:=2) Gk.out rfl;obtain ⟨x0,x1,x2,x3,x4⟩:=qqb2;obtain ⟨x5,x6⟩:=qqb23;have x7:=fun q : Wd wr => (q.cell hb).trans c7;have hne0:=Wd.ne wr;have HC0:=hidK (fun q : Wd wr => (svol_any x.n x.c x.z x.k x.x x.m x.y va vl vc x.zs q.w HZx0.out HZx2.out HZx3.out HZx5.out (HTx.out.below q.b)).mono (fun _ _ h => BoolB.yes h HOK.out));go_wp2_with fail;refine wp_region_wide qqd2 qqd2 ?_;repeat (go_big_quiet_step (first | (go_at_call 114;exact Calls.wide (HC0.out _)) | fail))
        refine wpQuiet_nil ?_;rintro _ ⟨q,rfl⟩;obtain ⟨HB1,Ck⟩:=qqb40;clear hne0 HW HB HC0 k2 x0 x1 x2 x3 x4 x5 x6 x7 Gk Bk c0 c1 c2 c3 c4 c5 c6 c7 pk;exact qqa9
       obtain ⟨hk0',ek⟩:=qqb57;obtain ⟨b',o',y,e',hb',hy,haty⟩:=vd_at (HR.out.v.below HB.out) (show k - 1 < l3 by omega);cases e';have y0 : wr.cell? ⟨b,o + (k - 1) * 8,none⟩ = some (.string y.n):=by
        exact qqa68
       have HXy:=hidK hy;clear hy haty;cases hless : Op.bytesLess y.n.toList x.n.toList
       ·obtain ⟨Gk,HW,k2⟩:=qqb67;obtain ⟨x0,x1,x2,x3,x4⟩:=qqb2;obtain ⟨x5,x6⟩:=qqb23;have x7:=fun q : Wd wr => (q.cell hb).trans c7;obtain ⟨yw,hne0⟩:=qqb33;have HC0:=hidK (fun q : Wd wr => (svol_any x.n x.c x.z x.k x.x x.m x.y va vl vc x.zs q.w HZx0.out HZx2.out HZx3.out HZx5.out (HTx.out.below q.b)).mono (fun _ _ h => BoolB.yes h HOK.out));go_wp2_with fail;refine wp_region_wide qqd2 qqd2 ?_;repeat (go_big_quiet_step (first | (go_at_call 114;exact Calls.wide (HC0.out _)) | fail))
        refine wpQuiet_nil ?_;rintro _ ⟨q,rfl⟩;obtain ⟨HB1,Ck⟩:=qqb40;clear hne0 HW HB HC0 k2 x0 x1 x2 x3 x4 x5 x6 x7 yw Gk Bk c0 c1 c2 c3 c4 c5 c6 c7 pk y0;have HB:=HB1;clear HB1;have Bk:=Ck;clear Ck;go_wp2;go_ret;refine BoolB.f (fun h => ?_) HB.out;have h3:=h.2.2.1.2.2 (k - 1) x y qqd12 HXy.out;rw [hless] at h3;cases h3
       ·obtain ⟨Gk,HW,k2⟩:=qqb67;obtain ⟨x0,x1,x2,x3,x4⟩:=qqb2;obtain ⟨x5,x6⟩:=qqb23;have x7:=fun q : Wd wr => (q.cell hb).trans c7;obtain ⟨yw,hne0⟩:=qqb33;have HC0:=hidK (fun q : Wd wr => (svol_any x.n x.c x.z x.k x.x x.m x.y va vl vc x.zs q.w HZx0.out HZx2.out HZx3.out HZx5.out (HTx.out.below q.b)).mono (fun _ _ h => BoolB.yes h HOK.out));go_wp2_with fail;refine wp_region_wide qqd2 qqd2 ?_;repeat (go_big_quiet_step (first | (go_at_call 114;exact Calls.wide (HC0.out _)) | fail))
        refine wpQuiet_nil ?_;rintro _ ⟨q,rfl⟩;obtain ⟨HB1,Ck⟩:=qqb40;clear hne0 HW HB HC0 k2 x0 x1 x2 x3 x4 x5 x6 x7 yw Gk Bk c0 c1 c2 c3 c4 c5 c6 c7 pk y0;exact qqa6
      ·obtain rfl : l3 = k:=qqd1
       have HR3 : Hid (RowOk vdOk Vd.n c.vs 8):=⟨by omega,fun j z hz => HQ.out j z qqd4 hz,fun j z u hz hu => HO.out j z u qqd4 hz hu⟩;clear HQ HO;skip;have kc : wr.cell? ⟨w.heap.size,3,none⟩ = some (.slice a4 l4 y4):=cellK Bk.out 3;go_wp2;go_loopw [6] (fun i wr => ∃ k : Nat,k ≤ l4 ∧ i = .int .i64 k ∧ Hid (∀ (j : Nat) z,j < k → c.xs[j]? = some z → xdOk z) ∧ Hid (∀ (j : Nat) z u,j + 1 < k → c.xs[j + 1]? = some z → c.xs[j]? = some u → Op.bytesLess u.n.toList z.n.toList = true) ∧ Hid (Below w.heap.size w wr) ∧ Hid (wr.heap[w.heap.size]? = some (.cells #[.slice a1 l1 y1,.slice a2 l2 y2,.slice a3 l3 y3,.slice a4 l4 y4,.slice a5 l5 y5,.int .i64 c.now] 36 (0,0)))) (fun i _ => l4 - (intOf i).toNat);case atStart => exact ⟨0,by omega,rfl,fun _ _ h => absurd h qqd1,fun _ _ _ h => absurd h qqd1,HB.out,Bk.out⟩
       case round =>
        obtain ⟨k,hk,rfl,HQ,HO,HB,Bk⟩:=hrel;have pk : wr.cell? ⟨w.heap.size,3,none⟩ = some (.slice a4 l4 y4):=cellK Bk.out 3;by_cases hlt : k < l4
        ·obtain ⟨b,o,x,rfl,hb,hx,hat⟩:=xd_at (HR.out.x.below HB.out) hlt;obtain ⟨z0,z2,z4,c0,c1,c2,c3,c4⟩:=xd_cells hat;have HXx:=hidK hx;have HZx0:=hidK z0;have HZx2:=hidK z2;have HZx4:=hidK z4;clear hat hx z0 z2 z4;by_cases hok : xdOk x;rotate_left
         ·have HOK:=hidK hok;clear hok;have Gk:=Bk;have HW:=HB;have k3:=fun q : Wd wr => q.slot (o:=3) Gk.out rfl;obtain ⟨x0,x1,x2,x3,x4⟩:=qqb2;have hne0:=Wd.ne wr;have HC0:=hidK (fun q : Wd wr => (sclaim_any x.n x.z x.k x.x x.v q.w HZx0.out HZx2.out HZx4.out).mono (fun _ _ h => BoolB.no h HOK.out));go_wp2_with fail;refine wp_region_wide qqd2 qqd2 ?_;repeat (go_big_quiet_step (first | (go_at_call 115;exact Calls.wide (HC0.out _)) | fail))
          refine wpQuiet_nil ?_;rintro _ ⟨q,rfl⟩;obtain ⟨HB1,Ck⟩:=qqb40;clear hne0 HW HB HC0 k3 x0 x1 x2 x3 x4 Gk Bk c0 c1 c2 c3 c4 pk;have HB:=HB1;clear HB1;have Bk:=Ck;clear Ck;go_wp2;go_ret;exact BoolB.f (fun h => HOK.out (h.2.2.2.1.2.1 k x HXx.out)) HB.out
         have HOK:=hidK hok;clear hok;by_cases hk0 : 0 < k;rotate_left
         ·obtain ⟨hd,Gk⟩:=qqb76;have HW:=HB;have k3:=fun q : Wd wr => q.slot (o:=3) Gk.out rfl;obtain ⟨x0,x1,x2,x3,x4⟩:=qqb2;have hne0:=Wd.ne wr;have HC0:=hidK (fun q : Wd wr => (sclaim_any x.n x.z x.k x.x x.v q.w HZx0.out HZx2.out HZx4.out).mono (fun _ _ h => BoolB.yes h HOK.out));go_wp2_with fail;refine wp_region_wide qqd2 qqd2 ?_;repeat (go_big_quiet_step (first | (go_at_call 115;exact Calls.wide (HC0.out _)) | fail))
          refine wpQuiet_nil ?_;rintro _ ⟨q,rfl⟩;obtain ⟨HB1,Ck⟩:=qqb40;clear hne0 HW HB HC0 k3 x0 x1 x2 x3 x4 Gk Bk c0 c1 c2 c3 c4 pk;exact qqa9
         obtain ⟨hk0',ek⟩:=qqb57;obtain ⟨b',o',y,e',hb',hy,haty⟩:=xd_at (HR.out.x.below HB.out) (show k - 1 < l4 by omega);cases e';have y0 : wr.cell? ⟨b,o + (k - 1) * 5,none⟩ = some (.string y.n):=by
          exact qqa68
         have HXy:=hidK hy;clear hy haty;cases hless : Op.bytesLess y.n.toList x.n.toList
         ·obtain ⟨Gk,HW,k3⟩:=qqb68;obtain ⟨x0,x1,x2,x3,x4⟩:=qqb2;obtain ⟨yw,hne0⟩:=qqb33;have HC0:=hidK (fun q : Wd wr => (sclaim_any x.n x.z x.k x.x x.v q.w HZx0.out HZx2.out HZx4.out).mono (fun _ _ h => BoolB.yes h HOK.out));go_wp2_with fail;refine wp_region_wide qqd2 qqd2 ?_;repeat (go_big_quiet_step (first | (go_at_call 115;exact Calls.wide (HC0.out _)) | fail))
          refine wpQuiet_nil ?_;rintro _ ⟨q,rfl⟩;obtain ⟨HB1,Ck⟩:=qqb40;clear hne0 HW HB HC0 k3 x0 x1 x2 x3 x4 yw Gk Bk c0 c1 c2 c3 c4 pk y0;have HB:=HB1;clear HB1;have Bk:=Ck;clear Ck;go_wp2;go_ret;refine BoolB.f (fun h => ?_) HB.out;have h3:=h.2.2.2.1.2.2 (k - 1) x y qqd12 HXy.out;rw [hless] at h3;cases h3
         ·obtain ⟨Gk,HW,k3⟩:=qqb68;obtain ⟨x0,x1,x2,x3,x4⟩:=qqb2;obtain ⟨yw,hne0⟩:=qqb33;have HC0:=hidK (fun q : Wd wr => (sclaim_any x.n x.z x.k x.x x.v q.w HZx0.out HZx2.out HZx4.out).mono (fun _ _ h => BoolB.yes h HOK.out));go_wp2_with fail;refine wp_region_wide qqd2 qqd2 ?_;repeat (go_big_quiet_step (first | (go_at_call 115;exact Calls.wide (HC0.out _)) | fail))
          refine wpQuiet_nil ?_;rintro _ ⟨q,rfl⟩;obtain ⟨HB1,Ck⟩:=qqb40;clear hne0 HW HB HC0 k3 x0 x1 x2 x3 x4 yw Gk Bk c0 c1 c2 c3 c4 pk y0;exact qqa6
        ·obtain rfl : l4 = k:=qqd1
         have HR4 : Hid (RowOk xdOk Xd.n c.xs 8):=⟨by omega,fun j z hz => HQ.out j z qqd4 hz,fun j z u hz hu => HO.out j z u qqd4 hz hu⟩;clear HQ HO;skip;have kc : wr.cell? ⟨w.heap.size,4,none⟩ = some (.slice a5 l5 y5):=cellK Bk.out 4;go_wp2;go_loopw [7] (fun i wr => ∃ k : Nat,k ≤ l5 ∧ i = .int .i64 k ∧ Hid (∀ (j : Nat) z,j < k → c.ps[j]? = some z → pdOk z) ∧ Hid (∀ (j : Nat) z u,j + 1 < k → c.ps[j + 1]? = some z → c.ps[j]? = some u → Op.bytesLess u.n.toList z.n.toList = true) ∧ Hid (Below w.heap.size w wr) ∧ Hid (wr.heap[w.heap.size]? = some (.cells #[.slice a1 l1 y1,.slice a2 l2 y2,.slice a3 l3 y3,.slice a4 l4 y4,.slice a5 l5 y5,.int .i64 c.now] 36 (0,0)))) (fun i _ => l5 - (intOf i).toNat);case atStart => exact ⟨0,by omega,rfl,fun _ _ h => absurd h qqd1,fun _ _ _ h => absurd h qqd1,HB.out,Bk.out⟩
         case round =>
          obtain ⟨k,hk,rfl,HQ,HO,HB,Bk⟩:=hrel;have pk : wr.cell? ⟨w.heap.size,4,none⟩ = some (.slice a5 l5 y5):=cellK Bk.out 4;by_cases hlt : k < l5
          ·obtain ⟨b,o,x,rfl,hb,hx,hat⟩:=pd_at (HR.out.p.below HB.out) hlt;obtain ⟨va,vl,vc,hvr,z0,z2,z4,c0,c1,c2,c3,c4,c5⟩:=pd_cells hat;have HXx:=hidK hx;have HTx:=hidK hvr;have HZx0:=hidK z0;have HZx2:=hidK z2;have HZx4:=hidK z4;clear hat hx z0 z2 z4 hvr;by_cases hok : pdOk x;rotate_left
           ·have HOK:=hidK hok;clear hok;have Gk:=Bk;have HW:=HB;have k4:=fun q : Wd wr => q.slot (o:=4) Gk.out rfl;obtain ⟨x0,x1,x2,x3,x4⟩:=qqb2;have x5:=fun q : Wd wr => (q.cell hb).trans c5;have hne0:=Wd.ne wr;have HC0:=hidK (fun q : Wd wr => (spod_any x.n x.c x.z va vl vc x.zs x.d x.p q.w HZx0.out HZx2.out HZx4.out (HTx.out.below q.b)).mono (fun _ _ h => BoolB.no h HOK.out));go_wp2_with fail;refine wp_region_wide qqd2 qqd2 ?_;repeat (go_big_quiet_step (first | (go_at_call 116;exact Calls.wide (HC0.out _)) | fail))
            refine wpQuiet_nil ?_;rintro _ ⟨q,rfl⟩;obtain ⟨HB1,Ck⟩:=qqb40;clear hne0 HW HB HC0 k4 x0 x1 x2 x3 x4 x5 Gk Bk c0 c1 c2 c3 c4 c5 pk;have HB:=HB1;clear HB1;have Bk:=Ck;clear Ck;go_wp2;go_ret;exact BoolB.f (fun h => HOK.out (h.2.2.2.2.2.1 k x HXx.out)) HB.out
           have HOK:=hidK hok;clear hok;by_cases hk0 : 0 < k;rotate_left
           ·obtain ⟨hd,Gk⟩:=qqb76;have HW:=HB;have k4:=fun q : Wd wr => q.slot (o:=4) Gk.out rfl;obtain ⟨x0,x1,x2,x3,x4⟩:=qqb2;have x5:=fun q : Wd wr => (q.cell hb).trans c5;have hne0:=Wd.ne wr;have HC0:=hidK (fun q : Wd wr => (spod_any x.n x.c x.z va vl vc x.zs x.d x.p q.w HZx0.out HZx2.out HZx4.out (HTx.out.below q.b)).mono (fun _ _ h => BoolB.yes h HOK.out));go_wp2_with fail;refine wp_region_wide qqd2 qqd2 ?_;repeat (go_big_quiet_step (first | (go_at_call 116;exact Calls.wide (HC0.out _)) | fail))
            refine wpQuiet_nil ?_;rintro _ ⟨q,rfl⟩;obtain ⟨HB1,Ck⟩:=qqb40;clear hne0 HW HB HC0 k4 x0 x1 x2 x3 x4 x5 Gk Bk c0 c1 c2 c3 c4 c5 pk;exact qqa9
           obtain ⟨hk0',ek⟩:=qqb57;obtain ⟨b',o',y,e',hb',hy,haty⟩:=pd_at (HR.out.p.below HB.out) (show k - 1 < l5 by omega);cases e';have y0 : wr.cell? ⟨b,o + (k - 1) * 6,none⟩ = some (.string y.n):=by
            exact qqa68
           have HXy:=hidK hy;clear hy haty;cases hless : Op.bytesLess y.n.toList x.n.toList
           ·obtain ⟨Gk,HW,k4⟩:=qqb69;obtain ⟨x0,x1,x2,x3,x4⟩:=qqb2;have x5:=fun q : Wd wr => (q.cell hb).trans c5;obtain ⟨yw,hne0⟩:=qqb33;have HC0:=hidK (fun q : Wd wr => (spod_any x.n x.c x.z va vl vc x.zs x.d x.p q.w HZx0.out HZx2.out HZx4.out (HTx.out.below q.b)).mono (fun _ _ h => BoolB.yes h HOK.out));go_wp2_with fail;refine wp_region_wide qqd2 qqd2 ?_;repeat (go_big_quiet_step (first | (go_at_call 116;exact Calls.wide (HC0.out _)) | fail))
            refine wpQuiet_nil ?_;rintro _ ⟨q,rfl⟩;obtain ⟨HB1,Ck⟩:=qqb40;clear hne0 HW HB HC0 k4 x0 x1 x2 x3 x4 x5 yw Gk Bk c0 c1 c2 c3 c4 c5 pk y0;have HB:=HB1;clear HB1;have Bk:=Ck;clear Ck;go_wp2;go_ret;refine BoolB.f (fun h => ?_) HB.out;have h3:=h.2.2.2.2.2.2 (k - 1) x y qqd12 HXy.out;rw [hless] at h3;cases h3
           ·obtain ⟨Gk,HW,k4⟩:=qqb69;obtain ⟨x0,x1,x2,x3,x4⟩:=qqb2;have x5:=fun q : Wd wr => (q.cell hb).trans c5;obtain ⟨yw,hne0⟩:=qqb33;have HC0:=hidK (fun q : Wd wr => (spod_any x.n x.c x.z va vl vc x.zs x.d x.p q.w HZx0.out HZx2.out HZx4.out (HTx.out.below q.b)).mono (fun _ _ h => BoolB.yes h HOK.out));go_wp2_with fail;refine wp_region_wide qqd2 qqd2 ?_;repeat (go_big_quiet_step (first | (go_at_call 116;exact Calls.wide (HC0.out _)) | fail))
            refine wpQuiet_nil ?_;rintro _ ⟨q,rfl⟩;obtain ⟨HB1,Ck⟩:=qqb40;clear hne0 HW HB HC0 k4 x0 x1 x2 x3 x4 x5 yw Gk Bk c0 c1 c2 c3 c4 c5 pk y0;exact qqa6
          ·obtain rfl : l5 = k:=qqd1
           have HR5 : Hid (RowOk pdOk Pd.n c.ps 8):=⟨by omega,fun j z hz => HQ.out j z qqd4 hz,fun j z u hz hu => HO.out j z u qqd4 hz hu⟩;clear HQ HO;go_wp2;go_ret;exact BoolB.t ⟨HR1.out,HR2.out,HR3.out,HR4.out,HR5.out⟩ HB.out

def KHas (c : Cl) (t : ByteArray) : Prop:=∃ (i : Nat) (k : Kd),c.ks[i]? = some k ∧ k.n = t
def SV (c : Cl) (v : Vd) : Prop:=KHas c v.k ∧ (v.m = ⟨#[]⟩ ∨ ∃ (i : Nat) (x : Xd),c.xs[i]? = some x ∧ x.n = v.m ∧ x.v = v.n)
def SX (c : Cl) (x : Xd) : Prop:=KHas c x.k ∧ (x.v = ⟨#[]⟩ ∨ ∃ (j : Nat) (v : Vd),c.vs[j]? = some v ∧ v.n = x.v ∧ v.m = x.n ∧ x.z ≤ v.c ∧ v.k = x.k ∧ v.x = x.x)
def BoundS (c : Cl) : Prop:=(∀ (j : Nat) z,c.vs[j]? = some z → SV c z) ∧ (∀ (j : Nat) z,c.xs[j]? = some z → SX c z)

theorem sbound_any (d : Ad) (c : Cl) (w : World) (hr : ClRow w d c.raw) (hks : RisBy Kd.n c.ks) (hxs : RisBy Xd.n c.xs) (hvs : RisBy Vd.n c.vs) :
  Calls Tryz.prog 92 #[.agg #[.slice d.a1 d.l1 d.c1,.slice d.a2 d.l2 d.c2,.slice d.a3 d.l3 d.c3,.slice d.a4 d.l4 d.c4,.slice d.a5 d.l5 d.c5,.int .i64 c.now]] w (BoolB (BoundS c) w):=by
 obtain ⟨a1,l1,y1,a2,l2,y2,a3,l3,y3,a4,l4,y4,a5,l5,y5⟩:=d;dsimp only;obtain ⟨HR,hl1,hm1,hl2,hm2,hl3,hm3,hl4,hm4,hl5,hm5⟩:=qqb1;clear hr;have HKS:=hidK hks;have HXS:=hidK hxs;have HVS:=hidK hvs;clear hks hxs hvs;go_enter Tryz.func92,Tryz.ntmps92;go_wp2;go_loopw [3] (fun i wr => ∃ k : Nat,k ≤ l3 ∧ i = .int .i64 k ∧ Hid (∀ (j : Nat) z,j < k → c.vs[j]? = some z → SV c z) ∧ Hid (Below w.heap.size w wr) ∧ Hid (wr.heap[w.heap.size]? = some (.cells #[.slice a1 l1 y1,.slice a2 l2 y2,.slice a3 l3 y3,.slice a4 l4 y4,.slice a5 l5 y5,.int .i64 c.now] 36 (0,0)))) (fun i _ => l3 - (intOf i).toNat);case atStart => exact ⟨0,by omega,rfl,fun _ _ h => absurd h qqd1,below1 _ _,Array.getElem?_push_size⟩
 case round =>
  obtain ⟨k,hk,rfl,HQ,HB,Bk⟩:=hrel;have pk : wr.cell? ⟨w.heap.size,2,none⟩ = some (.slice a3 l3 y3):=cellK Bk.out 2;by_cases hlt : k < l3
  ·obtain ⟨b,o,v,rfl,hb,hx,hat⟩:=vd_at (HR.out.v.below HB.out) hlt;obtain ⟨va,vl,vc,hvr,z0,z2,z3,z5,c0,c1,c2,c3,c4,c5,c6,c7⟩:=vd_cells hat;obtain ⟨HXv,HTv,HZv0,HZv2,HZv3,HZv5⟩:=qqb59;clear hat hx z0 z2 z3 z5 hvr;obtain ⟨k0,k1,k2,k3,k4,k5⟩:=cs6 Bk.out;have ltk_0:=lt_of_some Bk.out;go_wp2_with fail;refine (sxxd_any ⟨a1,l1,y1,a2,l2,y2,(some ⟨b,o,none⟩),l3,y3,a4,l4,y4,a5,l5,y5⟩ c.now c.xs v.m _ (HR.out.x.below (HB.out.trans ((below1 _ _).mono HB.out.size)))).mono ?_;rintro e w1 ⟨hb2,hf⟩;clear k0 k1 k2 k3 k4 k5 ltk_0;obtain ⟨HA0,hbx⟩:=slots1 hb2;replace Bk:=upK Bk hbx;have Br:=hidK HA0;replace HB:=upB HB hbx;clear hb2 hbx HA0;clear pk hb c0 c1 c2 c3 c4 c5 c6 c7;by_cases hkh : KHas c v.k;rotate_left
   ·have HKH:=hidK hkh;clear hkh;obtain ⟨r,hre⟩ : ∃ r : Int,e = .returned (.int .i64 r):=by rcases hf with ⟨j,y,_,_,h⟩ | ⟨_,h⟩ <;> exact ⟨_,h⟩
    subst hre;clear hf;obtain ⟨Gk,Gr,HW⟩:=qqb37;obtain ⟨k0,k1,k2,k3,k4,k5⟩:=sl6 Gk;obtain ⟨r0,r1,r2,r3,r4,r5,r6,r7⟩:=sl8 Gr;have hne0:=Wd.ne w1;have HC0:=hidK (fun q : Wd w1 => sxkd_miss ⟨a1,l1,y1,a2,l2,y2,(some ⟨b,o,none⟩),l3,y3,a4,l4,y4,a5,l5,y5⟩ c.now c.ks v.k q.w (HR.out.k.below (HW.out.trans (q.b.mono HW.out.size))) (fun j y h1 h2 => HKH.out ⟨j,y,h1,h2⟩));go_wp2_with fail;refine wp_region_wide qqd2 qqd2 ?_;repeat (go_big_quiet_step (first | (go_at_call 118;exact Calls.wide (HC0.out _)) | fail))
    refine wpQuiet_nil ?_;rintro _ ⟨q1,rfl⟩;have HB2:=upB HW q1.b;obtain ⟨Ck,Cr⟩:=qqb34;clear hne0 HW HB HC0 k0 k1 k2 k3 k4 k5 r0 r1 r2 r3 r4 r5 r6 r7 Gk Gr Bk Br;have HB:=HB2;clear HB2;have Bk:=Ck;clear Ck;have Br:=Cr;clear Cr;go_wp2;go_ret;exact BoolB.f (fun h => HKH.out (h.1 k v HXv.out).1) HB.out
   obtain ⟨i2,kd2,g1,g2⟩:=hkh;have HG1:=hidK g1;have HG2:=hidK g2;have hi20 : ¬ ((i2 : Int) < 0):=qqd1
   have hi21 : decide ((i2 : Int) < 0) = false:=qqd6
   clear g1 g2;by_cases he : v.m = ⟨#[]⟩
   ·have hq:=isE_y he;have HEm:=hidK he;clear he;obtain ⟨r,hre⟩ : ∃ r : Int,e = .returned (.int .i64 r):=by rcases hf with ⟨j,y,_,_,h⟩ | ⟨_,h⟩ <;> exact ⟨_,h⟩
    subst hre;clear hf;obtain ⟨Gk,Gr,HW⟩:=qqb37;obtain ⟨k0,k1,k2,k3,k4,k5⟩:=sl6 Gk;obtain ⟨r0,r1,r2,r3,r4,r5,r6,r7⟩:=sl8 Gr;obtain ⟨hne0,HC0⟩:=qqb72;go_wp2_with fail;refine wp_region_wide qqd2 qqd2 ?_;repeat (go_big_quiet_step (first | (go_at_call 118;exact Calls.wide (HC0.out _)) | fail))
    refine wpQuiet_nil ?_;rintro _ ⟨q1,rfl⟩;have HB2:=upB HW q1.b;obtain ⟨Ck,Cr⟩:=qqb34;clear hne0 HW HB HC0 k0 k1 k2 k3 k4 k5 r0 r1 r2 r3 r4 r5 r6 r7 Gk Gr Bk Br;have HB:=HB2;clear HB2;have Bk:=Ck;clear Ck;have Br:=Cr;clear Cr;go_wp2_with fail;refine ⟨⟨k + 1,by omega,by go_num,fun j z hj hz => ?_,HB.out,Bk.out⟩,by simp [intOf];omega⟩;by_cases e : j = k
    ·subst e;rw [HXv.out] at hz;obtain rfl:=Option.some.inj hz;exact ⟨⟨i2,kd2,HG1.out,HG2.out⟩,.inl HEm.out⟩
    ·exact HQ.out j z qqd1 hz
   have hq:=isE_no he;have HEm:=hidK he;clear he;rcases hf with ⟨j4,y,h1,h2,rfl⟩ | ⟨hh,rfl⟩;rotate_left
   ·have HH:=hidK hh;clear hh;obtain ⟨Gk,Gr,HW⟩:=qqb37;obtain ⟨k0,k1,k2,k3,k4,k5⟩:=sl6 Gk;obtain ⟨r0,r1,r2,r3,r4,r5,r6,r7⟩:=sl8 Gr;obtain ⟨hne0,HC0⟩:=qqb72;go_wp2_with fail;refine wp_region_wide qqd2 qqd2 ?_;repeat (go_big_quiet_step (first | (go_at_call 118;exact Calls.wide (HC0.out _)) | fail))
    refine wpQuiet_nil ?_;rintro _ ⟨q1,rfl⟩;have HB2:=upB HW q1.b;obtain ⟨Ck,Cr⟩:=qqb34;clear hne0 HW HB HC0 k0 k1 k2 k3 k4 k5 r0 r1 r2 r3 r4 r5 r6 r7 Gk Gr Bk Br;have HB:=HB2;clear HB2;have Bk:=Ck;clear Ck;have Br:=Cr;clear Cr;go_wp2;go_ret;refine BoolB.f (fun h => ?_) HB.out;rcases (h.1 k v HXv.out).2 with h2 | ⟨i,y,h2,h3,_⟩
    ·exact HEm.out h2
    ·exact HH.out i y h2 h3
   have hl4' : j4 < l4:=by have h3:=(List.getElem?_eq_some_iff.1 h1).1;omega
   obtain ⟨b4,o4,y',rfl,hb4,hy',hat⟩:=xd_at HR.out.x hl4';rw [h1] at hy';obtain rfl:=Option.some.inj hy';obtain ⟨z0,z2,z4,c0,c1,c2,c3,c4⟩:=xd_cells hat;have HJ:=hidK h1;have HN:=hidK h2;have hcv:=(cell_below HB.out hb4).trans c4;have hbv : b4 < w1.heap.size:=Nat.lt_of_lt_of_le hb4 HB.out.size;have hj0 : ¬ ((j4 : Int) < 0):=qqd1
   have hj1 : decide ((j4 : Int) < 0) = false:=qqd6
   clear hy' hat z0 z2 z4 c0 c1 c2 c3 c4 h1 h2;by_cases hvn : y.v = v.n
   ·have hq2:=tl_yes hvn;have HVN:=hidK hvn;clear hvn;obtain ⟨Gk,Gr,HW⟩:=qqb37;obtain ⟨k0,k1,k2,k3,k4,k5⟩:=sl6 Gk;obtain ⟨r0,r1,r2,r3,r4,r5,r6,r7⟩:=sl8 Gr;obtain ⟨yw,hne0,HC0⟩:=qqb50;go_wp2_with fail;refine wp_region_wide qqd2 qqd2 ?_;repeat (go_big_quiet_step (first | (go_at_call 118;exact Calls.wide (HC0.out _)) | fail))
    refine wpQuiet_nil ?_;rintro _ ⟨q1,rfl⟩;have HB2:=upB HW q1.b;obtain ⟨Ck,Cr⟩:=qqb34;clear hne0 HW HB HC0 k0 k1 k2 k3 k4 k5 r0 r1 r2 r3 r4 r5 r6 r7 yw Gk Gr Bk Br hcv hbv;have HB:=HB2;clear HB2;have Bk:=Ck;clear Ck;have Br:=Cr;clear Cr;go_wp2_with fail;refine ⟨⟨k + 1,by omega,by go_num,fun j z hj hz => ?_,HB.out,Bk.out⟩,by simp [intOf];omega⟩;by_cases e : j = k
    ·subst e;rw [HXv.out] at hz;obtain rfl:=Option.some.inj hz;exact ⟨⟨i2,kd2,HG1.out,HG2.out⟩,.inr ⟨j4,y,HJ.out,HN.out,HVN.out⟩⟩
    ·exact HQ.out j z qqd1 hz
   ·have hq2:=tl_no hvn;have HVN:=hidK hvn;clear hvn;obtain ⟨Gk,Gr,HW⟩:=qqb37;obtain ⟨k0,k1,k2,k3,k4,k5⟩:=sl6 Gk;obtain ⟨r0,r1,r2,r3,r4,r5,r6,r7⟩:=sl8 Gr;obtain ⟨yw,hne0,HC0⟩:=qqb50;go_wp2_with fail;refine wp_region_wide qqd2 qqd2 ?_;repeat (go_big_quiet_step (first | (go_at_call 118;exact Calls.wide (HC0.out _)) | fail))
    refine wpQuiet_nil ?_;rintro _ ⟨q1,rfl⟩;have HB2:=upB HW q1.b;obtain ⟨Ck,Cr⟩:=qqb34;clear hne0 HW HB HC0 k0 k1 k2 k3 k4 k5 r0 r1 r2 r3 r4 r5 r6 r7 yw Gk Gr Bk Br hcv hbv;have HB:=HB2;clear HB2;have Bk:=Ck;clear Ck;have Br:=Cr;clear Cr;go_wp2;go_ret;refine BoolB.f (fun h => ?_) HB.out;rcases (h.1 k v HXv.out).2 with h2 | ⟨i,y2,h2,h3,h4⟩
    ·exact HEm.out h2
    ·obtain ⟨_,rfl⟩:=HXS.out.inj h2 HJ.out (h3.trans HN.out.symm);exact HVN.out h4
  ·obtain rfl : l3 = k:=qqd1
   have HQ1 : Hid (∀ (j : Nat) z,c.vs[j]? = some z → SV c z):=fun j z hz => HQ.out j z qqd4 hz;clear HQ;have kc : wr.cell? ⟨w.heap.size,3,none⟩ = some (.slice a4 l4 y4):=cellK Bk.out 3;go_wp2;go_loopw [6] (fun i wr => ∃ k : Nat,k ≤ l4 ∧ i = .int .i64 k ∧ Hid (∀ (j : Nat) z,j < k → c.xs[j]? = some z → SX c z) ∧ Hid (Below w.heap.size w wr) ∧ Hid (wr.heap[w.heap.size]? = some (.cells #[.slice a1 l1 y1,.slice a2 l2 y2,.slice a3 l3 y3,.slice a4 l4 y4,.slice a5 l5 y5,.int .i64 c.now] 36 (0,0)))) (fun i _ => l4 - (intOf i).toNat);case atStart => exact ⟨0,by omega,rfl,fun _ _ h => absurd h qqd1,HB.out,Bk.out⟩
   case round =>
    obtain ⟨k,hk,rfl,HQ,HB,Bk⟩:=hrel;have pk : wr.cell? ⟨w.heap.size,3,none⟩ = some (.slice a4 l4 y4):=cellK Bk.out 3;by_cases hlt : k < l4
    ·obtain ⟨b,o,x,rfl,hb,hx,hat⟩:=xd_at (HR.out.x.below HB.out) hlt;obtain ⟨z0,z2,z4,c0,c1,c2,c3,c4⟩:=xd_cells hat;have HXx:=hidK hx;have HZx0:=hidK z0;have HZx2:=hidK z2;have HZx4:=hidK z4;clear hat hx z0 z2 z4;obtain ⟨k0,k1,k2,k3,k4,k5⟩:=cs6 Bk.out;have ltk_0:=lt_of_some Bk.out;go_wp2_with fail;refine (sxvd_any ⟨a1,l1,y1,a2,l2,y2,a3,l3,y3,(some ⟨b,o,none⟩),l4,y4,a5,l5,y5⟩ c.now c.vs x.v _ (HR.out.v.below (HB.out.trans ((below1 _ _).mono HB.out.size)))).mono ?_;rintro e w1 ⟨hb2,hf⟩;clear k0 k1 k2 k3 k4 k5 ltk_0;obtain ⟨HA0,hbx⟩:=slots1 hb2;replace Bk:=upK Bk hbx;have Br:=hidK HA0;replace HB:=upB HB hbx;clear hb2 hbx HA0;clear pk hb c0 c1 c2 c3 c4;by_cases hkh : KHas c x.k;rotate_left
     ·have HKH:=hidK hkh;clear hkh;obtain ⟨r,hre⟩ : ∃ r : Int,e = .returned (.int .i64 r):=by rcases hf with ⟨j,y,_,_,h⟩ | ⟨_,h⟩ <;> exact ⟨_,h⟩
      subst hre;clear hf;obtain ⟨k0,k1,k2,k3,k4,k5⟩:=cs6 Bk.out;have ltk_1:=lt_of_some Bk.out;obtain ⟨r0,r1,r2,r3,r4⟩:=cs5 Br.out;have ltr_1:=lt_of_some Br.out;go_wp2_with fail;refine (sxkd_miss ⟨a1,l1,y1,a2,l2,y2,a3,l3,y3,(some ⟨b,o,none⟩),l4,y4,a5,l5,y5⟩ c.now c.ks x.k _ (HR.out.k.below HB.out) (fun j y h1 h2 => HKH.out ⟨j,y,h1,h2⟩)).mono ?_;rintro e w2 ⟨rfl,hb3⟩;clear k0 k1 k2 k3 k4 k5 ltk_1 r0 r1 r2 r3 r4 ltr_1;replace Bk:=upK Bk hb3;replace Br:=upK Br hb3;replace HB:=upB HB hb3;clear hb3;go_wp2;go_ret;exact BoolB.f (fun h => HKH.out (h.2 k x HXx.out).1) HB.out
     obtain ⟨i2,kd2,g1,g2⟩:=hkh;have HG1:=hidK g1;have HG2:=hidK g2;have hi20 : ¬ ((i2 : Int) < 0):=qqd1
     have hi21 : decide ((i2 : Int) < 0) = false:=qqd6
     clear g1 g2;by_cases he : x.v = ⟨#[]⟩
     ·have hq:=isE_y he;have HEm:=hidK he;clear he;obtain ⟨r,hre⟩ : ∃ r : Int,e = .returned (.int .i64 r):=by rcases hf with ⟨j,y,_,_,h⟩ | ⟨_,h⟩ <;> exact ⟨_,h⟩
      subst hre;clear hf;obtain ⟨k0,k1,k2,k3,k4,k5⟩:=cs6 Bk.out;have ltk_1:=lt_of_some Bk.out;obtain ⟨r0,r1,r2,r3,r4⟩:=cs5 Br.out;have ltr_1:=lt_of_some Br.out;go_wp2_with fail;refine (sxkd_hit ⟨a1,l1,y1,a2,l2,y2,a3,l3,y3,(some ⟨b,o,none⟩),l4,y4,a5,l5,y5⟩ c.now c.ks x.k _ (HR.out.k.below HB.out) HKS.out HG1.out HG2.out).mono ?_;rintro e w2 ⟨rfl,hb3⟩;clear k0 k1 k2 k3 k4 k5 ltk_1 r0 r1 r2 r3 r4 ltr_1;replace Bk:=upK Bk hb3;replace Br:=upK Br hb3;replace HB:=upB HB hb3;clear hb3;obtain ⟨k0,k1,k2,k3,k4,k5⟩:=cs6 Bk.out;have ltk_2:=lt_of_some Bk.out;obtain ⟨r0,r1,r2,r3,r4⟩:=cs5 Br.out;have ltr_2:=lt_of_some Br.out;go_wp2_with fail;refine ⟨⟨k + 1,by omega,by go_num,fun j z hj hz => ?_,HB.out,Bk.out⟩,by simp [intOf];omega⟩;by_cases e : j = k
      ·subst e;rw [HXx.out] at hz;obtain rfl:=Option.some.inj hz;exact ⟨⟨i2,kd2,HG1.out,HG2.out⟩,.inl HEm.out⟩
      ·exact HQ.out j z qqd1 hz
     have hq:=isE_no he;have HEm:=hidK he;clear he;rcases hf with ⟨j3,y,h1,h2,rfl⟩ | ⟨hh,rfl⟩;rotate_left
     ·have HH:=hidK hh;clear hh;obtain ⟨k0,k1,k2,k3,k4,k5⟩:=cs6 Bk.out;have ltk_1:=lt_of_some Bk.out;obtain ⟨r0,r1,r2,r3,r4⟩:=cs5 Br.out;have ltr_1:=lt_of_some Br.out;go_wp2_with fail;refine (sxkd_hit ⟨a1,l1,y1,a2,l2,y2,a3,l3,y3,(some ⟨b,o,none⟩),l4,y4,a5,l5,y5⟩ c.now c.ks x.k _ (HR.out.k.below HB.out) HKS.out HG1.out HG2.out).mono ?_;rintro e w2 ⟨rfl,hb3⟩;clear k0 k1 k2 k3 k4 k5 ltk_1 r0 r1 r2 r3 r4 ltr_1;replace Bk:=upK Bk hb3;replace Br:=upK Br hb3;replace HB:=upB HB hb3;clear hb3;have pr : w2.cell? ⟨wr.heap.size,4,none⟩ = some (.string x.v):=cellK Br.out 4;obtain ⟨Gk,Gr,HW⟩:=qqb37;have k2:=fun q : Wd w2 => q.slot (o:=2) Gk.out rfl;obtain ⟨r0,r1,r2,r3,r4⟩:=sl5 Gr;have hne0:=Wd.ne w2;go_wp2_with fail;refine wp_region_wide qqd2 qqd2 ?_;repeat (go_big_quiet_step (first | fail))
      refine wpQuiet_nil ?_;rintro _ ⟨q1,rfl⟩;have HB3:=upB HW q1.b;obtain ⟨Ck,Cr⟩:=qqb34;clear hne0 HW HB k2 r0 r1 r2 r3 r4 Gk Gr Bk Br pr;have HB:=HB3;clear HB3;have Bk:=Ck;clear Ck;have Br:=Cr;clear Cr;go_wp2;go_ret;refine BoolB.f (fun h => ?_) HB.out;rcases (h.2 k x HXx.out).2 with h2 | ⟨i,y,h2,h3,_⟩
      ·exact HEm.out h2
      ·exact HH.out i y h2 h3
     have hl3' : j3 < l3:=by have h3:=(List.getElem?_eq_some_iff.1 h1).1;omega
     obtain ⟨b3,o3,y',rfl,hb3,hy',hat⟩:=vd_at HR.out.v hl3';rw [h1] at hy';obtain rfl:=Option.some.inj hy';obtain ⟨va,vl,vc,hvr,z0,z2,z3,z5,c0,c1,c2,c3,c4,c5,c6,c7⟩:=vd_cells hat;have HJ:=hidK h1;have HN:=hidK h2;have hj0 : ¬ ((j3 : Int) < 0):=qqd1
     have hj1 : decide ((j3 : Int) < 0) = false:=qqd6
     have HC1:=hidK c1;have HC3:=hidK c3;have HC4:=hidK c4;have HC5:=hidK c5;have HB3:=hidK hb3;clear hy' hat hvr z0 z2 z3 z5 c0 c1 c2 c3 c4 c5 c6 c7 h1 h2 hb3;obtain ⟨k0,k1,k2,k3,k4,k5⟩:=cs6 Bk.out;have ltk_1:=lt_of_some Bk.out;obtain ⟨r0,r1,r2,r3,r4⟩:=cs5 Br.out;have ltr_1:=lt_of_some Br.out;go_wp2_with fail;refine (sxkd_hit ⟨a1,l1,y1,a2,l2,y2,(some ⟨b3,o3,none⟩),l3,y3,(some ⟨b,o,none⟩),l4,y4,a5,l5,y5⟩ c.now c.ks x.k _ (HR.out.k.below HB.out) HKS.out HG1.out HG2.out).mono ?_;rintro e w2 ⟨rfl,hb3⟩;clear k0 k1 k2 k3 k4 k5 ltk_1 r0 r1 r2 r3 r4 ltr_1;replace Bk:=upK Bk hb3;replace Br:=upK Br hb3;replace HB:=upB HB hb3;clear hb3;have pr : w2.cell? ⟨wr.heap.size,4,none⟩ = some (.string x.v):=cellK Br.out 4;have hbv : b3 < w2.heap.size:=Nat.lt_of_lt_of_le HB3.out HB.out.size;have v1:=(cell_below HB.out HB3.out).trans HC1.out;have v3:=(cell_below HB.out HB3.out).trans HC3.out;have v4:=(cell_below HB.out HB3.out).trans HC4.out;have v5:=(cell_below HB.out HB3.out).trans HC5.out;clear HC1 HC3 HC4 HC5 HB3;by_cases hno : y.m = x.n;rotate_left
     ·have HNo:=hidK hno;clear hno;have n1:=tl_no HNo.out;obtain ⟨Gk,Gr,HW⟩:=qqb37;have k2:=fun q : Wd w2 => q.slot (o:=2) Gk.out rfl;obtain ⟨r0,r1,r2,r3,r4⟩:=sl5 Gr;obtain ⟨v1w,v3w,v4w,v5w,hne0⟩:=qqb13;go_wp2_with fail;refine wp_region_wide qqd2 qqd2 ?_;repeat (go_big_quiet_step (first | fail))
      refine wpQuiet_nil ?_;rintro _ ⟨q1,rfl⟩;have HB3:=upB HW q1.b;obtain ⟨Ck,Cr⟩:=qqb34;clear hne0 HW HB k2 r0 r1 r2 r3 r4 v1w v3w v4w v5w Gk Gr Bk Br pr v1 v3 v4 v5 hbv;have HB:=HB3;clear HB3;have Bk:=Ck;clear Ck;have Br:=Cr;clear Cr;go_wp2;go_ret;refine BoolB.f (fun h => ?_) HB.out;rcases (h.2 k x HXx.out).2 with h2 | ⟨i,y2,h2,h3,h4⟩
      ·exact HEm.out h2
      ·obtain ⟨_,rfl⟩:=HVS.out.inj h2 HJ.out (h3.trans HN.out.symm);exact HNo.out h4.1
     have HY1:=hidK hno;have q1:=tl_yes hno;clear hno;by_cases hno : x.z ≤ y.c;rotate_left
     ·have HNo:=hidK hno;clear hno;have n1 : y.c < x.z:=by have:=HNo.out;omega
      obtain ⟨Gk,Gr,HW⟩:=qqb37;have k2:=fun q : Wd w2 => q.slot (o:=2) Gk.out rfl;obtain ⟨r0,r1,r2,r3,r4⟩:=sl5 Gr;obtain ⟨v1w,v3w,v4w,v5w,hne0⟩:=qqb13;go_wp2_with fail;refine wp_region_wide qqd2 qqd2 ?_;repeat (go_big_quiet_step (first | fail))
      refine wpQuiet_nil ?_;rintro _ ⟨q1,rfl⟩;have HB3:=upB HW q1.b;obtain ⟨Ck,Cr⟩:=qqb34;clear hne0 HW HB k2 r0 r1 r2 r3 r4 v1w v3w v4w v5w Gk Gr Bk Br pr v1 v3 v4 v5 hbv;have HB:=HB3;clear HB3;have Bk:=Ck;clear Ck;have Br:=Cr;clear Cr;go_wp2;go_ret;refine BoolB.f (fun h => ?_) HB.out;rcases (h.2 k x HXx.out).2 with h2 | ⟨i,y2,h2,h3,h4⟩
      ·exact HEm.out h2
      ·obtain ⟨_,rfl⟩:=HVS.out.inj h2 HJ.out (h3.trans HN.out.symm);have h5:=h4.2.1;have h6:=HNo.out;omega
     have HY2:=hidK hno;have q2 : decide (y.c < x.z) = false:=by simp;omega
     clear hno;by_cases hno : y.k = x.k;rotate_left
     ·have HNo:=hidK hno;clear hno;have n1:=tl_no HNo.out;obtain ⟨Gk,Gr,HW⟩:=qqb37;have k2:=fun q : Wd w2 => q.slot (o:=2) Gk.out rfl;obtain ⟨r0,r1,r2,r3,r4⟩:=sl5 Gr;obtain ⟨v1w,v3w,v4w,v5w,hne0⟩:=qqb13;go_wp2_with fail;refine wp_region_wide qqd2 qqd2 ?_;repeat (go_big_quiet_step (first | fail))
      refine wpQuiet_nil ?_;rintro _ ⟨q1,rfl⟩;have HB3:=upB HW q1.b;obtain ⟨Ck,Cr⟩:=qqb34;clear hne0 HW HB k2 r0 r1 r2 r3 r4 v1w v3w v4w v5w Gk Gr Bk Br pr v1 v3 v4 v5 hbv;have HB:=HB3;clear HB3;have Bk:=Ck;clear Ck;have Br:=Cr;clear Cr;go_wp2;go_ret;refine BoolB.f (fun h => ?_) HB.out;rcases (h.2 k x HXx.out).2 with h2 | ⟨i,y2,h2,h3,h4⟩
      ·exact HEm.out h2
      ·obtain ⟨_,rfl⟩:=HVS.out.inj h2 HJ.out (h3.trans HN.out.symm);exact HNo.out h4.2.2.1
     have HY3:=hidK hno;have q3:=tl_yes hno;clear hno;by_cases hno : y.x = x.x;rotate_left
     ·have HNo:=hidK hno;clear hno;have n1 : (y.x == x.x) = false:=by simpa using HNo.out
      obtain ⟨Gk,Gr,HW⟩:=qqb37;have k2:=fun q : Wd w2 => q.slot (o:=2) Gk.out rfl;obtain ⟨r0,r1,r2,r3,r4⟩:=sl5 Gr;obtain ⟨v1w,v3w,v4w,v5w,hne0⟩:=qqb13;go_wp2_with fail;refine wp_region_wide qqd2 qqd2 ?_;repeat (go_big_quiet_step (first | fail))
      refine wpQuiet_nil ?_;rintro _ ⟨q1,rfl⟩;have HB3:=upB HW q1.b;obtain ⟨Ck,Cr⟩:=qqb34;clear hne0 HW HB k2 r0 r1 r2 r3 r4 v1w v3w v4w v5w Gk Gr Bk Br pr v1 v3 v4 v5 hbv;have HB:=HB3;clear HB3;have Bk:=Ck;clear Ck;have Br:=Cr;clear Cr;go_wp2;go_ret;refine BoolB.f (fun h => ?_) HB.out;rcases (h.2 k x HXx.out).2 with h2 | ⟨i,y2,h2,h3,h4⟩
      ·exact HEm.out h2
      ·obtain ⟨_,rfl⟩:=HVS.out.inj h2 HJ.out (h3.trans HN.out.symm);exact HNo.out h4.2.2.2
     have HY4:=hidK hno;have q4 : (y.x == x.x) = true:=by simpa using hno
     clear hno;obtain ⟨Gk,Gr,HW⟩:=qqb37;have k2:=fun q : Wd w2 => q.slot (o:=2) Gk.out rfl;obtain ⟨r0,r1,r2,r3,r4⟩:=sl5 Gr;obtain ⟨v1w,v3w,v4w,v5w,hne0⟩:=qqb13;go_wp2_with fail;refine wp_region_wide qqd2 qqd2 ?_;repeat (go_big_quiet_step (first | fail))
     refine wpQuiet_nil ?_;rintro _ ⟨qz,rfl⟩;have HB3:=upB HW qz.b;have Ck:=upK Gk qz.b;have Cr:=upK Gr qz.b;clear hne0 HW HB k2 r0 r1 r2 r3 r4 v1w v3w v4w v5w Gk Gr Bk Br pr v1 v3 v4 v5 hbv;have HB:=HB3;clear HB3;have Bk:=Ck;clear Ck;have Br:=Cr;clear Cr;clear q1 q2 q3 q4;go_wp2_with fail;refine ⟨⟨k + 1,by omega,by go_num,fun j z hj hz => ?_,HB.out,Bk.out⟩,by simp [intOf];omega⟩;by_cases e : j = k
     ·subst e;rw [HXx.out] at hz;obtain rfl:=Option.some.inj hz;exact ⟨⟨i2,kd2,HG1.out,HG2.out⟩,.inr ⟨j3,y,HJ.out,HN.out,HY1.out,HY2.out,HY3.out,HY4.out⟩⟩
     ·exact HQ.out j z qqd1 hz
    ·obtain rfl : l4 = k:=qqd1
     have HQ2 : Hid (∀ (j : Nat) z,c.xs[j]? = some z → SX c z):=fun j z hz => HQ.out j z qqd4 hz;exact qqa84

def PSa (c : Cl) (p : Pd) : Prop:=p.d = ⟨#[]⟩ ∨ ∃ (i : Nat) (n : Nd),c.ns[i]? = some n ∧ n.n = p.d ∧ (p.z = ⟨#[]⟩ ∨ n.z = p.z)
def PSb1 (c : Cl) (p : Pd) (t : ByteArray) : Prop:=(∃ (i : Nat) (x : Xd),c.xs[i]? = some x ∧ x.n = t) ∧ (p.d = ⟨#[]⟩ ∨ ∃ (v : Vd) (i : Nat) (n : Nd),IsBd c t v ∧ c.ns[i]? = some n ∧ n.n = p.d ∧ v.z = n.z)
def PSb (c : Cl) (p : Pd) : Prop:=∀ (j : Nat) t,p.zs[j]? = some t → PSb1 c p t
def PSc (c : Cl) (k : Nat) (p : Pd) : Prop:=∀ (j : Nat) q,j < k → c.ps[j]? = some q → PairS c q p
def PS (c : Cl) (k : Nat) (p : Pd) : Prop:=PSa c p ∧ PSb c p ∧ PSc c k p
def PlacedS (c : Cl) : Prop:=(∀ (k : Nat) p,c.ps[k]? = some p → PS c k p) ∧ ∀ (j : Nat) n,c.ns[j]? = some n → cpuOf n.n c.ps ≤ n.c

theorem splaced_any (d : Ad) (c : Cl) (w : World) (hr : ClRow w d c.raw) (hn : RisBy Nd.n c.ns) (hx : RisBy Xd.n c.xs) (hv : RisBy Vd.n c.vs) (hne : ∀ (j : Nat) v,c.vs[j]? = some v → ¬ v.n = ⟨#[]⟩) (hps8 : c.ps.length ≤ 8) (hpc : ∀ (j : Nat) p,c.ps[j]? = some p → 0 ≤ p.c ∧ p.c ≤ 1000000) :
  Calls Tryz.prog 93 #[.agg #[.slice d.a1 d.l1 d.c1,.slice d.a2 d.l2 d.c2,.slice d.a3 d.l3 d.c3,.slice d.a4 d.l4 d.c4,.slice d.a5 d.l5 d.c5,.int .i64 c.now]] w (BoolB (PlacedS c) w):=by
 obtain ⟨a1,l1,y1,a2,l2,y2,a3,l3,y3,a4,l4,y4,a5,l5,y5⟩:=d;dsimp only;obtain ⟨HR,hl1,hm1,hl2,hm2,hl3,hm3,hl4,hm4,hl5,hm5⟩:=qqb1;clear hr;have HNR:=hidK hn;obtain ⟨HX,HV,HNE⟩:=qqb78;have HL5:=hidK hps8;have HPC:=hidK hpc;clear hn hx hv hne hps8 hpc;go_enter Tryz.func93,Tryz.ntmps93;go_wp2;go_loopw [3] (fun i wr => ∃ k : Nat,k ≤ l5 ∧ i = .int .i64 k ∧ Hid (∀ (j : Nat) z,j < k → c.ps[j]? = some z → PS c j z) ∧ Hid (Below w.heap.size w wr) ∧ Hid (wr.heap[w.heap.size]? = some (.cells #[.slice a1 l1 y1,.slice a2 l2 y2,.slice a3 l3 y3,.slice a4 l4 y4,.slice a5 l5 y5,.int .i64 c.now] 36 (0,0)))) (fun i _ => l5 - (intOf i).toNat);case atStart => exact ⟨0,by omega,rfl,fun _ _ h => absurd h qqd1,below1 _ _,Array.getElem?_push_size⟩
 case round =>
  obtain ⟨k,hk,rfl,HQ,HB,Bk⟩:=hrel;have pk : wr.cell? ⟨w.heap.size,4,none⟩ = some (.slice a5 l5 y5):=cellK Bk.out 4;by_cases hlt : k < l5
  ·obtain ⟨b,o,p,rfl,hb,hx,hat⟩:=pd_at (HR.out.p.below HB.out) hlt;obtain ⟨va,vl,vc,hvr,z0,z2,z4,c0,c1,c2,c3,c4,c5⟩:=pd_cells hat;have HXp:=hidK hx;have HTp:=hidK hvr;have HZp0:=hidK z0;have HZp2:=hidK z2;have HZp4:=hidK z4;clear hat hx z0 z2 z4 hvr;have hvl : p.zs.length = vl:=HTp.out.1;have hvc : vl ≤ 9223372036854775807:=Nat.le_trans HTp.out.2.1 HTp.out.2.2.1;have HVL:=hidK hvl;clear hvl;obtain ⟨k0,k1,k2,k3,k4,k5⟩:=cs6 Bk.out;have ltk_0:=lt_of_some Bk.out;go_wp2_with fail;refine (sxnd_any ⟨a1,l1,y1,a2,l2,y2,a3,l3,y3,a4,l4,y4,(some ⟨b,o,none⟩),l5,y5⟩ c.now c.ns p.d _ (HR.out.n.below (HB.out.trans ((below1 _ _).mono HB.out.size)))).mono ?_;rintro e w1 ⟨hb2,hf⟩;clear k0 k1 k2 k3 k4 k5 ltk_0;obtain ⟨HA0,hbx⟩:=slots1 hb2;replace Bk:=upK Bk hbx;have Br:=hidK HA0;replace HTp:=hidK (HTp.out.below hbx);replace HB:=upB HB hbx;clear hb2 hbx HA0;clear pk hb c0 c1 c2 c3 c4 c5;by_cases he : p.d = ⟨#[]⟩
   ·have hq:=isE_y he;have HEm:=hidK he;clear he;obtain ⟨r5,hre⟩ : ∃ r : Int,e = .returned (.int .i64 r):=by rcases hf with ⟨j,y,_,_,h⟩ | ⟨_,h⟩ <;> exact ⟨_,h⟩
    subst hre;clear hf;obtain ⟨Gk,Gr,HW⟩:=qqb37;have k0:=fun q : Wd w1 => q.slot (o:=0) Gk.out rfl;obtain ⟨r0,r1,r2,r3,r4,r5⟩:=sl6 Gr;have hne0:=Wd.ne w1;go_wp2_with fail;refine wp_region_wide qqd2 qqd2 ?_;repeat (go_big_quiet_step (first | fail))
    refine wpQuiet_nil ?_;rintro _ ⟨q0,rfl⟩;obtain ⟨HB2,Ck,Cr,CHTp⟩:=qqb49;clear hne0 HW HB k0 r0 r1 r2 r3 r4 r5 Gk Gr Bk Br HTp;have HB:=HB2;clear HB2;have HTp:=CHTp;clear CHTp;have Bk:=Ck;clear Ck;have Br:=Cr;clear Cr;have HPa : Hid (PSa c p):=.inl HEm.out;obtain ⟨gb,hgb⟩ : ∃ gb,gb = wr.heap.size:=⟨_,rfl⟩;rw [← hgb] at Br;have pr3 : q0.w.cell? ⟨gb,3,none⟩ = some (.slice va vl vc):=cellK Br.out 3;rw [hgb] at pr3;go_wp2;rw [← hgb];clear pr3 hgb;have KV:=Bk;have GV:=Br;have BV:=HB;have TV:=HTp;clear Bk Br HB HTp;obtain ⟨W,hW⟩ : ∃ W,W = q0.w:=⟨_,rfl⟩;rw [← hW] at KV GV BV TV ⊢;clear hW;go_loopw [6] (fun i wr => ∃ kq : Nat,kq ≤ vl ∧ i = .int .i64 kq ∧ Hid (∀ (j : Nat) t,j < kq → p.zs[j]? = some t → PSb1 c p t) ∧ Hid (Below W.heap.size W wr)) (fun i _ => vl - (intOf i).toNat);case atStart => exact ⟨0,by omega,rfl,fun _ _ h => absurd h qqd1,Below.refl _ _⟩
    case round =>
     obtain ⟨kq,hkq,rfl,HQ2,HBW⟩:=hrel;obtain ⟨HB,Bk⟩:=qqb60;have Br:=upK GV HBW.out;have pr3 : wr.cell? ⟨gb,3,none⟩ = some (.slice va vl vc):=cellK Br.out 3;by_cases hlt2 : kq < vl
     ·obtain ⟨b2,o2,t,rfl,hb,hxt,hc,hsz⟩:=(TV.out.below HBW.out).at hlt2;have HXt:=hidK hxt;clear hxt hsz;have hcase : (∃ v,IsBd c t v) ∨ (∀ v,¬ IsBd c t v):=by
       exact qqa71
      rcases hcase with ⟨v,hbd⟩ | hbd
      ·obtain ⟨j3,hj3⟩:=hbd.at;have hl3' : j3 < l3:=by have h1:=(List.getElem?_eq_some_iff.1 hj3).1;omega
       obtain ⟨b3,o3,v',rfl,hb3,hv',hat⟩:=vd_at HR.out.v hl3';rw [hj3] at hv';obtain rfl:=Option.some.inj hv';obtain ⟨xa,xl,xc,hvr,z0,z2,z3,z5,d0,d1,d2,d3,d4,d5,d6,d7⟩:=vd_cells hat;have HJ:=hidK hj3;have HD:=hidK hbd;have HC2:=hidK d2;have HB3:=hidK hb3;have hj31 : decide ((j3 : Int) < 0) = false:=qqd6
       clear hv' hat hvr z0 z2 z3 z5 d0 d1 d2 d3 d4 d5 d6 d7 hj3 hbd hb3;obtain ⟨Gk,Gr,HW⟩:=qqb37;obtain ⟨k0,k1,k2,k3,k4,k5⟩:=sl6 Gk;have r3:=fun q : Wd wr => q.slot (o:=3) Gr.out rfl;obtain ⟨tw,hne0⟩:=qqb44;have HC0:=hidK (fun q : Wd wr => sbind_hit ⟨a1,l1,y1,a2,l2,y2,(some ⟨b3,o3,none⟩),l3,y3,a4,l4,y4,(some ⟨b,o,none⟩),l5,y5⟩ c t q.w (HR.out.below (HW.out.trans (q.b.mono HW.out.size))) HX.out HV.out HNE.out HJ.out HD.out);go_wp2_with fail;refine wp_region_wide qqd2 qqd2 ?_;repeat (go_big_quiet_step (first | (go_at_call 120;exact Calls.wide (HC0.out _)) | fail))
       refine wpQuiet_nil ?_;rintro _ ⟨q1,rfl⟩;have HB1:=upB HW q1.b;obtain ⟨Ck,Cr⟩:=qqb34;clear hne0 HW HB HC0 k0 k1 k2 k3 k4 k5 r3 tw Gk Gr Bk Br pr3;have HB:=HB1;clear HB1;have Bk:=Ck;clear Ck;have Br:=Cr;clear Cr;obtain ⟨hc1,hb1,HBW1⟩:=qqb51;clear hc hb HBW;by_cases hg : ∃ (i : Nat) (x : Xd),c.xs[i]? = some x ∧ x.n = t;rotate_left
       ·have HG:=hidK hg;clear hg;obtain ⟨Gk,Gr,HW⟩:=qqb37;obtain ⟨k0,k1,k2,k3,k4,k5⟩:=sl6 Gk;obtain ⟨r0,r1,r2,r3,r4,r5⟩:=sl6 Gr;obtain ⟨tw,hne0⟩:=qqb45;have HC0:=hidK (fun q : Wd q1.w => sxxd_miss ⟨a1,l1,y1,a2,l2,y2,(some ⟨b3,o3,none⟩),l3,y3,a4,l4,y4,(some ⟨b,o,none⟩),l5,y5⟩ c.now c.xs t q.w (HR.out.x.below (HW.out.trans (q.b.mono HW.out.size))) (fun i x h1 h2 => HG.out ⟨i,x,h1,h2⟩));exact qqa4
       obtain ⟨i4,x4,g1,g2⟩:=hg;obtain ⟨HG1,HG2,hi41⟩:=qqb87;clear g1 g2;obtain ⟨Gk,Gr,HW⟩:=qqb37;obtain ⟨k0,k1,k2,k3,k4,k5⟩:=sl6 Gk;obtain ⟨r0,r1,r2,r3,r4,r5⟩:=sl6 Gr;obtain ⟨tw,hne0⟩:=qqb45;have HC0:=hidK (fun q : Wd q1.w => sxxd_hit ⟨a1,l1,y1,a2,l2,y2,(some ⟨b3,o3,none⟩),l3,y3,a4,l4,y4,(some ⟨b,o,none⟩),l5,y5⟩ c.now c.xs t q.w (HR.out.x.below (HW.out.trans (q.b.mono HW.out.size))) HX.out HG1.out HG2.out);exact qqa116
      ·have HD:=hidK hbd;clear hbd;obtain ⟨Gk,Gr,HW⟩:=qqb37;obtain ⟨k0,k1,k2,k3,k4,k5⟩:=sl6 Gk;have r3:=fun q : Wd wr => q.slot (o:=3) Gr.out rfl;obtain ⟨tw,hne0⟩:=qqb44;have HC0:=hidK (fun q : Wd wr => sbind_miss ⟨a1,l1,y1,a2,l2,y2,a3,l3,y3,a4,l4,y4,(some ⟨b,o,none⟩),l5,y5⟩ c t q.w (HR.out.below (HW.out.trans (q.b.mono HW.out.size))) HX.out HV.out HNE.out HD.out);go_wp2_with fail;refine wp_region_wide qqd2 qqd2 ?_;repeat (go_big_quiet_step (first | (go_at_call 120;exact Calls.wide (HC0.out _)) | fail))
       refine wpQuiet_nil ?_;rintro _ ⟨q1,rfl⟩;have HB1:=upB HW q1.b;obtain ⟨Ck,Cr⟩:=qqb34;clear hne0 HW HB HC0 k0 k1 k2 k3 k4 k5 r3 tw Gk Gr Bk Br pr3;have HB:=HB1;clear HB1;have Bk:=Ck;clear Ck;have Br:=Cr;clear Cr;obtain ⟨hc1,hb1,HBW1⟩:=qqb51;clear hc hb HBW;by_cases hg : ∃ (i : Nat) (x : Xd),c.xs[i]? = some x ∧ x.n = t;rotate_left
       ·have HG:=hidK hg;clear hg;obtain ⟨Gk,Gr,HW⟩:=qqb37;obtain ⟨k0,k1,k2,k3,k4,k5⟩:=sl6 Gk;obtain ⟨r0,r1,r2,r3,r4,r5⟩:=sl6 Gr;obtain ⟨tw,hne0⟩:=qqb45;have HC0:=hidK (fun q : Wd q1.w => sxxd_miss ⟨a1,l1,y1,a2,l2,y2,a3,l3,y3,a4,l4,y4,(some ⟨b,o,none⟩),l5,y5⟩ c.now c.xs t q.w (HR.out.x.below (HW.out.trans (q.b.mono HW.out.size))) (fun i x h1 h2 => HG.out ⟨i,x,h1,h2⟩));exact qqa4
       obtain ⟨i4,x4,g1,g2⟩:=hg;obtain ⟨HG1,HG2,hi41⟩:=qqb87;clear g1 g2;obtain ⟨Gk,Gr,HW⟩:=qqb37;obtain ⟨k0,k1,k2,k3,k4,k5⟩:=sl6 Gk;obtain ⟨r0,r1,r2,r3,r4,r5⟩:=sl6 Gr;obtain ⟨tw,hne0⟩:=qqb45;have HC0:=hidK (fun q : Wd q1.w => sxxd_hit ⟨a1,l1,y1,a2,l2,y2,a3,l3,y3,a4,l4,y4,(some ⟨b,o,none⟩),l5,y5⟩ c.now c.xs t q.w (HR.out.x.below (HW.out.trans (q.b.mono HW.out.size))) HX.out HG1.out HG2.out);exact qqa116
     ·obtain rfl : vl = kq:=qqd1
      have HQb : Hid (PSb c p):=fun j t ht => HQ2.out j t qqd27 ht;clear HQ2;have TV2:=hidK (TV.out.below HBW.out);have KV2:=Bk;have GV2:=Br;have BV2:=HB;clear KV GV BV TV Bk Br HB HBW;obtain ⟨W2,hW⟩ : ∃ W2,W2 = wr:=⟨_,rfl⟩;rw [← hW] at KV2 GV2 BV2 TV2;go_wp2;clear pr3;rw [← hW];clear hW;go_loopw [8] (fun i wr => ∃ kz : Nat,kz ≤ k ∧ i = .int .i64 kz ∧ Hid (∀ (j : Nat) q,j < kz → c.ps[j]? = some q → PairS c q p) ∧ Hid (Below W2.heap.size W2 wr)) (fun i _ => k - (intOf i).toNat);case atStart => exact ⟨0,by omega,rfl,fun _ _ h => absurd h qqd1,Below.refl _ _⟩
      case round =>
       obtain ⟨kz,hkz,rfl,HQ3,HBW⟩:=hrel;have HB:=hidK (BV2.out.trans (HBW.out.mono BV2.out.size));have Bk:=upK KV2 HBW.out;have Br:=upK GV2 HBW.out;have HTp:=hidK (TV2.out.below HBW.out);by_cases hlt3 : kz < k
       ·obtain ⟨b',o',pq,e',hb',hqq,hatq⟩:=pd_at (HR.out.p.below HB.out) (show kz < l5 by omega);cases e';obtain ⟨qa,ql,qc,hqr,z0,z2,z4,d0,d1,d2,d3,d4,d5⟩:=pd_cells hatq;have HXq:=hidK hqq;have HTq:=hidK hqr;clear hatq hqq hqr z0 z2 z4;by_cases hpr : PairS c pq p
        ·have HPr:=hidK hpr;clear hpr;obtain ⟨Gk,Gr,HW⟩:=qqb37;obtain ⟨k0,k1,k2,k3,k4,k5⟩:=sl6 Gk;obtain ⟨r0,r1,r2,r3,r4,r5⟩:=sl6 Gr;obtain ⟨q0,q1,q2,q3,q4,q5,hne0⟩:=qqb3;have HC0:=hidK (fun qw : Wd wr => (spair_any ⟨a1,l1,y1,a2,l2,y2,a3,l3,y3,a4,l4,y4,(some ⟨b,o,none⟩),l5,y5⟩ c pq p qa ql qc va vl vc qw.w (HR.out.below (HW.out.trans (qw.b.mono HW.out.size))) HX.out HV.out HNE.out (HTq.out.below qw.b) (HTp.out.below qw.b)).mono (fun _ _ h => BoolB.yes h HPr.out));exact qqa115
        ·have HPr:=hidK hpr;clear hpr;obtain ⟨Gk,Gr,HW⟩:=qqb37;obtain ⟨k0,k1,k2,k3,k4,k5⟩:=sl6 Gk;obtain ⟨r0,r1,r2,r3,r4,r5⟩:=sl6 Gr;obtain ⟨q0,q1,q2,q3,q4,q5,hne0⟩:=qqb3;have HC0:=hidK (fun qw : Wd wr => (spair_any ⟨a1,l1,y1,a2,l2,y2,a3,l3,y3,a4,l4,y4,(some ⟨b,o,none⟩),l5,y5⟩ c pq p qa ql qc va vl vc qw.w (HR.out.below (HW.out.trans (qw.b.mono HW.out.size))) HX.out HV.out HNE.out (HTq.out.below qw.b) (HTp.out.below qw.b)).mono (fun _ _ h => BoolB.no h HPr.out));exact qqa118
       ·exact qqa122
   have hq:=isE_no he;have HEm:=hidK he;clear he;rcases hf with ⟨j1,n,h1,h2,rfl⟩ | ⟨hh,rfl⟩;rotate_left
   ·have HH:=hidK hh;clear hh;obtain ⟨Gk,Gr,HW⟩:=qqb37;have k0:=fun q : Wd w1 => q.slot (o:=0) Gk.out rfl;obtain ⟨r0,r1,r2,r3,r4,r5⟩:=sl6 Gr;have hne0:=Wd.ne w1;go_wp2_with fail;refine wp_region_wide qqd2 qqd2 ?_;repeat (go_big_quiet_step (first | fail))
    refine wpQuiet_nil ?_;rintro _ ⟨q0,rfl⟩;obtain ⟨HB2,Ck,Cr,CHTp⟩:=qqb49;clear hne0 HW HB k0 r0 r1 r2 r3 r4 r5 Gk Gr Bk Br HTp;have HB:=HB2;clear HB2;have HTp:=CHTp;clear CHTp;have Bk:=Ck;clear Ck;have Br:=Cr;clear Cr;go_wp2;go_ret;refine BoolB.f (fun h => ?_) HB.out;rcases (h.1 k p HXp.out).1 with h2 | ⟨i,n,h2,h3,_⟩
    ·exact HEm.out h2
    ·exact HH.out i n h2 h3
   have hl1' : j1 < l1:=by have h3:=(List.getElem?_eq_some_iff.1 h1).1;omega
   obtain ⟨b1,o1,n',rfl,hb1n,hn',hat⟩:=nd_at HR.out.n hl1';rw [h1] at hn';obtain rfl:=Option.some.inj hn';obtain ⟨na,nl,nc,hnr,z0,z1,d0,d1,d2,d3,d4,d5,d6⟩:=nd_cells hat;have HJn:=hidK h1;have HNn:=hidK h2;have HCn:=hidK d1;have HBn:=hidK hb1n;have hj11 : decide ((j1 : Int) < 0) = false:=qqd6
   have hbn : b1 < w1.heap.size:=Nat.lt_of_lt_of_le hb1n HB.out.size;have n1:=(cell_below HB.out hb1n).trans d1;clear hn' hat hnr z0 z1 d0 d1 d2 d3 d4 d5 d6 h1 h2 hb1n;by_cases hz0 : p.z = ⟨#[]⟩
   ·have hq2:=isE_y hz0;have HPa : Hid (PSa c p):=.inr ⟨j1,n,HJn.out,HNn.out,.inl hz0⟩;clear hz0;obtain ⟨Gk,Gr,HW⟩:=qqb37;have k0:=fun q : Wd w1 => q.slot (o:=0) Gk.out rfl;obtain ⟨r0,r1,r2,r3,r4,r5⟩:=sl6 Gr;have nw:=fun q : Wd w1 => (q.cell hbn).trans n1;have hne0:=Wd.ne w1;go_wp2_with fail;refine wp_region_wide qqd2 qqd2 ?_;repeat (go_big_quiet_step (first | fail))
    refine wpQuiet_nil ?_;rintro _ ⟨q0,rfl⟩;obtain ⟨HB2,Ck,Cr,CHTp⟩:=qqb49;clear hne0 HW HB k0 r0 r1 r2 r3 r4 r5 nw Gk Gr Bk Br HTp hbn n1;have HB:=HB2;clear HB2;have HTp:=CHTp;clear CHTp;have Bk:=Ck;clear Ck;have Br:=Cr;clear Cr;clear hq2;exact qqa111
   have hq2:=isE_no hz0;by_cases hz1 : n.z = p.z
   ·have hq3:=tl_yes hz1;have HPa : Hid (PSa c p):=.inr ⟨j1,n,HJn.out,HNn.out,.inr hz1⟩;clear hz0 hz1;obtain ⟨Gk,Gr,HW⟩:=qqb37;have k0:=fun q : Wd w1 => q.slot (o:=0) Gk.out rfl;obtain ⟨r0,r1,r2,r3,r4,r5⟩:=sl6 Gr;have nw:=fun q : Wd w1 => (q.cell hbn).trans n1;have hne0:=Wd.ne w1;go_wp2_with fail;refine wp_region_wide qqd2 qqd2 ?_;repeat (go_big_quiet_step (first | fail))
    refine wpQuiet_nil ?_;rintro _ ⟨q0,rfl⟩;obtain ⟨HB2,Ck,Cr,CHTp⟩:=qqb49;clear hne0 HW HB k0 r0 r1 r2 r3 r4 r5 nw Gk Gr Bk Br HTp hbn n1;have HB:=HB2;clear HB2;have HTp:=CHTp;clear CHTp;have Bk:=Ck;clear Ck;have Br:=Cr;clear Cr;clear hq2 hq3;exact qqa111
   ·have hq3:=tl_no hz1;have HZ0:=hidK hz0;have HZ1:=hidK hz1;clear hz0 hz1;obtain ⟨Gk,Gr,HW⟩:=qqb37;have k0:=fun q : Wd w1 => q.slot (o:=0) Gk.out rfl;obtain ⟨r0,r1,r2,r3,r4,r5⟩:=sl6 Gr;have nw:=fun q : Wd w1 => (q.cell hbn).trans n1;have hne0:=Wd.ne w1;go_wp2_with fail;refine wp_region_wide qqd2 qqd2 ?_;repeat (go_big_quiet_step (first | fail))
    refine wpQuiet_nil ?_;rintro _ ⟨q0,rfl⟩;obtain ⟨HB2,Ck,Cr,CHTp⟩:=qqb49;clear hne0 HW HB k0 r0 r1 r2 r3 r4 r5 nw Gk Gr Bk Br HTp hbn n1;have HB:=HB2;clear HB2;have HTp:=CHTp;clear CHTp;have Bk:=Ck;clear Ck;have Br:=Cr;clear Cr;go_wp2;go_ret;refine BoolB.f (fun h => ?_) HB.out;rcases (h.1 k p HXp.out).1 with h2 | ⟨i,n',h2,h3,h4⟩
    ·exact HEm.out h2
    ·obtain ⟨_,rfl⟩:=HNR.out.inj h2 HJn.out (h3.trans HNn.out.symm);rcases h4 with h4 | h4
     ·exact HZ0.out h4
     ·exact HZ1.out h4
  ·obtain rfl : l5 = k:=qqd1
   have HQ1 : Hid (∀ (k : Nat) p,c.ps[k]? = some p → PS c k p):=fun j z hz => HQ.out j z qqd4 hz;clear HQ;have kc : wr.cell? ⟨w.heap.size,0,none⟩ = some (.slice a1 l1 y1):=cellK Bk.out 0;go_wp2;clear pk kc;go_loopw [9] (fun i wr => ∃ k : Nat,k ≤ l1 ∧ i = .int .i64 k ∧ Hid (∀ (j : Nat) n,j < k → c.ns[j]? = some n → cpuOf n.n c.ps ≤ n.c) ∧ Hid (Below w.heap.size w wr) ∧ Hid (wr.heap[w.heap.size]? = some (.cells #[.slice a1 l1 y1,.slice a2 l2 y2,.slice a3 l3 y3,.slice a4 l4 y4,.slice a5 l5 y5,.int .i64 c.now] 36 (0,0)))) (fun i _ => l1 - (intOf i).toNat);case atStart => exact ⟨0,by omega,rfl,fun _ _ h => absurd h qqd1,HB.out,Bk.out⟩
   case round =>
    obtain ⟨k,hk,rfl,HQ,HB,Bk⟩:=hrel;have pk : wr.cell? ⟨w.heap.size,0,none⟩ = some (.slice a1 l1 y1):=cellK Bk.out 0;by_cases hlt : k < l1
    ·obtain ⟨b,o,n,rfl,hb,hx,hat⟩:=nd_at (HR.out.n.below HB.out) hlt;obtain ⟨va,vl,vc,hvr,z0,z1,c0,c1,c2,c3,c4,c5,c6⟩:=nd_cells hat;obtain ⟨HXn,HTn,HZn0,HZn1⟩:=qqb79;clear hat hx z0 z1 hvr;have Gk:=Bk;have HW:=HB;obtain ⟨k0,k1,k2,k3,k4,k5⟩:=sl6 Gk;have n0w:=fun q : Wd wr => (q.cell hb).trans c0;have n2w:=fun q : Wd wr => (q.cell hb).trans c2;have hne0:=Wd.ne wr;have HC0:=hidK (fun q : Wd wr => sused_any ⟨(some ⟨b,o,none⟩),l1,y1,a2,l2,y2,a3,l3,y3,a4,l4,y4,a5,l5,y5⟩ c.now c.ps n.n q.w (HR.out.p.below (HW.out.trans (q.b.mono HW.out.size))) HL5.out HPC.out);go_wp2_with fail;refine wp_region_wide qqd2 qqd2 ?_;repeat (go_big_quiet_step (first | (go_at_call 122;exact Calls.wide (HC0.out _)) | fail))
     refine wpQuiet_nil ?_;rintro _ ⟨q1,rfl⟩;have HB1:=upB HW q1.b;have Ck:=upK Gk q1.b;clear hne0 HW HB HC0 k0 k1 k2 k3 k4 k5 n0w n2w Gk Bk pk c0 c1 c2 c3 c4 c5 c6 hb;have HB:=HB1;clear HB1;have Bk:=Ck;clear Ck;by_cases hq : cpuOf n.n c.ps ≤ n.c
     ·exact qqa64
     ·have HCq:=hidK hq;go_wp2;go_ret;exact BoolB.f (fun h => by have h1 : cpuOf n.n c.ps ≤ n.c:=h.2 k n HXn.out;have h2:=HCq.out;omega) HB.out
    ·exact qqa90

def AttachedS (c : Cl) : Prop:=(∀ (j : Nat) z,c.vs[j]? = some z → AQ1 c z) ∧ ∀ (j : Nat) n,c.ns[j]? = some n → onOf n.n c.vs ≤ n.s

theorem sattached_any (d : Ad) (c : Cl) (w : World) (hr : ClRow w d c.raw) (hn : RisBy Nd.n c.ns) (hvs8 : c.vs.length ≤ 8) :
  Calls Tryz.prog 94 #[.agg #[.slice d.a1 d.l1 d.c1,.slice d.a2 d.l2 d.c2,.slice d.a3 d.l3 d.c3,.slice d.a4 d.l4 d.c4,.slice d.a5 d.l5 d.c5,.int .i64 c.now]] w (BoolB (AttachedS c) w):=by
 obtain ⟨a1,l1,y1,a2,l2,y2,a3,l3,y3,a4,l4,y4,a5,l5,y5⟩:=d;dsimp only;obtain ⟨HR,hl1,hm1,hl2,hm2,hl3,hm3,hl4,hm4,hl5,hm5⟩:=qqb1;clear hr;have HNR:=hidK hn;have HL3:=hidK hvs8;clear hn hvs8;go_enter Tryz.func94,Tryz.ntmps94;go_wp2;go_loopw [3] (fun i wr => ∃ k : Nat,k ≤ l3 ∧ i = .int .i64 k ∧ Hid (∀ (j : Nat) z,j < k → c.vs[j]? = some z → AQ1 c z) ∧ Hid (Below w.heap.size w wr) ∧ Hid (wr.heap[w.heap.size]? = some (.cells #[.slice a1 l1 y1,.slice a2 l2 y2,.slice a3 l3 y3,.slice a4 l4 y4,.slice a5 l5 y5,.int .i64 c.now] 36 (0,0)))) (fun i _ => l3 - (intOf i).toNat);case atStart => exact ⟨0,by omega,rfl,fun _ _ h => absurd h qqd1,below1 _ _,Array.getElem?_push_size⟩
 case round =>
  obtain ⟨k,hk,rfl,HQ,HB,Bk⟩:=hrel;have pk : wr.cell? ⟨w.heap.size,2,none⟩ = some (.slice a3 l3 y3):=cellK Bk.out 2;have pkl : w.heap.size < wr.heap.size:=lt_of_some Bk.out;by_cases hlt : k < l3
  ·obtain ⟨b,o,v,rfl,hb,hx,hat⟩:=vd_at (HR.out.v.below HB.out) hlt;obtain ⟨va,vl,vc,hvr,z0,z2,z3,z5,c0,c1,c2,c3,c4,c5,c6,c7⟩:=vd_cells hat;obtain ⟨HXv,HTv,HZv0,HZv2,HZv3,HZv5⟩:=qqb59;clear hat hx z0 z2 z3 z5 hvr;have hvl : v.zs.length = vl:=HTv.out.1;have hvc : vl ≤ 9223372036854775807:=Nat.le_trans HTv.out.2.1 HTv.out.2.2.1;have HVL:=hidK hvl;clear hvl;have KV : Hid ((wr.alloc (.cells #[.string v.n,.int .i64 v.c,.string v.z,.string v.k,.bool v.x,.string v.m,.bool v.y,.slice va vl vc] 106)).heap[w.heap.size]? = some (.cells #[.slice a1 l1 y1,.slice a2 l2 y2,.slice (some ⟨b,o,none⟩) l3 y3,.slice a4 l4 y4,.slice a5 l5 y5,.int .i64 c.now] 36 (0,0))):=(Below.heap_alloc wr (.cells #[.string v.n,.int .i64 v.c,.string v.z,.string v.k,.bool v.x,.string v.m,.bool v.y,.slice va vl vc] 106) _ (lt_of_some Bk.out)).trans Bk.out;obtain ⟨GV,BV⟩:=qqb26;have TT:=hidK (HTv.out.below (below1 wr (.cells #[.string v.n,.int .i64 v.c,.string v.z,.string v.k,.bool v.x,.string v.m,.bool v.y,.slice va vl vc] 106)));obtain ⟨W,hW⟩ : ∃ W,W = wr.alloc (.cells #[.string v.n,.int .i64 v.c,.string v.z,.string v.k,.bool v.x,.string v.m,.bool v.y,.slice va vl vc] 106):=⟨_,rfl⟩;obtain ⟨gb,hgb⟩ : ∃ gb,gb = wr.heap.size:=⟨_,rfl⟩;rw [← hW] at KV GV BV TT;rw [← hgb] at GV;go_wp2;rw [← hW,← hgb];clear hW hgb HB Bk HTv c0 c1 c2 c3 c4 c5 c6 c7 hb pk pkl;go_loopw [5] (fun i wr => ∃ kq : Nat,kq ≤ vl ∧ i = .int .i64 kq ∧ Hid (∀ (j : Nat) t,j < kq → v.zs[j]? = some t → ∃ (i : Nat) (n : Nd),c.ns[i]? = some n ∧ n.n = t ∧ n.z = v.z) ∧ Hid (Below W.heap.size W wr)) (fun i _ => vl - (intOf i).toNat);case atStart => exact ⟨0,by omega,rfl,fun _ _ h => absurd h qqd1,Below.refl _ _⟩
   case round =>
    obtain ⟨kq,hkq,rfl,HQ2,HBW⟩:=hrel;obtain ⟨HB,Bk⟩:=qqb60;have Bv:=upK GV HBW.out;have pv : wr.cell? ⟨gb,7,none⟩ = some (.slice va vl vc):=cellK Bv.out 7;by_cases hlt2 : kq < vl
    ·obtain ⟨b2,o2,t,rfl,hb,hx,hc,hsz⟩:=(TT.out.below HBW.out).at hlt2;have HXt:=hidK hx;clear hx hsz;by_cases hnn : ∃ (i : Nat) (n : Nd),c.ns[i]? = some n ∧ n.n = t;rotate_left
     ·have HH:=hidK hnn;clear hnn;have Gk:=Bk;have Gv:=Bv;have HW:=HB;obtain ⟨k0,k1,k2,k3,k4,k5⟩:=sl6 Gk;have v7:=fun q : Wd wr => q.slot (o:=7) Gv.out rfl;obtain ⟨tw,hne0⟩:=qqb44;have HC0:=hidK (fun q : Wd wr => sxnd_miss ⟨a1,l1,y1,a2,l2,y2,(some ⟨b,o,none⟩),l3,y3,a4,l4,y4,a5,l5,y5⟩ c.now c.ns t q.w (HR.out.n.below (HW.out.trans (q.b.mono HW.out.size))) (fun i n h1 h2 => HH.out ⟨i,n,h1,h2⟩));go_wp2_with fail;refine wp_region_wide qqd2 qqd2 ?_;repeat (go_big_quiet_step (first | (go_at_call 47;exact Calls.wide (HC0.out _)) | fail))
      refine wpQuiet_nil ?_;rintro _ ⟨q1,rfl⟩;have HB1:=upB HW q1.b;have Ck:=upK Gk q1.b;have Cv:=upK Gv q1.b;clear hne0 HW HB HC0 k0 k1 k2 k3 k4 k5 v7 tw Gk Gv Bk Bv pv;have HB:=HB1;clear HB1;have Bk:=Ck;clear Ck;have Bv:=Cv;clear Cv;have Gk:=Bk;have Gv:=Bv;have HW:=HB;have k0:=fun q : Wd q1.w => q.slot (o:=0) Gk.out rfl;obtain ⟨v0,v1,v2,v3,v4,v5,v6,v7⟩:=sl8 Gv;have hne0:=Wd.ne q1.w;go_wp2_with fail;refine wp_region_wide qqd2 qqd2 ?_;repeat (go_big_quiet_step (first | fail))
      refine wpQuiet_nil ?_;rintro _ ⟨q2,rfl⟩;obtain ⟨HB2,Ck⟩:=qqb42;have Cv:=upK Gv q2.b;clear hne0 HW HB k0 v0 v1 v2 v3 v4 v5 v6 v7 Gk Gv Bk Bv;have HB:=HB2;clear HB2;have Bk:=Ck;clear Ck;have Bv:=Cv;clear Cv;go_wp2;go_ret;refine BoolB.f (fun h => ?_) HB.out;obtain ⟨i,n,h2,h3,_⟩:=(h.1 k v HXv.out) kq t HXt.out;exact HH.out ⟨i,n,h2,h3⟩
     obtain ⟨j1,n,h1,h2⟩:=hnn;have hl1' : j1 < l1:=by have h3:=(List.getElem?_eq_some_iff.1 h1).1;omega
     obtain ⟨b1,o1,n',rfl,hb1n,hn',hat⟩:=nd_at HR.out.n hl1';rw [h1] at hn';obtain rfl:=Option.some.inj hn';obtain ⟨na,nl,nc,hnr,z0,z1,d0,d1,d2,d3,d4,d5,d6⟩:=nd_cells hat;have HJn:=hidK h1;have HNn:=hidK h2;have HCn:=hidK d1;have HBn:=hidK hb1n;have hj11 : decide ((j1 : Int) < 0) = false:=qqd6
     clear hn' hat hnr z0 z1 d0 d1 d2 d3 d4 d5 d6 h1 h2 hb1n;have Gk:=Bk;have Gv:=Bv;have HW:=HB;obtain ⟨k0,k1,k2,k3,k4,k5⟩:=sl6 Gk;have v7:=fun q : Wd wr => q.slot (o:=7) Gv.out rfl;obtain ⟨tw,hne0⟩:=qqb44;have HC0:=hidK (fun q : Wd wr => sxnd_hit ⟨(some ⟨b1,o1,none⟩),l1,y1,a2,l2,y2,(some ⟨b,o,none⟩),l3,y3,a4,l4,y4,a5,l5,y5⟩ c.now c.ns t q.w (HR.out.n.below (HW.out.trans (q.b.mono HW.out.size))) HNR.out HJn.out HNn.out);go_wp2_with fail;refine wp_region_wide qqd2 qqd2 ?_;repeat (go_big_quiet_step (first | (go_at_call 47;exact Calls.wide (HC0.out _)) | fail))
     refine wpQuiet_nil ?_;rintro _ ⟨q1,rfl⟩;have HB1:=upB HW q1.b;have Ck:=upK Gk q1.b;have Cv:=upK Gv q1.b;clear hne0 HW HB HC0 k0 k1 k2 k3 k4 k5 v7 tw Gk Gv Bk Bv pv hb hc;have HB:=HB1;clear HB1;have Bk:=Ck;clear Ck;have Bv:=Cv;clear Cv;have HBW1:=upB HBW q1.b;have hbn : b1 < q1.w.heap.size:=Nat.lt_of_lt_of_le HBn.out HB.out.size;have n1:=(cell_below HB.out HBn.out).trans HCn.out;clear HBW;by_cases hz : n.z = v.z
     ·have q8:=tl_yes hz;have HZ:=hidK hz;clear hz;have Gk:=Bk;have Gv:=Bv;have HW:=HB;have k0:=fun q : Wd q1.w => q.slot (o:=0) Gk.out rfl;obtain ⟨v0,v1,v2,v3,v4,v5,v6,v7⟩:=sl8 Gv;have nw:=fun q : Wd q1.w => (q.cell hbn).trans n1;have hne0:=Wd.ne q1.w;go_wp2_with fail;refine wp_region_wide qqd2 qqd2 ?_;repeat (go_big_quiet_step (first | fail))
      refine wpQuiet_nil ?_;rintro _ ⟨q2,rfl⟩;obtain ⟨HB2,Ck⟩:=qqb42;have Cv:=upK Gv q2.b;clear hne0 HW HB k0 v0 v1 v2 v3 v4 v5 v6 v7 nw Gk Gv Bk Bv hbn n1;have HB:=HB2;clear HB2;have Bk:=Ck;clear Ck;have Bv:=Cv;clear Cv;clear q8;go_wp2_with fail;refine ⟨⟨kq + 1,by omega,by go_num,fun j s hj hs => ?_,HBW1.out.trans (q2.b.mono HBW1.out.size)⟩,by simp [intOf];omega⟩;by_cases e : j = kq
      ·subst e;rw [HXt.out] at hs;obtain rfl:=Option.some.inj hs;exact ⟨j1,n,HJn.out,HNn.out,HZ.out⟩
      ·exact HQ2.out j s qqd1 hs
     ·have q8:=tl_no hz;have HZ:=hidK hz;clear hz;have Gk:=Bk;have Gv:=Bv;have HW:=HB;have k0:=fun q : Wd q1.w => q.slot (o:=0) Gk.out rfl;obtain ⟨v0,v1,v2,v3,v4,v5,v6,v7⟩:=sl8 Gv;have nw:=fun q : Wd q1.w => (q.cell hbn).trans n1;have hne0:=Wd.ne q1.w;go_wp2_with fail;refine wp_region_wide qqd2 qqd2 ?_;repeat (go_big_quiet_step (first | fail))
      refine wpQuiet_nil ?_;rintro _ ⟨q2,rfl⟩;obtain ⟨HB2,Ck⟩:=qqb42;have Cv:=upK Gv q2.b;clear hne0 HW HB k0 v0 v1 v2 v3 v4 v5 v6 v7 nw Gk Gv Bk Bv hbn n1;have HB:=HB2;clear HB2;have Bk:=Ck;clear Ck;have Bv:=Cv;clear Cv;go_wp2;go_ret;refine BoolB.f (fun h => ?_) HB.out;obtain ⟨i,m2,e1,e2,e3⟩:=(h.1 k v HXv.out) kq t HXt.out;obtain ⟨_,rfl⟩:=HNR.out.inj e1 HJn.out (e2.trans HNn.out.symm);exact HZ.out e3
    ·exact qqa45
  ·obtain rfl : l3 = k:=qqd1
   have HQ1 : Hid (∀ (j : Nat) z,c.vs[j]? = some z → AQ1 c z):=fun j z hz => HQ.out j z qqd4 hz;clear HQ;have kc : wr.cell? ⟨w.heap.size,0,none⟩ = some (.slice a1 l1 y1):=cellK Bk.out 0;go_wp2;clear pk kc;go_loopw [7] (fun i wr => ∃ k : Nat,k ≤ l1 ∧ i = .int .i64 k ∧ Hid (∀ (j : Nat) n,j < k → c.ns[j]? = some n → onOf n.n c.vs ≤ n.s) ∧ Hid (Below w.heap.size w wr) ∧ Hid (wr.heap[w.heap.size]? = some (.cells #[.slice a1 l1 y1,.slice a2 l2 y2,.slice a3 l3 y3,.slice a4 l4 y4,.slice a5 l5 y5,.int .i64 c.now] 36 (0,0)))) (fun i _ => l1 - (intOf i).toNat);case atStart => exact ⟨0,by omega,rfl,fun _ _ h => absurd h qqd1,HB.out,Bk.out⟩
   case round =>
    obtain ⟨k,hk,rfl,HQ,HB,Bk⟩:=hrel;have pk : wr.cell? ⟨w.heap.size,0,none⟩ = some (.slice a1 l1 y1):=cellK Bk.out 0;by_cases hlt : k < l1
    ·obtain ⟨b,o,n,rfl,hb,hx,hat⟩:=nd_at (HR.out.n.below HB.out) hlt;obtain ⟨va,vl,vc,hvr,z0,z1,c0,c1,c2,c3,c4,c5,c6⟩:=nd_cells hat;obtain ⟨HXn,HTn,HZn0,HZn1⟩:=qqb79;clear hat hx z0 z1 hvr;have Gk:=Bk;have HW:=HB;obtain ⟨k0,k1,k2,k3,k4,k5⟩:=sl6 Gk;have n0w:=fun q : Wd wr => (q.cell hb).trans c0;have n2w:=fun q : Wd wr => (q.cell hb).trans c3;have hne0:=Wd.ne wr;have HC0:=hidK (fun q : Wd wr => son_any ⟨(some ⟨b,o,none⟩),l1,y1,a2,l2,y2,a3,l3,y3,a4,l4,y4,a5,l5,y5⟩ c.now c.vs n.n q.w (HR.out.v.below (HW.out.trans (q.b.mono HW.out.size))) HL3.out);go_wp2_with fail;refine wp_region_wide qqd2 qqd2 ?_;repeat (go_big_quiet_step (first | (go_at_call 123;exact Calls.wide (HC0.out _)) | fail))
     refine wpQuiet_nil ?_;rintro _ ⟨q1,rfl⟩;have HB1:=upB HW q1.b;have Ck:=upK Gk q1.b;clear hne0 HW HB HC0 k0 k1 k2 k3 k4 k5 n0w n2w Gk Bk pk c0 c1 c2 c3 c4 c5 c6 hb;have HB:=HB1;clear HB1;have Bk:=Ck;clear Ck;by_cases hq : onOf n.n c.vs ≤ n.s
     ·exact qqa64
     ·have HCq:=hidK hq;go_wp2;go_ret;exact BoolB.f (fun h => by have h1 : onOf n.n c.vs ≤ n.s:=h.2 k n HXn.out;have h2:=HCq.out;omega) HB.out
    ·exact qqa90

end Rc
end Go.Proofs.YtpibkpofdbjdaaaGreatDoor

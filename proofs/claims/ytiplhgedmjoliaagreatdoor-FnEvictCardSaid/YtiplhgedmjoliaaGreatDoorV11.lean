import Derived.Test.YtiplhgedmjoliaaGreatDoorV10
import Derived.RangeFuncNested
import Derived.RangeFuncBound
import Derived.RangeFuncCalls
import Derived.RangeFuncLeaves
import Derived.Shelf.Abstract
import Derived.Shelf.RegionOpen
import Derived.WalkKit
import Derived.OwnWalkIn
import Derived.TacticsInMore
import Derived.LoopNIn
import Derived.LoopIn
import Derived.Deep.RegionWith
import Derived.Deep.Cut
import Derived.Deep.CutRange
set_option maxRecDepth 100000
set_option maxHeartbeats 12800000
open Bool renaming false→Y8,true→Y_
open Go.Ending renaming returned→Y9
open Go.IntKind renaming i64→Y5
open Go.Obj renaming cells→Y6
open Go.Value renaming string→I,slice→J,int→Y4,bool→Y7,agg→Za,pointer→Zd,tuple→Ze
open Option renaming none→U,some→Y3
open Or renaming inr→Zb,inl→Zc
open And renaming intro→Yb
open Array renaming getElem?_push_size→Yg, getD_eq_getD_getElem?→Yp, getElem?_eq_some_iff→Yw
open Bool renaming and_eq_true→YE
open Go.Addr renaming add_lit→Yo
open Go.Calls renaming quiet_of_same→YC
open Go.Op renaming bytesLess→Yk
open Go.Region renaming wanted→YM, ready→YR
open Go.RowKit.Below renaming heap_setCell→Ya, refl→Yh, heap_alloc→Ym
open Go.Value renaming string→Yn, ownBlock→YJ
open Go.World renaming setCell→YO
open List renaming getElem?_eq_some_iff→Yc, lookup→Yf, getElem?_eq_getElem→Yi, length_map→Yr, setIfInBounds_toArray→Ys, getElem?_map→Yt, mem_of_getElem?→Yu, getElem?_append_left→Yv, drop_eq_nil_of_le→Yx, set_cons_zero→YA, set_cons_succ→YB, getElem?_take→YD, getElem?_of_mem→YF, length_take→YG, take_of_length_le→YH, length_set→YK, take_add_one→YL, foldr→YQ, filter_append→YU
open Nat renaming le_refl→Ye, lt_of_lt_of_le→Yj, le_trans→Yl, zero_add→Yq, le_succ→Yy, zero_le→YI
open Option renaming map_eq_some_iff→Yz
open Option.some renaming inj→Yd
namespace Go.Proofs.YtiplhgedmjoliaaGreatDoor
variable {p:Prop}
namespace Mk
end Mk
namespace Dk
end Dk
open Go.RowKit Mk Go.Shelf Dk
variable {α:Type} {B X cap g h i j k len m n₀:Nat} {L:List Pd} {P:Program} {Q:Exit->Act->World->Prop} {S:Nat->Prop} {T:TypeId} {W w w0 wr:World} {a:Option Addr} {a0:Act} {b:Bool} {c:Cl} {d:Ad} {known:List (Tmp×Fact)} {o:Co} {ops:Array Oper} {pre:List Vx} {q:Qd} {r:List Fv} {rs:List (List Fv)} {t:ByteArray} {v:Value} {x:Pd} {nm:α->ByteArray}
theorem om(h:p:=by simp[results,Tryz.results67,go_sem, *]):p:=h
theorem tB(h:p:=by simp[results,Tryz.results7,go_sem, *]):p:=h
theorem MZ(h:p:=by simp[results,Tryz.results31,go_sem, *]):p:=h
theorem agb(h:p:=by unfold Oper.looksAt;rw[hg];refine List.mem_append_right _ ?_;simp only[hd];simp):p:=h
theorem af9(h:p:=by simpa using (show (c.ns.map ndF).length=l1 from HS.row.n.1)):p:=h
theorem nI(h:p:=by
 rintro e w9 ⟨g,o,rfl,hI,ho,hb⟩;have HO:=aa ho;have HD9:=aa (HD4.below hb);have z303z:=@aa _ @acv;exact zp):p:=h
theorem alc(h:p:=by
 obtain⟨d3,c3,h3,hl3⟩:=HX.out;have HE:=aa h3;have HL3:=aa hl3;clear h3 hl3 HX;have Bc:=aa HE.blk;have z771z:=@aa _ @Uc;exact e_):p:=h
theorem ai8(h:p:=by
 have HDW:=HD4;have BkW:=Bk;have BrW:=Br;have HRW:=HR;go_wp2_with fail;go_region_with (first
  | (go_at_call 63;refine (afp (cD HDW.src)).mono ?_;rintro e w5 ⟨n1,c1,z1,a1,l1,cp1,zs1,d1,ph1,rfl,hn1,hz1,hd1,htx,-,-,-,-,hd⟩;have hsz:=hd.src;have hgz:=hd.gr;have HD5:=aa (Dk.Dr.next (w:=w4.drew) (jU HDW.out) hsz hgz);have HR5:=aa (aB.bP (w:=w4.drew) (HRW.below (aU _)) (bT (cD HDW.src)) (aS hgz));have gk5:=gk hgz cG (show w4.drew.heap[w.heap.size]?=_ from BkW.out);have gr5:=gk hgz cG (show w4.drew.heap[w.heap.size+1]?=_ from BrW.out);have HG5:=aa gr5;have kq0:=an gk5 0;have kq1:=an gk5 1;have kq2:=an gk5 2;have kq3:=an gk5 3;have kq4:=an gk5 4;have kq5:=an gk5 5;have ltk5:=ae gk5;clear gk5 gr5)
  | (go_at_call 62;refine ((B5 d c ⟨n1,c1,z1,zs1,d1,ph1⟩ a1 l1 cp1 _ HR5.out htx (by show n1.size<=_;omega) (by show z1.size<=_;omega) (by show d1.size<=_;omega)).mono λ_ _ h=>h.l).mono ?_;rintro e w9 ⟨g,o,rfl,hI,ho,hb⟩;have HG9:=upK HG5 hb;obtain⟨r0,r1,r2,r3,r4,r5,r6,r7⟩:=cs8 HG9;have hrl:=ae HG9.out;have fr0:=al HG9.out 0;have fr1:=al HG9.out 1;have fr2:=al HG9.out 2;have fr3:=al HG9.out 3;have fr4:=al HG9.out 4;have fr5:=al HG9.out 5;have fr6:=al HG9.out 6;have fr7:=al HG9.out 7))
 all_goals (
  rw[eight HG9.out];have HO:=aa ho;have HD9:=aa (HD5.below hb);have HI:=aa hI;have H12:=aa (setRow_heap _ (w.heap.size+1) _ #[J g.a1 g.l1 g.c1,J g.a2 g.l2 g.c2,J g.a3 g.l3 g.c3,J g.a4 g.l4 g.c4,J g.a5 g.l5 g.c5,Y4 Y5 o.c.now,I o.n,Y4 Y5 o.p] _ _ HG9.out);clear hI ho hb k0 k1 k2 k3 k4 k5 ltk r0 fr0 r1 fr1 r2 fr2 r3 fr3 r4 fr4 r5 fr5 r6 fr6 r7 fr7;go_wp2_with fail
  exact bodyPost_ret (v:=Za #[J g.a1 g.l1 g.c1,J g.a2 g.l2 g.c2,J g.a3 g.l3 g.c3,J g.a4 g.l4 g.c4,J g.a5 g.l5 g.c5,Y4 Y5 o.c.now,I o.n,Y4 Y5 o.p]) (results_cell_row rfl _ _ (w.heap.size+1) _ _ _ _ rfl H12.out Tryz.underlying33 rfl gS) rfl (lL HD9.out HO.out HD5.size HG9.out af HI.nm (λh=>HI.gd h)))):p:=h
theorem PV(h:p:=by
 have HDW:=HD4;have BkW:=Bk;have BrW:=Br;have HRW:=HR;go_wp2_with fail;go_region_with (first
  | (go_at_call 61;refine (Bu (cD HDW.src)).mono ?_;rintro e w5 ⟨n1,c1,j1,x1,o1,rfl,hn1,hk1,hu1,hd⟩;have hsz:=hd.src;have hgz:=hd.gr;have HD5:=aa (Dk.Dr.next (w:=w4.drew) (jU HDW.out) hsz hgz);have HR5:=aa (aB.bP (w:=w4.drew) (HRW.below (aU _)) (bT (cD HDW.src)) (aS hgz));have gk5:=gk hgz cG (show w4.drew.heap[w.heap.size]?=_ from BkW.out);have gr5:=gk hgz cG (show w4.drew.heap[w.heap.size+1]?=_ from BrW.out);have HG5:=aa gr5;have kq0:=an gk5 0;have kq1:=an gk5 1;have kq2:=an gk5 2;have kq3:=an gk5 3;have kq4:=an gk5 4;have kq5:=an gk5 5;have ltk5:=ae gk5;clear gk5 gr5)
  | (go_at_call 60;refine ((B3 d c ⟨n1,c1,j1,x1,o1⟩ _ HR5.out (by show n1.size<=_;omega) (by show j1.size<=_;omega) (by show o1.size<=_;omega)).mono λ_ _ h=>h.l).mono ?_;rintro e w9 ⟨g,o,rfl,hI,ho,hb⟩;have HG9:=upK HG5 hb;obtain⟨r0,r1,r2,r3,r4,r5,r6,r7⟩:=cs8 HG9;have hrl:=ae HG9.out;have fr0:=al HG9.out 0;have fr1:=al HG9.out 1;have fr2:=al HG9.out 2;have fr3:=al HG9.out 3;have fr4:=al HG9.out 4;have fr5:=al HG9.out 5;have fr6:=al HG9.out 6;have fr7:=al HG9.out 7))
 all_goals (
  rw[eight HG9.out];have HO:=aa ho;have HD9:=aa (HD5.below hb);have HI:=aa hI;have H12:=aa (setRow_heap _ (w.heap.size+1) _ #[J g.a1 g.l1 g.c1,J g.a2 g.l2 g.c2,J g.a3 g.l3 g.c3,J g.a4 g.l4 g.c4,J g.a5 g.l5 g.c5,Y4 Y5 o.c.now,I o.n,Y4 Y5 o.p] _ _ HG9.out);clear hI ho hb k0 k1 k2 k3 k4 k5 ltk r0 fr0 r1 fr1 r2 fr2 r3 fr3 r4 fr4 r5 fr5 r6 fr6 r7 fr7;go_wp2_with fail
  exact bodyPost_ret (v:=Za #[J g.a1 g.l1 g.c1,J g.a2 g.l2 g.c2,J g.a3 g.l3 g.c3,J g.a4 g.l4 g.c4,J g.a5 g.l5 g.c5,Y4 Y5 o.c.now,I o.n,Y4 Y5 o.p]) (results_cell_row rfl _ _ (w.heap.size+1) _ _ _ _ rfl H12.out Tryz.underlying33 rfl gS) rfl (lL HD9.out HO.out HD5.size HG9.out af HI.nm (λh=>HI.gd h)))):p:=h
theorem ahb(h:p:=by
 rintro e w9 ⟨g,o,rfl,hI,ho,hb⟩;have HO:=aa ho;have HD9:=aa (HD5.below hb);have z303z:=@aa _ @acu;exact zp):p:=h
theorem agH(h:p:=by
 go_wp2;exact bodyPost_ret (v:=Za #[J U 0 0,J U 0 0,J U 0 0,J U 0 0,J U 0 0,Y4 Y5 0,I ⟨#[]⟩,Y4 Y5 p]) om rfl ⟨ad0,co0 p,rfl,HV.out,(rl0 _ _),sb1 (sb1 (sb1 (sb1 (sb1 (sb1 (sb1 (sb1 (HB.out))))))))⟩):p:=h
theorem PU(h:p:=by
 go_wp2_with fail;refine (kN a a' len len' cap cap' zs _ (HR.below (aR _ _ _)) (HR'.below (aR _ _ _))).mono ?_;rintro e w1 ⟨rfl,hb⟩;have z1060z:=@aa _ @L9;exact fC):p:=h
theorem PO(h:p:=by
 have HB:=HB41;clear HB41;have Bk:=Ck;clear Ck;have Bn:=Cn;clear Cn;have HO3:=aa (cA HO.out q1.b);rw[<-alv HY0.out HON.out] at HO3;go_wp2;exact⟨⟨k+1,m9,by omega,by omega,by go_num,HO3,HL.trans (q1.b.mono hLs)⟩,by simp[intOf];omega⟩):p:=h
theorem vJ(h:p:=by
 go_enter Tryz.func56,Tryz.ntmps56;go_wp2;go_ret;exact⟨rfl,Yh _ _⟩):p:=h
theorem vI(h:p:=by
 exact aw.nil _ _ _ _ _ (show (0:Nat)<=9223372036854775807 by omega)):p:=h
theorem O0(h:p:=by
 have z357z:=@aa _ @abI;exact ey):p:=h
theorem OG(h:p:=by
 obtain⟨⟨e1,m1,n1,e2,m2,n2,e3,m3,n3,e4,m4,n4,e5,m5,n5⟩,c5,h5,hl⟩:=HX.out;have HE:=aa h5;clear HX;have hm5':c5.ps.length=m5:=by simpa using (show (c5.ps.map pdF).length=m5 from h5.row.p.1)
 obtain rfl:m5=l5:=hm5'.symm.trans hl;obtain⟨b9,o9,x9,rfl,hb9,hx9,hat9⟩:=cq h5.row.p hlt;obtain⟨va9,vl9,vc9,-,hz9,-,-,c9,-,-,-,-,-⟩:=bD hat9;clear hat9 hx9 h5 hl;have HZ9:=aa hz9;clear hz9;have Bc:=aa HE.blk;have HRS:=aa HE.res;have z771z:=@aa _ @Ub;exact e_):p:=h
theorem Ov(h:p:=by
 exact⟨(HOF.n.az hk4 (λ_ _ s=>s)).rl (λk s=>loq),(HOF.k.az hk4 (λ_ _ s=>s)).rl (λk s=>loq),(HOF.v.az hk4 (λ_ _ s=>s)).rl (λk s=>loq),(HOF.x.az hk4 (λ_ _ s=>s)).rl (λk s=>loq),(HOF.p.az hk4 (λ_ _ s=>s)).rl (λk s=>loq)⟩):p:=h
theorem ajx(h:p:=by
 rcases HF6.2.2.2.2.2.2 with h9|⟨g9,c9,H9,e9,h9⟩
 ·have h8:=HF6.2.2.2.1;have h7:=h2.1;rw[h9] at h8;simp at h8;omega
 ·have h7:=h2.2;rw[h7] at e9;cases e9;exact h1 h9.inS):p:=h
theorem vu(h:p:=by
 go_wp2_with fail;refine (AI d c tp _ HR.out).mono ?_;exact nI):p:=h
theorem N7(h:p:=by
 rw[<-hns];exact⟨by rw[YK];exact HNN.1,HNN.2.1,HNN.2.2.1,Zb ⟨g,cur6,H6,rfl,hat6⟩⟩):p:=h
theorem agC(h:p:=by
 have k0:=λq:Wd W=>q.slot (o:=0) Bc3.out rfl;have k1:=λq:Wd W=>q.slot (o:=1) Bc3.out rfl;have k2:=λq:Wd W=>q.slot (o:=2) Bc3.out rfl;have k3:=λq:Wd W=>q.slot (o:=3) Bc3.out rfl;have k4:=λq:Wd W=>q.slot (o:=4) Bc3.out rfl;have k5:=λq:Wd W=>q.slot (o:=5) Bc3.out rfl;have p0:∀q:Wd W,q.w.cell? ⟨g,k*6,U⟩=Y3 (I x.n):=λq=>(q.cell hbl2).trans c0;have p1:∀q:Wd W,q.w.cell? ⟨g,k*6+1,U⟩=Y3 (Y4 Y5 x.c):=λq=>(q.cell hbl2).trans c1;have p2:∀q:Wd W,q.w.cell? ⟨g,k*6+2,U⟩=Y3 (I x.z):=λq=>(q.cell hbl2).trans c2;have p3:∀q:Wd W,q.w.cell? ⟨g,k*6+3,U⟩=Y3 (J pa pq pc):=λq=>(q.cell hbl2).trans c3;have p4:∀q:Wd W,q.w.cell? ⟨g,k*6+4,U⟩=Y3 (I x.d):=λq=>(q.cell hbl2).trans c4;have p5:∀q:Wd W,q.w.cell? ⟨g,k*6+5,U⟩=Y3 (Y4 Y5 1):=λq=>(q.cell hbl2).trans c5;exact Yb k0 (Yb k1 (Yb k2 (Yb k3 (Yb k4 (Yb k5 (Yb p0 (Yb p1 (Yb p2 (Yb p3 (Yb p4 p5))))))))))):p:=h
theorem agy(h:p:=by
 have hlt:=h.lt;have hk9:=(((((aG.refl (λk=>k=bc) wx).set (i:=0) (v:=J g.a1 g.l1 g.c1) rfl).set (i:=1) (v:=J g.a2 g.l2 g.c2) rfl).set (i:=2) (v:=J g.a3 g.l3 g.c3) rfl).set (i:=3) (v:=J g.a4 g.l4 g.c4) rfl).set (i:=4) (v:=J g.a5 g.l5 g.c5) rfl |>.set (i:=5) (v:=Y4 Y5 c'.now) rfl;have h6:=au (i:=5) (au (i:=4) (au (i:=3) (au (i:=2) (au (i:=1) (au (i:=0) h.blk (J g.a1 g.l1 g.c1)) (J g.a2 g.l2 g.c2)) (J g.a3 g.l3 g.c3)) (J g.a4 g.l4 g.c4)) (J g.a5 g.l5 g.c5)) (Y4 Y5 c'.now);exact Yb hlt (Yb hk9 h6)):p:=h
theorem agx(h:p:=by
 have pd4:=λq:Wd w2=>(q.cell hbl).trans c4;have e0:=λq:Wd w2=>(q.cell hbn).trans d0;have e1:=λq:Wd w2=>(q.cell hbn).trans d1;have e2:=λq:Wd w2=>(q.cell hbn).trans d2;have e3:=λq:Wd w2=>(q.cell hbn).trans d3;have e4:=λq:Wd w2=>(q.cell hbn).trans d4;have e5:=λq:Wd w2=>(q.cell hbn).trans d5;have e6:=λq:Wd w2=>(q.cell hbn).trans d6;have hne0:=Wd.ne w2;have HC0:=aa (λq:Wd w2=>fu ⟨(Y3 ⟨bn,on,U⟩),l1,y1,a2,l2,y2,a3,l3,y3,a4,l4,y4,(Y3 ⟨b,o,U⟩),l5,y5⟩ c.now c.ns x.d q.w (HR.n.below (HW.trans (q.b.mono HW.size))) HRN.out HNJ.out HNN.out);exact Yb pd4 (Yb e0 (Yb e1 (Yb e2 (Yb e3 (Yb e4 (Yb e5 (Yb e6 (Yb hne0 HC0))))))))):p:=h
theorem akS(h:p:=by
 have HA8:Hid ((#[J g.a1 g.l1 g.c1,J g.a2 g.l2 g.c2,J g.a3 g.l3 g.c3,J g.a4 g.l4 g.c4,J g.a5 g.l5 g.c5,Y4 Y5 o.c.now,I o.n,Y4 Y5 o.p]:Array Value).all (·.oneCell')=Y_):=by show _=Y_;simp[Value.oneCell']
 have H12:=aa (setRow_heap _ (w.heap.size+1) _ #[J g.a1 g.l1 g.c1,J g.a2 g.l2 g.c2,J g.a3 g.l3 g.c3,J g.a4 g.l4 g.c4,J g.a5 g.l5 g.c5,Y4 Y5 o.c.now,I o.n,Y4 Y5 o.p] _ _ Br9.out);exact Yb HA8 H12):p:=h
theorem zR(h:p:=by
 have hgb:¬g=b:=λe=>by subst e;exact cP Bk.out _ _ c0
 have hgp:¬g=p:=λe=>by subst e;exact bT HS.src _ _ c0
 exact Yb hgb hgp):p:=h
theorem zQ(h:p:=by
 have ltk:=ae Bc.out;have f0:=al Bc.out 0;have f1:=al Bc.out 1;have f2:=al Bc.out 2;have f3:=al Bc.out 3;have f4:=al Bc.out 4;have f5:=al Bc.out 5;exact Yb ltk (Yb f0 (Yb f1 (Yb f2 (Yb f3 (Yb f4 f5)))))):p:=h
theorem agu(h:p:=by
 have n0:=λq:Wd wr=>q.slot (o:=0) Gn.out rfl;have yd:=λq:Wd wr=>(q.cell hbl).trans hc1;have von:=λq:Wd wr=>(q.cell hb3).trans hc7;have hne0:=Wd.ne wr;have HC0:=aa (λq:Wd wr=>ed ⟨a1,l1,y1,a2,l2,y2,(Y3 ⟨b3,o3,U⟩),l3,y3,a4,l4,y4,a5,l5,y5⟩ c.now c.vs y.n q.w (HR.v.below (HW.trans (q.b.mono HW.size))) HT.2.1.2.2.1.2.2 HV.1 HV.2);exact Yb n0 (Yb yd (Yb von (Yb hne0 HC0)))):p:=h
theorem agt(h:p:=by
 have Bo7:=aa ((hK.block _ (ae Bo6.out) (nb _ af)).trans Bo6.out);have Br7:=aa ((hK.block _ (ae Br6.out) (nb _ af)).trans Br6.out);have g1:=HF1.beside HF6.2.2.2 hK ag;have g2:=HF6.1.beside HF6.2.2.2 hK ag;have g3:=HF6.2.1.beside HF6.2.2.2 hK ag;have g4:=HF6.2.2.1.beside HF6.2.2.2 hK ag;exact Yb Bo7 (Yb Br7 (Yb g1 (Yb g2 (Yb g3 g4))))):p:=h
theorem agr(h:p:=by
 have xk:=λq:Wd w2=>(q.cell hbl).trans c2;have kx:=λq:Wd w2=>(q.cell hbk).trans d1;have hne0:=Wd.ne w2;have HC0:=aa (λq:Wd w2=>dF ⟨a1,l1,y1,(Y3 ⟨bk,ok,U⟩),l2,y2,a3,l3,y3,(Y3 ⟨b,o,U⟩),l4,y4,a5,l5,y5⟩ c.now c.ks x.k q.w (HR.k.below (HW.trans (q.b.mono HW.size))) HT.2.1.2.1.2.2 HK.1 HK.2);exact Yb xk (Yb kx (Yb hne0 HC0))):p:=h
theorem akF(h:p:=by
 have HG:=aa (Yb g1 (Yb g2 (Yb g3 (Yb g4 hP))));have HB7:Hid (Below w.heap.size w w7):=HB6.trans (hK.low (X:=w.heap.size) HB6.size (λk s=>Classical.byContradiction λhk=>nb k af s));exact Yb HG HB7):p:=h
theorem aix(h:p:=by
 rintro _ ⟨q1,rfl⟩;have HB41:=upB HW q1.b;have Ck:=upK Gk q1.b;have Cn:=upK Gn q1.b;clear hne0 HW HB k0 k1 k2 k3 k4 k5 n0 yd Gk Gn Bk Bn hbl hc0 hc1 hb3 hc7 hq;exact PO):p:=h
theorem ain(h:p:=by
 go_wp2;exact bodyPost_ret (v:=Za #[J U 0 0,J U 0 0,J U 0 0,J U 0 0,J U 0 0,Y4 Y5 0,I ⟨#[]⟩,Y4 Y5 p]) tB rfl ⟨ad0,co0 p,rfl,HV.out,(rl0 _ _),sb1 (sb1 (sb1 (sb1 (sb1 (sb1 (sb1 (sb1 (HB.out))))))))⟩):p:=h
theorem aim(h:p:=by
 go_wp2;exact bodyPost_ret (v:=Za #[J U 0 0,J U 0 0,J U 0 0,J U 0 0,J U 0 0,Y4 Y5 0,I ⟨#[]⟩,Y4 Y5 p]) MZ rfl ⟨ad0,co0 p,rfl,HV.out,(rl0 _ _),sb1 (sb1 (sb1 (sb1 (sb1 (sb1 (sb1 (sb1 (HB.out))))))))⟩):p:=h
theorem aeR(h:p:=by
 have z1639z:=@aa _ @DG;exact ru):p:=h
theorem aeQ(h:p:=by
 have z1636z:=@aa _ @DI;exact ry):p:=h
theorem aeP(h:p:=by
 have z1452z:=@aa _ @PO;exact rY):p:=h
theorem aez(h:p:=by
 have z535z:=@aa _ @Xv;exact fa):p:=h
theorem aey(h:p:=by
 have z535z:=@aa _ @Xu;exact fa):p:=h
theorem aex(h:p:=by
 have z535z:=@aa _ @Xt;exact fa):p:=h
theorem aew(h:p:=by
 have z535z:=@aa _ @Xs;exact fa):p:=h
theorem aeq(h:p:=by
 go_wp2;exact bodyPost_ret (v:=Za #[J U 0 0,J U 0 0,J U 0 0,J U 0 0,J U 0 0,Y4 Y5 0,I ⟨#[]⟩,Y4 Y5 10]) MZ rfl ⟨ad0,co0 10,rfl,HV.out,(rl0 _ _),sb1 (sb1 (sb1 (sb1 (sb1 (sb1 (sb1 (sb1 (HB.out))))))))⟩):p:=h
theorem acW(h:p:=by
 refine⟨⟨cur.setIfInBounds (j*m+i) (J a 0 q),H,⟨au h1.blk _,h1.inS,la h3 h1.len,λj' r' hj' i' f' hi'=>?_,λj' r' i' zs' j2 r2 i2 zs2 hj' hi' hz' hj2 hi2 hz2 hH=>?_⟩,λj' r' i' zs' hj' hi' hz'=>?_⟩,h2.set h1.inS,h3⟩
 ·rcases eL h3 hil hj' hi' with ⟨rfl,rfl,rfl⟩|⟨hne,r0,q1,q2⟩
  ·exact⟨_,by rw[Array.getElem?_setIfInBounds_self_of_lt hin],⟨a,0,q,rfl,rfl,YI _,hq,λj x hx=>by simp at hx,Zc rfl⟩⟩
  ·exact Nu
 ·exact Pm
 ·obtain⟨r0,b1,b2⟩:=back j' r' i' zs' hj' hi' hz';exact hN j' r0 i' zs' b1 b2 hz'):p:=h
theorem acv(h:p:=by
 exact bodyPost_ret (v:=Za #[J g.a1 g.l1 g.c1,J g.a2 g.l2 g.c2,J g.a3 g.l3 g.c3,J g.a4 g.l4 g.c4,J g.a5 g.l5 g.c5,Y4 Y5 o.c.now,I o.n,Y4 Y5 o.p]) (results_cell_row rfl _ _ (w.heap.size+1) _ _ _ _ rfl H12.out Tryz.underlying33 rfl gS) rfl (lL HD9.out HO.out HD4.size Br9.out af HI.nm (λh=>HI.gd h))):p:=h
theorem acu(h:p:=by
 exact bodyPost_ret (v:=Za #[J g.a1 g.l1 g.c1,J g.a2 g.l2 g.c2,J g.a3 g.l3 g.c3,J g.a4 g.l4 g.c4,J g.a5 g.l5 g.c5,Y4 Y5 o.c.now,I o.n,Y4 Y5 o.p]) (results_cell_row rfl _ _ (w.heap.size+1) _ _ _ _ rfl H12.out Tryz.underlying33 rfl gS) rfl (lL HD9.out HO.out HD5.size Br9.out af HI.nm (λh=>HI.gd h))):p:=h
theorem zp(h:p:=by
 have Br9:=upK Br hb;have HI:=aa hI;clear hI ho hb k0 k1 k2 k3 k4 k5 ltk;obtain⟨HA8,H12⟩:=akS;go_wp2_with (refine wpList_store_row rfl _ _ _ rfl (w.heap.size+1) #[J g.a1 g.l1 g.c1,J g.a2 g.l2 g.c2,J g.a3 g.l3 g.c3,J g.a4 g.l4 g.c4,J g.a5 g.l5 g.c5,Y4 Y5 o.c.now,I o.n,Y4 Y5 o.p] rfl rfl _ _ Br9.out gS rfl HA8.out ?_);exact z303z):p:=h
theorem ab1(h:p:=by
 go_wp2;exact bodyPost_ret (v:=Za #[J d.a1 d.l1 d.c1,J d.a2 d.l2 d.c2,J d.a3 d.l3 d.c3,J d.a4 d.l4 d.c4,J d.a5 d.l5 d.c5,Y4 Y5 c.now]) (by simp[results,Tryz.results10,go_sem, *]) rfl (Qu HS.dr.gr HS.dr.lt HS.res HS.row HS.low HS.dr.src)):p:=h
theorem ab0(h:p:=by
 have hg6:w.grownBy w6 (Y3 p):=⟨HSP.kept.os.trans HS.dr.gr.os,HSP.kept.tape.trans HS.dr.gr.tape,HSP.kept.output.trans HS.dr.gr.output,Yl HS.dr.gr.size HSP.kept.size,λk hk hn=>(HSP.kept.block k (Yj hk HS.dr.gr.size) (λe=>by rcases e with e|e;exact hn (by rw[e]);omega)).trans (HS.dr.gr.block k hk hn)⟩;have HG6:=aa hg6;clear hg6;go_wp2;exact bodyPost_ret (v:=Za #[J d6.a1 d6.l1 d6.c1,J d6.a2 d6.l2 d6.c2,J d6.a3 d6.l3 d6.c3,J d6.a4 d6.l4 d6.c4,J d6.a5 d6.l5 d6.c5,Y4 Y5 c6.now]) (by simp[results,Tryz.results10,go_sem, *]) rfl (Qu HG6.out HS.dr.lt HRS.out HSP.row (HSP.low.to (Yy _) (λ_ u=>u)) HSP.src)):p:=h
theorem zm(h:p:=by
 have z771z:=@aa _ @Ua;exact e_):p:=h
theorem abU(h:p:=by
 go_wp2;have hR2:aw W (Y3 ⟨g,0,U⟩) l5 y5 6 40 ((mpL (phF t f) ps (k+1)).map pdF) S:=by
  rw[nq HX0.out,Aa HHE.out,HFX.out];exact HP1.out
 exact⟨⟨k+1,by omega,by go_num,hR2.below q1.b,HK1.below q1.b⟩,by simp[intOf];omega⟩):p:=h
theorem abT(h:p:=by
 have Bc4:=upK Bc3 q1.b;obtain⟨k0,k1,k2,k3,k4,k5⟩:=cs6 Bc4;have ltc:=ae Bc4.out;obtain⟨hgl,hfz⟩:=aw.atP (HP1.below q1.b) HLX.out;have c5:q1.w.cell? ⟨g,k*6+5,U⟩=Y3 (Y4 Y5 1):=by
  obtain⟨b3,o3,x3,hae,_,hx3,hat⟩:=cq (HP1.below q1.b).row hlt;cases hae;rw[HLX.out] at hx3;obtain rfl:=Yd hx3;obtain⟨_,_,_,_,-,-,-,-,-,-,-,-,c5⟩:=bD hat;rw[Yq] at c5;exact c5
 go_wp2;have hR:=aw.akq HP1.out q1.b HLX.out 2;rw[List.set_set] at hR;have hR2:aw (q1.w.setCell ⟨g,k*6+5,U⟩ (Y4 Y5 2)) (Y3 ⟨g,0,U⟩) l5 y5 6 40 ((mpL (phF t f) ps (k+1)).map pdF) S:=by
  rw[nq HX0.out,Aa HHE.out,HFX.out];exact hR
 have hK2:aG (λk=>0<l5/\(Y3 ⟨g,0,U⟩:Option Addr)=Y3 ⟨k,0,U⟩) w (q1.w.setCell ⟨g,k*6+5,U⟩ (Y4 Y5 2)):=(HK1.below q1.b).set ⟨by omega,rfl⟩;exact⟨⟨k+1,by omega,by go_num,hR2,hK2⟩,by simp[intOf];omega⟩):p:=h
theorem zk(h:p:=by
 have hne0:=Wd.ne W;clear c0 c1 c2 c3 c4 c5;refine bV ba ba ?_;repeat (go_big_quiet_step (first|(go_at_call 71;exact Calls.wide (HC0.out _))|fail))
 refine wpQuiet_nil ?_;rintro _ ⟨q1,rfl⟩;clear hne0 HC0 k0 p0 k1 p1 k2 p2 k3 p3 k4 p4 k5 p5;exact z351z):p:=h
theorem abQ(h:p:=by
 rcases (by omega:r=0\/r=1\/r=2\/r=3\/r=4\/r=5\/r=6\/r=7\/r=8\/r=9\/r=10\/r=11\/r=12\/r=13\/r=14\/r=15\/r=16\/r=17\/r=18\/r=19\/r=20\/r=21) with rfl|rfl|rfl|rfl|rfl|rfl|rfl|rfl|rfl|rfl|rfl|rfl|rfl|rfl|rfl|rfl|rfl|rfl|rfl|rfl|rfl|rfl
 ·have HDW:=HD4;have BkW:=Bk;have BrW:=Br;have HRW:=HR;go_wp2_with fail;go_region_with (first
   | (go_at_call 59;refine (QW (cD HDW.src)).mono ?_;rintro e w5 ⟨n1,c1,z1,j1,x1,m1,y1,a1,l1,cp1,zs1,rfl,hn1,hz1,hk1,hm1,htx,-,hd⟩;have hsz:=hd.src;have hgz:=hd.gr;have HD5:=aa (Dk.Dr.next (w:=w4.drew) (jU HDW.out) hsz hgz);have HR5:=aa (aB.bP (w:=w4.drew) (HRW.below (aU _)) (bT (cD HDW.src)) (aS hgz));have gk5:=gk hgz cG (show w4.drew.heap[w.heap.size]?=_ from BkW.out);have gr5:=gk hgz cG (show w4.drew.heap[w.heap.size+1]?=_ from BrW.out);have HG5:=aa gr5;have kq0:=an gk5 0;have kq1:=an gk5 1;have kq2:=an gk5 2;have kq3:=an gk5 3;have kq4:=an gk5 4;have kq5:=an gk5 5;have ltk5:=ae gk5;clear gk5 gr5)
   | (go_at_call 58;refine ((B4 d c ⟨n1,c1,z1,j1,x1,m1,y1,zs1⟩ a1 l1 cp1 _ HR5.out htx (by show n1.size<=_;omega) (by show z1.size<=_;omega) (by show j1.size<=_;omega) (by show m1.size<=_;omega)).mono λ_ _ h=>h.l).mono ?_;rintro e w9 ⟨g,o,rfl,hI,ho,hb⟩;have HG9:=upK HG5 hb;obtain⟨r0,r1,r2,r3,r4,r5,r6,r7⟩:=cs8 HG9;have hrl:=ae HG9.out;have fr0:=al HG9.out 0;have fr1:=al HG9.out 1;have fr2:=al HG9.out 2;have fr3:=al HG9.out 3;have fr4:=al HG9.out 4;have fr5:=al HG9.out 5;have fr6:=al HG9.out 6;have fr7:=al HG9.out 7))
  all_goals (
   rw[eight HG9.out];have HO:=aa ho;have HD9:=aa (HD5.below hb);have HI:=aa hI;have H12:=aa (setRow_heap _ (w.heap.size+1) _ #[J g.a1 g.l1 g.c1,J g.a2 g.l2 g.c2,J g.a3 g.l3 g.c3,J g.a4 g.l4 g.c4,J g.a5 g.l5 g.c5,Y4 Y5 o.c.now,I o.n,Y4 Y5 o.p] _ _ HG9.out);clear hI ho hb k0 k1 k2 k3 k4 k5 ltk r0 fr0 r1 fr1 r2 fr2 r3 fr3 r4 fr4 r5 fr5 r6 fr6 r7 fr7;go_wp2_with fail
   exact bodyPost_ret (v:=Za #[J g.a1 g.l1 g.c1,J g.a2 g.l2 g.c2,J g.a3 g.l3 g.c3,J g.a4 g.l4 g.c4,J g.a5 g.l5 g.c5,Y4 Y5 o.c.now,I o.n,Y4 Y5 o.p]) (results_cell_row rfl _ _ (w.heap.size+1) _ _ _ _ rfl H12.out Tryz.underlying33 rfl gS) rfl (lL HD9.out HO.out HD5.size HG9.out af HI.nm (λh=>HI.gd h)))
 ·exact PV
 ·exact PV
 ·exact PV
 ·exact ai8
 ·exact ai8
 ·exact ai8
 ·go_wp2_with fail;refine (AS d c tp _ HR.out).mono ?_;exact nI
 ·go_wp2_with fail;refine (AQ d c tc _ HR.out).mono ?_;exact nI
 ·have HDW:=aa (HD4.alloc (Y6 #[I ⟨#[100,49]⟩,I ⟨#[100,50]⟩,I ⟨#[118,95,99,49]⟩] 9));have BkW:Hid ((w4.alloc (Y6 #[I ⟨#[100,49]⟩,I ⟨#[100,50]⟩,I ⟨#[118,95,99,49]⟩] 9)).heap[w.heap.size]?=Y3 (Y6 (clv d c.now) 29 (0,0))):=(Ym _ _ _ (ae Bk.out)).trans Bk.out;have BrW:Hid ((w4.alloc (Y6 #[I ⟨#[100,49]⟩,I ⟨#[100,50]⟩,I ⟨#[118,95,99,49]⟩] 9)).heap[w.heap.size+1]?=Y3 (Y6 #[J U 0 0,J U 0 0,J U 0 0,J U 0 0,J U 0 0,Y4 Y5 0,I ⟨#[]⟩,Y4 Y5 0] 33 (0,0))):=(Ym _ _ _ (ae Br.out)).trans Br.out;have HRW:=aa (HR.below (ak w4 (Y6 #[I ⟨#[100,49]⟩,I ⟨#[100,50]⟩,I ⟨#[118,95,99,49]⟩] 9)));go_wp2_with fail;go_region_with (first
   | (go_at_call 15;refine (eO (cD HDW.src) w4.heap.size 3 [⟨#[100,49]⟩,⟨#[100,50]⟩,⟨#[118,95,99,49]⟩] _ (show (w4.alloc _).heap[w4.heap.size]?=_ from Yg) (by have:=HD4.src.nJ;omega) rfl ag ag ag).mono ?_;rintro e w5 ⟨tv,rfl,htv,hsz,hgz⟩;have HD5:=aa (Dk.Dr.next (w:=(w4.alloc (Y6 #[I ⟨#[100,49]⟩,I ⟨#[100,50]⟩,I ⟨#[118,95,99,49]⟩] 9)).drew) (jU HDW.out) hsz hgz);have HR5:=aa (aB.bP (w:=(w4.alloc (Y6 #[I ⟨#[100,49]⟩,I ⟨#[100,50]⟩,I ⟨#[118,95,99,49]⟩] 9)).drew) (HRW.below (aU _)) (bT (cD HDW.src)) (aS hgz));have gk5:=gk hgz cG (show (w4.alloc (Y6 #[I ⟨#[100,49]⟩,I ⟨#[100,50]⟩,I ⟨#[118,95,99,49]⟩] 9)).drew.heap[w.heap.size]?=_ from BkW.out);have gr5:=gk hgz cG (show (w4.alloc (Y6 #[I ⟨#[100,49]⟩,I ⟨#[100,50]⟩,I ⟨#[118,95,99,49]⟩] 9)).drew.heap[w.heap.size+1]?=_ from BrW.out);have HG5:=aa gr5;have kq0:=an gk5 0;have kq1:=an gk5 1;have kq2:=an gk5 2;have kq3:=an gk5 3;have kq4:=an gk5 4;have kq5:=an gk5 5;have ltk5:=ae gk5;clear gk5 gr5)
   | (go_at_call 66;refine (AR d c tv _ HR5.out).mono ?_;rintro e w9 ⟨g,o,rfl,hI,ho,hb⟩;have HG9:=upK HG5 hb;obtain⟨r0,r1,r2,r3,r4,r5,r6,r7⟩:=cs8 HG9;have hrl:=ae HG9.out;have fr0:=al HG9.out 0;have fr1:=al HG9.out 1;have fr2:=al HG9.out 2;have fr3:=al HG9.out 3;have fr4:=al HG9.out 4;have fr5:=al HG9.out 5;have fr6:=al HG9.out 6;have fr7:=al HG9.out 7))
  all_goals (
   rw[eight HG9.out];have HO:=aa ho;have HD9:=aa (HD5.below hb);have HI:=aa hI;have H12:=aa (setRow_heap _ (w.heap.size+1) _ #[J g.a1 g.l1 g.c1,J g.a2 g.l2 g.c2,J g.a3 g.l3 g.c3,J g.a4 g.l4 g.c4,J g.a5 g.l5 g.c5,Y4 Y5 o.c.now,I o.n,Y4 Y5 o.p] _ _ HG9.out);clear hI ho hb k0 k1 k2 k3 k4 k5 ltk r0 fr0 r1 fr1 r2 fr2 r3 fr3 r4 fr4 r5 fr5 r6 fr6 r7 fr7;go_wp2_with fail
   exact bodyPost_ret (v:=Za #[J g.a1 g.l1 g.c1,J g.a2 g.l2 g.c2,J g.a3 g.l3 g.c3,J g.a4 g.l4 g.c4,J g.a5 g.l5 g.c5,Y4 Y5 o.c.now,I o.n,Y4 Y5 o.p]) (results_cell_row rfl _ _ (w.heap.size+1) _ _ _ _ rfl H12.out Tryz.underlying33 rfl gS) rfl (lL HD9.out HO.out HD5.size HG9.out af HI.nm (λh=>HI.gd h)))
 ·go_wp2_with fail;refine (oc d c tc _ HR.out).mono ?_;exact nI
 ·go_wp2_with fail;refine (oc d c tc _ HR.out).mono ?_;exact nI
 ·exact vu
 ·exact vu
 ·exact vu
 ·go_wp2_with fail;refine (n_ d c tp _ HR.out).mono ?_;exact nI
 ·go_wp2_with fail;refine (xx d c _ HR.out).mono ?_;exact nI
 ·go_wp2_with fail;refine (xx d c _ HR.out).mono ?_;exact nI
 ·go_wp2_with fail;refine (kd d c tn _ HR.out).mono ?_;exact nI
 ·go_wp2_with fail;refine (kd d c tn _ HR.out).mono ?_;exact nI
 ·go_wp2_with fail;refine (cU HD4.src 3 ag).mono ?_;rintro e w5 ⟨he,hs,hg⟩;have HD5:=aa (HD4.next hs hg);replace HR:=aa (HR.bP (bT HD4.src) (aS hg));replace Bk:=aa (gk hg cG Bk.out);replace Br:=aa (gk hg cG Br.out);clear hs hg k0 k1 k2 k3 k4 k5 ltk;have z357z:=@aa _ @abP;exact ey
 ·have HDW:=HD4;have BkW:=Bk;have BrW:=Br;have HRW:=HR;go_wp2_with fail;go_region_with (first
   | (go_at_call 14;refine ((cD HDW.src).n 12 ag).mono ?_;rintro e w5 ⟨m5,rfl,ma,mb,hsz,hgz⟩;have HD5:=aa (Dk.Dr.next (w:=w4.drew) (jU HDW.out) hsz hgz);have HR5:=aa (aB.bP (w:=w4.drew) (HRW.below (aU _)) (bT (cD HDW.src)) (aS hgz));have gk5:=gk hgz cG (show w4.drew.heap[w.heap.size]?=_ from BkW.out);have gr5:=gk hgz cG (show w4.drew.heap[w.heap.size+1]?=_ from BrW.out);have HG5:=aa gr5;have kq0:=an gk5 0;have kq1:=an gk5 1;have kq2:=an gk5 2;have kq3:=an gk5 3;have kq4:=an gk5 4;have kq5:=an gk5 5;have ltk5:=ae gk5;clear gk5 gr5)
   | (go_at_call 13;refine (stick_lo d c m5 _ HR5.out).mono ?_;rintro e w9 ⟨g,o,rfl,hI,ho,hb⟩;have HG9:=upK HG5 hb;obtain⟨r0,r1,r2,r3,r4,r5,r6,r7⟩:=cs8 HG9;have hrl:=ae HG9.out;have fr0:=al HG9.out 0;have fr1:=al HG9.out 1;have fr2:=al HG9.out 2;have fr3:=al HG9.out 3;have fr4:=al HG9.out 4;have fr5:=al HG9.out 5;have fr6:=al HG9.out 6;have fr7:=al HG9.out 7))
  all_goals (
   rw[eight HG9.out];have HO:=aa ho;have HD9:=aa (HD5.below hb);have HI:=aa hI;have H12:=aa (setRow_heap _ (w.heap.size+1) _ #[J g.a1 g.l1 g.c1,J g.a2 g.l2 g.c2,J g.a3 g.l3 g.c3,J g.a4 g.l4 g.c4,J g.a5 g.l5 g.c5,Y4 Y5 o.c.now,I o.n,Y4 Y5 o.p] _ _ HG9.out);clear hI ho hb k0 k1 k2 k3 k4 k5 ltk r0 fr0 r1 fr1 r2 fr2 r3 fr3 r4 fr4 r5 fr5 r6 fr6 r7 fr7;go_wp2_with fail
   exact bodyPost_ret (v:=Za #[J g.a1 g.l1 g.c1,J g.a2 g.l2 g.c2,J g.a3 g.l3 g.c3,J g.a4 g.l4 g.c4,J g.a5 g.l5 g.c5,Y4 Y5 o.c.now,I o.n,Y4 Y5 o.p]) (results_cell_row rfl _ _ (w.heap.size+1) _ _ _ _ rfl H12.out Tryz.underlying33 rfl gS) rfl (lL HD9.out HO.out HD5.size HG9.out af HI.nm (λh=>HI.gd h)))):p:=h
theorem abP(h:p:=by
 obtain⟨x5,rfl⟩:=eC he;clear he;cases x5
 ·go_wp2_with fail;refine (BL d c tn _ HR.out).mono ?_;exact ahb
 ·go_wp2_with fail;refine (qQ d c tn _ HR.out).mono ?_;exact ahb):p:=h
theorem abO(h:p:=by
 go_wp2_with fail;have HS2:=aa (HS.alloc (Y6 #[Y4 Y5 (-1),Y4 Y5 1000000,Y4 Y5 1000001] 2));have Bi:Hid ((w1.alloc (Y6 #[Y4 Y5 (-1),Y4 Y5 1000000,Y4 Y5 1000001] 2)).heap[w1.heap.size]?=Y3 (Y6 #[Y4 Y5 (-1),Y4 Y5 1000000,Y4 Y5 1000001] 2 (0,0))):=Yg;refine (HS2.src.n 3 ag).mono ?_;rintro e w2 ⟨q,rfl,qa,qb,hs,hg⟩;have hbi:¬w1.heap.size=p:=af
 replace Bi:=aa (gk hg hbi Bi.out);replace HS:=aa (HS2.draw hbp hs hg);replace Bk:=aa HS.blk;clear hs hg HS2 k0 k1 k2 k3 k4 k5 ltk;obtain⟨k0,k1,k2,k3,k4,k5⟩:=cs6 Bk;have ltk:=ae Bk.out;obtain⟨i0,i1,i2⟩:=cs3 Bi;have lti:=ae Bi.out;have fk5:=al Bk.out 5;have fin:∀m:Int,∃d' c',il B w0 p v len X b c w (w2.setCell ⟨b,5,U⟩ (Y4 Y5 m)) d' c':=λm=>by
  have hg9:=bL w2 b 5 (Y4 Y5 m);refine⟨⟨a1,l1,y1,a2,l2,y2,a3,l3,y3,a4,l4,y4,a5,l5,y5⟩,⟨c.ns,c.ks,c.vs,c.xs,c.ps,m⟩,?_,?_,HS.low.to (Ye _) (λ_ q=>q.set),HS.src.az hg9 (λe=>hbp (Yd e)) (λk e=>by have:=Yd e;omega),HS.kept.set (Zb hXb),rfl⟩
  ·rw[au (i:=5) Bk.out];rfl
  ·exact (HS.row.bP (c:=c) (cP Bk.out) (aS hg9):aB _ _ c.raw)
 rcases (by omega:q=0\/q=1\/q=2) with rfl|rfl|rfl;all_goals (
  go_wp2_with fail
  go_end0
  exact⟨rfl,fin _⟩)):p:=h
theorem abN(h:p:=by
 have HS2:=aa (HS.alloc (Y6 #[I ⟨#[100,49]⟩,I ⟨#[118,95,99,49]⟩] 9)).Qs;have hbi:¬w1.heap.size=p:=af
 have Bi:Hid ((w1.alloc (Y6 #[I ⟨#[100,49]⟩,I ⟨#[118,95,99,49]⟩] 9)).heap[w1.heap.size]?=Y3 (Y6 #[I ⟨#[100,49]⟩,I ⟨#[118,95,99,49]⟩] 9 (0,0))):=Yg;have hgs:g<(w1.alloc (Y6 #[I ⟨#[100,49]⟩,I ⟨#[118,95,99,49]⟩] 9)).drew.heap.size:=by show g<(w1.alloc (Y6 #[I ⟨#[100,49]⟩,I ⟨#[118,95,99,49]⟩] 9)).heap.size;simp;omega
 have HC:Hid (∀i u,w1.cell? ⟨g,i,U⟩=Y3 u->(w1.alloc (Y6 #[I ⟨#[100,49]⟩,I ⟨#[118,95,99,49]⟩] 9)).drew.cell? ⟨g,i,U⟩=Y3 u):=λi u h=>(ai (ak w1 _) hgl).trans h;have HU:Hid (UF (w1.alloc (Y6 #[I ⟨#[100,49]⟩,I ⟨#[118,95,99,49]⟩] 9)).drew g):=(huf.below (ak w1 _)).Qs;go_wp2_with fail;go_region_with (go_at_call 15;refine (eO HS2.src w1.heap.size 2 [⟨#[100,49]⟩,⟨#[118,95,99,49]⟩] _ (show (w1.alloc (Y6 #[I ⟨#[100,49]⟩,I ⟨#[118,95,99,49]⟩] 9)).drew.heap[w1.heap.size]?=_ from Bi.out) hbi rfl ag ag ag).mono ?_;rintro e wz ⟨t,rfl,hts,hsz,hgz⟩;have HZ:=aa (HS2.draw hbp hsz hgz);have gz:=HZ.blk;have y0:=an gz 0;have hgw:g<wz.heap.size:=Yj hgs hgz.size;have hbw:=ae gz;have z0:wz.cell? ⟨g,o+6,U⟩=Y3 (J va vl vc):=(cell_kept (aS hgz) hgs hgp).trans (HC.out _ _ c6);have zu:=HU.draw hsz hgz;have zf:wz.frozen? ⟨g,o+6,U⟩=Y8:=zu.nN _);all_goals (
  go_wp2_with fail
  go_end0
  have hc9:(wz.alloc (Y6 #[I t] 9)).cell? ⟨g,o+6,U⟩=Y3 (J va vl vc):=(ai (ak wz _) hgw).trans z0;obtain⟨c2,h9⟩:=(HZ.alloc (Y6 #[I t] 9)).set hBX (u':=J (Y3 ⟨wz.heap.size,0,U⟩) 1 1) hc9 (Zb (Zb (Zb (Zb ⟨⟨_,_,_,rfl⟩,_,_,_,[t],rfl,ay.set hc9 (λ_ e=>by cases e) (ahv wz t hts)⟩)))) hXg hgb hgp;rw[World.setCell_alloc_past _ _ _ _ hgw] at h9
  exact⟨rfl,_,c2,h9⟩)):p:=h
theorem abM(h:p:=by
 go_wp2_with fail;go_region_with (go_at_call 14;refine ((cD HS.src).n 2 ag).mono ?_;rintro e wz ⟨q,rfl,qa,qb,hsz,hgz⟩;have HZ:=aa (HS.Qs.draw hbp hsz hgz);have gz:=gk hgz hbp (show w1.drew.heap[b]?=_ from Bk.out);have y0:=an gz 0;have z0:wz.cell? ⟨g,o+1*7+3,U⟩=Y3 (Y4 Y5 x.s):=(cell_kept (aS hgz) (show g<w1.drew.heap.size from hgl) hgp).trans c3;have zf:wz.frozen? ⟨g,o+1*7+3,U⟩=Y8:=(huf.Qs.draw hsz hgz).nN _);all_goals (
  go_wp2_with fail
  go_end0
  exact⟨rfl,_,HZ.set hBX z0 (Zb (Zb (Zc ⟨⟨_,rfl⟩,_,rfl⟩))) hXg hgb hgp⟩)):p:=h
theorem abL(h:p:=by
 have HS2:=aa (HS.alloc (Y6 #[I ⟨#[]⟩,I ⟨#[100,49]⟩,I ⟨#[118,95,99,50]⟩] 9)).Qs;have hbi:¬w1.heap.size=p:=af
 have Bi:Hid ((w1.alloc (Y6 #[I ⟨#[]⟩,I ⟨#[100,49]⟩,I ⟨#[118,95,99,50]⟩] 9)).heap[w1.heap.size]?=Y3 (Y6 #[I ⟨#[]⟩,I ⟨#[100,49]⟩,I ⟨#[118,95,99,50]⟩] 9 (0,0))):=Yg;have hgs:g<(w1.alloc (Y6 #[I ⟨#[]⟩,I ⟨#[100,49]⟩,I ⟨#[118,95,99,50]⟩] 9)).drew.heap.size:=by show g<(w1.alloc (Y6 #[I ⟨#[]⟩,I ⟨#[100,49]⟩,I ⟨#[118,95,99,50]⟩] 9)).heap.size;simp;omega
 have HC:Hid (∀i u,w1.cell? ⟨g,i,U⟩=Y3 u->(w1.alloc (Y6 #[I ⟨#[]⟩,I ⟨#[100,49]⟩,I ⟨#[118,95,99,50]⟩] 9)).drew.cell? ⟨g,i,U⟩=Y3 u):=λi u h=>(ai (ak w1 _) hgl).trans h;have HU:Hid (UF (w1.alloc (Y6 #[I ⟨#[]⟩,I ⟨#[100,49]⟩,I ⟨#[118,95,99,50]⟩] 9)).drew g):=(huf.below (ak w1 _)).Qs;go_wp2_with fail;go_region_with (go_at_call 15;refine (eO HS2.src w1.heap.size 3 [⟨#[]⟩,⟨#[100,49]⟩,⟨#[118,95,99,50]⟩] _ (show (w1.alloc (Y6 #[I ⟨#[]⟩,I ⟨#[100,49]⟩,I ⟨#[118,95,99,50]⟩] 9)).drew.heap[w1.heap.size]?=_ from Bi.out) hbi rfl ag ag ag).mono ?_;rintro e wz ⟨t,rfl,hts,hsz,hgz⟩;have HZ:=aa (HS2.draw hbp hsz hgz);have gz:=HZ.blk;have y3:=an gz 3;have z0:wz.cell? ⟨g,o+4,U⟩=Y3 (I x.v):=(cell_kept (aS hgz) hgs hgp).trans (HC.out _ _ c4);have zu:=HU.draw hsz hgz;have zf:wz.frozen? ⟨g,o+4,U⟩=Y8:=zu.nN _);all_goals (
  go_wp2_with fail
  go_end0
  exact⟨rfl,_,HZ.set hBX z0 (Zb (Zc ⟨⟨_,rfl⟩,t,rfl,by omega⟩)) hXg hgb hgp⟩)):p:=h
theorem abK(h:p:=by
 have HS2:=aa (HS.alloc (Y6 #[I ⟨#[110,49]⟩,I ⟨#[110,51]⟩] 9)).Qs;have hbi:¬w1.heap.size=p:=af
 have Bi:Hid ((w1.alloc (Y6 #[I ⟨#[110,49]⟩,I ⟨#[110,51]⟩] 9)).heap[w1.heap.size]?=Y3 (Y6 #[I ⟨#[110,49]⟩,I ⟨#[110,51]⟩] 9 (0,0))):=Yg;have hgs:g<(w1.alloc (Y6 #[I ⟨#[110,49]⟩,I ⟨#[110,51]⟩] 9)).drew.heap.size:=by show g<(w1.alloc (Y6 #[I ⟨#[110,49]⟩,I ⟨#[110,51]⟩] 9)).heap.size;simp;omega
 have HC:Hid (∀i u,w1.cell? ⟨g,i,U⟩=Y3 u->(w1.alloc (Y6 #[I ⟨#[110,49]⟩,I ⟨#[110,51]⟩] 9)).drew.cell? ⟨g,i,U⟩=Y3 u):=λi u h=>(ai (ak w1 _) hgl).trans h;have HU:Hid (UF (w1.alloc (Y6 #[I ⟨#[110,49]⟩,I ⟨#[110,51]⟩] 9)).drew g):=(huf.below (ak w1 _)).Qs;go_wp2_with fail;go_region_with (go_at_call 15;refine (eO HS2.src w1.heap.size 2 [⟨#[110,49]⟩,⟨#[110,51]⟩] _ (show (w1.alloc (Y6 #[I ⟨#[110,49]⟩,I ⟨#[110,51]⟩] 9)).drew.heap[w1.heap.size]?=_ from Bi.out) hbi rfl ag ag ag).mono ?_;rintro e wz ⟨t,rfl,hts,hsz,hgz⟩;have HZ:=aa (HS2.draw hbp hsz hgz);have gz:=HZ.blk;have y4:=an gz 4;have z0:wz.cell? ⟨g,o+4,U⟩=Y3 (I x.d):=(cell_kept (aS hgz) hgs hgp).trans (HC.out _ _ c4);have zu:=HU.draw hsz hgz;have zf:wz.frozen? ⟨g,o+4,U⟩=Y8:=zu.nN _);all_goals (
  have hc9:(wz.setCell ⟨g,o+4,U⟩ (I t)).cell? ⟨g,o+5,U⟩=Y3 (Y4 Y5 x.p):=(gf af).trans ((cell_kept (aS hgz) hgs hgp).trans (HC.out _ _ c5));have hu9:UF (wz.setCell ⟨g,o+4,U⟩ (I t)) g:=zu.set;obtain⟨c2,h9⟩:=HZ.set hBX z0 (Zb (Zc ⟨⟨_,rfl⟩,t,rfl,by omega⟩)) hXg hgb hgp;clear k0 k1 k2 k3 k4 k5 ltk c0 c1 cz c3 c4 c5 z0 zf zu y4 gz HC HU hgs HZ HS2 HS Bi hsz hgz;go_wp2_with fail
  generalize wz.setCell ⟨g,o+4,U⟩ (I t)=W3 at hc9 hu9 h9 ⊢
  replace Bk:=aa h9.blk
  have hgw:g<W3.heap.size:=by
   obtain⟨cs,T,h⟩:=hu9;exact ae h
  obtain⟨k0,k1,k2,k3,k4,k5⟩:=cs6 Bk;have ltk:=ae Bk.out
  go_region_with (go_at_call 14;refine ((cD h9.src).n 2 ag).mono ?_;rintro e wy ⟨q,rfl,qa,qb,hsy,hgy⟩;have HY:=aa (h9.Qs.draw hbp hsy hgy);have gy:=HY.blk;have y4:=an gy 4;have z0:wy.cell? ⟨g,o+5,U⟩=Y3 (Y4 Y5 x.p):=(cell_kept (aS hgy) (show g<W3.drew.heap.size from hgw) hgp).trans hc9;have zf:wy.frozen? ⟨g,o+5,U⟩=Y8:=(hu9.Qs.draw hsy hgy).nN _)
  all_goals (
   go_wp2_with fail
   go_end0
   exact⟨rfl,_,HY.set hBX z0 (Zb (Zb (Zc ⟨⟨_,rfl⟩,_,rfl⟩))) hXg hgb hgp⟩))):p:=h
theorem abJ(h:p:=by
 have hg9:=λu=>bL w1 b 1 u;obtain⟨y,ys,hys⟩:∃y ys,c.ks=y ::ys:=by
  cases hq:c.ks with
  | nil=>have:=HK.out;rw[hq] at this;simp at this
  | cons y ys=>exact⟨y,ys,rfl⟩
 have hrk:aT w1 a2 l2 y2 4 (kdF y ::ys.map kdF):=by have h:=HS.row.k;rw[show c.raw.k=c.ks.map kdF from rfl,hys] at h;exact h
 have hcp:=hrk.2.1;have h1l:1<=l2:=by have:=HK.out;omega
 have fin:∀(a:Option Addr) (cp:Nat),aT w1 a (l2 - 1) cp 4 (ys.map kdF)->LoA X w1 a (l2 - 1)->∃d' c',il B w0 p v len X b c w (w1.setCell ⟨b,1,U⟩ (J a (l2 - 1) cp)) d' c':=λa cp hr hl=>by
  have hp9:=HS.row.bP (c:=c) (cP Bk.out) (aS (hg9 (J a (l2 - 1) cp)));have hlo:=HS.low.to (B':=X) (w':=w1.setCell ⟨b,1,U⟩ (J a (l2 - 1) cp)) (Ye _) (λ_ q=>q.set);refine⟨⟨a1,l1,y1,a,l2 - 1,cp,a3,l3,y3,a4,l4,y4,a5,l5,y5⟩,⟨c.ns,ys,c.vs,c.xs,c.ps,c.now⟩,?_,⟨hp9.n,hr.bP (cE (λx=>⟨x.n,rfl⟩) ys) (cP Bk.out) (aS (hg9 _)),hp9.v,hp9.x,hp9.p⟩,⟨hlo.n,hl.to (Ye _) (λ_ q=>q.set),hlo.v,hlo.x,hlo.p⟩,HS.src.az (hg9 _) (λe=>hbp (Yd e)) (λk e=>by have:=Yd e;omega),HS.kept.set (Zb hXb),rfl⟩;rw[au (i:=1) Bk.out];rfl
 have fk1:=al Bk.out 1;by_cases hy:y2=1
 ·subst hy;have hl21:l2=1:=af
  have hl20:((1:Nat):Int)<=(l2:Int):=af
  go_wp2_with fail;go_end0;have hy0:ys=[]:=by have:=hrk.1;simp at this;exact List.length_eq_zero_iff.1 af
  have h20:l2 - 1=0:=af
  rw[h20] at fin;exact⟨rfl,fin a2 0 (by rw[hy0];exact aT.nil _ _ _ ag) (Zc rfl)⟩
 ·go_wp2_with fail;go_end0;exact⟨rfl,fin _ _ (hrk.tail af) (HS.low.k.tail 4)⟩):p:=h
theorem abI(h:p:=by
 go_wp2_with fail;go_end0;exact⟨rfl,_,_,HS.out⟩):p:=h
theorem ey(h:p:=by
 obtain⟨k0,k1,k2,k3,k4,k5⟩:=cs6 Bk;have ltk:=ae Bk.out;exact z357z):p:=h
theorem abq(h:p:=by
 have hne2:¬w2.heap.size=w.heap.size:=by have:=HE.lt;omega
 go_wp2_with fail;go_region_with (go_at_call 15;refine (eO HEA.src wr.heap.size 3 [⟨#[112,49]⟩,⟨#[112,50]⟩,⟨#[112,57]⟩] _ HBI.out af rfl ag ag ag).mono ?_;rintro e wz ⟨tz,rfl,htz,hsz,hgz⟩;have HZ:=aa (HEA.draw hsz hgz);have bz:=HZ.blk;have rz:=HZ.res;obtain⟨z0,z1,z2,z3,z4,z5⟩:=cs6 bz;have ltz:=ae bz;obtain⟨y0_,y1_,y2_,y3_,y4_,y5_⟩:=cs6 rz;have ltzr:=ae rz;have h0_:=al rz 0;have h1_:=al rz 1;have h2_:=al rz 2;have h3_:=al rz 3;have h4_:=al rz 4;have h5_:=al rz 5);all_goals (
  have hf:=HZ.fin rfl HWA.1 HWA.2;have HF:=aa hf;clear hf;go_wp2_with fail
  exact bodyPost_ret (v:=Ze #[Za #[J a1 l1 y1,J a2 l2 y2,J a3 l3 y3,J a4 l4 y4,J a5 l5 y5,Y4 Y5 c.now],I tz]) (by simp[results,Tryz.results4,go_sem, *]) rfl ⟨⟨a1,l1,y1,a2,l2,y2,a3,l3,y3,a4,l4,y4,a5,l5,y5⟩,c,tz,rfl,HF.1,by omega,HF.2⟩)):p:=h
theorem abp(h:p:=by
 have hne:¬b9=w.heap.size:=λe=>by subst e;exact cP (d:=ad0) HRS.out _ _ c9
 have hne2:¬w2.heap.size=w.heap.size:=by have:=HE.lt;omega
 go_wp2_with fail;go_region;all_goals (
  have hf:=HE.fin rfl HWA.1 HWA.2;have HF:=aa (Yb (hf.1.below (aU _)) (hf.2.trans ((aU _).mono hf.2.size)));clear hf;go_wp2_with fail
  exact bodyPost_ret (v:=Ze #[Za #[J e1 m1 n1,J e2 m2 n2,J e3 m3 n3,J e4 m4 n4,J (Y3 ⟨b9,o9,U⟩) m5 n5,Y4 Y5 c5.now],I x9.n]) (by simp[results,Tryz.results4,go_sem, *]) rfl ⟨⟨e1,m1,n1,e2,m2,n2,e3,m3,n3,e4,m4,n4,Y3 ⟨b9,o9,U⟩,m5,n5⟩,c5,x9.n,rfl,HF.1,HZ9.out,HF.2⟩)):p:=h
theorem za(h:p:=by
 obtain⟨s0,s1,s2,s3,s4,s5⟩:=cs6 HRS;have lts:=ae HRS.out;have g0_:=al HRS.out 0;have g1_:=al HRS.out 1;have g2_:=al HRS.out 2;have g3_:=al HRS.out 3;have g4_:=al HRS.out 4;have g5_:=al HRS.out 5;exact z390z):p:=h
theorem aa9(h:p:=by
 rw[show vX c n=[] from HMN.out];rfl):p:=h
theorem aa8(h:p:=by
 rw[show vX c n=(ky c n.n c.vs) from HMN.out];rfl):p:=h
theorem yV(h:p:=by
 show _=(c.ns.set (pl Nd.n c.ns t) (eX c n)).map ndF;rw[(a_ HT.2.1.1.2.2 HNJ.out HOK.2.2.2).1,List.map_set];show _=(c.ns.map ndF).set j (ndF (eX c n));unfold eX;exact z418z):p:=h
theorem aaY(h:p:=by
 unfold aj3 at h3;rw[YE] at h3;obtain⟨j,p,hp,hd,k,hk⟩:=dS.1 h3.2;have hz:=(hT.2.1.2.2.2.2.2.1 j p hp).2.2.2.1.2;have hne:¬v.m=⟨#[]⟩:=aO.ne (hz k v.m hk).1;obtain⟨i',j',x',v',k1,k2,k3,k4,k5,k6,_⟩:=(hT.2.2.1.1 jv v hj).2.resolve_left hne;refine⟨⟨v.n,p.d⟩,List.mem_filter.2 ⟨(hm _).2 ⟨j,p,(Yc.1 hp).1,hp,by rw[hd];exact ht,k,v.m,v,hk,⟨i',jv,x',k1,k2,hj,k5.symm⟩,rfl⟩,?_⟩,rfl⟩;exact (vW (q:=⟨v.n,p.d⟩) hv hj rfl hd).2 (eA.1 h3.1)):p:=h
theorem yQ(h:p:=by
 rw[<-hps] at hP;obtain⟨HG,HB7⟩:=akF;clear g1 g2 g3 g4 hP hK nb HF1 HF6 Bo6 Br6 HB6;obtain⟨o0,o1,o2,o3,o4,o5⟩:=cs6 Bo7;obtain⟨r0,r1,r2,r3,r4,r5,r6,r7⟩:=cs8 Br7;have fr0:=al Br7.out 0;have fr1:=al Br7.out 1;have fr2:=al Br7.out 2;have fr3:=al Br7.out 3;have fr4:=al Br7.out 4;have fr5:=al Br7.out 5;have fr6:=al Br7.out 6;have fr7:=al Br7.out 7;have hol:=ae Bo7.out;have hrl:=ae Br7.out;obtain⟨hne5,hne6⟩:=zT;go_wp2;have hlo:=HLO.out;refine bodyPost_ret (v:=Za #[J (Y3 ⟨g,0,U⟩) m1 n1,J x2 m2 n2,J x3 m3 n3,J x4 m4 n4,J x5 m5 n5,Y4 Y5 c.now,I ⟨#[]⟩,Y4 Y5 0]) MZ rfl ⟨⟨Y3 ⟨g,0,U⟩,m1,n1,x2,m2,n2,x3,m3,n3,x4,m4,n4,x5,m5,n5⟩,⟨iw c t n f,⟨#[]⟩,0⟩,rfl,HV.out,?_,sb1 (sb1 (sb1 (sb1 (sb1 (sb1 (sb1 (sb1 (HB7.out))))))))⟩;have hk4:∀k,k<w7.heap.size->w1.heap.size<=k/\¬k=w3.heap.size->((((((((w7.setCell ⟨w.heap.size+1,0,U⟩ (J (Y3 ⟨g,0,U⟩) m1 n1)).setCell ⟨w.heap.size+1,1,U⟩ (J x2 m2 n2)).setCell ⟨w.heap.size+1,2,U⟩ (J x3 m3 n3)).setCell ⟨w.heap.size+1,3,U⟩ (J x4 m4 n4)).setCell ⟨w.heap.size+1,4,U⟩ (J x5 m5 n5)).setCell ⟨w.heap.size+1,5,U⟩ (Y4 Y5 c.now)).setCell ⟨w.heap.size+1,6,U⟩ (I ⟨#[]⟩)).setCell ⟨w.heap.size+1,7,U⟩ (Y4 Y5 0)).heap[k]?=w7.heap[k]?:=λk _ h1=>by rw[Ya _ _ _ _ (show k≠w.heap.size+1 by omega),Ya _ _ _ _ (show k≠w.heap.size+1 by omega),Ya _ _ _ _ (show k≠w.heap.size+1 by omega),Ya _ _ _ _ (show k≠w.heap.size+1 by omega),Ya _ _ _ _ (show k≠w.heap.size+1 by omega),Ya _ _ _ _ (show k≠w.heap.size+1 by omega),Ya _ _ _ _ (show k≠w.heap.size+1 by omega),Ya _ _ _ _ (show k≠w.heap.size+1 by omega)]
 exact z441z):p:=h
theorem aaC(h:p:=by
 have HB:=aa (Yh w.heap.size w);go_enter Tryz.func67,Tryz.ntmps67;have z798z:=@aa _ @TU;exact je):p:=h
theorem aaB(h:p:=by
 have HB:=aa (Yh w.heap.size w);go_enter Tryz.func7,Tryz.ntmps7;have z798z:=@aa _ @TS;exact je):p:=h
theorem aaA(h:p:=by
 have HT:=aa hT;have HNE:=aa ht;have HB:=aa (Yh w.heap.size w);have z1366z:=@aa _ @Hz;exact mC):p:=h
theorem X4(h:p:=by
 have ltr_10:=ae Br.out;have z1524z:=@aa _ @agH;exact mu):p:=h
theorem X0(h:p:=by
 have ltr_4:=ae Br.out;have z1050z:=@aa _ @Mh;exact mO):p:=h
theorem Xv(h:p:=by
 go_wp2;exact bodyPost_ret (v:=Za #[J U 0 0,J U 0 0,J U 0 0,J U 0 0,J U 0 0,Y4 Y5 0,I ⟨#[]⟩,Y4 Y5 6]) om rfl ⟨ad0,co0 6,rfl,HV.out,(rl0 _ _),sb1 (sb1 (sb1 (sb1 (sb1 (sb1 (sb1 (sb1 (HB.out))))))))⟩):p:=h
theorem Xu(h:p:=by
 go_wp2;exact bodyPost_ret (v:=Za #[J U 0 0,J U 0 0,J U 0 0,J U 0 0,J U 0 0,Y4 Y5 0,I ⟨#[]⟩,Y4 Y5 7]) om rfl ⟨ad0,co0 7,rfl,HV.out,(rl0 _ _),sb1 (sb1 (sb1 (sb1 (sb1 (sb1 (sb1 (sb1 (HB.out))))))))⟩):p:=h
theorem Xt(h:p:=by
 go_wp2;exact bodyPost_ret (v:=Za #[J U 0 0,J U 0 0,J U 0 0,J U 0 0,J U 0 0,Y4 Y5 0,I ⟨#[]⟩,Y4 Y5 6]) tB rfl ⟨ad0,co0 6,rfl,HV.out,(rl0 _ _),sb1 (sb1 (sb1 (sb1 (sb1 (sb1 (sb1 (sb1 (HB.out))))))))⟩):p:=h
theorem Xs(h:p:=by
 go_wp2;exact bodyPost_ret (v:=Za #[J U 0 0,J U 0 0,J U 0 0,J U 0 0,J U 0 0,Y4 Y5 0,I ⟨#[]⟩,Y4 Y5 10]) tB rfl ⟨ad0,co0 10,rfl,HV.out,(rl0 _ _),sb1 (sb1 (sb1 (sb1 (sb1 (sb1 (sb1 (sb1 (HB.out))))))))⟩):p:=h
theorem Uh(h:p:=by
 by_cases hlt:k<3
 ·obtain⟨a1,l1,y1,a2,l2,y2,a3,l3,y3,a4,l4,y4,a5,l5,y5⟩:=d;have hl1:c.ns.length=l1:=af9
  obtain rfl:3=l1:=HS.ns.symm.trans hl1;obtain⟨b,o,x,rfl,hb,hx,hat⟩:=dn (HS.row.n) hlt;obtain⟨va,vl,vc,-,-,-,c0,c1,c2,c3,c4,c5,c6⟩:=aZ hat;clear hat hx c1 c2 c3 c4 c5 c6;have HRW:Hid ((wr.alloc (Y6 #[J U 0 0,J U 0 0,J U 0 0,J U 0 0,J U 0 0,Y4 Y5 0,I ⟨#[]⟩,Y4 Y5 0] 33)).drew.heap[wr.heap.size]?=Y3 (Y6 #[J U 0 0,J U 0 0,J U 0 0,J U 0 0,J U 0 0,Y4 Y5 0,I ⟨#[]⟩,Y4 Y5 0] 33 (0,0))):=Yg;go_wp2_with fail;go_cut [5] from 13 to 20 (λs wx=>YS B w0 p v len w w1.heap.size ⟨Y3 ⟨b,o,U⟩,3,y1,a2,l2,y2,a3,l3,y3,a4,l4,y4,a5,l5,y5⟩ c s wx);case first=>
   go_region_with (go_at_call 31;first
    | (refine (HAG.out _ c _ wr.drew (HS.row.below (aU _))).mono ?_;rintro e w9 ⟨g,o,rfl,⟨hgd,hnm⟩,ho,hb⟩)
    | (refine (HAG.out _ c _ (wr.alloc (Y6 #[J U 0 0,J U 0 0,J U 0 0,J U 0 0,J U 0 0,Y4 Y5 0,I ⟨#[]⟩,Y4 Y5 0] 33)).drew (HS.row.below ((ak _ _).trans ((aU _).mono aF)))).mono ?_;rintro e w9 ⟨g,o,rfl,⟨hgd,hnm⟩,ho,hb⟩;have hr9:=(hb.block _ (ae HRW.out)).trans HRW.out;obtain⟨r0,r1,r2,r3,r4,r5,r6,r7⟩:=cs8 hr9;have hrl:=ae hr9;have fr0:=al hr9 0;have fr1:=al hr9 1;have fr2:=al hr9 2;have fr3:=al hr9 3;have fr4:=al hr9 4;have fr5:=al hr9 5;have fr6:=al hr9 6;have fr7:=al hr9 7))
   all_goals (
    go_wp2_with fail
    go_meet
    first
     | (rw[eight hr9]
       exact ahp HS.out (((ak _ _).trans ((aU _).mono aF)).trans (hb.mono (show wr.heap.size<=(wr.alloc _).heap.size by simp))) hr9 ho (Yl HS.dr.size (show wr.heap.size<=(wr.alloc _).heap.size by simp)) hnm hgd)
     | exact ahq HS.out ((aU _).trans (hb.mono (Ye _))) ho HS.dr.size hgd)
  case rest=>
   obtain⟨r,g,q,rfl,hcs,hy,hgr,hgl,hgd,hrb,hrp⟩:=hcut;generalize (⟨Y3 ⟨b,o,U⟩,3,y1,a2,l2,y2,a3,l3,y3,a4,l4,y4,a5,l5,y5⟩:Ad)=d9 at hcs;clear k0 k1 k2 k3 k4 k5 ltk c0 Bc HS HRW hb;have HS:=aa hcs;have HY:=aa hy;have HGR:=aa hgr;have HGL:=aa hgl;have HGD:=aa hgd;clear hcs hy hgr hgl hgd;obtain⟨r0,r1,r2,r3,r4,r5,r6,r7⟩:=cs8 HY;have hrl:=ae HY.out;by_cases hp:q.p=0
   ·have hp1:(q.p==0)=Y_:=eN
    go_wp2_with fail;refine (cU HS.dr.src 4 ag).mono ?_;rintro e w4 ⟨he,hs,hg⟩;obtain⟨bb,rfl⟩:=eC he;replace HGR:=aa (HGR.bP (bT HS.dr.src) (aS hg));replace HGL:=aa (HGL.to (Ye _) (λ_ u=>u.draw hs hg));replace HS:=aa (HS.draw hs hg);replace HY:=aa (gk hg hrp HY.out);clear he hs hg r0 r1 r2 r3 r4 r5 r6 r7 hrl;obtain⟨r0,r1,r2,r3,r4,r5,r6,r7⟩:=cs8 HY;have hrl:=ae HY.out;have Bc:=aa HS.blk;obtain⟨k0,k1,k2,k3,k4,k5⟩:=cs6 Bc;obtain⟨ltk,f0,f1,f2,f3,f4,f5⟩:=zQ;have hgd:=HGD.out hp;have hn3:=hgd.1.trans HS.ns;have hk2:=hgd.2.trans HS.ks;have HN3:=aa hn3;have HK2:=aa hk2;clear hgd hn3 hk2;cases bb
    ·go_wp2;exact⟨⟨k+1,by omega,by go_num,g,q.c,HS.put HGR.out HGL.out HN3.out HK2.out⟩,by simp[intOf];omega⟩
    ·go_wp2;exact⟨⟨k+1,by omega,by go_num,d9,c,HS.out⟩,by simp[intOf];omega⟩
   ·have hp1:(q.p==0)=Y8:=eN
    go_wp2;exact⟨⟨k+1,by omega,by go_num,d9,c,HS.out⟩,by simp[intOf];omega⟩
 ·obtain rfl:3=k:=af
  obtain⟨_,_,_,_,_,kq,mq,sz,hkq,hm0,hm1,hs0,hs1,hblk⟩:=HS.dr.src;have q3:=an hblk 3;clear hblk hkq hm0 hm1;have hpl:=HS.dr.src.nJ;go_wp2_with fail;refine (HS.dr.src.n (14+sz) af).mono ?_;rintro e w4 ⟨r,rfl,ra,rb,hs,hg⟩;have HX:Hid (∃d c,CS B w0 p v len w w4 w1.heap.size d c):=⟨d,c,HS.draw hs hg⟩;clear hs hg HS q3 k0 k1 k2 k3 k4 k5 ltk Bc hpl;go_wp2;go_loopw [6] (λi wr=> ∃m:Int,0<=m/\m<=29/\i=Y4 Y5 m/\Hid (∃d c,CS B w0 p v len w wr w1.heap.size d c)) (λi _=>(intOf i).toNat);case atStart=>exact⟨4+r,by omega,by omega,by go_num,HX⟩
  case round=>
   clear HX;obtain⟨m,hm0,hm1,rfl,HX⟩:=hrel;obtain⟨d,c,hs⟩:=HX.out;have HS:=aa hs;clear HX hs;have Bc:=aa HS.blk;have z771z:=@aa _ @Ug;exact e_):p:=h
theorem Ug(h:p:=by
 by_cases hlt:0<m
 ·go_wp2_with fail;refine (HDS.out B w0 p v len wr HS.dr.src d c HS.row).mono ?_;rintro e w9 ⟨g,q,rfl,hgd,hgr,hgl,hd9⟩;have HGR:=aa hgr;have HGL:=aa (hgl.to HS.dr.size (λ_ u=>u));have HGD:=aa hgd;replace HS:=aa (HS.draw hd9.src hd9.gr);replace Bc:=aa HS.blk;clear hgr hgl hgd hd9 k0 k1 k2 k3 k4 k5 ltk;obtain⟨k0,k1,k2,k3,k4,k5⟩:=cs6 Bc;obtain⟨ltk,f0,f1,f2,f3,f4,f5⟩:=zQ;by_cases hp:q.p=0
  ·have hp1:(q.p==0)=Y_:=eN
   have HN3:=aa ((HGD.out hp).1.trans HS.ns);have HK2:=aa ((HGD.out hp).2.trans HS.ks);go_wp2;exact⟨⟨m - 1,by omega,by omega,by go_num,g,q.c,(HS.put HGR.out HGL.out HN3.out HK2.out).below (ak _ _)⟩,by simp[intOf];omega⟩
  ·have hp1:(q.p==0)=Y8:=eN
   go_wp2;exact⟨⟨m - 1,by omega,by omega,by go_num,d,c,HS.below (ak _ _)⟩,by simp[intOf];omega⟩
 ·obtain rfl:m=0:=af
  go_wp2_with fail;refine (cU HS.dr.src 15 ag).mono ?_;rintro e w5 ⟨he,hs,hg⟩;obtain⟨bb,rfl⟩:=eC he;replace HS:=aa (HS.draw hs hg);clear he hs hg k0 k1 k2 k3 k4 k5 ltk Bc;cases bb
  ·have Bc:=aa HS.blk;have HRS:=aa HS.res;have z341z:=@aa _ @ab1;exact zm
  ·have Bc:=aa HS.blk;have z771z:=@aa _ @Uf;exact e_):p:=h
theorem Uf(h:p:=by
 go_wp2_with fail;refine (wQ HS.dr.src (w.heap.size+1) w1.heap.size d c HS.row (HS.low.up HS.row (cP (d:=ad0) HS.res)) HS.blk HS.bp (by have:=HS.dr.src.1;have:=HS.dr.lt;omega) HS.lt (by have:=HS.ns;omega) (by have:=HS.ks;omega)).mono ?_;rintro e w6 ⟨rfl,d6,c6,hsp⟩;have HSP:=aa hsp;have HRS:=aa ((hsp.kept.block _ (ae HS.res) (by have:=HS.dr.lt;omega)).trans HS.res);clear hsp k0 k1 k2 k3 k4 k5 ltk Bc;have Bc:=aa HSP.blk;have z341z:=@aa _ @ab0;exact zm):p:=h
theorem Ue(h:p:=by
 by_cases hlt:k<l5
 ·obtain⟨b,o,x,rfl,hb,hx,hat⟩:=cq (HE.row.p) hlt;obtain⟨va,vl,vc,-,-,-,-,c0,c1,c2,c3,c4,c5⟩:=bD hat;clear hat c0 c1 c2 c3 c5;by_cases hxd:x.d=⟨#[]⟩
  ·have hxe:=cN hxd;go_wp2_with fail;exact⟨⟨k+1,by omega,by go_num,HE.out⟩,by simp[intOf];omega⟩
  have hxe:=aX hxd;go_wp2_with fail;refine (cU HE.src 3 ag).mono ?_;rintro e w4 ⟨he,hs,hg⟩;obtain⟨bb,rfl⟩:=eC he;have hc4:=(cell_kept (aS hg) hb (λe=>by subst e;exact bT HE.src _ _ c4)).trans c4;have hb4:=Yj hb hg.size;replace HE:=aa (HE.draw hs hg);clear he hs hg k0 k1 k2 k3 k4 k5 ltk Bc c4 hb;have Bc:=aa HE.blk;have z771z:=@aa _ @Ud;exact e_
 ·obtain rfl:l5=k:=af
  have hplr:=HE.src.nJ;have HEA:=aa ((HE.below (ak wr (Y6 #[I ⟨#[112,49]⟩,I ⟨#[112,50]⟩,I ⟨#[112,57]⟩] 9))).below (aU _));have HBI:Hid ((wr.alloc (Y6 #[I ⟨#[112,49]⟩,I ⟨#[112,50]⟩,I ⟨#[112,57]⟩] 9)).drew.heap[wr.heap.size]?=Y3 (Y6 #[I ⟨#[112,49]⟩,I ⟨#[112,50]⟩,I ⟨#[112,57]⟩] 9 (0,0))):=Yg;have HRS:=aa HE.res;have z390z:=@aa _ @abq;exact za):p:=h
theorem Ud(h:p:=by
 cases bb;case true=>
  go_wp2_with fail;exact⟨⟨k+1,by omega,by go_num,HE.out⟩,by simp[intOf];omega⟩
 have HRW:Hid ((w4.alloc (Y6 #[J U 0 0,J U 0 0,J U 0 0,J U 0 0,J U 0 0,Y4 Y5 0,I ⟨#[]⟩,Y4 Y5 0] 33)).drew.heap[w4.heap.size]?=Y3 (Y6 #[J U 0 0,J U 0 0,J U 0 0,J U 0 0,J U 0 0,Y4 Y5 0,I ⟨#[]⟩,Y4 Y5 0] 33 (0,0))):=Yg;go_wp2_with fail;go_cut [7] from 31 to 38 (λs wx=>EY WA.heap.size WA p v len w.heap.size w2.heap.size ⟨a1,l1,y1,a2,l2,y2,a3,l3,y3,a4,l4,y4,Y3 ⟨b,o,U⟩,l5,y5⟩ c s wx);case first=>
  go_region_with (go_at_call 12;first
   | (refine (HKI.out _ c _ w4.drew (HE.row.below (aU _))).mono ?_;rintro e w9 ⟨g,q,rfl,⟨hgd,hnm⟩,ho,hb⟩;have HE9:=aa (HE.below ((aU _).trans (hb.mono (Ye _)))))
   | (refine (HKI.out _ c _ (w4.alloc (Y6 #[J U 0 0,J U 0 0,J U 0 0,J U 0 0,J U 0 0,Y4 Y5 0,I ⟨#[]⟩,Y4 Y5 0] 33)).drew (HE.row.below ((ak _ _).trans ((aU _).mono aF)))).mono ?_;rintro e w9 ⟨g,q,rfl,⟨hgd,hnm⟩,ho,hb⟩;have HE9:=aa (HE.below (((ak _ _).trans ((aU _).mono aF)).trans (hb.mono (show w4.heap.size<=(w4.alloc _).heap.size by simp))));have hr9:=(hb.block _ (ae HRW.out)).trans HRW.out;obtain⟨r0,r1,r2,r3,r4,r5,r6,r7⟩:=cs8 hr9;have hrl:=ae hr9;have fr0:=al hr9 0;have fr1:=al hr9 1;have fr2:=al hr9 2;have fr3:=al hr9 3;have fr4:=al hr9 4;have fr5:=al hr9 5;have fr6:=al hr9 6;have fr7:=al hr9 7))
  all_goals (
   go_wp2_with fail
   go_meet
   first
    | (rw[eight hr9]
      exact Qm HE9.out ltk (by have:=HE.src.nJ;omega) hr9 ho hnm hgd)
    | exact Qo HE9.out ho hgd)
 case rest=>
  obtain⟨r,g,q,c2,rfl,hcs,hl2,hy,hgr,hgd,hrb,hrp⟩:=hcut;have HE2:=aa hcs;have HY:=aa hy;have HGR:=aa hgr;have HGD:=aa hgd;have HL2:=aa (hl2.trans hl5);clear hcs hy hgr hgd hl2 k0 k1 k2 k3 k4 k5 ltk Bc HE HRW hc4 hb4 hxe;obtain⟨r0,r1,r2,r3,r4,r5,r6,r7⟩:=cs8 HY;have hrl:=ae HY.out;have Bc:=aa HE2.blk;obtain⟨k0,k1,k2,k3,k4,k5⟩:=cs6 Bc;obtain⟨ltk,f0,f1,f2,f3,f4,f5⟩:=zQ;by_cases hp:q.p=0
  ·have hp1:(q.p==0)=Y_:=eN
   go_wp2_with fail;have h3:=HE2.put (g:=g) (c':=q.c) HGR.out;have hl3:q.c.ps.length=l5:=(HGD.out hp).trans hl5;generalize ((((((wc.setCell ⟨w2.heap.size,0,U⟩ (J g.a1 g.l1 g.c1)).setCell ⟨w2.heap.size,1,U⟩ (J g.a2 g.l2 g.c2)).setCell ⟨w2.heap.size,2,U⟩ (J g.a3 g.l3 g.c3)).setCell ⟨w2.heap.size,3,U⟩ (J g.a4 g.l4 g.c4)).setCell ⟨w2.heap.size,4,U⟩ (J g.a5 g.l5 g.c5)).setCell ⟨w2.heap.size,5,U⟩ (Y4 Y5 q.c.now))=W3 at h3 ⊢;have HX:Hid (∃d3 c3,ES WA.heap.size WA p v len w.heap.size W3 w2.heap.size d3 c3/\c3.ps.length=l5):=⟨_,_,h3,hl3⟩;clear h3 hl3 k0 k1 k2 k3 k4 k5 ltk f0 f1 f2 f3 f4 f5 r0 r1 r2 r3 r4 r5 r6 r7 hrl HE2 HY HGR HGD HL2 Bc;exact alc
  ·have hp1:(q.p==0)=Y8:=eN
   go_wp2_with fail;have h3:=HE2.out;have hl3:=HL2.out;clear k0 k1 k2 k3 k4 k5 ltk f0 f1 f2 f3 f4 f5 r0 r1 r2 r3 r4 r5 r6 r7 hrl HE2 HY HGR HGD HL2 Bc;generalize wc=W3 at h3 ⊢;have HX:Hid (∃d3 c3,ES WA.heap.size WA p v len w.heap.size W3 w2.heap.size d3 c3/\c3.ps.length=l5):=⟨_,_,h3,hl3⟩;clear h3 hl3;exact alc):p:=h
theorem Uc(h:p:=by
 have hpl3:=HE.src.nJ;have HRW:Hid ((W3.alloc (Y6 #[J U 0 0,J U 0 0,J U 0 0,J U 0 0,J U 0 0,Y4 Y5 0,I ⟨#[]⟩,Y4 Y5 0] 33)).drew.heap[W3.heap.size]?=Y3 (Y6 #[J U 0 0,J U 0 0,J U 0 0,J U 0 0,J U 0 0,Y4 Y5 0,I ⟨#[]⟩,Y4 Y5 0] 33 (0,0))):=Yg;have HEA:=aa ((HE.below (ak W3 (Y6 #[J U 0 0,J U 0 0,J U 0 0,J U 0 0,J U 0 0,Y4 Y5 0,I ⟨#[]⟩,Y4 Y5 0] 33))).below (aU _));have HEB:=aa (HE.below (aU _));go_cut [8] from 44 to 48 (λs wx=>EY WA.heap.size WA p v len w.heap.size w2.heap.size d3 c3 s wx);case first=>
  go_region_with (first
   | (go_at_call 14;first
    | (refine (HEB.src.n 12 ag).mono ?_;rintro e wn ⟨m,rfl,ma,mb,hs,hg⟩;have HN:=aa (HEB.draw hs hg);have bn:=HN.blk;have kq0:=an bn 0;have kq1:=an bn 1;have kq2:=an bn 2;have kq3:=an bn 3;have kq4:=an bn 4;have kq5:=an bn 5;have ltn:=ae bn;clear bn)
    | (refine (HEA.src.n 12 ag).mono ?_;rintro e wn ⟨m,rfl,ma,mb,hs,hg⟩;have HN:=aa (HEA.draw hs hg);have HRN:=aa (gk hg af HRW.out);have bn:=HN.blk;have kq0:=an bn 0;have kq1:=an bn 1;have kq2:=an bn 2;have kq3:=an bn 3;have kq4:=an bn 4;have kq5:=an bn 5;have ltn:=ae bn;clear bn))
   | (go_at_call 13;first
    | (refine (HTI.out _ c3 _ wn HN.row).mono ?_;rintro e w9 ⟨g9,q9,rfl,⟨hgd9,hnm9⟩,ho9,hb9⟩;have HE9:=aa (HN.below hb9);first
     | (have hr9:=(hb9.block _ (ae HRN.out)).trans HRN.out;obtain⟨r0,r1,r2,r3,r4,r5,r6,r7⟩:=cs8 hr9;have hrl:=ae hr9;have fr0:=al hr9 0;have fr1:=al hr9 1;have fr2:=al hr9 2;have fr3:=al hr9 3;have fr4:=al hr9 4;have fr5:=al hr9 5;have fr6:=al hr9 6;have fr7:=al hr9 7)
     | skip)
    | (have HRM:Hid ((wn.alloc (Y6 #[J U 0 0,J U 0 0,J U 0 0,J U 0 0,J U 0 0,Y4 Y5 0,I ⟨#[]⟩,Y4 Y5 0] 33)).heap[wn.heap.size]?=Y3 (Y6 #[J U 0 0,J U 0 0,J U 0 0,J U 0 0,J U 0 0,Y4 Y5 0,I ⟨#[]⟩,Y4 Y5 0] 33 (0,0))):=Yg;have HNA:=aa (HN.below (ak wn (Y6 #[J U 0 0,J U 0 0,J U 0 0,J U 0 0,J U 0 0,Y4 Y5 0,I ⟨#[]⟩,Y4 Y5 0] 33)));refine (HTI.out _ c3 _ (wn.alloc (Y6 #[J U 0 0,J U 0 0,J U 0 0,J U 0 0,J U 0 0,Y4 Y5 0,I ⟨#[]⟩,Y4 Y5 0] 33)) HNA.row).mono ?_;rintro e w9 ⟨g9,q9,rfl,⟨hgd9,hnm9⟩,ho9,hb9⟩;have HE9:=aa (HNA.below hb9);have hr9:=(hb9.block _ (ae HRM.out)).trans HRM.out;obtain⟨r0,r1,r2,r3,r4,r5,r6,r7⟩:=cs8 hr9;have hrl:=ae hr9;have fr0:=al hr9 0;have fr1:=al hr9 1;have fr2:=al hr9 2;have fr3:=al hr9 3;have fr4:=al hr9 4;have fr5:=al hr9 5;have fr6:=al hr9 6;have fr7:=al hr9 7)))
  all_goals (
   go_wp2_with fail
   go_meet
   first
    | (rw[eight hr9]
      exact Qm HE9.out (by first|exact ltk|exact ltn) (by first|omega|(have:=HN.src.nJ;omega)) hr9 ho9 hnm9 hgd9)
    | exact Qo HE9.out ho9 hgd9)
 case rest=>
  obtain⟨r9,g9,q9,c4,rfl,hcs,hl4,hy,hgr,hgd,hrb9,hrp9⟩:=hcut;have HE4:=aa hcs;have HY9:=aa hy;have HGR9:=aa hgr;have HGD9:=aa hgd;have HL4:=aa (hl4.trans HL3.out);clear hcs hy hgr hgd hl4 k0 k1 k2 k3 k4 k5 ltk Bc HE HRW HEA HEB;obtain⟨r0,r1,r2,r3,r4,r5,r6,r7⟩:=cs8 HY9;have hrl:=ae HY9.out;have Bc:=aa HE4.blk;obtain⟨k0,k1,k2,k3,k4,k5⟩:=cs6 Bc;obtain⟨ltk,f0,f1,f2,f3,f4,f5⟩:=zQ;by_cases hp9:q9.p=0
  ·have hp19:(q9.p==0)=Y_:=by simpa using hp9
   go_wp2_with fail;have h3:=HE4.put (g:=g9) (c':=q9.c) HGR9.out;have hl3:q9.c.ps.length=l5:=(HGD9.out hp9).trans HL3.out;generalize ((((((wc.setCell ⟨w2.heap.size,0,U⟩ (J g9.a1 g9.l1 g9.c1)).setCell ⟨w2.heap.size,1,U⟩ (J g9.a2 g9.l2 g9.c2)).setCell ⟨w2.heap.size,2,U⟩ (J g9.a3 g9.l3 g9.c3)).setCell ⟨w2.heap.size,3,U⟩ (J g9.a4 g9.l4 g9.c4)).setCell ⟨w2.heap.size,4,U⟩ (J g9.a5 g9.l5 g9.c5)).setCell ⟨w2.heap.size,5,U⟩ (Y4 Y5 q9.c.now))=W5 at h3 ⊢;have HX:Hid (∃d5 c5,ES WA.heap.size WA p v len w.heap.size W5 w2.heap.size d5 c5/\c5.ps.length=l5):=⟨_,_,h3,hl3⟩;clear h3 hl3 k0 k1 k2 k3 k4 k5 ltk f0 f1 f2 f3 f4 f5 r0 r1 r2 r3 r4 r5 r6 r7 hrl HE4 HY9 HGR9 HGD9 HL4 Bc;exact OG
  ·have hp19:(q9.p==0)=Y8:=by simpa using hp9
   go_wp2_with fail;have h3:=HE4.out;have hl3:=HL4.out;clear k0 k1 k2 k3 k4 k5 ltk f0 f1 f2 f3 f4 f5 r0 r1 r2 r3 r4 r5 r6 r7 hrl HE4 HY9 HGR9 HGD9 HL4 Bc;generalize wc=W5 at h3 ⊢;have HX:Hid (∃d5 c5,ES WA.heap.size WA p v len w.heap.size W5 w2.heap.size d5 c5/\c5.ps.length=l5):=⟨_,_,h3,hl3⟩;clear h3 hl3;exact OG):p:=h
theorem Ub(h:p:=by
 have z390z:=@aa _ @abp;exact za):p:=h
theorem Ua(h:p:=by
 obtain⟨s0,s1,s2,s3,s4,s5⟩:=cs6 HRS;have lts:=ae HRS.out;have g0:=al HRS.out 0;have g1:=al HRS.out 1;have g2:=al HRS.out 2;have g3:=al HRS.out 3;have g4:=al HRS.out 4;have g5:=al HRS.out 5;exact z341z):p:=h
theorem e_(h:p:=by
 obtain⟨k0,k1,k2,k3,k4,k5⟩:=cs6 Bc;have ltk:=ae Bc.out;exact z771z):p:=h
theorem TU(h:p:=by
 have hp0:(¬p=0/\dB c t (co0 p))\/(p=0/\¬8000<t.size/\av c):=by
  rcases hp with ⟨h1,rfl⟩|⟨h1,h2,rfl⟩|⟨h1,h2,rfl⟩
  ·exact Zc ⟨by decide,Zc ⟨0,by decide,h1,rfl⟩⟩
  ·exact Zc ⟨by decide,Zc ⟨1,by decide,⟨h1,h2⟩,rfl⟩⟩
  ·exact Zb ⟨rfl,h1,h2⟩
 clear hp;rcases hp0 with ⟨hp0,hV⟩|⟨rfl,hl,hT⟩
 ·have z1631z:=@aa _ @DK;exact jq
 have HT:=aa hT;clear hT;obtain⟨k0,k1,k2,k3,k4,k5⟩:=cs6 Bk;have ltk_1:=ae Bk.out;go_wp2_with fail;refine (ft ⟨a1,l1,y1,a2,l2,y2,a3,l3,y3,a4,l4,y4,a5,l5,y5⟩ c.now c.xs t _ (HR.x.below HB.out)).mono ?_;rintro e w2 ⟨hb,hf⟩;clear k0 k1 k2 k3 k4 k5 ltk_1;have z1388z:=@aa _ @GZ;exact bj):p:=h
theorem TS(h:p:=by
 have hp0:(¬p=0/\bg c t (co0 p))\/(p=0/\¬8000<t.size/\av c):=by
  exact zZ
 clear hp;rcases hp0 with ⟨hp0,hV⟩|⟨rfl,hl,hT⟩
 ·have z1631z:=@aa _ @DJ;exact jq
 have HT:=aa hT;clear hT;obtain⟨k0,k1,k2,k3,k4,k5⟩:=cs6 Bk;have ltk_1:=ae Bk.out;go_wp2_with fail;refine (gD ⟨a1,l1,y1,a2,l2,y2,a3,l3,y3,a4,l4,y4,a5,l5,y5⟩ c.now c.ps t _ (HR.p.below HB.out)).mono ?_;rintro e w2 ⟨hb,hf⟩;clear k0 k1 k2 k3 k4 k5 ltk_1;have z1388z:=@aa _ @GY;exact bj):p:=h
theorem Tx(h:p:=by
 have HLO:=aa HB.size;refine (dd ⟨(Y3 ⟨b,o,U⟩),l1,y1,a2,l2,y2,a3,l3,y3,a4,l4,y4,a5,l5,y5⟩ c _ (HR.below (HB.trans ((ak _ _).mono HB.size))) HT.sm).mono ?_;rintro e w3 ⟨d',rfl,ho,hb⟩;clear hd0 hd1 hd2 hd3 hd4 hd5 hd6 hbl;have HQ2:=aa hb.size;rw[db] at HQ2 ho;clear k0 k1 k2 k3 k4 k5 ltk_1;obtain⟨HA0,hbx⟩:=bB hb;replace Bk:=upK Bk hbx;replace Br:=upK Br hbx;have Bn:=aa HA0;replace HB:=upB HB hbx;clear hb hbx HA0;obtain⟨x1,m1,n1,x2,m2,n2,x3,m3,n3,x4,m4,n4,x5,m5,n5⟩:=d';have hm1:m1=l1:=by have h6:(c.ns.map ndF).length=m1:=ho.n.1;rw[Yr] at h6;omega
 subst hm1;have hq1:w.heap.size+1<w1.heap.size:=HQ1.out;have hq2:w1.heap.size+1<=w3.heap.size:=HQ2.out;have inS:∀{a l cp m T rs},aw w3 a l cp m T rs (λk=>w1.heap.size+1<=k)->aw w3 a l cp m T rs (λk=>w1.heap.size<=k/\¬k=w3.heap.size):=λh=>h.bl (λk hk s=>⟨by have s1:w1.heap.size+1<=k:=s;omega,by omega⟩);obtain⟨g,hga,hS⟩:=(inS ho.n).st (aG.refl _ w3) (i:=j) (r:=ndF n) (show (c.ns.map ndF)[j]?=Y3 (ndF n) by rw[Yt,HNJ.out];rfl);have hga':x1=Y3 ⟨g,0,U⟩:=hga;subst hga';have HG0:Hid (w1.heap.size+1<=g):=by
  rcases ho.n.2.2.2 with h9|⟨g9,c9,H9,e9,h9⟩
  ·have h8:(c.ns.map ndF)[j]?=Y3 (ndF n):=by rw[Yt,HNJ.out];rfl
   have h7:c.ns.map ndF=[]:=h9;rw[h7] at h8;cases h8
  ·cases e9;exact h9.inS
 obtain⟨curg,hg1,hg2,hgb⟩:∃curg,w1.heap.size<=g/\g<w3.heap.size/\w3.heap[g]?=Y3 (Y6 curg 38 (0,0)):=by
  obtain⟨⟨cur,H,h1,_⟩,_⟩:=hS;exact⟨cur,h1.inS.1,ae h1.blk,h1.blk⟩
 have HGB:=aa hgb;have HG1:Hid (w1.heap.size+1<=g):=HG0.out;have HST:=aa hS;have HOC:=aa (Yb (inS ho.k) (Yb (inS ho.v) (Yb (inS ho.x) (inS ho.p))));have HNN:Hid (aw w3 (Y3 ⟨g,0,U⟩) m1 n1 7 38 (c.ns.map ndF) (λk=>w1.heap.size<=k/\¬k=w3.heap.size)):=inS ho.n;clear hS ho hga inS hgb;go_wp2_with fail;obtain⟨W,hW0⟩:∃W,W=(w3.alloc (Y6 (clo6 (Y3 ⟨g,0,U⟩) m1 n1 x2 m2 n2 x3 m3 n3 x4 m4 n4 x5 m5 n5 c.now) 29)):=⟨_,rfl⟩;have BkW:=aa ((Ym w3 (Y6 (clo6 (Y3 ⟨g,0,U⟩) m1 n1 x2 m2 n2 x3 m3 n3 x4 m4 n4 x5 m5 n5 c.now) 29) _ (ae Bk.out)).trans Bk.out);have BrW:=aa ((Ym w3 (Y6 (clo6 (Y3 ⟨g,0,U⟩) m1 n1 x2 m2 n2 x3 m3 n3 x4 m4 n4 x5 m5 n5 c.now) 29) _ (ae Br.out)).trans Br.out);have BnW:=aa ((Ym w3 (Y6 (clo6 (Y3 ⟨g,0,U⟩) m1 n1 x2 m2 n2 x3 m3 n3 x4 m4 n4 x5 m5 n5 c.now) 29) _ (ae Bn.out)).trans Bn.out);have BoW:=aa (heap_alloc_new w3 (Y6 (clo6 (Y3 ⟨g,0,U⟩) m1 n1 x2 m2 n2 x3 m3 n3 x4 m4 n4 x5 m5 n5 c.now) 29));have HWW:=aa (ak w3 (Y6 (clo6 (Y3 ⟨g,0,U⟩) m1 n1 x2 m2 n2 x3 m3 n3 x4 m4 n4 x5 m5 n5 c.now) 29));have HBW:=aa (HB.trans ((ak w3 (Y6 (clo6 (Y3 ⟨g,0,U⟩) m1 n1 x2 m2 n2 x3 m3 n3 x4 m4 n4 x5 m5 n5 c.now) 29)).mono HB.size));rw[<-hW0] at BkW BrW BnW BoW HWW HBW ⊢;clear hW0 Bk Br Bn HB;rename_i K0 hK0;refine Gt.bG ba rfl rfl ba ?_;refine' Grow.stepC _ rfl ?_ ?_;rotate_left 1
 ·exact kj
 refine' Grow.stepC _ rfl ?_ ?_;rotate_left 1
 ·have z1566z:=@aa _ @Et;exact mf
 refine' Grow.stepC _ rfl ?_ ?_;rotate_left 1
 ·exact kl
 refine' Grow.stepC _ rfl ?_ ?_;rotate_left 1
 ·exact nf
 refine' Grow.stepC _ rfl ?_ ?_;rotate_left 1
 ·have z1443z:=@aa _ @F8;exact gH
 refine' Grow.stepC (Y4 Y5 (c.now+10)) rfl ?_ ?_
 ·have z1491z:=@aa _ @Fp;exact jx
 refine Grow.step (λv _=>v=Y4 Y5 (da c)) rfl (Fact.cV _) ?_ ?_
 ·have z1447z:=@aa _ @F5;exact gG
 refine' Grow.stepC _ rfl ?_ ?_;rotate_left 1
 ·have z1563z:=@aa _ @Ew;exact mg
 refine' Grow.stepC _ rfl ?_ ?_;rotate_left 1
 ·refine Obl.plain rfl ?_;intro ac wg K hsz hW hf hK;clear hsz;exact vx
 refine Grow.done ?_;intro q wy hW hf;simp only[List.forall_mem_cons] at hf;obtain⟨h38,h37,h36,h35,h34,h33,h32,h31,h30,-⟩:=hf;have HWY:=upB HWW hW;have HBY:=upB HBW hW;have Bk2:=upK BkW hW;have Br2:=upK BrW hW;have Bn2:=upK BnW hW;have Bo2:=upK BoW hW;obtain⟨v9,hcz⟩:=(HST.below HWY.out).cell (i:=4) rfl;have hfz:=(HST.below HWY.out).nN (j*7+4);intro K hK;rw[if_pos (by rfl)];simp only[aJ,YQ,Act.put,Ys,YA,YB,h38,h37,h36,h35,h34,h33,h32,h31,h30];have z1667z:=@aa _ @De;exact jo):p:=h
theorem Tw(h:p:=by
 refine (aK p _).mono ?_;have z41z:=@aa _ @aim;exact ei):p:=h
theorem Tv(h:p:=by
 refine (aK 10 _).mono ?_;rintro e w2 ⟨rfl,hb⟩;clear k0 k1 k2 k3 k4 k5 ltk_1;obtain⟨HA0,hbx⟩:=bB hb;replace Bk:=upK Bk hbx;replace Br:=upK Br hbx;have Bn:=aa HA0;replace HB:=upB HB hbx;clear hb hbx HA0;have z160z:=@aa _ @aeq;exact zD):p:=h
theorem SO(h:p:=by
 obtain⟨n0,yd,von,hne0,HC0⟩:=agu;have HC1:=aa (λq:Wd wr=>xv va vl vc v.zs n.n q.w (HVR.below q.b) Y_ (⟨λ_=>HIN.out,λ_=>rfl⟩));have z1202z:=@aa _ @J4;exact bQ):p:=h
theorem SN(h:p:=by
 have n0:=λq:Wd wr=>q.slot (o:=0) Gn.out rfl;have yd:=λq:Wd wr=>(q.cell hbl).trans hc1;have hne0:=Wd.ne wr;have z1z:=@aa _ @aix;exact bC):p:=h
theorem SM(h:p:=by
 obtain⟨n0,yd,von,hne0,HC0⟩:=agu;have HC1:=aa (λq:Wd wr=>xv va vl vc v.zs n.n q.w (HVR.below q.b) Y8 (⟨λh=>bY,λh=>absurd h HIN.out⟩));have z53z:=@aa _ @aeP;exact aC):p:=h
theorem pf(h:p:=by
 obtain⟨k0,k1,k2,k3,k4,k5⟩:=cs6 Bk;have ltk_40:=ae Bk.out;obtain⟨n0,n1,n2,n3,n4,n5,n6⟩:=cs7 Bn;have ltn_40:=ae Bn.out;go_wp2_with fail;clear k0 k1 k2 k3 k4 k5 ltk_40 n0 n1 n2 n3 n4 n5 n6 ltn_40;have Gk:=Bk;have Gn:=Bn;have HW:=HB;obtain⟨k0,k1,k2,k3,k4,k5⟩:=sl6 Gk;exact z873z):p:=h
theorem RB(h:p:=by
 refine bodyPost_ret (v:=Za #[J x1 m1 n1,J x2 m2 n2,J q3 m3' z3,J x4 m4 n4,J x5 m5 n5,Y4 Y5 c.now,I (aN++x.n),Y4 Y5 0]) om rfl ⟨⟨x1,m1,n1,x2,m2,n2,q3,m3',z3,x4,m4,n4,x5,m5,n5⟩,⟨dR c i x (cR ⟨#[]⟩ k.z),(aN++x.n),0⟩,rfl,HV.out,?_,sb1 (sb1 (sb1 (sb1 (sb1 (sb1 (sb1 (sb1 (HB4.out))))))))⟩;have hk4:∀k,k<w4.heap.size->(λk=>(λk=>q1.w.heap.size<=k/\k<w3.heap.size) k\/(w3.alloc (Y6 (clo6 x1 m1 n1 x2 m2 n2 x3 m3 n3 x4 m4 n4 x5 m5 n5 c.now) 29)).heap.size<=k) k->((((((((w4.setCell ⟨w.heap.size+1,0,U⟩ (J x1 m1 n1)).setCell ⟨w.heap.size+1,1,U⟩ (J x2 m2 n2)).setCell ⟨w.heap.size+1,2,U⟩ (J q3 m3' z3)).setCell ⟨w.heap.size+1,3,U⟩ (J x4 m4 n4)).setCell ⟨w.heap.size+1,4,U⟩ (J x5 m5 n5)).setCell ⟨w.heap.size+1,5,U⟩ (Y4 Y5 c.now)).setCell ⟨w.heap.size+1,6,U⟩ (I (aN++x.n))).setCell ⟨w.heap.size+1,7,U⟩ (Y4 Y5 0)).heap[k]?=w4.heap[k]?:=λk _ h1=>by
  have h0:¬k=w.heap.size+1:=by rcases h1 with ⟨h2,h3⟩|h2;omega;rw[hsv] at h2;omega
  exact z_
 exact Ov):p:=h
theorem RA(h:p:=by
 refine bodyPost_ret (v:=Za #[J x1 m1 n1,J x2 m2 n2,J x3 m3 n3,J x4 m4 n4,J x5 m5 n5,Y4 Y5 c.now,I u.n,Y4 Y5 0]) om rfl ⟨⟨x1,m1,n1,x2,m2,n2,x3,m3,n3,x4,m4,n4,x5,m5,n5⟩,⟨eS c i j9 x u,u.n,0⟩,rfl,HV.out,?_,sb1 (sb1 (sb1 (sb1 (sb1 (sb1 (sb1 (sb1 (HB4.out))))))))⟩;have hk4:∀k,k<w4.heap.size->(λk=>q1.w.heap.size<=k/\k<w3.heap.size) k->((((((((w4.setCell ⟨w.heap.size+1,0,U⟩ (J x1 m1 n1)).setCell ⟨w.heap.size+1,1,U⟩ (J x2 m2 n2)).setCell ⟨w.heap.size+1,2,U⟩ (J x3 m3 n3)).setCell ⟨w.heap.size+1,3,U⟩ (J x4 m4 n4)).setCell ⟨w.heap.size+1,4,U⟩ (J x5 m5 n5)).setCell ⟨w.heap.size+1,5,U⟩ (Y4 Y5 c.now)).setCell ⟨w.heap.size+1,6,U⟩ (I u.n)).setCell ⟨w.heap.size+1,7,U⟩ (Y4 Y5 0)).heap[k]?=w4.heap[k]?:=λk _ h1=>by
  have h0:¬k=w.heap.size+1:=by obtain⟨h2,h3⟩:=h1;omega
  exact z_
 exact Ov):p:=h
theorem xG(h:p:=by
 have z1535z:=@aa _ @ER;exact rS):p:=h
theorem Mh(h:p:=by
 go_wp2;exact bodyPost_ret (v:=Za #[J U 0 0,J U 0 0,J U 0 0,J U 0 0,J U 0 0,Y4 Y5 0,I ⟨#[]⟩,Y4 Y5 11]) tB rfl ⟨ad0,co0 11,rfl,HV.out,(rl0 _ _),sb1 (sb1 (sb1 (sb1 (sb1 (sb1 (sb1 (sb1 (HB.out))))))))⟩):p:=h
theorem L9(h:p:=by
 go_wp2_with fail;go_ret;exact⟨rfl,HB.out⟩):p:=h
theorem KW(h:p:=by
 clear k0 k1 k2 k3 k4 k5 ltk_2;have c2:=HC.1;cases hkx:k.x
 ·have HKX:=aa hkx;rw[hkx] at d1;clear hkx;obtain⟨Gk,Gr,HW⟩:=gN;obtain⟨k0,k1,k2,k3,k4,k5⟩:=sl6 Gk;obtain⟨xk,kx,hne0,HC0⟩:=agr;have z53z:=@aa _ @aeR;exact aC
 have HKX:=aa hkx;rw[hkx] at d1;clear hkx;obtain⟨Gk,Gr,HW⟩:=gN;obtain⟨k0,k1,k2,k3,k4,k5⟩:=sl6 Gk;obtain⟨xk,kx,hne0,HC0⟩:=agr;go_wp2_with fail;refine bV ba ba ?_;have z1639z:=@aa _ @DF;exact ru):p:=h
theorem KU(h:p:=by
 have z1485z:=@aa _ @Fw;exact gF):p:=h
theorem KT(h:p:=by
 refine (aK 7 _).mono ?_;rintro e w3 ⟨rfl,hb⟩;clear k0 k1 k2 k3 k4 k5 ltk_2;replace Bk:=upK Bk hb;have z138z:=@aa _ @aey;exact cL):p:=h
theorem KR(h:p:=by
 clear k0 k1 k2 k3 k4 k5 ltk_2;by_cases hg:n.d=Y_/\n.u+5<c.now;rotate_left
 ·have HG:Hid ((n.d && decide (n.u+5<c.now))=Y8):=by
   show (n.d && decide (n.u+5<c.now))=Y8;cases hd:n.d
   ·rfl
   ·simp only[Bool.true_and,decide_eq_false_iff_not];exact λh=>hg ⟨hd,h⟩
  have HV:Hid (bg c t (co0 11)):=Zc ⟨7,⟨hl,HT.out,x,HXX.1,HXX.2,hp,λh=>(by
   obtain⟨m,h1,_,h3,h4⟩:=h;rw[HPN.out,HNJ.out] at h1;obtain rfl:=Yd h1
   exact hg ⟨h3,h4⟩)⟩,rfl⟩
  obtain⟨Gk,Gr,HW⟩:=gN;obtain⟨k0,k1,k2,k3,k4,k5⟩:=sl6 Gk;obtain⟨pd4,e0,e1,e2,e3,e4,e5,e6,hne0,HC0⟩:=agx;have HC1:=aa (λq:Wd w2=>qR ⟨(Y3 ⟨bn,on,U⟩),l1,y1,a2,l2,y2,a3,l3,y3,a4,l4,y4,(Y3 ⟨b,o,U⟩),l5,y5⟩ c.now n ua ul uc q.w HNU.1 HNU.2 Y8 HG.out);have z53z:=@aa _ @aeQ;exact aC
 have HG:Hid ((n.d && decide (n.u+5<c.now))=Y_):=by
  show (n.d && decide (n.u+5<c.now))=Y_;rw[hg.1];simpa using hg.2
 have HV:Hid (bg c t ⟨evC c t x,⟨#[]⟩,0⟩):=Zb ⟨hl,HT.out,x,HXX.1,HXX.2,hp,⟨n,by rw[HPN.out];exact HNJ.out,HNN.out,hg.1,hg.2⟩,rfl⟩;clear hg;obtain⟨Gk,Gr,HW⟩:=gN;obtain⟨k0,k1,k2,k3,k4,k5⟩:=sl6 Gk;obtain⟨pd4,e0,e1,e2,e3,e4,e5,e6,hne0,HC0⟩:=agx;have HC1:=aa (λq:Wd w2=>qR ⟨(Y3 ⟨bn,on,U⟩),l1,y1,a2,l2,y2,a3,l3,y3,a4,l4,y4,(Y3 ⟨b,o,U⟩),l5,y5⟩ c.now n ua ul uc q.w HNU.1 HNU.2 Y_ HG.out);go_wp2_with fail;refine bV ba ba ?_;have z1636z:=@aa _ @DH;exact ry):p:=h
theorem KQ(h:p:=by
 have z1485z:=@aa _ @Fu;exact gF):p:=h
theorem KP(h:p:=by
 refine (aK 10 _).mono ?_;rintro e w3 ⟨rfl,hb⟩;clear k0 k1 k2 k3 k4 k5 ltk_2;replace Bk:=upK Bk hb;have z138z:=@aa _ @aew;exact cL):p:=h
theorem Ks(h:p:=by
 rcases hf with ⟨i,p,hw,hpi,hp0,rfl⟩|⟨j,n,hn,hok,rfl⟩
 ·have HV:Hid (nT c t (co0 p)):=Zc ⟨i,hw,by rw[hpi]⟩;have hp1:(p==0)=Y8:=mU
  clear hw hpi hp0;have z820z:=@aa _ @Tw;exact fP
 have z1439z:=@aa _ @Ga;exact mB):p:=h
theorem Kk(h:p:=by
 go_wp2_with fail;clear k0 k1 k2 k3 k4 k5 ltk_4;have BrV:=aa ((Ym w3 (Y6 (clo6 x1 m1 n1 x2 m2 n2 x3 m3 n3 x4 m4 n4 x5 m5 n5 c.now) 29) _ (ae Br.out)).trans Br.out);have HBV:=aa (HB.trans ((ak w3 (Y6 (clo6 x1 m1 n1 x2 m2 n2 x3 m3 n3 x4 m4 n4 x5 m5 n5 c.now) 29)).mono HB.size));refine (qP c i x j k ⟨#[]⟩ (λk=>q1.w.heap.size<=k/\k<w3.heap.size) w3.heap.size x1 m1 n1 x2 m2 n2 x3 m3 n3 x4 m4 n4 x5 m5 n5 _ (heap_alloc_new w3 (Y6 (clo6 x1 m1 n1 x2 m2 n2 x3 m3 n3 x4 m4 n4 x5 m5 n5 c.now) 29)) HOV.out (λq s=>⟨by rw[db];omega,by omega⟩) HT.out HX.1 HK.1 HK.2 HXV.out (Zc rfl)).mono ?_;rintro e w4 h4;have hsv:(w3.alloc (Y6 (clo6 x1 m1 n1 x2 m2 n2 x3 m3 n3 x4 m4 n4 x5 m5 n5 c.now) 29)).heap.size=w3.heap.size+1:=db _ _;rcases h4 with ⟨j9,u,hbv,hju,rfl,hbb,hof,hkp⟩|⟨hbv,⟨p,hp0,hcod,rfl,hbe⟩|⟨hmay,hhit,h8,rfl,q3,m3',z3,hbb,hof,hkp⟩⟩
 ·have HV:Hid (dB c t ⟨eS c i j9 x u,u.n,0⟩):=(HBI _).out (Zc ⟨j9,u,hbv,hju,rfl⟩);have Bo4:=aa hbb;have hbr:w4.heap[w.heap.size+1]?=Y3 (Y6 #[J U 0 0,J U 0 0,J U 0 0,J U 0 0,J U 0 0,Y4 Y5 0,I ⟨#[]⟩,Y4 Y5 0] 33 (0,0)):=(hkp.block _ (ae BrV.out) (by intro s;obtain⟨s1,s2⟩:=s;omega)).trans BrV.out;have Br4:=aa hbr;have HOF:=aa hof;have HB4:=aa (HBV.trans (hkp.low (X:=w.heap.size) HBV.size (λk s=>by obtain⟨s1,s2⟩:=s;omega)));clear hbb hbr hof hkp;have z962z:=@aa _ @RA;exact xG
 ·have HV:Hid (dB c t (co0 p)):=(HBI _).out (Zb ⟨hbv,by rcases hcod with ⟨h1,rfl⟩|⟨h1,h2,rfl⟩|⟨h1,h2,h3,rfl⟩;exact Zc ⟨h1,rfl⟩;exact Zb ⟨h1,Zc ⟨h2,rfl⟩⟩;exact Zb ⟨h1,Zb ⟨h2,Zc ⟨h3,rfl⟩⟩⟩⟩);have hp1:(p==0)=Y8:=mU
  replace Br:=aa ((hbe.block _ (ae BrV.out)).trans BrV.out);replace HB:=upB HBV hbe;clear hbe hcod hp0;go_wp2_with fail;refine (aK p _).mono ?_;rintro e w5 ⟨rfl,hb⟩;have z500z:=@aa _ @X4;exact ln
 have HV:Hid (dB c t ⟨dR c i x (cR ⟨#[]⟩ k.z),(aN++x.n),0⟩):=(HBI _).out (Zb ⟨hbv,Zb ⟨hmay,Zb ⟨hhit,Zb ⟨h8,rfl⟩⟩⟩⟩);have Bo4:=aa hbb;have hbr:w4.heap[w.heap.size+1]?=Y3 (Y6 #[J U 0 0,J U 0 0,J U 0 0,J U 0 0,J U 0 0,Y4 Y5 0,I ⟨#[]⟩,Y4 Y5 0] 33 (0,0)):=(hkp.block _ (ae BrV.out) (by intro s;rcases s with ⟨s1,s2⟩|s1 <;> omega)).trans BrV.out;have Br4:=aa hbr;have HOF:=aa hof;have HB4:=aa (HBV.trans (hkp.low (X:=w.heap.size) HBV.size (λk s=>by rcases s with ⟨s1,s2⟩|s1 <;> omega)));clear hbb hbr hof hkp;have z962z:=@aa _ @RB;exact xG):p:=h
theorem J4(h:p:=by
 have z1452z:=@aa _ @FY;exact rY):p:=h
theorem JU(h:p:=by
 have hnm:(c.ns.set (pl Nd.n c.ns t) (eX c n))[j]?=Y3 (eX c n):=by
  rw[(a_ HT.2.1.1.2.2 HNJ.out HOK.2.2.2).1,ch (Yc.1 HNJ.out).1,if_pos rfl]
 have hnr:aH Nd.n (c.ns.set (pl Nd.n c.ns t) (eX c n)):=by
  rw[(a_ HT.2.1.1.2.2 HNJ.out HOK.2.2.2).1];exact HT.2.1.1.2.2.Q4 HNJ.out rfl
 refine (BP w3.heap.size (Y3 ⟨g,0,U⟩) m1 n1 x2 m2 n2 x3 m3 n3 x4 m4 n4 x5 m5 n5 c.now t (c.ns.set (pl Nd.n c.ns t) (eX c n)) c.ks c.vs c.xs c.ps (eX c n) j f (λk=>w1.heap.size<=k/\¬k=w3.heap.size) (λk=>w1.heap.size<=k/\¬k=w3.heap.size) _ Bo6.out HF6.2.2.2 (λg5 e0 e5 e=>nb g5 (λh=>h.2 e) ⟨e0,e5⟩) HF1.out HF6.1 HF6.2.1 HF6.2.2.1 hnr HT.2.1.2.2.2.1.2.2 HT.2.1.2.2.1.2.2 HT.2.1.ne hnm HOK.2.2.2 (λk p hp hd=>HT.bds hp (by rw[hd,<-HOK.2.2.2];exact aO.ne (HT.2.1.1.2.1 _ n HOK.2.2.1).1)) (λk p hp hd=>(HF.out p).imp (λh=>⟨h.1,h.2.2⟩) (λh=>⟨h.1,λh9=>h.2 ⟨HLV.out,h9⟩⟩))).mono ?_;rintro e w7 ⟨⟨v,rfl⟩,hP,hK⟩;obtain⟨Bo7,Br7,g1,g2,g3,g4⟩:=agt;have hps:(iw c t n f).raw.p=(c.ps.map (phF t f)).map pdF:=rfl;have z441z:=@aa _ @NV;exact yQ):p:=h
theorem JT(h:p:=by
 refine (lN w3.heap.size (Y3 ⟨g,0,U⟩) x2 x3 x4 x5 m1 n1 m2 n2 m3 n3 m4 n4 m5 n5 c.now t c.ps (λk=>w1.heap.size<=k/\¬k=w3.heap.size) _ Bo6.out HF6.2.2.2 (λg5 e0 e5 e=>nb g5 (λh=>h.2 e) ⟨e0,e5⟩)).mono ?_;rintro e w7 ⟨⟨v,rfl⟩,hP,hK⟩;obtain⟨Bo7,Br7,g1,g2,g3,g4⟩:=agt;have hps:(iw c t n f).raw.p=(c.ps.map (ph1 t)).map pdF:=by
  show (c.ps.map (phF t f)).map pdF=_;rw[HF1E.out,afr]
 have z441z:=@aa _ @ag5;exact yQ):p:=h
theorem sO(h:p:=by
 rw[<-hW6] at f1 f2 f3 f4 f5 hr6 ho6 hb6 ⊢;have HF1:=aa f1;have HF6:=aa (Yb f2 (Yb f3 (Yb f4 f5)));have Br6:=aa hr6;have Bo6:=aa ho6;have HB6:=aa hb6;clear hW6 f1 f2 f3 f4 f5 hr6 ho6 hb6 past hat6 hns;have nb:∀k,¬(w1.heap.size<=k/\¬k=w3.heap.size)->¬(0<m5/\x5=Y3 ⟨k,0,U⟩):=λk h1 h2=>by
  exact ajx
 exact z1227z):p:=h
theorem Hz(h:p:=by
 clear hi hz0 hz1 hz2 hT ht;go_enter Tryz.func57,Tryz.ntmps57;go_wp2_with fail;refine (lK ⟨a1,l1,y1,a2,l2,y2,a3,l3,y3,a4,l4,y4,a5,l5,y5⟩ c _ (HR.below (HB.trans ((aR _ _ _).mono HB.size))) HT.out).mono ?_;rintro e w1 ⟨wa,wl,wc,ws,rfl,ho,hrq,hmem,hle,hb⟩;obtain⟨HA0,HA1,hbx⟩:=eh hb;have Bk:=aa HA0;have Bn:=aa HA1;replace HB:=upB HB hbx;clear hb hbx HA0 HA1;have HER:=aa ho.row;have hwl:ws.length=wl:=by simpa using ho.row.1
 have HES:=aa (Yb hrq hmem);have hw24:wl<=24:=af
 have hn1:w.heap.size+1<w1.heap.size:=ae Bn.out;clear ho hrq hmem;go_wp2;have BeV:=aa (heap_alloc_new w1 (Y6 #[] 9));have HB1:=HB;have Bk1:=Bk;have Bn1:=Bn;clear HB Bk Bn;go_loopw [6,7] (λvo vi wr=> ∃k m9:Nat,k<=wl/\m9<=k/\vi=Y4 Y5 k/\Hid (wr.ownsRow (w1.heap.size) 9 1 vo m9 ((mwL c n.n (ws.take k)).map Yn))/\Hid (Below w1.heap.size w1 wr)) (λ_ vi _=>wl - (intOf vi).toNat);case atStart=>exact⟨0,0,by omega,by omega,rfl,⟨rfl,Zb ⟨w1.heap.size,0,#[],rfl,Ye _,BeV.out,Ye _,by unfold maxLen;omega,rfl,rfl⟩⟩,ak _ _⟩
 case round=>
  obtain⟨k,m9,hk,hm9,rfl,HO,HL⟩:=hrel;have hLs:=HL.size;have Bk:=upK Bk1 HL.out;have Bn:=upK Bn1 HL.out;have HB:=aa (HB1.trans (HL.mono HB1.size));clear BeV;by_cases hlt:k<wl
  ·have hk1:(k:Int)<wl:=af
   have hk0:¬(k:Int)<0:=af
   obtain⟨b,o,y,rfl,hbl,hy,hat⟩:=oF (HER.below HL.out) hlt;obtain⟨-,-,hc0,hc1⟩:=fE hat;have HY0:=aa hy;obtain⟨i,v,hv,hvn⟩:=ahs ((HES.2 y).1 (Yu hy));have HV:=aa (Yb hv hvn);have hi3:i<l3:=by have:=(Yc.1 hv).1;omega
   have hii:(i:Int)<l3:=af
   have hi0:¬(i:Int)<0:=af
   obtain⟨b3,o3,v',rfl,hb3,hx3,hat3⟩:=cj (HR.v.below HB.out) hi3;rw[hv] at hx3;obtain rfl:=Yd hx3;obtain⟨va,vl,vc,hvr,-,-,-,-,-,-,-,-,-,-,-,hc7⟩:=bh hat3;have HVR:=aa hvr;clear hat hy hv hvn hat3 hx3 hvr;by_cases he:y.d=n.n;rotate_left
   ·have hq:=bA he;have hon:mwB c n.n y=Y8:=aj2 he;have HON:=aa hon;clear hon;have z873z:=@aa _ @SN;exact pf
   have hq:=aP he;have HIF:=aa (vW (q:=y) HT.2.1.2.2.1.2.2 HV.1 HV.2 he);clear he;by_cases hin:InL v.zs n.n;rotate_left
   ·have HIN:=aa hin;clear hin;have hon:mwB c n.n y=Y8:=by cases h:mwB c n.n y;rfl;exact absurd (HIF.1 h) HIN.out
    have HON:=aa hon;clear hon;have z873z:=@aa _ @SM;exact pf
   have HON:=aa (HIF.2 hin);have HIN:=aa hin;clear hin;have z873z:=@aa _ @SO;exact pf
  have hk1:¬(k:Int)<wl:=af
  have HO3:=HO;rw[YH af] at HO3;obtain⟨a',p',rfl,hT⟩:=bN.fk HO3.out (afy HER.out);rw[P1 HT.out HNE.out HES.1 HES.2] at hT;have HTO:=aa hT;clear HO3 hT HO;go_wp2;go_ret;exact⟨_,_,_,rfl,HTO.bl (λk _ s=>by have s1:w1.heap.size<=k:=s;show w.heap.size<=k;omega),HB.out⟩):p:=h
theorem G6(h:p:=by
 obtain⟨x1,m1,n1,x2,m2,n2,x3,m3,n3,x4,m4,n4,x5,m5,n5⟩:=d';have hq1:w.heap.size+1<q1.w.heap.size:=HQ1.out;have hq2:q1.w.heap.size<=w3.heap.size:=HQ2.out;have into:∀{a l cp m T rs},aw w3 a l cp m T rs (λk=>q1.w.heap.size<=k)->aw (w3.alloc (Y6 (clo6 x1 m1 n1 x2 m2 n2 x3 m3 n3 x4 m4 n4 x5 m5 n5 c.now) 29)) a l cp m T rs (λk=>q1.w.heap.size<=k/\k<w3.heap.size):=λh=>(h.bl (S':=(λk=>q1.w.heap.size<=k/\k<w3.heap.size)) (λk hk s=>⟨s,hk⟩)).below (ak w3 (Y6 (clo6 x1 m1 n1 x2 m2 n2 x3 m3 n3 x4 m4 n4 x5 m5 n5 c.now) 29));have HOV:Hid (cZ (w3.alloc (Y6 (clo6 x1 m1 n1 x2 m2 n2 x3 m3 n3 x4 m4 n4 x5 m5 n5 c.now) 29)) ⟨x1,m1,n1,x2,m2,n2,x3,m3,n3,x4,m4,n4,x5,m5,n5⟩ c.raw (λk=>q1.w.heap.size<=k/\k<w3.heap.size)):=⟨into ho.n,into ho.k,into ho.v,into ho.x,into ho.p⟩;clear ho into;have z1193z:=@aa _ @Kk;exact ee):p:=h
theorem GZ(h:p:=by
 rcases hf with ⟨i,x,hx,hn,rfl⟩|⟨hno,rfl⟩;rotate_left
 ·have HV:Hid (dB c t (co0 6)):=Zc ⟨2,by decide,⟨hl,HT.out,xb.no HT.out (fW hno)⟩,rfl⟩;clear hno;have z1147z:=@aa _ @KU;exact bI
 have HX:=aa (Yb hx hn);obtain⟨hi4,hii,hi0⟩:=M6;obtain⟨j,k,hkj,hkn⟩:∃(j:Nat) (k:Kd),c.ks[j]?=Y3 k/\k.n=x.k:=by obtain⟨k,h1,h2⟩:=cv (HT.2.2.1.2 _ x hx).1;exact⟨_,k,h1,h2⟩
 have z1734z:=@aa _ @Cd;exact rf):p:=h
theorem GY(h:p:=by
 rcases hf with ⟨i,x,hx,hn,rfl⟩|⟨hno,rfl⟩;rotate_left
 ·have HV:Hid (bg c t (co0 6)):=Zc ⟨2,⟨hl,HT.out,fW hno⟩,rfl⟩;clear hno;have z1147z:=@aa _ @KQ;exact bI
 have z1621z:=@aa _ @DT;exact rA):p:=h
theorem GX(h:p:=by
 obtain⟨r0,r1,r2,r3,r4,r5,r6,r7⟩:=cs8 Br;have ltr_4:=ae Br.out;obtain⟨fr0,fr1,fr2,fr3,fr4,fr5,fr6,fr7⟩:=kY;have hrl:w.heap.size+1<w3.heap.size:=ae Br.out;go_wp2;exact bodyPost_ret (v:=Za #[J U 0 0,J U 0 0,J U 0 0,J U 0 0,J U 0 0,Y4 Y5 0,I ⟨#[]⟩,Y4 Y5 11]) om rfl ⟨ad0,co0 11,rfl,HV.out,(rl0 _ _),sb1 (sb1 (sb1 (sb1 (sb1 (sb1 (sb1 (sb1 (HB.out))))))))⟩):p:=h
theorem GW(h:p:=by
 obtain⟨x1,m1,n1,x2,m2,n2,x3,m3,n3,x4,m4,n4,x5,m5,n5⟩:=d';have hm5:m5=l5:=by have h6:(c.ps.map pdF).length=m5:=ho.p.1;rw[Yr] at h6;omega
 subst hm5;obtain⟨g,hga,hS⟩:=(ho.p.bl (S':=λk=>q1.w.heap.size<=k/\k<w3.heap.size) (λk hk s=>⟨s,hk⟩)).st (aG.refl _ w3) (i:=i) (r:=pdF x) (show (c.ps.map pdF)[i]?=Y3 (pdF x) by rw[Yt,HXI.out];rfl);have hga':x5=Y3 ⟨g,0,U⟩:=hga;subst hga';have hq1:w.heap.size+1<q1.w.heap.size:=HQ1.out;have hq2:q1.w.heap.size<=w3.heap.size:=HQ2.out;have hgS:=(by obtain⟨⟨cur,H,h1,_⟩,_⟩:=hS;exact⟨h1.inS,ae h1.blk⟩:(q1.w.heap.size<=g/\g<w3.heap.size)/\g<w3.heap.size);obtain⟨⟨hg1,hg2⟩,-⟩:=hgS;obtain⟨v4,hv4⟩:=hS.cell (i:=4) rfl;obtain⟨v5,hv5⟩:=hS.cell (i:=5) rfl;have hf4:=hS.nN (i*6+4);have hf5:=hS.nN (i*6+5);have z1650z:=@aa _ @Dx;exact rr):p:=h
theorem Ge(h:p:=by
 go_wp2_with fail;refine (aK 11 _).mono ?_;rintro e w3 ⟨rfl,hb⟩;clear k0 k1 k2 k3 k4 k5 ltk_3;replace Bk:=upK Bk hb;have z500z:=@aa _ @X0;exact ln):p:=h
theorem Ga(h:p:=by
 obtain⟨ua,ul,uc,-,-,-,hd0,hd1,hd2,hd3,hd4,hd5,hd6⟩:=aZ hat;clear hat hy;cases hd:n.d;rotate_left
 ·have HV:Hid (nT c t (co0 10)):=Zb ⟨n,HOK.out,Zc ⟨hd,rfl⟩⟩;rw[hd] at hd5;clear hd;have z820z:=@aa _ @Tv;exact fP
 obtain⟨f,hf⟩:=afY.ex c n;have HF:=aa hf;have HV:Hid (nT c t ⟨iw c t n f,⟨#[]⟩,0⟩):=Zb ⟨n,HOK.out,Zb ⟨hd,f,hf,rfl⟩⟩;rw[hd] at hd5;have HD:=aa hd;clear hd hf;have HQ1:Hid (w.heap.size+1<w1.heap.size):=ae Br.out;obtain⟨hn0,hn1⟩:=HT.1;have z820z:=@aa _ @Tx;exact fP):p:=h
theorem F8(h:p:=by
 clear hf;obtain⟨k0,k1,k2,k3,k4,k5⟩:=cs6 ((hW.block _ (ae BkW.out)).trans BkW.out);exact aL):p:=h
theorem F5(h:p:=by
 clear hf;go_simp;refine (BU c _ hn0 hn1).mono ?_;rintro e w6 ⟨rfl,hb6⟩;exact hK _ _ hb6 rfl):p:=h
theorem FY(h:p:=by
 have HB:=HB41;clear HB41;have Bk:=Ck;clear Ck;have Bn:=Cn;clear Cn;have HO1:=aa (cA HO.out q1.b);have hqs:=q1.b.size;go_wp2_with (first|(at_builtin;refine wpList_append_own _ rfl _ _ 36 rfl (w1.heap.size) 9 i0 (I ⟨#[]⟩) 1 16 Tryz.underlying36 HI0.1 HI0.2.1 HI0.2.2.1 HI0.2.2.2 rfl ag _ _ _ rfl (HO1.alloc _) ⟨q1.w.heap.size,0,U⟩ 1 1 [I y.n] rfl rfl ?c1 ?c2 ?c3 ?c4 ?c5 ?_));case c1=>
  exact Po
 case c2=>intro u hu;rw[List.mem_singleton.1 hu];rfl
 case c3=>unfold maxLen;omega
 case c4=>omega
 case c5=>simp;omega
 rintro v' w4 hown3 hgrow -;have HO3:Hid (w4.ownsRow (w1.heap.size) 9 1 v' (m9+1) ((mwL c n.n (ws.take (k+1))).map Yn)):=by
  show World.ownsRow _ _ _ _ _ _ _;rw[aj1 HY0.out HON.out,List.map_append];exact hown3
 have HL3:=aa (((HL.trans (q1.b.mono hLs)).trans ((ak q1.w _).mono (Yl hLs hqs))).grown hgrow bJ (λg hg=>by have:=(HO1.lt g hg).1;omega));clear hown3 hgrow;go_wp2;exact⟨⟨k+1,m9+1,by omega,by omega,by go_num,HO3,HL3⟩,by simp[intOf];omega⟩):p:=h
theorem rY(h:p:=by
 repeat (go_big_quiet_step (first|(go_at_call 97;exact Calls.wide (HC0.out _))|(go_at_call 102;exact Calls.wide (HC1.out _))|fail))
 refine wpQuiet_nil ?_;rintro _ ⟨q1,rfl⟩;have HB41:=upB HW q1.b;have Ck:=upK Gk q1.b;have Cn:=upK Gn q1.b;clear hne0 HW HB HC0 HC1 k0 k1 k2 k3 k4 k5 n0 yd von Gk Gn Bk Bn hbl hc0 hc1 hb3 hc7 hq;exact z1452z):p:=h
theorem Fw(h:p:=by
 have z138z:=@aa _ @aez;exact cL):p:=h
theorem Fu(h:p:=by
 have z138z:=@aa _ @aex;exact cL):p:=h
theorem Fp(h:p:=by
 clear hf;have hwr:IntKind.i64.wrap (c.now+10)=c.now+10:=by rw[IntKind.wrap_i64];omega
 exact aL):p:=h
theorem ER(h:p:=by
 exact z962z):p:=h
theorem Ew(h:p:=by
 have e32:=hf 32 ag;simp[aj,Yf] at e32;clear hf;exact aL):p:=h
theorem Et(h:p:=by
 clear hf;obtain⟨o0,o1,o2,o3,o4,o5⟩:=cs6 ((hW.block _ (ae BoW.out)).trans BoW.out);exact aL):p:=h
theorem DT(h:p:=by
 clear hat hvr z0 z2 z4 hy hx c0 c1 c2 c3;have HC4:=aa c4;have HC5:=aa c5;clear c4 c5;by_cases hp:x.p=0
 ·have hpb:(x.p==0)=Y_:=eN
  have c5:=HC5.out;have HV:Hid (bg c t (co0 10)):=Zc ⟨8,⟨hl,HT.out,x,HXX.1,HXX.2,hp⟩,rfl⟩;have z1147z:=@aa _ @KP;exact bI
 have hpb:(x.p==0)=Y8:=eN
 obtain⟨jn,n,hnj,hnn,hnu⟩:=HT.node HXI.out hp;have hj1:jn<l1:=by have:=(Yc.1 hnj).1;omega
 have hj0:¬(jn:Int)<0:=af
 obtain⟨bn,on,y,rfl,hbn,hy,hat⟩:=dn (HR.n.below HB.out) hj1;rw[hnj] at hy;obtain rfl:=Yd hy;obtain⟨ua,ul,uc,hur,u0,u1,d0,d1,d2,d3,d4,d5,d6⟩:=aZ hat;clear hat hur u0 u1 hy;have HNJ:=aa hnj;have HNN:=aa hnn;have HNU:=aa hnu;have hri:=HT.2.1.1.2.2;have HRN:=aa hri;have HPN:=aa (a_ hri hnj hnn).1;clear hnj hnn hnu hri;have c4:=HC4.out;have c5:=HC5.out;have z1147z:=@aa _ @KR;exact bI):p:=h
theorem DK(h:p:=by
 have z41z:=@aa _ @agH;exact ei):p:=h
theorem DJ(h:p:=by
 have z41z:=@aa _ @ain;exact ei):p:=h
theorem DI(h:p:=by
 have z1429z:=@aa _ @Ge;exact dH):p:=h
theorem DH(h:p:=by
 have HQ1:Hid (w.heap.size+1<q1.w.heap.size):=ae Br.out;obtain⟨k0,k1,k2,k3,k4,k5⟩:=cs6 Bk;have ltk_3:=ae Bk.out;go_wp2_with fail;have HLO:=aa HB.size;refine (dd ⟨(Y3 ⟨bn,on,U⟩),l1,y1,a2,l2,y2,a3,l3,y3,a4,l4,y4,(Y3 ⟨b,o,U⟩),l5,y5⟩ c _ (HR.below HB.out) HT.sm).mono ?_;rintro e w3 ⟨d',rfl,ho,hb⟩;have HQ2:=aa hb.size;clear k0 k1 k2 k3 k4 k5 ltk_3;have z1388z:=@aa _ @GW;exact bj):p:=h
theorem ry(h:p:=by
 repeat (go_big_quiet_step (first|(go_at_call 28;exact Calls.wide (HC0.out _))|(go_at_call 27;exact Calls.wide (HC1.out _))|fail))
 refine wpQuiet_nil ?_;rintro _ ⟨q1,rfl⟩;have HB3:=upB HW q1.b;obtain⟨Ck,Cr⟩:=er;clear hne0 HW HB HC0 HC1 k0 k1 k2 k3 k4 k5 pd4 e0 e1 e2 e3 e4 e5 e6 Gk Gr Bk Br c4 c5 d0 d1 d2 d3 d4 d5 d6 hbn;have HB:=HB3;clear HB3;have Bk:=Ck;clear Ck;have Br:=Cr;clear Cr;exact z1636z):p:=h
theorem DG(h:p:=by
 have HQ1:Hid (w.heap.size+1<q1.w.heap.size):=ae Br.out;have HBI:∀o,Hid (iD c i x k ⟨#[]⟩ o->dB c t o):=λo h=>Zb ⟨hl,HT.out,i,x,j,k,HX.1,HX.2,HK.1,HK.2,Zb ⟨HXV.out,Zb ⟨HKX.out,h⟩⟩⟩;obtain⟨k0,k1,k2,k3,k4,k5⟩:=cs6 Bk;have ltk_3:=ae Bk.out;go_wp2_with fail;have HLO:=aa HB.size;refine (dd ⟨a1,l1,y1,(Y3 ⟨bk,ok,U⟩),l2,y2,a3,l3,y3,(Y3 ⟨b,o,U⟩),l4,y4,a5,l5,y5⟩ c _ (HR.below HB.out) HT.sm).mono ?_;rintro e w3 ⟨d',rfl,ho,hb⟩;have HQ2:=aa hb.size;clear k0 k1 k2 k3 k4 k5 ltk_3;have z1388z:=@aa _ @G6;exact bj):p:=h
theorem DF(h:p:=by
 have HV:Hid (dB c t (co0 11)):=Zb ⟨hl,HT.out,i,x,j,k,HX.1,HX.2,HK.1,HK.2,Zb ⟨HXV.out,Zc ⟨HKX.out,rfl⟩⟩⟩;obtain⟨k0,k1,k2,k3,k4,k5⟩:=cs6 Bk;have ltk_3:=ae Bk.out;go_wp2_with fail;refine (aK 11 _).mono ?_;rintro e w3 ⟨rfl,hb⟩;clear k0 k1 k2 k3 k4 k5 ltk_3;have z1388z:=@aa _ @GX;exact bj):p:=h
theorem ru(h:p:=by
 repeat (go_big_quiet_step (first|(go_at_call 96;exact Calls.wide (HC0.out _))|fail))
 refine wpQuiet_nil ?_;rintro _ ⟨q1,rfl⟩;have HB3:=upB HW q1.b;obtain⟨Ck,Cr⟩:=er;clear hne0 HW HB HC0 k0 k1 k2 k3 k4 k5 xk kx Gk Gr Bk Br c2 c4 d1 hbk hbl hq;have HB:=HB3;clear HB3;have Bk:=Ck;clear Ck;have Br:=Cr;clear Cr;exact z1639z):p:=h
theorem DC(h:p:=by
 have z1186z:=@aa _ @Ks;exact fA):p:=h
theorem Dx(h:p:=by
 have ltk_4:=ae Bk.out;obtain⟨r0,r1,r2,r3,r4,r5,r6,r7⟩:=cs8 Br;have ltr_4:=ae Br.out;obtain⟨fr0,fr1,fr2,fr3,fr4,fr5,fr6,fr7⟩:=kY;go_wp2;have hlo:=HLO.out;refine bodyPost_ret (v:=Za #[J x1 m1 n1,J x2 m2 n2,J x3 m3 n3,J x4 m4 n4,J (Y3 ⟨g,0,U⟩) m5 n5,Y4 Y5 c.now,I ⟨#[]⟩,Y4 Y5 0]) tB rfl ⟨⟨x1,m1,n1,x2,m2,n2,x3,m3,n3,x4,m4,n4,Y3 ⟨g,0,U⟩,m5,n5⟩,⟨evC c t x,⟨#[]⟩,0⟩,rfl,HV.out,?_,Below.alloc (sb1 (sb1 (sb1 (sb1 (sb1 (sb1 (sb1 (sb1 (ah (show w.heap.size<=g by omega) (ah (show w.heap.size<=g by omega) HB.out)))))))))) bJ _⟩;have hk2:∀k,q1.w.heap.size<=k->k<w3.heap.size->(((((((((((w3.setCell ⟨g,i*6+4,U⟩ (I ⟨#[]⟩)).setCell ⟨g,i*6+5,U⟩ (Y4 Y5 0)).setCell ⟨w.heap.size+1,0,U⟩ (J x1 m1 n1)).setCell ⟨w.heap.size+1,1,U⟩ (J x2 m2 n2)).setCell ⟨w.heap.size+1,2,U⟩ (J x3 m3 n3)).setCell ⟨w.heap.size+1,3,U⟩ (J x4 m4 n4)).setCell ⟨w.heap.size+1,4,U⟩ (J (Y3 ⟨g,0,U⟩) m5 n5)).setCell ⟨w.heap.size+1,5,U⟩ (Y4 Y5 c.now)).setCell ⟨w.heap.size+1,6,U⟩ (I ⟨#[]⟩)).setCell ⟨w.heap.size+1,7,U⟩ (Y4 Y5 0)).alloc (Y6 (clo6 x1 m1 n1 x2 m2 n2 x3 m3 n3 x4 m4 n4 (Y3 ⟨g,0,U⟩) m5 n5 c.now) 29)).heap[k]?=((w3.setCell ⟨g,i*6+4,U⟩ (I ⟨#[]⟩)).setCell ⟨g,i*6+5,U⟩ (Y4 Y5 0)).heap[k]?:=λk h1 h2=>by
  refine (Ym _ _ _ (by simpa using h2)).trans ?_;exact z_
 have hk3:∀k,q1.w.heap.size<=k->¬k=g->k<w3.heap.size->(((((((((((w3.setCell ⟨g,i*6+4,U⟩ (I ⟨#[]⟩)).setCell ⟨g,i*6+5,U⟩ (Y4 Y5 0)).setCell ⟨w.heap.size+1,0,U⟩ (J x1 m1 n1)).setCell ⟨w.heap.size+1,1,U⟩ (J x2 m2 n2)).setCell ⟨w.heap.size+1,2,U⟩ (J x3 m3 n3)).setCell ⟨w.heap.size+1,3,U⟩ (J x4 m4 n4)).setCell ⟨w.heap.size+1,4,U⟩ (J (Y3 ⟨g,0,U⟩) m5 n5)).setCell ⟨w.heap.size+1,5,U⟩ (Y4 Y5 c.now)).setCell ⟨w.heap.size+1,6,U⟩ (I ⟨#[]⟩)).setCell ⟨w.heap.size+1,7,U⟩ (Y4 Y5 0)).alloc (Y6 (clo6 x1 m1 n1 x2 m2 n2 x3 m3 n3 x4 m4 n4 (Y3 ⟨g,0,U⟩) m5 n5 c.now) 29)).heap[k]?=w3.heap[k]?:=λk h1 h3 h2=>by
  rw[hk2 k h1 h2,Ya _ _ _ _ h3,Ya _ _ _ _ h3]
 obtain⟨⟨cur,H,hbk,_⟩,_⟩:=HST.out;have h2:=(HST.Q5 (i:=4) rfl ⟨#[]⟩ ag).AN (i:=5) rfl 0;obtain⟨⟨cur2,H2,h3,_⟩,_,_⟩:=h2;have hps:(evC c t x).raw.p=(c.ps.map pdF).set i (pdF (idle x)):=by
  show (c.ps.set (pl Pd.n c.ps t) (idle x)).map pdF=_;rw[HPL.out,List.map_set]
 refine⟨?_,?_,?_,?_,?_⟩
 ·exact ((HO.n.dN hbk.blk ag ag).az (w':=(((((((((((w3.setCell ⟨g,i*6+4,U⟩ (I ⟨#[]⟩)).setCell ⟨g,i*6+5,U⟩ (Y4 Y5 0)).setCell ⟨w.heap.size+1,0,U⟩ (J x1 m1 n1)).setCell ⟨w.heap.size+1,1,U⟩ (J x2 m2 n2)).setCell ⟨w.heap.size+1,2,U⟩ (J x3 m3 n3)).setCell ⟨w.heap.size+1,3,U⟩ (J x4 m4 n4)).setCell ⟨w.heap.size+1,4,U⟩ (J (Y3 ⟨g,0,U⟩) m5 n5)).setCell ⟨w.heap.size+1,5,U⟩ (Y4 Y5 c.now)).setCell ⟨w.heap.size+1,6,U⟩ (I ⟨#[]⟩)).setCell ⟨w.heap.size+1,7,U⟩ (Y4 Y5 0)).alloc (Y6 (clo6 x1 m1 n1 x2 m2 n2 x3 m3 n3 x4 m4 n4 (Y3 ⟨g,0,U⟩) m5 n5 c.now) 29))) (λk hk s=>hk3 k s.1 s.2 hk) (λ_ _ s=>s)).rl (λk s=>loq)
 ·exact ((HO.k.dN hbk.blk ag ag).az (w':=(((((((((((w3.setCell ⟨g,i*6+4,U⟩ (I ⟨#[]⟩)).setCell ⟨g,i*6+5,U⟩ (Y4 Y5 0)).setCell ⟨w.heap.size+1,0,U⟩ (J x1 m1 n1)).setCell ⟨w.heap.size+1,1,U⟩ (J x2 m2 n2)).setCell ⟨w.heap.size+1,2,U⟩ (J x3 m3 n3)).setCell ⟨w.heap.size+1,3,U⟩ (J x4 m4 n4)).setCell ⟨w.heap.size+1,4,U⟩ (J (Y3 ⟨g,0,U⟩) m5 n5)).setCell ⟨w.heap.size+1,5,U⟩ (Y4 Y5 c.now)).setCell ⟨w.heap.size+1,6,U⟩ (I ⟨#[]⟩)).setCell ⟨w.heap.size+1,7,U⟩ (Y4 Y5 0)).alloc (Y6 (clo6 x1 m1 n1 x2 m2 n2 x3 m3 n3 x4 m4 n4 (Y3 ⟨g,0,U⟩) m5 n5 c.now) 29))) (λk hk s=>hk3 k s.1 s.2 hk) (λ_ _ s=>s)).rl (λk s=>loq)
 ·exact ((HO.v.dN hbk.blk ag ag).az (w':=(((((((((((w3.setCell ⟨g,i*6+4,U⟩ (I ⟨#[]⟩)).setCell ⟨g,i*6+5,U⟩ (Y4 Y5 0)).setCell ⟨w.heap.size+1,0,U⟩ (J x1 m1 n1)).setCell ⟨w.heap.size+1,1,U⟩ (J x2 m2 n2)).setCell ⟨w.heap.size+1,2,U⟩ (J x3 m3 n3)).setCell ⟨w.heap.size+1,3,U⟩ (J x4 m4 n4)).setCell ⟨w.heap.size+1,4,U⟩ (J (Y3 ⟨g,0,U⟩) m5 n5)).setCell ⟨w.heap.size+1,5,U⟩ (Y4 Y5 c.now)).setCell ⟨w.heap.size+1,6,U⟩ (I ⟨#[]⟩)).setCell ⟨w.heap.size+1,7,U⟩ (Y4 Y5 0)).alloc (Y6 (clo6 x1 m1 n1 x2 m2 n2 x3 m3 n3 x4 m4 n4 (Y3 ⟨g,0,U⟩) m5 n5 c.now) 29))) (λk hk s=>hk3 k s.1 s.2 hk) (λ_ _ s=>s)).rl (λk s=>loq)
 ·exact ((HO.x.dN hbk.blk ag ag).az (w':=(((((((((((w3.setCell ⟨g,i*6+4,U⟩ (I ⟨#[]⟩)).setCell ⟨g,i*6+5,U⟩ (Y4 Y5 0)).setCell ⟨w.heap.size+1,0,U⟩ (J x1 m1 n1)).setCell ⟨w.heap.size+1,1,U⟩ (J x2 m2 n2)).setCell ⟨w.heap.size+1,2,U⟩ (J x3 m3 n3)).setCell ⟨w.heap.size+1,3,U⟩ (J x4 m4 n4)).setCell ⟨w.heap.size+1,4,U⟩ (J (Y3 ⟨g,0,U⟩) m5 n5)).setCell ⟨w.heap.size+1,5,U⟩ (Y4 Y5 c.now)).setCell ⟨w.heap.size+1,6,U⟩ (I ⟨#[]⟩)).setCell ⟨w.heap.size+1,7,U⟩ (Y4 Y5 0)).alloc (Y6 (clo6 x1 m1 n1 x2 m2 n2 x3 m3 n3 x4 m4 n4 (Y3 ⟨g,0,U⟩) m5 n5 c.now) 29))) (λk hk s=>hk3 k s.1 s.2 hk) (λ_ _ s=>s)).rl (λk s=>loq)
 ·have hR:aw ((w3.setCell ⟨g,i*6+4,U⟩ (I ⟨#[]⟩)).setCell ⟨g,i*6+5,U⟩ (Y4 Y5 0)) (Y3 ⟨g,0,U⟩) m5 n5 6 40 (evC c t x).raw.p (λk=>q1.w.heap.size<=k/\k<w3.heap.size):=by
   rw[hps];exact⟨by rw[YK];exact HO.p.1,HO.p.2.1,HO.p.2.2.1,Zb ⟨g,cur2,H2,rfl,h3⟩⟩
  exact (hR.az (w':=(((((((((((w3.setCell ⟨g,i*6+4,U⟩ (I ⟨#[]⟩)).setCell ⟨g,i*6+5,U⟩ (Y4 Y5 0)).setCell ⟨w.heap.size+1,0,U⟩ (J x1 m1 n1)).setCell ⟨w.heap.size+1,1,U⟩ (J x2 m2 n2)).setCell ⟨w.heap.size+1,2,U⟩ (J x3 m3 n3)).setCell ⟨w.heap.size+1,3,U⟩ (J x4 m4 n4)).setCell ⟨w.heap.size+1,4,U⟩ (J (Y3 ⟨g,0,U⟩) m5 n5)).setCell ⟨w.heap.size+1,5,U⟩ (Y4 Y5 c.now)).setCell ⟨w.heap.size+1,6,U⟩ (I ⟨#[]⟩)).setCell ⟨w.heap.size+1,7,U⟩ (Y4 Y5 0)).alloc (Y6 (clo6 x1 m1 n1 x2 m2 n2 x3 m3 n3 x4 m4 n4 (Y3 ⟨g,0,U⟩) m5 n5 c.now) 29))) (λk hk s=>hk2 k s.1 s.2) (λ_ _ s=>s)).rl (λk s=>loq)):p:=h
theorem De(h:p:=by
 have hST4:=(HST.below HWY.out).AN (i:=4) rfl (da c);have past:∀{a l cp m T rs},aw w3 a l cp m T rs (λk=>w1.heap.size<=k/\¬k=w3.heap.size)->¬38=T->aw (wy.setCell ⟨g,j*7+4,U⟩ (Y4 Y5 (da c))) a l cp m T rs (λk=>w1.heap.size<=k/\¬k=w3.heap.size):=λh hT=>(h.dN HGB.out hT ag).az (λk hk s=>(Ya _ _ _ _ s.2).trans (HWY.block k hk)) (λ_ _ s=>s.1);have f2:=past HOC.1 ag;have f3:=past HOC.2.1 ag;have f4:=past HOC.2.2.1 ag;have f5:=past HOC.2.2.2 ag;have hk4:(wy.setCell ⟨g,j*7+4,U⟩ (Y4 Y5 (da c))).heap[w.heap.size]?=_:=(Ya _ _ _ _ (show w.heap.size≠g by omega)).trans Bk2.out;have hr4:(wy.setCell ⟨g,j*7+4,U⟩ (Y4 Y5 (da c))).heap[w.heap.size+1]?=_:=(Ya _ _ _ _ (show w.heap.size+1≠g by omega)).trans Br2.out;have hgn:¬w1.heap.size=g:=by have:=HG1.out;omega
 have hn4:(wy.setCell ⟨g,j*7+4,U⟩ (Y4 Y5 (da c))).heap[w1.heap.size]?=_:=(Ya _ _ _ _ (show w1.heap.size≠g from hgn)).trans Bn2.out;have ho4:(wy.setCell ⟨g,j*7+4,U⟩ (Y4 Y5 (da c))).heap[w3.heap.size]?=_:=(Ya _ _ _ _ (show w3.heap.size≠g by omega)).trans Bo2.out;have hb4:Below w.heap.size w (wy.setCell ⟨g,j*7+4,U⟩ (Y4 Y5 (da c))):=ah (show w.heap.size<=g by omega) HBY.out;have hs4:(wy.setCell ⟨g,j*7+4,U⟩ (Y4 Y5 (da c))).heap.size=wy.heap.size:=aF
 clear hcz hfz past;obtain⟨W4,hW4⟩:∃W4,W4=(wy.setCell ⟨g,j*7+4,U⟩ (Y4 Y5 (da c))):=⟨_,rfl⟩;rw[<-hW4] at hST4 f2 f3 f4 f5 hk4 hr4 hn4 ho4 hb4 hs4 ⊢;have HST4:=aa hST4;have HF4:=aa (Yb f2 (Yb f3 (Yb f4 f5)));have Bk4:=aa hk4;have Br4:=aa hr4;have Bn4:=aa hn4;have Bo4:=aa ho4;have HB4:=aa hb4;have hsz4:w3.heap.size<W4.heap.size:=ae ho4;clear hW4 hST4 f2 f3 f4 f5 hk4 hr4 hn4 ho4 hb4 hs4 Bk2 Br2 Bn2 Bo2 HBY HWY HBW HWW BkW BrW BnW BoW;obtain⟨k0,k1,k2,k3,k4,k5⟩:=cs6 Bk4;obtain⟨n0,n1',n2',n3',n4',n5',n6'⟩:=cs7 Bn4;obtain⟨o0,o1,o2,o3,o4,o5⟩:=cs6 Bo4;have ltk:=ae Bk4.out;have ltn:=ae Bn4.out;have lto:=ae Bo4.out;by_cases hlv:c.now<n.u;rotate_left
 ·have HMN:Hid (vX c n=[]):=if_neg hlv;have HF1E:Hid (f=λ_=>1):=by
   show f=_;funext p;rcases HF.out p with ⟨_,h1,_⟩|⟨h1,_⟩
   ·exact absurd h1 hlv
   ·exact h1
  have hlv2:n.u<=c.now:=af
  obtain⟨v6,hc6⟩:=HST4.cell (i:=6) rfl;have hf6:=HST4.nN (j*7+6);have hne1:¬g=w3.heap.size:=af
  have hne2:¬w3.heap.size=g:=af
  go_wp2_with fail;clear k0 k1 k2 k3 k4 k5 n0 n1' n2' n3' n4' n5' n6' o0 o1 o2 o3 o4 o5 hc6 hf6;have HGB0:Hid (∃cur,W4.heap[g]?=Y3 (Y6 cur 38 (0,0))):=by obtain⟨⟨cur,H,h1,_⟩,_⟩:=HST4.out;exact⟨cur,h1.blk⟩
  obtain⟨cur4,hcur4⟩:=HGB0.out;clear HGB0;have HGB0:=aa hcur4;clear hcur4;have HFX:=aa HF4.out;have BrX:=Br4;have BoX:=Bo4;have HBX:=HB4;obtain⟨cur6,H6,hat6⟩:∃cur H,en (W4.setCell ⟨g,j*7+6,U⟩ (J U 0 0)) g 7 38 ((c.ns.map ndF).set j (((ndF n).set 4 (.i (da c))).set 6 (.l []))) (λk=>w1.heap.size<=k/\¬k=w3.heap.size) cur H:=by obtain⟨⟨cur,H,h1,_⟩,_⟩:=HST4.akr (i:=6) rfl U 0 ag;exact⟨cur,H,h1⟩
  have hns:(c.ns.map ndF).set j (((ndF n).set 4 (.i (da c))).set 6 (.l []))=(iw c t n f).raw.n:=by
   have z418z:=@aa _ @aa9;exact yV
  have f1:aw (W4.setCell ⟨g,j*7+6,U⟩ (J U 0 0)) (Y3 ⟨g,0,U⟩) m1 n1 7 38 (iw c t n f).raw.n (λk=>w1.heap.size<=k/\¬k=w3.heap.size):=by
   exact N7
  have past:∀{a l cp m T rs},aw W4 a l cp m T rs (λk=>w1.heap.size<=k/\¬k=w3.heap.size)->¬38=T->aw (W4.setCell ⟨g,j*7+6,U⟩ (J U 0 0)) a l cp m T rs (λk=>w1.heap.size<=k/\¬k=w3.heap.size):=λh hT=>(h.dN HGB0.out hT ag).az (λk hk s=>Ya _ _ _ _ s.2) (λ_ _ s=>s.1);have f2:=past HFX.1 ag;have f3:=past HFX.2.1 ag;have f4:=past HFX.2.2.1 ag;have f5:=past HFX.2.2.2 ag;have hr6:(W4.setCell ⟨g,j*7+6,U⟩ (J U 0 0)).heap[w.heap.size+1]?=_:=(Ya _ _ _ _ (show w.heap.size+1≠g by omega)).trans BrX.out;have ho6:(W4.setCell ⟨g,j*7+6,U⟩ (J U 0 0)).heap[w3.heap.size]?=_:=(Ya _ _ _ _ (show w3.heap.size≠g by omega)).trans BoX.out;have hb6:Below w.heap.size w (W4.setCell ⟨g,j*7+6,U⟩ (J U 0 0)):=ah (show w.heap.size<=g by omega) HBX.out;obtain⟨W6,hW6⟩:∃W6,W6=(W4.setCell ⟨g,j*7+6,U⟩ (J U 0 0)):=⟨_,rfl⟩;have z1227z:=@aa _ @JT;exact sO
 have HMN:Hid (vX c n=ky c n.n c.vs):=if_pos hlv;have HLV:=aa hlv;have hlv2:¬n.u<=c.now:=af
 go_wp2_with fail;have hg9:=BS ⟨(Y3 ⟨b,o,U⟩),m1,y1,a2,l2,y2,a3,l3,y3,a4,l4,y4,a5,l5,y5⟩ c n ua ul uc W4 (HR.below HB4.out) HT.out (aO.ne (HT.2.1.1.2.1 _ n HOK.2.2.1).1);rw[HD.out] at hg9;refine hg9.mono ?_;clear hg9;rintro e W5 ⟨sa,sl,sq,rfl,hto,hb5⟩;clear k0 k1 k2 k3 k4 k5 n0 n1' n2' n3' n4' n5' n6' o0 o1 o2 o3 o4 o5;have HTO:=aa hto;have hsl:sl<=8:=by have h1:=hto.1.1;have h2:=uk c n.n;have h3:(c.vs.length:Int)<=8:=HT.2.1.2.2.1.1;omega
 have hsl2:¬8<(sl:Int):=af
 have HST5:=aa (HST4.fresh hb5);have HFX:Hid _:=aa (Yb (HF4.1.below hb5) (Yb (HF4.2.1.below hb5) (Yb (HF4.2.2.1.below hb5) (HF4.2.2.2.below hb5))));have BrX:=upK Br4 hb5;have BoX:=upK Bo4 hb5;have HBX:=upB HB4 hb5;have hs5:=hb5.size;obtain⟨cur4,hcur4⟩:∃cur,W5.heap[g]?=Y3 (Y6 cur 38 (0,0)):=by obtain⟨⟨cur,H,h1,_⟩,_⟩:=HST5.out;exact⟨cur,h1.blk⟩
 have HGB0:=aa hcur4;obtain⟨v6,hc6⟩:=HST5.cell (i:=6) rfl;have hf6:=HST5.nN (j*7+6);have hne1:¬g=w3.heap.size:=af
 have hne2:¬w3.heap.size=g:=af
 obtain⟨o0,o1,o2,o3,o4,o5⟩:=cs6 BoX;have lto5:=ae BoX.out;clear hb5 hto hcur4;go_wp2_with fail;clear o0 o1 o2 o3 o4 o5 hc6 hf6;obtain⟨cur6,H6,hat6⟩:∃cur H,en (W5.setCell ⟨g,j*7+6,U⟩ (J sa sl sq)) g 7 38 ((c.ns.map ndF).set j (((ndF n).set 4 (.i (da c))).set 6 (.l (ky c n.n c.vs)))) (λk=>w1.heap.size<=k/\¬k=w3.heap.size) cur H:=HST5.amc (i:=6) rfl (HTO.out) (λk h1 h2=>⟨by omega,by omega⟩) af;have hns:(c.ns.map ndF).set j (((ndF n).set 4 (.i (da c))).set 6 (.l (ky c n.n c.vs)))=(iw c t n f).raw.n:=by
  have z418z:=@aa _ @aa8;exact yV
 have f1:aw (W5.setCell ⟨g,j*7+6,U⟩ (J sa sl sq)) (Y3 ⟨g,0,U⟩) m1 n1 7 38 (iw c t n f).raw.n (λk=>w1.heap.size<=k/\¬k=w3.heap.size):=by
  exact N7
 have past:∀{a l cp m T rs},aw W5 a l cp m T rs (λk=>w1.heap.size<=k/\¬k=w3.heap.size)->¬38=T->aw (W5.setCell ⟨g,j*7+6,U⟩ (J sa sl sq)) a l cp m T rs (λk=>w1.heap.size<=k/\¬k=w3.heap.size):=λh hT=>(h.dN HGB0.out hT ag).az (λk hk s=>Ya _ _ _ _ s.2) (λ_ _ s=>s.1);have f2:=past HFX.1 ag;have f3:=past HFX.2.1 ag;have f4:=past HFX.2.2.1 ag;have f5:=past HFX.2.2.2 ag;have hr6:(W5.setCell ⟨g,j*7+6,U⟩ (J sa sl sq)).heap[w.heap.size+1]?=_:=(Ya _ _ _ _ (show w.heap.size+1≠g by omega)).trans BrX.out;have ho6:(W5.setCell ⟨g,j*7+6,U⟩ (J sa sl sq)).heap[w3.heap.size]?=_:=(Ya _ _ _ _ (show w3.heap.size≠g by omega)).trans BoX.out;have hb6:Below w.heap.size w (W5.setCell ⟨g,j*7+6,U⟩ (J sa sl sq)):=ah (show w.heap.size<=g by omega) HBX.out;obtain⟨W6,hW6⟩:∃W6,W6=(W5.setCell ⟨g,j*7+6,U⟩ (J sa sl sq)):=⟨_,rfl⟩;have z1227z:=@aa _ @JU;exact sO):p:=h
theorem Cd(h:p:=by
 obtain⟨b,o,y,rfl,hbl,hy,hat⟩:=eI (HR.x.below HB.out) hi4;rw[hx] at hy;obtain rfl:=Yd hy;obtain⟨-,-,-,c0,c1,c2,c3,c4⟩:=cn hat;clear hat hy hx hn;have HC:=aa (Yb c2 c4);have HBL:=aa hbl;clear c0 c1 c2 c3;by_cases hxv:x.v=⟨#[]⟩;rotate_left
 ·have HV:Hid (dB c t (co0 7)):=Zb ⟨hl,HT.out,i,x,j,k,HX.1,HX.2,HK.1,HK.2,Zc ⟨hxv,rfl⟩⟩;have hq:=aX hxv;clear hxv;have z1147z:=@aa _ @KT;exact bI
 have hq:=cN hxv;have HXV:=aa hxv;clear hxv;obtain⟨bk,ok,y,rfl,hbk,hy,hat⟩:=gu (HR.k.below HB.out) hj2;rw[hkj] at hy;obtain rfl:=Yd hy;obtain⟨-,-,d0,d1,d2,d3⟩:=dh hat;clear hat hy hkj hkn d0 d2 d3;have z1147z:=@aa _ @KW;exact bI):p:=h
namespace Rc
theorem oc(d:Ad) (c:Cl) (t:ByteArray) (w:World) (hr:aB w d c.raw):
  Calls Tryz.prog 67 #[Za #[J d.a1 d.l1 d.c1,J d.a2 d.l2 d.c2,J d.a3 d.l3 d.c3,J d.a4 d.l4 d.c4,J d.a5 d.l5 d.c5,Y4 Y5 c.now],I t] w (im (dB c t) w):=by
 have z445z:=@aa _ @aaC;exact cf
theorem wX.below {W':World} {nb vb:Nat} {m:ByteArray} (h:wX W nb vb t m) (hb:Below W.heap.size W W'):wX W' nb vb t m:=
 ⟨(hb.block _ (ae h.1)).trans h.1,(hb.block _ (ae h.2)).trans h.2⟩
end Rc
attribute [local go_sem] Oper.semAt_some
theorem KpB.refl(h n₀:Nat) (W:World):KpB h n₀ W W:=⟨Ye _,λ_ _ _ _=>rfl⟩
theorem KpB.trans {A B C:World} (p:KpB h n₀ A B) (q:KpB h n₀ B C):KpB h n₀ A C:=⟨Yl p.1 q.1,λk h1 h2 h3=>(q.2 k h1 h2 h3).trans (p.2 k h1 h2 h3)⟩
theorem KpB.below {A B:World} (q:Below A.heap.size A B) (hn:n₀<=A.heap.size):KpB h n₀ A B:=⟨q.size,λk h1 _ _=>q.block k (by omega)⟩
theorem KpB.put(hn:n₀<=w.heap.size) (W:World) (l:Nat) (o o':Obj) (hl:w.heap.size<=l) (_:W.heap[l]?=Y3 o) (_:o.isCells=Y8) (_:o.isWalk=Y8):KpB h n₀ W (W.putObj l o'):=
 ⟨by simp,λk h1 _ _=>World.putObj_heap_other (λe=>by omega)⟩
attribute [local go_sem] Oper.semAt_some
theorem j0.xs {vs:List Vd} (h:j0 w a len cap vs):∃(xl:List Vx) (b o:Nat),xl.map Vx.v=vs/\xl.length=len/\(xl=[]\/(a=Y3 ⟨b,o,U⟩/\b<w.heap.size))/\
  ∀(j:Nat) x,xl[j]?=Y3 x->ay w x.a x.len x.cap x.v.zs/\w.cell? ⟨b,o+j*8,U⟩=Y3 (I x.v.n)/\w.cell? ⟨b,o+j*8+1,U⟩=Y3 (Y4 Y5 x.v.c)/\w.cell? ⟨b,o+j*8+2,U⟩=Y3 (I x.v.z)/\w.cell? ⟨b,o+j*8+3,U⟩=Y3 (I x.v.k)/\
   w.cell? ⟨b,o+j*8+4,U⟩=Y3 (Y7 x.v.x)/\w.cell? ⟨b,o+j*8+5,U⟩=Y3 (I x.v.m)/\w.cell? ⟨b,o+j*8+6,U⟩=Y3 (Y7 x.v.y)/\w.cell? ⟨b,o+j*8+7,U⟩=Y3 (J x.a x.len x.cap):=by
 obtain⟨h1,h2,h3,h5⟩:=h;rcases h5 with rfl|⟨b,o,rfl,hlt,hc⟩
 ·exact⟨[],0,0,rfl,by simpa using h1,Zc rfl,λj x hx=>by simp at hx⟩
 ·have hh:∀(j:Nat) v,vs[j]?=Y3 v->∃x:Vx,x.v=v/\(ay w x.a x.len x.cap x.v.zs/\w.cell? ⟨b,o+j*8,U⟩=Y3 (I x.v.n)/\w.cell? ⟨b,o+j*8+1,U⟩=Y3 (Y4 Y5 x.v.c)/\w.cell? ⟨b,o+j*8+2,U⟩=Y3 (I x.v.z)/\w.cell? ⟨b,o+j*8+3,U⟩=Y3 (I x.v.k)/\
    w.cell? ⟨b,o+j*8+4,U⟩=Y3 (Y7 x.v.x)/\w.cell? ⟨b,o+j*8+5,U⟩=Y3 (I x.v.m)/\w.cell? ⟨b,o+j*8+6,U⟩=Y3 (Y7 x.v.y)/\w.cell? ⟨b,o+j*8+7,U⟩=Y3 (J x.a x.len x.cap)):=λj v hv=>by
   obtain⟨-,a',l',c',q⟩:=hc j v hv;exact⟨⟨v,a',l',c'⟩,rfl,q⟩
  have key:∀(n:Nat),n<=vs.length->∃xl:List Vx,xl.map Vx.v=vs.take n/\∀(j:Nat) x,xl[j]?=Y3 x->(ay w x.a x.len x.cap x.v.zs/\w.cell? ⟨b,o+j*8,U⟩=Y3 (I x.v.n)/\w.cell? ⟨b,o+j*8+1,U⟩=Y3 (Y4 Y5 x.v.c)/\w.cell? ⟨b,o+j*8+2,U⟩=Y3 (I x.v.z)/\w.cell? ⟨b,o+j*8+3,U⟩=Y3 (I x.v.k)/\
    w.cell? ⟨b,o+j*8+4,U⟩=Y3 (Y7 x.v.x)/\w.cell? ⟨b,o+j*8+5,U⟩=Y3 (I x.v.m)/\w.cell? ⟨b,o+j*8+6,U⟩=Y3 (Y7 x.v.y)/\w.cell? ⟨b,o+j*8+7,U⟩=Y3 (J x.a x.len x.cap)):=by
   intro n
   induction n with
   | zero=>exact λ_=>⟨[],by simp,λj x hx=>by simp at hx⟩
   | succ n ih=>
    intro hn;obtain⟨xl,e1,e2⟩:=ih af
    have hl:xl.length=n:=by have:=congrArg List.length e1;simp at this;omega
    obtain⟨x,hxv,hx⟩:=hh n (vs[n]'(by omega)) (Yi _);refine⟨xl++[x],?_,λj y hy=>?_⟩
    ·rw[YL,<-e1,Yi (show n<vs.length by omega)]
     simp[hxv]
    ·by_cases e:j<xl.length
     ·rw[Yv e] at hy;exact e2 j y hy
     ·rw[List.getElem?_append_right af] at hy
      have hj:j - xl.length=0:=by
       rcases Nat.eq_zero_or_pos (j - xl.length) with h|h
       ·exact h
       ·rw[List.getElem?_eq_none bJ] at hy;cases hy
      rw[hj] at hy;obtain rfl:=Yd (show Y3 x=Y3 y from hy)
      obtain rfl:j=n:=af
      exact hx
  obtain⟨xl,e1,e2⟩:=key vs.length (Ye _);rw[List.take_length] at e1;refine⟨xl,b,o,e1,by have:=congrArg List.length e1;simp at this;omega,Zb ⟨rfl,hlt⟩,e2⟩
theorem BI.own(w w5:World) (h:Nat) (hh:h+1<w5.heap.size) (hw:w.heap.size<=w5.heap.size):OwnFrom w5.heap.size (BI w w5 h):=by
 intro s A B row hs hg hr;obtain⟨⟨h1,h2⟩,h3,h4⟩:=hs;have hk:∀k,k<w5.heap.size->B.heap[k]?=A.heap[k]?:=λk hk=>hg.block k (Yj hk h3.1) (λe=>by have:=(hr k e.symm).1;omega);exact⟨⟨(hk h af).trans h1,(hk (h+1) hh).trans h2⟩,⟨Yl h3.1 hg.size,λk q1 q2 q3=>(hk k q1).trans (h3.2 k q1 q2 q3)⟩,h4.trans ⟨hg.os,hg.tape,hg.output,hg.size,λk q=>hk k af⟩⟩
theorem BI.below {w5 W':World} (hi:BI w w5 h pre W) (hh:h+1<w5.heap.size) (hw:w.heap.size<=w5.heap.size) (hb:Below W.heap.size W W'):BI w w5 h pre W':=
 BI.own w w5 h hh hw pre W W' U hi (di hb) (λr e=>by cases e)
theorem BI.put {w5:World} {x:Vx} (hi:BI w w5 h pre W) (hw:w.heap.size<=h) (hs:stepX (kU pre) x=Y3 x):BI w w5 h (pre++[x]) (((((((((W.setCell ⟨h,0,U⟩ (I x.v.n)).setCell ⟨h,1,U⟩ (Y4 Y5 x.v.c)).setCell ⟨h,2,U⟩ (I x.v.z)).setCell ⟨h,3,U⟩ (I x.v.k)).setCell ⟨h,4,U⟩ (Y7 x.v.x)).setCell ⟨h,5,U⟩ (I x.v.m)).setCell ⟨h,6,U⟩ (Y7 x.v.y)).setCell ⟨h,7,U⟩ (J x.a x.len x.cap)).setCell ⟨h+1,0,U⟩ (Y7 Y_)):=by
 obtain⟨⟨h1,h2⟩,h3,h4⟩:=hi;have e:kU (pre++[x])=Y3 x:=by rw[wU];exact hs
 unfold BI;rw[e];have h1':∃u0 u1 u2 u3 u4 u5 u6 u7,W.heap[h]?=Y3 (Y6 #[u0,u1,u2,u3,u4,u5,u6,u7] 95 (0,0)):=by
  cases hb:kU pre with
  | none=>rw[hb] at h1;exact⟨_,_,_,_,_,_,_,_,h1⟩
  | some u=>rw[hb] at h1;exact⟨_,_,_,_,_,_,_,_,h1⟩
 obtain⟨u0,u1,u2,u3,u4,u5,u6,u7,h1'⟩:=h1';refine⟨⟨(Ya _ _ _ _ (show h≠h+1 by omega)).trans (alp h1'),?_⟩,⟨by simpa[YO] using h3.1,λk q1 q2 q3=>?_⟩,?_⟩
 ·have h2':((((((((W.setCell ⟨h,0,U⟩ (I x.v.n)).setCell ⟨h,1,U⟩ (Y4 Y5 x.v.c)).setCell ⟨h,2,U⟩ (I x.v.z)).setCell ⟨h,3,U⟩ (I x.v.k)).setCell ⟨h,4,U⟩ (Y7 x.v.x)).setCell ⟨h,5,U⟩ (I x.v.m)).setCell ⟨h,6,U⟩ (Y7 x.v.y)).setCell ⟨h,7,U⟩ (J x.a x.len x.cap)).heap[h+1]?=W.heap[h+1]?:=by
   rw[Ya _ _ _ _ (show h+1≠h by omega),Ya _ _ _ _ (show h+1≠h by omega),Ya _ _ _ _ (show h+1≠h by omega),Ya _ _ _ _ (show h+1≠h by omega),Ya _ _ _ _ (show h+1≠h by omega),Ya _ _ _ _ (show h+1≠h by omega),Ya _ _ _ _ (show h+1≠h by omega),Ya _ _ _ _ (show h+1≠h by omega)]
  exact au (h2'.trans h2) _
 ·rw[Ya _ _ _ _ (show k≠h+1 by omega),Ya _ _ _ _ (show k≠h by omega),Ya _ _ _ _ (show k≠h by omega),Ya _ _ _ _ (show k≠h by omega),Ya _ _ _ _ (show k≠h by omega),Ya _ _ _ _ (show k≠h by omega),Ya _ _ _ _ (show k≠h by omega),Ya _ _ _ _ (show k≠h by omega),Ya _ _ _ _ (show k≠h by omega)];exact h3.2 k q1 q2 q3
 ·exact ah af (ah hw (ah hw (ah hw (ah hw (ah hw (ah hw (ah hw (ah hw h4))))))))
theorem BI.kp {W:World} {h n₀:Nat} {x:Vx} :KpB h n₀ W (((((((((W.setCell ⟨h,0,U⟩ (I x.v.n)).setCell ⟨h,1,U⟩ (Y4 Y5 x.v.c)).setCell ⟨h,2,U⟩ (I x.v.z)).setCell ⟨h,3,U⟩ (I x.v.k)).setCell ⟨h,4,U⟩ (Y7 x.v.x)).setCell ⟨h,5,U⟩ (I x.v.m)).setCell ⟨h,6,U⟩ (Y7 x.v.y)).setCell ⟨h,7,U⟩ (J x.a x.len x.cap)).setCell ⟨h+1,0,U⟩ (Y7 Y_)):=by
 refine⟨by simp[YO],λk q1 q2 q3=>?_⟩;rw[Ya _ _ _ _ (show k≠h+1 by omega),Ya _ _ _ _ (show k≠h by omega),Ya _ _ _ _ (show k≠h by omega),Ya _ _ _ _ (show k≠h by omega),Ya _ _ _ _ (show k≠h by omega),Ya _ _ _ _ (show k≠h by omega),Ya _ _ _ _ (show k≠h by omega),Ya _ _ _ _ (show k≠h by omega),Ya _ _ _ _ (show k≠h by omega)]
namespace Rc
theorem ErF.mono(c:Cl) (x:Xd) (E:Nat->Addr):Fact.bH (ErF c x E):=λ_ _ _ h _=>h
theorem RoF.mono(m:Nat) (T:TypeId) (rs:List (List Fv)) (S:Nat->Prop):Fact.bH (RoF m T rs S):=by
 rintro v w w' ⟨a,l,p,h1,h2⟩ hb;exact⟨a,l,p,h1,h2.below hb⟩
def alP(W:World) (T:TypeId):Fact:=λv w=> ∃g c0 c1 c2 c3 c4 c5 c6 c7,v=Zd (Y3 ⟨g,0,U⟩)/\W.heap.size<=g/\w.heap[g]?=Y3 (Y6 #[c0,c1,c2,c3,c4,c5,c6,c7] T (0,0))
theorem alP.mono(W:World) (T:TypeId):Gs.uF (Gs.Form W) (alP W T):=by
 refine⟨?_,?_⟩
 ·rintro v w w' ⟨g,c0,c1,c2,c3,c4,c5,c6,c7,h1,h2,h4⟩ hb;exact⟨g,c0,c1,c2,c3,c4,c5,c6,c7,h1,h2,(hb.block g (ae h4)).trans h4⟩
 ·rintro v w w' ⟨g,c0,c1,c2,c3,c4,c5,c6,c7,h1,h2,h4⟩ hb;obtain⟨cs',h5,h6⟩:=hb.form g _ T h4;obtain⟨e0,e1,e2,e3,e4,e5,e6,e7,rfl⟩:=amq (cs:=cs') (h5.trans rfl);exact⟨g,e0,e1,e2,e3,e4,e5,e6,e7,h1,h2,h6⟩
theorem VtF.mono(SR:World->World->Prop) (w:World) (x:Vd):Gs.uF SR (VtF w x):=⟨λ_ _ _ h _=>h,λ_ _ _ h _=>h⟩
theorem VaF.mono(SR:World->World->Prop) (w:World) (x:Vd):Gs.uF SR (VaF w x):=⟨λ_ _ _ h _=>h,λ_ _ _ h _=>h⟩
theorem PsV.mono(W w:World) (x:Vd):(PsV W w x).bH:=by
 rintro v a b ⟨g,va,vl,vc,h1,h2,h3,h4⟩ hb;exact⟨g,va,vl,vc,h1,h2,h3,(hb.block g (ae h4)).trans h4⟩
theorem PrF.mono(B:Nat) (c:Cl):Fact.bH (PrF B c):=by
 rintro v w w' ⟨d,h1,h2⟩ hb;exact⟨d,h1,h2.below hb⟩
theorem PrO.mono(B:Nat) (c:Cl) (n:ByteArray):Fact.bH (PrO B c n):=by
 rintro v w w' ⟨d,h1,h2⟩ hb;exact⟨d,h1,h2.below hb⟩
theorem n_(d:Ad) (c:Cl) (t:ByteArray) (w:World) (hr:aB w d c.raw):
  Calls Tryz.prog 7 #[Za #[J d.a1 d.l1 d.c1,J d.a2 d.l2 d.c2,J d.a3 d.l3 d.c3,J d.a4 d.l4 d.c4,J d.a5 d.l5 d.c5,Y4 Y5 c.now],I t] w (im (bg c t) w):=by
 have z445z:=@aa _ @aaB;exact cf
theorem uS(d:Ad) (c:Cl) (t:ByteArray) (w:World) (hr:aB w d c.raw):
  Calls Tryz.prog 7 #[Za #[J d.a1 d.l1 d.c1,J d.a2 d.l2 d.c2,J d.a3 d.l3 d.c3,J d.a4 d.l4 d.c4,J d.a5 d.l5 d.c5,Y4 Y5 c.now],I t] w (alN (bg c t) w):=(n_ d c t w hr).mono λ_ _ h=>h.s
theorem xv(a:Option Addr) (len cap:Nat) (zs:List ByteArray) (t:ByteArray) (w:World) (hr:ay w a len cap zs) (r:Bool) (h:r=Y_↔InL zs t):
  Calls Tryz.prog 102 #[J a len cap,I t] w λe w'=>e=Y9 (Y7 r)/\Below w.heap.size w w':=by
 refine (bW a len cap zs t w hr).mono ?_;exact Nr
def mwB(c:Cl) (t:ByteArray) (q:Qd):Bool:=(q.d.toList==t.toList) && c.vs.any λv=>(v.n.toList==q.n.toList) && inB v.zs t
def mwL(c:Cl) (t:ByteArray) (qs:List Qd):List ByteArray:=(qs.filter (mwB c t)).map Qd.n
theorem aj1 {xs:List Qd} {x:Qd} (h:xs[k]?=Y3 x) (hv:mwB c t x=Y_):mwL c t (xs.take (k+1))=mwL c t (xs.take k)++[x.n]:=by
 unfold mwL;rw[YL,h,YU,List.map_append];simp[hv]
theorem alv {xs:List Qd} {x:Qd} (h:xs[k]?=Y3 x) (hv:mwB c t x=Y8):mwL c t (xs.take (k+1))=mwL c t (xs.take k):=by
 unfold mwL;rw[YL,h,YU,List.map_append];simp[hv]
theorem afy {xs:List Qd} (h:aT w a len cap 2 (xs.map qdF)) (j:Nat) (z:ByteArray) (hz:(mwL c t xs)[j]?=Y3 z):z.size<=9223372036854775807:=by
 have hm:=Yu hz;obtain⟨x,hx,rfl⟩:=List.mem_map.1 hm;obtain⟨i,hi⟩:=YF ((List.mem_filter.1 hx).1);have hl:xs.length=len:=by simpa using h.1
 obtain⟨b,o,y,-,-,hy,hat⟩:=oF h (j:=i) (by have:=(Yc.1 hi).1;omega);rw[hi] at hy;cases hy;exact (fE hat).1
theorem vW {v:Vd} (hv:aH Vd.n c.vs) (hi:c.vs[i]?=Y3 v) (hn:v.n=q.n) (hd:q.d=t):mwB c t q=Y_↔InL v.zs t:=by
 unfold mwB;rw[aP hd,Bool.true_and,List.any_eq_true];constructor
 ·rintro⟨v',hm,he⟩;obtain⟨i',hi'⟩:=YF hm;rw[YE] at he;obtain⟨_,rfl⟩:=hv.inj hi' hi ((dp he.1).trans hn.symm);exact eA.1 he.2
 ·intro h;exact⟨v,Yu hi,by rw[YE];exact⟨aP hn,eA.2 h⟩⟩
theorem aj2(hd:¬q.d=t):mwB c t q=Y8:=by unfold mwB;rw[bA hd];rfl
theorem aH.rtM {xs:List α} (h:aH nm xs):RT (xs.map nm):=by
 exact Pt
theorem ky.rt(h:aH Vd.n c.vs):RT (ky c t c.vs):=List.Pairwise.sublist (List.filter_sublist.map _) h.rtM
theorem mwL.rt {qs:List Qd} (h:RQ qs):RT (mwL c t qs):=by
 unfold mwL RT;rw[List.pairwise_map];refine List.Pairwise.imp_of_mem ?_ (List.Pairwise.filter _ h);intro a b ha hb hab;have e1:=(List.mem_filter.1 ha).2;have e2:=(List.mem_filter.1 hb).2;unfold mwB at e1 e2;rw[YE] at e1 e2;unfold dM at hab;rw[Bool.or_eq_true,YE] at hab;rcases hab with h1|⟨_,h1⟩
 ·exact h1
 ·rw[dp e1.1,dp e2.1,dw] at h1;cases h1
theorem P1 {ws:List Qd} (hT:av c) (ht:¬t=⟨#[]⟩) (hr:RQ ws) (hm:∀q,q∈ws↔Wn c c.ps.length q):mwL c t ws=ky c t c.vs:=by
 have hv:=hT.2.1.2.2.1.2.2;have hx:=hT.2.1.2.2.2.1.2.2;refine (mwL.rt hr).ext (ky.rt hv) (λs=>?_);unfold mwL ky;rw[List.mem_map,List.mem_map];constructor
 ·rintro⟨q,hq,rfl⟩;obtain⟨hq1,hq2⟩:=List.mem_filter.1 hq;obtain⟨j,p,_,hp,_,k,cl,v,hk,hb,rfl⟩:=(hm q).1 hq1;have hpd:p.d=t:=by unfold mwB at hq2;rw[YE] at hq2;exact dp hq2.1
  obtain⟨i,jv,x,h1,h2,h3,h4⟩:=hb;have hon:=(vW (q:=⟨v.n,p.d⟩) hv h3 rfl hpd).1 hq2;have hne:¬x.v=⟨#[]⟩:=by rw[<-h4];exact aO.ne (hT.2.1.2.2.1.2.1 jv v h3).1
  obtain⟨i',j',x',v',k1,k2,k3,k4,k5,k6,_⟩:=(hT.2.2.1.2 i x h1).2.resolve_left hne;obtain⟨_,rfl⟩:=hv.inj k3 h3 (k4.trans h4.symm);refine⟨v',List.mem_filter.2 ⟨Yu h3,?_⟩,rfl⟩;unfold aj3;rw[YE];refine⟨eA.2 hon,dS.2 ⟨j,p,hp,hpd,k,?_⟩⟩;rw[hk,k6,h2]
 ·have z431z:=@aa _ @aaY;exact pB
theorem ahs(h:Wn c k q):∃(i:Nat) (v:Vd),c.vs[i]?=Y3 v/\v.n=q.n:=by
 obtain⟨j,p,_,_,_,i,t,v,_,⟨i2,j2,x,_,_,h3,_⟩,rfl⟩:=h;exact⟨j2,v,h3,rfl⟩
theorem BS(d:Ad) (c:Cl) (n:Nd) (na:Option Addr) (nl nc:Nat) (w:World) (hr:aB w d c.raw) (hT:av c) (ht:¬n.n=⟨#[]⟩):
  Calls Tryz.prog 57 #[Za #[J d.a1 d.l1 d.c1,J d.a2 d.l2 d.c2,J d.a3 d.l3 d.c3,J d.a4 d.l4 d.c4,J d.a5 d.l5 d.c5,Y4 Y5 c.now],Za #[I n.n,I n.z,Y4 Y5 n.c,Y4 Y5 n.s,Y4 Y5 n.u,Y7 n.d,J na nl nc]] w λe w'=> ∃a l q,e=Y9 (J a l q)/\bN w' a l q (ky c n.n c.vs) (λk=>w.heap.size<=k)/\Below w.heap.size w w':=by
 have z445z:=@aa _ @aaA;exact cf
theorem xA(d:Ad) (c:Cl) (p:Pd) (pa:Option Addr) (pl pc:Nat) (j1:Nat) (n:Nd) (w:World) (hr:aB w d c.raw) (hn:aH Nd.n c.ns) (hx:aH Xd.n c.xs) (hv:aH Vd.n c.vs) (hne:∀(j:Nat) v,c.vs[j]?=Y3 v->¬v.n=⟨#[]⟩) (hp:ay w pa pl pc p.zs) (hj1:c.ns[j1]?=Y3 n) (hnn:n.n=p.d) (hbd:∀(j:Nat) t,p.zs[j]?=Y3 t->∃v,aY c t v) (r:Bool) (h:r=Y_↔qD c p n):
  Calls Tryz.prog 71 #[Za #[J d.a1 d.l1 d.c1,J d.a2 d.l2 d.c2,J d.a3 d.l3 d.c3,J d.a4 d.l4 d.c4,J d.a5 d.l5 d.c5,Y4 Y5 c.now],Za #[I p.n,Y4 Y5 p.c,I p.z,J pa pl pc,I p.d,Y4 Y5 p.p]] w λe w'=>e=Y9 (Y7 r)/\Below w.heap.size w w':=by
 refine (lP d c p pa pl pc j1 n w hr hn hx hv hne hp hj1 hnn hbd).mono ?_;exact Nr
def ake(a:Option Addr) (l cp:Nat) (t:ByteArray) (f:Pd->Int) (ps:List Pd) (S:Nat->Prop) (w:World) (e:Ending) (w':World):Prop:=(∃v,e=Y9 v)/\aw w' a l cp 6 40 ((ps.map (phF t f)).map pdF) S/\aG (λk=>0<l/\a=Y3 ⟨k,0,U⟩) w w'
theorem aw.akq {wz:World} {l cp:Nat} (hO:aw wr (Y3 ⟨g,0,U⟩) l cp 6 40 (L.map pdF) S) (hb:Below wr.heap.size wr wz) (hx:L[k]?=Y3 x) (v:Int):aw (wz.setCell ⟨g,k*6+5,U⟩ (Y4 Y5 v)) (Y3 ⟨g,0,U⟩) l cp 6 40 ((L.set k ⟨x.n,x.c,x.z,x.zs,x.d,v⟩).map pdF) S:=by
 have hLk:(L.map pdF)[k]?=Y3 (pdF x):=by rw[Yt,hx];rfl
 obtain⟨g',e,hS⟩:=(hO.below hb).st (aG.refl S wz) hLk;cases e;obtain⟨⟨cur2,H2,h3,_⟩,_,_⟩:=hS.AN (i:=5) rfl v;rw[List.map_set];exact⟨by rw[YK];exact hO.1,hO.2.1,hO.2.2.1,Zb ⟨g,cur2,H2,rfl,h3⟩⟩
theorem aw.atP {l cp:Nat} (hO:aw wr (Y3 ⟨g,0,U⟩) l cp 6 40 (L.map pdF) S) (hx:L[k]?=Y3 x):g<wr.heap.size/\wr.frozen? ⟨g,k*6+5,U⟩=Y8:=by
 have hLk:(L.map pdF)[k]?=Y3 (pdF x):=by rw[Yt,hx];rfl
 obtain⟨g',e,hS⟩:=hO.st (aG.refl S wr) hLk;cases e;refine⟨?_,hS.nN _⟩;obtain⟨⟨cur,H,h1,_⟩,_⟩:=hS;exact ae h1.blk
theorem BP(b:Nat) (a1:Option Addr) (l1 y1:Nat) (a2:Option Addr) (l2 y2:Nat) (a3:Option Addr) (l3 y3:Nat) (a4:Option Addr) (l4 y4:Nat) (a5:Option Addr) (l5 y5:Nat) (now:Int) (t:ByteArray) (ns:List Nd) (ks:List Kd) (vs:List Vd) (xs:List Xd) (ps:List Pd) (m:Nd) (j1:Nat) (f:Pd->Int) (S Q:Nat->Prop) (w:World) (hb:w.heap[b]?=Y3 (Y6 #[J a1 l1 y1,J a2 l2 y2,J a3 l3 y3,J a4 l4 y4,J a5 l5 y5,Y4 Y5 now] 29 (0,0))) (ho:aw w a5 l5 y5 6 40 (ps.map pdF) S) (hS:∀g,0<l5->a5=Y3 ⟨g,0,U⟩->¬g=b) (q1:aw w a1 l1 y1 7 38 (ns.map ndF) Q) (q2:aw w a2 l2 y2 4 92 (ks.map kdF) Q) (q3:aw w a3 l3 y3 8 95 (vs.map vdF) Q) (q4:aw w a4 l4 y4 5 97 (xs.map xdF) Q) (rn:aH Nd.n ns) (rx:aH Xd.n xs) (rv:aH Vd.n vs) (hne:∀(j:Nat) v,vs[j]?=Y3 v->¬v.n=⟨#[]⟩) (hm:ns[j1]?=Y3 m) (hmn:m.n=t) (hbd:∀(k:Nat) p,ps[k]?=Y3 p->p.d=t->∀(j:Nat) s,p.zs[j]?=Y3 s->∃v,aY ⟨ns,ks,vs,xs,ps,now⟩ s v) (hf:∀(k:Nat) p,ps[k]?=Y3 p->p.d=t->(f p=2/\qD ⟨ns,ks,vs,xs,ps,now⟩ p m)\/(f p=1/\¬qD ⟨ns,ks,vs,xs,ps,now⟩ p m)):
  Calls Tryz.prog 35 #[Zd (Y3 ⟨b,0,U⟩),I t,Y7 Y_] w (ake a5 l5 y5 t f ps S w):=by
 have hpl:ps.length=l5:=og
 have hlm:l5<=9223372036854775807:=Yl ho.2.1 ho.2.2.1;have Bc:=aa hb;have HOW:=aa ho;have HO0:Hid (aw w a5 l5 y5 6 40 ((mpL (phF t f) ps 0).map pdF) S):=by show aw _ _ _ _ _ _ _ _;rw[PY];exact ho
 have HQ:=aa (Yb q1 (Yb q2 (Yb q3 q4)));have HRI:=aa (Yb rn (Yb rx (Yb rv hne)));have HM:=aa (Yb hm hmn);have HBD:=aa hbd;have HF:=aa hf;have HSB:=aa hS;clear hb ho q1 q2 q3 q4 rn rx rv hne hm hmn hbd hf hS;go_enter Tryz.func35,Tryz.ntmps35;go_wp2;go_loopw [6] (λvi wr=> ∃k:Nat,k<=l5/\vi=Y4 Y5 k/\Hid (aw wr a5 l5 y5 6 40 ((mpL (phF t f) ps k).map pdF) S)/\Hid (aG (λk=>0<l5/\a5=Y3 ⟨k,0,U⟩) w wr)) (λvi _=>l5 - (intOf vi).toNat);case atStart=>exact⟨0,by omega,rfl,HO0,aG.refl _ _⟩
 case round=>
  obtain⟨k,hk,rfl,HO,HK⟩:=hrel;clear HO0;have Bc2:=aa ((HK.block _ (ae Bc.out) (λh=>HSB.out _ h.1 h.2 rfl)).trans Bc.out);by_cases hlt:k<l5
  ·obtain⟨x,hx0⟩:∃x,ps[k]?=Y3 x:=⟨_,Yi af⟩;have HX0:=aa hx0;have HXL:Hid ((mpL (phF t f) ps k)[k]?=Y3 x):=(P0 af).trans hx0;have hLk:((mpL (phF t f) ps k).map pdF)[k]?=Y3 (pdF x):=by rw[Yt,HXL.out];rfl
   obtain⟨g,hg,hS2⟩:=HO.st (aG.refl S wr) hLk;subst hg;obtain⟨b2,o2,x2',hae,hbl,hx2,hat⟩:=cq HO.row hlt;cases hae;rw[HXL.out] at hx2;obtain rfl:=Yd hx2;obtain⟨pa,pq,pc,-,-,-,-,-,-,-,-,c4,c5⟩:=bD hat;have hf5:=hS2.nN (k*6+5);have hneg:¬g=b:=HSB.out g af rfl;have hneg2:¬b=g:=λe=>hneg e.symm;rw[Yq] at c4 c5;have hk1:(k:Int)<l5:=af
   clear hat hx2 hx0 hS2 hLk;obtain⟨k0,k1,k2,k3,k4,k5⟩:=cs6 Bc2;have ltc:=ae Bc2.out;by_cases he:x.d=t;rotate_left
   ·have hq:=bA he;have HHE:=aa he;clear he;go_wp2;refine⟨⟨k+1,by omega,by go_num,?_,HK.out⟩,by simp[intOf];omega⟩;show aw _ _ _ _ _ _ _ _;rw[PZ HX0.out (ajS HHE.out)];exact HO.out
   have hq:=aP he;have HHE:=aa he;clear he;go_wp2_with fail;have hP1:=aw.akq HO.out (Yh _ _) HXL.out 1;have hK1:aG (λk=>0<l5/\(Y3 ⟨g,0,U⟩:Option Addr)=Y3 ⟨k,0,U⟩) w (wr.setCell ⟨g,k*6+5,U⟩ (Y4 Y5 1)):=HK.set ⟨by omega,rfl⟩;have hB1:(wr.setCell ⟨g,k*6+5,U⟩ (Y4 Y5 1)).heap[b]?=Y3 (Y6 (clo6 a1 l1 y1 a2 l2 y2 a3 l3 y3 a4 l4 y4 (Y3 ⟨g,0,U⟩) l5 y5 now) 29 (0,0)):=(Ya _ _ _ _ hneg2).trans Bc2.out;clear k0 k1 k2 k3 k4 k5 c4 c5 hf5 ltc;obtain⟨W,hW0⟩:∃W,W=(wr.setCell ⟨g,k*6+5,U⟩ (Y4 Y5 1)):=⟨_,rfl⟩;rw[<-hW0] at hP1 hK1 hB1 ⊢;clear hW0;have f1:=HQ.1.beside HOW.out hK1 ag;have f2:=HQ.2.1.beside HOW.out hK1 ag;have f3:=HQ.2.2.1.beside HOW.out hK1 ag;have f4:=HQ.2.2.2.beside HOW.out hK1 ag;have HCW:Hid (aB W ⟨a1,l1,y1,a2,l2,y2,a3,l3,y3,a4,l4,y4,Y3 ⟨g,0,U⟩,l5,y5⟩ (⟨ns,ks,vs,xs,((mpL (phF t f) ps k).set k (⟨x.n,x.c,x.z,x.zs,x.d,1⟩:Pd)),now⟩:Cl).raw):=⟨f1.row,f2.row,f3.row,f4.row,hP1.row⟩;have HP1:=aa hP1;have HK1:=aa hK1;have Bc3:=aa hB1;have hLx:((mpL (phF t f) ps k).set k (⟨x.n,x.c,x.z,x.zs,x.d,1⟩:Pd))[k]?=Y3 (⟨x.n,x.c,x.z,x.zs,x.d,1⟩:Pd):=by rw[ch (Yc.1 HXL.out).1,if_pos rfl]
   have HLX:=aa hLx;obtain⟨b2,o2,x3,hae,hbl2,hx3,hat⟩:=cq hP1.row hlt;cases hae;rw[hLx] at hx3;obtain rfl:=Yd hx3;obtain⟨pa,pq,pc,hpr,-,-,-,c0,c1,c2,c3,c4,c5⟩:=bD hat;rw[Yq] at c0 c1 c2 c3 c4 c5;have HPR:=aa hpr;clear f1 f2 f3 f4 hP1 hK1 hB1 hLx hat hx3 hpr;rcases HF.out k x HX0.out HHE.out with ⟨hf1,hf2⟩|⟨hf1,hf2⟩
   ·have HFX:=aa hf1;have HFA:=aa hf2;clear hf1 hf2;obtain⟨k0,k1,k2,k3,k4,k5,p0,p1,p2,p3,p4,p5⟩:=agC;have HC0:=aa (λq:Wd W=>xA ⟨a1,l1,y1,a2,l2,y2,a3,l3,y3,a4,l4,y4,Y3 ⟨g,0,U⟩,l5,y5⟩ (⟨ns,ks,vs,xs,((mpL (phF t f) ps k).set k (⟨x.n,x.c,x.z,x.zs,x.d,1⟩:Pd)),now⟩:Cl) (⟨x.n,x.c,x.z,x.zs,x.d,1⟩:Pd) pa pq pc j1 m q.w (HCW.below q.b) HRI.1 HRI.2.1 HRI.2.2.1 HRI.2.2.2 (HPR.below q.b) HM.1 (HM.2.trans HHE.symm) (HBD.out k x HX0.out HHE.out) Y_ (⟨λ_=>HFA.out,λ_=>rfl⟩));have z351z:=@aa _ @abT;exact zk
   have HFX:=aa hf1;have HFA:=aa hf2;clear hf1 hf2;obtain⟨k0,k1,k2,k3,k4,k5,p0,p1,p2,p3,p4,p5⟩:=agC;have HC0:=aa (λq:Wd W=>xA ⟨a1,l1,y1,a2,l2,y2,a3,l3,y3,a4,l4,y4,Y3 ⟨g,0,U⟩,l5,y5⟩ (⟨ns,ks,vs,xs,((mpL (phF t f) ps k).set k (⟨x.n,x.c,x.z,x.zs,x.d,1⟩:Pd)),now⟩:Cl) (⟨x.n,x.c,x.z,x.zs,x.d,1⟩:Pd) pa pq pc j1 m q.w (HCW.below q.b) HRI.1 HRI.2.1 HRI.2.2.1 HRI.2.2.2 (HPR.below q.b) HM.1 (HM.2.trans HHE.symm) (HBD.out k x HX0.out HHE.out) Y8 (⟨λh=>bY,λh=>absurd h HFA.out⟩));have z351z:=@aa _ @abU;exact zk
  have hk1:¬(k:Int)<l5:=af
  obtain⟨k0,k1,k2,k3,k4,k5⟩:=cs6 Bc2;have ltc:=ae Bc2.out;go_wp2;have HO2:=HO;rw[afz af] at HO2;exact OP
theorem BU(c:Cl) (w:World) (h0:0<=c.now) (h1:c.now<=1000000):
  Calls Tryz.prog 56 #[Y4 Y5 1000000,Y4 Y5 (c.now+10)] w λe w'=>e=Y9 (Y4 Y5 (da c))/\Below w.heap.size w w':=by
 unfold da;by_cases hl:c.now+10<1000000
 ·rw[if_pos hl];have hl2:¬1000000<c.now+10:=af
  exact vJ
 ·rw[if_neg hl];by_cases he:c.now+10=1000000
  ·rw[he];exact vJ
  ·have hl2:1000000<c.now+10:=af
   exact vJ
theorem StJ.akr {N:Nat->Prop} (h:StJ g m T S N w wr rs j r) {i:Nat} {old:Fv} (hi:r[i]?=Y3 old) (a:Option Addr) (q:Nat) (hq:q<=9223372036854775807):StJ g m T S N w (wr.setCell ⟨g,j*m+i,U⟩ (J a 0 q)) rs j (r.set i (.l [])):=by
 have z266z:=@aa _ @acW;exact zv
theorem StJ.amc(h:StJ g m T S (λk=>B<=k) w wr rs j r) {i:Nat} {old:Fv} (hi:r[i]?=Y3 old) {a:Option Addr} {l q:Nat} {zs:List ByteArray} (ht:bN wr a l q zs (λk=>B<=k)) (hS:∀k,B<=k->k<wr.heap.size->S k) (hg:g<B):∃cur H,en (wr.setCell ⟨g,j*m+i,U⟩ (J a l q)) g m T (rs.set j (r.set i (.l zs))) S cur H:=by
 obtain⟨⟨h1,h2,h3,h4,h5⟩,h6⟩:=ht;by_cases hz:zs=[]
 ·subst hz;obtain rfl:l=0:=h1.symm;obtain⟨⟨cur,H,h7,_⟩,_⟩:=h.akr hi a q h3;exact⟨cur,H,h7⟩
 ·obtain⟨gm,cur,rfl,hm,hb⟩:=h6.resolve_left hz;have hm1:B<=gm:=hm;have hgl:=ae hb;obtain⟨b,o,e,hlt,hc⟩:=h5.resolve_left hz;cases e;obtain⟨⟨cur2,H,h7,_⟩,_⟩:=h.amd (b:=gm) hi zs (λ_=>hm1) ⟨_,l,q,rfl,h1,h2,h3,h4,Zb ⟨rfl,hS gm hm1 hgl,by omega,cur,hb,λk x hx=>by have h8:=hc k x hx;rw[Yq,an hb] at h8;exact h8⟩⟩;exact⟨cur2,H,h7⟩
theorem aH.Q4 {xs:List α} {x y:α} (h:aH nm xs) (hx:xs[k]?=Y3 x) (e:nm y=nm x):aH nm (xs.set k y):=by
 have hk:k<xs.length:=(Yc.1 hx).1;have key:∀(j:Nat) a,(xs.set k y)[j]?=Y3 a->∃a',xs[j]?=Y3 a'/\nm a=nm a':=λj a ha=>by
  rw[ch hk] at ha;split at ha
  ·rename_i e2;subst e2;obtain rfl:=Yd ha;exact⟨x,hx,e⟩
  ·exact⟨a,ha,rfl⟩
 intro j a b ha hb;obtain⟨a',h1,h2⟩:=key _ a ha;obtain⟨b',h3,h4⟩:=key _ b hb;rw[h2,h4];exact h j a' b' h1 h3
theorem kd(d:Ad) (c:Cl) (t:ByteArray) (w:World) (hr:aB w d c.raw):
  Calls Tryz.prog 31 #[Za #[J d.a1 d.l1 d.c1,J d.a2 d.l2 d.c2,J d.a3 d.l3 d.c3,J d.a4 d.l4 d.c4,J d.a5 d.l5 d.c5,Y4 Y5 c.now],I t] w (im (nT c t) w):=by
 obtain⟨a1,l1,y1,a2,l2,y2,a3,l3,y3,a4,l4,y4,a5,l5,y5⟩:=d;dsimp only;obtain⟨HR,hl1,hm1,hl2,hm2,hl3,hm3,hl4,hm4,hl5,hm5⟩:=ak2;clear hr;have HB:=aa (Yh w.heap.size w);go_enter Tryz.func31,Tryz.ntmps31;have z1642z:=@aa _ @DC;exact lY
theorem gS:(Tryz.prog.info? 33).map (·.size)=Y3 8:=by kernel_rfl
def ahn(B:Nat) (w0:World) (p:Nat) (v:Value) (len:Nat) (c:Cl) (w:World) (e:Ending) (w':World):Prop:=∃(g:Ad) (o:Co),e=Y9 (Za #[J g.a1 g.l1 g.c1,J g.a2 g.l2 g.c2,J g.a3 g.l3 g.c3,J g.a4 g.l4 g.c4,J g.a5 g.l5 g.c5,Y4 Y5 o.c.now,I o.n,Y4 Y5 o.p])/\(o.p=0->Gd c o.c)/\aB w' g o.c.raw/\Low w.heap.size w' g/\Dr B w0 p v len w w'
theorem eight {q:Nat} {c0 c1 c2 c3 c4 c5 c6 c7 v0 v1 v2 v3 v4 v5 v6 v7:Value} (h:w.heap[q]?=Y3 (Y6 #[c0,c1,c2,c3,c4,c5,c6,c7] T (0,0))):((((((((w.setCell ⟨q,0,U⟩ v0).setCell ⟨q,1,U⟩ v1).setCell ⟨q,2,U⟩ v2).setCell ⟨q,3,U⟩ v3).setCell ⟨q,4,U⟩ v4).setCell ⟨q,5,U⟩ v5).setCell ⟨q,6,U⟩ v6).setCell ⟨q,7,U⟩ v7)=w.setRow q #[v0,v1,v2,v3,v4,v5,v6,v7]:=by
 unfold YO World.setRow;simp only[World.mk.injEq,and_true];apply Array.ext_getElem?;intro k;simp only[Array.getElem?_modify];by_cases e:q=k
 ·subst e;simp[h]
 ·simp[e]
theorem fI.lower {B':Nat} {c:Cr} (h:fI B w d c) (hb:B'<=B):fI B' w d c:=fI.of h.row (h.low.to hb (λ_ u=>u))
theorem Dr.row {p:Nat} {wa:World} (h:Dr B w0 p v len wa w) {q:Nat} (cs:Array Value) (hq:wa.heap.size<=q):Dr B w0 p v len wa (w.setRow q cs):=by
 have hl:=h.lt;have hB:B<=p:=h.src.1;have hg:w.grownBy (w.setRow q cs) (Y3 q):=⟨rfl,rfl,rfl,by simp,λk _ hn=>setRow_other _ _ _ _ (λe=>hn (by rw[e]))⟩;exact⟨h.src.az hg (λe=>by simp at e;omega) (λk hk=>by simp at hk;omega),oN h.gr hg (λk hk=>by simp at hk;omega),h.lt⟩
theorem lL {p:Nat} {w9:World} {g:Ad} {q:Nat} (hd:Dr B w0 p v len w w9) {X:Nat} (ho:fI X w9 g o.c.raw) (hX:w.heap.size<=X) (hb:w9.heap[q]?=Y3 (Y6 #[J U 0 0,J U 0 0,J U 0 0,J U 0 0,J U 0 0,Y4 Y5 0,I ⟨#[]⟩,Y4 Y5 0] 33 (0,0))) (hq:w.heap.size<=q) (hn:o.n.size<=9223372036854775807) (hi:o.p=0->Gd c o.c):
  ahn B w0 p v len c w (Y9 (Za #[J g.a1 g.l1 g.c1,J g.a2 g.l2 g.c2,J g.a3 g.l3 g.c3,J g.a4 g.l4 g.c4,J g.a5 g.l5 g.c5,Y4 Y5 o.c.now,I o.n,Y4 Y5 o.p])) (w9.setRow q #[J g.a1 g.l1 g.c1,J g.a2 g.l2 g.c2,J g.a3 g.l3 g.c3,J g.a4 g.l4 g.c4,J g.a5 g.l5 g.c5,Y4 Y5 o.c.now,I o.n,Y4 Y5 o.p]):=by
 obtain⟨c',hl,hr⟩:=ho.row.res (p:=q) (w':=w9.setRow q #[J g.a1 g.l1 g.c1,J g.a2 g.l2 g.c2,J g.a3 g.l3 g.c3,J g.a4 g.l4 g.c4,J g.a5 g.l5 g.c5,Y4 Y5 o.c.now,I o.n,Y4 Y5 o.p]) ⟨⟨rfl,rfl,rfl,by simp,λk _ hn=>setRow_other _ _ _ _ hn⟩,λi x h=>by
  rw[an hb i] at h
  rcases i with _|_|_|_|_|_|_|_|i
  all_goals first
   | exact⟨by omega,λ_=>rfl⟩
   | (cases h;exact⟨by omega,λ⟨_,e⟩=>by cases e⟩)
   | (simp at h),o.n,an (setRow_heap _ q _ #[J g.a1 g.l1 g.c1,J g.a2 g.l2 g.c2,J g.a3 g.l3 g.c3,J g.a4 g.l4 g.c4,J g.a5 g.l5 g.c5,Y4 Y5 o.c.now,I o.n,Y4 Y5 o.p] _ _ hb) 6,hn⟩
 have e:c'.now=o.c.now:=hl.2.2.2.2.2;exact⟨g,⟨c',o.n,o.p⟩,by rw[<-e],λh=>⟨hl.1.trans (hi h).1,hl.2.1.trans (hi h).2⟩,hr,ho.low.to hX (λ_ u=>u.row),Rc.Dr.row hd _ hq⟩
theorem Bt {p:Nat} (h:Src B w0 p v len w) (d:Ad) (c:Cl) (hr:aB w d c.raw):
  Calls Tryz.prog 32 #[Zd (Y3 ⟨p,0,U⟩),Za #[J d.a1 d.l1 d.c1,J d.a2 d.l2 d.c2,J d.a3 d.l3 d.c3,J d.a4 d.l4 d.c4,J d.a5 d.l5 d.c5,Y4 Y5 c.now]] w (ahn B w0 p v len c w):=by
 have HD:=aa (Dr.start h);have HP:=aa h.nJ;have HN:=aa (bT h);have HR:=aa hr;clear h hr;go_enter Tryz.func32,Tryz.ntmps32;go_wp2_with fail;have HD0:=aa ((HD.alloc (Y6 (clv d c.now) 29)).alloc (Y6 #[J U 0 0,J U 0 0,J U 0 0,J U 0 0,J U 0 0,Y4 Y5 0,I ⟨#[]⟩,Y4 Y5 0] 33));have Bk:Hid (((w.alloc (Y6 (clv d c.now) 29)).alloc (Y6 #[J U 0 0,J U 0 0,J U 0 0,J U 0 0,J U 0 0,Y4 Y5 0,I ⟨#[]⟩,Y4 Y5 0] 33)).heap[w.heap.size]?=Y3 (Y6 (clv d c.now) 29 (0,0))):=d_ _ _ _;have Br:Hid (((w.alloc (Y6 (clv d c.now) 29)).alloc (Y6 #[J U 0 0,J U 0 0,J U 0 0,J U 0 0,J U 0 0,Y4 Y5 0,I ⟨#[]⟩,Y4 Y5 0] 33)).heap[w.heap.size+1]?=Y3 (Y6 #[J U 0 0,J U 0 0,J U 0 0,J U 0 0,J U 0 0,Y4 Y5 0,I ⟨#[]⟩,Y4 Y5 0] 33 (0,0))):=heap_alloc2_new _ _ _;clear HD;go_wp2_with fail;refine (bZ HD0.src [⟨#[110,49]⟩,⟨#[110,50]⟩,⟨#[110,51]⟩] 3 _ _ aF rfl ag ag ag).mono ?_;rintro e w1 ⟨tn,rfl,htn,hs,hg⟩;have HD1:=aa (HD0.next hs hg);replace Bk:=aa (gk hg cG Bk.out);replace Br:=aa (gk hg cG Br.out);clear hs hg HD0;go_wp2_with fail;refine (bZ HD1.src [⟨#[112,49]⟩,⟨#[112,50]⟩,⟨#[112,51]⟩,⟨#[112,52]⟩] 4 _ _ aF rfl ag ag ag).mono ?_;rintro e w2 ⟨tp,rfl,htp,hs,hg⟩;have HD2:=aa (HD1.next hs hg);replace Bk:=aa (gk hg cG Bk.out);replace Br:=aa (gk hg cG Br.out);clear hs hg HD1;go_wp2_with fail;refine (bZ HD2.src [⟨#[99,49]⟩,⟨#[99,50]⟩,⟨#[99,51]⟩,⟨#[99,52]⟩] 4 _ _ aF rfl ag ag ag).mono ?_;rintro e w3 ⟨tc,rfl,htc,hs,hg⟩;have HD3:=aa (HD2.next hs hg);replace Bk:=aa (gk hg cG Bk.out);replace Br:=aa (gk hg cG Br.out);clear hs hg HD2;go_wp2_with fail;refine (HD3.src.n 22 ag).mono ?_;rintro e w4 ⟨r,rfl,ra,rb,hs,hg⟩;have HD4:=aa (HD3.next hs hg);replace Bk:=aa (gk hg cG Bk.out);replace Br:=aa (gk hg cG Br.out);clear hs hg HD3;replace HR:=aa (HR.bP HN.out (aS HD4.gr));have hlr:=ae Br.out;have HLR:=aa hlr;have z357z:=@aa _ @abQ;exact ey
theorem aT.tail(h:aT w a len cap m (r ::rs)) (hc:1<=cap):aT w (a.map λx=>x.add (1*m)) (len - 1) (cap - 1) m rs:=by
 obtain⟨h1,h2,h3,h5⟩:=h;simp at h1;refine⟨by omega,by omega,by omega,?_⟩;rcases h5 with h5|⟨b,o,rfl,hl,hx⟩
 ·cases h5
 refine Zb ⟨b,o+1*m,by simp only[Option.map_some,Yo],hl,λj x hj=>?_⟩;have:=hx (j+1) x hj;rw[Nat.add_mul,Nat.add_comm (j*m),<-Nat.add_assoc] at this;exact this
theorem LoA.tail(m:Nat) (h:LoA B w a len):LoA B w (a.map λx=>x.add (1*m)) (len - 1):=by
 rcases h with h|⟨b,o,rfl,h2⟩
 ·exact Zc af
 ·exact Zb ⟨b,o+1*m,by simp only[Option.map_some,Yo],h2⟩
theorem ahv(w:World) (t:ByteArray) (h:t.size<=100):ay (w.alloc (Y6 #[I t] 9)) (Y3 ⟨w.heap.size,0,U⟩) 1 1 [t]:=by
 refine⟨rfl,Ye _,by decide,λj x hj=>?_,Zb ⟨w.heap.size,0,rfl,by simp,λj x hj=>?_⟩⟩
 ·rcases j with _|j
  ·obtain rfl:t=x:=by simpa using hj
   omega
  ·simp at hj
 ·rcases j with _|j
  ·obtain rfl:t=x:=by simpa using hj
   exact an (show (w.alloc (Y6 #[I t] 9)).heap[w.heap.size]?=_ from Yg) 0
  ·simp at hj
theorem UF.nN(h:UF w g) (i:Nat):w.frozen? ⟨g,i,U⟩=Y8:=by
 obtain⟨cs,T,h⟩:=h;exact al h i
theorem UF.Qs(h:UF w g):UF w.drew g:=h
theorem il.Qs {p:Nat} {b:Nat} {w1:World} {c':Cl} (h:il B w0 p v len X b c w w1 d c'):il B w0 p v len X b c w w1.drew d c':=
 ⟨h.blk,h.row.below (aU _),h.low.to (Ye _) (λ_ u=>u),cD h.src,h.kept.below (aU _),h.ld⟩
theorem wQ {p:Nat} (h:Src B w0 p v len w) (X b:Nat) (d:Ad) (c:Cl) (hr:aB w d c.raw) (hlo:Low X w d) (hb:w.heap[b]?=Y3 (Y6 #[J d.a1 d.l1 d.c1,J d.a2 d.l2 d.c2,J d.a3 d.l3 d.c3,J d.a4 d.l4 d.c4,J d.a5 d.l5 d.c5,Y4 Y5 c.now] 29 (0,0))) (hbp:¬b=p) (hBX:B<=X) (hXb:X<=b) (hn:2<=c.ns.length) (hk:1<=c.ks.length):
  Calls Tryz.prog 33 #[Zd (Y3 ⟨p,0,U⟩),Zd (Y3 ⟨b,0,U⟩)] w (λe w'=>e=Y9 (Ze #[])/\∃d' c',il B w0 p v len X b c w w' d' c'):=by
 have HS:=aa (show il B w0 p v len X b c w w d c from ⟨hb,hr,hlo,h,aG.refl _ _,rfl⟩);have HN:=aa hn;have HK:=aa hk;have Bk:=aa hb;have hpl:=h.nJ;clear h hr hlo hb hn hk;obtain⟨a1,l1,y1,a2,l2,y2,a3,l3,y3,a4,l4,y4,a5,l5,y5⟩:=d;have hl1:c.ns.length=l1:=af9
 have hl2:c.ks.length=l2:=by simpa using (show (c.ks.map kdF).length=l2 from HS.row.k.1)
 have hl4:c.xs.length=l4:=by simpa using (show (c.xs.map xdF).length=l4 from HS.row.x.1)
 have hl5:c.ps.length=l5:=by simpa using (show (c.ps.map pdF).length=l5 from HS.row.p.1)
 go_enter Tryz.func33,Tryz.ntmps33;go_wp2_with fail;refine (HS.src.n 6 ag).mono ?_;rintro e w1 ⟨r,rfl,ra,rb,hs,hg⟩;replace HS:=aa (HS.draw hbp hs hg);replace Bk:=aa HS.blk;replace hpl:=hs.nJ;clear hs hg;rcases (by omega:r=0\/r=1\/r=2\/r=3\/r=4\/r=5) with rfl|rfl|rfl|rfl|rfl|rfl
 ·have z357z:=@aa _ @abO;exact ey
 ·have hj:0<l1:=by have:=HN.out;omega
  obtain⟨g,o,x,rfl,hgl,-,hat⟩:=dn HS.row.n hj;obtain⟨hXg,huf⟩:=HS.low.n.at rfl (by show 0<l1;omega);rw[Nat.zero_mul,Nat.add_zero] at hat;obtain⟨va,vl,vc,-,-,-,c0,c1,c2,c3,c4,c5,c6⟩:=aZ hat;obtain⟨hgb,hgp⟩:=zR;clear hat;have z357z:=@aa _ @abN;exact ey
 ·have hj:1<l1:=by have:=HN.out;omega
  obtain⟨g,o,x,rfl,hgl,-,hat⟩:=dn HS.row.n hj;obtain⟨hXg,huf⟩:=HS.low.n.at rfl (by show 0<l1;omega);obtain⟨va,vl,vc,-,-,-,c0,c1,c2,c3,c4,c5,c6⟩:=aZ hat;obtain⟨hgb,hgp⟩:=zR;clear hat;have z357z:=@aa _ @abM;exact ey
 ·by_cases hj:0<l4
  ·obtain⟨g,o,x,rfl,hgl,-,hat⟩:=eI HS.row.x hj;obtain⟨hXg,huf⟩:=HS.low.x.at rfl (by show 0<l4;omega);rw[Nat.zero_mul,Nat.add_zero] at hat;obtain⟨-,-,-,c0,c1,c2,c3,c4⟩:=cn hat;obtain⟨hgb,hgp⟩:=zR;clear hat;have z357z:=@aa _ @abL;exact ey
  ·exact O0
 ·by_cases hj:0<l5
  ·obtain⟨g,o,x,rfl,hgl,-,hat⟩:=cq HS.row.p hj;obtain⟨hXg,huf⟩:=HS.low.p.at rfl (by show 0<l5;omega);rw[Nat.zero_mul,Nat.add_zero] at hat;obtain⟨va,vl,vc,-,-,-,-,c0,c1,cz,c3,c4,c5⟩:=bD hat;obtain⟨hgb,hgp⟩:=zR;clear hat;have z357z:=@aa _ @abK;exact ey
  ·exact O0
 ·have z357z:=@aa _ @abJ;exact ey
def bN1:ByteArray:=⟨#[110,49]⟩
def bN2:ByteArray:=⟨#[110,50]⟩
def bN3:ByteArray:=⟨#[110,51]⟩
def Qz:ByteArray:=⟨#[101,97,115,116]⟩
def alC:ByteArray:=⟨#[119,101,115,116]⟩
def alE:ByteArray:=⟨#[102,97,115,116]⟩
def alD:ByteArray:=⟨#[115,108,111,119]⟩
def bE:ByteArray:=⟨#[]⟩
def kS:Cl:=⟨[⟨bN1,Qz,2000,3,0,Y8,[]⟩,⟨bN2,Qz,1500,2,0,Y8,[]⟩,⟨bN3,alC,2000,2,0,Y8,[]⟩],[⟨alE,Y8,Y8,Qz⟩,⟨alD,Y_,Y_,bE⟩],[],[],[],0⟩
theorem uN(w:World):Calls Tryz.prog 30 #[] w λe w'=> ∃d,e=Y9 (Za #[J d.a1 d.l1 d.c1,J d.a2 d.l2 d.c2,J d.a3 d.l3 d.c3,J d.a4 d.l4 d.c4,J d.a5 d.l5 d.c5,Y4 Y5 0])/\cX w' d kS.raw (λk=>w.heap.size<=k)/\Below w.heap.size w w':=by
 go_enter Tryz.func30,Tryz.ntmps30;go_wp2;refine bodyPost_ret (v:=Za #[J (Y3 ⟨w.heap.size+1,0,U⟩) 3 3,J (Y3 ⟨w.heap.size+1+1,0,U⟩) 2 2,J U 0 0,J U 0 0,J U 0 0,Y4 Y5 0]) (by simp[results,Tryz.results30,go_sem]) rfl ⟨⟨Y3 ⟨w.heap.size+1,0,U⟩,3,3,Y3 ⟨w.heap.size+1+1,0,U⟩,2,2,U,0,0,U,0,0,U,0,0⟩,rfl,⟨λk=>if k=w.heap.size+1 then 1 else 2,?_,?_,?_,?_,?_⟩,dj _ _ _ _⟩
 ·refine⟨rfl,Ye _,show (3:Nat)<=9223372036854775807 by omega,Zb ⟨w.heap.size+1,_,λ_ _=>0,rfl,lF _ _ _ _,⟨by omega,if_pos rfl⟩,?_,?_,?_⟩⟩
  ·intro j r hj;rcases j with _|_|_|j <;> first|(cases hj;rfl)|(simp[kS,Cl.raw] at hj)
  ·intro j r hj i f hi;rcases j with _|_|_|j <;> first|cases hj|(simp[kS,Cl.raw] at hj;done)
   all_goals
    rcases i with _|_|_|_|_|_|_|i <;> first|cases hi|(simp[ndF] at hi;done)
   all_goals first|exact⟨_,rfl,rfl,by decide⟩|exact⟨_,rfl,rfl⟩|exact⟨_,rfl,U,0,0,rfl,rfl,Ye _,by decide,λj x hx=>by simp at hx,Zc rfl⟩
  ·intro j r i zs j' r' i' zs' hj hi hz;exfalso;rcases j with _|_|_|j <;> first|cases hj|(simp[kS,Cl.raw] at hj;done)
   all_goals
    rcases i with _|_|_|_|_|_|_|i <;> first|(cases hi;done)|(cases hi;exact hz rfl)|(simp[ndF] at hi;done)
 ·refine⟨rfl,Ye _,show (2:Nat)<=9223372036854775807 by omega,Zb ⟨w.heap.size+1+1,_,λ_ _=>0,rfl,lE _ _ _ _,⟨by omega,if_neg af⟩,?_,?_,?_⟩⟩
  ·intro j r hj;rcases j with _|_|j <;> first|(cases hj;rfl)|(simp[kS,Cl.raw] at hj)
  ·intro j r hj i f hi;rcases j with _|_|j <;> first|cases hj|(simp[kS,Cl.raw] at hj;done)
   all_goals
    rcases i with _|_|_|_|i <;> first|cases hi|(simp[kdF] at hi;done)
   all_goals first|exact⟨_,rfl,rfl,by decide⟩|exact⟨_,rfl,rfl⟩
  ·intro j r i zs j' r' i' zs' hj hi hz;exfalso;rcases j with _|_|j <;> first|cases hj|(simp[kS,Cl.raw] at hj;done)
   all_goals
    rcases i with _|_|_|_|i <;> first|(cases hi;done)|(simp[kdF] at hi;done)
 ·exact vI
 ·exact vI
 ·exact vI
structure CS (B:Nat) (w0:World) (p:Nat) (v:Value) (len:Nat) (wa wx:World) (bc:Nat) (d:Ad) (c:Cl):Prop where
 blk:wx.heap[bc]?=Y3 (Y6 (clv d c.now) 29 (0,0))
 res:wx.heap[wa.heap.size]?=Y3 (Y6 (clo6 U 0 0 U 0 0 U 0 0 U 0 0 U 0 0 0) 29 (0,0))
 lt:wa.heap.size<bc
 row:aB wx d c.raw
 low:Low wa.heap.size wx d
 dr:Dr B w0 p v len wa wx
 ns:c.ns.length=3
 ks:c.ks.length=2
section
variable {B:Nat} {w0:World} {p:Nat} {v:Value} {len:Nat} {wa wx w2:World} {bc:Nat} {d:Ad} {c:Cl}
theorem CS.bp(h:CS B w0 p v len wa wx bc d c):¬bc=p:=by have:=h.dr.lt;have:=h.lt;omega
theorem CS.below(h:CS B w0 p v len wa wx bc d c) (hb:Below wx.heap.size wx w2):CS B w0 p v len wa w2 bc d c:=
 ⟨(hb.block _ (ae h.blk)).trans h.blk,(hb.block _ (ae h.res)).trans h.res,h.lt,h.row.below hb,h.low.to (Ye _) (λ_ u=>u.below hb),h.dr.below hb,h.ns,h.ks⟩
theorem CS.draw(h:CS B w0 p v len wa wx bc d c) (hs:Src B w0 p v len w2) (hg:wx.grownBy w2 (Y3 p)):CS B w0 p v len wa w2 bc d c:=
 ⟨gk hg h.bp h.blk,gk hg (by have:=h.dr.lt;omega) h.res,h.lt,h.row.bP (bT h.dr.src) (aS hg),h.low.to (Ye _) (λ_ u=>u.draw hs hg),h.dr.next hs hg,h.ns,h.ks⟩
theorem CS.put(h:CS B w0 p v len wa wx bc d c) {g:Ad} {c':Cl} (hr:aB wx g c'.raw) (hl:Low wa.heap.size wx g) (hn:c'.ns.length=3) (hk:c'.ks.length=2):
  CS B w0 p v len wa ((((((wx.setCell ⟨bc,0,U⟩ (J g.a1 g.l1 g.c1)).setCell ⟨bc,1,U⟩ (J g.a2 g.l2 g.c2)).setCell ⟨bc,2,U⟩ (J g.a3 g.l3 g.c3)).setCell ⟨bc,3,U⟩ (J g.a4 g.l4 g.c4)).setCell ⟨bc,4,U⟩ (J g.a5 g.l5 g.c5)).setCell ⟨bc,5,U⟩ (Y4 Y5 c'.now)) bc g c':=by
 obtain⟨hlt,hk9,h6⟩:=agy;have hle:wa.heap.size<=bc:=Nat.le_of_lt hlt;exact⟨h6,(hk9.block _ (ae h.res) af).trans h.res,hlt,hr.bP (cP h.blk) hk9,hl.to (Ye _) (λ_ u=>u.set.set.set.set.set.set),(((((h.dr.set _ hle).set _ hle).set _ hle).set _ hle).set _ hle).set _ hle,hn,hk⟩
end
def YS(B:Nat) (w0:World) (p:Nat) (v:Value) (len:Nat) (wa:World) (bc:Nat) (d:Ad) (c:Cl) (s:Value) (wx:World):Prop:=∃(r:Nat) (g:Ad) (o:Co),s=Zd (Y3 ⟨r,0,U⟩)/\CS B w0 p v len wa wx bc d c/\wx.heap[r]?=Y3 (Y6 #[J g.a1 g.l1 g.c1,J g.a2 g.l2 g.c2,J g.a3 g.l3 g.c3,J g.a4 g.l4 g.c4,J g.a5 g.l5 g.c5,Y4 Y5 o.c.now,I o.n,Y4 Y5 o.p] 33 (0,0))/\aB wx g o.c.raw/\Low wa.heap.size wx g/\(o.p=0->Gd c o.c)/\¬r=bc/\¬r=p
section
variable {B:Nat} {w0:World} {p:Nat} {v:Value} {len:Nat} {wa wr w9 W:World} {bc:Nat} {d g:Ad} {c:Cl} {o:Co} {X:Nat}
theorem ahq(hs:CS B w0 p v len wa wr bc d c) (hb:Below wr.heap.size wr w9) (ho:fI X w9 g o.c.raw) (hX:wa.heap.size<=X) (hg:o.p=0->Gd c o.c):YS B w0 p v len wa bc d c (Zd (Y3 ⟨w9.heap.size,0,U⟩)) (w9.alloc (Y6 #[J g.a1 g.l1 g.c1,J g.a2 g.l2 g.c2,J g.a3 g.l3 g.c3,J g.a4 g.l4 g.c4,J g.a5 g.l5 g.c5,Y4 Y5 o.c.now,I o.n,Y4 Y5 o.p] 33)):=by
 have h1:=ae hs.blk;have h2:=hb.size;have h3:=hs.dr.src.nJ;exact⟨_,g,o,rfl,hs.below (hb.trans ((ak _ _).mono h2)),(Yg:(w9.alloc _).heap[w9.heap.size]?=_),ho.row.below (ak _ _),ho.low.to hX (λ_ u=>u.below (ak _ _)),hg,by omega,by omega⟩
theorem ahp(hs:CS B w0 p v len wa wr bc d c) (hb:Below wr.heap.size wr w9) (hr:w9.heap[wr.heap.size]?=Y3 (Y6 #[J U 0 0,J U 0 0,J U 0 0,J U 0 0,J U 0 0,Y4 Y5 0,I ⟨#[]⟩,Y4 Y5 0] 33 (0,0))) (ho:fI X w9 g o.c.raw) (hX:wa.heap.size<=X) (hn:o.n.size<=9223372036854775807) (hg:o.p=0->Gd c o.c):YS B w0 p v len wa bc d c (Zd (Y3 ⟨wr.heap.size,0,U⟩)) (w9.setRow wr.heap.size #[J g.a1 g.l1 g.c1,J g.a2 g.l2 g.c2,J g.a3 g.l3 g.c3,J g.a4 g.l4 g.c4,J g.a5 g.l5 g.c5,Y4 Y5 o.c.now,I o.n,Y4 Y5 o.p]):=by
 have h1:=ae hs.blk;have h3:=hs.dr.src.nJ;obtain⟨c',hl,hr'⟩:=ho.row.res (p:=wr.heap.size) (w':=w9.setRow wr.heap.size #[J g.a1 g.l1 g.c1,J g.a2 g.l2 g.c2,J g.a3 g.l3 g.c3,J g.a4 g.l4 g.c4,J g.a5 g.l5 g.c5,Y4 Y5 o.c.now,I o.n,Y4 Y5 o.p]) ⟨⟨rfl,rfl,rfl,by simp,λk _ hn=>setRow_other _ _ _ _ hn⟩,λi x h=>by
  rw[an hr i] at h
  rcases i with _|_|_|_|_|_|_|_|i
  all_goals first
   | exact⟨by omega,λ_=>rfl⟩
   | (cases h;exact⟨by omega,λ⟨_,e⟩=>by cases e⟩)
   | (simp at h),o.n,an (setRow_heap _ _ _ #[J g.a1 g.l1 g.c1,J g.a2 g.l2 g.c2,J g.a3 g.l3 g.c3,J g.a4 g.l4 g.c4,J g.a5 g.l5 g.c5,Y4 Y5 o.c.now,I o.n,Y4 Y5 o.p] _ _ hr) 6,hn⟩
 have e:c'.now=o.c.now:=hl.2.2.2.2.2;have hbw:Below wr.heap.size wr (w9.setRow wr.heap.size #[J g.a1 g.l1 g.c1,J g.a2 g.l2 g.c2,J g.a3 g.l3 g.c3,J g.a4 g.l4 g.c4,J g.a5 g.l5 g.c5,Y4 Y5 o.c.now,I o.n,Y4 Y5 o.p]):=⟨hb.os,hb.tape,hb.output,by simpa using hb.size,λk hk=>(setRow_other _ _ _ _ af).trans (hb.block k hk)⟩;exact⟨_,g,⟨c',o.n,o.p⟩,rfl,hs.below hbw,by rw[show (Co.mk c' o.n o.p).c.now=o.c.now from e];exact setRow_heap _ _ _ _ _ _ hr,hr',ho.low.to hX (λ_ u=>u.row),λh=>⟨hl.1.trans (hg h).1,hl.2.1.trans (hg h).2⟩,by omega,by omega⟩
end
theorem LoA.up(h:LoA X w a len) (hr:aT w a len cap m rs) (hN:QH rs) (hn:kV w X):LoA (X+1) w a len:=by
 by_cases hl0:len=0
 ·exact Zc hl0
 obtain⟨b',o',r,e,_,hx,hat⟩:=hr.at (j:=0) af;obtain⟨t,ht⟩:=hN 0 r hx;obtain⟨v,hv,rfl,_⟩:=hat 0 _ ht;rcases h with h|⟨b,o,h1,h2,h3⟩
 ·exact absurd h hl0
 rw[h1] at e;cases e;refine Zb ⟨b',o',h1,?_,h3⟩;rcases Nat.lt_or_ge X b' with h4|h4
 ·exact h4
 obtain rfl:b'=X:=af
 exact absurd hv (hn _ _)
theorem Low.up(h:Low X w d) (hr:aB w d c.raw) (hn:kV w X):Low (X+1) w d:=
 ⟨h.n.up hr.n (cE (λx=>⟨x.n,rfl⟩) c.ns) hn,h.k.up hr.k (cE (λx=>⟨x.n,rfl⟩) c.ks) hn,h.v.up hr.v (cE (λx=>⟨x.n,rfl⟩) c.vs) hn,h.x.up hr.x (cE (λx=>⟨x.n,rfl⟩) c.xs) hn,h.p.up hr.p (cE (λx=>⟨x.n,rfl⟩) c.ps) hn⟩
def QO(B:Nat) (w0:World) (p:Nat) (v:Value) (len:Nat) (w:World) (e:Ending) (w':World):Prop:=∃(d:Ad) (c:Cl),e=Y9 (Za #[J d.a1 d.l1 d.c1,J d.a2 d.l2 d.c2,J d.a3 d.l3 d.c3,J d.a4 d.l4 d.c4,J d.a5 d.l5 d.c5,Y4 Y5 c.now])/\aB w' d c.raw/\Low w.heap.size w' d/\Src B w0 p v len w'/\w.grownBy w' (Y3 p)
theorem Qu {p:Nat} {wa wx:World} (hg:wa.grownBy wx (Y3 p)) (hlt:p<wa.heap.size) (hb:wx.heap[wa.heap.size]?=Y3 (Y6 #[J U 0 0,J U 0 0,J U 0 0,J U 0 0,J U 0 0,Y4 Y5 0] 29 (0,0))) (hr:aB wx d c.raw) (hl:Low wa.heap.size wx d) (hs:Src B w0 p v len wx):
  QO B w0 p v len wa (Y9 (Za #[J d.a1 d.l1 d.c1,J d.a2 d.l2 d.c2,J d.a3 d.l3 d.c3,J d.a4 d.l4 d.c4,J d.a5 d.l5 d.c5,Y4 Y5 c.now])) ((((((wx.setCell ⟨wa.heap.size,0,U⟩ (J d.a1 d.l1 d.c1)).setCell ⟨wa.heap.size,1,U⟩ (J d.a2 d.l2 d.c2)).setCell ⟨wa.heap.size,2,U⟩ (J d.a3 d.l3 d.c3)).setCell ⟨wa.heap.size,3,U⟩ (J d.a4 d.l4 d.c4)).setCell ⟨wa.heap.size,4,U⟩ (J d.a5 d.l5 d.c5)).setCell ⟨wa.heap.size,5,U⟩ (Y4 Y5 c.now)):=by
 have hk9:=(((((aG.refl (λk=>k=wa.heap.size) wx).set (i:=0) (v:=J d.a1 d.l1 d.c1) rfl).set (i:=1) (v:=J d.a2 d.l2 d.c2) rfl).set (i:=2) (v:=J d.a3 d.l3 d.c3) rfl).set (i:=3) (v:=J d.a4 d.l4 d.c4) rfl).set (i:=4) (v:=J d.a5 d.l5 d.c5) rfl |>.set (i:=5) (v:=Y4 Y5 c.now) rfl;have hd:=(((((((⟨hs,hg,hlt⟩:Dr B w0 p v len wa wx).set (i:=0) (J d.a1 d.l1 d.c1) (Ye _)).set (i:=1) (J d.a2 d.l2 d.c2) (Ye _)).set (i:=2) (J d.a3 d.l3 d.c3) (Ye _)).set (i:=3) (J d.a4 d.l4 d.c4) (Ye _)).set (i:=4) (J d.a5 d.l5 d.c5) (Ye _)).set (i:=5) (Y4 Y5 c.now) (Ye _));exact⟨d,c,rfl,hr.bP (cP (d:=ad0) hb) hk9,hl.to (Ye _) (λ_ u=>u.set.set.set.set.set.set),hd.src,hd.gr⟩
theorem oY {p:Nat} (h:Src B w0 p v len w):
  Calls Tryz.prog 10 #[Zd (Y3 ⟨p,0,U⟩)] w (QO B w0 p v len w):=by
 have hag:∀(d:Ad) (c:Cl) (t:ByteArray) (w:World),aB w d c.raw->Calls Tryz.prog 31 #[Za #[J d.a1 d.l1 d.c1,J d.a2 d.l2 d.c2,J d.a3 d.l3 d.c3,J d.a4 d.l4 d.c4,J d.a5 d.l5 d.c5,Y4 Y5 c.now],I t] w (im (λo=>(o.p=0->Gd c o.c)/\o.n.size<=9223372036854775807) w):=λd c t w hr=>(kd d c t w hr).mono λe w' ⟨g,o,h1,h2,h3,h4⟩=>⟨g,o,h1,⟨h2.gd,h2.nm⟩,h3,h4⟩;have hds:=λ(B:Nat) (w0:World) (p:Nat) (v:Value) (len:Nat) (w:World) (h:Src B w0 p v len w)=>Bt h;have HAG:=aa hag;have HDS:=aa hds;have HD:=aa (Dr.start h);clear h hag hds;go_enter Tryz.func10,Tryz.ntmps10;go_wp2_with fail;refine (uN _).mono ?_;rintro e w1 ⟨d,rfl,ho,hb⟩;have HD1:=aa ((HD.alloc (Y6 (clo6 U 0 0 U 0 0 U 0 0 U 0 0 U 0 0 0) 29)).below hb);obtain⟨HA0,hbx⟩:=bB hb;have hl1:=ho.lo (B:=w.heap.size) (λk s=>by simp at s;omega);have hba:=ak w1 (Y6 (clv d 0) 29);have HS:Hid (∃d' c,CS B w0 p v len w (w1.alloc (Y6 (clv d 0) 29)) w1.heap.size d' c):=⟨d,kS,⟨(Yg:(w1.alloc _).heap[w1.heap.size]?=_),(hba.block _ (ae HA0)).trans HA0,ae HA0,ho.row.below hba,hl1.to (Ye _) (λ_ u=>u.below hba),HD1.below hba,rfl,rfl⟩⟩;clear ho hb hbx HA0 hl1 HD1 hba;go_wp2;go_loopw [4] (λi wr=> ∃k:Nat,k<=3/\i=Y4 Y5 k/\Hid (∃d c,CS B w0 p v len w wr w1.heap.size d c)) (λi _=>3 - (intOf i).toNat);case atStart=>exact⟨0,by omega,rfl,HS⟩
 case round=>
  clear HS;obtain⟨k,hk,rfl,HX⟩:=hrel;obtain⟨d,c,hs⟩:=HX.out;have HS:=aa hs;clear HX hs;have Bc:=aa HS.blk;have z771z:=@aa _ @Uh;exact e_
structure ES (B:Nat) (w0:World) (p:Nat) (v:Value) (len:Nat) (r0:Nat) (wx:World) (bc:Nat) (d:Ad) (c:Cl):Prop where
 blk:wx.heap[bc]?=Y3 (Y6 (clv d c.now) 29 (0,0))
 res:wx.heap[r0]?=Y3 (Y6 (clo6 U 0 0 U 0 0 U 0 0 U 0 0 U 0 0 0) 29 (0,0))
 row:aB wx d c.raw
 src:Src B w0 p v len wx
 lt:r0<bc
 bp:¬bc=p
 rp:¬r0=p
 lo:B<=bc
section
variable {B:Nat} {w0:World} {p:Nat} {v:Value} {len:Nat} {r0:Nat} {wx w2:World} {bc:Nat} {d:Ad} {c:Cl}
theorem nX {w':World} (h:Src B w0 p v len w) (hb:Below w.heap.size w w'):Src B w0 p v len w':=h.az (row:=U) ⟨hb.os,hb.tape,hb.output,hb.size,λk hk _=>hb.block k hk⟩ (by simp) (by simp)
theorem ES.below(h:ES B w0 p v len r0 wx bc d c) (hb:Below wx.heap.size wx w2):ES B w0 p v len r0 w2 bc d c:=
 ⟨(hb.block _ (ae h.blk)).trans h.blk,(hb.block _ (ae h.res)).trans h.res,h.row.below hb,nX h.src hb,h.lt,h.bp,h.rp,h.lo⟩
theorem ES.draw(h:ES B w0 p v len r0 wx bc d c) (hs:Src B w0 p v len w2) (hg:wx.grownBy w2 (Y3 p)):ES B w0 p v len r0 w2 bc d c:=
 ⟨gk hg h.bp h.blk,gk hg h.rp h.res,h.row.bP (bT h.src) (aS hg),hs,h.lt,h.bp,h.rp,h.lo⟩
theorem ES.put(h:ES B w0 p v len r0 wx bc d c) {g:Ad} {c':Cl} (hr:aB wx g c'.raw):
  ES B w0 p v len r0 ((((((wx.setCell ⟨bc,0,U⟩ (J g.a1 g.l1 g.c1)).setCell ⟨bc,1,U⟩ (J g.a2 g.l2 g.c2)).setCell ⟨bc,2,U⟩ (J g.a3 g.l3 g.c3)).setCell ⟨bc,3,U⟩ (J g.a4 g.l4 g.c4)).setCell ⟨bc,4,U⟩ (J g.a5 g.l5 g.c5)).setCell ⟨bc,5,U⟩ (Y4 Y5 c'.now)) bc g c':=by
 obtain⟨hlt,hk9,h6⟩:=agy;have hg9:wx.grownBy ((((((wx.setCell ⟨bc,0,U⟩ (J g.a1 g.l1 g.c1)).setCell ⟨bc,1,U⟩ (J g.a2 g.l2 g.c2)).setCell ⟨bc,2,U⟩ (J g.a3 g.l3 g.c3)).setCell ⟨bc,3,U⟩ (J g.a4 g.l4 g.c4)).setCell ⟨bc,4,U⟩ (J g.a5 g.l5 g.c5)).setCell ⟨bc,5,U⟩ (Y4 Y5 c'.now)) (Y3 bc):=⟨hk9.os,hk9.tape,hk9.output,hk9.size,λk hk hn=>hk9.block k hk (λe=>hn (by rw[e]))⟩;exact⟨h6,(hk9.block _ (ae h.res) af).trans h.res,hr.bP (cP h.blk) hk9,h.src.az hg9 (λe=>h.bp (Yd e)) (λk e=>by have:=h.lo;have:=Yd e;omega),hlt,h.bp,h.rp,h.lo⟩
theorem ES.fin(h:ES B w0 p v len r0 wx bc d c) {w:World} (hw:w.heap.size=r0) (hB:w.heap.size<=B) (hW:Below w.heap.size w w0):aB ((((((wx.setCell ⟨r0,0,U⟩ (J d.a1 d.l1 d.c1)).setCell ⟨r0,1,U⟩ (J d.a2 d.l2 d.c2)).setCell ⟨r0,2,U⟩ (J d.a3 d.l3 d.c3)).setCell ⟨r0,3,U⟩ (J d.a4 d.l4 d.c4)).setCell ⟨r0,4,U⟩ (J d.a5 d.l5 d.c5)).setCell ⟨r0,5,U⟩ (Y4 Y5 c.now)) d c.raw/\Below w.heap.size w ((((((wx.setCell ⟨r0,0,U⟩ (J d.a1 d.l1 d.c1)).setCell ⟨r0,1,U⟩ (J d.a2 d.l2 d.c2)).setCell ⟨r0,2,U⟩ (J d.a3 d.l3 d.c3)).setCell ⟨r0,3,U⟩ (J d.a4 d.l4 d.c4)).setCell ⟨r0,4,U⟩ (J d.a5 d.l5 d.c5)).setCell ⟨r0,5,U⟩ (Y4 Y5 c.now)):=by
 subst hw;have hk9:=(((((aG.refl (λk=>k=w.heap.size) wx).set (i:=0) (v:=J d.a1 d.l1 d.c1) rfl).set (i:=1) (v:=J d.a2 d.l2 d.c2) rfl).set (i:=2) (v:=J d.a3 d.l3 d.c3) rfl).set (i:=3) (v:=J d.a4 d.l4 d.c4) rfl).set (i:=4) (v:=J d.a5 d.l5 d.c5) rfl |>.set (i:=5) (v:=Y4 Y5 c.now) rfl;have hb:=hW.trans (h.src.2.2.1.mono hB);exact⟨h.row.bP (cP (d:=ad0) h.res) hk9,hb.trans (hk9.low hb.size (λk e=>by omega))⟩
end
def EY(B:Nat) (w0:World) (p:Nat) (v:Value) (len:Nat) (r0 bc:Nat) (d:Ad) (c:Cl) (s:Value) (wx:World):Prop:=∃(r:Nat) (g:Ad) (o:Co) (c2:Cl),s=Zd (Y3 ⟨r,0,U⟩)/\ES B w0 p v len r0 wx bc d c2/\c2.ps.length=c.ps.length/\wx.heap[r]?=Y3 (Y6 #[J g.a1 g.l1 g.c1,J g.a2 g.l2 g.c2,J g.a3 g.l3 g.c3,J g.a4 g.l4 g.c4,J g.a5 g.l5 g.c5,Y4 Y5 o.c.now,I o.n,Y4 Y5 o.p] 33 (0,0))/\aB wx g o.c.raw/\(o.p=0->o.c.ps.length=c.ps.length)/\¬r=bc/\¬r=p
section
variable {B:Nat} {w0:World} {p:Nat} {v:Value} {len:Nat} {r0 r:Nat} {w9:World} {bc:Nat} {d g:Ad} {c:Cl} {o:Co} {X:Nat}
theorem Qo(hs:ES B w0 p v len r0 w9 bc d c) (ho:fI X w9 g o.c.raw) (hg:o.p=0->o.c.ps.length=c.ps.length):EY B w0 p v len r0 bc d c (Zd (Y3 ⟨w9.heap.size,0,U⟩)) (w9.alloc (Y6 #[J g.a1 g.l1 g.c1,J g.a2 g.l2 g.c2,J g.a3 g.l3 g.c3,J g.a4 g.l4 g.c4,J g.a5 g.l5 g.c5,Y4 Y5 o.c.now,I o.n,Y4 Y5 o.p] 33)):=by
 have h1:=ae hs.blk;have h3:=hs.src.nJ;exact⟨_,g,o,c,rfl,hs.below (ak _ _),rfl,(Yg:(w9.alloc _).heap[w9.heap.size]?=_),ho.row.below (ak _ _),hg,by omega,by omega⟩
theorem Qm(hs:ES B w0 p v len r0 w9 bc d c) (h1:bc<r) (h2:¬r=p) (hr:w9.heap[r]?=Y3 (Y6 #[J U 0 0,J U 0 0,J U 0 0,J U 0 0,J U 0 0,Y4 Y5 0,I ⟨#[]⟩,Y4 Y5 0] 33 (0,0))) (ho:fI X w9 g o.c.raw) (hn:o.n.size<=9223372036854775807) (hg:o.p=0->o.c.ps.length=c.ps.length):EY B w0 p v len r0 bc d c (Zd (Y3 ⟨r,0,U⟩)) (w9.setRow r #[J g.a1 g.l1 g.c1,J g.a2 g.l2 g.c2,J g.a3 g.l3 g.c3,J g.a4 g.l4 g.c4,J g.a5 g.l5 g.c5,Y4 Y5 o.c.now,I o.n,Y4 Y5 o.p]):=by
 have hR:QF r w9 (w9.setRow r #[J g.a1 g.l1 g.c1,J g.a2 g.l2 g.c2,J g.a3 g.l3 g.c3,J g.a4 g.l4 g.c4,J g.a5 g.l5 g.c5,Y4 Y5 o.c.now,I o.n,Y4 Y5 o.p]):=⟨⟨rfl,rfl,rfl,by simp,λk _ hn=>setRow_other _ _ _ _ hn⟩,λi x h=>by
  rw[an hr i] at h
  rcases i with _|_|_|_|_|_|_|_|i
  all_goals first
   | exact⟨by omega,λ_=>rfl⟩
   | (cases h;exact⟨by omega,λ⟨_,e⟩=>by cases e⟩)
   | (simp at h),o.n,an (setRow_heap _ _ _ #[J g.a1 g.l1 g.c1,J g.a2 g.l2 g.c2,J g.a3 g.l3 g.c3,J g.a4 g.l4 g.c4,J g.a5 g.l5 g.c5,Y4 Y5 o.c.now,I o.n,Y4 Y5 o.p] _ _ hr) 6,hn⟩
 obtain⟨c',hl,hr'⟩:=ho.row.res hR;obtain⟨c2,hl2,hr2⟩:=hs.row.res hR;have e:c'.now=o.c.now:=hl.2.2.2.2.2;have e2:c2.now=c.now:=hl2.2.2.2.2.2;have hlt:=hs.lt;have hlo:=hs.lo;have hg9:w9.grownBy (w9.setRow r #[J g.a1 g.l1 g.c1,J g.a2 g.l2 g.c2,J g.a3 g.l3 g.c3,J g.a4 g.l4 g.c4,J g.a5 g.l5 g.c5,Y4 Y5 o.c.now,I o.n,Y4 Y5 o.p]) (Y3 r):=⟨rfl,rfl,rfl,by simp,λk _ hn=>setRow_other _ _ _ _ (λe=>hn (by rw[e]))⟩;exact⟨_,g,⟨c',o.n,o.p⟩,c2,rfl,⟨by rw[setRow_other _ _ _ _ af,e2];exact hs.blk,(setRow_other _ _ _ _ af).trans hs.res,hr2,hs.src.az hg9 (λe=>h2 (Yd e)) (λk e=>by have:=Yd e;omega),hs.lt,hs.bp,hs.rp,hs.lo⟩,hl2.2.2.2.2.1,by rw[show (Co.mk c' o.n o.p).c.now=o.c.now from e];exact setRow_heap _ _ _ _ _ _ hr,hr',λh=>hl.2.2.2.2.1.trans (hg h),by omega,h2⟩
end
theorem QU {Why:Nat->Prop} (h9:∀i,9<i->¬Why i) {c:Cl} {o:Co} (h:∃i,Why i/\o=co0 (bu i)) (h0:o.p=0):o.c.ps.length=c.ps.length:=by
 exact PA
theorem eo.psl(h:eo c t o) (h0:o.p=0):o.c.ps.length=c.ps.length:=by
 rcases h with h|⟨n,_,⟨_,rfl⟩|⟨_,rfl⟩⟩
 ·exact QU qp h h0
 ·cases h0
 ·simp[kQ]
theorem TickIs.psl {n:Int} (h:TickIs c n o) (h0:o.p=0):o.c.ps.length=c.ps.length:=by
 rcases h with ⟨_,rfl⟩|⟨_,_,rfl⟩|⟨_,_,rfl⟩
 ·cases h0
 ·cases h0
 ·rfl
theorem nP(v:Value) (len:Nat) (w:World) (hR:gw w.heap.size w v len):
  Calls Tryz.prog 4 #[v] w (λe w'=> ∃(d:Ad) (c:Cl) (t:ByteArray),e=Y9 (Ze #[Za #[J d.a1 d.l1 d.c1,J d.a2 d.l2 d.c2,J d.a3 d.l3 d.c3,J d.a4 d.l4 d.c4,J d.a5 d.l5 d.c5,Y4 Y5 c.now],I t])/\aB w' d c.raw/\t.size<=9223372036854775807/\Below w.heap.size w w'):=by
 have hcl:=λ(B:Nat) (w0:World) (p:Nat) (v:Value) (len:Nat) (w:World) (h:Src B w0 p v len w)=>oY h;have hki:∀(d:Ad) (c:Cl) (t:ByteArray) (w:World),aB w d c.raw->Calls Tryz.prog 12 #[Za #[J d.a1 d.l1 d.c1,J d.a2 d.l2 d.c2,J d.a3 d.l3 d.c3,J d.a4 d.l4 d.c4,J d.a5 d.l5 d.c5,Y4 Y5 c.now],I t] w (im (λo=>(o.p=0->o.c.ps.length=c.ps.length)/\o.n.size<=9223372036854775807) w):=λd c t w hr=>(qQ d c t w hr).mono λe w' ⟨g,o,h1,h2,h3,h4⟩=>⟨g,o,h1,⟨h2.psl,h2.nm⟩,h3,h4⟩;have hti:∀(d:Ad) (c:Cl) (n:Int) (w:World),aB w d c.raw->Calls Tryz.prog 13 #[Za #[J d.a1 d.l1 d.c1,J d.a2 d.l2 d.c2,J d.a3 d.l3 d.c3,J d.a4 d.l4 d.c4,J d.a5 d.l5 d.c5,Y4 Y5 c.now],Y4 Y5 n] w (im (λo=>(o.p=0->o.c.ps.length=c.ps.length)/\o.n.size<=9223372036854775807) w):=λd c n w hr=>(stick_lo d c n w hr).mono λe w' ⟨g,o,h1,h2,h3,h4⟩=>⟨g,o,h1,⟨h2.psl,h2.nm⟩,h3,h4⟩;have HCL:=aa hcl;have HKI:=aa hki;have HTI:=aa hti;have hR1:gw (w.alloc (Y6 (clo6 U 0 0 U 0 0 U 0 0 U 0 0 U 0 0 0) 29)).heap.size (w.alloc (Y6 (clo6 U 0 0 U 0 0 U 0 0 U 0 0 U 0 0 0) 29)) v len:=by
  obtain⟨h1,a0,cap,h2,h3⟩:=hR.below (ak w (Y6 (clo6 U 0 0 U 0 0 U 0 0 U 0 0 U 0 0 0) 29));exact⟨h1,a0,cap,h2,λj hj=>by obtain⟨b,off,z,h4,h5,h6⟩:=h3 j hj;exact⟨b,off,z,h4,by simp;omega,h6⟩⟩
 have HR:=aa hR1;have HRES:Hid ((w.alloc (Y6 (clo6 U 0 0 U 0 0 U 0 0 U 0 0 U 0 0 0) 29)).heap[w.heap.size]?=Y3 (Y6 (clo6 U 0 0 U 0 0 U 0 0 U 0 0 U 0 0 0) 29 (0,0))):=Yg;clear hR hR1 hcl hki hti;go_enter Tryz.func4,Tryz.ntmps4;go_wp2_with fail;refine (uO v len _ HR.out).mono ?_;rintro e w1 ⟨p,rfl,hs1⟩;have HS1:=aa hs1;have HR1:=upK HRES hs1.2.2.1;clear hs1;go_wp2_with fail;refine (HCL.out _ _ _ _ _ _ HS1.out).mono ?_;rintro e w2 ⟨d,c,rfl,hr,-,hs,hg⟩;have hba:=ak w2 (Y6 (clv d c.now) 29);have hrp:¬w.heap.size=p:=by have:=HS1.1;simp at this;omega
 have hr2:=gk hg hrp HR1.out;have HE:Hid (ES (w.alloc (Y6 (clo6 U 0 0 U 0 0 U 0 0 U 0 0 U 0 0 0) 29)).heap.size (w.alloc (Y6 (clo6 U 0 0 U 0 0 U 0 0 U 0 0 U 0 0 0) 29)) p v len w.heap.size (w2.alloc (Y6 (clv d c.now) 29)) w2.heap.size d c):=⟨(Yg:(w2.alloc _).heap[w2.heap.size]?=_),(hba.block _ (ae hr2)).trans hr2,hr.below hba,nX hs hba,ae hr2,by have:=hs.nJ;omega,hrp,by have:=ae hr2;simp;omega⟩;clear hr hs hg hba hr2 HS1 HR1 HRES HR;have hW9:w.heap.size<=(w.alloc (Y6 (clo6 U 0 0 U 0 0 U 0 0 U 0 0 U 0 0 0) 29)).heap.size/\Below w.heap.size w (w.alloc (Y6 (clo6 U 0 0 U 0 0 U 0 0 U 0 0 U 0 0 0) 29)):=⟨by simp,ak _ _⟩;generalize (w.alloc (Y6 (clo6 U 0 0 U 0 0 U 0 0 U 0 0 U 0 0 0) 29))=WA at HE hW9;have HWA:=aa hW9;clear hW9;go_wp2;obtain⟨a1,l1,y1,a2,l2,y2,a3,l3,y3,a4,l4,y4,a5,l5,y5⟩:=d;have hl5:c.ps.length=l5:=by simpa using (show (c.ps.map pdF).length=l5 from HE.row.p.1)
 have hm5:l5<=9223372036854775807:=Yl HE.row.p.2.1 HE.row.p.2.2.1;go_loopw [6] (λi wr=> ∃(k:Nat),k<=l5/\i=Y4 Y5 k/\Hid (ES WA.heap.size WA p v len w.heap.size wr w2.heap.size ⟨a1,l1,y1,a2,l2,y2,a3,l3,y3,a4,l4,y4,a5,l5,y5⟩ c)) (λi _=>l5 - (intOf i).toNat);case atStart=>exact⟨0,by omega,rfl,HE⟩
 case round=>
  clear HE;obtain⟨k,hk,rfl,HE⟩:=hrel;have Bc:=aa HE.blk;have z771z:=@aa _ @Ue;exact e_
theorem nz(ht:¬t=⟨#[]⟩):∀(ps:List Pd) (k:Nat) (x:Pd),ps[k]?=Y3 x->0<=x.c->cpuOf t (ps.set k (idle x))<=cpuOf t ps
 | [],_,_,h,_=>by cases h
 | p ::ps,0,x,h,h0=>by
  obtain rfl:p=x:=iy
  have e:¬(idle p).d=t:=λe=>ht e.symm;simp only[YA,cpuOf,if_neg e]
  split <;> omega
 | p ::ps,k+1,x,h,h0=>by
  have:=nz ht ps k x iy h0;simp only[YB,cpuOf]
  omega
theorem eH {ps:List Pd} {y:Pd} (hx:ps[k]?=Y3 x) (h:(ps.set k (idle x))[j]?=Y3 y):(j=k/\y=idle x)\/ps[j]?=Y3 y:=by
 by_cases e:k=j
 ·subst e;rw[List.getElem?_set_self (Yc.1 hx).1] at h;exact Zc ⟨rfl,(Yd h).symm⟩
 ·rw[List.getElem?_set_ne e] at h;exact Zb h
theorem oP(h:av c) (hx:c.ps[pl Pd.n c.ps t]?=Y3 x):av (evC c t x):=by
 obtain⟨h1,⟨r1,r2,r3,r4,r5,r6,r7⟩,h3,⟨p1,p2,p3⟩,h5,⟨m1,m2⟩⟩:=h;have hx5:As x.n x.c x.z x.zs x.d x.p:=r6 _ _ hx;refine⟨h1,⟨r1,r2,r3,r4,?_,?_,?_⟩,h3,⟨?_,?_,?_⟩,h5,⟨m1,?_⟩⟩
 ·show ((c.ps.set _ _).length:Int)<=8;rw[YK];exact r5
 ·intro j y hj;rcases eH hx hj with ⟨_,rfl⟩|hj
  ·exact⟨hx5.1,hx5.2.1,hx5.2.2.1,hx5.2.2.2.1,(eK _).2 rfl⟩
  ·exact r6 j y hj
 ·intro j y z hy hz;have hn:∀{j:Nat} {y:Pd},(c.ps.set (pl Pd.n c.ps t) (idle x))[j]?=Y3 y->∃y0,c.ps[j]?=Y3 y0/\y0.n=y.n:=fun {j y} hj=>by
   rcases eH hx hj with ⟨rfl,rfl⟩|hj
   ·exact⟨x,hx,rfl⟩
   ·exact⟨y,hj,rfl⟩
  obtain⟨y0,e1,e2⟩:=hn hy;obtain⟨z0,e3,e4⟩:=hn hz;rw[<-e2,<-e4];exact r7 j y0 z0 e1 e3
 ·intro j y hj;rcases eH hx hj with ⟨_,rfl⟩|hj
  ·exact⟨(p1 _ _ hx).1,Zc rfl⟩
  ·exact p1 j y hj
 ·intro j n hj;have hn:aO n.n:=(r1.2.1 j n hj).1;have hne:¬n.n=⟨#[]⟩:=λe=>by rw[e] at hn;exact absurd hn.1 ag
  exact Int.le_trans (nz hne c.ps _ x hx hx5.2.1.1) (p2 j n hj)
 ·intro j v hj hs hm i k p q hp hq hp0 hq0 hip hiq;rcases eH hx hp with ⟨_,rfl⟩|hp
  ·exact absurd rfl hp0
  rcases eH hx hq with ⟨_,rfl⟩|hq
  ·exact absurd rfl hq0
  exact p3 j v hj hs hm i k p q hp hq hp0 hq0 hip hiq
 ·intro j y hj h2;rcases eH hx hj with ⟨_,rfl⟩|hj
  ·cases h2
  ·exact m2 j y hj h2
theorem bg.right(h:bg c t o) (h0:o.p=0):av o.c:=by
 rcases h with ⟨i,a,rfl⟩|⟨_,hr,x,hx,_,_,_,rfl⟩
 ·rcases a.cases with ⟨rfl,_⟩|⟨rfl,_⟩|⟨rfl,_⟩|⟨rfl,_⟩|⟨rfl,_⟩ <;> cases h0
 ·exact oP hr hx
end Rc
theorem kN(a a':Option Addr) (len len' cap cap':Nat) (zs:List ByteArray) (w:World) (hr:ay w a len cap zs) (hr':ay w a' len' cap' zs):
  Calls Tryz.prog 89 #[J a len cap,J a' len' cap'] w λe w'=>e=Y9 (Y7 Y_)/\Below w.heap.size w w':=by
 obtain rfl:len=len':=hr.1.symm.trans hr'.1;have HR:Hid (ay w a len cap zs):=hr;have HR':Hid (ay w a' len cap' zs):=hr';have hlc:len<=9223372036854775807:=Yl hr.2.1 hr.2.2.1;clear hr hr';go_enter Tryz.func89,Tryz.ntmps89;go_wp2;go_loopw [5] (λi wr=> ∃k:Nat,k<=len/\i=Y4 Y5 k/\Hid (Below w.heap.size w wr)) (λi _=>len - (intOf i).toNat);case atStart=>exact⟨0,by omega,rfl,Yh _ _⟩
 case round=>
  obtain⟨k,hk,rfl,HB⟩:=hrel;by_cases hlt:k<len
  ·obtain⟨b,o,x,rfl,hb,hx,hc,hsz⟩:=(HR.below HB.out).at hlt;obtain⟨b',o',x',rfl,hb',hx',hc',hsz'⟩:=(HR'.below HB.out).at hlt;obtain rfl:x=x':=Yd (hx.symm.trans hx');go_wp2;go_quiet (fail);go_wp2;exact⟨⟨k+1,by omega,by go_num,below_drewN HB.out _⟩,by simp[intOf];omega⟩
  ·obtain rfl:k=len:=af
   go_wp2;go_ret;exact⟨rfl,HB.out⟩
theorem pY(n:ByteArray) (c:Int) (z:ByteArray) (k:ByteArray) (x:Bool) (m:ByteArray) (y:Bool) (a:Option Addr) (len cap:Nat) (zs:List ByteArray) (a':Option Addr) (len' cap':Nat) (w:World) (hr:ay w a len cap zs) (hr':ay w a' len' cap' zs):
  Calls Tryz.prog 47 #[Za #[I n,Y4 Y5 c,I z,I k,Y7 x,I m,Y7 y,J a len cap],Za #[I n,Y4 Y5 c,I z,I k,Y7 x,I m,Y7 y,J a' len' cap']] w λe w'=>e=Y9 (Y7 Y_)/\Below w.heap.size w w':=by
 have HR:Hid (ay w a len cap zs):=hr;have HR':Hid (ay w a' len' cap' zs):=hr';clear hr hr';go_enter Tryz.func47,Tryz.ntmps47;exact PU
theorem Obl.guarded {o:Oper} {φ:Fact} {t:Tmp} (hg:o.guard=Y3 (i,b)) (hd:(ops[i]?).bind (·.dst)=Y3 t)
  (ht:∀(a:Act) (w:World),aj a0 known a w t->a.tmps.getD t undef=Y7 b)
  (h:∀(a:Act) (w:World) (K:Act->World->Prop),a.tmps.size=a0.tmps.size->Below W.heap.size W w->(∀t∈jP o,aj a0 known a w t)->(∀v w',Below w.heap.size w w'->φ v w'->K (a.put o.dst v) w')->o.wp P a w K Q):Obl P ops Q W a0 known o φ:=by
 intro a w K h1 h2 h3 h4;have ha:=ht a w (h3 t agb);have hw:YM o (yielded ops a.tmps)=Y_:=by
  unfold YM;rw[hg];simp only[yielded,hd,Option.bind_some];have:a.tmps[t]?=Y3 (Y7 b):=by
   rw[Yp] at ha;cases hx:a.tmps[t]? with
   | none=>rw[hx] at ha;cases ha
   | some v=>rw[hx] at ha;exact congrArg Y3 ha
  rw[this];simp
 exact OQ
theorem Obl.cy {o:Oper} {t:Tmp} (hg:o.guard=Y3 (i,b)) (hd:(ops[i]?).bind (·.dst)=Y3 t)
  (ht:∀(a:Act) (w:World),aj a0 known a w t->a.tmps.getD t undef≠Y7 b):Obl P ops Q W a0 known o (λv _=>v=undef):=by
 intro a w K h1 h2 h3 h4;have ha:=ht a w (h3 t agb);have hw:¬YM o (yielded ops a.tmps)=Y_:=by
  unfold YM;rw[hg];simp only[yielded,hd,Option.bind_some];intro h;apply ha;rw[Yp];cases hx:a.tmps[t]? with
  | none=>rw[hx] at h;simp at h
  | some v=>
   rw[hx] at h
   cases v <;> simp at h
   rw[h]
   rfl
 rw[if_neg hw];exact h4 _ _ (Yh _ _) rfl
end Go.Proofs.YtiplhgedmjoliaaGreatDoor

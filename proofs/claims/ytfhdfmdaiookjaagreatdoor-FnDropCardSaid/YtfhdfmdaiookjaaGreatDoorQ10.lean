import Derived.Test.YtfhdfmdaiookjaaGreatDoorQ9
import Derived.Deep.RegionWith
import Derived.Deep.Cut
import Derived.Deep.CutRange
import Derived.Laws.StructEq
/-
 A claim that is bound, as the specification tells it.
-/
set_option maxRecDepth 100000
set_option maxHeartbeats 12800000
open Bool renaming false→Y_,true→Zb
open Go.Ending renaming returned→Za
open Go.IntKind renaming i64→Y6
open Go.Obj renaming cells→Y8
open Go.Value renaming string→I,slice→J,int→Y7,bool→Y9,agg→Zc,pointer→Zf,tuple→Zg
open Option renaming none→U,some→Y5
open Or renaming inr→Zd,inl→Ze
open And renaming intro→Yb
open Array renaming getElem?_push_size→Yg, getD_eq_getD_getElem?→Yr, getElem?_eq_some_iff→Yw
open Bool renaming and_eq_true→YG
open Classical renaming byContradiction→YH
open Go.Addr renaming add_lit→Yn
open Go.Calls renaming quiet_of_same→Yz
open Go.Op renaming bytesLess→Yk
open Go.Region renaming wanted→YP, ready→YQ
open Go.RowKit.Below renaming heap_setCell→Ya, refl→Yh, heap_alloc→Yl
open Go.Value renaming string→Ym, ownBlock→YL
open List renaming getElem?_eq_some_iff→Yc, lookup→Yf, getElem?_eq_getElem→Yi, length_map→Yo, mem_of_getElem?→Ys, setIfInBounds_toArray→Yt, getElem?_append_left→Yu, getElem?_map→Yv, drop_eq_nil_of_le→Yx, getElem?_take→YA, set_cons_zero→YC, getElem?_of_mem→YD, set_cons_succ→YE, length_take→YF, forall_mem_cons→YI, take_of_length_le→YJ, take_add_one→YN, mem_cons→YO, foldr→YT, filter_append→YV, getElem?_set_ne→Y0, getElem?_set_self→Y2
open Nat renaming le_refl→Ye, lt_of_lt_of_le→Yj, le_trans→Yp, zero_add→Yq, le_succ→Yy, zero_le→YK
open Option renaming map_eq_some_iff→YB
open Option.some renaming inj→Yd
namespace Go.Proofs.YtfhdfmdaiookjaaGreatDoor
variable {p:Prop}
namespace Mk
end Mk
namespace Dk
end Dk
open Go.RowKit Mk Dk
variable {α:Type} {B X cap g i j k len m:Nat} {L:List Rc.Pd} {S:Nat->Prop} {T:TypeId} {a:Option Addr} {c:Rc.Cl} {d:Rc.Ad} {o:Rc.Co} {q x:Rc.Qd} {rs:List (List Rc.Fv)} {t:ByteArray} {v:Value} {vs:List Vd} {w w0 wr:World} {xs:List Rc.Qd} {nm:α->ByteArray} {y:α}
theorem oL(h:p:=by simp[results,Tryz.results84,go_sem, *]):p:=h
theorem ui(h:p:=by simp[results,Tryz.results86,go_sem, *]):p:=h
theorem Aa(h:p:=by simp[results,Tryz.results14,go_sem, *]):p:=h
theorem NS(h:p:=by simp[results,Tryz.results46,go_sem, *]):p:=h
theorem NQ(h:p:=by simp[results,Tryz.results4,go_sem, *]):p:=h
theorem NP(h:p:=by simp[results,Tryz.results6,go_sem, *]):p:=h
theorem ag5(h:p:=by simpa using (show (c.ns.map ndF).length=l1 from HS.row.n.1)):p:=h
theorem nZ(h:p:=by
 rintro e w9 ⟨g,o,rfl,hI,ho,hb⟩;have HO:=aa ho;have HD9:=aa (HD4.below hb);have z314z:=@aa _ @adk;exact zQ):p:=h
theorem aj3(h:p:=by
 have HDW:=HD4;have BkW:=Bk;have BrW:=Br;have HRW:=HR;go_wp2_with fail;go_region_with (first
  | (go_at_call 83;refine (agk (cv HDW.src)).mono ?_;rintro e w5 ⟨n1,c1,z1,a1,l1,cp1,zs1,d1,ph1,rfl,hn1,hz1,hd1,htx,-,-,-,-,hd⟩;have hsz:=hd.src;have hgz:=hd.gr;have HD5:=aa (Dk.Dr.next (w:=w4.drew) (j_ HDW.out) hsz hgz);have HR5:=aa (aB.bR (w:=w4.drew) (HRW.below (br _)) (ch (cv HDW.src)) (aU hgz));have gk5:=gk hgz eh (show w4.drew.heap[w.heap.size]?=_ from BkW.out);have gr5:=gk hgz eh (show w4.drew.heap[w.heap.size+1]?=_ from BrW.out);have HG5:=aa gr5;have kq0:=an gk5 0;have kq1:=an gk5 1;have kq2:=an gk5 2;have kq3:=an gk5 3;have kq4:=an gk5 4;have kq5:=an gk5 5;have ltk5:=ae gk5;clear gk5 gr5)
  | (go_at_call 82;refine ((Cm d c ⟨n1,c1,z1,zs1,d1,ph1⟩ a1 l1 cp1 _ HR5.out htx (by show n1.size<=_;omega) (by show z1.size<=_;omega) (by show d1.size<=_;omega)).mono λ_ _ h=>h.l).mono ?_;rintro e w9 ⟨g,o,rfl,hI,ho,hb⟩;have HG9:=upK HG5 hb;obtain⟨r0,r1,r2,r3,r4,r5,r6,r7⟩:=cs8 HG9;have hrl:=ae HG9.out;have fr0:=al HG9.out 0;have fr1:=al HG9.out 1;have fr2:=al HG9.out 2;have fr3:=al HG9.out 3;have fr4:=al HG9.out 4;have fr5:=al HG9.out 5;have fr6:=al HG9.out 6;have fr7:=al HG9.out 7))
 all_goals (
  rw[eight HG9.out];have HO:=aa ho;have HD9:=aa (HD5.below hb);have HI:=aa hI;have H12:=aa (setRow_heap _ (w.heap.size+1) _ #[J g.a1 g.l1 g.c1,J g.a2 g.l2 g.c2,J g.a3 g.l3 g.c3,J g.a4 g.l4 g.c4,J g.a5 g.l5 g.c5,Y7 Y6 o.c.now,I o.n,Y7 Y6 o.p] _ _ HG9.out);clear hI ho hb k0 k1 k2 k3 k4 k5 ltk r0 fr0 r1 fr1 r2 fr2 r3 fr3 r4 fr4 r5 fr5 r6 fr6 r7 fr7;go_wp2_with fail
  exact bodyPost_ret (v:=Zc #[J g.a1 g.l1 g.c1,J g.a2 g.l2 g.c2,J g.a3 g.l3 g.c3,J g.a4 g.l4 g.c4,J g.a5 g.l5 g.c5,Y7 Y6 o.c.now,I o.n,Y7 Y6 o.p]) (results_cell_row rfl _ _ (w.heap.size+1) _ _ _ _ rfl H12.out Tryz.underlying33 rfl hY) rfl (lX HD9.out HO.out HD5.size HG9.out af HI.nm (λh=>HI.gd h)))):p:=h
theorem aj2(h:p:=by
 have HDW:=HD4;have BkW:=Bk;have BrW:=Br;have HRW:=HR;go_wp2_with fail;go_region_with (first
  | (go_at_call 81;refine (BF (cv HDW.src)).mono ?_;rintro e w5 ⟨n1,c1,j1,x1,o1,rfl,hn1,hk1,hu1,hd⟩;have hsz:=hd.src;have hgz:=hd.gr;have HD5:=aa (Dk.Dr.next (w:=w4.drew) (j_ HDW.out) hsz hgz);have HR5:=aa (aB.bR (w:=w4.drew) (HRW.below (br _)) (ch (cv HDW.src)) (aU hgz));have gk5:=gk hgz eh (show w4.drew.heap[w.heap.size]?=_ from BkW.out);have gr5:=gk hgz eh (show w4.drew.heap[w.heap.size+1]?=_ from BrW.out);have HG5:=aa gr5;have kq0:=an gk5 0;have kq1:=an gk5 1;have kq2:=an gk5 2;have kq3:=an gk5 3;have kq4:=an gk5 4;have kq5:=an gk5 5;have ltk5:=ae gk5;clear gk5 gr5)
  | (go_at_call 80;refine ((Ci d c ⟨n1,c1,j1,x1,o1⟩ _ HR5.out (by show n1.size<=_;omega) (by show j1.size<=_;omega) (by show o1.size<=_;omega)).mono λ_ _ h=>h.l).mono ?_;rintro e w9 ⟨g,o,rfl,hI,ho,hb⟩;have HG9:=upK HG5 hb;obtain⟨r0,r1,r2,r3,r4,r5,r6,r7⟩:=cs8 HG9;have hrl:=ae HG9.out;have fr0:=al HG9.out 0;have fr1:=al HG9.out 1;have fr2:=al HG9.out 2;have fr3:=al HG9.out 3;have fr4:=al HG9.out 4;have fr5:=al HG9.out 5;have fr6:=al HG9.out 6;have fr7:=al HG9.out 7))
 all_goals (
  rw[eight HG9.out];have HO:=aa ho;have HD9:=aa (HD5.below hb);have HI:=aa hI;have H12:=aa (setRow_heap _ (w.heap.size+1) _ #[J g.a1 g.l1 g.c1,J g.a2 g.l2 g.c2,J g.a3 g.l3 g.c3,J g.a4 g.l4 g.c4,J g.a5 g.l5 g.c5,Y7 Y6 o.c.now,I o.n,Y7 Y6 o.p] _ _ HG9.out);clear hI ho hb k0 k1 k2 k3 k4 k5 ltk r0 fr0 r1 fr1 r2 fr2 r3 fr3 r4 fr4 r5 fr5 r6 fr6 r7 fr7;go_wp2_with fail
  exact bodyPost_ret (v:=Zc #[J g.a1 g.l1 g.c1,J g.a2 g.l2 g.c2,J g.a3 g.l3 g.c3,J g.a4 g.l4 g.c4,J g.a5 g.l5 g.c5,Y7 Y6 o.c.now,I o.n,Y7 Y6 o.p]) (results_cell_row rfl _ _ (w.heap.size+1) _ _ _ _ rfl H12.out Tryz.underlying33 rfl hY) rfl (lX HD9.out HO.out HD5.size HG9.out af HI.nm (λh=>HI.gd h)))):p:=h
theorem ah4(h:p:=by
 rintro e w9 ⟨g,o,rfl,hI,ho,hb⟩;have HO:=aa ho;have HD9:=aa (HD5.below hb);have z314z:=@aa _ @adj;exact zQ):p:=h
theorem Au(h:p:=by
 refine wpQuiet_nil ?_;rintro _ ⟨q,rfl⟩;go_wp2_with fail;exact⟨⟨k+1,by omega,by go_num,HS.below q.b⟩,by simp[intOf];omega⟩):p:=h
theorem al6(h:p:=by
 obtain⟨h1,a0,cap,h2,h3⟩:=hR.below (ak w (Y8 (clo6 U 0 0 U 0 0 U 0 0 U 0 0 U 0 0 0) 29));exact⟨h1,a0,cap,h2,λj hj=>by obtain⟨b,off,z,h4,h5,h6⟩:=h3 j hj;exact⟨b,off,z,h4,by simp;omega,h6⟩⟩):p:=h
theorem ahA(h:p:=by
 go_wp2;exact bodyPost_ret (v:=Zc #[J U 0 0,J U 0 0,J U 0 0,J U 0 0,J U 0 0,Y7 Y6 0,I ⟨#[]⟩,Y7 Y6 p]) oL rfl ⟨ad0,co0 p,rfl,HV.out,(rl0 _ _),sb1 (sb1 (sb1 (sb1 (sb1 (sb1 (sb1 (sb1 (HB.out))))))))⟩):p:=h
theorem QI(h:p:=by
 go_wp2_with fail;refine (k_ a a' len len' cap cap' zs _ (HR.below (aS _ _ _)) (HR'.below (aS _ _ _))).mono ?_;rintro e w1 ⟨rfl,hb⟩;have z1111z:=@aa _ @Mf;exact fB):p:=h
theorem QF(h:p:=by
 have HB:=HB41;clear HB41;have Bk:=Ck;clear Ck;have Bn:=Cn;clear Cn;have HO3:=aa (cI HO.out q1.b);rw[<-amn HY0.out HON.out] at HO3;go_wp2;exact⟨⟨k+1,m9,by omega,by omega,by go_num,HO3,HL.trans (q1.b.mono hLs)⟩,by simp[intOf];omega⟩):p:=h
theorem qy(h:p:=by
 exact (ve a (λj b=>by rcases b with ⟨rfl,-⟩|⟨rfl,-⟩ <;> decide) h0).elim):p:=h
theorem wJ(h:p:=by
 go_enter Tryz.func75,Tryz.ntmps75;go_wp2;go_ret;exact⟨rfl,Yh _ _⟩):p:=h
theorem wI(h:p:=by
 exact aw.nil _ _ _ _ _ (show (0:Nat)<=9223372036854775807 by omega)):p:=h
theorem PQ(h:p:=by
 have z358z:=@aa _ @acF;exact eC):p:=h
theorem Pn(h:p:=by
 exact⟨(HOF.n.ay hk4 (λ_ _ s=>s)).rl (λk s=>loq),(HOF.k.ay hk4 (λ_ _ s=>s)).rl (λk s=>loq),(HOF.v.ay hk4 (λ_ _ s=>s)).rl (λk s=>loq),(HOF.x.ay hk4 (λ_ _ s=>s)).rl (λk s=>loq),(HOF.p.ay hk4 (λ_ _ s=>s)).rl (λk s=>loq)⟩):p:=h
theorem akm(h:p:=by
 rcases HF6.2.2.2.2.2.2 with h9|⟨g9,c9,H9,e9,h9⟩
 ·have h8:=HF6.2.2.2.1;have h7:=h2.1;rw[h9] at h8;simp at h8;omega
 ·have h7:=h2.2;rw[h7] at e9;cases e9;exact h1 h9.inS):p:=h
theorem wi(h:p:=by
 go_wp2_with fail;refine (AU d c tp _ HR.out).mono ?_;exact nZ):p:=h
theorem O5(h:p:=by
 have z55z:=@aa _ @afF;exact aC):p:=h
theorem O0(h:p:=by
 rw[<-hns];exact⟨by rw[List.length_set];exact HNN.1,HNN.2.1,HNN.2.2.1,Zd ⟨g,cur6,H6,rfl,hat6⟩⟩):p:=h
theorem alZ(h:p:=by
 have hba:=ak w2 (Y8 (clv d c.now) 29);have hrp:¬w.heap.size=p:=by have:=HS1.1;simp at this;omega
 have hr2:=gk hg hrp HR1.out;have HE:Hid (ES (w.alloc (Y8 (clo6 U 0 0 U 0 0 U 0 0 U 0 0 U 0 0 0) 29)).heap.size (w.alloc (Y8 (clo6 U 0 0 U 0 0 U 0 0 U 0 0 U 0 0 0) 29)) p v len w.heap.size (w2.alloc (Y8 (clv d c.now) 29)) w2.heap.size d c):=⟨(Yg:(w2.alloc _).heap[w2.heap.size]?=_),(hba.block _ (ae hr2)).trans hr2,hr.below hba,ot hs hba,ae hr2,by have:=hs.uM;omega,hrp,by have:=HS1.2.2.1.size;have:=hg.size;omega⟩;exact Yb hba (Yb hrp (Yb hr2 HE))):p:=h
theorem ahv(h:p:=by
 have lts:=ae HRS.out;have g0_:=al HRS.out 0;have g1_:=al HRS.out 1;have g2_:=al HRS.out 2;have g3_:=al HRS.out 3;have g4_:=al HRS.out 4;have g5_:=al HRS.out 5;have hne2:¬w2.heap.size=w.heap.size:=by have:=HE.lt;omega
 exact Yb lts (Yb g0_ (Yb g1_ (Yb g2_ (Yb g3_ (Yb g4_ (Yb g5_ hne2))))))):p:=h
theorem aht(h:p:=by
 have k0:=λq:Wd W=>q.slot (o:=0) Bc3.out rfl;have k1:=λq:Wd W=>q.slot (o:=1) Bc3.out rfl;have k2:=λq:Wd W=>q.slot (o:=2) Bc3.out rfl;have k3:=λq:Wd W=>q.slot (o:=3) Bc3.out rfl;have k4:=λq:Wd W=>q.slot (o:=4) Bc3.out rfl;have k5:=λq:Wd W=>q.slot (o:=5) Bc3.out rfl;have p0:∀q:Wd W,q.w.cell? ⟨g,k*6,U⟩=Y5 (I x.n):=λq=>(q.cell hbl2).trans c0;have p1:∀q:Wd W,q.w.cell? ⟨g,k*6+1,U⟩=Y5 (Y7 Y6 x.c):=λq=>(q.cell hbl2).trans c1;have p2:∀q:Wd W,q.w.cell? ⟨g,k*6+2,U⟩=Y5 (I x.z):=λq=>(q.cell hbl2).trans c2;have p3:∀q:Wd W,q.w.cell? ⟨g,k*6+3,U⟩=Y5 (J pa pq pc):=λq=>(q.cell hbl2).trans c3;have p4:∀q:Wd W,q.w.cell? ⟨g,k*6+4,U⟩=Y5 (I x.d):=λq=>(q.cell hbl2).trans c4;have p5:∀q:Wd W,q.w.cell? ⟨g,k*6+5,U⟩=Y5 (Y7 Y6 1):=λq=>(q.cell hbl2).trans c5;exact Yb k0 (Yb k1 (Yb k2 (Yb k3 (Yb k4 (Yb k5 (Yb p0 (Yb p1 (Yb p2 (Yb p3 (Yb p4 p5))))))))))):p:=h
theorem ahp(h:p:=by
 have pd4:=λq:Wd w2=>(q.cell hbl).trans c4;have e0:=λq:Wd w2=>(q.cell hbn).trans d0;have e1:=λq:Wd w2=>(q.cell hbn).trans d1;have e2:=λq:Wd w2=>(q.cell hbn).trans d2;have e3:=λq:Wd w2=>(q.cell hbn).trans d3;have e4:=λq:Wd w2=>(q.cell hbn).trans d4;have e5:=λq:Wd w2=>(q.cell hbn).trans d5;have e6:=λq:Wd w2=>(q.cell hbn).trans d6;have hne0:=Wd.ne w2;have HC0:=aa (λq:Wd w2=>ft ⟨(Y5 ⟨bn,on,U⟩),l1,y1,a2,l2,y2,a3,l3,y3,a4,l4,y4,(Y5 ⟨b,o,U⟩),l5,y5⟩ c.now c.ns x.d q.w (HR.n.below (HW.trans (q.b.mono HW.size))) HRN.out HNJ.out HNN.out);exact Yb pd4 (Yb e0 (Yb e1 (Yb e2 (Yb e3 (Yb e4 (Yb e5 (Yb e6 (Yb hne0 HC0))))))))):p:=h
theorem alR(h:p:=by
 have HA8:Hid ((#[J g.a1 g.l1 g.c1,J g.a2 g.l2 g.c2,J g.a3 g.l3 g.c3,J g.a4 g.l4 g.c4,J g.a5 g.l5 g.c5,Y7 Y6 o.c.now,I o.n,Y7 Y6 o.p]:Array Value).all (·.oneCell')=Zb):=by show _=Zb;simp[Value.oneCell']
 have H12:=aa (setRow_heap _ (w.heap.size+1) _ #[J g.a1 g.l1 g.c1,J g.a2 g.l2 g.c2,J g.a3 g.l3 g.c3,J g.a4 g.l4 g.c4,J g.a5 g.l5 g.c5,Y7 Y6 o.c.now,I o.n,Y7 Y6 o.p] _ _ Br9.out);exact Yb HA8 H12):p:=h
theorem alQ(h:p:=by
 have HR:=aa hR1;have HRES:Hid ((w.alloc (Y8 (clo6 U 0 0 U 0 0 U 0 0 U 0 0 U 0 0 0) 29)).heap[w.heap.size]?=Y5 (Y8 (clo6 U 0 0 U 0 0 U 0 0 U 0 0 U 0 0 0) 29 (0,0))):=Yg;exact Yb HR HRES):p:=h
theorem Al(h:p:=by
 have hgb:¬g=b:=λe=>by subst e;exact cN Bk.out _ _ c0
 have hgp:¬g=p:=λe=>by subst e;exact ch HS.src _ _ c0
 exact Yb hgb hgp):p:=h
theorem ahl(h:p:=by
 have n0:=λq:Wd wr=>q.slot (o:=0) Gn.out rfl;have yd:=λq:Wd wr=>(q.cell hbl).trans hc1;have von:=λq:Wd wr=>(q.cell hb3).trans hc7;have hne0:=Wd.ne wr;have HC0:=aa (λq:Wd wr=>dZ ⟨a1,l1,y1,a2,l2,y2,(Y5 ⟨b3,o3,U⟩),l3,y3,a4,l4,y4,a5,l5,y5⟩ c.now c.vs y.n q.w (HR.v.below (HW.trans (q.b.mono HW.size))) HT.2.1.2.2.1.2.2 HV.1 HV.2);exact Yb n0 (Yb yd (Yb von (Yb hne0 HC0)))):p:=h
theorem ahk(h:p:=by
 have Bo7:=aa ((hK.block _ (ae Bo6.out) (nb _ af)).trans Bo6.out);have Br7:=aa ((hK.block _ (ae Br6.out) (nb _ af)).trans Br6.out);have g1:=HF1.beside HF6.2.2.2 hK ag;have g2:=HF6.1.beside HF6.2.2.2 hK ag;have g3:=HF6.2.1.beside HF6.2.2.2 hK ag;have g4:=HF6.2.2.1.beside HF6.2.2.2 hK ag;exact Yb Bo7 (Yb Br7 (Yb g1 (Yb g2 (Yb g3 g4))))):p:=h
theorem ahi(h:p:=by
 have xk:=λq:Wd w2=>(q.cell hbl).trans c2;have kx:=λq:Wd w2=>(q.cell hbk).trans d1;have hne0:=Wd.ne w2;have HC0:=aa (λq:Wd w2=>d_ ⟨a1,l1,y1,(Y5 ⟨bk,ok,U⟩),l2,y2,a3,l3,y3,(Y5 ⟨b,o,U⟩),l4,y4,a5,l5,y5⟩ c.now c.ks x.k q.w (HR.k.below (HW.trans (q.b.mono HW.size))) HT.2.1.2.1.2.2 HK.1 HK.2);exact Yb xk (Yb kx (Yb hne0 HC0))):p:=h
theorem alH(h:p:=by
 have hcl:=λ(B:Nat) (w0:World) (p:Nat) (v:Value) (len:Nat) (w:World) (h:Src B w0 p v len w)=>pC h;have HCL:=aa hcl;exact Yb hcl HCL):p:=h
theorem alC(h:p:=by
 have HG:=aa (Yb g1 (Yb g2 (Yb g3 (Yb g4 hP))));have HB7:Hid (Below w.heap.size w w7):=HB6.trans (hK.low (X:=w.heap.size) HB6.size (λk s=>YH λhk=>nb k af s));exact Yb HG HB7):p:=h
theorem ajR(h:p:=by
 go_wp2;exact bodyPost_ret (v:=Zc #[J U 0 0,J U 0 0,J U 0 0,J U 0 0,J U 0 0,Y7 Y6 0,I ⟨#[]⟩,Y7 Y6 p]) ui rfl ⟨ad0,co0 p,rfl,HV.out,(rl0 _ _),sb1 (sb1 (sb1 (sb1 (sb1 (sb1 (sb1 (sb1 (HB.out))))))))⟩):p:=h
theorem ajQ(h:p:=by
 go_wp2;exact bodyPost_ret (v:=Zc #[J U 0 0,J U 0 0,J U 0 0,J U 0 0,J U 0 0,Y7 Y6 0,I ⟨#[]⟩,Y7 Y6 p]) NS rfl ⟨ad0,co0 p,rfl,HV.out,(rl0 _ _),sb1 (sb1 (sb1 (sb1 (sb1 (sb1 (sb1 (sb1 (HB.out))))))))⟩):p:=h
theorem ajd(h:p:=by
 rintro _ ⟨q1,rfl⟩;have HB41:=upB HW q1.b;have Ck:=upK Gk q1.b;have Cn:=upK Gn q1.b;clear hne0 HW HB k0 k1 k2 k3 k4 k5 n0 yd Gk Gn Bk Bn hbl hc0 hc1 hb3 hc7 hq;exact QF):p:=h
theorem afL(h:p:=by
 have z1682z:=@aa _ @DU;exact rX):p:=h
theorem afK(h:p:=by
 have z1679z:=@aa _ @DW;exact rY):p:=h
theorem afJ(h:p:=by
 have z1490z:=@aa _ @QF;exact sE):p:=h
theorem afI(h:p:=by
 repeat (go_big_quiet_step (first|(go_at_call 64;exact Calls.wide (HE.out _))|fail))
 exact Au):p:=h
theorem afH(h:p:=by
 repeat (go_big_quiet_step (first|(go_at_call 65;exact Calls.wide (HE.out _))|fail))
 exact Au):p:=h
theorem afG(h:p:=by
 repeat (go_big_quiet_step (first|(go_at_call 66;exact Calls.wide (HE.out _))|fail))
 exact Au):p:=h
theorem afF(h:p:=by
 repeat (go_big_quiet_step (first|fail))
 exact Au):p:=h
theorem afB(h:p:=by
 go_wp2;exact bodyPost_ret (v:=Zc #[J U 0 0,J U 0 0,J U 0 0,J U 0 0,J U 0 0,Y7 Y6 0,I ⟨#[]⟩,Y7 Y6 10]) NS rfl ⟨ad0,co0 10,rfl,HV.out,(rl0 _ _),sb1 (sb1 (sb1 (sb1 (sb1 (sb1 (sb1 (sb1 (HB.out))))))))⟩):p:=h
theorem aft(h:p:=by
 have HB:=aa (Yh w.heap.size w);go_enter Tryz.func14,Tryz.ntmps14;have z820z:=@aa _ @Ut;exact iw):p:=h
theorem afh(h:p:=by
 have ltr_3:=ae Br.out;have z557z:=@aa _ @X_;exact e_):p:=h
theorem afg(h:p:=by
 have ltr_3:=ae Br.out;have z557z:=@aa _ @X9;exact e_):p:=h
theorem aff(h:p:=by
 have ltr_3:=ae Br.out;have z557z:=@aa _ @X8;exact e_):p:=h
theorem afe(h:p:=by
 have ltr_3:=ae Br.out;have z557z:=@aa _ @X7;exact e_):p:=h
theorem ae7(h:p:=by
 go_wp2_with fail;have HRS:=aa HE.res;obtain⟨s0,s1,s2,s3,s4,s5⟩:=cs6 HRS;obtain⟨lts,g0_,g1_,g2_,g3_,g4_,g5_,hne2⟩:=ahv;generalize (w2.alloc (Y8 (clo6 a1 l1 y1 a2 l2 y2 a3 l3 y3 a4 l4 y4 a5 l5 y5 c.now) 29))=W3 at*;have hplr:=HE.src.uM;have HEA:=aa ((HE.below (ak W3 (Y8 #[I ⟨#[112,49]⟩,I ⟨#[112,50]⟩,I ⟨#[112,51]⟩,I ⟨#[112,52]⟩,I ⟨#[122]⟩] 9))).below (br _));have HBI:Hid ((W3.alloc (Y8 #[I ⟨#[112,49]⟩,I ⟨#[112,50]⟩,I ⟨#[112,51]⟩,I ⟨#[112,52]⟩,I ⟨#[122]⟩] 9)).drew.heap[W3.heap.size]?=Y5 (Y8 #[I ⟨#[112,49]⟩,I ⟨#[112,50]⟩,I ⟨#[112,51]⟩,I ⟨#[112,52]⟩,I ⟨#[122]⟩] 9 (0,0))):=Yg;go_region_with (go_at_call 28;refine (eS HEA.src W3.heap.size 5 [⟨#[112,49]⟩,⟨#[112,50]⟩,⟨#[112,51]⟩,⟨#[112,52]⟩,⟨#[122]⟩] _ HBI.out af rfl ag ag ag).mono ?_;rintro e wz ⟨tz,rfl,htz,hsz,hgz⟩;have HZ:=aa (HEA.draw hsz hgz);have bz:=HZ.blk;have rz:=HZ.res;obtain⟨z0,z1,z2,z3,z4,z5⟩:=cs6 bz;have ltz:=ae bz;obtain⟨y0_,y1_,y2_,y3_,y4_,y5_⟩:=cs6 rz;have ltzr:=ae rz;have h0_:=al rz 0;have h1_:=al rz 1;have h2_:=al rz 2;have h3_:=al rz 3;have h4_:=al rz 4;have h5_:=al rz 5);all_goals (
  have hf:=HZ.fin rfl HWA.1 HWA.2;have HF:=aa hf;clear hf;go_wp2_with fail
  exact bodyPost_ret (v:=Zg #[Zc #[J a1 l1 y1,J a2 l2 y2,J a3 l3 y3,J a4 l4 y4,J a5 l5 y5,Y7 Y6 c.now],I tz]) (by simp[results,Tryz.results8,go_sem, *]) rfl ⟨⟨a1,l1,y1,a2,l2,y2,a3,l3,y3,a4,l4,y4,a5,l5,y5⟩,c,tz,rfl,HF.1,by omega,HF.2⟩)):p:=h
theorem ae6(h:p:=by
 have hll:c.xs.length=l4:=by simpa using (show (c.xs.map xdF).length=l4 from HE.row.x.1)
 have hml:l4<=9223372036854775807:=Yp HE.row.x.2.1 HE.row.x.2.2.1;have Fin0:Hid (∀(W5:World) (d5:Ad) (c5:Cl),ES WA.heap.size WA p v len w.heap.size W5 w2.heap.size d5 c5->True):=λ_ _ _ _=>trivial;by_cases hl0:l4=0
 ·subst hl0;have z620z:=@aa _ @Xj;exact iB
 have hlt:decide ((0:Int)<(l4:Int))=Zb:=by rw[decide_eq_true_eq];omega
 have z1058z:=@aa _ @MZ;exact tV):p:=h
theorem ae5(h:p:=by
 have hll:c.vs.length=l3:=by simpa using (show (c.vs.map vdF).length=l3 from HE.row.v.1)
 have hml:l3<=9223372036854775807:=Yp HE.row.v.2.1 HE.row.v.2.2.1;have Fin0:Hid (∀(W5:World) (d5:Ad) (c5:Cl),ES WA.heap.size WA p v len w.heap.size W5 w2.heap.size d5 c5->True):=λ_ _ _ _=>trivial;by_cases hl0:l3=0
 ·subst hl0;have z620z:=@aa _ @Xg;exact iB
 have hlt:decide ((0:Int)<(l3:Int))=Zb:=by rw[decide_eq_true_eq];omega
 have z1058z:=@aa _ @MY;exact tV):p:=h
theorem qn(h:p:=by
 go_wp2_with fail;refine (vC v len _ HR.out).mono ?_;rintro e w1 ⟨p,rfl,hs1⟩;have HS1:=aa hs1;have HR1:=upK HRES hs1.2.2.1;clear hs1;go_wp2_with fail;refine (HCL.out _ _ _ _ _ _ HS1.out).mono ?_;rintro e w2 ⟨d,c,rfl,hr,-,hs,hg⟩;obtain⟨hba,hrp,hr2,HE⟩:=alZ;clear hr hs hg hba hr2 HS1 HR1 HRES HR;have hW9:w.heap.size<=(w.alloc (Y8 (clo6 U 0 0 U 0 0 U 0 0 U 0 0 U 0 0 0) 29)).heap.size/\Below w.heap.size w (w.alloc (Y8 (clo6 U 0 0 U 0 0 U 0 0 U 0 0 U 0 0 0) 29)):=⟨by simp,ak _ _⟩;generalize (w.alloc (Y8 (clo6 U 0 0 U 0 0 U 0 0 U 0 0 U 0 0 0) 29))=WA at HE hW9;have HWA:=aa hW9;clear hW9;obtain⟨a1,l1,y1,a2,l2,y2,a3,l3,y3,a4,l4,y4,a5,l5,y5⟩:=d;(try unfold clv at HE);dsimp only at HE;have Bc:=aa HE.blk;obtain⟨k0,k1,k2,k3,k4,k5⟩:=cs6 Bc;have ltk:=ae Bc.out;exact z178z):p:=h
theorem adL(h:p:=by
 refine⟨⟨cur.setIfInBounds (j*m+i) (J a 0 q),H,⟨av h1.blk _,h1.inS,lr h3 h1.len,λj' r' hj' i' f' hi'=>?_,λj' r' i' zs' j2 r2 i2 zs2 hj' hi' hz' hj2 hi2 hz2 hH=>?_⟩,λj' r' i' zs' hj' hi' hz'=>?_⟩,h2.set h1.inS,h3⟩
 ·rcases eO h3 hil hj' hi' with ⟨rfl,rfl,rfl⟩|⟨hne,r0,q1,q2⟩
  ·exact⟨_,by rw[Array.getElem?_setIfInBounds_self_of_lt hin],⟨a,0,q,rfl,rfl,YK _,hq,λj x hx=>by simp at hx,Ze rfl⟩⟩
  ·exact Ot
 ·exact Qa
 ·obtain⟨r0,b1,b2⟩:=back j' r' i' zs' hj' hi' hz';exact hN j' r0 i' zs' b1 b2 hz'):p:=h
theorem adk(h:p:=by
 exact bodyPost_ret (v:=Zc #[J g.a1 g.l1 g.c1,J g.a2 g.l2 g.c2,J g.a3 g.l3 g.c3,J g.a4 g.l4 g.c4,J g.a5 g.l5 g.c5,Y7 Y6 o.c.now,I o.n,Y7 Y6 o.p]) (results_cell_row rfl _ _ (w.heap.size+1) _ _ _ _ rfl H12.out Tryz.underlying33 rfl hY) rfl (lX HD9.out HO.out HD4.size Br9.out af HI.nm (λh=>HI.gd h))):p:=h
theorem adj(h:p:=by
 exact bodyPost_ret (v:=Zc #[J g.a1 g.l1 g.c1,J g.a2 g.l2 g.c2,J g.a3 g.l3 g.c3,J g.a4 g.l4 g.c4,J g.a5 g.l5 g.c5,Y7 Y6 o.c.now,I o.n,Y7 Y6 o.p]) (results_cell_row rfl _ _ (w.heap.size+1) _ _ _ _ rfl H12.out Tryz.underlying33 rfl hY) rfl (lX HD9.out HO.out HD5.size Br9.out af HI.nm (λh=>HI.gd h))):p:=h
theorem zQ(h:p:=by
 have Br9:=upK Br hb;have HI:=aa hI;clear hI ho hb k0 k1 k2 k3 k4 k5 ltk;obtain⟨HA8,H12⟩:=alR;go_wp2_with (refine wpList_store_row rfl _ _ _ rfl (w.heap.size+1) #[J g.a1 g.l1 g.c1,J g.a2 g.l2 g.c2,J g.a3 g.l3 g.c3,J g.a4 g.l4 g.c4,J g.a5 g.l5 g.c5,Y7 Y6 o.c.now,I o.n,Y7 Y6 o.p] rfl rfl _ _ Br9.out hY rfl HA8.out ?_);exact z314z):p:=h
theorem acV(h:p:=by
 go_wp2;exact bodyPost_ret (v:=Zc #[J d.a1 d.l1 d.c1,J d.a2 d.l2 d.c2,J d.a3 d.l3 d.c3,J d.a4 d.l4 d.c4,J d.a5 d.l5 d.c5,Y7 Y6 c.now]) (by simp[results,Tryz.results16,go_sem, *]) rfl (Rk HS.dr.gr HS.dr.lt HS.res HS.row HS.low HS.dr.src)):p:=h
theorem acU(h:p:=by
 have hg6:w.grownBy w6 (Y5 p):=⟨HSP.kept.os.trans HS.dr.gr.os,HSP.kept.tape.trans HS.dr.gr.tape,HSP.kept.output.trans HS.dr.gr.output,Yp HS.dr.gr.size HSP.kept.size,λk hk hn=>(HSP.kept.block k (Yj hk HS.dr.gr.size) (λe=>by rcases e with e|e;exact hn (by rw[e]);omega)).trans (HS.dr.gr.block k hk hn)⟩;have HG6:=aa hg6;clear hg6;go_wp2;exact bodyPost_ret (v:=Zc #[J d6.a1 d6.l1 d6.c1,J d6.a2 d6.l2 d6.c2,J d6.a3 d6.l3 d6.c3,J d6.a4 d6.l4 d6.c4,J d6.a5 d6.l5 d6.c5,Y7 Y6 c6.now]) (by simp[results,Tryz.results16,go_sem, *]) rfl (Rk HG6.out HS.dr.lt HRS.out HSP.row (HSP.low.to (Yy _) (λ_ u=>u)) HSP.src)):p:=h
theorem zO(h:p:=by
 obtain⟨k0,k1,k2,k3,k4,k5⟩:=cs6 Bc;have ltk:=ae Bc.out;obtain⟨s0,s1,s2,s3,s4,s5⟩:=cs6 HRS;have lts:=ae HRS.out;have g0:=al HRS.out 0;have g1:=al HRS.out 1;have g2:=al HRS.out 2;have g3:=al HRS.out 3;have g4:=al HRS.out 4;have g5:=al HRS.out 5;exact z346z):p:=h
theorem acT(h:p:=by
 go_wp2;have hR2:aw W (Y5 ⟨g,0,U⟩) l5 y5 6 40 ((mpL (phF t f) ps (k+1)).map pdF) S:=by
  rw[nH HX0.out,Ax HHE.out,HFX.out];exact HP1.out
 exact⟨⟨k+1,by omega,by go_num,hR2.below q1.b,HK1.below q1.b⟩,by simp[intOf];omega⟩):p:=h
theorem acS(h:p:=by
 have Bc4:=upK Bc3 q1.b;obtain⟨k0,k1,k2,k3,k4,k5⟩:=cs6 Bc4;have ltc:=ae Bc4.out;obtain⟨hgl,hfz⟩:=aw.atP (HP1.below q1.b) HLX.out;have c5:q1.w.cell? ⟨g,k*6+5,U⟩=Y5 (Y7 Y6 1):=by
  obtain⟨b3,o3,x3,hae,_,hx3,hat⟩:=cg (HP1.below q1.b).row hlt;cases hae;rw[HLX.out] at hx3;obtain rfl:=Yd hx3;obtain⟨_,_,_,_,-,-,-,-,-,-,-,-,c5⟩:=bH hat;rw[Yq] at c5;exact c5
 go_wp2;have hR:=aw.alo HP1.out q1.b HLX.out 2;rw[List.set_set] at hR;have hR2:aw (q1.w.setCell ⟨g,k*6+5,U⟩ (Y7 Y6 2)) (Y5 ⟨g,0,U⟩) l5 y5 6 40 ((mpL (phF t f) ps (k+1)).map pdF) S:=by
  rw[nH HX0.out,Ax HHE.out,HFX.out];exact hR
 have hK2:aI (λk=>0<l5/\(Y5 ⟨g,0,U⟩:Option Addr)=Y5 ⟨k,0,U⟩) w (q1.w.setCell ⟨g,k*6+5,U⟩ (Y7 Y6 2)):=(HK1.below q1.b).set ⟨by omega,rfl⟩;exact⟨⟨k+1,by omega,by go_num,hR2,hK2⟩,by simp[intOf];omega⟩):p:=h
theorem zN(h:p:=by
 have hne0:=Wd.ne W;clear c0 c1 c2 c3 c4 c5;refine bN bf bf ?_;repeat (go_big_quiet_step (first|(go_at_call 117;exact Calls.wide (HC0.out _))|fail))
 refine wpQuiet_nil ?_;rintro _ ⟨q1,rfl⟩;clear hne0 HC0 k0 p0 k1 p1 k2 p2 k3 p3 k4 p4 k5 p5;exact z349z):p:=h
theorem acN(h:p:=by
 rcases (by omega:r=0\/r=1\/r=2\/r=3\/r=4\/r=5\/r=6\/r=7\/r=8\/r=9\/r=10\/r=11\/r=12\/r=13\/r=14\/r=15\/r=16\/r=17\/r=18\/r=19\/r=20\/r=21) with rfl|rfl|rfl|rfl|rfl|rfl|rfl|rfl|rfl|rfl|rfl|rfl|rfl|rfl|rfl|rfl|rfl|rfl|rfl|rfl|rfl|rfl
 ·have HDW:=HD4;have BkW:=Bk;have BrW:=Br;have HRW:=HR;go_wp2_with fail;go_region_with (first
   | (go_at_call 79;refine (RO (cv HDW.src)).mono ?_;rintro e w5 ⟨n1,c1,z1,j1,x1,m1,y1,a1,l1,cp1,zs1,rfl,hn1,hz1,hk1,hm1,htx,-,hd⟩;have hsz:=hd.src;have hgz:=hd.gr;have HD5:=aa (Dk.Dr.next (w:=w4.drew) (j_ HDW.out) hsz hgz);have HR5:=aa (aB.bR (w:=w4.drew) (HRW.below (br _)) (ch (cv HDW.src)) (aU hgz));have gk5:=gk hgz eh (show w4.drew.heap[w.heap.size]?=_ from BkW.out);have gr5:=gk hgz eh (show w4.drew.heap[w.heap.size+1]?=_ from BrW.out);have HG5:=aa gr5;have kq0:=an gk5 0;have kq1:=an gk5 1;have kq2:=an gk5 2;have kq3:=an gk5 3;have kq4:=an gk5 4;have kq5:=an gk5 5;have ltk5:=ae gk5;clear gk5 gr5)
   | (go_at_call 78;refine ((Cj d c ⟨n1,c1,z1,j1,x1,m1,y1,zs1⟩ a1 l1 cp1 _ HR5.out htx (by show n1.size<=_;omega) (by show z1.size<=_;omega) (by show j1.size<=_;omega) (by show m1.size<=_;omega)).mono λ_ _ h=>h.l).mono ?_;rintro e w9 ⟨g,o,rfl,hI,ho,hb⟩;have HG9:=upK HG5 hb;obtain⟨r0,r1,r2,r3,r4,r5,r6,r7⟩:=cs8 HG9;have hrl:=ae HG9.out;have fr0:=al HG9.out 0;have fr1:=al HG9.out 1;have fr2:=al HG9.out 2;have fr3:=al HG9.out 3;have fr4:=al HG9.out 4;have fr5:=al HG9.out 5;have fr6:=al HG9.out 6;have fr7:=al HG9.out 7))
  all_goals (
   rw[eight HG9.out];have HO:=aa ho;have HD9:=aa (HD5.below hb);have HI:=aa hI;have H12:=aa (setRow_heap _ (w.heap.size+1) _ #[J g.a1 g.l1 g.c1,J g.a2 g.l2 g.c2,J g.a3 g.l3 g.c3,J g.a4 g.l4 g.c4,J g.a5 g.l5 g.c5,Y7 Y6 o.c.now,I o.n,Y7 Y6 o.p] _ _ HG9.out);clear hI ho hb k0 k1 k2 k3 k4 k5 ltk r0 fr0 r1 fr1 r2 fr2 r3 fr3 r4 fr4 r5 fr5 r6 fr6 r7 fr7;go_wp2_with fail
   exact bodyPost_ret (v:=Zc #[J g.a1 g.l1 g.c1,J g.a2 g.l2 g.c2,J g.a3 g.l3 g.c3,J g.a4 g.l4 g.c4,J g.a5 g.l5 g.c5,Y7 Y6 o.c.now,I o.n,Y7 Y6 o.p]) (results_cell_row rfl _ _ (w.heap.size+1) _ _ _ _ rfl H12.out Tryz.underlying33 rfl hY) rfl (lX HD9.out HO.out HD5.size HG9.out af HI.nm (λh=>HI.gd h)))
 ·exact aj2
 ·exact aj2
 ·exact aj2
 ·exact aj3
 ·exact aj3
 ·exact aj3
 ·go_wp2_with fail;refine (oE d c tp _ HR.out).mono ?_;exact nZ
 ·go_wp2_with fail;refine (oC d c tc _ HR.out).mono ?_;exact nZ
 ·have HDW:=aa (HD4.alloc (Y8 #[I ⟨#[100,49]⟩,I ⟨#[100,50]⟩,I ⟨#[118,95,99,49]⟩] 9));have BkW:Hid ((w4.alloc (Y8 #[I ⟨#[100,49]⟩,I ⟨#[100,50]⟩,I ⟨#[118,95,99,49]⟩] 9)).heap[w.heap.size]?=Y5 (Y8 (clv d c.now) 29 (0,0))):=(Yl _ _ _ (ae Bk.out)).trans Bk.out;have BrW:Hid ((w4.alloc (Y8 #[I ⟨#[100,49]⟩,I ⟨#[100,50]⟩,I ⟨#[118,95,99,49]⟩] 9)).heap[w.heap.size+1]?=Y5 (Y8 #[J U 0 0,J U 0 0,J U 0 0,J U 0 0,J U 0 0,Y7 Y6 0,I ⟨#[]⟩,Y7 Y6 0] 33 (0,0))):=(Yl _ _ _ (ae Br.out)).trans Br.out;have HRW:=aa (HR.below (ak w4 (Y8 #[I ⟨#[100,49]⟩,I ⟨#[100,50]⟩,I ⟨#[118,95,99,49]⟩] 9)));go_wp2_with fail;go_region_with (first
   | (go_at_call 28;refine (eS (cv HDW.src) w4.heap.size 3 [⟨#[100,49]⟩,⟨#[100,50]⟩,⟨#[118,95,99,49]⟩] _ (show (w4.alloc _).heap[w4.heap.size]?=_ from Yg) (by have:=HD4.src.uM;omega) rfl ag ag ag).mono ?_;rintro e w5 ⟨tv,rfl,htv,hsz,hgz⟩;have HD5:=aa (Dk.Dr.next (w:=(w4.alloc (Y8 #[I ⟨#[100,49]⟩,I ⟨#[100,50]⟩,I ⟨#[118,95,99,49]⟩] 9)).drew) (j_ HDW.out) hsz hgz);have HR5:=aa (aB.bR (w:=(w4.alloc (Y8 #[I ⟨#[100,49]⟩,I ⟨#[100,50]⟩,I ⟨#[118,95,99,49]⟩] 9)).drew) (HRW.below (br _)) (ch (cv HDW.src)) (aU hgz));have gk5:=gk hgz eh (show (w4.alloc (Y8 #[I ⟨#[100,49]⟩,I ⟨#[100,50]⟩,I ⟨#[118,95,99,49]⟩] 9)).drew.heap[w.heap.size]?=_ from BkW.out);have gr5:=gk hgz eh (show (w4.alloc (Y8 #[I ⟨#[100,49]⟩,I ⟨#[100,50]⟩,I ⟨#[118,95,99,49]⟩] 9)).drew.heap[w.heap.size+1]?=_ from BrW.out);have HG5:=aa gr5;have kq0:=an gk5 0;have kq1:=an gk5 1;have kq2:=an gk5 2;have kq3:=an gk5 3;have kq4:=an gk5 4;have kq5:=an gk5 5;have ltk5:=ae gk5;clear gk5 gr5)
   | (go_at_call 11;refine (oD d c tv _ HR5.out).mono ?_;rintro e w9 ⟨g,o,rfl,hI,ho,hb⟩;have HG9:=upK HG5 hb;obtain⟨r0,r1,r2,r3,r4,r5,r6,r7⟩:=cs8 HG9;have hrl:=ae HG9.out;have fr0:=al HG9.out 0;have fr1:=al HG9.out 1;have fr2:=al HG9.out 2;have fr3:=al HG9.out 3;have fr4:=al HG9.out 4;have fr5:=al HG9.out 5;have fr6:=al HG9.out 6;have fr7:=al HG9.out 7))
  all_goals (
   rw[eight HG9.out];have HO:=aa ho;have HD9:=aa (HD5.below hb);have HI:=aa hI;have H12:=aa (setRow_heap _ (w.heap.size+1) _ #[J g.a1 g.l1 g.c1,J g.a2 g.l2 g.c2,J g.a3 g.l3 g.c3,J g.a4 g.l4 g.c4,J g.a5 g.l5 g.c5,Y7 Y6 o.c.now,I o.n,Y7 Y6 o.p] _ _ HG9.out);clear hI ho hb k0 k1 k2 k3 k4 k5 ltk r0 fr0 r1 fr1 r2 fr2 r3 fr3 r4 fr4 r5 fr5 r6 fr6 r7 fr7;go_wp2_with fail
   exact bodyPost_ret (v:=Zc #[J g.a1 g.l1 g.c1,J g.a2 g.l2 g.c2,J g.a3 g.l3 g.c3,J g.a4 g.l4 g.c4,J g.a5 g.l5 g.c5,Y7 Y6 o.c.now,I o.n,Y7 Y6 o.p]) (results_cell_row rfl _ _ (w.heap.size+1) _ _ _ _ rfl H12.out Tryz.underlying33 rfl hY) rfl (lX HD9.out HO.out HD5.size HG9.out af HI.nm (λh=>HI.gd h)))
 ·go_wp2_with fail;refine (oG d c tc _ HR.out).mono ?_;exact nZ
 ·go_wp2_with fail;refine (oG d c tc _ HR.out).mono ?_;exact nZ
 ·exact wi
 ·exact wi
 ·exact wi
 ·go_wp2_with fail;refine (AY d c tp _ HR.out).mono ?_;exact nZ
 ·go_wp2_with fail;refine (ym d c _ HR.out).mono ?_;exact nZ
 ·go_wp2_with fail;refine (ym d c _ HR.out).mono ?_;exact nZ
 ·go_wp2_with fail;refine (kr d c tn _ HR.out).mono ?_;exact nZ
 ·go_wp2_with fail;refine (kr d c tn _ HR.out).mono ?_;exact nZ
 ·go_wp2_with fail;refine (cS HD4.src 3 ag).mono ?_;rintro e w5 ⟨he,hs,hg⟩;have HD5:=aa (HD4.next hs hg);replace HR:=aa (HR.bR (ch HD4.src) (aU hg));replace Bk:=aa (gk hg eh Bk.out);replace Br:=aa (gk hg eh Br.out);clear hs hg k0 k1 k2 k3 k4 k5 ltk;have z358z:=@aa _ @acM;exact eC
 ·have HDW:=HD4;have BkW:=Bk;have BrW:=Br;have HRW:=HR;go_wp2_with fail;go_region_with (first
   | (go_at_call 18;refine ((cv HDW.src).n 12 ag).mono ?_;rintro e w5 ⟨m5,rfl,ma,mb,hsz,hgz⟩;have HD5:=aa (Dk.Dr.next (w:=w4.drew) (j_ HDW.out) hsz hgz);have HR5:=aa (aB.bR (w:=w4.drew) (HRW.below (br _)) (ch (cv HDW.src)) (aU hgz));have gk5:=gk hgz eh (show w4.drew.heap[w.heap.size]?=_ from BkW.out);have gr5:=gk hgz eh (show w4.drew.heap[w.heap.size+1]?=_ from BrW.out);have HG5:=aa gr5;have kq0:=an gk5 0;have kq1:=an gk5 1;have kq2:=an gk5 2;have kq3:=an gk5 3;have kq4:=an gk5 4;have kq5:=an gk5 5;have ltk5:=ae gk5;clear gk5 gr5)
   | (go_at_call 90;refine (B2 d c m5 _ HR5.out).mono ?_;rintro e w9 ⟨g,o,rfl,hI,ho,hb⟩;have HG9:=upK HG5 hb;obtain⟨r0,r1,r2,r3,r4,r5,r6,r7⟩:=cs8 HG9;have hrl:=ae HG9.out;have fr0:=al HG9.out 0;have fr1:=al HG9.out 1;have fr2:=al HG9.out 2;have fr3:=al HG9.out 3;have fr4:=al HG9.out 4;have fr5:=al HG9.out 5;have fr6:=al HG9.out 6;have fr7:=al HG9.out 7))
  all_goals (
   rw[eight HG9.out];have HO:=aa ho;have HD9:=aa (HD5.below hb);have HI:=aa hI;have H12:=aa (setRow_heap _ (w.heap.size+1) _ #[J g.a1 g.l1 g.c1,J g.a2 g.l2 g.c2,J g.a3 g.l3 g.c3,J g.a4 g.l4 g.c4,J g.a5 g.l5 g.c5,Y7 Y6 o.c.now,I o.n,Y7 Y6 o.p] _ _ HG9.out);clear hI ho hb k0 k1 k2 k3 k4 k5 ltk r0 fr0 r1 fr1 r2 fr2 r3 fr3 r4 fr4 r5 fr5 r6 fr6 r7 fr7;go_wp2_with fail
   exact bodyPost_ret (v:=Zc #[J g.a1 g.l1 g.c1,J g.a2 g.l2 g.c2,J g.a3 g.l3 g.c3,J g.a4 g.l4 g.c4,J g.a5 g.l5 g.c5,Y7 Y6 o.c.now,I o.n,Y7 Y6 o.p]) (results_cell_row rfl _ _ (w.heap.size+1) _ _ _ _ rfl H12.out Tryz.underlying33 rfl hY) rfl (lX HD9.out HO.out HD5.size HG9.out af HI.nm (λh=>HI.gd h)))):p:=h
theorem acM(h:p:=by
 obtain⟨x5,rfl⟩:=eI he;clear he;cases x5
 ·go_wp2_with fail;refine (B0 d c tn _ HR.out).mono ?_;exact ah4
 ·go_wp2_with fail;refine (Ca d c tn _ HR.out).mono ?_;exact ah4):p:=h
theorem acL(h:p:=by
 go_wp2_with fail;have HS2:=aa (HS.alloc (Y8 #[Y7 Y6 (-1),Y7 Y6 1000000,Y7 Y6 1000001] 2));have Bi:Hid ((w1.alloc (Y8 #[Y7 Y6 (-1),Y7 Y6 1000000,Y7 Y6 1000001] 2)).heap[w1.heap.size]?=Y5 (Y8 #[Y7 Y6 (-1),Y7 Y6 1000000,Y7 Y6 1000001] 2 (0,0))):=Yg;refine (HS2.src.n 3 ag).mono ?_;rintro e w2 ⟨q,rfl,qa,qb,hs,hg⟩;have hbi:¬w1.heap.size=p:=af
 replace Bi:=aa (gk hg hbi Bi.out);replace HS:=aa (HS2.draw hbp hs hg);replace Bk:=aa HS.blk;clear hs hg HS2 k0 k1 k2 k3 k4 k5 ltk;obtain⟨k0,k1,k2,k3,k4,k5⟩:=cs6 Bk;have ltk:=ae Bk.out;obtain⟨i0,i1,i2⟩:=cs3 Bi;have lti:=ae Bi.out;have fk5:=al Bk.out 5;have fin:∀m:Int,∃d' c',iG B w0 p v len X b c w (w2.setCell ⟨b,5,U⟩ (Y7 Y6 m)) d' c':=λm=>by
  have hg9:=bJ w2 b 5 (Y7 Y6 m);refine⟨⟨a1,l1,y1,a2,l2,y2,a3,l3,y3,a4,l4,y4,a5,l5,y5⟩,⟨c.ns,c.ks,c.vs,c.xs,c.ps,m⟩,?_,?_,HS.low.to (Ye _) (λ_ q=>q.set),HS.src.ay hg9 (λe=>hbp (Yd e)) (λk e=>by have:=Yd e;omega),HS.kept.set (Zd hXb),rfl⟩
  ·rw[av (i:=5) Bk.out];rfl
  ·exact (HS.row.bR (c:=c) (cN Bk.out) (aU hg9):aB _ _ c.raw)
 rcases (by omega:q=0\/q=1\/q=2) with rfl|rfl|rfl;all_goals (
  go_wp2_with fail
  go_end0
  exact⟨rfl,fin _⟩)):p:=h
theorem acK(h:p:=by
 have HS2:=aa (HS.alloc (Y8 #[I ⟨#[100,49]⟩,I ⟨#[118,95,99,49]⟩] 9)).Rj;have hbi:¬w1.heap.size=p:=af
 have Bi:Hid ((w1.alloc (Y8 #[I ⟨#[100,49]⟩,I ⟨#[118,95,99,49]⟩] 9)).heap[w1.heap.size]?=Y5 (Y8 #[I ⟨#[100,49]⟩,I ⟨#[118,95,99,49]⟩] 9 (0,0))):=Yg;have hgs:g<(w1.alloc (Y8 #[I ⟨#[100,49]⟩,I ⟨#[118,95,99,49]⟩] 9)).drew.heap.size:=by show g<(w1.alloc (Y8 #[I ⟨#[100,49]⟩,I ⟨#[118,95,99,49]⟩] 9)).heap.size;simp;omega
 have HC:Hid (∀i u,w1.cell? ⟨g,i,U⟩=Y5 u->(w1.alloc (Y8 #[I ⟨#[100,49]⟩,I ⟨#[118,95,99,49]⟩] 9)).drew.cell? ⟨g,i,U⟩=Y5 u):=λi u h=>(ai (ak w1 _) hgl).trans h;have HU:Hid (UF (w1.alloc (Y8 #[I ⟨#[100,49]⟩,I ⟨#[118,95,99,49]⟩] 9)).drew g):=(huf.below (ak w1 _)).Rj;go_wp2_with fail;go_region_with (go_at_call 28;refine (eS HS2.src w1.heap.size 2 [⟨#[100,49]⟩,⟨#[118,95,99,49]⟩] _ (show (w1.alloc (Y8 #[I ⟨#[100,49]⟩,I ⟨#[118,95,99,49]⟩] 9)).drew.heap[w1.heap.size]?=_ from Bi.out) hbi rfl ag ag ag).mono ?_;rintro e wz ⟨t,rfl,hts,hsz,hgz⟩;have HZ:=aa (HS2.draw hbp hsz hgz);have gz:=HZ.blk;have y0:=an gz 0;have hgw:g<wz.heap.size:=Yj hgs hgz.size;have hbw:=ae gz;have z0:wz.cell? ⟨g,o+6,U⟩=Y5 (J va vl vc):=(cell_kept (aU hgz) hgs hgp).trans (HC.out _ _ c6);have zu:=HU.draw hsz hgz;have zf:wz.frozen? ⟨g,o+6,U⟩=Y_:=zu.ob _);all_goals (
  go_wp2_with fail
  go_end0
  have hc9:(wz.alloc (Y8 #[I t] 9)).cell? ⟨g,o+6,U⟩=Y5 (J va vl vc):=(ai (ak wz _) hgw).trans z0;obtain⟨c2,h9⟩:=(HZ.alloc (Y8 #[I t] 9)).set hBX (u':=J (Y5 ⟨wz.heap.size,0,U⟩) 1 1) hc9 (Zd (Zd (Zd (Zd ⟨⟨_,_,_,rfl⟩,_,_,_,[t],rfl,az.set hc9 (λ_ e=>by cases e) (aip wz t hts)⟩)))) hXg hgb hgp;rw[World.setCell_alloc_past _ _ _ _ hgw] at h9
  exact⟨rfl,_,c2,h9⟩)):p:=h
theorem acJ(h:p:=by
 go_wp2_with fail;go_region_with (go_at_call 18;refine ((cv HS.src).n 2 ag).mono ?_;rintro e wz ⟨q,rfl,qa,qb,hsz,hgz⟩;have HZ:=aa (HS.Rj.draw hbp hsz hgz);have gz:=gk hgz hbp (show w1.drew.heap[b]?=_ from Bk.out);have y0:=an gz 0;have z0:wz.cell? ⟨g,o+1*7+3,U⟩=Y5 (Y7 Y6 x.s):=(cell_kept (aU hgz) (show g<w1.drew.heap.size from hgl) hgp).trans c3;have zf:wz.frozen? ⟨g,o+1*7+3,U⟩=Y_:=(huf.Rj.draw hsz hgz).ob _);all_goals (
  go_wp2_with fail
  go_end0
  exact⟨rfl,_,HZ.set hBX z0 (Zd (Zd (Ze ⟨⟨_,rfl⟩,_,rfl⟩))) hXg hgb hgp⟩)):p:=h
theorem acI(h:p:=by
 have HS2:=aa (HS.alloc (Y8 #[I ⟨#[]⟩,I ⟨#[100,49]⟩,I ⟨#[118,95,99,50]⟩] 9)).Rj;have hbi:¬w1.heap.size=p:=af
 have Bi:Hid ((w1.alloc (Y8 #[I ⟨#[]⟩,I ⟨#[100,49]⟩,I ⟨#[118,95,99,50]⟩] 9)).heap[w1.heap.size]?=Y5 (Y8 #[I ⟨#[]⟩,I ⟨#[100,49]⟩,I ⟨#[118,95,99,50]⟩] 9 (0,0))):=Yg;have hgs:g<(w1.alloc (Y8 #[I ⟨#[]⟩,I ⟨#[100,49]⟩,I ⟨#[118,95,99,50]⟩] 9)).drew.heap.size:=by show g<(w1.alloc (Y8 #[I ⟨#[]⟩,I ⟨#[100,49]⟩,I ⟨#[118,95,99,50]⟩] 9)).heap.size;simp;omega
 have HC:Hid (∀i u,w1.cell? ⟨g,i,U⟩=Y5 u->(w1.alloc (Y8 #[I ⟨#[]⟩,I ⟨#[100,49]⟩,I ⟨#[118,95,99,50]⟩] 9)).drew.cell? ⟨g,i,U⟩=Y5 u):=λi u h=>(ai (ak w1 _) hgl).trans h;have HU:Hid (UF (w1.alloc (Y8 #[I ⟨#[]⟩,I ⟨#[100,49]⟩,I ⟨#[118,95,99,50]⟩] 9)).drew g):=(huf.below (ak w1 _)).Rj;go_wp2_with fail;go_region_with (go_at_call 28;refine (eS HS2.src w1.heap.size 3 [⟨#[]⟩,⟨#[100,49]⟩,⟨#[118,95,99,50]⟩] _ (show (w1.alloc (Y8 #[I ⟨#[]⟩,I ⟨#[100,49]⟩,I ⟨#[118,95,99,50]⟩] 9)).drew.heap[w1.heap.size]?=_ from Bi.out) hbi rfl ag ag ag).mono ?_;rintro e wz ⟨t,rfl,hts,hsz,hgz⟩;have HZ:=aa (HS2.draw hbp hsz hgz);have gz:=HZ.blk;have y3:=an gz 3;have z0:wz.cell? ⟨g,o+4,U⟩=Y5 (I x.v):=(cell_kept (aU hgz) hgs hgp).trans (HC.out _ _ c4);have zu:=HU.draw hsz hgz;have zf:wz.frozen? ⟨g,o+4,U⟩=Y_:=zu.ob _);all_goals (
  go_wp2_with fail
  go_end0
  exact⟨rfl,_,HZ.set hBX z0 (Zd (Ze ⟨⟨_,rfl⟩,t,rfl,by omega⟩)) hXg hgb hgp⟩)):p:=h
theorem acH(h:p:=by
 have HS2:=aa (HS.alloc (Y8 #[I ⟨#[110,49]⟩,I ⟨#[110,51]⟩] 9)).Rj;have hbi:¬w1.heap.size=p:=af
 have Bi:Hid ((w1.alloc (Y8 #[I ⟨#[110,49]⟩,I ⟨#[110,51]⟩] 9)).heap[w1.heap.size]?=Y5 (Y8 #[I ⟨#[110,49]⟩,I ⟨#[110,51]⟩] 9 (0,0))):=Yg;have hgs:g<(w1.alloc (Y8 #[I ⟨#[110,49]⟩,I ⟨#[110,51]⟩] 9)).drew.heap.size:=by show g<(w1.alloc (Y8 #[I ⟨#[110,49]⟩,I ⟨#[110,51]⟩] 9)).heap.size;simp;omega
 have HC:Hid (∀i u,w1.cell? ⟨g,i,U⟩=Y5 u->(w1.alloc (Y8 #[I ⟨#[110,49]⟩,I ⟨#[110,51]⟩] 9)).drew.cell? ⟨g,i,U⟩=Y5 u):=λi u h=>(ai (ak w1 _) hgl).trans h;have HU:Hid (UF (w1.alloc (Y8 #[I ⟨#[110,49]⟩,I ⟨#[110,51]⟩] 9)).drew g):=(huf.below (ak w1 _)).Rj;go_wp2_with fail;go_region_with (go_at_call 28;refine (eS HS2.src w1.heap.size 2 [⟨#[110,49]⟩,⟨#[110,51]⟩] _ (show (w1.alloc (Y8 #[I ⟨#[110,49]⟩,I ⟨#[110,51]⟩] 9)).drew.heap[w1.heap.size]?=_ from Bi.out) hbi rfl ag ag ag).mono ?_;rintro e wz ⟨t,rfl,hts,hsz,hgz⟩;have HZ:=aa (HS2.draw hbp hsz hgz);have gz:=HZ.blk;have y4:=an gz 4;have z0:wz.cell? ⟨g,o+4,U⟩=Y5 (I x.d):=(cell_kept (aU hgz) hgs hgp).trans (HC.out _ _ c4);have zu:=HU.draw hsz hgz;have zf:wz.frozen? ⟨g,o+4,U⟩=Y_:=zu.ob _);all_goals (
  have hc9:(wz.setCell ⟨g,o+4,U⟩ (I t)).cell? ⟨g,o+5,U⟩=Y5 (Y7 Y6 x.p):=(gq af).trans ((cell_kept (aU hgz) hgs hgp).trans (HC.out _ _ c5));have hu9:UF (wz.setCell ⟨g,o+4,U⟩ (I t)) g:=zu.set;obtain⟨c2,h9⟩:=HZ.set hBX z0 (Zd (Ze ⟨⟨_,rfl⟩,t,rfl,by omega⟩)) hXg hgb hgp;clear k0 k1 k2 k3 k4 k5 ltk c0 c1 cz c3 c4 c5 z0 zf zu y4 gz HC HU hgs HZ HS2 HS Bi hsz hgz;go_wp2_with fail
  generalize wz.setCell ⟨g,o+4,U⟩ (I t)=W3 at hc9 hu9 h9 ⊢
  replace Bk:=aa h9.blk
  have hgw:g<W3.heap.size:=by
   obtain⟨cs,T,h⟩:=hu9;exact ae h
  obtain⟨k0,k1,k2,k3,k4,k5⟩:=cs6 Bk;have ltk:=ae Bk.out
  go_region_with (go_at_call 18;refine ((cv h9.src).n 2 ag).mono ?_;rintro e wy ⟨q,rfl,qa,qb,hsy,hgy⟩;have HY:=aa (h9.Rj.draw hbp hsy hgy);have gy:=HY.blk;have y4:=an gy 4;have z0:wy.cell? ⟨g,o+5,U⟩=Y5 (Y7 Y6 x.p):=(cell_kept (aU hgy) (show g<W3.drew.heap.size from hgw) hgp).trans hc9;have zf:wy.frozen? ⟨g,o+5,U⟩=Y_:=(hu9.Rj.draw hsy hgy).ob _)
  all_goals (
   go_wp2_with fail
   go_end0
   exact⟨rfl,_,HY.set hBX z0 (Zd (Zd (Ze ⟨⟨_,rfl⟩,_,rfl⟩))) hXg hgb hgp⟩))):p:=h
theorem acG(h:p:=by
 have hg9:=λu=>bJ w1 b 1 u;obtain⟨y,ys,hys⟩:∃y ys,c.ks=y ::ys:=by
  cases hq:c.ks with
  | nil=>have:=HK.out;rw[hq] at this;simp at this
  | cons y ys=>exact⟨y,ys,rfl⟩
 have hrk:aT w1 a2 l2 y2 4 (kdF y ::ys.map kdF):=by have h:=HS.row.k;rw[show c.raw.k=c.ks.map kdF from rfl,hys] at h;exact h
 have hcp:=hrk.2.1;have h1l:1<=l2:=by have:=HK.out;omega
 have fin:∀(a:Option Addr) (cp:Nat),aT w1 a (l2 - 1) cp 4 (ys.map kdF)->LoA X w1 a (l2 - 1)->∃d' c',iG B w0 p v len X b c w (w1.setCell ⟨b,1,U⟩ (J a (l2 - 1) cp)) d' c':=λa cp hr hl=>by
  have hp9:=HS.row.bR (c:=c) (cN Bk.out) (aU (hg9 (J a (l2 - 1) cp)));have hlo:=HS.low.to (B':=X) (w':=w1.setCell ⟨b,1,U⟩ (J a (l2 - 1) cp)) (Ye _) (λ_ q=>q.set);refine⟨⟨a1,l1,y1,a,l2 - 1,cp,a3,l3,y3,a4,l4,y4,a5,l5,y5⟩,⟨c.ns,ys,c.vs,c.xs,c.ps,c.now⟩,?_,⟨hp9.n,hr.bR (cy (λx=>⟨x.n,rfl⟩) ys) (cN Bk.out) (aU (hg9 _)),hp9.v,hp9.x,hp9.p⟩,⟨hlo.n,hl.to (Ye _) (λ_ q=>q.set),hlo.v,hlo.x,hlo.p⟩,HS.src.ay (hg9 _) (λe=>hbp (Yd e)) (λk e=>by have:=Yd e;omega),HS.kept.set (Zd hXb),rfl⟩;rw[av (i:=1) Bk.out];rfl
 have fk1:=al Bk.out 1;by_cases hy:y2=1
 ·subst hy;have hl21:l2=1:=af
  have hl20:((1:Nat):Int)<=(l2:Int):=af
  go_wp2_with fail;go_end0;have hy0:ys=[]:=by have:=hrk.1;simp at this;exact List.length_eq_zero_iff.1 af
  have h20:l2 - 1=0:=af
  rw[h20] at fin;exact⟨rfl,fin a2 0 (by rw[hy0];exact aT.nil _ _ _ ag) (Ze rfl)⟩
 ·go_wp2_with fail;go_end0;exact⟨rfl,fin _ _ (hrk.tail af) (HS.low.k.tail 4)⟩):p:=h
theorem acF(h:p:=by
 go_wp2_with fail;go_end0;exact⟨rfl,_,_,HS.out⟩):p:=h
theorem eC(h:p:=by
 obtain⟨k0,k1,k2,k3,k4,k5⟩:=cs6 Bk;have ltk:=ae Bk.out;exact z358z):p:=h
theorem acg(h:p:=by
 have hgd:=HGD.out hp;have hn3:=hgd.1.trans HS.ns;have hk2:=hgd.2.trans HS.ks;have HN3:=aa hn3;have HK2:=aa hk2;clear hgd hn3 hk2;cases bb
 ·go_wp2;exact⟨⟨k+1,by omega,by go_num,g,q.c,HS.put HGR.out HGL.out HN3.out HK2.out⟩,by simp[intOf];omega⟩
 ·go_wp2;exact⟨⟨k+1,by omega,by go_num,d9,c,HS.out⟩,by simp[intOf];omega⟩):p:=h
theorem acf(h:p:=by
 by_cases hp:q.p=0
 ·have hp1:(q.p==0)=Zb:=iJ
  have HN3:=aa ((HGD.out hp).1.trans HS.ns);have HK2:=aa ((HGD.out hp).2.trans HS.ks);go_wp2;exact⟨⟨m - 1,by omega,by omega,by go_num,g,q.c,(HS.put HGR.out HGL.out HN3.out HK2.out).below (ak _ _)⟩,by simp[intOf];omega⟩
 ·have hp1:(q.p==0)=Y_:=iJ
  go_wp2;exact⟨⟨m - 1,by omega,by omega,by go_num,d,c,HS.below (ak _ _)⟩,by simp[intOf];omega⟩):p:=h
theorem zD(h:p:=by
 obtain⟨k0,k1,k2,k3,k4,k5⟩:=cs6 Bc;have ltk:=ae Bc.out;have f0:=al Bc.out 0;have f1:=al Bc.out 1;have f2:=al Bc.out 2;have f3:=al Bc.out 3;have f4:=al Bc.out 4;have f5:=al Bc.out 5;exact z400z):p:=h
theorem ab0(h:p:=by
 rw[show QR c n=[] from HMN.out];rfl):p:=h
theorem abZ(h:p:=by
 rw[show QR c n=(kK c n.n c.vs) from HMN.out];rfl):p:=h
theorem zy(h:p:=by
 show _=(c.ns.set (pl Nd.n c.ns t) (fu c n)).map ndF;rw[(bo HT.2.1.1.2.2 HNJ.out HOK.2.2.2).1,List.map_set];show _=(c.ns.map ndF).set j (ndF (fu c n));unfold fu;exact z424z):p:=h
theorem abP(h:p:=by
 unfold akO at h3;rw[YG] at h3;obtain⟨j,p,hp,hd,k,hk⟩:=dO.1 h3.2;have hz:=(hT.2.1.2.2.2.2.2.1 j p hp).2.2.2.1.2;have hne:¬v.m=⟨#[]⟩:=aL.ne (hz k v.m hk).1;obtain⟨i',j',x',v',k1,k2,k3,k4,k5,k6,_⟩:=(hT.2.2.1.1 jv v hj).2.resolve_left hne;refine⟨⟨v.n,p.d⟩,List.mem_filter.2 ⟨(hm _).2 ⟨j,p,(Yc.1 hp).1,hp,by rw[hd];exact ht,k,v.m,v,hk,⟨i',jv,x',k1,k2,hj,k5.symm⟩,rfl⟩,?_⟩,rfl⟩;exact (wX (q:=⟨v.n,p.d⟩) hv hj rfl hd).2 (eE.1 h3.1)):p:=h
theorem zq(h:p:=by
 rw[<-hps] at hP;obtain⟨HG,HB7⟩:=alC;clear g1 g2 g3 g4 hP hK nb HF1 HF6 Bo6 Br6 HB6;obtain⟨o0,o1,o2,o3,o4,o5⟩:=cs6 Bo7;obtain⟨r0,r1,r2,r3,r4,r5,r6,r7⟩:=cs8 Br7;have fr0:=al Br7.out 0;have fr1:=al Br7.out 1;have fr2:=al Br7.out 2;have fr3:=al Br7.out 3;have fr4:=al Br7.out 4;have fr5:=al Br7.out 5;have fr6:=al Br7.out 6;have fr7:=al Br7.out 7;have hol:=ae Bo7.out;have hrl:=ae Br7.out;obtain⟨hne5,hne6⟩:=An;go_wp2;have hlo:=HLO.out;refine bodyPost_ret (v:=Zc #[J (Y5 ⟨g,0,U⟩) m1 n1,J x2 m2 n2,J x3 m3 n3,J x4 m4 n4,J x5 m5 n5,Y7 Y6 c.now,I ⟨#[]⟩,Y7 Y6 0]) NS rfl ⟨⟨Y5 ⟨g,0,U⟩,m1,n1,x2,m2,n2,x3,m3,n3,x4,m4,n4,x5,m5,n5⟩,⟨jj c t n f,⟨#[]⟩,0⟩,rfl,HV.out,?_,sb1 (sb1 (sb1 (sb1 (sb1 (sb1 (sb1 (sb1 (HB7.out))))))))⟩;have hk4:∀k,k<w7.heap.size->w1.heap.size<=k/\¬k=w3.heap.size->((((((((w7.setCell ⟨w.heap.size+1,0,U⟩ (J (Y5 ⟨g,0,U⟩) m1 n1)).setCell ⟨w.heap.size+1,1,U⟩ (J x2 m2 n2)).setCell ⟨w.heap.size+1,2,U⟩ (J x3 m3 n3)).setCell ⟨w.heap.size+1,3,U⟩ (J x4 m4 n4)).setCell ⟨w.heap.size+1,4,U⟩ (J x5 m5 n5)).setCell ⟨w.heap.size+1,5,U⟩ (Y7 Y6 c.now)).setCell ⟨w.heap.size+1,6,U⟩ (I ⟨#[]⟩)).setCell ⟨w.heap.size+1,7,U⟩ (Y7 Y6 0)).heap[k]?=w7.heap[k]?:=λk _ h1=>by rw[Ya _ _ _ _ (show k≠w.heap.size+1 by omega),Ya _ _ _ _ (show k≠w.heap.size+1 by omega),Ya _ _ _ _ (show k≠w.heap.size+1 by omega),Ya _ _ _ _ (show k≠w.heap.size+1 by omega),Ya _ _ _ _ (show k≠w.heap.size+1 by omega),Ya _ _ _ _ (show k≠w.heap.size+1 by omega),Ya _ _ _ _ (show k≠w.heap.size+1 by omega),Ya _ _ _ _ (show k≠w.heap.size+1 by omega)]
 exact z444z):p:=h
theorem abv(h:p:=by
 have HB:=aa (Yh w.heap.size w);go_enter Tryz.func84,Tryz.ntmps84;have z820z:=@aa _ @Us;exact iw):p:=h
theorem abu(h:p:=by
 have HB:=aa (Yh w.heap.size w);go_enter Tryz.func86,Tryz.ntmps86;have z820z:=@aa _ @Ur;exact iw):p:=h
theorem abt(h:p:=by
 have HT:=aa hT;have HNE:=aa ht;have HB:=aa (Yh w.heap.size w);obtain⟨i0,hi,hz0,hz1,hz2⟩:=info_parts fk;have HI0:=aa (Yb hi (Yb hz0 (Yb hz1 hz2)));clear hi hz0 hz1 hz2 hT ht;go_enter Tryz.func77,Tryz.ntmps77;go_wp2_with fail;refine (lW ⟨a1,l1,y1,a2,l2,y2,a3,l3,y3,a4,l4,y4,a5,l5,y5⟩ c _ (HR.below (HB.trans ((aS _ _ _).mono HB.size))) HT.out).mono ?_;rintro e w1 ⟨wa,wl,wc,ws,rfl,ho,hrq,hmem,hle,hb⟩;obtain⟨HA0,HA1,hbx⟩:=dP hb;have Bk:=aa HA0;have Bn:=aa HA1;replace HB:=upB HB hbx;clear hb hbx HA0 HA1;have HER:=aa ho.row;have hwl:ws.length=wl:=by simpa using ho.row.1
 have HES:=aa (Yb hrq hmem);have hw24:wl<=24:=af
 have hn1:w.heap.size+1<w1.heap.size:=ae Bn.out;clear ho hrq hmem;go_wp2;have BeV:=aa (heap_alloc_new w1 (Y8 #[] 9));have HB1:=HB;have Bk1:=Bk;have Bn1:=Bn;clear HB Bk Bn;go_loopw [6,7] (λvo vi wr=> ∃k m9:Nat,k<=wl/\m9<=k/\vi=Y7 Y6 k/\Hid (wr.ownsRow (w1.heap.size) 9 1 vo m9 ((mwL c n.n (ws.take k)).map Ym))/\Hid (Below w1.heap.size w1 wr)) (λ_ vi _=>wl - (intOf vi).toNat);case atStart=>exact⟨0,0,by omega,by omega,rfl,⟨rfl,Zd ⟨w1.heap.size,0,#[],rfl,Ye _,BeV.out,Ye _,by unfold maxLen;omega,rfl,rfl⟩⟩,ak _ _⟩
 case round=>
  obtain⟨k,m9,hk,hm9,rfl,HO,HL⟩:=hrel;have hLs:=HL.size;have Bk:=upK Bk1 HL.out;have Bn:=upK Bn1 HL.out;have HB:=aa (HB1.trans (HL.mono HB1.size));clear BeV;by_cases hlt:k<wl
  ·have hk1:(k:Int)<wl:=af
   have hk0:¬(k:Int)<0:=af
   obtain⟨b,o,y,rfl,hbl,hy,hat⟩:=oX (HER.below HL.out) hlt;obtain⟨-,-,hc0,hc1⟩:=fF hat;have HY0:=aa hy;obtain⟨i,v,hv,hvn⟩:=aij ((HES.2 y).1 (Ys hy));have HV:=aa (Yb hv hvn);have hi3:i<l3:=by have:=(Yc.1 hv).1;omega
   have hii:(i:Int)<l3:=af
   have hi0:¬(i:Int)<0:=af
   obtain⟨b3,o3,v',rfl,hb3,hx3,hat3⟩:=bK (HR.v.below HB.out) hi3;rw[hv] at hx3;obtain rfl:=Yd hx3;obtain⟨va,vl,vc,hvr,-,-,-,-,-,-,-,-,-,-,-,hc7⟩:=aW hat3;have HVR:=aa hvr;clear hat hy hv hvn hat3 hx3 hvr;by_cases he:y.d=n.n;rotate_left
   ·have hq:=bu he;have hon:mwB c n.n y=Y_:=akN he;have HON:=aa hon;clear hon;have z911z:=@aa _ @Ta;exact pK
   have hq:=aP he;have HIF:=aa (wX (q:=y) HT.2.1.2.2.1.2.2 HV.1 HV.2 he);clear he;by_cases hin:InL v.zs n.n;rotate_left
   ·have HIN:=aa hin;clear hin;have hon:mwB c n.n y=Y_:=by cases h:mwB c n.n y;rfl;exact absurd (HIF.1 h) HIN.out
    have HON:=aa hon;clear hon;have z911z:=@aa _ @S_;exact pK
   have HON:=aa (HIF.2 hin);have HIN:=aa hin;clear hin;have z911z:=@aa _ @Tb;exact pK
  have hk1:¬(k:Int)<wl:=af
  have HO3:=HO;rw[YJ af] at HO3;obtain⟨a',p',rfl,hT⟩:=bS.fo HO3.out (agu HER.out);rw[QQ HT.out HNE.out HES.1 HES.2] at hT;have HTO:=aa hT;clear HO3 hT HO;go_wp2;go_ret;exact⟨_,_,_,rfl,HTO.bm (λk _ s=>by have s1:w1.heap.size<=k:=s;show w.heap.size<=k;omega),HB.out⟩):p:=h
theorem abd(h:p:=by
 refine (eN ⟨a1,l1,y1,a2,l2,y2,a3,l3,y3,a4,l4,y4,a5,l5,y5⟩ c.now c.xs t _ (HR.x.below HB.out)).mono ?_;rintro e w2 ⟨hb,hf⟩;have z856z:=@aa _ @TS;exact fS):p:=h
theorem aaK(h:p:=by
 have ltr_10:=ae Br.out;obtain⟨fr0,fr1,fr2,fr3,fr4,fr5,fr6,fr7⟩:=gJ;have hrl:w.heap.size+1<w5.heap.size:=ae Br.out;exact ahA):p:=h
theorem aaJ(h:p:=by
 have ltr_4:=ae Br.out;have z1741z:=@aa _ @C6;exact mj):p:=h
theorem X_(h:p:=by
 exact bodyPost_ret (v:=Zc #[J U 0 0,J U 0 0,J U 0 0,J U 0 0,J U 0 0,Y7 Y6 0,I ⟨#[]⟩,Y7 Y6 6]) oL rfl ⟨ad0,co0 6,rfl,HV.out,(rl0 _ _),sb1 (sb1 (sb1 (sb1 (sb1 (sb1 (sb1 (sb1 (HB.out))))))))⟩):p:=h
theorem X9(h:p:=by
 exact bodyPost_ret (v:=Zc #[J U 0 0,J U 0 0,J U 0 0,J U 0 0,J U 0 0,Y7 Y6 0,I ⟨#[]⟩,Y7 Y6 7]) oL rfl ⟨ad0,co0 7,rfl,HV.out,(rl0 _ _),sb1 (sb1 (sb1 (sb1 (sb1 (sb1 (sb1 (sb1 (HB.out))))))))⟩):p:=h
theorem X8(h:p:=by
 exact bodyPost_ret (v:=Zc #[J U 0 0,J U 0 0,J U 0 0,J U 0 0,J U 0 0,Y7 Y6 0,I ⟨#[]⟩,Y7 Y6 6]) ui rfl ⟨ad0,co0 6,rfl,HV.out,(rl0 _ _),sb1 (sb1 (sb1 (sb1 (sb1 (sb1 (sb1 (sb1 (HB.out))))))))⟩):p:=h
theorem X7(h:p:=by
 exact bodyPost_ret (v:=Zc #[J U 0 0,J U 0 0,J U 0 0,J U 0 0,J U 0 0,Y7 Y6 0,I ⟨#[]⟩,Y7 Y6 10]) ui rfl ⟨ad0,co0 10,rfl,HV.out,(rl0 _ _),sb1 (sb1 (sb1 (sb1 (sb1 (sb1 (sb1 (sb1 (HB.out))))))))⟩):p:=h
theorem Xo(h:p:=by
 go_enter Tryz.func8,Tryz.ntmps8;have z178z:=@aa _ @ae7;exact qn):p:=h
theorem Xm(h:p:=by
 go_enter Tryz.func4,Tryz.ntmps4;have z178z:=@aa _ @ae6;exact qn):p:=h
theorem Xl(h:p:=by
 go_enter Tryz.func6,Tryz.ntmps6;have z178z:=@aa _ @ae5;exact qn):p:=h
theorem pS(h:p:=by
 obtain⟨hcl,HCL⟩:=alH;have hR1:ep (w.alloc (Y8 (clo6 U 0 0 U 0 0 U 0 0 U 0 0 U 0 0 0) 29)).heap.size (w.alloc (Y8 (clo6 U 0 0 U 0 0 U 0 0 U 0 0 U 0 0 0) 29)) v len:=by
  exact al6
 obtain⟨HR,HRES⟩:=alQ;clear hR hR1 hcl;exact z616z):p:=h
theorem Xk(h:p:=by
 go_region_with (go_at_call 18;refine (HED.src.n (l4:Int) af).mono ?_;rintro e wz ⟨m,rfl,ma,mb,hsz,hgz⟩;obtain⟨mn,rfl⟩:∃n:Nat,m=n:=⟨m.toNat,by omega⟩;have HZ:=aa (HED.draw hsz hgz);have hmn:mn<l4:=af;obtain⟨b',o',x,hab,hb,hx,hat⟩:=dL HZ.row.x hmn;cases hab;obtain⟨hxn,-,-,c0,-,-,-,-⟩:=bQ hat;have HXN:=aa hxn;have bz:=HZ.blk;have rz:=HZ.res;have hne:¬b=w.heap.size:=(λe=>by subst e;exact cN (d:=ad0) rz _ _ c0);obtain⟨z0,z1,z2,z3,z4,z5⟩:=cs6 bz;have ltz:=ae bz;obtain⟨y0_,y1_,y2_,y3_,y4_,y5_⟩:=cs6 rz;have ltzr:=ae rz;have h0_:=al rz 0;have h1_:=al rz 1;have h2_:=al rz 2;have h3_:=al rz 3;have h4_:=al rz 4;have h5_:=al rz 5;clear hx bz rz ma mb hsz hgz hxn);all_goals (
  have hf:=HZ.fin rfl HWA.1 HWA.2;have HF:=aa hf;clear hf;go_wp2_with fail
  exact bodyPost_ret (v:=Zg #[Zc #[J a1 l1 y1,J a2 l2 y2,J a3 l3 y3,J (Y5 ⟨b,o,U⟩) l4 y4,J a5 l5 y5,Y7 Y6 c.now],I x.n]) NQ rfl ⟨⟨a1,l1,y1,a2,l2,y2,a3,l3,y3,(Y5 ⟨b,o,U⟩),l4,y4,a5,l5,y5⟩,c,x.n,rfl,HF.1,HXN.out,HF.2⟩)):p:=h
theorem Xj(h:p:=by
 have hf:=HE.fin rfl HWA.1 HWA.2;exact bodyPost_ret (v:=Zg #[Zc #[J a1 l1 y1,J a2 l2 y2,J a3 l3 y3,J a4 0 y4,J a5 l5 y5,Y7 Y6 c.now],I ⟨#[99,57]⟩]) NQ rfl ⟨⟨a1,l1,y1,a2,l2,y2,a3,l3,y3,a4,0,y4,a5,l5,y5⟩,c,⟨#[99,57]⟩,rfl,hf.1,by decide,hf.2⟩):p:=h
theorem Xi(h:p:=by
 have hf:=HE.fin rfl HWA.1 HWA.2;exact bodyPost_ret (v:=Zg #[Zc #[J a1 l1 y1,J a2 l2 y2,J a3 l3 y3,J a4 l4 y4,J a5 l5 y5,Y7 Y6 c.now],I ⟨#[99,57]⟩]) NQ rfl ⟨⟨a1,l1,y1,a2,l2,y2,a3,l3,y3,a4,l4,y4,a5,l5,y5⟩,c,⟨#[99,57]⟩,rfl,hf.1,by decide,hf.2⟩):p:=h
theorem Xh(h:p:=by
 go_region_with (go_at_call 18;refine (HED.src.n (l3:Int) af).mono ?_;rintro e wz ⟨m,rfl,ma,mb,hsz,hgz⟩;obtain⟨mn,rfl⟩:∃n:Nat,m=n:=⟨m.toNat,by omega⟩;have HZ:=aa (HED.draw hsz hgz);have hmn:mn<l3:=af;obtain⟨b',o',x,hab,hb,hx,hat⟩:=bK HZ.row.v hmn;cases hab;obtain⟨va,vl,vc,-,hxn,-,-,-,c0,-,-,-,-,-,-,-⟩:=aW hat;have HXN:=aa hxn;have bz:=HZ.blk;have rz:=HZ.res;have hne:¬b=w.heap.size:=(λe=>by subst e;exact cN (d:=ad0) rz _ _ c0);obtain⟨z0,z1,z2,z3,z4,z5⟩:=cs6 bz;have ltz:=ae bz;obtain⟨y0_,y1_,y2_,y3_,y4_,y5_⟩:=cs6 rz;have ltzr:=ae rz;have h0_:=al rz 0;have h1_:=al rz 1;have h2_:=al rz 2;have h3_:=al rz 3;have h4_:=al rz 4;have h5_:=al rz 5;clear hx bz rz ma mb hsz hgz hxn);all_goals (
  have hf:=HZ.fin rfl HWA.1 HWA.2;have HF:=aa hf;clear hf;go_wp2_with fail
  exact bodyPost_ret (v:=Zg #[Zc #[J a1 l1 y1,J a2 l2 y2,J (Y5 ⟨b,o,U⟩) l3 y3,J a4 l4 y4,J a5 l5 y5,Y7 Y6 c.now],I x.n]) NP rfl ⟨⟨a1,l1,y1,a2,l2,y2,(Y5 ⟨b,o,U⟩),l3,y3,a4,l4,y4,a5,l5,y5⟩,c,x.n,rfl,HF.1,HXN.out,HF.2⟩)):p:=h
theorem Xg(h:p:=by
 have hf:=HE.fin rfl HWA.1 HWA.2;exact bodyPost_ret (v:=Zg #[Zc #[J a1 l1 y1,J a2 l2 y2,J a3 0 y3,J a4 l4 y4,J a5 l5 y5,Y7 Y6 c.now],I ⟨#[100,57]⟩]) NP rfl ⟨⟨a1,l1,y1,a2,l2,y2,a3,0,y3,a4,l4,y4,a5,l5,y5⟩,c,⟨#[100,57]⟩,rfl,hf.1,by decide,hf.2⟩):p:=h
theorem Xf(h:p:=by
 have hf:=HE.fin rfl HWA.1 HWA.2;exact bodyPost_ret (v:=Zg #[Zc #[J a1 l1 y1,J a2 l2 y2,J a3 l3 y3,J a4 l4 y4,J a5 l5 y5,Y7 Y6 c.now],I ⟨#[100,57]⟩]) NP rfl ⟨⟨a1,l1,y1,a2,l2,y2,a3,l3,y3,a4,l4,y4,a5,l5,y5⟩,c,⟨#[100,57]⟩,rfl,hf.1,by decide,hf.2⟩):p:=h
theorem iB(h:p:=by
 have HRS:=aa HE.res;obtain⟨s0,s1,s2,s3,s4,s5⟩:=cs6 HRS;obtain⟨lts,g0_,g1_,g2_,g3_,g4_,g5_,hne2⟩:=ahv;go_wp2_with fail;exact z620z):p:=h
theorem Ut(h:p:=by
 have hp0:(¬p=0/\pt c t ⟨vZ0,p⟩)\/(p=0/\¬8000<t.size/\aq c):=by
  exact uD
 clear hp;rcases hp0 with ⟨hp0,hV⟩|⟨rfl,hl,hT⟩
 ·have HV:=aa hV;clear hV;have hp1:(p==0)=Y_:=kR
  have z1236z:=@aa _ @KA;exact eR
 have HT:=aa hT;clear hT;have z467z:=@aa _ @abd;exact cG):p:=h
theorem Us(h:p:=by
 have hp0:(¬p=0/\dV c t (co0 p))\/(p=0/\¬8000<t.size/\aq c):=by
  rcases hp with ⟨h1,rfl⟩|⟨h1,h2,rfl⟩|⟨h1,h2,rfl⟩
  ·exact Ze ⟨by decide,Ze ⟨0,by decide,h1,rfl⟩⟩
  ·exact Ze ⟨by decide,Ze ⟨1,by decide,⟨h1,h2⟩,rfl⟩⟩
  ·exact Zd ⟨rfl,h1,h2⟩
 clear hp;rcases hp0 with ⟨hp0,hV⟩|⟨rfl,hl,hT⟩
 ·have z1674z:=@aa _ @DY;exact jD
 have HT:=aa hT;clear hT;obtain⟨k0,k1,k2,k3,k4,k5⟩:=cs6 Bk;have ltk_1:=ae Bk.out;go_wp2_with fail;refine (eN ⟨a1,l1,y1,a2,l2,y2,a3,l3,y3,a4,l4,y4,a5,l5,y5⟩ c.now c.xs t _ (HR.x.below HB.out)).mono ?_;rintro e w2 ⟨hb,hf⟩;clear k0 k1 k2 k3 k4 k5 ltk_1;have z1444z:=@aa _ @G_;exact ba):p:=h
theorem Ur(h:p:=by
 have hp0:(¬p=0/\dY c t (co0 p))\/(p=0/\¬8000<t.size/\aq c):=by
  exact uD
 clear hp;rcases hp0 with ⟨hp0,hV⟩|⟨rfl,hl,hT⟩
 ·have z1674z:=@aa _ @DX;exact jD
 have HT:=aa hT;clear hT;obtain⟨k0,k1,k2,k3,k4,k5⟩:=cs6 Bk;have ltk_1:=ae Bk.out;go_wp2_with fail;refine (gL ⟨a1,l1,y1,a2,l2,y2,a3,l3,y3,a4,l4,y4,a5,l5,y5⟩ c.now c.ps t _ (HR.p.below HB.out)).mono ?_;rintro e w2 ⟨hb,hf⟩;clear k0 k1 k2 k3 k4 k5 ltk_1;have z1444z:=@aa _ @G8;exact ba):p:=h
theorem T3(h:p:=by
 have HLO:=aa HB.size;refine (cE ⟨(Y5 ⟨b,o,U⟩),l1,y1,a2,l2,y2,a3,l3,y3,a4,l4,y4,a5,l5,y5⟩ c _ (HR.below (HB.trans ((ak _ _).mono HB.size))) HT.sm).mono ?_;rintro e w3 ⟨d',rfl,ho,hb⟩;clear hd0 hd1 hd2 hd3 hd4 hd5 hd6 hbl;have HQ2:=aa hb.size;rw[cw] at HQ2 ho;clear k0 k1 k2 k3 k4 k5 ltk_1;obtain⟨HA0,hbx⟩:=aV hb;replace Bk:=upK Bk hbx;replace Br:=upK Br hbx;have Bn:=aa HA0;replace HB:=upB HB hbx;clear hb hbx HA0;obtain⟨x1,m1,n1,x2,m2,n2,x3,m3,n3,x4,m4,n4,x5,m5,n5⟩:=d';have hm1:m1=l1:=by have h6:(c.ns.map ndF).length=m1:=ho.n.1;rw[Yo] at h6;omega
 subst hm1;have hq1:w.heap.size+1<w1.heap.size:=HQ1.out;have hq2:w1.heap.size+1<=w3.heap.size:=HQ2.out;have inS:∀{a l cp m T rs},aw w3 a l cp m T rs (λk=>w1.heap.size+1<=k)->aw w3 a l cp m T rs (λk=>w1.heap.size<=k/\¬k=w3.heap.size):=λh=>h.bm (λk hk s=>⟨by have s1:w1.heap.size+1<=k:=s;omega,by omega⟩);obtain⟨g,hga,hS⟩:=(inS ho.n).st (aI.refl _ w3) (i:=j) (r:=ndF n) (show (c.ns.map ndF)[j]?=Y5 (ndF n) by rw[Yv,HNJ.out];rfl);have hga':x1=Y5 ⟨g,0,U⟩:=hga;subst hga';have HG0:Hid (w1.heap.size+1<=g):=by
  rcases ho.n.2.2.2 with h9|⟨g9,c9,H9,e9,h9⟩
  ·have h8:(c.ns.map ndF)[j]?=Y5 (ndF n):=by rw[Yv,HNJ.out];rfl
   have h7:c.ns.map ndF=[]:=h9;rw[h7] at h8;cases h8
  ·cases e9;exact h9.inS
 obtain⟨curg,hg1,hg2,hgb⟩:∃curg,w1.heap.size<=g/\g<w3.heap.size/\w3.heap[g]?=Y5 (Y8 curg 83 (0,0)):=by
  obtain⟨⟨cur,H,h1,_⟩,_⟩:=hS;exact⟨cur,h1.inS.1,ae h1.blk,h1.blk⟩
 have HGB:=aa hgb;have HG1:Hid (w1.heap.size+1<=g):=HG0.out;have HST:=aa hS;have HOC:=aa (Yb (inS ho.k) (Yb (inS ho.v) (Yb (inS ho.x) (inS ho.p))));have HNN:Hid (aw w3 (Y5 ⟨g,0,U⟩) m1 n1 7 83 (c.ns.map ndF) (λk=>w1.heap.size<=k/\¬k=w3.heap.size)):=inS ho.n;clear hS ho hga inS hgb;go_wp2_with fail;obtain⟨W,hW0⟩:∃W,W=(w3.alloc (Y8 (clo6 (Y5 ⟨g,0,U⟩) m1 n1 x2 m2 n2 x3 m3 n3 x4 m4 n4 x5 m5 n5 c.now) 29)):=⟨_,rfl⟩;have BkW:=aa ((Yl w3 (Y8 (clo6 (Y5 ⟨g,0,U⟩) m1 n1 x2 m2 n2 x3 m3 n3 x4 m4 n4 x5 m5 n5 c.now) 29) _ (ae Bk.out)).trans Bk.out);have BrW:=aa ((Yl w3 (Y8 (clo6 (Y5 ⟨g,0,U⟩) m1 n1 x2 m2 n2 x3 m3 n3 x4 m4 n4 x5 m5 n5 c.now) 29) _ (ae Br.out)).trans Br.out);have BnW:=aa ((Yl w3 (Y8 (clo6 (Y5 ⟨g,0,U⟩) m1 n1 x2 m2 n2 x3 m3 n3 x4 m4 n4 x5 m5 n5 c.now) 29) _ (ae Bn.out)).trans Bn.out);have BoW:=aa (heap_alloc_new w3 (Y8 (clo6 (Y5 ⟨g,0,U⟩) m1 n1 x2 m2 n2 x3 m3 n3 x4 m4 n4 x5 m5 n5 c.now) 29));have HWW:=aa (ak w3 (Y8 (clo6 (Y5 ⟨g,0,U⟩) m1 n1 x2 m2 n2 x3 m3 n3 x4 m4 n4 x5 m5 n5 c.now) 29));have HBW:=aa (HB.trans ((ak w3 (Y8 (clo6 (Y5 ⟨g,0,U⟩) m1 n1 x2 m2 n2 x3 m3 n3 x4 m4 n4 x5 m5 n5 c.now) 29)).mono HB.size));rw[<-hW0] at BkW BrW BnW BoW HWW HBW ⊢;clear hW0 Bk Br Bn HB;rename_i K0 hK0;refine Gt.bF bf rfl rfl bf ?_;refine' Grow.stepC _ rfl ?_ ?_;rotate_left 1
 ·exact kC
 refine' Grow.stepC _ rfl ?_ ?_;rotate_left 1
 ·have z1605z:=@aa _ @EL;exact mC
 refine' Grow.stepC _ rfl ?_ ?_;rotate_left 1
 ·exact kD
 refine' Grow.stepC _ rfl ?_ ?_;rotate_left 1
 ·exact ny
 refine' Grow.stepC _ rfl ?_ ?_;rotate_left 1
 ·have z1486z:=@aa _ @GC;exact gQ
 refine' Grow.stepC (Y7 Y6 (c.now+10)) rfl ?_ ?_
 ·have z1534z:=@aa _ @FG;exact jG
 refine Grow.step (λv _=>v=Y7 Y6 (cX c)) rfl (Fact.dd _) ?_ ?_
 ·have z1539z:=@aa _ @FD;exact jF
 refine' Grow.stepC _ rfl ?_ ?_;rotate_left 1
 ·have z1602z:=@aa _ @EO;exact mD
 refine' Grow.stepC _ rfl ?_ ?_;rotate_left 1
 ·refine Obl.plain rfl ?_;intro ac wg K hsz hW hf hK;clear hsz;exact wk
 refine Grow.done ?_;intro q wy hW hf;simp only[YI] at hf;obtain⟨h38,h37,h36,h35,h34,h33,h32,h31,h30,-⟩:=hf;have HWY:=upB HWW hW;have HBY:=upB HBW hW;have Bk2:=upK BkW hW;have Br2:=upK BrW hW;have Bn2:=upK BnW hW;have Bo2:=upK BoW hW;obtain⟨v9,hcz⟩:=(HST.below HWY.out).cell (i:=4) rfl;have hfz:=(HST.below HWY.out).ob (j*7+4);intro K hK;rw[if_pos (by rfl)];simp only[aM,YT,Act.put,Yt,YC,YE,h38,h37,h36,h35,h34,h33,h32,h31,h30];have z1706z:=@aa _ @Du;exact eP):p:=h
theorem T2(h:p:=by
 refine (aJ p _).mono ?_;have z1z:=@aa _ @ajQ;exact ff):p:=h
theorem T1(h:p:=by
 refine (aJ 10 _).mono ?_;rintro e w2 ⟨rfl,hb⟩;clear k0 k1 k2 k3 k4 k5 ltk_1;obtain⟨HA0,hbx⟩:=aV hb;replace Bk:=upK Bk hbx;replace Br:=upK Br hbx;have Bn:=aa HA0;replace HB:=upB HB hbx;clear hb hbx HA0;have z140z:=@aa _ @afB;exact lL):p:=h
theorem TS(h:p:=by
 rcases hf with ⟨i,x,hx,hn,rfl⟩|⟨hno,rfl⟩;rotate_left
 ·have HV:Hid (pt c t ⟨vZ0,6⟩):=Ze ⟨2,⟨hl,HT.out,λ⟨i,x,h1,h2⟩=>hno i x h1 h2⟩,rfl⟩;clear hno;obtain⟨k0,k1,k2,k3,k4,k5⟩:=cs6 Bk;have ltk_2:=ae Bk.out;obtain⟨r0,r1,r2,r3,r4,r5,r6,r7,r8⟩:=cs9 Br;have ltr_2:=ae Br.out;obtain⟨fr0,fr1,fr2,fr3,fr4,fr5,fr6,fr7⟩:=gJ;have fr8:=al Br.out 8;go_wp2;refine bodyPost_ret (v:=Zc #[I ⟨#[]⟩,Y7 Y6 0,I ⟨#[]⟩,I ⟨#[]⟩,Y9 Y_,I ⟨#[]⟩,Y9 Y_,J U 0 0,Y7 Y6 6]) Aa rfl ⟨_,_,_,⟨vZ0,6⟩,rfl,HV.out,vz _ _,sb1 (sb1 (sb1 (sb1 (sb1 (sb1 (sb1 (sb1 (sb1 (HB.out)))))))))⟩
 have HX:=aa (show BK c t from ⟨i,x,hx,hn⟩);clear hx hn;have hi0:¬(i:Int)<0:=af
 have z1194z:=@aa _ @K2;exact bD):p:=h
theorem Tb(h:p:=by
 obtain⟨n0,yd,von,hne0,HC0⟩:=ahl;have HC1:=aa (λq:Wd wr=>yj va vl vc v.zs n.n q.w (HVR.below q.b) Zb (⟨λ_=>HIN.out,λ_=>rfl⟩));have z1247z:=@aa _ @Kj;exact bY):p:=h
theorem Ta(h:p:=by
 have n0:=λq:Wd wr=>q.slot (o:=0) Gn.out rfl;have yd:=λq:Wd wr=>(q.cell hbl).trans hc1;have hne0:=Wd.ne wr;have z15z:=@aa _ @ajd;exact aX):p:=h
theorem S_(h:p:=by
 obtain⟨n0,yd,von,hne0,HC0⟩:=ahl;have HC1:=aa (λq:Wd wr=>yj va vl vc v.zs n.n q.w (HVR.below q.b) Y_ (⟨λh=>bU,λh=>absurd h HIN.out⟩));have z55z:=@aa _ @afJ;exact aC):p:=h
theorem pK(h:p:=by
 obtain⟨k0,k1,k2,k3,k4,k5⟩:=cs6 Bk;have ltk_40:=ae Bk.out;obtain⟨n0,n1,n2,n3,n4,n5,n6⟩:=cs7 Bn;have ltn_40:=ae Bn.out;go_wp2_with fail;clear k0 k1 k2 k3 k4 k5 ltk_40 n0 n1 n2 n3 n4 n5 n6 ltn_40;have Gk:=Bk;have Gn:=Bn;have HW:=HB;obtain⟨k0,k1,k2,k3,k4,k5⟩:=sl6 Gk;exact z911z):p:=h
theorem NL(h:p:=by
 refine bodyPost_ret (v:=Zc #[J x1 m1 n1,J x2 m2 n2,J q3 m3' z3,J x4 m4 n4,J x5 m5 n5,Y7 Y6 c.now,I (aN++x.n),Y7 Y6 0]) oL rfl ⟨⟨x1,m1,n1,x2,m2,n2,q3,m3',z3,x4,m4,n4,x5,m5,n5⟩,⟨ew c i x (cO ⟨#[]⟩ k.z),(aN++x.n),0⟩,rfl,HV.out,?_,sb1 (sb1 (sb1 (sb1 (sb1 (sb1 (sb1 (sb1 (HB4.out))))))))⟩;have hk4:∀k,k<w4.heap.size->(λk=>(λk=>q1.w.heap.size<=k/\k<w3.heap.size) k\/(w3.alloc (Y8 (clo6 x1 m1 n1 x2 m2 n2 x3 m3 n3 x4 m4 n4 x5 m5 n5 c.now) 29)).heap.size<=k) k->((((((((w4.setCell ⟨w.heap.size+1,0,U⟩ (J x1 m1 n1)).setCell ⟨w.heap.size+1,1,U⟩ (J x2 m2 n2)).setCell ⟨w.heap.size+1,2,U⟩ (J q3 m3' z3)).setCell ⟨w.heap.size+1,3,U⟩ (J x4 m4 n4)).setCell ⟨w.heap.size+1,4,U⟩ (J x5 m5 n5)).setCell ⟨w.heap.size+1,5,U⟩ (Y7 Y6 c.now)).setCell ⟨w.heap.size+1,6,U⟩ (I (aN++x.n))).setCell ⟨w.heap.size+1,7,U⟩ (Y7 Y6 0)).heap[k]?=w4.heap[k]?:=λk _ h1=>by
  have h0:¬k=w.heap.size+1:=by rcases h1 with ⟨h2,h3⟩|h2;omega;rw[hsv] at h2;omega
  exact Aw
 exact Pn):p:=h
theorem NK(h:p:=by
 refine bodyPost_ret (v:=Zc #[J x1 m1 n1,J x2 m2 n2,J x3 m3 n3,J x4 m4 n4,J x5 m5 n5,Y7 Y6 c.now,I u.n,Y7 Y6 0]) oL rfl ⟨⟨x1,m1,n1,x2,m2,n2,x3,m3,n3,x4,m4,n4,x5,m5,n5⟩,⟨fK c i j9 x u,u.n,0⟩,rfl,HV.out,?_,sb1 (sb1 (sb1 (sb1 (sb1 (sb1 (sb1 (sb1 (HB4.out))))))))⟩;have hk4:∀k,k<w4.heap.size->(λk=>q1.w.heap.size<=k/\k<w3.heap.size) k->((((((((w4.setCell ⟨w.heap.size+1,0,U⟩ (J x1 m1 n1)).setCell ⟨w.heap.size+1,1,U⟩ (J x2 m2 n2)).setCell ⟨w.heap.size+1,2,U⟩ (J x3 m3 n3)).setCell ⟨w.heap.size+1,3,U⟩ (J x4 m4 n4)).setCell ⟨w.heap.size+1,4,U⟩ (J x5 m5 n5)).setCell ⟨w.heap.size+1,5,U⟩ (Y7 Y6 c.now)).setCell ⟨w.heap.size+1,6,U⟩ (I u.n)).setCell ⟨w.heap.size+1,7,U⟩ (Y7 Y6 0)).heap[k]?=w4.heap[k]?:=λk _ h1=>by
  have h0:¬k=w.heap.size+1:=by obtain⟨h2,h3⟩:=h1;omega
  exact Aw
 exact Pn):p:=h
theorem uf(h:p:=by
 have z1584z:=@aa _ @E2;exact su):p:=h
theorem MZ(h:p:=by
 cases bb;case true=>
  have z620z:=@aa _ @Xi;exact iB
 obtain⟨b,o,x0,rfl,-,-,-⟩:=dL HE.row.x (show 0<l4 by omega);have HED:=aa (HE.below (br _));have z620z:=@aa _ @Xk;exact iB):p:=h
theorem MY(h:p:=by
 cases bb;case true=>
  have z620z:=@aa _ @Xf;exact iB
 obtain⟨b,o,x0,rfl,-,-,-⟩:=bK HE.row.v (show 0<l3 by omega);have HED:=aa (HE.below (br _));have z620z:=@aa _ @Xh;exact iB):p:=h
theorem tV(h:p:=by
 go_wp2_with fail;refine (cS HE.src 6 ag).mono ?_;rintro e w4 ⟨he,hs,hg⟩;obtain⟨bb,rfl⟩:=eI he;replace HE:=aa (HE.draw hs hg);clear he hs hg k0 k1 k2 k3 k4 k5 ltk Bc;have Bc:=aa HE.blk;obtain⟨k0,k1,k2,k3,k4,k5⟩:=cs6 Bc;have ltk:=ae Bc.out;exact z1058z):p:=h
theorem Mg(h:p:=by
 clear hb hbx HW HA0 HA1;go_wp2_with (first|go_quiet (fail)|fail);first
  | (go_ret;exact⟨rfl,HB.out⟩)
  | (go_ret;exact⟨rfl,HB.trans ((Below.vj (Yh _ _)).mono HB.size)⟩)):p:=h
theorem Mf(h:p:=by
 go_wp2_with fail;go_ret;exact⟨rfl,HB.out⟩):p:=h
theorem K8(h:p:=by
 clear k0 k1 k2 k3 k4 k5 ltk_2;have c2:=HC.1;cases hkx:k.x
 ·have HKX:=aa hkx;rw[hkx] at d1;clear hkx;obtain⟨Gk,Gr,HW⟩:=fE;obtain⟨k0,k1,k2,k3,k4,k5⟩:=sl6 Gk;obtain⟨xk,kx,hne0,HC0⟩:=ahi;have z55z:=@aa _ @afL;exact aC
 have HKX:=aa hkx;rw[hkx] at d1;clear hkx;obtain⟨Gk,Gr,HW⟩:=fE;obtain⟨k0,k1,k2,k3,k4,k5⟩:=sl6 Gk;obtain⟨xk,kx,hne0,HC0⟩:=ahi;go_wp2_with fail;refine bN bf bf ?_;have z1682z:=@aa _ @DT;exact rX):p:=h
theorem K7(h:p:=by
 have z1528z:=@aa _ @FL;exact gP):p:=h
theorem K6(h:p:=by
 refine (aJ 7 _).mono ?_;rintro e w3 ⟨rfl,hb⟩;clear k0 k1 k2 k3 k4 k5 ltk_2;replace Bk:=upK Bk hb;have z154z:=@aa _ @afg;exact cH):p:=h
theorem K5(h:p:=by
 clear k0 k1 k2 k3 k4 k5 ltk_2;by_cases hg:n.d=Zb/\n.u+5<c.now;rotate_left
 ·have HG:Hid ((n.d && decide (n.u+5<c.now))=Y_):=by
   show (n.d && decide (n.u+5<c.now))=Y_;cases hd:n.d
   ·rfl
   ·simp only[Bool.true_and,decide_eq_false_iff_not];exact λh=>hg ⟨hd,h⟩
  have HV:Hid (dY c t (co0 11)):=Ze ⟨7,⟨hl,HT.out,x,HXX.1,HXX.2,hp,λh=>(by
   obtain⟨m,h1,_,h3,h4⟩:=h;rw[HPN.out,HNJ.out] at h1;obtain rfl:=Yd h1
   exact hg ⟨h3,h4⟩)⟩,rfl⟩
  obtain⟨Gk,Gr,HW⟩:=fE;obtain⟨k0,k1,k2,k3,k4,k5⟩:=sl6 Gk;obtain⟨pd4,e0,e1,e2,e3,e4,e5,e6,hne0,HC0⟩:=ahp;have HC1:=aa (λq:Wd w2=>rD ⟨(Y5 ⟨bn,on,U⟩),l1,y1,a2,l2,y2,a3,l3,y3,a4,l4,y4,(Y5 ⟨b,o,U⟩),l5,y5⟩ c.now n ua ul uc q.w HNU.1 HNU.2 Y_ HG.out);have z55z:=@aa _ @afK;exact aC
 have HG:Hid ((n.d && decide (n.u+5<c.now))=Zb):=by
  show (n.d && decide (n.u+5<c.now))=Zb;rw[hg.1];simpa using hg.2
 have HV:Hid (dY c t ⟨evC c t x,⟨#[]⟩,0⟩):=Zd ⟨hl,HT.out,x,HXX.1,HXX.2,hp,⟨n,by rw[HPN.out];exact HNJ.out,HNN.out,hg.1,hg.2⟩,rfl⟩;clear hg;obtain⟨Gk,Gr,HW⟩:=fE;obtain⟨k0,k1,k2,k3,k4,k5⟩:=sl6 Gk;obtain⟨pd4,e0,e1,e2,e3,e4,e5,e6,hne0,HC0⟩:=ahp;have HC1:=aa (λq:Wd w2=>rD ⟨(Y5 ⟨bn,on,U⟩),l1,y1,a2,l2,y2,a3,l3,y3,a4,l4,y4,(Y5 ⟨b,o,U⟩),l5,y5⟩ c.now n ua ul uc q.w HNU.1 HNU.2 Zb HG.out);go_wp2_with fail;refine bN bf bf ?_;have z1679z:=@aa _ @DV;exact rY):p:=h
theorem K4(h:p:=by
 have z1528z:=@aa _ @FK;exact gP):p:=h
theorem K3(h:p:=by
 refine (aJ 10 _).mono ?_;rintro e w3 ⟨rfl,hb⟩;clear k0 k1 k2 k3 k4 k5 ltk_2;replace Bk:=upK Bk hb;have z154z:=@aa _ @afe;exact cH):p:=h
theorem K2(h:p:=by
 refine (im ⟨a1,l1,y1,a2,l2,y2,a3,l3,y3,a4,l4,y4,a5,l5,y5⟩ c t _ (HR.below HB.out) HT.2.1.2.2.2.1.2.2 HT.2.1.2.2.1.2.2 HT.2.1.ne).mono ?_;rintro e w3 ⟨hb,hf⟩;clear k0 k1 k2 k3 k4 k5 ltk_2;have z1444z:=@aa _ @GZ;exact ba):p:=h
theorem KA(h:p:=by
 obtain⟨r0,r1,r2,r3,r4,r5,r6,r7,r8⟩:=cs9 Br;have ltr_1:=ae Br.out;obtain⟨fr0,fr1,fr2,fr3,fr4,fr5,fr6,fr7⟩:=gJ;have fr8:=al Br.out 8;go_wp2;refine bodyPost_ret (v:=Zc #[I ⟨#[]⟩,Y7 Y6 0,I ⟨#[]⟩,I ⟨#[]⟩,Y9 Y_,I ⟨#[]⟩,Y9 Y_,J U 0 0,Y7 Y6 p]) Aa rfl ⟨_,_,_,⟨vZ0,p⟩,rfl,HV.out,vz _ _,sb1 (sb1 (sb1 (sb1 (sb1 (sb1 (sb1 (sb1 (sb1 (HB.out)))))))))⟩):p:=h
theorem Kj(h:p:=by
 have z1490z:=@aa _ @Gz;exact sE):p:=h
theorem Kb(h:p:=by
 go_wp2_with fail;have HLO:=aa HB.size;refine (cE ⟨a1,l1,y1,(Y5 ⟨bk,ok,U⟩),l2,y2,a3,l3,y3,(Y5 ⟨b,o,U⟩),l4,y4,a5,l5,y5⟩ c _ (HR.below HB.out) HT.sm).mono ?_;rintro e w3 ⟨d',rfl,ho,hb⟩;have HQ2:=aa hb.size;clear k0 k1 k2 k3 k4 k5 ltk_3;have z1444z:=@aa _ @GY;exact ba):p:=h
theorem Ka(h:p:=by
 go_wp2_with fail;refine (aJ 11 _).mono ?_;rintro e w3 ⟨rfl,hb⟩;clear k0 k1 k2 k3 k4 k5 ltk_3;replace Bk:=upK Bk hb;have z516z:=@aa _ @aaJ;exact lC):p:=h
theorem JX(h:p:=by
 rcases hf with ⟨i,p,hw,hpi,hp0,rfl⟩|⟨j,n,hn,hok,rfl⟩
 ·have HV:Hid (vt c t (co0 p)):=Ze ⟨i,hw,by rw[hpi]⟩;have hp1:(p==0)=Y_:=kR
  clear hw hpi hp0;have z846z:=@aa _ @T2;exact eA
 have z1482z:=@aa _ @GG;exact mM):p:=h
theorem JW(h:p:=by
 have hnm:(c.ns.set (pl Nd.n c.ns t) (fu c n))[j]?=Y5 (fu c n):=by
  rw[(bo HT.2.1.1.2.2 HNJ.out HOK.2.2.2).1,dW (Yc.1 HNJ.out).1,if_pos rfl]
 have hnr:aF Nd.n (c.ns.set (pl Nd.n c.ns t) (fu c n)):=by
  rw[(bo HT.2.1.1.2.2 HNJ.out HOK.2.2.2).1];exact HT.2.1.1.2.2.RW HNJ.out rfl
 refine (B5 w3.heap.size (Y5 ⟨g,0,U⟩) m1 n1 x2 m2 n2 x3 m3 n3 x4 m4 n4 x5 m5 n5 c.now t (c.ns.set (pl Nd.n c.ns t) (fu c n)) c.ks c.vs c.xs c.ps (fu c n) j f (λk=>w1.heap.size<=k/\¬k=w3.heap.size) (λk=>w1.heap.size<=k/\¬k=w3.heap.size) _ Bo6.out HF6.2.2.2 (λg5 e0 e5 e=>nb g5 (λh=>h.2 e) ⟨e0,e5⟩) HF1.out HF6.1 HF6.2.1 HF6.2.2.1 hnr HT.2.1.2.2.2.1.2.2 HT.2.1.2.2.1.2.2 HT.2.1.ne hnm HOK.2.2.2 (λk p hp hd=>HT.bds hp (by rw[hd,<-HOK.2.2.2];exact aL.ne (HT.2.1.1.2.1 _ n HOK.2.2.1).1)) (λk p hp hd=>(HF.out p).imp (λh=>⟨h.1,h.2.2⟩) (λh=>⟨h.1,λh9=>h.2 ⟨HLV.out,h9⟩⟩))).mono ?_;rintro e w7 ⟨⟨v,rfl⟩,hP,hK⟩;obtain⟨Bo7,Br7,g1,g2,g3,g4⟩:=ahk;have hps:(jj c t n f).raw.p=(c.ps.map (phF t f)).map pdF:=rfl;have z444z:=@aa _ @OQ;exact zq):p:=h
theorem JV(h:p:=by
 refine (lZ w3.heap.size (Y5 ⟨g,0,U⟩) x2 x3 x4 x5 m1 n1 m2 n2 m3 n3 m4 n4 m5 n5 c.now t c.ps (λk=>w1.heap.size<=k/\¬k=w3.heap.size) _ Bo6.out HF6.2.2.2 (λg5 e0 e5 e=>nb g5 (λh=>h.2 e) ⟨e0,e5⟩)).mono ?_;rintro e w7 ⟨⟨v,rfl⟩,hP,hK⟩;obtain⟨Bo7,Br7,g1,g2,g3,g4⟩:=ahk;have hps:(jj c t n f).raw.p=(c.ps.map (ph1 t)).map pdF:=by
  show (c.ps.map (phF t f)).map pdF=_;rw[HF1E.out,agm]
 have z444z:=@aa _ @ahW;exact zq):p:=h
theorem tq(h:p:=by
 rw[<-hW6] at f1 f2 f3 f4 f5 hr6 ho6 hb6 ⊢;have HF1:=aa f1;have HF6:=aa (Yb f2 (Yb f3 (Yb f4 f5)));have Br6:=aa hr6;have Bo6:=aa ho6;have HB6:=aa hb6;clear hW6 f1 f2 f3 f4 f5 hr6 ho6 hb6 past hat6 hns;have nb:∀k,¬(w1.heap.size<=k/\¬k=w3.heap.size)->¬(0<m5/\x5=Y5 ⟨k,0,U⟩):=λk h1 h2=>by
  exact akm
 exact z1286z):p:=h
theorem G_(h:p:=by
 rcases hf with ⟨i,x,hx,hn,rfl⟩|⟨hno,rfl⟩;rotate_left
 ·have HV:Hid (dV c t (co0 6)):=Ze ⟨2,by decide,⟨hl,HT.out,BK.no HT.out (f_ hno)⟩,rfl⟩;clear hno;have z1194z:=@aa _ @K7;exact bD
 have HX:=aa (Yb hx hn);obtain⟨hi4,hii,hi0⟩:=NZ;obtain⟨j,k,hkj,hkn⟩:∃(j:Nat) (k:Kd),c.ks[j]?=Y5 k/\k.n=x.k:=by obtain⟨k,h1,h2⟩:=cf (HT.2.2.1.2 _ x hx).1;exact⟨_,k,h1,h2⟩
 have z1760z:=@aa _ @CN;exact rS):p:=h
theorem G8(h:p:=by
 rcases hf with ⟨i,x,hx,hn,rfl⟩|⟨hno,rfl⟩;rotate_left
 ·have HV:Hid (dY c t (co0 6)):=Ze ⟨2,⟨hl,HT.out,f_ hno⟩,rfl⟩;clear hno;have z1194z:=@aa _ @K4;exact bD
 have z1664z:=@aa _ @D7;exact rZ):p:=h
theorem G7(h:p:=by
 obtain⟨r0,r1,r2,r3,r4,r5,r6,r7⟩:=cs8 Br;have ltr_4:=ae Br.out;have z1741z:=@aa _ @C5;exact mj):p:=h
theorem G6(h:p:=by
 obtain⟨x1,m1,n1,x2,m2,n2,x3,m3,n3,x4,m4,n4,x5,m5,n5⟩:=d';have hm5:m5=l5:=by have h6:(c.ps.map pdF).length=m5:=ho.p.1;rw[Yo] at h6;omega
 subst hm5;obtain⟨g,hga,hS⟩:=(ho.p.bm (S':=λk=>q1.w.heap.size<=k/\k<w3.heap.size) (λk hk s=>⟨s,hk⟩)).st (aI.refl _ w3) (i:=i) (r:=pdF x) (show (c.ps.map pdF)[i]?=Y5 (pdF x) by rw[Yv,HXI.out];rfl);have hga':x5=Y5 ⟨g,0,U⟩:=hga;subst hga';have hq1:w.heap.size+1<q1.w.heap.size:=HQ1.out;have hq2:q1.w.heap.size<=w3.heap.size:=HQ2.out;have hgS:=(by obtain⟨⟨cur,H,h1,_⟩,_⟩:=hS;exact⟨h1.inS,ae h1.blk⟩:(q1.w.heap.size<=g/\g<w3.heap.size)/\g<w3.heap.size);obtain⟨⟨hg1,hg2⟩,-⟩:=hgS;obtain⟨v4,hv4⟩:=hS.cell (i:=4) rfl;obtain⟨v5,hv5⟩:=hS.cell (i:=5) rfl;have hf4:=hS.ob (i*6+4);have hf5:=hS.ob (i*6+5);have z1718z:=@aa _ @Dn;exact rW):p:=h
theorem GZ(h:p:=by
 clear hi0;rcases hf with ⟨j,v,hv,hbd,rfl⟩|⟨hno,rfl⟩;rotate_left
 ·have HV:Hid (pt c t ⟨vZ0,11⟩):=Zd (Ze ⟨hl,HT.out,HX.out,hno,rfl⟩);clear hno;have z1689z:=@aa _ @DG;exact dp
 have HV:Hid (pt c t ⟨v,0⟩):=Zd (Zd ⟨hl,HT.out,hbd,rfl⟩);clear hbd;have hlt:j<l3:=by have:=(Yc.1 hv).1;omega
 have hj0:¬(j:Int)<0:=af
 have HVV:=aa hv;clear hv;obtain⟨b,o,y,rfl,hb,hx,hat⟩:=bK (HR.v.below HB.out) hlt;obtain⟨va,vl,vc,hvr,z0,z2,z3,z5,c0,c1,c2,c3,c4,c5,c6,c7⟩:=aW hat;have HXy:=aa hx;have HTy:=aa hvr;have HZy0:=aa z0;have HZy2:=aa z2;have HZy3:=aa z3;have HZy5:=aa z5;clear hat hx z0 z2 z3 z5 hvr;obtain rfl:y=v:=Yd (HXy.symm.trans HVV.out);have hz6:vl<=8001:=by have h1:=HTy.1;have h2:=HT.few HVV.out;omega
 have z1689z:=@aa _ @DH;exact dp):p:=h
theorem GY(h:p:=by
 obtain⟨x1,m1,n1,x2,m2,n2,x3,m3,n3,x4,m4,n4,x5,m5,n5⟩:=d';have hq1:w.heap.size+1<q1.w.heap.size:=HQ1.out;have hq2:q1.w.heap.size<=w3.heap.size:=HQ2.out;have into:∀{a l cp m T rs},aw w3 a l cp m T rs (λk=>q1.w.heap.size<=k)->aw (w3.alloc (Y8 (clo6 x1 m1 n1 x2 m2 n2 x3 m3 n3 x4 m4 n4 x5 m5 n5 c.now) 29)) a l cp m T rs (λk=>q1.w.heap.size<=k/\k<w3.heap.size):=λh=>(h.bm (S':=(λk=>q1.w.heap.size<=k/\k<w3.heap.size)) (λk hk s=>⟨s,hk⟩)).below (ak w3 (Y8 (clo6 x1 m1 n1 x2 m2 n2 x3 m3 n3 x4 m4 n4 x5 m5 n5 c.now) 29));have HOV:Hid (df (w3.alloc (Y8 (clo6 x1 m1 n1 x2 m2 n2 x3 m3 n3 x4 m4 n4 x5 m5 n5 c.now) 29)) ⟨x1,m1,n1,x2,m2,n2,x3,m3,n3,x4,m4,n4,x5,m5,n5⟩ c.raw (λk=>q1.w.heap.size<=k/\k<w3.heap.size)):=⟨into ho.n,into ho.k,into ho.v,into ho.x,into ho.p⟩;clear ho into;obtain⟨k0,k1,k2,k3,k4,k5⟩:=cs6 Bk;have ltk_4:=ae Bk.out;go_wp2_with fail;clear k0 k1 k2 k3 k4 k5 ltk_4;have BrV:=aa ((Yl w3 (Y8 (clo6 x1 m1 n1 x2 m2 n2 x3 m3 n3 x4 m4 n4 x5 m5 n5 c.now) 29) _ (ae Br.out)).trans Br.out);have HBV:=aa (HB.trans ((ak w3 (Y8 (clo6 x1 m1 n1 x2 m2 n2 x3 m3 n3 x4 m4 n4 x5 m5 n5 c.now) 29)).mono HB.size));refine (rC c i x j k ⟨#[]⟩ (λk=>q1.w.heap.size<=k/\k<w3.heap.size) w3.heap.size x1 m1 n1 x2 m2 n2 x3 m3 n3 x4 m4 n4 x5 m5 n5 _ (heap_alloc_new w3 (Y8 (clo6 x1 m1 n1 x2 m2 n2 x3 m3 n3 x4 m4 n4 x5 m5 n5 c.now) 29)) HOV.out (λq s=>⟨by rw[cw];omega,by omega⟩) HT.out HX.1 HK.1 HK.2 HXV.out (Ze rfl)).mono ?_;rintro e w4 h4;have hsv:(w3.alloc (Y8 (clo6 x1 m1 n1 x2 m2 n2 x3 m3 n3 x4 m4 n4 x5 m5 n5 c.now) 29)).heap.size=w3.heap.size+1:=cw _ _;rcases h4 with ⟨j9,u,hbv,hju,rfl,hbb,hof,hkp⟩|⟨hbv,⟨p,hp0,hcod,rfl,hbe⟩|⟨hmay,hhit,h8,rfl,q3,m3',z3,hbb,hof,hkp⟩⟩
 ·have HV:Hid (dV c t ⟨fK c i j9 x u,u.n,0⟩):=(HBI _).out (Ze ⟨j9,u,hbv,hju,rfl⟩);have Bo4:=aa hbb;have hbr:w4.heap[w.heap.size+1]?=Y5 (Y8 #[J U 0 0,J U 0 0,J U 0 0,J U 0 0,J U 0 0,Y7 Y6 0,I ⟨#[]⟩,Y7 Y6 0] 33 (0,0)):=(hkp.block _ (ae BrV.out) (by intro s;obtain⟨s1,s2⟩:=s;omega)).trans BrV.out;have Br4:=aa hbr;have HOF:=aa hof;have HB4:=aa (HBV.trans (hkp.low (X:=w.heap.size) HBV.size (λk s=>by obtain⟨s1,s2⟩:=s;omega)));clear hbb hbr hof hkp;have z1002z:=@aa _ @NK;exact uf
 ·have HV:Hid (dV c t (co0 p)):=(HBI _).out (Zd ⟨hbv,by rcases hcod with ⟨h1,rfl⟩|⟨h1,h2,rfl⟩|⟨h1,h2,h3,rfl⟩;exact Ze ⟨h1,rfl⟩;exact Zd ⟨h1,Ze ⟨h2,rfl⟩⟩;exact Zd ⟨h1,Zd ⟨h2,Ze ⟨h3,rfl⟩⟩⟩⟩);have hp1:(p==0)=Y_:=kR
  replace Br:=aa ((hbe.block _ (ae BrV.out)).trans BrV.out);replace HB:=upB HBV hbe;clear hbe hcod hp0;go_wp2_with fail;refine (aJ p _).mono ?_;rintro e w5 ⟨rfl,hb⟩;have z516z:=@aa _ @aaK;exact lC
 have HV:Hid (dV c t ⟨ew c i x (cO ⟨#[]⟩ k.z),(aN++x.n),0⟩):=(HBI _).out (Zd ⟨hbv,Zd ⟨hmay,Zd ⟨hhit,Zd ⟨h8,rfl⟩⟩⟩⟩);have Bo4:=aa hbb;have hbr:w4.heap[w.heap.size+1]?=Y5 (Y8 #[J U 0 0,J U 0 0,J U 0 0,J U 0 0,J U 0 0,Y7 Y6 0,I ⟨#[]⟩,Y7 Y6 0] 33 (0,0)):=(hkp.block _ (ae BrV.out) (by intro s;rcases s with ⟨s1,s2⟩|s1 <;> omega)).trans BrV.out;have Br4:=aa hbr;have HOF:=aa hof;have HB4:=aa (HBV.trans (hkp.low (X:=w.heap.size) HBV.size (λk s=>by rcases s with ⟨s1,s2⟩|s1 <;> omega)));clear hbb hbr hof hkp;have z1002z:=@aa _ @NL;exact uf):p:=h
theorem GG(h:p:=by
 obtain⟨ua,ul,uc,-,-,-,hd0,hd1,hd2,hd3,hd4,hd5,hd6⟩:=bg hat;clear hat hy;cases hd:n.d;rotate_left
 ·have HV:Hid (vt c t (co0 10)):=Zd ⟨n,HOK.out,Ze ⟨hd,rfl⟩⟩;rw[hd] at hd5;clear hd;have z846z:=@aa _ @T1;exact eA
 obtain⟨f,hf⟩:=agR.ex c n;have HF:=aa hf;have HV:Hid (vt c t ⟨jj c t n f,⟨#[]⟩,0⟩):=Zd ⟨n,HOK.out,Zd ⟨hd,f,hf,rfl⟩⟩;rw[hd] at hd5;have HD:=aa hd;clear hd hf;have HQ1:Hid (w.heap.size+1<w1.heap.size):=ae Br.out;obtain⟨hn0,hn1⟩:=HT.1;have z846z:=@aa _ @T3;exact eA):p:=h
theorem GC(h:p:=by
 clear hf;obtain⟨k0,k1,k2,k3,k4,k5⟩:=cs6 ((hW.block _ (ae BkW.out)).trans BkW.out);exact aK):p:=h
theorem Gz(h:p:=by
 have HB:=HB41;clear HB41;have Bk:=Ck;clear Ck;have Bn:=Cn;clear Cn;have HO1:=aa (cI HO.out q1.b);have hqs:=q1.b.size;go_wp2_with (first|(at_builtin;refine wpList_append_own _ rfl _ _ 36 rfl (w1.heap.size) 9 i0 (I ⟨#[]⟩) 1 16 Tryz.underlying36 HI0.1 HI0.2.1 HI0.2.2.1 HI0.2.2.2 rfl ag _ _ _ rfl (HO1.alloc _) ⟨q1.w.heap.size,0,U⟩ 1 1 [I y.n] rfl rfl ?c1 ?c2 ?c3 ?c4 ?c5 ?_));case c1=>
  exact Qe
 case c2=>intro u hu;rw[List.mem_singleton.1 hu];rfl
 case c3=>unfold maxLen;omega
 case c4=>omega
 case c5=>simp;omega
 rintro v' w4 hown3 hgrow -;have HO3:Hid (w4.ownsRow (w1.heap.size) 9 1 v' (m9+1) ((mwL c n.n (ws.take (k+1))).map Ym)):=by
  show World.ownsRow _ _ _ _ _ _ _;rw[akM HY0.out HON.out,List.map_append];exact hown3
 have HL3:=aa (((HL.trans (q1.b.mono hLs)).trans ((ak q1.w _).mono (Yp hLs hqs))).grown hgrow bL (λg hg=>by have:=(HO1.lt g hg).1;omega));clear hown3 hgrow;go_wp2;exact⟨⟨k+1,m9+1,by omega,by omega,by go_num,HO3,HL3⟩,by simp[intOf];omega⟩):p:=h
theorem sE(h:p:=by
 repeat (go_big_quiet_step (first|(go_at_call 40;exact Calls.wide (HC0.out _))|(go_at_call 36;exact Calls.wide (HC1.out _))|fail))
 refine wpQuiet_nil ?_;rintro _ ⟨q1,rfl⟩;have HB41:=upB HW q1.b;have Ck:=upK Gk q1.b;have Cn:=upK Gn q1.b;clear hne0 HW HB HC0 HC1 k0 k1 k2 k3 k4 k5 n0 yd von Gk Gn Bk Bn hbl hc0 hc1 hb3 hc7 hq;exact z1490z):p:=h
theorem FL(h:p:=by
 have z154z:=@aa _ @afh;exact cH):p:=h
theorem FK(h:p:=by
 have z154z:=@aa _ @aff;exact cH):p:=h
theorem FG(h:p:=by
 clear hf;have hwr:IntKind.i64.wrap (c.now+10)=c.now+10:=by rw[IntKind.wrap_i64];omega
 exact aK):p:=h
theorem FD(h:p:=by
 clear hf;go_simp;refine (B9 c _ hn0 hn1).mono ?_;rintro e w6 ⟨rfl,hb6⟩;exact hK _ _ hb6 rfl):p:=h
theorem E2(h:p:=by
 exact z1002z):p:=h
theorem EO(h:p:=by
 have e32:=hf 32 ag;simp[aj,Yf] at e32;clear hf;exact aK):p:=h
theorem EL(h:p:=by
 clear hf;obtain⟨o0,o1,o2,o3,o4,o5⟩:=cs6 ((hW.block _ (ae BoW.out)).trans BoW.out);exact aK):p:=h
theorem D7(h:p:=by
 clear hat hvr z0 z2 z4 hy hx c0 c1 c2 c3;have HC4:=aa c4;have HC5:=aa c5;clear c4 c5;by_cases hp:x.p=0
 ·have hpb:(x.p==0)=Zb:=iJ
  have c5:=HC5.out;have HV:Hid (dY c t (co0 10)):=Ze ⟨8,⟨hl,HT.out,x,HXX.1,HXX.2,hp⟩,rfl⟩;have z1194z:=@aa _ @K3;exact bD
 have hpb:(x.p==0)=Y_:=iJ
 obtain⟨jn,n,hnj,hnn,hnu⟩:=HT.node HXI.out hp;have hj1:jn<l1:=by have:=(Yc.1 hnj).1;omega
 have hj0:¬(jn:Int)<0:=af
 obtain⟨bn,on,y,rfl,hbn,hy,hat⟩:=dh (HR.n.below HB.out) hj1;rw[hnj] at hy;obtain rfl:=Yd hy;obtain⟨ua,ul,uc,hur,u0,u1,d0,d1,d2,d3,d4,d5,d6⟩:=bg hat;clear hat hur u0 u1 hy;have HNJ:=aa hnj;have HNN:=aa hnn;have HNU:=aa hnu;have hri:=HT.2.1.1.2.2;have HRN:=aa hri;have HPN:=aa (bo hri hnj hnn).1;clear hnj hnn hnu hri;have c4:=HC4.out;have c5:=HC5.out;have z1194z:=@aa _ @K5;exact bD):p:=h
theorem DY(h:p:=by
 have z1z:=@aa _ @ahA;exact ff):p:=h
theorem DX(h:p:=by
 have z1z:=@aa _ @ajR;exact ff):p:=h
theorem DW(h:p:=by
 have z1263z:=@aa _ @Ka;exact ee):p:=h
theorem DV(h:p:=by
 have HQ1:Hid (w.heap.size+1<q1.w.heap.size):=ae Br.out;obtain⟨k0,k1,k2,k3,k4,k5⟩:=cs6 Bk;have ltk_3:=ae Bk.out;go_wp2_with fail;have HLO:=aa HB.size;refine (cE ⟨(Y5 ⟨bn,on,U⟩),l1,y1,a2,l2,y2,a3,l3,y3,a4,l4,y4,(Y5 ⟨b,o,U⟩),l5,y5⟩ c _ (HR.below HB.out) HT.sm).mono ?_;rintro e w3 ⟨d',rfl,ho,hb⟩;have HQ2:=aa hb.size;clear k0 k1 k2 k3 k4 k5 ltk_3;have z1444z:=@aa _ @G6;exact ba):p:=h
theorem rY(h:p:=by
 repeat (go_big_quiet_step (first|(go_at_call 113;exact Calls.wide (HC0.out _))|(go_at_call 129;exact Calls.wide (HC1.out _))|fail))
 refine wpQuiet_nil ?_;rintro _ ⟨q1,rfl⟩;have HB3:=upB HW q1.b;obtain⟨Ck,Cr⟩:=eu;clear hne0 HW HB HC0 HC1 k0 k1 k2 k3 k4 k5 pd4 e0 e1 e2 e3 e4 e5 e6 Gk Gr Bk Br c4 c5 d0 d1 d2 d3 d4 d5 d6 hbn;have HB:=HB3;clear HB3;have Bk:=Ck;clear Ck;have Br:=Cr;clear Cr;exact z1679z):p:=h
theorem DU(h:p:=by
 have HQ1:Hid (w.heap.size+1<q1.w.heap.size):=ae Br.out;have HBI:∀o,Hid (iP c i x k ⟨#[]⟩ o->dV c t o):=λo h=>Zd ⟨hl,HT.out,i,x,j,k,HX.1,HX.2,HK.1,HK.2,Zd ⟨HXV.out,Zd ⟨HKX.out,h⟩⟩⟩;have z1263z:=@aa _ @Kb;exact ee):p:=h
theorem DT(h:p:=by
 have HV:Hid (dV c t (co0 11)):=Zd ⟨hl,HT.out,i,x,j,k,HX.1,HX.2,HK.1,HK.2,Zd ⟨HXV.out,Ze ⟨HKX.out,rfl⟩⟩⟩;obtain⟨k0,k1,k2,k3,k4,k5⟩:=cs6 Bk;have ltk_3:=ae Bk.out;go_wp2_with fail;refine (aJ 11 _).mono ?_;rintro e w3 ⟨rfl,hb⟩;clear k0 k1 k2 k3 k4 k5 ltk_3;have z1444z:=@aa _ @G7;exact ba):p:=h
theorem rX(h:p:=by
 repeat (go_big_quiet_step (first|(go_at_call 38;exact Calls.wide (HC0.out _))|fail))
 refine wpQuiet_nil ?_;rintro _ ⟨q1,rfl⟩;have HB3:=upB HW q1.b;obtain⟨Ck,Cr⟩:=eu;clear hne0 HW HB HC0 k0 k1 k2 k3 k4 k5 xk kx Gk Gr Bk Br c2 c4 d1 hbk hbl hq;have HB:=HB3;clear HB3;have Bk:=Ck;clear Ck;have Br:=Cr;clear Cr;exact z1682z):p:=h
theorem DQ(h:p:=by
 have z1280z:=@aa _ @JX;exact gU):p:=h
theorem DH(h:p:=by
 have hrl0:w.heap.size+1<w3.heap.size:=ae Br.out;go_wp2_with fail;refine (Ap.ald y.n y.c y.z y.k y.x y.m y.y va vl vc y.zs _ HTy.out hz6).mono ?_;rintro e w4 ⟨a9,l9,c9,rfl,ho1,ho2,hb4⟩;clear hb c0 c1 c2 c3 c4 c5 c6 c7;clear k0 k1 k2 k3 k4 k5 ltk_3;replace Bk:=upK Bk hb4;replace Br:=upK Br hb4;replace HB:=upB HB hb4;clear hb4;have HO:Hid (bS w4 a9 l9 c9 y.zs (λk=>w3.heap.size<=k)):=⟨ho1,ho2⟩;have HRL:=aa hrl0;clear ho1 ho2 hrl0;obtain⟨r0,r1,r2,r3,r4,r5,r6,r7,r8⟩:=cs9 Br;have ltr_4:=ae Br.out;obtain⟨fr0,fr1,fr2,fr3,fr4,fr5,fr6,fr7⟩:=gJ;have fr8:=al Br.out 8;go_wp2;refine bodyPost_ret (v:=Zc #[I y.n,Y7 Y6 y.c,I y.z,I y.k,Y9 y.x,I y.m,Y9 y.y,J a9 l9 c9,Y7 Y6 0]) Aa rfl ⟨_,_,_,⟨y,0⟩,rfl,HV.out,HO.ay (λk _ s=>alm (by have s1:w3.heap.size<=k:=s;have:=HRL.out;omega)) (λk _ s=>by have s1:w3.heap.size<=k:=s;have:=HRL.out;show w.heap.size<=k;omega),sb1 (sb1 (sb1 (sb1 (sb1 (sb1 (sb1 (sb1 (sb1 (HB.out)))))))))⟩):p:=h
theorem DG(h:p:=by
 obtain⟨r0,r1,r2,r3,r4,r5,r6,r7,r8⟩:=cs9 Br;have ltr_3:=ae Br.out;obtain⟨fr0,fr1,fr2,fr3,fr4,fr5,fr6,fr7⟩:=gJ;have fr8:=al Br.out 8;go_wp2;refine bodyPost_ret (v:=Zc #[I ⟨#[]⟩,Y7 Y6 0,I ⟨#[]⟩,I ⟨#[]⟩,Y9 Y_,I ⟨#[]⟩,Y9 Y_,J U 0 0,Y7 Y6 11]) Aa rfl ⟨_,_,_,⟨vZ0,11⟩,rfl,HV.out,vz _ _,sb1 (sb1 (sb1 (sb1 (sb1 (sb1 (sb1 (sb1 (sb1 (HB.out)))))))))⟩):p:=h
theorem Du(h:p:=by
 have hST4:=(HST.below HWY.out).AZ (i:=4) rfl (cX c);have past:∀{a l cp m T rs},aw w3 a l cp m T rs (λk=>w1.heap.size<=k/\¬k=w3.heap.size)->¬83=T->aw (wy.setCell ⟨g,j*7+4,U⟩ (Y7 Y6 (cX c))) a l cp m T rs (λk=>w1.heap.size<=k/\¬k=w3.heap.size):=λh hT=>(h.dH HGB.out hT ag).ay (λk hk s=>(Ya _ _ _ _ s.2).trans (HWY.block k hk)) (λ_ _ s=>s.1);have f2:=past HOC.1 ag;have f3:=past HOC.2.1 ag;have f4:=past HOC.2.2.1 ag;have f5:=past HOC.2.2.2 ag;have hk4:(wy.setCell ⟨g,j*7+4,U⟩ (Y7 Y6 (cX c))).heap[w.heap.size]?=_:=(Ya _ _ _ _ (show w.heap.size≠g by omega)).trans Bk2.out;have hr4:(wy.setCell ⟨g,j*7+4,U⟩ (Y7 Y6 (cX c))).heap[w.heap.size+1]?=_:=(Ya _ _ _ _ (show w.heap.size+1≠g by omega)).trans Br2.out;have hgn:¬w1.heap.size=g:=by have:=HG1.out;omega
 have hn4:(wy.setCell ⟨g,j*7+4,U⟩ (Y7 Y6 (cX c))).heap[w1.heap.size]?=_:=(Ya _ _ _ _ (show w1.heap.size≠g from hgn)).trans Bn2.out;have ho4:(wy.setCell ⟨g,j*7+4,U⟩ (Y7 Y6 (cX c))).heap[w3.heap.size]?=_:=(Ya _ _ _ _ (show w3.heap.size≠g by omega)).trans Bo2.out;have hb4:Below w.heap.size w (wy.setCell ⟨g,j*7+4,U⟩ (Y7 Y6 (cX c))):=ah (show w.heap.size<=g by omega) HBY.out;have hs4:(wy.setCell ⟨g,j*7+4,U⟩ (Y7 Y6 (cX c))).heap.size=wy.heap.size:=aG
 clear hcz hfz past;obtain⟨W4,hW4⟩:∃W4,W4=(wy.setCell ⟨g,j*7+4,U⟩ (Y7 Y6 (cX c))):=⟨_,rfl⟩;rw[<-hW4] at hST4 f2 f3 f4 f5 hk4 hr4 hn4 ho4 hb4 hs4 ⊢;have HST4:=aa hST4;have HF4:=aa (Yb f2 (Yb f3 (Yb f4 f5)));have Bk4:=aa hk4;have Br4:=aa hr4;have Bn4:=aa hn4;have Bo4:=aa ho4;have HB4:=aa hb4;have hsz4:w3.heap.size<W4.heap.size:=ae ho4;clear hW4 hST4 f2 f3 f4 f5 hk4 hr4 hn4 ho4 hb4 hs4 Bk2 Br2 Bn2 Bo2 HBY HWY HBW HWW BkW BrW BnW BoW;obtain⟨k0,k1,k2,k3,k4,k5⟩:=cs6 Bk4;obtain⟨n0,n1',n2',n3',n4',n5',n6'⟩:=cs7 Bn4;obtain⟨o0,o1,o2,o3,o4,o5⟩:=cs6 Bo4;have ltk:=ae Bk4.out;have ltn:=ae Bn4.out;have lto:=ae Bo4.out;by_cases hlv:c.now<n.u;rotate_left
 ·have HMN:Hid (QR c n=[]):=if_neg hlv;have HF1E:Hid (f=λ_=>1):=by
   show f=_;funext p;rcases HF.out p with ⟨_,h1,_⟩|⟨h1,_⟩
   ·exact absurd h1 hlv
   ·exact h1
  have hlv2:n.u<=c.now:=af
  obtain⟨v6,hc6⟩:=HST4.cell (i:=6) rfl;have hf6:=HST4.ob (j*7+6);have hne1:¬g=w3.heap.size:=af
  have hne2:¬w3.heap.size=g:=af
  go_wp2_with fail;clear k0 k1 k2 k3 k4 k5 n0 n1' n2' n3' n4' n5' n6' o0 o1 o2 o3 o4 o5 hc6 hf6;have HGB0:Hid (∃cur,W4.heap[g]?=Y5 (Y8 cur 83 (0,0))):=by obtain⟨⟨cur,H,h1,_⟩,_⟩:=HST4.out;exact⟨cur,h1.blk⟩
  obtain⟨cur4,hcur4⟩:=HGB0.out;clear HGB0;have HGB0:=aa hcur4;clear hcur4;have HFX:=aa HF4.out;have BrX:=Br4;have BoX:=Bo4;have HBX:=HB4;obtain⟨cur6,H6,hat6⟩:∃cur H,er (W4.setCell ⟨g,j*7+6,U⟩ (J U 0 0)) g 7 83 ((c.ns.map ndF).set j (((ndF n).set 4 (.i (cX c))).set 6 (.l []))) (λk=>w1.heap.size<=k/\¬k=w3.heap.size) cur H:=by obtain⟨⟨cur,H,h1,_⟩,_⟩:=HST4.alp (i:=6) rfl U 0 ag;exact⟨cur,H,h1⟩
  have hns:(c.ns.map ndF).set j (((ndF n).set 4 (.i (cX c))).set 6 (.l []))=(jj c t n f).raw.n:=by
   have z424z:=@aa _ @ab0;exact zy
  have f1:aw (W4.setCell ⟨g,j*7+6,U⟩ (J U 0 0)) (Y5 ⟨g,0,U⟩) m1 n1 7 83 (jj c t n f).raw.n (λk=>w1.heap.size<=k/\¬k=w3.heap.size):=by
   exact O0
  have past:∀{a l cp m T rs},aw W4 a l cp m T rs (λk=>w1.heap.size<=k/\¬k=w3.heap.size)->¬83=T->aw (W4.setCell ⟨g,j*7+6,U⟩ (J U 0 0)) a l cp m T rs (λk=>w1.heap.size<=k/\¬k=w3.heap.size):=λh hT=>(h.dH HGB0.out hT ag).ay (λk hk s=>Ya _ _ _ _ s.2) (λ_ _ s=>s.1);have f2:=past HFX.1 ag;have f3:=past HFX.2.1 ag;have f4:=past HFX.2.2.1 ag;have f5:=past HFX.2.2.2 ag;have hr6:(W4.setCell ⟨g,j*7+6,U⟩ (J U 0 0)).heap[w.heap.size+1]?=_:=(Ya _ _ _ _ (show w.heap.size+1≠g by omega)).trans BrX.out;have ho6:(W4.setCell ⟨g,j*7+6,U⟩ (J U 0 0)).heap[w3.heap.size]?=_:=(Ya _ _ _ _ (show w3.heap.size≠g by omega)).trans BoX.out;have hb6:Below w.heap.size w (W4.setCell ⟨g,j*7+6,U⟩ (J U 0 0)):=ah (show w.heap.size<=g by omega) HBX.out;obtain⟨W6,hW6⟩:∃W6,W6=(W4.setCell ⟨g,j*7+6,U⟩ (J U 0 0)):=⟨_,rfl⟩;have z1286z:=@aa _ @JV;exact tq
 have HMN:Hid (QR c n=kK c n.n c.vs):=if_pos hlv;have HLV:=aa hlv;have hlv2:¬n.u<=c.now:=af
 go_wp2_with fail;have hg9:=B7 ⟨(Y5 ⟨b,o,U⟩),m1,y1,a2,l2,y2,a3,l3,y3,a4,l4,y4,a5,l5,y5⟩ c n ua ul uc W4 (HR.below HB4.out) HT.out (aL.ne (HT.2.1.1.2.1 _ n HOK.2.2.1).1);rw[HD.out] at hg9;refine hg9.mono ?_;clear hg9;rintro e W5 ⟨sa,sl,sq,rfl,hto,hb5⟩;clear k0 k1 k2 k3 k4 k5 n0 n1' n2' n3' n4' n5' n6' o0 o1 o2 o3 o4 o5;have HTO:=aa hto;have hsl:sl<=8:=by have h1:=hto.1.1;have h2:=QS c n.n;have h3:(c.vs.length:Int)<=8:=HT.2.1.2.2.1.1;omega
 have hsl2:¬8<(sl:Int):=af
 have HST5:=aa (HST4.fresh hb5);have HFX:Hid _:=aa (Yb (HF4.1.below hb5) (Yb (HF4.2.1.below hb5) (Yb (HF4.2.2.1.below hb5) (HF4.2.2.2.below hb5))));have BrX:=upK Br4 hb5;have BoX:=upK Bo4 hb5;have HBX:=upB HB4 hb5;have hs5:=hb5.size;obtain⟨cur4,hcur4⟩:∃cur,W5.heap[g]?=Y5 (Y8 cur 83 (0,0)):=by obtain⟨⟨cur,H,h1,_⟩,_⟩:=HST5.out;exact⟨cur,h1.blk⟩
 have HGB0:=aa hcur4;obtain⟨v6,hc6⟩:=HST5.cell (i:=6) rfl;have hf6:=HST5.ob (j*7+6);have hne1:¬g=w3.heap.size:=af
 have hne2:¬w3.heap.size=g:=af
 obtain⟨o0,o1,o2,o3,o4,o5⟩:=cs6 BoX;have lto5:=ae BoX.out;clear hb5 hto hcur4;go_wp2_with fail;clear o0 o1 o2 o3 o4 o5 hc6 hf6;obtain⟨cur6,H6,hat6⟩:∃cur H,er (W5.setCell ⟨g,j*7+6,U⟩ (J sa sl sq)) g 7 83 ((c.ns.map ndF).set j (((ndF n).set 4 (.i (cX c))).set 6 (.l (kK c n.n c.vs)))) (λk=>w1.heap.size<=k/\¬k=w3.heap.size) cur H:=HST5.am1 (i:=6) rfl (HTO.out) (λk h1 h2=>⟨by omega,by omega⟩) af;have hns:(c.ns.map ndF).set j (((ndF n).set 4 (.i (cX c))).set 6 (.l (kK c n.n c.vs)))=(jj c t n f).raw.n:=by
  have z424z:=@aa _ @abZ;exact zy
 have f1:aw (W5.setCell ⟨g,j*7+6,U⟩ (J sa sl sq)) (Y5 ⟨g,0,U⟩) m1 n1 7 83 (jj c t n f).raw.n (λk=>w1.heap.size<=k/\¬k=w3.heap.size):=by
  exact O0
 have past:∀{a l cp m T rs},aw W5 a l cp m T rs (λk=>w1.heap.size<=k/\¬k=w3.heap.size)->¬83=T->aw (W5.setCell ⟨g,j*7+6,U⟩ (J sa sl sq)) a l cp m T rs (λk=>w1.heap.size<=k/\¬k=w3.heap.size):=λh hT=>(h.dH HGB0.out hT ag).ay (λk hk s=>Ya _ _ _ _ s.2) (λ_ _ s=>s.1);have f2:=past HFX.1 ag;have f3:=past HFX.2.1 ag;have f4:=past HFX.2.2.1 ag;have f5:=past HFX.2.2.2 ag;have hr6:(W5.setCell ⟨g,j*7+6,U⟩ (J sa sl sq)).heap[w.heap.size+1]?=_:=(Ya _ _ _ _ (show w.heap.size+1≠g by omega)).trans BrX.out;have ho6:(W5.setCell ⟨g,j*7+6,U⟩ (J sa sl sq)).heap[w3.heap.size]?=_:=(Ya _ _ _ _ (show w3.heap.size≠g by omega)).trans BoX.out;have hb6:Below w.heap.size w (W5.setCell ⟨g,j*7+6,U⟩ (J sa sl sq)):=ah (show w.heap.size<=g by omega) HBX.out;obtain⟨W6,hW6⟩:∃W6,W6=(W5.setCell ⟨g,j*7+6,U⟩ (J sa sl sq)):=⟨_,rfl⟩;have z1286z:=@aa _ @JW;exact tq):p:=h
theorem Dn(h:p:=by
 obtain⟨k0,k1,k2,k3,k4,k5⟩:=cs6 Bk;have ltk_4:=ae Bk.out;obtain⟨r0,r1,r2,r3,r4,r5,r6,r7⟩:=cs8 Br;have ltr_4:=ae Br.out;obtain⟨fr0,fr1,fr2,fr3,fr4,fr5,fr6,fr7⟩:=gJ;go_wp2;have hlo:=HLO.out;refine bodyPost_ret (v:=Zc #[J x1 m1 n1,J x2 m2 n2,J x3 m3 n3,J x4 m4 n4,J (Y5 ⟨g,0,U⟩) m5 n5,Y7 Y6 c.now,I ⟨#[]⟩,Y7 Y6 0]) ui rfl ⟨⟨x1,m1,n1,x2,m2,n2,x3,m3,n3,x4,m4,n4,Y5 ⟨g,0,U⟩,m5,n5⟩,⟨evC c t x,⟨#[]⟩,0⟩,rfl,HV.out,?_,Below.alloc (sb1 (sb1 (sb1 (sb1 (sb1 (sb1 (sb1 (sb1 (ah (show w.heap.size<=g by omega) (ah (show w.heap.size<=g by omega) HB.out)))))))))) bL _⟩;have hk2:∀k,q1.w.heap.size<=k->k<w3.heap.size->(((((((((((w3.setCell ⟨g,i*6+4,U⟩ (I ⟨#[]⟩)).setCell ⟨g,i*6+5,U⟩ (Y7 Y6 0)).setCell ⟨w.heap.size+1,0,U⟩ (J x1 m1 n1)).setCell ⟨w.heap.size+1,1,U⟩ (J x2 m2 n2)).setCell ⟨w.heap.size+1,2,U⟩ (J x3 m3 n3)).setCell ⟨w.heap.size+1,3,U⟩ (J x4 m4 n4)).setCell ⟨w.heap.size+1,4,U⟩ (J (Y5 ⟨g,0,U⟩) m5 n5)).setCell ⟨w.heap.size+1,5,U⟩ (Y7 Y6 c.now)).setCell ⟨w.heap.size+1,6,U⟩ (I ⟨#[]⟩)).setCell ⟨w.heap.size+1,7,U⟩ (Y7 Y6 0)).alloc (Y8 (clo6 x1 m1 n1 x2 m2 n2 x3 m3 n3 x4 m4 n4 (Y5 ⟨g,0,U⟩) m5 n5 c.now) 29)).heap[k]?=((w3.setCell ⟨g,i*6+4,U⟩ (I ⟨#[]⟩)).setCell ⟨g,i*6+5,U⟩ (Y7 Y6 0)).heap[k]?:=λk h1 h2=>by
  refine (Yl _ _ _ (by simpa using h2)).trans ?_;exact Aw
 have hk3:∀k,q1.w.heap.size<=k->¬k=g->k<w3.heap.size->(((((((((((w3.setCell ⟨g,i*6+4,U⟩ (I ⟨#[]⟩)).setCell ⟨g,i*6+5,U⟩ (Y7 Y6 0)).setCell ⟨w.heap.size+1,0,U⟩ (J x1 m1 n1)).setCell ⟨w.heap.size+1,1,U⟩ (J x2 m2 n2)).setCell ⟨w.heap.size+1,2,U⟩ (J x3 m3 n3)).setCell ⟨w.heap.size+1,3,U⟩ (J x4 m4 n4)).setCell ⟨w.heap.size+1,4,U⟩ (J (Y5 ⟨g,0,U⟩) m5 n5)).setCell ⟨w.heap.size+1,5,U⟩ (Y7 Y6 c.now)).setCell ⟨w.heap.size+1,6,U⟩ (I ⟨#[]⟩)).setCell ⟨w.heap.size+1,7,U⟩ (Y7 Y6 0)).alloc (Y8 (clo6 x1 m1 n1 x2 m2 n2 x3 m3 n3 x4 m4 n4 (Y5 ⟨g,0,U⟩) m5 n5 c.now) 29)).heap[k]?=w3.heap[k]?:=λk h1 h3 h2=>by
  rw[hk2 k h1 h2,Ya _ _ _ _ h3,Ya _ _ _ _ h3]
 obtain⟨⟨cur,H,hbk,_⟩,_⟩:=HST.out;have h2:=(HST.RX (i:=4) rfl ⟨#[]⟩ ag).AZ (i:=5) rfl 0;obtain⟨⟨cur2,H2,h3,_⟩,_,_⟩:=h2;have hps:(evC c t x).raw.p=(c.ps.map pdF).set i (pdF (idle x)):=by
  show (c.ps.set (pl Pd.n c.ps t) (idle x)).map pdF=_;rw[HPL.out,List.map_set]
 refine⟨?_,?_,?_,?_,?_⟩
 ·exact ((HO.n.dH hbk.blk ag ag).ay (w':=(((((((((((w3.setCell ⟨g,i*6+4,U⟩ (I ⟨#[]⟩)).setCell ⟨g,i*6+5,U⟩ (Y7 Y6 0)).setCell ⟨w.heap.size+1,0,U⟩ (J x1 m1 n1)).setCell ⟨w.heap.size+1,1,U⟩ (J x2 m2 n2)).setCell ⟨w.heap.size+1,2,U⟩ (J x3 m3 n3)).setCell ⟨w.heap.size+1,3,U⟩ (J x4 m4 n4)).setCell ⟨w.heap.size+1,4,U⟩ (J (Y5 ⟨g,0,U⟩) m5 n5)).setCell ⟨w.heap.size+1,5,U⟩ (Y7 Y6 c.now)).setCell ⟨w.heap.size+1,6,U⟩ (I ⟨#[]⟩)).setCell ⟨w.heap.size+1,7,U⟩ (Y7 Y6 0)).alloc (Y8 (clo6 x1 m1 n1 x2 m2 n2 x3 m3 n3 x4 m4 n4 (Y5 ⟨g,0,U⟩) m5 n5 c.now) 29))) (λk hk s=>hk3 k s.1 s.2 hk) (λ_ _ s=>s)).rl (λk s=>loq)
 ·exact ((HO.k.dH hbk.blk ag ag).ay (w':=(((((((((((w3.setCell ⟨g,i*6+4,U⟩ (I ⟨#[]⟩)).setCell ⟨g,i*6+5,U⟩ (Y7 Y6 0)).setCell ⟨w.heap.size+1,0,U⟩ (J x1 m1 n1)).setCell ⟨w.heap.size+1,1,U⟩ (J x2 m2 n2)).setCell ⟨w.heap.size+1,2,U⟩ (J x3 m3 n3)).setCell ⟨w.heap.size+1,3,U⟩ (J x4 m4 n4)).setCell ⟨w.heap.size+1,4,U⟩ (J (Y5 ⟨g,0,U⟩) m5 n5)).setCell ⟨w.heap.size+1,5,U⟩ (Y7 Y6 c.now)).setCell ⟨w.heap.size+1,6,U⟩ (I ⟨#[]⟩)).setCell ⟨w.heap.size+1,7,U⟩ (Y7 Y6 0)).alloc (Y8 (clo6 x1 m1 n1 x2 m2 n2 x3 m3 n3 x4 m4 n4 (Y5 ⟨g,0,U⟩) m5 n5 c.now) 29))) (λk hk s=>hk3 k s.1 s.2 hk) (λ_ _ s=>s)).rl (λk s=>loq)
 ·exact ((HO.v.dH hbk.blk ag ag).ay (w':=(((((((((((w3.setCell ⟨g,i*6+4,U⟩ (I ⟨#[]⟩)).setCell ⟨g,i*6+5,U⟩ (Y7 Y6 0)).setCell ⟨w.heap.size+1,0,U⟩ (J x1 m1 n1)).setCell ⟨w.heap.size+1,1,U⟩ (J x2 m2 n2)).setCell ⟨w.heap.size+1,2,U⟩ (J x3 m3 n3)).setCell ⟨w.heap.size+1,3,U⟩ (J x4 m4 n4)).setCell ⟨w.heap.size+1,4,U⟩ (J (Y5 ⟨g,0,U⟩) m5 n5)).setCell ⟨w.heap.size+1,5,U⟩ (Y7 Y6 c.now)).setCell ⟨w.heap.size+1,6,U⟩ (I ⟨#[]⟩)).setCell ⟨w.heap.size+1,7,U⟩ (Y7 Y6 0)).alloc (Y8 (clo6 x1 m1 n1 x2 m2 n2 x3 m3 n3 x4 m4 n4 (Y5 ⟨g,0,U⟩) m5 n5 c.now) 29))) (λk hk s=>hk3 k s.1 s.2 hk) (λ_ _ s=>s)).rl (λk s=>loq)
 ·exact ((HO.x.dH hbk.blk ag ag).ay (w':=(((((((((((w3.setCell ⟨g,i*6+4,U⟩ (I ⟨#[]⟩)).setCell ⟨g,i*6+5,U⟩ (Y7 Y6 0)).setCell ⟨w.heap.size+1,0,U⟩ (J x1 m1 n1)).setCell ⟨w.heap.size+1,1,U⟩ (J x2 m2 n2)).setCell ⟨w.heap.size+1,2,U⟩ (J x3 m3 n3)).setCell ⟨w.heap.size+1,3,U⟩ (J x4 m4 n4)).setCell ⟨w.heap.size+1,4,U⟩ (J (Y5 ⟨g,0,U⟩) m5 n5)).setCell ⟨w.heap.size+1,5,U⟩ (Y7 Y6 c.now)).setCell ⟨w.heap.size+1,6,U⟩ (I ⟨#[]⟩)).setCell ⟨w.heap.size+1,7,U⟩ (Y7 Y6 0)).alloc (Y8 (clo6 x1 m1 n1 x2 m2 n2 x3 m3 n3 x4 m4 n4 (Y5 ⟨g,0,U⟩) m5 n5 c.now) 29))) (λk hk s=>hk3 k s.1 s.2 hk) (λ_ _ s=>s)).rl (λk s=>loq)
 ·have hR:aw ((w3.setCell ⟨g,i*6+4,U⟩ (I ⟨#[]⟩)).setCell ⟨g,i*6+5,U⟩ (Y7 Y6 0)) (Y5 ⟨g,0,U⟩) m5 n5 6 40 (evC c t x).raw.p (λk=>q1.w.heap.size<=k/\k<w3.heap.size):=by
   rw[hps];exact⟨by rw[List.length_set];exact HO.p.1,HO.p.2.1,HO.p.2.2.1,Zd ⟨g,cur2,H2,rfl,h3⟩⟩
  exact (hR.ay (w':=(((((((((((w3.setCell ⟨g,i*6+4,U⟩ (I ⟨#[]⟩)).setCell ⟨g,i*6+5,U⟩ (Y7 Y6 0)).setCell ⟨w.heap.size+1,0,U⟩ (J x1 m1 n1)).setCell ⟨w.heap.size+1,1,U⟩ (J x2 m2 n2)).setCell ⟨w.heap.size+1,2,U⟩ (J x3 m3 n3)).setCell ⟨w.heap.size+1,3,U⟩ (J x4 m4 n4)).setCell ⟨w.heap.size+1,4,U⟩ (J (Y5 ⟨g,0,U⟩) m5 n5)).setCell ⟨w.heap.size+1,5,U⟩ (Y7 Y6 c.now)).setCell ⟨w.heap.size+1,6,U⟩ (I ⟨#[]⟩)).setCell ⟨w.heap.size+1,7,U⟩ (Y7 Y6 0)).alloc (Y8 (clo6 x1 m1 n1 x2 m2 n2 x3 m3 n3 x4 m4 n4 (Y5 ⟨g,0,U⟩) m5 n5 c.now) 29))) (λk hk s=>hk2 k s.1 s.2) (λ_ _ s=>s)).rl (λk s=>loq)):p:=h
theorem C6(h:p:=by
 exact bodyPost_ret (v:=Zc #[J U 0 0,J U 0 0,J U 0 0,J U 0 0,J U 0 0,Y7 Y6 0,I ⟨#[]⟩,Y7 Y6 11]) ui rfl ⟨ad0,co0 11,rfl,HV.out,(rl0 _ _),sb1 (sb1 (sb1 (sb1 (sb1 (sb1 (sb1 (sb1 (HB.out))))))))⟩):p:=h
theorem C5(h:p:=by
 exact bodyPost_ret (v:=Zc #[J U 0 0,J U 0 0,J U 0 0,J U 0 0,J U 0 0,Y7 Y6 0,I ⟨#[]⟩,Y7 Y6 11]) oL rfl ⟨ad0,co0 11,rfl,HV.out,(rl0 _ _),sb1 (sb1 (sb1 (sb1 (sb1 (sb1 (sb1 (sb1 (HB.out))))))))⟩):p:=h
theorem CN(h:p:=by
 obtain⟨b,o,y,rfl,hbl,hy,hat⟩:=dL (HR.x.below HB.out) hi4;rw[hx] at hy;obtain rfl:=Yd hy;obtain⟨-,-,-,c0,c1,c2,c3,c4⟩:=bQ hat;clear hat hy hx hn;have HC:=aa (Yb c2 c4);have HBL:=aa hbl;clear c0 c1 c2 c3;by_cases hxv:x.v=⟨#[]⟩;rotate_left
 ·have HV:Hid (dV c t (co0 7)):=Zd ⟨hl,HT.out,i,x,j,k,HX.1,HX.2,HK.1,HK.2,Ze ⟨hxv,rfl⟩⟩;have hq:=aY hxv;clear hxv;have z1194z:=@aa _ @K6;exact bD
 have hq:=cC hxv;have HXV:=aa hxv;clear hxv;obtain⟨bk,ok,y,rfl,hbk,hy,hat⟩:=gH (HR.k.below HB.out) hj2;rw[hkj] at hy;obtain rfl:=Yd hy;obtain⟨-,-,d0,d1,d2,d3⟩:=da hat;clear hat hy hkj hkn d0 d2 d3;have z1194z:=@aa _ @K8;exact bD):p:=h
namespace Rc
theorem oG(d:Ad) (c:Cl) (t:ByteArray) (w:World) (hr:aB w d c.raw):
  Calls Tryz.prog 84 #[Zc #[J d.a1 d.l1 d.c1,J d.a2 d.l2 d.c2,J d.a3 d.l3 d.c3,J d.a4 d.l4 d.c4,J d.a5 d.l5 d.c5,Y7 Y6 c.now],I t] w (jc (dV c t) w):=by
 have z448z:=@aa _ @abv;exact b_
theorem AY(d:Ad) (c:Cl) (t:ByteArray) (w:World) (hr:aB w d c.raw):
  Calls Tryz.prog 86 #[Zc #[J d.a1 d.l1 d.c1,J d.a2 d.l2 d.c2,J d.a3 d.l3 d.c3,J d.a4 d.l4 d.c4,J d.a5 d.l5 d.c5,Y7 Y6 c.now],I t] w (jc (dY c t) w):=by
 have z448z:=@aa _ @abu;exact b_
theorem yj(a:Option Addr) (len cap:Nat) (zs:List ByteArray) (t:ByteArray) (w:World) (hr:az w a len cap zs) (r:Bool) (h:r=Zb↔InL zs t):
  Calls Tryz.prog 36 #[J a len cap,I t] w λe w'=>e=Za (Y9 r)/\Below w.heap.size w w':=by
 refine (bX a len cap zs t w hr).mono ?_;exact Om
def mwB(c:Cl) (t:ByteArray) (q:Qd):Bool:=(q.d.toList==t.toList) && c.vs.any λv=>(v.n.toList==q.n.toList) && inB v.zs t
def mwL(c:Cl) (t:ByteArray) (qs:List Qd):List ByteArray:=(qs.filter (mwB c t)).map Qd.n
theorem akM(h:xs[k]?=Y5 x) (hv:mwB c t x=Zb):mwL c t (xs.take (k+1))=mwL c t (xs.take k)++[x.n]:=by
 unfold mwL;rw[YN,h,YV,List.map_append];simp[hv]
theorem amn(h:xs[k]?=Y5 x) (hv:mwB c t x=Y_):mwL c t (xs.take (k+1))=mwL c t (xs.take k):=by
 unfold mwL;rw[YN,h,YV,List.map_append];simp[hv]
theorem agu(h:aT w a len cap 2 (xs.map qdF)) (j:Nat) (z:ByteArray) (hz:(mwL c t xs)[j]?=Y5 z):z.size<=9223372036854775807:=by
 have hm:=Ys hz;obtain⟨x,hx,rfl⟩:=List.mem_map.1 hm;obtain⟨i,hi⟩:=YD ((List.mem_filter.1 hx).1);have hl:xs.length=len:=by simpa using h.1
 obtain⟨b,o,y,-,-,hy,hat⟩:=oX h (j:=i) (by have:=(Yc.1 hi).1;omega);rw[hi] at hy;cases hy;exact (fF hat).1
theorem wX {v:Vd} (hv:aF Vd.n c.vs) (hi:c.vs[i]?=Y5 v) (hn:v.n=q.n) (hd:q.d=t):mwB c t q=Zb↔InL v.zs t:=by
 unfold mwB;rw[aP hd,Bool.true_and,List.any_eq_true];constructor
 ·rintro⟨v',hm,he⟩;obtain⟨i',hi'⟩:=YD hm;rw[YG] at he;obtain⟨_,rfl⟩:=hv.inj hi' hi ((di he.1).trans hn.symm);exact eE.1 he.2
 ·intro h;exact⟨v,Ys hi,by rw[YG];exact⟨aP hn,eE.2 h⟩⟩
theorem akN(hd:¬q.d=t):mwB c t q=Y_:=by unfold mwB;rw[bu hd];rfl
theorem aF.rtM {xs:List α} (h:aF nm xs):RT (xs.map nm):=by
 exact Qi
theorem kK.rt(h:aF Vd.n c.vs):RT (kK c t c.vs):=List.Pairwise.sublist (List.filter_sublist.map _) h.rtM
theorem mwL.rt {qs:List Qd} (h:RQ qs):RT (mwL c t qs):=by
 unfold mwL RT;rw[List.pairwise_map];refine List.Pairwise.imp_of_mem ?_ (List.Pairwise.filter _ h);intro a b ha hb hab;have e1:=(List.mem_filter.1 ha).2;have e2:=(List.mem_filter.1 hb).2;unfold mwB at e1 e2;rw[YG] at e1 e2;unfold dG at hab;rw[Bool.or_eq_true,YG] at hab;rcases hab with h1|⟨_,h1⟩
 ·exact h1
 ·rw[di e1.1,di e2.1,en] at h1;cases h1
theorem QQ {ws:List Qd} (hT:aq c) (ht:¬t=⟨#[]⟩) (hr:RQ ws) (hm:∀q,q∈ws↔Wn c c.ps.length q):mwL c t ws=kK c t c.vs:=by
 have hv:=hT.2.1.2.2.1.2.2;have hx:=hT.2.1.2.2.2.1.2.2;refine (mwL.rt hr).ext (kK.rt hv) (λs=>?_);unfold mwL kK;rw[List.mem_map,List.mem_map];constructor
 ·rintro⟨q,hq,rfl⟩;obtain⟨hq1,hq2⟩:=List.mem_filter.1 hq;obtain⟨j,p,_,hp,_,k,cl,v,hk,hb,rfl⟩:=(hm q).1 hq1;have hpd:p.d=t:=by unfold mwB at hq2;rw[YG] at hq2;exact di hq2.1
  obtain⟨i,jv,x,h1,h2,h3,h4⟩:=hb;have hon:=(wX (q:=⟨v.n,p.d⟩) hv h3 rfl hpd).1 hq2;have hne:¬x.v=⟨#[]⟩:=by rw[<-h4];exact aL.ne (hT.2.1.2.2.1.2.1 jv v h3).1
  obtain⟨i',j',x',v',k1,k2,k3,k4,k5,k6,_⟩:=(hT.2.2.1.2 i x h1).2.resolve_left hne;obtain⟨_,rfl⟩:=hv.inj k3 h3 (k4.trans h4.symm);refine⟨v',List.mem_filter.2 ⟨Ys h3,?_⟩,rfl⟩;unfold akO;rw[YG];refine⟨eE.2 hon,dO.2 ⟨j,p,hp,hpd,k,?_⟩⟩;rw[hk,k6,h2]
 ·have z437z:=@aa _ @abP;exact pW
theorem aij(h:Wn c k q):∃(i:Nat) (v:Vd),c.vs[i]?=Y5 v/\v.n=q.n:=by
 obtain⟨j,p,_,_,_,i,t,v,_,⟨i2,j2,x,_,_,h3,_⟩,rfl⟩:=h;exact⟨j2,v,h3,rfl⟩
theorem B7(d:Ad) (c:Cl) (n:Nd) (na:Option Addr) (nl nc:Nat) (w:World) (hr:aB w d c.raw) (hT:aq c) (ht:¬n.n=⟨#[]⟩):
  Calls Tryz.prog 77 #[Zc #[J d.a1 d.l1 d.c1,J d.a2 d.l2 d.c2,J d.a3 d.l3 d.c3,J d.a4 d.l4 d.c4,J d.a5 d.l5 d.c5,Y7 Y6 c.now],Zc #[I n.n,I n.z,Y7 Y6 n.c,Y7 Y6 n.s,Y7 Y6 n.u,Y9 n.d,J na nl nc]] w λe w'=> ∃a l q,e=Za (J a l q)/\bS w' a l q (kK c n.n c.vs) (λk=>w.heap.size<=k)/\Below w.heap.size w w':=by
 have z448z:=@aa _ @abt;exact b_
theorem yo(d:Ad) (c:Cl) (p:Pd) (pa:Option Addr) (pl pc:Nat) (j1:Nat) (n:Nd) (w:World) (hr:aB w d c.raw) (hn:aF Nd.n c.ns) (hx:aF Xd.n c.xs) (hv:aF Vd.n c.vs) (hne:∀(j:Nat) v,c.vs[j]?=Y5 v->¬v.n=⟨#[]⟩) (hp:az w pa pl pc p.zs) (hj1:c.ns[j1]?=Y5 n) (hnn:n.n=p.d) (hbd:∀(j:Nat) t,p.zs[j]?=Y5 t->∃v,aO c t v) (r:Bool) (h:r=Zb↔re c p n):
  Calls Tryz.prog 117 #[Zc #[J d.a1 d.l1 d.c1,J d.a2 d.l2 d.c2,J d.a3 d.l3 d.c3,J d.a4 d.l4 d.c4,J d.a5 d.l5 d.c5,Y7 Y6 c.now],Zc #[I p.n,Y7 Y6 p.c,I p.z,J pa pl pc,I p.d,Y7 Y6 p.p]] w λe w'=>e=Za (Y9 r)/\Below w.heap.size w w':=by
 refine (mf d c p pa pl pc j1 n w hr hn hx hv hne hp hj1 hnn hbd).mono ?_;exact Om
def ak4(a:Option Addr) (l cp:Nat) (t:ByteArray) (f:Pd->Int) (ps:List Pd) (S:Nat->Prop) (w:World) (e:Ending) (w':World):Prop:=(∃v,e=Za v)/\aw w' a l cp 6 40 ((ps.map (phF t f)).map pdF) S/\aI (λk=>0<l/\a=Y5 ⟨k,0,U⟩) w w'
theorem aw.alo {wz:World} {l cp:Nat} {x:Pd} (hO:aw wr (Y5 ⟨g,0,U⟩) l cp 6 40 (L.map pdF) S) (hb:Below wr.heap.size wr wz) (hx:L[k]?=Y5 x) (v:Int):aw (wz.setCell ⟨g,k*6+5,U⟩ (Y7 Y6 v)) (Y5 ⟨g,0,U⟩) l cp 6 40 ((L.set k ⟨x.n,x.c,x.z,x.zs,x.d,v⟩).map pdF) S:=by
 have hLk:(L.map pdF)[k]?=Y5 (pdF x):=by rw[Yv,hx];rfl
 obtain⟨g',e,hS⟩:=(hO.below hb).st (aI.refl S wz) hLk;cases e;obtain⟨⟨cur2,H2,h3,_⟩,_,_⟩:=hS.AZ (i:=5) rfl v;rw[List.map_set];exact⟨by rw[List.length_set];exact hO.1,hO.2.1,hO.2.2.1,Zd ⟨g,cur2,H2,rfl,h3⟩⟩
theorem aw.atP {l cp:Nat} {x:Pd} (hO:aw wr (Y5 ⟨g,0,U⟩) l cp 6 40 (L.map pdF) S) (hx:L[k]?=Y5 x):g<wr.heap.size/\wr.frozen? ⟨g,k*6+5,U⟩=Y_:=by
 have hLk:(L.map pdF)[k]?=Y5 (pdF x):=by rw[Yv,hx];rfl
 obtain⟨g',e,hS⟩:=hO.st (aI.refl S wr) hLk;cases e;refine⟨?_,hS.ob _⟩;obtain⟨⟨cur,H,h1,_⟩,_⟩:=hS;exact ae h1.blk
theorem B5(b:Nat) (a1:Option Addr) (l1 y1:Nat) (a2:Option Addr) (l2 y2:Nat) (a3:Option Addr) (l3 y3:Nat) (a4:Option Addr) (l4 y4:Nat) (a5:Option Addr) (l5 y5:Nat) (now:Int) (t:ByteArray) (ns:List Nd) (ks:List Kd) (vs:List Vd) (xs:List Xd) (ps:List Pd) (m:Nd) (j1:Nat) (f:Pd->Int) (S Q:Nat->Prop) (w:World) (hb:w.heap[b]?=Y5 (Y8 #[J a1 l1 y1,J a2 l2 y2,J a3 l3 y3,J a4 l4 y4,J a5 l5 y5,Y7 Y6 now] 29 (0,0))) (ho:aw w a5 l5 y5 6 40 (ps.map pdF) S) (hS:∀g,0<l5->a5=Y5 ⟨g,0,U⟩->¬g=b) (q1:aw w a1 l1 y1 7 83 (ns.map ndF) Q) (q2:aw w a2 l2 y2 4 74 (ks.map kdF) Q) (q3:aw w a3 l3 y3 8 38 (vs.map vdF) Q) (q4:aw w a4 l4 y4 5 50 (xs.map xdF) Q) (rn:aF Nd.n ns) (rx:aF Xd.n xs) (rv:aF Vd.n vs) (hne:∀(j:Nat) v,vs[j]?=Y5 v->¬v.n=⟨#[]⟩) (hm:ns[j1]?=Y5 m) (hmn:m.n=t) (hbd:∀(k:Nat) p,ps[k]?=Y5 p->p.d=t->∀(j:Nat) s,p.zs[j]?=Y5 s->∃v,aO ⟨ns,ks,vs,xs,ps,now⟩ s v) (hf:∀(k:Nat) p,ps[k]?=Y5 p->p.d=t->(f p=2/\re ⟨ns,ks,vs,xs,ps,now⟩ p m)\/(f p=1/\¬re ⟨ns,ks,vs,xs,ps,now⟩ p m)):
  Calls Tryz.prog 76 #[Zf (Y5 ⟨b,0,U⟩),I t,Y9 Zb] w (ak4 a5 l5 y5 t f ps S w):=by
 have hpl:ps.length=l5:=oI
 have hlm:l5<=9223372036854775807:=Yp ho.2.1 ho.2.2.1;have Bc:=aa hb;have HOW:=aa ho;have HO0:Hid (aw w a5 l5 y5 6 40 ((mpL (phF t f) ps 0).map pdF) S):=by show aw _ _ _ _ _ _ _ _;rw[QN];exact ho
 have HQ:=aa (Yb q1 (Yb q2 (Yb q3 q4)));have HRI:=aa (Yb rn (Yb rx (Yb rv hne)));have HM:=aa (Yb hm hmn);have HBD:=aa hbd;have HF:=aa hf;have HSB:=aa hS;clear hb ho q1 q2 q3 q4 rn rx rv hne hm hmn hbd hf hS;go_enter Tryz.func76,Tryz.ntmps76;go_wp2;go_loopw [6] (λvi wr=> ∃k:Nat,k<=l5/\vi=Y7 Y6 k/\Hid (aw wr a5 l5 y5 6 40 ((mpL (phF t f) ps k).map pdF) S)/\Hid (aI (λk=>0<l5/\a5=Y5 ⟨k,0,U⟩) w wr)) (λvi _=>l5 - (intOf vi).toNat);case atStart=>exact⟨0,by omega,rfl,HO0,aI.refl _ _⟩
 case round=>
  obtain⟨k,hk,rfl,HO,HK⟩:=hrel;clear HO0;have Bc2:=aa ((HK.block _ (ae Bc.out) (λh=>HSB.out _ h.1 h.2 rfl)).trans Bc.out);by_cases hlt:k<l5
  ·obtain⟨x,hx0⟩:∃x,ps[k]?=Y5 x:=⟨_,Yi af⟩;have HX0:=aa hx0;have HXL:Hid ((mpL (phF t f) ps k)[k]?=Y5 x):=(QP af).trans hx0;have hLk:((mpL (phF t f) ps k).map pdF)[k]?=Y5 (pdF x):=by rw[Yv,HXL.out];rfl
   obtain⟨g,hg,hS2⟩:=HO.st (aI.refl S wr) hLk;subst hg;obtain⟨b2,o2,x2',hae,hbl,hx2,hat⟩:=cg HO.row hlt;cases hae;rw[HXL.out] at hx2;obtain rfl:=Yd hx2;obtain⟨pa,pq,pc,-,-,-,-,-,-,-,-,c4,c5⟩:=bH hat;have hf5:=hS2.ob (k*6+5);have hneg:¬g=b:=HSB.out g af rfl;have hneg2:¬b=g:=λe=>hneg e.symm;rw[Yq] at c4 c5;have hk1:(k:Int)<l5:=af
   clear hat hx2 hx0 hS2 hLk;obtain⟨k0,k1,k2,k3,k4,k5⟩:=cs6 Bc2;have ltc:=ae Bc2.out;by_cases he:x.d=t;rotate_left
   ·have hq:=bu he;have HHE:=aa he;clear he;go_wp2;refine⟨⟨k+1,by omega,by go_num,?_,HK.out⟩,by simp[intOf];omega⟩;show aw _ _ _ _ _ _ _ _;rw[QO HX0.out (akF HHE.out)];exact HO.out
   have hq:=aP he;have HHE:=aa he;clear he;go_wp2_with fail;have hP1:=aw.alo HO.out (Yh _ _) HXL.out 1;have hK1:aI (λk=>0<l5/\(Y5 ⟨g,0,U⟩:Option Addr)=Y5 ⟨k,0,U⟩) w (wr.setCell ⟨g,k*6+5,U⟩ (Y7 Y6 1)):=HK.set ⟨by omega,rfl⟩;have hB1:(wr.setCell ⟨g,k*6+5,U⟩ (Y7 Y6 1)).heap[b]?=Y5 (Y8 (clo6 a1 l1 y1 a2 l2 y2 a3 l3 y3 a4 l4 y4 (Y5 ⟨g,0,U⟩) l5 y5 now) 29 (0,0)):=(Ya _ _ _ _ hneg2).trans Bc2.out;clear k0 k1 k2 k3 k4 k5 c4 c5 hf5 ltc;obtain⟨W,hW0⟩:∃W,W=(wr.setCell ⟨g,k*6+5,U⟩ (Y7 Y6 1)):=⟨_,rfl⟩;rw[<-hW0] at hP1 hK1 hB1 ⊢;clear hW0;have f1:=HQ.1.beside HOW.out hK1 ag;have f2:=HQ.2.1.beside HOW.out hK1 ag;have f3:=HQ.2.2.1.beside HOW.out hK1 ag;have f4:=HQ.2.2.2.beside HOW.out hK1 ag;have HCW:Hid (aB W ⟨a1,l1,y1,a2,l2,y2,a3,l3,y3,a4,l4,y4,Y5 ⟨g,0,U⟩,l5,y5⟩ (⟨ns,ks,vs,xs,((mpL (phF t f) ps k).set k (⟨x.n,x.c,x.z,x.zs,x.d,1⟩:Pd)),now⟩:Cl).raw):=⟨f1.row,f2.row,f3.row,f4.row,hP1.row⟩;have HP1:=aa hP1;have HK1:=aa hK1;have Bc3:=aa hB1;have hLx:((mpL (phF t f) ps k).set k (⟨x.n,x.c,x.z,x.zs,x.d,1⟩:Pd))[k]?=Y5 (⟨x.n,x.c,x.z,x.zs,x.d,1⟩:Pd):=by rw[dW (Yc.1 HXL.out).1,if_pos rfl]
   have HLX:=aa hLx;obtain⟨b2,o2,x3,hae,hbl2,hx3,hat⟩:=cg hP1.row hlt;cases hae;rw[hLx] at hx3;obtain rfl:=Yd hx3;obtain⟨pa,pq,pc,hpr,-,-,-,c0,c1,c2,c3,c4,c5⟩:=bH hat;rw[Yq] at c0 c1 c2 c3 c4 c5;have HPR:=aa hpr;clear f1 f2 f3 f4 hP1 hK1 hB1 hLx hat hx3 hpr;rcases HF.out k x HX0.out HHE.out with ⟨hf1,hf2⟩|⟨hf1,hf2⟩
   ·have HFX:=aa hf1;have HFA:=aa hf2;clear hf1 hf2;obtain⟨k0,k1,k2,k3,k4,k5,p0,p1,p2,p3,p4,p5⟩:=aht;have HC0:=aa (λq:Wd W=>yo ⟨a1,l1,y1,a2,l2,y2,a3,l3,y3,a4,l4,y4,Y5 ⟨g,0,U⟩,l5,y5⟩ (⟨ns,ks,vs,xs,((mpL (phF t f) ps k).set k (⟨x.n,x.c,x.z,x.zs,x.d,1⟩:Pd)),now⟩:Cl) (⟨x.n,x.c,x.z,x.zs,x.d,1⟩:Pd) pa pq pc j1 m q.w (HCW.below q.b) HRI.1 HRI.2.1 HRI.2.2.1 HRI.2.2.2 (HPR.below q.b) HM.1 (HM.2.trans HHE.symm) (HBD.out k x HX0.out HHE.out) Zb (⟨λ_=>HFA.out,λ_=>rfl⟩));have z349z:=@aa _ @acS;exact zN
   have HFX:=aa hf1;have HFA:=aa hf2;clear hf1 hf2;obtain⟨k0,k1,k2,k3,k4,k5,p0,p1,p2,p3,p4,p5⟩:=aht;have HC0:=aa (λq:Wd W=>yo ⟨a1,l1,y1,a2,l2,y2,a3,l3,y3,a4,l4,y4,Y5 ⟨g,0,U⟩,l5,y5⟩ (⟨ns,ks,vs,xs,((mpL (phF t f) ps k).set k (⟨x.n,x.c,x.z,x.zs,x.d,1⟩:Pd)),now⟩:Cl) (⟨x.n,x.c,x.z,x.zs,x.d,1⟩:Pd) pa pq pc j1 m q.w (HCW.below q.b) HRI.1 HRI.2.1 HRI.2.2.1 HRI.2.2.2 (HPR.below q.b) HM.1 (HM.2.trans HHE.symm) (HBD.out k x HX0.out HHE.out) Y_ (⟨λh=>bU,λh=>absurd h HFA.out⟩));have z349z:=@aa _ @acT;exact zN
  have hk1:¬(k:Int)<l5:=af
  obtain⟨k0,k1,k2,k3,k4,k5⟩:=cs6 Bc2;have ltc:=ae Bc2.out;go_wp2;have HO2:=HO;rw[agv af] at HO2;exact PE
theorem B9(c:Cl) (w:World) (h0:0<=c.now) (h1:c.now<=1000000):
  Calls Tryz.prog 75 #[Y7 Y6 1000000,Y7 Y6 (c.now+10)] w λe w'=>e=Za (Y7 Y6 (cX c))/\Below w.heap.size w w':=by
 unfold cX;by_cases hl:c.now+10<1000000
 ·rw[if_pos hl];have hl2:¬1000000<c.now+10:=af
  exact wJ
 ·rw[if_neg hl];by_cases he:c.now+10=1000000
  ·rw[he];exact wJ
  ·have hl2:1000000<c.now+10:=af
   exact wJ
theorem StJ.alp {N:Nat->Prop} {r:List Fv} (h:StJ g m T S N w wr rs j r) {i:Nat} {old:Fv} (hi:r[i]?=Y5 old) (a:Option Addr) (q:Nat) (hq:q<=9223372036854775807):StJ g m T S N w (wr.setCell ⟨g,j*m+i,U⟩ (J a 0 q)) rs j (r.set i (.l [])):=by
 have z277z:=@aa _ @adL;exact zU
theorem StJ.am1 {r:List Fv} (h:StJ g m T S (λk=>B<=k) w wr rs j r) {i:Nat} {old:Fv} (hi:r[i]?=Y5 old) {a:Option Addr} {l q:Nat} {zs:List ByteArray} (ht:bS wr a l q zs (λk=>B<=k)) (hS:∀k,B<=k->k<wr.heap.size->S k) (hg:g<B):∃cur H,er (wr.setCell ⟨g,j*m+i,U⟩ (J a l q)) g m T (rs.set j (r.set i (.l zs))) S cur H:=by
 obtain⟨⟨h1,h2,h3,h4,h5⟩,h6⟩:=ht;by_cases hz:zs=[]
 ·subst hz;obtain rfl:l=0:=h1.symm;obtain⟨⟨cur,H,h7,_⟩,_⟩:=h.alp hi a q h3;exact⟨cur,H,h7⟩
 ·obtain⟨gm,cur,rfl,hm,hb⟩:=h6.resolve_left hz;have hm1:B<=gm:=hm;have hgl:=ae hb;obtain⟨b,o,e,hlt,hc⟩:=h5.resolve_left hz;cases e;obtain⟨⟨cur2,H,h7,_⟩,_⟩:=h.am2 (b:=gm) hi zs (λ_=>hm1) ⟨_,l,q,rfl,h1,h2,h3,h4,Zd ⟨rfl,hS gm hm1 hgl,by omega,cur,hb,λk x hx=>by have h8:=hc k x hx;rw[Yq,an hb] at h8;exact h8⟩⟩;exact⟨cur2,H,h7⟩
theorem aF.RW {xs:List α} {x:α} (h:aF nm xs) (hx:xs[k]?=Y5 x) (e:nm y=nm x):aF nm (xs.set k y):=by
 have hk:k<xs.length:=(Yc.1 hx).1;have key:∀(j:Nat) a,(xs.set k y)[j]?=Y5 a->∃a',xs[j]?=Y5 a'/\nm a=nm a':=λj a ha=>by
  rw[dW hk] at ha;split at ha
  ·rename_i e2;subst e2;obtain rfl:=Yd ha;exact⟨x,hx,e⟩
  ·exact⟨a,ha,rfl⟩
 intro j a b ha hb;obtain⟨a',h1,h2⟩:=key _ a ha;obtain⟨b',h3,h4⟩:=key _ b hb;rw[h2,h4];exact h j a' b' h1 h3
theorem kr(d:Ad) (c:Cl) (t:ByteArray) (w:World) (hr:aB w d c.raw):
  Calls Tryz.prog 46 #[Zc #[J d.a1 d.l1 d.c1,J d.a2 d.l2 d.c2,J d.a3 d.l3 d.c3,J d.a4 d.l4 d.c4,J d.a5 d.l5 d.c5,Y7 Y6 c.now],I t] w (jc (vt c t) w):=by
 obtain⟨a1,l1,y1,a2,l2,y2,a3,l3,y3,a4,l4,y4,a5,l5,y5⟩:=d;dsimp only;obtain⟨HR,hl1,hm1,hl2,hm2,hl3,hm3,hl4,hm4,hl5,hm5⟩:=al1;clear hr;have HB:=aa (Yh w.heap.size w);go_enter Tryz.func46,Tryz.ntmps46;have z1685z:=@aa _ @DQ;exact mr
theorem hY:(Tryz.prog.info? 33).map (·.size)=Y5 8:=by kernel_rfl
def aid(B:Nat) (w0:World) (p:Nat) (v:Value) (len:Nat) (c:Cl) (w:World) (e:Ending) (w':World):Prop:=∃(g:Ad) (o:Co),e=Za (Zc #[J g.a1 g.l1 g.c1,J g.a2 g.l2 g.c2,J g.a3 g.l3 g.c3,J g.a4 g.l4 g.c4,J g.a5 g.l5 g.c5,Y7 Y6 o.c.now,I o.n,Y7 Y6 o.p])/\(o.p=0->Gd c o.c)/\aB w' g o.c.raw/\Low w.heap.size w' g/\Dr B w0 p v len w w'
theorem eight {q:Nat} {c0 c1 c2 c3 c4 c5 c6 c7 v0 v1 v2 v3 v4 v5 v6 v7:Value} (h:w.heap[q]?=Y5 (Y8 #[c0,c1,c2,c3,c4,c5,c6,c7] T (0,0))):((((((((w.setCell ⟨q,0,U⟩ v0).setCell ⟨q,1,U⟩ v1).setCell ⟨q,2,U⟩ v2).setCell ⟨q,3,U⟩ v3).setCell ⟨q,4,U⟩ v4).setCell ⟨q,5,U⟩ v5).setCell ⟨q,6,U⟩ v6).setCell ⟨q,7,U⟩ v7)=w.setRow q #[v0,v1,v2,v3,v4,v5,v6,v7]:=by
 unfold World.setCell World.setRow;simp only[World.mk.injEq,and_true];apply Array.ext_getElem?;intro k;simp only[Array.getElem?_modify];by_cases e:q=k
 ·subst e;simp[h]
 ·simp[e]
theorem Dr.row {p:Nat} {wa:World} (h:Dr B w0 p v len wa w) {q:Nat} (cs:Array Value) (hq:wa.heap.size<=q):Dr B w0 p v len wa (w.setRow q cs):=by
 have hl:=h.lt;have hB:B<=p:=h.src.1;have hg:w.grownBy (w.setRow q cs) (Y5 q):=⟨rfl,rfl,rfl,by simp,λk _ hn=>setRow_other _ _ _ _ (λe=>hn (by rw[e]))⟩;exact⟨h.src.ay hg (λe=>by simp at e;omega) (λk hk=>by simp at hk;omega),pf h.gr hg (λk hk=>by simp at hk;omega),h.lt⟩
theorem lX {p:Nat} {w9:World} {g:Ad} {q:Nat} (hd:Dr B w0 p v len w w9) {X:Nat} (ho:kf X w9 g o.c.raw) (hX:w.heap.size<=X) (hb:w9.heap[q]?=Y5 (Y8 #[J U 0 0,J U 0 0,J U 0 0,J U 0 0,J U 0 0,Y7 Y6 0,I ⟨#[]⟩,Y7 Y6 0] 33 (0,0))) (hq:w.heap.size<=q) (hn:o.n.size<=9223372036854775807) (hi:o.p=0->Gd c o.c):
  aid B w0 p v len c w (Za (Zc #[J g.a1 g.l1 g.c1,J g.a2 g.l2 g.c2,J g.a3 g.l3 g.c3,J g.a4 g.l4 g.c4,J g.a5 g.l5 g.c5,Y7 Y6 o.c.now,I o.n,Y7 Y6 o.p])) (w9.setRow q #[J g.a1 g.l1 g.c1,J g.a2 g.l2 g.c2,J g.a3 g.l3 g.c3,J g.a4 g.l4 g.c4,J g.a5 g.l5 g.c5,Y7 Y6 o.c.now,I o.n,Y7 Y6 o.p]):=by
 obtain⟨c',hl,hr⟩:=ho.row.res (p:=q) (w':=w9.setRow q #[J g.a1 g.l1 g.c1,J g.a2 g.l2 g.c2,J g.a3 g.l3 g.c3,J g.a4 g.l4 g.c4,J g.a5 g.l5 g.c5,Y7 Y6 o.c.now,I o.n,Y7 Y6 o.p]) ⟨⟨rfl,rfl,rfl,by simp,λk _ hn=>setRow_other _ _ _ _ hn⟩,λi x h=>by
  rw[an hb i] at h
  rcases i with _|_|_|_|_|_|_|_|i
  all_goals first
   | exact⟨by omega,λ_=>rfl⟩
   | (cases h;exact⟨by omega,λ⟨_,e⟩=>by cases e⟩)
   | (simp at h),o.n,an (setRow_heap _ q _ #[J g.a1 g.l1 g.c1,J g.a2 g.l2 g.c2,J g.a3 g.l3 g.c3,J g.a4 g.l4 g.c4,J g.a5 g.l5 g.c5,Y7 Y6 o.c.now,I o.n,Y7 Y6 o.p] _ _ hb) 6,hn⟩
 have e:c'.now=o.c.now:=hl.2.2.2.2.2;exact⟨g,⟨c',o.n,o.p⟩,by rw[<-e],λh=>⟨hl.1.trans (hi h).1,hl.2.1.trans (hi h).2⟩,hr,ho.low.to hX (λ_ u=>u.row),Rc.Dr.row hd _ hq⟩
theorem BE {p:Nat} (h:Src B w0 p v len w) (d:Ad) (c:Cl) (hr:aB w d c.raw):
  Calls Tryz.prog 47 #[Zf (Y5 ⟨p,0,U⟩),Zc #[J d.a1 d.l1 d.c1,J d.a2 d.l2 d.c2,J d.a3 d.l3 d.c3,J d.a4 d.l4 d.c4,J d.a5 d.l5 d.c5,Y7 Y6 c.now]] w (aid B w0 p v len c w):=by
 have HD:=aa (Dr.start h);have HP:=aa h.uM;have HN:=aa (ch h);have HR:=aa hr;clear h hr;go_enter Tryz.func47,Tryz.ntmps47;go_wp2_with fail;have HD0:=aa ((HD.alloc (Y8 (clv d c.now) 29)).alloc (Y8 #[J U 0 0,J U 0 0,J U 0 0,J U 0 0,J U 0 0,Y7 Y6 0,I ⟨#[]⟩,Y7 Y6 0] 33));have Bk:Hid (((w.alloc (Y8 (clv d c.now) 29)).alloc (Y8 #[J U 0 0,J U 0 0,J U 0 0,J U 0 0,J U 0 0,Y7 Y6 0,I ⟨#[]⟩,Y7 Y6 0] 33)).heap[w.heap.size]?=Y5 (Y8 (clv d c.now) 29 (0,0))):=eG _ _ _;have Br:Hid (((w.alloc (Y8 (clv d c.now) 29)).alloc (Y8 #[J U 0 0,J U 0 0,J U 0 0,J U 0 0,J U 0 0,Y7 Y6 0,I ⟨#[]⟩,Y7 Y6 0] 33)).heap[w.heap.size+1]?=Y5 (Y8 #[J U 0 0,J U 0 0,J U 0 0,J U 0 0,J U 0 0,Y7 Y6 0,I ⟨#[]⟩,Y7 Y6 0] 33 (0,0))):=heap_alloc2_new _ _ _;clear HD;go_wp2_with fail;refine (bZ HD0.src [⟨#[110,49]⟩,⟨#[110,50]⟩,⟨#[110,51]⟩] 3 _ _ aG rfl ag ag ag).mono ?_;rintro e w1 ⟨tn,rfl,htn,hs,hg⟩;have HD1:=aa (HD0.next hs hg);replace Bk:=aa (gk hg eh Bk.out);replace Br:=aa (gk hg eh Br.out);clear hs hg HD0;go_wp2_with fail;refine (bZ HD1.src [⟨#[112,49]⟩,⟨#[112,50]⟩,⟨#[112,51]⟩,⟨#[112,52]⟩] 4 _ _ aG rfl ag ag ag).mono ?_;rintro e w2 ⟨tp,rfl,htp,hs,hg⟩;have HD2:=aa (HD1.next hs hg);replace Bk:=aa (gk hg eh Bk.out);replace Br:=aa (gk hg eh Br.out);clear hs hg HD1;go_wp2_with fail;refine (bZ HD2.src [⟨#[99,49]⟩,⟨#[99,50]⟩,⟨#[99,51]⟩,⟨#[99,52]⟩] 4 _ _ aG rfl ag ag ag).mono ?_;rintro e w3 ⟨tc,rfl,htc,hs,hg⟩;have HD3:=aa (HD2.next hs hg);replace Bk:=aa (gk hg eh Bk.out);replace Br:=aa (gk hg eh Br.out);clear hs hg HD2;go_wp2_with fail;refine (HD3.src.n 22 ag).mono ?_;rintro e w4 ⟨r,rfl,ra,rb,hs,hg⟩;have HD4:=aa (HD3.next hs hg);replace Bk:=aa (gk hg eh Bk.out);replace Br:=aa (gk hg eh Br.out);clear hs hg HD3;replace HR:=aa (HR.bR HN.out (aU HD4.gr));have hlr:=ae Br.out;have HLR:=aa hlr;have z358z:=@aa _ @acN;exact eC
theorem aT.tail {r:List Fv} (h:aT w a len cap m (r ::rs)) (hc:1<=cap):aT w (a.map λx=>x.add (1*m)) (len - 1) (cap - 1) m rs:=by
 obtain⟨h1,h2,h3,h5⟩:=h;simp at h1;refine⟨by omega,by omega,by omega,?_⟩;rcases h5 with h5|⟨b,o,rfl,hl,hx⟩
 ·cases h5
 refine Zd ⟨b,o+1*m,by simp only[Option.map_some,Yn],hl,λj x hj=>?_⟩;have:=hx (j+1) x hj;rw[Nat.add_mul,Nat.add_comm (j*m),<-Nat.add_assoc] at this;exact this
theorem LoA.tail(m:Nat) (h:LoA B w a len):LoA B w (a.map λx=>x.add (1*m)) (len - 1):=by
 rcases h with h|⟨b,o,rfl,h2⟩
 ·exact Ze af
 ·exact Zd ⟨b,o+1*m,by simp only[Option.map_some,Yn],h2⟩
theorem aip(w:World) (t:ByteArray) (h:t.size<=100):az (w.alloc (Y8 #[I t] 9)) (Y5 ⟨w.heap.size,0,U⟩) 1 1 [t]:=by
 refine⟨rfl,Ye _,by decide,λj x hj=>?_,Zd ⟨w.heap.size,0,rfl,by simp,λj x hj=>?_⟩⟩
 ·rcases j with _|j
  ·obtain rfl:t=x:=by simpa using hj
   omega
  ·simp at hj
 ·rcases j with _|j
  ·obtain rfl:t=x:=by simpa using hj
   exact an (show (w.alloc (Y8 #[I t] 9)).heap[w.heap.size]?=_ from Yg) 0
  ·simp at hj
theorem UF.ob(h:UF w g) (i:Nat):w.frozen? ⟨g,i,U⟩=Y_:=by
 obtain⟨cs,T,h⟩:=h;exact al h i
theorem UF.Rj(h:UF w g):UF w.drew g:=h
theorem iG.Rj {p:Nat} {b:Nat} {w1:World} {c':Cl} (h:iG B w0 p v len X b c w w1 d c'):iG B w0 p v len X b c w w1.drew d c':=
 ⟨h.blk,h.row.below (br _),h.low.to (Ye _) (λ_ u=>u),cv h.src,h.kept.below (br _),h.ld⟩
theorem xJ {p:Nat} (h:Src B w0 p v len w) (X b:Nat) (d:Ad) (c:Cl) (hr:aB w d c.raw) (hlo:Low X w d) (hb:w.heap[b]?=Y5 (Y8 #[J d.a1 d.l1 d.c1,J d.a2 d.l2 d.c2,J d.a3 d.l3 d.c3,J d.a4 d.l4 d.c4,J d.a5 d.l5 d.c5,Y7 Y6 c.now] 29 (0,0))) (hbp:¬b=p) (hBX:B<=X) (hXb:X<=b) (hn:2<=c.ns.length) (hk:1<=c.ks.length):
  Calls Tryz.prog 48 #[Zf (Y5 ⟨p,0,U⟩),Zf (Y5 ⟨b,0,U⟩)] w (λe w'=>e=Za (Zg #[])/\∃d' c',iG B w0 p v len X b c w w' d' c'):=by
 have HS:=aa (show iG B w0 p v len X b c w w d c from ⟨hb,hr,hlo,h,aI.refl _ _,rfl⟩);have HN:=aa hn;have HK:=aa hk;have Bk:=aa hb;have hpl:=h.uM;clear h hr hlo hb hn hk;obtain⟨a1,l1,y1,a2,l2,y2,a3,l3,y3,a4,l4,y4,a5,l5,y5⟩:=d;have hl1:c.ns.length=l1:=ag5
 have hl2:c.ks.length=l2:=by simpa using (show (c.ks.map kdF).length=l2 from HS.row.k.1)
 have hl4:c.xs.length=l4:=by simpa using (show (c.xs.map xdF).length=l4 from HS.row.x.1)
 have hl5:c.ps.length=l5:=by simpa using (show (c.ps.map pdF).length=l5 from HS.row.p.1)
 go_enter Tryz.func48,Tryz.ntmps48;go_wp2_with fail;refine (HS.src.n 6 ag).mono ?_;rintro e w1 ⟨r,rfl,ra,rb,hs,hg⟩;replace HS:=aa (HS.draw hbp hs hg);replace Bk:=aa HS.blk;replace hpl:=hs.uM;clear hs hg;rcases (by omega:r=0\/r=1\/r=2\/r=3\/r=4\/r=5) with rfl|rfl|rfl|rfl|rfl|rfl
 ·have z358z:=@aa _ @acL;exact eC
 ·have hj:0<l1:=by have:=HN.out;omega
  obtain⟨g,o,x,rfl,hgl,-,hat⟩:=dh HS.row.n hj;obtain⟨hXg,huf⟩:=HS.low.n.at rfl (by show 0<l1;omega);rw[Nat.zero_mul,Nat.add_zero] at hat;obtain⟨va,vl,vc,-,-,-,c0,c1,c2,c3,c4,c5,c6⟩:=bg hat;obtain⟨hgb,hgp⟩:=Al;clear hat;have z358z:=@aa _ @acK;exact eC
 ·have hj:1<l1:=by have:=HN.out;omega
  obtain⟨g,o,x,rfl,hgl,-,hat⟩:=dh HS.row.n hj;obtain⟨hXg,huf⟩:=HS.low.n.at rfl (by show 0<l1;omega);obtain⟨va,vl,vc,-,-,-,c0,c1,c2,c3,c4,c5,c6⟩:=bg hat;obtain⟨hgb,hgp⟩:=Al;clear hat;have z358z:=@aa _ @acJ;exact eC
 ·by_cases hj:0<l4
  ·obtain⟨g,o,x,rfl,hgl,-,hat⟩:=dL HS.row.x hj;obtain⟨hXg,huf⟩:=HS.low.x.at rfl (by show 0<l4;omega);rw[Nat.zero_mul,Nat.add_zero] at hat;obtain⟨-,-,-,c0,c1,c2,c3,c4⟩:=bQ hat;obtain⟨hgb,hgp⟩:=Al;clear hat;have z358z:=@aa _ @acI;exact eC
  ·exact PQ
 ·by_cases hj:0<l5
  ·obtain⟨g,o,x,rfl,hgl,-,hat⟩:=cg HS.row.p hj;obtain⟨hXg,huf⟩:=HS.low.p.at rfl (by show 0<l5;omega);rw[Nat.zero_mul,Nat.add_zero] at hat;obtain⟨va,vl,vc,-,-,-,-,c0,c1,cz,c3,c4,c5⟩:=bH hat;obtain⟨hgb,hgp⟩:=Al;clear hat;have z358z:=@aa _ @acH;exact eC
  ·exact PQ
 ·have z358z:=@aa _ @acG;exact eC
def bN1:ByteArray:=⟨#[110,49]⟩
def bN2:ByteArray:=⟨#[110,50]⟩
def bN3:ByteArray:=⟨#[110,51]⟩
def Ro:ByteArray:=⟨#[101,97,115,116]⟩
def amy:ByteArray:=⟨#[119,101,115,116]⟩
def amA:ByteArray:=⟨#[102,97,115,116]⟩
def amz:ByteArray:=⟨#[115,108,111,119]⟩
def bE:ByteArray:=⟨#[]⟩
def lh:Cl:=⟨[⟨bN1,Ro,2000,3,0,Y_,[]⟩,⟨bN2,Ro,1500,2,0,Y_,[]⟩,⟨bN3,amy,2000,2,0,Y_,[]⟩],[⟨amA,Y_,Y_,Ro⟩,⟨amz,Zb,Zb,bE⟩],[],[],[],0⟩
theorem vB(w:World):Calls Tryz.prog 45 #[] w λe w'=> ∃d,e=Za (Zc #[J d.a1 d.l1 d.c1,J d.a2 d.l2 d.c2,J d.a3 d.l3 d.c3,J d.a4 d.l4 d.c4,J d.a5 d.l5 d.c5,Y7 Y6 0])/\dK w' d lh.raw (λk=>w.heap.size<=k)/\Below w.heap.size w w':=by
 go_enter Tryz.func45,Tryz.ntmps45;go_wp2;refine bodyPost_ret (v:=Zc #[J (Y5 ⟨w.heap.size+1,0,U⟩) 3 3,J (Y5 ⟨w.heap.size+1+1,0,U⟩) 2 2,J U 0 0,J U 0 0,J U 0 0,Y7 Y6 0]) (by simp[results,Tryz.results45,go_sem]) rfl ⟨⟨Y5 ⟨w.heap.size+1,0,U⟩,3,3,Y5 ⟨w.heap.size+1+1,0,U⟩,2,2,U,0,0,U,0,0,U,0,0⟩,rfl,⟨λk=>if k=w.heap.size+1 then 1 else 2,?_,?_,?_,?_,?_⟩,dj _ _ _ _⟩
 ·refine⟨rfl,Ye _,show (3:Nat)<=9223372036854775807 by omega,Zd ⟨w.heap.size+1,_,λ_ _=>0,rfl,jX _ _ _ _,⟨by omega,if_pos rfl⟩,?_,?_,?_⟩⟩
  ·intro j r hj;rcases j with _|_|_|j <;> first|(cases hj;rfl)|(simp[lh,Cl.raw] at hj)
  ·intro j r hj i f hi;rcases j with _|_|_|j <;> first|cases hj|(simp[lh,Cl.raw] at hj;done)
   all_goals
    rcases i with _|_|_|_|_|_|_|i <;> first|cases hi|(simp[ndF] at hi;done)
   all_goals first|exact⟨_,rfl,rfl,by decide⟩|exact⟨_,rfl,rfl⟩|exact⟨_,rfl,U,0,0,rfl,rfl,Ye _,by decide,λj x hx=>by simp at hx,Ze rfl⟩
  ·intro j r i zs j' r' i' zs' hj hi hz;exfalso;rcases j with _|_|_|j <;> first|cases hj|(simp[lh,Cl.raw] at hj;done)
   all_goals
    rcases i with _|_|_|_|_|_|_|i <;> first|(cases hi;done)|(cases hi;exact hz rfl)|(simp[ndF] at hi;done)
 ·refine⟨rfl,Ye _,show (2:Nat)<=9223372036854775807 by omega,Zd ⟨w.heap.size+1+1,_,λ_ _=>0,rfl,lR _ _ _ _,⟨by omega,if_neg af⟩,?_,?_,?_⟩⟩
  ·intro j r hj;rcases j with _|_|j <;> first|(cases hj;rfl)|(simp[lh,Cl.raw] at hj)
  ·intro j r hj i f hi;rcases j with _|_|j <;> first|cases hj|(simp[lh,Cl.raw] at hj;done)
   all_goals
    rcases i with _|_|_|_|i <;> first|cases hi|(simp[kdF] at hi;done)
   all_goals first|exact⟨_,rfl,rfl,by decide⟩|exact⟨_,rfl,rfl⟩
  ·intro j r i zs j' r' i' zs' hj hi hz;exfalso;rcases j with _|_|j <;> first|cases hj|(simp[lh,Cl.raw] at hj;done)
   all_goals
    rcases i with _|_|_|_|i <;> first|(cases hi;done)|(simp[kdF] at hi;done)
 ·exact wI
 ·exact wI
 ·exact wI
structure CS (B:Nat) (w0:World) (p:Nat) (v:Value) (len:Nat) (wa wx:World) (bc:Nat) (d:Ad) (c:Cl):Prop where
 blk:wx.heap[bc]?=Y5 (Y8 (clv d c.now) 29 (0,0))
 res:wx.heap[wa.heap.size]?=Y5 (Y8 (clo6 U 0 0 U 0 0 U 0 0 U 0 0 U 0 0 0) 29 (0,0))
 lt:wa.heap.size<bc
 row:aB wx d c.raw
 low:Low wa.heap.size wx d
 dr:Dr B w0 p v len wa wx
 ns:c.ns.length=3
 ks:c.ks.length=2
section
variable {B:Nat} {w0:World} {p:Nat} {v:Value} {len:Nat} {wa wx w2:World} {bc:Nat} {d:Ad} {c:Cl}
theorem CS.bp(h:CS B w0 p v len wa wx bc d c):¬bc=p:=by have:=h.dr.lt;have:=h.lt;omega
theorem CS.below(h:CS B w0 p v len wa wx bc d c) (hb:Below wx.heap.size wx w2):CS B w0 p v len wa w2 bc d c:=
 ⟨(hb.block _ (ae h.blk)).trans h.blk,(hb.block _ (ae h.res)).trans h.res,h.lt,h.row.below hb,h.low.to (Ye _) (λ_ u=>u.below hb),h.dr.below hb,h.ns,h.ks⟩
theorem CS.draw(h:CS B w0 p v len wa wx bc d c) (hs:Src B w0 p v len w2) (hg:wx.grownBy w2 (Y5 p)):CS B w0 p v len wa w2 bc d c:=
 ⟨gk hg h.bp h.blk,gk hg (by have:=h.dr.lt;omega) h.res,h.lt,h.row.bR (ch h.dr.src) (aU hg),h.low.to (Ye _) (λ_ u=>u.draw hs hg),h.dr.next hs hg,h.ns,h.ks⟩
theorem CS.put(h:CS B w0 p v len wa wx bc d c) {g:Ad} {c':Cl} (hr:aB wx g c'.raw) (hl:Low wa.heap.size wx g) (hn:c'.ns.length=3) (hk:c'.ks.length=2):
  CS B w0 p v len wa ((((((wx.setCell ⟨bc,0,U⟩ (J g.a1 g.l1 g.c1)).setCell ⟨bc,1,U⟩ (J g.a2 g.l2 g.c2)).setCell ⟨bc,2,U⟩ (J g.a3 g.l3 g.c3)).setCell ⟨bc,3,U⟩ (J g.a4 g.l4 g.c4)).setCell ⟨bc,4,U⟩ (J g.a5 g.l5 g.c5)).setCell ⟨bc,5,U⟩ (Y7 Y6 c'.now)) bc g c':=by
 have hlt:=h.lt;have hk9:=(((((aI.refl (λk=>k=bc) wx).set (i:=0) (v:=J g.a1 g.l1 g.c1) rfl).set (i:=1) (v:=J g.a2 g.l2 g.c2) rfl).set (i:=2) (v:=J g.a3 g.l3 g.c3) rfl).set (i:=3) (v:=J g.a4 g.l4 g.c4) rfl).set (i:=4) (v:=J g.a5 g.l5 g.c5) rfl |>.set (i:=5) (v:=Y7 Y6 c'.now) rfl;have h6:=av (i:=5) (av (i:=4) (av (i:=3) (av (i:=2) (av (i:=1) (av (i:=0) h.blk (J g.a1 g.l1 g.c1)) (J g.a2 g.l2 g.c2)) (J g.a3 g.l3 g.c3)) (J g.a4 g.l4 g.c4)) (J g.a5 g.l5 g.c5)) (Y7 Y6 c'.now);have hle:wa.heap.size<=bc:=Nat.le_of_lt hlt;exact⟨h6,(hk9.block _ (ae h.res) af).trans h.res,hlt,hr.bR (cN h.blk) hk9,hl.to (Ye _) (λ_ u=>u.set.set.set.set.set.set),(((((h.dr.set _ hle).set _ hle).set _ hle).set _ hle).set _ hle).set _ hle,hn,hk⟩
end
def YS(B:Nat) (w0:World) (p:Nat) (v:Value) (len:Nat) (wa:World) (bc:Nat) (d:Ad) (c:Cl) (s:Value) (wx:World):Prop:=∃(r:Nat) (g:Ad) (o:Co),s=Zf (Y5 ⟨r,0,U⟩)/\CS B w0 p v len wa wx bc d c/\wx.heap[r]?=Y5 (Y8 #[J g.a1 g.l1 g.c1,J g.a2 g.l2 g.c2,J g.a3 g.l3 g.c3,J g.a4 g.l4 g.c4,J g.a5 g.l5 g.c5,Y7 Y6 o.c.now,I o.n,Y7 Y6 o.p] 33 (0,0))/\aB wx g o.c.raw/\Low wa.heap.size wx g/\(o.p=0->Gd c o.c)/\¬r=bc/\¬r=p
section
variable {B:Nat} {w0:World} {p:Nat} {v:Value} {len:Nat} {wa wr w9 W:World} {bc:Nat} {d g:Ad} {c:Cl} {o:Co} {X:Nat}
theorem aih(hs:CS B w0 p v len wa wr bc d c) (hb:Below wr.heap.size wr w9) (ho:kf X w9 g o.c.raw) (hX:wa.heap.size<=X) (hg:o.p=0->Gd c o.c):YS B w0 p v len wa bc d c (Zf (Y5 ⟨w9.heap.size,0,U⟩)) (w9.alloc (Y8 #[J g.a1 g.l1 g.c1,J g.a2 g.l2 g.c2,J g.a3 g.l3 g.c3,J g.a4 g.l4 g.c4,J g.a5 g.l5 g.c5,Y7 Y6 o.c.now,I o.n,Y7 Y6 o.p] 33)):=by
 have h1:=ae hs.blk;have h2:=hb.size;have h3:=hs.dr.src.uM;exact⟨_,g,o,rfl,hs.below (hb.trans ((ak _ _).mono h2)),(Yg:(w9.alloc _).heap[w9.heap.size]?=_),ho.row.below (ak _ _),ho.low.to hX (λ_ u=>u.below (ak _ _)),hg,by omega,by omega⟩
theorem aif(hs:CS B w0 p v len wa wr bc d c) (hb:Below wr.heap.size wr w9) (hr:w9.heap[wr.heap.size]?=Y5 (Y8 #[J U 0 0,J U 0 0,J U 0 0,J U 0 0,J U 0 0,Y7 Y6 0,I ⟨#[]⟩,Y7 Y6 0] 33 (0,0))) (ho:kf X w9 g o.c.raw) (hX:wa.heap.size<=X) (hn:o.n.size<=9223372036854775807) (hg:o.p=0->Gd c o.c):YS B w0 p v len wa bc d c (Zf (Y5 ⟨wr.heap.size,0,U⟩)) (w9.setRow wr.heap.size #[J g.a1 g.l1 g.c1,J g.a2 g.l2 g.c2,J g.a3 g.l3 g.c3,J g.a4 g.l4 g.c4,J g.a5 g.l5 g.c5,Y7 Y6 o.c.now,I o.n,Y7 Y6 o.p]):=by
 have h1:=ae hs.blk;have h3:=hs.dr.src.uM;obtain⟨c',hl,hr'⟩:=ho.row.res (p:=wr.heap.size) (w':=w9.setRow wr.heap.size #[J g.a1 g.l1 g.c1,J g.a2 g.l2 g.c2,J g.a3 g.l3 g.c3,J g.a4 g.l4 g.c4,J g.a5 g.l5 g.c5,Y7 Y6 o.c.now,I o.n,Y7 Y6 o.p]) ⟨⟨rfl,rfl,rfl,by simp,λk _ hn=>setRow_other _ _ _ _ hn⟩,λi x h=>by
  rw[an hr i] at h
  rcases i with _|_|_|_|_|_|_|_|i
  all_goals first
   | exact⟨by omega,λ_=>rfl⟩
   | (cases h;exact⟨by omega,λ⟨_,e⟩=>by cases e⟩)
   | (simp at h),o.n,an (setRow_heap _ _ _ #[J g.a1 g.l1 g.c1,J g.a2 g.l2 g.c2,J g.a3 g.l3 g.c3,J g.a4 g.l4 g.c4,J g.a5 g.l5 g.c5,Y7 Y6 o.c.now,I o.n,Y7 Y6 o.p] _ _ hr) 6,hn⟩
 have e:c'.now=o.c.now:=hl.2.2.2.2.2;have hbw:Below wr.heap.size wr (w9.setRow wr.heap.size #[J g.a1 g.l1 g.c1,J g.a2 g.l2 g.c2,J g.a3 g.l3 g.c3,J g.a4 g.l4 g.c4,J g.a5 g.l5 g.c5,Y7 Y6 o.c.now,I o.n,Y7 Y6 o.p]):=⟨hb.os,hb.tape,hb.output,by simpa using hb.size,λk hk=>(setRow_other _ _ _ _ af).trans (hb.block k hk)⟩;exact⟨_,g,⟨c',o.n,o.p⟩,rfl,hs.below hbw,by rw[show (Co.mk c' o.n o.p).c.now=o.c.now from e];exact setRow_heap _ _ _ _ _ _ hr,hr',ho.low.to hX (λ_ u=>u.row),λh=>⟨hl.1.trans (hg h).1,hl.2.1.trans (hg h).2⟩,by omega,by omega⟩
end
theorem LoA.up(h:LoA X w a len) (hr:aT w a len cap m rs) (hN:RC rs) (hn:lk w X):LoA (X+1) w a len:=by
 by_cases hl0:len=0
 ·exact Ze hl0
 obtain⟨b',o',r,e,_,hx,hat⟩:=hr.at (j:=0) af;obtain⟨t,ht⟩:=hN 0 r hx;obtain⟨v,hv,rfl,_⟩:=hat 0 _ ht;rcases h with h|⟨b,o,h1,h2,h3⟩
 ·exact absurd h hl0
 rw[h1] at e;cases e;refine Zd ⟨b',o',h1,?_,h3⟩;rcases Nat.lt_or_ge X b' with h4|h4
 ·exact h4
 obtain rfl:b'=X:=af
 exact absurd hv (hn _ _)
theorem Low.up(h:Low X w d) (hr:aB w d c.raw) (hn:lk w X):Low (X+1) w d:=
 ⟨h.n.up hr.n (cy (λx=>⟨x.n,rfl⟩) c.ns) hn,h.k.up hr.k (cy (λx=>⟨x.n,rfl⟩) c.ks) hn,h.v.up hr.v (cy (λx=>⟨x.n,rfl⟩) c.vs) hn,h.x.up hr.x (cy (λx=>⟨x.n,rfl⟩) c.xs) hn,h.p.up hr.p (cy (λx=>⟨x.n,rfl⟩) c.ps) hn⟩
def RI(B:Nat) (w0:World) (p:Nat) (v:Value) (len:Nat) (w:World) (e:Ending) (w':World):Prop:=∃(d:Ad) (c:Cl),e=Za (Zc #[J d.a1 d.l1 d.c1,J d.a2 d.l2 d.c2,J d.a3 d.l3 d.c3,J d.a4 d.l4 d.c4,J d.a5 d.l5 d.c5,Y7 Y6 c.now])/\aB w' d c.raw/\Low w.heap.size w' d/\Src B w0 p v len w'/\w.grownBy w' (Y5 p)
theorem Rk {p:Nat} {wa wx:World} (hg:wa.grownBy wx (Y5 p)) (hlt:p<wa.heap.size) (hb:wx.heap[wa.heap.size]?=Y5 (Y8 #[J U 0 0,J U 0 0,J U 0 0,J U 0 0,J U 0 0,Y7 Y6 0] 29 (0,0))) (hr:aB wx d c.raw) (hl:Low wa.heap.size wx d) (hs:Src B w0 p v len wx):
  RI B w0 p v len wa (Za (Zc #[J d.a1 d.l1 d.c1,J d.a2 d.l2 d.c2,J d.a3 d.l3 d.c3,J d.a4 d.l4 d.c4,J d.a5 d.l5 d.c5,Y7 Y6 c.now])) ((((((wx.setCell ⟨wa.heap.size,0,U⟩ (J d.a1 d.l1 d.c1)).setCell ⟨wa.heap.size,1,U⟩ (J d.a2 d.l2 d.c2)).setCell ⟨wa.heap.size,2,U⟩ (J d.a3 d.l3 d.c3)).setCell ⟨wa.heap.size,3,U⟩ (J d.a4 d.l4 d.c4)).setCell ⟨wa.heap.size,4,U⟩ (J d.a5 d.l5 d.c5)).setCell ⟨wa.heap.size,5,U⟩ (Y7 Y6 c.now)):=by
 have hk9:=(((((aI.refl (λk=>k=wa.heap.size) wx).set (i:=0) (v:=J d.a1 d.l1 d.c1) rfl).set (i:=1) (v:=J d.a2 d.l2 d.c2) rfl).set (i:=2) (v:=J d.a3 d.l3 d.c3) rfl).set (i:=3) (v:=J d.a4 d.l4 d.c4) rfl).set (i:=4) (v:=J d.a5 d.l5 d.c5) rfl |>.set (i:=5) (v:=Y7 Y6 c.now) rfl;have hd:=(((((((⟨hs,hg,hlt⟩:Dr B w0 p v len wa wx).set (i:=0) (J d.a1 d.l1 d.c1) (Ye _)).set (i:=1) (J d.a2 d.l2 d.c2) (Ye _)).set (i:=2) (J d.a3 d.l3 d.c3) (Ye _)).set (i:=3) (J d.a4 d.l4 d.c4) (Ye _)).set (i:=4) (J d.a5 d.l5 d.c5) (Ye _)).set (i:=5) (Y7 Y6 c.now) (Ye _));exact⟨d,c,rfl,hr.bR (cN (d:=ad0) hb) hk9,hl.to (Ye _) (λ_ u=>u.set.set.set.set.set.set),hd.src,hd.gr⟩
theorem pC {p:Nat} (h:Src B w0 p v len w):
  Calls Tryz.prog 16 #[Zf (Y5 ⟨p,0,U⟩)] w (RI B w0 p v len w):=by
 have hag:∀(d:Ad) (c:Cl) (t:ByteArray) (w:World),aB w d c.raw->Calls Tryz.prog 46 #[Zc #[J d.a1 d.l1 d.c1,J d.a2 d.l2 d.c2,J d.a3 d.l3 d.c3,J d.a4 d.l4 d.c4,J d.a5 d.l5 d.c5,Y7 Y6 c.now],I t] w (jc (λo=>(o.p=0->Gd c o.c)/\o.n.size<=9223372036854775807) w):=λd c t w hr=>(kr d c t w hr).mono λe w' ⟨g,o,h1,h2,h3,h4⟩=>⟨g,o,h1,⟨h2.gd,h2.nm⟩,h3,h4⟩;have hds:=λ(B:Nat) (w0:World) (p:Nat) (v:Value) (len:Nat) (w:World) (h:Src B w0 p v len w)=>BE h;have HAG:=aa hag;have HDS:=aa hds;have HD:=aa (Dr.start h);clear h hag hds;go_enter Tryz.func16,Tryz.ntmps16;go_wp2_with fail;refine (vB _).mono ?_;rintro e w1 ⟨d,rfl,ho,hb⟩;have HD1:=aa ((HD.alloc (Y8 (clo6 U 0 0 U 0 0 U 0 0 U 0 0 U 0 0 0) 29)).below hb);obtain⟨HA0,hbx⟩:=aV hb;have hl1:=ho.lo (B:=w.heap.size) (λk s=>by simp at s;omega);have hba:=ak w1 (Y8 (clv d 0) 29);have HS:Hid (∃d' c,CS B w0 p v len w (w1.alloc (Y8 (clv d 0) 29)) w1.heap.size d' c):=⟨d,lh,⟨(Yg:(w1.alloc _).heap[w1.heap.size]?=_),(hba.block _ (ae HA0)).trans HA0,ae HA0,ho.row.below hba,hl1.to (Ye _) (λ_ u=>u.below hba),HD1.below hba,rfl,rfl⟩⟩;clear ho hb hbx HA0 hl1 HD1 hba;go_wp2;go_loopw [4] (λi wr=> ∃k:Nat,k<=3/\i=Y7 Y6 k/\Hid (∃d c,CS B w0 p v len w wr w1.heap.size d c)) (λi _=>3 - (intOf i).toNat);case atStart=>exact⟨0,by omega,rfl,HS⟩
 case round=>
  clear HS;obtain⟨k,hk,rfl,HX⟩:=hrel;obtain⟨d,c,hs⟩:=HX.out;have HS:=aa hs;clear HX hs;have Bc:=aa HS.blk;obtain⟨k0,k1,k2,k3,k4,k5⟩:=cs6 Bc;have ltk:=ae Bc.out;by_cases hlt:k<3
  ·obtain⟨a1,l1,y1,a2,l2,y2,a3,l3,y3,a4,l4,y4,a5,l5,y5⟩:=d;have hl1:c.ns.length=l1:=ag5
   obtain rfl:3=l1:=HS.ns.symm.trans hl1;obtain⟨b,o,x,rfl,hb,hx,hat⟩:=dh (HS.row.n) hlt;obtain⟨va,vl,vc,-,-,-,c0,c1,c2,c3,c4,c5,c6⟩:=bg hat;clear hat hx c1 c2 c3 c4 c5 c6;have HRW:Hid ((wr.alloc (Y8 #[J U 0 0,J U 0 0,J U 0 0,J U 0 0,J U 0 0,Y7 Y6 0,I ⟨#[]⟩,Y7 Y6 0] 33)).drew.heap[wr.heap.size]?=Y5 (Y8 #[J U 0 0,J U 0 0,J U 0 0,J U 0 0,J U 0 0,Y7 Y6 0,I ⟨#[]⟩,Y7 Y6 0] 33 (0,0))):=Yg;go_wp2_with fail;go_cut [5] from 13 to 20 (λs wx=>YS B w0 p v len w w1.heap.size ⟨Y5 ⟨b,o,U⟩,3,y1,a2,l2,y2,a3,l3,y3,a4,l4,y4,a5,l5,y5⟩ c s wx);case first=>
    go_region_with (go_at_call 46;first
     | (refine (HAG.out _ c _ wr.drew (HS.row.below (br _))).mono ?_;rintro e w9 ⟨g,o,rfl,⟨hgd,hnm⟩,ho,hb⟩)
     | (refine (HAG.out _ c _ (wr.alloc (Y8 #[J U 0 0,J U 0 0,J U 0 0,J U 0 0,J U 0 0,Y7 Y6 0,I ⟨#[]⟩,Y7 Y6 0] 33)).drew (HS.row.below ((ak _ _).trans ((br _).mono aG)))).mono ?_;rintro e w9 ⟨g,o,rfl,⟨hgd,hnm⟩,ho,hb⟩;have hr9:=(hb.block _ (ae HRW.out)).trans HRW.out;obtain⟨r0,r1,r2,r3,r4,r5,r6,r7⟩:=cs8 hr9;have hrl:=ae hr9;have fr0:=al hr9 0;have fr1:=al hr9 1;have fr2:=al hr9 2;have fr3:=al hr9 3;have fr4:=al hr9 4;have fr5:=al hr9 5;have fr6:=al hr9 6;have fr7:=al hr9 7))
    all_goals (
     go_wp2_with fail
     go_meet
     first
      | (rw[eight hr9];exact aif HS.out (((ak _ _).trans ((br _).mono aG)).trans (hb.mono (show wr.heap.size<=(wr.alloc _).heap.size by simp))) hr9 ho (Yp HS.dr.size (show wr.heap.size<=(wr.alloc _).heap.size by simp)) hnm hgd)
      | exact aih HS.out ((br _).trans (hb.mono (Ye _))) ho HS.dr.size hgd)
   case rest=>
    obtain⟨r,g,q,rfl,hcs,hy,hgr,hgl,hgd,hrb,hrp⟩:=hcut;generalize (⟨Y5 ⟨b,o,U⟩,3,y1,a2,l2,y2,a3,l3,y3,a4,l4,y4,a5,l5,y5⟩:Ad)=d9 at hcs;clear k0 k1 k2 k3 k4 k5 ltk c0 Bc HS HRW hb;have HS:=aa hcs;have HY:=aa hy;have HGR:=aa hgr;have HGL:=aa hgl;have HGD:=aa hgd;clear hcs hy hgr hgl hgd;obtain⟨r0,r1,r2,r3,r4,r5,r6,r7⟩:=cs8 HY;have hrl:=ae HY.out;by_cases hp:q.p=0
    ·have hp1:(q.p==0)=Zb:=iJ
     go_wp2_with fail;refine (cS HS.dr.src 4 ag).mono ?_;rintro e w4 ⟨he,hs,hg⟩;obtain⟨bb,rfl⟩:=eI he;replace HGR:=aa (HGR.bR (ch HS.dr.src) (aU hg));replace HGL:=aa (HGL.to (Ye _) (λ_ u=>u.draw hs hg));replace HS:=aa (HS.draw hs hg);replace HY:=aa (gk hg hrp HY.out);clear he hs hg r0 r1 r2 r3 r4 r5 r6 r7 hrl;obtain⟨r0,r1,r2,r3,r4,r5,r6,r7⟩:=cs8 HY;have hrl:=ae HY.out;have Bc:=aa HS.blk;have z400z:=@aa _ @acg;exact zD
    ·have hp1:(q.p==0)=Y_:=iJ
     go_wp2;exact⟨⟨k+1,by omega,by go_num,d9,c,HS.out⟩,by simp[intOf];omega⟩
  ·obtain rfl:3=k:=af
   obtain⟨_,_,_,_,_,kq,mq,sz,hkq,hm0,hm1,hs0,hs1,hblk⟩:=HS.dr.src;have q3:=an hblk 3;clear hblk hkq hm0 hm1;have hpl:=HS.dr.src.uM;go_wp2_with fail;refine (HS.dr.src.n (14+sz) af).mono ?_;rintro e w4 ⟨r,rfl,ra,rb,hs,hg⟩;have HX:Hid (∃d c,CS B w0 p v len w w4 w1.heap.size d c):=⟨d,c,HS.draw hs hg⟩;clear hs hg HS q3 k0 k1 k2 k3 k4 k5 ltk Bc hpl;go_wp2;go_loopw [6] (λi wr=> ∃m:Int,0<=m/\m<=29/\i=Y7 Y6 m/\Hid (∃d c,CS B w0 p v len w wr w1.heap.size d c)) (λi _=>(intOf i).toNat);case atStart=>exact⟨4+r,by omega,by omega,by go_num,HX⟩
   case round=>
    clear HX;obtain⟨m,hm0,hm1,rfl,HX⟩:=hrel;obtain⟨d,c,hs⟩:=HX.out;have HS:=aa hs;clear HX hs;have Bc:=aa HS.blk;obtain⟨k0,k1,k2,k3,k4,k5⟩:=cs6 Bc;have ltk:=ae Bc.out;by_cases hlt:0<m
    ·go_wp2_with fail;refine (HDS.out B w0 p v len wr HS.dr.src d c HS.row).mono ?_;rintro e w9 ⟨g,q,rfl,hgd,hgr,hgl,hd9⟩;have HGR:=aa hgr;have HGL:=aa (hgl.to HS.dr.size (λ_ u=>u));have HGD:=aa hgd;replace HS:=aa (HS.draw hd9.src hd9.gr);replace Bc:=aa HS.blk;clear hgr hgl hgd hd9 k0 k1 k2 k3 k4 k5 ltk;have z400z:=@aa _ @acf;exact zD
    ·obtain rfl:m=0:=af
     go_wp2_with fail;refine (cS HS.dr.src 15 ag).mono ?_;rintro e w5 ⟨he,hs,hg⟩;obtain⟨bb,rfl⟩:=eI he;replace HS:=aa (HS.draw hs hg);clear he hs hg k0 k1 k2 k3 k4 k5 ltk Bc;cases bb
     ·have Bc:=aa HS.blk;have HRS:=aa HS.res;have z346z:=@aa _ @acV;exact zO
     ·have Bc:=aa HS.blk;obtain⟨k0,k1,k2,k3,k4,k5⟩:=cs6 Bc;have ltk:=ae Bc.out;go_wp2_with fail;refine (xJ HS.dr.src (w.heap.size+1) w1.heap.size d c HS.row (HS.low.up HS.row (cN (d:=ad0) HS.res)) HS.blk HS.bp (by have:=HS.dr.src.1;have:=HS.dr.lt;omega) HS.lt (by have:=HS.ns;omega) (by have:=HS.ks;omega)).mono ?_;rintro e w6 ⟨rfl,d6,c6,hsp⟩;have HSP:=aa hsp;have HRS:=aa ((hsp.kept.block _ (ae HS.res) (by have:=HS.dr.lt;omega)).trans HS.res);clear hsp k0 k1 k2 k3 k4 k5 ltk Bc;have Bc:=aa HSP.blk;have z346z:=@aa _ @acU;exact zO
structure ES (B:Nat) (w0:World) (p:Nat) (v:Value) (len:Nat) (r0:Nat) (wx:World) (bc:Nat) (d:Ad) (c:Cl):Prop where
 blk:wx.heap[bc]?=Y5 (Y8 (clv d c.now) 29 (0,0))
 res:wx.heap[r0]?=Y5 (Y8 (clo6 U 0 0 U 0 0 U 0 0 U 0 0 U 0 0 0) 29 (0,0))
 row:aB wx d c.raw
 src:Src B w0 p v len wx
 lt:r0<bc
 bp:¬bc=p
 rp:¬r0=p
 lo:B<=bc
section
variable {B:Nat} {w0:World} {p:Nat} {v:Value} {len:Nat} {r0:Nat} {wx w2:World} {bc:Nat} {d:Ad} {c:Cl}
theorem ot {w':World} (h:Src B w0 p v len w) (hb:Below w.heap.size w w'):Src B w0 p v len w':=h.ay (row:=U) ⟨hb.os,hb.tape,hb.output,hb.size,λk hk _=>hb.block k hk⟩ (by simp) (by simp)
theorem ES.below(h:ES B w0 p v len r0 wx bc d c) (hb:Below wx.heap.size wx w2):ES B w0 p v len r0 w2 bc d c:=
 ⟨(hb.block _ (ae h.blk)).trans h.blk,(hb.block _ (ae h.res)).trans h.res,h.row.below hb,ot h.src hb,h.lt,h.bp,h.rp,h.lo⟩
theorem ES.draw(h:ES B w0 p v len r0 wx bc d c) (hs:Src B w0 p v len w2) (hg:wx.grownBy w2 (Y5 p)):ES B w0 p v len r0 w2 bc d c:=
 ⟨gk hg h.bp h.blk,gk hg h.rp h.res,h.row.bR (ch h.src) (aU hg),hs,h.lt,h.bp,h.rp,h.lo⟩
theorem ES.fin(h:ES B w0 p v len r0 wx bc d c) {w:World} (hw:w.heap.size=r0) (hB:w.heap.size<=B) (hW:Below w.heap.size w w0):aB ((((((wx.setCell ⟨r0,0,U⟩ (J d.a1 d.l1 d.c1)).setCell ⟨r0,1,U⟩ (J d.a2 d.l2 d.c2)).setCell ⟨r0,2,U⟩ (J d.a3 d.l3 d.c3)).setCell ⟨r0,3,U⟩ (J d.a4 d.l4 d.c4)).setCell ⟨r0,4,U⟩ (J d.a5 d.l5 d.c5)).setCell ⟨r0,5,U⟩ (Y7 Y6 c.now)) d c.raw/\Below w.heap.size w ((((((wx.setCell ⟨r0,0,U⟩ (J d.a1 d.l1 d.c1)).setCell ⟨r0,1,U⟩ (J d.a2 d.l2 d.c2)).setCell ⟨r0,2,U⟩ (J d.a3 d.l3 d.c3)).setCell ⟨r0,3,U⟩ (J d.a4 d.l4 d.c4)).setCell ⟨r0,4,U⟩ (J d.a5 d.l5 d.c5)).setCell ⟨r0,5,U⟩ (Y7 Y6 c.now)):=by
 subst hw;have hk9:=(((((aI.refl (λk=>k=w.heap.size) wx).set (i:=0) (v:=J d.a1 d.l1 d.c1) rfl).set (i:=1) (v:=J d.a2 d.l2 d.c2) rfl).set (i:=2) (v:=J d.a3 d.l3 d.c3) rfl).set (i:=3) (v:=J d.a4 d.l4 d.c4) rfl).set (i:=4) (v:=J d.a5 d.l5 d.c5) rfl |>.set (i:=5) (v:=Y7 Y6 c.now) rfl;have hb:=hW.trans (h.src.2.2.1.mono hB);exact⟨h.row.bR (cN (d:=ad0) h.res) hk9,hb.trans (hk9.low hb.size (λk e=>by omega))⟩
end
section
variable {B:Nat} {w0:World} {p:Nat} {v:Value} {len:Nat} {r0 r:Nat} {w9:World} {bc:Nat} {d g:Ad} {c:Cl} {o:Co} {X:Nat}
end
theorem og(v:Value) (len:Nat) (w:World) (hR:ep w.heap.size w v len):
  Calls Tryz.prog 8 #[v] w (λe w'=> ∃(d:Ad) (c:Cl) (t:ByteArray),e=Za (Zg #[Zc #[J d.a1 d.l1 d.c1,J d.a2 d.l2 d.c2,J d.a3 d.l3 d.c3,J d.a4 d.l4 d.c4,J d.a5 d.l5 d.c5,Y7 Y6 c.now],I t])/\aB w' d c.raw/\t.size<=9223372036854775807/\Below w.heap.size w w'):=by
 have z616z:=@aa _ @Xo;exact pS
theorem od(v:Value) (len:Nat) (w:World) (hR:ep w.heap.size w v len):
  Calls Tryz.prog 4 #[v] w (λe w'=> ∃(d:Ad) (c:Cl) (t:ByteArray),e=Za (Zg #[Zc #[J d.a1 d.l1 d.c1,J d.a2 d.l2 d.c2,J d.a3 d.l3 d.c3,J d.a4 d.l4 d.c4,J d.a5 d.l5 d.c5,Y7 Y6 c.now],I t])/\aB w' d c.raw/\t.size<=9223372036854775807/\Below w.heap.size w w'):=by
 have z616z:=@aa _ @Xm;exact pS
theorem oe(v:Value) (len:Nat) (w:World) (hR:ep w.heap.size w v len):
  Calls Tryz.prog 6 #[v] w (λe w'=> ∃(d:Ad) (c:Cl) (t:ByteArray),e=Za (Zg #[Zc #[J d.a1 d.l1 d.c1,J d.a2 d.l2 d.c2,J d.a3 d.l3 d.c3,J d.a4 d.l4 d.c4,J d.a5 d.l5 d.c5,Y7 Y6 c.now],I t])/\aB w' d c.raw/\t.size<=9223372036854775807/\Below w.heap.size w w'):=by
 have z616z:=@aa _ @Xl;exact pS
def vZ0:Vd:=⟨⟨#[]⟩,0,⟨#[]⟩,⟨#[]⟩,Y_,⟨#[]⟩,Y_,[]⟩
structure Vo where
 u:Vd
 p:Int
def pt(c:Cl) (t:ByteArray) (o:Vo):Prop:=
 (∃i,AskWhy c t i/\o=⟨vZ0,bB i⟩)\/(¬8000<t.size/\aq c/\BK c t/\(∀v,¬aO c t v)/\o=⟨vZ0,11⟩)\/(¬8000<t.size/\aq c/\aO c t o.u/\o.p=0)
def ang(c:Cl) (t:ByteArray) (w:World) (e:Ending) (w':World):Prop:=∃va vl vc o,e=Za (Zc #[I o.u.n,Y7 Y6 o.u.c,I o.u.z,I o.u.k,Y9 o.u.x,I o.u.m,Y9 o.u.y,J va vl vc,Y7 Y6 o.p])/\pt c t o/\bS w' va vl vc o.u.zs (λk=>w.heap.size<=k)/\Below w.heap.size w w'
theorem vz(w:World) (S:Nat->Prop):bS w U 0 0 vZ0.zs S:=⟨⟨rfl,Ye _,by omega,λj x hx=>by simp[vZ0] at hx,Ze rfl⟩,Ze rfl⟩
theorem wW {zs:List ByteArray} {x:Bool} (h:dX zs (if x=Zb then 1 else 6)):zs.length<=6:=by
 have:=(dy h).1;omega
theorem aq.few(h:aq c) {j:Nat} {v:Vd} (hj:c.vs[j]?=Y5 v):v.zs.length<=6:=wW (h.2.1.2.2.1.2.1 j v hj).2.2.2.2.2.2
theorem alm {b:Nat} {v0 v1 v2 v3 v4 v5 v6 v7 v8:Value} (hk:¬k=b):(((((((((w.setCell ⟨b,0,U⟩ v0).setCell ⟨b,1,U⟩ v1).setCell ⟨b,2,U⟩ v2).setCell ⟨b,3,U⟩ v3).setCell ⟨b,4,U⟩ v4).setCell ⟨b,5,U⟩ v5).setCell ⟨b,6,U⟩ v6).setCell ⟨b,7,U⟩ v7).setCell ⟨b,8,U⟩ v8).heap[k]?=w.heap[k]?:=by
 rw[Ya _ _ _ _ hk,Ya _ _ _ _ hk,Ya _ _ _ _ hk,Ya _ _ _ _ hk,Ya _ _ _ _ hk,Ya _ _ _ _ hk,Ya _ _ _ _ hk,Ya _ _ _ _ hk,Ya _ _ _ _ hk]
theorem B1(d:Ad) (c:Cl) (t:ByteArray) (w:World) (hr:aB w d c.raw):
  Calls Tryz.prog 14 #[Zc #[J d.a1 d.l1 d.c1,J d.a2 d.l2 d.c2,J d.a3 d.l3 d.c3,J d.a4 d.l4 d.c4,J d.a5 d.l5 d.c5,Y7 Y6 c.now],I t] w (ang c t w):=by
 have z145z:=@aa _ @aft;exact fe
section
variable {α:Type} {nm:α->ByteArray} {t:ByteArray} {xs:List α} {y:α}
theorem oi(h:(wo nm t xs)[j]?=Y5 y):(∃i:Nat,xs[i]?=Y5 y)/\¬nm y=t:=by
 have hm:=List.mem_filter.1 (Ys h);refine⟨YD hm.1,λe=>?_⟩;have h2:=hm.2;rw[aP e] at h2;cases h2
theorem iR(h:xs[i]?=Y5 y) (hn:¬nm y=t):∃j:Nat,(wo nm t xs)[j]?=Y5 y:=
 YD (List.mem_filter.2 ⟨Ys h,by rw[bu hn];rfl⟩)
theorem xZ(h:aF nm xs):aF nm (wo nm t xs):=by
 have hp:xs.Pairwise (λx y=>Yk (nm x).toList (nm y).toList=Zb):=List.pairwise_iff_getElem.2 λi j hi hj hij=>h.lt hij (Yi hi) (Yi hj);have hq:=hp.filter (λx=> !((nm x).toList==t.toList));intro j x y hx hy;obtain⟨h1,rfl⟩:=Yc.1 hx;obtain⟨h2,rfl⟩:=Yc.1 hy;exact List.pairwise_iff_getElem.1 hq j (j+1) h2 h1 af
theorem dI.wo {ok:α->Prop} {m:Int} (h:dI ok nm xs m):dI ok nm (wo nm t xs) m:=
 ⟨by have h1:=rk nm t xs;have h2:=h.1;omega,λj x hx=>by obtain⟨⟨i,hi⟩,_⟩:=oi hx;exact h.2.1 i x hi,xZ h.2.2⟩
theorem akT(hr:aF nm xs) {s:ByteArray} (h:hit nm xs s=Zb) (hn:¬s=t):hit nm (wo nm t xs) s=Zb:=by
 obtain⟨x,h1,h2⟩:=cf h;obtain⟨j,hj⟩:=iR h1 (show¬nm x=t by rw[h2];exact hn);exact (bo (xZ hr) hj h2).2
end
theorem Cd {xs:List α} {x:α} (h:aF nm xs) (hx:xs[k]?=Y5 x) (e:nm y=nm x):aF nm (xs.set k y):=by
 have key:∀{j:Nat} {z:α},(xs.set k y)[j]?=Y5 z->∃z',xs[j]?=Y5 z'/\nm z=nm z':=fun {j z} hj=>by
  by_cases q:k=j
  ·subst q;rw[Y2 (Yc.1 hx).1] at hj;obtain rfl:=Yd hj;exact⟨x,hx,e⟩
  ·rw[Y0 q] at hj;exact⟨z,hj,rfl⟩
 intro j a b ha hb;obtain⟨a',h1,h2⟩:=key ha;obtain⟨b',h3,h4⟩:=key hb;rw[h2,h4];exact h j a' b' h1 h3
theorem vm(s t:ByteArray):∀ps:List Pd,(∀(j:Nat) p,ps[j]?=Y5 p->0<=p.c)->cpuOf s (wo Pd.n t ps)<=cpuOf s ps
 | [],_=>Int.le_refl _
 | p ::ps,h=>by
  have ih:=vm s t ps λj q hq=>h (j+1) q hq;have h0:=h 0 p rfl;unfold wo at ih ⊢;rw[List.filter_cons];split <;> simp only[cpuOf] <;> split <;> omega
theorem qD(s t:ByteArray):∀vs:List Vd,onOf s (wo Vd.n t vs)<=onOf s vs
 | []=>Int.le_refl _
 | v ::vs=>by
  have ih:=qD s t vs;unfold wo at ih ⊢;rw[List.filter_cons];split <;> simp only[onOf] <;> split <;> omega
theorem vh(t:ByteArray) (h:aq c):aq (lg c t):=by
 obtain⟨h1,⟨r1,r2,r3,r4,r5⟩,h3,⟨p1,p2,p3⟩,h5,⟨m1,m2⟩⟩:=h;have hin:∀{j:Nat} {z:Pd},(lg c t).ps[j]?=Y5 z->∃i:Nat,c.ps[i]?=Y5 z:=λhj=>(oi (nm:=Pd.n) hj).1;refine⟨h1,⟨r1,r2,r3,r4,r5.wo⟩,h3,⟨λj z hj=>?_,λj n hj=>?_,λj v hj hx hm i k p q hp hq=>?_⟩,h5,⟨m1,λj z hj=>?_⟩⟩
 ·obtain⟨i,hi⟩:=hin hj;exact p1 i z hi
 ·exact Int.le_trans (vm n.n t c.ps λj p hp=>(r5.2.1 j p hp).2.1.1) (p2 j n hj)
 ·obtain⟨i',hi⟩:=hin hp;obtain⟨k',hk⟩:=hin hq;exact p3 j v hj hx hm i' k' p q hi hk
 ·obtain⟨i,hi⟩:=hin hj;exact m2 i z hi
theorem vg(h:aq c) (hok:∀(j:Nat) (v:Vd),c.vs[j]?=Y5 v->v.n=t->¬AK c v):aq (iO c t):=by
 have hT:=h;obtain⟨h1,⟨r1,r2,r3,r4,r5⟩,⟨b1,b2⟩,⟨p1,p2,p3⟩,⟨a1,a2⟩,⟨m1,m2⟩⟩:=h;have hin:∀{j:Nat} {z:Vd},(iO c t).vs[j]?=Y5 z->(∃i:Nat,c.vs[i]?=Y5 z)/\¬z.n=t:=λhj=>oi (nm:=Vd.n) hj;have hbd:∀{s:ByteArray} {v:Vd},aO c s v->aO (iO c t) s v:=fun {s v} hb=>by
  have hm:=hb.back hT;obtain⟨i,j,x,e1,e2,e3,e4⟩:=hb;obtain⟨k,hk⟩:=iR (nm:=Vd.n) (t:=t) e3 (λe=>hok j v e3 e (Ze (λe5=>by
   have h9:=(r4.2.1 i x e1).1;rw[e2,<-hm,e5] at h9
   exact aL.ne h9 rfl)))
  exact⟨i,k,x,e1,e2,hk,e4⟩
 have hbo:∀{s u:ByteArray},aL s->kg c s u->kg (iO c t) s u:=fun {s u} hs hb=>by
  obtain⟨i,j,x,v,e1,e2,e3,e4,e5,e6,e7⟩:=hb;obtain⟨k,hk⟩:=iR (nm:=Vd.n) (t:=t) e3 (λe=>hok j v e3 e (Ze (λe9=>by rw[<-e6,e9] at hs;exact aL.ne hs rfl)));exact⟨i,k,x,v,e1,e2,hk,e4,e5,e6,e7⟩
 refine⟨h1,⟨r1,r2,r3.wo,r4,r5⟩,⟨λj v hj=>?_,λj x hj=>?_⟩,⟨λj z hj=>?_,p2,λj v hj=>?_⟩,⟨λj v hj=>?_,λj n hj=>?_⟩,⟨λj n hj k s hk=>?_,λj z hj h2=>?_⟩⟩
 ·obtain⟨⟨i,hi⟩,_⟩:=hin hj;obtain⟨q1,q2⟩:=b1 i v hi;refine⟨q1,q2.elim Ze λq=>Zd ?_⟩;obtain⟨i2,j2,x,v2,e1,e2,e3,e4,e5,e6,e7⟩:=q;exact hbo (e2 ▸ (r4.2.1 i2 x e1).1) ⟨i2,j2,x,v2,e1,e2,e3,e4,e5,e6,e7⟩
 ·obtain⟨q1,q2⟩:=b2 j x hj;exact⟨q1,q2.elim Ze λq=>Zd (hbo (r4.2.1 j x hj).1 q)⟩
 ·obtain⟨q1,q2⟩:=p1 j z hj;refine⟨q1,q2.elim Ze λ⟨i,n,e1,e2,e3,e4⟩=>Zd ⟨i,n,e1,e2,e3,λj s hs=>?_⟩⟩;obtain⟨v,hb,hz⟩:=e4 j s hs;exact⟨v,hbd hb,hz⟩
 ·obtain⟨⟨i,hi⟩,_⟩:=hin hj;exact p3 i v hi
 ·obtain⟨⟨i,hi⟩,_⟩:=hin hj;exact a1 i v hi
 ·exact Int.le_trans (qD n.n t c.vs) (a2 j n hj)
 ·obtain⟨i,v,e1,e2,e3⟩:=m1 j n hj k s hk;obtain⟨i2,h9⟩:=iR (nm:=Vd.n) (t:=t) e1 (λe=>hok i v e1 e (Zd (Zd ⟨j,n,hj,k,by rw[e2];exact hk⟩)));exact⟨i2,v,h9,e2,e3⟩
 ·obtain⟨i,n,e1,e2,e3,e4⟩:=m2 j z hj h2;refine⟨i,n,e1,e2,e3,λj s hs=>?_⟩;obtain⟨v,hb,hz⟩:=e4 j s hs;exact⟨v,hbd hb,hz⟩
theorem ve {St:Nat->Prop} (h:DwWhy c t St i) (hs:∀j,St j->¬bB j=0):¬bB i=0:=by
 rcases i with _|_|i
 ·decide
 ·decide
 ·exact hs _ h.2.2
theorem qP(hT:aq c) (ht:aL t) {i:Nat} {v:Vd} (hv:c.vs[i]?=Y5 v) (e:v.m=t):aO c t v:=by
 rcases (hT.2.2.1.1 i v hv).2 with e1|⟨i2,j2,x,v2,e1,e2,e3,e4,e5,e6,-⟩
 ·rw[e] at e1;exact (aL.ne ht e1).elim
 ·exact⟨i2,i,x,e1,e2.trans e,hv,e5.symm⟩
theorem nP(hT:aq c) (ht:aL t) (h:de c t vs) {j:Nat} {z:Vd} (hj:vs[j]?=Y5 z):
  ∃(i:Nat) (v:Vd),c.vs[i]?=Y5 v/\((z=v/\¬v.m=t)\/z=gF v):=by
 have hr:=hT.2.1.2.2.1.2.2;rcases h with ⟨j0,v0,h0,hb,⟨-,rfl⟩|⟨-,rfl⟩⟩|⟨hn,rfl⟩
 ·by_cases e:j0=j
  ·subst e;rw[Y2 (Yc.1 h0).1] at hj;exact⟨j0,v0,h0,Zd (Yd hj).symm⟩
  ·rw[Y0 e] at hj;exact⟨j,z,hj,Ze ⟨rfl,λe2=>e (hr.inj h0 hj (congrArg Vd.n (aO.inj hT.2.1.2.2.2.1.2.2 hr hb (qP hT ht hj e2)))).1⟩⟩
 ·obtain⟨⟨i,hi⟩,hn⟩:=oi (nm:=Vd.n) hj;exact⟨i,z,hi,Ze ⟨rfl,λe2=>hn (congrArg Vd.n (aO.inj hT.2.1.2.2.2.1.2.2 hr (qP hT ht hi e2) hb))⟩⟩
 ·exact⟨j,z,hj,Ze ⟨rfl,λe2=>hn z (qP hT ht hj e2)⟩⟩
theorem kP(hT:aq c) (h:de c t vs) {i:Nat} {v:Vd} (hi:c.vs[i]?=Y5 v) (hm:¬v.m=t):∃j:Nat,vs[j]?=Y5 v:=by
 have hr:=hT.2.1.2.2.1.2.2;rcases h with ⟨j0,v0,h0,hb,⟨-,rfl⟩|⟨-,rfl⟩⟩|⟨hn,rfl⟩
 ·refine⟨i,?_⟩;rw[Y0 (λe=>hm (by subst e;rw[h0] at hi;obtain rfl:=Yd hi;exact hb.back hT))];exact hi
 ·exact iR (nm:=Vd.n) hi (λe=>hm (by obtain⟨-,rfl⟩:=hr.inj hi h0 e;exact hb.back hT))
 ·exact⟨i,hi⟩
theorem xI(hT:aq c) (ht:aL t) (h:de c t vs) (hb:¬∃v,aO c t v/\nX c v) {i:Nat} {v:Vd} (hi:c.vs[i]?=Y5 v) (hv:nX c v):∃(j:Nat) (z:Vd),vs[j]?=Y5 z/\z.n=v.n/\z.zs=v.zs:=by
 by_cases hm:v.m=t
 ·have h1:=qP hT ht hi hm;exact (hb ⟨v,h1,hv⟩).elim
 ·obtain⟨j,hj⟩:=kP hT h hi hm;exact⟨j,v,hj,rfl,rfl⟩
theorem vf(h:aq c) (hok:h_ c t) (hd:de c t vs):aq (fJ c t vs):=by
 have hT:=h;obtain⟨x0,hx0,hn0⟩:=cf hok.1;have ht:aL t:=hn0 ▸ (h.2.1.2.2.2.1.2.1 _ x0 hx0).1;obtain⟨h1,⟨r1,r2,r3,r4,r5⟩,⟨b1,b2⟩,⟨p1,p2,p3⟩,⟨a1,a2⟩,⟨m1,m2⟩⟩:=h;have hbd:∀{s:ByteArray} {v:Vd},¬s=t->aO c s v->aO (fJ c t vs) s v:=fun {s v} hs hb=>by
  have hm:=hb.back hT;obtain⟨i,j,x,e1,e2,e3,e4⟩:=hb;obtain⟨k,hk⟩:=kP hT hd e3 (by rw[hm];exact hs);obtain⟨i2,hi2⟩:=iR (nm:=Xd.n) (t:=t) e1 (by rw[e2];exact hs);exact⟨i2,k,x,hi2,e2,hk,e4⟩
 have hbo:∀{s u:ByteArray},¬s=t->kg c s u->kg (fJ c t vs) s u:=fun {s u} hs hb=>by
  obtain⟨i,j,x,v,e1,e2,e3,e4,e5,e6,e7⟩:=hb;obtain⟨k,hk⟩:=kP hT hd e3 (by rw[e6];exact hs);obtain⟨i2,hi2⟩:=iR (nm:=Xd.n) (t:=t) e1 (by rw[e2];exact hs);exact⟨i2,k,x,v,hi2,e2,hk,e4,e5,e6,e7⟩
 have hpt:∀{j:Nat} {z:Pd},c.ps[j]?=Y5 z->∀(k:Nat) s,z.zs[k]?=Y5 s->¬s=t:=λhj k s hk e=>hok.2 (Zd ⟨_,_,hj,k,by rw[hk,e]⟩);have hrow:dI pA Vd.n vs 8:=by
  rcases hd with ⟨j0,v0,h0,hb,⟨-,rfl⟩|⟨-,rfl⟩⟩|⟨hn,rfl⟩
  ·refine⟨by rw[List.length_set];exact r3.1,λj x hx=>?_,Cd r3.2.2 h0 rfl⟩;by_cases e:j0=j
   ·subst e;rw[Y2 (Yc.1 h0).1] at hx;obtain rfl:=Yd hx;obtain⟨q1,q2,q3,q4,q5,q6,q7⟩:=r3.2.1 _ _ h0;exact⟨q1,q2,q3,q4,Ze rfl,λ_=>rfl,q7⟩
   ·rw[Y0 e] at hx;exact r3.2.1 j x hx
  ·exact r3.wo
  ·exact r3
 refine⟨h1,⟨r1,r2,hrow,r4.wo,r5⟩,⟨λj z hj=>?_,λj x hj=>?_⟩,⟨λj z hj=>?_,p2,λj z hj hx hm=>?_⟩,⟨λj z hj=>?_,λj n hj=>?_⟩,⟨λj n hj k s hk=>?_,λj z hj h2=>?_⟩⟩
 ·obtain⟨i,v,hi,⟨rfl,hm⟩|rfl⟩:=nP hT ht hd hj
  ·obtain⟨q1,q2⟩:=b1 i z hi;exact⟨q1,q2.elim Ze λq=>Zd (hbo hm q)⟩
  ·exact⟨(b1 i v hi).1,Ze rfl⟩
 ·obtain⟨⟨i,hi⟩,hn⟩:=oi (nm:=Xd.n) hj;obtain⟨q1,q2⟩:=b2 i x hi;exact⟨q1,q2.elim Ze λq=>Zd (hbo hn q)⟩
 ·obtain⟨q1,q2⟩:=p1 j z hj;refine⟨λk s hk=>akT r4.2.2 (q1 k s hk) (hpt hj k s hk),q2.elim Ze λ⟨i,n,e1,e2,e3,e4⟩=>Zd ⟨i,n,e1,e2,e3,λk s hs=>?_⟩⟩;obtain⟨v,hb,hz⟩:=e4 k s hs;exact⟨v,hbd (hpt hj k s hs) hb,hz⟩
 ·obtain⟨i,v,hi,⟨rfl,-⟩|rfl⟩:=nP hT ht hd hj
  ·exact p3 i z hi hx hm
  ·exact (hm rfl).elim
 ·obtain⟨i,v,hi,⟨rfl,-⟩|rfl⟩:=nP hT ht hd hj
  ·exact a1 i z hi
  ·exact a1 i v hi
 ·refine Int.le_trans ?_ (a2 j n hj);show onOf n.n vs<=onOf n.n c.vs;rcases hd with ⟨j0,v0,h0,hb,⟨-,rfl⟩|⟨-,rfl⟩⟩|⟨hn,rfl⟩
  ·rw[nC n.n c.vs j0 v0 (gF v0) h0 rfl];exact Int.le_refl _
  ·exact qD _ _ _
  ·exact Int.le_refl _
 ·obtain⟨i,v,e1,e2,e3⟩:=m1 j n hj k s hk;obtain⟨i2,z,h9,hz1,hz2⟩:=xI hT ht hd (λh=>hok.2 (Ze h)) e1 (Zd ⟨j,n,hj,k,by rw[e2];exact hk⟩);exact⟨i2,z,h9,hz1.trans e2,by rw[hz2];exact e3⟩
 ·obtain⟨i,n,e1,e2,e3,e4⟩:=m2 j z hj h2;refine⟨i,n,e1,e2,e3,λk s hs=>?_⟩;obtain⟨v,hb,hz⟩:=e4 k s hs;exact⟨v,hbd (hpt hj k s hs) hb,hz⟩
theorem bl.right(h:bl c t o) (h0:o.p=0):aq o.c:=by
 rcases h with ⟨i,a,rfl⟩|⟨_,hr,_,rfl⟩
 ·exact (ve a (λj b=>b.1 ▸ by decide) h0).elim
 ·exact vh t hr
theorem aZ.right(h:aZ c t o) (h0:o.p=0):aq o.c:=by
 rcases h with ⟨i,a,rfl⟩|⟨_,hr,hok,rfl⟩
 ·exact qy
 ·exact vg hr hok.2
theorem a_.right(h:a_ c t o) (h0:o.p=0):aq o.c:=by
 rcases h with ⟨i,a,rfl⟩|⟨_,hr,hok,vs,hd,rfl⟩
 ·exact qy
 ·exact vf hr hok hd
theorem aZ.law(h:aZ c t o) (h0:o.p=0) (j:Nat) (v:Vd) (hj:c.vs[j]?=Y5 v) (hn:v.n=t):v.m=⟨#[]⟩/\v.zs=[]:=by
 rcases h with ⟨i,a,rfl⟩|⟨_,_,hok,rfl⟩
 ·exact qy
 ·have h1:=hok.2 j v hj hn;exact⟨YH λe=>h1 (Ze e),YH λe=>h1 (Zd (Ze e))⟩
theorem a_.law(h:a_ c t o) (h0:o.p=0):(∀(j:Nat) (p:Pd) (k:Nat),c.ps[j]?=Y5 p->¬p.zs[k]?=Y5 t)/\∀(u:Vo),pt c t u->u.p=0->∀(j:Nat) (z:Vd),o.c.vs[j]?=Y5 z->z.n=u.u.n->z.m=⟨#[]⟩/\z.y=Zb:=by
 rcases h with ⟨i,a,rfl⟩|⟨_,hT,hok,vs,hd,rfl⟩
 ·exact qy
 ·refine⟨λj p k hj hk=>hok.2 (Zd ⟨j,p,hj,k,hk⟩),λu hu hu0 j z hj hz=>?_⟩;have hb:aO c t u.u:=by
   rcases hu with ⟨i,a,rfl⟩|⟨_,_,_,_,rfl⟩|⟨_,_,hb,_⟩
   ·exfalso;revert hu0;rcases i with _|_|_|i
    ·decide
    ·decide
    ·decide
    ·exact a.elim
   ·cases hu0
   ·exact hb
  have hr:=hT.2.1.2.2.1.2.2;have hx:=hT.2.1.2.2.2.1.2.2;rcases hd with ⟨j0,v0,h9,hb0,⟨-,rfl⟩|⟨-,rfl⟩⟩|⟨hn,rfl⟩
  ·obtain rfl:=aO.inj hx hr hb hb0;by_cases e:j0=j
   ·subst e;rw[show (fJ c t (c.vs.set j0 (gF u.u))).vs[j0]?=(c.vs.set j0 (gF u.u))[j0]? from rfl,Y2 (Yc.1 h9).1] at hj;obtain rfl:=Yd hj;exact⟨rfl,rfl⟩
   ·rw[show (fJ c t (c.vs.set j0 (gF u.u))).vs[j]?=(c.vs.set j0 (gF u.u))[j]? from rfl,Y0 e] at hj;exact (e (hr.inj h9 hj hz.symm).1).elim
  ·obtain rfl:=aO.inj hx hr hb hb0;exact ((oi (nm:=Vd.n) hj).2 hz).elim
  ·exact (hn _ hb).elim
end Rc
theorem k_(a a':Option Addr) (len len' cap cap':Nat) (zs:List ByteArray) (w:World) (hr:az w a len cap zs) (hr':az w a' len' cap' zs):
  Calls Tryz.prog 106 #[J a len cap,J a' len' cap'] w λe w'=>e=Za (Y9 Zb)/\Below w.heap.size w w':=by
 obtain rfl:len=len':=hr.1.symm.trans hr'.1;have HR:Hid (az w a len cap zs):=hr;have HR':Hid (az w a' len cap' zs):=hr';have hlc:len<=9223372036854775807:=Yp hr.2.1 hr.2.2.1;clear hr hr';go_enter Tryz.func106,Tryz.ntmps106;go_wp2;go_loopw [5] (λi wr=> ∃k:Nat,k<=len/\i=Y7 Y6 k/\Hid (Below w.heap.size w wr)) (λi _=>len - (intOf i).toNat);case atStart=>exact⟨0,by omega,rfl,Yh _ _⟩
 case round=>
  obtain⟨k,hk,rfl,HB⟩:=hrel;by_cases hlt:k<len
  ·obtain⟨b,o,x,rfl,hb,hx,hc,hsz⟩:=(HR.below HB.out).at hlt;obtain⟨b',o',x',rfl,hb',hx',hc',hsz'⟩:=(HR'.below HB.out).at hlt;obtain rfl:x=x':=Yd (hx.symm.trans hx');go_wp2;go_quiet (fail);go_wp2;exact⟨⟨k+1,by omega,by go_num,below_drewN HB.out _⟩,by simp[intOf];omega⟩
  ·obtain rfl:k=len:=af
   go_wp2;go_ret;exact⟨rfl,HB.out⟩
theorem qE(n:ByteArray) (c:Int) (z:ByteArray) (k:ByteArray) (x:Bool) (m:ByteArray) (y:Bool) (a:Option Addr) (len cap:Nat) (zs:List ByteArray) (a':Option Addr) (len' cap':Nat) (w:World) (hr:az w a len cap zs) (hr':az w a' len' cap' zs):
  Calls Tryz.prog 65 #[Zc #[I n,Y7 Y6 c,I z,I k,Y9 x,I m,Y9 y,J a len cap],Zc #[I n,Y7 Y6 c,I z,I k,Y9 x,I m,Y9 y,J a' len' cap']] w λe w'=>e=Za (Y9 Zb)/\Below w.heap.size w w':=by
 have HR:Hid (az w a len cap zs):=hr;have HR':Hid (az w a' len' cap' zs):=hr';clear hr hr';go_enter Tryz.func65,Tryz.ntmps65;exact QI
theorem Obl.guarded {P:Program} {ops:Array Oper} {Q:Exit->Act->World->Prop} {W:World} {a0:Act} {known:List (Tmp×Fact)} {o:Oper} {φ:Fact} {b:Bool} {t:Tmp} (hg:o.guard=Y5 (i,b)) (hd:(ops[i]?).bind (·.dst)=Y5 t)
  (ht:∀(a:Act) (w:World),aj a0 known a w t->a.tmps.getD t undef=Y9 b)
  (h:∀(a:Act) (w:World) (K:Act->World->Prop),a.tmps.size=a0.tmps.size->Below W.heap.size W w->(∀t∈jV o,aj a0 known a w t)->(∀v w',Below w.heap.size w w'->φ v w'->K (a.put o.dst v) w')->o.wp P a w K Q):Obl P ops Q W a0 known o φ:=by
 intro a w K h1 h2 h3 h4;have ha:=ht a w (h3 t (by unfold Oper.looksAt;rw[hg];refine List.mem_append_right _ ?_;simp only[hd];simp));have hw:YP o (yielded ops a.tmps)=Zb:=by
  unfold YP;rw[hg];simp only[yielded,hd,Option.bind_some];have:a.tmps[t]?=Y5 (Y9 b):=by
   rw[Yr] at ha;cases hx:a.tmps[t]? with
   | none=>rw[hx] at ha;cases ha
   | some v=>rw[hx] at ha;exact congrArg Y5 ha
  rw[this];simp
 exact PF
namespace Rc
theorem xe(n z:ByteArray) (c s u:Int) (x:Bool) (a:Option Addr) (len cap:Nat) (zs:List ByteArray) (a':Option Addr) (len' cap':Nat) (w:World) (hr:az w a len cap zs) (hr':az w a' len' cap' zs):
  Calls Tryz.prog 64 #[Zc #[I n,I z,Y7 Y6 c,Y7 Y6 s,Y7 Y6 u,Y9 x,J a len cap],Zc #[I n,I z,Y7 Y6 c,Y7 Y6 s,Y7 Y6 u,Y9 x,J a' len' cap']] w λe w'=>e=Za (Y9 Zb)/\Below w.heap.size w w':=by
 have HR:Hid (az w a len cap zs):=hr;have HR':Hid (az w a' len' cap' zs):=hr';clear hr hr';go_enter Tryz.func64,Tryz.ntmps64;exact QI
theorem xb(n:ByteArray) (c:Int) (z d:ByteArray) (p:Int) (a:Option Addr) (len cap:Nat) (zs:List ByteArray) (a':Option Addr) (len' cap':Nat) (w:World) (hr:az w a len cap zs) (hr':az w a' len' cap' zs):
  Calls Tryz.prog 66 #[Zc #[I n,Y7 Y6 c,I z,J a len cap,I d,Y7 Y6 p],Zc #[I n,Y7 Y6 c,I z,J a' len' cap',I d,Y7 Y6 p]] w λe w'=>e=Za (Y9 Zb)/\Below w.heap.size w w':=by
 have HR:Hid (az w a len cap zs):=hr;have HR':Hid (az w a' len' cap' zs):=hr';clear hr hr';go_enter Tryz.func66,Tryz.ntmps66;have HW:Hid (Below w.heap.size w ((w.alloc (Y8 #[I n,Y7 Y6 c,I z,J a len cap,I d,Y7 Y6 p] 40)).alloc (Y8 #[I n,Y7 Y6 c,I z,J a' len' cap',I d,Y7 Y6 p] 40))):=aS _ _ _;go_wp2_with fail;refine (k_ a a' len len' cap cap' zs _ (HR.below (aS _ _ _)) (HR'.below (aS _ _ _))).mono ?_;rintro e w1 ⟨rfl,hb⟩;obtain⟨HA0,HA1,hbx⟩:=dP hb;obtain⟨k0,k1,k2,k3,k4,k5⟩:=cs6 HA0;obtain⟨m0,m1,m2,m3,m4,m5⟩:=cs6 HA1;have l0:=ae HA0;have l1:=ae HA1;have z1111z:=@aa _ @Mg;exact fB
theorem amv(n:ByteArray) (x:Bool) (y:Bool) (z:ByteArray) (w:World):(Op.equalIn 10000 74 (Zc #[I n,Y9 x,Y9 y,I z]) (Zc #[I n,Y9 x,Y9 y,I z])).run Tryz.prog w=.ok Zb w:=by
 have u3:=Tryz.underlying9;have u5:=Tryz.underlying4;have hS:Tryz.prog.underlying 74=Y5 (.struct (Tryz.prog.fieldsOf 74)):=bf
 have hp:Tryz.prog.stoodInHeld 74=Y_:=bf
 rw[show (10000:Nat)=9999+1 from rfl,run_equalIn_agg w 9999 74 _ _ hS hp];simp only[Program.fieldsOf,Tryz.underlying74];go_simp
theorem amu(n:ByteArray) (z:Int) (k:ByteArray) (x:Bool) (v:ByteArray) (w:World):(Op.equalIn 10000 50 (Zc #[I n,Y7 Y6 z,I k,Y9 x,I v]) (Zc #[I n,Y7 Y6 z,I k,Y9 x,I v])).run Tryz.prog w=.ok Zb w:=by
 have u3:=Tryz.underlying9;have u4:=Tryz.underlying2;have u5:=Tryz.underlying4;have hS:Tryz.prog.underlying 50=Y5 (.struct (Tryz.prog.fieldsOf 50)):=bf
 have hp:Tryz.prog.stoodInHeld 50=Y_:=bf
 rw[show (10000:Nat)=9999+1 from rfl,run_equalIn_agg w 9999 50 _ _ hS hp];simp only[Program.fieldsOf,Tryz.underlying50];go_simp
structure LwS (w:World) (d d':Ad) (c:Cl) (wr:World):Prop where
 hb:Below w.heap.size w wr
 g0:wr.heap[w.heap.size]?=Y5 (Y8 (clv d c.now) 29 (0,0))
 g1:wr.heap[w.heap.size+1]?=Y5 (Y8 (clv d' c.now) 29 (0,0))
 r:aB wr d c.raw
 r':aB wr d' c.raw
theorem LwS.below {w2:World} {d':Ad} (h:LwS w d d' c wr) (hb:Below wr.heap.size wr w2):LwS w d d' c w2:=
 ⟨h.hb.trans (hb.mono h.hb.size),(hb.block _ (ae h.g0)).trans h.g0,(hb.block _ (ae h.g1)).trans h.g1,h.r.below hb,h.r'.below hb⟩
theorem n8(d d':Ad) (c:Cl) (w:World) (hr:aB w d c.raw) (hr':aB w d' c.raw):
  Calls Tryz.prog 29 #[Zc #[J d.a1 d.l1 d.c1,J d.a2 d.l2 d.c2,J d.a3 d.l3 d.c3,J d.a4 d.l4 d.c4,J d.a5 d.l5 d.c5,Y7 Y6 c.now],Zc #[J d'.a1 d'.l1 d'.c1,J d'.a2 d'.l2 d'.c2,J d'.a3 d'.l3 d'.c3,J d'.a4 d'.l4 d'.c4,J d'.a5 d'.l5 d'.c5,Y7 Y6 c.now]] w λe w'=>e=Za (Y9 Zb)/\Below w.heap.size w w':=by
 obtain⟨a1,l1,y1,a2,l2,y2,a3,l3,y3,a4,l4,y4,a5,l5,y5⟩:=d;obtain⟨p1,q1,z1,p2,q2,z2,p3,q3,z3,p4,q4,z4,p5,q5,z5⟩:=d';obtain rfl:l1=q1:=hr.n.1.symm.trans hr'.n.1;obtain rfl:l2=q2:=hr.k.1.symm.trans hr'.k.1;obtain rfl:l3=q3:=hr.v.1.symm.trans hr'.v.1;obtain rfl:l4=q4:=hr.x.1.symm.trans hr'.x.1;obtain rfl:l5=q5:=hr.p.1.symm.trans hr'.p.1;have hl1:l1<=9223372036854775807:=Yp hr.n.2.1 hr.n.2.2.1;have hl2:l2<=9223372036854775807:=Yp hr.k.2.1 hr.k.2.2.1;have hl3:l3<=9223372036854775807:=Yp hr.v.2.1 hr.v.2.2.1;have hl4:l4<=9223372036854775807:=Yp hr.x.2.1 hr.x.2.2.1;have hl5:l5<=9223372036854775807:=Yp hr.p.2.1 hr.p.2.2.1;have HS:Hid (LwS w ⟨a1,l1,y1,a2,l2,y2,a3,l3,y3,a4,l4,y4,a5,l5,y5⟩ ⟨p1,l1,z1,p2,l2,z2,p3,l3,z3,p4,l4,z4,p5,l5,z5⟩ c _):=⟨aS w (Y8 (clo6 a1 l1 y1 a2 l2 y2 a3 l3 y3 a4 l4 y4 a5 l5 y5 c.now) 29) (Y8 (clo6 p1 l1 z1 p2 l2 z2 p3 l3 z3 p4 l4 z4 p5 l5 z5 c.now) 29),eG _ _ _,eF _ _ _,hr.below (aS _ _ _),hr'.below (aS _ _ _)⟩;clear hr hr';dsimp only;go_enter Tryz.func29,Tryz.ntmps29;go_wp2;go_loopw [5] (λi wr=> ∃k:Nat,k<=l1/\i=Y7 Y6 k/\Hid (LwS w ⟨a1,l1,y1,a2,l2,y2,a3,l3,y3,a4,l4,y4,a5,l5,y5⟩ ⟨p1,l1,z1,p2,l2,z2,p3,l3,z3,p4,l4,z4,p5,l5,z5⟩ c wr)) (λi _=>l1 - (intOf i).toNat);case atStart=>exact⟨0,by omega,rfl,HS.out⟩
 case round=>
  obtain⟨k,hk,rfl,HS⟩:=hrel;have s0:=an HS.g0 0;have s1:=an HS.g1 0;have hv0:=ae HS.g0;have hv1:=ae HS.g1;by_cases hlt:k<l1
  ·obtain⟨b,o,v,rfl,hb,hv,hat⟩:=dh (HS.r.n) hlt;obtain⟨b',o',v',rfl,hb',hv',hat'⟩:=dh (HS.r'.n) hlt;rw[hv] at hv';obtain rfl:=Yd hv';clear hv hv';obtain⟨va,vl,vc,hvr,-,-,c0,c1,c2,c3,c4,c5,c6⟩:=bg hat;obtain⟨va',vl',vc',hvr',-,-,d0,d1,d2,d3,d4,d5,d6⟩:=bg hat';clear hat hat';have hne:=Wd.ne wr;have g0:=λq:Wd wr=>q.slot (o:=0) HS.g0 rfl;have g1:=λq:Wd wr=>q.slot (o:=0) HS.g1 rfl;have HT:=aa hvr;have HT':=aa hvr';clear hvr hvr';have HE:=aa (λq:Wd wr=>xe v.n v.z v.c v.s v.u v.d va vl vc v.zs va' vl' vc' q.w (HT.below q.b) (HT'.below q.b));have e0:∀q:Wd wr,q.w.cell? ⟨b,o+k*7,U⟩=Y5 (I v.n):=λq=>(q.cell hb).trans c0;have f0:∀q:Wd wr,q.w.cell? ⟨b',o'+k*7,U⟩=Y5 (I v.n):=λq=>(q.cell hb').trans d0;have e1:∀q:Wd wr,q.w.cell? ⟨b,o+k*7+1,U⟩=Y5 (I v.z):=λq=>(q.cell hb).trans c1;have f1:∀q:Wd wr,q.w.cell? ⟨b',o'+k*7+1,U⟩=Y5 (I v.z):=λq=>(q.cell hb').trans d1;have e2:∀q:Wd wr,q.w.cell? ⟨b,o+k*7+2,U⟩=Y5 (Y7 Y6 v.c):=λq=>(q.cell hb).trans c2;have f2:∀q:Wd wr,q.w.cell? ⟨b',o'+k*7+2,U⟩=Y5 (Y7 Y6 v.c):=λq=>(q.cell hb').trans d2;have e3:∀q:Wd wr,q.w.cell? ⟨b,o+k*7+3,U⟩=Y5 (Y7 Y6 v.s):=λq=>(q.cell hb).trans c3;have f3:∀q:Wd wr,q.w.cell? ⟨b',o'+k*7+3,U⟩=Y5 (Y7 Y6 v.s):=λq=>(q.cell hb').trans d3;have e4:∀q:Wd wr,q.w.cell? ⟨b,o+k*7+4,U⟩=Y5 (Y7 Y6 v.u):=λq=>(q.cell hb).trans c4;have f4:∀q:Wd wr,q.w.cell? ⟨b',o'+k*7+4,U⟩=Y5 (Y7 Y6 v.u):=λq=>(q.cell hb').trans d4;have e5:∀q:Wd wr,q.w.cell? ⟨b,o+k*7+5,U⟩=Y5 (Y9 v.d):=λq=>(q.cell hb).trans c5;have f5:∀q:Wd wr,q.w.cell? ⟨b',o'+k*7+5,U⟩=Y5 (Y9 v.d):=λq=>(q.cell hb').trans d5;have e6:∀q:Wd wr,q.w.cell? ⟨b,o+k*7+6,U⟩=Y5 (J va vl vc):=λq=>(q.cell hb).trans c6;have f6:∀q:Wd wr,q.w.cell? ⟨b',o'+k*7+6,U⟩=Y5 (J va' vl' vc'):=λq=>(q.cell hb').trans d6;clear c0 d0 c1 d1 c2 d2 c3 d3 c4 d4 c5 d5 c6 d6;have z55z:=@aa _ @afI;exact aC
  ·obtain rfl:l1=k:=af
   go_wp2;go_loopw [6] (λi wr=> ∃k:Nat,k<=l2/\i=Y7 Y6 k/\Hid (LwS w ⟨a1,l1,y1,a2,l2,y2,a3,l3,y3,a4,l4,y4,a5,l5,y5⟩ ⟨p1,l1,z1,p2,l2,z2,p3,l3,z3,p4,l4,z4,p5,l5,z5⟩ c wr)) (λi _=>l2 - (intOf i).toNat);case atStart=>exact⟨0,by omega,rfl,HS.out⟩
   case round=>
    obtain⟨k,hk,rfl,HS⟩:=hrel;have s0:=an HS.g0 1;have s1:=an HS.g1 1;have hv0:=ae HS.g0;have hv1:=ae HS.g1;by_cases hlt:k<l2
    ·obtain⟨b,o,v,rfl,hb,hv,hat⟩:=gH (HS.r.k) hlt;obtain⟨b',o',v',rfl,hb',hv',hat'⟩:=gH (HS.r'.k) hlt;rw[hv] at hv';obtain rfl:=Yd hv';clear hv hv';obtain⟨-,-,c0,c1,c2,c3⟩:=da hat;obtain⟨-,-,d0,d1,d2,d3⟩:=da hat';clear hat hat';have hne:=Wd.ne wr;have g0:=λq:Wd wr=>q.slot (o:=1) HS.g0 rfl;have g1:=λq:Wd wr=>q.slot (o:=1) HS.g1 rfl;have hqe:=λW=>amv v.n v.x v.y v.z W;have hge:Tryz.prog.eqGuardType Tryz.prog.depth 74=Y_:=bf
     have e0:∀q:Wd wr,q.w.cell? ⟨b,o+k*4,U⟩=Y5 (I v.n):=λq=>(q.cell hb).trans c0;have f0:∀q:Wd wr,q.w.cell? ⟨b',o'+k*4,U⟩=Y5 (I v.n):=λq=>(q.cell hb').trans d0;have e1:∀q:Wd wr,q.w.cell? ⟨b,o+k*4+1,U⟩=Y5 (Y9 v.x):=λq=>(q.cell hb).trans c1;have f1:∀q:Wd wr,q.w.cell? ⟨b',o'+k*4+1,U⟩=Y5 (Y9 v.x):=λq=>(q.cell hb').trans d1;have e2:∀q:Wd wr,q.w.cell? ⟨b,o+k*4+2,U⟩=Y5 (Y9 v.y):=λq=>(q.cell hb).trans c2;have f2:∀q:Wd wr,q.w.cell? ⟨b',o'+k*4+2,U⟩=Y5 (Y9 v.y):=λq=>(q.cell hb').trans d2;have e3:∀q:Wd wr,q.w.cell? ⟨b,o+k*4+3,U⟩=Y5 (I v.z):=λq=>(q.cell hb).trans c3;have f3:∀q:Wd wr,q.w.cell? ⟨b',o'+k*4+3,U⟩=Y5 (I v.z):=λq=>(q.cell hb').trans d3;clear c0 d0 c1 d1 c2 d2 c3 d3;exact O5
    ·obtain rfl:l2=k:=af
     go_wp2;go_loopw [7] (λi wr=> ∃k:Nat,k<=l3/\i=Y7 Y6 k/\Hid (LwS w ⟨a1,l1,y1,a2,l2,y2,a3,l3,y3,a4,l4,y4,a5,l5,y5⟩ ⟨p1,l1,z1,p2,l2,z2,p3,l3,z3,p4,l4,z4,p5,l5,z5⟩ c wr)) (λi _=>l3 - (intOf i).toNat);case atStart=>exact⟨0,by omega,rfl,HS.out⟩
     case round=>
      obtain⟨k,hk,rfl,HS⟩:=hrel;have s0:=an HS.g0 2;have s1:=an HS.g1 2;have hv0:=ae HS.g0;have hv1:=ae HS.g1;by_cases hlt:k<l3
      ·obtain⟨b,o,v,rfl,hb,hv,hat⟩:=bK (HS.r.v) hlt;obtain⟨b',o',v',rfl,hb',hv',hat'⟩:=bK (HS.r'.v) hlt;rw[hv] at hv';obtain rfl:=Yd hv';clear hv hv';obtain⟨va,vl,vc,hvr,-,-,-,-,c0,c1,c2,c3,c4,c5,c6,c7⟩:=aW hat;obtain⟨va',vl',vc',hvr',-,-,-,-,d0,d1,d2,d3,d4,d5,d6,d7⟩:=aW hat';clear hat hat';have hne:=Wd.ne wr;have g0:=λq:Wd wr=>q.slot (o:=2) HS.g0 rfl;have g1:=λq:Wd wr=>q.slot (o:=2) HS.g1 rfl;have HT:=aa hvr;have HT':=aa hvr';clear hvr hvr';have HE:=aa (λq:Wd wr=>qE v.n v.c v.z v.k v.x v.m v.y va vl vc v.zs va' vl' vc' q.w (HT.below q.b) (HT'.below q.b));have e0:∀q:Wd wr,q.w.cell? ⟨b,o+k*8,U⟩=Y5 (I v.n):=λq=>(q.cell hb).trans c0;have f0:∀q:Wd wr,q.w.cell? ⟨b',o'+k*8,U⟩=Y5 (I v.n):=λq=>(q.cell hb').trans d0;have e1:∀q:Wd wr,q.w.cell? ⟨b,o+k*8+1,U⟩=Y5 (Y7 Y6 v.c):=λq=>(q.cell hb).trans c1;have f1:∀q:Wd wr,q.w.cell? ⟨b',o'+k*8+1,U⟩=Y5 (Y7 Y6 v.c):=λq=>(q.cell hb').trans d1;have e2:∀q:Wd wr,q.w.cell? ⟨b,o+k*8+2,U⟩=Y5 (I v.z):=λq=>(q.cell hb).trans c2;have f2:∀q:Wd wr,q.w.cell? ⟨b',o'+k*8+2,U⟩=Y5 (I v.z):=λq=>(q.cell hb').trans d2;have e3:∀q:Wd wr,q.w.cell? ⟨b,o+k*8+3,U⟩=Y5 (I v.k):=λq=>(q.cell hb).trans c3;have f3:∀q:Wd wr,q.w.cell? ⟨b',o'+k*8+3,U⟩=Y5 (I v.k):=λq=>(q.cell hb').trans d3;have e4:∀q:Wd wr,q.w.cell? ⟨b,o+k*8+4,U⟩=Y5 (Y9 v.x):=λq=>(q.cell hb).trans c4;have f4:∀q:Wd wr,q.w.cell? ⟨b',o'+k*8+4,U⟩=Y5 (Y9 v.x):=λq=>(q.cell hb').trans d4;have e5:∀q:Wd wr,q.w.cell? ⟨b,o+k*8+5,U⟩=Y5 (I v.m):=λq=>(q.cell hb).trans c5;have f5:∀q:Wd wr,q.w.cell? ⟨b',o'+k*8+5,U⟩=Y5 (I v.m):=λq=>(q.cell hb').trans d5;have e6:∀q:Wd wr,q.w.cell? ⟨b,o+k*8+6,U⟩=Y5 (Y9 v.y):=λq=>(q.cell hb).trans c6;have f6:∀q:Wd wr,q.w.cell? ⟨b',o'+k*8+6,U⟩=Y5 (Y9 v.y):=λq=>(q.cell hb').trans d6;have e7:∀q:Wd wr,q.w.cell? ⟨b,o+k*8+7,U⟩=Y5 (J va vl vc):=λq=>(q.cell hb).trans c7;have f7:∀q:Wd wr,q.w.cell? ⟨b',o'+k*8+7,U⟩=Y5 (J va' vl' vc'):=λq=>(q.cell hb').trans d7;clear c0 d0 c1 d1 c2 d2 c3 d3 c4 d4 c5 d5 c6 d6 c7 d7;have z55z:=@aa _ @afH;exact aC
      ·obtain rfl:l3=k:=af
       go_wp2;go_loopw [8] (λi wr=> ∃k:Nat,k<=l4/\i=Y7 Y6 k/\Hid (LwS w ⟨a1,l1,y1,a2,l2,y2,a3,l3,y3,a4,l4,y4,a5,l5,y5⟩ ⟨p1,l1,z1,p2,l2,z2,p3,l3,z3,p4,l4,z4,p5,l5,z5⟩ c wr)) (λi _=>l4 - (intOf i).toNat);case atStart=>exact⟨0,by omega,rfl,HS.out⟩
       case round=>
        obtain⟨k,hk,rfl,HS⟩:=hrel;have s0:=an HS.g0 3;have s1:=an HS.g1 3;have hv0:=ae HS.g0;have hv1:=ae HS.g1;by_cases hlt:k<l4
        ·obtain⟨b,o,v,rfl,hb,hv,hat⟩:=dL (HS.r.x) hlt;obtain⟨b',o',v',rfl,hb',hv',hat'⟩:=dL (HS.r'.x) hlt;rw[hv] at hv';obtain rfl:=Yd hv';clear hv hv';obtain⟨-,-,-,c0,c1,c2,c3,c4⟩:=bQ hat;obtain⟨-,-,-,d0,d1,d2,d3,d4⟩:=bQ hat';clear hat hat';have hne:=Wd.ne wr;have g0:=λq:Wd wr=>q.slot (o:=3) HS.g0 rfl;have g1:=λq:Wd wr=>q.slot (o:=3) HS.g1 rfl;have hqe:=λW=>amu v.n v.z v.k v.x v.v W;have hge:Tryz.prog.eqGuardType Tryz.prog.depth 50=Y_:=bf
         have e0:∀q:Wd wr,q.w.cell? ⟨b,o+k*5,U⟩=Y5 (I v.n):=λq=>(q.cell hb).trans c0;have f0:∀q:Wd wr,q.w.cell? ⟨b',o'+k*5,U⟩=Y5 (I v.n):=λq=>(q.cell hb').trans d0;have e1:∀q:Wd wr,q.w.cell? ⟨b,o+k*5+1,U⟩=Y5 (Y7 Y6 v.z):=λq=>(q.cell hb).trans c1;have f1:∀q:Wd wr,q.w.cell? ⟨b',o'+k*5+1,U⟩=Y5 (Y7 Y6 v.z):=λq=>(q.cell hb').trans d1;have e2:∀q:Wd wr,q.w.cell? ⟨b,o+k*5+2,U⟩=Y5 (I v.k):=λq=>(q.cell hb).trans c2;have f2:∀q:Wd wr,q.w.cell? ⟨b',o'+k*5+2,U⟩=Y5 (I v.k):=λq=>(q.cell hb').trans d2;have e3:∀q:Wd wr,q.w.cell? ⟨b,o+k*5+3,U⟩=Y5 (Y9 v.x):=λq=>(q.cell hb).trans c3;have f3:∀q:Wd wr,q.w.cell? ⟨b',o'+k*5+3,U⟩=Y5 (Y9 v.x):=λq=>(q.cell hb').trans d3;have e4:∀q:Wd wr,q.w.cell? ⟨b,o+k*5+4,U⟩=Y5 (I v.v):=λq=>(q.cell hb).trans c4;have f4:∀q:Wd wr,q.w.cell? ⟨b',o'+k*5+4,U⟩=Y5 (I v.v):=λq=>(q.cell hb').trans d4;clear c0 d0 c1 d1 c2 d2 c3 d3 c4 d4;exact O5
        ·obtain rfl:l4=k:=af
         go_wp2;go_loopw [9] (λi wr=> ∃k:Nat,k<=l5/\i=Y7 Y6 k/\Hid (LwS w ⟨a1,l1,y1,a2,l2,y2,a3,l3,y3,a4,l4,y4,a5,l5,y5⟩ ⟨p1,l1,z1,p2,l2,z2,p3,l3,z3,p4,l4,z4,p5,l5,z5⟩ c wr)) (λi _=>l5 - (intOf i).toNat);case atStart=>exact⟨0,by omega,rfl,HS.out⟩
         case round=>
          obtain⟨k,hk,rfl,HS⟩:=hrel;have s0:=an HS.g0 4;have s1:=an HS.g1 4;have hv0:=ae HS.g0;have hv1:=ae HS.g1;by_cases hlt:k<l5
          ·obtain⟨b,o,v,rfl,hb,hv,hat⟩:=cg (HS.r.p) hlt;obtain⟨b',o',v',rfl,hb',hv',hat'⟩:=cg (HS.r'.p) hlt;rw[hv] at hv';obtain rfl:=Yd hv';clear hv hv';obtain⟨va,vl,vc,hvr,-,-,-,c0,c1,c2,c3,c4,c5⟩:=bH hat;obtain⟨va',vl',vc',hvr',-,-,-,d0,d1,d2,d3,d4,d5⟩:=bH hat';clear hat hat';have hne:=Wd.ne wr;have g0:=λq:Wd wr=>q.slot (o:=4) HS.g0 rfl;have g1:=λq:Wd wr=>q.slot (o:=4) HS.g1 rfl;have HT:=aa hvr;have HT':=aa hvr';clear hvr hvr';have HE:=aa (λq:Wd wr=>xb v.n v.c v.z v.d v.p va vl vc v.zs va' vl' vc' q.w (HT.below q.b) (HT'.below q.b));have e0:∀q:Wd wr,q.w.cell? ⟨b,o+k*6,U⟩=Y5 (I v.n):=λq=>(q.cell hb).trans c0;have f0:∀q:Wd wr,q.w.cell? ⟨b',o'+k*6,U⟩=Y5 (I v.n):=λq=>(q.cell hb').trans d0;have e1:∀q:Wd wr,q.w.cell? ⟨b,o+k*6+1,U⟩=Y5 (Y7 Y6 v.c):=λq=>(q.cell hb).trans c1;have f1:∀q:Wd wr,q.w.cell? ⟨b',o'+k*6+1,U⟩=Y5 (Y7 Y6 v.c):=λq=>(q.cell hb').trans d1;have e2:∀q:Wd wr,q.w.cell? ⟨b,o+k*6+2,U⟩=Y5 (I v.z):=λq=>(q.cell hb).trans c2;have f2:∀q:Wd wr,q.w.cell? ⟨b',o'+k*6+2,U⟩=Y5 (I v.z):=λq=>(q.cell hb').trans d2;have e3:∀q:Wd wr,q.w.cell? ⟨b,o+k*6+3,U⟩=Y5 (J va vl vc):=λq=>(q.cell hb).trans c3;have f3:∀q:Wd wr,q.w.cell? ⟨b',o'+k*6+3,U⟩=Y5 (J va' vl' vc'):=λq=>(q.cell hb').trans d3;have e4:∀q:Wd wr,q.w.cell? ⟨b,o+k*6+4,U⟩=Y5 (I v.d):=λq=>(q.cell hb).trans c4;have f4:∀q:Wd wr,q.w.cell? ⟨b',o'+k*6+4,U⟩=Y5 (I v.d):=λq=>(q.cell hb').trans d4;have e5:∀q:Wd wr,q.w.cell? ⟨b,o+k*6+5,U⟩=Y5 (Y7 Y6 v.p):=λq=>(q.cell hb).trans c5;have f5:∀q:Wd wr,q.w.cell? ⟨b',o'+k*6+5,U⟩=Y5 (Y7 Y6 v.p):=λq=>(q.cell hb').trans d5;clear c0 d0 c1 d1 c2 d2 c3 d3 c4 d4 c5 d5;have z55z:=@aa _ @afG;exact aC
          ·obtain rfl:l5=k:=af
           go_wp2;go_ret;exact⟨rfl,HS.hb⟩
theorem kM(g g':Ad) (o:Co) (w:World) (hr:aB w g o.c.raw) (hr':aB w g' o.c.raw) (h:o.p=0->aq o.c):
  Calls Tryz.prog 9 #[Zc #[J g.a1 g.l1 g.c1,J g.a2 g.l2 g.c2,J g.a3 g.l3 g.c3,J g.a4 g.l4 g.c4,J g.a5 g.l5 g.c5,Y7 Y6 o.c.now,I o.n,Y7 Y6 o.p],Zc #[J g'.a1 g'.l1 g'.c1,J g'.a2 g'.l2 g'.c2,J g'.a3 g'.l3 g'.c3,J g'.a4 g'.l4 g'.c4,J g'.a5 g'.l5 g'.c5,Y7 Y6 o.c.now,I o.n,Y7 Y6 o.p]] w λe w'=>e=Za (Y9 Zb)/\Below w.heap.size w w':=by
 have HR:=aa hr;have HR':=aa hr';have HI:=aa h;have HB:=aa (Yh w.heap.size w);clear hr hr' h;go_enter Tryz.func9,Tryz.ntmps9;go_wp2_with fail;refine (n8 g g' o.c _ (HR.below (HB.trans ((aS _ _ _).mono HB.size))) (HR'.below (HB.trans ((aS _ _ _).mono HB.size)))).mono ?_;rintro e w1 ⟨rfl,hb⟩;obtain⟨HA0,HA1,hbx⟩:=dP hb;have Ba:=aa HA0;have Bb:=aa HA1;replace HB:=upB HB hbx;clear hb hbx HA0 HA1;obtain⟨a0,a1,a2,a3,a4,a5,a6,a7⟩:=cs8 Ba;obtain⟨b0,b1,b2,b3,b4,b5,b6,b7⟩:=cs8 Bb;by_cases hp:o.p=0
 ·have hp1:(o.p==0)=Zb:=iJ
  go_wp2_with fail;refine ((cY g o.c _ (HR.below HB.out)).mono λ_ _ q=>au.yes q (HI.out hp)).mono ?_;rintro e w2 ⟨rfl,hb⟩;replace HB:=upB HB hb;go_wp2;go_ret;exact⟨rfl,HB.out⟩
 ·have hp1:(o.p==0)=Y_:=iJ
  go_wp2;go_ret;exact⟨rfl,HB.out⟩
end Rc
end Go.Proofs.YtfhdfmdaiookjaaGreatDoor

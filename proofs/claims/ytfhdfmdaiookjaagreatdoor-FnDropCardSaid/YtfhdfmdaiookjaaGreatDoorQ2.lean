import Derived.Test.YtfhdfmdaiookjaaGreatDoorQ1
import Derived.WalkKit
import Derived.LaidEql
import Derived.Stop.Asserts
import Derived.RowKitTokens
import Derived.RegionTactic
import Derived.Lib.Overlaps
import Derived.Lib.SliceRun
import Derived.Lib.AppendZerosOnto
import Derived.Deep.RegionLaw
import Derived.Shelf.RegionOpenPlain
import Derived.Deep.AppendLies
import Derived.Lib.Bytealg
import Derived.RangeFuncNested
import Derived.RangeFuncBound
import Derived.RangeFuncCalls
import Derived.RangeFuncLeaves
import Derived.Shelf.Abstract
import Derived.Shelf.RegionOpen
import Derived.OwnWalkIn
import Derived.TacticsInMore
import Derived.LoopNIn
import Derived.LoopIn
import Derived.ScopeJumps
import Derived.WalkMore
/-
 Whether pods are where they may be, as the specification asks it.
-/
set_option maxRecDepth 100000
set_option maxHeartbeats 12800000
open Bool renaming false→Y_,true→Zb
open Go.Ending renaming returned→Za
open Go.IntKind renaming i64→Y6
open Go.Obj renaming cells→Y8
open Go.Value renaming string→I,slice→J,int→Y7,bool→Y9,agg→Zc,pointer→Zf,tuple→Zg
open Option renaming none→U,some→Y5
open Or renaming inr→Zd,inl→Ze
open And renaming intro→Yb
open Array renaming getElem?_push_size→Yg, getD_eq_getD_getElem?→Yr, getElem?_eq_some_iff→Yw
open Bool renaming and_eq_true→YG
open Classical renaming byContradiction→YH
open Go.Addr renaming add_lit→Yn
open Go.Calls renaming quiet_of_same→Yz
open Go.Op renaming bytesLess→Yk
open Go.Region renaming wanted→YP, ready→YQ, binds→YR
open Go.RowKit.Below renaming heap_setCell→Ya, refl→Yh, heap_alloc→Yl
open Go.Value renaming string→Ym, ownBlock→YL
open List renaming getElem?_eq_some_iff→Yc, lookup→Yf, getElem?_eq_getElem→Yi, length_map→Yo, mem_of_getElem?→Ys, setIfInBounds_toArray→Yt, getElem?_append_left→Yu, getElem?_map→Yv, drop_eq_nil_of_le→Yx, getElem?_take→YA, set_cons_zero→YC, getElem?_of_mem→YD, set_cons_succ→YE, length_take→YF, forall_mem_cons→YI, take_of_length_le→YJ, eq_nil_of_length_eq_zero→YM, take_add_one→YN, mem_cons→YO, foldr→YT, range→YU, filter_append→YV, length_cons→Y4
open Nat renaming le_refl→Ye, lt_of_lt_of_le→Yj, le_trans→Yp, zero_add→Yq, le_succ→Yy, zero_le→YK
open Option renaming map_eq_some_iff→YB
open Option.some renaming inj→Yd
namespace Go.Proofs.YtfhdfmdaiookjaaGreatDoor
variable {p:Prop}
namespace Mk
end Mk
open Go.RowKit Mk Go.Extern.Stop Go.Stop Go.Extern Go.Shelf Go
variable {α:Type} {B b base g j m:Nat} {H:Nat->Nat->Nat} {P:Program} {Q:Exit->Act->World->Prop} {S:Nat->Prop} {T:TypeId} {W w w':World} {a0:Act} {back:Option Oper} {cs:Array Value} {d:Option Tmp} {front rest:List Oper} {i:TypeInfo} {listed:Array Bool} {o:Oper} {ops:Array Oper} {sp:Tmp} {t:ByteArray} {u v0 v1 v2 v3 v4 v5:Value} {va:Option Addr} {vb:Option Nat} {vss:List (List Value)} {zs:List ByteArray} {nm:α->ByteArray} {xs:List α}
theorem bj(h:p:=by unfold maxLen;omega):p:=h
theorem dx(h:p:=by simp[Value.oneCell']):p:=h
theorem kV(h:p:=by have:=(Yc.1 hy).1;omega):p:=h
theorem dN(h:p:=by simpa using hown5):p:=h
theorem iK(h:p:=by simp[World.setCell];omega):p:=h
theorem jP(h:p:=by rw[dS HVA.out,hvl]):p:=h
theorem oN(h:p:=by rw[Yo,YF];omega):p:=h
theorem oM(h:p:=by rw[Yo,List.length_drop];omega):p:=h
theorem kS(h:p:=by simp[World.setCell]):p:=h
theorem Ai(h:p:=by rw[<-List.flatten_append,List.take_append_drop]):p:=h
theorem uh(h:p:=by rw[YF];omega):p:=h
theorem ug(h:p:=by rw[Yo];omega):p:=h
theorem oI(h:p:=by simpa using ho.1):p:=h
theorem ag6(h:p:=by have:=agB (by omega) (by omega) e2;exact⟨this.1.symm,this.2.symm⟩):p:=h
theorem aK(h:p:=by
 go_simp;refine hK _ _ (Yh _ _) ?_;with_reducible rfl):p:=h
theorem am_(h:p:=by
 have hcase:(∃v,aO c t v)\/(∀v,¬aO c t v):=by
  by_cases h:∃v,aO c t v
  ·exact Ze h
  ·exact Zd (λv hv=>h ⟨v,hv⟩)
 rcases hcase with ⟨v,hbd⟩|hbd
 ·have z908z:=@aa _ @Td;exact yD
 ·have z1162z:=@aa _ @LK;exact tE):p:=h
theorem am9(h:p:=by
 have z990z:=@aa _ @R8;exact yt):p:=h
theorem ah7(h:p:=by
 exact wE):p:=h
theorem kZ(h:p:=by
 refine Obl.plain rfl ?_;intro ac wg K hsz hW hf hK;clear hsz;clear hf;go_simp;exact hK _ _ (ak _ _) ⟨_,rfl,hW.size,Yg⟩):p:=h
theorem Av(h:p:=by
 have h1:vss[0]?=Y5 (vss[0]'(by omega)):=Yi _;have h2:0<(vss[0]'(by omega)).length:=by rw[HVA.out 0 _ h1];decide
 obtain⟨g,e,_⟩:=HCQ.out _ _ (gi HVA.out h1 (Yi h2));cases e):p:=h
theorem nx(h:p:=by
 go_simp;refine hK _ _ (Rv.other ag (Yh _ _)) ?_;with_reducible rfl):p:=h
theorem ahQ(h:p:=by
 have h45:aQ w4 (λk=>(Q k\/Q2 k)\/w.heap.size<=k) 8 ((aR j x xs).map vdF) (aR j [I x.n,Y7 Y6 x.c,I x.z,I x.k,Y9 x.x,I x.m,Y9 x.y,J va vl vc] vss) H4:=by rw[fI];exact hV5
 have hle:((aR j x xs).map vdF).length=n+1:=by rw[Yo,dq af,hxl]
 exact Pf):p:=h
theorem ahN(h:p:=by
 rcases h with ⟨h,rfl⟩|⟨k,_,rfl,_,_⟩
 ·exact⟨Ze,λh1=>h1.elim id (λe=>e ▸ h)⟩
 ·have h1:s∈zs↔s∈zs.take k\/s∈zs.drop k:=by rw[<-List.mem_append,List.take_append_drop]
  rw[List.mem_append,List.mem_append,List.mem_singleton,h1];constructor
  ·rintro ((h|h)|h)
   ·exact Ze (Ze h)
   ·exact Zd h
   ·exact Ze (Zd h)
  ·rintro ((h|h)|h)
   ·exact Ze (Ze h)
   ·exact Zd h
   ·exact Ze (Zd h)):p:=h
theorem oU(h:p:=by
 rintro v w w' ⟨b,h1,h2,h3⟩ hb;exact⟨b,h1,h2,(hb.block _ (ae h3)).trans h3⟩):p:=h
theorem As(h:p:=by
 obtain⟨b,e,h3⟩:=HC.out j u hj;exact⟨b,e,Yj (bG h3) HB.size,(ai HB.out (bG h3)).trans h3⟩):p:=h
theorem ahI(h:p:=by
 obtain rfl:vl=kq:=af
 have z191z:=@aa _ @aeV;exact cR):p:=h
theorem ahF(h:p:=by
 rw[<-e1] at hs3;have HS1:=aa hs1;have HS2:=aa hs2';have HS3:=aa hs3;have HS4:=aa hs4;obtain⟨o0,o1,o2,o3,o4,o5⟩:=cs6 bo5;have fo0:=al bo5 0;have fo2:=al bo5 2;have fo4:=al bo5 4;clear hs1 hs2' hs3 hs4 bo5 hown5 hgrow e1;go_wp2;exact⟨⟨k+1,_,H',_,by omega,by go_num,HS1,HS2,HS3,HS4⟩,by simp[intOf];omega⟩):p:=h
theorem ahE(h:p:=by
 rcases hown.2 with ⟨rfl,rfl⟩|⟨g,cap,cur,rfl,_,_,hnc,_⟩
 ·cases ax <;> simp[Builtin.append_,run_underlying ht,sizeOf,typeInfo,hi,Builtin.lenOf,Builtin.firstCells,loadCells,loadCellsFrom]
 ·cases ax <;> simp[Builtin.append_,run_underlying ht,sizeOf,typeInfo,hi,Builtin.lenOf,Builtin.firstCells,hnc,storeCells,loadCells,loadCellsFrom]):p:=h
theorem al3(h:p:=by
 have h1:=Ys hz;simp only[List.mem_append,List.mem_singleton] at h1;rcases h1 with (h1|rfl)|h1
 ·obtain⟨i,hi⟩:=YD (List.mem_of_mem_take h1);exact hr.2.2.2.1 i z hi
 ·exact ht
 ·obtain⟨i,hi⟩:=YD (List.mem_of_mem_drop h1);exact hr.2.2.2.1 i z hi):p:=h
theorem QE(h:p:=by
 have HCq:=aa hq;have z191z:=@aa _ @aeU;exact cR):p:=h
theorem QB(h:p:=by
 obtain⟨k0,k1,k2,k3,k4,k5⟩:=cs6 Bk;go_wp2;go_ret;exact au.f (λh=>by have:=HI2.2 h.2.1;cases this) HB.out):p:=h
theorem Qx(h:p:=by
 obtain⟨k0,k1,k2,k3,k4,k5⟩:=cs6 Bk;go_wp2;go_ret;exact au.f (λh=>by have:=HI1.2 h.1;cases this) HB.out):p:=h
theorem akz(h:p:=by
 rw[Yv,YB] at hu;obtain⟨z,hz,rfl⟩:=hu;obtain⟨b,o,x,rfl,hb,hx,hc,hsz⟩:=hr.at (k:=j) dz;rw[hz] at hx;cases hx;exact⟨b,o,rfl,hb,hc⟩):p:=h
theorem Qo(h:p:=by
 unfold Oper.wp execOp;simp only[ho,resolve,invoke,builtin,Sem.run_bind,Sem.run_pure,Result.andThen_ok,List.map_toArray,List.map_cons,List.map_nil,hs,hx,hr];exact hK _ _ (h v w (by simpa using hown) (World.grownBy.refl _ _))):p:=h
theorem Ql(h:p:=by
 go_wp2;refine⟨⟨k+1,by omega,by go_num,λj z hj hz=>?_⟩,by simp[intOf];omega⟩;by_cases e:j=k
 ·subst e;rw[HX.out] at hz;obtain rfl:=Yd hz;exact hless
 ·exact HE.out j z af hz):p:=h
theorem Qf(h:p:=by
 unfold Oper.wp execOp;simp only[ho,resolve,invoke,builtin,Sem.run_bind,Sem.run_pure,Result.andThen_ok,List.map_toArray,List.map_cons,List.map_nil,hs,hx,hr];exact hK _ _ (h v' w' h2 h3)):p:=h
theorem P7(h:p:=by
 obtain rfl:l1=k:=af
 go_wp2;go_ret;exact au.t ⟨HQ1.out,λj n hz=>HQ.out j n dz hz⟩ HB.out):p:=h
theorem P5(h:p:=by
 intro a' c' w' hR hb6;have hsw:=hW.size;exact hK _ _ hb6 ⟨a',c',rfl,hR.bm (λk _ s=>by show W.heap.size<=k;rcases s with rfl|s <;> omega)⟩):p:=h
theorem P3(h:p:=by
 rcases h with ⟨_,rfl⟩|⟨k,hk,rfl,_,_⟩
 ·omega
 ·simp only[List.length_append,YF,List.length_drop,List.length_singleton];omega):p:=h
theorem P2(h:p:=by
 obtain rfl:pl=k:=af
 go_wp2;go_ret;exact au.t (λj t ht=>HQ.out j t Ah ht) HB.out):p:=h
theorem P1(h:p:=by
 by_cases e:j=k
 ·subst e;rw[HXp.out] at hz;obtain rfl:=Yd hz;exact λh=>absurd h HP2.out
 ·exact HQ.out j z af hz):p:=h
theorem PZ(h:p:=by
 obtain⟨i,j,x,h1,h2,h3,h4⟩:=h;obtain⟨i',j',x',k1,k2,k3,k4⟩:=h';obtain⟨_,rfl⟩:=hx.inj h1 k1 (h2.trans k2.symm);rw[h4,k4]):p:=h
theorem PY(h:p:=by
 obtain⟨j,hj⟩:=YD ha;rw[YA] at hj;split at hj
 ·next hjk=>exact hlt j a hjk hj
 ·cases hj):p:=h
theorem aku(h:p:=by
 obtain⟨k0,k1,k2,k3,k4,k5⟩:=cs6 Bk;go_wp2;go_ret;exact au.f (λh=>by have:=HI5.2 h.2.2.2.2.1;cases this) HB.out):p:=h
theorem PW(h:p:=by
 obtain⟨k0,k1,k2,k3,k4,k5⟩:=cs6 Bk;go_wp2;go_ret;exact au.f (λh=>by have:=HI6.2 h.2.2.2.2.2;cases this) HB.out):p:=h
theorem PT(h:p:=by
 obtain⟨g9,o9,e,_⟩:=HC.out 0 _ (by rw[Yv,Yi (show 0<zs.length by omega)];rfl);cases e):p:=h
theorem PK(h:p:=by
 have h1:=hM x.toList t.toList;rw[h] at h1;have h2:=bu (λe=>hn e.symm);rw[h2] at h1;simpa using h1):p:=h
theorem akq(h:p:=by
 subst e;rw[HXt.out] at hs;obtain rfl:=Yd hs;exact⟨⟨i4,x4,HG1.out,HG2.out⟩,Ze HEm.out⟩):p:=h
theorem wE(h:p:=by
 have z55z:=@aa _ @aix;exact aC):p:=h
theorem kH(h:p:=by
 exact OI):p:=h
theorem g_(h:p:=by
 clear hf;obtain⟨k0,k1,k2,k3,k4,k5⟩:=cs6 ((hW.block _ (ae Bk.out)).trans Bk.out);exact aK):p:=h
theorem Pv(h:p:=by
 have z1332z:=@aa _ @Jm;exact tk):p:=h
theorem kF(h:p:=by
 refine Obl.plain rfl ?_;intro ac wg K hsz hW hf hK;clear hsz;have e3:=hf 3 ag;simp[aj,Yf] at e3;clear hf;exact aK):p:=h
theorem Pt(h:p:=by
 have e11:=hf 11 ag;simp[aj,Yf] at e11;clear hf;exact aK):p:=h
theorem Ps(h:p:=by
 have z55z:=@aa _ @aiw;exact aC):p:=h
theorem kE(h:p:=by
 have z416z:=@aa _ @ab5;exact pZ):p:=h
theorem kD(h:p:=by
 refine Obl.plain rfl ?_;intro ac wg K hsz hW hf hK;clear hsz;have e5:=hf 5 ag;simp[aj,Yf] at e5;clear hf;exact aK):p:=h
theorem kC(h:p:=by
 have z297z:=@aa _ @adw;exact lI):p:=h
theorem ny(h:p:=by
 have z419z:=@aa _ @ab3;exact pY):p:=h
theorem Pr(h:p:=by
 have z55z:=@aa _ @agi;exact aC):p:=h
theorem Pq(h:p:=by
 have z55z:=@aa _ @agh;exact aC):p:=h
theorem Pp(h:p:=by
 obtain rfl:k=kz:=af
 have z191z:=@aa _ @aeT;exact cR):p:=h
theorem Pk(h:p:=by
 have z566z:=@aa _ @X6;exact eB):p:=h
theorem Pf(h:p:=by
 obtain⟨a',c',e,hR⟩:=h45.own ho4 hle.symm ag (λg hg=>Zd (by have:=(ho4.lt g hg).1;omega));rw[hle] at e hR;rw[hj] at hR;exact⟨a',c',e,hR⟩):p:=h
theorem wk(h:p:=by
 have e37:=hf 37 ag;simp[aj,Yf] at e37;clear hf;exact aK):p:=h
theorem Pa(h:p:=by
 refine Obl.plain rfl ?_;intro ac wg K hsz hW hf hK;clear hsz;have e40:=hf 40 ag;simp[aj,Yf] at e40;clear hf;exact aK):p:=h
theorem O_(h:p:=by
 refine Obl.plain rfl ?_;intro ac wg K hsz hW hf hK;clear hsz;have e44:=hf 44 ag;simp[aj,Yf] at e44;clear hf;exact aK):p:=h
theorem O6(h:p:=by
 obtain rfl:=Yd hz;exact λj s hs=>HQ2.out j s (by have h1:=(Yc.1 hs).1;have h2:=HVL.out;omega) hs):p:=h
theorem OU(h:p:=by
 clear hf;obtain⟨k0,k1,k2,k3,k4,k5⟩:=cs6 ((hW.block _ (ae GK.out)).trans GK.out);exact aK):p:=h
theorem akl(h:p:=by
 rcases hown.2 with ⟨rfl,_⟩|⟨g,cap,cur,rfl,_⟩
 ·exact⟨_,_,_,rfl⟩
 ·exact⟨_,_,_,rfl⟩):p:=h
theorem OO(h:p:=by
 have z419z:=@aa _ @g_;exact pY):p:=h
theorem OI(h:p:=by
 refine Obl.plain rfl ?_;intro ac wg K hsz hW hf hK;clear hsz;have e1:=hf 1 ag;simp[aj,Yf] at e1;clear hf;exact aK):p:=h
theorem gJ(h:p:=by
 have fr0:=al Br.out 0;have fr1:=al Br.out 1;have fr2:=al Br.out 2;have fr3:=al Br.out 3;have fr4:=al Br.out 4;have fr5:=al Br.out 5;have fr6:=al Br.out 6;have fr7:=al Br.out 7;exact Yb fr0 (Yb fr1 (Yb fr2 (Yb fr3 (Yb fr4 (Yb fr5 (Yb fr6 fr7))))))):p:=h
theorem ajV(h:p:=by
 have q0:∀q:Wd wr,q.w.cell? ⟨b,o+kz*6,U⟩=Y5 (I pq.n):=λq=>(q.cell (hb')).trans (d0);have q1:∀q:Wd wr,q.w.cell? ⟨b,o+kz*6+1,U⟩=Y5 (Y7 Y6 pq.c):=λq=>(q.cell (hb')).trans (d1);have q2:∀q:Wd wr,q.w.cell? ⟨b,o+kz*6+2,U⟩=Y5 (I pq.z):=λq=>(q.cell (hb')).trans (d2);have q3:∀q:Wd wr,q.w.cell? ⟨b,o+kz*6+3,U⟩=Y5 (J qa ql qc):=λq=>(q.cell (hb')).trans (d3);have q4:∀q:Wd wr,q.w.cell? ⟨b,o+kz*6+4,U⟩=Y5 (I pq.d):=λq=>(q.cell (hb')).trans (d4);have q5:∀q:Wd wr,q.w.cell? ⟨b,o+kz*6+5,U⟩=Y5 (Y7 Y6 pq.p):=λq=>(q.cell (hb')).trans (d5);have hne0:=Wd.ne wr;exact Yb q0 (Yb q1 (Yb q2 (Yb q3 (Yb q4 (Yb q5 hne0)))))):p:=h
theorem alE(h:p:=by
 have Gk:Hid ((wr.alloc (Y8 #[I p.n,Y7 Y6 p.c,I p.z,J va vl vc,I p.d,Y7 Y6 2] 40)).heap[w.heap.size]?=Y5 (Y8 (clo6 (Y5 ⟨b1,o1,U⟩) l1 y1 a2 l2 y2 a3 l3 y3 a4 l4 y4 (Y5 ⟨b,o,U⟩) l5 y5 c.now) 29 (0,0))):=(Yl _ _ _ (ae Bk.out)).trans (Bk.out);have Gr:Hid ((wr.alloc (Y8 #[I p.n,Y7 Y6 p.c,I p.z,J va vl vc,I p.d,Y7 Y6 2] 40)).heap[wr.heap.size]?=Y5 (Y8 #[I p.n,Y7 Y6 p.c,I p.z,J va vl vc,I p.d,Y7 Y6 2] 40 (0,0))):=Yg;have HW:Hid (Below w.heap.size w (wr.alloc (Y8 #[I p.n,Y7 Y6 p.c,I p.z,J va vl vc,I p.d,Y7 Y6 2] 40))):=(HB.trans ((ak _ _).mono HB.size));exact Yb Gk (Yb Gr HW)):p:=h
theorem ahw(h:p:=by
 have nw:=λq:Wd (wr.alloc (Y8 #[I p.n,Y7 Y6 p.c,I p.z,J va vl vc,I p.d,Y7 Y6 2] 40))=>(q.cell hbnv).trans e5v;have hne0:=Wd.ne (wr.alloc (Y8 #[I p.n,Y7 Y6 p.c,I p.z,J va vl vc,I p.d,Y7 Y6 2] 40));have HC0:=aa (λq:Wd (wr.alloc (Y8 #[I p.n,Y7 Y6 p.c,I p.z,J va vl vc,I p.d,Y7 Y6 2] 40))=>ft ⟨(Y5 ⟨b1,o1,U⟩),l1,y1,a2,l2,y2,a3,l3,y3,a4,l4,y4,(Y5 ⟨b,o,U⟩),l5,y5⟩ c.now c.ns p.d q.w (HR.n.below (HW.trans (q.b.mono HW.size))) HNR.out HJn.out HNn.out);exact Yb nw (Yb hne0 HC0)):p:=h
theorem Aq(h:p:=by
 have z339z:=@aa _ @acZ;exact zP):p:=h
theorem nu(h:p:=by
 have z817z:=@aa _ @Ux;exact yF):p:=h
theorem Ao(h:p:=by
 have HW:=HB;have k0:=λq:Wd wr=>q.slot (o:=0) Gk.out rfl;have k1:=λq:Wd wr=>q.slot (o:=1) Gk.out rfl;have k2:=λq:Wd wr=>q.slot (o:=2) Gk.out rfl;have k3:=λq:Wd wr=>q.slot (o:=3) Gk.out rfl;have k4:=λq:Wd wr=>q.slot (o:=4) Gk.out rfl;have k5:=λq:Wd wr=>q.slot (o:=5) Gk.out rfl;exact Yb HW (Yb k0 (Yb k1 (Yb k2 (Yb k3 (Yb k4 k5)))))):p:=h
theorem ahr(h:p:=by
 have Gk:=Bk;have Gv:=Bv;have HW:=HB;have k2:=λq:Wd q1.w=>q.slot (o:=2) Gk.out rfl;have v0:=λq:Wd q1.w=>q.slot (o:=0) Gv.out rfl;have v2:=λq:Wd q1.w=>q.slot (o:=2) Gv.out rfl;have v5:=λq:Wd q1.w=>q.slot (o:=5) Gv.out rfl;have v6:=λq:Wd q1.w=>q.slot (o:=6) Gv.out rfl;exact Yb Gk (Yb Gv (Yb HW (Yb k2 (Yb v0 (Yb v2 (Yb v5 v6))))))):p:=h
theorem Oa(h:p:=by
 have HOW:Hid ((w.alloc (Y8 #[] 9)).ownsRow w.heap.size 9 1 (J (Y5 ⟨w.heap.size,0,U⟩) 0 0) 0 []):=World.ownsRow_made w #[] 0 (Ye _) (YK _) aG;have hik:(k:Int)<=cap:=af
 have hkn:k<=cap:=af
 exact Yb HOW (Yb hik hkn)):p:=h
theorem N8(h:p:=by
 have hbnv:b1<(wr.alloc (Y8 #[I p.n,Y7 Y6 p.c,I p.z,J va vl vc,I p.d,Y7 Y6 2] 40)).heap.size:=by simp;omega
 have e5v:=(ai (ak wr (Y8 #[I p.n,Y7 Y6 p.c,I p.z,J va vl vc,I p.d,Y7 Y6 2] 40)) hbn).trans e5;exact Yb hbnv e5v):p:=h
theorem oS(h:p:=by
 have fr0:=al Br.out 0;have fr1:=al Br.out 1;have fr2:=al Br.out 2;have fr3:=al Br.out 3;have fr4:=al Br.out 4;have fr5:=al Br.out 5;exact Yb fr0 (Yb fr1 (Yb fr2 (Yb fr3 (Yb fr4 fr5))))):p:=h
theorem N7(h:p:=by
 have hXs:=HBX.size;have HBW:=aa (HBX.trans (HK.low (X:=w.heap.size) hXs (λk s=>by rcases s with rfl|s <;> omega)));have BkR:=aa ((HK.block w.heap.size af (λs=>by rcases s with s|s <;> omega)).trans Bk.out);have hKs:=HK.size;exact Yb hXs (Yb HBW (Yb BkR hKs))):p:=h
theorem alP(h:p:=by
 have p3:=λq:Wd wr=>q.slot (o:=3) Gp.out rfl;have n6:=λq:Wd wr=>q.slot (o:=6) Gn.out rfl;have tw:=λq:Wd wr=>(q.cell hb).trans hc;have vw:=λq:Wd wr=>(q.cell hbv).trans v0;have hne0:=Wd.ne wr;have HC0:=aa (λq:Wd wr=>fv ⟨(Y5 ⟨b1,o1,U⟩),l1,y1,a2,l2,y2,(Y5 ⟨b3,o3,U⟩),l3,y3,a4,l4,y4,a5,l5,y5⟩ c t q.w (HR.below (HW.trans (q.b.mono HW.size))) HX.out HV.out HNE.out HJ.out HDb.out);exact Yb p3 (Yb n6 (Yb tw (Yb vw (Yb hne0 HC0))))):p:=h
theorem ahm(h:p:=by
 have tw:=λq:Wd q1.w=>(q.cell hb1).trans hc1;have vw:=λq:Wd q1.w=>(q.cell hbv).trans v2;have nw:=λq:Wd q1.w=>(q.cell hbn).trans n1;have hne0:=Wd.ne q1.w;have HC0:=aa (λq:Wd q1.w=>eM ⟨(Y5 ⟨b1,o1,U⟩),l1,y1,a2,l2,y2,(Y5 ⟨b3,o3,U⟩),l3,y3,a4,l4,y4,(Y5 ⟨b,o,U⟩),l5,y5⟩ c.now c.xs t q.w (HR.x.below (HW.trans (q.b.mono HW.size))) HX.out HG1.out HG2.out);exact Yb tw (Yb vw (Yb nw (Yb hne0 HC0)))):p:=h
theorem N4(h:p:=by
 have Gk:=Bk;have Gv:=Bv;have HW:=HB;have k0:=λq:Wd q1.w=>q.slot (o:=0) Gk.out rfl;have v2:=λq:Wd q1.w=>q.slot (o:=2) Gv.out rfl;have v7:=λq:Wd q1.w=>q.slot (o:=7) Gv.out rfl;exact Yb Gk (Yb Gv (Yb HW (Yb k0 (Yb v2 v7))))):p:=h
theorem oP(h:p:=by
 have tw:=λq:Wd wr=>(q.cell hb).trans hc;have hne0:=Wd.ne wr;exact Yb tw hne0):p:=h
theorem alL(h:p:=by
 have tw:=λq:Wd q1.w=>(q.cell hb1).trans hc1;have hne0:=Wd.ne q1.w;exact Yb tw hne0):p:=h
theorem ahf(h:p:=by
 have HB2:=upB HW q0.b;have Ck:=upK Gk q0.b;have Cr:=upK Gr q0.b;have CHTp:=aa ((HTp.out).below q0.b);exact Yb HB2 (Yb Ck (Yb Cr CHTp))):p:=h
theorem ahd(h:p:=by
 have Bk:=aa ((HL.block w.heap.size af).trans (heap_alloc_new w (Y8 (clo6 a1 l1 y1 a2 l2 y2 a3 l3 y3 a4 l4 y4 a5 l5 y5 c.now) 29)));have HB:=aa ((ak w (Y8 (clo6 a1 l1 y1 a2 l2 y2 a3 l3 y3 a4 l4 y4 a5 l5 y5 c.now) 29)).trans (HL.mono af));exact Yb Bk HB):p:=h
theorem kY(h:p:=by
 have HR:=aa hr;have HB:=aa (Yh w.heap.size w);exact Yb HR HB):p:=h
theorem uu(h:p:=by
 have HB:=aa (BV.trans (HBW.mono BV.size));have Bk:=upK KV HBW.out;exact Yb HB Bk):p:=h
theorem ag_(h:p:=by
 have GV:Hid ((wr.alloc (Y8 (vov v va vl vc) 38)).heap[wr.heap.size]?=Y5 (Y8 (vov v va vl vc) 38 (0,0))):=Yg;have BV:=aa (HB.trans ((ak wr (Y8 (vov v va vl vc) 38)).mono HB.size));exact Yb GV BV):p:=h
theorem vY(h:p:=by
 have Bk:=aa HA0;have Br:=aa HA1;exact Yb Bk Br):p:=h
theorem aj1(h:p:=by
 have hc1:=(q1.cell hb).trans hc;have hb1:=Yj hb q1.b.size;have HBW1:=upB HBW q1.b;exact Yb hc1 (Yb hb1 HBW1)):p:=h
theorem Oj(h:p:=by
 have Br:Hid (W.heap[w.heap.size+1]?=Y5 (Y8 (clo6 U 0 0 U 0 0 U 0 0 U 0 0 U 0 0 0) 29 (0,0))):=by rw[hW0];exact eF _ _ _
 have hWs:W.heap.size=w.heap.size+1+1:=by rw[hW0];simp
 exact Yb Br hWs):p:=h
theorem aj0(h:p:=by
 have HON:Hid (∀(l:List ByteArray) u,u∈l.map Ym->u.oneCell'=Zb):=λl u hu=>by obtain⟨z,_,rfl⟩:=List.mem_map.1 hu;rfl
 have HW:Hid (Below w.heap.size w w):=Yh _ _;exact Yb HON HW):p:=h
theorem ajX(h:p:=by
 have hs2:wr.heap.size+1<w2.heap.size:=by have:=hb2.size;simp at this;omega
 have hsl:∀k,(k=wr.heap.size+1\/wr.heap.size+1+1<=k)->wr.heap.size+1<=k:=λk s=>by omega
 exact Yb hs2 hsl):p:=h
theorem Of(h:p:=by
 have hk1:¬(k:Int)<len:=af
 have HP:Hid (Put t zs (zs.take k++[t]++zs.drop k)):=Zd ⟨k,by omega,rfl,HE.out,λy hy=>by have:=(Yc.1 hy).1;omega⟩;exact Yb hk1 HP):p:=h
theorem qp(h:p:=by
 have HG1:=aa g1;have HG2:=aa g2;have hi41:decide ((i4:Int)<0)=Y_:=aG
 exact Yb HG1 (Yb HG2 hi41)):p:=h
theorem Oe(h:p:=by
 have HG:Hid (∀zs:List ByteArray,x.zs=zs->zs≠[]->wr.heap.size<=g):=λzs e hz=>by subst e;have:=hsl _ (hg.lt hz).1;omega
 have HB4:=aa hb4;have HO4:=aa (cI HO.out hb4);exact Yb HG (Yb HB4 HO4)):p:=h
theorem ff(h:p:=by
 rintro e w2 ⟨rfl,hb⟩;clear k0 k1 k2 k3 k4 k5 ltk_1;replace Bk:=upK Bk hb;have z516z:=@aa _ @aaM;exact lC):p:=h
theorem ajH(h:p:=by
 have z1651z:=@aa _ @Eg;exact sb):p:=h
theorem ajG(h:p:=by
 have z1651z:=@aa _ @Ef;exact sb):p:=h
theorem ajF(h:p:=by
 have z689z:=@aa _ @Wa;exact pO):p:=h
theorem ajE(h:p:=by
 have z689z:=@aa _ @V_;exact pO):p:=h
theorem ajD(h:p:=by
 have z689z:=@aa _ @V9;exact pO):p:=h
theorem ajC(h:p:=by
 rintro _ ⟨q2,rfl⟩;obtain⟨HB2,Ck⟩:=jQ;have Cv:=upK Gv q2.b;clear hne0 HW HB k0 v2 v7 Gk Gv Bk Bv;have z763z:=@aa _ @Vf;exact pM):p:=h
theorem ajB(h:p:=by
 rintro _ ⟨q2,rfl⟩;obtain⟨HB2,Ck⟩:=jQ;have Cv:=upK Gv q2.b;clear hne0 HW HB k0 v2 v7 nw Gk Gv Bk Bv hbn n1;have HB:=HB2;clear HB2;have Bk:=Ck;clear Ck;have Bv:=Cv;clear Cv;clear q8;have z651z:=@aa _ @WL;exact pQ):p:=h
theorem ajA(h:p:=by
 rintro _ ⟨q2,rfl⟩;obtain⟨HB2,Ck⟩:=jQ;have Cv:=upK Gv q2.b;clear hne0 HW HB k0 v2 v7 nw Gk Gv Bk Bv hbn n1;have z763z:=@aa _ @Ve;exact pM):p:=h
theorem ajz(h:p:=by
 rintro _ ⟨q2,rfl⟩;obtain⟨HB2,Ck⟩:=jQ;have Cv:=upK Gv q2.b;clear hne0 HW HB k2 v0 v2 v5 v6 Gk Gv Bk Bv;have z763z:=@aa _ @Vc;exact pM):p:=h
theorem ajy(h:p:=by
 rintro _ ⟨q2,rfl⟩;obtain⟨HB2,Ck⟩:=jQ;have Cv:=upK Gv q2.b;clear hne0 HW HB k2 v0 v2 v5 v6 vw Gk Gv Bk Bv hbv v7;have HB:=HB2;clear HB2;have Bk:=Ck;clear Ck;have Bv:=Cv;clear Cv;have z651z:=@aa _ @WK;exact pQ):p:=h
theorem ajx(h:p:=by
 rintro _ ⟨q1,rfl⟩;have HB1:=upB HW q1.b;obtain⟨Ck,Cr⟩:=eu;clear hne0 HW HB k0 k1 k2 k3 k4 k5 r0 r1 r2 r3 r4 r5 Gk Gr Bk pk hb c0 c1 c2 c3 c4 c5;have HB:=HB1;clear HB1;have Bk:=Ck;clear Ck;clear Cr;clear hp2 hp3;have z644z:=@aa _ @P1;exact lA):p:=h
theorem aiK(h:p:=by
 repeat (go_big_quiet_step (first|(go_at_call 115;exact Calls.wide (HC0.out _))|fail))
 have z789z:=@aa _ @UW;exact yL):p:=h
theorem aiJ(h:p:=by
 repeat (go_big_quiet_step (first|(go_at_call 116;exact Calls.wide (HC0.out _))|fail))
 have z789z:=@aa _ @UT;exact yL):p:=h
theorem aiI(h:p:=by
 have z641z:=@aa _ @WT;exact ze):p:=h
theorem aiH(h:p:=by
 have z641z:=@aa _ @WS;exact ze):p:=h
theorem aiG(h:p:=by
 have z1087z:=@aa _ @MB;exact nh):p:=h
theorem aiF(h:p:=by
 have z693z:=@aa _ @V7;exact y8):p:=h
theorem aiE(h:p:=by
 have z1580z:=@aa _ @E6;exact mH):p:=h
theorem aiD(h:p:=by
 have z993z:=@aa _ @R6;exact yr):p:=h
theorem aiC(h:p:=by
 have z993z:=@aa _ @R0;exact yr):p:=h
theorem aiB(h:p:=by
 have z508z:=@aa _ @aaQ;exact lD):p:=h
theorem aiA(h:p:=by
 have z596z:=@aa _ @XE;exact zi):p:=h
theorem aiz(h:p:=by
 have z596z:=@aa _ @XD;exact zi):p:=h
theorem aiy(h:p:=by
 have z508z:=@aa _ @aaP;exact lD):p:=h
theorem aix(h:p:=by
 have z585z:=@aa _ @XN;exact zj):p:=h
theorem aiw(h:p:=by
 have z696z:=@aa _ @V6;exact yZ):p:=h
theorem agi(h:p:=by
 have z585z:=@aa _ @XM;exact zj):p:=h
theorem agh(h:p:=by
 have z696z:=@aa _ @V5;exact yZ):p:=h
theorem afA(h:p:=by
 have HS:=aa hs;clear hs;obtain⟨i2,hi2⟩:=YB.1 Rb;obtain⟨i4,hi4⟩:=YB.1 nL;obtain⟨i1,hi1⟩:=YB.1 Ra;obtain⟨i3,hi3⟩:=YB.1 iY;obtain⟨i5,hi5⟩:=YB.1 nM;have HI1:=aa hi1;have HI2:=aa hi2;have HI3:=aa hi3;have HI4:=aa hi4;have HI5:=aa hi5;clear hi1 hi2 hi3 hi4 hi5;obtain⟨W,hW0⟩:∃W,W=(w.alloc (Y8 (clo6 a1 l1 y1 a2 l2 y2 a3 l3 y3 a4 l4 y4 a5 l5 y5 c.now) 29)).alloc (Y8 (clo6 U 0 0 U 0 0 U 0 0 U 0 0 U 0 0 0) 29):=⟨_,rfl⟩;have HB:Hid (Below w.heap.size w W):=by rw[hW0];exact aS _ _ _
 have Bk:Hid (W.heap[w.heap.size]?=Y5 (Y8 (clo6 a1 l1 y1 a2 l2 y2 a3 l3 y3 a4 l4 y4 a5 l5 y5 c.now) 29 (0,0))):=by rw[hW0];exact eG _ _ _
 obtain⟨Br,hWs⟩:=Oj;go_enter Tryz.func37,Tryz.ntmps37;go_wp2_with fail;rw[<-hW0];clear hW0;have z1302z:=@aa _ @JK;exact gS):p:=h
theorem fe(h:p:=by
 have z448z:=@aa _ @abI;exact b_):p:=h
theorem fc(h:p:=by
 have z483z:=@aa _ @abc;exact cQ):p:=h
theorem aeW(h:p:=by
 by_cases e:j=k
 ·subst e;rw[HXn.out] at hz;exact O6
 ·exact HQ.out j z af hz):p:=h
theorem aeV(h:p:=by
 by_cases e:j=k
 ·subst e;rw[HXv.out] at hz;exact O6
 ·exact HQ.out j z af hz):p:=h
theorem aeU(h:p:=by
 by_cases e:j=k
 ·subst e;rw[HXn.out] at hz;obtain rfl:=Yd hz;exact HCq.out
 ·exact HQ.out j z af hz):p:=h
theorem aeT(h:p:=by
 by_cases e:j=k
 ·subst e;rw[HXp.out] at hz;obtain rfl:=Yd hz;exact⟨HPa.out,HQb.out,λj2 q2 hj2 hq2=>HQ3.out j2 q2 hj2 hq2⟩
 ·exact HQ.out j z af hz):p:=h
theorem cR(h:p:=by
 have z644z:=@aa _ @WO;exact lA):p:=h
theorem lJ(h:p:=by
 have z579z:=@aa _ @XS;exact jB):p:=h
theorem zW(h:p:=by
 obtain⟨i0,hi,hz0,hz1,hz2⟩:=info_parts fk;have z722z:=@aa _ @VM;exact iz):p:=h
theorem adB(h:p:=by
 have HC0:=aa (λqw:Wd wr=>(ik ⟨(Y5 ⟨b1,o1,U⟩),l1,y1,a2,l2,y2,a3,l3,y3,a4,l4,y4,(Y5 ⟨b,o,U⟩),l5,y5⟩ c pq p qa ql qc va vl vc qw.w (HR.below (HW.trans (qw.b.mono HW.size))) HX.out HV.out HNE.out (HTq.below qw.b) (HTp.below qw.b)).mono (λ_ _ h=>au.yes h HPr.out));exact Ps):p:=h
theorem adA(h:p:=by
 have HC0:=aa (λqw:Wd wr=>(ik ⟨(Y5 ⟨b1,o1,U⟩),l1,y1,a2,l2,y2,a3,l3,y3,a4,l4,y4,(Y5 ⟨b,o,U⟩),l5,y5⟩ c pq p qa ql qc va vl vc qw.w (HR.below (HW.trans (qw.b.mono HW.size))) HX.out HV.out HNE.out (HTq.below qw.b) (HTp.below qw.b)).mono (λ_ _ h=>au.no h HPr.out));exact Pq):p:=h
theorem zS(h:p:=by
 have HPr:=aa hpr;clear hpr;have z553z:=@aa _ @aae;exact pT):p:=h
theorem adz(h:p:=by
 refine (A0 d c _ (HR.below HB.out)).mono ?_;have z751z:=@aa _ @Vn;exact yU):p:=h
theorem zR(h:p:=by
 rintro e w1 ⟨r,rfl,hi,hw⟩;have hb:Below (w.alloc (Y8 (clv d c.now) 29)).heap.size (w.alloc (Y8 (clv d c.now) 29)) w1:=by first|(rw[hw];exact Yh _ _)|(rw[<-hw];exact Yh _ _)
 clear hw;have z627z:=@aa _ @Xe;exact iA):p:=h
theorem adx(h:p:=by
 have e12:=hf 12 ag;simp[aj,Yf] at e12;clear hf;exact aK):p:=h
theorem adw(h:p:=by
 clear hf;exact aK):p:=h
theorem lI(h:p:=by
 have z1621z:=@aa _ @EC;exact mw):p:=h
theorem ac_(h:p:=by
 have e11:=hf 11 ag;simp[aj,Yf] at e11;clear hf;go_simp;refine (ft ⟨(Y5 ⟨b1,o1,U⟩),l1,y1,a2,l2,y2,a3,l3,y3,a4,l4,y4,a5,l5,y5⟩ c.now c.ns p.d _ (HR.n.below (BW.trans (hW.mono BW.size))) HNR.out HJn.out HNn.out).mono ?_;rintro e w5 ⟨rfl,hb5⟩;exact hK _ _ hb5 rfl):p:=h
theorem qf(h:p:=by
 have z1618z:=@aa _ @EE;exact mx):p:=h
theorem acZ(h:p:=by
 have hl3:c.vs.length=l3:=uq
 exact Yb HR (Yb hl1 (Yb hm1 hl3))):p:=h
theorem qd(h:p:=by
 refine (im d c t w hr hT.2.1.2.2.2.1.2.2 hT.2.1.2.2.1.2.2 (λj v hv e=>by have h9:=(hT.2.1.2.2.1.2.1 j v hv).1;rw[e] at h9;have h8:=h9.1;revert h8;decide)).mono ?_;exact z342z):p:=h
theorem acR(h:p:=by
 rw[<-kt w t t' o.type e e' i ht ht' hi] at hr;exact Qf):p:=h
theorem acQ(h:p:=by
 rw[<-jq w t t' o.type e e' i ht ht' hi] at hr;exact Qf):p:=h
theorem zM(h:p:=by
 refine wpList_plain hgd λK hK=>?_;obtain⟨v',w',hr,h2,h3,h4⟩:=run_append_own (P:=Tryz.prog) w base t o.type e i z size bytes ht hi hz hsize hby hzs hsz v n xs hown ad m c news hl hnews h1 h63 hbytes hbase;obtain⟨va,vl,vc,rfl⟩:∃a l c,v=J a l c:=by
  exact akl
 exact z352z):p:=h
theorem lF(h:p:=by
 refine Obl.plain rfl ?_;intro ac wg K hsz hW hf hK;clear hsz;have e7:=hf 7 ag;simp[aj,Yf] at e7;exact z368z):p:=h
theorem acu(h:p:=by
 have hend:∀(listed:Array Bool) (a:Act) (w:World),listed.size=ops.size->(∀i,i<ops.size->listed.getD i Y_=Zb)->(∀o,back=Y5 o->listed.getD front.length Y_=Y_)->(∃lo hi,At R sp ex front φs W a0 listed a w lo hi)->Q .normal a w:=by
  rintro listed a w hz hall hb ⟨lo,hi,h⟩;have h1:=hf.last hlen hin h (λi hi=>hall i af);exact wQ
 intro fuel;induction fuel with
 | zero=>
  intro listed a w hz hc hb h;have hall:∀i,i<ops.size->listed.getD i Y_=Zb:=λi hi=>hJ af i af;refine⟨?_,hend listed a w hz hall hb h⟩
  cases hr:YQ .any ops listed with
  | nil=>rfl
  | cons j js=>
   have hm:j∈YQ .any ops listed:=by rw[hr];simp
   obtain⟨h1,o,ho,-⟩:=mem_ready.1 hm;have hj:=(Yw.1 ho).1;rw[<-cU af,hall j hj] at h1
   cases h1
 | succ fuel ih=>
  intro listed a w hz hc hb hlh;refine⟨λhr=>hend listed a w hz (gB hz hlt hr) hb hlh,λj hj=>?_⟩;obtain⟨lo,hi,h⟩:=hlh;obtain⟨hun,o,ho,hall⟩:=mem_ready.1 hj;have hjs:j<ops.size:=(Yw.1 ho).1;have hcs:=count_set (listed:=listed) (i:=j) af hun
  by_cases hjf:j<front.length
  ·have hof:front[j]?=Y5 o:=by rw[hops] at ho;simpa[Yu hjf] using ho
   have hφ:φs[j]?=Y5 (φs[j]'(by omega)):=Yi _;obtain⟨hm,hob⟩:=hs j o _ hof hφ
   have hfacts:∀t∈o.looksAt ops,aj ex o.dst a0 (knAll [] (front.take j) (φs.take j)) a w lo hi t:=by
    intro t ht;unfold aj
    cases hk:(knAll [] (front.take j) (φs.take j)).lookup t with
    | some φ=>
     rcases cZ _ _ _ hk with ⟨i,p,h1,h2,h3⟩|h1
     ·have hij:i<j:=by have:=(Yc.1 h1).1;simp at this;omega
      rw[YA,if_pos hij] at h1 h3;obtain⟨-,e,he,hon,hbi⟩:=hdep j o hof t ht i p h1 h2;have hl:=hall e he hbi;rw[hon] at hl;intro hex;refine h.known i p φ h1 h3 t h2 hl (λe9 he i' p' hp' hd'=>?_)
      rcases hex with h9|h9
      ·rw[h9] at he;cases he
      ·have:i'=j:=fG front hn hp' hof hd' (h9.symm.trans he);subst this;rw[cU af];exact hun
     ·simp at h1
    | none=>
     refine h.other t (λi p hp hd=>?_)
     exfalso
     obtain⟨hij,-⟩:=hdep j o hof t ht i p hp hd;have hi:=(Yc.1 hp).1;exact (c_ _ _ _ hk).2 i p (φs[i]'(by omega)) Ag Aj hd
   have hfind:∀t∈o.looksAt ops,((knAll [] (front.take j) (φs.take j)).lookup t).isSome=Zb->∃(i:Nat) (p:Oper),front[i]?=Y5 p/\p.dst=Y5 t/\listed.getD i Y_=Zb:=by
    intro t ht hk;obtain⟨φ,hφ'⟩:=Option.isSome_iff_exists.1 hk
    rcases cZ _ _ _ hφ' with ⟨i,p,h1,h2,h3⟩|h1
    ·have hij:i<j:=by have:=(Yc.1 h1).1;simp at this;omega
     rw[YA,if_pos hij] at h1;obtain⟨-,e,he,hon,hbi⟩:=hdep j o hof t ht i p h1 h2;have hl:=hall e he hbi;rw[hon] at hl;exact⟨i,p,h1,h2,hl⟩
    ·simp at h1
   have hap:q_ (knAll [] (front.take j) (φs.take j)) lo hi (o.looksAt ops):=by
    intro t ht t' ht' hk hk' hne;obtain⟨i,p,h1,h2,h3⟩:=hfind t ht hk;obtain⟨i',p',g1,g2,g3⟩:=hfind t' ht' hk';exact h.apart i p i' p' h1 g1 t t' h2 g2 h3 g3 hne
   have hpre:o.dst=Y5 sp->Below W.heap.size W w:=λhd=>h.pre (λi p hp hd'=>by
    have:i=j:=fG front hn hp hof hd' hd;subst this;rw[cU af]
    exact hun)
   have h1:=hob a w (wpAny P .any ops Q fuel (listed.setIfInBounds j Zb)) lo hi h.size h.below hpre hfacts hap (λv w' hbw hv=>by
    refine ih _ _ _ (by simpa using hz) af (λo' ho'=>?_) (h.step hR (hds o (Ys hof)) hn hin (λi o φ h1 h2=>(hs i o φ h1 h2).1) hof hφ af hbw hv);have h2:=hb o' ho'
    have e:¬j=front.length:=af
    simpa[Yr,Array.getElem?_setIfInBounds,e] using h2)
   unfold wpOp;rw[ho]
   simp only
   split
   ·rename_i hw;rw[if_pos hw] at h1;exact Ze h1
   ·rename_i hw;rw[if_neg hw] at h1;exact h1
  ·cases hk:back with
   | none=>rw[hk] at hsz;simp at hsz;omega
   | some b=>
    have hjn:j=front.length:=by rw[hk] at hsz;simp at hsz;omega
    subst hjn
    have hob:o=b:=by
     rw[hops,hk] at ho
     simp at ho
     exact ho.symm
    subst hob
    have hfl:∀i,i<front.length->listed.getD i Y_=Zb:=λi hi=>by
     obtain⟨e,he,hon,hbi⟩:=hback o hk i hi;have:=hall e he hbi
     rwa [hon] at this
    have h1:=hf.last hlen hin h hfl;rw[hk] at h1
    have h2:=h1 (wpAny P .any ops Q fuel (listed.setIfInBounds front.length Zb)) (λa' w' hq=>by
     have hr:YQ .any ops (listed.setIfInBounds front.length Zb)=[]:=by
      cases hr:YQ .any ops (listed.setIfInBounds front.length Zb) with
      | nil=>rfl
      | cons i is=>
       have hm:i∈YQ .any ops (listed.setIfInBounds front.length Zb):=by rw[hr];simp
       obtain⟨h3,o',ho',-⟩:=mem_ready.1 hm;have hi:=(Yw.1 ho').1
       exfalso
       by_cases e:front.length=i
       ·subst e
        simp[Yr,show front.length<listed.size from by omega] at h3
       ·have h4:=hfl i (by rw[hk] at hsz;simp at hsz;omega);rw[cU af] at h4
        simp[Yr,e] at h3 h4
        rw[h3] at h4
        cases h4
     cases fuel with
     | zero=>exact⟨hr,hq⟩
     | succ fuel=>exact⟨λ_=>hq,λi hi=>by rw[hr] at hi;cases hi⟩)
    unfold wpOp;rw[ho]
    simp only
    split
    ·rename_i hw;rw[if_pos hw] at h2;exact Ze h2
    ·rename_i hw;rw[if_neg hw] at h2;exact h2):p:=h
theorem acs(h:p:=by
 have hend:∀(listed:Array Bool) (a:Act) (w:World),listed.size=ops.size->(∀i,i<ops.size->listed.getD i Y_=Zb)->(∀o,back=Y5 o->listed.getD front.length Y_=Y_)->Ac front φs W a0 listed a w->Q .normal a w:=by
  intro listed a w hz hall hb h;have h1:=Fin.last hf hlen hin h.old (λi hi=>hall i af);exact wQ
 intro fuel;induction fuel with
 | zero=>
  intro listed a w hz hc hb h;have hall:∀i,i<ops.size->listed.getD i Y_=Zb:=λi hi=>hJ af i af;refine⟨?_,hend listed a w hz hall hb h⟩
  cases hr:YQ .any ops listed with
  | nil=>rfl
  | cons j js=>
   have hm:j∈YQ .any ops listed:=by rw[hr];simp
   obtain⟨h1,o,ho,-⟩:=mem_ready.1 hm;have hj:=(Yw.1 ho).1;rw[<-cU af,hall j hj] at h1
   cases h1
 | succ fuel ih=>
  intro listed a w hz hc hb h;refine⟨λhr=>hend listed a w hz (gB hz hlt hr) hb h,λj hj=>?_⟩;obtain⟨hun,o,ho,hall⟩:=mem_ready.1 hj;have hjs:j<ops.size:=(Yw.1 ho).1;have hcs:=count_set (listed:=listed) (i:=j) af hun
  by_cases hjf:j<front.length
  ·have hof:front[j]?=Y5 o:=by rw[hops] at ho;simpa[Yu hjf] using ho
   have hφ:φs[j]?=Y5 (φs[j]'(by omega)):=Yi _;obtain⟨hm,hob⟩:=hs j o _ hof hφ
   have hfacts:∀t∈o.looksAt ops,aj a0 (knAll [] (front.take j) (φs.take j)) a w t:=by
    intro t ht;unfold aj
    cases hk:(knAll [] (front.take j) (φs.take j)).lookup t with
    | some φ=>
     rcases cZ _ _ _ hk with ⟨i,p,h1,h2,h3⟩|h1
     ·have hij:i<j:=by have:=(Yc.1 h1).1;simp at this;omega
      rw[YA,if_pos hij] at h1 h3;obtain⟨-,e,he,hon,hbi⟩:=hdep j o hof t ht i p h1 h2;have hl:=hall e he hbi;rw[hon] at hl;exact h.old.known i p φ h1 h3 t h2 hl
     ·simp at h1
    | none=>
     refine h.old.other t (λi p hp hd=>?_)
     exfalso
     obtain⟨hij,-⟩:=hdep j o hof t ht i p hp hd;have hi:=(Yc.1 hp).1;exact (c_ _ _ _ hk).2 i p (φs[i]'(by omega)) Ag Aj hd
   have h1:=hob a w (wpAny P .any ops Q fuel (listed.setIfInBounds j Zb)) h.old.size h.old.below hfacts (λv w' hbw hv=>by
    refine ih _ _ _ (by simpa using hz) af (λo' ho'=>?_) ⟨h.old.step hn hin (λi o φ h1 h2=>(hs i o φ h1 h2).1) hof hφ af hbw hv,λj' o' ho' hl e he hbe=>(by
     by_cases ej:j=j'
     ·subst ej;obtain rfl:o=o':=Yd (hof.symm.trans ho');exact Gs.aln (hall e he hbe)
     ·exact Gs.aln (h.cl j' o' ho' (Gs.alc ej hl) e he hbe))⟩
    have h2:=hb o' ho'
    have e:¬j=front.length:=af
    simpa[Yr,Array.getElem?_setIfInBounds,e] using h2)
   unfold wpOp;rw[ho]
   simp only
   split
   ·rename_i hw;rw[if_pos hw] at h1;exact Ze h1
   ·rename_i hw;rw[if_neg hw] at h1;exact h1
  ·cases hk:back with
   | none=>rw[hk] at hsz;simp at hsz;omega
   | some b=>
    have hjn:j=front.length:=by rw[hk] at hsz;simp at hsz;omega
    subst hjn
    have hob:o=b:=by
     rw[hops,hk] at ho
     simp at ho
     exact ho.symm
    subst hob
    have hfl:∀i,i<front.length->listed.getD i Y_=Zb:=λi hi=>by
     obtain⟨e,he,hbi,hon⟩:=hback o hk i hi;have hl:=hall e he hbi
     rcases hon with hon|⟨p,hp,e',he',hon,hbi'⟩
     ·rwa [hon] at hl
     ·have:=h.cl e.on p hp hl e' he' hbi'
      rwa [hon] at this
    have h1:=Fin.last hf hlen hin h.old hfl;rw[hk] at h1
    have h2:=h1 (wpAny P .any ops Q fuel (listed.setIfInBounds front.length Zb)) (λa' w' hq=>by
     have hr:YQ .any ops (listed.setIfInBounds front.length Zb)=[]:=by
      cases hr:YQ .any ops (listed.setIfInBounds front.length Zb) with
      | nil=>rfl
      | cons i is=>
       have hm:i∈YQ .any ops (listed.setIfInBounds front.length Zb):=by rw[hr];simp
       obtain⟨h3,o',ho',-⟩:=mem_ready.1 hm;have hi:=(Yw.1 ho').1
       exfalso
       by_cases e:front.length=i
       ·subst e
        simp[Yr,show front.length<listed.size from by omega] at h3
       ·have h4:=hfl i (by rw[hk] at hsz;simp at hsz;omega);rw[cU af] at h4
        simp[Yr,e] at h3 h4
        rw[h3] at h4
        cases h4
     cases fuel with
     | zero=>exact⟨hr,hq⟩
     | succ fuel=>exact⟨λ_=>hq,λi hi=>by rw[hr] at hi;cases hi⟩)
    unfold wpOp;rw[ho]
    simp only
    split
    ·rename_i hw;rw[if_pos hw] at h2;exact Ze h2
    ·rename_i hw;rw[if_neg hw] at h2;exact h2):p:=h
theorem ab5(h:p:=by
 clear hf;exact aK):p:=h
theorem pZ(h:p:=by
 refine Obl.plain rfl ?_;intro ac wg K hsz hW hf hK;clear hsz;have e6:=hf 6 ag;simp[aj,Yf] at e6;exact z416z):p:=h
theorem ab3(h:p:=by
 clear hf;exact aK):p:=h
theorem pY(h:p:=by
 refine Obl.plain rfl ?_;intro ac wg K hsz hW hf hK;clear hsz;have e2:=hf 2 ag;simp[aj,Yf] at e2;exact z419z):p:=h
theorem abW(h:p:=by
 have hr:=jr (ty:=o.type) ht hi hown ax c;exact Qo):p:=h
theorem abV(h:p:=by
 have hr:=kv (ty:=o.type) ht hi hown ax c;exact Qo):p:=h
theorem zt(h:p:=by
 have hl0:l=0:=by
  rcases Nat.eq_zero_or_pos l with e|e
  ·exact e
  ·have:=Nat.mul_pos e hsz;simp at hl;omega
 subst hl0;refine wpList_plain hgd λK hK=>?_;exact z430z):p:=h
theorem abI(h:p:=by
 exact z145z):p:=h
theorem cG(h:p:=by
 have z846z:=@aa _ @T9;exact eA):p:=h
theorem abc(h:p:=by
 exact z182z):p:=h
theorem cQ(h:p:=by
 have z886z:=@aa _ @Tu;exact fR):p:=h
theorem aaS(h:p:=by
 by_cases hg:∃(i:Nat) (x:Xd),c.xs[i]?=Y5 x/\x.n=t;rotate_left
 ·have HG:=aa hg;clear hg;have z915z:=@aa _ @S8;exact fP
 obtain⟨i4,x4,g1,g2⟩:=hg;obtain⟨HG1,HG2,hi41⟩:=qp;clear g1 g2;have z915z:=@aa _ @S9;exact fP):p:=h
theorem aaR(h:p:=by
 by_cases hg:∃(i:Nat) (x:Xd),c.xs[i]?=Y5 x/\x.n=t;rotate_left
 ·have HG:=aa hg;clear hg;have z915z:=@aa _ @S6;exact fP
 obtain⟨i4,x4,g1,g2⟩:=hg;obtain⟨HG1,HG2,hi41⟩:=qp;clear g1 g2;have z915z:=@aa _ @S7;exact fP):p:=h
theorem aaQ(h:p:=by
 by_cases hg:∃(i:Nat) (x:Xd),c.xs[i]?=Y5 x/\x.n=t;rotate_left
 ·have HG:=aa hg;clear hg;have z915z:=@aa _ @S5;exact fP
 obtain⟨i4,x4,g1,g2⟩:=hg;obtain⟨HG1,HG2,hi41⟩:=qp;clear g1 g2;have hbv:=Yj HB3.out HB.size;have v2:=(ai HB.out HB3.out).trans HC2.out;have hbn:=Yj HBn.out HB.size;have n1:=(ai HB.out HBn.out).trans HCn.out;by_cases hz:v.z=n.z
 ·have hzq:=aP hz;have HZ:=aa hz;clear hz;have z923z:=@aa _ @S2;exact pJ
 ·have hzq:=bu hz;have HZ:=aa hz;clear hz;have z923z:=@aa _ @S1;exact pJ):p:=h
theorem aaP(h:p:=by
 by_cases hg:∃(i:Nat) (x:Xd),c.xs[i]?=Y5 x/\x.n=t;rotate_left
 ·have HG:=aa hg;clear hg;have z915z:=@aa _ @S3;exact fP
 obtain⟨i4,x4,g1,g2⟩:=hg;obtain⟨HG1,HG2,hi41⟩:=qp;clear g1 g2;have z915z:=@aa _ @S4;exact fP):p:=h
theorem lD(h:p:=by
 have z1066z:=@aa _ @MS;exact nj):p:=h
theorem aaM(h:p:=by
 have ltr_2:=ae Br.out;obtain⟨fr0,fr1,fr2,fr3,fr4,fr5,fr6,fr7⟩:=gJ;have hrl:w.heap.size+1<w2.heap.size:=ae Br.out;exact z1z):p:=h
theorem lC(h:p:=by
 replace Br:=upK Br hb;replace HB:=upB HB hb;clear hb;obtain⟨r0,r1,r2,r3,r4,r5,r6,r7⟩:=cs8 Br;exact z516z):p:=h
theorem aau(h:p:=by
 obtain⟨HR,hl1,hm1,hl3⟩:=Aq;obtain⟨hl5,hm5⟩:=nu;clear hr;have HNR:=aa hn;obtain⟨HX,HV,HNE⟩:=iU;have HL5:=aa hps8;have HPC:=aa hpc;clear hn hx hv hne hps8 hpc;go_enter Tryz.func70,Tryz.ntmps70;go_wp2;go_loopw [3] (λi wr=> ∃k:Nat,k<=l5/\i=Y7 Y6 k/\Hid (∀(j:Nat) z,j<k->c.ps[j]?=Y5 z->PS c j z)/\Hid (Below w.heap.size w wr)/\Hid (wr.heap[w.heap.size]?=Y5 (Y8 (clo6 a1 l1 y1 a2 l2 y2 a3 l3 y3 a4 l4 y4 a5 l5 y5 c.now) 29 (0,0)))) (λi _=>l5 - (intOf i).toNat);case atStart=>exact⟨0,by omega,rfl,λ_ _ h=>absurd h af,ak _ _,Yg⟩
 case round=>
  obtain⟨k,hk,rfl,HQ,HB,Bk⟩:=hrel;have pk:=ck4 Bk;by_cases hlt:k<l5
  ·have z1589z:=@aa _ @E0;exact so
  ·obtain rfl:l5=k:=af
   have HQ1:Hid (∀(k:Nat) p,c.ps[k]?=Y5 p->PS c k p):=λj z hz=>HQ.out j z dz hz;clear HQ;go_wp2;clear pk;go_loopw [9] (λi wr=> ∃k:Nat,k<=l1/\i=Y7 Y6 k/\Hid (∀(j:Nat) n,j<k->c.ns[j]?=Y5 n->cpuOf n.n c.ps<=n.c)/\Hid (Below w.heap.size w wr)/\Hid (wr.heap[w.heap.size]?=Y5 (Y8 (clo6 a1 l1 y1 a2 l2 y2 a3 l3 y3 a4 l4 y4 a5 l5 y5 c.now) 29 (0,0)))) (λi _=>l1 - (intOf i).toNat);case atStart=>exact⟨0,by omega,rfl,λ_ _ h=>absurd h af,HB.out,Bk.out⟩
   case round=>
    obtain⟨k,hk,rfl,HQ,HB,Bk⟩:=hrel;have pk:=ck0 Bk;by_cases hlt:k<l1
    ·have z900z:=@aa _ @Tk;exact fQ
    ·exact P7):p:=h
theorem aat(h:p:=by
 have z1775z:=@aa _ @CC;exact rQ):p:=h
theorem aas(h:p:=by
 have HR:=aa hr;have hl1:c.ns.length=l1:=by simpa using (show (c.ns.map ndF).length=l1 from hr.n.1)
 have hl3:c.vs.length=l3:=uq
 clear hr;have HNR:=aa hn;obtain⟨HX,HV,HNE⟩:=iU;have HP:=aa hp;have HBD:=aa hbd;have hlc:=Yp hp.2.1 hp.2.2.1;have hzl:=hp.1;have hl1':j1<l1:=by have h3:=(Yc.1 hj1).1;omega
 obtain⟨b1,o1,n',rfl,hb1n,hn',hat⟩:=dh HR.n hl1';rw[hj1] at hn';obtain rfl:=Yd hn';obtain⟨na,nl,nc,hnr,z0,z1,d0,d1,d2,d3,d4,d5,d6⟩:=bg hat;have HJn:=aa hj1;have HNn:=aa hnn;have HTn:=aa hnr;have HBn:=aa hb1n;have HD:Hid (w.cell? ⟨b1,o1+j1*7,U⟩=Y5 (I n.n)/\w.cell? ⟨b1,o1+j1*7+1,U⟩=Y5 (I n.z)/\w.cell? ⟨b1,o1+j1*7+2,U⟩=Y5 (Y7 Y6 n.c)/\w.cell? ⟨b1,o1+j1*7+3,U⟩=Y5 (Y7 Y6 n.s)/\w.cell? ⟨b1,o1+j1*7+4,U⟩=Y5 (Y7 Y6 n.u)/\w.cell? ⟨b1,o1+j1*7+5,U⟩=Y5 (Y9 n.d)/\w.cell? ⟨b1,o1+j1*7+6,U⟩=Y5 (J na nl nc)):=⟨d0,d1,d2,d3,d4,d5,d6⟩;clear hn' hat hnr z0 z1 d0 d1 d2 d3 d4 d5 d6 hj1 hnn hb1n hn hx hv hne hp hbd;obtain⟨W,hW0⟩:∃W,W=(w.alloc (Y8 (clo6 (Y5 ⟨b1,o1,U⟩) l1 y1 a2 l2 y2 a3 l3 y3 a4 l4 y4 a5 l5 y5 c.now) 29)).alloc (Y8 (pov p pa pl pc) 40):=⟨_,rfl⟩;have GK:Hid (W.heap[w.heap.size]?=Y5 (Y8 (clo6 (Y5 ⟨b1,o1,U⟩) l1 y1 a2 l2 y2 a3 l3 y3 a4 l4 y4 a5 l5 y5 c.now) 29 (0,0))):=by rw[hW0];exact eG _ _ _
 have GP:Hid (W.heap[w.heap.size+1]?=Y5 (Y8 (pov p pa pl pc) 40 (0,0))):=by rw[hW0];exact eF _ _ _
 have BW:Hid (Below w.heap.size w W):=by rw[hW0];exact aS _ _ _
 go_enter Tryz.func117,Tryz.ntmps117;go_wp2_with fail;rw[<-hW0];clear hW0;have z1302z:=@aa _ @JJ;exact gS):p:=h
theorem aar(h:p:=by
 obtain⟨HR,hl1,hm1,hl3⟩:=Aq;obtain⟨hl5,hm5⟩:=nu;clear hr;have HNR:=aa hn;obtain⟨HX,HV,HNE⟩:=iU;have HRun:=aa hrun;clear hn hx hv hne hrun;go_enter Tryz.func72,Tryz.ntmps72;go_wp2;go_loopw [3] (λi wr=> ∃k:Nat,k<=l1/\i=Y7 Y6 k/\Hid (∀(j:Nat) z,j<k->c.ns[j]?=Y5 z->RD c z)/\Hid (Below w.heap.size w wr)/\Hid (wr.heap[w.heap.size]?=Y5 (Y8 (clo6 a1 l1 y1 a2 l2 y2 a3 l3 y3 a4 l4 y4 a5 l5 y5 c.now) 29 (0,0)))) (λi _=>l1 - (intOf i).toNat);case atStart=>exact⟨0,by omega,rfl,λ_ _ h=>absurd h af,ak _ _,Yg⟩
 case round=>
  obtain⟨k,hk,rfl,HQ,HB,Bk⟩:=hrel;have pk:=ck0 Bk;by_cases hlt:k<l1
  ·have z900z:=@aa _ @Ti;exact fQ
  ·have z1636z:=@aa _ @Er;exact sh):p:=h
theorem aag(h:p:=by
 obtain⟨q0,q1,q2,q3,q4,q5,hne0⟩:=ajV;have HC0:=aa (λqw:Wd wr=>(ik ⟨a1,l1,y1,a2,l2,y2,a3,l3,y3,a4,l4,y4,(Y5 ⟨b,o,U⟩),l5,y5⟩ c pq p qa ql qc va vl vc qw.w (HR.below (HW.trans (qw.b.mono HW.size))) HX.out HV.out HNE.out (HTq.below qw.b) (HTp.below qw.b)).mono (λ_ _ h=>au.yes h HPr.out));exact Ps):p:=h
theorem aaf(h:p:=by
 obtain⟨q0,q1,q2,q3,q4,q5,hne0⟩:=ajV;have HC0:=aa (λqw:Wd wr=>(ik ⟨a1,l1,y1,a2,l2,y2,a3,l3,y3,a4,l4,y4,(Y5 ⟨b,o,U⟩),l5,y5⟩ c pq p qa ql qc va vl vc qw.w (HR.below (HW.trans (qw.b.mono HW.size))) HX.out HV.out HNE.out (HTq.below qw.b) (HTp.below qw.b)).mono (λ_ _ h=>au.no h HPr.out));exact Pq):p:=h
theorem aae(h:p:=by
 obtain⟨q0,q1,q2,q3,q4,q5,hne0⟩:=ajV;exact z291z):p:=h
theorem pT(h:p:=by
 have z923z:=@aa _ @S0;exact pJ):p:=h
theorem X6(h:p:=by
 have e3:=hf 3 ag;simp[Gi.aj,Yf] at e3;clear hf;exact nx):p:=h
theorem X5(h:p:=by
 have e50:=hf 50 ag;simp[Gi.aj,Yf] at e50;clear hf;obtain⟨o0,o1,o2,o3,o4,o5⟩:=cs6 ((hW.block b3 hor (λe=>by have:=(HO.lt _ e.symm).1;omega)).trans Bo.out);exact nx):p:=h
theorem X4(h:p:=by
 have e1:=hf 1 ag;simp[Gi.aj,Yf] at e1;clear hf;exact nx):p:=h
theorem X0(h:p:=by
 have e52:=hf 52 ag;simp[Gi.aj,Yf] at e52;clear hf;obtain⟨k0,k1,k2,k3,k4,k5⟩:=cs6 ((hW.block w.heap.size hkr (λe=>by have:=(HO.lt _ e.symm).1;omega)).trans BkR.out);exact nx):p:=h
theorem XZ(h:p:=by
 have e6:=hf 6 ag;simp[Gi.aj,Yf] at e6;clear hf;exact nx):p:=h
theorem XY(h:p:=by
 have e53:=hf 53 ag;simp[Gi.aj,Yf] at e53;have e54:=hf 54 ag;simp[Gi.aj,Yf] at e54;clear hf;exact nx):p:=h
theorem XX(h:p:=by
 have e55:=hf 55 ag;simp[Gi.aj,Yf] at e55;clear hf;have c0g:=(World.cell?_of_block (hW.block b hbr (λe=>by have:=(HO.lt _ e.symm).1;omega))).trans c0;have c1g:=(World.cell?_of_block (hW.block b hbr (λe=>by have:=(HO.lt _ e.symm).1;omega))).trans c1;have c2g:=(World.cell?_of_block (hW.block b hbr (λe=>by have:=(HO.lt _ e.symm).1;omega))).trans c2;have c3g:=(World.cell?_of_block (hW.block b hbr (λe=>by have:=(HO.lt _ e.symm).1;omega))).trans c3;have c4g:=(World.cell?_of_block (hW.block b hbr (λe=>by have:=(HO.lt _ e.symm).1;omega))).trans c4;have c5g:=(World.cell?_of_block (hW.block b hbr (λe=>by have:=(HO.lt _ e.symm).1;omega))).trans c5;have c6g:=(World.cell?_of_block (hW.block b hbr (λe=>by have:=(HO.lt _ e.symm).1;omega))).trans c6;have c7g:=(World.cell?_of_block (hW.block b hbr (λe=>by have:=(HO.lt _ e.symm).1;omega))).trans c7;exact nx):p:=h
theorem XW(h:p:=by
 have e56:=hf 56 ag;simp[Gi.aj,Yf] at e56;clear hf;have hBg:=HBW.grown hW HBW.size (λg hg=>by have:=(HO.lt g hg).1;omega);go_simp;refine (Ap.ald x.n x.c x.z x.k x.x x.m x.y va vl vc x.zs _ (HT.below hBg) hz8).mono ?_;rintro e w6 ⟨a',l',c',rfl,ho1,ho2,hb6⟩;have hws:=hW.size;exact hK _ _ (Rv.other ag hb6) ⟨a',l',c',rfl,bS.bm ⟨ho1,ho2⟩ (λk _ s=>Yp hws s)⟩):p:=h
theorem XV(h:p:=by
 have e57:=hf 57 ag;simp[Gi.aj,Yf] at e57;clear hf;obtain⟨a',l',c',e57,ho⟩:=e57;have HO7:=aa ho;clear ho;go_simp;exact hK _ _ (Rv.other ag (ak _ _)) ⟨_,a',l',c',rfl,hW.size,Yg,HO7.below (ak _ _)⟩):p:=h
theorem eB(h:p:=by
 refine Gi.Obl.plain rfl ?_;intro ac wg K lo hi hsz hW hpr hf hap hK;clear hsz hap hpr;have hW:wr.grownBy wg v.ownBlock:=hW;exact z566z):p:=h
theorem XS(h:p:=by
 exact z243z):p:=h
theorem jB(h:p:=by
 have z969z:=@aa _ @So;exact ir):p:=h
theorem XN(h:p:=by
 go_wp2;go_ret;refine au.f (λh=>?_) HB.out;have h9:=(h.1 k p HXp.out).2.1 kq t HXt.out;exact HG.out h9.1):p:=h
theorem XM(h:p:=by
 have z1095z:=@aa _ @Mx;exact nf):p:=h
theorem zj(h:p:=by
 have z1039z:=@aa _ @Nh;exact tX):p:=h
theorem XE(h:p:=by
 clear hne0 HW HB HC0 k0 k1 k2 k3 k4 k5 r0 r1 r2 r3 r4 r5 tw vw nw Gk Gr Bk Br hc1 hb1 hbv v2 hbn n1;have HB:=HB2;clear HB2;have Bk:=Ck;clear Ck;have Br:=Cr;clear Cr;clear hzq;have z1095z:=@aa _ @Mw;exact nf):p:=h
theorem XD(h:p:=by
 clear hne0 HW HB HC0 k0 k1 k2 k3 k4 k5 r0 r1 r2 r3 r4 r5 tw vw nw Gk Gr Bk Br hc1 hb1 hbv v2 hbn n1;have HB:=HB2;clear HB2;have z1027z:=@aa _ @No;exact gY):p:=h
theorem zi(h:p:=by
 have z1039z:=@aa _ @Ng;exact tX):p:=h
theorem Xq(h:p:=by
 replace c6:=(ai HBW.out hb0).trans c6;have hbr:=Yj hb0 HBW.size;have hkr:=ae BkR.out;have hor:=ae Bo.out;have hz:i1.zero=Y5 (Zc #[I ⟨#[]⟩,I ⟨#[]⟩,Y7 Y6 0,Y7 Y6 0,Y7 Y6 0,Y9 Y_,J U 0 0])/\i1.size=7/\i1.bytes=88:=by have:=HI1.2;simp only[Prod.mk.injEq] at this;exact this
 have z1005z:=@aa _ @NJ;exact ue):p:=h
theorem Xp(h:p:=by
 have hbr:=Yj hb0 HBW.size;have hkr:=ae BkR.out;have hor:=ae Bo.out;have hz:i5.zero=Y5 (Zc #[I ⟨#[]⟩,Y7 Y6 0,I ⟨#[]⟩,J U 0 0,I ⟨#[]⟩,Y7 Y6 0])/\i5.size=6/\i5.bytes=88:=by have:=HI5.2;simp only[Prod.mk.injEq] at this;exact this
 have z1005z:=@aa _ @NI;exact ue):p:=h
theorem zh(h:p:=by
 have z1525z:=@aa _ @FQ;exact sB):p:=h
theorem Xe(h:p:=by
 have HI1:=aa hi;clear hi;cases r
 ·exact Qx
 obtain⟨k0,k1,k2,k3,k4,k5⟩:=cs6 Bk;go_wp2_with fail;exact z294z):p:=h
theorem iA(h:p:=by
 have z1073z:=@aa _ @MN;exact fC):p:=h
theorem WT(h:p:=by
 go_wp2_with fail;refine⟨⟨k+1,by omega,by go_num,λj s hj hs=>?_,HBY.trans (q2.b.mono HBY.size)⟩,by simp[intOf];omega⟩;by_cases e:j=k
 ·subst e;rw[HXt.out] at hs;obtain rfl:=Yd hs;exact⟨v,HDb.out,HIn.out⟩
 ·exact HQ.out j s af hs):p:=h
theorem WS(h:p:=by
 go_wp2;go_ret;refine au.f (λh=>?_) HB.out;obtain⟨v2,e1,e2⟩:=h k t HXt.out;obtain rfl:=aO.inj HX.out HV.out HDb.out e1;exact HIn.out e2):p:=h
theorem ze(h:p:=by
 repeat (go_big_quiet_step (first|(go_at_call 34;exact Calls.wide (HC0.out _))|(go_at_call 36;exact Calls.wide (HC1.out _))|fail))
 refine wpQuiet_nil ?_;rintro _ ⟨q2,rfl⟩;have HB1:=upB HW q2.b;have Ck:=upK Gk q2.b;have Cp:=upK Gp q2.b;have Cn:=upK Gn q2.b;clear hne0 HW HB HC0 HC1 k0 k1 k2 k3 k4 k5 p3 n6 tw vw Gk Gp Gn Bk Bp Bn pp hb hc hbv v0;have HB:=HB1;clear HB1;have Bk:=Ck;clear Ck;have Bp:=Cp;clear Cp;have Bn:=Cn;clear Cn;exact z641z):p:=h
theorem WQ(h:p:=by
 by_cases e:j=k
 ·subst e;rw[HXp.out] at hz;obtain rfl:=Yd hz;exact λ_=>⟨j1,n,HJn.out,HNn.out,HDd.out,HAl.out⟩
 ·exact HQ.out j z af hz):p:=h
theorem WO(h:p:=by
 exact z191z):p:=h
theorem WL(h:p:=by
 by_cases e:j=kq
 ·subst e;rw[HXt.out] at hs;obtain rfl:=Yd hs;exact⟨j1,n,HJn.out,HNn.out,HZ.out⟩
 ·exact HQ2.out j s af hs):p:=h
theorem WK(h:p:=by
 by_cases e:j=kq
 ·subst e;rw[HXt.out] at hs;obtain rfl:=Yd hs;exact⟨j3,v,HJ.out,HNv.out,Ze HDd.out⟩
 ·exact HQ2.out j s af hs):p:=h
theorem WJ(h:p:=by
 by_cases e:j=kq
 ·subst e;rw[HXt.out] at hs;obtain rfl:=Yd hs;exact⟨j3,v,HJ.out,HNv.out,Zd HIn.out⟩
 ·exact HQ2.out j s af hs):p:=h
theorem pQ(h:p:=by
 have z1095z:=@aa _ @Mv;exact nf):p:=h
theorem Wa(h:p:=by
 clear hq2;exact Pv):p:=h
theorem V_(h:p:=by
 clear hq2 hq3;exact Pv):p:=h
theorem V9(h:p:=by
 go_wp2;go_ret;refine au.f (λh=>?_) HB.out;rcases (h.1 k p HXp.out).1 with h2|⟨i,n',h2,h3,h4⟩
 ·exact HEm.out h2
 ·obtain⟨_,rfl⟩:=HNR.inj h2 HJn.out (h3.trans HNn.symm);rcases h4 with h4|h4
  ·exact HZ0.out h4
  ·exact HZ1.out h4):p:=h
theorem pO(h:p:=by
 rintro _ ⟨q0,rfl⟩;obtain⟨HB2,Ck,Cr,CHTp⟩:=ahf;clear hne0 HW HB k0 r0 r1 r2 r3 r4 r5 nw Gk Gr Bk Br HTp hbn n1;have HB:=HB2;clear HB2;have HTp:=CHTp;clear CHTp;have Bk:=Ck;clear Ck;have Br:=Cr;clear Cr;exact z689z):p:=h
theorem V7(h:p:=by
 have Cv:=upK Gv q2.b;clear hne0 HW HB HC0 k2 v0 v2 v5 v6 vw Gk Gv Bk Bv hbv v7;have HB:=HB2;clear HB2;have Bk:=Ck;clear Ck;have Bv:=Cv;clear Cv;go_wp2;go_ret;refine au.f (λh=>?_) HB.out;obtain⟨i,v2,e1,e2,e3⟩:=(h.1 k n HXn.out) kq t HXt.out;obtain⟨_,rfl⟩:=HV.inj e1 HJ.out (e2.trans HNv.symm);rcases e3 with e3|e3
 ·rw[HDd.out] at e3;cases e3
 ·exact HIn.out e3):p:=h
theorem V6(h:p:=by
 go_wp2_with fail;refine⟨⟨kz+1,by omega,by go_num,λj s hj hs=>?_,HBW.trans (q9.b.mono HBW.size)⟩,by simp[intOf];omega⟩;by_cases e:j=kz
 ·subst e;rw[HXq.out] at hs;obtain rfl:=Yd hs;exact HPr.out
 ·exact HQ3.out j s af hs):p:=h
theorem V5(h:p:=by
 go_wp2;go_ret;exact au.f (λh=>HPr.out ((h.1 k p HXp.out).2.2 kz pq hlt3 HXq.out)) HB.out):p:=h
theorem yZ(h:p:=by
 repeat (go_big_quiet_step (first|(go_at_call 114;exact Calls.wide (HC0.out _))|fail))
 refine wpQuiet_nil ?_;rintro _ ⟨q9,rfl⟩;have HB1:=upB HW q9.b;have Ck:=upK Gk q9.b;have Cr:=upK Gr q9.b;clear hne0 HW HB HC0 k0 k1 k2 k3 k4 k5 r0 r1 r2 r3 r4 r5 q0 q1 q2 q3 q4 q5 Gk Gr Bk Br d0 d1 d2 d3 d4 d5;have HB:=HB1;clear HB1;have Bk:=Ck;clear Ck;have Br:=Cr;clear Cr;exact z696z):p:=h
theorem VM(h:p:=by
 have HC:Hid (∀(j:Nat) u,(zs.map Ym)[j]?=Y5 u->∃g o9,a=Y5 ⟨g,o9,U⟩/\g<w.heap.size/\w.cell? ⟨g,o9+j,U⟩=Y5 u):=λj u hu=>by
  exact akz
 have HZS:Hid (∀(k j:Nat) z,(zs.take k++[t]++zs.drop k)[j]?=Y5 z->z.size<=9223372036854775807):=λk j z hz=>by
  exact al3
 obtain⟨HON,HW⟩:=aj0;clear hr;go_enter Tryz.func133,Tryz.ntmps133;go_wp2;exact z251z):p:=h
theorem iz(h:p:=by
 have HI0:=aa (Yb hi (Yb hz0 (Yb hz1 hz2)));clear hi hz0 hz1 hz2;exact z722z):p:=h
theorem Vn(h:p:=by
 refine (vK d c _ (HR.below HB.out) HOK.2.1.2.2 HOK.2.2.2.1.2.2 HOK.2.2.1.2.2).mono ?_;rintro e w3 ⟨r,rfl,hi,hb⟩;have z1316z:=@aa _ @Jz;exact fz):p:=h
theorem yU(h:p:=by
 rintro e w2 ⟨r,rfl,hi,hb⟩;have z1316z:=@aa _ @Jy;exact fz):p:=h
theorem Vf(h:p:=by
 obtain⟨i,n,h2,h3,_⟩:=(h.1 k v HXv.out) kq t HXt.out;exact HH.out ⟨i,n,h2,h3⟩):p:=h
theorem Ve(h:p:=by
 obtain⟨i,m2,e1,e2,e3⟩:=(h.1 k v HXv.out) kq t HXt.out;obtain⟨_,rfl⟩:=HNR.inj e1 HJn.out (e2.trans HNn.symm);exact HZ.out e3):p:=h
theorem Vc(h:p:=by
 obtain⟨i,v,h2,h3,_⟩:=(h.1 k n HXn.out) kq t HXt.out;exact HH.out ⟨i,v,h2,h3⟩):p:=h
theorem pM(h:p:=by
 have HB:=HB2;clear HB2;have Bk:=Ck;clear Ck;have Bv:=Cv;clear Cv;go_wp2;go_ret;refine au.f (λh=>?_) HB.out;exact z763z):p:=h
theorem ix(h:p:=by
 obtain⟨v0,v1,v2,v3,v4,v5,v6,v7⟩:=cs8 Bv;have ltv_1:=ae Bv.out;exact z773z):p:=h
theorem yN(h:p:=by
 have HP:Hid (Put t zs (zs.take k++[t]++zs.drop k)):=Zd ⟨k,by omega,rfl,HE.out,λy hy=>by rw[HX.out] at hy;cases hy;exact QY hless he⟩;have hq:=bu he;clear he;obtain⟨HOW,hik,hkn⟩:=Oa;exact z783z):p:=h
theorem UW(h:p:=by
 by_cases hq:cpuOf n.n c.ps<=n.c
 ·exact QE
 ·have HCq:=aa hq;go_wp2;go_ret;exact au.f (λh=>by have h1:cpuOf n.n c.ps<=n.c:=h.2 k n HXn.out;have h2:=HCq.out;omega) HB.out):p:=h
theorem UT(h:p:=by
 by_cases hq:onOf n.n c.vs<=n.s
 ·exact QE
 ·have HCq:=aa hq;go_wp2;go_ret;exact au.f (λh=>by have h1:onOf n.n c.vs<=n.s:=h.2 k n HXn.out;have h2:=HCq.out;omega) HB.out):p:=h
theorem yL(h:p:=by
 refine wpQuiet_nil ?_;rintro _ ⟨q1,rfl⟩;obtain⟨HB1,Ck⟩:=iL;clear hne0 HW HB HC0 k0 k1 k2 k3 k4 k5 n0w n2w Gk Bk pk c0 c1 c2 c3 c4 c5 c6 hb;have HB:=HB1;clear HB1;have Bk:=Ck;clear Ck;exact z789z):p:=h
theorem Ux(h:p:=by
 exact Yb hl5 hm5):p:=h
theorem T9(h:p:=by
 exact z467z):p:=h
theorem eA(h:p:=by
 have z1220z:=@aa _ @KW;exact fA):p:=h
theorem Tu(h:p:=by
 exact z483z):p:=h
theorem Tk(h:p:=by
 clear hat hx z0 z1 hvr;have Gk:=Bk;have HW:=HB;obtain⟨k0,k1,k2,k3,k4,k5⟩:=sl6 Gk;have n0w:=λq:Wd wr=>(q.cell hb).trans c0;have n2w:=λq:Wd wr=>(q.cell hb).trans c2;have hne0:=Wd.ne wr;have HC0:=aa (λq:Wd wr=>ki ⟨(Y5 ⟨b,o,U⟩),l1,y1,a2,l2,y2,a3,l3,y3,a4,l4,y4,a5,l5,y5⟩ c.now c.ps n.n q.w (HR.p.below (HW.trans (q.b.mono HW.size))) HL5.out HPC.out);have z55z:=@aa _ @aiK;exact aC):p:=h
theorem Tj(h:p:=by
 clear hat hx z0 z1 hvr;have Gk:=Bk;have HW:=HB;obtain⟨k0,k1,k2,k3,k4,k5⟩:=sl6 Gk;have n0w:=λq:Wd wr=>(q.cell hb).trans c0;have n2w:=λq:Wd wr=>(q.cell hb).trans c3;have hne0:=Wd.ne wr;have HC0:=aa (λq:Wd wr=>yh ⟨(Y5 ⟨b,o,U⟩),l1,y1,a2,l2,y2,a3,l3,y3,a4,l4,y4,a5,l5,y5⟩ c.now c.vs n.n q.w (HR.v.below (HW.trans (q.b.mono HW.size))) HL3.out);have z55z:=@aa _ @aiJ;exact aC):p:=h
theorem Ti(h:p:=by
 have HTn:=aa hvr;clear hat hx z0 z1 hvr;have hvl:=HTn.1;have hvc:=Yp HTn.2.1 HTn.2.2.1;have HVL:=aa hvl;clear hvl;have KV:Hid ((wr.alloc (Y8 #[I n.n,I n.z,Y7 Y6 n.c,Y7 Y6 n.s,Y7 Y6 n.u,Y9 n.d,J va vl vc] 83)).heap[w.heap.size]?=Y5 (Y8 (clo6 (Y5 ⟨b,o,U⟩) l1 y1 a2 l2 y2 a3 l3 y3 a4 l4 y4 a5 l5 y5 c.now) 29 (0,0))):=(Yl wr (Y8 #[I n.n,I n.z,Y7 Y6 n.c,Y7 Y6 n.s,Y7 Y6 n.u,Y9 n.d,J va vl vc] 83) _ (ae Bk.out)).trans Bk.out;have GV:Hid ((wr.alloc (Y8 #[I n.n,I n.z,Y7 Y6 n.c,Y7 Y6 n.s,Y7 Y6 n.u,Y9 n.d,J va vl vc] 83)).heap[wr.heap.size]?=Y5 (Y8 #[I n.n,I n.z,Y7 Y6 n.c,Y7 Y6 n.s,Y7 Y6 n.u,Y9 n.d,J va vl vc] 83 (0,0))):=Yg;have BV:=aa (HB.trans ((ak wr (Y8 #[I n.n,I n.z,Y7 Y6 n.c,Y7 Y6 n.s,Y7 Y6 n.u,Y9 n.d,J va vl vc] 83)).mono HB.size));have TT:=aa (HTn.below (ak wr (Y8 #[I n.n,I n.z,Y7 Y6 n.c,Y7 Y6 n.s,Y7 Y6 n.u,Y9 n.d,J va vl vc] 83)));obtain⟨W,hW⟩:∃W,W=wr.alloc (Y8 #[I n.n,I n.z,Y7 Y6 n.c,Y7 Y6 n.s,Y7 Y6 n.u,Y9 n.d,J va vl vc] 83):=⟨_,rfl⟩;obtain⟨gb,hgb⟩:∃gb,gb=wr.heap.size:=⟨_,rfl⟩;rw[<-hW] at KV GV BV TT;rw[<-hgb] at GV;go_wp2;rw[<-hW,<-hgb];clear hW hgb HB Bk HTn c0 c1 c2 c3 c4 c5 c6 hb pk;go_loopw [5] (λi wr=> ∃kq:Nat,kq<=vl/\i=Y7 Y6 kq/\Hid (∀(j:Nat) t,j<kq->n.zs[j]?=Y5 t->∃(i:Nat) (v:Vd),c.vs[i]?=Y5 v/\v.n=t/\(n.d=Zb\/InL v.zs n.n))/\Hid (Below W.heap.size W wr)) (λi _=>vl - (intOf i).toNat);case atStart=>exact⟨0,by omega,rfl,λ_ _ h=>absurd h af,Yh _ _⟩
 case round=>
  obtain⟨kq,hkq,rfl,HQ2,HBW⟩:=hrel;obtain⟨HB,Bk⟩:=uu;have Bv:=upK GV HBW.out;have pv:=ck6 Bv;by_cases hlt2:kq<vl
  ·obtain⟨b2,o2,t,rfl,hb,hx,hc,hsz⟩:=(TT.below HBW.out).at hlt2;have HXt:=aa hx;clear hx hsz;by_cases hnn:∃(i:Nat) (v:Vd),c.vs[i]?=Y5 v/\v.n=t;rotate_left
   ·have HH:=aa hnn;clear hnn;have Gk:=Bk;have Gv:=Bv;obtain⟨HW,k0,k1,k2,k3,k4,k5⟩:=Ao;have v6:=λq:Wd wr=>q.slot (o:=6) Gv.out rfl;obtain⟨tw,hne0⟩:=oP;have HC0:=aa (λq:Wd wr=>ij ⟨(Y5 ⟨b,o,U⟩),l1,y1,a2,l2,y2,a3,l3,y3,a4,l4,y4,a5,l5,y5⟩ c.now c.vs t q.w (HR.v.below (HW.trans (q.b.mono HW.size))) (λi v h1 h2=>HH.out ⟨i,v,h1,h2⟩));have z1247z:=@aa _ @Ks;exact bY
   obtain⟨j3,v,h1,h2⟩:=hnn;have hl3':j3<l3:=by have h3:=(Yc.1 h1).1;omega
   obtain⟨b3,o3,v',rfl,hb3,hv',hat⟩:=bK HR.v hl3';rw[h1] at hv';obtain rfl:=Yd hv';obtain⟨xa,xl,xc,hvr,z0,z2,z3,z5,d0,d1,d2,d3,d4,d5,d6,d7⟩:=aW hat;have HJ:=aa h1;have HNv:=aa h2;have HTx:=aa hvr;have HC7:=aa d7;have HB3:=aa hb3;have hj31:decide ((j3:Int)<0)=Y_:=aG
   clear hv' hat hvr z0 z2 z3 z5 d0 d1 d2 d3 d4 d5 d6 d7 h1 h2 hb3;have Gk:=Bk;have Gv:=Bv;have HW:=HB;obtain⟨k0,k1,k2,k3,k4,k5⟩:=sl6 Gk;have v6:=λq:Wd wr=>q.slot (o:=6) Gv.out rfl;obtain⟨tw,hne0⟩:=oP;have HC0:=aa (λq:Wd wr=>dZ ⟨(Y5 ⟨b,o,U⟩),l1,y1,a2,l2,y2,(Y5 ⟨b3,o3,U⟩),l3,y3,a4,l4,y4,a5,l5,y5⟩ c.now c.vs t q.w (HR.v.below (HW.trans (q.b.mono HW.size))) HV.out HJ.out HNv.out);have z1247z:=@aa _ @Kt;exact bY
  ·obtain rfl:vl=kq:=af
   have z191z:=@aa _ @aeW;exact cR):p:=h
theorem fQ(h:p:=by
 obtain⟨b,o,n,rfl,hb,hx,hat⟩:=dh (HR.n.below HB.out) hlt;obtain⟨va,vl,vc,hvr,z0,z1,c0,c1,c2,c3,c4,c5,c6⟩:=bg hat;have HXn:=aa hx;exact z900z):p:=h
theorem Td(h:p:=by
 have HC0:=aa (λq:Wd wr=>fv ⟨(Y5 ⟨b1,o1,U⟩),l1,y1,a2,l2,y2,(Y5 ⟨b3,o3,U⟩),l3,y3,a4,l4,y4,(Y5 ⟨b,o,U⟩),l5,y5⟩ c t q.w (HR.below (HW.trans (q.b.mono HW.size))) HX.out HV.out HNE.out HJ.out HD.out);have z55z:=@aa _ @aiB;exact aC):p:=h
theorem Tc(h:p:=by
 have HC0:=aa (λq:Wd wr=>fv ⟨a1,l1,y1,a2,l2,y2,(Y5 ⟨b3,o3,U⟩),l3,y3,a4,l4,y4,(Y5 ⟨b,o,U⟩),l5,y5⟩ c t q.w (HR.below (HW.trans (q.b.mono HW.size))) HX.out HV.out HNE.out HJ.out HD.out);have z1247z:=@aa _ @Kr;exact bY):p:=h
theorem yD(h:p:=by
 have z1394z:=@aa _ @Iz;exact sY):p:=h
theorem S9(h:p:=by
 have HC0:=aa (λq:Wd q1.w=>eM ⟨a1,l1,y1,a2,l2,y2,(Y5 ⟨b3,o3,U⟩),l3,y3,a4,l4,y4,(Y5 ⟨b,o,U⟩),l5,y5⟩ c.now c.xs t q.w (HR.x.below (HW.trans (q.b.mono HW.size))) HX.out HG1.out HG2.out);exact Pr):p:=h
theorem S8(h:p:=by
 have HC0:=aa (λq:Wd q1.w=>eL ⟨a1,l1,y1,a2,l2,y2,(Y5 ⟨b3,o3,U⟩),l3,y3,a4,l4,y4,(Y5 ⟨b,o,U⟩),l5,y5⟩ c.now c.xs t q.w (HR.x.below (HW.trans (q.b.mono HW.size))) (λi x h1 h2=>HG.out ⟨i,x,h1,h2⟩));exact ah7):p:=h
theorem S7(h:p:=by
 have HC0:=aa (λq:Wd q1.w=>eM ⟨a1,l1,y1,a2,l2,y2,a3,l3,y3,a4,l4,y4,(Y5 ⟨b,o,U⟩),l5,y5⟩ c.now c.xs t q.w (HR.x.below (HW.trans (q.b.mono HW.size))) HX.out HG1.out HG2.out);exact Pr):p:=h
theorem S6(h:p:=by
 have HC0:=aa (λq:Wd q1.w=>eL ⟨a1,l1,y1,a2,l2,y2,a3,l3,y3,a4,l4,y4,(Y5 ⟨b,o,U⟩),l5,y5⟩ c.now c.xs t q.w (HR.x.below (HW.trans (q.b.mono HW.size))) (λi x h1 h2=>HG.out ⟨i,x,h1,h2⟩));exact ah7):p:=h
theorem S5(h:p:=by
 have HC0:=aa (λq:Wd q1.w=>eL ⟨(Y5 ⟨b1,o1,U⟩),l1,y1,a2,l2,y2,(Y5 ⟨b3,o3,U⟩),l3,y3,a4,l4,y4,(Y5 ⟨b,o,U⟩),l5,y5⟩ c.now c.xs t q.w (HR.x.below (HW.trans (q.b.mono HW.size))) (λi x h1 h2=>HG.out ⟨i,x,h1,h2⟩));exact wE):p:=h
theorem S4(h:p:=by
 have HC0:=aa (λq:Wd q1.w=>eM ⟨(Y5 ⟨b1,o1,U⟩),l1,y1,a2,l2,y2,a3,l3,y3,a4,l4,y4,(Y5 ⟨b,o,U⟩),l5,y5⟩ c.now c.xs t q.w (HR.x.below (HW.trans (q.b.mono HW.size))) HX.out HG1.out HG2.out);have z1247z:=@aa _ @Kq;exact bY):p:=h
theorem S3(h:p:=by
 have HC0:=aa (λq:Wd q1.w=>eL ⟨(Y5 ⟨b1,o1,U⟩),l1,y1,a2,l2,y2,a3,l3,y3,a4,l4,y4,(Y5 ⟨b,o,U⟩),l5,y5⟩ c.now c.xs t q.w (HR.x.below (HW.trans (q.b.mono HW.size))) (λi x h1 h2=>HG.out ⟨i,x,h1,h2⟩));exact wE):p:=h
theorem fP(h:p:=by
 obtain⟨Gk,Gr,HW⟩:=fE;obtain⟨k0,k1,k2,k3,k4,k5⟩:=sl6 Gk;obtain⟨r0,r1,r2,r3,r4,r5⟩:=sl6 Gr;obtain⟨tw,hne0⟩:=alL;exact z915z):p:=h
theorem S2(h:p:=by
 obtain⟨tw,vw,nw,hne0,HC0⟩:=ahm;have z55z:=@aa _ @aiA;exact aC):p:=h
theorem S1(h:p:=by
 obtain⟨tw,vw,nw,hne0,HC0⟩:=ahm;have z55z:=@aa _ @aiz;exact aC):p:=h
theorem S0(h:p:=by
 exact z553z):p:=h
theorem pJ(h:p:=by
 obtain⟨Gk,Gr,HW⟩:=fE;obtain⟨k0,k1,k2,k3,k4,k5⟩:=sl6 Gk;obtain⟨r0,r1,r2,r3,r4,r5⟩:=sl6 Gr;exact z923z):p:=h
theorem SY(h:p:=by
 obtain⟨xa,xl,xc,hvr,z0,z2,z3,z5,d0,d1,d2,d3,d4,d5,d6,d7⟩:=aW hat;have HJ:=aa hj3;have HDb:=aa hbd;have hbv:=Yj hb3 HB.size;have v0:=(ai HB.out hb3).trans d0;clear hv' hat hvr z0 z2 z3 z5 d0 d1 d2 d3 d4 d5 d6 d7 hj3 hbd hb3;by_cases hin:InL n.zs v.n
 ·have z1435z:=@aa _ @Hw;exact sM
 ·have z1435z:=@aa _ @Hv;exact sM):p:=h
theorem SW(h:p:=by
 have HCn:=aa d1;have HBn:=aa hb1n;have hj11:decide ((j1:Int)<0)=Y_:=aG
 have hbn:=Yj hb1n HB.size;have n1:=(ai HB.out hb1n).trans d1;clear hn' hat hnr z0 z1 d0 d1 d2 d3 d4 d5 d6 h1 h2 hb1n;by_cases hz0:p.z=⟨#[]⟩
 ·have hq2:=cC hz0;have HPa:Hid (PSa c p):=Zd ⟨j1,n,HJn.out,HNn.out,Ze hz0⟩;clear hz0;have z1323z:=@aa _ @Jt;exact mU
 have hq2:=aY hz0;by_cases hz1:n.z=p.z
 ·have hq3:=aP hz1;have HPa:Hid (PSa c p):=Zd ⟨j1,n,HJn.out,HNn.out,Zd hz1⟩;clear hz0 hz1;have z1323z:=@aa _ @Js;exact mU
 ·have hq3:=bu hz1;have HZ0:=aa hz0;have HZ1:=aa hz1;clear hz0 hz1;have z1323z:=@aa _ @Jr;exact mU):p:=h
theorem SU(h:p:=by
 have HCn:=aa d1;have HBn:=aa hb1n;have hj11:decide ((j1:Int)<0)=Y_:=aG
 clear hn' hat hnr z0 z1 d0 d1 d2 d3 d4 d5 d6 h1 h2 hb1n;have Gk:=Bk;have Gv:=Bv;have HW:=HB;obtain⟨k0,k1,k2,k3,k4,k5⟩:=sl6 Gk;have v7:=λq:Wd wr=>q.slot (o:=7) Gv.out rfl;obtain⟨tw,hne0⟩:=oP;have HC0:=aa (λq:Wd wr=>ft ⟨(Y5 ⟨b1,o1,U⟩),l1,y1,a2,l2,y2,(Y5 ⟨b,o,U⟩),l3,y3,a4,l4,y4,a5,l5,y5⟩ c.now c.ns t q.w (HR.n.below (HW.trans (q.b.mono HW.size))) HNR.out HJn.out HNn.out);have z1247z:=@aa _ @Kp;exact bY):p:=h
theorem SS(h:p:=by
 have e5:=(ai HB.out hb1n).trans d5;have hbn:=Yj hb1n HB.size;clear hn' hat hnr z0 z1 d0 d1 d2 d3 d4 d5 d6 h1 h2 hb1n hbd;rcases Bool.eq_false_or_eq_true n.d with hd|hd
 ·have HDd:=aa hd;rw[hd] at e5;clear hd;obtain⟨hbnv,e5v⟩:=N8;obtain⟨Gk,Gr,HW⟩:=alE;obtain⟨k0,k1,k2,k3,k4,k5⟩:=sl6 Gk;obtain⟨r0,r1,r2,r3,r4,r5⟩:=sl6 Gr;obtain⟨nw,hne0,HC0⟩:=ahw;have z55z:=@aa _ @aiE;exact aC
 ·by_cases hal:re c p n
  ·have HAl:=aa hal;clear hal;have HDd:=aa hd;rw[hd] at e5;clear hd;obtain⟨hbnv,e5v⟩:=N8;have HCA:Hid (∀q:Wd (wr.alloc (Y8 #[I p.n,Y7 Y6 p.c,I p.z,J va vl vc,I p.d,Y7 Y6 2] 40)),Calls Tryz.prog 117 #[Zc #[J (Y5 ⟨b1,o1,U⟩) l1 y1,J a2 l2 y2,J a3 l3 y3,J a4 l4 y4,J (Y5 ⟨b,o,U⟩) l5 y5,Y7 Y6 c.now],Zc #[I p.n,Y7 Y6 p.c,I p.z,J va vl vc,I p.d,Y7 Y6 2]] q.w λe w'=>e=Za (Y9 Zb)/\Below q.w.heap.size q.w w'):=by
    intro q;have h0:=(mf ⟨(Y5 ⟨b1,o1,U⟩),l1,y1,a2,l2,y2,a3,l3,y3,a4,l4,y4,(Y5 ⟨b,o,U⟩),l5,y5⟩ c p va vl vc j1 n q.w (HR.below (HB.trans (((ak wr _).trans (q.b.mono aG)).mono HB.size))) HNR.out HX.out HV.out HNE.out (HTp.below ((ak wr _).trans (q.b.mono aG))) HJn.out HNn.out HBD.out).mono (λ_ _ h=>au.yes h HAl.out);rw[HP2.out] at h0;exact h0
   have z1345z:=@aa _ @Jc;exact tj
  ·have HAl:=aa hal;clear hal;have HDd:=aa hd;rw[hd] at e5;clear hd;obtain⟨hbnv,e5v⟩:=N8;have HCA:Hid (∀q:Wd (wr.alloc (Y8 #[I p.n,Y7 Y6 p.c,I p.z,J va vl vc,I p.d,Y7 Y6 2] 40)),Calls Tryz.prog 117 #[Zc #[J (Y5 ⟨b1,o1,U⟩) l1 y1,J a2 l2 y2,J a3 l3 y3,J a4 l4 y4,J (Y5 ⟨b,o,U⟩) l5 y5,Y7 Y6 c.now],Zc #[I p.n,Y7 Y6 p.c,I p.z,J va vl vc,I p.d,Y7 Y6 2]] q.w λe w'=>e=Za (Y9 Y_)/\Below q.w.heap.size q.w w'):=by
    intro q;have h0:=(mf ⟨(Y5 ⟨b1,o1,U⟩),l1,y1,a2,l2,y2,a3,l3,y3,a4,l4,y4,(Y5 ⟨b,o,U⟩),l5,y5⟩ c p va vl vc j1 n q.w (HR.below (HB.trans (((ak wr _).trans (q.b.mono aG)).mono HB.size))) HNR.out HX.out HV.out HNE.out (HTp.below ((ak wr _).trans (q.b.mono aG))) HJn.out HNn.out HBD.out).mono (λ_ _ h=>au.no h HAl.out);rw[HP2.out] at h0;exact h0
   have z1345z:=@aa _ @Jb;exact tj):p:=h
theorem pI(h:p:=by
 have hl1':j1<l1:=by have h3:=(Yc.1 h1).1;omega
 obtain⟨b1,o1,n',rfl,hb1n,hn',hat⟩:=dh HR.n hl1';rw[h1] at hn';obtain rfl:=Yd hn';obtain⟨na,nl,nc,hnr,z0,z1,d0,d1,d2,d3,d4,d5,d6⟩:=bg hat;have HJn:=aa h1;have HNn:=aa h2;exact z930z):p:=h
theorem SE(h:p:=by
 have z1341z:=@aa _ @Jf;exact mT):p:=h
theorem SD(h:p:=by
 replace R1:=aa (R1.ay (λk hk s=>HK.block k hk (λq9=>by rcases q9 with q9|q9;exact s.2 q9;omega)) (λ_ _ s=>s));have z1341z:=@aa _ @Je;exact mT):p:=h
theorem SC(h:p:=by
 replace R1:=aa (R1.ay (λk hk s=>HK.block k hk (λq9=>by rcases q9 with q9|q9;exact s.2 q9;omega)) (λ_ _ s=>s));replace R3:=aa (R3.ay (λk hk s=>HK.block k hk (λq9=>by rcases q9 with q9|q9;exact s.2 q9;omega)) (λ_ _ s=>s));have z1341z:=@aa _ @Jd;exact mT):p:=h
theorem pG(h:p:=by
 replace R2:=aa (R2.ay (λk hk s=>HK.block k hk (λq9=>by rcases q9 with q9|q9;exact s.2 q9;omega)) (λ_ _ s=>s));replace R4:=aa (R4.ay (λk hk s=>HK.block k hk (λq9=>by rcases q9 with q9|q9;exact s.2 q9;omega)) (λ_ _ s=>s));exact z948z):p:=h
theorem So(h:p:=by
 exact z579z):p:=h
theorem ir(h:p:=by
 have z1706z:=@aa _ @DA;exact eP):p:=h
theorem R8(h:p:=by
 go_loopw [8] (λi wr=> ∃kz:Nat,kz<=k/\i=Y7 Y6 kz/\Hid (∀(j:Nat) q,j<kz->c.ps[j]?=Y5 q->pw c q p)/\Hid (Below W2.heap.size W2 wr)) (λi _=>k - (intOf i).toNat);case atStart=>exact⟨0,by omega,rfl,λ_ _ h=>absurd h af,Yh _ _⟩
 case round=>
  have z1633z:=@aa _ @Et;exact si):p:=h
theorem R7(h:p:=by
 go_loopw [8] (λi wr=> ∃kz:Nat,kz<=k/\i=Y7 Y6 kz/\Hid (∀(j:Nat) q,j<kz->c.ps[j]?=Y5 q->pw c q p)/\Hid (Below W2.heap.size W2 wr)) (λi _=>k - (intOf i).toNat);case atStart=>exact⟨0,by omega,rfl,λ_ _ h=>absurd h af,Yh _ _⟩
 case round=>
  have z1633z:=@aa _ @Es;exact si):p:=h
theorem yt(h:p:=by
 obtain rfl:vl=kq:=af
 have HQb:Hid (PSb c p):=λj t ht=>HQ2.out j t (by have h1:=(Yc.1 ht).1;have h2:=HVL.out;omega) ht;clear HQ2;have TV2:=aa (TV.below HBW.out);have KV2:=Bk;have GV2:=Br;have BV2:=HB;clear KV GV BV TV Bk Br HB HBW;obtain⟨W2,hW⟩:∃W2,W2=wr:=⟨_,rfl⟩;rw[<-hW] at KV2 GV2 BV2 TV2;go_wp2;clear pr3;rw[<-hW];clear hW;exact z990z):p:=h
theorem R6(h:p:=by
 have z644z:=@aa _ @WQ;exact lA):p:=h
theorem R0(h:p:=by
 go_wp2;go_ret;refine au.f (λh=>?_) HB.out;obtain⟨i,m,e1,e2,e3,e4⟩:=(h.2 k p HXp.out) HP2.out;obtain⟨_,rfl⟩:=HNR.inj e1 HJn.out (e2.trans HNn.symm);exact HAl.out e4):p:=h
theorem yr(h:p:=by
 repeat (go_big_quiet_step (first|(go_at_call 113;exact Calls.wide (HC0.out _))|(go_at_call 117;exact Calls.wide (HC1.out _))|fail))
 refine wpQuiet_nil ?_;rintro _ ⟨q1,rfl⟩;have HB1:=upB HW q1.b;obtain⟨Ck,Cr⟩:=eu;clear hne0 HW HB HC0 HC1 k0 k1 k2 k3 k4 k5 r0 r1 r2 r3 r4 r5 nw Gk Gr Bk pk hb hbn e5 hbnv e5v c0 c1 c2 c3 c4 c5;have HB:=HB1;clear HB1;have Bk:=Ck;clear Ck;clear Cr;exact z993z):p:=h
theorem NJ(h:p:=by
 have hb4:Below wr.heap.size wr ((w2.setCell ⟨wr.heap.size,6,U⟩ (J a' l' c')).alloc (Y8 (nov x a' l' c') 83)):=(ah (Ye _) hbx).alloc iK _;have HF4:Hid (LFr ((w2.setCell ⟨wr.heap.size,6,U⟩ (J a' l' c')).alloc (Y8 (nov x a' l' c') 83)) g (λk=>X.heap.size<=k) x.zs (J a' l' c')):=hg.ay (λcu _ q=>(Yl _ _ _ (by simp[World.setCell];exact ae q)).trans (Ya _ _ _ _ (λe=>by subst e;rw[hn2] at q;cases q))) (λ_ s=>by have:=hsl _ s;show X.heap.size<=g;omega);obtain⟨HG,HB4,HO4⟩:=Oe;obtain⟨n0,n1,n2,n3,n4,n5,n6⟩:=cs7 hn2;have fn3:=al hn2 3;have fn6:=al hn2 6;have bo2:=(hbx.block _ hor).trans Bo.out;obtain⟨o0,o1,o2,o3,o4,o5⟩:=cs6 bo2;clear hn2 hbx hT2 hg hb2 hsl hb4 bo2 k0 k1 k2 k3 k4 k5 c0 c1 c2 c3 c4 c5 c6;go_wp2_with (first|(at_builtin;refine wpList_append_own _ rfl _ _ 23 rfl X.heap.size 83 i1 (Zc #[I ⟨#[]⟩,I ⟨#[]⟩,Y7 Y6 0,Y7 Y6 0,Y7 Y6 0,Y9 Y_,J U 0 0]) 7 88 Tryz.underlying23 HI1.1 hz.1 hz.2.1 hz.2.2 rfl ag _ _ _ rfl HO4.out ⟨w2.heap.size,0,U⟩ 1 1 [I x.n,I x.z,Y7 Y6 x.c,Y7 Y6 x.s,Y7 Y6 x.u,Y9 x.d,J a' l' c'] rfl rfl ?c1 ?c2 ?c3 ?c4 ?c5 ?_));case c1=>exact iM _ _ kS _ _
 case c2=>intro u hu;simp only[YO,List.not_mem_nil,or_false] at hu;rcases hu with rfl|rfl|rfl|rfl|rfl|rfl|rfl <;> rfl
 case c3=>unfold maxLen;have:=HS.n;omega
 case c4=>have:=HS.n;omega
 case c5=>simp[World.setCell];omega
 rintro v' w5 hown5 hgrow -;obtain⟨v1',v2',v3',rfl⟩:=aA hown5;clear n0 n1 n2 n3 fn3 n4 n5 n6 fn6 o0 o1 o2 o3 o4 o5;have bo5:=xL HO.out Bo.out hb3X HB4.out hgrow;obtain⟨hs1,hs2',⟨H',hs3⟩,hs4⟩:=AG (f:=0) (r:=ndF x) (vs:=[I x.n,I x.z,Y7 Y6 x.c,Y7 Y6 x.s,Y7 Y6 x.u,Y9 x.d,J a' l' c']) (hh:=g) HK.out HO.out HV.out Bo.out hb3X HB4.out hown5 hgrow ag ag ag rfl rfl (ah_ HZz0.out HZz1.out HF4.out) (λi zs hi hz=>HG.out zs (A7 hi).2.symm hz) (λi i' zs zs' h1 _ h2 _=>(A7 h1).1.trans (A7 h2).1.symm);have e1:(c.ns.take (k+1)).map ndF=(c.ns.take k).map ndF++[ndF x]:=by rw[YN,HX.out];simp
 exact ahF):p:=h
theorem NI(h:p:=by
 have hb4:Below wr.heap.size wr ((w2.setCell ⟨wr.heap.size,3,U⟩ (J a' l' c')).alloc (Y8 (pov x a' l' c') 40)):=(ah (Ye _) hbx).alloc iK _;have HF4:Hid (LFr ((w2.setCell ⟨wr.heap.size,3,U⟩ (J a' l' c')).alloc (Y8 (pov x a' l' c') 40)) g (λk=>X2.heap.size<=k) x.zs (J a' l' c')):=hg.ay (λcu _ q=>(Yl _ _ _ (by simp[World.setCell];exact ae q)).trans (Ya _ _ _ _ (λe=>by subst e;rw[hn2] at q;cases q))) (λ_ s=>by have:=hsl _ s;show X2.heap.size<=g;omega);obtain⟨HG,HB4,HO4⟩:=Oe;obtain⟨n0,n1,n2,n3,n4,n5⟩:=cs6 hn2;have fn3:=al hn2 3;have bo2:=(hbx.block _ hor).trans Bo.out;obtain⟨o0,o1,o2,o3,o4,o5⟩:=cs6 bo2;clear hn2 hbx hT2 hg hb2 hsl hb4 bo2 k0 k1 k2 k3 k4 k5 c0 c1 c2 c3 c4 c5;go_wp2_with (first|(at_builtin;refine wpList_append_own _ rfl _ _ 27 rfl X2.heap.size 40 i5 (Zc #[I ⟨#[]⟩,Y7 Y6 0,I ⟨#[]⟩,J U 0 0,I ⟨#[]⟩,Y7 Y6 0]) 6 88 Tryz.underlying27 HI5.1 hz.1 hz.2.1 hz.2.2 rfl ag _ _ _ rfl HO4.out ⟨w2.heap.size,0,U⟩ 1 1 [I x.n,Y7 Y6 x.c,I x.z,J a' l' c',I x.d,Y7 Y6 x.p] rfl rfl ?c1 ?c2 ?c3 ?c4 ?c5 ?_));case c1=>exact iM _ _ kS _ _
 case c2=>intro u hu;simp only[YO,List.not_mem_nil,or_false] at hu;rcases hu with rfl|rfl|rfl|rfl|rfl|rfl <;> rfl
 case c3=>unfold maxLen;have:=HS.p;omega
 case c4=>have:=HS.p;omega
 case c5=>simp[World.setCell];omega
 rintro v' w5 hown5 hgrow -;obtain⟨v1',v2',v3',rfl⟩:=aA hown5;clear n0 n1 n2 n3 fn3 n4 n5 o0 o1 o2 o3 o4 o5;have bo5:=xL HO.out Bo.out hb3X2 HB4.out hgrow;obtain⟨hs1,hs2',⟨H',hs3⟩,hs4⟩:=AG (f:=4) (r:=pdF x) (vs:=[I x.n,Y7 Y6 x.c,I x.z,J a' l' c',I x.d,Y7 Y6 x.p]) (hh:=g) HK.out HO.out HV.out Bo.out hb3X2 HB4.out hown5 hgrow ag ag ag rfl rfl (ah9 HZz0.out HZz2.out HZz4.out HF4.out) (λi zs hi hz=>HG.out zs (A5 hi).2.symm hz) (λi i' zs zs' h1 _ h2 _=>(A5 h1).1.trans (A5 h2).1.symm);have e1:(c.ps.take (k+1)).map pdF=(c.ps.take k).map pdF++[pdF x]:=by rw[YN,HX.out];simp
 exact ahF):p:=h
theorem ue(h:p:=by
 obtain⟨k0,k1,k2,k3,k4,k5⟩:=cs6 BkR;go_wp2_with (first|(at_builtin;refine pz rfl _ _ rfl (wr.heap.size+1) rfl (eF _ _ _) va vl vc rfl x.zs (HT.below (HBW.trans ((aS _ _ _).mono HBW.size))) hz8 ?_));intro a' l' c' w2 hT2 hb2;obtain⟨hn2,-,hbx⟩:=RV hb2;obtain⟨g,hg⟩:=hT2.fr;obtain⟨hs2,hsl⟩:=ajX;exact z1005z):p:=h
theorem Np(h:p:=by
 rcases (h.1 k p HXp.out).1 with h2|⟨i,n,h2,h3,_⟩
 ·exact HEm.out h2
 ·exact HH.out i n h2 h3):p:=h
theorem No(h:p:=by
 have h9:=(h.1 k p HXp.out).2.1 kq t HXt.out;rcases h9.2 with h2|⟨v',i,n',h2,h3,h4,h5⟩
 ·exact HEm.out h2
 ·obtain rfl:=aO.inj HX.out HV.out HD.out h2;obtain⟨_,rfl⟩:=HNR.inj h3 HJn.out (h4.trans HNn.symm);exact HZ.out h5):p:=h
theorem gX(h:p:=by
 obtain⟨k0,k1,k2,k3,k4,k5⟩:=cs6 Bk;obtain⟨p0,p1,p2,p3,p4,p5⟩:=cs6 Bp;exact z1033z):p:=h
theorem Nh(h:p:=by
 clear hne0 HW HB HC0 k0 k1 k2 k3 k4 k5 r0 r1 r2 r3 r4 r5 tw Gk Gr Bk Br hc1 hb1;have HB:=HB2;clear HB2;have Bk:=Ck;clear Ck;have Br:=Cr;clear Cr;exact z585z):p:=h
theorem Ng(h:p:=by
 exact z596z):p:=h
theorem tX(h:p:=by
 have z1639z:=@aa _ @Eo;exact sg):p:=h
theorem MS(h:p:=by
 have HB1:=upB HW q1.b;obtain⟨Ck,Cr⟩:=eu;clear hne0 HW HB HC0 k0 k1 k2 k3 k4 k5 r3 tw Gk Gr Bk Br pr3;have HB:=HB1;clear HB1;have Bk:=Ck;clear Ck;have Br:=Cr;clear Cr;obtain⟨hc1,hb1,HBW1⟩:=aj1;clear hc hb HBW;exact z508z):p:=h
theorem MN(h:p:=by
 exact z627z):p:=h
theorem MB(h:p:=by
 have Cv:=upK Gv q2.b;clear hne0 HW HB HC0 k2 v0 v2 v5 v6 vw Gk Gv Bk Bv hbv v7;have HB:=HB2;clear HB2;have Bk:=Ck;clear Ck;have Bv:=Cv;clear Cv;have z651z:=@aa _ @WJ;exact pQ):p:=h
theorem Mx(h:p:=by
 by_cases e:j=kq
 ·exact akq
 ·exact HQ2.out j s af hs):p:=h
theorem Mw(h:p:=by
 by_cases e:j=kq
 ·subst e;rw[HXt.out] at hs;obtain rfl:=Yd hs;exact⟨⟨i4,x4,HG1.out,HG2.out⟩,Zd ⟨v,j1,n,HD.out,HJn.out,HNn.out,HZ.out⟩⟩
 ·exact HQ2.out j s af hs):p:=h
theorem Mv(h:p:=by
 exact z651z):p:=h
theorem nf(h:p:=by
 go_wp2_with fail;refine⟨⟨kq+1,by omega,by go_num,λj s hj hs=>?_,HBW1.trans (q2.b.mono HBW1.size)⟩,by simp[intOf];omega⟩;exact z1095z):p:=h
theorem LZ(h:p:=by
 clear hf;obtain⟨r0,r1,r2,r3,r4,r5⟩:=cs6 ((hW.block _ (ae GP.out)).trans GP.out);exact aK):p:=h
theorem mY(h:p:=by
 refine Obl.plain rfl ?_;intro ac wg K hsz hW hf hK;clear hsz;have e10:=hf 10 ag;simp[aj,Yf] at e10;exact z1141z):p:=h
theorem LK(h:p:=by
 have HC0:=aa (λq:Wd wr=>fO ⟨(Y5 ⟨b1,o1,U⟩),l1,y1,a2,l2,y2,a3,l3,y3,a4,l4,y4,(Y5 ⟨b,o,U⟩),l5,y5⟩ c t q.w (HR.below (HW.trans (q.b.mono HW.size))) HX.out HV.out HNE.out HD.out);have z55z:=@aa _ @aiy;exact aC):p:=h
theorem LJ(h:p:=by
 have HC0:=aa (λq:Wd wr=>fO ⟨a1,l1,y1,a2,l2,y2,a3,l3,y3,a4,l4,y4,(Y5 ⟨b,o,U⟩),l5,y5⟩ c t q.w (HR.below (HW.trans (q.b.mono HW.size))) HX.out HV.out HNE.out HD.out);have z1247z:=@aa _ @Ko;exact bY):p:=h
theorem tE(h:p:=by
 have HD:=aa hbd;clear hbd;obtain⟨Gk,Gr,HW⟩:=fE;obtain⟨k0,k1,k2,k3,k4,k5⟩:=sl6 Gk;have r3:=λq:Wd wr=>q.slot (o:=3) Gr.out rfl;obtain⟨tw,hne0⟩:=oP;exact z1162z):p:=h
theorem bD(h:p:=by
 obtain⟨k0,k1,k2,k3,k4,k5⟩:=cs6 Bk;have ltk_2:=ae Bk.out;go_wp2_with fail;exact z1194z):p:=h
theorem KW(h:p:=by
 exact z846z):p:=h
theorem fA(h:p:=by
 obtain⟨k0,k1,k2,k3,k4,k5⟩:=cs6 Bk;have ltk_1:=ae Bk.out;go_wp2_with fail;exact z1220z):p:=h
theorem Ku(h:p:=by
 have z1580z:=@aa _ @E5;exact mH):p:=h
theorem Kt(h:p:=by
 have z1521z:=@aa _ @FT;exact mJ):p:=h
theorem Ks(h:p:=by
 have z1521z:=@aa _ @FR;exact mJ):p:=h
theorem Kr(h:p:=by
 have z508z:=@aa _ @aaS;exact lD):p:=h
theorem Kq(h:p:=by
 have z1639z:=@aa _ @En;exact sg):p:=h
theorem Kp(h:p:=by
 have z1580z:=@aa _ @E4;exact mH):p:=h
theorem Ko(h:p:=by
 have z508z:=@aa _ @aaR;exact lD):p:=h
theorem ee(h:p:=by
 have z1689z:=@aa _ @DP;exact dp):p:=h
theorem gU(h:p:=by
 obtain⟨HA0,HA1,hbx⟩:=dP hb;obtain⟨Bk,Br⟩:=vY;replace HB:=upB HB hbx;clear hb hbx HA0 HA1;exact z1280z):p:=h
theorem JP(h:p:=by
 refine (jf ⟨a1,l1,y1,a2,l2,y2,a3,l3,y3,a4,l4,y4,(Y5 ⟨b,o,U⟩),l5,y5⟩ c.now c.ns p.d _ (HR.n.below (HB.trans ((ak _ _).mono HB.size)))).mono ?_;have z1512z:=@aa _ @F5;exact mK):p:=h
theorem gT(h:p:=by
 have z1549z:=@aa _ @Fx;exact dB):p:=h
theorem JK(h:p:=by
 refine Grow.step (EmF W.heap.size 74) rfl (EmF.mono _ _) ?_ ?_
 ·exact kZ
 refine' Grow.stepC _ rfl ?_ ?_;rotate_left 1
 ·exact kH
 refine' Grow.stepC _ rfl ?_ ?_;rotate_left 1
 ·have z1141z:=@aa _ @g_;exact mY
 refine Grow.step (RwF W.heap.size l2 4 74 (c.ks.map kdF)) rfl (RwF.mono _ _ _ _ _) ?_ ?_
 ·have z1618z:=@aa _ @ED;exact mx
 refine Grow.step (EmF W.heap.size 50) rfl (EmF.mono _ _) ?_ ?_
 ·exact kZ
 refine' Grow.stepC _ rfl ?_ ?_;rotate_left 1
 ·exact kH
 refine' Grow.stepC _ rfl ?_ ?_;rotate_left 1
 ·refine Obl.plain rfl ?_;intro ac wg K hsz hW hf hK;clear hsz;have e14:=hf 14 ag;simp[aj,Yf] at e14;exact g_
 refine Grow.step (RwF W.heap.size l4 5 50 (c.xs.map xdF)) rfl (RwF.mono _ _ _ _ _) ?_ ?_
 ·refine Obl.plain rfl ?_;intro ac wg K hsz hW hf hK;clear hsz;have e13:=hf 13 ag;simp[aj,Yf] at e13;have e15:=hf 15 ag;simp[aj,Yf] at e15;clear hf;obtain⟨b0,e13,hB0,hg0⟩:=e13;have hz:i4.zero=Y5 (Zc #[I ⟨#[]⟩,Y7 Y6 0,I ⟨#[]⟩,Y9 Y_,I ⟨#[]⟩])/\i4.size=5/\i4.bytes=64:=by have:=HI4.2;simp only[Prod.mk.injEq] at this;exact this
  refine ri (.tmp 13) (.tmp 15) 26 50 rfl i4 (Zc #[I ⟨#[]⟩,Y7 Y6 0,I ⟨#[]⟩,Y9 Y_,I ⟨#[]⟩]) Tryz.underlying26 HI4.1 hz.1 hz.2.1 hz.2.2 rfl ag ag (by simpa[Act.eval] using e13) hg0 (by simpa[Act.eval] using e15) (HR.x.below (HB.trans (hW.mono HB.size))) (jU xX _) (show l4<=8 by have:=HS.x;omega) ag ?_;exact P5
 refine' Grow.stepC _ rfl ?_ ?_;rotate_left 1
 ·exact kH
 refine' Grow.stepC _ rfl ?_ ?_;rotate_left 1
 ·refine Obl.plain rfl ?_;intro ac wg K hsz hW hf hK;clear hsz;have e17:=hf 17 ag;simp[aj,Yf] at e17;exact g_
 refine Grow.step (CpF W.heap.size l2 l4 c) rfl (CpF.mono _ _ _ _) ?_ ?_
 ·refine Obl.plain rfl ?_;intro ac wg K hsz hW hf hK;clear hsz;have e12:=hf 12 ag;simp[aj,Yf] at e12;have e16:=hf 16 ag;simp[aj,Yf] at e16;have e18:=hf 18 ag;simp[aj,Yf] at e18;clear hf;obtain⟨p2,q2,e12,h12⟩:=e12;obtain⟨p4,q4,e16,h16⟩:=e16;have H12:=aa h12;have H16:=aa h16;clear h12 h16;go_simp;exact hK _ _ (Yh _ _) ⟨p2,q2,p4,q4,rfl,H12.out,H16.out⟩
 refine Grow.step (FrF W.heap.size) rfl (FrF.mono _) ?_ ?_
 ·exact kZ
 refine Grow.done ?_;intro q wz hW hf;simp only[YI] at hf;obtain⟨⟨b3,h3,hb3,hg3⟩,⟨p2,q2,p4,q4,h19,hR2,hR4⟩,-⟩:=hf;obtain⟨t0,t1,t2,t3,t4,t5⟩:=cs6 hg3;have f0:=al hg3 0;have f1:=al hg3 1;have f2:=al hg3 2;have f3:=al hg3 3;have f4:=al hg3 4;have f5:=al hg3 5;have BoX:=aa (anb (v0:=J U 0 0) (v1:=J p2 l2 q2) (v2:=J U 0 0) (v3:=J p4 l4 q4) (v4:=J U 0 0) (v5:=Y7 Y6 c.now) hg3);have HWX:Hid (Below W.heap.size W ((((((wz.setCell ⟨b3,0,U⟩ (J U 0 0)).setCell ⟨b3,1,U⟩ (J p2 l2 q2)).setCell ⟨b3,2,U⟩ (J U 0 0)).setCell ⟨b3,3,U⟩ (J p4 l4 q4)).setCell ⟨b3,4,U⟩ (J U 0 0)).setCell ⟨b3,5,U⟩ (Y7 Y6 c.now))):=ah hb3 (ah hb3 (ah hb3 (ah hb3 (ah hb3 (ah hb3 hW)))));have R2:Hid (aw ((((((wz.setCell ⟨b3,0,U⟩ (J U 0 0)).setCell ⟨b3,1,U⟩ (J p2 l2 q2)).setCell ⟨b3,2,U⟩ (J U 0 0)).setCell ⟨b3,3,U⟩ (J p4 l4 q4)).setCell ⟨b3,4,U⟩ (J U 0 0)).setCell ⟨b3,5,U⟩ (Y7 Y6 c.now)) p2 l2 q2 4 74 (c.ks.map kdF) (λk=>W.heap.size<=k/\¬k=b3)):=(hR2.dH hg3 ag ag).ay (λk hk s=>fX s.2) (λk _ s=>s);have R4:Hid (aw ((((((wz.setCell ⟨b3,0,U⟩ (J U 0 0)).setCell ⟨b3,1,U⟩ (J p2 l2 q2)).setCell ⟨b3,2,U⟩ (J U 0 0)).setCell ⟨b3,3,U⟩ (J p4 l4 q4)).setCell ⟨b3,4,U⟩ (J U 0 0)).setCell ⟨b3,5,U⟩ (Y7 Y6 c.now)) p4 l4 q4 5 50 (c.xs.map xdF) (λk=>W.heap.size<=k/\¬k=b3)):=(hR4.dH hg3 ag ag).ay (λk hk s=>fX s.2) (λk _ s=>s);clear hg3 hR2 hR4 hW;intro K hK;rw[if_pos (by rfl)];simp only[aM,YT,Act.put,Yt,YC,YE,h3,h19];have z1706z:=@aa _ @Dz;exact eP):p:=h
theorem JJ(h:p:=by
 refine' Grow.stepC _ rfl ?_ ?_;rotate_left 1
 ·exact ny
 refine' Grow.stepC _ rfl ?_ ?_;rotate_left 1
 ·have z368z:=@aa _ @OU;exact lF
 refine' Grow.stepC _ rfl ?_ ?_;rotate_left 1
 ·have z419z:=@aa _ @OU;exact pY
 refine' Grow.stepC _ rfl ?_ ?_;rotate_left 1
 ·exact kF
 refine' Grow.stepC _ rfl ?_ ?_;rotate_left 1
 ·have z1141z:=@aa _ @LZ;exact mY
 refine' Grow.stepC (Y7 Y6 j1) rfl ?_ ?_
 ·have z326z:=@aa _ @ac_;exact qf
 refine' Grow.stepC _ rfl ?_ ?_;rotate_left 1
 ·have z297z:=@aa _ @adx;exact lI
 refine' Grow.stepC _ rfl ?_ ?_;rotate_left 1
 ·refine Obl.plain rfl ?_;intro ac wg K hsz hW hf hK;clear hsz;have e13:=hf 13 ag;simp[aj,Yf] at e13;clear hf;have hBg:=BW.trans (hW.mono BW.size);obtain⟨d0,d1,d2,d3,d4,d5,d6⟩:=HD.out;have g0:=(ai hBg HBn.out).trans d0;have g1:=(ai hBg HBn.out).trans d1;have g2:=(ai hBg HBn.out).trans d2;have g3:=(ai hBg HBn.out).trans d3;have g4:=(ai hBg HBn.out).trans d4;have g5:=(ai hBg HBn.out).trans d5;have g6:=(ai hBg HBn.out).trans d6;clear d0 d1 d2 d3 d4 d5 d6 hBg;exact aK
 refine Grow.step (qW W) rfl (qW.mono W) ?_ ?_
 ·exact kZ
 refine Grow.done ?_;intro q wz hW hf;simp only[YI] at hf;obtain⟨⟨g5,h5,hbW,hgb⟩,h14,-⟩:=hf;have r0:=ck0 hgb;have r1:=ck1 hgb;have r2:=ck2 hgb;have r3:=ck3 hgb;have r4:=ck4 hgb;have r5:=ck5 hgb;have r6:=ck6 hgb;have f0:=al hgb 0;have f1:=al hgb 1;have f2:=al hgb 2;have f3:=al hgb 3;have f4:=al hgb 4;have f5:=al hgb 5;have f6:=al hgb 6;have GN:=aa (amj (v0:=I n.n) (v1:=I n.z) (v2:=Y7 Y6 n.c) (v3:=Y7 Y6 n.s) (v4:=Y7 Y6 n.u) (v5:=Y9 n.d) (v6:=J na nl nc) hgb);have BN:=aa (vG (v0:=I n.n) (v1:=I n.z) (v2:=Y7 Y6 n.c) (v3:=Y7 Y6 n.s) (v4:=Y7 Y6 n.u) (v5:=Y9 n.d) (v6:=J na nl nc) hbW hW);clear hgb hW;intro K hK;rw[if_pos (by rfl)];simp only[aM,YT,Act.put,Yt,YC,YE,h5,h14];have z1706z:=@aa _ @Dy;exact eP):p:=h
theorem gS(h:p:=by
 rename_i K0 hK0;refine bF bf rfl rfl bf ?_;exact z1302z):p:=h
theorem JF(h:p:=by
 by_cases hp2:p.p=2;rotate_left
 ·have HP2:=aa hp2;have hp3:(p.p==2)=Y_:=by simpa using hp2
  have Gk:Hid ((wr.alloc (Y8 #[I p.n,Y7 Y6 p.c,I p.z,J va vl vc,I p.d,Y7 Y6 p.p] 40)).heap[w.heap.size]?=Y5 (Y8 (clo6 a1 l1 y1 a2 l2 y2 a3 l3 y3 a4 l4 y4 (Y5 ⟨b,o,U⟩) l5 y5 c.now) 29 (0,0))):=(Yl _ _ _ (ae Bk.out)).trans (Bk.out);have Gr:Hid ((wr.alloc (Y8 #[I p.n,Y7 Y6 p.c,I p.z,J va vl vc,I p.d,Y7 Y6 p.p] 40)).heap[wr.heap.size]?=Y5 (Y8 #[I p.n,Y7 Y6 p.c,I p.z,J va vl vc,I p.d,Y7 Y6 p.p] 40 (0,0))):=Yg;have HW:Hid (Below w.heap.size w (wr.alloc (Y8 #[I p.n,Y7 Y6 p.c,I p.z,J va vl vc,I p.d,Y7 Y6 p.p] 40))):=(HB.trans ((ak _ _).mono HB.size));obtain⟨k0,k1,k2,k3,k4,k5⟩:=sl6 Gk;obtain⟨r0,r1,r2,r3,r4,r5⟩:=sl6 Gr;have hne0:=Wd.ne (wr.alloc (Y8 #[I p.n,Y7 Y6 p.c,I p.z,J va vl vc,I p.d,Y7 Y6 p.p] 40));have z15z:=@aa _ @ajx;exact aX
 have HP2:=aa hp2;obtain⟨⟨j1,n,h1,h2⟩,hbd⟩:=HRun.out k p HXp.out hp2;rw[hp2] at c5;clear hp2;have HBD:=aa hbd;have z930z:=@aa _ @SS;exact pI):p:=h
theorem tl(h:p:=by
 have z1589z:=@aa _ @EZ;exact so):p:=h
theorem Jz(h:p:=by
 have HI3:=aa hi;clear hi;cases r
 ·obtain⟨k0,k1,k2,k3,k4,k5⟩:=cs6 Bk;go_wp2;go_ret;exact au.f (λh=>by have:=HI3.2 ((kQ HOK.out).1 h.2.2.1);cases this) HB.out
 have HBd:=aa (HI3.1 bM);obtain⟨k0,k1,k2,k3,k4,k5⟩:=cs6 Bk;go_wp2_with fail;refine (rA d c _ (HR.below HB.out) HOK.1.2.2 HOK.2.2.2.1.2.2 HOK.2.2.1.2.2 HOK.ne (by have:=HOK.2.2.2.2.1;omega) HOK.cpu).mono ?_;rintro e w4 ⟨r,rfl,hi,hb⟩;have z1749z:=@aa _ @CY;exact fw):p:=h
theorem Jy(h:p:=by
 have HI2:=aa hi;clear hi;cases r
 ·exact QB
 have HOK:=aa (HI2.1 bM);obtain⟨k0,k1,k2,k3,k4,k5⟩:=cs6 Bk;go_wp2_with fail;exact z751z):p:=h
theorem fz(h:p:=by
 have z1749z:=@aa _ @CX;exact fw):p:=h
theorem Jt(h:p:=by
 have z15z:=@aa _ @ajF;exact aX):p:=h
theorem Js(h:p:=by
 have z15z:=@aa _ @ajE;exact aX):p:=h
theorem Jr(h:p:=by
 have z15z:=@aa _ @ajD;exact aX):p:=h
theorem mU(h:p:=by
 have z1745z:=@aa _ @C4;exact mi):p:=h
theorem Jm(h:p:=by
 go_loopw [6] (λi wr=> ∃kq:Nat,kq<=vl/\i=Y7 Y6 kq/\Hid (∀(j:Nat) t,j<kq->p.zs[j]?=Y5 t->ak5 c p t)/\Hid (Below W.heap.size W wr)) (λi _=>vl - (intOf i).toNat);case atStart=>exact⟨0,by omega,rfl,λ_ _ h=>absurd h af,Yh _ _⟩
 case round=>
  obtain⟨kq,hkq,rfl,HQ2,HBW⟩:=hrel;obtain⟨HB,Bk⟩:=uu;have Br:=upK GV HBW.out;have pr3:=ck3 Br;by_cases hlt2:kq<vl
  ·obtain⟨b2,o2,t,rfl,hb,hxt,hc,hsz⟩:=(TV.below HBW.out).at hlt2;have HXt:=aa hxt;clear hxt hsz;exact am_
  ·exact am9):p:=h
theorem Jl(h:p:=by
 go_loopw [6] (λi wr=> ∃kq:Nat,kq<=vl/\i=Y7 Y6 kq/\Hid (∀(j:Nat) t,j<kq->p.zs[j]?=Y5 t->ak5 c p t)/\Hid (Below W.heap.size W wr)) (λi _=>vl - (intOf i).toNat);case atStart=>exact⟨0,by omega,rfl,λ_ _ h=>absurd h af,Yh _ _⟩
 case round=>
  obtain⟨kq,hkq,rfl,HQ2,HBW⟩:=hrel;obtain⟨HB,Bk⟩:=uu;have Br:=upK GV HBW.out;have pr3:=ck3 Br;by_cases hlt2:kq<vl
  ·obtain⟨b2,o2,t,rfl,hb,hxt,hc,hsz⟩:=(TV.below HBW.out).at hlt2;have HXt:=aa hxt;clear hxt hsz;have hcase:(∃v,aO c t v)\/(∀v,¬aO c t v):=by
    exact Qv
   rcases hcase with ⟨v,hbd⟩|hbd
   ·have z908z:=@aa _ @Tc;exact yD
   ·have z1162z:=@aa _ @LJ;exact tE
  ·have z990z:=@aa _ @R7;exact yt):p:=h
theorem tk(h:p:=by
 obtain⟨gb,hgb⟩:∃gb,gb=wr.heap.size:=⟨_,rfl⟩;rw[<-hgb] at Br;have pr3:=ck3 Br;rw[hgb] at pr3;go_wp2;rw[<-hgb];clear pr3 hgb;have KV:=Bk;have GV:=Br;have BV:=HB;have TV:=HTp;clear Bk Br HB HTp;obtain⟨W,hW⟩:∃W,W=q0.w:=⟨_,rfl⟩;rw[<-hW] at KV GV BV TV ⊢;clear hW;exact z1332z):p:=h
theorem Jf(h:p:=by
 have hb3X1:=ae BoX.out;clear BkR Bo HBW h5 hR HV HO HK hl5 hkl hk hKs hXs;generalize wr=X1 at*;obtain⟨k0,k1,k2,k3,k4,k5⟩:=cs6 Bk;go_wp2;clear k0 k1 k2 k3 k4 k5 hlt;go_loopw [6] (λvi wr=> ∃(k:Nat) (vss:List (List Value)) (H:Nat->Nat->Nat) (v:Value),k<=l3/\vi=Y7 Y6 k/\Hid (aI (Cps b3 X1) X1 wr)/\Hid (wr.ownsRow X1.heap.size 38 8 v k vss.flatten)/\Hid (aQ wr (λk=>X1.heap.size<=k) 8 ((c.vs.take k).map vdF) vss H)/\Hid (wr.heap[b3]?=Y5 (Y8 #[J p1 l1 q1,J p2 l2 q2,v,J p4 l4 q4,J U 0 0,Y7 Y6 c.now] 29 (0,0)))) (λvi _=>l3 - (intOf vi).toNat);case atStart=>exact⟨0,[],λ_ _=>0,J U 0 0,by omega,rfl,aI.refl _ _,World.ownsRow_nil _ _ _ _,aQ.nil _ _ _ _,BoX⟩
 case round=>
  obtain⟨k,vss,H,v,hk,rfl,HK,HO,HV,Bo⟩:=hrel;obtain⟨hXs,HBW,BkR,hKs⟩:=N7;by_cases hlt:k<l3
  ·obtain⟨b,o,x,rfl,hb0,hx,hat⟩:=bK HR.v hlt;obtain⟨va,vl,vc,hvr,z0,z2,z3,z5,c0,c1,c2,c3,c4,c5,c6,c7⟩:=aW hat;have hz8:vl<=8001:=by have h1:=hvr.1;have h2:=HS.vs k x hx;omega
   have HX:=aa hx;have HT:=aa hvr;have HZz0:=aa z0;have HZz2:=aa z2;have HZz3:=aa z3;have HZz5:=aa z5;clear hat hx hvr z0 z2 z3 z5;have z1525z:=@aa _ @FP;exact sB
  ·have hkl:k=l3:=af
   have h5:=HV.out;rw[YJ af] at h5;obtain⟨p3,q3,hv,hR⟩:=h5.own HO.out bL ag (λg hg=>(HO.lt g hg).1);have hl5:(c.vs.map vdF).length=l3:=by simpa using hl3
   rw[hl5] at hv hR;subst hv;have R3:=aa (hR.dH Bo.out ag ag);have z948z:=@aa _ @SD;exact pG):p:=h
theorem Je(h:p:=by
 have hb3X2:=ae BoX.out;clear BkR Bo HBW h5 hR HV HO HK hl5 hkl hk hKs hXs;generalize wr=X2 at*;obtain⟨k0,k1,k2,k3,k4,k5⟩:=cs6 Bk;go_wp2;clear k0 k1 k2 k3 k4 k5 hlt;go_loopw [7] (λvi wr=> ∃(k:Nat) (vss:List (List Value)) (H:Nat->Nat->Nat) (v:Value),k<=l5/\vi=Y7 Y6 k/\Hid (aI (Cps b3 X2) X2 wr)/\Hid (wr.ownsRow X2.heap.size 40 6 v k vss.flatten)/\Hid (aQ wr (λk=>X2.heap.size<=k) 6 ((c.ps.take k).map pdF) vss H)/\Hid (wr.heap[b3]?=Y5 (Y8 #[J p1 l1 q1,J p2 l2 q2,J p3 l3 q3,J p4 l4 q4,v,Y7 Y6 c.now] 29 (0,0)))) (λvi _=>l5 - (intOf vi).toNat);case atStart=>exact⟨0,[],λ_ _=>0,J U 0 0,by omega,rfl,aI.refl _ _,World.ownsRow_nil _ _ _ _,aQ.nil _ _ _ _,BoX⟩
 case round=>
  obtain⟨k,vss,H,v,hk,rfl,HK,HO,HV,Bo⟩:=hrel;obtain⟨hXs,HBW,BkR,hKs⟩:=N7;by_cases hlt:k<l5
  ·obtain⟨b,o,x,rfl,hb0,hx,hat⟩:=cg HR.p hlt;obtain⟨va,vl,vc,hvr,z0,z2,z4,c0,c1,c2,c3,c4,c5⟩:=bH hat;have hz8:vl<=8001:=by have h1:=hvr.1;have h2:=HS.ps k x hx;omega
   have HX:=aa hx;have HT:=aa hvr;have HZz0:=aa z0;have HZz2:=aa z2;have HZz4:=aa z4;clear hat hx hvr z0 z2 z4;have z613z:=@aa _ @Xp;exact zh
  ·have hkl:k=l5:=af
   have h5:=HV.out;rw[YJ af] at h5;obtain⟨p5,q5,hv,hR⟩:=h5.own HO.out bL ag (λg hg=>(HO.lt g hg).1);have hl5:(c.ps.map pdF).length=l5:=by simpa using hl5
   rw[hl5] at hv hR;subst hv;have R5:=aa (hR.dH Bo.out ag ag);have z948z:=@aa _ @SC;exact pG):p:=h
theorem Jd(h:p:=by
 clear BkR Bo HBW h5 hR HV HO HK hl5 hkl hk hKs hXs;generalize wr=X3 at*;obtain⟨k0,k1,k2,k3,k4,k5⟩:=cs6 Bk;obtain⟨o0,o1,o2,o3,o4,o5⟩:=cs6 BoX;obtain⟨r0,r1,r2,r3,r4,r5⟩:=cs6 Br;have hXs:=HBX.size;obtain⟨fr0,fr1,fr2,fr3,fr4,fr5⟩:=oS;go_wp2;refine bodyPost_ret (v:=Zc #[J p1 l1 q1,J p2 l2 q2,J p3 l3 q3,J p4 l4 q4,J p5 l5 q5,Y7 Y6 c.now]) (by simp[results,Tryz.results37,go_sem, *]) rfl ⟨⟨p1,l1,q1,p2,l2,q2,p3,l3,q3,p4,l4,q4,p5,l5,q5⟩,rfl,⟨?_,?_,?_,?_,?_⟩,sb1 (sb1 (sb1 (sb1 (sb1 (sb1 (HBX.out))))))⟩
 ·exact (R1.ay (S':=λk=>w.heap.size<=k) (λk hk s=>fX (by have s1:X.heap.size<=k:=s.1;omega)) (λk _ s=>by have s1:X.heap.size<=k:=s.1;show w.heap.size<=k;omega))
 ·exact (R2.ay (S':=λk=>w.heap.size<=k) (λk hk s=>fX (by have s1:W.heap.size<=k:=s.1;omega)) (λk _ s=>by have s1:W.heap.size<=k:=s.1;show w.heap.size<=k;omega))
 ·exact (R3.ay (S':=λk=>w.heap.size<=k) (λk hk s=>fX (by have s1:X1.heap.size<=k:=s.1;omega)) (λk _ s=>by have s1:X1.heap.size<=k:=s.1;show w.heap.size<=k;omega))
 ·exact (R4.ay (S':=λk=>w.heap.size<=k) (λk hk s=>fX (by have s1:W.heap.size<=k:=s.1;omega)) (λk _ s=>by have s1:W.heap.size<=k:=s.1;show w.heap.size<=k;omega))
 ·exact (R5.ay (S':=λk=>w.heap.size<=k) (λk hk s=>fX (by have s1:X2.heap.size<=k:=s.1;omega)) (λk _ s=>by have s1:X2.heap.size<=k:=s.1;show w.heap.size<=k;omega))):p:=h
theorem mT(h:p:=by
 replace Br:=aa ((HK.block (w.heap.size+1) af (λs=>by rcases s with s|s <;> omega)).trans Br.out);replace Bk:=BkR;replace BoX:=Bo;replace HBX:=HBW;exact z1341z):p:=h
theorem Jc(h:p:=by
 have z55z:=@aa _ @aiD;exact aC):p:=h
theorem Jb(h:p:=by
 have z55z:=@aa _ @aiC;exact aC):p:=h
theorem tj(h:p:=by
 obtain⟨Gk,Gr,HW⟩:=alE;obtain⟨k0,k1,k2,k3,k4,k5⟩:=sl6 Gk;obtain⟨r0,r1,r2,r3,r4,r5⟩:=sl6 Gr;obtain⟨nw,hne0,HC0⟩:=ahw;have HC1:=aa (λq:Wd (wr.alloc (Y8 #[I p.n,Y7 Y6 p.c,I p.z,J va vl vc,I p.d,Y7 Y6 2] 40))=>HCA.out q);exact z1345z):p:=h
theorem jL(h:p:=by
 rename_i K0 hK0;refine Gt.bF bf rfl rfl bf ?_;exact z1354z):p:=h
theorem IH(h:p:=by
 by_cases hpr:pw c pq p
 ·have z291z:=@aa _ @adB;exact zS
 ·have z291z:=@aa _ @adA;exact zS):p:=h
theorem IG(h:p:=by
 by_cases hpr:pw c pq p
 ·have HPr:=aa hpr;clear hpr;have z553z:=@aa _ @aag;exact pT
 ·have HPr:=aa hpr;clear hpr;have z553z:=@aa _ @aaf;exact pT):p:=h
theorem s8(h:p:=by
 obtain⟨b',o',pq,e',hb',hqq,hatq⟩:=cg (HR.p.below HB.out) (show kz<l5 by omega);cases e';obtain⟨qa,ql,qc,hqr,z0,z2,z4,d0,d1,d2,d3,d4,d5⟩:=bH hatq;have HXq:=aa hqq;have HTq:=aa hqr;clear hatq hqq hqr z0 z2 z4;exact z1384z):p:=h
theorem Iz(h:p:=by
 obtain⟨xa,xl,xc,hvr,z0,z2,z3,z5,d0,d1,d2,d3,d4,d5,d6,d7⟩:=aW hat;have HJ:=aa hj3;have HD:=aa hbd;have HC2:=aa d2;have HB3:=aa hb3;have hj31:decide ((j3:Int)<0)=Y_:=aG
 clear hv' hat hvr z0 z2 z3 z5 d0 d1 d2 d3 d4 d5 d6 d7 hj3 hbd hb3;obtain⟨Gk,Gr,HW⟩:=fE;obtain⟨k0,k1,k2,k3,k4,k5⟩:=sl6 Gk;have r3:=λq:Wd wr=>q.slot (o:=3) Gr.out rfl;obtain⟨tw,hne0⟩:=oP;exact z908z):p:=h
theorem Ip(h:p:=by
 go_wp2;clear pk;go_loopw [7] (λi wr=> ∃k:Nat,k<=l1/\i=Y7 Y6 k/\Hid (∀(j:Nat) n,j<k->c.ns[j]?=Y5 n->onOf n.n c.vs<=n.s)/\Hid (Below w.heap.size w wr)/\Hid (wr.heap[w.heap.size]?=Y5 (Y8 (clo6 a1 l1 y1 a2 l2 y2 a3 l3 y3 a4 l4 y4 a5 l5 y5 c.now) 29 (0,0)))) (λi _=>l1 - (intOf i).toNat);case atStart=>exact⟨0,by omega,rfl,λ_ _ h=>absurd h af,HB.out,Bk.out⟩
 case round=>
  obtain⟨k,hk,rfl,HQ,HB,Bk⟩:=hrel;have pk:=ck0 Bk;by_cases hlt:k<l1
  ·have z900z:=@aa _ @Tj;exact fQ
  ·exact P7):p:=h
theorem sS(h:p:=by
 obtain rfl:l3=k:=af
 have HQ1:Hid (∀(j:Nat) z,c.vs[j]?=Y5 z->AQ1 c z):=λj z hz=>HQ.out j z dz hz;clear HQ;exact z1409z):p:=h
theorem mN(h:p:=by
 rintro e w2 ⟨hb,hf⟩;clear k0 k1 k2 k3 k4 k5 ltk_1;replace Bk:=upK Bk hb;replace HB:=upB HB hb;clear hb;exact z1425z):p:=h
theorem Hw(h:p:=by
 have HC1:=aa (λq:Wd wr=>(bX na nl nc n.zs v.n q.w (HTn.below (HW.trans (q.b.mono HW.size)))).mono (λ_ _ h=>au.yes h HIn.out));have z55z:=@aa _ @aiI;exact aC):p:=h
theorem Hv(h:p:=by
 have HC1:=aa (λq:Wd wr=>(bX na nl nc n.zs v.n q.w (HTn.below (HW.trans (q.b.mono HW.size)))).mono (λ_ _ h=>au.no h HIn.out));have z55z:=@aa _ @aiH;exact aC):p:=h
theorem sM(h:p:=by
 have HIn:=aa hin;clear hin;have Gk:=Bk;have Gp:=Bp;have Gn:=Bn;have HW:=HB;obtain⟨k0,k1,k2,k3,k4,k5⟩:=sl6 Gk;obtain⟨p3,n6,tw,vw,hne0,HC0⟩:=alP;exact z1435z):p:=h
theorem ba(h:p:=by
 replace Bk:=upK Bk hb;replace Br:=upK Br hb;replace HB:=upB HB hb;clear hb;exact z1444z):p:=h
theorem gQ(h:p:=by
 refine Obl.plain rfl ?_;intro ac wg K hsz hW hf hK;clear hsz;have e33:=hf 33 ag;simp[aj,Yf] at e33;exact z1486z):p:=h
theorem F5(h:p:=by
 replace HTp:=aa (HTp.below hbx);replace HB:=upB HB hbx;clear hb2 hbx HA0;clear pk hb c0 c1 c2 c3 c4 c5;by_cases he:p.d=⟨#[]⟩
 ·have hq:=cC he;have HEm:=aa he;clear he;obtain⟨r5,hre⟩:∃r:Int,e=Za (Y7 Y6 r):=by rcases hf with ⟨j,y,_,_,h⟩|⟨_,h⟩ <;> exact⟨_,h⟩
  subst hre;clear hf;have z1745z:=@aa _ @C0;exact mi
 have hq:=aY he;have HEm:=aa he;clear he;rcases hf with ⟨j1,n,h1,h2,rfl⟩|⟨hh,rfl⟩;rotate_left
 ·have HH:=aa hh;clear hh;have z1745z:=@aa _ @CZ;exact mi
 have z930z:=@aa _ @SW;exact pI):p:=h
theorem jH(h:p:=by
 obtain⟨r0,r1,r2,r3,r4,r5,r6,r7⟩:=cs8 Br;have ltr_2:=ae Br.out;obtain⟨fr0,fr1,fr2,fr3,fr4,fr5,fr6,fr7⟩:=gJ;exact z1516z):p:=h
theorem FT(h:p:=by
 rintro _ ⟨q1,rfl⟩;obtain⟨HB1,Ck⟩:=iL;have Cv:=upK Gv q1.b;clear hne0 HW HB HC0 k0 k1 k2 k3 k4 k5 v6 tw Gk Gv Bk Bv pv hb hc;have HB:=HB1;clear HB1;have Bk:=Ck;clear Ck;have Bv:=Cv;clear Cv;have HBW1:=upB HBW q1.b;have hbv:=Yj HB3.out HB.size;have v7:=(ai HB.out HB3.out).trans HC7.out;clear HBW;rcases Bool.eq_false_or_eq_true n.d with hd|hd
 ·have HDd:=aa hd;clear hd;have Bv2:Hid (q1.w.heap[gb]?=Y5 (Y8 #[I n.n,I n.z,Y7 Y6 n.c,Y7 Y6 n.s,Y7 Y6 n.u,Y9 Zb,J (Y5 ⟨b2,o2,U⟩) vl vc] 83 (0,0))):=by have:=Bv.out;rw[HDd.out] at this;exact this
  clear Bv;have Bv:=Bv2;clear Bv2;have z1756z:=@aa _ @CR;exact mh
 ·have HDd:=aa hd;clear hd;have Bv2:Hid (q1.w.heap[gb]?=Y5 (Y8 #[I n.n,I n.z,Y7 Y6 n.c,Y7 Y6 n.s,Y7 Y6 n.u,Y9 Y_,J (Y5 ⟨b2,o2,U⟩) vl vc] 83 (0,0))):=by have:=Bv.out;rw[HDd.out] at this;exact this
  clear Bv;have Bv:=Bv2;clear Bv2;by_cases hin:InL v.zs n.n
  ·have HIn:=aa hin;clear hin;have z1756z:=@aa _ @CQ;exact mh
  ·have HIn:=aa hin;clear hin;have z1756z:=@aa _ @CP;exact mh):p:=h
theorem FR(h:p:=by
 rintro _ ⟨q1,rfl⟩;obtain⟨HB1,Ck⟩:=iL;have Cv:=upK Gv q1.b;clear hne0 HW HB HC0 k0 k1 k2 k3 k4 k5 v6 tw Gk Gv Bk Bv pv;have HB:=HB1;clear HB1;have Bk:=Ck;clear Ck;have Bv:=Cv;clear Cv;obtain⟨Gk,Gv,HW,k2,v0,v2,v5,v6⟩:=ahr;have hne0:=Wd.ne q1.w;have z15z:=@aa _ @ajz;exact aX):p:=h
theorem FQ(h:p:=by
 exact z613z):p:=h
theorem FP(h:p:=by
 replace c6:=(ai HBW.out hb0).trans c6;replace c7:=(ai HBW.out hb0).trans c7;have hbr:=Yj hb0 HBW.size;have hkr:=ae BkR.out;have hor:=ae Bo.out;have hz:i3.zero=Y5 (Zc #[I ⟨#[]⟩,Y7 Y6 0,I ⟨#[]⟩,I ⟨#[]⟩,Y9 Y_,I ⟨#[]⟩,Y9 Y_,J U 0 0])/\i3.size=8/\i3.bytes=112:=by have:=HI3.2;simp only[Prod.mk.injEq] at this;exact this
 obtain⟨k0,k1,k2,k3,k4,k5⟩:=cs6 BkR;have hvb:=λg hg=>(HO.lt g hg).2;go_wp2_with fail;clear k0 k1 k2 k3 k4 k5;rename_i K0 hK0;refine Gi.bF (R:=Rv v.ownBlock 59) (ex:=λ_=>U) (Rv.rel _ _) bf rfl rfl bf bf ?_;refine' Gi.Grow.stepC _ rfl ?_ ?_;rotate_left 1
 ·exact Pk
 refine' Gi.Grow.stepC _ rfl ?_ ?_;rotate_left 1
 ·have z566z:=@aa _ @X5;exact eB
 refine' Gi.Grow.stepC _ rfl ?_ ?_;rotate_left 1
 ·have z566z:=@aa _ @X4;exact eB
 refine' Gi.Grow.stepC _ rfl ?_ ?_;rotate_left 1
 ·have z566z:=@aa _ @X0;exact eB
 refine' Gi.Grow.stepC _ rfl ?_ ?_;rotate_left 1
 ·have z566z:=@aa _ @XZ;exact eB
 refine' Gi.Grow.stepC _ rfl ?_ ?_;rotate_left 1
 ·have z566z:=@aa _ @XY;exact eB
 refine' Gi.Grow.stepC _ rfl ?_ ?_;rotate_left 1
 ·have z566z:=@aa _ @XX;exact eB
 refine Gi.Grow.step (TvF wr.heap.size x) rfl (TvF.mono hvb) ?_ ?_
 ·have z566z:=@aa _ @XW;exact eB
 refine Gi.Grow.step (BsF wr.heap.size x) rfl (BsF.mono hvb) ?_ ?_
 ·have z566z:=@aa _ @XV;exact eB
 refine Gi.Grow.step (ApF X1.heap.size k ((c.vs.take (k+1)).map vdF) vss) rfl (ApF.mono) ?_ ?_
 ·refine Gi.Obl.plain rfl ?_;intro ac wg K lo hi hsz hW hpr hf hap hK;clear hsz hap;have hW:wr.grownBy wg v.ownBlock:=hW;have e51:=hf 51 ag;simp[Gi.aj,Yf] at e51;have e58:=hf 58 ag;simp[Gi.aj,Yf] at e58;clear hf;have hbW:=hpr rfl;clear hpr;obtain⟨b5,a',l',c',e58,hb5,hg5,ho5⟩:=e58;obtain⟨g,hg⟩:=ho5.fr;have hws:=hW.size;refine wp_append_own wg (.tmp 51) (.tmp 58) 25 rfl X1.heap.size 38 i3 (Zc #[I ⟨#[]⟩,Y7 Y6 0,I ⟨#[]⟩,I ⟨#[]⟩,Y9 Y_,I ⟨#[]⟩,Y9 Y_,J U 0 0]) 8 112 Tryz.underlying25 HI3.1 hz.1 hz.2.1 hz.2.2 rfl ag v k vss.flatten (by simpa[Act.eval] using e51) (cI HO.out hbW) ⟨b5,0,U⟩ 1 1 [I x.n,Y7 Y6 x.c,I x.z,I x.k,Y9 x.x,I x.m,Y9 x.y,J a' l' c'] (by simpa[Act.eval] using e58) rfl (QL hg5) (by intro u hu;simp only[YO,List.not_mem_nil,or_false] at hu;rcases hu with rfl|rfl|rfl|rfl|rfl|rfl|rfl|rfl <;> rfl) (by unfold maxLen;have:=HS.v;omega) (by have:=HS.v;omega) af ?_;intro v' w' hown hgr _;have hV:=HV.app (r:=vdF x) (vs:=[I x.n,Y7 Y6 x.c,I x.z,I x.k,Y9 x.x,I x.m,Y9 x.y,J a' l' c']) (hh:=g) hbW (cI HO.out hbW) ag hgr rfl rfl (BP HZz0.out HZz2.out HZz3.out HZz5.out (hg.ay (S':=λk=>X1.heap.size<=k) (λcu _ q=>rfl) (λ_ s=>by have s1:wr.heap.size<=g:=s;show X1.heap.size<=g;omega))) (λi zs hi hz=>by obtain⟨_,rfl⟩:=AP hi;exact (hg.lt hz).1) (λi i' zs zs' h1 _ h2 _=>(AP h1).1.trans (AP h2).1.symm);have e1:(c.vs.take (k+1)).map vdF=(c.vs.take k).map vdF++[vdF x]:=by rw[YN,HX.out];simp
  rw[<-e1] at hV;exact hK _ _ (Rv.this hgr) ⟨_,[I x.n,Y7 Y6 x.c,I x.z,I x.k,Y9 x.x,I x.m,Y9 x.y,J a' l' c'],by rw[List.flatten_append];simpa using hown,hV⟩
 refine' Gi.Grow.stepC _ rfl ?_ ?_;rotate_left 1
 ·exact Pk
 refine Gi.Grow.done ?_;intro q wz lo hi hW hf hap;clear hap;have hW:wr.grownBy wz v.ownBlock:=hW;simp only[YI] at hf;obtain⟨h60,h59,-⟩:=hf;have h60:=h60 bM;obtain⟨H',vs',hs2,hs3⟩:=h59 bM;obtain⟨v',hv'⟩:∃v',q 59=v':=⟨_,rfl⟩;rw[hv'] at hs2;obtain⟨v1',v2',v3',rfl⟩:=aA hs2;have bo5:=(hW.block b3 hor (λe=>by have:=(HO.lt _ e.symm).1;omega)).trans Bo.out;have HS1:=aa (((HK.trans (aI.uU hW (λg e=>Zd (HO.lt g e).1))).set (i:=2) (v:=J v1' v2' v3') (Ze rfl)));have HS2:=aa (uT (i:=2) (u:=J v1' v2' v3') hs2 bo5 ag);have HS3:=aa (hs3.set (i:=2) (u:=J v1' v2' v3') bo5 ag);have HS4:=aa (av (i:=2) bo5 (J v1' v2' v3'));obtain⟨o0,o1,o2,o3,o4,o5⟩:=cs6 bo5;have fo0:=al bo5 0;have fo2:=al bo5 2;have fo4:=al bo5 4;clear bo5 hs2 hs3 hW c0 c1 c2 c3 c4 c5 c6 c7;intro K hK;rw[if_pos (by rfl)];simp only[Gi.aM,YT,Act.put,Yt,YC,YE,h60,hv'];have z1706z:=@aa _ @Dx;exact eP):p:=h
theorem sB(h:p:=by
 replace c0:=(ai HBW.out hb0).trans c0;replace c1:=(ai HBW.out hb0).trans c1;replace c2:=(ai HBW.out hb0).trans c2;replace c3:=(ai HBW.out hb0).trans c3;replace c4:=(ai HBW.out hb0).trans c4;replace c5:=(ai HBW.out hb0).trans c5;exact z1525z):p:=h
theorem jF(h:p:=by
 refine Obl.plain rfl ?_;intro ac wg K hsz hW hf hK;clear hsz;have e35:=hf 35 ag;simp[aj,Yf] at e35;exact z1539z):p:=h
theorem jE(h:p:=by
 refine Obl.plain rfl ?_;intro ac wg K hsz hW hf hK;clear hsz;have e32:=hf 32 ag;simp[aj,Yf] at e32;exact z1543z):p:=h
theorem Fx(h:p:=by
 go_wp2_with fail;exact z1296z):p:=h
theorem Fj(h:p:=by
 have z1782z:=@aa _ @Cu;exact rP):p:=h
theorem E8(h:p:=by
 refine (pB d c _ (HR.below HB.out) HOK.1.2.2 HOK.2.2.2.1.2.2 HOK.2.2.1.2.2 HOK.ne (running HOK.out HPl.out)).mono ?_;rintro e w6 ⟨r,rfl,hi,hb⟩;have z1749z:=@aa _ @CW;exact fw):p:=h
theorem sw(h:p:=by
 rintro e w5 ⟨r,rfl,hi,hb⟩;have z1749z:=@aa _ @CV;exact fw):p:=h
theorem E6(h:p:=by
 have HB1:=upB HW q1.b;obtain⟨Ck,Cr⟩:=eu;clear hne0 HW HB HC0 k0 k1 k2 k3 k4 k5 r0 r1 r2 r3 r4 r5 nw Gk Gr Bk pk hb hbn e5 hbnv e5v c0 c1 c2 c3 c4 c5;have HB:=HB1;clear HB1;have Bk:=Ck;clear Ck;clear Cr;go_wp2;go_ret;refine au.f (λh=>?_) HB.out;obtain⟨i,m,e1,e2,e3,_⟩:=(h.2 k p HXp.out) HP2.out;obtain⟨_,rfl⟩:=HNR.inj e1 HJn.out (e2.trans HNn.symm);rw[HDd.out] at e3;cases e3):p:=h
theorem E5(h:p:=by
 obtain⟨HB1,Ck⟩:=iL;have Cv:=upK Gv q1.b;clear hne0 HW HB HC0 k0 k1 k2 k3 k4 k5 v7 tw Gk Gv Bk Bv pv;have HB:=HB1;clear HB1;have Bk:=Ck;clear Ck;have Bv:=Cv;clear Cv;obtain⟨Gk,Gv,HW,k0,v2,v7⟩:=N4;have hne0:=Wd.ne q1.w;have z15z:=@aa _ @ajC;exact aX):p:=h
theorem E4(h:p:=by
 obtain⟨HB1,Ck⟩:=iL;have Cv:=upK Gv q1.b;clear hne0 HW HB HC0 k0 k1 k2 k3 k4 k5 v7 tw Gk Gv Bk Bv pv hb hc;have HB:=HB1;clear HB1;have Bk:=Ck;clear Ck;have Bv:=Cv;clear Cv;have HBW1:=upB HBW q1.b;have hbn:=Yj HBn.out HB.size;have n1:=(ai HB.out HBn.out).trans HCn.out;clear HBW;by_cases hz:n.z=v.z
 ·have q8:=aP hz;have HZ:=aa hz;clear hz;obtain⟨Gk,Gv,HW,k0,v2,v7⟩:=N4;have nw:=λq:Wd q1.w=>(q.cell hbn).trans n1;have hne0:=Wd.ne q1.w;have z15z:=@aa _ @ajB;exact aX
 ·have q8:=bu hz;have HZ:=aa hz;clear hz;obtain⟨Gk,Gv,HW,k0,v2,v7⟩:=N4;have nw:=λq:Wd q1.w=>(q.cell hbn).trans n1;have hne0:=Wd.ne q1.w;have z15z:=@aa _ @ajA;exact aX):p:=h
theorem mH(h:p:=by
 repeat (go_big_quiet_step (first|(go_at_call 113;exact Calls.wide (HC0.out _))|fail))
 refine wpQuiet_nil ?_;rintro _ ⟨q1,rfl⟩;exact z1580z):p:=h
theorem sr(h:p:=by
 refine Obl.plain rfl ?_;intro ac wg K hsz hW hf hK;clear hsz;have e27:=hf 27 ag;simp[aj,Yf] at e27;have e28:=hf 28 ag;simp[aj,Yf] at e28;clear hf;exact z1587z):p:=h
theorem E0(h:p:=by
 have hvl:=HTp.1;have hvc:=Yp HTp.2.1 HTp.2.2.1;have HVL:=aa hvl;clear hvl;have z1296z:=@aa _ @JP;exact gT):p:=h
theorem EZ(h:p:=by
 exact z1308z):p:=h
theorem so(h:p:=by
 obtain⟨b,o,p,rfl,hb,hx,hat⟩:=cg (HR.p.below HB.out) hlt;obtain⟨va,vl,vc,hvr,z0,z2,z4,c0,c1,c2,c3,c4,c5⟩:=bH hat;have HXp:=aa hx;have HTp:=aa hvr;clear hat hx z0 z2 z4 hvr;exact z1589z):p:=h
theorem mG(h:p:=by
 refine Obl.plain rfl ?_;intro ac wg K hsz hW hf hK;clear hsz;have e45:=hf 45 ag;simp[aj,Yf] at e45;exact z1592z):p:=h
theorem mF(h:p:=by
 refine Obl.plain rfl ?_;intro ac wg K hsz hW hf hK;clear hsz;have e42:=hf 42 ag;simp[aj,Yf] at e42;exact z1595z):p:=h
theorem mE(h:p:=by
 refine Obl.plain rfl ?_;intro ac wg K hsz hW hf hK;clear hsz;have e91:=hf 91 ag;simp[aj,Yf] at e91;exact z1599z):p:=h
theorem mD(h:p:=by
 refine Obl.plain rfl ?_;intro ac wg K hsz hW hf hK;clear hsz;have e31:=hf 31 ag;simp[aj,Yf] at e31;exact z1602z):p:=h
theorem mC(h:p:=by
 refine Obl.plain rfl ?_;intro ac wg K hsz hW hf hK;clear hsz;have e30:=hf 30 ag;simp[aj,Yf] at e30;exact z1605z):p:=h
theorem mB(h:p:=by
 refine Obl.plain rfl ?_;intro ac wg K hsz hW hf hK;clear hsz;have e92:=hf 92 ag;simp[aj,Yf] at e92;exact z1609z):p:=h
theorem EE(h:p:=by
 exact z326z):p:=h
theorem ED(h:p:=by
 have e11:=hf 11 ag;simp[aj,Yf] at e11;clear hf;obtain⟨b0,e9,hB0,hg0⟩:=e9;have hz:i2.zero=Y5 (Zc #[I ⟨#[]⟩,Y9 Y_,Y9 Y_,I ⟨#[]⟩])/\i2.size=4/\i2.bytes=40:=by have:=HI2.2;simp only[Prod.mk.injEq] at this;exact this
 refine ri (.tmp 9) (.tmp 11) 24 74 rfl i2 (Zc #[I ⟨#[]⟩,Y9 Y_,Y9 Y_,I ⟨#[]⟩]) Tryz.underlying24 HI2.1 hz.1 hz.2.1 hz.2.2 rfl ag ag (by simpa[Act.eval] using e9) hg0 (by simpa[Act.eval] using e11) (HR.k.below (HB.trans (hW.mono HB.size))) (jU AB _) (show l2<=8 by have:=HS.k;omega) ag ?_;exact P5):p:=h
theorem mx(h:p:=by
 refine Obl.plain rfl ?_;intro ac wg K hsz hW hf hK;clear hsz;have e9:=hf 9 ag;simp[aj,Yf] at e9;exact z1618z):p:=h
theorem EC(h:p:=by
 exact z297z):p:=h
theorem mw(h:p:=by
 refine Obl.plain rfl ?_;intro ac wg K hsz hW hf hK;clear hsz;have e8:=hf 8 ag;simp[aj,Yf] at e8;exact z1621z):p:=h
theorem Et(h:p:=by
 by_cases hlt3:kz<k
 ·have z1384z:=@aa _ @IH;exact s8
 ·exact Pp):p:=h
theorem Es(h:p:=by
 by_cases hlt3:kz<k
 ·have z1384z:=@aa _ @IG;exact s8
 ·exact Pp):p:=h
theorem si(h:p:=by
 obtain⟨kz,hkz,rfl,HQ3,HBW⟩:=hrel;have HB:=aa (BV2.trans (HBW.mono BV2.size));have Bk:=upK KV2 HBW.out;have Br:=upK GV2 HBW.out;have HTp:=aa (TV2.below HBW.out);exact z1633z):p:=h
theorem Er(h:p:=by
 go_wp2;clear pk;go_loopw [7] (λi wr=> ∃k:Nat,k<=l5/\i=Y7 Y6 k/\Hid (∀(j:Nat) z,j<k->c.ps[j]?=Y5 z->MQ2 c z)/\Hid (Below w.heap.size w wr)/\Hid (wr.heap[w.heap.size]?=Y5 (Y8 (clo6 a1 l1 y1 a2 l2 y2 a3 l3 y3 a4 l4 y4 a5 l5 y5 c.now) 29 (0,0)))) (λi _=>l5 - (intOf i).toNat);case atStart=>exact⟨0,by omega,rfl,λ_ _ h=>absurd h af,HB.out,Bk.out⟩
 case round=>
  obtain⟨k,hk,rfl,HQ,HB,Bk⟩:=hrel;have pk:=ck4 Bk;by_cases hlt:k<l5
  ·have z1308z:=@aa _ @JF;exact tl
  ·obtain rfl:l5=k:=af
   go_wp2;go_ret;exact au.t ⟨HQ1.out,λj z hz=>HQ.out j z dz hz⟩ HB.out):p:=h
theorem sh(h:p:=by
 obtain rfl:l1=k:=af
 have HQ1:Hid (∀(j:Nat) z,c.ns[j]?=Y5 z->RD c z):=λj z hz=>HQ.out j z dz hz;clear HQ;exact z1636z):p:=h
theorem Eo(h:p:=by
 exact z1039z):p:=h
theorem En(h:p:=by
 clear hne0 HW HB HC0 k0 k1 k2 k3 k4 k5 r0 r1 r2 r3 r4 r5 tw Gk Gr Bk Br hc1 hb1;have HB:=HB2;clear HB2;have Bk:=Ck;clear Ck;have Br:=Cr;clear Cr;go_wp2;go_ret;refine au.f (λh=>?_) HB.out;have h9:=(h.1 k p HXp.out).2.1 kq t HXt.out;rcases h9.2 with h2|⟨v',i,n',h2,_⟩
 ·exact HEm.out h2
 ·exact HD.out v' h2):p:=h
theorem sg(h:p:=by
 repeat (go_big_quiet_step (first|(go_at_call 33;exact Calls.wide (HC0.out _))|fail))
 refine wpQuiet_nil ?_;rintro _ ⟨q2,rfl⟩;obtain⟨HB2,Ck⟩:=jQ;have Cr:=upK Gr q2.b;exact z1639z):p:=h
theorem Eg(h:p:=by
 have Bk:=Ck;clear Ck;have Br:=Cr;clear Cr;have HPa:Hid (PSa c p):=Ze HEm.out;have z1332z:=@aa _ @Jl;exact tk):p:=h
theorem Ef(h:p:=by
 have z1027z:=@aa _ @Np;exact gY):p:=h
theorem sb(h:p:=by
 rintro _ ⟨q0,rfl⟩;obtain⟨HB2,Ck,Cr,CHTp⟩:=ahf;clear hne0 HW HB k0 r0 r1 r2 r3 r4 r5 Gk Gr Bk Br HTp;have HB:=HB2;clear HB2;have HTp:=CHTp;clear CHTp;exact z1651z):p:=h
theorem DP(h:p:=by
 exact z1263z):p:=h
theorem dp(h:p:=by
 obtain⟨k0,k1,k2,k3,k4,k5⟩:=cs6 Bk;have ltk_3:=ae Bk.out;exact z1689z):p:=h
theorem DA(h:p:=by
 exact z969z):p:=h
theorem Dz(h:p:=by
 generalize ((((((wz.setCell ⟨b3,0,U⟩ (J U 0 0)).setCell ⟨b3,1,U⟩ (J p2 l2 q2)).setCell ⟨b3,2,U⟩ (J U 0 0)).setCell ⟨b3,3,U⟩ (J p4 l4 q4)).setCell ⟨b3,4,U⟩ (J U 0 0)).setCell ⟨b3,5,U⟩ (Y7 Y6 c.now))=X at BoX HWX R2 R4 ⊢;clear t0 t1 t2 t3 t4 t5 f0 f1 f2 f3 f4 f5;have HBX:=aa (HB.trans (HWX.mono HB.size));replace Bk:=aa ((HWX.block _ (ae Bk.out)).trans Bk.out);replace Br:=aa ((HWX.block _ (ae Br.out)).trans Br.out);have hb3X:=ae BoX.out;clear HB;go_wp2;go_loopw [4] (λvi wr=> ∃(k:Nat) (vss:List (List Value)) (H:Nat->Nat->Nat) (v:Value),k<=l1/\vi=Y7 Y6 k/\Hid (aI (Cps b3 X) X wr)/\Hid (wr.ownsRow X.heap.size 83 7 v k vss.flatten)/\Hid (aQ wr (λk=>X.heap.size<=k) 7 ((c.ns.take k).map ndF) vss H)/\Hid (wr.heap[b3]?=Y5 (Y8 #[v,J p2 l2 q2,J U 0 0,J p4 l4 q4,J U 0 0,Y7 Y6 c.now] 29 (0,0)))) (λvi _=>l1 - (intOf vi).toNat);case atStart=>exact⟨0,[],λ_ _=>0,J U 0 0,by omega,rfl,aI.refl _ _,World.ownsRow_nil _ _ _ _,aQ.nil _ _ _ _,BoX⟩
 case round=>
  obtain⟨k,vss,H,v,hk,rfl,HK,HO,HV,Bo⟩:=hrel;obtain⟨hXs,HBW,BkR,hKs⟩:=N7;by_cases hlt:k<l1
  ·obtain⟨b,o,x,rfl,hb0,hx,hat⟩:=dh HR.n hlt;obtain⟨va,vl,vc,hvr,z0,z1,c0,c1,c2,c3,c4,c5,c6⟩:=bg hat;have hz8:vl<=8001:=by have h1:=hvr.1;have h2:=HS.ns k x hx;omega
   have HX:=aa hx;have HT:=aa hvr;have HZz0:=aa z0;have HZz1:=aa z1;clear hat hx hvr z0 z1;have z613z:=@aa _ @Xq;exact zh
  ·have hkl:k=l1:=af
   have h5:=HV.out;rw[YJ af] at h5;obtain⟨p1,q1,hv,hR⟩:=h5.own HO.out bL ag (λg hg=>(HO.lt g hg).1);have hl5:(c.ns.map ndF).length=l1:=by simpa using hl1
   rw[hl5] at hv hR;subst hv;have R1:=aa (hR.dH Bo.out ag ag);have z948z:=@aa _ @SE;exact pG):p:=h
theorem Dy(h:p:=by
 generalize (((((((wz.setCell ⟨g5,0,U⟩ (I n.n)).setCell ⟨g5,1,U⟩ (I n.z)).setCell ⟨g5,2,U⟩ (Y7 Y6 n.c)).setCell ⟨g5,3,U⟩ (Y7 Y6 n.s)).setCell ⟨g5,4,U⟩ (Y7 Y6 n.u)).setCell ⟨g5,5,U⟩ (Y9 n.d)).setCell ⟨g5,6,U⟩ (J na nl nc))=Y at GN BN ⊢;clear r0 f0 r1 f1 r2 f2 r3 f3 r4 f4 r5 f5 r6 f6;have KV:=upK GK BN.out;have PVv:=upK GP BN.out;have BV:=aa (BW.trans (BN.mono BW.size));clear GK GP BW BN hbW;have pp:=ck3 PVv;go_wp2;clear pp;go_loopw [6] (λi wr=> ∃k:Nat,k<=pl/\i=Y7 Y6 k/\Hid (∀(j:Nat) t,j<k->p.zs[j]?=Y5 t->∃v,aO c t v/\InL n.zs v.n)/\Hid (Below Y.heap.size Y wr)) (λi _=>pl - (intOf i).toNat);case atStart=>exact⟨0,by omega,rfl,λ_ _ h=>absurd h af,Yh _ _⟩
 case round=>
  obtain⟨k,hk,rfl,HQ,HBY⟩:=hrel;have HB:=aa (BV.trans (HBY.mono BV.size));have Bk:=upK KV HBY.out;have Bp:=upK PVv HBY.out;have Bn:=upK GN HBY.out;have pp:=ck3 Bp;by_cases hlt:k<pl
  ·obtain⟨b,o,t,rfl,hb,hxt,hc,hsz⟩:=(HP.below HB.out).at hlt;have HXt:=aa hxt;clear hxt hsz;obtain⟨v,hbd⟩:=HBD.out k t HXt.out;have z927z:=@aa _ @SY;exact yC
  ·exact P2):p:=h
theorem Dx(h:p:=by
 go_wp2;exact⟨⟨k+1,_,H',_,by omega,by go_num,HS1,HS2,HS3,HS4⟩,by simp[intOf];omega⟩):p:=h
theorem eP(h:p:=by
 simp only[List.getLast];go_simp;refine hK _ _ ?_;refine hK0 _ _ ?_;clear hK hK0 K K0;exact z1706z):p:=h
theorem fx(h:p:=by
 refine Grow.done ?_;intro q wz hW hf;simp only[YI] at hf;exact z1721z):p:=h
theorem C4(h:p:=by
 have nw:=λq:Wd w1=>(q.cell hbn).trans n1;have hne0:=Wd.ne w1;exact z1323z):p:=h
theorem C0(h:p:=by
 have hne0:=Wd.ne w1;have z15z:=@aa _ @ajH;exact aX):p:=h
theorem CZ(h:p:=by
 have hne0:=Wd.ne w1;have z15z:=@aa _ @ajG;exact aX):p:=h
theorem mi(h:p:=by
 obtain⟨Gk,Gr,HW⟩:=fE;have k0:=λq:Wd w1=>q.slot (o:=0) Gk.out rfl;obtain⟨r0,r1,r2,r3,r4,r5⟩:=sl6 Gr;exact z1745z):p:=h
theorem CY(h:p:=by
 have HI4:=aa hi;clear hi;cases r
 ·obtain⟨k0,k1,k2,k3,k4,k5⟩:=cs6 Bk;go_wp2;go_ret;exact au.f (λh=>by have:=HI4.2 ((iV HOK.out HBd.out).1 h.2.2.2.1);cases this) HB.out
 have HPl:=aa (HI4.1 bM);obtain⟨k0,k1,k2,k3,k4,k5⟩:=cs6 Bk;go_wp2_with fail;refine (nY d c _ (HR.below HB.out) HOK.1.2.2 (by have:=HOK.2.2.1.1;omega)).mono ?_;have z1577z:=@aa _ @E8;exact sw):p:=h
theorem CX(h:p:=by
 exact z1316z):p:=h
theorem CW(h:p:=by
 have HI6:=aa hi;clear hi;cases r
 ·exact PW
 go_wp2;go_ret;exact au.t ⟨HI1.1 bM,HOK.out,(kQ HOK.out).2 HBd.out,(iV HOK.out HBd.out).2 HPl.out,HI5.1 bM,HI6.1 bM⟩ HB.out):p:=h
theorem CV(h:p:=by
 have HI5:=aa hi;clear hi;cases r
 ·exact aku
 obtain⟨k0,k1,k2,k3,k4,k5⟩:=cs6 Bk;go_wp2_with fail;exact z1577z):p:=h
theorem fw(h:p:=by
 clear k0 k1 k2 k3 k4 k5;replace Bk:=upK Bk hb;replace HB:=upB HB hb;clear hb;exact z1749z):p:=h
theorem CR(h:p:=by
 have z15z:=@aa _ @ajy;exact aX):p:=h
theorem CQ(h:p:=by
 have HC0:=aa (λq:Wd q1.w=>(bX xa xl xc v.zs n.n q.w (HTx.below (HW.trans (q.b.mono HW.size)))).mono (λ_ _ h=>au.yes h HIn.out));have z55z:=@aa _ @aiG;exact aC):p:=h
theorem CP(h:p:=by
 have HC0:=aa (λq:Wd q1.w=>(bX xa xl xc v.zs n.n q.w (HTx.below (HW.trans (q.b.mono HW.size)))).mono (λ_ _ h=>au.no h HIn.out));have z55z:=@aa _ @aiF;exact aC):p:=h
theorem mh(h:p:=by
 obtain⟨Gk,Gv,HW,k2,v0,v2,v5,v6⟩:=ahr;have vw:=λq:Wd q1.w=>(q.cell hbv).trans v7;have hne0:=Wd.ne q1.w;exact z1756z):p:=h
theorem CC(h:p:=by
 go_enter Tryz.func71,Tryz.ntmps71;go_wp2;go_loopw [3] (λi wr=> ∃k:Nat,k<=l3/\i=Y7 Y6 k/\Hid (∀(j:Nat) z,j<k->c.vs[j]?=Y5 z->AQ1 c z)/\Hid (Below w.heap.size w wr)/\Hid (wr.heap[w.heap.size]?=Y5 (Y8 (clo6 a1 l1 y1 a2 l2 y2 a3 l3 y3 a4 l4 y4 a5 l5 y5 c.now) 29 (0,0)))) (λi _=>l3 - (intOf i).toNat);case atStart=>exact⟨0,by omega,rfl,λ_ _ h=>absurd h af,ak _ _,Yg⟩
 case round=>
  obtain⟨k,hk,rfl,HQ,HB,Bk⟩:=hrel;have pk:=ck2 Bk;by_cases hlt:k<l3
  ·obtain⟨b,o,v,rfl,hb,hx,hat⟩:=bK (HR.v.below HB.out) hlt;have z1559z:=@aa _ @Fj;exact eQ
  ·have z1409z:=@aa _ @Ip;exact sS):p:=h
theorem rQ(h:p:=by
 obtain⟨HR,hl1,hm1,hl3⟩:=Aq;have hm3:l3<=9223372036854775807:=Yp hr.v.2.1 hr.v.2.2.1;clear hr;have HNR:=aa hn;have HL3:=aa hvs8;clear hn hvs8;exact z1775z):p:=h
theorem Cu(h:p:=by
 have KV:Hid ((wr.alloc (Y8 (vov v va vl vc) 38)).heap[w.heap.size]?=Y5 (Y8 (clo6 a1 l1 y1 a2 l2 y2 (Y5 ⟨b,o,U⟩) l3 y3 a4 l4 y4 a5 l5 y5 c.now) 29 (0,0))):=(Yl wr (Y8 (vov v va vl vc) 38) _ (ae Bk.out)).trans Bk.out;obtain⟨GV,BV⟩:=ag_;have TT:=aa (HTv.below (ak wr (Y8 (vov v va vl vc) 38)));obtain⟨W,hW⟩:∃W,W=wr.alloc (Y8 (vov v va vl vc) 38):=⟨_,rfl⟩;obtain⟨gb,hgb⟩:∃gb,gb=wr.heap.size:=⟨_,rfl⟩;rw[<-hW] at KV GV BV TT;rw[<-hgb] at GV;go_wp2;rw[<-hW,<-hgb];clear hW hgb HB Bk HTv c0 c1 c2 c3 c4 c5 c6 c7 hb pk;go_loopw [5] (λi wr=> ∃kq:Nat,kq<=vl/\i=Y7 Y6 kq/\Hid (∀(j:Nat) t,j<kq->v.zs[j]?=Y5 t->∃(i:Nat) (n:Nd),c.ns[i]?=Y5 n/\n.n=t/\n.z=v.z)/\Hid (Below W.heap.size W wr)) (λi _=>vl - (intOf i).toNat);case atStart=>exact⟨0,by omega,rfl,λ_ _ h=>absurd h af,Yh _ _⟩
 case round=>
  obtain⟨kq,hkq,rfl,HQ2,HBW⟩:=hrel;obtain⟨HB,Bk⟩:=uu;have Bv:=upK GV HBW.out;have pv:=ck7 Bv;by_cases hlt2:kq<vl
  ·obtain⟨b2,o2,t,rfl,hb,hx,hc,hsz⟩:=(TT.below HBW.out).at hlt2;have HXt:=aa hx;clear hx hsz;by_cases hnn:∃(i:Nat) (n:Nd),c.ns[i]?=Y5 n/\n.n=t;rotate_left
   ·have HH:=aa hnn;clear hnn;have Gk:=Bk;have Gv:=Bv;obtain⟨HW,k0,k1,k2,k3,k4,k5⟩:=Ao;have v7:=λq:Wd wr=>q.slot (o:=7) Gv.out rfl;obtain⟨tw,hne0⟩:=oP;have HC0:=aa (λq:Wd wr=>AR ⟨a1,l1,y1,a2,l2,y2,(Y5 ⟨b,o,U⟩),l3,y3,a4,l4,y4,a5,l5,y5⟩ c.now c.ns t q.w (HR.n.below (HW.trans (q.b.mono HW.size))) (λi n h1 h2=>HH.out ⟨i,n,h1,h2⟩));have z1247z:=@aa _ @Ku;exact bY
   obtain⟨j1,n,h1,h2⟩:=hnn;have z930z:=@aa _ @SU;exact pI
  ·exact ahI):p:=h
theorem rP(h:p:=by
 have HXv:=aa hx;have HTv:=aa hvr;clear hat hx z0 z2 z3 z5 hvr;have hvl:=HTv.1;have hvc:=Yp HTv.2.1 HTv.2.2.1;have HVL:=aa hvl;clear hvl;exact z1782z):p:=h
namespace Rc
def PSa(c:Cl) (p:Pd):Prop:=p.d=⟨#[]⟩\/∃(i:Nat) (n:Nd),c.ns[i]?=Y5 n/\n.n=p.d/\(p.z=⟨#[]⟩\/n.z=p.z)
def ak5(c:Cl) (p:Pd) (t:ByteArray):Prop:=(∃(i:Nat) (x:Xd),c.xs[i]?=Y5 x/\x.n=t)/\(p.d=⟨#[]⟩\/∃(v:Vd) (i:Nat) (n:Nd),aO c t v/\c.ns[i]?=Y5 n/\n.n=p.d/\v.z=n.z)
def PSb(c:Cl) (p:Pd):Prop:=∀(j:Nat) t,p.zs[j]?=Y5 t->ak5 c p t
def PSc(c:Cl) (k:Nat) (p:Pd):Prop:=∀(j:Nat) q,j<k->c.ps[j]?=Y5 q->pw c q p
def PS(c:Cl) (k:Nat) (p:Pd):Prop:=PSa c p/\PSb c p/\PSc c k p
def qS(c:Cl):Prop:=(∀(k:Nat) p,c.ps[k]?=Y5 p->PS c k p)/\∀(j:Nat) n,c.ns[j]?=Y5 n->cpuOf n.n c.ps<=n.c
theorem rA(d:Ad) (c:Cl) (w:World) (hr:aB w d c.raw) (hn:aF Nd.n c.ns) (hx:aF Xd.n c.xs) (hv:aF Vd.n c.vs) (hne:∀(j:Nat) v,c.vs[j]?=Y5 v->¬v.n=⟨#[]⟩) (hps8:c.ps.length<=8) (hpc:∀(j:Nat) p,c.ps[j]?=Y5 p->0<=p.c/\p.c<=1000000):
  Calls Tryz.prog 70 #[Zc #[J d.a1 d.l1 d.c1,J d.a2 d.l2 d.c2,J d.a3 d.l3 d.c3,J d.a4 d.l4 d.c4,J d.a5 d.l5 d.c5,Y7 Y6 c.now]] w (au (qS c) w):=by
 have z535z:=@aa _ @aau;exact cP
def BM(c:Cl):Prop:=(∀(j:Nat) z,c.vs[j]?=Y5 z->AQ1 c z)/\∀(j:Nat) n,c.ns[j]?=Y5 n->onOf n.n c.vs<=n.s
theorem nY(d:Ad) (c:Cl) (w:World) (hr:aB w d c.raw) (hn:aF Nd.n c.ns) (hvs8:c.vs.length<=8):
  Calls Tryz.prog 71 #[Zc #[J d.a1 d.l1 d.c1,J d.a2 d.l2 d.c2,J d.a3 d.l3 d.c3,J d.a4 d.l4 d.c4,J d.a5 d.l5 d.c5,Y7 Y6 c.now]] w (au (BM c) w):=by
 have z535z:=@aa _ @aat;exact cP
def qW(W:World):Fact:=λv w=> ∃g,v=Zf (Y5 ⟨g,0,U⟩)/\W.heap.size<=g/\w.heap[g]?=Y5 (Y8 #[I ⟨#[]⟩,I ⟨#[]⟩,Y7 Y6 0,Y7 Y6 0,Y7 Y6 0,Y9 Y_,J U 0 0] 83 (0,0))
theorem qW.mono(W:World):Fact.cA (qW W):=by
 rintro v w w' ⟨g,h1,h2,h3⟩ hb;exact⟨g,h1,h2,(hb.block g (ae h3)).trans h3⟩
theorem amj {v6:Value} (h:w.heap[g]?=Y5 (Y8 #[I ⟨#[]⟩,I ⟨#[]⟩,Y7 Y6 0,Y7 Y6 0,Y7 Y6 0,Y9 Y_,J U 0 0] 83 (0,0))):
  (((((((w.setCell ⟨g,0,U⟩ (v0)).setCell ⟨g,1,U⟩ (v1)).setCell ⟨g,2,U⟩ (v2)).setCell ⟨g,3,U⟩ (v3)).setCell ⟨g,4,U⟩ (v4)).setCell ⟨g,5,U⟩ (v5)).setCell ⟨g,6,U⟩ (v6)).heap[g]?=Y5 (Y8 #[v0,v1,v2,v3,v4,v5,v6] 83 (0,0)):=by
 have:=av (i:=6) (av (i:=5) (av (i:=4) (av (i:=3) (av (i:=2) (av (i:=1) (av (i:=0) h v0) v1) v2) v3) v4) v5) v6;simpa using this
theorem vG {v6:Value} (hg:W.heap.size<=g) (h:Below W.heap.size W w):Below W.heap.size W (((((((w.setCell ⟨g,0,U⟩ (v0)).setCell ⟨g,1,U⟩ (v1)).setCell ⟨g,2,U⟩ (v2)).setCell ⟨g,3,U⟩ (v3)).setCell ⟨g,4,U⟩ (v4)).setCell ⟨g,5,U⟩ (v5)).setCell ⟨g,6,U⟩ (v6)):=
 ah hg (ah hg (ah hg (ah hg (ah hg (ah hg (ah hg h))))))
def re(c:Cl) (p:Pd) (n:Nd):Prop:=∀(j:Nat) t,p.zs[j]?=Y5 t->∃v,aO c t v/\InL n.zs v.n
theorem mf(d:Ad) (c:Cl) (p:Pd) (pa:Option Addr) (pl pc:Nat) (j1:Nat) (n:Nd) (w:World) (hr:aB w d c.raw) (hn:aF Nd.n c.ns) (hx:aF Xd.n c.xs) (hv:aF Vd.n c.vs) (hne:∀(j:Nat) v,c.vs[j]?=Y5 v->¬v.n=⟨#[]⟩) (hp:az w pa pl pc p.zs) (hj1:c.ns[j1]?=Y5 n) (hnn:n.n=p.d) (hbd:∀(j:Nat) t,p.zs[j]?=Y5 t->∃v,aO c t v):
  Calls Tryz.prog 117 #[Zc #[J d.a1 d.l1 d.c1,J d.a2 d.l2 d.c2,J d.a3 d.l3 d.c3,J d.a4 d.l4 d.c4,J d.a5 d.l5 d.c5,Y7 Y6 c.now],Zc #[I p.n,Y7 Y6 p.c,I p.z,J pa pl pc,I p.d,Y7 Y6 p.p]] w (au (re c p n) w):=by
 have z535z:=@aa _ @aas;exact cP
theorem pB(d:Ad) (c:Cl) (w:World) (hr:aB w d c.raw) (hn:aF Nd.n c.ns) (hx:aF Xd.n c.xs) (hv:aF Vd.n c.vs) (hne:∀(j:Nat) v,c.vs[j]?=Y5 v->¬v.n=⟨#[]⟩) (hrun:∀(j:Nat) p,c.ps[j]?=Y5 p->p.p=2->(∃(i:Nat) (n:Nd),c.ns[i]?=Y5 n/\n.n=p.d)/\∀(j:Nat) t,p.zs[j]?=Y5 t->∃v,aO c t v):
  Calls Tryz.prog 72 #[Zc #[J d.a1 d.l1 d.c1,J d.a2 d.l2 d.c2,J d.a3 d.l3 d.c3,J d.a4 d.l4 d.c4,J d.a5 d.l5 d.c5,Y7 Y6 c.now]] w (au (nV c) w):=by
 have z535z:=@aa _ @aar;exact cP
theorem iD(h:aF nm xs):hit nm xs t=Zb↔∃(i:Nat) (x:α),xs[i]?=Y5 x/\nm x=t:=by
 constructor
 ·intro e;obtain⟨x,h1,h2⟩:=cf e;exact⟨_,x,h1,h2⟩
 ·rintro⟨i,x,h1,h2⟩;exact (bo h h1 h2).2
theorem kQ {c:Cl} (h:cq c):xW c↔xV c:=by
 have hk:=h.2.1.2.2;have hv:=h.2.2.1.2.2;have hx:=h.2.2.2.1.2.2;constructor
 ·rintro⟨h1,h2⟩;refine⟨λj v e=>?_,λj x e=>?_⟩
  ·obtain⟨a,b⟩:=h1 j v e;refine⟨(iD hk).1 a,b.imp id ?_⟩;rintro⟨i,j',x,v',e1,e2,e3,e4,e5,e6,_⟩;exact⟨i,x,e1,e2,e5⟩
  ·obtain⟨a,b⟩:=h2 j x e;refine⟨(iD hk).1 a,b.imp id ?_⟩;rintro⟨i,j',x',v',e1,e2,e3,e4,e5,e6,e7,e8,e9⟩;obtain⟨_,rfl⟩:=hx.inj e1 e e2;exact⟨j',v',e3,e4,e6,e7,e8,e9⟩
 ·rintro⟨h1,h2⟩;refine⟨λj v e=>?_,λj x e=>?_⟩
  ·obtain⟨a,b⟩:=h1 j v e;refine⟨(iD hk).2 a,b.imp id ?_⟩;rintro⟨i,x,e1,e2,e3⟩;have hne:¬x.v=⟨#[]⟩:=λq=>h.ne j v e (e3.symm.trans q);obtain⟨_,b2⟩:=h2 i x e1;rcases b2 with b2|⟨j',v',f1,f2,f3,f4,f5,f6⟩
   ·exact absurd b2 hne
   obtain⟨_,rfl⟩:=hv.inj f1 e (f2.trans e3);exact⟨i,j,x,v',e1,e2,e,rfl,e3,rfl,f4,f5,f6⟩
  ·obtain⟨a,b⟩:=h2 j x e;refine⟨(iD hk).2 a,b.imp id ?_⟩;rintro⟨j',v,e1,e2,e3,e4,e5,e6⟩;exact⟨j,j',x,v,e,rfl,e1,e2,rfl,e3,e4,e5,e6⟩
theorem iV {c:Cl} (h:cq c) (hb:xV c):qT c↔qS c:=by
 have hn:=h.1.2.2;have hv:=h.2.2.1.2.2;have hx:=h.2.2.2.1.2.2;have one:(∀(j:Nat) z,c.vs[j]?=Y5 z->PQ3 c z)↔∀(k:Nat) p,c.ps[k]?=Y5 p->PSc c k p:=by
  constructor
  ·intro h3 k p hp j q hj hq;by_cases e1:q.d=⟨#[]⟩
   ·exact Ze e1
   by_cases e2:p.d=⟨#[]⟩
   ·exact Zd (Ze e2)
   by_cases e3:q.d=p.d
   ·exact Zd (Zd (Ze e3))
   refine Zd (Zd (Zd λi t ht v hbd hs hin=>e3 ?_));obtain⟨i1,j1,x,f1,f2,f3,f4⟩:=hbd;have hxv:¬x.v=⟨#[]⟩:=λz=>h.ne j1 v f3 (f4.trans z);have hvm:v.m=t:=by
    rcases (hb.2 i1 x f1).2 with z|⟨j2,v2,g1,g2,g3,_⟩
    ·exact absurd z hxv
    ·obtain⟨_,rfl⟩:=hv.inj g1 f3 (g2.trans f4.symm);rw[g3,f2]
   have ht0:¬v.m=⟨#[]⟩:=λz=>by
    have h1:=(h.2.2.2.1.2.1 i1 x f1).1.1;rw[f2,<-hvm,z] at h1;exact absurd h1 ag
   have:=h3 j1 v f3 hs ht0;rw[hvm] at this;exact this j k q p hq hp e1 e2 ⟨i,ht⟩ hin
  ·intro h3 j v hj hs hm i1 i2 p q hp hq d1 d2 in1 in2;obtain⟨i4,x,f1,f2,f3⟩:=(hb.1 j v hj).2.resolve_left hm;have hbd:aO c v.m v:=⟨i4,j,x,f1,f2,hj,f3.symm⟩;rcases Nat.lt_trichotomy i1 i2 with k|k|k
   ·obtain⟨r,hr⟩:=in1;rcases h3 i2 q hq i1 p k hp with z|z|z|z
    ·exact absurd z d1
    ·exact absurd z d2
    ·exact z
    ·exact absurd in2 (z r v.m hr v hbd hs)
   ·subst k;rw[hp] at hq;rw[Yd hq]
   ·obtain⟨r,hr⟩:=in2;rcases h3 i1 p hp i2 q k hq with z|z|z|z
    ·exact absurd z d2
    ·exact absurd z d1
    ·exact z.symm
    ·exact absurd in1 (z r v.m hr v hbd hs)
 constructor
 ·rintro⟨h1,h2,h3⟩;refine⟨λk p hp=>⟨?_,?_,one.1 h3 k p hp⟩,h2⟩
  ·rcases (h1 k p hp).2 with z|⟨i,n,e1,e2,e3,e4⟩
   ·exact Ze z
   ·exact Zd ⟨i,n,e1,e2,e3.imp id Eq.symm⟩
  ·intro j t ht;refine⟨(iD hx).1 ((h1 k p hp).1 j t ht),?_⟩;rcases (h1 k p hp).2 with z|⟨i,n,e1,e2,e3,e4⟩
   ·exact Ze z
   ·obtain⟨v,f1,f2⟩:=e4 j t ht;exact Zd ⟨v,i,n,f1,e1,e2,f2⟩
 ·rintro⟨h1,h2⟩;refine⟨λk p hp=>⟨λj t ht=>(iD hx).2 ((h1 k p hp).2.1 j t ht).1,?_⟩,h2,one.2 (λk p hp=>(h1 k p hp).2.2)⟩;rcases (h1 k p hp).1 with z|⟨i,n,e1,e2,e3⟩
  ·exact Ze z
  by_cases z:p.d=⟨#[]⟩
  ·exact Ze z
  refine Zd ⟨i,n,e1,e2,e3.imp id Eq.symm,λj t ht=>?_⟩;obtain⟨v,i',n',f1,f2,f3,f4⟩:=((h1 k p hp).2.1 j t ht).2.resolve_left z;obtain⟨_,rfl⟩:=hn.inj f2 e1 (f3.trans e2.symm);exact⟨v,f1,f4⟩
theorem running {c:Cl} (h:cq c) (hp:qS c) (j:Nat) (p:Pd) (hj:c.ps[j]?=Y5 p) (h2:p.p=2):(∃(i:Nat) (n:Nd),c.ns[i]?=Y5 n/\n.n=p.d)/\∀(j:Nat) t,p.zs[j]?=Y5 t->∃v,aO c t v:=by
 have hd:¬p.d=⟨#[]⟩:=λe=>by
  have h1:=(h.2.2.2.2.2.1 j p hj).2.2.2.2;rcases h1 with ⟨h3,_⟩|⟨_,h3⟩
  ·rw[h2] at h3;cases h3
  ·have h4:=h3.1;rw[e] at h4;exact absurd h4 ag
 obtain⟨a,b,_⟩:=hp.1 j p hj;obtain⟨i,n,e1,e2,_⟩:=a.resolve_left hd;refine⟨⟨i,n,e1,e2⟩,λk t ht=>?_⟩;obtain⟨v,_,_,e3,_⟩:=(b k t ht).2.resolve_left hd;exact⟨v,e3⟩
theorem cY(d:Ad) (c:Cl) (w:World) (hr:aB w d c.raw):
  Calls Tryz.prog 30 #[Zc #[J d.a1 d.l1 d.c1,J d.a2 d.l2 d.c2,J d.a3 d.l3 d.c3,J d.a4 d.l4 d.c4,J d.a5 d.l5 d.c5,Y7 Y6 c.now]] w (au (aq c) w):=by
 obtain⟨HR,HB⟩:=kY;clear hr;go_enter Tryz.func30,Tryz.ntmps30;go_wp2_with fail;refine (o7 c.now _).mono ?_;have z294z:=@aa _ @adz;exact zR
theorem bG {o:Nat} {v:Value} (h:w.cell? ⟨b,o,U⟩=Y5 v):b<w.heap.size:=World.block_lt_of_cell? w _ h
def bB:Nat->Int
 | 0=>2
 | 1=>1
 | 2=>6
 | 3=>7
 | 4=>9
 | 5=>11
 | 6=>7
 | 7=>11
 | 8=>10
 | 9=>3
 | _=>0
theorem Below.vj(h:Below B w w'):Below B w w'.drew:=⟨h.os,h.tape,h.output,h.size,h.block⟩
end Rc
namespace Gi
abbrev Rs:=Option Tmp->World->World->Prop
structure Rel (R:Rs) (sp:Tmp):Prop where
 refl:∀w,R U w w
 trans:∀{a b c},R U a b->R U b c->R U a c
 size:∀{a b},R U a b->a.heap.size<=b.heap.size
 drew:∀w,R U w w.drew
 sub:∀s {a b},R s a b->R U a b
 low:∀s {a b},¬s=U->¬s=Y5 sp->R s a b->Below a.heap.size a b
abbrev Fact:=Value->World->Nat->Nat->Prop
abbrev Ex:=Tmp->Option Tmp
def Fact.cA(R:Rs) (ex:Ex) (d:Option Tmp) (φ:Fact):Prop:=∀s,¬s=U->¬s=d->(∀t e,d=Y5 t->ex t=Y5 e->¬s=Y5 e)->∀v w w' l h,φ v w l h->R s w w'->φ v w' l h
theorem Fact.dd(R:Rs) (ex:Ex) (d:Option Tmp) (c:Value):Fact.cA R ex d (λv _ _ _=>v=c):=λ_ _ _ _ _ _ _ _ _ h _=>h
def aj(ex:Ex) (d:Option Tmp) (a0:Act) (known:List (Tmp×Fact)) (a:Act) (w:World) (lo hi:Tmp->Nat) (t:Tmp):Prop:=
 match known.lookup t with
 | some φ=>(ex t=U\/ex t=d)->φ (a.tmps.getD t undef) w (lo t) (hi t)
 | none=>a.tmps.getD t undef=a0.tmps.getD t undef
def q_(known:List (Tmp×Fact)) (lo hi:Tmp->Nat) (ts:List Tmp):Prop:=∀t∈ts,∀t'∈ts,(known.lookup t).isSome=Zb->(known.lookup t').isSome=Zb->¬t=t'->hi t<=lo t'\/hi t'<=lo t
def Obl(R:Rs) (sp:Tmp) (ex:Ex) (P:Program) (ops:Array Oper) (Q:Exit->Act->World->Prop) (W:World) (a0:Act) (known:List (Tmp×Fact)) (o:Oper) (φ:Fact):Prop:=
 ∀(a:Act) (w:World) (K:Act->World->Prop) (lo hi:Tmp->Nat),a.tmps.size=a0.tmps.size->R U W w->(o.dst=Y5 sp->Below W.heap.size W w)->(∀t∈o.looksAt ops,aj ex o.dst a0 known a w lo hi t)->q_ known lo hi (o.looksAt ops)->
  (∀v w',R o.dst w w'->φ v w' w.heap.size w'.heap.size->K (a.put o.dst v) w')->if YP o (yielded ops a.tmps)=Zb then o.wp P a w K Q else K (a.put o.dst undef) w
theorem Obl.plain {R:Rs} {ex:Ex} {known:List (Tmp×Fact)} {φ:Fact} (hg:o.guard=U)
  (h:∀(a:Act) (w:World) (K:Act->World->Prop) (lo hi:Tmp->Nat),a.tmps.size=a0.tmps.size->R U W w->(o.dst=Y5 sp->Below W.heap.size W w)->(∀t∈jV o,aj ex o.dst a0 known a w lo hi t)->q_ known lo hi (jV o)->(∀v w',R o.dst w w'->φ v w' w.heap.size w'.heap.size->K (a.put o.dst v) w')->o.wp P a w K Q):Obl R sp ex P ops Q W a0 known o φ:=by
 intro a w K lo hi h1 h2 h6 h3 h5 h4;have hw:YP o (yielded ops a.tmps)=Zb:=by simp[YP,hg]
 rw[if_pos hw];have hs:∀t∈jV o,t∈o.looksAt ops:=λt ht=>by unfold Oper.looksAt;exact List.mem_append_left _ ht
 exact h a w K lo hi h1 h2 h6 (λt ht=>h3 t (hs t ht)) (λt ht t' ht'=>h5 t (hs t ht) t' (hs t' ht')) h4
def aM(a0:Act) (known:List (Tmp×Fact)) (x:Tmp->Value):Act:=known.foldr (λp b=>b.put (Y5 p.1) (x p.1)) a0
def amO(known:List (Tmp×Fact)) (lo hi:Tmp->Nat):Prop:=∀p∈known,∀q∈known,¬p.1=q.1->hi p.1<=lo q.1\/hi q.1<=lo p.1
def Fin(R:Rs) (ex:Ex) (P:Program) (ops:Array Oper) (Q:Exit->Act->World->Prop) (W:World) (a0:Act) (back:Option Oper) (known:List (Tmp×Fact)):Prop:=
 ∀(x:Tmp->Value) (w:World) (lo hi:Tmp->Nat),R U W w->(∀p∈known,ex p.1=U->p.2 (x p.1) w (lo p.1) (hi p.1))->amO known lo hi->jW P ops Q back (aM a0 known x) w
def kn(d:Option Tmp) (φ:Fact) (known:List (Tmp×Fact)):List (Tmp×Fact):=match d with|Y5 t=>(t,φ) ::known|U=>known
def Grow(R:Rs) (sp:Tmp) (ex:Ex) (P:Program) (ops:Array Oper) (Q:Exit->Act->World->Prop) (W:World) (a0:Act) (back:Option Oper):List Oper->List (Tmp×Fact)->Prop
 | [],known=>Fin R ex P ops Q W a0 back known
 | o ::rest,known=> ∃φ:Fact,φ.cA R ex o.dst/\Obl R sp ex P ops Q W a0 known o φ/\Grow R sp ex P ops Q W a0 back rest (kn o.dst φ known)
theorem Grow.step {R:Rs} {ex:Ex} {known:List (Tmp×Fact)} {t:Tmp} (φ:Fact) (hd:o.dst=Y5 t) (hφ:φ.cA R ex (Y5 t)) (ho:Obl R sp ex P ops Q W a0 known o φ)
  (h:Grow R sp ex P ops Q W a0 back rest ((t,φ) ::known)):Grow R sp ex P ops Q W a0 back (o ::rest) known:=⟨φ,by rw[hd];exact hφ,ho,by rw[hd];exact h⟩
theorem Grow.stepC {R:Rs} {ex:Ex} {known:List (Tmp×Fact)} {t:Tmp} (c:Value) (hd:o.dst=Y5 t) (ho:Obl R sp ex P ops Q W a0 known o (λv _ _ _=>v=c))
  (h:Grow R sp ex P ops Q W a0 back rest ((t,λv _ _ _=>v=c) ::known)):Grow R sp ex P ops Q W a0 back (o ::rest) known:=Grow.step _ hd (Fact.dd R ex _ c) ho h
theorem Grow.done {R:Rs} {ex:Ex} {known:List (Tmp×Fact)} (h:Fin R ex P ops Q W a0 back known):Grow R sp ex P ops Q W a0 back [] known:=h
section
variable {R:Rs} {sp:Tmp} {ex:Ex} {P:Program} {ops:Array Oper} {Q:Exit->Act->World->Prop} {W:World} {a0:Act} {back:Option Oper}
def knAll:List (Tmp×Fact)->List Oper->List Fact->List (Tmp×Fact)
 | known,o ::l,φ ::φs=>knAll (kn o.dst φ known) l φs
 | known,_,_=>known
theorem cL(known:List (Tmp×Fact)) (φs:List Fact):knAll known [] φs=known:=by cases φs <;> rfl
theorem Grow.spec:∀(l:List Oper) (known:List (Tmp×Fact)),Grow R sp ex P ops Q W a0 back l known->∃φs:List Fact,φs.length=l.length/\
  (∀(i:Nat) (o:Oper) (φ:Fact),l[i]?=Y5 o->φs[i]?=Y5 φ->φ.cA R ex o.dst/\Obl R sp ex P ops Q W a0 (knAll known (l.take i) (φs.take i)) o φ)/\Fin R ex P ops Q W a0 back (knAll known l φs)
 | [],known,h=>⟨[],rfl,λi o φ h=>by simp at h,by rw[cL];exact h⟩
 | o ::l,known,h=>by
  exact Ow
theorem kN(d:Option Tmp) (φ:Fact) (known:List (Tmp×Fact)) (t:Tmp):(kn d φ known).lookup t=if d=Y5 t then Y5 φ else known.lookup t:=by
 exact Qq
theorem cZ:∀(l:List Oper) (φs:List Fact) (known:List (Tmp×Fact)) {t:Tmp} {φ:Fact},(knAll known l φs).lookup t=Y5 φ->
  (∃(i:Nat) (o:Oper),l[i]?=Y5 o/\o.dst=Y5 t/\φs[i]?=Y5 φ)\/known.lookup t=Y5 φ
 | [],φs,known,t,φ,h=>by rw[cL] at h;exact Zd h
 | o ::l,[],known,t,φ,h=>Zd h
 | o ::l,ψ ::φs,known,t,φ,h=>by
  exact ahy
theorem c_:∀(l:List Oper) (φs:List Fact) (known:List (Tmp×Fact)) {t:Tmp},(knAll known l φs).lookup t=U->
  known.lookup t=U/\∀(i:Nat) (o:Oper) (φ:Fact),l[i]?=Y5 o->φs[i]?=Y5 φ->o.dst≠Y5 t
 | [],φs,known,t,h=>by rw[cL] at h;exact⟨h,λi o φ h=>by simp at h⟩
 | o ::l,[],known,t,h=>⟨h,λi o φ _ h=>by simp at h⟩
 | o ::l,ψ ::φs,known,t,h=>by
  exact ahJ
theorem dQ:∀(l:List Oper) (φs:List Fact) (known:List (Tmp×Fact)) {p:Tmp×Fact},p∈knAll known l φs->
  (∃(i:Nat) (o:Oper),l[i]?=Y5 o/\o.dst=Y5 p.1/\φs[i]?=Y5 p.2)\/p∈known
 | [],φs,known,p,h=>by rw[cL] at h;exact Zd h
 | o ::l,[],known,p,h=>Zd h
 | o ::l,ψ ::φs,known,p,h=>by
  exact ahG
theorem dC(a0:Act) (x:Tmp->Value):∀known,(aM a0 known x).tmps.size=a0.tmps.size
 | []=>rfl
 | p ::l=>by unfold aM;rw[List.foldr_cons,size_put];exact dC a0 x l
theorem dD(a0:Act) (x:Tmp->Value):∀known,(aM a0 known x).defers=a0.defers
 | []=>rfl
 | p ::l=>by unfold aM;rw[List.foldr_cons,gj];exact dD a0 x l
theorem jS(a0 a:Act) (known:List (Tmp×Fact)) (hk:∀p∈known,p.1<a0.tmps.size) (t:Tmp) (h:(∀p∈known,p.1≠t)->a.tmps.getD t undef=a0.tmps.getD t undef):
  (aM a0 known (λt=>a.tmps.getD t undef)).tmps.getD t undef=a.tmps.getD t undef:=by
 exact ahR
structure At (R:Rs) (sp:Tmp) (ex:Ex) (front:List Oper) (φs:List Fact) (W:World) (a0:Act) (listed:Array Bool) (a:Act) (w:World) (lo hi:Tmp->Nat):Prop where
 size:a.tmps.size=a0.tmps.size
 defers:a.defers=a0.defers
 below:R U W w
 pre:(∀(i:Nat) (p:Oper),front[i]?=Y5 p->p.dst=Y5 sp->listed.getD i Y_=Y_)->Below W.heap.size W w
 known:∀(i:Nat) (o:Oper) (φ:Fact),front[i]?=Y5 o->φs[i]?=Y5 φ->∀t,o.dst=Y5 t->listed.getD i Y_=Zb->(∀e,ex t=Y5 e->∀(i':Nat) (p':Oper),front[i']?=Y5 p'->p'.dst=Y5 e->listed.getD i' Y_=Y_)->φ (a.tmps.getD t undef) w (lo t) (hi t)
 top:∀(i:Nat) (o:Oper),front[i]?=Y5 o->∀t,o.dst=Y5 t->listed.getD i Y_=Zb->hi t<=w.heap.size
 apart:∀(i:Nat) (o:Oper) (i':Nat) (o':Oper),front[i]?=Y5 o->front[i']?=Y5 o'->∀t t',o.dst=Y5 t->o'.dst=Y5 t'->listed.getD i Y_=Zb->listed.getD i' Y_=Zb->¬t=t'->hi t<=lo t'\/hi t'<=lo t
 other:∀t,(∀(i:Nat) (o:Oper),front[i]?=Y5 o->o.dst=Y5 t->listed.getD i Y_=Y_)->a.tmps.getD t undef=a0.tmps.getD t undef
theorem At.step {φs:List Fact} {a:Act} {lo hi:Tmp->Nat} {φ:Fact} {v:Value} (hR:Rel R sp) (hds:¬o.dst=U) (h:At R sp ex front φs W a0 listed a w lo hi)
  (hn:(front.filterMap (·.dst)).Nodup) (hin:∀o∈front,∀t,o.dst=Y5 t->t<a0.tmps.size) (hmono:∀(i:Nat) (o:Oper) (φ:Fact),front[i]?=Y5 o->φs[i]?=Y5 φ->φ.cA R ex o.dst)
  (ho:front[j]?=Y5 o) (hφ:φs[j]?=Y5 φ) (hj:j<listed.size) (hb:R o.dst w w') (hv:φ v w' w.heap.size w'.heap.size):∃lo hi,At R sp ex front φs W a0 (listed.setIfInBounds j Zb) (a.put o.dst v) w' lo hi:=by
 have old:∀(i:Nat) (p:Oper) t,front[i]?=Y5 p->p.dst=Y5 t->¬j=i->(listed.setIfInBounds j Zb).getD i Y_=Zb->¬o.dst=Y5 t/\listed.getD i Y_=Zb:=λi p t hp ht e hl=>
  ⟨λhd=>e (fG front hn ho hp hd ht),by simpa[Yr,Array.getElem?_setIfInBounds,e] using hl⟩
 refine⟨λt=>if o.dst=Y5 t then w.heap.size else lo t,λt=>if o.dst=Y5 t then w'.heap.size else hi t,(size_put _ _ _).trans h.size,(gj _ _ _).trans h.defers,hR.trans h.below (hR.sub _ hb),λhx=>?_,?_,?_,?_,?_⟩
 ·have hns:¬o.dst=Y5 sp:=λe=>by
   have:=hx j o ho e;simp[Yr,hj] at this
  have h1:=h.pre (λi p hp hd=>by
   have h2:=hx i p hp hd
   have e:¬j=i:=λe=>by subst e;exact hns (by rw[Yd (ho.symm.trans hp)];exact hd)
   simpa[Yr,Array.getElem?_setIfInBounds,e] using h2)
  exact h1.trans ((hR.low _ hds hns hb).mono h1.size)
 ·intro i p ψ hp hψ t ht hl hx;by_cases e:j=i
  ·subst e;obtain rfl:o=p:=Yd (ho.symm.trans hp);obtain rfl:φ=ψ:=Yd (hφ.symm.trans hψ);simp only[if_pos ht];exact Py
  ·obtain⟨hne,hl'⟩:=old i p t hp ht e hl;simp only[if_neg hne];have hxo:∀e,ex t=Y5 e->∀(i':Nat) (p':Oper),front[i']?=Y5 p'->p'.dst=Y5 e->¬j=i'/\listed.getD i' Y_=Y_:=λe9 he i' p' hp' hd'=>by
    have h9:=hx e9 he i' p' hp' hd';by_cases ej:j=i'
    ·subst ej;simp[Yr,hj] at h9
    ·exact⟨ej,by simpa[Yr,Array.getElem?_setIfInBounds,ej] using h9⟩
   have h1:=hmono i p ψ hp hψ o.dst hds (λe9=>hne (e9.trans ht)) (λt9 e9 h8 h9 hd=>by
    obtain rfl:t=t9:=Yd (ht.symm.trans h8)
    exact (hxo e9 h9 j o ho hd).1 rfl) _ _ _ _ _ (h.known i p ψ hp hψ t ht hl' (λe9 he i' p' hp' hd'=>(hxo e9 he i' p' hp' hd').2)) hb
   exact O3
 ·intro i p hp t ht hl;by_cases e:j=i
  ·subst e;obtain rfl:o=p:=Yd (ho.symm.trans hp);simp only[if_pos ht];exact Ye _
  ·obtain⟨hne,hl'⟩:=old i p t hp ht e hl;simp only[if_neg hne];exact Yp (h.top i p hp t ht hl') (hR.size (hR.sub _ hb))
 ·intro i p i' p' hp hp' t t' ht ht' hl hl' hne;by_cases e:j=i
  ·subst e;obtain rfl:o=p:=Yd (ho.symm.trans hp);by_cases e':j=i'
   ·subst e';obtain rfl:o=p':=Yd (ho.symm.trans hp');exact absurd (Yd (ht.symm.trans ht')) hne
   ·obtain⟨hne',hl''⟩:=old i' p' t' hp' ht' e' hl';simp only[if_pos ht,if_neg hne'];exact Zd (h.top i' p' hp' t' ht' hl'')
  ·obtain⟨hne1,hl1⟩:=old i p t hp ht e hl;by_cases e':j=i'
   ·subst e';obtain rfl:o=p':=Yd (ho.symm.trans hp');simp only[if_pos ht',if_neg hne1];exact Ze (h.top i p hp t ht hl1)
   ·obtain⟨hne',hl''⟩:=old i' p' t' hp' ht' e' hl';simp only[if_neg hne1,if_neg hne'];exact h.apart i p i' p' hp hp' t t' ht ht' hl1 hl'' hne
 ·exact ahO
theorem Fin.last {φs:List Fact} {a:Act} {lo hi:Tmp->Nat} (hf:Fin R ex P ops Q W a0 back (knAll [] front φs)) (hlen:φs.length=front.length) (hin:∀o∈front,∀t,o.dst=Y5 t->t<a0.tmps.size)
  (h:At R sp ex front φs W a0 listed a w lo hi) (hall:∀i,i<front.length->listed.getD i Y_=Zb):jW P ops Q back a w:=by
 have h1:=hf (λt=>a.tmps.getD t undef) w lo hi h.below (λp hp hpe=>by
  rcases dQ front φs [] hp with ⟨i,o,h1,h2,h3⟩|h1
  ·exact h.known i o p.2 h1 h3 p.1 h2 (hall i (Yc.1 h1).1) (λe he=>by rw[hpe] at he;cases he)
  ·simp at h1) (λp hp q hq hne=>by
  rcases dQ front φs [] hp with ⟨i,o,h1,h2,h3⟩|h1
  ·rcases dQ front φs [] hq with ⟨i',o',g1,g2,g3⟩|g1
   ·exact h.apart i o i' o' h1 g1 p.1 q.1 h2 g2 (hall i (Yc.1 h1).1) (hall i' (Yc.1 g1).1) hne
   ·simp at g1
  ·simp at h1)
 exact ah1
theorem du {φs:List Fact} (hR:Rel R sp) (hds:∀o∈front,¬o.dst=U) (hops:ops=(front++back.toList).toArray) (hB:growB a0.tmps.size front back=Zb) (hlen:φs.length=front.length)
  (hs:∀(i:Nat) (o:Oper) (φ:Fact),front[i]?=Y5 o->φs[i]?=Y5 φ->φ.cA R ex o.dst/\Obl R sp ex P ops Q W a0 (knAll [] (front.take i) (φs.take i)) o φ) (hf:Fin R ex P ops Q W a0 back (knAll [] front φs)):
  ∀(fuel:Nat) (listed:Array Bool) (a:Act) (w:World),listed.size=ops.size->listed.toList.count Y_<=fuel->(∀o,back=Y5 o->listed.getD front.length Y_=Y_)->(∃lo hi,At R sp ex front φs W a0 listed a w lo hi)->wpAny P .any ops Q fuel listed a w:=by
 have z382z:=@aa _ @acu;exact p_
end
theorem ct {R:Rs} {ex:Ex} (hR:Rel R sp) {P:Program} {id:Nat} {Q:Exit->Act->World->Prop} {a0:Act} {W:World} {l:List Oper} {front:List Oper} {back:Option Oper} (hm:P.follows .mixedOrders=Zb) (hl:l=front++back.toList) (hds:front.all (λo=>o.dst.isSome)=Zb) (hB:growB a0.tmps.size front back=Zb)
  (h:Grow R sp ex P l.toArray Q W a0 back front []):(Code.region id l.toArray Zb).wp P Q a0 W:=by
 obtain⟨φs,hlen,hs,hf⟩:=Grow.spec _ _ h;refine wp_region_any hm (du hR (λo ho e=>by have:=List.all_eq_true.1 hds o ho;rw[e] at this;cases this) (by rw[hl]) hB hlen hs hf _ _ _ _ aG ?_ (λo ho=>?_) ⟨λ_=>0,λ_=>0,rfl,rfl,hR.drew _,λ_=>(Yh _ _).drew,λi o φ h1 h2 t ht hx _=>?_,λi o h1 t ht hx=>?_,λi o i' o' h1 h2 t t' ht ht' hx=>?_,λt _=>rfl⟩)
 ·exact qA
 ·exact bI _ _
 ·rw[bI] at hx;cases hx
 ·rw[bI] at hx;cases hx
 ·rw[bI] at hx;cases hx
theorem bF {R:Rs} {ex:Ex} (hR:Rel R sp) {P:Program} {id:Nat} {Q:Exit->Act->World->Prop} {a0:Act} {W:World} {l:List Oper} {front:List Oper} {last:Oper} (hm:P.follows .mixedOrders=Zb) (hf:l.dropLast=front) (hb:l.getLast?=Y5 last) (hds:front.all (λo=>o.dst.isSome)=Zb) (hB:growB a0.tmps.size front (Y5 last)=Zb)
  (h:Grow R sp ex P l.toArray Q W a0 (Y5 last) front []):(Code.region id l.toArray Zb).wp P Q a0 W:=by
 refine ct hR hm ?_ hds hB h;exact wH
end Gi
variable {ex:Gi.Ex}
namespace Rc
structure Sm (c:Cl):Prop where
 n:c.ns.length<=8
 ns:∀(j:Nat) x,c.ns[j]?=Y5 x->x.zs.length<=8001
 k:c.ks.length<=8
 v:c.vs.length<=8
 vs:∀(j:Nat) x,c.vs[j]?=Y5 x->x.zs.length<=8001
 x:c.xs.length<=8
 p:c.ps.length<=8
 ps:∀(j:Nat) x,c.ps[j]?=Y5 x->x.zs.length<=8001
theorem aq.sm {c:Cl} (h:aq c):Sm c:=by
 obtain⟨_,⟨⟨h1,h2,_⟩,⟨h3,_⟩,⟨h4,h5,_⟩,⟨h6,_⟩,⟨h7,h8,_⟩⟩,_⟩:=h;refine⟨by omega,λj x hj=>?_,by omega,by omega,λj x hj=>?_,by omega,by omega,λj x hj=>?_⟩
 ·have:=(h2 j x hj).2.2.2.2.2.1;omega
 ·have:=(dy (h5 j x hj).2.2.2.2.2.2).1;omega
 ·have:=(h8 j x hj).2.2.2.1.1;omega
def ey(r:List Fv):List Value:=r.map λf=>f.val.getD undef
def ic(r:List Fv):Prop:=∀(i:Nat) f,r[i]?=Y5 f->∃v,f.val=Y5 v
theorem Fv.Is.val {f:Fv} {v:Value} (h:f.Is w v) (hu:f.val=Y5 u):v=u/\f.Fr w 0 (λ_=>False) v:=by
 cases f with
 | s t=>cases hu;exact⟨h.1,h⟩
 | i n=>cases hu;exact⟨h,h⟩
 | b x=>cases hu;exact⟨h,h⟩
 | l zs=>cases hu
theorem Fv.Fr.any {f:Fv} {v:Value} {h h':Nat} {S':Nat->Prop} (k:f.Fr w h S v) (hu:f.val=Y5 u):f.Fr w' h' S' v:=by
 cases f with
 | l zs=>cases hu
 | _=>exact k
theorem Rh {r:List Fv} (hf:ic r) {i:Nat} {f:Fv} (hi:r[i]?=Y5 f):∃u,f.val=Y5 u/\(ey r)[i]?=Y5 u:=by
 obtain⟨u,hu⟩:=hf i f hi;exact⟨u,hu,by rw[ey,Yv,hi];simp[hu]⟩
theorem BD {r:List Fv} (hf:ic r) {i:Nat} {u:Value} (hi:(ey r)[i]?=Y5 u):∃f,r[i]?=Y5 f/\f.val=Y5 u:=by
 rw[ey,Yv] at hi;obtain⟨f,h1,h2⟩:=YB.1 hi;obtain⟨v,hv⟩:=hf i f h1;rw[hv] at h2;exact⟨f,h1,by rw[hv];simpa using h2⟩
section
variable {w:World} {a:Option Addr} {len cap m:Nat} {rs:List (List Fv)}
theorem j8(hm:∀(j:Nat) r,rs[j]?=Y5 r->r.length=m):∀(j:Nat) vs,(rs.map ey)[j]?=Y5 vs->vs.length=m:=by
 intro j vs hj;rw[Yv] at hj;obtain⟨r,h1,rfl⟩:=YB.1 hj;rw[ey,Yo];exact hm j r h1
theorem pg {o:Nat} (h:aT w (Y5 ⟨b,o,U⟩) len cap m rs) (hm:∀(j:Nat) r,rs[j]?=Y5 r->r.length=m/\ic r):∀(k:Nat) u,(rs.map ey).flatten[k]?=Y5 u->w.cell? ((⟨b,o,U⟩:Addr).add k)=Y5 u:=by
 intro k u hk;obtain⟨j,i,vs,h1,h2,rfl⟩:=j7 (j8 λj r hj=>(hm j r hj).1) hk;rw[Yv] at h1;obtain⟨r,h3,rfl⟩:=YB.1 h1;obtain⟨f,h4,h5⟩:=BD (hm j r h3).2 h2;rcases h.2.2.2 with rfl|⟨b',o',e,_,hc⟩
 ·simp at h3
 ·cases e;obtain⟨v,h6,h7⟩:=hc j r h3 i f h4;rw[Yn,<-Nat.add_assoc,h6,(h7.val h5).1]
theorem iE(h:aT w a len cap m rs) (hm:∀(j:Nat) r,rs[j]?=Y5 r->r.length=m/\ic r) (w':World) (S:Nat->Prop):aQ w' S m rs (rs.map ey) (λ_ _=>0):=by
 refine⟨by simp,j8 λj r hj=>(hm j r hj).1,λj r hj=>(hm j r hj).1,λj r vs hj hv i f hi=>?_,λj r i zs j' r' i' zs' hj hi=>?_⟩
 ·rw[Yv,hj] at hv;cases hv;obtain⟨u,h1,h2⟩:=Rh (hm j r hj).2 hi;rcases h.2.2.2 with rfl|⟨b',o',e,_,hc⟩
  ·simp at hj
  ·obtain⟨v,h6,h7⟩:=hc j r hj i f hi;obtain⟨rfl,h8⟩:=h7.val h1;exact⟨v,h2,h8.any h1⟩
 ·obtain⟨v,hv⟩:=(hm j r hj).2 i _ hi;cases hv
end
theorem AB(x:Kd):(kdF x).length=4/\ic (kdF x):=⟨rfl,λi f h=>by
 rcases i with _|_|_|_|i <;> first|(cases h;exact⟨_,rfl⟩)|(simp[kdF] at h)⟩
theorem xX(x:Xd):(xdF x).length=5/\ic (xdF x):=⟨rfl,λi f h=>by
 rcases i with _|_|_|_|_|i <;> first|(cases h;exact⟨_,rfl⟩)|(simp[xdF] at h)⟩
theorem jU {F:α->List Fv} (hF:∀x,(F x).length=m/\ic (F x)) (xs:List α):∀(j:Nat) r,(xs.map F)[j]?=Y5 r->r.length=m/\ic r:=by
 intro j r hj;rw[Yv] at hj;obtain⟨x,_,rfl⟩:=YB.1 hj;exact hF x
structure Co where
 c:Cl
 n:ByteArray
 p:Int
def cl0:Cl:=⟨[],[],[],[],[],0⟩
def co0(p:Int):Co:=⟨cl0,⟨#[]⟩,p⟩
def ad0:Ad:=⟨U,0,0,U,0,0,U,0,0,U,0,0,U,0,0⟩
theorem agr(w:World) (S:Nat->Prop):dK w ad0 cl0.raw S:=⟨λ_=>1,aw.nil _ _ _ _ _ (by decide),aw.nil _ _ _ _ _ (by decide),aw.nil _ _ _ _ _ (by decide),aw.nil _ _ _ _ _ (by decide),aw.nil _ _ _ _ _ (by decide)⟩
def wo(nm:α->ByteArray) (t:ByteArray) (xs:List α):List α:=xs.filter λx=> !((nm x).toList==t.toList)
theorem vv {k:Nat} {x:α} (h:xs[k]?=Y5 x) (hn:((nm x).toList==t.toList)=Y_):wo nm t (xs.take (k+1))=wo nm t (xs.take k)++[x]:=by
 unfold wo;rw[YN,h,YV];simp[hn]
theorem ag1 {k:Nat} {x:α} (h:xs[k]?=Y5 x) (hn:((nm x).toList==t.toList)=Zb):wo nm t (xs.take (k+1))=wo nm t (xs.take k):=by
 unfold wo;rw[YN,h,YV];simp[hn]
theorem kt(w:World) (t t' ty e e':TypeId) (i:TypeInfo) (ht:Tryz.prog.underlying t=Y5 (.slice e)) (ht':Tryz.prog.underlying t'=Y5 (.slice e')) (hi:Tryz.prog.info? e=Y5 i) (a:Option Addr) (l c:Nat) (b:Value):(Builtin.append_ #[t,t'] ty #[J a l c,b]).run Tryz.prog w=(Builtin.append_ #[t,t] ty #[J a l c,b]).run Tryz.prog w:=by
 simp[Builtin.append_,run_underlying ht,run_underlying ht',sizeOf,typeInfo,hi]
theorem dA {a:Act} (hgd:o.guard=U) (s x:Operand) (t t':TypeId)
  (ho:o.op=.call { callee:=.builtin .append,args:=#[s,x],argTypes:=#[t,t'] })
  (base:Nat) (e e':TypeId) (i:TypeInfo) (z:Value) (size bytes:Nat) (ht:Tryz.prog.underlying t=Y5 (.slice e)) (ht':Tryz.prog.underlying t'=Y5 (.slice e')) (hi:Tryz.prog.info? e=Y5 i) (hz:i.zero=Y5 z)
  (hsize:i.size=size) (hby:i.bytes=bytes) (hzs:z.cells.size=size) (hsz:0<size)
  (v:Value) (n:Nat) (xs:List Value) (hs:a.eval s=v) (hown:w.ownsRow base e size v n xs)
  (ad:Addr) (m c:Nat) (news:List Value) (hx:a.eval x=J (Y5 ad) m c) (hl:news.length=m*size) (hnews:∀j u,news[j]?=Y5 u->w.cell? (ad.add j)=Y5 u) (h1:∀u∈news,u.oneCell'=Zb)
  (h63:n+m<=maxLen) (hbytes:(n+m)*bytes<=140737488355328) (hbase:base<=w.heap.size)
  (h:∀v' w',w'.ownsRow base e size v' (n+m) (xs++news)->w.grownBy w' v.ownBlock->wpList Tryz.prog ops Q rest (a.put o.dst v') w'):wpList Tryz.prog ops Q (o ::rest) a w:=by
 have z352z:=@aa _ @acR;exact zM
def aR(p:Nat) (x:α) (xs:List α):List α:=xs.take p++[x]++xs.drop p
theorem dq {p:Nat} {x:α} (h:p<=xs.length):(aR p x xs).length=xs.length+1:=by
 simp only[aR,List.length_append,YF,List.length_drop,Y4,List.length_nil];omega
theorem fI {β:Type} (f:α->β) (p:Nat) (x:α) (xs:List α):(aR p x xs).map f=aR p (f x) (xs.map f):=by simp[aR,List.map_take,List.map_drop]
theorem lP {p:Nat} {x:α} (h:p<=xs.length) (j:Nat) (hj:j<xs.length+1):(aR p x xs)[j]?=(xs++[x])[if j<p then j else if j=p then xs.length else j - 1]?:=by
 unfold aR;by_cases h1:j<p
 ·rw[if_pos h1,List.append_assoc,Yu uh,Yu af,YA,if_pos h1]
 ·rw[if_neg h1];by_cases h2:j=p
  ·subst h2;have hl:(xs.take j).length=j:=by rw[YF,Nat.min_eq_left h]
   have e1:(xs.take j++[x]++xs.drop j)[j]?=Y5 x:=by
    rw[List.append_assoc,List.getElem?_append_right af,hl,Nat.sub_self];rfl
   rw[e1,if_pos rfl];simp
  ·rw[if_neg h2,List.getElem?_append_right (by simp only[List.length_append,YF,Y4,List.length_nil];omega),Yu af,List.getElem?_drop];congr 1;simp only[List.length_append,YF,Y4,List.length_nil];omega
theorem aQ.ins {rs:List (List Fv)} (h:aQ w S m rs vss H) {r:List Fv} {vs:List Value} {hh:Nat->Nat} (hr:r.length=m) (hvs:vs.length=m) (hc:∀(i:Nat) f,r[i]?=Y5 f->∃v,vs[i]?=Y5 v/\f.Fr w (hh i) S v)
  (hn:∀(i:Nat) zs,r[i]?=Y5 (.l zs)->zs≠[]->∀(j:Nat) r' (i':Nat) zs',rs[j]?=Y5 r'->r'[i']?=Y5 (.l zs')->zs'≠[]->¬H j i'=hh i)
  (h1:∀(i i':Nat) zs zs',r[i]?=Y5 (.l zs)->zs≠[]->r[i']?=Y5 (.l zs')->zs'≠[]->i=i') {p:Nat} (hp:p<=rs.length):∃H',aQ w S m (aR p r rs) (aR p vs vss) H':=by
 have hl:=h.len;have e1:(aR p r rs).length=rs.length+1:=dq hp;have e2:(aR p vs vss).length=vss.length+1:=dq af;refine⟨_,(h.push hr hvs hc hn h1).sel (λj=>if j<p then j else if j=p then rs.length else j - 1) af (λj hj=>lP hp j af) (λj hj=>?_) (λj j' hj hj' e=>?_)⟩
 ·have:=lP (x:=vs) (xs:=vss) (p:=p) af j af;rw[hl] at this;exact this
 ·split at e <;> split at e
  ·exact e
  all_goals (try split at e) <;> (try split at e) <;> omega
theorem rH {f:Nat×Nat} (h:w.heap[g]?=Y5 (Y8 cs T f)):Below w.heap.size w (w.setRow g cs):=by
 refine⟨rfl,rfl,rfl,by simp,λk hk=>?_⟩;by_cases e:k=g
 ·subst e;rw[setRow_heap w k cs cs T f h,h]
 ·exact setRow_other w g k cs e
theorem dM(t ty e:TypeId) (i:TypeInfo) (ht:Tryz.prog.underlying t=Y5 (.slice e)) (hi:Tryz.prog.info? e=Y5 i) (g cap:Nat):
  (Builtin.append_ #[t,t] ty #[J (Y5 ⟨g,0,U⟩) 0 0,J U 0 cap]).run Tryz.prog w=.ok (J (Y5 ⟨g,0,U⟩) 0 0) w:=by
 simp[Builtin.append_,run_underlying ht,sizeOf,typeInfo,hi,Builtin.lenOf,Builtin.firstCells,storeCells]
theorem bS.here {l c:Nat} {S':Nat->Prop} (h:bS w (Y5 ⟨g,0,U⟩) l c zs S) (hS:S' g):bS w (Y5 ⟨g,0,U⟩) l c zs S':=
 ⟨h.1,h.2.imp id λ⟨g',cur,e,_,hg⟩=>by cases e;exact⟨g,cur,rfl,hS,hg⟩⟩
theorem ku {g0:Nat} {len cap:Nat} (ty:TypeId) (hg:w.heap[g0]?=Y5 (Y8 #[] 9 (0,0))) (hr:az w va len cap zs) (hl:len<=8001):
  ∃a l c w',(Builtin.append_ #[36,36] ty #[J (Y5 ⟨g0,0,U⟩) 0 0,J va len cap]).run Tryz.prog w=.ok (J a l c) w'/\bS w' a l c zs (λk=>k=g0\/w.heap.size<=k)/\Below w.heap.size w w':=by
 obtain⟨i0,hi,hz0,hz1,hz2⟩:=info_parts fk;have hzl:=hr.1;rcases Nat.eq_zero_or_pos len with h0|h0
 ·subst h0;obtain rfl:zs=[]:=YM hzl;cases va with
  | none=>exact⟨_,_,_,_,dM 36 ty 9 i0 Tryz.underlying36 hi g0 cap,⟨⟨rfl,Ye _,by omega,λj x hx=>by simp at hx,Ze rfl⟩,Ze rfl⟩,Yh _ _⟩
  | some ad=>
   have h:=run_append_room (P:=Tryz.prog) w 36 ty 9 i0 Tryz.underlying36 hi g0 0 0 #[] hg ad 0 cap [] aG (λj u hu=>by simp at hu) (λu hu=>by simp at hu) af aG;exact⟨_,_,_,_,h,⟨⟨rfl,Ye _,by omega,λj x hx=>by simp at hx,Ze rfl⟩,Ze rfl⟩,by simpa using rH hg⟩
 ·cases va with
  | none=>
   rcases hr.2.2.2.2 with h|⟨b,o,e,_⟩
   ·subst h;simp at hzl;omega
   ·cases e
  | some ad=>
   have h:=run_append_grow (P:=Tryz.prog) w 36 ty 9 i0 (I ⟨#[]⟩) Tryz.underlying36 hi hz0 ⟨g0,0,U⟩ 0 0 [] aG (λj u hu=>by simp at hu) ad len cap (zs.map Ym) (by rw[hz1];simpa using hzl) (Ap.Ay hr) af af (growslice_fits af (by rw[hz2];omega));obtain⟨v',w',hr2,h2,h3,h4⟩:=run_append_own (P:=Tryz.prog) w (base:=0) 36 ty 9 i0 (I ⟨#[]⟩) 1 16 Tryz.underlying36 hi hz0 hz1 hz2 rfl ag (J (Y5 ⟨g0,0,U⟩) 0 0) 0 [] ⟨rfl,Zd ⟨g0,0,#[],rfl,YK _,hg,Ye _,by unfold maxLen;omega,rfl,rfl⟩⟩ ad len cap (zs.map Ym) (by simpa using hzl) (Ap.Ay hr) (λu hu=>by obtain⟨x,_,rfl⟩:=List.mem_map.1 hu;rfl) bj af (YK _);rw[h] at hr2
   cases hr2
   rw[Yq,List.nil_append] at h2;obtain⟨a',c',e,hT⟩:=bS.fo h2 hr.2.2.2.1;have hbel:Below w.heap.size w (w.drew.alloc (Y8 (([]:List Value).toArray++(zs.map Ym).toArray++Builtin.zeroCells (Ym ⟨#[]⟩).cells (grownCap w (0+len) 0 9 - (0+len))) 9)):=⟨rfl,rfl,rfl,by simp,λk hk=>heap_alloc_old w.drew _ (by simpa using hk)⟩;simp only[Yq] at e h hbel ⊢
   cases e
   exact⟨_,_,_,_,h,hT.here (Zd (Ye _)),hbel⟩
theorem pz {a:Act} (hgd:o.guard=U) (s x:Operand) (ho:o.op=.call { callee:=.builtin .append,args:=#[s,x],argTypes:=#[36,36] }) (g0:Nat) (hs:a.eval s=J (Y5 ⟨g0,0,U⟩) 0 0) (hg:w.heap[g0]?=Y5 (Y8 #[] 9 (0,0)))
  (va:Option Addr) (len cap:Nat) (hx:a.eval x=J va len cap) (zs:List ByteArray) (hr:az w va len cap zs) (hl:len<=8001)
  (h:∀a' l c w',bS w' a' l c zs (λk=>k=g0\/w.heap.size<=k)->Below w.heap.size w w'->wpList Tryz.prog ops Q rest (a.put o.dst (J a' l c)) w'):wpList Tryz.prog ops Q (o ::rest) a w:=by
 refine wpList_plain hgd λK hK=>?_;obtain⟨a',l,c,w',hrun,h1,h2⟩:=ku o.type hg hr hl;unfold Oper.wp execOp;simp only[ho,resolve,invoke,builtin,Sem.run_bind,Sem.run_pure,Result.andThen_ok,List.map_toArray,List.map_cons,List.map_nil,hs,hx,hrun];exact hK _ _ (h a' l c w' h1 h2)
theorem ln {g0:Nat} {len cap bytes:Nat} {rs:List (List Fv)} (t ty T:TypeId) (i:TypeInfo) (z:Value) (ht:Tryz.prog.underlying t=Y5 (.slice T)) (hi:Tryz.prog.info? T=Y5 i) (hz:i.zero=Y5 z) (hsize:i.size=m) (hby:i.bytes=bytes) (hzs:z.cells.size=m) (hsz:0<m) (hT:¬T=9) (hg:w.heap[g0]?=Y5 (Y8 #[] T (0,0)))
  (hr:aT w va len cap m rs) (hm:∀(j:Nat) r,rs[j]?=Y5 r->r.length=m/\ic r) (hl:len<=8) (hb8:bytes<=1000):
  ∃a c w',(Builtin.append_ #[t,t] ty #[J (Y5 ⟨g0,0,U⟩) 0 0,J va len cap]).run Tryz.prog w=.ok (J a len c) w'/\aw w' a len c m T rs (λk=>k=g0\/w.heap.size<=k)/\Below w.heap.size w w':=by
 rcases Nat.eq_zero_or_pos len with h0|h0
 ·subst h0;obtain rfl:rs=[]:=YM hr.1;cases va with
  | none=>exact⟨_,_,_,dM t ty T i ht hi g0 cap,aw.nil _ _ _ _ _ af,Yh _ _⟩
  | some ad=>
   have h:=run_append_room (P:=Tryz.prog) w t ty T i ht hi g0 0 0 #[] hg ad 0 cap [] aG (λj u hu=>by simp at hu) (λu hu=>by simp at hu) af aG;exact⟨_,_,_,h,aw.nil _ _ _ _ _ af,by simpa using rH hg⟩
 ·have hlen:((rs.map ey).flatten).length=len*m:=by rw[eV (j8 λj r hj=>(hm j r hj).1),Yo,hr.1]
  obtain⟨ad,rfl,hnews⟩:∃ad,va=Y5 ad/\∀(j:Nat) u,((rs.map ey).flatten)[j]?=Y5 u->w.cell? (ad.add j)=Y5 u:=by
   rcases hr.2.2.2 with h|⟨b,o,rfl,_⟩
   ·subst h;have:=hr.1;simp at this;omega
   ·exact⟨_,rfl,pg hr hm⟩
  have h:=run_append_grow (P:=Tryz.prog) w t ty T i z ht hi hz ⟨g0,0,U⟩ 0 0 [] aG (λj u hu=>by simp at hu) ad len cap (rs.map ey).flatten (by rw[hsize];exact hlen) hnews af af (growslice_fits af (by rw[hby];have:(0+len)*bytes<=8*1000:=Nat.mul_le_mul af hb8;omega));obtain⟨v',w',hr2,h2,h3,h4⟩:=run_append_own (P:=Tryz.prog) w (base:=0) t ty T i z m bytes ht hi hz hsize hby hzs hsz (J (Y5 ⟨g0,0,U⟩) 0 0) 0 [] ⟨by simp,Zd ⟨g0,0,#[],rfl,YK _,hg,Ye _,by unfold maxLen;omega,by simp,by simp⟩⟩ ad len cap (rs.map ey).flatten hlen hnews (iE hr hm w (λ_=>True)).one bj (by have:(0+len)*bytes<=8*1000:=Nat.mul_le_mul af hb8;omega) (YK _);rw[h] at hr2;cases hr2;rw[Yq,List.nil_append] at h2;obtain⟨a',c',e,hR⟩:=(iE hr hm _ (λk=>k=g0\/w.heap.size<=k)).own h2 hr.1.symm hT (λg hg=>by simp[YL] at hg;exact Zd af);have hbel:Below w.heap.size w (w.drew.alloc (Y8 (([]:List Value).toArray++((rs.map ey).flatten).toArray++Builtin.zeroCells z.cells (grownCap w (0+len) 0 T - (0+len))) T)):=⟨rfl,rfl,rfl,by simp,λk hk=>heap_alloc_old w.drew _ (by simpa using hk)⟩;rw[hr.1] at e hR;simp only[Yq] at e h hbel hR ⊢;cases e;exact⟨_,_,_,h,hR,hbel⟩
theorem ri {a:Act} {K:Act->World->Prop} {g0:Nat} {len cap bytes:Nat} {rs:List (List Fv)} (s x:Operand) (t T:TypeId) (ho:o.op=.call { callee:=.builtin .append,args:=#[s,x],argTypes:=#[t,t] }) (i:TypeInfo) (z:Value) (ht:Tryz.prog.underlying t=Y5 (.slice T)) (hi:Tryz.prog.info? T=Y5 i) (hz:i.zero=Y5 z) (hsize:i.size=m) (hby:i.bytes=bytes) (hzs:z.cells.size=m) (hsz:0<m) (hT:¬T=9) (hs:a.eval s=J (Y5 ⟨g0,0,U⟩) 0 0) (hg:w.heap[g0]?=Y5 (Y8 #[] T (0,0)))
  (hx:a.eval x=J va len cap) (hr:aT w va len cap m rs) (hm:∀(j:Nat) r,rs[j]?=Y5 r->r.length=m/\ic r) (hl:len<=8) (hb8:bytes<=1000)
  (h:∀a' c' w',aw w' a' len c' m T rs (λk=>k=g0\/w.heap.size<=k)->Below w.heap.size w w'->K (a.put o.dst (J a' len c')) w'):o.wp Tryz.prog a w K Q:=by
 obtain⟨a',c',w',hrun,h1,h2⟩:=ln t o.type T i z ht hi hz hsize hby hzs hsz hT hg hr hm hl hb8;unfold Oper.wp execOp;simp only[ho,resolve,invoke,builtin,Sem.run_bind,Sem.run_pure,Result.andThen_ok,List.map_toArray,List.map_cons,List.map_nil,hs,hx,hrun];exact h a' c' w' h1 h2
theorem RV {o p:Obj} (h:Below (w.heap.size+1+1) ((w.alloc o).alloc p) w'):w'.heap[w.heap.size]?=Y5 o/\w'.heap[w.heap.size+1]?=Y5 p/\Below w.heap.size w w':=dP (by rw[cw,cw];exact h)
theorem iM(w:World) (n:Nat) (hn:w.heap.size=n) (vs:List Value) (T:TypeId):∀(j:Nat) u,vs[j]?=Y5 u->(w.alloc (Y8 vs.toArray T)).cell? ((⟨n,0,U⟩:Addr).add j)=Y5 u:=by
 subst hn;exact dv w vs T
theorem anb {u0 u1 u2 u3 u4 u5:Value} (h:w.heap[b]?=Y5 (Y8 #[u0,u1,u2,u3,u4,u5] T (0,0))):
  ((((((w.setCell ⟨b,0,U⟩ v0).setCell ⟨b,1,U⟩ v1).setCell ⟨b,2,U⟩ v2).setCell ⟨b,3,U⟩ v3).setCell ⟨b,4,U⟩ v4).setCell ⟨b,5,U⟩ v5).heap[b]?=Y5 (Y8 #[v0,v1,v2,v3,v4,v5] T (0,0)):=
 av (av (av (av (av (av h v0) v1) v2) v3) v4) v5
theorem fX {k:Nat} (hk:¬k=b):
  ((((((w.setCell ⟨b,0,U⟩ v0).setCell ⟨b,1,U⟩ v1).setCell ⟨b,2,U⟩ v2).setCell ⟨b,3,U⟩ v3).setCell ⟨b,4,U⟩ v4).setCell ⟨b,5,U⟩ v5).heap[k]?=w.heap[k]?:=by
 rw[Ya _ _ _ _ hk,Ya _ _ _ _ hk,Ya _ _ _ _ hk,Ya _ _ _ _ hk,Ya _ _ _ _ hk,Ya _ _ _ _ hk]
theorem aw.dH {a:Option Addr} {len cap:Nat} {T':TypeId} {rs:List (List Fv)} (h:aw w a len cap m T rs S) {b:Nat} {cs:Array Value} (hb:w.heap[b]?=Y5 (Y8 cs T' (0,0))) (h1:¬T'=T) (h2:¬T'=9):aw w a len cap m T rs (λk=>S k/\¬k=b):=by
 obtain⟨a1,a2,a3,a4⟩:=h;refine⟨a1,a2,a3,a4.imp id ?_⟩;rintro⟨g,cur,H,e,h5⟩;refine⟨g,cur,H,e,h5.blk,⟨h5.inS,λq=>?_⟩,h5.len,λj r hj i f hi=>?_,h5.inj⟩
 ·subst q;have:=h5.blk;rw[hb] at this;cases this;exact h1 rfl
 ·obtain⟨v,q1,q2⟩:=h5.cell j r hj i f hi;refine⟨v,q1,?_⟩;cases f with
  | l zs=>
   obtain⟨a',l',c',k1,k2,k3,k4,k5,k6⟩:=q2;refine⟨a',l',c',k1,k2,k3,k4,k5,k6.imp id ?_⟩;rintro⟨z1,z2,z3,cu,z4,z5⟩;refine⟨z1,⟨z2,λq=>?_⟩,z3,cu,z4,z5⟩;rw[q] at z4;rw[hb] at z4
   cases z4
   exact h2 rfl
  | _=>exact q2
theorem uT {n:Nat} {T':TypeId} {v:Value} {xs:List Value} {i:Nat} (h:w.ownsRow base T m v n xs) (hb:w.heap[b]?=Y5 (Y8 cs T' (0,0))) (hT:¬T'=T):(w.setCell ⟨b,i,U⟩ u).ownsRow base T m v n xs:=by
 refine⟨h.1,h.2.imp id ?_⟩;rintro⟨g,cap,cur,h1,h2,h3,h4⟩;refine⟨g,cap,cur,h1,h2,(Ya _ _ _ _ (λe=>?_)).trans h3,h4⟩;subst e;rw[hb] at h3;cases h3;exact hT rfl
theorem aQ.set {rs:List (List Fv)} (h:aQ w S m rs vss H) {b i:Nat} {cs:Array Value} {T':TypeId} {u:Value} (hb:w.heap[b]?=Y5 (Y8 cs T' (0,0))) (hT:¬T'=9):aQ (w.setCell ⟨b,i,U⟩ u) S m rs vss H:=
 h.ay (λk cu _ q=>Ya _ _ _ _ (λe=>by subst e;rw[hb] at q;cases q;exact hT rfl)) (λ_ _ s=>s)
theorem aI.uU(hg:W.grownBy w vb) (h:∀g,vb=Y5 g->S g):aI S W w:=⟨hg.os,hg.tape,hg.output,hg.size,λk hk hn=>hg.block k hk (λe=>hn (h k e.symm))⟩
theorem aA {n:Nat} {v:Value} {xs:List Value} (h:w.ownsRow base T m v n xs):∃a l c,v=J a l c:=by
 rcases h.2 with ⟨rfl,_⟩|⟨g,cap,cur,rfl,_⟩
 ·exact⟨_,_,_,rfl⟩
 ·exact⟨_,_,_,rfl⟩
abbrev Cps(b:Nat) (X:World):Nat->Prop:=λk=>k=b\/X.heap.size<=k
theorem xL {X wr w5:World} {b3 k:Nat} {TC:TypeId} {v:Value} {xs:List Value} (hO:wr.ownsRow X.heap.size T m v k xs) (hBo:wr.heap[b3]?=Y5 (Y8 cs TC (0,0))) (hb3:b3<X.heap.size) (hb:Below wr.heap.size wr W) (hg:W.grownBy w5 v.ownBlock):w5.heap[b3]?=Y5 (Y8 cs TC (0,0)):=
 (hg.block b3 (Yj (ae hBo) hb.size) (λe=>by have:=(hO.lt b3 e.symm).1;omega)).trans ((hb.block _ (ae hBo)).trans hBo)
theorem AG {X wr w5:World} {b3 k f:Nat} {TC:TypeId} {v v':Value} {rs:List (List Fv)} {r:List Fv} {vs:List Value} {hh:Nat} (hK:aI (Cps b3 X) X wr) (hO:wr.ownsRow X.heap.size T m v k vss.flatten) (hV:aQ wr (λk=>X.heap.size<=k) m rs vss H) (hBo:wr.heap[b3]?=Y5 (Y8 cs TC (0,0))) (hb3:b3<X.heap.size)
  (hb:Below wr.heap.size wr W) (hown:w5.ownsRow X.heap.size T m v' (k+1) (vss.flatten++vs)) (hg:W.grownBy w5 v.ownBlock) (hT:¬T=9) (hTC:¬TC=T) (hTS:¬TC=9) (hr:r.length=m) (hvs:vs.length=m) (hc:∀(i:Nat) f,r[i]?=Y5 f->∃v,vs[i]?=Y5 v/\f.Fr W hh (λk=>X.heap.size<=k) v) (hfr:∀(i:Nat) zs,r[i]?=Y5 (.l zs)->zs≠[]->wr.heap.size<=hh)
  (h1:∀(i i':Nat) zs zs',r[i]?=Y5 (.l zs)->zs≠[]->r[i']?=Y5 (.l zs')->zs'≠[]->i=i'):
  aI (Cps b3 X) X (w5.setCell ⟨b3,f,U⟩ v')/\(w5.setCell ⟨b3,f,U⟩ v').ownsRow X.heap.size T m v' (k+1) (vss++[vs]).flatten/\(∃H',aQ (w5.setCell ⟨b3,f,U⟩ v') (λk=>X.heap.size<=k) m (rs++[r]) (vss++[vs]) H')/\(w5.setCell ⟨b3,f,U⟩ v').heap[b3]?=Y5 (Y8 (cs.setIfInBounds f v') TC (0,0)):=by
 have hb5:=xL hO hBo hb3 hb hg;refine⟨?_,?_,⟨_,(hV.app hb (cI hO hb) hT hg hr hvs hc hfr h1).set hb5 hTS⟩,av hb5 v'⟩
 ·exact ((hK.trans (aI.dE hb)).trans (aI.uU hg (λg e=>Zd (hO.lt g e).1))).set (Ze rfl)
 ·rw[List.flatten_append];refine uT ?_ hb5 hTC;simpa using hown
structure df (w:World) (d:Ad) (c:Cr) (S:Nat->Prop):Prop where
 n:aw w d.a1 d.l1 d.c1 7 83 c.n S
 k:aw w d.a2 d.l2 d.c2 4 74 c.k S
 v:aw w d.a3 d.l3 d.c3 8 38 c.v S
 x:aw w d.a4 d.l4 d.c4 5 50 c.x S
 p:aw w d.a5 d.l5 d.c5 6 40 c.p S
def EmF(B:Nat) (T:TypeId):Fact:=λv w=> ∃b,v=J (Y5 ⟨b,0,U⟩) 0 0/\B<=b/\w.heap[b]?=Y5 (Y8 #[] T (0,0))
theorem EmF.mono(B:Nat) (T:TypeId):Fact.cA (EmF B T):=by
 exact oU
def RwF(B len m:Nat) (T:TypeId) (rs:List (List Fv)):Fact:=λv w=> ∃a c,v=J a len c/\aw w a len c m T rs (λk=>B<=k)
theorem RwF.mono(B len m:Nat) (T:TypeId) (rs:List (List Fv)):Fact.cA (RwF B len m T rs):=by
 rintro v w w' ⟨a,c,h1,h2⟩ hb;exact⟨a,c,h1,h2.below hb⟩
def CpF(B l2 l4:Nat) (c:Cl):Fact:=λv w=> ∃a2 c2 a4 c4,v=Zc #[J U 0 0,J a2 l2 c2,J U 0 0,J a4 l4 c4,J U 0 0,Y7 Y6 c.now]/\aw w a2 l2 c2 4 74 (c.ks.map kdF) (λk=>B<=k)/\aw w a4 l4 c4 5 50 (c.xs.map xdF) (λk=>B<=k)
theorem CpF.mono(B l2 l4:Nat) (c:Cl):Fact.cA (CpF B l2 l4 c):=by
 rintro v w w' ⟨a2,c2,a4,c4,h1,h2,h3⟩ hb;exact⟨a2,c2,a4,c4,h1,h2.below hb,h3.below hb⟩
def FrF(B:Nat):Fact:=λv w=> ∃b,v=Zf (Y5 ⟨b,0,U⟩)/\B<=b/\w.heap[b]?=Y5 (Y8 #[J U 0 0,J U 0 0,J U 0 0,J U 0 0,J U 0 0,Y7 Y6 0] 29 (0,0))
theorem FrF.mono(B:Nat):Fact.cA (FrF B):=by
 exact oU
def Rv(vb:Option Nat) (sp:Tmp):Gi.Rs:=λs w w'=>match s with
 | none=>w.grownBy w' vb
 | some t=>if t=sp then w.grownBy w' vb else Below w.heap.size w w'
theorem eU(vb:Option Nat) (h:Below w.heap.size w w'):w.grownBy w' vb:=⟨h.os,h.tape,h.output,h.size,λk hk _=>h.block k hk⟩
theorem Rv.below {s:Option Tmp} (h:Rv vb sp s w w') (h1:¬s=U) (h2:¬s=Y5 sp):Below w.heap.size w w':=by
 cases s with
 | none=>exact absurd rfl h1
 | some t=>
  simp only[Rv] at h;rw[if_neg (λe=>h2 (by rw[e]))] at h;exact h
theorem Rv.rel(vb:Option Nat) (sp:Tmp):Gi.Rel (Rv vb sp) sp:=by
 refine⟨λw=>eU vb (Yh _ _),fun {a b c} h k=>?_,λh=>World.grownBy.size h,λw=>eU vb (Yh _ _).drew,λs {a b} h=>?_,λs {a b} h1 h2 h=>Rv.below h h1 h2⟩
 ·have h:World.grownBy a b vb:=h;have k:World.grownBy b c vb:=k;exact⟨k.os.trans h.os,k.tape.trans h.tape,k.output.trans h.output,Yp h.size k.size,λi hi hn=>(k.block i (Yj hi h.size) hn).trans (h.block i hi hn)⟩
 ·cases s with
  | none=>exact h
  | some t=>
   show World.grownBy a b vb
   simp only[Rv] at h
   split at h
   ·exact h
   ·exact eU vb h
theorem Rv.other {t:Tmp} (ht:¬t=sp) (h:Below w.heap.size w w'):Rv vb sp (Y5 t) w w':=by
 show (if t=sp then w.grownBy w' vb else Below w.heap.size w w');rw[if_neg ht];exact h
theorem Rv.this(h:w.grownBy w' vb):Rv vb sp (Y5 sp) w w':=by
 show (if sp=sp then w.grownBy w' vb else Below w.heap.size w w');rw[if_pos rfl];exact h
theorem QL {vs:List Value} (h:w.heap[b]?=Y5 (Y8 vs.toArray T (0,0))):∀(j:Nat) u,vs[j]?=Y5 u->w.cell? ((⟨b,0,U⟩:Addr).add j)=Y5 u:=by
 intro j u hu;rw[Yn,an h,Yq];simpa using hu
def TvF(B:Nat) (x:Vd):Gi.Fact:=λu w _ _=> ∃a l c,u=Zc #[I x.n,Y7 Y6 x.c,I x.z,I x.k,Y9 x.x,I x.m,Y9 x.y,J a l c]/\bS w a l c x.zs (λk=>B<=k)
def BsF(B:Nat) (x:Vd):Gi.Fact:=λu w _ _=> ∃b a l c,u=J (Y5 ⟨b,0,U⟩) 1 1/\B<=b/\w.heap[b]?=Y5 (Y8 #[I x.n,Y7 Y6 x.c,I x.z,I x.k,Y9 x.x,I x.m,Y9 x.y,J a l c] 38 (0,0))/\bS w a l c x.zs (λk=>B<=k)
def ApF(B k:Nat) (rs:List (List Fv)) (vss:List (List Value)):Gi.Fact:=λu w _ _=> ∃H' vs,w.ownsRow B 38 8 u (k+1) (vss++[vs]).flatten/\aQ w (λk=>B<=k) 8 rs (vss++[vs]) H'
theorem TvF.mono {x:Vd} (hv:∀g,vb=Y5 g->g<B):Gi.Fact.cA (Rv vb sp) ex d (TvF B x):=by
 rintro s _ _ _ v w w' l h ⟨a,l,c,h1,h2⟩ hb;have hb:w.grownBy w' vb:=(Rv.rel vb sp).sub s hb;exact⟨a,l,c,h1,h2.ay (λk hk s=>hb.block k hk (λe=>by have s1:B<=k:=s;have:=hv k e.symm;omega)) (λ_ _ s=>s)⟩
theorem BsF.mono {x:Vd} (hv:∀g,vb=Y5 g->g<B):Gi.Fact.cA (Rv vb sp) ex d (BsF B x):=by
 rintro s _ _ _ v w w' l h ⟨b,a,l,c,h1,h2,h3,h4⟩ hb;have hb:w.grownBy w' vb:=(Rv.rel vb sp).sub s hb;exact⟨b,a,l,c,h1,h2,(hb.block _ (ae h3) (λe=>by have:=hv b e.symm;omega)).trans h3,h4.ay (λk hk s=>hb.block k hk (λe=>by have s1:B<=k:=s;have:=hv k e.symm;omega)) (λ_ _ s=>s)⟩
theorem ApF.mono {k:Nat} {rs:List (List Fv)} :Gi.Fact.cA (Rv vb sp) ex (Y5 sp) (ApF B k rs vss):=by
 rintro s h1 h2 _ v w w' l h ⟨H',vs,h3,h4⟩ hb;have hb:=Rv.below hb h1 h2;exact⟨H',vs,cI h3 hb,h4.below hb⟩
theorem cE(d:Ad) (c:Cl) (w:World) (hr:aB w d c.raw) (hs:Sm c):
  Calls Tryz.prog 37 #[Zc #[J d.a1 d.l1 d.c1,J d.a2 d.l2 d.c2,J d.a3 d.l3 d.c3,J d.a4 d.l4 d.c4,J d.a5 d.l5 d.c5,Y7 Y6 c.now]] w λe w'=> ∃d',e=Za (Zc #[J d'.a1 d'.l1 d'.c1,J d'.a2 d'.l2 d'.c2,J d'.a3 d'.l3 d'.c3,J d'.a4 d'.l4 d'.c4,J d'.a5 d'.l5 d'.c5,Y7 Y6 c.now])/\df w' d' c.raw (λk=>w.heap.size<=k)/\Below w.heap.size w w':=by
 have z145z:=@aa _ @afA;exact fe
theorem bw(hl:∀(j:Nat) vs,vss[j]?=Y5 vs->vs.length=m) {k:Nat} (hk:k<=vss.length):(vss.take k).flatten.length=k*m:=by
 rw[eV (m:=m) (λj vs h=>?_),YF,Nat.min_eq_left hk];rw[YA] at h;split at h
 ·exact hl j vs h
 ·cases h
theorem dS(hl:∀(j:Nat) vs,vss[j]?=Y5 vs->vs.length=m) {k:Nat} :(vss.drop k).flatten.length=(vss.length - k)*m:=by
 rw[eV (m:=m) (λj vs h=>?_),List.length_drop];rw[List.getElem?_drop] at h;exact hl _ vs h
theorem cD {k i:Nat} (h:(vss.take k).flatten[i]?=Y5 u):vss.flatten[i]?=Y5 u:=by
 have h1:vss.flatten=(vss.take k).flatten++(vss.drop k).flatten:=Ai
 rw[h1,Yu (Yc.1 h).1];exact h
theorem cV(hl:∀(j:Nat) vs,vss[j]?=Y5 vs->vs.length=m) {k i:Nat} {u:Value} (hk:k<=vss.length) (h:(vss.drop k).flatten[i]?=Y5 u):vss.flatten[k*m+i]?=Y5 u:=by
 have h1:vss.flatten=(vss.take k).flatten++(vss.drop k).flatten:=Ai
 rw[h1,List.getElem?_append_right (by rw[bw hl hk];omega),bw hl hk,Nat.add_sub_cancel_left];exact h
theorem aD {P:Value->Prop} (h:∀u∈vss.flatten,P u) (k:Nat):(∀u∈(vss.take k).flatten,P u)/\∀u∈(vss.drop k).flatten,P u:=by
 have h1:vss.flatten=(vss.take k).flatten++(vss.drop k).flatten:=Ai
 exact⟨λu hu=>h u (by rw[h1];exact List.mem_append_left _ hu),λu hu=>h u (by rw[h1];exact List.mem_append_right _ hu)⟩
theorem aJ(p:Int) (w:World):
  Calls Tryz.prog 32 #[Y7 Y6 p] w λe w'=>e=Za (Zc #[J U 0 0,J U 0 0,J U 0 0,J U 0 0,J U 0 0,Y7 Y6 0,I ⟨#[]⟩,Y7 Y6 p])/\Below w.heap.size w w':=by
 go_enter Tryz.func32,Tryz.ntmps32;go_wp2;exact bodyPost_ret (v:=Zc #[J U 0 0,J U 0 0,J U 0 0,J U 0 0,J U 0 0,Y7 Y6 0,I ⟨#[]⟩,Y7 Y6 p]) (by simp[results,Tryz.results32,go_sem]) rfl ⟨rfl,ak _ _⟩
def UF(w:World) (g:Nat):Prop:=∃cs T,w.heap[g]?=Y5 (Y8 cs T (0,0))
def LoA(B:Nat) (w:World) (a:Option Addr) (len:Nat):Prop:=len=0\/∃b o,a=Y5 ⟨b,o,U⟩/\B<=b/\UF w b
structure Low (B:Nat) (w:World) (d:Ad):Prop where
 n:LoA B w d.a1 d.l1
 k:LoA B w d.a2 d.l2
 v:LoA B w d.a3 d.l3
 x:LoA B w d.a4 d.l4
 p:LoA B w d.a5 d.l5
theorem lo0(B:Nat) (w:World):Low B w ad0:=⟨Ze rfl,Ze rfl,Ze rfl,Ze rfl,Ze rfl⟩
theorem aw.lo {a:Option Addr} {len cap:Nat} {rs:List (List Fv)} (h:aw w a len cap m T rs S) {B:Nat} (hS:∀k,S k->B<=k):LoA B w a len:=by
 obtain⟨h1,_,_,h4⟩:=h;rcases h4 with h4|⟨g,cur,H,h5,h6⟩
 ·subst h4;exact Ze h1.symm
 ·exact Zd ⟨g,0,h5,hS g h6.inS,_,_,h6.blk⟩
def RL(B:Nat) (w:World) (a:Option Addr) (len cap m:Nat) (rs:List (List Fv)):Prop:=aT w a len cap m rs/\LoA B w a len
theorem aw.rl {a:Option Addr} {len cap:Nat} {rs:List (List Fv)} (h:aw w a len cap m T rs S) (hS:∀k,S k->B<=k):RL B w a len cap m rs:=⟨h.row,h.lo hS⟩
structure kf (B:Nat) (w:World) (d:Ad) (c:Cr):Prop where
 n:RL B w d.a1 d.l1 d.c1 7 c.n
 k:RL B w d.a2 d.l2 d.c2 4 c.k
 v:RL B w d.a3 d.l3 d.c3 8 c.v
 x:RL B w d.a4 d.l4 d.c4 5 c.x
 p:RL B w d.a5 d.l5 d.c5 6 c.p
theorem kf.of {d:Ad} {c:Cr} (h:aB w d c) (l:Low B w d):kf B w d c:=⟨⟨h.n,l.n⟩,⟨h.k,l.k⟩,⟨h.v,l.v⟩,⟨h.x,l.x⟩,⟨h.p,l.p⟩⟩
theorem rl0(B:Nat) (w:World):kf B w ad0 cl0.raw:=kf.of (agr w (λ_=>True)).row (lo0 B w)
def jc(Is:Co->Prop) (w:World) (e:Ending) (w':World):Prop:=∃g o,e=Za (Zc #[J g.a1 g.l1 g.c1,J g.a2 g.l2 g.c2,J g.a3 g.l3 g.c3,J g.a4 g.l4 g.c4,J g.a5 g.l5 g.c5,Y7 Y6 o.c.now,I o.n,Y7 Y6 o.p])/\Is o/\kf w.heap.size w' g o.c.raw/\Below w.heap.size w w'
def Rw(p:Pd) (t m:ByteArray):Prop:=p.d=t/\InL p.zs m
theorem jq(w:World) (t t' ty e e':TypeId) (i:TypeInfo) (ht:Tryz.prog.underlying t=Y5 (.slice e)) (ht':Tryz.prog.underlying t'=Y5 (.slice e')) (hi:Tryz.prog.info? e=Y5 i) (a:Option Addr) (l c:Nat) (b:Value):(Builtin.append_ #[t,t'] ty #[J a l c,b]).run Tryz.prog w=(Builtin.append_ #[t,t] ty #[J a l c,b]).run Tryz.prog w:=by
 simp[Builtin.append_,run_underlying ht,run_underlying ht',sizeOf,typeInfo,hi]
theorem iQ {a:Act} (hgd:o.guard=U) (s x:Operand) (t t':TypeId)
  (ho:o.op=.call { callee:=.builtin .append,args:=#[s,x],argTypes:=#[t,t'] })
  (base:Nat) (e e':TypeId) (i:TypeInfo) (z:Value) (size bytes:Nat) (ht:Tryz.prog.underlying t=Y5 (.slice e)) (ht':Tryz.prog.underlying t'=Y5 (.slice e')) (hi:Tryz.prog.info? e=Y5 i) (hz:i.zero=Y5 z)
  (hsize:i.size=size) (hby:i.bytes=bytes) (hzs:z.cells.size=size) (hsz:0<size)
  (v:Value) (n:Nat) (xs:List Value) (hs:a.eval s=v) (hown:w.ownsRow base e size v n xs)
  (ad:Addr) (m c:Nat) (news:List Value) (hx:a.eval x=J (Y5 ad) m c) (hl:news.length=m*size) (hnews:∀j u,news[j]?=Y5 u->w.cell? (ad.add j)=Y5 u) (h1:∀u∈news,u.oneCell'=Zb)
  (h63:n+m<=maxLen) (hbytes:(n+m)*bytes<=140737488355328) (hbase:base<=w.heap.size)
  (h:∀v' w',w'.ownsRow base e size v' (n+m) (xs++news)->w.grownBy w' v.ownBlock->wpList Tryz.prog ops Q rest (a.put o.dst v') w'):wpList Tryz.prog ops Q (o ::rest) a w:=by
 have z352z:=@aa _ @acQ;exact zM
theorem jr {t ty e:TypeId} {size:Nat} (ht:Tryz.prog.underlying t=Y5 (.slice e)) (hi:Tryz.prog.info? e=Y5 i) {v:Value} {n:Nat} {xs:List Value} (hown:w.ownsRow base e size v n xs) (ax:Option Addr) (cx:Nat):
  (Builtin.append_ #[t,t] ty #[v,J ax 0 cx]).run Tryz.prog w=.ok v w:=by
 exact ahE
theorem aE {a:Act} (hgd:o.guard=U) (s x:Operand) (t:TypeId)
  (ho:o.op=.call { callee:=.builtin .append,args:=#[s,x],argTypes:=#[t,t] })
  (base:Nat) (e:TypeId) (i:TypeInfo) (z:Value) (size bytes:Nat) (ht:Tryz.prog.underlying t=Y5 (.slice e)) (hi:Tryz.prog.info? e=Y5 i) (hz:i.zero=Y5 z)
  (hsize:i.size=size) (hby:i.bytes=bytes) (hzs:z.cells.size=size) (hsz:0<size)
  (v:Value) (n:Nat) (xs:List Value) (hs:a.eval s=v) (hown:w.ownsRow base e size v n xs)
  (ax:Option Addr) (l c:Nat) (news:List Value) (hx:a.eval x=J ax l c) (hl:news.length=l*size) (hnews:∀(j:Nat) u,news[j]?=Y5 u->∃ad:Addr,ax=Y5 ad/\w.cell? (ad.add j)=Y5 u) (h1:∀u∈news,u.oneCell'=Zb)
  (h63:n+l<=maxLen) (hbytes:(n+l)*bytes<=140737488355328) (hbase:base<=w.heap.size)
  (h:∀v' w',w'.ownsRow base e size v' (n+l) (xs++news)->w.grownBy w' v.ownBlock->wpList Tryz.prog ops Q rest (a.put o.dst v') w'):wpList Tryz.prog ops Q (o ::rest) a w:=by
 rcases news with _|⟨u,news⟩
 ·have z430z:=@aa _ @abW;exact zt
 ·obtain⟨ad,rfl,_⟩:=hnews 0 u rfl;exact iQ hgd s x t t ho base e e i z size bytes ht ht hi hz hsize hby hzs hsz v n xs hs hown ad l c (u ::news) hx hl (λj y hy=>by
   obtain⟨ad',e,h2⟩:=hnews j y hy
   cases e
   exact h2) h1 h63 hbytes hbase h
theorem QY {x:ByteArray} (h:Yk x.toList t.toList=Y_) (hn:¬x=t):Yk t.toList x.toList=Zb:=by
 exact PK
def Put(t:ByteArray) (zs zs':List ByteArray):Prop:=(t∈zs/\zs'=zs)\/∃k,k<=zs.length/\zs'=zs.take k++[t]++zs.drop k/\(∀(j:Nat) y,j<k->zs[j]?=Y5 y->Yk y.toList t.toList=Zb)/\∀y,zs[k]?=Y5 y->Yk t.toList y.toList=Zb
theorem fs {l:List α} {k:Nat} {u:α} (h:(l.take k)[j]?=Y5 u):l[j]?=Y5 u:=by
 rw[YA] at h;split at h
 ·exact h
 ·cases h
structure Nv where
 n:Nd
 a:Option Addr
 l:Nat
 c:Nat
def cb(a b:ByteArray):Int:=Lib.compareBytes a.data.toList b.data.toList
theorem kv {t ty e:TypeId} {size:Nat} (ht:Tryz.prog.underlying t=Y5 (.slice e)) (hi:Tryz.prog.info? e=Y5 i) {v:Value} {n:Nat} {xs:List Value} (hown:w.ownsRow base e size v n xs) (ax:Option Addr) (cx:Nat):
  (Builtin.append_ #[t,t] ty #[v,J ax 0 cx]).run Tryz.prog w=.ok v w:=by
 exact ahE
theorem ar {a:Act} (hgd:o.guard=U) (s x:Operand) (t:TypeId)
  (ho:o.op=.call { callee:=.builtin .append,args:=#[s,x],argTypes:=#[t,t] })
  (base:Nat) (e:TypeId) (i:TypeInfo) (z:Value) (size bytes:Nat) (ht:Tryz.prog.underlying t=Y5 (.slice e)) (hi:Tryz.prog.info? e=Y5 i) (hz:i.zero=Y5 z)
  (hsize:i.size=size) (hby:i.bytes=bytes) (hzs:z.cells.size=size) (hsz:0<size)
  (v:Value) (n:Nat) (xs:List Value) (hs:a.eval s=v) (hown:w.ownsRow base e size v n xs)
  (ax:Option Addr) (l c:Nat) (news:List Value) (hx:a.eval x=J ax l c) (hl:news.length=l*size) (hnews:∀(j:Nat) u,news[j]?=Y5 u->∃ad:Addr,ax=Y5 ad/\w.cell? (ad.add j)=Y5 u) (h1:∀u∈news,u.oneCell'=Zb)
  (h63:n+l<=maxLen) (hbytes:(n+l)*bytes<=140737488355328) (hbase:base<=w.heap.size)
  (h:∀v' w',w'.ownsRow base e size v' (n+l) (xs++news)->w.grownBy w' v.ownBlock->wpList Tryz.prog ops Q rest (a.put o.dst v') w'):wpList Tryz.prog ops Q (o ::rest) a w:=by
 rcases news with _|⟨u,news⟩
 ·have z430z:=@aa _ @abV;exact zt
 ·obtain⟨ad,rfl,_⟩:=hnews 0 u rfl;exact dA hgd s x t t ho base e e i z size bytes ht ht hi hz hsize hby hzs hsz v n xs hs hown ad l c (u ::news) hx hl (λj y hy=>by
   obtain⟨ad',e,h2⟩:=hnews j y hy
   cases e
   exact h2) h1 h63 hbytes hbase h
structure Lq (B:Nat) (w w':World):Prop where
 os:w'.os=w.os
 tape:w'.tape=w.tape
 output:w'.output=w.output
 size:w.heap.size<=w'.heap.size
 block:∀k,k<w.heap.size->(k<B\/∃(cs:Array Value) (T:TypeId),w.heap[k]?=Y5 (Y8 cs T (0,0))/\cs.size=2)->w'.heap[k]?=w.heap[k]?
end Rc
namespace Gs
section
variable {SR:World->World->Prop} {t4:Tmp} {Ψ:Fact} {P:Program} {ops:Array Oper} {Q:Exit->Act->World->Prop} {W:World} {a0:Act} {back:Option Oper}
structure At (t4:Tmp) (Ψ:Fact) (front:List Oper) (φs:List Fact) (W:World) (a0:Act) (listed:Array Bool) (a:Act) (w:World):Prop where
 old:Go.Proofs.YtfhdfmdaiookjaaGreatDoor.At front φs W a0 listed a w
 sto:∀(i:Nat) (o:Oper),front[i]?=Y5 o->o.dst=U->listed.getD i Y_=Zb->Ψ (a.tmps.getD t4 undef) w/\∀(i':Nat) (p:Oper),front[i']?=Y5 p->p.dst=Y5 t4->listed.getD i' Y_=Zb
theorem aln {i:Nat} (h:listed.getD i Y_=Zb):(listed.setIfInBounds j Zb).getD i Y_=Zb:=by
 by_cases e:j=i
 ·subst e;simp only[Yr,Array.getElem?_setIfInBounds];split
  ·split
   ·rfl
   ·simp[Yr] at h;next hx=>
     have:listed[j]?=U:=Array.getElem?_eq_none_iff.2 af;rw[this] at h
     cases h
  ·contradiction
 ·simpa[Yr,Array.getElem?_setIfInBounds,e] using h
theorem alc {i:Nat} (e:¬j=i) (h:(listed.setIfInBounds j Zb).getD i Y_=Zb):listed.getD i Y_=Zb:=by
 simpa[Yr,Array.getElem?_setIfInBounds,e] using h
end
structure Form (W w w':World):Prop where
 low:Below W.heap.size w w'
 form:∀(k:Nat) (cs:Array Value) (T:TypeId),w.heap[k]?=Y5 (Y8 cs T (0,0))->∃cs',cs'.size=cs.size/\w'.heap[k]?=Y5 (Y8 cs' T (0,0))
end Gs
namespace Gt
def growB(n:Nat) (front:List Oper) (back:Option Oper):Bool:=
 let ops:=(front++back.toList).toArray
 decide ((front.filterMap (·.dst)).Nodup) && front.all (λo=>match o.dst with|Y5 t=>decide (t<n)|U=>Zb) &&
 (YU front.length).all (λj=>match front[j]? with
  | some o=>(o.looksAt ops).all (λt=>(YU front.length).all λi=>match front[i]? with
    | some p=>p.dst !=Y5 t || (decide (i<j) && o.after.any λe=>e.on==i && YR .any e)
    | none=>Zb)
  | none=>Zb) &&
 (YU ops.size).all (λj=>match ops[j]? with|Y5 o=>o.after.all (λe=>decide (e.on<j))|U=>Zb) &&
 (match back with|Y5 o=>(YU front.length).all (λi=>o.after.any λe=>YR .any e && (e.on==i || match front[e.on]? with|Y5 p=>p.after.any (λe'=>e'.on==i && YR .any e')|U=>Y_))|U=>Zb)
section
variable {P:Program} {ops:Array Oper} {Q:Exit->Act->World->Prop} {W:World} {a0:Act} {back:Option Oper}
theorem gf {n:Nat} (h:growB n front back=Zb):
  (front.filterMap (·.dst)).Nodup/\(∀o∈front,∀t,o.dst=Y5 t->t<n)/\
  (∀(j:Nat) (o:Oper),front[j]?=Y5 o->∀t∈o.looksAt (front++back.toList).toArray,∀(i:Nat) (p:Oper),front[i]?=Y5 p->p.dst=Y5 t->i<j/\∃e∈o.after,e.on=i/\YR .any e=Zb)/\
  (∀(j:Nat) o,(front++back.toList).toArray[j]?=Y5 o->∀e∈o.after,e.on<j)/\
  (∀o,back=Y5 o->∀i,i<front.length->∃e∈o.after,YR .any e=Zb/\(e.on=i\/∃p,front[e.on]?=Y5 p/\∃e'∈p.after,e'.on=i/\YR .any e'=Zb)):=by
 unfold growB at h;simp only[YG,decide_eq_true_eq] at h;obtain⟨⟨⟨⟨h1,h2⟩,h3⟩,h4⟩,h5⟩:=h;refine⟨h1,?_,?_,?_,?_⟩
 ·intro o ho t ht;have:=List.all_eq_true.1 h2 o ho;rw[ht] at this;simpa using this
 ·exact ahU
 ·exact QH
 ·intro o ho i hi;subst ho;have:=List.all_eq_true.1 h5 i (List.mem_range.2 hi);obtain⟨k,hk,hx⟩:=Array.any_eq_true.1 this;simp only[YG,Bool.or_eq_true,beq_iff_eq] at hx;refine⟨_,Array.getElem_mem hk,hx.1,hx.2.imp id λh9=>?_⟩;split at h9
  ·next p hp=>
   obtain⟨k',hk',hx'⟩:=Array.any_eq_true.1 h9;simp only[YG,beq_iff_eq] at hx';exact⟨p,hp,_,Array.getElem_mem hk',hx'.1,hx'.2⟩
  ·cases h9
structure Ac (front:List Oper) (φs:List Fact) (W:World) (a0:Act) (listed:Array Bool) (a:Act) (w:World):Prop where
 old:At front φs W a0 listed a w
 cl:∀(j:Nat) (o:Oper),front[j]?=Y5 o->listed.getD j Y_=Zb->∀e∈o.after,YR .any e=Zb->listed.getD e.on Y_=Zb
theorem du {φs:List Fact} (hops:ops=(front++back.toList).toArray) (hB:growB a0.tmps.size front back=Zb) (hlen:φs.length=front.length)
  (hs:∀(i:Nat) (o:Oper) (φ:Fact),front[i]?=Y5 o->φs[i]?=Y5 φ->φ.cA/\Obl P ops Q W a0 (knAll [] (front.take i) (φs.take i)) o φ) (hf:Fin P ops Q W a0 back (knAll [] front φs)):
  ∀(fuel:Nat) (listed:Array Bool) (a:Act) (w:World),listed.size=ops.size->listed.toList.count Y_<=fuel->(∀o,back=Y5 o->listed.getD front.length Y_=Y_)->Ac front φs W a0 listed a w->wpAny P .any ops Q fuel listed a w:=by
 have z382z:=@aa _ @acs;exact p_
end
theorem bF {id:Nat} {l:List Oper} {last:Oper} (hm:P.follows .mixedOrders=Zb) (hf:l.dropLast=front) (hb:l.getLast?=Y5 last) (hB:growB a0.tmps.size front (Y5 last)=Zb)
  (h:Grow P l.toArray Q W a0 (Y5 last) front []):(Code.region id l.toArray Zb).wp P Q a0 W:=by
 obtain⟨φs,hlen,hs,hfi⟩:=Grow.spec _ _ h;have hl:l=front++(Y5 last).toList:=by
  exact wH
 refine wp_region_any hm (du (by rw[hl]) hB hlen hs hfi _ _ _ _ aG ?_ (λo ho=>?_) ⟨⟨rfl,rfl,(Yh _ _).drew,λi o φ h1 h2 t ht hx=>?_,λt _=>rfl⟩,λj o h1 hx=>?_⟩)
 ·exact qA
 ·exact bI _ _
 ·rw[bI] at hx;cases hx
 ·rw[bI] at hx;cases hx
end Gt
attribute [local go_sem] Oper.semAt_some
structure Vx where
 v:Vd
 a:Option Addr
 len:Nat
 cap:Nat
def amr(J0 J1 J2:Act->World->Prop) (Q:Exit->Act->World->Prop):Exit->Act->World->Prop
 | .goto l,a,w=>(l=0/\J0 a w)\/(l=1/\J1 a w)\/(l=2/\J2 a w)
 | e,a,w=>Q e a w
def never:Act->World->Prop:=λ_ _=>False
def at1(P:Program) (Q:Exit->Act->World->Prop) (r1:Code):Act->World->Prop:=λa w=>r1.wp P (amr never never never Q) a w
namespace Rc
structure PoS (w:World) (d:Ad) (c:Cl) (wr:World):Prop where
 hb:Below w.heap.size w wr
 g0:wr.heap[w.heap.size]?=Y5 (Y8 (clv d c.now) 29 (0,0))
 g1:wr.heap[w.heap.size+1]?=Y5 (Y8 #[I ⟨#[]⟩,Y7 Y6 0,I ⟨#[]⟩,J U 0 0,I ⟨#[]⟩,Y7 Y6 0] 40 (0,0))
 r:aB wr d c.raw
end Rc
end Go.Proofs.YtfhdfmdaiookjaaGreatDoor

import Derived.Test.YtcnmlpiffcldkaaGreatDoorN1
import Derived.WalkKit
import Derived.LaidEql
import Derived.Stop.Asserts
import Derived.RowKitTokens
import Derived.RegionTactic
import Derived.Lib.Overlaps
import Derived.Lib.SliceRun
import Derived.Lib.AppendZerosOnto
import Derived.Deep.RegionLaw
import Derived.Shelf.RegionOpenPlain
import Derived.Test.YtcnmlpiffcldkaaGreatDoorRows
import Derived.Maps.OwnSet
import Derived.DeepKeys4
import Derived.WideKeyEntry
import Derived.OpenShut
import Derived.Deep.AppendLies
import Derived.Lib.Bytealg
/-
 Whether pods are where they may be, as the specification asks it.
-/
set_option maxRecDepth 100000
set_option maxHeartbeats 12800000
open Bool renaming false→Zg,true→Zi
open Go.Ending renaming returned→Zh
open Go.IntKind renaming i64→O
open Go.Obj renaming cells→Ze
open Go.Value renaming string→I,slice→U,int→V,bool→Zf,agg→Zj,pointer→Zm,tuple→Zn
open Option renaming none→J,some→M
open Or renaming inr→Zk,inl→Zl
open And renaming intro→Yb
open Array renaming getElem?_push_size→Yf, getD_eq_getD_getElem?→Ys, getElem?_eq_some_iff→YA, getElem?_setIfInBounds→YH
open Bool renaming and_eq_true→YI
open Go.Act renaming put→Y0
open Go.Addr renaming add_lit→Ym
open Go.Builtin renaming append_→YY
open Go.Calls renaming quiet_of_same→YD
open Go.Op renaming bytesLess→Yk
open Go.Region renaming wanted→YR, ready→YU, binds→YW
open Go.RowKit.Below renaming heap_setCell→Ya, refl→Yh, heap_alloc→Yj
open Go.Value renaming string→Yn, ownBlock→YK
open Go.World renaming setCell→YV, cell?→YX
open List renaming getElem?_eq_some_iff→Yc, lookup→Yg, getElem?_eq_getElem→Yi, length_map→Yq, setIfInBounds_toArray→Yr, getElem?_map→Yt, getElem?_append_left→Yu, mem_of_getElem?→Yv, drop_eq_nil_of_le→Yw, set_cons_zero→Yx, set_cons_succ→Yy, take_of_length_le→YB, getElem?_take→YC, length_take→YF, getElem?_of_mem→YG, forall_mem_cons→YL, take_add_one→YM, getElem?_drop→YN, eq_nil_of_length_eq_zero→YO, length_append→YP, foldr→YQ, mem_cons→YT, range→Y3, length_cons→Y4
open Nat renaming le_refl→Ye, lt_of_lt_of_le→Yl, le_trans→Yo, zero_add→Yp, le_succ→Yz, zero_le→YJ
open Option renaming map_eq_some_iff→YE
open Option.some renaming inj→Yd, injEq→YZ
namespace Go.Proofs.YtcnmlpiffcldkaaGreatDoor
variable {p:Prop}
namespace Mk
end Mk
open Go.RowKit Mk Go.Extern.Stop Go.Stop Go.Extern Go.ChangeMaps Go.MapKept Go.WideShapes
open Go.WideElems (Fit rd rg pl)
open Go.WideMaps (KeyLaw)
open Go.Maps (Keyed)
variable {α:Type} {B b base cap g id len m:Nat} {H:Nat->Nat->Nat} {P:Program} {Q:Exit->Act->World->Prop} {S:Nat->Prop} {T:TypeId} {W w w':World} {a0:Act} {back:Option Oper} {cs:Array Value} {d:Option Tmp} {f:Nat×Nat} {front rest:List Oper} {i:TypeInfo} {o:Oper} {ops:Array Oper} {sp:Tmp} {t:ByteArray} {u v0 v1 v2 v3 v4 v5:Value} {va:Option Addr} {vb:Option Nat} {vss:List (List Value)} {zs:List ByteArray} {nm:α->ByteArray} {xs:List α}
theorem br(h:p:=by unfold maxLen;omega):p:=h
theorem dx(h:p:=by simp[Value.oneCell']):p:=h
theorem eg(h:p:=by simpa using aa):p:=h
theorem nK(h:p:=by have:=(Yc.1 hy).1;omega):p:=h
theorem ka(h:p:=by rw[ep HVA.out,hvl]):p:=h
theorem oY(h:p:=by rw[Yq,YF];omega):p:=h
theorem oX(h:p:=by rw[Yq,List.length_drop];omega):p:=h
theorem nG(h:p:=by simp[YV];omega):p:=h
theorem AQ(h:p:=by rw[<-List.flatten_append,List.take_append_drop]):p:=h
theorem cF(h:p:=by rfl):p:=h
theorem oU(h:p:=by rw[YF];omega):p:=h
theorem oT(h:p:=by rw[Yq];omega):p:=h
theorem oR(h:p:=by simp[YV]):p:=h
theorem oQ(h:p:=by simpa using ho.1):p:=h
theorem AF(h:p:=by have:=HI.2 h;cases this):p:=h
theorem ahA(h:p:=by have:=ag3 (by omega) (by omega) e2;exact⟨this.1.symm,this.2.symm⟩):p:=h
theorem anA(h:p:=by
 obtain⟨b2,o2,t,rfl,hb,hxt,hc,Zq⟩:=(TV.below ZH.out).at aob;have HXt:=G hxt;clear hxt Zq;have aof:(∃v,aX c t v)\/(∀v,¬aX c t v):=by
  by_cases h:∃v,aX c t v
  ·exact Zl h
  ·exact Zk (λv hv=>h ⟨v,hv⟩)
 rcases aof with ⟨v,ω⟩|ω
 ·have auz:=@G _ @UB;exact y8
 ·have arB:=@G _ @Mo;exact ui):p:=h
theorem anz(h:p:=by
 have auA:=@G _ @S6;exact yP):p:=h
theorem dE(h:p:=by
 exact wY):p:=h
theorem aiE(h:p:=by
 exact xh):p:=h
theorem lx(h:p:=by
 refine Obl.plain rfl ?_;intro ac wg K Zq hW hf hK;clear Zq;clear hf;go_simp;exact hK _ _ (aj _ _) ⟨_,rfl,hW.size,Yf⟩):p:=h
theorem A3(h:p:=by
 have h1:vss[0]?=M (vss[0]'(by omega)):=Yi _;have h2:0<(vss[0]'(by omega)).length:=by rw[HVA.out 0 _ h1];decide
 obtain⟨g,e,_⟩:=HCQ.out _ _ (gF HVA.out h1 (Yi h2));cases e):p:=h
theorem nQ(h:p:=by
 go_simp;refine hK _ _ (Rv.other ag (Yh _ _)) ?_;with_reducible rfl):p:=h
theorem ail(h:p:=by
 have h45:aR w4 (λk=>(Q k\/Q2 k)\/w.heap.size<=k) 8 ((aQ j x xs).map vdF) (aQ j [I x.n,V O x.c,I x.z,I x.k,Zf x.x,I x.m,Zf x.y,U va vl vc] vss) H4:=by rw[fj];exact hV5
 have hle:((aQ j x xs).map vdF).length=n+1:=by rw[Yq,di af,Z4]
 exact PF):p:=h
theorem aii(h:p:=by
 rcases h with ⟨h,rfl⟩|⟨k,_,rfl,_,_⟩
 ·exact⟨Zl,λh1=>h1.elim id (λe=>e ▸ h)⟩
 ·have h1:s∈zs↔s∈zs.take k\/s∈zs.drop k:=by rw[<-List.mem_append,List.take_append_drop]
  rw[List.mem_append,List.mem_append,List.mem_singleton,h1];constructor
  ·rintro ((h|h)|h)
   ·exact Zl (Zl h)
   ·exact Zk h
   ·exact Zl (Zk h)
  ·rintro ((h|h)|h)
   ·exact Zl (Zl h)
   ·exact Zk h
   ·exact Zl (Zk h)):p:=h
theorem pd(h:p:=by
 rintro v w w' ⟨b,h1,h2,h3⟩ hb;exact⟨b,h1,h2,(hb.block _ (ae h3)).trans h3⟩):p:=h
theorem A0(h:p:=by
 obtain⟨b,e,h3⟩:=HC.out j u hj;exact⟨b,e,Yl (a_ h3) HB.size,(ah HB.out (a_ h3)).trans h3⟩):p:=h
theorem ah_(h:p:=by
 obtain rfl:vl=kq:=af
 have aoH:=@G _ @afF;exact fA):p:=h
theorem ah7(h:p:=by
 rw[<-e1] at hs3;have HS1:=G hs1;have HS2:=G hs2';have HS3:=G hs3;have HS4:=G hs4;obtain⟨o0,o1,o2,o3,o4,o5⟩:=cs6 bo5;have fo0:=ak bo5 0;have fo2:=ak bo5 2;have fo4:=ak bo5 4;clear hs1 hs2' hs3 hs4 bo5 aa ZC e1;go_wp2;exact⟨⟨k+1,_,H',_,by omega,by go_num,HS1,HS2,HS3,HS4⟩,by simp[intOf];omega⟩):p:=h
theorem ah6(h:p:=by
 rcases ζ.2 with ⟨rfl,rfl⟩|⟨g,cap,cur,rfl,_,_,hnc,_⟩
 ·cases ax <;> simp[YY,run_underlying ht,sizeOf,typeInfo,hi,Builtin.lenOf,Builtin.firstCells,loadCells,loadCellsFrom]
 ·cases ax <;> simp[YY,run_underlying ht,sizeOf,typeInfo,hi,Builtin.lenOf,Builtin.firstCells,hnc,storeCells,loadCells,loadCellsFrom]):p:=h
theorem ak_(h:p:=by
 have h1:=Yv hz;simp only[List.mem_append,List.mem_singleton] at h1;rcases h1 with (h1|rfl)|h1
 ·obtain⟨i,hi⟩:=YG (List.mem_of_mem_take h1);exact hr.2.2.2.1 i z hi
 ·exact ht
 ·obtain⟨i,hi⟩:=YG (List.mem_of_mem_drop h1);exact hr.2.2.2.1 i z hi):p:=h
theorem Rd(h:p:=by
 have HCq:=G hq;have aoH:=@G _ @afE;exact fA):p:=h
theorem Q8(h:p:=by
 obtain⟨k0,k1,k2,k3,k4,k5⟩:=cs6 Bk;go_wp2;go_ret;exact ar.f (λh=>by have:=HI2.2 h.2.1;cases this) HB.out):p:=h
theorem Q4(h:p:=by
 obtain⟨k0,k1,k2,k3,k4,k5⟩:=cs6 Bk;go_wp2;go_ret;exact ar.f (λh=>by have:=HI1.2 h.1;cases this) HB.out):p:=h
theorem ak6(h:p:=by
 rw[Yt,YE] at hu;obtain⟨z,hz,rfl⟩:=hu;obtain⟨b,o,x,rfl,hb,hx,hc,Zq⟩:=hr.at (k:=j) dO;rw[hz] at hx;cases hx;exact⟨b,o,rfl,hb,hc⟩):p:=h
theorem QU(h:p:=by
 unfold Oper.wp execOp;simp only[ho,resolve,invoke,builtin,Sem.run_bind,Sem.run_pure,Result.andThen_ok,List.map_toArray,List.map_cons,List.map_nil,hs,hx,hr];exact hK _ _ (h v w (by simpa using ζ) (World.grownBy.refl _ _))):p:=h
theorem QR(h:p:=by
 go_wp2;refine⟨⟨k+1,by omega,by go_num,λj z hj hz=>?_⟩,by simp[intOf];omega⟩;by_cases e:j=k
 ·subst e;rw[HX.out] at hz;obtain rfl:=Yd hz;exact Zz
 ·exact HE.out j z af hz):p:=h
theorem QK(h:p:=by
 unfold Oper.wp execOp;simp only[ho,resolve,invoke,builtin,Sem.run_bind,Sem.run_pure,Result.andThen_ok,List.map_toArray,List.map_cons,List.map_nil,hs,hx,hr];exact hK _ _ (h v' w' h2 h3)):p:=h
theorem QF(h:p:=by
 obtain rfl:l1=k:=af
 go_wp2;go_ret;exact ar.t ⟨HQ1.out,λj n hz=>HQ.out j n dO hz⟩ HB.out):p:=h
theorem QE(h:p:=by
 intro a' c' w' hR ZA;have hsw:=hW.size;exact hK _ _ ZA ⟨a',c',rfl,hR.bC (λk _ s=>by show W.heap.size<=k;rcases s with rfl|s <;> omega)⟩):p:=h
theorem QC(h:p:=by
 rcases h with ⟨_,rfl⟩|⟨k,hk,rfl,_,_⟩
 ·omega
 ·simp only[YP,YF,List.length_drop,List.length_singleton];omega):p:=h
theorem QB(h:p:=by
 obtain rfl:pl=k:=af
 go_wp2;go_ret;exact ar.t (λj t ht=>HQ.out j t AN ht) HB.out):p:=h
theorem QA(h:p:=by
 by_cases e:j=k
 ·subst e;rw[HXp.out] at hz;obtain rfl:=Yd hz;exact λh=>absurd h HP2.out
 ·exact HQ.out j z af hz):p:=h
theorem Qy(h:p:=by
 obtain⟨i,j,x,h1,h2,h3,h4⟩:=h;obtain⟨i',j',x',k1,k2,k3,k4⟩:=h';obtain⟨_,rfl⟩:=hx.inj h1 k1 (h2.trans k2.symm);rw[h4,k4]):p:=h
theorem Qw(h:p:=by
 obtain⟨j,hj⟩:=YG ha;rw[YC] at hj;split at hj
 ·next hjk=>exact Zo j a hjk hj
 ·cases hj):p:=h
theorem ak2(h:p:=by
 obtain⟨k0,k1,k2,k3,k4,k5⟩:=cs6 Bk;go_wp2;go_ret;exact ar.f (λh=>by have:=HI5.2 h.2.2.2.2.1;cases this) HB.out):p:=h
theorem Qu(h:p:=by
 obtain⟨k0,k1,k2,k3,k4,k5⟩:=cs6 Bk;go_wp2;go_ret;exact ar.f (λh=>by have:=HI6.2 h.2.2.2.2.2;cases this) HB.out):p:=h
theorem Qo(h:p:=by
 obtain⟨g9,o9,e,_⟩:=HC.out 0 _ (by rw[Yt,Yi (show 0<zs.length by omega)];rfl);cases e):p:=h
theorem Qe(h:p:=by
 have h1:=ir x.toList t.toList;rw[h] at h1;have h2:=bu (λe=>hn e.symm);rw[h2] at h1;simpa using h1):p:=h
theorem akW(h:p:=by
 subst e;rw[HXt.out] at hs;obtain rfl:=Yd hs;exact⟨⟨i4,x4,HG1.out,HG2.out⟩,Zl HEm.out⟩):p:=h
theorem xh(h:p:=by
 have Zw:=@G _ @ajk;exact aB):p:=h
theorem PX(h:p:=by
 have arC:=@G _ @J9;exact tP):p:=h
theorem PW(h:p:=by
 have Zw:=@G _ @ajj;exact aB):p:=h
theorem PV(h:p:=by
 have Zw:=@G _ @aji;exact aB):p:=h
theorem PU(h:p:=by
 have Zw:=@G _ @ajh;exact aB):p:=h
theorem PQ(h:p:=by
 obtain rfl:k=kz:=af
 have aoH:=@G _ @afD;exact fA):p:=h
theorem PL(h:p:=by
 have aoI:=@G _ @aaQ;exact fw):p:=h
theorem PF(h:p:=by
 obtain⟨a',c',e,hR⟩:=h45.own ho4 hle.symm ag (λg hg=>Zk (by have:=(ho4.lt g hg).1;omega));rw[hle] at e hR;rw[hj] at hR;exact⟨a',c',e,hR⟩):p:=h
theorem PA(h:p:=by
 obtain rfl:=Yd hz;exact λj s hs=>ν.out j s (by have h1:=(Yc.1 hs).1;have h2:=HVL.out;omega) hs):p:=h
theorem akK(h:p:=by
 rcases ζ.2 with ⟨rfl,_⟩|⟨g,cap,cur,rfl,_⟩
 ·exact⟨_,_,_,rfl⟩
 ·exact⟨_,_,_,rfl⟩):p:=h
theorem wY(h:p:=by
 go_simp;refine hK _ _ (Yh _ _) ?_;with_reducible rfl):p:=h
theorem dD(h:p:=by
 have ZR:=ak Br.out 0;have ZS:=ak Br.out 1;have ZT:=ak Br.out 2;have ZU:=ak Br.out 3;have ZV:=ak Br.out 4;have ZY:=ak Br.out 5;have Z1:=ak Br.out 6;have Z2:=ak Br.out 7;exact Yb ZR (Yb ZS (Yb ZT (Yb ZU (Yb ZV (Yb ZY (Yb Z1 Z2))))))):p:=h
theorem akv(h:p:=by
 have q0:∀q:Wd wr,q.w.cell? ⟨b,o+kz*6,J⟩=M (I pq.n):=λq=>(q.cell (χ)).trans (d0);have q1:∀q:Wd wr,q.w.cell? ⟨b,o+kz*6+1,J⟩=M (V O pq.c):=λq=>(q.cell (χ)).trans (d1);have q2:∀q:Wd wr,q.w.cell? ⟨b,o+kz*6+2,J⟩=M (I pq.z):=λq=>(q.cell (χ)).trans (d2);have q3:∀q:Wd wr,q.w.cell? ⟨b,o+kz*6+3,J⟩=M (U qa ql qc):=λq=>(q.cell (χ)).trans (d3);have q4:∀q:Wd wr,q.w.cell? ⟨b,o+kz*6+4,J⟩=M (I pq.d):=λq=>(q.cell (χ)).trans (d4);have q5:∀q:Wd wr,q.w.cell? ⟨b,o+kz*6+5,J⟩=M (V O pq.p):=λq=>(q.cell (χ)).trans (d5);have hne0:=Wd.ne wr;exact Yb q0 (Yb q1 (Yb q2 (Yb q3 (Yb q4 (Yb q5 hne0)))))):p:=h
theorem al7(h:p:=by
 have Gk:Hid ((wr.alloc (Ze #[I p.n,V O p.c,I p.z,U va vl vc,I p.d,V O 2] 102)).heap[w.heap.size]?=M (Ze (Zd (M ⟨b1,o1,J⟩) l1 y1 a2 l2 y2 a3 l3 y3 a4 l4 y4 (M ⟨b,o,J⟩) l5 y5 c.now) 29 (0,0))):=(Yj _ _ _ (ae Bk.out)).trans (Bk.out);have Gr:Hid ((wr.alloc (Ze #[I p.n,V O p.c,I p.z,U va vl vc,I p.d,V O 2] 102)).heap[wr.heap.size]?=M (Ze #[I p.n,V O p.c,I p.z,U va vl vc,I p.d,V O 2] 102 (0,0))):=Yf;have HW:Hid (Below w.heap.size w (wr.alloc (Ze #[I p.n,V O p.c,I p.z,U va vl vc,I p.d,V O 2] 102))):=(HB.trans ((aj _ _).mono HB.size));exact Yb Gk (Yb Gr HW)):p:=h
theorem lK(h:p:=by
 have auu:=@G _ @VB;exact za):p:=h
theorem AY(h:p:=by
 have aun:=@G _ @VO;exact zi):p:=h
theorem ah2(h:p:=by
 have nw:=λq:Wd (wr.alloc (Ze #[I p.n,V O p.c,I p.z,U va vl vc,I p.d,V O 2] 102))=>(q.cell aq2).trans e5v;have hne0:=Wd.ne (wr.alloc (Ze #[I p.n,V O p.c,I p.z,U va vl vc,I p.d,V O 2] 102));have Zv:=G (λq:Wd (wr.alloc (Ze #[I p.n,V O p.c,I p.z,U va vl vc,I p.d,V O 2] 102))=>fK ⟨(M ⟨b1,o1,J⟩),l1,y1,a2,l2,y2,a3,l3,y3,a4,l4,y4,(M ⟨b,o,J⟩),l5,y5⟩ c.now c.ns p.d q.w (HR.n.below (HW.trans (q.b.mono HW.size))) HNR.out HJn.out HNn.out);exact Yb nw (Yb hne0 Zv)):p:=h
theorem ahZ(h:p:=by
 have Gk:=Bk;have Gv:=Bv;have HW:=HB;have k2:=λq:Wd q1.w=>q.slot (o:=2) Gk.out rfl;have v0:=λq:Wd q1.w=>q.slot (o:=0) Gv.out rfl;have v2:=λq:Wd q1.w=>q.slot (o:=2) Gv.out rfl;have v5:=λq:Wd q1.w=>q.slot (o:=5) Gv.out rfl;have v6:=λq:Wd q1.w=>q.slot (o:=6) Gv.out rfl;exact Yb Gk (Yb Gv (Yb HW (Yb k2 (Yb v0 (Yb v2 (Yb v5 v6))))))):p:=h
theorem ahY(h:p:=by
 have ZR:=ak Br6.out 0;have ZS:=ak Br6.out 1;have ZT:=ak Br6.out 2;have ZU:=ak Br6.out 3;have ZV:=ak Br6.out 4;have ZY:=ak Br6.out 5;have Z1:=ak Br6.out 6;have Z2:=ak Br6.out 7;exact Yb ZR (Yb ZS (Yb ZT (Yb ZU (Yb ZV (Yb ZY (Yb Z1 Z2))))))):p:=h
theorem o_(h:p:=by
 have aqI:=@G _ @ac2;exact lW):p:=h
theorem OW(h:p:=by
 have ρ:Hid ((w.alloc (Ze #[] 9)).ownsRow w.heap.size 9 1 (U (M ⟨w.heap.size,0,J⟩) 0 0) 0 []):=World.ownsRow_made w #[] 0 (Ye _) (YJ _) aF;have hik:(k:Int)<=cap:=af
 have Γ:k<=cap:=af
 exact Yb ρ (Yb hik Γ)):p:=h
theorem nM(h:p:=by
 have ZR:=ak Br.out 0;have ZS:=ak Br.out 1;have ZT:=ak Br.out 2;have ZU:=ak Br.out 3;have ZV:=ak Br.out 4;exact Yb ZR (Yb ZS (Yb ZT (Yb ZU ZV)))):p:=h
theorem lr(h:p:=by
 have HR:=G hr;have hl1:c.ns.length=l1:=by simpa using (show (c.ns.map ndF).length=l1 from hr.n.1)
 exact Yb HR hl1):p:=h
theorem OS(h:p:=by
 have aq2:b1<(wr.alloc (Ze #[I p.n,V O p.c,I p.z,U va vl vc,I p.d,V O 2] 102)).heap.size:=by simp;omega
 have e5v:=(ah (aj wr (Ze #[I p.n,V O p.c,I p.z,U va vl vc,I p.d,V O 2] 102)) hbn).trans e5;exact Yb aq2 e5v):p:=h
theorem OR(h:p:=by
 have hXs:=HBX.size;have ZH:=G (HBX.trans (HK.low (X:=w.heap.size) hXs (λk s=>by rcases s with rfl|s <;> omega)));have BkR:=G ((HK.block w.heap.size af (λs=>by rcases s with s|s <;> omega)).trans Bk.out);have hKs:=HK.size;exact Yb hXs (Yb ZH (Yb BkR hKs))):p:=h
theorem amc(h:p:=by
 have p3:=λq:Wd wr=>q.slot (o:=3) Gp.out rfl;have n6:=λq:Wd wr=>q.slot (o:=6) Gn.out rfl;have tw:=λq:Wd wr=>(q.cell hb).trans hc;have vw:=λq:Wd wr=>(q.cell hbv).trans v0;have hne0:=Wd.ne wr;have Zv:=G (λq:Wd wr=>fN ⟨(M ⟨b1,o1,J⟩),l1,y1,a2,l2,y2,(M ⟨b3,o3,J⟩),l3,y3,a4,l4,y4,a5,l5,y5⟩ c t q.w (HR.below (HW.trans (q.b.mono HW.size))) HX.out HV.out HNE.out HJ.out HDb.out);exact Yb p3 (Yb n6 (Yb tw (Yb vw (Yb hne0 Zv))))):p:=h
theorem fB(h:p:=by
 have HB:=upB HW q1.b;have Bk:=upK Gk q1.b;exact Yb HB Bk):p:=h
theorem ahQ(h:p:=by
 have tw:=λq:Wd q1.w=>(q.cell ZN).trans hc1;have vw:=λq:Wd q1.w=>(q.cell hbv).trans v2;have nw:=λq:Wd q1.w=>(q.cell hbn).trans n1;have hne0:=Wd.ne q1.w;have Zv:=G (λq:Wd q1.w=>eZ ⟨(M ⟨b1,o1,J⟩),l1,y1,a2,l2,y2,(M ⟨b3,o3,J⟩),l3,y3,a4,l4,y4,(M ⟨b,o,J⟩),l5,y5⟩ c.now c.xs t q.w (HR.x.below (HW.trans (q.b.mono HW.size))) HX.out HG1.out HG2.out);exact Yb tw (Yb vw (Yb nw (Yb hne0 Zv)))):p:=h
theorem ON(h:p:=by
 have Gk:=Bk;have Gv:=Bv;have HW:=HB;have k0:=λq:Wd q1.w=>q.slot (o:=0) Gk.out rfl;have v2:=λq:Wd q1.w=>q.slot (o:=2) Gv.out rfl;have v7:=λq:Wd q1.w=>q.slot (o:=7) Gv.out rfl;exact Yb Gk (Yb Gv (Yb HW (Yb k0 (Yb v2 v7))))):p:=h
theorem o7(h:p:=by
 have tw:=λq:Wd wr=>(q.cell hb).trans hc;have hne0:=Wd.ne wr;exact Yb tw hne0):p:=h
theorem al8(h:p:=by
 have tw:=λq:Wd q1.w=>(q.cell ZN).trans hc1;have hne0:=Wd.ne q1.w;exact Yb tw hne0):p:=h
theorem OM(h:p:=by
 have ZX:=upB HW q0.b;have Ck:=upK Gk q0.b;have Br:=upK Gr q0.b;have HTp:=G ((HTp.out).below q0.b);exact Yb ZX (Yb Ck (Yb Br HTp))):p:=h
theorem ahH(h:p:=by
 have Bk:=G ((HL.block w.heap.size af).trans (heap_alloc_new w (Ze (Zd a1 l1 y1 a2 l2 y2 a3 l3 y3 a4 l4 y4 a5 l5 y5 c.now) 29)));have HB:=G ((aj w (Ze (Zd a1 l1 y1 a2 l2 y2 a3 l3 y3 a4 l4 y4 a5 l5 y5 c.now) 29)).trans (HL.mono af));exact Yb Bk HB):p:=h
theorem lp(h:p:=by
 have HR:=G hr;have HB:=G (Yh w.heap.size w);exact Yb HR HB):p:=h
theorem al3(h:p:=by
 have HB:=ZW;have Bk:=Ck;have hc1:=(q1.cell hb).trans hc;have ZN:=Yl hb q1.b.size;have apx:=upB ZH q1.b;exact Yb HB (Yb Bk (Yb hc1 (Yb ZN apx)))):p:=h
theorem uU(h:p:=by
 have HB:=G (BV.trans (ZH.mono BV.size));have Bk:=upK KV ZH.out;exact Yb HB Bk):p:=h
theorem O7(h:p:=by
 have GV:Hid ((wr.alloc (Ze (vov v va vl vc) 37)).heap[wr.heap.size]?=M (Ze (vov v va vl vc) 37 (0,0))):=Yf;have BV:=G (HB.trans ((aj wr (Ze (vov v va vl vc) 37)).mono HB.size));exact Yb GV BV):p:=h
theorem wX(h:p:=by
 have Bk:=G ZD;have Br:=G Ν;exact Yb Bk Br):p:=h
theorem O4(h:p:=by
 have Br:Hid (W.heap[w.heap.size+1]?=M (Ze (Zd J 0 0 J 0 0 J 0 0 J 0 0 J 0 0 0) 29 (0,0))):=by rw[θ];exact cL _ _ _
 have hWs:W.heap.size=w.heap.size+1+1:=by rw[θ];simp
 exact Yb Br hWs):p:=h
theorem akA(h:p:=by
 have HON:Hid (∀(l:List ByteArray) u,u∈l.map Yn->u.oneCell'=Zi):=λl u hu=>by obtain⟨z,_,rfl⟩:=List.mem_map.1 hu;rfl
 have HW:Hid (Below w.heap.size w w):=Yh _ _;exact Yb HON HW):p:=h
theorem akx(h:p:=by
 have hs2:wr.heap.size+1<w2.heap.size:=by have:=ZG.size;simp at this;omega
 have hsl:∀k,(k=wr.heap.size+1\/wr.heap.size+1+1<=k)->wr.heap.size+1<=k:=λk s=>by omega
 exact Yb hs2 hsl):p:=h
theorem O0(h:p:=by
 have Ο:¬(k:Int)<len:=af
 have HP:Hid (Put t zs (zs.take k++[t]++zs.drop k)):=Zk ⟨k,by omega,rfl,HE.out,λy hy=>by have:=(Yc.1 hy).1;omega⟩;exact Yb Ο HP):p:=h
theorem qL(h:p:=by
 have HG1:=G g1;have HG2:=G g2;have arD:decide ((i4:Int)<0)=Zg:=aF
 exact Yb HG1 (Yb HG2 arD)):p:=h
theorem OZ(h:p:=by
 have HG:Hid (∀zs:List ByteArray,x.zs=zs->zs≠[]->wr.heap.size<=g):=λzs e hz=>by subst e;have:=hsl _ (hg.lt hz).1;omega
 have HB4:=G π;have HO4:=G (cv HO.out π);exact Yb HG (Yb HB4 HO4)):p:=h
theorem aku(h:p:=by
 rintro _ ⟨q0,rfl⟩;obtain⟨ZX,Ck,Br,HTp⟩:=OM;clear hne0 HB k0 r0 r1 r2 r3 r4 r5 Bk;have HB:=ZX;have Bk:=Ck;have HPa:Hid (PSa c p):=Zl HEm.out;have arC:=@G _ @J8;exact tP):p:=h
theorem akt(h:p:=by
 rintro _ ⟨q0,rfl⟩;obtain⟨ZX,Ck,Br,HTp⟩:=OM;clear hne0 HB k0 r0 r1 r2 r3 r4 r5 Bk;have anY:=@G _ @NT;exact dS):p:=h
theorem aks(h:p:=by
 have arE:=@G _ @V7;exact qg):p:=h
theorem akr(h:p:=by
 have arE:=@G _ @V6;exact qg):p:=h
theorem akq(h:p:=by
 have arE:=@G _ @V5;exact qg):p:=h
theorem akp(h:p:=by
 rintro _ ⟨q2,rfl⟩;obtain⟨ZX,Ck⟩:=i_;have Bv:=upK Gv q2.b;clear hne0 HB k0 v2 v7 Bk;have anY:=@G _ @NS;exact dS):p:=h
theorem ako(h:p:=by
 rintro _ ⟨q2,rfl⟩;obtain⟨ZX,Ck⟩:=i_;have Bv:=upK Gv q2.b;clear hne0 HB k0 v2 v7 nw Bk hbn n1;have HB:=ZX;have Bk:=Ck;clear q8;have arF:=@G _ @aae;exact qp):p:=h
theorem akn(h:p:=by
 rintro _ ⟨q2,rfl⟩;obtain⟨ZX,Ck⟩:=i_;have Bv:=upK Gv q2.b;clear hne0 HB k0 v2 v7 nw Bk hbn n1;have anY:=@G _ @NR;exact dS):p:=h
theorem akm(h:p:=by
 rintro _ ⟨q2,rfl⟩;obtain⟨ZX,Ck⟩:=i_;have Bv:=upK Gv q2.b;clear hne0 HB k2 v0 v2 v5 v6 Bk;have anY:=@G _ @NQ;exact dS):p:=h
theorem akl(h:p:=by
 rintro _ ⟨q2,rfl⟩;obtain⟨ZX,Ck⟩:=i_;have Bv:=upK Gv q2.b;clear hne0 HB k2 v0 v2 v5 v6 vw Bk hbv v7;have HB:=ZX;have Bk:=Ck;have arF:=@G _ @aad;exact qp):p:=h
theorem akk(h:p:=by
 rintro _ ⟨q1,rfl⟩;obtain⟨ZW,Ck⟩:=lq;clear hne0 HB k0 k1 k2 k3 k4 k5 r0 r1 r2 r3 r4 r5 Bk pk hb c0 c1 c2 c3 c4 c5;have HB:=ZW;have Bk:=Ck;clear hp2 hp3;have an3:=@G _ @QA;exact dI):p:=h
theorem ajx(h:p:=by
 repeat (go_big_quiet_step (first|(go_at_call 112;exact Calls.wide (Zv.out _))|fail))
 have auB:=@G _ @VG;exact ze):p:=h
theorem ajw(h:p:=by
 repeat (go_big_quiet_step (first|(go_at_call 113;exact Calls.wide (Zv.out _))|fail))
 have auB:=@G _ @VF;exact ze):p:=h
theorem ajv(h:p:=by
 have auC:=@G _ @WQ;exact zF):p:=h
theorem aju(h:p:=by
 have auC:=@G _ @WO;exact zF):p:=h
theorem ajt(h:p:=by
 have ap1:=@G _ @Me;exact ny):p:=h
theorem ajs(h:p:=by
 have aq9:=@G _ @Xt;exact qo):p:=h
theorem ajr(h:p:=by
 repeat (go_big_quiet_step (first|(go_at_call 110;exact Calls.wide (Zv.out _))|fail))
 have auD:=@G _ @WU;exact zH):p:=h
theorem ajq(h:p:=by
 repeat (go_big_quiet_step (first|(go_at_call 110;exact Calls.wide (Zv.out _))|(go_at_call 115;exact Calls.wide (μ.out _))|fail))
 have arG:=@G _ @MC;exact uu):p:=h
theorem ajp(h:p:=by
 repeat (go_big_quiet_step (first|(go_at_call 110;exact Calls.wide (Zv.out _))|(go_at_call 115;exact Calls.wide (μ.out _))|fail))
 have auD:=@G _ @WT;exact zH):p:=h
theorem ajo(h:p:=by
 have aqN:=@G _ @abb;exact lV):p:=h
theorem ajn(h:p:=by
 have aqO:=@G _ @aaW;exact lU):p:=h
theorem ajm(h:p:=by
 have aqO:=@G _ @aaV;exact lU):p:=h
theorem ajl(h:p:=by
 have aqN:=@G _ @aba;exact lV):p:=h
theorem ajk(h:p:=by
 have aqO:=@G _ @aaU;exact lU):p:=h
theorem ajj(h:p:=by
 have auE:=@G _ @WN;exact zE):p:=h
theorem aji(h:p:=by
 have aqO:=@G _ @aaT;exact lU):p:=h
theorem ajh(h:p:=by
 have auE:=@G _ @WM;exact zE):p:=h
theorem bI(h:p:=by
 replace Br:=upK Br hb;replace HB:=upB HB hb;clear hb;obtain⟨r0,r1,r2,r3,r4,r5,r6,r7⟩:=cs8 Br;exact κ):p:=h
theorem afT(h:p:=by
 obtain⟨HR,hl1,hm1,hl2,hm2,hl3,hm3,hl4,hm4,hl5,hm5⟩:=B1;clear hr;have HS:=G hs;clear hs;obtain⟨i2,hi2⟩:=YE.1 RJ;obtain⟨i4,hi4⟩:=YE.1 jl;obtain⟨i1,hi1⟩:=YE.1 RI;obtain⟨i3,hi3⟩:=YE.1 jm;obtain⟨i5,hi5⟩:=YE.1 rf;have HI1:=G hi1;have HI2:=G hi2;have HI3:=G hi3;have HI4:=G hi4;have HI5:=G hi5;clear hi1 hi2 hi3 hi4 hi5;obtain⟨W,θ⟩:∃W,W=(w.alloc (Ze (Zd a1 l1 y1 a2 l2 y2 a3 l3 y3 a4 l4 y4 a5 l5 y5 c.now) 29)).alloc (Ze (Zd J 0 0 J 0 0 J 0 0 J 0 0 J 0 0 0) 29):=⟨_,rfl⟩;have HB:Hid (Below w.heap.size w W):=by rw[θ];exact aM _ _ _
 have Bk:Hid (W.heap[w.heap.size]?=M (Ze (Zd a1 l1 y1 a2 l2 y2 a3 l3 y3 a4 l4 y4 a5 l5 y5 c.now) 29 (0,0))):=by rw[θ];exact du _ _ _
 obtain⟨Br,hWs⟩:=O4;go_enter Tryz.func35,Tryz.ntmps35;go_wp2_with fail;rw[<-θ];clear θ;have ang:=@G _ @Ks;exact dC):p:=h
theorem dn(h:p:=by
 have υ:=@G _ @acb;exact bQ):p:=h
theorem afG(h:p:=by
 by_cases e:j=k
 ·subst e;rw[HXn.out] at hz;exact PA
 ·exact HQ.out j z af hz):p:=h
theorem afF(h:p:=by
 by_cases e:j=k
 ·subst e;rw[HXv.out] at hz;exact PA
 ·exact HQ.out j z af hz):p:=h
theorem afE(h:p:=by
 by_cases e:j=k
 ·subst e;rw[HXn.out] at hz;obtain rfl:=Yd hz;exact HCq.out
 ·exact HQ.out j z af hz):p:=h
theorem afD(h:p:=by
 by_cases e:j=k
 ·subst e;rw[HXp.out] at hz;obtain rfl:=Yd hz;exact⟨HPa.out,HQb.out,λj2 q2 hj2 Τ=>HQ3.out j2 q2 hj2 Τ⟩
 ·exact HQ.out j z af hz):p:=h
theorem fA(h:p:=by
 have an3:=@G _ @abH;exact dI):p:=h
theorem l_(h:p:=by
 have amW:=@G _ @abp;exact cQ):p:=h
theorem Ay(h:p:=by
 obtain⟨i0,hi,ZO,η,ZP⟩:=info_parts eQ;have ao2:=@G _ @ND;exact ie):p:=h
theorem adZ(h:p:=by
 have Zv:=G (λqw:Wd wr=>(iE ⟨(M ⟨b1,o1,J⟩),l1,y1,a2,l2,y2,a3,l3,y3,a4,l4,y4,(M ⟨b,o,J⟩),l5,y5⟩ c pq p qa ql qc va vl vc qw.w (HR.below (HW.trans (qw.b.mono HW.size))) HX.out HV.out HNE.out (HTq.below qw.b) (HTp.below qw.b)).mono (λ_ _ h=>ar.yes h HPr.out));exact PW):p:=h
theorem adY(h:p:=by
 have Zv:=G (λqw:Wd wr=>(iE ⟨(M ⟨b1,o1,J⟩),l1,y1,a2,l2,y2,a3,l3,y3,a4,l4,y4,(M ⟨b,o,J⟩),l5,y5⟩ c pq p qa ql qc va vl vc qw.w (HR.below (HW.trans (qw.b.mono HW.size))) HX.out HV.out HNE.out (HTq.below qw.b) (HTp.below qw.b)).mono (λ_ _ h=>ar.no h HPr.out));exact PU):p:=h
theorem Aq(h:p:=by
 have HPr:=G hpr;clear hpr;have arH:=@G _ @aa4;exact qu):p:=h
theorem adX(h:p:=by
 refine (BQ d c _ (HR.below HB.out)).mono ?_;rintro e w2 ⟨r,rfl,hi,hb⟩;have apj:=@G _ @aaw;exact iM):p:=h
theorem Ao(h:p:=by
 rintro e w1 ⟨r,rfl,hi,hw⟩;have hb:Below (w.alloc (Ze (Zs d c.now) 29)).heap.size (w.alloc (Ze (Zs d c.now) 29)) w1:=by first|(rw[hw];exact Yh _ _)|(rw[<-hw];exact Yh _ _)
 clear hw;have aov:=@G _ @Oa;exact fT):p:=h
theorem qE(h:p:=by
 unfold Zs;refine (iF d c t w hr hT.2.1.2.2.2.1.2.2 hT.2.1.2.2.1.2.2 (λj v hv e=>by have h9:=(hT.2.1.2.2.1.2.1 j v hv).1;rw[e] at h9;have h8:=h9.1;revert h8;decide)).mono ?_;exact arI):p:=h
theorem adz(h:p:=by
 rw[<-kP w t t' o.type e e' i ht ht' hi] at hr;exact QK):p:=h
theorem ady(h:p:=by
 rw[<-jH w t t' o.type e e' i ht ht' hi] at hr;exact QK):p:=h
theorem Al(h:p:=by
 refine wpList_plain hgd λK hK=>?_;obtain⟨v',w',hr,h2,h3,h4⟩:=run_append_own (P:=Tryz.prog) w base t o.type e i z size bytes ht hi hz Υ hby hzs Zq v n xs ζ ad m c news hl Φ h1 h63 an6 aoJ;obtain⟨va,vl,vc,rfl⟩:∃a l c,v=U a l c:=by
  exact akK
 exact auF):p:=h
theorem adl(h:p:=by
 have apJ:∀(listed:Array Bool) (a:Act) (w:World),listed.size=ops.size->(∀i,i<ops.size->listed.getD i Zg=Zi)->(∀o,back=M o->listed.getD front.length Zg=Zg)->(∃lo hi,At R sp ex front φs W a0 listed a w lo hi)->Q .normal a w:=by
  rintro listed a w hz ZL hb ⟨lo,hi,h⟩;have h1:=hf.last hlen Z6 h (λi hi=>ZL i af);exact xA
 intro fuel;induction fuel with
 | zero=>
  intro listed a w hz hc hb h;have ZL:∀i,i<ops.size->listed.getD i Zg=Zi:=λi hi=>il af i af;refine⟨?_,apJ listed a w hz ZL hb h⟩
  cases hr:YU .any ops listed with
  | nil=>rfl
  | cons j js=>
   have hm:j∈YU .any ops listed:=by rw[hr];simp
   obtain⟨h1,o,ho,-⟩:=mem_ready.1 hm;have hj:=(YA.1 ho).1;rw[<-cR af,ZL j hj] at h1
   cases h1
 | succ fuel ih=>
  intro listed a w hz hc hb hlh;refine⟨λhr=>apJ listed a w hz (gK hz Zo hr) hb hlh,λj hj=>?_⟩;obtain⟨lo,hi,h⟩:=hlh;obtain⟨hun,o,ho,ZL⟩:=mem_ready.1 hj;have hjs:j<ops.size:=(YA.1 ho).1;have hcs:=count_set (listed:=listed) (i:=j) af hun
  by_cases hjf:j<front.length
  ·have hof:front[j]?=M o:=by rw[an_] at ho;simpa[Yu hjf] using ho
   have hφ:φs[j]?=M (φs[j]'(by omega)):=Yi _;obtain⟨hm,hob⟩:=hs j o _ hof hφ
   have aoi:∀t∈o.looksAt ops,slotFact ex o.dst a0 (knAll [] (front.take j) (φs.take j)) a w lo hi t:=by
    intro t ht;unfold slotFact
    cases hk:(knAll [] (front.take j) (φs.take j)).lookup t with
    | some φ=>
     rcases de _ _ _ hk with ⟨i,p,h1,h2,h3⟩|h1
     ·have hij:i<j:=by have:=(Yc.1 h1).1;simp at this;omega
      rw[YC,if_pos hij] at h1 h3;obtain⟨-,e,he,hon,hbi⟩:=aoO j o hof t ht i p h1 h2;have hl:=ZL e he hbi;rw[hon] at hl;intro hex;refine h.known i p φ h1 h3 t h2 hl (λe9 he i' p' hp' hd'=>?_)
      rcases hex with h9|h9
      ·rw[h9] at he;cases he
      ·have:i'=j:=fW front hn hp' hof hd' (h9.symm.trans he);subst this;rw[cR af];exact hun
     ·simp at h1
    | none=>
     refine h.other t (λi p hp hd=>?_)
     exfalso
     obtain⟨hij,-⟩:=aoO j o hof t ht i p hp hd;have hi:=(Yc.1 hp).1;exact (df _ _ _ hk).2 i p (φs[i]'(by omega)) AM AR hd
   have auG:∀t∈o.looksAt ops,((knAll [] (front.take j) (φs.take j)).lookup t).isSome=Zi->∃(i:Nat) (p:Oper),front[i]?=M p/\p.dst=M t/\listed.getD i Zg=Zi:=by
    intro t ht hk;obtain⟨φ,hφ'⟩:=Option.isSome_iff_exists.1 hk
    rcases de _ _ _ hφ' with ⟨i,p,h1,h2,h3⟩|h1
    ·have hij:i<j:=by have:=(Yc.1 h1).1;simp at this;omega
     rw[YC,if_pos hij] at h1;obtain⟨-,e,he,hon,hbi⟩:=aoO j o hof t ht i p h1 h2;have hl:=ZL e he hbi;rw[hon] at hl;exact⟨i,p,h1,h2,hl⟩
    ·simp at h1
   have hap:rF (knAll [] (front.take j) (φs.take j)) lo hi (o.looksAt ops):=by
    intro t ht t' ht' hk hk' ZE;obtain⟨i,p,h1,h2,h3⟩:=auG t ht hk;obtain⟨i',p',g1,g2,g3⟩:=auG t' ht' hk';exact h.apart i p i' p' h1 g1 t t' h2 g2 h3 g3 ZE
   have axK:o.dst=M sp->Below W.heap.size W w:=λhd=>h.pre (λi p hp hd'=>by
    have:i=j:=fW front hn hp hof hd' hd;subst this;rw[cR af]
    exact hun)
   have h1:=hob a w (wpAny P .any ops Q fuel (listed.setIfInBounds j Zi)) lo hi h.size h.below axK aoi hap (λv w' δ hv=>by
    refine ih _ _ _ (by simpa using hz) af (λo' ho'=>?_) (h.step hR (hds o (Yv hof)) hn Z6 (λi o φ h1 h2=>(hs i o φ h1 h2).1) hof hφ af δ hv);have h2:=hb o' ho'
    have e:¬j=front.length:=af
    simpa[Ys,YH,e] using h2)
   unfold wpOp;rw[ho]
   simp only
   split
   ·rename_i hw;rw[if_pos hw] at h1;exact Zl h1
   ·rename_i hw;rw[if_neg hw] at h1;exact h1
  ·cases hk:back with
   | none=>rw[hk] at Zq;simp at Zq;omega
   | some b=>
    have hjn:j=front.length:=by rw[hk] at Zq;simp at Zq;omega
    subst hjn
    have hob:o=b:=by
     rw[an_,hk] at ho
     simp at ho
     exact ho.symm
    subst hob
    have hfl:∀i,i<front.length->listed.getD i Zg=Zi:=λi hi=>by
     obtain⟨e,he,hon,hbi⟩:=ara o hk i hi;have:=ZL e he hbi
     rwa [hon] at this
    have h1:=hf.last hlen Z6 h hfl;rw[hk] at h1
    have h2:=h1 (wpAny P .any ops Q fuel (listed.setIfInBounds front.length Zi)) (λa' w' hq=>by
     have hr:YU .any ops (listed.setIfInBounds front.length Zi)=[]:=by
      cases hr:YU .any ops (listed.setIfInBounds front.length Zi) with
      | nil=>rfl
      | cons i is=>
       have hm:i∈YU .any ops (listed.setIfInBounds front.length Zi):=by rw[hr];simp
       obtain⟨h3,o',ho',-⟩:=mem_ready.1 hm;have hi:=(YA.1 ho').1
       exfalso
       by_cases e:front.length=i
       ·subst e
        simp[Ys,show front.length<listed.size from by omega] at h3
       ·have h4:=hfl i (by rw[hk] at Zq;simp at Zq;omega);rw[cR af] at h4
        simp[Ys,e] at h3 h4
        rw[h3] at h4
        cases h4
     cases fuel with
     | zero=>exact⟨hr,hq⟩
     | succ fuel=>exact⟨λ_=>hq,λi hi=>by rw[hr] at hi;cases hi⟩)
    unfold wpOp;rw[ho]
    simp only
    split
    ·rename_i hw;rw[if_pos hw] at h2;exact Zl h2
    ·rename_i hw;rw[if_neg hw] at h2;exact h2):p:=h
theorem adk(h:p:=by
 have apJ:∀(listed:Array Bool) (a:Act) (w:World),listed.size=ops.size->(∀i,i<ops.size->listed.getD i Zg=Zi)->(∀o,back=M o->listed.getD front.length Zg=Zg)->Ac front φs W a0 listed a w->Q .normal a w:=by
  intro listed a w hz ZL hb h;have h1:=Fin.last hf hlen Z6 h.old (λi hi=>ZL i af);exact xA
 intro fuel;induction fuel with
 | zero=>
  intro listed a w hz hc hb h;have ZL:∀i,i<ops.size->listed.getD i Zg=Zi:=λi hi=>il af i af;refine⟨?_,apJ listed a w hz ZL hb h⟩
  cases hr:YU .any ops listed with
  | nil=>rfl
  | cons j js=>
   have hm:j∈YU .any ops listed:=by rw[hr];simp
   obtain⟨h1,o,ho,-⟩:=mem_ready.1 hm;have hj:=(YA.1 ho).1;rw[<-cR af,ZL j hj] at h1
   cases h1
 | succ fuel ih=>
  intro listed a w hz hc hb h;refine⟨λhr=>apJ listed a w hz (gK hz Zo hr) hb h,λj hj=>?_⟩;obtain⟨hun,o,ho,ZL⟩:=mem_ready.1 hj;have hjs:j<ops.size:=(YA.1 ho).1;have hcs:=count_set (listed:=listed) (i:=j) af hun
  by_cases hjf:j<front.length
  ·have hof:front[j]?=M o:=by rw[an_] at ho;simpa[Yu hjf] using ho
   have hφ:φs[j]?=M (φs[j]'(by omega)):=Yi _;obtain⟨hm,hob⟩:=hs j o _ hof hφ
   have aoi:∀t∈o.looksAt ops,slotFact a0 (knAll [] (front.take j) (φs.take j)) a w t:=by
    intro t ht;unfold slotFact
    cases hk:(knAll [] (front.take j) (φs.take j)).lookup t with
    | some φ=>
     rcases de _ _ _ hk with ⟨i,p,h1,h2,h3⟩|h1
     ·have hij:i<j:=by have:=(Yc.1 h1).1;simp at this;omega
      rw[YC,if_pos hij] at h1 h3;obtain⟨-,e,he,hon,hbi⟩:=aoO j o hof t ht i p h1 h2;have hl:=ZL e he hbi;rw[hon] at hl;exact h.old.known i p φ h1 h3 t h2 hl
     ·simp at h1
    | none=>
     refine h.old.other t (λi p hp hd=>?_)
     exfalso
     obtain⟨hij,-⟩:=aoO j o hof t ht i p hp hd;have hi:=(Yc.1 hp).1;exact (df _ _ _ hk).2 i p (φs[i]'(by omega)) AM AR hd
   have h1:=hob a w (wpAny P .any ops Q fuel (listed.setIfInBounds j Zi)) h.old.size h.old.below aoi (λv w' δ hv=>by
    refine ih _ _ _ (by simpa using hz) af (λo' ho'=>?_) ⟨h.old.step hn Z6 (λi o φ h1 h2=>(hs i o φ h1 h2).1) hof hφ af δ hv,λj' o' ho' hl e he hbe=>(by
     by_cases ej:j=j'
     ·subst ej;obtain rfl:o=o':=Yd (hof.symm.trans ho');exact Gs.alN (ZL e he hbe)
     ·exact Gs.alN (h.cl j' o' ho' (Gs.alH ej hl) e he hbe))⟩
    have h2:=hb o' ho'
    have e:¬j=front.length:=af
    simpa[Ys,YH,e] using h2)
   unfold wpOp;rw[ho]
   simp only
   split
   ·rename_i hw;rw[if_pos hw] at h1;exact Zl h1
   ·rename_i hw;rw[if_neg hw] at h1;exact h1
  ·cases hk:back with
   | none=>rw[hk] at Zq;simp at Zq;omega
   | some b=>
    have hjn:j=front.length:=by rw[hk] at Zq;simp at Zq;omega
    subst hjn
    have hob:o=b:=by
     rw[an_,hk] at ho
     simp at ho
     exact ho.symm
    subst hob
    have hfl:∀i,i<front.length->listed.getD i Zg=Zi:=λi hi=>by
     obtain⟨e,he,hbi,hon⟩:=ara o hk i hi;have hl:=ZL e he hbi
     rcases hon with hon|⟨p,hp,e',he',hon,axL⟩
     ·rwa [hon] at hl
     ·have:=h.cl e.on p hp hl e' he' axL
      rwa [hon] at this
    have h1:=Fin.last hf hlen Z6 h.old hfl;rw[hk] at h1
    have h2:=h1 (wpAny P .any ops Q fuel (listed.setIfInBounds front.length Zi)) (λa' w' hq=>by
     have hr:YU .any ops (listed.setIfInBounds front.length Zi)=[]:=by
      cases hr:YU .any ops (listed.setIfInBounds front.length Zi) with
      | nil=>rfl
      | cons i is=>
       have hm:i∈YU .any ops (listed.setIfInBounds front.length Zi):=by rw[hr];simp
       obtain⟨h3,o',ho',-⟩:=mem_ready.1 hm;have hi:=(YA.1 ho').1
       exfalso
       by_cases e:front.length=i
       ·subst e
        simp[Ys,show front.length<listed.size from by omega] at h3
       ·have h4:=hfl i (by rw[hk] at Zq;simp at Zq;omega);rw[cR af] at h4
        simp[Ys,e] at h3 h4
        rw[h3] at h4
        cases h4
     cases fuel with
     | zero=>exact⟨hr,hq⟩
     | succ fuel=>exact⟨λ_=>hq,λi hi=>by rw[hr] at hi;cases hi⟩)
    unfold wpOp;rw[ho]
    simp only
    split
    ·rename_i hw;rw[if_pos hw] at h2;exact Zl h2
    ·rename_i hw;rw[if_neg hw] at h2;exact h2):p:=h
theorem ac3(h:p:=by
 exact Yb HR (Yb hl1 (Yb hm1 hl3))):p:=h
theorem ac2(h:p:=by
 have hm3:l3<=9223372036854775807:=Yo hr.v.2.1 hr.v.2.2.1;exact Yb hl3 hm3):p:=h
theorem ac0(h:p:=by
 have:=List.all_eq_true.1 this d hd;have:=List.all_eq_true.1 this i (List.mem_range.2 hi);rw[hp] at this;simp only[hpd,bne_self_eq_false,Bool.false_or,YI,decide_eq_true_eq] at this;exact PG):p:=h
theorem acI(h:p:=by
 have hr:=jI (ty:=o.type) ht hi ζ ax c;exact QU):p:=h
theorem acH(h:p:=by
 have hr:=kR (ty:=o.type) ht hi ζ ax c;exact QU):p:=h
theorem zU(h:p:=by
 have hl0:l=0:=by
  rcases Nat.eq_zero_or_pos l with e|e
  ·exact e
  ·have:=Nat.mul_pos e Zq;simp at hl;omega
 subst hl0;refine wpList_plain hgd λK hK=>?_;exact auH):p:=h
theorem iO(h:p:=by
 have anS:=@G _ @Vr;exact dm):p:=h
theorem acg(h:p:=by
 obtain⟨HR,hl1,hm1,hl3⟩:=AY;obtain⟨hl5,hm5⟩:=lK;clear hr;have HNR:=G hn;obtain⟨HX,HV,HNE⟩:=jg;have HL5:=G arJ;have HPC:=G hpc;clear hn hx hv ZE arJ hpc;go_enter Tryz.func58,Tryz.ntmps58;go_wp2;go_loopw [3] (λi wr=> ∃k:Nat,k<=l5/\i=V O k/\Hid (∀(j:Nat) z,j<k->c.ps[j]?=M z->PS c j z)/\Hid (Below w.heap.size w wr)/\Hid (wr.heap[w.heap.size]?=M (Ze (Zd a1 l1 y1 a2 l2 y2 a3 l3 y3 a4 l4 y4 a5 l5 y5 c.now) 29 (0,0)))) (λi _=>l5 - (intOf i).toNat);case atStart=>exact⟨0,by omega,rfl,λ_ _ h=>absurd h af,aj _ _,Yf⟩
 case round=>
  obtain⟨k,hk,rfl,HQ,HB,Bk⟩:=hrel;have pk:=ck4 Bk;by_cases Zo:k<l5
  ·have arK:=@G _ @FB;exact sN
  ·obtain rfl:l5=k:=af
   have HQ1:Hid (∀(k:Nat) p,c.ps[k]?=M p->PS c k p):=λj z hz=>HQ.out j z dO hz;go_wp2;clear pk;go_loopw [9] (λi wr=> ∃k:Nat,k<=l1/\i=V O k/\Hid (∀(j:Nat) n,j<k->c.ns[j]?=M n->cpuOf n.n c.ps<=n.c)/\Hid (Below w.heap.size w wr)/\Hid (wr.heap[w.heap.size]?=M (Ze (Zd a1 l1 y1 a2 l2 y2 a3 l3 y3 a4 l4 y4 a5 l5 y5 c.now) 29 (0,0)))) (λi _=>l1 - (intOf i).toNat);case atStart=>exact⟨0,by omega,rfl,λ_ _ h=>absurd h af,HB.out,Bk.out⟩
   case round=>
    obtain⟨k,hk,rfl,HQ,HB,Bk⟩:=hrel;have pk:=ck0 Bk;by_cases Zo:k<l1
    ·have ao3:=@G _ @UJ;exact gn
    ·exact QF):p:=h
theorem acf(h:p:=by
 have apy:=@G _ @D_;exact jT):p:=h
theorem ace(h:p:=by
 obtain⟨HR,hl1⟩:=lr;have hl3:c.vs.length=l3:=OI
 clear hr;have HNR:=G hn;obtain⟨HX,HV,HNE⟩:=jg;have HP:=G hp;have HBD:=G ω;have hlc:=Yo hp.2.1 hp.2.2.1;have hzl:=hp.1;have ap6:j1<l1:=by have h3:=(Yc.1 hj1).1;omega
 obtain⟨b1,o1,n',rfl,aoP,hn',Zc⟩:=dF HR.n ap6;rw[hj1] at hn';obtain rfl:=Yd hn';obtain⟨na,nl,nc,hnr,z0,z1,d0,d1,d2,d3,d4,d5,d6⟩:=bo Zc;have HJn:=G hj1;have HNn:=G hnn;have HTn:=G hnr;have HBn:=G aoP;have HD:Hid (w.cell? ⟨b1,o1+j1*7,J⟩=M (I n.n)/\w.cell? ⟨b1,o1+j1*7+1,J⟩=M (I n.z)/\w.cell? ⟨b1,o1+j1*7+2,J⟩=M (V O n.c)/\w.cell? ⟨b1,o1+j1*7+3,J⟩=M (V O n.s)/\w.cell? ⟨b1,o1+j1*7+4,J⟩=M (V O n.u)/\w.cell? ⟨b1,o1+j1*7+5,J⟩=M (Zf n.d)/\w.cell? ⟨b1,o1+j1*7+6,J⟩=M (U na nl nc)):=⟨d0,d1,d2,d3,d4,d5,d6⟩;clear hn' Zc hnr z0 z1 d0 d1 d2 d3 d4 d5 d6 hj1 hnn aoP hn hx hv ZE hp ω;obtain⟨W,θ⟩:∃W,W=(w.alloc (Ze (Zd (M ⟨b1,o1,J⟩) l1 y1 a2 l2 y2 a3 l3 y3 a4 l4 y4 a5 l5 y5 c.now) 29)).alloc (Ze (pov p pa pl pc) 102):=⟨_,rfl⟩;have GK:Hid (W.heap[w.heap.size]?=M (Ze (Zd (M ⟨b1,o1,J⟩) l1 y1 a2 l2 y2 a3 l3 y3 a4 l4 y4 a5 l5 y5 c.now) 29 (0,0))):=by rw[θ];exact du _ _ _
 have GP:Hid (W.heap[w.heap.size+1]?=M (Ze (pov p pa pl pc) 102 (0,0))):=by rw[θ];exact cL _ _ _
 have BW:Hid (Below w.heap.size w W):=by rw[θ];exact aM _ _ _
 go_enter Tryz.func115,Tryz.ntmps115;go_wp2_with fail;rw[<-θ];clear θ;have ang:=@G _ @Kr;exact dC):p:=h
theorem acd(h:p:=by
 obtain⟨HR,hl1,hm1,hl3⟩:=AY;obtain⟨hl5,hm5⟩:=lK;clear hr;have HNR:=G hn;obtain⟨HX,HV,HNE⟩:=jg;have axM:=G aoQ;clear hn hx hv ZE aoQ;go_enter Tryz.func60,Tryz.ntmps60;go_wp2;go_loopw [3] (λi wr=> ∃k:Nat,k<=l1/\i=V O k/\Hid (∀(j:Nat) z,j<k->c.ns[j]?=M z->Sd c z)/\Hid (Below w.heap.size w wr)/\Hid (wr.heap[w.heap.size]?=M (Ze (Zd a1 l1 y1 a2 l2 y2 a3 l3 y3 a4 l4 y4 a5 l5 y5 c.now) 29 (0,0)))) (λi _=>l1 - (intOf i).toNat);case atStart=>exact⟨0,by omega,rfl,λ_ _ h=>absurd h af,aj _ _,Yf⟩
 case round=>
  obtain⟨k,hk,rfl,HQ,HB,Bk⟩:=hrel;have pk:=ck0 Bk;by_cases Zo:k<l1
  ·have ao3:=@G _ @UH;exact gn
  ·have arL:=@G _ @EN;exact sB):p:=h
theorem acb(h:p:=by
 exact anV):p:=h
theorem abI(h:p:=by
 by_cases e:j=k
 ·subst e;rw[HXp.out] at hz;obtain rfl:=Yd hz;exact λ_=>⟨j1,n,HJn.out,HNn.out,HDd.out,HAl.out⟩
 ·exact HQ.out j z af hz):p:=h
theorem abH(h:p:=by
 exact aoH):p:=h
theorem abr(h:p:=by
 generalize ((((((wz.setCell ⟨b3,0,J⟩ (U J 0 0)).setCell ⟨b3,1,J⟩ (U p2 l2 q2)).setCell ⟨b3,2,J⟩ (U J 0 0)).setCell ⟨b3,3,J⟩ (U p4 l4 q4)).setCell ⟨b3,4,J⟩ (U J 0 0)).setCell ⟨b3,5,J⟩ (V O c.now))=X at BoX HWX R2 R4 ⊢;clear t0 t1 t2 t3 t4 t5 f0 f1 f2 f3 f4 f5;have HBX:=G (HB.trans (HWX.mono HB.size));replace Bk:=G ((HWX.block _ (ae Bk.out)).trans Bk.out);replace Br:=G ((HWX.block _ (ae Br.out)).trans Br.out);have awE:=ae BoX.out;go_wp2;go_loopw [4] (λvi wr=> ∃(k:Nat) (vss:List (List Value)) (H:Nat->Nat->Nat) (v:Value),k<=l1/\vi=V O k/\Hid (aJ (Cps b3 X) X wr)/\Hid (wr.ownsRow X.heap.size 81 7 v k vss.flatten)/\Hid (aR wr (λk=>X.heap.size<=k) 7 ((c.ns.take k).map ndF) vss H)/\Hid (wr.heap[b3]?=M (Ze #[v,U p2 l2 q2,U J 0 0,U p4 l4 q4,U J 0 0,V O c.now] 29 (0,0)))) (λvi _=>l1 - (intOf vi).toNat);case atStart=>exact⟨0,[],λ_ _=>0,U J 0 0,by omega,rfl,aJ.refl _ _,World.ownsRow_nil _ _ _ _,aR.nil _ _ _ _,BoX⟩
 case round=>
  obtain⟨k,vss,H,v,hk,rfl,HK,HO,HV,Bo⟩:=hrel;obtain⟨hXs,ZH,BkR,hKs⟩:=OR;by_cases Zo:k<l1
  ·obtain⟨b,o,x,rfl,hb0,hx,Zc⟩:=dF HR.n Zo;obtain⟨va,vl,vc,Zx,z0,z1,c0,c1,c2,c3,c4,c5,c6⟩:=bo Zc;have hz8:vl<=8001:=by have h1:=Zx.1;have h2:=HS.ns k x hx;omega
   have HX:=G hx;have HT:=G Zx;have aoy:=G z0;have avW:=G z1;clear Zc hx Zx z0 z1;have auI:=@G _ @TF;exact yX
  ·have hkl:k=l1:=af
   have h5:=HV.out;rw[YB af] at h5;obtain⟨p1,q1,hv,hR⟩:=h5.own HO.out bg ag (λg hg=>(HO.lt g hg).1);have hl5:(c.ns.map ndF).length=l1:=by simpa using hl1
   rw[hl5] at hv hR;subst hv;have R1:=G (hR.dZ Bo.out ag ag);have ap7:=@G _ @LN;exact nu):p:=h
theorem abq(h:p:=by
 go_wp2;exact⟨⟨k+1,_,H',_,by omega,by go_num,HS1,HS2,HS3,HS4⟩,by simp[intOf];omega⟩):p:=h
theorem abp(h:p:=by
 exact aqP):p:=h
theorem cQ(h:p:=by
 have apz:=@G _ @NI;exact j8):p:=h
theorem abd(h:p:=by
 by_cases hg:∃(i:Nat) (x:Xd),c.xs[i]?=M x/\x.n=t;rotate_left
 ·have HG:=G hg;clear hg;have ao4:=@G _ @T7;exact gj
 obtain⟨i4,x4,g1,g2⟩:=hg;obtain⟨HG1,HG2,arD⟩:=qL;clear g1 g2;have ao4:=@G _ @T8;exact gj):p:=h
theorem abc(h:p:=by
 by_cases hg:∃(i:Nat) (x:Xd),c.xs[i]?=M x/\x.n=t;rotate_left
 ·have HG:=G hg;clear hg;have ao4:=@G _ @T5;exact gj
 obtain⟨i4,x4,g1,g2⟩:=hg;obtain⟨HG1,HG2,arD⟩:=qL;clear g1 g2;have ao4:=@G _ @T6;exact gj):p:=h
theorem abb(h:p:=by
 by_cases hg:∃(i:Nat) (x:Xd),c.xs[i]?=M x/\x.n=t;rotate_left
 ·have HG:=G hg;clear hg;have ao4:=@G _ @T4;exact gj
 obtain⟨i4,x4,g1,g2⟩:=hg;obtain⟨HG1,HG2,arD⟩:=qL;clear g1 g2;have hbv:=Yl Z7.out HB.size;have v2:=(ah HB.out Z7.out).trans HC2.out;have hbn:=Yl HBn.out HB.size;have n1:=(ah HB.out HBn.out).trans HCn.out;by_cases hz:v.z=n.z
 ·have hzq:=aP hz;have HZ:=G hz;clear hz;have arM:=@G _ @T1;exact p_
 ·have hzq:=bu hz;have HZ:=G hz;clear hz;have arM:=@G _ @T0;exact p_):p:=h
theorem aba(h:p:=by
 by_cases hg:∃(i:Nat) (x:Xd),c.xs[i]?=M x/\x.n=t;rotate_left
 ·have HG:=G hg;clear hg;have ao4:=@G _ @T2;exact gj
 obtain⟨i4,x4,g1,g2⟩:=hg;obtain⟨HG1,HG2,arD⟩:=qL;clear g1 g2;have ao4:=@G _ @T3;exact gj):p:=h
theorem lV(h:p:=by
 have aqL:=@G _ @S9;exact lO):p:=h
theorem aa6(h:p:=by
 obtain⟨q0,q1,q2,q3,q4,q5,hne0⟩:=akv;have Zv:=G (λqw:Wd wr=>(iE ⟨a1,l1,y1,a2,l2,y2,a3,l3,y3,a4,l4,y4,(M ⟨b,o,J⟩),l5,y5⟩ c pq p qa ql qc va vl vc qw.w (HR.below (HW.trans (qw.b.mono HW.size))) HX.out HV.out HNE.out (HTq.below qw.b) (HTp.below qw.b)).mono (λ_ _ h=>ar.yes h HPr.out));exact PW):p:=h
theorem aa5(h:p:=by
 obtain⟨q0,q1,q2,q3,q4,q5,hne0⟩:=akv;have Zv:=G (λqw:Wd wr=>(iE ⟨a1,l1,y1,a2,l2,y2,a3,l3,y3,a4,l4,y4,(M ⟨b,o,J⟩),l5,y5⟩ c pq p qa ql qc va vl vc qw.w (HR.below (HW.trans (qw.b.mono HW.size))) HX.out HV.out HNE.out (HTq.below qw.b) (HTp.below qw.b)).mono (λ_ _ h=>ar.no h HPr.out));exact PU):p:=h
theorem aa4(h:p:=by
 obtain⟨q0,q1,q2,q3,q4,q5,hne0⟩:=akv;exact auJ):p:=h
theorem qu(h:p:=by
 have arM:=@G _ @TZ;exact p_):p:=h
theorem aaW(h:p:=by
 clear hne0 HB k0 k1 k2 k3 k4 k5 r0 r1 r2 r3 r4 r5 tw vw nw Bk hc1 ZN hbv v2 hbn n1;have HB:=ZX;have Bk:=Ck;clear hzq;have ap8:=@G _ @Ny;exact nD):p:=h
theorem aaV(h:p:=by
 clear hne0 HB k0 k1 k2 k3 k4 k5 r0 r1 r2 r3 r4 r5 tw vw nw Bk hc1 ZN hbv v2 hbn n1;have anY:=@G _ @NP;exact dS):p:=h
theorem aaU(h:p:=by
 clear hne0 HB k0 k1 k2 k3 k4 k5 r0 r1 r2 r3 r4 r5 tw Bk hc1 ZN;have anY:=@G _ @NO;exact dS):p:=h
theorem aaT(h:p:=by
 clear hne0 HB k0 k1 k2 k3 k4 k5 r0 r1 r2 r3 r4 r5 tw Bk hc1 ZN;have HB:=ZX;have Bk:=Ck;have ap8:=@G _ @Nx;exact nD):p:=h
theorem lU(h:p:=by
 have arN:=@G _ @E0;exact sC):p:=h
theorem aaQ(h:p:=by
 have hW:wr.grownBy wg v.ownBlock:=hW;have e3:=hf 3 ag;simp[Gi.slotFact,Yg] at e3;clear hf;exact nQ):p:=h
theorem fw(h:p:=by
 refine Gi.Obl.plain rfl ?_;intro ac wg K lo hi Zq hW hpr hf hap hK;clear Zq hap hpr;exact aoI):p:=h
theorem aaw(h:p:=by
 have arO:=@G _ @Dm;exact sh):p:=h
theorem iM(h:p:=by
 have an1:=@G _ @Hs;exact dR):p:=h
theorem aae(h:p:=by
 by_cases e:j=kq
 ·subst e;rw[HXt.out] at hs;obtain rfl:=Yd hs;exact⟨j1,n,HJn.out,HNn.out,HZ.out⟩
 ·exact ν.out j s af hs):p:=h
theorem aad(h:p:=by
 by_cases e:j=kq
 ·subst e;rw[HXt.out] at hs;obtain rfl:=Yd hs;exact⟨j3,v,HJ.out,HNv.out,Zl HDd.out⟩
 ·exact ν.out j s af hs):p:=h
theorem aac(h:p:=by
 by_cases e:j=kq
 ·subst e;rw[HXt.out] at hs;obtain rfl:=Yd hs;exact⟨j3,v,HJ.out,HNv.out,Zk HIn.out⟩
 ·exact ν.out j s af hs):p:=h
theorem qp(h:p:=by
 have ap8:=@G _ @Nw;exact nD):p:=h
theorem iL(h:p:=by
 have aoz:=@G _ @Jj;exact fQ):p:=h
theorem fv(h:p:=by
 have aog:=ae Br.out;obtain⟨ZR,ZS,ZT,ZU,ZV,ZY,Z1,Z2⟩:=dD;exact aoK):p:=h
theorem Xt(h:p:=by
 have Bv:=upK Gv q2.b;clear hne0 HB k2 v0 v2 v5 v6 vw Bk hbv v7;have anY:=@G _ @NN;exact dS):p:=h
theorem WU(h:p:=by
 go_wp2;go_ret;refine ar.f (λh=>?_) HB.out;obtain⟨i,m,e1,e2,e3,_⟩:=(h.2 k p HXp.out) HP2.out;obtain⟨_,rfl⟩:=HNR.inj e1 HJn.out (e2.trans HNn.symm);rw[HDd.out] at e3;cases e3):p:=h
theorem WT(h:p:=by
 go_wp2;go_ret;refine ar.f (λh=>?_) HB.out;obtain⟨i,m,e1,e2,e3,e4⟩:=(h.2 k p HXp.out) HP2.out;obtain⟨_,rfl⟩:=HNR.inj e1 HJn.out (e2.trans HNn.symm);exact HAl.out e4):p:=h
theorem zH(h:p:=by
 have arG:=@G _ @MB;exact uu):p:=h
theorem WQ(h:p:=by
 go_wp2_with fail;refine⟨⟨k+1,by omega,by go_num,λj s hj hs=>?_,HBY.trans (q2.b.mono HBY.size)⟩,by simp[intOf];omega⟩;by_cases e:j=k
 ·subst e;rw[HXt.out] at hs;obtain rfl:=Yd hs;exact⟨v,HDb.out,HIn.out⟩
 ·exact HQ.out j s af hs):p:=h
theorem WO(h:p:=by
 go_wp2;go_ret;refine ar.f (λh=>?_) HB.out;obtain⟨v2,e1,e2⟩:=h k t HXt.out;obtain rfl:=aX.inj HX.out HV.out HDb.out e1;exact HIn.out e2):p:=h
theorem zF(h:p:=by
 repeat (go_big_quiet_step (first|(go_at_call 37;exact Calls.wide (Zv.out _))|(go_at_call 114;exact Calls.wide (μ.out _))|fail))
 refine wpQuiet_nil ?_;rintro _ ⟨q2,rfl⟩;have HB:=upB HW q2.b;have Bk:=upK Gk q2.b;have Bp:=upK Gp q2.b;have Bn:=upK Gn q2.b;clear hne0 k0 k1 k2 k3 k4 k5 p3 n6 tw vw pp hb hc hbv v0;exact auC):p:=h
theorem WN(h:p:=by
 go_wp2_with fail;refine⟨⟨kz+1,by omega,by go_num,λj s hj hs=>?_,ZH.trans (q9.b.mono ZH.size)⟩,by simp[intOf];omega⟩;by_cases e:j=kz
 ·subst e;rw[HXq.out] at hs;obtain rfl:=Yd hs;exact HPr.out
 ·exact HQ3.out j s af hs):p:=h
theorem WM(h:p:=by
 go_wp2;go_ret;exact ar.f (λh=>HPr.out ((h.1 k p HXp.out).2.2 kz pq hlt3 HXq.out)) HB.out):p:=h
theorem zE(h:p:=by
 repeat (go_big_quiet_step (first|(go_at_call 111;exact Calls.wide (Zv.out _))|fail))
 refine wpQuiet_nil ?_;rintro _ ⟨q9,rfl⟩;have ZW:=upB HW q9.b;have Ck:=upK Gk q9.b;have Br:=upK Gr q9.b;clear hne0 HB k0 k1 k2 k3 k4 k5 r0 r1 r2 r3 r4 r5 q0 q1 q2 q3 q4 q5 Bk d0 d1 d2 d3 d4 d5;have HB:=ZW;have Bk:=Ck;exact auE):p:=h
theorem zr(h:p:=by
 have HP:Hid (Put t zs (zs.take k++[t]++zs.drop k)):=Zk ⟨k,by omega,rfl,HE.out,λy hy=>by rw[HX.out] at hy;cases hy;exact Rz Zz he⟩;have hq:=bu he;clear he;obtain⟨ρ,hik,Γ⟩:=OW;exact auK):p:=h
theorem V7(h:p:=by
 clear Τ;exact PX):p:=h
theorem V6(h:p:=by
 clear Τ hq3;exact PX):p:=h
theorem V5(h:p:=by
 go_wp2;go_ret;refine ar.f (λh=>?_) HB.out;rcases (h.1 k p HXp.out).1 with h2|⟨i,n',h2,h3,h4⟩
 ·exact HEm.out h2
 ·obtain⟨_,rfl⟩:=HNR.inj h2 HJn.out (h3.trans HNn.symm);rcases h4 with h4|h4
  ·exact HZ0.out h4
  ·exact HZ1.out h4):p:=h
theorem qg(h:p:=by
 rintro _ ⟨q0,rfl⟩;obtain⟨ZX,Ck,Br,HTp⟩:=OM;clear hne0 HB k0 r0 r1 r2 r3 r4 r5 nw Bk hbn n1;have HB:=ZX;have Bk:=Ck;exact arE):p:=h
theorem VO(h:p:=by
 have aqI:=@G _ @ac3;exact lW):p:=h
theorem VG(h:p:=by
 by_cases hq:cpuOf n.n c.ps<=n.c
 ·exact Rd
 ·have HCq:=G hq;go_wp2;go_ret;exact ar.f (λh=>by have h1:cpuOf n.n c.ps<=n.c:=h.2 k n HXn.out;have h2:=HCq.out;omega) HB.out):p:=h
theorem VF(h:p:=by
 by_cases hq:onOf n.n c.vs<=n.s
 ·exact Rd
 ·have HCq:=G hq;go_wp2;go_ret;exact ar.f (λh=>by have h1:onOf n.n c.vs<=n.s:=h.2 k n HXn.out;have h2:=HCq.out;omega) HB.out):p:=h
theorem ze(h:p:=by
 refine wpQuiet_nil ?_;rintro _ ⟨q1,rfl⟩;obtain⟨ZW,Ck⟩:=lq;clear hne0 HB k0 k1 k2 k3 k4 k5 n0w n2w Bk pk c0 c1 c2 c3 c4 c5 c6 hb;have HB:=ZW;have Bk:=Ck;exact auB):p:=h
theorem VB(h:p:=by
 exact Yb hl5 hm5):p:=h
theorem Vr(h:p:=by
 exact apk):p:=h
theorem dm(h:p:=by
 clear k0 k1 k2 k3 k4 k5;have aok:=@G _ @DU;exact fa):p:=h
theorem UJ(h:p:=by
 clear Zc hx z0 z1 Zx;have Gk:=Bk;have HW:=HB;obtain⟨k0,k1,k2,k3,k4,k5⟩:=sl6 Gk;have n0w:=λq:Wd wr=>(q.cell hb).trans c0;have n2w:=λq:Wd wr=>(q.cell hb).trans c2;have hne0:=Wd.ne wr;have Zv:=G (λq:Wd wr=>kI ⟨(M ⟨b,o,J⟩),l1,y1,a2,l2,y2,a3,l3,y3,a4,l4,y4,a5,l5,y5⟩ c.now c.ps n.n q.w (HR.p.below (HW.trans (q.b.mono HW.size))) HL5.out HPC.out);have Zw:=@G _ @ajx;exact aB):p:=h
theorem UI(h:p:=by
 clear Zc hx z0 z1 Zx;have Gk:=Bk;have HW:=HB;obtain⟨k0,k1,k2,k3,k4,k5⟩:=sl6 Gk;have n0w:=λq:Wd wr=>(q.cell hb).trans c0;have n2w:=λq:Wd wr=>(q.cell hb).trans c3;have hne0:=Wd.ne wr;have Zv:=G (λq:Wd wr=>yE ⟨(M ⟨b,o,J⟩),l1,y1,a2,l2,y2,a3,l3,y3,a4,l4,y4,a5,l5,y5⟩ c.now c.vs n.n q.w (HR.v.below (HW.trans (q.b.mono HW.size))) HL3.out);have Zw:=@G _ @ajw;exact aB):p:=h
theorem UH(h:p:=by
 have HTn:=G Zx;clear Zc hx z0 z1 Zx;have hvl:=HTn.1;have hvc:=Yo HTn.2.1 HTn.2.2.1;have HVL:=G hvl;clear hvl;have KV:Hid ((wr.alloc (Ze #[I n.n,I n.z,V O n.c,V O n.s,V O n.u,Zf n.d,U va vl vc] 81)).heap[w.heap.size]?=M (Ze (Zd (M ⟨b,o,J⟩) l1 y1 a2 l2 y2 a3 l3 y3 a4 l4 y4 a5 l5 y5 c.now) 29 (0,0))):=(Yj wr (Ze #[I n.n,I n.z,V O n.c,V O n.s,V O n.u,Zf n.d,U va vl vc] 81) _ (ae Bk.out)).trans Bk.out;have GV:Hid ((wr.alloc (Ze #[I n.n,I n.z,V O n.c,V O n.s,V O n.u,Zf n.d,U va vl vc] 81)).heap[wr.heap.size]?=M (Ze #[I n.n,I n.z,V O n.c,V O n.s,V O n.u,Zf n.d,U va vl vc] 81 (0,0))):=Yf;have BV:=G (HB.trans ((aj wr (Ze #[I n.n,I n.z,V O n.c,V O n.s,V O n.u,Zf n.d,U va vl vc] 81)).mono HB.size));have TT:=G (HTn.below (aj wr (Ze #[I n.n,I n.z,V O n.c,V O n.s,V O n.u,Zf n.d,U va vl vc] 81)));obtain⟨W,hW⟩:∃W,W=wr.alloc (Ze #[I n.n,I n.z,V O n.c,V O n.s,V O n.u,Zf n.d,U va vl vc] 81):=⟨_,rfl⟩;obtain⟨gb,Δ⟩:∃gb,gb=wr.heap.size:=⟨_,rfl⟩;rw[<-hW] at KV GV BV TT;rw[<-Δ] at GV;go_wp2;rw[<-hW,<-Δ];clear hW Δ HB Bk c0 c1 c2 c3 c4 c5 c6 hb pk;go_loopw [5] (λi wr=> ∃kq:Nat,kq<=vl/\i=V O kq/\Hid (∀(j:Nat) t,j<kq->n.zs[j]?=M t->∃(i:Nat) (v:Vd),c.vs[i]?=M v/\v.n=t/\(n.d=Zi\/InL v.zs n.n))/\Hid (Below W.heap.size W wr)) (λi _=>vl - (intOf i).toNat);case atStart=>exact⟨0,by omega,rfl,λ_ _ h=>absurd h af,Yh _ _⟩
 case round=>
  obtain⟨kq,hkq,rfl,ν,ZH⟩:=hrel;obtain⟨HB,Bk⟩:=uU;have Bv:=upK GV ZH.out;have pv:=ck6 Bv;by_cases aob:kq<vl
  ·obtain⟨b2,o2,t,rfl,hb,hx,hc,Zq⟩:=(TT.below ZH.out).at aob;have HXt:=G hx;clear hx Zq;by_cases hnn:∃(i:Nat) (v:Vd),c.vs[i]?=M v/\v.n=t;rotate_left
   ·have HH:=G hnn;clear hnn;have Gk:=Bk;have Gv:=Bv;obtain⟨HW,k0,k1,k2,k3,k4,k5⟩:=uZ;have v6:=λq:Wd wr=>q.slot (o:=6) Gv.out rfl;obtain⟨tw,hne0⟩:=o7;have Zv:=G (λq:Wd wr=>iD ⟨(M ⟨b,o,J⟩),l1,y1,a2,l2,y2,a3,l3,y3,a4,l4,y4,a5,l5,y5⟩ c.now c.vs t q.w (HR.v.below (HW.trans (q.b.mono HW.size))) (λi v h1 h2=>HH.out ⟨i,v,h1,h2⟩));have ο:=@G _ @Lf;exact b_
   obtain⟨j3,v,h1,h2⟩:=hnn;have arw:j3<l3:=by have h3:=(Yc.1 h1).1;omega
   obtain⟨b3,o3,v',rfl,Zy,hv',Zc⟩:=bY HR.v arw;rw[h1] at hv';obtain rfl:=Yd hv';obtain⟨xa,xl,xc,Zx,z0,z2,z3,z5,d0,d1,d2,d3,d4,d5,d6,d7⟩:=bm Zc;have HJ:=G h1;have HNv:=G h2;have HTx:=G Zx;have HC7:=G d7;have Z7:=G Zy;have awF:decide ((j3:Int)<0)=Zg:=aF
   clear hv' Zc Zx z0 z2 z3 z5 d0 d1 d2 d3 d4 d5 d6 d7 h1 h2 Zy;have Gk:=Bk;have Gv:=Bv;have HW:=HB;obtain⟨k0,k1,k2,k3,k4,k5⟩:=sl6 Gk;have v6:=λq:Wd wr=>q.slot (o:=6) Gv.out rfl;obtain⟨tw,hne0⟩:=o7;have Zv:=G (λq:Wd wr=>eA ⟨(M ⟨b,o,J⟩),l1,y1,a2,l2,y2,(M ⟨b3,o3,J⟩),l3,y3,a4,l4,y4,a5,l5,y5⟩ c.now c.vs t q.w (HR.v.below (HW.trans (q.b.mono HW.size))) HV.out HJ.out HNv.out);have ο:=@G _ @Lg;exact b_
  ·obtain rfl:vl=kq:=af
   have aoH:=@G _ @afG;exact fA):p:=h
theorem gn(h:p:=by
 obtain⟨b,o,n,rfl,hb,hx,Zc⟩:=dF (HR.n.below HB.out) Zo;obtain⟨va,vl,vc,Zx,z0,z1,c0,c1,c2,c3,c4,c5,c6⟩:=bo Zc;have HXn:=G hx;exact ao3):p:=h
theorem UB(h:p:=by
 have Zv:=G (λq:Wd wr=>fN ⟨(M ⟨b1,o1,J⟩),l1,y1,a2,l2,y2,(M ⟨b3,o3,J⟩),l3,y3,a4,l4,y4,(M ⟨b,o,J⟩),l5,y5⟩ c t q.w (HR.below (HW.trans (q.b.mono HW.size))) HX.out HV.out HNE.out HJ.out HD.out);have Zw:=@G _ @ajo;exact aB):p:=h
theorem UA(h:p:=by
 have Zv:=G (λq:Wd wr=>fN ⟨a1,l1,y1,a2,l2,y2,(M ⟨b3,o3,J⟩),l3,y3,a4,l4,y4,(M ⟨b,o,J⟩),l5,y5⟩ c t q.w (HR.below (HW.trans (q.b.mono HW.size))) HX.out HV.out HNE.out HJ.out HD.out);have ο:=@G _ @Le;exact b_):p:=h
theorem y8(h:p:=by
 have arq:=@G _ @I6;exact tB):p:=h
theorem Uf(h:p:=by
 have e50:=hf 50 ag;simp[Gi.slotFact,Yg] at e50;clear hf;obtain⟨o0,o1,o2,o3,o4,o5⟩:=cs6 ((hW.block b3 hor (λe=>by have:=(HO.lt _ e.symm).1;omega)).trans Bo.out);exact nQ):p:=h
theorem Ue(h:p:=by
 have e1:=hf 1 ag;simp[Gi.slotFact,Yg] at e1;clear hf;exact nQ):p:=h
theorem Ud(h:p:=by
 have e52:=hf 52 ag;simp[Gi.slotFact,Yg] at e52;clear hf;obtain⟨k0,k1,k2,k3,k4,k5⟩:=cs6 ((hW.block w.heap.size hkr (λe=>by have:=(HO.lt _ e.symm).1;omega)).trans BkR.out);exact nQ):p:=h
theorem Uc(h:p:=by
 have e6:=hf 6 ag;simp[Gi.slotFact,Yg] at e6;clear hf;exact nQ):p:=h
theorem Ub(h:p:=by
 have e53:=hf 53 ag;simp[Gi.slotFact,Yg] at e53;have e54:=hf 54 ag;simp[Gi.slotFact,Yg] at e54;clear hf;exact nQ):p:=h
theorem Ua(h:p:=by
 have e55:=hf 55 ag;simp[Gi.slotFact,Yg] at e55;clear hf;have c0g:=(World.cell?_of_block (hW.block b hbr (λe=>by have:=(HO.lt _ e.symm).1;omega))).trans c0;have c1g:=(World.cell?_of_block (hW.block b hbr (λe=>by have:=(HO.lt _ e.symm).1;omega))).trans c1;have c2g:=(World.cell?_of_block (hW.block b hbr (λe=>by have:=(HO.lt _ e.symm).1;omega))).trans c2;have c3g:=(World.cell?_of_block (hW.block b hbr (λe=>by have:=(HO.lt _ e.symm).1;omega))).trans c3;have c4g:=(World.cell?_of_block (hW.block b hbr (λe=>by have:=(HO.lt _ e.symm).1;omega))).trans c4;have c5g:=(World.cell?_of_block (hW.block b hbr (λe=>by have:=(HO.lt _ e.symm).1;omega))).trans c5;have c6g:=(World.cell?_of_block (hW.block b hbr (λe=>by have:=(HO.lt _ e.symm).1;omega))).trans c6;have c7g:=(World.cell?_of_block (hW.block b hbr (λe=>by have:=(HO.lt _ e.symm).1;omega))).trans c7;exact nQ):p:=h
theorem T_(h:p:=by
 have e56:=hf 56 ag;simp[Gi.slotFact,Yg] at e56;clear hf;have hBg:=ZH.grown hW ZH.size (λg hg=>by have:=(HO.lt g hg).1;omega);go_simp;refine (Ap.alI x.n x.c x.z x.k x.x x.m x.y va vl vc x.zs _ (HT.below hBg) hz8).mono ?_;rintro e w6 ⟨a',l',c',rfl,ho1,ho2,ZA⟩;have hws:=hW.size;exact hK _ _ (Rv.other ag ZA) ⟨a',l',c',rfl,bG.bC ⟨ho1,ho2⟩ (λk _ s=>Yo hws s)⟩):p:=h
theorem T9(h:p:=by
 have e57:=hf 57 ag;simp[Gi.slotFact,Yg] at e57;clear hf;obtain⟨a',l',c',e57,ho⟩:=e57;have HO7:=G ho;clear ho;go_simp;exact hK _ _ (Rv.other ag (aj _ _)) ⟨_,a',l',c',rfl,hW.size,Yf,HO7.below (aj _ _)⟩):p:=h
theorem ft(h:p:=by
 refine Gi.Obl.plain rfl ?_;intro ac wg K lo hi Zq hW hpr hf hap hK;clear Zq hap hpr;have hW:wr.grownBy wg v.ownBlock:=hW;exact aoL):p:=h
theorem T8(h:p:=by
 have Zv:=G (λq:Wd q1.w=>eZ ⟨a1,l1,y1,a2,l2,y2,(M ⟨b3,o3,J⟩),l3,y3,a4,l4,y4,(M ⟨b,o,J⟩),l5,y5⟩ c.now c.xs t q.w (HR.x.below (HW.trans (q.b.mono HW.size))) HX.out HG1.out HG2.out);exact PV):p:=h
theorem T7(h:p:=by
 have Zv:=G (λq:Wd q1.w=>eX ⟨a1,l1,y1,a2,l2,y2,(M ⟨b3,o3,J⟩),l3,y3,a4,l4,y4,(M ⟨b,o,J⟩),l5,y5⟩ c.now c.xs t q.w (HR.x.below (HW.trans (q.b.mono HW.size))) (λi x h1 h2=>HG.out ⟨i,x,h1,h2⟩));exact aiE):p:=h
theorem T6(h:p:=by
 have Zv:=G (λq:Wd q1.w=>eZ ⟨a1,l1,y1,a2,l2,y2,a3,l3,y3,a4,l4,y4,(M ⟨b,o,J⟩),l5,y5⟩ c.now c.xs t q.w (HR.x.below (HW.trans (q.b.mono HW.size))) HX.out HG1.out HG2.out);exact PV):p:=h
theorem T5(h:p:=by
 have Zv:=G (λq:Wd q1.w=>eX ⟨a1,l1,y1,a2,l2,y2,a3,l3,y3,a4,l4,y4,(M ⟨b,o,J⟩),l5,y5⟩ c.now c.xs t q.w (HR.x.below (HW.trans (q.b.mono HW.size))) (λi x h1 h2=>HG.out ⟨i,x,h1,h2⟩));exact aiE):p:=h
theorem T4(h:p:=by
 have Zv:=G (λq:Wd q1.w=>eX ⟨(M ⟨b1,o1,J⟩),l1,y1,a2,l2,y2,(M ⟨b3,o3,J⟩),l3,y3,a4,l4,y4,(M ⟨b,o,J⟩),l5,y5⟩ c.now c.xs t q.w (HR.x.below (HW.trans (q.b.mono HW.size))) (λi x h1 h2=>HG.out ⟨i,x,h1,h2⟩));exact xh):p:=h
theorem T3(h:p:=by
 have Zv:=G (λq:Wd q1.w=>eZ ⟨(M ⟨b1,o1,J⟩),l1,y1,a2,l2,y2,a3,l3,y3,a4,l4,y4,(M ⟨b,o,J⟩),l5,y5⟩ c.now c.xs t q.w (HR.x.below (HW.trans (q.b.mono HW.size))) HX.out HG1.out HG2.out);have ο:=@G _ @Lc;exact b_):p:=h
theorem T2(h:p:=by
 have Zv:=G (λq:Wd q1.w=>eX ⟨(M ⟨b1,o1,J⟩),l1,y1,a2,l2,y2,a3,l3,y3,a4,l4,y4,(M ⟨b,o,J⟩),l5,y5⟩ c.now c.xs t q.w (HR.x.below (HW.trans (q.b.mono HW.size))) (λi x h1 h2=>HG.out ⟨i,x,h1,h2⟩));exact xh):p:=h
theorem gj(h:p:=by
 have an0:=@G _ @EI;exact dP):p:=h
theorem T1(h:p:=by
 obtain⟨tw,vw,nw,hne0,Zv⟩:=ahQ;have Zw:=@G _ @ajn;exact aB):p:=h
theorem T0(h:p:=by
 obtain⟨tw,vw,nw,hne0,Zv⟩:=ahQ;have Zw:=@G _ @ajm;exact aB):p:=h
theorem TZ(h:p:=by
 exact arH):p:=h
theorem p_(h:p:=by
 have an0:=@G _ @EH;exact dP):p:=h
theorem TX(h:p:=by
 obtain⟨xa,xl,xc,Zx,z0,z2,z3,z5,d0,d1,d2,d3,d4,d5,d6,d7⟩:=bm Zc;have HJ:=G hj3;have HDb:=G ω;have hbv:=Yl Zy HB.size;have v0:=(ah HB.out Zy).trans d0;clear hv' Zc Zx z0 z2 z3 z5 d0 d1 d2 d3 d4 d5 d6 d7 hj3 ω Zy;by_cases Z6:InL n.zs v.n
 ·have arP:=@G _ @Ig;exact s_
 ·have arP:=@G _ @Ie;exact s_):p:=h
theorem TW(h:p:=by
 have HCn:=G d1;have HBn:=G aoP;have axN:decide ((j1:Int)<0)=Zg:=aF
 have hbn:=Yl aoP HB.size;have n1:=(ah HB.out aoP).trans d1;clear hn' Zc hnr z0 z1 d0 d1 d2 d3 d4 d5 d6 h1 h2 aoP;by_cases ZO:p.z=⟨#[]⟩
 ·have Τ:=cw ZO;have HPa:Hid (PSa c p):=Zk ⟨j1,n,HJn.out,HNn.out,Zl ZO⟩;clear ZO;have ap9:=@G _ @Kg;exact nq
 have Τ:=aU ZO;by_cases η:n.z=p.z
 ·have hq3:=aP η;have HPa:Hid (PSa c p):=Zk ⟨j1,n,HJn.out,HNn.out,Zk η⟩;clear ZO η;have ap9:=@G _ @Kf;exact nq
 ·have hq3:=bu η;have HZ0:=G ZO;have HZ1:=G η;clear ZO η;have ap9:=@G _ @Ke;exact nq):p:=h
theorem TU(h:p:=by
 have HCn:=G d1;have HBn:=G aoP;have axN:decide ((j1:Int)<0)=Zg:=aF
 clear hn' Zc hnr z0 z1 d0 d1 d2 d3 d4 d5 d6 h1 h2 aoP;have Gk:=Bk;have Gv:=Bv;have HW:=HB;obtain⟨k0,k1,k2,k3,k4,k5⟩:=sl6 Gk;have v7:=λq:Wd wr=>q.slot (o:=7) Gv.out rfl;obtain⟨tw,hne0⟩:=o7;have Zv:=G (λq:Wd wr=>fK ⟨(M ⟨b1,o1,J⟩),l1,y1,a2,l2,y2,(M ⟨b,o,J⟩),l3,y3,a4,l4,y4,a5,l5,y5⟩ c.now c.ns t q.w (HR.n.below (HW.trans (q.b.mono HW.size))) HNR.out HJn.out HNn.out);have ο:=@G _ @Lb;exact b_):p:=h
theorem TS(h:p:=by
 have e5:=(ah HB.out aoP).trans d5;have hbn:=Yl aoP HB.size;clear hn' Zc hnr z0 z1 d0 d1 d2 d3 d4 d5 d6 h1 h2 aoP ω;rcases Bool.eq_false_or_eq_true n.d with hd|hd
 ·have HDd:=G hd;rw[hd] at e5;clear hd;obtain⟨aq2,e5v⟩:=OS;obtain⟨Gk,Gr,HW⟩:=al7;obtain⟨k0,k1,k2,k3,k4,k5⟩:=sl6 Gk;obtain⟨r0,r1,r2,r3,r4,r5⟩:=sl6 Gr;obtain⟨nw,hne0,Zv⟩:=ah2;have Zw:=@G _ @ajr;exact aB
 ·by_cases hal:rG c p n
  ·have HAl:=G hal;clear hal;have HDd:=G hd;rw[hd] at e5;clear hd;obtain⟨aq2,e5v⟩:=OS;have HCA:Hid (∀q:Wd (wr.alloc (Ze #[I p.n,V O p.c,I p.z,U va vl vc,I p.d,V O 2] 102)),Calls Tryz.prog 115 #[Zj #[U (M ⟨b1,o1,J⟩) l1 y1,U a2 l2 y2,U a3 l3 y3,U a4 l4 y4,U (M ⟨b,o,J⟩) l5 y5,V O c.now],Zj #[I p.n,V O p.c,I p.z,U va vl vc,I p.d,V O 2]] q.w λe w'=>e=Zh (Zf Zi)/\Below q.w.heap.size q.w w'):=by
    intro q;have h0:=(mF ⟨(M ⟨b1,o1,J⟩),l1,y1,a2,l2,y2,a3,l3,y3,a4,l4,y4,(M ⟨b,o,J⟩),l5,y5⟩ c p va vl vc j1 n q.w (HR.below (HB.trans (((aj wr _).trans (q.b.mono aF)).mono HB.size))) HNR.out HX.out HV.out HNE.out (HTp.below ((aj wr _).trans (q.b.mono aF))) HJn.out HNn.out HBD.out).mono (λ_ _ h=>ar.yes h HAl.out);rw[HP2.out] at h0;exact h0
   have arQ:=@G _ @JR;exact tL
  ·have HAl:=G hal;clear hal;have HDd:=G hd;rw[hd] at e5;clear hd;obtain⟨aq2,e5v⟩:=OS;have HCA:Hid (∀q:Wd (wr.alloc (Ze #[I p.n,V O p.c,I p.z,U va vl vc,I p.d,V O 2] 102)),Calls Tryz.prog 115 #[Zj #[U (M ⟨b1,o1,J⟩) l1 y1,U a2 l2 y2,U a3 l3 y3,U a4 l4 y4,U (M ⟨b,o,J⟩) l5 y5,V O c.now],Zj #[I p.n,V O p.c,I p.z,U va vl vc,I p.d,V O 2]] q.w λe w'=>e=Zh (Zf Zg)/\Below q.w.heap.size q.w w'):=by
    intro q;have h0:=(mF ⟨(M ⟨b1,o1,J⟩),l1,y1,a2,l2,y2,a3,l3,y3,a4,l4,y4,(M ⟨b,o,J⟩),l5,y5⟩ c p va vl vc j1 n q.w (HR.below (HB.trans (((aj wr _).trans (q.b.mono aF)).mono HB.size))) HNR.out HX.out HV.out HNE.out (HTp.below ((aj wr _).trans (q.b.mono aF))) HJn.out HNn.out HBD.out).mono (λ_ _ h=>ar.no h HAl.out);rw[HP2.out] at h0;exact h0
   have arQ:=@G _ @JQ;exact tL):p:=h
theorem p8(h:p:=by
 have ap6:j1<l1:=by have h3:=(Yc.1 h1).1;omega
 obtain⟨b1,o1,n',rfl,aoP,hn',Zc⟩:=dF HR.n ap6;rw[h1] at hn';obtain rfl:=Yd hn';obtain⟨na,nl,nc,hnr,z0,z1,d0,d1,d2,d3,d4,d5,d6⟩:=bo Zc;have HJn:=G h1;have HNn:=G h2;exact arR):p:=h
theorem TF(h:p:=by
 replace c6:=(ah ZH.out hb0).trans c6;have hbr:=Yl hb0 ZH.size;have hkr:=ae BkR.out;have hor:=ae Bo.out;have hz:i1.zero=M (Zj #[I ⟨#[]⟩,I ⟨#[]⟩,V O 0,V O 0,V O 0,Zf Zg,U J 0 0])/\i1.size=7/\i1.bytes=88:=by have:=HI1.2;simp only[Prod.mk.injEq] at this;exact this
 have arS:=@G _ @KJ;exact tS):p:=h
theorem TE(h:p:=by
 have hbr:=Yl hb0 ZH.size;have hkr:=ae BkR.out;have hor:=ae Bo.out;have hz:i5.zero=M (Zj #[I ⟨#[]⟩,V O 0,I ⟨#[]⟩,U J 0 0,I ⟨#[]⟩,V O 0])/\i5.size=6/\i5.bytes=88:=by have:=HI5.2;simp only[Prod.mk.injEq] at this;exact this
 have arS:=@G _ @KI;exact tS):p:=h
theorem yX(h:p:=by
 have arT:=@G _ @En;exact su):p:=h
theorem iH(h:p:=by
 obtain⟨ZD,Ν,Zr⟩:=dK hb;obtain⟨Bk,Br⟩:=wX;replace HB:=upB HB Zr;clear hb Zr ZD Ν;exact apl):p:=h
theorem S9(h:p:=by
 obtain⟨ZW,Ck⟩:=lq;have Br:=upK Gr q1.b;clear hne0 HB k0 k1 k2 k3 k4 k5 r3 tw Bk pr3;obtain⟨HB,Bk,hc1,ZN,apx⟩:=al3;clear hc hb;exact aqN):p:=h
theorem S6(h:p:=by
 go_loopw [8] (λi wr=> ∃kz:Nat,kz<=k/\i=V O kz/\Hid (∀(j:Nat) q,j<kz->c.ps[j]?=M q->pM c q p)/\Hid (Below W2.heap.size W2 wr)) (λi _=>k - (intOf i).toNat);case atStart=>exact⟨0,by omega,rfl,λ_ _ h=>absurd h af,Yh _ _⟩
 case round=>
  have arU:=@G _ @Fa;exact sG):p:=h
theorem S5(h:p:=by
 go_loopw [8] (λi wr=> ∃kz:Nat,kz<=k/\i=V O kz/\Hid (∀(j:Nat) q,j<kz->c.ps[j]?=M q->pM c q p)/\Hid (Below W2.heap.size W2 wr)) (λi _=>k - (intOf i).toNat);case atStart=>exact⟨0,by omega,rfl,λ_ _ h=>absurd h af,Yh _ _⟩
 case round=>
  have arU:=@G _ @E_;exact sG):p:=h
theorem yP(h:p:=by
 obtain rfl:vl=kq:=af
 have HQb:Hid (PSb c p):=λj t ht=>ν.out j t (by have h1:=(Yc.1 ht).1;have h2:=HVL.out;omega) ht;have TV2:=G (TV.below ZH.out);have KV2:=Bk;have GV2:=Br;have BV2:=HB;clear Bk HB;obtain⟨W2,hW⟩:∃W2,W2=wr:=⟨_,rfl⟩;rw[<-hW] at KV2 GV2 BV2 TV2;go_wp2;clear pr3;rw[<-hW];clear hW;exact auA):p:=h
theorem yL(h:p:=by
 have ark:=@G _ @IS;exact tu):p:=h
theorem SL(h:p:=by
 obtain⟨⟨b3,h3,Zy,hg3⟩,⟨p2,q2,p4,q4,h19,hR2,hR4⟩,-⟩:=hf;obtain⟨t0,t1,t2,t3,t4,t5⟩:=cs6 hg3;have f0:=ak hg3 0;have f1:=ak hg3 1;have f2:=ak hg3 2;have f3:=ak hg3 3;have f4:=ak hg3 4;have f5:=ak hg3 5;have BoX:=G (anC (v0:=U J 0 0) (v1:=U p2 l2 q2) (v2:=U J 0 0) (v3:=U p4 l4 q4) (v4:=U J 0 0) (v5:=V O c.now) hg3);have HWX:Hid (Below W.heap.size W ((((((wz.setCell ⟨b3,0,J⟩ (U J 0 0)).setCell ⟨b3,1,J⟩ (U p2 l2 q2)).setCell ⟨b3,2,J⟩ (U J 0 0)).setCell ⟨b3,3,J⟩ (U p4 l4 q4)).setCell ⟨b3,4,J⟩ (U J 0 0)).setCell ⟨b3,5,J⟩ (V O c.now))):=ai Zy (ai Zy (ai Zy (ai Zy (ai Zy (ai Zy hW)))));have R2:Hid (av ((((((wz.setCell ⟨b3,0,J⟩ (U J 0 0)).setCell ⟨b3,1,J⟩ (U p2 l2 q2)).setCell ⟨b3,2,J⟩ (U J 0 0)).setCell ⟨b3,3,J⟩ (U p4 l4 q4)).setCell ⟨b3,4,J⟩ (U J 0 0)).setCell ⟨b3,5,J⟩ (V O c.now)) p2 l2 q2 4 72 (c.ks.map kdF) (λk=>W.heap.size<=k/\¬k=b3)):=(hR2.dZ hg3 ag ag).ay (λk hk s=>gB s.2) (λk _ s=>s);have R4:Hid (av ((((((wz.setCell ⟨b3,0,J⟩ (U J 0 0)).setCell ⟨b3,1,J⟩ (U p2 l2 q2)).setCell ⟨b3,2,J⟩ (U J 0 0)).setCell ⟨b3,3,J⟩ (U p4 l4 q4)).setCell ⟨b3,4,J⟩ (U J 0 0)).setCell ⟨b3,5,J⟩ (V O c.now)) p4 l4 q4 5 47 (c.xs.map xdF) (λk=>W.heap.size<=k/\¬k=b3)):=(hR4.dZ hg3 ag ag).ay (λk hk s=>gB s.2) (λk _ s=>s);clear hg3 hR2 hR4 hW;intro K hK;rw[if_pos cF];simp only[aL,YQ,Y0,Yr,Yx,Yy,h3,h19];have amW:=@G _ @abr;exact cQ):p:=h
theorem iG(h:p:=by
 refine Grow.done ?_;intro q wz hW hf;simp only[YL] at hf;exact apm):p:=h
theorem Oa(h:p:=by
 have HI1:=G hi;clear hi;cases r
 ·exact Q4
 obtain⟨k0,k1,k2,k3,k4,k5⟩:=cs6 Bk;go_wp2_with fail;exact auL):p:=h
theorem uJ(h:p:=by
 have arl:=@G _ @Ix;exact tj):p:=h
theorem NT(h:p:=by
 rcases (h.1 k p HXp.out).1 with h2|⟨i,n,h2,h3,_⟩
 ·exact HEm.out h2
 ·exact HH.out i n h2 h3):p:=h
theorem NS(h:p:=by
 obtain⟨i,n,h2,h3,_⟩:=(h.1 k v HXv.out) kq t HXt.out;exact HH.out ⟨i,n,h2,h3⟩):p:=h
theorem NR(h:p:=by
 obtain⟨i,m2,e1,e2,e3⟩:=(h.1 k v HXv.out) kq t HXt.out;obtain⟨_,rfl⟩:=HNR.inj e1 HJn.out (e2.trans HNn.symm);exact HZ.out e3):p:=h
theorem NQ(h:p:=by
 obtain⟨i,v,h2,h3,_⟩:=(h.1 k n HXn.out) kq t HXt.out;exact HH.out ⟨i,v,h2,h3⟩):p:=h
theorem NP(h:p:=by
 have h9:=(h.1 k p HXp.out).2.1 kq t HXt.out;rcases h9.2 with h2|⟨v',i,n',h2,h3,h4,h5⟩
 ·exact HEm.out h2
 ·obtain rfl:=aX.inj HX.out HV.out HD.out h2;obtain⟨_,rfl⟩:=HNR.inj h3 HJn.out (h4.trans HNn.symm);exact HZ.out h5):p:=h
theorem NO(h:p:=by
 have h9:=(h.1 k p HXp.out).2.1 kq t HXt.out;exact HG.out h9.1):p:=h
theorem NN(h:p:=by
 obtain⟨i,v2,e1,e2,e3⟩:=(h.1 k n HXn.out) kq t HXt.out;obtain⟨_,rfl⟩:=HV.inj e1 HJ.out (e2.trans HNv.symm);rcases e3 with e3|e3
 ·rw[HDd.out] at e3;cases e3
 ·exact HIn.out e3):p:=h
theorem NI(h:p:=by
 exact amW):p:=h
theorem j8(h:p:=by
 simp only[List.getLast];go_simp;refine hK _ _ ?_;refine hK0 _ _ ?_;clear hK hK0 K K0;exact apz):p:=h
theorem ND(h:p:=by
 have HC:Hid (∀(j:Nat) u,(zs.map Yn)[j]?=M u->∃g o9,a=M ⟨g,o9,J⟩/\g<w.heap.size/\w.cell? ⟨g,o9+j,J⟩=M u):=λj u hu=>by
  exact ak6
 have HZS:Hid (∀(k j:Nat) z,(zs.take k++[t]++zs.drop k)[j]?=M z->z.size<=9223372036854775807):=λk j z hz=>by
  exact ak_
 obtain⟨HON,HW⟩:=akA;clear hr;go_enter Tryz.func146,Tryz.ntmps146;go_wp2;exact auM):p:=h
theorem ie(h:p:=by
 have Y_:=G (Yb hi (Yb ZO (Yb η ZP)));clear hi ZO η ZP;exact ao2):p:=h
theorem Ny(h:p:=by
 by_cases e:j=kq
 ·subst e;rw[HXt.out] at hs;obtain rfl:=Yd hs;exact⟨⟨i4,x4,HG1.out,HG2.out⟩,Zk ⟨v,j1,n,HD.out,HJn.out,HNn.out,HZ.out⟩⟩
 ·exact ν.out j s af hs):p:=h
theorem Nx(h:p:=by
 by_cases e:j=kq
 ·exact akW
 ·exact ν.out j s af hs):p:=h
theorem Nw(h:p:=by
 exact arF):p:=h
theorem nD(h:p:=by
 go_wp2_with fail;refine⟨⟨kq+1,by omega,by go_num,λj s hj hs=>?_,apx.trans (q2.b.mono apx.size)⟩,by simp[intOf];omega⟩;exact ap8):p:=h
theorem MC(h:p:=by
 have an3:=@G _ @abI;exact dI):p:=h
theorem MB(h:p:=by
 exact auD):p:=h
theorem uu(h:p:=by
 refine wpQuiet_nil ?_;rintro _ ⟨q1,rfl⟩;obtain⟨ZW,Ck⟩:=lq;clear hne0 HB k0 k1 k2 k3 k4 k5 r0 r1 r2 r3 r4 r5 nw Bk pk hb hbn e5 aq2 e5v c0 c1 c2 c3 c4 c5;have HB:=ZW;have Bk:=Ck;exact arG):p:=h
theorem Mo(h:p:=by
 have Zv:=G (λq:Wd wr=>gi ⟨(M ⟨b1,o1,J⟩),l1,y1,a2,l2,y2,a3,l3,y3,a4,l4,y4,(M ⟨b,o,J⟩),l5,y5⟩ c t q.w (HR.below (HW.trans (q.b.mono HW.size))) HX.out HV.out HNE.out HD.out);have Zw:=@G _ @ajl;exact aB):p:=h
theorem Mn(h:p:=by
 have Zv:=G (λq:Wd wr=>gi ⟨a1,l1,y1,a2,l2,y2,a3,l3,y3,a4,l4,y4,(M ⟨b,o,J⟩),l5,y5⟩ c t q.w (HR.below (HW.trans (q.b.mono HW.size))) HX.out HV.out HNE.out HD.out);have ο:=@G _ @La;exact b_):p:=h
theorem ui(h:p:=by
 have HD:=G ω;clear ω;have an0:=@G _ @EG;exact dP):p:=h
theorem Me(h:p:=by
 rintro _ ⟨q2,rfl⟩;obtain⟨ZX,Ck⟩:=i_;have Bv:=upK Gv q2.b;clear hne0 HB k2 v0 v2 v5 v6 vw Bk hbv v7;have HB:=ZX;have Bk:=Ck;have arF:=@G _ @aac;exact qp):p:=h
theorem LN(h:p:=by
 have ap_:=@G _ @G6;exact mY):p:=h
theorem LM(h:p:=by
 replace R1:=G (R1.ay (λk hk s=>HK.block k hk (λq9=>by rcases q9 with q9|q9;exact s.2 q9;omega)) (λ_ _ s=>s));have ap_:=@G _ @GZ;exact mY):p:=h
theorem LL(h:p:=by
 replace R1:=G (R1.ay (λk hk s=>HK.block k hk (λq9=>by rcases q9 with q9|q9;exact s.2 q9;omega)) (λ_ _ s=>s));replace R3:=G (R3.ay (λk hk s=>HK.block k hk (λq9=>by rcases q9 with q9|q9;exact s.2 q9;omega)) (λ_ _ s=>s));have ap_:=@G _ @GY;exact mY):p:=h
theorem nu(h:p:=by
 replace R2:=G (R2.ay (λk hk s=>HK.block k hk (λq9=>by rcases q9 with q9|q9;exact s.2 q9;omega)) (λ_ _ s=>s));replace R4:=G (R4.ay (λk hk s=>HK.block k hk (λq9=>by rcases q9 with q9|q9;exact s.2 q9;omega)) (λ_ _ s=>s));exact ap7):p:=h
theorem Lh(h:p:=by
 have arV:=@G _ @E7;exact sE):p:=h
theorem Lg(h:p:=by
 have aoY:=@G _ @GW;exact h_):p:=h
theorem Lf(h:p:=by
 have aoY:=@G _ @GU;exact h_):p:=h
theorem Le(h:p:=by
 have aqN:=@G _ @abd;exact lV):p:=h
theorem Lc(h:p:=by
 have arN:=@G _ @EZ;exact sC):p:=h
theorem Lb(h:p:=by
 have arV:=@G _ @E6;exact sE):p:=h
theorem La(h:p:=by
 have aqN:=@G _ @abc;exact lV):p:=h
theorem KJ(h:p:=by
 have π:Below wr.heap.size wr ((w2.setCell ⟨wr.heap.size,6,J⟩ (U a' l' c')).alloc (Ze (nov x a' l' c') 81)):=(ai (Ye _) Zr).alloc nG _;have HF4:Hid (LFr ((w2.setCell ⟨wr.heap.size,6,J⟩ (U a' l' c')).alloc (Ze (nov x a' l' c') 81)) g (λk=>X.heap.size<=k) x.zs (U a' l' c')):=hg.ay (λcu _ q=>(Yj _ _ _ (by simp[YV];exact ae q)).trans (Ya _ _ _ _ (λe=>by subst e;rw[hn2] at q;cases q))) (λ_ s=>by have:=hsl _ s;show X.heap.size<=g;omega);obtain⟨HG,HB4,HO4⟩:=OZ;obtain⟨n0,n1,n2,n3,n4,n5,n6⟩:=cs7 hn2;have fn3:=ak hn2 3;have fn6:=ak hn2 6;have bo2:=(Zr.block _ hor).trans Bo.out;obtain⟨o0,o1,o2,o3,o4,o5⟩:=cs6 bo2;clear hn2 Zr hT2 hg ZG hsl π bo2 k0 k1 k2 k3 k4 k5 c0 c1 c2 c3 c4 c5 c6;go_wp2_with (first|(at_builtin;refine wpList_append_own _ rfl _ _ 23 rfl X.heap.size 81 i1 (Zj #[I ⟨#[]⟩,I ⟨#[]⟩,V O 0,V O 0,V O 0,Zf Zg,U J 0 0]) 7 88 Tryz.underlying23 HI1.1 hz.1 hz.2.1 hz.2.2 rfl ag _ _ _ rfl HO4.out ⟨w2.heap.size,0,J⟩ 1 1 [I x.n,I x.z,V O x.c,V O x.s,V O x.u,Zf x.d,U a' l' c'] rfl rfl ?c1 ?c2 ?c3 ?c4 ?c5 ?_));case c1=>exact jb _ _ oR _ _
 case c2=>intro u hu;simp only[YT,List.not_mem_nil,or_false] at hu;rcases hu with rfl|rfl|rfl|rfl|rfl|rfl|rfl <;> rfl
 case c3=>unfold maxLen;have:=HS.n;omega
 case c4=>have:=HS.n;omega
 case c5=>simp[YV];omega
 rintro v' w5 aa ZC -;obtain⟨v1',v2',v3',rfl⟩:=az aa;clear n0 n1 n2 n3 fn3 n4 n5 n6 fn6 o0 o1 o2 o3 o4 o5;have bo5:=yk HO.out Bo.out awE HB4.out ZC;obtain⟨hs1,hs2',⟨H',hs3⟩,hs4⟩:=Bj (f:=0) (r:=ndF x) (vs:=[I x.n,I x.z,V O x.c,V O x.s,V O x.u,Zf x.d,U a' l' c']) (hh:=g) HK.out HO.out HV.out Bo.out awE HB4.out aa ZC ag ag ag rfl rfl (aiI aoy.out avW.out HF4.out) (λi zs hi hz=>HG.out zs (B5 hi).2.symm hz) (λi i' zs ZB h1 _ h2 _=>(B5 h1).1.trans (B5 h2).1.symm);have e1:(c.ns.take (k+1)).map ndF=(c.ns.take k).map ndF++[ndF x]:=by rw[YM,HX.out];simp
 exact ah7):p:=h
theorem KI(h:p:=by
 have π:Below wr.heap.size wr ((w2.setCell ⟨wr.heap.size,3,J⟩ (U a' l' c')).alloc (Ze (pov x a' l' c') 102)):=(ai (Ye _) Zr).alloc nG _;have HF4:Hid (LFr ((w2.setCell ⟨wr.heap.size,3,J⟩ (U a' l' c')).alloc (Ze (pov x a' l' c') 102)) g (λk=>X2.heap.size<=k) x.zs (U a' l' c')):=hg.ay (λcu _ q=>(Yj _ _ _ (by simp[YV];exact ae q)).trans (Ya _ _ _ _ (λe=>by subst e;rw[hn2] at q;cases q))) (λ_ s=>by have:=hsl _ s;show X2.heap.size<=g;omega);obtain⟨HG,HB4,HO4⟩:=OZ;obtain⟨n0,n1,n2,n3,n4,n5⟩:=cs6 hn2;have fn3:=ak hn2 3;have bo2:=(Zr.block _ hor).trans Bo.out;obtain⟨o0,o1,o2,o3,o4,o5⟩:=cs6 bo2;clear hn2 Zr hT2 hg ZG hsl π bo2 k0 k1 k2 k3 k4 k5 c0 c1 c2 c3 c4 c5;go_wp2_with (first|(at_builtin;refine wpList_append_own _ rfl _ _ 27 rfl X2.heap.size 102 i5 (Zj #[I ⟨#[]⟩,V O 0,I ⟨#[]⟩,U J 0 0,I ⟨#[]⟩,V O 0]) 6 88 Tryz.underlying27 HI5.1 hz.1 hz.2.1 hz.2.2 rfl ag _ _ _ rfl HO4.out ⟨w2.heap.size,0,J⟩ 1 1 [I x.n,V O x.c,I x.z,U a' l' c',I x.d,V O x.p] rfl rfl ?c1 ?c2 ?c3 ?c4 ?c5 ?_));case c1=>exact jb _ _ oR _ _
 case c2=>intro u hu;simp only[YT,List.not_mem_nil,or_false] at hu;rcases hu with rfl|rfl|rfl|rfl|rfl|rfl <;> rfl
 case c3=>unfold maxLen;have:=HS.p;omega
 case c4=>have:=HS.p;omega
 case c5=>simp[YV];omega
 rintro v' w5 aa ZC -;obtain⟨v1',v2',v3',rfl⟩:=az aa;clear n0 n1 n2 n3 fn3 n4 n5 o0 o1 o2 o3 o4 o5;have bo5:=yk HO.out Bo.out auN HB4.out ZC;obtain⟨hs1,hs2',⟨H',hs3⟩,hs4⟩:=Bj (f:=4) (r:=pdF x) (vs:=[I x.n,V O x.c,I x.z,U a' l' c',I x.d,V O x.p]) (hh:=g) HK.out HO.out HV.out Bo.out auN HB4.out aa ZC ag ag ag rfl rfl (aiH aoy.out aqa.out avX.out HF4.out) (λi zs hi hz=>HG.out zs (B2 hi).2.symm hz) (λi i' zs ZB h1 _ h2 _=>(B2 h1).1.trans (B2 h2).1.symm);have e1:(c.ps.take (k+1)).map pdF=(c.ps.take k).map pdF++[pdF x]:=by rw[YM,HX.out];simp
 exact ah7):p:=h
theorem tS(h:p:=by
 obtain⟨k0,k1,k2,k3,k4,k5⟩:=cs6 BkR;go_wp2_with (first|(at_builtin;refine pQ rfl _ _ rfl (wr.heap.size+1) rfl (cL _ _ _) va vl vc rfl x.zs (HT.below (ZH.trans ((aM _ _ _).mono ZH.size))) hz8 ?_));intro a' l' c' w2 hT2 ZG;obtain⟨hn2,-,Zr⟩:=SA ZG;obtain⟨g,hg⟩:=hT2.fr;obtain⟨hs2,hsl⟩:=akx;exact arS):p:=h
theorem KG(h:p:=by
 refine (jz ⟨a1,l1,y1,a2,l2,y2,a3,l3,y3,a4,l4,y4,(M ⟨b,o,J⟩),l5,y5⟩ c.now c.ns p.d _ (HR.n.below (HB.trans ((aj _ _).mono HB.size)))).mono ?_;have ap4:=@G _ @Ha;exact mZ):p:=h
theorem ff(h:p:=by
 have anZ:=@G _ @FL;exact dQ):p:=h
theorem Ks(h:p:=by
 refine Grow.step (EmF W.heap.size 72) rfl (EmF.mono _ _) ?_ ?_
 ·exact lx
 refine Grow.aK ?_;refine Grow.aO Bk.out ?_;refine Grow.step (RwF W.heap.size l2 4 72 (c.ks.map kdF)) rfl (RwF.mono _ _ _ _ _) ?_ ?_
 ·have arW:=@G _ @Fs;exact sM
 refine Grow.step (EmF W.heap.size 47) rfl (EmF.mono _ _) ?_ ?_
 ·exact lx
 refine Grow.aK ?_;refine Grow.aO Bk.out ?_;refine Grow.step (RwF W.heap.size l4 5 47 (c.xs.map xdF)) rfl (RwF.mono _ _ _ _ _) ?_ ?_
 ·refine Obl.plain rfl ?_;intro ac wg K Zq hW hf hK;clear Zq;have e13:=hf 13 ag;simp[slotFact,Yg] at e13;have e15:=hf 15 ag;simp[slotFact,Yg] at e15;clear hf;obtain⟨b0,e13,hB0,hg0⟩:=e13;have hz:i4.zero=M (Zj #[I ⟨#[]⟩,V O 0,I ⟨#[]⟩,Zf Zg,I ⟨#[]⟩])/\i4.size=5/\i4.bytes=64:=by have:=HI4.2;simp only[Prod.mk.injEq] at this;exact this
  refine rJ (.tmp 13) (.tmp 15) 26 47 rfl i4 (Zj #[I ⟨#[]⟩,V O 0,I ⟨#[]⟩,Zf Zg,I ⟨#[]⟩]) Tryz.underlying26 HI4.1 hz.1 hz.2.1 hz.2.2 rfl ag ag (by simpa[Act.eval] using e13) hg0 (by simpa[Act.eval] using e15) (HR.x.below (HB.trans (hW.mono HB.size))) (ki yy _) (show l4<=8 by have:=HS.x;omega) ag ?_;exact QE
 refine Grow.aK ?_;refine Grow.aO Bk.out ?_;refine Grow.step (CpF W.heap.size l2 l4 c) rfl (CpF.mono _ _ _ _) ?_ ?_
 ·have aqb:=@G _ @D4;exact mK
 refine Grow.step (FrF W.heap.size) rfl (FrF.mono _) ?_ ?_
 ·exact lx
 have apm:=@G _ @SL;exact iG):p:=h
theorem Kr(h:p:=by
 refine Grow.aK ?_;refine Grow.aO GK.out ?_;refine Grow.aO GK.out ?_;refine Grow.aK ?_;refine Grow.aO GP.out ?_;refine' Grow.stepC (V O j1) rfl ?_ ?_
 ·have arW:=@G _ @Fq;exact sM
 refine Grow.aK ?_;refine' Grow.stepC _ rfl ?_ ?_;rotate_left 1
 ·refine Obl.plain rfl ?_;intro ac wg K Zq hW hf hK;clear Zq;have e13:=hf 13 ag;simp[slotFact,Yg] at e13;clear hf;have hBg:=BW.trans (hW.mono BW.size);obtain⟨d0,d1,d2,d3,d4,d5,d6⟩:=HD.out;have g0:=(ah hBg HBn.out).trans d0;have g1:=(ah hBg HBn.out).trans d1;have g2:=(ah hBg HBn.out).trans d2;have g3:=(ah hBg HBn.out).trans d3;have g4:=(ah hBg HBn.out).trans d4;have g5:=(ah hBg HBn.out).trans d5;have g6:=(ah hBg HBn.out).trans d6;clear d0 d1 d2 d3 d4 d5 d6 hBg;exact dE
 refine Grow.step (rB W) rfl (rB.mono W) ?_ ?_
 ·exact lx
 refine Grow.done ?_;intro q wz hW hf;simp only[YL] at hf;obtain⟨⟨g5,h5,hbW,Δ⟩,h14,-⟩:=hf;have r0:=ck0 Δ;have r1:=ck1 Δ;have r2:=ck2 Δ;have r3:=ck3 Δ;have r4:=ck4 Δ;have r5:=ck5 Δ;have r6:=ck6 Δ;have f0:=ak Δ 0;have f1:=ak Δ 1;have f2:=ak Δ 2;have f3:=ak Δ 3;have f4:=ak Δ 4;have f5:=ak Δ 5;have f6:=ak Δ 6;have GN:=G (amH (v0:=I n.n) (v1:=I n.z) (v2:=V O n.c) (v3:=V O n.s) (v4:=V O n.u) (v5:=Zf n.d) (v6:=U na nl nc) Δ);have BN:=G (wG (v0:=I n.n) (v1:=I n.z) (v2:=V O n.c) (v3:=V O n.s) (v4:=V O n.u) (v5:=Zf n.d) (v6:=U na nl nc) hbW hW);clear Δ hW;intro K hK;rw[if_pos cF];simp only[aL,YQ,Y0,Yr,Yx,Yy,h5,h14];simp only[List.getLast];go_simp;refine hK _ _ ?_;refine hK0 _ _ ?_;clear hK hK0 K K0;generalize (((((((wz.setCell ⟨g5,0,J⟩ (I n.n)).setCell ⟨g5,1,J⟩ (I n.z)).setCell ⟨g5,2,J⟩ (V O n.c)).setCell ⟨g5,3,J⟩ (V O n.s)).setCell ⟨g5,4,J⟩ (V O n.u)).setCell ⟨g5,5,J⟩ (Zf n.d)).setCell ⟨g5,6,J⟩ (U na nl nc))=Y at GN BN ⊢;clear r0 f0 r1 f1 r2 f2 r3 f3 r4 f4 r5 f5 r6 f6;have KV:=upK GK BN.out;have PVv:=upK GP BN.out;have BV:=G (BW.trans (BN.mono BW.size));clear BN hbW;have pp:=ck3 PVv;go_wp2;clear pp;go_loopw [6] (λi wr=> ∃k:Nat,k<=pl/\i=V O k/\Hid (∀(j:Nat) t,j<k->p.zs[j]?=M t->∃v,aX c t v/\InL n.zs v.n)/\Hid (Below Y.heap.size Y wr)) (λi _=>pl - (intOf i).toNat);case atStart=>exact⟨0,by omega,rfl,λ_ _ h=>absurd h af,Yh _ _⟩
 case round=>
  obtain⟨k,hk,rfl,HQ,HBY⟩:=hrel;have HB:=G (BV.trans (HBY.mono BV.size));have Bk:=upK KV HBY.out;have Bp:=upK PVv HBY.out;have Bn:=upK GN HBY.out;have pp:=ck3 Bp;by_cases Zo:k<pl
  ·obtain⟨b,o,t,rfl,hb,hxt,hc,Zq⟩:=(HP.below HB.out).at Zo;have HXt:=G hxt;clear hxt Zq;obtain⟨v,ω⟩:=HBD.out k t HXt.out;have aur:=@G _ @TX;exact yY
  ·exact QB):p:=h
theorem dC(h:p:=by
 rename_i K0 hK0;refine bS aW rfl rfl aW ?_;exact ang):p:=h
theorem Ki(h:p:=by
 by_cases hp2:p.p=2;rotate_left
 ·have HP2:=G hp2;have hp3:(p.p==2)=Zg:=by simpa using hp2
  have Gk:Hid ((wr.alloc (Ze #[I p.n,V O p.c,I p.z,U va vl vc,I p.d,V O p.p] 102)).heap[w.heap.size]?=M (Ze (Zd a1 l1 y1 a2 l2 y2 a3 l3 y3 a4 l4 y4 (M ⟨b,o,J⟩) l5 y5 c.now) 29 (0,0))):=(Yj _ _ _ (ae Bk.out)).trans (Bk.out);have Gr:Hid ((wr.alloc (Ze #[I p.n,V O p.c,I p.z,U va vl vc,I p.d,V O p.p] 102)).heap[wr.heap.size]?=M (Ze #[I p.n,V O p.c,I p.z,U va vl vc,I p.d,V O p.p] 102 (0,0))):=Yf;have HW:Hid (Below w.heap.size w (wr.alloc (Ze #[I p.n,V O p.c,I p.z,U va vl vc,I p.d,V O p.p] 102))):=(HB.trans ((aj _ _).mono HB.size));obtain⟨k0,k1,k2,k3,k4,k5⟩:=sl6 Gk;obtain⟨r0,r1,r2,r3,r4,r5⟩:=sl6 Gr;have hne0:=Wd.ne (wr.alloc (Ze #[I p.n,V O p.c,I p.z,U va vl vc,I p.d,V O p.p] 102));have z1z:=@G _ @akk;exact bF
 have HP2:=G hp2;obtain⟨⟨j1,n,h1,h2⟩,ω⟩:=axM.out k p HXp.out hp2;rw[hp2] at c5;clear hp2;have HBD:=G ω;have arR:=@G _ @TS;exact p8):p:=h
theorem tQ(h:p:=by
 have arK:=@G _ @FA;exact sN):p:=h
theorem Kg(h:p:=by
 have z1z:=@G _ @aks;exact bF):p:=h
theorem Kf(h:p:=by
 have z1z:=@G _ @akr;exact bF):p:=h
theorem Ke(h:p:=by
 have z1z:=@G _ @akq;exact bF):p:=h
theorem nq(h:p:=by
 have aqc:=@G _ @DD;exact mJ):p:=h
theorem J9(h:p:=by
 go_loopw [6] (λi wr=> ∃kq:Nat,kq<=vl/\i=V O kq/\Hid (∀(j:Nat) t,j<kq->p.zs[j]?=M t->alA c p t)/\Hid (Below W.heap.size W wr)) (λi _=>vl - (intOf i).toNat);case atStart=>exact⟨0,by omega,rfl,λ_ _ h=>absurd h af,Yh _ _⟩
 case round=>
  obtain⟨kq,hkq,rfl,ν,ZH⟩:=hrel;obtain⟨HB,Bk⟩:=uU;have Br:=upK GV ZH.out;have pr3:=ck3 Br;by_cases aob:kq<vl
  ·exact anA
  ·exact anz):p:=h
theorem J8(h:p:=by
 go_loopw [6] (λi wr=> ∃kq:Nat,kq<=vl/\i=V O kq/\Hid (∀(j:Nat) t,j<kq->p.zs[j]?=M t->alA c p t)/\Hid (Below W.heap.size W wr)) (λi _=>vl - (intOf i).toNat);case atStart=>exact⟨0,by omega,rfl,λ_ _ h=>absurd h af,Yh _ _⟩
 case round=>
  obtain⟨kq,hkq,rfl,ν,ZH⟩:=hrel;obtain⟨HB,Bk⟩:=uU;have Br:=upK GV ZH.out;have pr3:=ck3 Br;by_cases aob:kq<vl
  ·obtain⟨b2,o2,t,rfl,hb,hxt,hc,Zq⟩:=(TV.below ZH.out).at aob;have HXt:=G hxt;clear hxt Zq;have aof:(∃v,aX c t v)\/(∀v,¬aX c t v):=by
    exact Q1
   rcases aof with ⟨v,ω⟩|ω
   ·have auz:=@G _ @UA;exact y8
   ·have arB:=@G _ @Mn;exact ui
  ·have auA:=@G _ @S5;exact yP):p:=h
theorem tP(h:p:=by
 obtain⟨gb,Δ⟩:∃gb,gb=wr.heap.size:=⟨_,rfl⟩;rw[<-Δ] at Br;have pr3:=ck3 Br;rw[Δ] at pr3;go_wp2;rw[<-Δ];clear pr3 Δ;have KV:=Bk;have GV:=Br;have BV:=HB;have TV:=HTp;clear Bk HB;obtain⟨W,hW⟩:∃W,W=q0.w:=⟨_,rfl⟩;rw[<-hW] at KV GV BV TV ⊢;clear hW;exact arC):p:=h
theorem JR(h:p:=by
 have Zw:=@G _ @ajq;exact aB):p:=h
theorem JQ(h:p:=by
 have Zw:=@G _ @ajp;exact aB):p:=h
theorem tL(h:p:=by
 obtain⟨Gk,Gr,HW⟩:=al7;obtain⟨k0,k1,k2,k3,k4,k5⟩:=sl6 Gk;obtain⟨r0,r1,r2,r3,r4,r5⟩:=sl6 Gr;obtain⟨nw,hne0,Zv⟩:=ah2;have μ:=G (λq:Wd (wr.alloc (Ze #[I p.n,V O p.c,I p.z,U va vl vc,I p.d,V O 2] 102))=>HCA.out q);exact arQ):p:=h
theorem nk(h:p:=by
 rename_i K0 hK0;refine Gt.bS aW rfl rfl aW ?_;refine Grow.aK ?_;exact aqd):p:=h
theorem Ju(h:p:=by
 by_cases hpr:pM c pq p
 ·have auJ:=@G _ @adZ;exact Aq
 ·have auJ:=@G _ @adY;exact Aq):p:=h
theorem Jt(h:p:=by
 by_cases hpr:pM c pq p
 ·have HPr:=G hpr;clear hpr;have arH:=@G _ @aa6;exact qu
 ·have HPr:=G hpr;clear hpr;have arH:=@G _ @aa5;exact qu):p:=h
theorem tH(h:p:=by
 obtain⟨b',o',pq,e',χ,hqq,awG⟩:=db (HR.p.below HB.out) (show kz<l5 by omega);cases e';obtain⟨qa,ql,qc,hqr,z0,z2,z4,d0,d1,d2,d3,d4,d5⟩:=bK awG;have HXq:=G hqq;have HTq:=G hqr;clear awG hqq hqr z0 z2 z4;exact arX):p:=h
theorem Jn(h:p:=by
 refine (pS d c _ (HR.below HB.out) ZQ.1.2.2 ZQ.2.2.2.1.2.2 ZQ.2.2.1.2.2 ZQ.ne (running ZQ.out HPl.out)).mono ?_;rintro e w6 ⟨r,rfl,hi,hb⟩;have an1:=@G _ @Hr;exact dR):p:=h
theorem tF(h:p:=by
 rintro e w5 ⟨r,rfl,hi,hb⟩;have an1:=@G _ @Hq;exact dR):p:=h
theorem Jj(h:p:=by
 exact apn):p:=h
theorem fQ(h:p:=by
 obtain⟨k0,k1,k2,k3,k4,k5⟩:=cs6 Bk;obtain⟨p0,p1,p2,p3,p4,p5⟩:=cs6 Bp;exact aoz):p:=h
theorem I6(h:p:=by
 obtain⟨xa,xl,xc,Zx,z0,z2,z3,z5,d0,d1,d2,d3,d4,d5,d6,d7⟩:=bm Zc;have HJ:=G hj3;have HD:=G ω;have HC2:=G d2;have Z7:=G Zy;have awF:decide ((j3:Int)<0)=Zg:=aF
 clear hv' Zc Zx z0 z2 z3 z5 d0 d1 d2 d3 d4 d5 d6 d7 hj3 ω Zy;have an0:=@G _ @EF;exact dP):p:=h
theorem IS(h:p:=by
 exact auO):p:=h
theorem Ix(h:p:=by
 exact arY):p:=h
theorem Iw(h:p:=by
 go_wp2;clear pk;go_loopw [7] (λi wr=> ∃k:Nat,k<=l1/\i=V O k/\Hid (∀(j:Nat) n,j<k->c.ns[j]?=M n->onOf n.n c.vs<=n.s)/\Hid (Below w.heap.size w wr)/\Hid (wr.heap[w.heap.size]?=M (Ze (Zd a1 l1 y1 a2 l2 y2 a3 l3 y3 a4 l4 y4 a5 l5 y5 c.now) 29 (0,0)))) (λi _=>l1 - (intOf i).toNat);case atStart=>exact⟨0,by omega,rfl,λ_ _ h=>absurd h af,HB.out,Bk.out⟩
 case round=>
  obtain⟨k,hk,rfl,HQ,HB,Bk⟩:=hrel;have pk:=ck0 Bk;by_cases Zo:k<l1
  ·have ao3:=@G _ @UI;exact gn
  ·exact QF):p:=h
theorem th(h:p:=by
 obtain rfl:l3=k:=af
 have HQ1:Hid (∀(j:Nat) z,c.vs[j]?=M z->AQ1 c z):=λj z hz=>HQ.out j z dO hz;exact arZ):p:=h
theorem Ig(h:p:=by
 have μ:=G (λq:Wd wr=>(bZ na nl nc n.zs v.n q.w (HTn.below (HW.trans (q.b.mono HW.size)))).mono (λ_ _ h=>ar.yes h HIn.out));have Zw:=@G _ @ajv;exact aB):p:=h
theorem Ie(h:p:=by
 have μ:=G (λq:Wd wr=>(bZ na nl nc n.zs v.n q.w (HTn.below (HW.trans (q.b.mono HW.size)))).mono (λ_ _ h=>ar.no h HIn.out));have Zw:=@G _ @aju;exact aB):p:=h
theorem s_(h:p:=by
 have HIn:=G Z6;clear Z6;have Gk:=Bk;have Gp:=Bp;have Gn:=Bn;have HW:=HB;obtain⟨k0,k1,k2,k3,k4,k5⟩:=sl6 Gk;obtain⟨p3,n6,tw,vw,hne0,Zv⟩:=amc;exact arP):p:=h
theorem Ht(h:p:=by
 have HI3:=G hi;clear hi;cases r
 ·obtain⟨k0,k1,k2,k3,k4,k5⟩:=cs6 Bk;go_wp2;go_ret;exact ar.f (λh=>by have:=HI3.2 ((la ZQ.out).1 h.2.2.1);cases this) HB.out
 have HBd:=G (HI3.1 bU);obtain⟨k0,k1,k2,k3,k4,k5⟩:=cs6 Bk;go_wp2_with fail;refine (rR d c _ (HR.below HB.out) ZQ.1.2.2 ZQ.2.2.2.1.2.2 ZQ.2.2.1.2.2 ZQ.ne (by have:=ZQ.2.2.2.2.1;omega) ZQ.cpu).mono ?_;rintro e w4 ⟨r,rfl,hi,hb⟩;clear k0 k1 k2 k3 k4 k5;replace Bk:=upK Bk hb;replace HB:=upB HB hb;clear hb;have HI4:=G hi;clear hi;cases r
 ·obtain⟨k0,k1,k2,k3,k4,k5⟩:=cs6 Bk;go_wp2;go_ret;exact ar.f (λh=>by have:=HI4.2 ((jh ZQ.out HBd.out).1 h.2.2.2.1);cases this) HB.out
 have HPl:=G (HI4.1 bU);obtain⟨k0,k1,k2,k3,k4,k5⟩:=cs6 Bk;go_wp2_with fail;refine (om d c _ (HR.below HB.out) ZQ.1.2.2 (by have:=ZQ.2.2.1.1;omega)).mono ?_;have ar0:=@G _ @Jn;exact tF):p:=h
theorem Hs(h:p:=by
 exact apj):p:=h
theorem Hr(h:p:=by
 have HI6:=G hi;clear hi;cases r
 ·exact Qu
 go_wp2;go_ret;exact ar.t ⟨HI1.1 bU,ZQ.out,(la ZQ.out).2 HBd.out,(jh ZQ.out HBd.out).2 HPl.out,HI5.1 bU,HI6.1 bU⟩ HB.out):p:=h
theorem Hq(h:p:=by
 have HI5:=G hi;clear hi;cases r
 ·exact ak2
 obtain⟨k0,k1,k2,k3,k4,k5⟩:=cs6 Bk;go_wp2_with fail;exact ar0):p:=h
theorem dR(h:p:=by
 clear k0 k1 k2 k3 k4 k5;replace Bk:=upK Bk hb;replace HB:=upB HB hb;clear hb;exact an1):p:=h
theorem Ha(h:p:=by
 replace HTp:=G (HTp.below Zr);replace HB:=upB HB Zr;clear ZG Zr ZD;clear pk hb c0 c1 c2 c3 c4 c5;by_cases he:p.d=⟨#[]⟩
 ·have hq:=cw he;have HEm:=G he;clear he;obtain⟨r5,hre⟩:∃r:Int,e=Zh (V O r):=by rcases hf with ⟨j,y,_,_,h⟩|⟨_,h⟩ <;> exact⟨_,h⟩
  subst hre;clear hf;have aqc:=@G _ @DC;exact mJ
 have hq:=aU he;have HEm:=G he;clear he;rcases hf with ⟨j1,n,h1,h2,rfl⟩|⟨hh,rfl⟩;rotate_left
 ·have HH:=G hh;clear hh;have aqc:=@G _ @DB;exact mJ
 have arR:=@G _ @TW;exact p8):p:=h
theorem G6(h:p:=by
 have ay1:=ae BoX.out;clear h5 hR hl5 hkl hk hKs hXs;generalize wr=X1 at*;obtain⟨k0,k1,k2,k3,k4,k5⟩:=cs6 Bk;go_wp2;clear k0 k1 k2 k3 k4 k5 Zo;go_loopw [6] (λvi wr=> ∃(k:Nat) (vss:List (List Value)) (H:Nat->Nat->Nat) (v:Value),k<=l3/\vi=V O k/\Hid (aJ (Cps b3 X1) X1 wr)/\Hid (wr.ownsRow X1.heap.size 37 8 v k vss.flatten)/\Hid (aR wr (λk=>X1.heap.size<=k) 8 ((c.vs.take k).map vdF) vss H)/\Hid (wr.heap[b3]?=M (Ze #[U p1 l1 q1,U p2 l2 q2,v,U p4 l4 q4,U J 0 0,V O c.now] 29 (0,0)))) (λvi _=>l3 - (intOf vi).toNat);case atStart=>exact⟨0,[],λ_ _=>0,U J 0 0,by omega,rfl,aJ.refl _ _,World.ownsRow_nil _ _ _ _,aR.nil _ _ _ _,BoX⟩
 case round=>
  obtain⟨k,vss,H,v,hk,rfl,HK,HO,HV,Bo⟩:=hrel;obtain⟨hXs,ZH,BkR,hKs⟩:=OR;by_cases Zo:k<l3
  ·obtain⟨b,o,x,rfl,hb0,hx,Zc⟩:=bY HR.v Zo;obtain⟨va,vl,vc,Zx,z0,z2,z3,z5,c0,c1,c2,c3,c4,c5,c6,c7⟩:=bm Zc;have hz8:vl<=8001:=by have h1:=Zx.1;have h2:=HS.vs k x hx;omega
   have HX:=G hx;have HT:=G Zx;have aoy:=G z0;have aqa:=G z2;have avY:=G z3;have avZ:=G z5;clear Zc hx Zx z0 z2 z3 z5;have arT:=@G _ @Em;exact su
  ·have hkl:k=l3:=af
   have h5:=HV.out;rw[YB af] at h5;obtain⟨p3,q3,hv,hR⟩:=h5.own HO.out bg ag (λg hg=>(HO.lt g hg).1);have hl5:(c.vs.map vdF).length=l3:=by simpa using hl3
   rw[hl5] at hv hR;subst hv;have R3:=G (hR.dZ Bo.out ag ag);have ap7:=@G _ @LM;exact nu):p:=h
theorem GZ(h:p:=by
 have auN:=ae BoX.out;clear h5 hR hl5 hkl hk hKs hXs;generalize wr=X2 at*;obtain⟨k0,k1,k2,k3,k4,k5⟩:=cs6 Bk;go_wp2;clear k0 k1 k2 k3 k4 k5 Zo;go_loopw [7] (λvi wr=> ∃(k:Nat) (vss:List (List Value)) (H:Nat->Nat->Nat) (v:Value),k<=l5/\vi=V O k/\Hid (aJ (Cps b3 X2) X2 wr)/\Hid (wr.ownsRow X2.heap.size 102 6 v k vss.flatten)/\Hid (aR wr (λk=>X2.heap.size<=k) 6 ((c.ps.take k).map pdF) vss H)/\Hid (wr.heap[b3]?=M (Ze #[U p1 l1 q1,U p2 l2 q2,U p3 l3 q3,U p4 l4 q4,v,V O c.now] 29 (0,0)))) (λvi _=>l5 - (intOf vi).toNat);case atStart=>exact⟨0,[],λ_ _=>0,U J 0 0,by omega,rfl,aJ.refl _ _,World.ownsRow_nil _ _ _ _,aR.nil _ _ _ _,BoX⟩
 case round=>
  obtain⟨k,vss,H,v,hk,rfl,HK,HO,HV,Bo⟩:=hrel;obtain⟨hXs,ZH,BkR,hKs⟩:=OR;by_cases Zo:k<l5
  ·obtain⟨b,o,x,rfl,hb0,hx,Zc⟩:=db HR.p Zo;obtain⟨va,vl,vc,Zx,z0,z2,z4,c0,c1,c2,c3,c4,c5⟩:=bK Zc;have hz8:vl<=8001:=by have h1:=Zx.1;have h2:=HS.ps k x hx;omega
   have HX:=G hx;have HT:=G Zx;have aoy:=G z0;have aqa:=G z2;have avX:=G z4;clear Zc hx Zx z0 z2 z4;have auI:=@G _ @TE;exact yX
  ·have hkl:k=l5:=af
   have h5:=HV.out;rw[YB af] at h5;obtain⟨p5,q5,hv,hR⟩:=h5.own HO.out bg ag (λg hg=>(HO.lt g hg).1);have hl5:(c.ps.map pdF).length=l5:=by simpa using hl5
   rw[hl5] at hv hR;subst hv;have R5:=G (hR.dZ Bo.out ag ag);have ap7:=@G _ @LL;exact nu):p:=h
theorem GY(h:p:=by
 clear h5 hR hl5 hkl hk hKs hXs;generalize wr=X3 at*;obtain⟨k0,k1,k2,k3,k4,k5⟩:=cs6 Bk;obtain⟨o0,o1,o2,o3,o4,o5⟩:=cs6 BoX;obtain⟨r0,r1,r2,r3,r4,r5⟩:=cs6 Br;have hXs:=HBX.size;obtain⟨ZR,ZS,ZT,ZU,ZV⟩:=nM;have ZY:=ak Br.out 5;go_wp2;refine bodyPost_ret (v:=Zj #[U p1 l1 q1,U p2 l2 q2,U p3 l3 q3,U p4 l4 q4,U p5 l5 q5,V O c.now]) (by simp[results,Tryz.results35,go_sem, *]) rfl ⟨⟨p1,l1,q1,p2,l2,q2,p3,l3,q3,p4,l4,q4,p5,l5,q5⟩,rfl,⟨?_,?_,?_,?_,?_⟩,sb1 (sb1 (sb1 (sb1 (sb1 (sb1 (HBX.out))))))⟩
 ·exact (R1.ay (S':=λk=>w.heap.size<=k) (λk hk s=>gB (by have s1:X.heap.size<=k:=s.1;omega)) (λk _ s=>by have s1:X.heap.size<=k:=s.1;show w.heap.size<=k;omega))
 ·exact (R2.ay (S':=λk=>w.heap.size<=k) (λk hk s=>gB (by have s1:W.heap.size<=k:=s.1;omega)) (λk _ s=>by have s1:W.heap.size<=k:=s.1;show w.heap.size<=k;omega))
 ·exact (R3.ay (S':=λk=>w.heap.size<=k) (λk hk s=>gB (by have s1:X1.heap.size<=k:=s.1;omega)) (λk _ s=>by have s1:X1.heap.size<=k:=s.1;show w.heap.size<=k;omega))
 ·exact (R4.ay (S':=λk=>w.heap.size<=k) (λk hk s=>gB (by have s1:W.heap.size<=k:=s.1;omega)) (λk _ s=>by have s1:W.heap.size<=k:=s.1;show w.heap.size<=k;omega))
 ·exact (R5.ay (S':=λk=>w.heap.size<=k) (λk hk s=>gB (by have s1:X2.heap.size<=k:=s.1;omega)) (λk _ s=>by have s1:X2.heap.size<=k:=s.1;show w.heap.size<=k;omega))):p:=h
theorem mY(h:p:=by
 replace Br:=G ((HK.block (w.heap.size+1) af (λs=>by rcases s with s|s <;> omega)).trans Br.out);replace Bk:=BkR;replace BoX:=Bo;replace HBX:=ZH;exact ap_):p:=h
theorem GW(h:p:=by
 rintro _ ⟨q1,rfl⟩;obtain⟨ZW,Ck⟩:=lq;have Bv:=upK Gv q1.b;clear hne0 HB k0 k1 k2 k3 k4 k5 v6 tw Bk pv hb hc;have HB:=ZW;have Bk:=Ck;have apx:=upB ZH q1.b;have hbv:=Yl Z7.out HB.size;have v7:=(ah HB.out Z7.out).trans HC7.out;rcases Bool.eq_false_or_eq_true n.d with hd|hd
 ·have HDd:=G hd;clear hd;have Bv:Hid (q1.w.heap[gb]?=M (Ze #[I n.n,I n.z,V O n.c,V O n.s,V O n.u,Zf Zi,U (M ⟨b2,o2,J⟩) vl vc] 81 (0,0))):=by have:=Bv.out;rw[HDd.out] at this;exact this
  have aqe:=@G _ @DA;exact mI
 ·have HDd:=G hd;clear hd;have Bv:Hid (q1.w.heap[gb]?=M (Ze #[I n.n,I n.z,V O n.c,V O n.s,V O n.u,Zf Zg,U (M ⟨b2,o2,J⟩) vl vc] 81 (0,0))):=by have:=Bv.out;rw[HDd.out] at this;exact this
  by_cases Z6:InL v.zs n.n
  ·have HIn:=G Z6;clear Z6;have aqe:=@G _ @Dz;exact mI
  ·have HIn:=G Z6;clear Z6;have aqe:=@G _ @Dy;exact mI):p:=h
theorem GU(h:p:=by
 rintro _ ⟨q1,rfl⟩;obtain⟨ZW,Ck⟩:=lq;have Bv:=upK Gv q1.b;clear hne0 HB k0 k1 k2 k3 k4 k5 v6 tw Bk pv;have HB:=ZW;have Bk:=Ck;obtain⟨Gk,Gv,HW,k2,v0,v2,v5,v6⟩:=ahZ;have hne0:=Wd.ne q1.w;have z1z:=@G _ @akm;exact bF):p:=h
theorem jW(h:p:=by
 refine Obl.plain rfl ?_;intro ac wg K Zq hW hf hK;clear Zq;have e34:=hf 34 ag;simp[slotFact,Yg] at e34;exact apA):p:=h
theorem Gb(h:p:=by
 have ar1:=@G _ @Dj;exact sg):p:=h
theorem mT(h:p:=by
 obtain⟨r0,r1,r2,r3,r4,r5,r6,r7⟩:=cs8 Br6;obtain⟨ZR,ZS,ZT,ZU,ZV,ZY,Z1,Z2⟩:=ahY;intro K hK;rw[if_pos cF];exact aqf):p:=h
theorem FL(h:p:=by
 go_wp2_with fail;exact aol):p:=h
theorem FB(h:p:=by
 have hvl:=HTp.1;have hvc:=Yo HTp.2.1 HTp.2.2.1;have HVL:=G hvl;clear hvl;have aox:=@G _ @KG;exact fR):p:=h
theorem FA(h:p:=by
 exact ar2):p:=h
theorem sN(h:p:=by
 obtain⟨b,o,p,rfl,hb,hx,Zc⟩:=db (HR.p.below HB.out) Zo;obtain⟨va,vl,vc,Zx,z0,z2,z4,c0,c1,c2,c3,c4,c5⟩:=bK Zc;have HXp:=G hx;have HTp:=G Zx;clear Zc hx z0 z2 z4 Zx;exact arK):p:=h
theorem mS(h:p:=by
 refine Obl.plain rfl ?_;intro ac wg K Zq hW hf hK;clear Zq;have e35:=hf 35 ag;simp[slotFact,Yg] at e35;exact aqg):p:=h
theorem Fs(h:p:=by
 obtain⟨b0,e9,hB0,hg0⟩:=e9;have hz:i2.zero=M (Zj #[I ⟨#[]⟩,Zf Zg,Zf Zg,I ⟨#[]⟩])/\i2.size=4/\i2.bytes=40:=by have:=HI2.2;simp only[Prod.mk.injEq] at this;exact this
 refine rJ (.tmp 9) (.tmp 11) 24 72 rfl i2 (Zj #[I ⟨#[]⟩,Zf Zg,Zf Zg,I ⟨#[]⟩]) Tryz.underlying24 HI2.1 hz.1 hz.2.1 hz.2.2 rfl ag ag (by simpa[Act.eval] using e9) hg0 (by simpa[Act.eval] using e11) (HR.k.below (HB.trans (hW.mono HB.size))) (ki A9 _) (show l2<=8 by have:=HS.k;omega) ag ?_;exact QE):p:=h
theorem Fq(h:p:=by
 go_simp;refine (fK ⟨(M ⟨b1,o1,J⟩),l1,y1,a2,l2,y2,a3,l3,y3,a4,l4,y4,a5,l5,y5⟩ c.now c.ns p.d _ (HR.n.below (BW.trans (hW.mono BW.size))) HNR.out HJn.out HNn.out).mono ?_;rintro e w5 ⟨rfl,ZI⟩;exact hK _ _ ZI rfl):p:=h
theorem sM(h:p:=by
 refine Obl.plain rfl ?_;intro ac wg K Zq hW hf hK;clear Zq;have e9:=hf 9 ag;simp[slotFact,Yg] at e9;have e11:=hf 11 ag;simp[slotFact,Yg] at e11;clear hf;exact arW):p:=h
theorem Fa(h:p:=by
 by_cases hlt3:kz<k
 ·have arX:=@G _ @Ju;exact tH
 ·exact PQ):p:=h
theorem E_(h:p:=by
 by_cases hlt3:kz<k
 ·have arX:=@G _ @Jt;exact tH
 ·exact PQ):p:=h
theorem sG(h:p:=by
 obtain⟨kz,hkz,rfl,HQ3,ZH⟩:=hrel;have HB:=G (BV2.trans (ZH.mono BV2.size));have Bk:=upK KV2 ZH.out;have Br:=upK GV2 ZH.out;have HTp:=G (TV2.below ZH.out);exact arU):p:=h
theorem E7(h:p:=by
 clear hne0 HB k0 k1 k2 k3 k4 k5 v7 tw Bk pv;have HB:=ZW;have Bk:=Ck;obtain⟨Gk,Gv,HW,k0,v2,v7⟩:=ON;have hne0:=Wd.ne q1.w;have z1z:=@G _ @akp;exact bF):p:=h
theorem E6(h:p:=by
 clear hne0 HB k0 k1 k2 k3 k4 k5 v7 tw Bk pv hb hc;have HB:=ZW;have Bk:=Ck;have apx:=upB ZH q1.b;have hbn:=Yl HBn.out HB.size;have n1:=(ah HB.out HBn.out).trans HCn.out;by_cases hz:n.z=v.z
 ·have q8:=aP hz;have HZ:=G hz;clear hz;obtain⟨Gk,Gv,HW,k0,v2,v7⟩:=ON;have nw:=λq:Wd q1.w=>(q.cell hbn).trans n1;have hne0:=Wd.ne q1.w;have z1z:=@G _ @ako;exact bF
 ·have q8:=bu hz;have HZ:=G hz;clear hz;obtain⟨Gk,Gv,HW,k0,v2,v7⟩:=ON;have nw:=λq:Wd q1.w=>(q.cell hbn).trans n1;have hne0:=Wd.ne q1.w;have z1z:=@G _ @akn;exact bF):p:=h
theorem sE(h:p:=by
 repeat (go_big_quiet_step (first|(go_at_call 110;exact Calls.wide (Zv.out _))|fail))
 refine wpQuiet_nil ?_;rintro _ ⟨q1,rfl⟩;obtain⟨ZW,Ck⟩:=lq;have Bv:=upK Gv q1.b;exact arV):p:=h
theorem E0(h:p:=by
 exact aqO):p:=h
theorem EZ(h:p:=by
 clear hne0 HB k0 k1 k2 k3 k4 k5 r0 r1 r2 r3 r4 r5 tw Bk hc1 ZN;have HB:=ZX;have Bk:=Ck;go_wp2;go_ret;refine ar.f (λh=>?_) HB.out;have h9:=(h.1 k p HXp.out).2.1 kq t HXt.out;rcases h9.2 with h2|⟨v',i,n',h2,_⟩
 ·exact HEm.out h2
 ·exact HD.out v' h2):p:=h
theorem sC(h:p:=by
 repeat (go_big_quiet_step (first|(go_at_call 33;exact Calls.wide (Zv.out _))|fail))
 refine wpQuiet_nil ?_;rintro _ ⟨q2,rfl⟩;obtain⟨ZX,Ck⟩:=i_;have Br:=upK Gr q2.b;exact arN):p:=h
theorem EN(h:p:=by
 go_wp2;clear pk;go_loopw [7] (λi wr=> ∃k:Nat,k<=l5/\i=V O k/\Hid (∀(j:Nat) z,j<k->c.ps[j]?=M z->MQ2 c z)/\Hid (Below w.heap.size w wr)/\Hid (wr.heap[w.heap.size]?=M (Ze (Zd a1 l1 y1 a2 l2 y2 a3 l3 y3 a4 l4 y4 a5 l5 y5 c.now) 29 (0,0)))) (λi _=>l5 - (intOf i).toNat);case atStart=>exact⟨0,by omega,rfl,λ_ _ h=>absurd h af,HB.out,Bk.out⟩
 case round=>
  obtain⟨k,hk,rfl,HQ,HB,Bk⟩:=hrel;have pk:=ck4 Bk;by_cases Zo:k<l5
  ·have ar2:=@G _ @Ki;exact tQ
  ·obtain rfl:l5=k:=af
   go_wp2;go_ret;exact ar.t ⟨HQ1.out,λj z hz=>HQ.out j z dO hz⟩ HB.out):p:=h
theorem sB(h:p:=by
 obtain rfl:l1=k:=af
 have HQ1:Hid (∀(j:Nat) z,c.ns[j]?=M z->Sd c z):=λj z hz=>HQ.out j z dO hz;exact arL):p:=h
theorem EI(h:p:=by
 obtain⟨r0,r1,r2,r3,r4,r5⟩:=sl6 Gr;obtain⟨tw,hne0⟩:=al8;exact ao4):p:=h
theorem EH(h:p:=by
 obtain⟨r0,r1,r2,r3,r4,r5⟩:=sl6 Gr;exact arM):p:=h
theorem EG(h:p:=by
 have r3:=λq:Wd wr=>q.slot (o:=3) Gr.out rfl;obtain⟨tw,hne0⟩:=o7;exact arB):p:=h
theorem EF(h:p:=by
 have r3:=λq:Wd wr=>q.slot (o:=3) Gr.out rfl;obtain⟨tw,hne0⟩:=o7;exact auz):p:=h
theorem En(h:p:=by
 exact auI):p:=h
theorem Em(h:p:=by
 replace c6:=(ah ZH.out hb0).trans c6;replace c7:=(ah ZH.out hb0).trans c7;have hbr:=Yl hb0 ZH.size;have hkr:=ae BkR.out;have hor:=ae Bo.out;have hz:i3.zero=M (Zj #[I ⟨#[]⟩,V O 0,I ⟨#[]⟩,I ⟨#[]⟩,Zf Zg,I ⟨#[]⟩,Zf Zg,U J 0 0])/\i3.size=8/\i3.bytes=112:=by have:=HI3.2;simp only[Prod.mk.injEq] at this;exact this
 obtain⟨k0,k1,k2,k3,k4,k5⟩:=cs6 BkR;have hvb:=λg hg=>(HO.lt g hg).2;go_wp2_with fail;clear k0 k1 k2 k3 k4 k5;rename_i K0 hK0;refine Gi.bS (R:=Rv v.ownBlock 59) (ex:=λ_=>J) (Rv.rel _ _) aW rfl rfl aW aW ?_;refine' Gi.Grow.stepC _ rfl ?_ ?_;rotate_left 1
 ·exact PL
 refine' Gi.Grow.stepC _ rfl ?_ ?_;rotate_left 1
 ·have aoL:=@G _ @Uf;exact ft
 refine' Gi.Grow.stepC _ rfl ?_ ?_;rotate_left 1
 ·have aoL:=@G _ @Ue;exact ft
 refine' Gi.Grow.stepC _ rfl ?_ ?_;rotate_left 1
 ·have aoL:=@G _ @Ud;exact ft
 refine' Gi.Grow.stepC _ rfl ?_ ?_;rotate_left 1
 ·have aoL:=@G _ @Uc;exact ft
 refine' Gi.Grow.stepC _ rfl ?_ ?_;rotate_left 1
 ·have aoL:=@G _ @Ub;exact ft
 refine' Gi.Grow.stepC _ rfl ?_ ?_;rotate_left 1
 ·have aoL:=@G _ @Ua;exact ft
 refine Gi.Grow.step (TvF wr.heap.size x) rfl (TvF.mono hvb) ?_ ?_
 ·have aoL:=@G _ @T_;exact ft
 refine Gi.Grow.step (BsF wr.heap.size x) rfl (BsF.mono hvb) ?_ ?_
 ·have aoL:=@G _ @T9;exact ft
 refine Gi.Grow.step (ApF X1.heap.size k ((c.vs.take (k+1)).map vdF) vss) rfl (ApF.mono) ?_ ?_
 ·refine Gi.Obl.plain rfl ?_;intro ac wg K lo hi Zq hW hpr hf hap hK;clear Zq hap;have hW:wr.grownBy wg v.ownBlock:=hW;have e51:=hf 51 ag;simp[Gi.slotFact,Yg] at e51;have e58:=hf 58 ag;simp[Gi.slotFact,Yg] at e58;clear hf;have hbW:=hpr rfl;clear hpr;obtain⟨b5,a',l',c',e58,ZI,hg5,ho5⟩:=e58;obtain⟨g,hg⟩:=ho5.fr;have hws:=hW.size;refine wp_append_own wg (.tmp 51) (.tmp 58) 25 rfl X1.heap.size 37 i3 (Zj #[I ⟨#[]⟩,V O 0,I ⟨#[]⟩,I ⟨#[]⟩,Zf Zg,I ⟨#[]⟩,Zf Zg,U J 0 0]) 8 112 Tryz.underlying25 HI3.1 hz.1 hz.2.1 hz.2.2 rfl ag v k vss.flatten (by simpa[Act.eval] using e51) (cv HO.out hbW) ⟨b5,0,J⟩ 1 1 [I x.n,V O x.c,I x.z,I x.k,Zf x.x,I x.m,Zf x.y,U a' l' c'] (by simpa[Act.eval] using e58) rfl (Rn hg5) (by intro u hu;simp only[YT,List.not_mem_nil,or_false] at hu;rcases hu with rfl|rfl|rfl|rfl|rfl|rfl|rfl|rfl <;> rfl) (by unfold maxLen;have:=HS.v;omega) (by have:=HS.v;omega) af ?_;intro v' w' ζ hgr _;have hV:=HV.app (r:=vdF x) (vs:=[I x.n,V O x.c,I x.z,I x.k,Zf x.x,I x.m,Zf x.y,U a' l' c']) (hh:=g) hbW (cv HO.out hbW) ag hgr rfl rfl (CI aoy.out aqa.out avY.out avZ.out (hg.ay (S':=λk=>X1.heap.size<=k) (λcu _ q=>rfl) (λ_ s=>by have s1:wr.heap.size<=g:=s;show X1.heap.size<=g;omega))) (λi zs hi hz=>by obtain⟨_,rfl⟩:=BD hi;exact (hg.lt hz).1) (λi i' zs ZB h1 _ h2 _=>(BD h1).1.trans (BD h2).1.symm);have e1:(c.vs.take (k+1)).map vdF=(c.vs.take k).map vdF++[vdF x]:=by rw[YM,HX.out];simp
  rw[<-e1] at hV;exact hK _ _ (Rv.this hgr) ⟨_,[I x.n,V O x.c,I x.z,I x.k,Zf x.x,I x.m,Zf x.y,U a' l' c'],by rw[List.flatten_append];simpa using ζ,hV⟩
 refine' Gi.Grow.stepC _ rfl ?_ ?_;rotate_left 1
 ·exact PL
 refine Gi.Grow.done ?_;intro q wz lo hi hW hf hap;clear hap;have hW:wr.grownBy wz v.ownBlock:=hW;simp only[YL] at hf;obtain⟨h60,h59,-⟩:=hf;have h60:=h60 bU;obtain⟨H',vs',hs2,hs3⟩:=h59 bU;obtain⟨v',hv'⟩:∃v',q 59=v':=⟨_,rfl⟩;rw[hv'] at hs2;obtain⟨v1',v2',v3',rfl⟩:=az hs2;have bo5:=(hW.block b3 hor (λe=>by have:=(HO.lt _ e.symm).1;omega)).trans Bo.out;have HS1:=G (((HK.trans (aJ.vC hW (λg e=>Zk (HO.lt g e).1))).set (i:=2) (v:=U v1' v2' v3') (Zl rfl)));have HS2:=G (vA (i:=2) (u:=U v1' v2' v3') hs2 bo5 ag);have HS3:=G (hs3.set (i:=2) (u:=U v1' v2' v3') bo5 ag);have HS4:=G (an (i:=2) bo5 (U v1' v2' v3'));obtain⟨o0,o1,o2,o3,o4,o5⟩:=cs6 bo5;have fo0:=ak bo5 0;have fo2:=ak bo5 2;have fo4:=ak bo5 4;clear bo5 hs2 hs3 hW c0 c1 c2 c3 c4 c5 c6 c7;intro K hK;rw[if_pos cF];simp only[Gi.aL,YQ,Y0,Yr,Yx,Yy,h60,hv'];have amW:=@G _ @abq;exact cQ):p:=h
theorem su(h:p:=by
 replace c0:=(ah ZH.out hb0).trans c0;replace c1:=(ah ZH.out hb0).trans c1;replace c2:=(ah ZH.out hb0).trans c2;replace c3:=(ah ZH.out hb0).trans c3;replace c4:=(ah ZH.out hb0).trans c4;replace c5:=(ah ZH.out hb0).trans c5;exact arT):p:=h
theorem D_(h:p:=by
 clear hr;have HNR:=G hn;have HL3:=G ar3;clear hn ar3;go_enter Tryz.func59,Tryz.ntmps59;go_wp2;go_loopw [3] (λi wr=> ∃k:Nat,k<=l3/\i=V O k/\Hid (∀(j:Nat) z,j<k->c.vs[j]?=M z->AQ1 c z)/\Hid (Below w.heap.size w wr)/\Hid (wr.heap[w.heap.size]?=M (Ze (Zd a1 l1 y1 a2 l2 y2 a3 l3 y3 a4 l4 y4 a5 l5 y5 c.now) 29 (0,0)))) (λi _=>l3 - (intOf i).toNat);case atStart=>exact⟨0,by omega,rfl,λ_ _ h=>absurd h af,aj _ _,Yf⟩
 case round=>
  obtain⟨k,hk,rfl,HQ,HB,Bk⟩:=hrel;have pk:=ck2 Bk;by_cases Zo:k<l3
  ·obtain⟨b,o,v,rfl,hb,hx,Zc⟩:=bY (HR.v.below HB.out) Zo;have aoj:=@G _ @Gb;exact fe
  ·have arZ:=@G _ @Iw;exact th):p:=h
theorem jT(h:p:=by
 obtain⟨HR,hl1,hm1,hl3⟩:=AY;have hm3:l3<=9223372036854775807:=Yo hr.v.2.1 hr.v.2.2.1;exact apy):p:=h
theorem D4(h:p:=by
 have e16:=hf 16 ag;simp[slotFact,Yg] at e16;have e18:=hf 18 ag;simp[slotFact,Yg] at e18;clear hf;obtain⟨p2,q2,e12,h12⟩:=e12;obtain⟨p4,q4,e16,h16⟩:=e16;have H12:=G h12;have H16:=G h16;clear h12 h16;go_simp;exact hK _ _ (Yh _ _) ⟨p2,q2,p4,q4,rfl,H12.out,H16.out⟩):p:=h
theorem mK(h:p:=by
 refine Obl.plain rfl ?_;intro ac wg K Zq hW hf hK;clear Zq;have e12:=hf 12 ag;simp[slotFact,Yg] at e12;exact aqb):p:=h
theorem fc(h:p:=by
 refine Grow.done ?_;intro q wy hW hf;simp only[YL] at hf;exact aom):p:=h
theorem DU(h:p:=by
 exact anS):p:=h
theorem fa(h:p:=by
 replace Bk:=upK Bk hb;replace Br:=upK Br hb;replace HB:=upB HB hb;clear hb;exact aok):p:=h
theorem DD(h:p:=by
 have nw:=λq:Wd w1=>(q.cell hbn).trans n1;have hne0:=Wd.ne w1;exact ap9):p:=h
theorem DC(h:p:=by
 have hne0:=Wd.ne w1;have z1z:=@G _ @aku;exact bF):p:=h
theorem DB(h:p:=by
 have hne0:=Wd.ne w1;have z1z:=@G _ @akt;exact bF):p:=h
theorem mJ(h:p:=by
 obtain⟨Gk,Gr,HW⟩:=AU;have k0:=λq:Wd w1=>q.slot (o:=0) Gk.out rfl;obtain⟨r0,r1,r2,r3,r4,r5⟩:=sl6 Gr;exact aqc):p:=h
theorem DA(h:p:=by
 have z1z:=@G _ @akl;exact bF):p:=h
theorem Dz(h:p:=by
 have Zv:=G (λq:Wd q1.w=>(bZ xa xl xc v.zs n.n q.w (HTx.below (HW.trans (q.b.mono HW.size)))).mono (λ_ _ h=>ar.yes h HIn.out));have Zw:=@G _ @ajt;exact aB):p:=h
theorem Dy(h:p:=by
 have Zv:=G (λq:Wd q1.w=>(bZ xa xl xc v.zs n.n q.w (HTx.below (HW.trans (q.b.mono HW.size)))).mono (λ_ _ h=>ar.no h HIn.out));have Zw:=@G _ @ajs;exact aB):p:=h
theorem mI(h:p:=by
 obtain⟨Gk,Gv,HW,k2,v0,v2,v5,v6⟩:=ahZ;have vw:=λq:Wd q1.w=>(q.cell hbv).trans v7;have hne0:=Wd.ne q1.w;exact aqe):p:=h
theorem Dm(h:p:=by
 refine (wH d c _ (HR.below HB.out) ZQ.2.1.2.2 ZQ.2.2.2.1.2.2 ZQ.2.2.1.2.2).mono ?_;rintro e w3 ⟨r,rfl,hi,hb⟩;have an1:=@G _ @Ht;exact dR):p:=h
theorem sh(h:p:=by
 have HI2:=G hi;clear hi;cases r
 ·exact Q8
 have ZQ:=G (HI2.1 bU);obtain⟨k0,k1,k2,k3,k4,k5⟩:=cs6 Bk;go_wp2_with fail;exact arO):p:=h
theorem Dj(h:p:=by
 have KV:Hid ((wr.alloc (Ze (vov v va vl vc) 37)).heap[w.heap.size]?=M (Ze (Zd a1 l1 y1 a2 l2 y2 (M ⟨b,o,J⟩) l3 y3 a4 l4 y4 a5 l5 y5 c.now) 29 (0,0))):=(Yj wr (Ze (vov v va vl vc) 37) _ (ae Bk.out)).trans Bk.out;obtain⟨GV,BV⟩:=O7;have TT:=G (HTv.below (aj wr (Ze (vov v va vl vc) 37)));obtain⟨W,hW⟩:∃W,W=wr.alloc (Ze (vov v va vl vc) 37):=⟨_,rfl⟩;obtain⟨gb,Δ⟩:∃gb,gb=wr.heap.size:=⟨_,rfl⟩;rw[<-hW] at KV GV BV TT;rw[<-Δ] at GV;go_wp2;rw[<-hW,<-Δ];clear hW Δ HB Bk c0 c1 c2 c3 c4 c5 c6 c7 hb pk;go_loopw [5] (λi wr=> ∃kq:Nat,kq<=vl/\i=V O kq/\Hid (∀(j:Nat) t,j<kq->v.zs[j]?=M t->∃(i:Nat) (n:Nd),c.ns[i]?=M n/\n.n=t/\n.z=v.z)/\Hid (Below W.heap.size W wr)) (λi _=>vl - (intOf i).toNat);case atStart=>exact⟨0,by omega,rfl,λ_ _ h=>absurd h af,Yh _ _⟩
 case round=>
  obtain⟨kq,hkq,rfl,ν,ZH⟩:=hrel;obtain⟨HB,Bk⟩:=uU;have Bv:=upK GV ZH.out;have pv:=ck7 Bv;by_cases aob:kq<vl
  ·obtain⟨b2,o2,t,rfl,hb,hx,hc,Zq⟩:=(TT.below ZH.out).at aob;have HXt:=G hx;clear hx Zq;by_cases hnn:∃(i:Nat) (n:Nd),c.ns[i]?=M n/\n.n=t;rotate_left
   ·have HH:=G hnn;clear hnn;have Gk:=Bk;have Gv:=Bv;obtain⟨HW,k0,k1,k2,k3,k4,k5⟩:=uZ;have v7:=λq:Wd wr=>q.slot (o:=7) Gv.out rfl;obtain⟨tw,hne0⟩:=o7;have Zv:=G (λq:Wd wr=>BF ⟨a1,l1,y1,a2,l2,y2,(M ⟨b,o,J⟩),l3,y3,a4,l4,y4,a5,l5,y5⟩ c.now c.ns t q.w (HR.n.below (HW.trans (q.b.mono HW.size))) (λi n h1 h2=>HH.out ⟨i,n,h1,h2⟩));have ο:=@G _ @Lh;exact b_
   obtain⟨j1,n,h1,h2⟩:=hnn;have arR:=@G _ @TU;exact p8
  ·exact ah_):p:=h
theorem sg(h:p:=by
 have HXv:=G hx;have HTv:=G Zx;clear Zc hx z0 z2 z3 z5 Zx;have hvl:=HTv.1;have hvc:=Yo HTv.2.1 HTv.2.2.1;have HVL:=G hvl;clear hvl;exact ar1):p:=h
namespace Rc
def PSa(c:Cl) (p:Pd):Prop:=p.d=⟨#[]⟩\/∃(i:Nat) (n:Nd),c.ns[i]?=M n/\n.n=p.d/\(p.z=⟨#[]⟩\/n.z=p.z)
def alA(c:Cl) (p:Pd) (t:ByteArray):Prop:=(∃(i:Nat) (x:Xd),c.xs[i]?=M x/\x.n=t)/\(p.d=⟨#[]⟩\/∃(v:Vd) (i:Nat) (n:Nd),aX c t v/\c.ns[i]?=M n/\n.n=p.d/\v.z=n.z)
def PSb(c:Cl) (p:Pd):Prop:=∀(j:Nat) t,p.zs[j]?=M t->alA c p t
def PSc(c:Cl) (k:Nat) (p:Pd):Prop:=∀(j:Nat) q,j<k->c.ps[j]?=M q->pM c q p
def PS(c:Cl) (k:Nat) (p:Pd):Prop:=PSa c p/\PSb c p/\PSc c k p
def rr(c:Cl):Prop:=(∀(k:Nat) p,c.ps[k]?=M p->PS c k p)/\∀(j:Nat) n,c.ns[j]?=M n->cpuOf n.n c.ps<=n.c
theorem rR(d:Ad) (c:Cl) (w:World) (hr:aA w d c.raw) (hn:aH Nd.n c.ns) (hx:aH Xd.n c.xs) (hv:aH Vd.n c.vs) (ZE:∀(j:Nat) v,c.vs[j]?=M v->¬v.n=⟨#[]⟩) (arJ:c.ps.length<=8) (hpc:∀(j:Nat) p,c.ps[j]?=M p->0<=p.c/\p.c<=1000000):
  Calls Tryz.prog 58 #[Zj (Zs d c.now)] w (ar (rr c) w):=by
 have υ:=@G _ @acg;exact bQ
def CG(c:Cl):Prop:=(∀(j:Nat) z,c.vs[j]?=M z->AQ1 c z)/\∀(j:Nat) n,c.ns[j]?=M n->onOf n.n c.vs<=n.s
theorem om(d:Ad) (c:Cl) (w:World) (hr:aA w d c.raw) (hn:aH Nd.n c.ns) (ar3:c.vs.length<=8):
  Calls Tryz.prog 59 #[Zj (Zs d c.now)] w (ar (CG c) w):=by
 have υ:=@G _ @acf;exact bQ
end Rc
theorem amP(h:p:=by refine Obl.plain rfl ?_;intro ac wg K Zq hW hf hK;clear Zq;simp[looksOf,Op.operands,slotFact,Yg] at hf;go_simp;refine hK _ _ (Yh _ _) ?_;first|with_reducible rfl|(simp;done)|rfl):p:=h
theorem Grow.aK {known:List (Tmp×Fact)} {t:Tmp} {c:Value} (h:Grow P ops Q W a0 back rest ((t,λv _=>v=c) ::known)) (hd:o.dst=M t:=by rfl) (ho:Obl P ops Q W a0 known o (λv _=>v=c):=by exact amP):Grow P ops Q W a0 back (o ::rest) known:=Grow.stepC c hd ho h
theorem amO(h:p:=by intro hB;refine Obl.plain rfl ?_;intro ac wg K Zq hW hf hK;clear Zq;have gd:=(hW.block _ (ae hB)).trans hB;clear hB;simp[looksOf,Op.operands,slotFact,Yg] at hf;(first|(obtain⟨k0,k1,k2,k3,k4,k5⟩:=cs6 gd)|(obtain⟨k0,k1,k2,k3,k4,k5,k6,k7⟩:=cs8 gd)|(obtain⟨k0,k1,k2,k3,k4,k5,k6⟩:=cs7 gd)|(obtain⟨k0,k1,k2,k3,k4,k5,k6,k7,k8⟩:=cs9 gd)|(obtain⟨k0,k1⟩:=cs2 gd)|(obtain⟨k0,k1,k2,k3⟩:=cs4 gd)|(obtain⟨k0,k1,k2,k3,k4⟩:=cs5 gd));clear gd;go_simp;refine hK _ _ (Yh _ _) ?_;first|with_reducible rfl|(simp;done)|rfl):p:=h
theorem Grow.aO {known:List (Tmp×Fact)} {t:Tmp} {c:Value} (hB:W.heap[b]?=M (Ze cs T f)) (h:Grow P ops Q W a0 back rest ((t,λv _=>v=c) ::known)) (hd:o.dst=M t:=by rfl) (ho:W.heap[b]?=M (Ze cs T f)->Obl P ops Q W a0 known o (λv _=>v=c):=by exact amO):Grow P ops Q W a0 back (o ::rest) known:=Grow.stepC c hd (ho hB) h
namespace Rc
def rB(W:World):Fact:=λv w=> ∃g,v=Zm (M ⟨g,0,J⟩)/\W.heap.size<=g/\w.heap[g]?=M (Ze #[I ⟨#[]⟩,I ⟨#[]⟩,V O 0,V O 0,V O 0,Zf Zg,U J 0 0] 81 (0,0))
theorem rB.mono(W:World):Fact.bT (rB W):=by
 rintro v w w' ⟨g,h1,h2,h3⟩ hb;exact⟨g,h1,h2,(hb.block g (ae h3)).trans h3⟩
theorem amH {v6:Value} (h:w.heap[g]?=M (Ze #[I ⟨#[]⟩,I ⟨#[]⟩,V O 0,V O 0,V O 0,Zf Zg,U J 0 0] 81 (0,0))):
  (((((((w.setCell ⟨g,0,J⟩ (v0)).setCell ⟨g,1,J⟩ (v1)).setCell ⟨g,2,J⟩ (v2)).setCell ⟨g,3,J⟩ (v3)).setCell ⟨g,4,J⟩ (v4)).setCell ⟨g,5,J⟩ (v5)).setCell ⟨g,6,J⟩ (v6)).heap[g]?=M (Ze #[v0,v1,v2,v3,v4,v5,v6] 81 (0,0)):=by
 have:=an (i:=6) (an (i:=5) (an (i:=4) (an (i:=3) (an (i:=2) (an (i:=1) (an (i:=0) h v0) v1) v2) v3) v4) v5) v6;simpa using this
theorem wG {v6:Value} (hg:W.heap.size<=g) (h:Below W.heap.size W w):Below W.heap.size W (((((((w.setCell ⟨g,0,J⟩ (v0)).setCell ⟨g,1,J⟩ (v1)).setCell ⟨g,2,J⟩ (v2)).setCell ⟨g,3,J⟩ (v3)).setCell ⟨g,4,J⟩ (v4)).setCell ⟨g,5,J⟩ (v5)).setCell ⟨g,6,J⟩ (v6)):=
 ai hg (ai hg (ai hg (ai hg (ai hg (ai hg (ai hg h))))))
def rG(c:Cl) (p:Pd) (n:Nd):Prop:=∀(j:Nat) t,p.zs[j]?=M t->∃v,aX c t v/\InL n.zs v.n
theorem mF(d:Ad) (c:Cl) (p:Pd) (pa:Option Addr) (pl pc:Nat) (j1:Nat) (n:Nd) (w:World) (hr:aA w d c.raw) (hn:aH Nd.n c.ns) (hx:aH Xd.n c.xs) (hv:aH Vd.n c.vs) (ZE:∀(j:Nat) v,c.vs[j]?=M v->¬v.n=⟨#[]⟩) (hp:aw w pa pl pc p.zs) (hj1:c.ns[j1]?=M n) (hnn:n.n=p.d) (ω:∀(j:Nat) t,p.zs[j]?=M t->∃v,aX c t v):
  Calls Tryz.prog 115 #[Zj (Zs d c.now),Zj #[I p.n,V O p.c,I p.z,U pa pl pc,I p.d,V O p.p]] w (ar (rG c p n) w):=by
 have υ:=@G _ @ace;exact bQ
theorem pS(d:Ad) (c:Cl) (w:World) (hr:aA w d c.raw) (hn:aH Nd.n c.ns) (hx:aH Xd.n c.xs) (hv:aH Vd.n c.vs) (ZE:∀(j:Nat) v,c.vs[j]?=M v->¬v.n=⟨#[]⟩) (aoQ:∀(j:Nat) p,c.ps[j]?=M p->p.p=2->(∃(i:Nat) (n:Nd),c.ns[i]?=M n/\n.n=p.d)/\∀(j:Nat) t,p.zs[j]?=M t->∃v,aX c t v):
  Calls Tryz.prog 60 #[Zj (Zs d c.now)] w (ar (oi c) w):=by
 have υ:=@G _ @acd;exact bQ
theorem iR(h:aH nm xs):hit nm xs t=Zi↔∃(i:Nat) (x:α),xs[i]?=M x/\nm x=t:=by
 constructor
 ·intro e;obtain⟨x,h1,h2⟩:=cy e;exact⟨_,x,h1,h2⟩
 ·rintro⟨i,x,h1,h2⟩;exact (bj h h1 h2).2
theorem la {c:Cl} (h:cP c):yx c↔yv c:=by
 have hk:=h.2.1.2.2;have hv:=h.2.2.1.2.2;have hx:=h.2.2.2.1.2.2;constructor
 ·rintro⟨h1,h2⟩;refine⟨λj v e=>?_,λj x e=>?_⟩
  ·obtain⟨a,b⟩:=h1 j v e;refine⟨(iR hk).1 a,b.imp id ?_⟩;rintro⟨i,j',x,v',e1,e2,e3,e4,e5,e6,_⟩;exact⟨i,x,e1,e2,e5⟩
  ·obtain⟨a,b⟩:=h2 j x e;refine⟨(iR hk).1 a,b.imp id ?_⟩;rintro⟨i,j',x',v',e1,e2,e3,e4,e5,e6,e7,e8,e9⟩;obtain⟨_,rfl⟩:=hx.inj e1 e e2;exact⟨j',v',e3,e4,e6,e7,e8,e9⟩
 ·rintro⟨h1,h2⟩;refine⟨λj v e=>?_,λj x e=>?_⟩
  ·obtain⟨a,b⟩:=h1 j v e;refine⟨(iR hk).2 a,b.imp id ?_⟩;rintro⟨i,x,e1,e2,e3⟩;have ZE:¬x.v=⟨#[]⟩:=λq=>h.ne j v e (e3.symm.trans q);obtain⟨_,b2⟩:=h2 i x e1;rcases b2 with b2|⟨j',v',f1,f2,f3,f4,f5,f6⟩
   ·exact absurd b2 ZE
   obtain⟨_,rfl⟩:=hv.inj f1 e (f2.trans e3);exact⟨i,j,x,v',e1,e2,e,rfl,e3,rfl,f4,f5,f6⟩
  ·obtain⟨a,b⟩:=h2 j x e;refine⟨(iR hk).2 a,b.imp id ?_⟩;rintro⟨j',v,e1,e2,e3,e4,e5,e6⟩;exact⟨j,j',x,v,e,rfl,e1,e2,rfl,e3,e4,e5,e6⟩
theorem jh {c:Cl} (h:cP c) (hb:yv c):ru c↔rr c:=by
 have hn:=h.1.2.2;have hv:=h.2.2.1.2.2;have hx:=h.2.2.2.1.2.2;have one:(∀(j:Nat) z,c.vs[j]?=M z->PQ3 c z)↔∀(k:Nat) p,c.ps[k]?=M p->PSc c k p:=by
  constructor
  ·intro h3 k p hp j q hj hq;by_cases e1:q.d=⟨#[]⟩
   ·exact Zl e1
   by_cases e2:p.d=⟨#[]⟩
   ·exact Zk (Zl e2)
   by_cases e3:q.d=p.d
   ·exact Zk (Zk (Zl e3))
   refine Zk (Zk (Zk λi t ht v ω hs Z6=>e3 ?_));obtain⟨i1,j1,x,f1,f2,f3,f4⟩:=ω;have hxv:¬x.v=⟨#[]⟩:=λz=>h.ne j1 v f3 (f4.trans z);have hvm:v.m=t:=by
    rcases (hb.2 i1 x f1).2 with z|⟨j2,v2,g1,g2,g3,_⟩
    ·exact absurd z hxv
    ·obtain⟨_,rfl⟩:=hv.inj g1 f3 (g2.trans f4.symm);rw[g3,f2]
   have ht0:¬v.m=⟨#[]⟩:=λz=>by
    have h1:=(h.2.2.2.1.2.1 i1 x f1).1.1;rw[f2,<-hvm,z] at h1;exact absurd h1 ag
   have:=h3 j1 v f3 hs ht0;rw[hvm] at this;exact this j k q p hq hp e1 e2 ⟨i,ht⟩ Z6
  ·intro h3 j v hj hs hm i1 i2 p q hp hq d1 d2 in1 in2;obtain⟨i4,x,f1,f2,f3⟩:=(hb.1 j v hj).2.resolve_left hm;have ω:aX c v.m v:=⟨i4,j,x,f1,f2,hj,f3.symm⟩;rcases Nat.lt_trichotomy i1 i2 with k|k|k
   ·obtain⟨r,hr⟩:=in1;rcases h3 i2 q hq i1 p k hp with z|z|z|z
    ·exact absurd z d1
    ·exact absurd z d2
    ·exact z
    ·exact absurd in2 (z r v.m hr v ω hs)
   ·subst k;rw[hp] at hq;rw[Yd hq]
   ·obtain⟨r,hr⟩:=in2;rcases h3 i1 p hp i2 q k hq with z|z|z|z
    ·exact absurd z d2
    ·exact absurd z d1
    ·exact z.symm
    ·exact absurd in1 (z r v.m hr v ω hs)
 constructor
 ·rintro⟨h1,h2,h3⟩;refine⟨λk p hp=>⟨?_,?_,one.1 h3 k p hp⟩,h2⟩
  ·rcases (h1 k p hp).2 with z|⟨i,n,e1,e2,e3,e4⟩
   ·exact Zl z
   ·exact Zk ⟨i,n,e1,e2,e3.imp id Eq.symm⟩
  ·intro j t ht;refine⟨(iR hx).1 ((h1 k p hp).1 j t ht),?_⟩;rcases (h1 k p hp).2 with z|⟨i,n,e1,e2,e3,e4⟩
   ·exact Zl z
   ·obtain⟨v,f1,f2⟩:=e4 j t ht;exact Zk ⟨v,i,n,f1,e1,e2,f2⟩
 ·rintro⟨h1,h2⟩;refine⟨λk p hp=>⟨λj t ht=>(iR hx).2 ((h1 k p hp).2.1 j t ht).1,?_⟩,h2,one.2 (λk p hp=>(h1 k p hp).2.2)⟩;rcases (h1 k p hp).1 with z|⟨i,n,e1,e2,e3⟩
  ·exact Zl z
  by_cases z:p.d=⟨#[]⟩
  ·exact Zl z
  refine Zk ⟨i,n,e1,e2,e3.imp id Eq.symm,λj t ht=>?_⟩;obtain⟨v,i',n',f1,f2,f3,f4⟩:=((h1 k p hp).2.1 j t ht).2.resolve_left z;obtain⟨_,rfl⟩:=hn.inj f2 e1 (f3.trans e2.symm);exact⟨v,f1,f4⟩
theorem running {c:Cl} (h:cP c) (hp:rr c) (j:Nat) (p:Pd) (hj:c.ps[j]?=M p) (h2:p.p=2):(∃(i:Nat) (n:Nd),c.ns[i]?=M n/\n.n=p.d)/\∀(j:Nat) t,p.zs[j]?=M t->∃v,aX c t v:=by
 have hd:¬p.d=⟨#[]⟩:=λe=>by
  have h1:=(h.2.2.2.2.2.1 j p hj).2.2.2.2;rcases h1 with ⟨h3,_⟩|⟨_,h3⟩
  ·rw[h2] at h3;cases h3
  ·have h4:=h3.1;rw[e] at h4;exact absurd h4 ag
 obtain⟨a,b,_⟩:=hp.1 j p hj;obtain⟨i,n,e1,e2,_⟩:=a.resolve_left hd;refine⟨⟨i,n,e1,e2⟩,λk t ht=>?_⟩;obtain⟨v,_,_,e3,_⟩:=(b k t ht).2.resolve_left hd;exact⟨v,e3⟩
theorem cI(d:Ad) (c:Cl) (w:World) (hr:aA w d c.raw):
  Calls Tryz.prog 30 #[Zj (Zs d c.now)] w (ar (au c) w):=by
 unfold Zs;obtain⟨HR,HB⟩:=lp;clear hr;go_enter Tryz.func30,Tryz.ntmps30;go_wp2_with fail;refine (pt c.now _).mono ?_;have auL:=@G _ @adX;exact Ao
theorem a_ {o:Nat} {v:Value} (h:w.cell? ⟨b,o,J⟩=M v):b<w.heap.size:=World.block_lt_of_cell? w _ h
def aZ:Nat->Int
 | 0=>2
 | 1=>1
 | 2=>6
 | 3=>7
 | 4=>9
 | 5=>11
 | 6=>7
 | 7=>11
 | 8=>10
 | 9=>3
 | _=>0
theorem Below.gT(h:Below B w w'):Below B w w'.drew:=⟨h.os,h.tape,h.output,h.size,h.block⟩
end Rc
namespace Gi
abbrev Rs:=Option Tmp->World->World->Prop
structure Rel (R:Rs) (sp:Tmp):Prop where
 refl:∀w,R J w w
 trans:∀{a b c},R J a b->R J b c->R J a c
 size:∀{a b},R J a b->a.heap.size<=b.heap.size
 drew:∀w,R J w w.drew
 sub:∀s {a b},R s a b->R J a b
 low:∀s {a b},¬s=J->¬s=M sp->R s a b->Below a.heap.size a b
abbrev Fact:=Value->World->Nat->Nat->Prop
abbrev Ex:=Tmp->Option Tmp
def Fact.bT(R:Rs) (ex:Ex) (d:Option Tmp) (φ:Fact):Prop:=∀s,¬s=J->¬s=d->(∀t e,d=M t->ex t=M e->¬s=M e)->∀v w w' l h,φ v w l h->R s w w'->φ v w' l h
theorem Fact.dq(R:Rs) (ex:Ex) (d:Option Tmp) (c:Value):Fact.bT R ex d (λv _ _ _=>v=c):=λ_ _ _ _ _ _ _ _ _ h _=>h
def slotFact(ex:Ex) (d:Option Tmp) (a0:Act) (known:List (Tmp×Fact)) (a:Act) (w:World) (lo hi:Tmp->Nat) (t:Tmp):Prop:=
 match known.lookup t with
 | some φ=>(ex t=J\/ex t=d)->φ (a.tmps.getD t undef) w (lo t) (hi t)
 | none=>a.tmps.getD t undef=a0.tmps.getD t undef
def rF(known:List (Tmp×Fact)) (lo hi:Tmp->Nat) (ts:List Tmp):Prop:=∀t∈ts,∀t'∈ts,(known.lookup t).isSome=Zi->(known.lookup t').isSome=Zi->¬t=t'->hi t<=lo t'\/hi t'<=lo t
def Obl(R:Rs) (sp:Tmp) (ex:Ex) (P:Program) (ops:Array Oper) (Q:Exit->Act->World->Prop) (W:World) (a0:Act) (known:List (Tmp×Fact)) (o:Oper) (φ:Fact):Prop:=
 ∀(a:Act) (w:World) (K:Act->World->Prop) (lo hi:Tmp->Nat),a.tmps.size=a0.tmps.size->R J W w->(o.dst=M sp->Below W.heap.size W w)->(∀t∈o.looksAt ops,slotFact ex o.dst a0 known a w lo hi t)->rF known lo hi (o.looksAt ops)->
  (∀v w',R o.dst w w'->φ v w' w.heap.size w'.heap.size->K (a.put o.dst v) w')->if YR o (yielded ops a.tmps)=Zi then o.wp P a w K Q else K (a.put o.dst undef) w
theorem Obl.plain {R:Rs} {ex:Ex} {known:List (Tmp×Fact)} {φ:Fact} (hg:o.guard=J)
  (h:∀(a:Act) (w:World) (K:Act->World->Prop) (lo hi:Tmp->Nat),a.tmps.size=a0.tmps.size->R J W w->(o.dst=M sp->Below W.heap.size W w)->(∀t∈looksOf o,slotFact ex o.dst a0 known a w lo hi t)->rF known lo hi (looksOf o)->(∀v w',R o.dst w w'->φ v w' w.heap.size w'.heap.size->K (a.put o.dst v) w')->o.wp P a w K Q):Obl R sp ex P ops Q W a0 known o φ:=by
 intro a w K lo hi h1 h2 h6 h3 h5 h4;have hw:YR o (yielded ops a.tmps)=Zi:=by simp[YR,hg]
 rw[if_pos hw];have hs:∀t∈looksOf o,t∈o.looksAt ops:=λt ht=>by unfold Oper.looksAt;exact List.mem_append_left _ ht
 exact h a w K lo hi h1 h2 h6 (λt ht=>h3 t (hs t ht)) (λt ht t' ht'=>h5 t (hs t ht) t' (hs t' ht')) h4
def aL(a0:Act) (known:List (Tmp×Fact)) (x:Tmp->Value):Act:=known.foldr (λp b=>b.put (M p.1) (x p.1)) a0
def ane(known:List (Tmp×Fact)) (lo hi:Tmp->Nat):Prop:=∀p∈known,∀q∈known,¬p.1=q.1->hi p.1<=lo q.1\/hi q.1<=lo p.1
def Fin(R:Rs) (ex:Ex) (P:Program) (ops:Array Oper) (Q:Exit->Act->World->Prop) (W:World) (a0:Act) (back:Option Oper) (known:List (Tmp×Fact)):Prop:=
 ∀(x:Tmp->Value) (w:World) (lo hi:Tmp->Nat),R J W w->(∀p∈known,ex p.1=J->p.2 (x p.1) w (lo p.1) (hi p.1))->ane known lo hi->kl P ops Q back (aL a0 known x) w
def kn(d:Option Tmp) (φ:Fact) (known:List (Tmp×Fact)):List (Tmp×Fact):=match d with|M t=>(t,φ) ::known|J=>known
def Grow(R:Rs) (sp:Tmp) (ex:Ex) (P:Program) (ops:Array Oper) (Q:Exit->Act->World->Prop) (W:World) (a0:Act) (back:Option Oper):List Oper->List (Tmp×Fact)->Prop
 | [],known=>Fin R ex P ops Q W a0 back known
 | o ::rest,known=> ∃φ:Fact,φ.bT R ex o.dst/\Obl R sp ex P ops Q W a0 known o φ/\Grow R sp ex P ops Q W a0 back rest (kn o.dst φ known)
theorem Grow.step {R:Rs} {ex:Ex} {known:List (Tmp×Fact)} {t:Tmp} (φ:Fact) (hd:o.dst=M t) (hφ:φ.bT R ex (M t)) (ho:Obl R sp ex P ops Q W a0 known o φ)
  (h:Grow R sp ex P ops Q W a0 back rest ((t,φ) ::known)):Grow R sp ex P ops Q W a0 back (o ::rest) known:=⟨φ,by rw[hd];exact hφ,ho,by rw[hd];exact h⟩
theorem Grow.stepC {R:Rs} {ex:Ex} {known:List (Tmp×Fact)} {t:Tmp} (c:Value) (hd:o.dst=M t) (ho:Obl R sp ex P ops Q W a0 known o (λv _ _ _=>v=c))
  (h:Grow R sp ex P ops Q W a0 back rest ((t,λv _ _ _=>v=c) ::known)):Grow R sp ex P ops Q W a0 back (o ::rest) known:=Grow.step _ hd (Fact.dq R ex _ c) ho h
theorem Grow.done {R:Rs} {ex:Ex} {known:List (Tmp×Fact)} (h:Fin R ex P ops Q W a0 back known):Grow R sp ex P ops Q W a0 back [] known:=h
section
variable {R:Rs} {sp:Tmp} {ex:Ex} {P:Program} {ops:Array Oper} {Q:Exit->Act->World->Prop} {W:World} {a0:Act} {back:Option Oper}
def knAll:List (Tmp×Fact)->List Oper->List Fact->List (Tmp×Fact)
 | known,o ::l,φ ::φs=>knAll (kn o.dst φ known) l φs
 | known,_,_=>known
theorem cM(known:List (Tmp×Fact)) (φs:List Fact):knAll known [] φs=known:=by cases φs <;> rfl
theorem Grow.spec:∀(l:List Oper) (known:List (Tmp×Fact)),Grow R sp ex P ops Q W a0 back l known->∃φs:List Fact,φs.length=l.length/\
  (∀(i:Nat) (o:Oper) (φ:Fact),l[i]?=M o->φs[i]?=M φ->φ.bT R ex o.dst/\Obl R sp ex P ops Q W a0 (knAll known (l.take i) (φs.take i)) o φ)/\Fin R ex P ops Q W a0 back (knAll known l φs)
 | [],known,h=>⟨[],rfl,λi o φ h=>by simp at h,by rw[cM];exact h⟩
 | o ::l,known,h=>by
  exact Pe
theorem kX(d:Option Tmp) (φ:Fact) (known:List (Tmp×Fact)) (t:Tmp):(kn d φ known).lookup t=if d=M t then M φ else known.lookup t:=by
 exact QW
theorem de:∀(l:List Oper) (φs:List Fact) (known:List (Tmp×Fact)) {t:Tmp} {φ:Fact},(knAll known l φs).lookup t=M φ->
  (∃(i:Nat) (o:Oper),l[i]?=M o/\o.dst=M t/\φs[i]?=M φ)\/known.lookup t=M φ
 | [],φs,known,t,φ,h=>by rw[cM] at h;exact Zk h
 | o ::l,[],known,t,φ,h=>Zk h
 | o ::l,ψ ::φs,known,t,φ,h=>by
  exact Rj
theorem df:∀(l:List Oper) (φs:List Fact) (known:List (Tmp×Fact)) {t:Tmp},(knAll known l φs).lookup t=J->
  known.lookup t=J/\∀(i:Nat) (o:Oper) (φ:Fact),l[i]?=M o->φs[i]?=M φ->o.dst≠M t
 | [],φs,known,t,h=>by rw[cM] at h;exact⟨h,λi o φ h=>by simp at h⟩
 | o ::l,[],known,t,h=>⟨h,λi o φ _ h=>by simp at h⟩
 | o ::l,ψ ::φs,known,t,h=>by
  exact aib
theorem eo:∀(l:List Oper) (φs:List Fact) (known:List (Tmp×Fact)) {p:Tmp×Fact},p∈knAll known l φs->
  (∃(i:Nat) (o:Oper),l[i]?=M o/\o.dst=M p.1/\φs[i]?=M p.2)\/p∈known
 | [],φs,known,p,h=>by rw[cM] at h;exact Zk h
 | o ::l,[],known,p,h=>Zk h
 | o ::l,ψ ::φs,known,p,h=>by
  exact ah8
theorem dU(a0:Act) (x:Tmp->Value):∀known,(aL a0 known x).tmps.size=a0.tmps.size
 | []=>rfl
 | p ::l=>by unfold aL;rw[List.foldr_cons,size_put];exact dU a0 x l
theorem dV(a0:Act) (x:Tmp->Value):∀known,(aL a0 known x).defers=a0.defers
 | []=>rfl
 | p ::l=>by unfold aL;rw[List.foldr_cons,gG];exact dV a0 x l
theorem ke(a0 a:Act) (known:List (Tmp×Fact)) (hk:∀p∈known,p.1<a0.tmps.size) (t:Tmp) (h:(∀p∈known,p.1≠t)->a.tmps.getD t undef=a0.tmps.getD t undef):
  (aL a0 known (λt=>a.tmps.getD t undef)).tmps.getD t undef=a.tmps.getD t undef:=by
 exact aim
structure At (R:Rs) (sp:Tmp) (ex:Ex) (front:List Oper) (φs:List Fact) (W:World) (a0:Act) (listed:Array Bool) (a:Act) (w:World) (lo hi:Tmp->Nat):Prop where
 size:a.tmps.size=a0.tmps.size
 defers:a.defers=a0.defers
 below:R J W w
 pre:(∀(i:Nat) (p:Oper),front[i]?=M p->p.dst=M sp->listed.getD i Zg=Zg)->Below W.heap.size W w
 known:∀(i:Nat) (o:Oper) (φ:Fact),front[i]?=M o->φs[i]?=M φ->∀t,o.dst=M t->listed.getD i Zg=Zi->(∀e,ex t=M e->∀(i':Nat) (p':Oper),front[i']?=M p'->p'.dst=M e->listed.getD i' Zg=Zg)->φ (a.tmps.getD t undef) w (lo t) (hi t)
 top:∀(i:Nat) (o:Oper),front[i]?=M o->∀t,o.dst=M t->listed.getD i Zg=Zi->hi t<=w.heap.size
 apart:∀(i:Nat) (o:Oper) (i':Nat) (o':Oper),front[i]?=M o->front[i']?=M o'->∀t t',o.dst=M t->o'.dst=M t'->listed.getD i Zg=Zi->listed.getD i' Zg=Zi->¬t=t'->hi t<=lo t'\/hi t'<=lo t
 other:∀t,(∀(i:Nat) (o:Oper),front[i]?=M o->o.dst=M t->listed.getD i Zg=Zg)->a.tmps.getD t undef=a0.tmps.getD t undef
theorem At.step {front:List Oper} {φs:List Fact} {listed:Array Bool} {a:Act} {w w':World} {lo hi:Tmp->Nat} {j:Nat} {o:Oper} {φ:Fact} {v:Value} (hR:Rel R sp) (hds:¬o.dst=J) (h:At R sp ex front φs W a0 listed a w lo hi)
  (hn:(front.filterMap (·.dst)).Nodup) (Z6:∀o∈front,∀t,o.dst=M t->t<a0.tmps.size) (arz:∀(i:Nat) (o:Oper) (φ:Fact),front[i]?=M o->φs[i]?=M φ->φ.bT R ex o.dst)
  (ho:front[j]?=M o) (hφ:φs[j]?=M φ) (hj:j<listed.size) (hb:R o.dst w w') (hv:φ v w' w.heap.size w'.heap.size):∃lo hi,At R sp ex front φs W a0 (listed.setIfInBounds j Zi) (a.put o.dst v) w' lo hi:=by
 have old:∀(i:Nat) (p:Oper) t,front[i]?=M p->p.dst=M t->¬j=i->(listed.setIfInBounds j Zi).getD i Zg=Zi->¬o.dst=M t/\listed.getD i Zg=Zi:=λi p t hp ht e hl=>
  ⟨λhd=>e (fW front hn ho hp hd ht),by simpa[Ys,YH,e] using hl⟩
 refine⟨λt=>if o.dst=M t then w.heap.size else lo t,λt=>if o.dst=M t then w'.heap.size else hi t,(size_put _ _ _).trans h.size,(gG _ _ _).trans h.defers,hR.trans h.below (hR.sub _ hb),λhx=>?_,?_,?_,?_,?_⟩
 ·have hns:¬o.dst=M sp:=λe=>by
   have:=hx j o ho e;simp[Ys,hj] at this
  have h1:=h.pre (λi p hp hd=>by
   have h2:=hx i p hp hd
   have e:¬j=i:=λe=>by subst e;exact hns (by rw[Yd (ho.symm.trans hp)];exact hd)
   simpa[Ys,YH,e] using h2)
  exact h1.trans ((hR.low _ hds hns hb).mono h1.size)
 ·intro i p ψ hp hψ t ht hl hx;by_cases e:j=i
  ·subst e;obtain rfl:o=p:=Yd (ho.symm.trans hp);obtain rfl:φ=ψ:=Yd (hφ.symm.trans hψ);simp only[if_pos ht];exact P0
  ·obtain⟨ZE,hl'⟩:=old i p t hp ht e hl;simp only[if_neg ZE];have hxo:∀e,ex t=M e->∀(i':Nat) (p':Oper),front[i']?=M p'->p'.dst=M e->¬j=i'/\listed.getD i' Zg=Zg:=λe9 he i' p' hp' hd'=>by
    have h9:=hx e9 he i' p' hp' hd';by_cases ej:j=i'
    ·subst ej;simp[Ys,hj] at h9
    ·exact⟨ej,by simpa[Ys,YH,ej] using h9⟩
   have h1:=arz i p ψ hp hψ o.dst hds (λe9=>ZE (e9.trans ht)) (λt9 e9 h8 h9 hd=>by
    obtain rfl:t=t9:=Yd (ht.symm.trans h8)
    exact (hxo e9 h9 j o ho hd).1 rfl) _ _ _ _ _ (h.known i p ψ hp hψ t ht hl' (λe9 he i' p' hp' hd'=>(hxo e9 he i' p' hp' hd').2)) hb
   exact Px
 ·intro i p hp t ht hl;by_cases e:j=i
  ·subst e;obtain rfl:o=p:=Yd (ho.symm.trans hp);simp only[if_pos ht];exact Ye _
  ·obtain⟨ZE,hl'⟩:=old i p t hp ht e hl;simp only[if_neg ZE];exact Yo (h.top i p hp t ht hl') (hR.size (hR.sub _ hb))
 ·intro i p i' p' hp hp' t t' ht ht' hl hl' ZE;by_cases e:j=i
  ·subst e;obtain rfl:o=p:=Yd (ho.symm.trans hp);by_cases e':j=i'
   ·subst e';obtain rfl:o=p':=Yd (ho.symm.trans hp');exact absurd (Yd (ht.symm.trans ht')) ZE
   ·obtain⟨ar4,av0⟩:=old i' p' t' hp' ht' e' hl';simp only[if_pos ht,if_neg ar4];exact Zk (h.top i' p' hp' t' ht' av0)
  ·obtain⟨av1,hl1⟩:=old i p t hp ht e hl;by_cases e':j=i'
   ·subst e';obtain rfl:o=p':=Yd (ho.symm.trans hp');simp only[if_pos ht',if_neg av1];exact Zl (h.top i p hp t ht hl1)
   ·obtain⟨ar4,av0⟩:=old i' p' t' hp' ht' e' hl';simp only[if_neg av1,if_neg ar4];exact h.apart i p i' p' hp hp' t t' ht ht' hl1 av0 ZE
 ·exact aik
theorem Fin.last {front:List Oper} {φs:List Fact} {listed:Array Bool} {a:Act} {w:World} {lo hi:Tmp->Nat} (hf:Fin R ex P ops Q W a0 back (knAll [] front φs)) (hlen:φs.length=front.length) (Z6:∀o∈front,∀t,o.dst=M t->t<a0.tmps.size)
  (h:At R sp ex front φs W a0 listed a w lo hi) (ZL:∀i,i<front.length->listed.getD i Zg=Zi):kl P ops Q back a w:=by
 have h1:=hf (λt=>a.tmps.getD t undef) w lo hi h.below (λp hp hpe=>by
  rcases eo front φs [] hp with ⟨i,o,h1,h2,h3⟩|h1
  ·exact h.known i o p.2 h1 h3 p.1 h2 (ZL i (Yc.1 h1).1) (λe he=>by rw[hpe] at he;cases he)
  ·simp at h1) (λp hp q hq ZE=>by
  rcases eo front φs [] hp with ⟨i,o,h1,h2,h3⟩|h1
  ·rcases eo front φs [] hq with ⟨i',o',g1,g2,g3⟩|g1
   ·exact h.apart i o i' o' h1 g1 p.1 q.1 h2 g2 (ZL i (Yc.1 h1).1) (ZL i' (Yc.1 g1).1) ZE
   ·simp at g1
  ·simp at h1)
 exact aiy
theorem dJ {front:List Oper} {φs:List Fact} (hR:Rel R sp) (hds:∀o∈front,¬o.dst=J) (an_:ops=(front++back.toList).toArray) (hB:growB a0.tmps.size front back=Zi) (hlen:φs.length=front.length)
  (hs:∀(i:Nat) (o:Oper) (φ:Fact),front[i]?=M o->φs[i]?=M φ->φ.bT R ex o.dst/\Obl R sp ex P ops Q W a0 (knAll [] (front.take i) (φs.take i)) o φ) (hf:Fin R ex P ops Q W a0 back (knAll [] front φs)):
  ∀(fuel:Nat) (listed:Array Bool) (a:Act) (w:World),listed.size=ops.size->listed.toList.count Zg<=fuel->(∀o,back=M o->listed.getD front.length Zg=Zg)->(∃lo hi,At R sp ex front φs W a0 listed a w lo hi)->wpAny P .any ops Q fuel listed a w:=by
 have arb:=@G _ @adl;exact qC
end
theorem cB {R:Rs} {ex:Ex} (hR:Rel R sp) {P:Program} {id:Nat} {Q:Exit->Act->World->Prop} {a0:Act} {W:World} {l:List Oper} {front:List Oper} {back:Option Oper} (hm:P.follows .mixedOrders=Zi) (hl:l=front++back.toList) (hds:front.all (λo=>o.dst.isSome)=Zi) (hB:growB a0.tmps.size front back=Zi)
  (h:Grow R sp ex P l.toArray Q W a0 back front []):(Code.region id l.toArray Zi).wp P Q a0 W:=by
 obtain⟨φs,hlen,hs,hf⟩:=Grow.spec _ _ h;refine wp_region_any hm (dJ hR (λo ho e=>by have:=List.all_eq_true.1 hds o ho;rw[e] at this;cases this) (by rw[hl]) hB hlen hs hf _ _ _ _ aF ?_ (λo ho=>?_) ⟨λ_=>0,λ_=>0,rfl,rfl,hR.drew _,λ_=>(Yh _ _).drew,λi o φ h1 h2 t ht hx _=>?_,λi o h1 t ht hx=>?_,λi o i' o' h1 h2 t t' ht ht' hx=>?_,λt _=>rfl⟩)
 ·exact qS
 ·exact bL _ _
 ·rw[bL] at hx;cases hx
 ·rw[bL] at hx;cases hx
 ·rw[bL] at hx;cases hx
theorem bS {R:Rs} {ex:Ex} (hR:Rel R sp) {P:Program} {id:Nat} {Q:Exit->Act->World->Prop} {a0:Act} {W:World} {l:List Oper} {front:List Oper} {last:Oper} (hm:P.follows .mixedOrders=Zi) (hf:l.dropLast=front) (hb:l.getLast?=M last) (hds:front.all (λo=>o.dst.isSome)=Zi) (hB:growB a0.tmps.size front (M last)=Zi)
  (h:Grow R sp ex P l.toArray Q W a0 (M last) front []):(Code.region id l.toArray Zi).wp P Q a0 W:=by
 refine cB hR hm ?_ hds hB h;exact xj
end Gi
variable {ex:Gi.Ex}
namespace Rc
structure Sm (c:Cl):Prop where
 n:c.ns.length<=8
 ns:∀(j:Nat) x,c.ns[j]?=M x->x.zs.length<=8001
 k:c.ks.length<=8
 v:c.vs.length<=8
 vs:∀(j:Nat) x,c.vs[j]?=M x->x.zs.length<=8001
 x:c.xs.length<=8
 p:c.ps.length<=8
 ps:∀(j:Nat) x,c.ps[j]?=M x->x.zs.length<=8001
theorem au.sm {c:Cl} (h:au c):Sm c:=by
 obtain⟨_,⟨⟨h1,h2,_⟩,⟨h3,_⟩,⟨h4,h5,_⟩,⟨h6,_⟩,⟨h7,h8,_⟩⟩,_⟩:=h;refine⟨by omega,λj x hj=>?_,by omega,by omega,λj x hj=>?_,by omega,by omega,λj x hj=>?_⟩
 ·have:=(h2 j x hj).2.2.2.2.2.1;omega
 ·have:=(eY (h5 j x hj).2.2.2.2.2.2).1;omega
 ·have:=(h8 j x hj).2.2.2.1.1;omega
def eK(r:List Fv):List Value:=r.map λf=>f.val.getD undef
def iA(r:List Fv):Prop:=∀(i:Nat) f,r[i]?=M f->∃v,f.val=M v
theorem Fv.Is.val {f:Fv} {v:Value} (h:f.Is w v) (hu:f.val=M u):v=u/\f.Fr w 0 (λ_=>False) v:=by
 cases f with
 | s t=>cases hu;exact⟨h.1,h⟩
 | i n=>cases hu;exact⟨h,h⟩
 | b x=>cases hu;exact⟨h,h⟩
 | l zs=>cases hu
theorem Fv.Fr.any {f:Fv} {v:Value} {h h':Nat} {S':Nat->Prop} (k:f.Fr w h S v) (hu:f.val=M u):f.Fr w' h' S' v:=by
 cases f with
 | l zs=>cases hu
 | _=>exact k
theorem RP {r:List Fv} (hf:iA r) {i:Nat} {f:Fv} (hi:r[i]?=M f):∃u,f.val=M u/\(eK r)[i]?=M u:=by
 obtain⟨u,hu⟩:=hf i f hi;exact⟨u,hu,by rw[eK,Yt,hi];simp[hu]⟩
theorem Ct {r:List Fv} (hf:iA r) {i:Nat} {u:Value} (hi:(eK r)[i]?=M u):∃f,r[i]?=M f/\f.val=M u:=by
 rw[eK,Yt] at hi;obtain⟨f,h1,h2⟩:=YE.1 hi;obtain⟨v,hv⟩:=hf i f h1;rw[hv] at h2;exact⟨f,h1,by rw[hv];simpa using h2⟩
section
variable {w:World} {a:Option Addr} {len cap m:Nat} {rs:List (List Fv)}
theorem kv(hm:∀(j:Nat) r,rs[j]?=M r->r.length=m):∀(j:Nat) vs,(rs.map eK)[j]?=M vs->vs.length=m:=by
 intro j vs hj;rw[Yt] at hj;obtain⟨r,h1,rfl⟩:=YE.1 hj;rw[eK,Yq];exact hm j r h1
theorem pH {b o:Nat} (h:aV w (M ⟨b,o,J⟩) len cap m rs) (hm:∀(j:Nat) r,rs[j]?=M r->r.length=m/\iA r):∀(k:Nat) u,(rs.map eK).flatten[k]?=M u->w.cell? ((⟨b,o,J⟩:Addr).add k)=M u:=by
 intro k u hk;obtain⟨j,i,vs,h1,h2,rfl⟩:=ku (kv λj r hj=>(hm j r hj).1) hk;rw[Yt] at h1;obtain⟨r,h3,rfl⟩:=YE.1 h1;obtain⟨f,h4,h5⟩:=Ct (hm j r h3).2 h2;rcases h.2.2.2 with rfl|⟨b',o',e,_,hc⟩
 ·simp at h3
 ·cases e;obtain⟨v,h6,h7⟩:=hc j r h3 i f h4;rw[Ym,<-Nat.add_assoc,h6,(h7.val h5).1]
theorem iS(h:aV w a len cap m rs) (hm:∀(j:Nat) r,rs[j]?=M r->r.length=m/\iA r) (w':World) (S:Nat->Prop):aR w' S m rs (rs.map eK) (λ_ _=>0):=by
 refine⟨by simp,kv λj r hj=>(hm j r hj).1,λj r hj=>(hm j r hj).1,λj r vs hj hv i f hi=>?_,λj r i zs j' r' i' ZB hj hi=>?_⟩
 ·rw[Yt,hj] at hv;cases hv;obtain⟨u,h1,h2⟩:=RP (hm j r hj).2 hi;rcases h.2.2.2 with rfl|⟨b',o',e,_,hc⟩
  ·simp at hj
  ·obtain⟨v,h6,h7⟩:=hc j r hj i f hi;obtain⟨rfl,h8⟩:=h7.val h1;exact⟨v,h2,h8.any h1⟩
 ·obtain⟨v,hv⟩:=(hm j r hj).2 i _ hi;cases hv
end
theorem A9(x:Kd):(kdF x).length=4/\iA (kdF x):=⟨rfl,λi f h=>by
 rcases i with _|_|_|_|i <;> first|(cases h;exact⟨_,rfl⟩)|(simp[kdF] at h)⟩
theorem yy(x:Xd):(xdF x).length=5/\iA (xdF x):=⟨rfl,λi f h=>by
 rcases i with _|_|_|_|_|i <;> first|(cases h;exact⟨_,rfl⟩)|(simp[xdF] at h)⟩
theorem ki {F:α->List Fv} (hF:∀x,(F x).length=m/\iA (F x)) (xs:List α):∀(j:Nat) r,(xs.map F)[j]?=M r->r.length=m/\iA r:=by
 intro j r hj;rw[Yt] at hj;obtain⟨x,_,rfl⟩:=YE.1 hj;exact hF x
structure Co where
 c:Cl
 n:ByteArray
 p:Int
def cl0:Cl:=⟨[],[],[],[],[],0⟩
def co0(p:Int):Co:=⟨cl0,⟨#[]⟩,p⟩
def ad0:Ad:=⟨J,0,0,J,0,0,J,0,0,J,0,0,J,0,0⟩
theorem alh(w:World) (S:Nat->Prop):eL w ad0 cl0.raw S:=⟨λ_=>1,av.nil _ _ _ _ _ (by decide),av.nil _ _ _ _ _ (by decide),av.nil _ _ _ _ _ (by decide),av.nil _ _ _ _ _ (by decide),av.nil _ _ _ _ _ (by decide)⟩
def wo(nm:α->ByteArray) (t:ByteArray) (xs:List α):List α:=xs.filter λx=> !((nm x).toList==t.toList)
theorem wj {k:Nat} {x:α} (h:xs[k]?=M x) (hn:((nm x).toList==t.toList)=Zg):wo nm t (xs.take (k+1))=wo nm t (xs.take k)++[x]:=by
 unfold wo;rw[YM,h,List.filter_append];simp[hn]
theorem aht {k:Nat} {x:α} (h:xs[k]?=M x) (hn:((nm x).toList==t.toList)=Zi):wo nm t (xs.take (k+1))=wo nm t (xs.take k):=by
 unfold wo;rw[YM,h,List.filter_append];simp[hn]
theorem kP(w:World) (t t' ty e e':TypeId) (i:TypeInfo) (ht:Tryz.prog.underlying t=M (.slice e)) (ht':Tryz.prog.underlying t'=M (.slice e')) (hi:Tryz.prog.info? e=M i) (a:Option Addr) (l c:Nat) (b:Value):(YY #[t,t'] ty #[U a l c,b]).run Tryz.prog w=(YY #[t,t] ty #[U a l c,b]).run Tryz.prog w:=by
 simp[YY,run_underlying ht,run_underlying ht',sizeOf,typeInfo,hi]
theorem ck {a:Act} (hgd:o.guard=J) (s x:Operand) (t t':TypeId)
  (ho:o.op=.call { callee:=.builtin .append,args:=#[s,x],argTypes:=#[t,t'] })
  (base:Nat) (e e':TypeId) (i:TypeInfo) (z:Value) (size bytes:Nat) (ht:Tryz.prog.underlying t=M (.slice e)) (ht':Tryz.prog.underlying t'=M (.slice e')) (hi:Tryz.prog.info? e=M i) (hz:i.zero=M z)
  (Υ:i.size=size) (hby:i.bytes=bytes) (hzs:z.cells.size=size) (Zq:0<size)
  (v:Value) (n:Nat) (xs:List Value) (hs:a.eval s=v) (ζ:w.ownsRow base e size v n xs)
  (ad:Addr) (m c:Nat) (news:List Value) (hx:a.eval x=U (M ad) m c) (hl:news.length=m*size) (Φ:∀j u,news[j]?=M u->w.cell? (ad.add j)=M u) (h1:∀u∈news,u.oneCell'=Zi)
  (h63:n+m<=maxLen) (an6:(n+m)*bytes<=140737488355328) (aoJ:base<=w.heap.size)
  (h:∀v' w',w'.ownsRow base e size v' (n+m) (xs++news)->w.grownBy w' v.ownBlock->wpList Tryz.prog ops Q rest (a.put o.dst v') w'):wpList Tryz.prog ops Q (o ::rest) a w:=by
 have auF:=@G _ @adz;exact Al
def aQ(p:Nat) (x:α) (xs:List α):List α:=xs.take p++[x]++xs.drop p
theorem di {p:Nat} {x:α} (h:p<=xs.length):(aQ p x xs).length=xs.length+1:=by
 simp only[aQ,YP,YF,List.length_drop,Y4,List.length_nil];omega
theorem fj {β:Type} (f:α->β) (p:Nat) (x:α) (xs:List α):(aQ p x xs).map f=aQ p (f x) (xs.map f):=by simp[aQ,List.map_take,List.map_drop]
theorem mj {p:Nat} {x:α} (h:p<=xs.length) (j:Nat) (hj:j<xs.length+1):(aQ p x xs)[j]?=(xs++[x])[if j<p then j else if j=p then xs.length else j - 1]?:=by
 unfold aQ;by_cases h1:j<p
 ·rw[if_pos h1,List.append_assoc,Yu oU,Yu af,YC,if_pos h1]
 ·rw[if_neg h1];by_cases h2:j=p
  ·subst h2;have hl:(xs.take j).length=j:=by rw[YF,Nat.min_eq_left h]
   have e1:(xs.take j++[x]++xs.drop j)[j]?=M x:=by
    rw[List.append_assoc,List.getElem?_append_right af,hl,Nat.sub_self];rfl
   rw[e1,if_pos rfl];simp
  ·rw[if_neg h2,List.getElem?_append_right (by simp only[YP,YF,Y4,List.length_nil];omega),Yu af,YN];congr 1;simp only[YP,YF,Y4,List.length_nil];omega
theorem aR.ins {rs:List (List Fv)} (h:aR w S m rs vss H) {r:List Fv} {vs:List Value} {hh:Nat->Nat} (hr:r.length=m) (hvs:vs.length=m) (hc:∀(i:Nat) f,r[i]?=M f->∃v,vs[i]?=M v/\f.Fr w (hh i) S v)
  (hn:∀(i:Nat) zs,r[i]?=M (.l zs)->zs≠[]->∀(j:Nat) r' (i':Nat) ZB,rs[j]?=M r'->r'[i']?=M (.l ZB)->ZB≠[]->¬H j i'=hh i)
  (h1:∀(i i':Nat) zs ZB,r[i]?=M (.l zs)->zs≠[]->r[i']?=M (.l ZB)->ZB≠[]->i=i') {p:Nat} (hp:p<=rs.length):∃H',aR w S m (aQ p r rs) (aQ p vs vss) H':=by
 have hl:=h.len;have e1:(aQ p r rs).length=rs.length+1:=di hp;have e2:(aQ p vs vss).length=vss.length+1:=di af;refine⟨_,(h.push hr hvs hc hn h1).sel (λj=>if j<p then j else if j=p then rs.length else j - 1) af (λj hj=>mj hp j af) (λj hj=>?_) (λj j' hj Λ e=>?_)⟩
 ·have:=mj (x:=vs) (xs:=vss) (p:=p) af j af;rw[hl] at this;exact this
 ·split at e <;> split at e
  ·exact e
  all_goals (try split at e) <;> (try split at e) <;> omega
end Rc
namespace Um
def ul(k:Int) (s:ByteArray):Lit:=.string (keyBytes [.int O k,.string s.data.toList])
section
variable {w:World} {b clock:Nat} {es:Array MapEntry}
end
end Um
namespace Rc
theorem rZ(h:w.heap[g]?=M (Ze cs T f)):Below w.heap.size w (w.setRow g cs):=by
 refine⟨rfl,rfl,rfl,by simp,λk hk=>?_⟩;by_cases e:k=g
 ·subst e;rw[setRow_heap w k cs cs T f h,h]
 ·exact setRow_other w g k cs e
theorem ee(t ty e:TypeId) (i:TypeInfo) (ht:Tryz.prog.underlying t=M (.slice e)) (hi:Tryz.prog.info? e=M i) (g cap:Nat):
  (YY #[t,t] ty #[U (M ⟨g,0,J⟩) 0 0,U J 0 cap]).run Tryz.prog w=.ok (U (M ⟨g,0,J⟩) 0 0) w:=by
 simp[YY,run_underlying ht,sizeOf,typeInfo,hi,Builtin.lenOf,Builtin.firstCells,storeCells]
theorem bG.here {l c:Nat} {S':Nat->Prop} (h:bG w (M ⟨g,0,J⟩) l c zs S) (hS:S' g):bG w (M ⟨g,0,J⟩) l c zs S':=
 ⟨h.1,h.2.imp id λ⟨g',cur,e,_,hg⟩=>by cases e;exact⟨g,cur,rfl,hS,hg⟩⟩
theorem kQ {g0:Nat} (ty:TypeId) (hg:w.heap[g0]?=M (Ze #[] 9 (0,0))) (hr:aw w va len cap zs) (hl:len<=8001):
  ∃a l c w',(YY #[35,35] ty #[U (M ⟨g0,0,J⟩) 0 0,U va len cap]).run Tryz.prog w=.ok (U a l c) w'/\bG w' a l c zs (λk=>k=g0\/w.heap.size<=k)/\Below w.heap.size w w':=by
 obtain⟨i0,hi,ZO,η,ZP⟩:=info_parts eQ;have hzl:=hr.1;rcases Nat.eq_zero_or_pos len with h0|h0
 ·subst h0;obtain rfl:zs=[]:=YO hzl;cases va with
  | none=>exact⟨_,_,_,_,ee 35 ty 9 i0 Tryz.underlying35 hi g0 cap,⟨⟨rfl,Ye _,by omega,λj x hx=>by simp at hx,Zl rfl⟩,Zl rfl⟩,Yh _ _⟩
  | some ad=>
   have h:=run_append_room (P:=Tryz.prog) w 35 ty 9 i0 Tryz.underlying35 hi g0 0 0 #[] hg ad 0 cap [] aF (λj u hu=>by simp at hu) (λu hu=>by simp at hu) af aF;exact⟨_,_,_,_,h,⟨⟨rfl,Ye _,by omega,λj x hx=>by simp at hx,Zl rfl⟩,Zl rfl⟩,by simpa using rZ hg⟩
 ·cases va with
  | none=>
   rcases hr.2.2.2.2 with h|⟨b,o,e,_⟩
   ·subst h;simp at hzl;omega
   ·cases e
  | some ad=>
   have h:=run_append_grow (P:=Tryz.prog) w 35 ty 9 i0 (I ⟨#[]⟩) Tryz.underlying35 hi ZO ⟨g0,0,J⟩ 0 0 [] aF (λj u hu=>by simp at hu) ad len cap (zs.map Yn) (by rw[η];simpa using hzl) (Ap.A6 hr) af af (growslice_fits af (by rw[ZP];omega));obtain⟨v',w',hr2,h2,h3,h4⟩:=run_append_own (P:=Tryz.prog) w (base:=0) 35 ty 9 i0 (I ⟨#[]⟩) 1 16 Tryz.underlying35 hi ZO η ZP rfl ag (U (M ⟨g0,0,J⟩) 0 0) 0 [] ⟨rfl,Zk ⟨g0,0,#[],rfl,YJ _,hg,Ye _,by unfold maxLen;omega,rfl,rfl⟩⟩ ad len cap (zs.map Yn) (by simpa using hzl) (Ap.A6 hr) (λu hu=>by obtain⟨x,_,rfl⟩:=List.mem_map.1 hu;rfl) br af (YJ _);rw[h] at hr2
   cases hr2
   rw[Yp,List.nil_append] at h2;obtain⟨a',c',e,hT⟩:=bG.fh h2 hr.2.2.2.1;have apK:Below w.heap.size w (w.drew.alloc (Ze (([]:List Value).toArray++(zs.map Yn).toArray++Builtin.zeroCells (Yn ⟨#[]⟩).cells (grownCap w (0+len) 0 9 - (0+len))) 9)):=⟨rfl,rfl,rfl,by simp,λk hk=>heap_alloc_old w.drew _ (by simpa using hk)⟩;simp only[Yp] at e h apK ⊢
   cases e
   exact⟨_,_,_,_,h,hT.here (Zk (Ye _)),apK⟩
theorem pQ {a:Act} (hgd:o.guard=J) (s x:Operand) (ho:o.op=.call { callee:=.builtin .append,args:=#[s,x],argTypes:=#[35,35] }) (g0:Nat) (hs:a.eval s=U (M ⟨g0,0,J⟩) 0 0) (hg:w.heap[g0]?=M (Ze #[] 9 (0,0)))
  (va:Option Addr) (len cap:Nat) (hx:a.eval x=U va len cap) (zs:List ByteArray) (hr:aw w va len cap zs) (hl:len<=8001)
  (h:∀a' l c w',bG w' a' l c zs (λk=>k=g0\/w.heap.size<=k)->Below w.heap.size w w'->wpList Tryz.prog ops Q rest (a.put o.dst (U a' l c)) w'):wpList Tryz.prog ops Q (o ::rest) a w:=by
 refine wpList_plain hgd λK hK=>?_;obtain⟨a',l,c,w',aoQ,h1,h2⟩:=kQ o.type hg hr hl;unfold Oper.wp execOp;simp only[ho,resolve,invoke,builtin,Sem.run_bind,Sem.run_pure,Result.andThen_ok,List.map_toArray,List.map_cons,List.map_nil,hs,hx,aoQ];exact hK _ _ (h a' l c w' h1 h2)
theorem lJ {g0:Nat} {bytes:Nat} {rs:List (List Fv)} (t ty T:TypeId) (i:TypeInfo) (z:Value) (ht:Tryz.prog.underlying t=M (.slice T)) (hi:Tryz.prog.info? T=M i) (hz:i.zero=M z) (Υ:i.size=m) (hby:i.bytes=bytes) (hzs:z.cells.size=m) (Zq:0<m) (hT:¬T=9) (hg:w.heap[g0]?=M (Ze #[] T (0,0)))
  (hr:aV w va len cap m rs) (hm:∀(j:Nat) r,rs[j]?=M r->r.length=m/\iA r) (hl:len<=8) (hb8:bytes<=1000):
  ∃a c w',(YY #[t,t] ty #[U (M ⟨g0,0,J⟩) 0 0,U va len cap]).run Tryz.prog w=.ok (U a len c) w'/\av w' a len c m T rs (λk=>k=g0\/w.heap.size<=k)/\Below w.heap.size w w':=by
 rcases Nat.eq_zero_or_pos len with h0|h0
 ·subst h0;obtain rfl:rs=[]:=YO hr.1;cases va with
  | none=>exact⟨_,_,_,ee t ty T i ht hi g0 cap,av.nil _ _ _ _ _ af,Yh _ _⟩
  | some ad=>
   have h:=run_append_room (P:=Tryz.prog) w t ty T i ht hi g0 0 0 #[] hg ad 0 cap [] aF (λj u hu=>by simp at hu) (λu hu=>by simp at hu) af aF;exact⟨_,_,_,h,av.nil _ _ _ _ _ af,by simpa using rZ hg⟩
 ·have hlen:((rs.map eK).flatten).length=len*m:=by rw[eH (kv λj r hj=>(hm j r hj).1),Yq,hr.1]
  obtain⟨ad,rfl,Φ⟩:∃ad,va=M ad/\∀(j:Nat) u,((rs.map eK).flatten)[j]?=M u->w.cell? (ad.add j)=M u:=by
   rcases hr.2.2.2 with h|⟨b,o,rfl,_⟩
   ·subst h;have:=hr.1;simp at this;omega
   ·exact⟨_,rfl,pH hr hm⟩
  have h:=run_append_grow (P:=Tryz.prog) w t ty T i z ht hi hz ⟨g0,0,J⟩ 0 0 [] aF (λj u hu=>by simp at hu) ad len cap (rs.map eK).flatten (by rw[Υ];exact hlen) Φ af af (growslice_fits af (by rw[hby];have:(0+len)*bytes<=8*1000:=Nat.mul_le_mul af hb8;omega));obtain⟨v',w',hr2,h2,h3,h4⟩:=run_append_own (P:=Tryz.prog) w (base:=0) t ty T i z m bytes ht hi hz Υ hby hzs Zq (U (M ⟨g0,0,J⟩) 0 0) 0 [] ⟨by simp,Zk ⟨g0,0,#[],rfl,YJ _,hg,Ye _,by unfold maxLen;omega,by simp,by simp⟩⟩ ad len cap (rs.map eK).flatten hlen Φ (iS hr hm w (λ_=>True)).one br (by have:(0+len)*bytes<=8*1000:=Nat.mul_le_mul af hb8;omega) (YJ _);rw[h] at hr2;cases hr2;rw[Yp,List.nil_append] at h2;obtain⟨a',c',e,hR⟩:=(iS hr hm _ (λk=>k=g0\/w.heap.size<=k)).own h2 hr.1.symm hT (λg hg=>by simp[YK] at hg;exact Zk af);have apK:Below w.heap.size w (w.drew.alloc (Ze (([]:List Value).toArray++((rs.map eK).flatten).toArray++Builtin.zeroCells z.cells (grownCap w (0+len) 0 T - (0+len))) T)):=⟨rfl,rfl,rfl,by simp,λk hk=>heap_alloc_old w.drew _ (by simpa using hk)⟩;rw[hr.1] at e hR;simp only[Yp] at e h apK hR ⊢;cases e;exact⟨_,_,_,h,hR,apK⟩
theorem rJ {a:Act} {K:Act->World->Prop} {g0:Nat} {bytes:Nat} {rs:List (List Fv)} (s x:Operand) (t T:TypeId) (ho:o.op=.call { callee:=.builtin .append,args:=#[s,x],argTypes:=#[t,t] }) (i:TypeInfo) (z:Value) (ht:Tryz.prog.underlying t=M (.slice T)) (hi:Tryz.prog.info? T=M i) (hz:i.zero=M z) (Υ:i.size=m) (hby:i.bytes=bytes) (hzs:z.cells.size=m) (Zq:0<m) (hT:¬T=9) (hs:a.eval s=U (M ⟨g0,0,J⟩) 0 0) (hg:w.heap[g0]?=M (Ze #[] T (0,0)))
  (hx:a.eval x=U va len cap) (hr:aV w va len cap m rs) (hm:∀(j:Nat) r,rs[j]?=M r->r.length=m/\iA r) (hl:len<=8) (hb8:bytes<=1000)
  (h:∀a' c' w',av w' a' len c' m T rs (λk=>k=g0\/w.heap.size<=k)->Below w.heap.size w w'->K (a.put o.dst (U a' len c')) w'):o.wp Tryz.prog a w K Q:=by
 obtain⟨a',c',w',aoQ,h1,h2⟩:=lJ t o.type T i z ht hi hz Υ hby hzs Zq hT hg hr hm hl hb8;unfold Oper.wp execOp;simp only[ho,resolve,invoke,builtin,Sem.run_bind,Sem.run_pure,Result.andThen_ok,List.map_toArray,List.map_cons,List.map_nil,hs,hx,aoQ];exact h a' c' w' h1 h2
theorem SA {o p:Obj} (h:Below (w.heap.size+1+1) ((w.alloc o).alloc p) w'):w'.heap[w.heap.size]?=M o/\w'.heap[w.heap.size+1]?=M p/\Below w.heap.size w w':=dK (by rw[cW,cW];exact h)
theorem jb(w:World) (n:Nat) (hn:w.heap.size=n) (vs:List Value) (T:TypeId):∀(j:Nat) u,vs[j]?=M u->(w.alloc (Ze vs.toArray T)).cell? ((⟨n,0,J⟩:Addr).add j)=M u:=by
 subst hn;exact en w vs T
theorem anC {u0 u1 u2 u3 u4 u5:Value} (h:w.heap[b]?=M (Ze #[u0,u1,u2,u3,u4,u5] T (0,0))):
  ((((((w.setCell ⟨b,0,J⟩ v0).setCell ⟨b,1,J⟩ v1).setCell ⟨b,2,J⟩ v2).setCell ⟨b,3,J⟩ v3).setCell ⟨b,4,J⟩ v4).setCell ⟨b,5,J⟩ v5).heap[b]?=M (Ze #[v0,v1,v2,v3,v4,v5] T (0,0)):=
 an (an (an (an (an (an h v0) v1) v2) v3) v4) v5
theorem gB {k:Nat} (hk:¬k=b):
  ((((((w.setCell ⟨b,0,J⟩ v0).setCell ⟨b,1,J⟩ v1).setCell ⟨b,2,J⟩ v2).setCell ⟨b,3,J⟩ v3).setCell ⟨b,4,J⟩ v4).setCell ⟨b,5,J⟩ v5).heap[k]?=w.heap[k]?:=by
 rw[Ya _ _ _ _ hk,Ya _ _ _ _ hk,Ya _ _ _ _ hk,Ya _ _ _ _ hk,Ya _ _ _ _ hk,Ya _ _ _ _ hk]
theorem av.dZ {a:Option Addr} {T':TypeId} {rs:List (List Fv)} (h:av w a len cap m T rs S) {b:Nat} {cs:Array Value} (hb:w.heap[b]?=M (Ze cs T' (0,0))) (h1:¬T'=T) (h2:¬T'=9):av w a len cap m T rs (λk=>S k/\¬k=b):=by
 obtain⟨a1,a2,a3,a4⟩:=h;refine⟨a1,a2,a3,a4.imp id ?_⟩;rintro⟨g,cur,H,e,h5⟩;refine⟨g,cur,H,e,h5.blk,⟨h5.inS,λq=>?_⟩,h5.len,λj r hj i f hi=>?_,h5.inj⟩
 ·subst q;have:=h5.blk;rw[hb] at this;cases this;exact h1 rfl
 ·obtain⟨v,q1,q2⟩:=h5.cell j r hj i f hi;refine⟨v,q1,?_⟩;cases f with
  | l zs=>
   obtain⟨a',l',c',k1,k2,k3,k4,k5,k6⟩:=q2;refine⟨a',l',c',k1,k2,k3,k4,k5,k6.imp id ?_⟩;rintro⟨z1,z2,z3,cu,z4,z5⟩;refine⟨z1,⟨z2,λq=>?_⟩,z3,cu,z4,z5⟩;rw[q] at z4;rw[hb] at z4
   cases z4
   exact h2 rfl
  | _=>exact q2
theorem vA {n:Nat} {T':TypeId} {v:Value} {xs:List Value} {i:Nat} (h:w.ownsRow base T m v n xs) (hb:w.heap[b]?=M (Ze cs T' (0,0))) (hT:¬T'=T):(w.setCell ⟨b,i,J⟩ u).ownsRow base T m v n xs:=by
 refine⟨h.1,h.2.imp id ?_⟩;rintro⟨g,cap,cur,h1,h2,h3,h4⟩;refine⟨g,cap,cur,h1,h2,(Ya _ _ _ _ (λe=>?_)).trans h3,h4⟩;subst e;rw[hb] at h3;cases h3;exact hT rfl
theorem aR.set {rs:List (List Fv)} (h:aR w S m rs vss H) {b i:Nat} {cs:Array Value} {T':TypeId} {u:Value} (hb:w.heap[b]?=M (Ze cs T' (0,0))) (hT:¬T'=9):aR (w.setCell ⟨b,i,J⟩ u) S m rs vss H:=
 h.ay (λk cu _ q=>Ya _ _ _ _ (λe=>by subst e;rw[hb] at q;cases q;exact hT rfl)) (λ_ _ s=>s)
theorem aJ.vC(hg:W.grownBy w vb) (h:∀g,vb=M g->S g):aJ S W w:=⟨hg.os,hg.tape,hg.output,hg.size,λk hk hn=>hg.block k hk (λe=>hn (h k e.symm))⟩
theorem az {n:Nat} {v:Value} {xs:List Value} (h:w.ownsRow base T m v n xs):∃a l c,v=U a l c:=by
 rcases h.2 with ⟨rfl,_⟩|⟨g,cap,cur,rfl,_⟩
 ·exact⟨_,_,_,rfl⟩
 ·exact⟨_,_,_,rfl⟩
abbrev Cps(b:Nat) (X:World):Nat->Prop:=λk=>k=b\/X.heap.size<=k
theorem yk {X wr w5:World} {b3 k:Nat} {TC:TypeId} {v:Value} {xs:List Value} (hO:wr.ownsRow X.heap.size T m v k xs) (hBo:wr.heap[b3]?=M (Ze cs TC (0,0))) (Zy:b3<X.heap.size) (hb:Below wr.heap.size wr W) (hg:W.grownBy w5 v.ownBlock):w5.heap[b3]?=M (Ze cs TC (0,0)):=
 (hg.block b3 (Yl (ae hBo) hb.size) (λe=>by have:=(hO.lt b3 e.symm).1;omega)).trans ((hb.block _ (ae hBo)).trans hBo)
theorem Bj {X wr w5:World} {b3 k f:Nat} {TC:TypeId} {v v':Value} {rs:List (List Fv)} {r:List Fv} {vs:List Value} {hh:Nat} (hK:aJ (Cps b3 X) X wr) (hO:wr.ownsRow X.heap.size T m v k vss.flatten) (hV:aR wr (λk=>X.heap.size<=k) m rs vss H) (hBo:wr.heap[b3]?=M (Ze cs TC (0,0))) (Zy:b3<X.heap.size)
  (hb:Below wr.heap.size wr W) (ζ:w5.ownsRow X.heap.size T m v' (k+1) (vss.flatten++vs)) (hg:W.grownBy w5 v.ownBlock) (hT:¬T=9) (hTC:¬TC=T) (hTS:¬TC=9) (hr:r.length=m) (hvs:vs.length=m) (hc:∀(i:Nat) f,r[i]?=M f->∃v,vs[i]?=M v/\f.Fr W hh (λk=>X.heap.size<=k) v) (hfr:∀(i:Nat) zs,r[i]?=M (.l zs)->zs≠[]->wr.heap.size<=hh)
  (h1:∀(i i':Nat) zs ZB,r[i]?=M (.l zs)->zs≠[]->r[i']?=M (.l ZB)->ZB≠[]->i=i'):
  aJ (Cps b3 X) X (w5.setCell ⟨b3,f,J⟩ v')/\(w5.setCell ⟨b3,f,J⟩ v').ownsRow X.heap.size T m v' (k+1) (vss++[vs]).flatten/\(∃H',aR (w5.setCell ⟨b3,f,J⟩ v') (λk=>X.heap.size<=k) m (rs++[r]) (vss++[vs]) H')/\(w5.setCell ⟨b3,f,J⟩ v').heap[b3]?=M (Ze (cs.setIfInBounds f v') TC (0,0)):=by
 have ZI:=yk hO hBo Zy hb hg;refine⟨?_,?_,⟨_,(hV.app hb (cv hO hb) hT hg hr hvs hc hfr h1).set ZI hTS⟩,an ZI v'⟩
 ·exact ((hK.trans (aJ.dW hb)).trans (aJ.vC hg (λg e=>Zk (hO.lt g e).1))).set (Zl rfl)
 ·rw[List.flatten_append];refine vA ?_ ZI hTC;simpa using ζ
structure dw (w:World) (d:Ad) (c:Cr) (S:Nat->Prop):Prop where
 n:av w d.a1 d.l1 d.c1 7 81 c.n S
 k:av w d.a2 d.l2 d.c2 4 72 c.k S
 v:av w d.a3 d.l3 d.c3 8 37 c.v S
 x:av w d.a4 d.l4 d.c4 5 47 c.x S
 p:av w d.a5 d.l5 d.c5 6 102 c.p S
def EmF(B:Nat) (T:TypeId):Fact:=λv w=> ∃b,v=U (M ⟨b,0,J⟩) 0 0/\B<=b/\w.heap[b]?=M (Ze #[] T (0,0))
theorem EmF.mono(B:Nat) (T:TypeId):Fact.bT (EmF B T):=by
 exact pd
def RwF(B len m:Nat) (T:TypeId) (rs:List (List Fv)):Fact:=λv w=> ∃a c,v=U a len c/\av w a len c m T rs (λk=>B<=k)
theorem RwF.mono(B len m:Nat) (T:TypeId) (rs:List (List Fv)):Fact.bT (RwF B len m T rs):=by
 rintro v w w' ⟨a,c,h1,h2⟩ hb;exact⟨a,c,h1,h2.below hb⟩
def CpF(B l2 l4:Nat) (c:Cl):Fact:=λv w=> ∃a2 c2 a4 c4,v=Zj #[U J 0 0,U a2 l2 c2,U J 0 0,U a4 l4 c4,U J 0 0,V O c.now]/\av w a2 l2 c2 4 72 (c.ks.map kdF) (λk=>B<=k)/\av w a4 l4 c4 5 47 (c.xs.map xdF) (λk=>B<=k)
theorem CpF.mono(B l2 l4:Nat) (c:Cl):Fact.bT (CpF B l2 l4 c):=by
 rintro v w w' ⟨a2,c2,a4,c4,h1,h2,h3⟩ hb;exact⟨a2,c2,a4,c4,h1,h2.below hb,h3.below hb⟩
def FrF(B:Nat):Fact:=λv w=> ∃b,v=Zm (M ⟨b,0,J⟩)/\B<=b/\w.heap[b]?=M (Ze #[U J 0 0,U J 0 0,U J 0 0,U J 0 0,U J 0 0,V O 0] 29 (0,0))
theorem FrF.mono(B:Nat):Fact.bT (FrF B):=by
 exact pd
def Rv(vb:Option Nat) (sp:Tmp):Gi.Rs:=λs w w'=>match s with
 | none=>w.grownBy w' vb
 | some t=>if t=sp then w.grownBy w' vb else Below w.heap.size w w'
theorem cg(vb:Option Nat) (h:Below w.heap.size w w'):w.grownBy w' vb:=⟨h.os,h.tape,h.output,h.size,λk hk _=>h.block k hk⟩
theorem Rv.below {s:Option Tmp} (h:Rv vb sp s w w') (h1:¬s=J) (h2:¬s=M sp):Below w.heap.size w w':=by
 cases s with
 | none=>exact absurd rfl h1
 | some t=>
  simp only[Rv] at h;rw[if_neg (λe=>h2 (by rw[e]))] at h;exact h
theorem Rv.rel(vb:Option Nat) (sp:Tmp):Gi.Rel (Rv vb sp) sp:=by
 refine⟨λw=>cg vb (Yh _ _),fun {a b c} h k=>?_,λh=>World.grownBy.size h,λw=>cg vb (Yh _ _).drew,λs {a b} h=>?_,λs {a b} h1 h2 h=>Rv.below h h1 h2⟩
 ·have h:World.grownBy a b vb:=h;have k:World.grownBy b c vb:=k;exact⟨k.os.trans h.os,k.tape.trans h.tape,k.output.trans h.output,Yo h.size k.size,λi hi hn=>(k.block i (Yl hi h.size) hn).trans (h.block i hi hn)⟩
 ·cases s with
  | none=>exact h
  | some t=>
   show World.grownBy a b vb
   simp only[Rv] at h
   split at h
   ·exact h
   ·exact cg vb h
theorem Rv.other {t:Tmp} (ht:¬t=sp) (h:Below w.heap.size w w'):Rv vb sp (M t) w w':=by
 show (if t=sp then w.grownBy w' vb else Below w.heap.size w w');rw[if_neg ht];exact h
theorem Rv.this(h:w.grownBy w' vb):Rv vb sp (M sp) w w':=by
 show (if sp=sp then w.grownBy w' vb else Below w.heap.size w w');rw[if_pos rfl];exact h
theorem Rn {vs:List Value} (h:w.heap[b]?=M (Ze vs.toArray T (0,0))):∀(j:Nat) u,vs[j]?=M u->w.cell? ((⟨b,0,J⟩:Addr).add j)=M u:=by
 intro j u hu;rw[Ym,al h,Yp];simpa using hu
def TvF(B:Nat) (x:Vd):Gi.Fact:=λu w _ _=> ∃a l c,u=Zj #[I x.n,V O x.c,I x.z,I x.k,Zf x.x,I x.m,Zf x.y,U a l c]/\bG w a l c x.zs (λk=>B<=k)
def BsF(B:Nat) (x:Vd):Gi.Fact:=λu w _ _=> ∃b a l c,u=U (M ⟨b,0,J⟩) 1 1/\B<=b/\w.heap[b]?=M (Ze #[I x.n,V O x.c,I x.z,I x.k,Zf x.x,I x.m,Zf x.y,U a l c] 37 (0,0))/\bG w a l c x.zs (λk=>B<=k)
def ApF(B k:Nat) (rs:List (List Fv)) (vss:List (List Value)):Gi.Fact:=λu w _ _=> ∃H' vs,w.ownsRow B 37 8 u (k+1) (vss++[vs]).flatten/\aR w (λk=>B<=k) 8 rs (vss++[vs]) H'
theorem TvF.mono {x:Vd} (hv:∀g,vb=M g->g<B):Gi.Fact.bT (Rv vb sp) ex d (TvF B x):=by
 rintro s _ _ _ v w w' l h ⟨a,l,c,h1,h2⟩ hb;have hb:w.grownBy w' vb:=(Rv.rel vb sp).sub s hb;exact⟨a,l,c,h1,h2.ay (λk hk s=>hb.block k hk (λe=>by have s1:B<=k:=s;have:=hv k e.symm;omega)) (λ_ _ s=>s)⟩
theorem BsF.mono {x:Vd} (hv:∀g,vb=M g->g<B):Gi.Fact.bT (Rv vb sp) ex d (BsF B x):=by
 rintro s _ _ _ v w w' l h ⟨b,a,l,c,h1,h2,h3,h4⟩ hb;have hb:w.grownBy w' vb:=(Rv.rel vb sp).sub s hb;exact⟨b,a,l,c,h1,h2,(hb.block _ (ae h3) (λe=>by have:=hv b e.symm;omega)).trans h3,h4.ay (λk hk s=>hb.block k hk (λe=>by have s1:B<=k:=s;have:=hv k e.symm;omega)) (λ_ _ s=>s)⟩
theorem ApF.mono {k:Nat} {rs:List (List Fv)} :Gi.Fact.bT (Rv vb sp) ex (M sp) (ApF B k rs vss):=by
 rintro s h1 h2 _ v w w' l h ⟨H',vs,h3,h4⟩ hb;have hb:=Rv.below hb h1 h2;exact⟨H',vs,cv h3 hb,h4.below hb⟩
theorem cZ(d:Ad) (c:Cl) (w:World) (hr:aA w d c.raw) (hs:Sm c):
  Calls Tryz.prog 35 #[Zj (Zs d c.now)] w λe w'=> ∃d',e=Zh (Zj #[U d'.a1 d'.l1 d'.c1,U d'.a2 d'.l2 d'.c2,U d'.a3 d'.l3 d'.c3,U d'.a4 d'.l4 d'.c4,U d'.a5 d'.l5 d'.c5,V O c.now])/\dw w' d' c.raw (λk=>w.heap.size<=k)/\Below w.heap.size w w':=by
 have anV:=@G _ @afT;exact dn
theorem bA(hl:∀(j:Nat) vs,vss[j]?=M vs->vs.length=m) {k:Nat} (hk:k<=vss.length):(vss.take k).flatten.length=k*m:=by
 rw[eH (m:=m) (λj vs h=>?_),YF,Nat.min_eq_left hk];rw[YC] at h;split at h
 ·exact hl j vs h
 ·cases h
theorem ep(hl:∀(j:Nat) vs,vss[j]?=M vs->vs.length=m) {k:Nat} :(vss.drop k).flatten.length=(vss.length - k)*m:=by
 rw[eH (m:=m) (λj vs h=>?_),List.length_drop];rw[YN] at h;exact hl _ vs h
theorem cH {k i:Nat} (h:(vss.take k).flatten[i]?=M u):vss.flatten[i]?=M u:=by
 have h1:vss.flatten=(vss.take k).flatten++(vss.drop k).flatten:=AQ
 rw[h1,Yu (Yc.1 h).1];exact h
theorem cS(hl:∀(j:Nat) vs,vss[j]?=M vs->vs.length=m) {k i:Nat} {u:Value} (hk:k<=vss.length) (h:(vss.drop k).flatten[i]?=M u):vss.flatten[k*m+i]?=M u:=by
 have h1:vss.flatten=(vss.take k).flatten++(vss.drop k).flatten:=AQ
 rw[h1,List.getElem?_append_right (by rw[bA hl hk];omega),bA hl hk,Nat.add_sub_cancel_left];exact h
theorem aD {P:Value->Prop} (h:∀u∈vss.flatten,P u) (k:Nat):(∀u∈(vss.take k).flatten,P u)/\∀u∈(vss.drop k).flatten,P u:=by
 have h1:vss.flatten=(vss.take k).flatten++(vss.drop k).flatten:=AQ
 exact⟨λu hu=>h u (by rw[h1];exact List.mem_append_left _ hu),λu hu=>h u (by rw[h1];exact List.mem_append_right _ hu)⟩
theorem aI(p:Int) (w:World):
  Calls Tryz.prog 32 #[V O p] w λe w'=>e=Zh (Zj #[U J 0 0,U J 0 0,U J 0 0,U J 0 0,U J 0 0,V O 0,I ⟨#[]⟩,V O p])/\Below w.heap.size w w':=by
 go_enter Tryz.func32,Tryz.ntmps32;go_wp2;exact bodyPost_ret (v:=Zj #[U J 0 0,U J 0 0,U J 0 0,U J 0 0,U J 0 0,V O 0,I ⟨#[]⟩,V O p]) (by simp[results,Tryz.results32,go_sem]) rfl ⟨rfl,aj _ _⟩
def UF(w:World) (g:Nat):Prop:=∃cs T,w.heap[g]?=M (Ze cs T (0,0))
def LoA(B:Nat) (w:World) (a:Option Addr) (len:Nat):Prop:=len=0\/∃b o,a=M ⟨b,o,J⟩/\B<=b/\UF w b
structure Low (B:Nat) (w:World) (d:Ad):Prop where
 n:LoA B w d.a1 d.l1
 k:LoA B w d.a2 d.l2
 v:LoA B w d.a3 d.l3
 x:LoA B w d.a4 d.l4
 p:LoA B w d.a5 d.l5
theorem lo0(B:Nat) (w:World):Low B w ad0:=⟨Zl rfl,Zl rfl,Zl rfl,Zl rfl,Zl rfl⟩
theorem av.lo {a:Option Addr} {rs:List (List Fv)} (h:av w a len cap m T rs S) {B:Nat} (hS:∀k,S k->B<=k):LoA B w a len:=by
 obtain⟨h1,_,_,h4⟩:=h;rcases h4 with h4|⟨g,cur,H,h5,h6⟩
 ·subst h4;exact Zl h1.symm
 ·exact Zk ⟨g,0,h5,hS g h6.inS,_,_,h6.blk⟩
def RL(B:Nat) (w:World) (a:Option Addr) (len cap m:Nat) (rs:List (List Fv)):Prop:=aV w a len cap m rs/\LoA B w a len
theorem av.rl {a:Option Addr} {rs:List (List Fv)} (h:av w a len cap m T rs S) (hS:∀k,S k->B<=k):RL B w a len cap m rs:=⟨h.row,h.lo hS⟩
structure kF (B:Nat) (w:World) (d:Ad) (c:Cr):Prop where
 n:RL B w d.a1 d.l1 d.c1 7 c.n
 k:RL B w d.a2 d.l2 d.c2 4 c.k
 v:RL B w d.a3 d.l3 d.c3 8 c.v
 x:RL B w d.a4 d.l4 d.c4 5 c.x
 p:RL B w d.a5 d.l5 d.c5 6 c.p
theorem kF.of {d:Ad} {c:Cr} (h:aA w d c) (l:Low B w d):kF B w d c:=⟨⟨h.n,l.n⟩,⟨h.k,l.k⟩,⟨h.v,l.v⟩,⟨h.x,l.x⟩,⟨h.p,l.p⟩⟩
theorem rl0(B:Nat) (w:World):kF B w ad0 cl0.raw:=kF.of (alh w (λ_=>True)).row (lo0 B w)
def jw(Is:Co->Prop) (w:World) (e:Ending) (w':World):Prop:=∃g o,e=Zh (Zj #[U g.a1 g.l1 g.c1,U g.a2 g.l2 g.c2,U g.a3 g.l3 g.c3,U g.a4 g.l4 g.c4,U g.a5 g.l5 g.c5,V O o.c.now,I o.n,V O o.p])/\Is o/\kF w.heap.size w' g o.c.raw/\Below w.heap.size w w'
end Rc
def svB(c:Int) (z k:ByteArray) (x:Bool) (m:ByteArray) (y:Bool) (c':Int) (k':ByteArray) (x':Bool) (t:ByteArray):Bool:=
 (k.toList==k'.toList) && (x==x') && !y && m.toList.isEmpty && decide (c'<=c) && (t.toList.isEmpty || (z.toList==t.toList))
def gW(v u:Vd):Bool:=decide (v.c<u.c) || ((v.c==u.c) && Yk v.n.toList u.n.toList)
def stepB(sv:Vd->Bool) (acc:Option Vd) (v:Vd):Option Vd:=if (sv v && (match acc with|J=>Zi|M u=>gW v u))=Zi then M v else acc
def dG(sv:Vd->Bool) (vs:List Vd):Option Vd:=vs.foldl (stepB sv) J
def svV(c':Int) (k':ByteArray) (x':Bool) (t:ByteArray) (v:Vd):Bool:=svB v.c v.z v.k v.x v.m v.y c' k' x' t
def aC:ByteArray:=⟨#[118,95]⟩
def kD(n' k' v' n z t:ByteArray):Prop:=k'=n/\v'=⟨#[]⟩/\(z=⟨#[]⟩\/z=t)/\n'.size<=18
namespace Rc
theorem ahu {a:Option Addr} {vs:List Vd} (h:aV w a len cap 8 (vs.map vdF)):fY w a len cap vs:=by
 obtain⟨h1,h2,h3,h5⟩:=h;refine⟨by simpa using h1,h2,h3,?_⟩;rcases h5 with h5|⟨b,o,rfl,Zo,hc⟩
 ·exact Zl (by simpa using h5)
 ·refine Zk ⟨b,o,rfl,Zo,λj v hv=>?_⟩;obtain⟨va,vl,vc,Zx,z0,z2,z3,z5,c0,c1,c2,c3,c4,c5,c6,c7⟩:=bm (hc j (vdF v) (by rw[Yt,hv];rfl));exact⟨⟨z0,z2,z3,z5⟩,va,vl,vc,Zx,c0,c1,c2,c3,c4,c5,c6,c7⟩
def bdX(x:Xd) (n:ByteArray):Xd:=⟨x.n,x.z,x.k,x.x,n⟩
def bdV(v:Vd) (n:ByteArray):Vd:=⟨v.n,v.c,v.z,v.k,v.x,n,v.y,v.zs⟩
def dM(c:Cl) (i j:Nat) (x:Xd) (u:Vd):Cl:=⟨c.ns,c.ks,c.vs.set j (bdV u x.n),c.xs.set i (bdX x u.n),c.ps,c.now⟩
def mkV(x:Xd) (t:ByteArray):Vd:=⟨aC++x.n,x.z,t,x.k,x.x,x.n,Zg,[]⟩
def dd(c:Cl) (i:Nat) (x:Xd) (t:ByteArray):Cl:=⟨c.ns,c.ks,aQ (pl Vd.n c.vs (aC++x.n)) (mkV x t) c.vs,c.xs.set i (bdX x (aC++x.n)),c.ps,c.now⟩
def aT(t z:ByteArray):ByteArray:=if t=⟨#[]⟩ then z else t
def fG(x:Xd) (k:Kd) (t:ByteArray):Prop:=¬aT t k.z=⟨#[]⟩/\kD x.n x.k x.v k.n k.z (aT t k.z)
def eM(c:Cl) (i:Nat) (x:Xd) (k:Kd) (t:ByteArray) (o:Co):Prop:=
 (∃j u,dG (svV x.z x.k x.x t) c.vs=M u/\c.vs[j]?=M u/\o=⟨dM c i j x u,u.n,0⟩)\/
 (dG (svV x.z x.k x.x t) c.vs=J/\((¬fG x k t/\o=co0 6)\/(fG x k t/\((hit Vd.n c.vs (aC++x.n)=Zi/\o=co0 7)\/(hit Vd.n c.vs (aC++x.n)=Zg/\((¬c.vs.length<8/\o=co0 9)\/(c.vs.length<8/\o=⟨dd c i x (aT t k.z),aC++x.n,0⟩)))))))
def R9(p:Pd) (t m:ByteArray):Prop:=p.d=t/\InL p.zs m
theorem jH(w:World) (t t' ty e e':TypeId) (i:TypeInfo) (ht:Tryz.prog.underlying t=M (.slice e)) (ht':Tryz.prog.underlying t'=M (.slice e')) (hi:Tryz.prog.info? e=M i) (a:Option Addr) (l c:Nat) (b:Value):(YY #[t,t'] ty #[U a l c,b]).run Tryz.prog w=(YY #[t,t] ty #[U a l c,b]).run Tryz.prog w:=by
 simp[YY,run_underlying ht,run_underlying ht',sizeOf,typeInfo,hi]
theorem jd {a:Act} (hgd:o.guard=J) (s x:Operand) (t t':TypeId)
  (ho:o.op=.call { callee:=.builtin .append,args:=#[s,x],argTypes:=#[t,t'] })
  (base:Nat) (e e':TypeId) (i:TypeInfo) (z:Value) (size bytes:Nat) (ht:Tryz.prog.underlying t=M (.slice e)) (ht':Tryz.prog.underlying t'=M (.slice e')) (hi:Tryz.prog.info? e=M i) (hz:i.zero=M z)
  (Υ:i.size=size) (hby:i.bytes=bytes) (hzs:z.cells.size=size) (Zq:0<size)
  (v:Value) (n:Nat) (xs:List Value) (hs:a.eval s=v) (ζ:w.ownsRow base e size v n xs)
  (ad:Addr) (m c:Nat) (news:List Value) (hx:a.eval x=U (M ad) m c) (hl:news.length=m*size) (Φ:∀j u,news[j]?=M u->w.cell? (ad.add j)=M u) (h1:∀u∈news,u.oneCell'=Zi)
  (h63:n+m<=maxLen) (an6:(n+m)*bytes<=140737488355328) (aoJ:base<=w.heap.size)
  (h:∀v' w',w'.ownsRow base e size v' (n+m) (xs++news)->w.grownBy w' v.ownBlock->wpList Tryz.prog ops Q rest (a.put o.dst v') w'):wpList Tryz.prog ops Q (o ::rest) a w:=by
 have auF:=@G _ @ady;exact Al
theorem jI {t ty e:TypeId} {size:Nat} (ht:Tryz.prog.underlying t=M (.slice e)) (hi:Tryz.prog.info? e=M i) {v:Value} {n:Nat} {xs:List Value} (ζ:w.ownsRow base e size v n xs) (ax:Option Addr) (cx:Nat):
  (YY #[t,t] ty #[v,U ax 0 cx]).run Tryz.prog w=.ok v w:=by
 exact ah6
theorem aE {a:Act} (hgd:o.guard=J) (s x:Operand) (t:TypeId)
  (ho:o.op=.call { callee:=.builtin .append,args:=#[s,x],argTypes:=#[t,t] })
  (base:Nat) (e:TypeId) (i:TypeInfo) (z:Value) (size bytes:Nat) (ht:Tryz.prog.underlying t=M (.slice e)) (hi:Tryz.prog.info? e=M i) (hz:i.zero=M z)
  (Υ:i.size=size) (hby:i.bytes=bytes) (hzs:z.cells.size=size) (Zq:0<size)
  (v:Value) (n:Nat) (xs:List Value) (hs:a.eval s=v) (ζ:w.ownsRow base e size v n xs)
  (ax:Option Addr) (l c:Nat) (news:List Value) (hx:a.eval x=U ax l c) (hl:news.length=l*size) (Φ:∀(j:Nat) u,news[j]?=M u->∃ad:Addr,ax=M ad/\w.cell? (ad.add j)=M u) (h1:∀u∈news,u.oneCell'=Zi)
  (h63:n+l<=maxLen) (an6:(n+l)*bytes<=140737488355328) (aoJ:base<=w.heap.size)
  (h:∀v' w',w'.ownsRow base e size v' (n+l) (xs++news)->w.grownBy w' v.ownBlock->wpList Tryz.prog ops Q rest (a.put o.dst v') w'):wpList Tryz.prog ops Q (o ::rest) a w:=by
 rcases news with _|⟨u,news⟩
 ·have auH:=@G _ @acI;exact zU
 ·obtain⟨ad,rfl,_⟩:=Φ 0 u rfl;exact jd hgd s x t t ho base e e i z size bytes ht ht hi hz Υ hby hzs Zq v n xs hs ζ ad l c (u ::news) hx hl (λj y hy=>by
   obtain⟨ad',e,h2⟩:=Φ j y hy
   cases e
   exact h2) h1 h63 an6 aoJ h
theorem Rz {x:ByteArray} (h:Yk x.toList t.toList=Zg) (hn:¬x=t):Yk t.toList x.toList=Zi:=by
 exact Qe
def Put(t:ByteArray) (zs ZB:List ByteArray):Prop:=(t∈zs/\ZB=zs)\/∃k,k<=zs.length/\ZB=zs.take k++[t]++zs.drop k/\(∀(j:Nat) y,j<k->zs[j]?=M y->Yk y.toList t.toList=Zi)/\∀y,zs[k]?=M y->Yk t.toList y.toList=Zi
theorem fJ {l:List α} {k j:Nat} {u:α} (h:(l.take k)[j]?=M u):l[j]?=M u:=by
 rw[YC] at h;split at h
 ·exact h
 ·cases h
structure Nv where
 n:Nd
 a:Option Addr
 l:Nat
 c:Nat
def cb(a b:ByteArray):Int:=Lib.compareBytes a.data.toList b.data.toList
theorem kR {t ty e:TypeId} {size:Nat} (ht:Tryz.prog.underlying t=M (.slice e)) (hi:Tryz.prog.info? e=M i) {v:Value} {n:Nat} {xs:List Value} (ζ:w.ownsRow base e size v n xs) (ax:Option Addr) (cx:Nat):
  (YY #[t,t] ty #[v,U ax 0 cx]).run Tryz.prog w=.ok v w:=by
 exact ah6
theorem aq {a:Act} (hgd:o.guard=J) (s x:Operand) (t:TypeId)
  (ho:o.op=.call { callee:=.builtin .append,args:=#[s,x],argTypes:=#[t,t] })
  (base:Nat) (e:TypeId) (i:TypeInfo) (z:Value) (size bytes:Nat) (ht:Tryz.prog.underlying t=M (.slice e)) (hi:Tryz.prog.info? e=M i) (hz:i.zero=M z)
  (Υ:i.size=size) (hby:i.bytes=bytes) (hzs:z.cells.size=size) (Zq:0<size)
  (v:Value) (n:Nat) (xs:List Value) (hs:a.eval s=v) (ζ:w.ownsRow base e size v n xs)
  (ax:Option Addr) (l c:Nat) (news:List Value) (hx:a.eval x=U ax l c) (hl:news.length=l*size) (Φ:∀(j:Nat) u,news[j]?=M u->∃ad:Addr,ax=M ad/\w.cell? (ad.add j)=M u) (h1:∀u∈news,u.oneCell'=Zi)
  (h63:n+l<=maxLen) (an6:(n+l)*bytes<=140737488355328) (aoJ:base<=w.heap.size)
  (h:∀v' w',w'.ownsRow base e size v' (n+l) (xs++news)->w.grownBy w' v.ownBlock->wpList Tryz.prog ops Q rest (a.put o.dst v') w'):wpList Tryz.prog ops Q (o ::rest) a w:=by
 rcases news with _|⟨u,news⟩
 ·have auH:=@G _ @acH;exact zU
 ·obtain⟨ad,rfl,_⟩:=Φ 0 u rfl;exact ck hgd s x t t ho base e e i z size bytes ht ht hi hz Υ hby hzs Zq v n xs hs ζ ad l c (u ::news) hx hl (λj y hy=>by
   obtain⟨ad',e,h2⟩:=Φ j y hy
   cases e
   exact h2) h1 h63 an6 aoJ h
structure Lq (B:Nat) (w w':World):Prop where
 os:w'.os=w.os
 tape:w'.tape=w.tape
 output:w'.output=w.output
 size:w.heap.size<=w'.heap.size
 block:∀k,k<w.heap.size->(k<B\/∃(cs:Array Value) (T:TypeId),w.heap[k]?=M (Ze cs T (0,0))/\cs.size=2)->w'.heap[k]?=w.heap[k]?
end Rc
namespace Gs
section
variable {SR:World->World->Prop} {t4:Tmp} {Ψ:Fact} {P:Program} {ops:Array Oper} {Q:Exit->Act->World->Prop} {W:World} {a0:Act} {back:Option Oper}
theorem gK {listed:Array Bool} (hs:listed.size=ops.size) (Zo:∀(j:Nat) o,ops[j]?=M o->∀e∈o.after,YW .any e=Zi->e.on<j) (hr:YU .any ops listed=[]):∀i,i<ops.size->listed.getD i Zg=Zi:=by
 intro i;induction i using Nat.strongRecOn with
 | _ i ih=>
  intro hi
  cases hb:listed.getD i Zg with
  | true=>rfl
  | false=>
   have ho:ops[i]?=M ops[i]:=Array.getElem?_eq_getElem hi;have hm:i∈YU .any ops listed:=mem_ready.2 ⟨by rw[<-cR af];exact hb,_,ho,λe he hbe=>ih e.on (Zo i _ ho e he hbe) (Nat.lt_trans (Zo i _ ho e he hbe) hi)⟩;rw[hr] at hm
   cases hm
structure At (t4:Tmp) (Ψ:Fact) (front:List Oper) (φs:List Fact) (W:World) (a0:Act) (listed:Array Bool) (a:Act) (w:World):Prop where
 old:Go.Proofs.YtcnmlpiffcldkaaGreatDoor.At front φs W a0 listed a w
 sto:∀(i:Nat) (o:Oper),front[i]?=M o->o.dst=J->listed.getD i Zg=Zi->Ψ (a.tmps.getD t4 undef) w/\∀(i':Nat) (p:Oper),front[i']?=M p->p.dst=M t4->listed.getD i' Zg=Zi
theorem alN {listed:Array Bool} {i j:Nat} (h:listed.getD i Zg=Zi):(listed.setIfInBounds j Zi).getD i Zg=Zi:=by
 by_cases e:j=i
 ·subst e;simp only[Ys,YH];split
  ·split
   ·rfl
   ·simp[Ys] at h;next hx=>
     have:listed[j]?=J:=Array.getElem?_eq_none_iff.2 af;rw[this] at h
     cases h
  ·contradiction
 ·simpa[Ys,YH,e] using h
theorem alH {listed:Array Bool} {i j:Nat} (e:¬j=i) (h:(listed.setIfInBounds j Zi).getD i Zg=Zi):listed.getD i Zg=Zi:=by
 simpa[Ys,YH,e] using h
end
structure Form (W w w':World):Prop where
 low:Below W.heap.size w w'
 form:∀(k:Nat) (cs:Array Value) (T:TypeId),w.heap[k]?=M (Ze cs T (0,0))->∃cs',cs'.size=cs.size/\w'.heap[k]?=M (Ze cs' T (0,0))
end Gs
namespace Gt
def growB(n:Nat) (front:List Oper) (back:Option Oper):Bool:=
 let ops:=(front++back.toList).toArray
 decide ((front.filterMap (·.dst)).Nodup) && front.all (λo=>match o.dst with|M t=>decide (t<n)|J=>Zi) &&
 (Y3 front.length).all (λj=>match front[j]? with
  | some o=>(o.looksAt ops).all (λt=>(Y3 front.length).all λi=>match front[i]? with
    | some p=>p.dst !=M t || (decide (i<j) && o.after.any λe=>e.on==i && YW .any e)
    | none=>Zi)
  | none=>Zi) &&
 (Y3 ops.size).all (λj=>match ops[j]? with|M o=>o.after.all (λe=>decide (e.on<j))|J=>Zi) &&
 (match back with|M o=>(Y3 front.length).all (λi=>o.after.any λe=>YW .any e && (e.on==i || match front[e.on]? with|M p=>p.after.any (λe'=>e'.on==i && YW .any e')|J=>Zg))|J=>Zi)
section
variable {P:Program} {ops:Array Oper} {Q:Exit->Act->World->Prop} {W:World} {a0:Act} {back:Option Oper}
theorem gE {n:Nat} {front:List Oper} {back:Option Oper} (h:growB n front back=Zi):
  (front.filterMap (·.dst)).Nodup/\(∀o∈front,∀t,o.dst=M t->t<n)/\
  (∀(j:Nat) (o:Oper),front[j]?=M o->∀t∈o.looksAt (front++back.toList).toArray,∀(i:Nat) (p:Oper),front[i]?=M p->p.dst=M t->i<j/\∃e∈o.after,e.on=i/\YW .any e=Zi)/\
  (∀(j:Nat) o,(front++back.toList).toArray[j]?=M o->∀e∈o.after,e.on<j)/\
  (∀o,back=M o->∀i,i<front.length->∃e∈o.after,YW .any e=Zi/\(e.on=i\/∃p,front[e.on]?=M p/\∃e'∈p.after,e'.on=i/\YW .any e'=Zi)):=by
 unfold growB at h;simp only[YI,decide_eq_true_eq] at h;obtain⟨⟨⟨⟨h1,h2⟩,h3⟩,h4⟩,h5⟩:=h;refine⟨h1,?_,?_,?_,?_⟩
 ·intro o ho t ht;have:=List.all_eq_true.1 h2 o ho;rw[ht] at this;simpa using this
 ·exact aip
 ·exact Rf
 ·intro o ho i hi;subst ho;have:=List.all_eq_true.1 h5 i (List.mem_range.2 hi);obtain⟨k,hk,hx⟩:=Array.any_eq_true.1 this;simp only[YI,Bool.or_eq_true,beq_iff_eq] at hx;refine⟨_,Array.getElem_mem hk,hx.1,hx.2.imp id λh9=>?_⟩;split at h9
  ·next p hp=>
   obtain⟨k',hk',hx'⟩:=Array.any_eq_true.1 h9;simp only[YI,beq_iff_eq] at hx';exact⟨p,hp,_,Array.getElem_mem hk',hx'.1,hx'.2⟩
  ·cases h9
structure Ac (front:List Oper) (φs:List Fact) (W:World) (a0:Act) (listed:Array Bool) (a:Act) (w:World):Prop where
 old:At front φs W a0 listed a w
 cl:∀(j:Nat) (o:Oper),front[j]?=M o->listed.getD j Zg=Zi->∀e∈o.after,YW .any e=Zi->listed.getD e.on Zg=Zi
theorem dJ {front:List Oper} {φs:List Fact} (an_:ops=(front++back.toList).toArray) (hB:growB a0.tmps.size front back=Zi) (hlen:φs.length=front.length)
  (hs:∀(i:Nat) (o:Oper) (φ:Fact),front[i]?=M o->φs[i]?=M φ->φ.bT/\Obl P ops Q W a0 (knAll [] (front.take i) (φs.take i)) o φ) (hf:Fin P ops Q W a0 back (knAll [] front φs)):
  ∀(fuel:Nat) (listed:Array Bool) (a:Act) (w:World),listed.size=ops.size->listed.toList.count Zg<=fuel->(∀o,back=M o->listed.getD front.length Zg=Zg)->Ac front φs W a0 listed a w->wpAny P .any ops Q fuel listed a w:=by
 have arb:=@G _ @adk;exact qC
end
theorem bS {l:List Oper} {last:Oper} (hm:P.follows .mixedOrders=Zi) (hf:l.dropLast=front) (hb:l.getLast?=M last) (hB:growB a0.tmps.size front (M last)=Zi)
  (h:Grow P l.toArray Q W a0 (M last) front []):(Code.region id l.toArray Zi).wp P Q a0 W:=by
 obtain⟨φs,hlen,hs,hfi⟩:=Grow.spec _ _ h;have hl:l=front++(M last).toList:=by
  exact xj
 refine wp_region_any hm (dJ (by rw[hl]) hB hlen hs hfi _ _ _ _ aF ?_ (λo ho=>?_) ⟨⟨rfl,rfl,(Yh _ _).drew,λi o φ h1 h2 t ht hx=>?_,λt _=>rfl⟩,λj o h1 hx=>?_⟩)
 ·exact qS
 ·exact bL _ _
 ·rw[bL] at hx;cases hx
 ·rw[bL] at hx;cases hx
end Gt
namespace Gu
def waits(front:List Oper) (i:Nat):Nat->Array Edge->Bool
 | 0,after=>after.any λe=>YW .any e && e.on==i
 | f+1,after=>after.any λe=>YW .any e && (e.on==i || match front[e.on]? with|M p=>waits front i f p.after|J=>Zg)
theorem mw {i:Nat} {listed:Array Bool} (hc:∀(j:Nat) (o:Oper),front[j]?=M o->listed.getD j Zg=Zi->∀e∈o.after,YW .any e=Zi->listed.getD e.on Zg=Zi):∀(f:Nat) (after:Array Edge),waits front i f after=Zi->(∀e∈after,YW .any e=Zi->listed.getD e.on Zg=Zi)->listed.getD i Zg=Zi
 | 0,after,h,ha=>by
  obtain⟨k,hk,hx⟩:=Array.any_eq_true.1 h;simp only[YI,beq_iff_eq] at hx;have:=ha _ (Array.getElem_mem hk) hx.1
  rwa [hx.2] at this
 | f+1,after,h,ha=>by
  obtain⟨k,hk,hx⟩:=Array.any_eq_true.1 h;simp only[YI,Bool.or_eq_true,beq_iff_eq] at hx;have h1:=ha _ (Array.getElem_mem hk) hx.1
  rcases hx.2 with h2|h2
  ·rwa [h2] at h1
  ·split at h2
   ·next p hp=>exact mw hc f p.after h2 (λe he hb=>hc _ p hp h1 e he hb)
   ·cases h2
def A8(P:Program) (ops:Array Oper) (Q:Exit->Act->World->Prop) (s t:Oper) (a:Act) (w:World):Prop:=
 ∀K:Act->World->Prop,(∀a' w',(∀K':Act->World->Prop,(∀a w,Q .normal a w->K' a w)->if YR t (yielded ops a'.tmps)=Zi then t.wp P a' w' K' Q else K' (a'.put t.dst undef) w')->K a' w')->if YR s (yielded ops a.tmps)=Zi then s.wp P a w K Q else K (a.put s.dst undef) w
def Fin(P:Program) (ops:Array Oper) (Q:Exit->Act->World->Prop) (W:World) (a0:Act) (s t:Oper) (known:List (Tmp×Fact)):Prop:=
 ∀(x:Tmp->Value) (w:World),Below W.heap.size W w->(∀p∈known,p.2 (x p.1) w)->A8 P ops Q s t (aL a0 known x) w
def Grow(P:Program) (ops:Array Oper) (Q:Exit->Act->World->Prop) (W:World) (a0:Act) (s t:Oper):List Oper->List (Tmp×Fact)->Prop
 | [],known=>Fin P ops Q W a0 s t known
 | o ::rest,known=> ∃φ:Fact,φ.bT/\Obl P ops Q W a0 known o φ/\Grow P ops Q W a0 s t rest (kn o.dst φ known)
section
variable {P:Program} {ops:Array Oper} {Q:Exit->Act->World->Prop} {W:World} {a0:Act} {s t:Oper}
theorem Grow.step {o:Oper} {rest:List Oper} {known:List (Tmp×Fact)} {d:Tmp} (φ:Fact) (hd:o.dst=M d) (hφ:φ.bT) (ho:Obl P ops Q W a0 known o φ)
  (h:Grow P ops Q W a0 s t rest ((d,φ) ::known)):Grow P ops Q W a0 s t (o ::rest) known:=⟨φ,hφ,ho,(by rw[hd];exact h)⟩
theorem Grow.stepC {o:Oper} {rest:List Oper} {known:List (Tmp×Fact)} {d:Tmp} (c:Value) (hd:o.dst=M d) (ho:Obl P ops Q W a0 known o (λv _=>v=c))
  (h:Grow P ops Q W a0 s t rest ((d,λv _=>v=c) ::known)):Grow P ops Q W a0 s t (o ::rest) known:=Grow.step _ hd (Fact.dq c) ho h
theorem Grow.done {known:List (Tmp×Fact)} (h:Fin P ops Q W a0 s t known):Grow P ops Q W a0 s t [] known:=h
theorem Grow.spec:∀(l:List Oper) (known:List (Tmp×Fact)),Grow P ops Q W a0 s t l known->∃φs:List Fact,φs.length=l.length/\
  (∀(i:Nat) (o:Oper) (φ:Fact),l[i]?=M o->φs[i]?=M φ->φ.bT/\Obl P ops Q W a0 (knAll known (l.take i) (φs.take i)) o φ)/\Fin P ops Q W a0 s t (knAll known l φs)
 | [],known,h=>⟨[],rfl,λi o φ h=>by simp at h,by rw[cM];exact h⟩
 | o ::l,known,h=>by
  exact Pe
def growB(n:Nat) (front:List Oper) (s t:Oper):Bool:=
 let ops:=(front++[s,t]).toArray
 decide ((front.filterMap (·.dst)).Nodup) && front.all (λo=>match o.dst with|M d=>decide (d<n)|J=>Zi) &&
 (Y3 front.length).all (λj=>match front[j]? with
  | some o=>(o.looksAt ops).all (λd=>(Y3 front.length).all λi=>match front[i]? with
    | some p=>p.dst !=M d || (decide (i<j) && o.after.any λe=>e.on==i && YW .any e)
    | none=>Zi)
  | none=>Zi) &&
 (Y3 ops.size).all (λj=>match ops[j]? with|M o=>o.after.all (λe=> !YW .any e || decide (e.on<j))|J=>Zi) &&
 (Y3 front.length).all (λi=>waits front i 12 s.after) && t.after.any (λe=>YW .any e && e.on==front.length)
theorem gE {n:Nat} {front:List Oper} (h:growB n front s t=Zi):
  (front.filterMap (·.dst)).Nodup/\(∀o∈front,∀d,o.dst=M d->d<n)/\
  (∀(j:Nat) (o:Oper),front[j]?=M o->∀d∈o.looksAt (front++[s,t]).toArray,∀(i:Nat) (p:Oper),front[i]?=M p->p.dst=M d->i<j/\∃e∈o.after,e.on=i/\YW .any e=Zi)/\
  (∀(j:Nat) o,(front++[s,t]).toArray[j]?=M o->∀e∈o.after,YW .any e=Zi->e.on<j)/\
  (∀i,i<front.length->waits front i 12 s.after=Zi)/\∃e∈t.after,YW .any e=Zi/\e.on=front.length:=by
 unfold growB at h;simp only[YI,decide_eq_true_eq] at h;obtain⟨⟨⟨⟨⟨h1,h2⟩,h3⟩,h4⟩,h5⟩,h6⟩:=h;refine⟨h1,?_,?_,?_,?_,?_⟩
 ·intro o ho d hd;have:=List.all_eq_true.1 h2 o ho;rw[hd] at this;simpa using this
 ·intro j o ho d hd i p hp hpd;have aum:=@G _ @ac0;exact Aa
 ·intro j o ho e he hbe;have hj:j<(front++[s,t]).toArray.size:=(YA.1 ho).1;have:=List.all_eq_true.1 h4 j (List.mem_range.2 hj);rw[ho] at this;have:=Array.all_eq_true.1 this;obtain⟨k,hk,rfl⟩:=Array.mem_iff_getElem.1 he;have h9:=this k hk;rw[hbe] at h9;simpa using h9
 ·intro i hi;exact List.all_eq_true.1 h5 i (List.mem_range.2 hi)
 ·obtain⟨k,hk,hx⟩:=Array.any_eq_true.1 h6;simp only[YI,beq_iff_eq] at hx;exact⟨_,Array.getElem_mem hk,hx.1,hx.2⟩
theorem Fin.last {front:List Oper} {φs:List Fact} {listed:Array Bool} {a:Act} {w:World} (hf:Fin P ops Q W a0 s t (knAll [] front φs)) (hlen:φs.length=front.length) (Z6:∀o∈front,∀d,o.dst=M d->d<a0.tmps.size)
  (h:At front φs W a0 listed a w) (ZL:∀i,i<front.length->listed.getD i Zg=Zi):A8 P ops Q s t a w:=by
 have h9:∃x,a=aL a0 (knAll [] front φs) x/\∀p∈knAll [] front φs,p.2 (x p.1) w:=Go.Proofs.YtcnmlpiffcldkaaGreatDoor.Fin.last (P:=P) (ops:=ops) (Q:=λ_ a' w'=> ∃x,a'=aL a0 (knAll [] front φs) x/\∀p∈knAll [] front φs,p.2 (x p.1) w') (back:=J) (λx _ _ h2=>⟨x,rfl,h2⟩) hlen Z6 h ZL;obtain⟨x,e,h2⟩:=h9;have h3:=hf x w h.below h2;rw[<-e] at h3;exact h3
theorem wO {fuel:Nat} {listed:Array Bool} {a:Act} {w:World} {j:Nat} {o:Oper} (ho:ops[j]?=M o) (h1:if YR o (yielded ops a.tmps)=Zi then o.wp P a w (wpAny P .any ops Q fuel (listed.setIfInBounds j Zi)) Q else wpAny P .any ops Q fuel (listed.setIfInBounds j Zi) (a.put o.dst undef) w):wpOp P ops Q j (wpAny P .any ops Q fuel (listed.setIfInBounds j Zi)) a w:=by
 unfold wpOp;rw[ho];simp only;split
 ·rename_i hw;rw[if_pos hw] at h1;exact Zl h1
 ·rename_i hw;rw[if_neg hw] at h1;exact h1
theorem xG {listed:Array Bool} (hz:listed.size=ops.size) (ZL:∀i,i<ops.size->listed.getD i Zg=Zi):YU .any ops listed=[]:=by
 cases hr:YU .any ops listed with
 | nil=>rfl
 | cons j js=>
  have hm:j∈YU .any ops listed:=by rw[hr];simp
  obtain⟨h1,o,ho,-⟩:=mem_ready.1 hm;have hj:=(YA.1 ho).1;rw[<-cR af,ZL j hj] at h1
  cases h1
theorem ag9 {fuel:Nat} {listed:Array Bool} {a:Act} {w:World} (hz:listed.size=ops.size) (ZL:∀i,i<ops.size->listed.getD i Zg=Zi) (hq:Q .normal a w):wpAny P .any ops Q fuel listed a w:=by
 have hr:=xG hz ZL;cases fuel with
 | zero=>exact⟨hr,hq⟩
 | succ fuel=>exact⟨λ_=>hq,λi hi=>by rw[hr] at hi;cases hi⟩
theorem dJ {front:List Oper} {φs:List Fact} (an_:ops=(front++[s,t]).toArray) (hB:growB a0.tmps.size front s t=Zi) (hlen:φs.length=front.length)
  (hs:∀(i:Nat) (o:Oper) (φ:Fact),front[i]?=M o->φs[i]?=M φ->φ.bT/\Obl P ops Q W a0 (knAll [] (front.take i) (φs.take i)) o φ) (hf:Fin P ops Q W a0 s t (knAll [] front φs)):
  ∀(fuel:Nat) (listed:Array Bool) (a:Act) (w:World),listed.size=ops.size->listed.toList.count Zg<=fuel->listed.getD front.length Zg=Zg->listed.getD (front.length+1) Zg=Zg->Gt.Ac front φs W a0 listed a w->wpAny P .any ops Q fuel listed a w:=by
 obtain⟨hn,Z6,aoO,Zo,awH,e2,he2,ZG,axO⟩:=gE hB;rw[<-an_] at aoO Zo;have Zq:ops.size=front.length+2:=by rw[an_];simp
 have hos:ops[front.length]?=M s:=by rw[an_];simp
 have hot:ops[front.length+1]?=M t:=by rw[an_];simp
 intro fuel;induction fuel with
 | zero=>
  intro listed a w hz hc hb χ h;have h9:=il (by omega:listed.toList.count Zg=0) front.length af;rw[hb] at h9
  cases h9
 | succ fuel ih=>
  intro listed a w hz hc hb χ h;refine⟨λhr=>?_,λj hj=>?_⟩
  ·have h9:=Gs.gK hz Zo hr front.length af;rw[hb] at h9
   cases h9
  obtain⟨hun,o,ho,ZL⟩:=mem_ready.1 hj;have hjs:j<ops.size:=(YA.1 ho).1;have hcs:=count_set (listed:=listed) (i:=j) af hun
  by_cases hjf:j<front.length
  ·have hof:front[j]?=M o:=by rw[an_] at ho;simpa[Yu hjf] using ho
   have hφ:φs[j]?=M (φs[j]'(by omega)):=Yi _;obtain⟨hm,hob⟩:=hs j o _ hof hφ
   have aoi:∀t∈o.looksAt ops,slotFact a0 (knAll [] (front.take j) (φs.take j)) a w t:=by
    intro t ht;unfold slotFact
    cases hk:(knAll [] (front.take j) (φs.take j)).lookup t with
    | some φ=>
     rcases de _ _ _ hk with ⟨i,p,h1,h2,h3⟩|h1
     ·have hij:i<j:=by have:=(Yc.1 h1).1;simp at this;omega
      rw[YC,if_pos hij] at h1 h3;obtain⟨-,e,he,hon,hbi⟩:=aoO j o hof t ht i p h1 h2;have hl:=ZL e he hbi;rw[hon] at hl;exact h.old.known i p φ h1 h3 t h2 hl
     ·simp at h1
    | none=>
     refine h.old.other t (λi p hp hd=>?_)
     exfalso
     obtain⟨hij,-⟩:=aoO j o hof t ht i p hp hd;have hi:=(Yc.1 hp).1;exact (df _ _ _ hk).2 i p (φs[i]'(by omega)) AM AR hd
   have Zp:∀i,¬j=i->listed.getD i Zg=Zg->(listed.setIfInBounds j Zi).getD i Zg=Zg:=λi e h2=>by
    simpa[Ys,YH,e] using h2
   exact wO ho (hob a w _ h.old.size h.old.below aoi (λv w' δ hv=>ih _ _ _ (by simpa using hz) af (Zp _ af hb) (Zp _ af χ) ⟨h.old.step hn Z6 (λi o φ h1 h2=>(hs i o φ h1 h2).1) hof hφ af δ hv,λj' o' ho' hl e he hbe=>(by
     by_cases ej:j=j'
     ·subst ej;obtain rfl:o=o':=Yd (hof.symm.trans ho');exact Gs.alN (ZL e he hbe)
     ·exact Gs.alN (h.cl j' o' ho' (Gs.alH ej hl) e he hbe))⟩))
  ·by_cases hj1:j=front.length
   ·subst hj1;obtain rfl:s=o:=Yd (hos.symm.trans ho);have hfl:=λi hi=>mw h.cl 12 s.after (awH i hi) (λe he hbe=>ZL e he hbe);refine wO ho (Fin.last hf hlen Z6 h.old hfl _ (λa' w' ht=>?_))
    have ZP:(listed.setIfInBounds front.length Zi).size=ops.size:=by simpa using hz
    have hl2:∀i,i<front.length+1->(listed.setIfInBounds front.length Zi).getD i Zg=Zi:=λi hi=>by
     by_cases e:front.length=i
     ·subst e
      simp[Ys,show front.length<listed.size from by omega]
     ·exact Gs.alN (hfl i af)
    have hu2:(listed.setIfInBounds front.length Zi).getD (front.length+1) Zg=Zg:=by
     have e:¬front.length=front.length+1:=af
     simpa[Ys,YH,e] using χ
    cases fuel with
    | zero=>
     have h9:=il (by omega:(listed.setIfInBounds front.length Zi).toList.count Zg=0) (front.length+1) af;rw[hu2] at h9
     cases h9
    | succ fuel=>
     refine⟨λhr=>?_,λi hi=>?_⟩
     ·have h9:=Gs.gK ZP Zo hr (front.length+1) af;rw[hu2] at h9
      cases h9
     ·obtain⟨awI,o2,ho2,-⟩:=mem_ready.1 hi;have his:i<ops.size:=(YA.1 ho2).1
      have hie:i=front.length+1:=Classical.byContradiction λe=>by
       have h9:=hl2 i af;rw[cR af] at h9;rw[h9] at awI
       cases awI
      subst hie;obtain rfl:t=o2:=Yd (hot.symm.trans ho2);refine wO ho2 (ht _ (λa3 w3 hq=>ag9 (by simpa using ZP) (λi hi=>?_) hq))
      by_cases e:front.length+1=i
      ·subst e
       simp[Ys,show front.length+1<listed.size from by omega]
      ·exact Gs.alN (hl2 i af)
   ·obtain rfl:j=front.length+1:=af
    obtain rfl:t=o:=Yd (hot.symm.trans ho);have h9:=ZL e2 he2 ZG;rw[axO,cR af] at h9;rw[cR af] at hb;rw[hb] at h9
    cases h9
end
theorem wi {l:List Oper} {s t:Oper} (hm:P.follows .mixedOrders=Zi) (hfr:l.dropLast.dropLast=front) (hss:l.dropLast.getLast?=M s) (htt:l.getLast?=M t) (hB:growB a0.tmps.size front s t=Zi)
  (h:Grow P l.toArray Q W a0 s t front []):(Code.region id l.toArray Zi).wp P Q a0 W:=by
 have hl:l=front++[s,t]:=by
  obtain⟨l',rfl⟩:=List.getLast?_eq_some_iff.1 htt;rw[List.dropLast_concat] at hfr hss;obtain⟨l2,rfl⟩:=List.getLast?_eq_some_iff.1 hss;rw[List.dropLast_concat] at hfr;rw[<-hfr];simp
 obtain⟨φs,hlen,hs,hfi⟩:=Grow.spec _ _ h;refine wp_region_any hm (dJ (by rw[hl]) hB hlen hs hfi _ _ _ _ aF ?_ ?_ ?_ ⟨⟨rfl,rfl,(Yh _ _).drew,λi o φ h1 h2 d hd hx=>?_,λd _=>rfl⟩,λj o h1 hx=>?_⟩)
 ·exact qS
 ·exact bL _ _
 ·exact bL _ _
 ·rw[bL] at hx;cases hx
 ·rw[bL] at hx;cases hx
end Gu
namespace Rc
theorem jt(w:World) (o p q r:Obj):Below w.heap.size w ((((w.alloc o).alloc p).alloc q).alloc r):=(cO w o p q).alloc (by simp;omega) r
theorem Sy(sv:Vd->Bool) (acc:Option Vd) (v:Vd):stepB sv acc v=M v\/stepB sv acc v=acc:=by
 unfold stepB;exact (Decidable.em _).elim (λh=>Zl (if_pos h)) (λh=>Zk (if_neg h))
theorem Bm(sv:Vd->Bool) {u:Vd} :∀(vs:List Vd) (acc:Option Vd),vs.foldl (stepB sv) acc=M u->acc=M u\/u∈vs
 | [],acc,h=>Zl h
 | v ::vs,acc,h=>by
  have h2:=Sy sv acc v;rcases Bm sv vs (stepB sv acc v) h with h1|h1
  ·rcases h2 with h2|h2
   ·rw[h2] at h1;exact Zk (by rw[Yd h1];exact List.mem_cons_self ..)
   ·rw[h2] at h1;exact Zl h1
  ·exact Zk (List.mem_cons_of_mem _ h1)
theorem wb {sv:Vd->Bool} {vs:List Vd} {u:Vd} (h:dG sv vs=M u):∃j:Nat,vs[j]?=M u:=by
 rcases Bm sv vs J h with h1|h1
 ·cases h1
 ·exact YG h1
structure PoS (w:World) (d:Ad) (c:Cl) (wr:World):Prop where
 hb:Below w.heap.size w wr
 g0:wr.heap[w.heap.size]?=M (Ze (Zs d c.now) 29 (0,0))
 g1:wr.heap[w.heap.size+1]?=M (Ze #[I ⟨#[]⟩,V O 0,I ⟨#[]⟩,U J 0 0,I ⟨#[]⟩,V O 0] 102 (0,0))
 r:aA wr d c.raw
end Rc
end Go.Proofs.YtcnmlpiffcldkaaGreatDoor

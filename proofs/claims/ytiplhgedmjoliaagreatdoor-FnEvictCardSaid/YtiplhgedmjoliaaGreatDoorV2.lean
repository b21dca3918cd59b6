import Derived.Test.YtiplhgedmjoliaaGreatDoorV1
import Derived.WalkKit
import Derived.LaidEql
import Derived.Stop.Asserts
import Derived.RowKitTokens
import Derived.Test.YtiplhgedmjoliaaGreatDoorRows
import Derived.WalkSpells
import Derived.RegionTactic
import Derived.Lib.Overlaps
import Derived.Lib.SliceRun
import Derived.Lib.AppendZerosOnto
import Derived.Deep.RegionLaw
import Derived.Shelf.RegionOpenPlain
import Derived.Maps.OwnSet
import Derived.DeepKeys4
import Derived.WideKeyEntry
import Derived.OpenShut
import Derived.Deep.CutRange
import Derived.Deep.AppendLies
import Derived.Laws.CopyRow
import Derived.Laws.Tables
import Derived.Laws.Rows
import Derived.Laws.CopyOwn
import Derived.OwnWalk
import Derived.Outline
import Derived.Lib.BufferWrite
import Derived.Laws.IdiomStrings
import Derived.Lib.Bytealg
import Derived.Laws.StructEq
import Derived.BigRegion
import Derived.ChangeAlike
import Derived.Deep.QuietTactic
import Derived.BigQuiet
import Derived.Lib.VarintMem
import Derived.Lib.Hide
import Derived.Lib.Slices
import Derived.Deep.RegionWith
import Derived.Shelf.Strconv.Itoa4
import Derived.Shelf.Small.Wraps
import Derived.Laws.AppendOwn
import Derived.Deep.Cut
/-
 Whether pods are where they may be, as the specification asks it.
-/
set_option maxRecDepth 100000
set_option maxHeartbeats 12800000
open Bool renaming false→Y8,true→Y_
open Go.Ending renaming returned→Y9
open Go.IntKind renaming i64→Y5
open Go.Obj renaming cells→Y6
open Go.Value renaming string→I,slice→J,int→Y4,bool→Y7,agg→Za,pointer→Zd,tuple→Ze
open Option renaming none→U,some→Y3
open Or renaming inr→Zb,inl→Zc
open And renaming intro→Yb
open Array renaming getElem?_push_size→Yg, getD_eq_getD_getElem?→Yp, getElem?_eq_some_iff→Yw
open Bool renaming and_eq_true→YE
open Go.Addr renaming add_lit→Yo
open Go.Calls renaming quiet_of_same→YC
open Go.Lib renaming decDigits→YV
open Go.Op renaming bytesLess→Yk
open Go.Region renaming wanted→YM, ready→YR
open Go.RowKit.Below renaming heap_setCell→Ya, refl→Yh, heap_alloc→Ym
open Go.Value renaming string→Yn, ownBlock→YJ
open Go.World renaming setCell→YO, block_lt_of_cell?→Y0
open List renaming getElem?_eq_some_iff→Yc, lookup→Yf, getElem?_eq_getElem→Yi, length_map→Yr, setIfInBounds_toArray→Ys, getElem?_map→Yt, mem_of_getElem?→Yu, getElem?_append_left→Yv, drop_eq_nil_of_le→Yx, set_cons_zero→YA, set_cons_succ→YB, getElem?_take→YD, getElem?_of_mem→YF, length_take→YG, take_of_length_le→YH, length_set→YK, take_add_one→YL, eq_nil_of_length_eq_zero→YN, foldr→YQ, filter_append→YU, length_cons→YY
open Nat renaming le_refl→Ye, lt_of_lt_of_le→Yj, le_trans→Yl, zero_add→Yq, le_succ→Yy, zero_le→YI
open Option renaming map_eq_some_iff→Yz
open Option.some renaming inj→Yd
namespace Go.Proofs.YtiplhgedmjoliaaGreatDoor
variable {p:Prop}
namespace Mk
end Mk
namespace Dk
end Dk
open Go.RowKit Mk Go.Extern.Stop Go.Stop Go.Extern Go.ChangeMaps Go.MapKept Go.WideShapes Go.WideElems (Fit rd rg pl) Go.WideMaps (KeyLaw) Go.Maps (Keyed) Dk
variable {α:Type} {B b base cap g g0 j len m:Nat} {H:Nat->Nat->Nat} {P:Program} {Q:Exit->Act->World->Prop} {S:Nat->Prop} {T:TypeId} {W w w':World} {a0:Act} {back:Option Oper} {cs:Array Value} {d:Option Tmp} {ex:Gi.Ex} {front rest:List Oper} {i:TypeInfo} {listed:Array Bool} {o:Oper} {ops:Array Oper} {sp:Tmp} {t:ByteArray} {u v0 v1 v2 v3 v4 v5:Value} {va:Option Addr} {vb:Option Nat} {vss:List (List Value)} {zs:List ByteArray} {nm:α->ByteArray} {xs:List α}
theorem bo(h:p:=by unfold maxLen;omega):p:=h
theorem kG(h:p:=by simp[YO];omega):p:=h
theorem zN(h:p:=by rw[<-List.flatten_append,List.take_append_drop]):p:=h
theorem tA(h:p:=by rw[YG];omega):p:=h
theorem oh(h:p:=by simp[YO]):p:=h
theorem aL(h:p:=by
 go_simp;refine hK _ _ (Yh _ _) ?_;with_reducible rfl):p:=h
theorem amk(h:p:=by
 have hcase:(∃v,aY c t v)\/(∀v,¬aY c t v):=by
  by_cases h:∃v,aY c t v
  ·exact Zc h
  ·exact Zb (λv hv=>h ⟨v,hv⟩)
 rcases hcase with ⟨v,hbd⟩|hbd
 ·have z859z:=@aa _ @S3;exact xY
 ·have z1114z:=@aa _ @Lz;exact sW):p:=h
theorem amj(h:p:=by
 have z943z:=@aa _ @RP;exact xL):p:=h
theorem ahe(h:p:=by
 exact vC):p:=h
theorem kL(h:p:=by
 refine Obl.plain rfl ?_;intro ac wg K hsz hW hf hK;clear hsz;clear hf;go_simp;exact hK _ _ (ak _ _) ⟨_,rfl,hW.size,Yg⟩):p:=h
theorem m_(h:p:=by
 go_simp;refine hK _ _ (Rv.other ag (Yh _ _)) ?_;with_reducible rfl):p:=h
theorem mZ(h:p:=by
 rintro v w w' ⟨b,h1,h2,h3⟩ hb;exact⟨b,h1,h2,(hb.block _ (ae h3)).trans h3⟩):p:=h
theorem agR(h:p:=by
 obtain rfl:vl=kq:=af
 have z162z:=@aa _ @aeo;exact cS):p:=h
theorem agN(h:p:=by
 rw[<-e1] at hs3;have HS1:=aa hs1;have HS2:=aa hs2';have HS3:=aa hs3;have HS4:=aa hs4;obtain⟨o0,o1,o2,o3,o4,o5⟩:=cs6 bo5;have fo0:=al bo5 0;have fo2:=al bo5 2;have fo4:=al bo5 4;clear hs1 hs2' hs3 hs4 bo5 hown5 hgrow e1;go_wp2;exact⟨⟨k+1,_,H',_,by omega,by go_num,HS1,HS2,HS3,HS4⟩,by simp[intOf];omega⟩):p:=h
theorem agM(h:p:=by
 rcases hown.2 with ⟨rfl,rfl⟩|⟨g,cap,cur,rfl,_,_,hnc,_⟩
 ·cases ax <;> simp[Builtin.append_,run_underlying ht,sizeOf,typeInfo,hi,Builtin.lenOf,Builtin.firstCells,loadCells,loadCellsFrom]
 ·cases ax <;> simp[Builtin.append_,run_underlying ht,sizeOf,typeInfo,hi,Builtin.lenOf,Builtin.firstCells,hnc,storeCells,loadCells,loadCellsFrom]):p:=h
theorem PQ(h:p:=by
 have h1:=Yu h;simp only[aM,List.mem_append,List.mem_singleton] at h1;rcases h1 with (h1|h1)|h1
 ·exact Zb (List.mem_iff_getElem?.1 (List.mem_of_mem_take h1))
 ·exact Zc h1
 ·exact Zb (List.mem_iff_getElem?.1 (List.mem_of_mem_drop h1))):p:=h
theorem PN(h:p:=by
 have HCq:=aa hq;have z162z:=@aa _ @aen;exact cS):p:=h
theorem PK(h:p:=by
 obtain⟨k0,k1,k2,k3,k4,k5⟩:=cs6 Bk;go_wp2;go_ret;exact ar.f (λh=>by have:=HI2.2 h.2.1;cases this) HB.out):p:=h
theorem PG(h:p:=by
 obtain⟨k0,k1,k2,k3,k4,k5⟩:=cs6 Bk;go_wp2;go_ret;exact ar.f (λh=>by have:=HI1.2 h.1;cases this) HB.out):p:=h
theorem Px(h:p:=by
 unfold Oper.wp execOp;simp only[ho,resolve,invoke,builtin,Sem.run_bind,Sem.run_pure,Result.andThen_ok,List.map_toArray,List.map_cons,List.map_nil,hs,hx,hr];exact hK _ _ (h v w (by simpa using hown) (World.grownBy.refl _ _))):p:=h
theorem Pp(h:p:=by
 unfold Oper.wp execOp;simp only[ho,resolve,invoke,builtin,Sem.run_bind,Sem.run_pure,Result.andThen_ok,List.map_toArray,List.map_cons,List.map_nil,hs,hx,hr];exact hK _ _ (h v' w' h2 h3)):p:=h
theorem Pk(h:p:=by
 obtain rfl:l1=k:=af
 go_wp2;go_ret;exact ar.t ⟨HQ1.out,λj n hz=>HQ.out j n dD hz⟩ HB.out):p:=h
theorem Pg(h:p:=by
 intro a' c' w' hR hb6;have hsw:=hW.size;exact hK _ _ hb6 ⟨a',c',rfl,hR.bl (λk _ s=>by show W.heap.size<=k;rcases s with rfl|s <;> omega)⟩):p:=h
theorem Pc(h:p:=by
 obtain rfl:pl=k:=af
 go_wp2;go_ret;exact ar.t (λj t ht=>HQ.out j t zM ht) HB.out):p:=h
theorem Pb(h:p:=by
 by_cases e:j=k
 ·subst e;rw[HXp.out] at hz;obtain rfl:=Yd hz;exact λh=>absurd h HP2.out
 ·exact HQ.out j z af hz):p:=h
theorem ajJ(h:p:=by
 obtain⟨k0,k1,k2,k3,k4,k5⟩:=cs6 Bk;go_wp2;go_ret;exact ar.f (λh=>by have:=HI5.2 h.2.2.2.2.1;cases this) HB.out):p:=h
theorem O5(h:p:=by
 obtain⟨k0,k1,k2,k3,k4,k5⟩:=cs6 Bk;go_wp2;go_ret;exact ar.f (λh=>by have:=HI6.2 h.2.2.2.2.2;cases this) HB.out):p:=h
theorem OU(h:p:=by
 have h1:=gR x.toList t.toList;rw[h] at h1;have h2:=bA (λe=>hn e.symm);rw[h2] at h1;simpa using h1):p:=h
theorem ajF(h:p:=by
 subst e;rw[HXt.out] at hs;obtain rfl:=Yd hs;exact⟨⟨i4,x4,HG1.out,HG2.out⟩,Zc HEm.out⟩):p:=h
theorem vC(h:p:=by
 have z53z:=@aa _ @ahF;exact aC):p:=h
theorem kt(h:p:=by
 exact NL):p:=h
theorem gO(h:p:=by
 clear hf;obtain⟨k0,k1,k2,k3,k4,k5⟩:=cs6 ((hW.block _ (ae Bk.out)).trans Bk.out);exact aL):p:=h
theorem OF(h:p:=by
 have z1273z:=@aa _ @Jk;exact sL):p:=h
theorem ko(h:p:=by
 have z344z:=@aa _ @aL;exact lr):p:=h
theorem OC(h:p:=by
 have z53z:=@aa _ @ahE;exact aC):p:=h
theorem nf(h:p:=by
 have z411z:=@aa _ @abc;exact pE):p:=h
theorem OB(h:p:=by
 have z53z:=@aa _ @ahD;exact aC):p:=h
theorem Oz(h:p:=by
 have z53z:=@aa _ @ahC;exact aC):p:=h
theorem Ox(h:p:=by
 obtain rfl:k=kz:=af
 have z162z:=@aa _ @aem;exact cS):p:=h
theorem Oo(h:p:=by
 have z547z:=@aa _ @Xo;exact ew):p:=h
theorem Oc(h:p:=by
 obtain rfl:=Yd hz;exact λj s hs=>HQ2.out j s (by have h1:=(Yc.1 hs).1;have h2:=HVL.out;omega) hs):p:=h
theorem N2(h:p:=by
 clear hf;obtain⟨k0,k1,k2,k3,k4,k5⟩:=cs6 ((hW.block _ (ae GK.out)).trans GK.out);exact aL):p:=h
theorem ajw(h:p:=by
 rcases hown.2 with ⟨rfl,_⟩|⟨g,cap,cur,rfl,_⟩
 ·exact⟨_,_,_,rfl⟩
 ·exact⟨_,_,_,rfl⟩):p:=h
theorem NL(h:p:=by
 refine Obl.plain rfl ?_;intro ac wg K hsz hW hf hK;clear hsz;have e1:=hf 1 ag;simp[aj,Yf] at e1;clear hf;exact aL):p:=h
theorem ai2(h:p:=by
 have q0:∀q:Wd wr,q.w.cell? ⟨b,o+kz*6,U⟩=Y3 (I pq.n):=λq=>(q.cell (hb')).trans (d0);have q1:∀q:Wd wr,q.w.cell? ⟨b,o+kz*6+1,U⟩=Y3 (Y4 Y5 pq.c):=λq=>(q.cell (hb')).trans (d1);have q2:∀q:Wd wr,q.w.cell? ⟨b,o+kz*6+2,U⟩=Y3 (I pq.z):=λq=>(q.cell (hb')).trans (d2);have q3:∀q:Wd wr,q.w.cell? ⟨b,o+kz*6+3,U⟩=Y3 (J qa ql qc):=λq=>(q.cell (hb')).trans (d3);have q4:∀q:Wd wr,q.w.cell? ⟨b,o+kz*6+4,U⟩=Y3 (I pq.d):=λq=>(q.cell (hb')).trans (d4);have q5:∀q:Wd wr,q.w.cell? ⟨b,o+kz*6+5,U⟩=Y3 (Y4 Y5 pq.p):=λq=>(q.cell (hb')).trans (d5);have hne0:=Wd.ne wr;exact Yb q0 (Yb q1 (Yb q2 (Yb q3 (Yb q4 (Yb q5 hne0)))))):p:=h
theorem akG(h:p:=by
 have Gk:Hid ((wr.alloc (Y6 #[I p.n,Y4 Y5 p.c,I p.z,J va vl vc,I p.d,Y4 Y5 2] 40)).heap[w.heap.size]?=Y3 (Y6 (clo6 (Y3 ⟨b1,o1,U⟩) l1 y1 a2 l2 y2 a3 l3 y3 a4 l4 y4 (Y3 ⟨b,o,U⟩) l5 y5 c.now) 29 (0,0))):=(Ym _ _ _ (ae Bk.out)).trans (Bk.out);have Gr:Hid ((wr.alloc (Y6 #[I p.n,Y4 Y5 p.c,I p.z,J va vl vc,I p.d,Y4 Y5 2] 40)).heap[wr.heap.size]?=Y3 (Y6 #[I p.n,Y4 Y5 p.c,I p.z,J va vl vc,I p.d,Y4 Y5 2] 40 (0,0))):=Yg;have HW:Hid (Below w.heap.size w (wr.alloc (Y6 #[I p.n,Y4 Y5 p.c,I p.z,J va vl vc,I p.d,Y4 Y5 2] 40))):=(HB.trans ((ak _ _).mono HB.size));exact Yb Gk (Yb Gr HW)):p:=h
theorem agE(h:p:=by
 have nw:=λq:Wd (wr.alloc (Y6 #[I p.n,Y4 Y5 p.c,I p.z,J va vl vc,I p.d,Y4 Y5 2] 40))=>(q.cell hbnv).trans e5v;have hne0:=Wd.ne (wr.alloc (Y6 #[I p.n,Y4 Y5 p.c,I p.z,J va vl vc,I p.d,Y4 Y5 2] 40));have HC0:=aa (λq:Wd (wr.alloc (Y6 #[I p.n,Y4 Y5 p.c,I p.z,J va vl vc,I p.d,Y4 Y5 2] 40))=>fu ⟨(Y3 ⟨b1,o1,U⟩),l1,y1,a2,l2,y2,a3,l3,y3,a4,l4,y4,(Y3 ⟨b,o,U⟩),l5,y5⟩ c.now c.ns p.d q.w (HR.n.below (HW.trans (q.b.mono HW.size))) HNR.out HJn.out HNn.out);exact Yb nw (Yb hne0 HC0)):p:=h
theorem kK(h:p:=by
 have z792z:=@aa _ @T1;exact x8):p:=h
theorem zV(h:p:=by
 have z334z:=@aa _ @ab5;exact zn):p:=h
theorem zU(h:p:=by
 have HW:=HB;have k0:=λq:Wd wr=>q.slot (o:=0) Gk.out rfl;have k1:=λq:Wd wr=>q.slot (o:=1) Gk.out rfl;have k2:=λq:Wd wr=>q.slot (o:=2) Gk.out rfl;have k3:=λq:Wd wr=>q.slot (o:=3) Gk.out rfl;have k4:=λq:Wd wr=>q.slot (o:=4) Gk.out rfl;have k5:=λq:Wd wr=>q.slot (o:=5) Gk.out rfl;exact Yb HW (Yb k0 (Yb k1 (Yb k2 (Yb k3 (Yb k4 k5)))))):p:=h
theorem kJ(h:p:=by
 have fr0:=al Br.out 0;have fr1:=al Br.out 1;have fr2:=al Br.out 2;have fr3:=al Br.out 3;have fr4:=al Br.out 4;have fr5:=al Br.out 5;exact Yb fr0 (Yb fr1 (Yb fr2 (Yb fr3 (Yb fr4 fr5))))):p:=h
theorem agA(h:p:=by
 have Gk:=Bk;have Gv:=Bv;have HW:=HB;have k2:=λq:Wd q1.w=>q.slot (o:=2) Gk.out rfl;have v0:=λq:Wd q1.w=>q.slot (o:=0) Gv.out rfl;have v2:=λq:Wd q1.w=>q.slot (o:=2) Gv.out rfl;have v5:=λq:Wd q1.w=>q.slot (o:=5) Gv.out rfl;have v6:=λq:Wd q1.w=>q.slot (o:=6) Gv.out rfl;exact Yb Gk (Yb Gv (Yb HW (Yb k2 (Yb v0 (Yb v2 (Yb v5 v6))))))):p:=h
theorem Nc(h:p:=by
 have hbnv:b1<(wr.alloc (Y6 #[I p.n,Y4 Y5 p.c,I p.z,J va vl vc,I p.d,Y4 Y5 2] 40)).heap.size:=by simp;omega
 have e5v:=(ai (ak wr (Y6 #[I p.n,Y4 Y5 p.c,I p.z,J va vl vc,I p.d,Y4 Y5 2] 40)) hbn).trans e5;exact Yb hbnv e5v):p:=h
theorem Nb(h:p:=by
 have hXs:=HBX.size;have HBW:=aa (HBX.trans (HK.low (X:=w.heap.size) hXs (λk s=>by rcases s with rfl|s <;> omega)));have BkR:=aa ((HK.block w.heap.size af (λs=>by rcases s with s|s <;> omega)).trans Bk.out);have hKs:=HK.size;exact Yb hXs (Yb HBW (Yb BkR hKs))):p:=h
theorem akR(h:p:=by
 have p3:=λq:Wd wr=>q.slot (o:=3) Gp.out rfl;have n6:=λq:Wd wr=>q.slot (o:=6) Gn.out rfl;have tw:=λq:Wd wr=>(q.cell hb).trans hc;have vw:=λq:Wd wr=>(q.cell hbv).trans v0;have hne0:=Wd.ne wr;have HC0:=aa (λq:Wd wr=>fv ⟨(Y3 ⟨b1,o1,U⟩),l1,y1,a2,l2,y2,(Y3 ⟨b3,o3,U⟩),l3,y3,a4,l4,y4,a5,l5,y5⟩ c t q.w (HR.below (HW.trans (q.b.mono HW.size))) HX.out HV.out HNE.out HJ.out HDb.out);exact Yb p3 (Yb n6 (Yb tw (Yb vw (Yb hne0 HC0))))):p:=h
theorem agv(h:p:=by
 have tw:=λq:Wd q1.w=>(q.cell hb1).trans hc1;have vw:=λq:Wd q1.w=>(q.cell hbv).trans v2;have nw:=λq:Wd q1.w=>(q.cell hbn).trans n1;have hne0:=Wd.ne q1.w;have HC0:=aa (λq:Wd q1.w=>eJ ⟨(Y3 ⟨b1,o1,U⟩),l1,y1,a2,l2,y2,(Y3 ⟨b3,o3,U⟩),l3,y3,a4,l4,y4,(Y3 ⟨b,o,U⟩),l5,y5⟩ c.now c.xs t q.w (HR.x.below (HW.trans (q.b.mono HW.size))) HX.out HG1.out HG2.out);exact Yb tw (Yb vw (Yb nw (Yb hne0 HC0)))):p:=h
theorem M9(h:p:=by
 have Gk:=Bk;have Gv:=Bv;have HW:=HB;have k0:=λq:Wd q1.w=>q.slot (o:=0) Gk.out rfl;have v2:=λq:Wd q1.w=>q.slot (o:=2) Gv.out rfl;have v7:=λq:Wd q1.w=>q.slot (o:=7) Gv.out rfl;exact Yb Gk (Yb Gv (Yb HW (Yb k0 (Yb v2 v7))))):p:=h
theorem ow(h:p:=by
 have tw:=λq:Wd wr=>(q.cell hb).trans hc;have hne0:=Wd.ne wr;exact Yb tw hne0):p:=h
theorem akN(h:p:=by
 have tw:=λq:Wd q1.w=>(q.cell hb1).trans hc1;have hne0:=Wd.ne q1.w;exact Yb tw hne0):p:=h
theorem ago(h:p:=by
 have HB2:=upB HW q0.b;have Ck:=upK Gk q0.b;have Cr:=upK Gr q0.b;have CHTp:=aa ((HTp.out).below q0.b);exact Yb HB2 (Yb Ck (Yb Cr CHTp))):p:=h
theorem tI(h:p:=by
 have HB:=aa (BV.trans (HBW.mono BV.size));have Bk:=upK KV HBW.out;exact Yb HB Bk):p:=h
theorem mX(h:p:=by
 have HR:=aa hr;have HB:=aa (Yh w.heap.size w);exact Yb HR HB):p:=h
theorem agi(h:p:=by
 have GV:Hid ((wr.alloc (Y6 (vov v va vl vc) 95)).heap[wr.heap.size]?=Y3 (Y6 (vov v va vl vc) 95 (0,0))):=Yg;have BV:=aa (HB.trans ((ak wr (Y6 (vov v va vl vc) 95)).mono HB.size));exact Yb GV BV):p:=h
theorem akD(h:p:=by
 have hc1:=(q1.cell hb).trans hc;have hb1:=Yj hb q1.b.size;have HBW1:=upB HBW q1.b;exact Yb hc1 (Yb hb1 HBW1)):p:=h
theorem agd(h:p:=by
 have Br:Hid (W.heap[w.heap.size+1]?=Y3 (Y6 (clo6 U 0 0 U 0 0 U 0 0 U 0 0 U 0 0 0) 29 (0,0))):=by rw[hW0];exact dZ _ _ _
 have hWs:W.heap.size=w.heap.size+1+1:=by rw[hW0];simp
 exact Yb Br hWs):p:=h
theorem ai4(h:p:=by
 have hs2:wr.heap.size+1<w2.heap.size:=by have:=hb2.size;simp at this;omega
 have hsl:∀k,(k=wr.heap.size+1\/wr.heap.size+1+1<=k)->wr.heap.size+1<=k:=λk s=>by omega
 exact Yb hs2 hsl):p:=h
theorem pR(h:p:=by
 have HG1:=aa g1;have HG2:=aa g2;have hi41:decide ((i4:Int)<0)=Y8:=aF
 exact Yb HG1 (Yb HG2 hi41)):p:=h
theorem Nn(h:p:=by
 have HG:Hid (∀zs:List ByteArray,x.zs=zs->zs≠[]->wr.heap.size<=g):=λzs e hz=>by subst e;have:=hsl _ (hg.lt hz).1;omega
 have HB4:=aa hb4;have HO4:=aa (cA HO.out hb4);exact Yb HG (Yb HB4 HO4)):p:=h
theorem ai1(h:p:=by
 have z1615z:=@aa _ @DY;exact rC):p:=h
theorem ai0(h:p:=by
 have z1615z:=@aa _ @DX;exact rC):p:=h
theorem aiZ(h:p:=by
 have z659z:=@aa _ @VH;exact pn):p:=h
theorem aiY(h:p:=by
 have z659z:=@aa _ @VG;exact pn):p:=h
theorem aiX(h:p:=by
 have z659z:=@aa _ @VF;exact pn):p:=h
theorem aiW(h:p:=by
 rintro _ ⟨q2,rfl⟩;obtain⟨HB2,Ck⟩:=jK;have Cv:=upK Gv q2.b;clear hne0 HW HB k0 v2 v7 Gk Gv Bk Bv;have z733z:=@aa _ @UK;exact pj):p:=h
theorem aiV(h:p:=by
 rintro _ ⟨q2,rfl⟩;obtain⟨HB2,Ck⟩:=jK;have Cv:=upK Gv q2.b;clear hne0 HW HB k0 v2 v7 nw Gk Gv Bk Bv hbn n1;have HB:=HB2;clear HB2;have Bk:=Ck;clear Ck;have Bv:=Cv;clear Cv;clear q8;have z617z:=@aa _ @Wh;exact pw):p:=h
theorem aiU(h:p:=by
 rintro _ ⟨q2,rfl⟩;obtain⟨HB2,Ck⟩:=jK;have Cv:=upK Gv q2.b;clear hne0 HW HB k0 v2 v7 nw Gk Gv Bk Bv hbn n1;have z733z:=@aa _ @UJ;exact pj):p:=h
theorem aiT(h:p:=by
 rintro _ ⟨q2,rfl⟩;obtain⟨HB2,Ck⟩:=jK;have Cv:=upK Gv q2.b;clear hne0 HW HB k2 v0 v2 v5 v6 Gk Gv Bk Bv;have z733z:=@aa _ @UI;exact pj):p:=h
theorem aiS(h:p:=by
 rintro _ ⟨q2,rfl⟩;obtain⟨HB2,Ck⟩:=jK;have Cv:=upK Gv q2.b;clear hne0 HW HB k2 v0 v2 v5 v6 vw Gk Gv Bk Bv hbv v7;have HB:=HB2;clear HB2;have Bk:=Ck;clear Ck;have Bv:=Cv;clear Cv;have z617z:=@aa _ @Wg;exact pw):p:=h
theorem aiR(h:p:=by
 rintro _ ⟨q1,rfl⟩;have HB1:=upB HW q1.b;obtain⟨Ck,Cr⟩:=er;clear hne0 HW HB k0 k1 k2 k3 k4 k5 r0 r1 r2 r3 r4 r5 Gk Gr Bk pk hb c0 c1 c2 c3 c4 c5;have HB:=HB1;clear HB1;have Bk:=Ck;clear Ck;clear Cr;clear hp2 hp3;have z613z:=@aa _ @Pb;exact lk):p:=h
theorem ahS(h:p:=by
 repeat (go_big_quiet_step (first|(go_at_call 100;exact Calls.wide (HC0.out _))|fail))
 have z752z:=@aa _ @Uw;exact yi):p:=h
theorem ahR(h:p:=by
 repeat (go_big_quiet_step (first|(go_at_call 101;exact Calls.wide (HC0.out _))|fail))
 have z752z:=@aa _ @Uv;exact yi):p:=h
theorem ahQ(h:p:=by
 have z610z:=@aa _ @Wm;exact yF):p:=h
theorem ahP(h:p:=by
 have z610z:=@aa _ @Wl;exact yF):p:=h
theorem ahO(h:p:=by
 have z1032z:=@aa _ @Mw;exact mS):p:=h
theorem ahN(h:p:=by
 have z663z:=@aa _ @VD;exact yB):p:=h
theorem ahM(h:p:=by
 have z1531z:=@aa _ @EW;exact mo):p:=h
theorem ahL(h:p:=by
 have z946z:=@aa _ @RN;exact xK):p:=h
theorem ahK(h:p:=by
 have z946z:=@aa _ @RM;exact xK):p:=h
theorem ahJ(h:p:=by
 have z492z:=@aa _ @X_;exact lp):p:=h
theorem ahI(h:p:=by
 have z580z:=@aa _ @WM;exact yJ):p:=h
theorem ahH(h:p:=by
 have z580z:=@aa _ @WL;exact yJ):p:=h
theorem ahG(h:p:=by
 have z492z:=@aa _ @X9;exact lp):p:=h
theorem ahF(h:p:=by
 have z569z:=@aa _ @WW;exact yK):p:=h
theorem ahE(h:p:=by
 have z666z:=@aa _ @VC;exact yA):p:=h
theorem ahD(h:p:=by
 have z569z:=@aa _ @WV;exact yK):p:=h
theorem ahC(h:p:=by
 have z666z:=@aa _ @VB;exact yA):p:=h
theorem aev(h:p:=by
 have HS:=aa hs;clear hs;obtain⟨i2,hi2⟩:=Yz.1 Qh;obtain⟨i4,hi4⟩:=Yz.1 qh;obtain⟨i1,hi1⟩:=Yz.1 Qg;obtain⟨i3,hi3⟩:=Yz.1 qi;obtain⟨i5,hi5⟩:=Yz.1 qj;have HI1:=aa hi1;have HI2:=aa hi2;have HI3:=aa hi3;have HI4:=aa hi4;have HI5:=aa hi5;clear hi1 hi2 hi3 hi4 hi5;obtain⟨W,hW0⟩:∃W,W=(w.alloc (Y6 (clo6 a1 l1 y1 a2 l2 y2 a3 l3 y3 a4 l4 y4 a5 l5 y5 c.now) 29)).alloc (Y6 (clo6 U 0 0 U 0 0 U 0 0 U 0 0 U 0 0 0) 29):=⟨_,rfl⟩;have HB:Hid (Below w.heap.size w W):=by rw[hW0];exact aR _ _ _
 have Bk:Hid (W.heap[w.heap.size]?=Y3 (Y6 (clo6 a1 l1 y1 a2 l2 y2 a3 l3 y3 a4 l4 y4 a5 l5 y5 c.now) 29 (0,0))):=by rw[hW0];exact d_ _ _ _
 obtain⟨Br,hWs⟩:=agd;go_enter Tryz.func29,Tryz.ntmps29;go_wp2_with fail;rw[<-hW0];clear hW0;have z1243z:=@aa _ @JI;exact gJ):p:=h
theorem jr(h:p:=by
 have z445z:=@aa _ @aaP;exact cf):p:=h
theorem aep(h:p:=by
 by_cases e:j=k
 ·subst e;rw[HXn.out] at hz;exact Oc
 ·exact HQ.out j z af hz):p:=h
theorem aeo(h:p:=by
 by_cases e:j=k
 ·subst e;rw[HXv.out] at hz;exact Oc
 ·exact HQ.out j z af hz):p:=h
theorem aen(h:p:=by
 by_cases e:j=k
 ·subst e;rw[HXn.out] at hz;obtain rfl:=Yd hz;exact HCq.out
 ·exact HQ.out j z af hz):p:=h
theorem aem(h:p:=by
 by_cases e:j=k
 ·subst e;rw[HXp.out] at hz;obtain rfl:=Yd hz;exact⟨HPa.out,HQb.out,λj2 q2 hj2 hq2=>HQ3.out j2 q2 hj2 hq2⟩
 ·exact HQ.out j z af hz):p:=h
theorem cS(h:p:=by
 have z613z:=@aa _ @Wi;exact lk):p:=h
theorem acT(h:p:=by
 have HC0:=aa (λqw:Wd wr=>(hJ ⟨(Y3 ⟨b1,o1,U⟩),l1,y1,a2,l2,y2,a3,l3,y3,a4,l4,y4,(Y3 ⟨b,o,U⟩),l5,y5⟩ c pq p qa ql qc va vl vc qw.w (HR.below (HW.trans (qw.b.mono HW.size))) HX.out HV.out HNE.out (HTq.below qw.b) (HTp.below qw.b)).mono (λ_ _ h=>ar.yes h HPr.out));exact OC):p:=h
theorem acS(h:p:=by
 have HC0:=aa (λqw:Wd wr=>(hJ ⟨(Y3 ⟨b1,o1,U⟩),l1,y1,a2,l2,y2,a3,l3,y3,a4,l4,y4,(Y3 ⟨b,o,U⟩),l5,y5⟩ c pq p qa ql qc va vl vc qw.w (HR.below (HW.trans (qw.b.mono HW.size))) HX.out HV.out HNE.out (HTq.below qw.b) (HTp.below qw.b)).mono (λ_ _ h=>ar.no h HPr.out));exact Oz):p:=h
theorem zr(h:p:=by
 have HPr:=aa hpr;clear hpr;have z543z:=@aa _ @Xp;exact py):p:=h
theorem acR(h:p:=by
 refine (AO d c _ (HR.below HB.out)).mono ?_;have z721z:=@aa _ @US;exact yu):p:=h
theorem zq(h:p:=by
 rintro e w1 ⟨r,rfl,hi,hw⟩;have hb:Below (w.alloc (Y6 (clv d c.now) 29)).heap.size (w.alloc (Y6 (clv d c.now) 29)) w1:=by first|(rw[hw];exact Yh _ _)|(rw[<-hw];exact Yh _ _)
 clear hw;have z716z:=@aa _ @UY;exact lg):p:=h
theorem acI(h:p:=by
 have e12:=hf 12 ag;simp[aj,Yf] at e12;clear hf;exact aL):p:=h
theorem lx(h:p:=by
 have z1579z:=@aa _ @El;exact lZ):p:=h
theorem aci(h:p:=by
 have e11:=hf 11 ag;simp[aj,Yf] at e11;clear hf;go_simp;refine (fu ⟨(Y3 ⟨b1,o1,U⟩),l1,y1,a2,l2,y2,a3,l3,y3,a4,l4,y4,a5,l5,y5⟩ c.now c.ns p.d _ (HR.n.below (BW.trans (hW.mono BW.size))) HNR.out HJn.out HNn.out).mono ?_;rintro e w5 ⟨rfl,hb5⟩;exact hK _ _ hb5 rfl):p:=h
theorem pI(h:p:=by
 have z1576z:=@aa _ @En;exact l9):p:=h
theorem ab5(h:p:=by
 have hl3:c.vs.length=l3:=tG
 exact Yb HR (Yb hl1 (Yb hm1 hl3))):p:=h
theorem lr(h:p:=by
 refine Obl.plain rfl ?_;intro ac wg K hsz hW hf hK;clear hsz;have e3:=hf 3 ag;simp[aj,Yf] at e3;clear hf;exact z344z):p:=h
theorem abW(h:p:=by
 rw[<-ke w t t' o.type e e' i ht ht' hi] at hr;exact Pp):p:=h
theorem abV(h:p:=by
 rw[<-iX w t t' o.type e e' i ht ht' hi] at hr;exact Pp):p:=h
theorem zl(h:p:=by
 refine wpList_plain hgd λK hK=>?_;obtain⟨v',w',hr,h2,h3,h4⟩:=run_append_own (P:=Tryz.prog) w base t o.type e i z size bytes ht hi hz hsize hby hzs hsz v n xs hown ad m c news hl hnews h1 h63 hbytes hbase;obtain⟨va,vl,vc,rfl⟩:∃a l c,v=J a l c:=by
  exact ajw
 exact z348z):p:=h
theorem abz(h:p:=by
 have hend:∀(listed:Array Bool) (a:Act) (w:World),listed.size=ops.size->(∀i,i<ops.size->listed.getD i Y8=Y_)->(∀o,back=Y3 o->listed.getD front.length Y8=Y8)->(∃lo hi,At R sp ex front φs W a0 listed a w lo hi)->Q .normal a w:=by
  rintro listed a w hz hall hb ⟨lo,hi,h⟩;have h1:=hf.last hlen hin h (λi hi=>hall i af);exact vP
 intro fuel;induction fuel with
 | zero=>
  intro listed a w hz hc hb h;have hall:∀i,i<ops.size->listed.getD i Y8=Y_:=λi hi=>gP af i af;refine⟨?_,hend listed a w hz hall hb h⟩
  cases hr:YR .any ops listed with
  | nil=>rfl
  | cons j js=>
   have hm:j∈YR .any ops listed:=by rw[hr];simp
   obtain⟨h1,o,ho,-⟩:=mem_ready.1 hm;have hj:=(Yw.1 ho).1;rw[<-dm af,hall j hj] at h1
   cases h1
 | succ fuel ih=>
  intro listed a w hz hc hb hlh;refine⟨λhr=>hend listed a w hz (iN hz hlt hr) hb hlh,λj hj=>?_⟩;obtain⟨lo,hi,h⟩:=hlh;obtain⟨hun,o,ho,hall⟩:=mem_ready.1 hj;have hjs:j<ops.size:=(Yw.1 ho).1;have hcs:=count_set (listed:=listed) (i:=j) af hun
  by_cases hjf:j<front.length
  ·have hof:front[j]?=Y3 o:=by rw[hops] at ho;simpa[Yv hjf] using ho
   have hφ:φs[j]?=Y3 (φs[j]'(by omega)):=Yi _;obtain⟨hm,hob⟩:=hs j o _ hof hφ
   have hfacts:∀t∈o.looksAt ops,aj ex o.dst a0 (knAll [] (front.take j) (φs.take j)) a w lo hi t:=by
    intro t ht;unfold aj
    cases hk:(knAll [] (front.take j) (φs.take j)).lookup t with
    | some φ=>
     rcases de _ _ _ hk with ⟨i,p,h1,h2,h3⟩|h1
     ·have hij:i<j:=by have:=(Yc.1 h1).1;simp at this;omega
      rw[YD,if_pos hij] at h1 h3;obtain⟨-,e,he,hon,hbi⟩:=hdep j o hof t ht i p h1 h2;have hl:=hall e he hbi;rw[hon] at hl;intro hex;refine h.known i p φ h1 h3 t h2 hl (λe9 he i' p' hp' hd'=>?_)
      rcases hex with h9|h9
      ·rw[h9] at he;cases he
      ·have:i'=j:=fF front hn hp' hof hd' (h9.symm.trans he);subst this;rw[dm af];exact hun
     ·simp at h1
    | none=>
     refine h.other t (λi p hp hd=>?_)
     exfalso
     obtain⟨hij,-⟩:=hdep j o hof t ht i p hp hd;have hi:=(Yc.1 hp).1;exact (df _ _ _ hk).2 i p (φs[i]'(by omega)) zL zO hd
   have hfind:∀t∈o.looksAt ops,((knAll [] (front.take j) (φs.take j)).lookup t).isSome=Y_->∃(i:Nat) (p:Oper),front[i]?=Y3 p/\p.dst=Y3 t/\listed.getD i Y8=Y_:=by
    intro t ht hk;obtain⟨φ,hφ'⟩:=Option.isSome_iff_exists.1 hk
    rcases de _ _ _ hφ' with ⟨i,p,h1,h2,h3⟩|h1
    ·have hij:i<j:=by have:=(Yc.1 h1).1;simp at this;omega
     rw[YD,if_pos hij] at h1;obtain⟨-,e,he,hon,hbi⟩:=hdep j o hof t ht i p h1 h2;have hl:=hall e he hbi;rw[hon] at hl;exact⟨i,p,h1,h2,hl⟩
    ·simp at h1
   have hap:qC (knAll [] (front.take j) (φs.take j)) lo hi (o.looksAt ops):=by
    intro t ht t' ht' hk hk' hne;obtain⟨i,p,h1,h2,h3⟩:=hfind t ht hk;obtain⟨i',p',g1,g2,g3⟩:=hfind t' ht' hk';exact h.apart i p i' p' h1 g1 t t' h2 g2 h3 g3 hne
   have hpre:o.dst=Y3 sp->Below W.heap.size W w:=λhd=>h.pre (λi p hp hd'=>by
    have:i=j:=fF front hn hp hof hd' hd;subst this;rw[dm af]
    exact hun)
   have h1:=hob a w (wpAny P .any ops Q fuel (listed.setIfInBounds j Y_)) lo hi h.size h.below hpre hfacts hap (λv w' hbw hv=>by
    refine ih _ _ _ (by simpa using hz) af (λo' ho'=>?_) (h.step hR (hds o (Yu hof)) hn hin (λi o φ h1 h2=>(hs i o φ h1 h2).1) hof hφ af hbw hv);have h2:=hb o' ho'
    have e:¬j=front.length:=af
    simpa[Yp,Array.getElem?_setIfInBounds,e] using h2)
   unfold wpOp;rw[ho]
   simp only
   split
   ·rename_i hw;rw[if_pos hw] at h1;exact Zc h1
   ·rename_i hw;rw[if_neg hw] at h1;exact h1
  ·cases hk:back with
   | none=>rw[hk] at hsz;simp at hsz;omega
   | some b=>
    have hjn:j=front.length:=by rw[hk] at hsz;simp at hsz;omega
    subst hjn
    have hob:o=b:=by
     rw[hops,hk] at ho
     simp at ho
     exact ho.symm
    subst hob
    have hfl:∀i,i<front.length->listed.getD i Y8=Y_:=λi hi=>by
     obtain⟨e,he,hon,hbi⟩:=hback o hk i hi;have:=hall e he hbi
     rwa [hon] at this
    have h1:=hf.last hlen hin h hfl;rw[hk] at h1
    have h2:=h1 (wpAny P .any ops Q fuel (listed.setIfInBounds front.length Y_)) (λa' w' hq=>by
     have hr:YR .any ops (listed.setIfInBounds front.length Y_)=[]:=by
      cases hr:YR .any ops (listed.setIfInBounds front.length Y_) with
      | nil=>rfl
      | cons i is=>
       have hm:i∈YR .any ops (listed.setIfInBounds front.length Y_):=by rw[hr];simp
       obtain⟨h3,o',ho',-⟩:=mem_ready.1 hm;have hi:=(Yw.1 ho').1
       exfalso
       by_cases e:front.length=i
       ·subst e
        simp[Yp,show front.length<listed.size from by omega] at h3
       ·have h4:=hfl i (by rw[hk] at hsz;simp at hsz;omega);rw[dm af] at h4
        simp[Yp,e] at h3 h4
        rw[h3] at h4
        cases h4
     cases fuel with
     | zero=>exact⟨hr,hq⟩
     | succ fuel=>exact⟨λ_=>hq,λi hi=>by rw[hr] at hi;cases hi⟩)
    unfold wpOp;rw[ho]
    simp only
    split
    ·rename_i hw;rw[if_pos hw] at h2;exact Zc h2
    ·rename_i hw;rw[if_neg hw] at h2;exact h2):p:=h
theorem abc(h:p:=by
 clear hf;exact aL):p:=h
theorem pE(h:p:=by
 refine Obl.plain rfl ?_;intro ac wg K hsz hW hf hK;clear hsz;have e2:=hf 2 ag;simp[aj,Yf] at e2;exact z411z):p:=h
theorem pD(h:p:=by
 refine Obl.plain rfl ?_;intro ac wg K hsz hW hf hK;clear hsz;have e7:=hf 7 ag;simp[aj,Yf] at e7;exact z413z):p:=h
theorem aa5(h:p:=by
 have hr:=iY (ty:=o.type) ht hi hown ax c;exact Px):p:=h
theorem aa4(h:p:=by
 have hr:=kg (ty:=o.type) ht hi hown ax c;exact Px):p:=h
theorem yT(h:p:=by
 have hl0:l=0:=by
  rcases Nat.eq_zero_or_pos l with e|e
  ·exact e
  ·have:=Nat.mul_pos e hsz;simp at hl;omega
 subst hl0;refine wpList_plain hgd λK hK=>?_;exact z424z):p:=h
theorem aaP(h:p:=by
 exact z154z):p:=h
theorem aab(h:p:=by
 by_cases hg:∃(i:Nat) (x:Xd),c.xs[i]?=Y3 x/\x.n=t;rotate_left
 ·have HG:=aa hg;clear hg;have z877z:=@aa _ @SJ;exact fM
 obtain⟨i4,x4,g1,g2⟩:=hg;obtain⟨HG1,HG2,hi41⟩:=pR;clear g1 g2;have z877z:=@aa _ @SL;exact fM):p:=h
theorem aaa(h:p:=by
 by_cases hg:∃(i:Nat) (x:Xd),c.xs[i]?=Y3 x/\x.n=t;rotate_left
 ·have HG:=aa hg;clear hg;have z877z:=@aa _ @SH;exact fM
 obtain⟨i4,x4,g1,g2⟩:=hg;obtain⟨HG1,HG2,hi41⟩:=pR;clear g1 g2;have z877z:=@aa _ @SI;exact fM):p:=h
theorem X_(h:p:=by
 by_cases hg:∃(i:Nat) (x:Xd),c.xs[i]?=Y3 x/\x.n=t;rotate_left
 ·have HG:=aa hg;clear hg;have z877z:=@aa _ @SG;exact fM
 obtain⟨i4,x4,g1,g2⟩:=hg;obtain⟨HG1,HG2,hi41⟩:=pR;clear g1 g2;have hbv:=Yj HB3.out HB.size;have v2:=(ai HB.out HB3.out).trans HC2.out;have hbn:=Yj HBn.out HB.size;have n1:=(ai HB.out HBn.out).trans HCn.out;by_cases hz:v.z=n.z
 ·have hzq:=aP hz;have HZ:=aa hz;clear hz;have z885z:=@aa _ @SD;exact pe
 ·have hzq:=bA hz;have HZ:=aa hz;clear hz;have z885z:=@aa _ @SC;exact pe):p:=h
theorem X9(h:p:=by
 by_cases hg:∃(i:Nat) (x:Xd),c.xs[i]?=Y3 x/\x.n=t;rotate_left
 ·have HG:=aa hg;clear hg;have z877z:=@aa _ @SE;exact fM
 obtain⟨i4,x4,g1,g2⟩:=hg;obtain⟨HG1,HG2,hi41⟩:=pR;clear g1 g2;have z877z:=@aa _ @SF;exact fM):p:=h
theorem lp(h:p:=by
 have z1022z:=@aa _ @ME;exact mT):p:=h
theorem XL(h:p:=by
 obtain⟨HR,hl1,hm1,hl3⟩:=zV;obtain⟨hl5,hm5⟩:=kK;clear hr;have HNR:=aa hn;obtain⟨HX,HV,HNE⟩:=iH;have HL5:=aa hps8;have HPC:=aa hpc;clear hn hx hv hne hps8 hpc;go_enter Tryz.func52,Tryz.ntmps52;go_wp2;go_loopw [3] (λi wr=> ∃k:Nat,k<=l5/\i=Y4 Y5 k/\Hid (∀(j:Nat) z,j<k->c.ps[j]?=Y3 z->PS c j z)/\Hid (Below w.heap.size w wr)/\Hid (wr.heap[w.heap.size]?=Y3 (Y6 (clo6 a1 l1 y1 a2 l2 y2 a3 l3 y3 a4 l4 y4 a5 l5 y5 c.now) 29 (0,0)))) (λi _=>l5 - (intOf i).toNat);case atStart=>exact⟨0,by omega,rfl,λ_ _ h=>absurd h af,ak _ _,Yg⟩
 case round=>
  obtain⟨k,hk,rfl,HQ,HB,Bk⟩:=hrel;have pk:=ck4 Bk;by_cases hlt:k<l5
  ·have z1550z:=@aa _ @EH;exact rO
  ·obtain rfl:l5=k:=af
   have HQ1:Hid (∀(k:Nat) p,c.ps[k]?=Y3 p->PS c k p):=λj z hz=>HQ.out j z dD hz;clear HQ;go_wp2;clear pk;go_loopw [9] (λi wr=> ∃k:Nat,k<=l1/\i=Y4 Y5 k/\Hid (∀(j:Nat) n,j<k->c.ns[j]?=Y3 n->cpuOf n.n c.ps<=n.c)/\Hid (Below w.heap.size w wr)/\Hid (wr.heap[w.heap.size]?=Y3 (Y6 (clo6 a1 l1 y1 a2 l2 y2 a3 l3 y3 a4 l4 y4 a5 l5 y5 c.now) 29 (0,0)))) (λi _=>l1 - (intOf i).toNat);case atStart=>exact⟨0,by omega,rfl,λ_ _ h=>absurd h af,HB.out,Bk.out⟩
   case round=>
    obtain⟨k,hk,rfl,HQ,HB,Bk⟩:=hrel;have pk:=ck0 Bk;by_cases hlt:k<l1
    ·have z851z:=@aa _ @S_;exact fO
    ·exact Pk):p:=h
theorem XK(h:p:=by
 have z1603z:=@aa _ @D6;exact rG):p:=h
theorem XJ(h:p:=by
 have HR:=aa hr;have hl1:c.ns.length=l1:=by simpa using (show (c.ns.map ndF).length=l1 from hr.n.1)
 have hl3:c.vs.length=l3:=tG
 clear hr;have HNR:=aa hn;obtain⟨HX,HV,HNE⟩:=iH;have HP:=aa hp;have HBD:=aa hbd;have hlc:=Yl hp.2.1 hp.2.2.1;have hzl:=hp.1;have hl1':j1<l1:=by have h3:=(Yc.1 hj1).1;omega
 obtain⟨b1,o1,n',rfl,hb1n,hn',hat⟩:=dn HR.n hl1';rw[hj1] at hn';obtain rfl:=Yd hn';obtain⟨na,nl,nc,hnr,z0,z1,d0,d1,d2,d3,d4,d5,d6⟩:=aZ hat;have HJn:=aa hj1;have HNn:=aa hnn;have HTn:=aa hnr;have HBn:=aa hb1n;have HD:Hid (w.cell? ⟨b1,o1+j1*7,U⟩=Y3 (I n.n)/\w.cell? ⟨b1,o1+j1*7+1,U⟩=Y3 (I n.z)/\w.cell? ⟨b1,o1+j1*7+2,U⟩=Y3 (Y4 Y5 n.c)/\w.cell? ⟨b1,o1+j1*7+3,U⟩=Y3 (Y4 Y5 n.s)/\w.cell? ⟨b1,o1+j1*7+4,U⟩=Y3 (Y4 Y5 n.u)/\w.cell? ⟨b1,o1+j1*7+5,U⟩=Y3 (Y7 n.d)/\w.cell? ⟨b1,o1+j1*7+6,U⟩=Y3 (J na nl nc)):=⟨d0,d1,d2,d3,d4,d5,d6⟩;clear hn' hat hnr z0 z1 d0 d1 d2 d3 d4 d5 d6 hj1 hnn hb1n hn hx hv hne hp hbd;obtain⟨W,hW0⟩:∃W,W=(w.alloc (Y6 (clo6 (Y3 ⟨b1,o1,U⟩) l1 y1 a2 l2 y2 a3 l3 y3 a4 l4 y4 a5 l5 y5 c.now) 29)).alloc (Y6 (pov p pa pl pc) 40):=⟨_,rfl⟩;have GK:Hid (W.heap[w.heap.size]?=Y3 (Y6 (clo6 (Y3 ⟨b1,o1,U⟩) l1 y1 a2 l2 y2 a3 l3 y3 a4 l4 y4 a5 l5 y5 c.now) 29 (0,0))):=by rw[hW0];exact d_ _ _ _
 have GP:Hid (W.heap[w.heap.size+1]?=Y3 (Y6 (pov p pa pl pc) 40 (0,0))):=by rw[hW0];exact dZ _ _ _
 have BW:Hid (Below w.heap.size w W):=by rw[hW0];exact aR _ _ _
 go_enter Tryz.func71,Tryz.ntmps71;go_wp2_with fail;rw[<-hW0];clear hW0;have z1243z:=@aa _ @JH;exact gJ):p:=h
theorem XI(h:p:=by
 obtain⟨HR,hl1,hm1,hl3⟩:=zV;obtain⟨hl5,hm5⟩:=kK;clear hr;have HNR:=aa hn;obtain⟨HX,HV,HNE⟩:=iH;have HRun:=aa hrun;clear hn hx hv hne hrun;go_enter Tryz.func54,Tryz.ntmps54;go_wp2;go_loopw [3] (λi wr=> ∃k:Nat,k<=l1/\i=Y4 Y5 k/\Hid (∀(j:Nat) z,j<k->c.ns[j]?=Y3 z->QI c z)/\Hid (Below w.heap.size w wr)/\Hid (wr.heap[w.heap.size]?=Y3 (Y6 (clo6 a1 l1 y1 a2 l2 y2 a3 l3 y3 a4 l4 y4 a5 l5 y5 c.now) 29 (0,0)))) (λi _=>l1 - (intOf i).toNat);case atStart=>exact⟨0,by omega,rfl,λ_ _ h=>absurd h af,ak _ _,Yg⟩
 case round=>
  obtain⟨k,hk,rfl,HQ,HB,Bk⟩:=hrel;have pk:=ck0 Bk;by_cases hlt:k<l1
  ·have z851z:=@aa _ @S8;exact fO
  ·have z1588z:=@aa _ @Ef;exact rL):p:=h
theorem Xr(h:p:=by
 obtain⟨q0,q1,q2,q3,q4,q5,hne0⟩:=ai2;have HC0:=aa (λqw:Wd wr=>(hJ ⟨a1,l1,y1,a2,l2,y2,a3,l3,y3,a4,l4,y4,(Y3 ⟨b,o,U⟩),l5,y5⟩ c pq p qa ql qc va vl vc qw.w (HR.below (HW.trans (qw.b.mono HW.size))) HX.out HV.out HNE.out (HTq.below qw.b) (HTp.below qw.b)).mono (λ_ _ h=>ar.yes h HPr.out));exact OC):p:=h
theorem Xq(h:p:=by
 obtain⟨q0,q1,q2,q3,q4,q5,hne0⟩:=ai2;have HC0:=aa (λqw:Wd wr=>(hJ ⟨a1,l1,y1,a2,l2,y2,a3,l3,y3,a4,l4,y4,(Y3 ⟨b,o,U⟩),l5,y5⟩ c pq p qa ql qc va vl vc qw.w (HR.below (HW.trans (qw.b.mono HW.size))) HX.out HV.out HNE.out (HTq.below qw.b) (HTp.below qw.b)).mono (λ_ _ h=>ar.no h HPr.out));exact Oz):p:=h
theorem Xp(h:p:=by
 obtain⟨q0,q1,q2,q3,q4,q5,hne0⟩:=ai2;exact z272z):p:=h
theorem py(h:p:=by
 have z885z:=@aa _ @SB;exact pe):p:=h
theorem Xo(h:p:=by
 have e3:=hf 3 ag;simp[Gi.aj,Yf] at e3;clear hf;exact m_):p:=h
theorem Xm(h:p:=by
 have e50:=hf 50 ag;simp[Gi.aj,Yf] at e50;clear hf;obtain⟨o0,o1,o2,o3,o4,o5⟩:=cs6 ((hW.block b3 hor (λe=>by have:=(HO.lt _ e.symm).1;omega)).trans Bo.out);exact m_):p:=h
theorem Xl(h:p:=by
 have e1:=hf 1 ag;simp[Gi.aj,Yf] at e1;clear hf;exact m_):p:=h
theorem Xk(h:p:=by
 have e52:=hf 52 ag;simp[Gi.aj,Yf] at e52;clear hf;obtain⟨k0,k1,k2,k3,k4,k5⟩:=cs6 ((hW.block w.heap.size hkr (λe=>by have:=(HO.lt _ e.symm).1;omega)).trans BkR.out);exact m_):p:=h
theorem Xj(h:p:=by
 have e6:=hf 6 ag;simp[Gi.aj,Yf] at e6;clear hf;exact m_):p:=h
theorem Xi(h:p:=by
 have e53:=hf 53 ag;simp[Gi.aj,Yf] at e53;have e54:=hf 54 ag;simp[Gi.aj,Yf] at e54;clear hf;exact m_):p:=h
theorem Xh(h:p:=by
 have e55:=hf 55 ag;simp[Gi.aj,Yf] at e55;clear hf;have c0g:=(World.cell?_of_block (hW.block b hbr (λe=>by have:=(HO.lt _ e.symm).1;omega))).trans c0;have c1g:=(World.cell?_of_block (hW.block b hbr (λe=>by have:=(HO.lt _ e.symm).1;omega))).trans c1;have c2g:=(World.cell?_of_block (hW.block b hbr (λe=>by have:=(HO.lt _ e.symm).1;omega))).trans c2;have c3g:=(World.cell?_of_block (hW.block b hbr (λe=>by have:=(HO.lt _ e.symm).1;omega))).trans c3;have c4g:=(World.cell?_of_block (hW.block b hbr (λe=>by have:=(HO.lt _ e.symm).1;omega))).trans c4;have c5g:=(World.cell?_of_block (hW.block b hbr (λe=>by have:=(HO.lt _ e.symm).1;omega))).trans c5;have c6g:=(World.cell?_of_block (hW.block b hbr (λe=>by have:=(HO.lt _ e.symm).1;omega))).trans c6;have c7g:=(World.cell?_of_block (hW.block b hbr (λe=>by have:=(HO.lt _ e.symm).1;omega))).trans c7;exact m_):p:=h
theorem Xg(h:p:=by
 have e56:=hf 56 ag;simp[Gi.aj,Yf] at e56;clear hf;have hBg:=HBW.grown hW HBW.size (λg hg=>by have:=(HO.lt g hg).1;omega);go_simp;refine (Ap.akk x.n x.c x.z x.k x.x x.m x.y va vl vc x.zs _ (HT.below hBg) hz8).mono ?_;rintro e w6 ⟨a',l',c',rfl,ho1,ho2,hb6⟩;have hws:=hW.size;exact hK _ _ (Rv.other ag hb6) ⟨a',l',c',rfl,bN.bl ⟨ho1,ho2⟩ (λk _ s=>Yl hws s)⟩):p:=h
theorem Xf(h:p:=by
 have e57:=hf 57 ag;simp[Gi.aj,Yf] at e57;clear hf;obtain⟨a',l',c',e57,ho⟩:=e57;have HO7:=aa ho;clear ho;go_simp;exact hK _ _ (Rv.other ag (ak _ _)) ⟨_,a',l',c',rfl,hW.size,Yg,HO7.below (ak _ _)⟩):p:=h
theorem ew(h:p:=by
 refine Gi.Obl.plain rfl ?_;intro ac wg K lo hi hsz hW hpr hf hap hK;clear hsz hap hpr;have hW:wr.grownBy wg v.ownBlock:=hW;exact z547z):p:=h
theorem WW(h:p:=by
 go_wp2;go_ret;refine ar.f (λh=>?_) HB.out;have h9:=(h.1 k p HXp.out).2.1 kq t HXt.out;exact HG.out h9.1):p:=h
theorem WV(h:p:=by
 have z1040z:=@aa _ @Ms;exact mP):p:=h
theorem yK(h:p:=by
 have z1000z:=@aa _ @MX;exact tu):p:=h
theorem WM(h:p:=by
 clear hne0 HW HB HC0 k0 k1 k2 k3 k4 k5 r0 r1 r2 r3 r4 r5 tw vw nw Gk Gr Bk Br hc1 hb1 hbv v2 hbn n1;have HB:=HB2;clear HB2;have Bk:=Ck;clear Ck;have Br:=Cr;clear Cr;clear hzq;have z1040z:=@aa _ @Mr;exact mP):p:=h
theorem WL(h:p:=by
 clear hne0 HW HB HC0 k0 k1 k2 k3 k4 k5 r0 r1 r2 r3 r4 r5 tw vw nw Gk Gr Bk Br hc1 hb1 hbv v2 hbn n1;have HB:=HB2;clear HB2;have z988z:=@aa _ @Ra;exact jc):p:=h
theorem yJ(h:p:=by
 have z1000z:=@aa _ @MW;exact tu):p:=h
theorem Wt(h:p:=by
 replace c6:=(ai HBW.out hb0).trans c6;have hbr:=Yj hb0 HBW.size;have hkr:=ae BkR.out;have hor:=ae Bo.out;have hz:i1.zero=Y3 (Za #[I ⟨#[]⟩,I ⟨#[]⟩,Y4 Y5 0,Y4 Y5 0,Y4 Y5 0,Y7 Y8,J U 0 0])/\i1.size=7/\i1.bytes=88:=by have:=HI1.2;simp only[Prod.mk.injEq] at this;exact this
 have z965z:=@aa _ @Rz;exact xF):p:=h
theorem Ws(h:p:=by
 have hbr:=Yj hb0 HBW.size;have hkr:=ae BkR.out;have hor:=ae Bo.out;have hz:i5.zero=Y3 (Za #[I ⟨#[]⟩,Y4 Y5 0,I ⟨#[]⟩,J U 0 0,I ⟨#[]⟩,Y4 Y5 0])/\i5.size=6/\i5.bytes=88:=by have:=HI5.2;simp only[Prod.mk.injEq] at this;exact this
 have z965z:=@aa _ @Ry;exact xF):p:=h
theorem yI(h:p:=by
 have z1482z:=@aa _ @FB;exact rV):p:=h
theorem Wm(h:p:=by
 go_wp2_with fail;refine⟨⟨k+1,by omega,by go_num,λj s hj hs=>?_,HBY.trans (q2.b.mono HBY.size)⟩,by simp[intOf];omega⟩;by_cases e:j=k
 ·subst e;rw[HXt.out] at hs;obtain rfl:=Yd hs;exact⟨v,HDb.out,HIn.out⟩
 ·exact HQ.out j s af hs):p:=h
theorem Wl(h:p:=by
 go_wp2;go_ret;refine ar.f (λh=>?_) HB.out;obtain⟨v2,e1,e2⟩:=h k t HXt.out;obtain rfl:=aY.inj HX.out HV.out HDb.out e1;exact HIn.out e2):p:=h
theorem yF(h:p:=by
 repeat (go_big_quiet_step (first|(go_at_call 98;exact Calls.wide (HC0.out _))|(go_at_call 102;exact Calls.wide (HC1.out _))|fail))
 refine wpQuiet_nil ?_;rintro _ ⟨q2,rfl⟩;have HB1:=upB HW q2.b;have Ck:=upK Gk q2.b;have Cp:=upK Gp q2.b;have Cn:=upK Gn q2.b;clear hne0 HW HB HC0 HC1 k0 k1 k2 k3 k4 k5 p3 n6 tw vw Gk Gp Gn Bk Bp Bn pp hb hc hbv v0;have HB:=HB1;clear HB1;have Bk:=Ck;clear Ck;have Bp:=Cp;clear Cp;have Bn:=Cn;clear Cn;exact z610z):p:=h
theorem Wj(h:p:=by
 by_cases e:j=k
 ·subst e;rw[HXp.out] at hz;obtain rfl:=Yd hz;exact λ_=>⟨j1,n,HJn.out,HNn.out,HDd.out,HAl.out⟩
 ·exact HQ.out j z af hz):p:=h
theorem Wi(h:p:=by
 exact z162z):p:=h
theorem Wh(h:p:=by
 by_cases e:j=kq
 ·subst e;rw[HXt.out] at hs;obtain rfl:=Yd hs;exact⟨j1,n,HJn.out,HNn.out,HZ.out⟩
 ·exact HQ2.out j s af hs):p:=h
theorem Wg(h:p:=by
 by_cases e:j=kq
 ·subst e;rw[HXt.out] at hs;obtain rfl:=Yd hs;exact⟨j3,v,HJ.out,HNv.out,Zc HDd.out⟩
 ·exact HQ2.out j s af hs):p:=h
theorem Wf(h:p:=by
 by_cases e:j=kq
 ·subst e;rw[HXt.out] at hs;obtain rfl:=Yd hs;exact⟨j3,v,HJ.out,HNv.out,Zb HIn.out⟩
 ·exact HQ2.out j s af hs):p:=h
theorem pw(h:p:=by
 have z1040z:=@aa _ @Mq;exact mP):p:=h
theorem VH(h:p:=by
 clear hq2;exact OF):p:=h
theorem VG(h:p:=by
 clear hq2 hq3;exact OF):p:=h
theorem VF(h:p:=by
 go_wp2;go_ret;refine ar.f (λh=>?_) HB.out;rcases (h.1 k p HXp.out).1 with h2|⟨i,n',h2,h3,h4⟩
 ·exact HEm.out h2
 ·obtain⟨_,rfl⟩:=HNR.inj h2 HJn.out (h3.trans HNn.symm);rcases h4 with h4|h4
  ·exact HZ0.out h4
  ·exact HZ1.out h4):p:=h
theorem pn(h:p:=by
 rintro _ ⟨q0,rfl⟩;obtain⟨HB2,Ck,Cr,CHTp⟩:=ago;clear hne0 HW HB k0 r0 r1 r2 r3 r4 r5 nw Gk Gr Bk Br HTp hbn n1;have HB:=HB2;clear HB2;have HTp:=CHTp;clear CHTp;have Bk:=Ck;clear Ck;have Br:=Cr;clear Cr;exact z659z):p:=h
theorem VD(h:p:=by
 have Cv:=upK Gv q2.b;clear hne0 HW HB HC0 k2 v0 v2 v5 v6 vw Gk Gv Bk Bv hbv v7;have HB:=HB2;clear HB2;have Bk:=Ck;clear Ck;have Bv:=Cv;clear Cv;go_wp2;go_ret;refine ar.f (λh=>?_) HB.out;obtain⟨i,v2,e1,e2,e3⟩:=(h.1 k n HXn.out) kq t HXt.out;obtain⟨_,rfl⟩:=HV.inj e1 HJ.out (e2.trans HNv.symm);rcases e3 with e3|e3
 ·rw[HDd.out] at e3;cases e3
 ·exact HIn.out e3):p:=h
theorem VC(h:p:=by
 go_wp2_with fail;refine⟨⟨kz+1,by omega,by go_num,λj s hj hs=>?_,HBW.trans (q9.b.mono HBW.size)⟩,by simp[intOf];omega⟩;by_cases e:j=kz
 ·subst e;rw[HXq.out] at hs;obtain rfl:=Yd hs;exact HPr.out
 ·exact HQ3.out j s af hs):p:=h
theorem VB(h:p:=by
 go_wp2;go_ret;exact ar.f (λh=>HPr.out ((h.1 k p HXp.out).2.2 kz pq hlt3 HXq.out)) HB.out):p:=h
theorem yA(h:p:=by
 repeat (go_big_quiet_step (first|(go_at_call 99;exact Calls.wide (HC0.out _))|fail))
 refine wpQuiet_nil ?_;rintro _ ⟨q9,rfl⟩;have HB1:=upB HW q9.b;have Ck:=upK Gk q9.b;have Cr:=upK Gr q9.b;clear hne0 HW HB HC0 k0 k1 k2 k3 k4 k5 r0 r1 r2 r3 r4 r5 q0 q1 q2 q3 q4 q5 Gk Gr Bk Br d0 d1 d2 d3 d4 d5;have HB:=HB1;clear HB1;have Bk:=Ck;clear Ck;have Br:=Cr;clear Cr;exact z666z):p:=h
theorem UY(h:p:=by
 have HI1:=aa hi;clear hi;cases r
 ·exact PG
 obtain⟨k0,k1,k2,k3,k4,k5⟩:=cs6 Bk;go_wp2_with fail;exact z275z):p:=h
theorem lg(h:p:=by
 have z1123z:=@aa _ @Ls;exact jG):p:=h
theorem US(h:p:=by
 refine (uU d c _ (HR.below HB.out) HOK.2.1.2.2 HOK.2.2.2.1.2.2 HOK.2.2.1.2.2).mono ?_;rintro e w3 ⟨r,rfl,hi,hb⟩;have z1257z:=@aa _ @Jx;exact fz):p:=h
theorem yu(h:p:=by
 rintro e w2 ⟨r,rfl,hi,hb⟩;have z1257z:=@aa _ @Jw;exact fz):p:=h
theorem UK(h:p:=by
 obtain⟨i,n,h2,h3,_⟩:=(h.1 k v HXv.out) kq t HXt.out;exact HH.out ⟨i,n,h2,h3⟩):p:=h
theorem UJ(h:p:=by
 obtain⟨i,m2,e1,e2,e3⟩:=(h.1 k v HXv.out) kq t HXt.out;obtain⟨_,rfl⟩:=HNR.inj e1 HJn.out (e2.trans HNn.symm);exact HZ.out e3):p:=h
theorem UI(h:p:=by
 obtain⟨i,v,h2,h3,_⟩:=(h.1 k n HXn.out) kq t HXt.out;exact HH.out ⟨i,v,h2,h3⟩):p:=h
theorem pj(h:p:=by
 have HB:=HB2;clear HB2;have Bk:=Ck;clear Ck;have Bv:=Cv;clear Cv;go_wp2;go_ret;refine ar.f (λh=>?_) HB.out;exact z733z):p:=h
theorem Uw(h:p:=by
 by_cases hq:cpuOf n.n c.ps<=n.c
 ·exact PN
 ·have HCq:=aa hq;go_wp2;go_ret;exact ar.f (λh=>by have h1:cpuOf n.n c.ps<=n.c:=h.2 k n HXn.out;have h2:=HCq.out;omega) HB.out):p:=h
theorem Uv(h:p:=by
 by_cases hq:onOf n.n c.vs<=n.s
 ·exact PN
 ·have HCq:=aa hq;go_wp2;go_ret;exact ar.f (λh=>by have h1:onOf n.n c.vs<=n.s:=h.2 k n HXn.out;have h2:=HCq.out;omega) HB.out):p:=h
theorem yi(h:p:=by
 refine wpQuiet_nil ?_;rintro _ ⟨q1,rfl⟩;obtain⟨HB1,Ck⟩:=iz;clear hne0 HW HB HC0 k0 k1 k2 k3 k4 k5 n0w n2w Gk Bk pk c0 c1 c2 c3 c4 c5 c6 hb;have HB:=HB1;clear HB1;have Bk:=Ck;clear Ck;exact z752z):p:=h
theorem T1(h:p:=by
 exact Yb hl5 hm5):p:=h
theorem S_(h:p:=by
 clear hat hx z0 z1 hvr;have Gk:=Bk;have HW:=HB;obtain⟨k0,k1,k2,k3,k4,k5⟩:=sl6 Gk;have n0w:=λq:Wd wr=>(q.cell hb).trans c0;have n2w:=λq:Wd wr=>(q.cell hb).trans c2;have hne0:=Wd.ne wr;have HC0:=aa (λq:Wd wr=>j7 ⟨(Y3 ⟨b,o,U⟩),l1,y1,a2,l2,y2,a3,l3,y3,a4,l4,y4,a5,l5,y5⟩ c.now c.ps n.n q.w (HR.p.below (HW.trans (q.b.mono HW.size))) HL5.out HPC.out);have z53z:=@aa _ @ahS;exact aC):p:=h
theorem S9(h:p:=by
 clear hat hx z0 z1 hvr;have Gk:=Bk;have HW:=HB;obtain⟨k0,k1,k2,k3,k4,k5⟩:=sl6 Gk;have n0w:=λq:Wd wr=>(q.cell hb).trans c0;have n2w:=λq:Wd wr=>(q.cell hb).trans c3;have hne0:=Wd.ne wr;have HC0:=aa (λq:Wd wr=>xt ⟨(Y3 ⟨b,o,U⟩),l1,y1,a2,l2,y2,a3,l3,y3,a4,l4,y4,a5,l5,y5⟩ c.now c.vs n.n q.w (HR.v.below (HW.trans (q.b.mono HW.size))) HL3.out);have z53z:=@aa _ @ahR;exact aC):p:=h
theorem S8(h:p:=by
 have HTn:=aa hvr;clear hat hx z0 z1 hvr;have hvl:=HTn.1;have hvc:=Yl HTn.2.1 HTn.2.2.1;have HVL:=aa hvl;clear hvl;have KV:Hid ((wr.alloc (Y6 #[I n.n,I n.z,Y4 Y5 n.c,Y4 Y5 n.s,Y4 Y5 n.u,Y7 n.d,J va vl vc] 38)).heap[w.heap.size]?=Y3 (Y6 (clo6 (Y3 ⟨b,o,U⟩) l1 y1 a2 l2 y2 a3 l3 y3 a4 l4 y4 a5 l5 y5 c.now) 29 (0,0))):=(Ym wr (Y6 #[I n.n,I n.z,Y4 Y5 n.c,Y4 Y5 n.s,Y4 Y5 n.u,Y7 n.d,J va vl vc] 38) _ (ae Bk.out)).trans Bk.out;have GV:Hid ((wr.alloc (Y6 #[I n.n,I n.z,Y4 Y5 n.c,Y4 Y5 n.s,Y4 Y5 n.u,Y7 n.d,J va vl vc] 38)).heap[wr.heap.size]?=Y3 (Y6 #[I n.n,I n.z,Y4 Y5 n.c,Y4 Y5 n.s,Y4 Y5 n.u,Y7 n.d,J va vl vc] 38 (0,0))):=Yg;have BV:=aa (HB.trans ((ak wr (Y6 #[I n.n,I n.z,Y4 Y5 n.c,Y4 Y5 n.s,Y4 Y5 n.u,Y7 n.d,J va vl vc] 38)).mono HB.size));have TT:=aa (HTn.below (ak wr (Y6 #[I n.n,I n.z,Y4 Y5 n.c,Y4 Y5 n.s,Y4 Y5 n.u,Y7 n.d,J va vl vc] 38)));obtain⟨W,hW⟩:∃W,W=wr.alloc (Y6 #[I n.n,I n.z,Y4 Y5 n.c,Y4 Y5 n.s,Y4 Y5 n.u,Y7 n.d,J va vl vc] 38):=⟨_,rfl⟩;obtain⟨gb,hgb⟩:∃gb,gb=wr.heap.size:=⟨_,rfl⟩;rw[<-hW] at KV GV BV TT;rw[<-hgb] at GV;go_wp2;rw[<-hW,<-hgb];clear hW hgb HB Bk HTn c0 c1 c2 c3 c4 c5 c6 hb pk;go_loopw [5] (λi wr=> ∃kq:Nat,kq<=vl/\i=Y4 Y5 kq/\Hid (∀(j:Nat) t,j<kq->n.zs[j]?=Y3 t->∃(i:Nat) (v:Vd),c.vs[i]?=Y3 v/\v.n=t/\(n.d=Y_\/InL v.zs n.n))/\Hid (Below W.heap.size W wr)) (λi _=>vl - (intOf i).toNat);case atStart=>exact⟨0,by omega,rfl,λ_ _ h=>absurd h af,Yh _ _⟩
 case round=>
  obtain⟨kq,hkq,rfl,HQ2,HBW⟩:=hrel;obtain⟨HB,Bk⟩:=tI;have Bv:=upK GV HBW.out;have pv:=ck6 Bv;by_cases hlt2:kq<vl
  ·obtain⟨b2,o2,t,rfl,hb,hx,hc,hsz⟩:=(TT.below HBW.out).at hlt2;have HXt:=aa hx;clear hx hsz;by_cases hnn:∃(i:Nat) (v:Vd),c.vs[i]?=Y3 v/\v.n=t;rotate_left
   ·have HH:=aa hnn;clear hnn;have Gk:=Bk;have Gv:=Bv;obtain⟨HW,k0,k1,k2,k3,k4,k5⟩:=zU;have v6:=λq:Wd wr=>q.slot (o:=6) Gv.out rfl;obtain⟨tw,hne0⟩:=ow;have HC0:=aa (λq:Wd wr=>g_ ⟨(Y3 ⟨b,o,U⟩),l1,y1,a2,l2,y2,a3,l3,y3,a4,l4,y4,a5,l5,y5⟩ c.now c.vs t q.w (HR.v.below (HW.trans (q.b.mono HW.size))) (λi v h1 h2=>HH.out ⟨i,v,h1,h2⟩));have z1202z:=@aa _ @Ke;exact bQ
   obtain⟨j3,v,h1,h2⟩:=hnn;have hl3':j3<l3:=by have h3:=(Yc.1 h1).1;omega
   obtain⟨b3,o3,v',rfl,hb3,hv',hat⟩:=cj HR.v hl3';rw[h1] at hv';obtain rfl:=Yd hv';obtain⟨xa,xl,xc,hvr,z0,z2,z3,z5,d0,d1,d2,d3,d4,d5,d6,d7⟩:=bh hat;have HJ:=aa h1;have HNv:=aa h2;have HTx:=aa hvr;have HC7:=aa d7;have HB3:=aa hb3;have hj31:decide ((j3:Int)<0)=Y8:=aF
   clear hv' hat hvr z0 z2 z3 z5 d0 d1 d2 d3 d4 d5 d6 d7 h1 h2 hb3;have Gk:=Bk;have Gv:=Bv;have HW:=HB;obtain⟨k0,k1,k2,k3,k4,k5⟩:=sl6 Gk;have v6:=λq:Wd wr=>q.slot (o:=6) Gv.out rfl;obtain⟨tw,hne0⟩:=ow;have HC0:=aa (λq:Wd wr=>ed ⟨(Y3 ⟨b,o,U⟩),l1,y1,a2,l2,y2,(Y3 ⟨b3,o3,U⟩),l3,y3,a4,l4,y4,a5,l5,y5⟩ c.now c.vs t q.w (HR.v.below (HW.trans (q.b.mono HW.size))) HV.out HJ.out HNv.out);have z1202z:=@aa _ @Kf;exact bQ
  ·obtain rfl:vl=kq:=af
   have z162z:=@aa _ @aep;exact cS):p:=h
theorem fO(h:p:=by
 obtain⟨b,o,n,rfl,hb,hx,hat⟩:=dn (HR.n.below HB.out) hlt;obtain⟨va,vl,vc,hvr,z0,z1,c0,c1,c2,c3,c4,c5,c6⟩:=aZ hat;have HXn:=aa hx;exact z851z):p:=h
theorem S3(h:p:=by
 have HC0:=aa (λq:Wd wr=>fv ⟨(Y3 ⟨b1,o1,U⟩),l1,y1,a2,l2,y2,(Y3 ⟨b3,o3,U⟩),l3,y3,a4,l4,y4,(Y3 ⟨b,o,U⟩),l5,y5⟩ c t q.w (HR.below (HW.trans (q.b.mono HW.size))) HX.out HV.out HNE.out HJ.out HD.out);have z53z:=@aa _ @ahJ;exact aC):p:=h
theorem S2(h:p:=by
 have HC0:=aa (λq:Wd wr=>fv ⟨a1,l1,y1,a2,l2,y2,(Y3 ⟨b3,o3,U⟩),l3,y3,a4,l4,y4,(Y3 ⟨b,o,U⟩),l5,y5⟩ c t q.w (HR.below (HW.trans (q.b.mono HW.size))) HX.out HV.out HNE.out HJ.out HD.out);have z1202z:=@aa _ @Kc;exact bQ):p:=h
theorem xY(h:p:=by
 have z1341z:=@aa _ @It;exact sy):p:=h
theorem SL(h:p:=by
 have HC0:=aa (λq:Wd q1.w=>eJ ⟨a1,l1,y1,a2,l2,y2,(Y3 ⟨b3,o3,U⟩),l3,y3,a4,l4,y4,(Y3 ⟨b,o,U⟩),l5,y5⟩ c.now c.xs t q.w (HR.x.below (HW.trans (q.b.mono HW.size))) HX.out HG1.out HG2.out);exact OB):p:=h
theorem SJ(h:p:=by
 have HC0:=aa (λq:Wd q1.w=>eG ⟨a1,l1,y1,a2,l2,y2,(Y3 ⟨b3,o3,U⟩),l3,y3,a4,l4,y4,(Y3 ⟨b,o,U⟩),l5,y5⟩ c.now c.xs t q.w (HR.x.below (HW.trans (q.b.mono HW.size))) (λi x h1 h2=>HG.out ⟨i,x,h1,h2⟩));exact ahe):p:=h
theorem SI(h:p:=by
 have HC0:=aa (λq:Wd q1.w=>eJ ⟨a1,l1,y1,a2,l2,y2,a3,l3,y3,a4,l4,y4,(Y3 ⟨b,o,U⟩),l5,y5⟩ c.now c.xs t q.w (HR.x.below (HW.trans (q.b.mono HW.size))) HX.out HG1.out HG2.out);exact OB):p:=h
theorem SH(h:p:=by
 have HC0:=aa (λq:Wd q1.w=>eG ⟨a1,l1,y1,a2,l2,y2,a3,l3,y3,a4,l4,y4,(Y3 ⟨b,o,U⟩),l5,y5⟩ c.now c.xs t q.w (HR.x.below (HW.trans (q.b.mono HW.size))) (λi x h1 h2=>HG.out ⟨i,x,h1,h2⟩));exact ahe):p:=h
theorem SG(h:p:=by
 have HC0:=aa (λq:Wd q1.w=>eG ⟨(Y3 ⟨b1,o1,U⟩),l1,y1,a2,l2,y2,(Y3 ⟨b3,o3,U⟩),l3,y3,a4,l4,y4,(Y3 ⟨b,o,U⟩),l5,y5⟩ c.now c.xs t q.w (HR.x.below (HW.trans (q.b.mono HW.size))) (λi x h1 h2=>HG.out ⟨i,x,h1,h2⟩));exact vC):p:=h
theorem SF(h:p:=by
 have HC0:=aa (λq:Wd q1.w=>eJ ⟨(Y3 ⟨b1,o1,U⟩),l1,y1,a2,l2,y2,a3,l3,y3,a4,l4,y4,(Y3 ⟨b,o,U⟩),l5,y5⟩ c.now c.xs t q.w (HR.x.below (HW.trans (q.b.mono HW.size))) HX.out HG1.out HG2.out);have z1202z:=@aa _ @Kb;exact bQ):p:=h
theorem SE(h:p:=by
 have HC0:=aa (λq:Wd q1.w=>eG ⟨(Y3 ⟨b1,o1,U⟩),l1,y1,a2,l2,y2,a3,l3,y3,a4,l4,y4,(Y3 ⟨b,o,U⟩),l5,y5⟩ c.now c.xs t q.w (HR.x.below (HW.trans (q.b.mono HW.size))) (λi x h1 h2=>HG.out ⟨i,x,h1,h2⟩));exact vC):p:=h
theorem fM(h:p:=by
 obtain⟨Gk,Gr,HW⟩:=gN;obtain⟨k0,k1,k2,k3,k4,k5⟩:=sl6 Gk;obtain⟨r0,r1,r2,r3,r4,r5⟩:=sl6 Gr;obtain⟨tw,hne0⟩:=akN;exact z877z):p:=h
theorem SD(h:p:=by
 obtain⟨tw,vw,nw,hne0,HC0⟩:=agv;have z53z:=@aa _ @ahI;exact aC):p:=h
theorem SC(h:p:=by
 obtain⟨tw,vw,nw,hne0,HC0⟩:=agv;have z53z:=@aa _ @ahH;exact aC):p:=h
theorem SB(h:p:=by
 exact z543z):p:=h
theorem pe(h:p:=by
 obtain⟨Gk,Gr,HW⟩:=gN;obtain⟨k0,k1,k2,k3,k4,k5⟩:=sl6 Gk;obtain⟨r0,r1,r2,r3,r4,r5⟩:=sl6 Gr;exact z885z):p:=h
theorem Sz(h:p:=by
 obtain⟨xa,xl,xc,hvr,z0,z2,z3,z5,d0,d1,d2,d3,d4,d5,d6,d7⟩:=bh hat;have HJ:=aa hj3;have HDb:=aa hbd;have hbv:=Yj hb3 HB.size;have v0:=(ai HB.out hb3).trans d0;clear hv' hat hvr z0 z2 z3 z5 d0 d1 d2 d3 d4 d5 d6 d7 hj3 hbd hb3;by_cases hin:InL n.zs v.n
 ·have z1385z:=@aa _ @Ho;exact sf
 ·have z1385z:=@aa _ @Hn;exact sf):p:=h
theorem Sy(h:p:=by
 have HCn:=aa d1;have HBn:=aa hb1n;have hj11:decide ((j1:Int)<0)=Y8:=aF
 have hbn:=Yj hb1n HB.size;have n1:=(ai HB.out hb1n).trans d1;clear hn' hat hnr z0 z1 d0 d1 d2 d3 d4 d5 d6 h1 h2 hb1n;by_cases hz0:p.z=⟨#[]⟩
 ·have hq2:=cN hz0;have HPa:Hid (PSa c p):=Zb ⟨j1,n,HJn.out,HNn.out,Zc hz0⟩;clear hz0;have z1264z:=@aa _ @Jr;exact mI
 have hq2:=aX hz0;by_cases hz1:n.z=p.z
 ·have hq3:=aP hz1;have HPa:Hid (PSa c p):=Zb ⟨j1,n,HJn.out,HNn.out,Zb hz1⟩;clear hz0 hz1;have z1264z:=@aa _ @Jq;exact mI
 ·have hq3:=bA hz1;have HZ0:=aa hz0;have HZ1:=aa hz1;clear hz0 hz1;have z1264z:=@aa _ @Jp;exact mI):p:=h
theorem Sx(h:p:=by
 have HCn:=aa d1;have HBn:=aa hb1n;have hj11:decide ((j1:Int)<0)=Y8:=aF
 clear hn' hat hnr z0 z1 d0 d1 d2 d3 d4 d5 d6 h1 h2 hb1n;have Gk:=Bk;have Gv:=Bv;have HW:=HB;obtain⟨k0,k1,k2,k3,k4,k5⟩:=sl6 Gk;have v7:=λq:Wd wr=>q.slot (o:=7) Gv.out rfl;obtain⟨tw,hne0⟩:=ow;have HC0:=aa (λq:Wd wr=>fu ⟨(Y3 ⟨b1,o1,U⟩),l1,y1,a2,l2,y2,(Y3 ⟨b,o,U⟩),l3,y3,a4,l4,y4,a5,l5,y5⟩ c.now c.ns t q.w (HR.n.below (HW.trans (q.b.mono HW.size))) HNR.out HJn.out HNn.out);have z1202z:=@aa _ @Ka;exact bQ):p:=h
theorem Sw(h:p:=by
 have e5:=(ai HB.out hb1n).trans d5;have hbn:=Yj hb1n HB.size;clear hn' hat hnr z0 z1 d0 d1 d2 d3 d4 d5 d6 h1 h2 hb1n hbd;rcases Bool.eq_false_or_eq_true n.d with hd|hd
 ·have HDd:=aa hd;rw[hd] at e5;clear hd;obtain⟨hbnv,e5v⟩:=Nc;obtain⟨Gk,Gr,HW⟩:=akG;obtain⟨k0,k1,k2,k3,k4,k5⟩:=sl6 Gk;obtain⟨r0,r1,r2,r3,r4,r5⟩:=sl6 Gr;obtain⟨nw,hne0,HC0⟩:=agE;have z53z:=@aa _ @ahM;exact aC
 ·by_cases hal:qD c p n
  ·have HAl:=aa hal;clear hal;have HDd:=aa hd;rw[hd] at e5;clear hd;obtain⟨hbnv,e5v⟩:=Nc;have HCA:Hid (∀q:Wd (wr.alloc (Y6 #[I p.n,Y4 Y5 p.c,I p.z,J va vl vc,I p.d,Y4 Y5 2] 40)),Calls Tryz.prog 71 #[Za #[J (Y3 ⟨b1,o1,U⟩) l1 y1,J a2 l2 y2,J a3 l3 y3,J a4 l4 y4,J (Y3 ⟨b,o,U⟩) l5 y5,Y4 Y5 c.now],Za #[I p.n,Y4 Y5 p.c,I p.z,J va vl vc,I p.d,Y4 Y5 2]] q.w λe w'=>e=Y9 (Y7 Y_)/\Below q.w.heap.size q.w w'):=by
    intro q;have h0:=(lP ⟨(Y3 ⟨b1,o1,U⟩),l1,y1,a2,l2,y2,a3,l3,y3,a4,l4,y4,(Y3 ⟨b,o,U⟩),l5,y5⟩ c p va vl vc j1 n q.w (HR.below (HB.trans (((ak wr _).trans (q.b.mono aF)).mono HB.size))) HNR.out HX.out HV.out HNE.out (HTp.below ((ak wr _).trans (q.b.mono aF))) HJn.out HNn.out HBD.out).mono (λ_ _ h=>ar.yes h HAl.out);rw[HP2.out] at h0;exact h0
   have z1292z:=@aa _ @I7;exact sI
  ·have HAl:=aa hal;clear hal;have HDd:=aa hd;rw[hd] at e5;clear hd;obtain⟨hbnv,e5v⟩:=Nc;have HCA:Hid (∀q:Wd (wr.alloc (Y6 #[I p.n,Y4 Y5 p.c,I p.z,J va vl vc,I p.d,Y4 Y5 2] 40)),Calls Tryz.prog 71 #[Za #[J (Y3 ⟨b1,o1,U⟩) l1 y1,J a2 l2 y2,J a3 l3 y3,J a4 l4 y4,J (Y3 ⟨b,o,U⟩) l5 y5,Y4 Y5 c.now],Za #[I p.n,Y4 Y5 p.c,I p.z,J va vl vc,I p.d,Y4 Y5 2]] q.w λe w'=>e=Y9 (Y7 Y8)/\Below q.w.heap.size q.w w'):=by
    intro q;have h0:=(lP ⟨(Y3 ⟨b1,o1,U⟩),l1,y1,a2,l2,y2,a3,l3,y3,a4,l4,y4,(Y3 ⟨b,o,U⟩),l5,y5⟩ c p va vl vc j1 n q.w (HR.below (HB.trans (((ak wr _).trans (q.b.mono aF)).mono HB.size))) HNR.out HX.out HV.out HNE.out (HTp.below ((ak wr _).trans (q.b.mono aF))) HJn.out HNn.out HBD.out).mono (λ_ _ h=>ar.no h HAl.out);rw[HP2.out] at h0;exact h0
   have z1292z:=@aa _ @I6;exact sI):p:=h
theorem pd(h:p:=by
 have hl1':j1<l1:=by have h3:=(Yc.1 h1).1;omega
 obtain⟨b1,o1,n',rfl,hb1n,hn',hat⟩:=dn HR.n hl1';rw[h1] at hn';obtain rfl:=Yd hn';obtain⟨na,nl,nc,hnr,z0,z1,d0,d1,d2,d3,d4,d5,d6⟩:=aZ hat;have HJn:=aa h1;have HNn:=aa h2;exact z892z):p:=h
theorem Ss(h:p:=by
 have z1288z:=@aa _ @I_;exact mH):p:=h
theorem Sr(h:p:=by
 replace R1:=aa (R1.az (λk hk s=>HK.block k hk (λq9=>by rcases q9 with q9|q9;exact s.2 q9;omega)) (λ_ _ s=>s));have z1288z:=@aa _ @I9;exact mH):p:=h
theorem Sq(h:p:=by
 replace R1:=aa (R1.az (λk hk s=>HK.block k hk (λq9=>by rcases q9 with q9|q9;exact s.2 q9;omega)) (λ_ _ s=>s));replace R3:=aa (R3.az (λk hk s=>HK.block k hk (λq9=>by rcases q9 with q9|q9;exact s.2 q9;omega)) (λ_ _ s=>s));have z1288z:=@aa _ @I8;exact mH):p:=h
theorem pb(h:p:=by
 replace R2:=aa (R2.az (λk hk s=>HK.block k hk (λq9=>by rcases q9 with q9|q9;exact s.2 q9;omega)) (λ_ _ s=>s));replace R4:=aa (R4.az (λk hk s=>HK.block k hk (λq9=>by rcases q9 with q9|q9;exact s.2 q9;omega)) (λ_ _ s=>s));exact z899z):p:=h
theorem RP(h:p:=by
 go_loopw [8] (λi wr=> ∃kz:Nat,kz<=k/\i=Y4 Y5 kz/\Hid (∀(j:Nat) q,j<kz->c.ps[j]?=Y3 q->oT c q p)/\Hid (Below W2.heap.size W2 wr)) (λi _=>k - (intOf i).toNat);case atStart=>exact⟨0,by omega,rfl,λ_ _ h=>absurd h af,Yh _ _⟩
 case round=>
  have z1585z:=@aa _ @Eh;exact rM):p:=h
theorem RO(h:p:=by
 go_loopw [8] (λi wr=> ∃kz:Nat,kz<=k/\i=Y4 Y5 kz/\Hid (∀(j:Nat) q,j<kz->c.ps[j]?=Y3 q->oT c q p)/\Hid (Below W2.heap.size W2 wr)) (λi _=>k - (intOf i).toNat);case atStart=>exact⟨0,by omega,rfl,λ_ _ h=>absurd h af,Yh _ _⟩
 case round=>
  have z1585z:=@aa _ @Eg;exact rM):p:=h
theorem xL(h:p:=by
 obtain rfl:vl=kq:=af
 have HQb:Hid (PSb c p):=λj t ht=>HQ2.out j t (by have h1:=(Yc.1 ht).1;have h2:=HVL.out;omega) ht;clear HQ2;have TV2:=aa (TV.below HBW.out);have KV2:=Bk;have GV2:=Br;have BV2:=HB;clear KV GV BV TV Bk Br HB HBW;obtain⟨W2,hW⟩:∃W2,W2=wr:=⟨_,rfl⟩;rw[<-hW] at KV2 GV2 BV2 TV2;go_wp2;clear pr3;rw[<-hW];clear hW;exact z943z):p:=h
theorem RN(h:p:=by
 have z613z:=@aa _ @Wj;exact lk):p:=h
theorem RM(h:p:=by
 go_wp2;go_ret;refine ar.f (λh=>?_) HB.out;obtain⟨i,m,e1,e2,e3,e4⟩:=(h.2 k p HXp.out) HP2.out;obtain⟨_,rfl⟩:=HNR.inj e1 HJn.out (e2.trans HNn.symm);exact HAl.out e4):p:=h
theorem xK(h:p:=by
 repeat (go_big_quiet_step (first|(go_at_call 28;exact Calls.wide (HC0.out _))|(go_at_call 71;exact Calls.wide (HC1.out _))|fail))
 refine wpQuiet_nil ?_;rintro _ ⟨q1,rfl⟩;have HB1:=upB HW q1.b;obtain⟨Ck,Cr⟩:=er;clear hne0 HW HB HC0 HC1 k0 k1 k2 k3 k4 k5 r0 r1 r2 r3 r4 r5 nw Gk Gr Bk pk hb hbn e5 hbnv e5v c0 c1 c2 c3 c4 c5;have HB:=HB1;clear HB1;have Bk:=Ck;clear Ck;clear Cr;exact z946z):p:=h
theorem Rz(h:p:=by
 have hb4:Below wr.heap.size wr ((w2.setCell ⟨wr.heap.size,6,U⟩ (J a' l' c')).alloc (Y6 (nov x a' l' c') 38)):=(ah (Ye _) hbx).alloc kG _;have HF4:Hid (LFr ((w2.setCell ⟨wr.heap.size,6,U⟩ (J a' l' c')).alloc (Y6 (nov x a' l' c') 38)) g (λk=>X.heap.size<=k) x.zs (J a' l' c')):=hg.az (λcu _ q=>(Ym _ _ _ (by simp[YO];exact ae q)).trans (Ya _ _ _ _ (λe=>by subst e;rw[hn2] at q;cases q))) (λ_ s=>by have:=hsl _ s;show X.heap.size<=g;omega);obtain⟨HG,HB4,HO4⟩:=Nn;obtain⟨n0,n1,n2,n3,n4,n5,n6⟩:=cs7 hn2;have fn3:=al hn2 3;have fn6:=al hn2 6;have bo2:=(hbx.block _ hor).trans Bo.out;obtain⟨o0,o1,o2,o3,o4,o5⟩:=cs6 bo2;clear hn2 hbx hT2 hg hb2 hsl hb4 bo2 k0 k1 k2 k3 k4 k5 c0 c1 c2 c3 c4 c5 c6;go_wp2_with (first|(at_builtin;refine wpList_append_own _ rfl _ _ 23 rfl X.heap.size 38 i1 (Za #[I ⟨#[]⟩,I ⟨#[]⟩,Y4 Y5 0,Y4 Y5 0,Y4 Y5 0,Y7 Y8,J U 0 0]) 7 88 Tryz.underlying23 HI1.1 hz.1 hz.2.1 hz.2.2 rfl ag _ _ _ rfl HO4.out ⟨w2.heap.size,0,U⟩ 1 1 [I x.n,I x.z,Y4 Y5 x.c,Y4 Y5 x.s,Y4 Y5 x.u,Y7 x.d,J a' l' c'] rfl rfl ?c1 ?c2 ?c3 ?c4 ?c5 ?_));case c1=>exact iA _ _ oh _ _
 case c2=>intro u hu;simp only[List.mem_cons,List.not_mem_nil,or_false] at hu;rcases hu with rfl|rfl|rfl|rfl|rfl|rfl|rfl <;> rfl
 case c3=>unfold maxLen;have:=HS.n;omega
 case c4=>have:=HS.n;omega
 case c5=>simp[YO];omega
 rintro v' w5 hown5 hgrow -;obtain⟨v1',v2',v3',rfl⟩:=aA hown5;clear n0 n1 n2 n3 fn3 n4 n5 n6 fn6 o0 o1 o2 o3 o4 o5;have bo5:=wS HO.out Bo.out hb3X HB4.out hgrow;obtain⟨hs1,hs2',⟨H',hs3⟩,hs4⟩:=Al (f:=0) (r:=ndF x) (vs:=[I x.n,I x.z,Y4 Y5 x.c,Y4 Y5 x.s,Y4 Y5 x.u,Y7 x.d,J a' l' c']) (hh:=g) HK.out HO.out HV.out Bo.out hb3X HB4.out hown5 hgrow ag ag ag rfl rfl (ahh HZz0.out HZz1.out HF4.out) (λi zs hi hz=>HG.out zs (AZ hi).2.symm hz) (λi i' zs zs' h1 _ h2 _=>(AZ h1).1.trans (AZ h2).1.symm);have e1:(c.ns.take (k+1)).map ndF=(c.ns.take k).map ndF++[ndF x]:=by rw[YL,HX.out];simp
 exact agN):p:=h
theorem Ry(h:p:=by
 have hb4:Below wr.heap.size wr ((w2.setCell ⟨wr.heap.size,3,U⟩ (J a' l' c')).alloc (Y6 (pov x a' l' c') 40)):=(ah (Ye _) hbx).alloc kG _;have HF4:Hid (LFr ((w2.setCell ⟨wr.heap.size,3,U⟩ (J a' l' c')).alloc (Y6 (pov x a' l' c') 40)) g (λk=>X2.heap.size<=k) x.zs (J a' l' c')):=hg.az (λcu _ q=>(Ym _ _ _ (by simp[YO];exact ae q)).trans (Ya _ _ _ _ (λe=>by subst e;rw[hn2] at q;cases q))) (λ_ s=>by have:=hsl _ s;show X2.heap.size<=g;omega);obtain⟨HG,HB4,HO4⟩:=Nn;obtain⟨n0,n1,n2,n3,n4,n5⟩:=cs6 hn2;have fn3:=al hn2 3;have bo2:=(hbx.block _ hor).trans Bo.out;obtain⟨o0,o1,o2,o3,o4,o5⟩:=cs6 bo2;clear hn2 hbx hT2 hg hb2 hsl hb4 bo2 k0 k1 k2 k3 k4 k5 c0 c1 c2 c3 c4 c5;go_wp2_with (first|(at_builtin;refine wpList_append_own _ rfl _ _ 27 rfl X2.heap.size 40 i5 (Za #[I ⟨#[]⟩,Y4 Y5 0,I ⟨#[]⟩,J U 0 0,I ⟨#[]⟩,Y4 Y5 0]) 6 88 Tryz.underlying27 HI5.1 hz.1 hz.2.1 hz.2.2 rfl ag _ _ _ rfl HO4.out ⟨w2.heap.size,0,U⟩ 1 1 [I x.n,Y4 Y5 x.c,I x.z,J a' l' c',I x.d,Y4 Y5 x.p] rfl rfl ?c1 ?c2 ?c3 ?c4 ?c5 ?_));case c1=>exact iA _ _ oh _ _
 case c2=>intro u hu;simp only[List.mem_cons,List.not_mem_nil,or_false] at hu;rcases hu with rfl|rfl|rfl|rfl|rfl|rfl <;> rfl
 case c3=>unfold maxLen;have:=HS.p;omega
 case c4=>have:=HS.p;omega
 case c5=>simp[YO];omega
 rintro v' w5 hown5 hgrow -;obtain⟨v1',v2',v3',rfl⟩:=aA hown5;clear n0 n1 n2 n3 fn3 n4 n5 o0 o1 o2 o3 o4 o5;have bo5:=wS HO.out Bo.out hb3X2 HB4.out hgrow;obtain⟨hs1,hs2',⟨H',hs3⟩,hs4⟩:=Al (f:=4) (r:=pdF x) (vs:=[I x.n,Y4 Y5 x.c,I x.z,J a' l' c',I x.d,Y4 Y5 x.p]) (hh:=g) HK.out HO.out HV.out Bo.out hb3X2 HB4.out hown5 hgrow ag ag ag rfl rfl (ahg HZz0.out HZz2.out HZz4.out HF4.out) (λi zs hi hz=>HG.out zs (AW hi).2.symm hz) (λi i' zs zs' h1 _ h2 _=>(AW h1).1.trans (AW h2).1.symm);have e1:(c.ps.take (k+1)).map pdF=(c.ps.take k).map pdF++[pdF x]:=by rw[YL,HX.out];simp
 exact agN):p:=h
theorem xF(h:p:=by
 obtain⟨k0,k1,k2,k3,k4,k5⟩:=cs6 BkR;go_wp2_with (first|(at_builtin;refine oV rfl _ _ rfl (wr.heap.size+1) rfl (dZ _ _ _) va vl vc rfl x.zs (HT.below (HBW.trans ((aR _ _ _).mono HBW.size))) hz8 ?_));intro a' l' c' w2 hT2 hb2;obtain⟨hn2,-,hbx⟩:=Q3 hb2;obtain⟨g,hg⟩:=hT2.fr;obtain⟨hs2,hsl⟩:=ai4;exact z965z):p:=h
theorem Rb(h:p:=by
 rcases (h.1 k p HXp.out).1 with h2|⟨i,n,h2,h3,_⟩
 ·exact HEm.out h2
 ·exact HH.out i n h2 h3):p:=h
theorem Ra(h:p:=by
 have h9:=(h.1 k p HXp.out).2.1 kq t HXt.out;rcases h9.2 with h2|⟨v',i,n',h2,h3,h4,h5⟩
 ·exact HEm.out h2
 ·obtain rfl:=aY.inj HX.out HV.out HD.out h2;obtain⟨_,rfl⟩:=HNR.inj h3 HJn.out (h4.trans HNn.symm);exact HZ.out h5):p:=h
theorem MX(h:p:=by
 clear hne0 HW HB HC0 k0 k1 k2 k3 k4 k5 r0 r1 r2 r3 r4 r5 tw Gk Gr Bk Br hc1 hb1;have HB:=HB2;clear HB2;have Bk:=Ck;clear Ck;have Br:=Cr;clear Cr;exact z569z):p:=h
theorem MW(h:p:=by
 exact z580z):p:=h
theorem tu(h:p:=by
 have z1591z:=@aa _ @Ed;exact rK):p:=h
theorem ME(h:p:=by
 have HB1:=upB HW q1.b;obtain⟨Ck,Cr⟩:=er;clear hne0 HW HB HC0 k0 k1 k2 k3 k4 k5 r3 tw Gk Gr Bk Br pr3;have HB:=HB1;clear HB1;have Bk:=Ck;clear Ck;have Br:=Cr;clear Cr;obtain⟨hc1,hb1,HBW1⟩:=akD;clear hc hb HBW;exact z492z):p:=h
theorem Mw(h:p:=by
 have Cv:=upK Gv q2.b;clear hne0 HW HB HC0 k2 v0 v2 v5 v6 vw Gk Gv Bk Bv hbv v7;have HB:=HB2;clear HB2;have Bk:=Ck;clear Ck;have Bv:=Cv;clear Cv;have z617z:=@aa _ @Wf;exact pw):p:=h
theorem Ms(h:p:=by
 by_cases e:j=kq
 ·exact ajF
 ·exact HQ2.out j s af hs):p:=h
theorem Mr(h:p:=by
 by_cases e:j=kq
 ·subst e;rw[HXt.out] at hs;obtain rfl:=Yd hs;exact⟨⟨i4,x4,HG1.out,HG2.out⟩,Zb ⟨v,j1,n,HD.out,HJn.out,HNn.out,HZ.out⟩⟩
 ·exact HQ2.out j s af hs):p:=h
theorem Mq(h:p:=by
 exact z617z):p:=h
theorem mP(h:p:=by
 go_wp2_with fail;refine⟨⟨kq+1,by omega,by go_num,λj s hj hs=>?_,HBW1.trans (q2.b.mono HBW1.size)⟩,by simp[intOf];omega⟩;exact z1040z):p:=h
theorem LQ(h:p:=by
 clear hf;obtain⟨r0,r1,r2,r3,r4,r5⟩:=cs6 ((hW.block _ (ae GP.out)).trans GP.out);exact aL):p:=h
theorem mL(h:p:=by
 refine Obl.plain rfl ?_;intro ac wg K hsz hW hf hK;clear hsz;have e10:=hf 10 ag;simp[aj,Yf] at e10;exact z1090z):p:=h
theorem Lz(h:p:=by
 have HC0:=aa (λq:Wd wr=>fL ⟨(Y3 ⟨b1,o1,U⟩),l1,y1,a2,l2,y2,a3,l3,y3,a4,l4,y4,(Y3 ⟨b,o,U⟩),l5,y5⟩ c t q.w (HR.below (HW.trans (q.b.mono HW.size))) HX.out HV.out HNE.out HD.out);have z53z:=@aa _ @ahG;exact aC):p:=h
theorem Ly(h:p:=by
 have HC0:=aa (λq:Wd wr=>fL ⟨a1,l1,y1,a2,l2,y2,a3,l3,y3,a4,l4,y4,(Y3 ⟨b,o,U⟩),l5,y5⟩ c t q.w (HR.below (HW.trans (q.b.mono HW.size))) HX.out HV.out HNE.out HD.out);have z1202z:=@aa _ @J_;exact bQ):p:=h
theorem sW(h:p:=by
 have HD:=aa hbd;clear hbd;obtain⟨Gk,Gr,HW⟩:=gN;obtain⟨k0,k1,k2,k3,k4,k5⟩:=sl6 Gk;have r3:=λq:Wd wr=>q.slot (o:=3) Gr.out rfl;obtain⟨tw,hne0⟩:=ow;exact z1114z):p:=h
theorem Ls(h:p:=by
 exact z716z):p:=h
theorem Kg(h:p:=by
 have z1531z:=@aa _ @EV;exact mo):p:=h
theorem Kf(h:p:=by
 have z1471z:=@aa _ @FI;exact my):p:=h
theorem Ke(h:p:=by
 have z1471z:=@aa _ @FH;exact my):p:=h
theorem Kc(h:p:=by
 have z492z:=@aa _ @aab;exact lp):p:=h
theorem Kb(h:p:=by
 have z1591z:=@aa _ @Ec;exact rK):p:=h
theorem Ka(h:p:=by
 have z1531z:=@aa _ @EU;exact mo):p:=h
theorem J_(h:p:=by
 have z492z:=@aa _ @aaa;exact lp):p:=h
theorem JN(h:p:=by
 refine (iQ ⟨a1,l1,y1,a2,l2,y2,a3,l3,y3,a4,l4,y4,(Y3 ⟨b,o,U⟩),l5,y5⟩ c.now c.ns p.d _ (HR.n.below (HB.trans ((ak _ _).mono HB.size)))).mono ?_;have z1467z:=@aa _ @FL;exact mA):p:=h
theorem gK(h:p:=by
 have z1507z:=@aa _ @Fe;exact dG):p:=h
theorem JI(h:p:=by
 refine Grow.step (EmF W.heap.size 92) rfl (EmF.mono _ _) ?_ ?_
 ·exact kL
 refine' Grow.stepC _ rfl ?_ ?_;rotate_left 1
 ·exact kt
 refine' Grow.stepC _ rfl ?_ ?_;rotate_left 1
 ·have z1090z:=@aa _ @gO;exact mL
 refine Grow.step (RwF W.heap.size l2 4 92 (c.ks.map kdF)) rfl (RwF.mono _ _ _ _ _) ?_ ?_
 ·have z1576z:=@aa _ @Em;exact l9
 refine Grow.step (EmF W.heap.size 97) rfl (EmF.mono _ _) ?_ ?_
 ·exact kL
 refine' Grow.stepC _ rfl ?_ ?_;rotate_left 1
 ·exact kt
 refine' Grow.stepC _ rfl ?_ ?_;rotate_left 1
 ·refine Obl.plain rfl ?_;intro ac wg K hsz hW hf hK;clear hsz;have e14:=hf 14 ag;simp[aj,Yf] at e14;exact gO
 refine Grow.step (RwF W.heap.size l4 5 97 (c.xs.map xdF)) rfl (RwF.mono _ _ _ _ _) ?_ ?_
 ·refine Obl.plain rfl ?_;intro ac wg K hsz hW hf hK;clear hsz;have e13:=hf 13 ag;simp[aj,Yf] at e13;have e15:=hf 15 ag;simp[aj,Yf] at e15;clear hf;obtain⟨b0,e13,hB0,hg0⟩:=e13;have hz:i4.zero=Y3 (Za #[I ⟨#[]⟩,Y4 Y5 0,I ⟨#[]⟩,Y7 Y8,I ⟨#[]⟩])/\i4.size=5/\i4.bytes=64:=by have:=HI4.2;simp only[Prod.mk.injEq] at this;exact this
  refine qG (.tmp 13) (.tmp 15) 26 97 rfl i4 (Za #[I ⟨#[]⟩,Y4 Y5 0,I ⟨#[]⟩,Y7 Y8,I ⟨#[]⟩]) Tryz.underlying26 HI4.1 hz.1 hz.2.1 hz.2.2 rfl ag ag (by simpa[Act.eval] using e13) hg0 (by simpa[Act.eval] using e15) (HR.x.below (HB.trans (hW.mono HB.size))) (jO xj _) (show l4<=8 by have:=HS.x;omega) ag ?_;exact Pg
 refine' Grow.stepC _ rfl ?_ ?_;rotate_left 1
 ·exact kt
 refine' Grow.stepC _ rfl ?_ ?_;rotate_left 1
 ·refine Obl.plain rfl ?_;intro ac wg K hsz hW hf hK;clear hsz;have e17:=hf 17 ag;simp[aj,Yf] at e17;exact gO
 refine Grow.step (CpF W.heap.size l2 l4 c) rfl (CpF.mono _ _ _ _) ?_ ?_
 ·refine Obl.plain rfl ?_;intro ac wg K hsz hW hf hK;clear hsz;have e12:=hf 12 ag;simp[aj,Yf] at e12;have e16:=hf 16 ag;simp[aj,Yf] at e16;have e18:=hf 18 ag;simp[aj,Yf] at e18;clear hf;obtain⟨p2,q2,e12,h12⟩:=e12;obtain⟨p4,q4,e16,h16⟩:=e16;have H12:=aa h12;have H16:=aa h16;clear h12 h16;go_simp;exact hK _ _ (Yh _ _) ⟨p2,q2,p4,q4,rfl,H12.out,H16.out⟩
 refine Grow.step (FrF W.heap.size) rfl (FrF.mono _) ?_ ?_
 ·exact kL
 have z1656z:=@aa _ @Du;exact du):p:=h
theorem JH(h:p:=by
 refine' Grow.stepC _ rfl ?_ ?_;rotate_left 1
 ·exact nf
 refine' Grow.stepC _ rfl ?_ ?_;rotate_left 1
 ·have z413z:=@aa _ @N2;exact pD
 refine' Grow.stepC _ rfl ?_ ?_;rotate_left 1
 ·have z411z:=@aa _ @N2;exact pE
 refine' Grow.stepC _ rfl ?_ ?_;rotate_left 1
 ·exact ko
 refine' Grow.stepC _ rfl ?_ ?_;rotate_left 1
 ·have z1090z:=@aa _ @LQ;exact mL
 refine' Grow.stepC (Y4 Y5 j1) rfl ?_ ?_
 ·have z318z:=@aa _ @aci;exact pI
 refine' Grow.stepC _ rfl ?_ ?_;rotate_left 1
 ·have z286z:=@aa _ @acI;exact lx
 refine' Grow.stepC _ rfl ?_ ?_;rotate_left 1
 ·refine Obl.plain rfl ?_;intro ac wg K hsz hW hf hK;clear hsz;have e13:=hf 13 ag;simp[aj,Yf] at e13;clear hf;have hBg:=BW.trans (hW.mono BW.size);obtain⟨d0,d1,d2,d3,d4,d5,d6⟩:=HD.out;have g0:=(ai hBg HBn.out).trans d0;have g1:=(ai hBg HBn.out).trans d1;have g2:=(ai hBg HBn.out).trans d2;have g3:=(ai hBg HBn.out).trans d3;have g4:=(ai hBg HBn.out).trans d4;have g5:=(ai hBg HBn.out).trans d5;have g6:=(ai hBg HBn.out).trans d6;clear d0 d1 d2 d3 d4 d5 d6 hBg;exact aL
 refine Grow.step (qx W) rfl (qx.mono W) ?_ ?_
 ·exact kL
 have z1656z:=@aa _ @Dt;exact du):p:=h
theorem gJ(h:p:=by
 rename_i K0 hK0;refine bG ba rfl rfl ba ?_;exact z1243z):p:=h
theorem JD(h:p:=by
 by_cases hp2:p.p=2;rotate_left
 ·have HP2:=aa hp2;have hp3:(p.p==2)=Y8:=by simpa using hp2
  have Gk:Hid ((wr.alloc (Y6 #[I p.n,Y4 Y5 p.c,I p.z,J va vl vc,I p.d,Y4 Y5 p.p] 40)).heap[w.heap.size]?=Y3 (Y6 (clo6 a1 l1 y1 a2 l2 y2 a3 l3 y3 a4 l4 y4 (Y3 ⟨b,o,U⟩) l5 y5 c.now) 29 (0,0))):=(Ym _ _ _ (ae Bk.out)).trans (Bk.out);have Gr:Hid ((wr.alloc (Y6 #[I p.n,Y4 Y5 p.c,I p.z,J va vl vc,I p.d,Y4 Y5 p.p] 40)).heap[wr.heap.size]?=Y3 (Y6 #[I p.n,Y4 Y5 p.c,I p.z,J va vl vc,I p.d,Y4 Y5 p.p] 40 (0,0))):=Yg;have HW:Hid (Below w.heap.size w (wr.alloc (Y6 #[I p.n,Y4 Y5 p.c,I p.z,J va vl vc,I p.d,Y4 Y5 p.p] 40))):=(HB.trans ((ak _ _).mono HB.size));obtain⟨k0,k1,k2,k3,k4,k5⟩:=sl6 Gk;obtain⟨r0,r1,r2,r3,r4,r5⟩:=sl6 Gr;have hne0:=Wd.ne (wr.alloc (Y6 #[I p.n,Y4 Y5 p.c,I p.z,J va vl vc,I p.d,Y4 Y5 p.p] 40));have z1z:=@aa _ @aiR;exact bC
 have HP2:=aa hp2;obtain⟨⟨j1,n,h1,h2⟩,hbd⟩:=HRun.out k p HXp.out hp2;rw[hp2] at c5;clear hp2;have HBD:=aa hbd;have z892z:=@aa _ @Sw;exact pd):p:=h
theorem sM(h:p:=by
 have z1550z:=@aa _ @EG;exact rO):p:=h
theorem Jx(h:p:=by
 have HI3:=aa hi;clear hi;cases r
 ·obtain⟨k0,k1,k2,k3,k4,k5⟩:=cs6 Bk;go_wp2;go_ret;exact ar.f (λh=>by have:=HI3.2 ((kD HOK.out).1 h.2.2.1);cases this) HB.out
 have HBd:=aa (HI3.1 bX);obtain⟨k0,k1,k2,k3,k4,k5⟩:=cs6 Bk;go_wp2_with fail;refine (qN d c _ (HR.below HB.out) HOK.1.2.2 HOK.2.2.2.1.2.2 HOK.2.2.1.2.2 HOK.ne (by have:=HOK.2.2.2.2.1;omega) HOK.cpu).mono ?_;rintro e w4 ⟨r,rfl,hi,hb⟩;have z1719z:=@aa _ @CA;exact fw):p:=h
theorem Jw(h:p:=by
 have HI2:=aa hi;clear hi;cases r
 ·exact PK
 have HOK:=aa (HI2.1 bX);obtain⟨k0,k1,k2,k3,k4,k5⟩:=cs6 Bk;go_wp2_with fail;exact z721z):p:=h
theorem fz(h:p:=by
 have z1719z:=@aa _ @Cz;exact fw):p:=h
theorem Jr(h:p:=by
 have z1z:=@aa _ @aiZ;exact bC):p:=h
theorem Jq(h:p:=by
 have z1z:=@aa _ @aiY;exact bC):p:=h
theorem Jp(h:p:=by
 have z1z:=@aa _ @aiX;exact bC):p:=h
theorem mI(h:p:=by
 have z1703z:=@aa _ @CN;exact lU):p:=h
theorem Jk(h:p:=by
 go_loopw [6] (λi wr=> ∃kq:Nat,kq<=vl/\i=Y4 Y5 kq/\Hid (∀(j:Nat) t,j<kq->p.zs[j]?=Y3 t->akf c p t)/\Hid (Below W.heap.size W wr)) (λi _=>vl - (intOf i).toNat);case atStart=>exact⟨0,by omega,rfl,λ_ _ h=>absurd h af,Yh _ _⟩
 case round=>
  obtain⟨kq,hkq,rfl,HQ2,HBW⟩:=hrel;obtain⟨HB,Bk⟩:=tI;have Br:=upK GV HBW.out;have pr3:=ck3 Br;by_cases hlt2:kq<vl
  ·obtain⟨b2,o2,t,rfl,hb,hxt,hc,hsz⟩:=(TV.below HBW.out).at hlt2;have HXt:=aa hxt;clear hxt hsz;exact amk
  ·exact amj):p:=h
theorem Jj(h:p:=by
 go_loopw [6] (λi wr=> ∃kq:Nat,kq<=vl/\i=Y4 Y5 kq/\Hid (∀(j:Nat) t,j<kq->p.zs[j]?=Y3 t->akf c p t)/\Hid (Below W.heap.size W wr)) (λi _=>vl - (intOf i).toNat);case atStart=>exact⟨0,by omega,rfl,λ_ _ h=>absurd h af,Yh _ _⟩
 case round=>
  obtain⟨kq,hkq,rfl,HQ2,HBW⟩:=hrel;obtain⟨HB,Bk⟩:=tI;have Br:=upK GV HBW.out;have pr3:=ck3 Br;by_cases hlt2:kq<vl
  ·obtain⟨b2,o2,t,rfl,hb,hxt,hc,hsz⟩:=(TV.below HBW.out).at hlt2;have HXt:=aa hxt;clear hxt hsz;have hcase:(∃v,aY c t v)\/(∀v,¬aY c t v):=by
    exact PE
   rcases hcase with ⟨v,hbd⟩|hbd
   ·have z859z:=@aa _ @S2;exact xY
   ·have z1114z:=@aa _ @Ly;exact sW
  ·have z943z:=@aa _ @RO;exact xL):p:=h
theorem sL(h:p:=by
 obtain⟨gb,hgb⟩:∃gb,gb=wr.heap.size:=⟨_,rfl⟩;rw[<-hgb] at Br;have pr3:=ck3 Br;rw[hgb] at pr3;go_wp2;rw[<-hgb];clear pr3 hgb;have KV:=Bk;have GV:=Br;have BV:=HB;have TV:=HTp;clear Bk Br HB HTp;obtain⟨W,hW⟩:∃W,W=q0.w:=⟨_,rfl⟩;rw[<-hW] at KV GV BV TV ⊢;clear hW;exact z1273z):p:=h
theorem I_(h:p:=by
 have hb3X1:=ae BoX.out;clear BkR Bo HBW h5 hR HV HO HK hl5 hkl hk hKs hXs;generalize wr=X1 at*;obtain⟨k0,k1,k2,k3,k4,k5⟩:=cs6 Bk;go_wp2;clear k0 k1 k2 k3 k4 k5 hlt;go_loopw [6] (λvi wr=> ∃(k:Nat) (vss:List (List Value)) (H:Nat->Nat->Nat) (v:Value),k<=l3/\vi=Y4 Y5 k/\Hid (aG (Cps b3 X1) X1 wr)/\Hid (wr.ownsRow X1.heap.size 95 8 v k vss.flatten)/\Hid (aQ wr (λk=>X1.heap.size<=k) 8 ((c.vs.take k).map vdF) vss H)/\Hid (wr.heap[b3]?=Y3 (Y6 #[J p1 l1 q1,J p2 l2 q2,v,J p4 l4 q4,J U 0 0,Y4 Y5 c.now] 29 (0,0)))) (λvi _=>l3 - (intOf vi).toNat);case atStart=>exact⟨0,[],λ_ _=>0,J U 0 0,by omega,rfl,aG.refl _ _,World.ownsRow_nil _ _ _ _,aQ.nil _ _ _ _,BoX⟩
 case round=>
  obtain⟨k,vss,H,v,hk,rfl,HK,HO,HV,Bo⟩:=hrel;obtain⟨hXs,HBW,BkR,hKs⟩:=Nb;by_cases hlt:k<l3
  ·obtain⟨b,o,x,rfl,hb0,hx,hat⟩:=cj HR.v hlt;have z1689z:=@aa _ @CW;exact eM
  ·have hkl:k=l3:=af
   have h5:=HV.out;rw[YH af] at h5;obtain⟨p3,q3,hv,hR⟩:=h5.own HO.out bJ ag (λg hg=>(HO.lt g hg).1);have hl5:(c.vs.map vdF).length=l3:=by simpa using hl3
   rw[hl5] at hv hR;subst hv;have R3:=aa (hR.dN Bo.out ag ag);have z899z:=@aa _ @Sr;exact pb):p:=h
theorem I9(h:p:=by
 have hb3X2:=ae BoX.out;clear BkR Bo HBW h5 hR HV HO HK hl5 hkl hk hKs hXs;generalize wr=X2 at*;obtain⟨k0,k1,k2,k3,k4,k5⟩:=cs6 Bk;go_wp2;clear k0 k1 k2 k3 k4 k5 hlt;go_loopw [7] (λvi wr=> ∃(k:Nat) (vss:List (List Value)) (H:Nat->Nat->Nat) (v:Value),k<=l5/\vi=Y4 Y5 k/\Hid (aG (Cps b3 X2) X2 wr)/\Hid (wr.ownsRow X2.heap.size 40 6 v k vss.flatten)/\Hid (aQ wr (λk=>X2.heap.size<=k) 6 ((c.ps.take k).map pdF) vss H)/\Hid (wr.heap[b3]?=Y3 (Y6 #[J p1 l1 q1,J p2 l2 q2,J p3 l3 q3,J p4 l4 q4,v,Y4 Y5 c.now] 29 (0,0)))) (λvi _=>l5 - (intOf vi).toNat);case atStart=>exact⟨0,[],λ_ _=>0,J U 0 0,by omega,rfl,aG.refl _ _,World.ownsRow_nil _ _ _ _,aQ.nil _ _ _ _,BoX⟩
 case round=>
  obtain⟨k,vss,H,v,hk,rfl,HK,HO,HV,Bo⟩:=hrel;obtain⟨hXs,HBW,BkR,hKs⟩:=Nb;by_cases hlt:k<l5
  ·obtain⟨b,o,x,rfl,hb0,hx,hat⟩:=cq HR.p hlt;obtain⟨va,vl,vc,hvr,z0,z2,z4,c0,c1,c2,c3,c4,c5⟩:=bD hat;have hz8:vl<=8001:=by have h1:=hvr.1;have h2:=HS.ps k x hx;omega
   have HX:=aa hx;have HT:=aa hvr;have HZz0:=aa z0;have HZz2:=aa z2;have HZz4:=aa z4;clear hat hx hvr z0 z2 z4;have z601z:=@aa _ @Ws;exact yI
  ·have hkl:k=l5:=af
   have h5:=HV.out;rw[YH af] at h5;obtain⟨p5,q5,hv,hR⟩:=h5.own HO.out bJ ag (λg hg=>(HO.lt g hg).1);have hl5:(c.ps.map pdF).length=l5:=by simpa using hl5
   rw[hl5] at hv hR;subst hv;have R5:=aa (hR.dN Bo.out ag ag);have z899z:=@aa _ @Sq;exact pb):p:=h
theorem I8(h:p:=by
 clear BkR Bo HBW h5 hR HV HO HK hl5 hkl hk hKs hXs;generalize wr=X3 at*;obtain⟨k0,k1,k2,k3,k4,k5⟩:=cs6 Bk;obtain⟨o0,o1,o2,o3,o4,o5⟩:=cs6 BoX;obtain⟨r0,r1,r2,r3,r4,r5⟩:=cs6 Br;have hXs:=HBX.size;obtain⟨fr0,fr1,fr2,fr3,fr4,fr5⟩:=kJ;go_wp2;refine bodyPost_ret (v:=Za #[J p1 l1 q1,J p2 l2 q2,J p3 l3 q3,J p4 l4 q4,J p5 l5 q5,Y4 Y5 c.now]) (by simp[results,Tryz.results29,go_sem, *]) rfl ⟨⟨p1,l1,q1,p2,l2,q2,p3,l3,q3,p4,l4,q4,p5,l5,q5⟩,rfl,⟨?_,?_,?_,?_,?_⟩,sb1 (sb1 (sb1 (sb1 (sb1 (sb1 (HBX.out))))))⟩
 ·exact (R1.az (S':=λk=>w.heap.size<=k) (λk hk s=>fT (by have s1:X.heap.size<=k:=s.1;omega)) (λk _ s=>by have s1:X.heap.size<=k:=s.1;show w.heap.size<=k;omega))
 ·exact (R2.az (S':=λk=>w.heap.size<=k) (λk hk s=>fT (by have s1:W.heap.size<=k:=s.1;omega)) (λk _ s=>by have s1:W.heap.size<=k:=s.1;show w.heap.size<=k;omega))
 ·exact (R3.az (S':=λk=>w.heap.size<=k) (λk hk s=>fT (by have s1:X1.heap.size<=k:=s.1;omega)) (λk _ s=>by have s1:X1.heap.size<=k:=s.1;show w.heap.size<=k;omega))
 ·exact (R4.az (S':=λk=>w.heap.size<=k) (λk hk s=>fT (by have s1:W.heap.size<=k:=s.1;omega)) (λk _ s=>by have s1:W.heap.size<=k:=s.1;show w.heap.size<=k;omega))
 ·exact (R5.az (S':=λk=>w.heap.size<=k) (λk hk s=>fT (by have s1:X2.heap.size<=k:=s.1;omega)) (λk _ s=>by have s1:X2.heap.size<=k:=s.1;show w.heap.size<=k;omega))):p:=h
theorem mH(h:p:=by
 replace Br:=aa ((HK.block (w.heap.size+1) af (λs=>by rcases s with s|s <;> omega)).trans Br.out);replace Bk:=BkR;replace BoX:=Bo;replace HBX:=HBW;exact z1288z):p:=h
theorem I7(h:p:=by
 have z53z:=@aa _ @ahL;exact aC):p:=h
theorem I6(h:p:=by
 have z53z:=@aa _ @ahK;exact aC):p:=h
theorem sI(h:p:=by
 obtain⟨Gk,Gr,HW⟩:=akG;obtain⟨k0,k1,k2,k3,k4,k5⟩:=sl6 Gk;obtain⟨r0,r1,r2,r3,r4,r5⟩:=sl6 Gr;obtain⟨nw,hne0,HC0⟩:=agE;have HC1:=aa (λq:Wd (wr.alloc (Y6 #[I p.n,Y4 Y5 p.c,I p.z,J va vl vc,I p.d,Y4 Y5 2] 40))=>HCA.out q);exact z1292z):p:=h
theorem IE(h:p:=by
 by_cases hpr:oT c pq p
 ·have z272z:=@aa _ @acT;exact zr
 ·have z272z:=@aa _ @acS;exact zr):p:=h
theorem ID(h:p:=by
 by_cases hpr:oT c pq p
 ·have HPr:=aa hpr;clear hpr;have z543z:=@aa _ @Xr;exact py
 ·have HPr:=aa hpr;clear hpr;have z543z:=@aa _ @Xq;exact py):p:=h
theorem sB(h:p:=by
 obtain⟨b',o',pq,e',hb',hqq,hatq⟩:=cq (HR.p.below HB.out) (show kz<l5 by omega);cases e';obtain⟨qa,ql,qc,hqr,z0,z2,z4,d0,d1,d2,d3,d4,d5⟩:=bD hatq;have HXq:=aa hqq;have HTq:=aa hqr;clear hatq hqq hqr z0 z2 z4;exact z1327z):p:=h
theorem It(h:p:=by
 obtain⟨xa,xl,xc,hvr,z0,z2,z3,z5,d0,d1,d2,d3,d4,d5,d6,d7⟩:=bh hat;have HJ:=aa hj3;have HD:=aa hbd;have HC2:=aa d2;have HB3:=aa hb3;have hj31:decide ((j3:Int)<0)=Y8:=aF
 clear hv' hat hvr z0 z2 z3 z5 d0 d1 d2 d3 d4 d5 d6 d7 hj3 hbd hb3;obtain⟨Gk,Gr,HW⟩:=gN;obtain⟨k0,k1,k2,k3,k4,k5⟩:=sl6 Gk;have r3:=λq:Wd wr=>q.slot (o:=3) Gr.out rfl;obtain⟨tw,hne0⟩:=ow;exact z859z):p:=h
theorem Ib(h:p:=by
 go_wp2;clear pk;go_loopw [7] (λi wr=> ∃k:Nat,k<=l1/\i=Y4 Y5 k/\Hid (∀(j:Nat) n,j<k->c.ns[j]?=Y3 n->onOf n.n c.vs<=n.s)/\Hid (Below w.heap.size w wr)/\Hid (wr.heap[w.heap.size]?=Y3 (Y6 (clo6 a1 l1 y1 a2 l2 y2 a3 l3 y3 a4 l4 y4 a5 l5 y5 c.now) 29 (0,0)))) (λi _=>l1 - (intOf i).toNat);case atStart=>exact⟨0,by omega,rfl,λ_ _ h=>absurd h af,HB.out,Bk.out⟩
 case round=>
  obtain⟨k,hk,rfl,HQ,HB,Bk⟩:=hrel;have pk:=ck0 Bk;by_cases hlt:k<l1
  ·have z851z:=@aa _ @S9;exact fO
  ·exact Pk):p:=h
theorem sn(h:p:=by
 obtain rfl:l3=k:=af
 have HQ1:Hid (∀(j:Nat) z,c.vs[j]?=Y3 z->AQ1 c z):=λj z hz=>HQ.out j z dD hz;clear HQ;exact z1363z):p:=h
theorem Ho(h:p:=by
 have HC1:=aa (λq:Wd wr=>(bW na nl nc n.zs v.n q.w (HTn.below (HW.trans (q.b.mono HW.size)))).mono (λ_ _ h=>ar.yes h HIn.out));have z53z:=@aa _ @ahQ;exact aC):p:=h
theorem Hn(h:p:=by
 have HC1:=aa (λq:Wd wr=>(bW na nl nc n.zs v.n q.w (HTn.below (HW.trans (q.b.mono HW.size)))).mono (λ_ _ h=>ar.no h HIn.out));have z53z:=@aa _ @ahP;exact aC):p:=h
theorem sf(h:p:=by
 have HIn:=aa hin;clear hin;have Gk:=Bk;have Gp:=Bp;have Gn:=Bn;have HW:=HB;obtain⟨k0,k1,k2,k3,k4,k5⟩:=sl6 Gk;obtain⟨p3,n6,tw,vw,hne0,HC0⟩:=akR;exact z1385z):p:=h
theorem FL(h:p:=by
 replace HTp:=aa (HTp.below hbx);replace HB:=upB HB hbx;clear hb2 hbx HA0;clear pk hb c0 c1 c2 c3 c4 c5;by_cases he:p.d=⟨#[]⟩
 ·have hq:=cN he;have HEm:=aa he;clear he;obtain⟨r5,hre⟩:∃r:Int,e=Y9 (Y4 Y5 r):=by rcases hf with ⟨j,y,_,_,h⟩|⟨_,h⟩ <;> exact⟨_,h⟩
  subst hre;clear hf;have z1703z:=@aa _ @CM;exact lU
 have hq:=aX he;have HEm:=aa he;clear he;rcases hf with ⟨j1,n,h1,h2,rfl⟩|⟨hh,rfl⟩;rotate_left
 ·have HH:=aa hh;clear hh;have z1703z:=@aa _ @CL;exact lU
 have z892z:=@aa _ @Sy;exact pd):p:=h
theorem FI(h:p:=by
 rintro _ ⟨q1,rfl⟩;obtain⟨HB1,Ck⟩:=iz;have Cv:=upK Gv q1.b;clear hne0 HW HB HC0 k0 k1 k2 k3 k4 k5 v6 tw Gk Gv Bk Bv pv hb hc;have HB:=HB1;clear HB1;have Bk:=Ck;clear Ck;have Bv:=Cv;clear Cv;have HBW1:=upB HBW q1.b;have hbv:=Yj HB3.out HB.size;have v7:=(ai HB.out HB3.out).trans HC7.out;clear HBW;rcases Bool.eq_false_or_eq_true n.d with hd|hd
 ·have HDd:=aa hd;clear hd;have Bv2:Hid (q1.w.heap[gb]?=Y3 (Y6 #[I n.n,I n.z,Y4 Y5 n.c,Y4 Y5 n.s,Y4 Y5 n.u,Y7 Y_,J (Y3 ⟨b2,o2,U⟩) vl vc] 38 (0,0))):=by have:=Bv.out;rw[HDd.out] at this;exact this
  clear Bv;have Bv:=Bv2;clear Bv2;have z1730z:=@aa _ @Ci;exact lS
 ·have HDd:=aa hd;clear hd;have Bv2:Hid (q1.w.heap[gb]?=Y3 (Y6 #[I n.n,I n.z,Y4 Y5 n.c,Y4 Y5 n.s,Y4 Y5 n.u,Y7 Y8,J (Y3 ⟨b2,o2,U⟩) vl vc] 38 (0,0))):=by have:=Bv.out;rw[HDd.out] at this;exact this
  clear Bv;have Bv:=Bv2;clear Bv2;by_cases hin:InL v.zs n.n
  ·have HIn:=aa hin;clear hin;have z1730z:=@aa _ @Ch;exact lS
  ·have HIn:=aa hin;clear hin;have z1730z:=@aa _ @Cf;exact lS):p:=h
theorem FH(h:p:=by
 rintro _ ⟨q1,rfl⟩;obtain⟨HB1,Ck⟩:=iz;have Cv:=upK Gv q1.b;clear hne0 HW HB HC0 k0 k1 k2 k3 k4 k5 v6 tw Gk Gv Bk Bv pv;have HB:=HB1;clear HB1;have Bk:=Ck;clear Ck;have Bv:=Cv;clear Cv;obtain⟨Gk,Gv,HW,k2,v0,v2,v5,v6⟩:=agA;have hne0:=Wd.ne q1.w;have z1z:=@aa _ @aiT;exact bC):p:=h
theorem FB(h:p:=by
 exact z601z):p:=h
theorem FA(h:p:=by
 replace c6:=(ai HBW.out hb0).trans c6;replace c7:=(ai HBW.out hb0).trans c7;have hbr:=Yj hb0 HBW.size;have hkr:=ae BkR.out;have hor:=ae Bo.out;have hz:i3.zero=Y3 (Za #[I ⟨#[]⟩,Y4 Y5 0,I ⟨#[]⟩,I ⟨#[]⟩,Y7 Y8,I ⟨#[]⟩,Y7 Y8,J U 0 0])/\i3.size=8/\i3.bytes=112:=by have:=HI3.2;simp only[Prod.mk.injEq] at this;exact this
 obtain⟨k0,k1,k2,k3,k4,k5⟩:=cs6 BkR;have hvb:=λg hg=>(HO.lt g hg).2;go_wp2_with fail;clear k0 k1 k2 k3 k4 k5;rename_i K0 hK0;refine Gi.bG (R:=Rv v.ownBlock 59) (ex:=λ_=>U) (Rv.rel _ _) ba rfl rfl ba ba ?_;refine' Gi.Grow.stepC _ rfl ?_ ?_;rotate_left 1
 ·exact Oo
 refine' Gi.Grow.stepC _ rfl ?_ ?_;rotate_left 1
 ·have z547z:=@aa _ @Xm;exact ew
 refine' Gi.Grow.stepC _ rfl ?_ ?_;rotate_left 1
 ·have z547z:=@aa _ @Xl;exact ew
 refine' Gi.Grow.stepC _ rfl ?_ ?_;rotate_left 1
 ·have z547z:=@aa _ @Xk;exact ew
 refine' Gi.Grow.stepC _ rfl ?_ ?_;rotate_left 1
 ·have z547z:=@aa _ @Xj;exact ew
 refine' Gi.Grow.stepC _ rfl ?_ ?_;rotate_left 1
 ·have z547z:=@aa _ @Xi;exact ew
 refine' Gi.Grow.stepC _ rfl ?_ ?_;rotate_left 1
 ·have z547z:=@aa _ @Xh;exact ew
 refine Gi.Grow.step (TvF wr.heap.size x) rfl (TvF.mono hvb) ?_ ?_
 ·have z547z:=@aa _ @Xg;exact ew
 refine Gi.Grow.step (BsF wr.heap.size x) rfl (BsF.mono hvb) ?_ ?_
 ·have z547z:=@aa _ @Xf;exact ew
 refine Gi.Grow.step (ApF X1.heap.size k ((c.vs.take (k+1)).map vdF) vss) rfl (ApF.mono) ?_ ?_
 ·refine Gi.Obl.plain rfl ?_;intro ac wg K lo hi hsz hW hpr hf hap hK;clear hsz hap;have hW:wr.grownBy wg v.ownBlock:=hW;have e51:=hf 51 ag;simp[Gi.aj,Yf] at e51;have e58:=hf 58 ag;simp[Gi.aj,Yf] at e58;clear hf;have hbW:=hpr rfl;clear hpr;obtain⟨b5,a',l',c',e58,hb5,hg5,ho5⟩:=e58;obtain⟨g,hg⟩:=ho5.fr;have hws:=hW.size;refine wp_append_own wg (.tmp 51) (.tmp 58) 25 rfl X1.heap.size 95 i3 (Za #[I ⟨#[]⟩,Y4 Y5 0,I ⟨#[]⟩,I ⟨#[]⟩,Y7 Y8,I ⟨#[]⟩,Y7 Y8,J U 0 0]) 8 112 Tryz.underlying25 HI3.1 hz.1 hz.2.1 hz.2.2 rfl ag v k vss.flatten (by simpa[Act.eval] using e51) (cA HO.out hbW) ⟨b5,0,U⟩ 1 1 [I x.n,Y4 Y5 x.c,I x.z,I x.k,Y7 x.x,I x.m,Y7 x.y,J a' l' c'] (by simpa[Act.eval] using e58) rfl (PW hg5) (by intro u hu;simp only[List.mem_cons,List.not_mem_nil,or_false] at hu;rcases hu with rfl|rfl|rfl|rfl|rfl|rfl|rfl|rfl <;> rfl) (by unfold maxLen;have:=HS.v;omega) (by have:=HS.v;omega) af ?_;intro v' w' hown hgr _;have hV:=HV.app (r:=vdF x) (vs:=[I x.n,Y4 Y5 x.c,I x.z,I x.k,Y7 x.x,I x.m,Y7 x.y,J a' l' c']) (hh:=g) hbW (cA HO.out hbW) ag hgr rfl rfl (af8 HZz0.out HZz2.out HZz3.out HZz5.out (hg.az (S':=λk=>X1.heap.size<=k) (λcu _ q=>rfl) (λ_ s=>by have s1:wr.heap.size<=g:=s;show X1.heap.size<=g;omega))) (λi zs hi hz=>by obtain⟨_,rfl⟩:=AB hi;exact (hg.lt hz).1) (λi i' zs zs' h1 _ h2 _=>(AB h1).1.trans (AB h2).1.symm);have e1:(c.vs.take (k+1)).map vdF=(c.vs.take k).map vdF++[vdF x]:=by rw[YL,HX.out];simp
  rw[<-e1] at hV;exact hK _ _ (Rv.this hgr) ⟨_,[I x.n,Y4 Y5 x.c,I x.z,I x.k,Y7 x.x,I x.m,Y7 x.y,J a' l' c'],by rw[List.flatten_append];simpa using hown,hV⟩
 refine' Gi.Grow.stepC _ rfl ?_ ?_;rotate_left 1
 ·exact Oo
 refine Gi.Grow.done ?_;intro q wz lo hi hW hf hap;clear hap;have hW:wr.grownBy wz v.ownBlock:=hW;simp only[List.forall_mem_cons] at hf;obtain⟨h60,h59,-⟩:=hf;have h60:=h60 bX;obtain⟨H',vs',hs2,hs3⟩:=h59 bX;obtain⟨v',hv'⟩:∃v',q 59=v':=⟨_,rfl⟩;rw[hv'] at hs2;obtain⟨v1',v2',v3',rfl⟩:=aA hs2;have bo5:=(hW.block b3 hor (λe=>by have:=(HO.lt _ e.symm).1;omega)).trans Bo.out;have HS1:=aa (((HK.trans (aG.ui hW (λg e=>Zb (HO.lt g e).1))).set (i:=2) (v:=J v1' v2' v3') (Zc rfl)));have HS2:=aa (ug (i:=2) (u:=J v1' v2' v3') hs2 bo5 ag);have HS3:=aa (hs3.set (i:=2) (u:=J v1' v2' v3') bo5 ag);have HS4:=aa (au (i:=2) bo5 (J v1' v2' v3'));obtain⟨o0,o1,o2,o3,o4,o5⟩:=cs6 bo5;have fo0:=al bo5 0;have fo2:=al bo5 2;have fo4:=al bo5 4;clear bo5 hs2 hs3 hW c0 c1 c2 c3 c4 c5 c6 c7;intro K hK;rw[if_pos (by rfl)];simp only[Gi.aJ,YQ,Act.put,Ys,YA,YB,h60,hv'];have z1667z:=@aa _ @Dh;exact jo):p:=h
theorem rV(h:p:=by
 replace c0:=(ai HBW.out hb0).trans c0;replace c1:=(ai HBW.out hb0).trans c1;replace c2:=(ai HBW.out hb0).trans c2;replace c3:=(ai HBW.out hb0).trans c3;replace c4:=(ai HBW.out hb0).trans c4;replace c5:=(ai HBW.out hb0).trans c5;exact z1482z):p:=h
theorem Fe(h:p:=by
 go_wp2_with fail;exact z1237z):p:=h
theorem E0(h:p:=by
 refine (oX d c _ (HR.below HB.out) HOK.1.2.2 HOK.2.2.2.1.2.2 HOK.2.2.1.2.2 HOK.ne (running HOK.out HPl.out)).mono ?_;rintro e w6 ⟨r,rfl,hi,hb⟩;have z1719z:=@aa _ @Cw;exact fw):p:=h
theorem rT(h:p:=by
 rintro e w5 ⟨r,rfl,hi,hb⟩;have z1719z:=@aa _ @Cu;exact fw):p:=h
theorem EW(h:p:=by
 have HB1:=upB HW q1.b;obtain⟨Ck,Cr⟩:=er;clear hne0 HW HB HC0 k0 k1 k2 k3 k4 k5 r0 r1 r2 r3 r4 r5 nw Gk Gr Bk pk hb hbn e5 hbnv e5v c0 c1 c2 c3 c4 c5;have HB:=HB1;clear HB1;have Bk:=Ck;clear Ck;clear Cr;go_wp2;go_ret;refine ar.f (λh=>?_) HB.out;obtain⟨i,m,e1,e2,e3,_⟩:=(h.2 k p HXp.out) HP2.out;obtain⟨_,rfl⟩:=HNR.inj e1 HJn.out (e2.trans HNn.symm);rw[HDd.out] at e3;cases e3):p:=h
theorem EV(h:p:=by
 obtain⟨HB1,Ck⟩:=iz;have Cv:=upK Gv q1.b;clear hne0 HW HB HC0 k0 k1 k2 k3 k4 k5 v7 tw Gk Gv Bk Bv pv;have HB:=HB1;clear HB1;have Bk:=Ck;clear Ck;have Bv:=Cv;clear Cv;obtain⟨Gk,Gv,HW,k0,v2,v7⟩:=M9;have hne0:=Wd.ne q1.w;have z1z:=@aa _ @aiW;exact bC):p:=h
theorem EU(h:p:=by
 obtain⟨HB1,Ck⟩:=iz;have Cv:=upK Gv q1.b;clear hne0 HW HB HC0 k0 k1 k2 k3 k4 k5 v7 tw Gk Gv Bk Bv pv hb hc;have HB:=HB1;clear HB1;have Bk:=Ck;clear Ck;have Bv:=Cv;clear Cv;have HBW1:=upB HBW q1.b;have hbn:=Yj HBn.out HB.size;have n1:=(ai HB.out HBn.out).trans HCn.out;clear HBW;by_cases hz:n.z=v.z
 ·have q8:=aP hz;have HZ:=aa hz;clear hz;obtain⟨Gk,Gv,HW,k0,v2,v7⟩:=M9;have nw:=λq:Wd q1.w=>(q.cell hbn).trans n1;have hne0:=Wd.ne q1.w;have z1z:=@aa _ @aiV;exact bC
 ·have q8:=bA hz;have HZ:=aa hz;clear hz;obtain⟨Gk,Gv,HW,k0,v2,v7⟩:=M9;have nw:=λq:Wd q1.w=>(q.cell hbn).trans n1;have hne0:=Wd.ne q1.w;have z1z:=@aa _ @aiU;exact bC):p:=h
theorem mo(h:p:=by
 repeat (go_big_quiet_step (first|(go_at_call 28;exact Calls.wide (HC0.out _))|fail))
 refine wpQuiet_nil ?_;rintro _ ⟨q1,rfl⟩;exact z1531z):p:=h
theorem EH(h:p:=by
 have hvl:=HTp.1;have hvc:=Yl HTp.2.1 HTp.2.2.1;have HVL:=aa hvl;clear hvl;have z1237z:=@aa _ @JN;exact gK):p:=h
theorem EG(h:p:=by
 exact z1249z):p:=h
theorem rO(h:p:=by
 obtain⟨b,o,p,rfl,hb,hx,hat⟩:=cq (HR.p.below HB.out) hlt;obtain⟨va,vl,vc,hvr,z0,z2,z4,c0,c1,c2,c3,c4,c5⟩:=bD hat;have HXp:=aa hx;have HTp:=aa hvr;clear hat hx z0 z2 z4 hvr;exact z1550z):p:=h
theorem En(h:p:=by
 exact z318z):p:=h
theorem Em(h:p:=by
 have e11:=hf 11 ag;simp[aj,Yf] at e11;clear hf;obtain⟨b0,e9,hB0,hg0⟩:=e9;have hz:i2.zero=Y3 (Za #[I ⟨#[]⟩,Y7 Y8,Y7 Y8,I ⟨#[]⟩])/\i2.size=4/\i2.bytes=40:=by have:=HI2.2;simp only[Prod.mk.injEq] at this;exact this
 refine qG (.tmp 9) (.tmp 11) 24 92 rfl i2 (Za #[I ⟨#[]⟩,Y7 Y8,Y7 Y8,I ⟨#[]⟩]) Tryz.underlying24 HI2.1 hz.1 hz.2.1 hz.2.2 rfl ag ag (by simpa[Act.eval] using e9) hg0 (by simpa[Act.eval] using e11) (HR.k.below (HB.trans (hW.mono HB.size))) (jO Ah _) (show l2<=8 by have:=HS.k;omega) ag ?_;exact Pg):p:=h
theorem l9(h:p:=by
 refine Obl.plain rfl ?_;intro ac wg K hsz hW hf hK;clear hsz;have e9:=hf 9 ag;simp[aj,Yf] at e9;exact z1576z):p:=h
theorem El(h:p:=by
 exact z286z):p:=h
theorem lZ(h:p:=by
 refine Obl.plain rfl ?_;intro ac wg K hsz hW hf hK;clear hsz;have e8:=hf 8 ag;simp[aj,Yf] at e8;exact z1579z):p:=h
theorem Eh(h:p:=by
 by_cases hlt3:kz<k
 ·have z1327z:=@aa _ @IE;exact sB
 ·exact Ox):p:=h
theorem Eg(h:p:=by
 by_cases hlt3:kz<k
 ·have z1327z:=@aa _ @ID;exact sB
 ·exact Ox):p:=h
theorem rM(h:p:=by
 obtain⟨kz,hkz,rfl,HQ3,HBW⟩:=hrel;have HB:=aa (BV2.trans (HBW.mono BV2.size));have Bk:=upK KV2 HBW.out;have Br:=upK GV2 HBW.out;have HTp:=aa (TV2.below HBW.out);exact z1585z):p:=h
theorem Ef(h:p:=by
 go_wp2;clear pk;go_loopw [7] (λi wr=> ∃k:Nat,k<=l5/\i=Y4 Y5 k/\Hid (∀(j:Nat) z,j<k->c.ps[j]?=Y3 z->MQ2 c z)/\Hid (Below w.heap.size w wr)/\Hid (wr.heap[w.heap.size]?=Y3 (Y6 (clo6 a1 l1 y1 a2 l2 y2 a3 l3 y3 a4 l4 y4 a5 l5 y5 c.now) 29 (0,0)))) (λi _=>l5 - (intOf i).toNat);case atStart=>exact⟨0,by omega,rfl,λ_ _ h=>absurd h af,HB.out,Bk.out⟩
 case round=>
  obtain⟨k,hk,rfl,HQ,HB,Bk⟩:=hrel;have pk:=ck4 Bk;by_cases hlt:k<l5
  ·have z1249z:=@aa _ @JD;exact sM
  ·obtain rfl:l5=k:=af
   go_wp2;go_ret;exact ar.t ⟨HQ1.out,λj z hz=>HQ.out j z dD hz⟩ HB.out):p:=h
theorem rL(h:p:=by
 obtain rfl:l1=k:=af
 have HQ1:Hid (∀(j:Nat) z,c.ns[j]?=Y3 z->QI c z):=λj z hz=>HQ.out j z dD hz;clear HQ;exact z1588z):p:=h
theorem Ed(h:p:=by
 exact z1000z):p:=h
theorem Ec(h:p:=by
 clear hne0 HW HB HC0 k0 k1 k2 k3 k4 k5 r0 r1 r2 r3 r4 r5 tw Gk Gr Bk Br hc1 hb1;have HB:=HB2;clear HB2;have Bk:=Ck;clear Ck;have Br:=Cr;clear Cr;go_wp2;go_ret;refine ar.f (λh=>?_) HB.out;have h9:=(h.1 k p HXp.out).2.1 kq t HXt.out;rcases h9.2 with h2|⟨v',i,n',h2,_⟩
 ·exact HEm.out h2
 ·exact HD.out v' h2):p:=h
theorem rK(h:p:=by
 repeat (go_big_quiet_step (first|(go_at_call 95;exact Calls.wide (HC0.out _))|fail))
 refine wpQuiet_nil ?_;rintro _ ⟨q2,rfl⟩;obtain⟨HB2,Ck⟩:=jK;have Cr:=upK Gr q2.b;exact z1591z):p:=h
theorem D6(h:p:=by
 go_enter Tryz.func53,Tryz.ntmps53;go_wp2;go_loopw [3] (λi wr=> ∃k:Nat,k<=l3/\i=Y4 Y5 k/\Hid (∀(j:Nat) z,j<k->c.vs[j]?=Y3 z->AQ1 c z)/\Hid (Below w.heap.size w wr)/\Hid (wr.heap[w.heap.size]?=Y3 (Y6 (clo6 a1 l1 y1 a2 l2 y2 a3 l3 y3 a4 l4 y4 a5 l5 y5 c.now) 29 (0,0)))) (λi _=>l3 - (intOf i).toNat);case atStart=>exact⟨0,by omega,rfl,λ_ _ h=>absurd h af,ak _ _,Yg⟩
 case round=>
  obtain⟨k,hk,rfl,HQ,HB,Bk⟩:=hrel;have pk:=ck2 Bk;by_cases hlt:k<l3
  ·obtain⟨b,o,v,rfl,hb,hx,hat⟩:=cj (HR.v.below HB.out) hlt;have z1689z:=@aa _ @CV;exact eM
  ·have z1363z:=@aa _ @Ib;exact sn):p:=h
theorem rG(h:p:=by
 obtain⟨HR,hl1,hm1,hl3⟩:=zV;have hm3:l3<=9223372036854775807:=Yl hr.v.2.1 hr.v.2.2.1;clear hr;have HNR:=aa hn;have HL3:=aa hvs8;clear hn hvs8;exact z1603z):p:=h
theorem DY(h:p:=by
 have Bk:=Ck;clear Ck;have Br:=Cr;clear Cr;have HPa:Hid (PSa c p):=Zc HEm.out;have z1273z:=@aa _ @Jj;exact sL):p:=h
theorem DX(h:p:=by
 have z988z:=@aa _ @Rb;exact jc):p:=h
theorem rC(h:p:=by
 rintro _ ⟨q0,rfl⟩;obtain⟨HB2,Ck,Cr,CHTp⟩:=ago;clear hne0 HW HB k0 r0 r1 r2 r3 r4 r5 Gk Gr Bk Br HTp;have HB:=HB2;clear HB2;have HTp:=CHTp;clear CHTp;exact z1615z):p:=h
theorem Du(h:p:=by
 obtain⟨⟨b3,h3,hb3,hg3⟩,⟨p2,q2,p4,q4,h19,hR2,hR4⟩,-⟩:=hf;obtain⟨t0,t1,t2,t3,t4,t5⟩:=cs6 hg3;have f0:=al hg3 0;have f1:=al hg3 1;have f2:=al hg3 2;have f3:=al hg3 3;have f4:=al hg3 4;have f5:=al hg3 5;have BoX:=aa (amm (v0:=J U 0 0) (v1:=J p2 l2 q2) (v2:=J U 0 0) (v3:=J p4 l4 q4) (v4:=J U 0 0) (v5:=Y4 Y5 c.now) hg3);have HWX:Hid (Below W.heap.size W ((((((wz.setCell ⟨b3,0,U⟩ (J U 0 0)).setCell ⟨b3,1,U⟩ (J p2 l2 q2)).setCell ⟨b3,2,U⟩ (J U 0 0)).setCell ⟨b3,3,U⟩ (J p4 l4 q4)).setCell ⟨b3,4,U⟩ (J U 0 0)).setCell ⟨b3,5,U⟩ (Y4 Y5 c.now))):=ah hb3 (ah hb3 (ah hb3 (ah hb3 (ah hb3 (ah hb3 hW)))));have R2:Hid (aw ((((((wz.setCell ⟨b3,0,U⟩ (J U 0 0)).setCell ⟨b3,1,U⟩ (J p2 l2 q2)).setCell ⟨b3,2,U⟩ (J U 0 0)).setCell ⟨b3,3,U⟩ (J p4 l4 q4)).setCell ⟨b3,4,U⟩ (J U 0 0)).setCell ⟨b3,5,U⟩ (Y4 Y5 c.now)) p2 l2 q2 4 92 (c.ks.map kdF) (λk=>W.heap.size<=k/\¬k=b3)):=(hR2.dN hg3 ag ag).az (λk hk s=>fT s.2) (λk _ s=>s);have R4:Hid (aw ((((((wz.setCell ⟨b3,0,U⟩ (J U 0 0)).setCell ⟨b3,1,U⟩ (J p2 l2 q2)).setCell ⟨b3,2,U⟩ (J U 0 0)).setCell ⟨b3,3,U⟩ (J p4 l4 q4)).setCell ⟨b3,4,U⟩ (J U 0 0)).setCell ⟨b3,5,U⟩ (Y4 Y5 c.now)) p4 l4 q4 5 97 (c.xs.map xdF) (λk=>W.heap.size<=k/\¬k=b3)):=(hR4.dN hg3 ag ag).az (λk hk s=>fT s.2) (λk _ s=>s);clear hg3 hR2 hR4 hW;intro K hK;rw[if_pos (by rfl)];simp only[aJ,YQ,Act.put,Ys,YA,YB,h3,h19];simp only[List.getLast];go_simp;refine hK _ _ ?_;refine hK0 _ _ ?_;clear hK hK0 K K0;generalize ((((((wz.setCell ⟨b3,0,U⟩ (J U 0 0)).setCell ⟨b3,1,U⟩ (J p2 l2 q2)).setCell ⟨b3,2,U⟩ (J U 0 0)).setCell ⟨b3,3,U⟩ (J p4 l4 q4)).setCell ⟨b3,4,U⟩ (J U 0 0)).setCell ⟨b3,5,U⟩ (Y4 Y5 c.now))=X at BoX HWX R2 R4 ⊢;clear t0 t1 t2 t3 t4 t5 f0 f1 f2 f3 f4 f5;have HBX:=aa (HB.trans (HWX.mono HB.size));replace Bk:=aa ((HWX.block _ (ae Bk.out)).trans Bk.out);replace Br:=aa ((HWX.block _ (ae Br.out)).trans Br.out);have hb3X:=ae BoX.out;clear HB;go_wp2;go_loopw [4] (λvi wr=> ∃(k:Nat) (vss:List (List Value)) (H:Nat->Nat->Nat) (v:Value),k<=l1/\vi=Y4 Y5 k/\Hid (aG (Cps b3 X) X wr)/\Hid (wr.ownsRow X.heap.size 38 7 v k vss.flatten)/\Hid (aQ wr (λk=>X.heap.size<=k) 7 ((c.ns.take k).map ndF) vss H)/\Hid (wr.heap[b3]?=Y3 (Y6 #[v,J p2 l2 q2,J U 0 0,J p4 l4 q4,J U 0 0,Y4 Y5 c.now] 29 (0,0)))) (λvi _=>l1 - (intOf vi).toNat);case atStart=>exact⟨0,[],λ_ _=>0,J U 0 0,by omega,rfl,aG.refl _ _,World.ownsRow_nil _ _ _ _,aQ.nil _ _ _ _,BoX⟩
 case round=>
  obtain⟨k,vss,H,v,hk,rfl,HK,HO,HV,Bo⟩:=hrel;obtain⟨hXs,HBW,BkR,hKs⟩:=Nb;by_cases hlt:k<l1
  ·obtain⟨b,o,x,rfl,hb0,hx,hat⟩:=dn HR.n hlt;obtain⟨va,vl,vc,hvr,z0,z1,c0,c1,c2,c3,c4,c5,c6⟩:=aZ hat;have hz8:vl<=8001:=by have h1:=hvr.1;have h2:=HS.ns k x hx;omega
   have HX:=aa hx;have HT:=aa hvr;have HZz0:=aa z0;have HZz1:=aa z1;clear hat hx hvr z0 z1;have z601z:=@aa _ @Wt;exact yI
  ·have hkl:k=l1:=af
   have h5:=HV.out;rw[YH af] at h5;obtain⟨p1,q1,hv,hR⟩:=h5.own HO.out bJ ag (λg hg=>(HO.lt g hg).1);have hl5:(c.ns.map ndF).length=l1:=by simpa using hl1
   rw[hl5] at hv hR;subst hv;have R1:=aa (hR.dN Bo.out ag ag);have z899z:=@aa _ @Ss;exact pb):p:=h
theorem Dt(h:p:=by
 obtain⟨⟨g5,h5,hbW,hgb⟩,h14,-⟩:=hf;have r0:=ck0 hgb;have r1:=ck1 hgb;have r2:=ck2 hgb;have r3:=ck3 hgb;have r4:=ck4 hgb;have r5:=ck5 hgb;have r6:=ck6 hgb;have f0:=al hgb 0;have f1:=al hgb 1;have f2:=al hgb 2;have f3:=al hgb 3;have f4:=al hgb 4;have f5:=al hgb 5;have f6:=al hgb 6;have GN:=aa (alq (v0:=I n.n) (v1:=I n.z) (v2:=Y4 Y5 n.c) (v3:=Y4 Y5 n.s) (v4:=Y4 Y5 n.u) (v5:=Y7 n.d) (v6:=J na nl nc) hgb);have BN:=aa (uT (v0:=I n.n) (v1:=I n.z) (v2:=Y4 Y5 n.c) (v3:=Y4 Y5 n.s) (v4:=Y4 Y5 n.u) (v5:=Y7 n.d) (v6:=J na nl nc) hbW hW);clear hgb hW;intro K hK;rw[if_pos (by rfl)];simp only[aJ,YQ,Act.put,Ys,YA,YB,h5,h14];simp only[List.getLast];go_simp;refine hK _ _ ?_;refine hK0 _ _ ?_;clear hK hK0 K K0;generalize (((((((wz.setCell ⟨g5,0,U⟩ (I n.n)).setCell ⟨g5,1,U⟩ (I n.z)).setCell ⟨g5,2,U⟩ (Y4 Y5 n.c)).setCell ⟨g5,3,U⟩ (Y4 Y5 n.s)).setCell ⟨g5,4,U⟩ (Y4 Y5 n.u)).setCell ⟨g5,5,U⟩ (Y7 n.d)).setCell ⟨g5,6,U⟩ (J na nl nc))=Y at GN BN ⊢;clear r0 f0 r1 f1 r2 f2 r3 f3 r4 f4 r5 f5 r6 f6;have KV:=upK GK BN.out;have PVv:=upK GP BN.out;have BV:=aa (BW.trans (BN.mono BW.size));clear GK GP BW BN hbW;have pp:=ck3 PVv;go_wp2;clear pp;go_loopw [6] (λi wr=> ∃k:Nat,k<=pl/\i=Y4 Y5 k/\Hid (∀(j:Nat) t,j<k->p.zs[j]?=Y3 t->∃v,aY c t v/\InL n.zs v.n)/\Hid (Below Y.heap.size Y wr)) (λi _=>pl - (intOf i).toNat);case atStart=>exact⟨0,by omega,rfl,λ_ _ h=>absurd h af,Yh _ _⟩
 case round=>
  obtain⟨k,hk,rfl,HQ,HBY⟩:=hrel;have HB:=aa (BV.trans (HBY.mono BV.size));have Bk:=upK KV HBY.out;have Bp:=upK PVv HBY.out;have Bn:=upK GN HBY.out;have pp:=ck3 Bp;by_cases hlt:k<pl
  ·obtain⟨b,o,t,rfl,hb,hxt,hc,hsz⟩:=(HP.below HB.out).at hlt;have HXt:=aa hxt;clear hxt hsz;obtain⟨v,hbd⟩:=HBD.out k t HXt.out;have z889z:=@aa _ @Sz;exact xW
  ·exact Pc):p:=h
theorem du(h:p:=by
 refine Grow.done ?_;intro q wz hW hf;simp only[List.forall_mem_cons] at hf;exact z1656z):p:=h
theorem Dh(h:p:=by
 go_wp2;exact⟨⟨k+1,_,H',_,by omega,by go_num,HS1,HS2,HS3,HS4⟩,by simp[intOf];omega⟩):p:=h
theorem jo(h:p:=by
 simp only[List.getLast];go_simp;refine hK _ _ ?_;refine hK0 _ _ ?_;clear hK hK0 K K0;exact z1667z):p:=h
theorem CW(h:p:=by
 have hz8:vl<=8001:=by have h1:=hvr.1;have h2:=HS.vs k x hx;omega
 have HX:=aa hx;have HT:=aa hvr;have HZz0:=aa z0;have HZz2:=aa z2;have HZz3:=aa z3;have HZz5:=aa z5;clear hat hx hvr z0 z2 z3 z5;have z1482z:=@aa _ @FA;exact rV):p:=h
theorem CV(h:p:=by
 have HXv:=aa hx;have HTv:=aa hvr;clear hat hx z0 z2 z3 z5 hvr;have hvl:=HTv.1;have hvc:=Yl HTv.2.1 HTv.2.2.1;have HVL:=aa hvl;clear hvl;have KV:Hid ((wr.alloc (Y6 (vov v va vl vc) 95)).heap[w.heap.size]?=Y3 (Y6 (clo6 a1 l1 y1 a2 l2 y2 (Y3 ⟨b,o,U⟩) l3 y3 a4 l4 y4 a5 l5 y5 c.now) 29 (0,0))):=(Ym wr (Y6 (vov v va vl vc) 95) _ (ae Bk.out)).trans Bk.out;obtain⟨GV,BV⟩:=agi;have TT:=aa (HTv.below (ak wr (Y6 (vov v va vl vc) 95)));obtain⟨W,hW⟩:∃W,W=wr.alloc (Y6 (vov v va vl vc) 95):=⟨_,rfl⟩;obtain⟨gb,hgb⟩:∃gb,gb=wr.heap.size:=⟨_,rfl⟩;rw[<-hW] at KV GV BV TT;rw[<-hgb] at GV;go_wp2;rw[<-hW,<-hgb];clear hW hgb HB Bk HTv c0 c1 c2 c3 c4 c5 c6 c7 hb pk;go_loopw [5] (λi wr=> ∃kq:Nat,kq<=vl/\i=Y4 Y5 kq/\Hid (∀(j:Nat) t,j<kq->v.zs[j]?=Y3 t->∃(i:Nat) (n:Nd),c.ns[i]?=Y3 n/\n.n=t/\n.z=v.z)/\Hid (Below W.heap.size W wr)) (λi _=>vl - (intOf i).toNat);case atStart=>exact⟨0,by omega,rfl,λ_ _ h=>absurd h af,Yh _ _⟩
 case round=>
  obtain⟨kq,hkq,rfl,HQ2,HBW⟩:=hrel;obtain⟨HB,Bk⟩:=tI;have Bv:=upK GV HBW.out;have pv:=ck7 Bv;by_cases hlt2:kq<vl
  ·obtain⟨b2,o2,t,rfl,hb,hx,hc,hsz⟩:=(TT.below HBW.out).at hlt2;have HXt:=aa hx;clear hx hsz;by_cases hnn:∃(i:Nat) (n:Nd),c.ns[i]?=Y3 n/\n.n=t;rotate_left
   ·have HH:=aa hnn;clear hnn;have Gk:=Bk;have Gv:=Bv;obtain⟨HW,k0,k1,k2,k3,k4,k5⟩:=zU;have v7:=λq:Wd wr=>q.slot (o:=7) Gv.out rfl;obtain⟨tw,hne0⟩:=ow;have HC0:=aa (λq:Wd wr=>AF ⟨a1,l1,y1,a2,l2,y2,(Y3 ⟨b,o,U⟩),l3,y3,a4,l4,y4,a5,l5,y5⟩ c.now c.ns t q.w (HR.n.below (HW.trans (q.b.mono HW.size))) (λi n h1 h2=>HH.out ⟨i,n,h1,h2⟩));have z1202z:=@aa _ @Kg;exact bQ
   obtain⟨j1,n,h1,h2⟩:=hnn;have z892z:=@aa _ @Sx;exact pd
  ·exact agR):p:=h
theorem CN(h:p:=by
 have nw:=λq:Wd w1=>(q.cell hbn).trans n1;have hne0:=Wd.ne w1;exact z1264z):p:=h
theorem CM(h:p:=by
 have hne0:=Wd.ne w1;have z1z:=@aa _ @ai1;exact bC):p:=h
theorem CL(h:p:=by
 have hne0:=Wd.ne w1;have z1z:=@aa _ @ai0;exact bC):p:=h
theorem lU(h:p:=by
 obtain⟨Gk,Gr,HW⟩:=gN;have k0:=λq:Wd w1=>q.slot (o:=0) Gk.out rfl;obtain⟨r0,r1,r2,r3,r4,r5⟩:=sl6 Gr;exact z1703z):p:=h
theorem CA(h:p:=by
 have HI4:=aa hi;clear hi;cases r
 ·obtain⟨k0,k1,k2,k3,k4,k5⟩:=cs6 Bk;go_wp2;go_ret;exact ar.f (λh=>by have:=HI4.2 ((iI HOK.out HBd.out).1 h.2.2.2.1);cases this) HB.out
 have HPl:=aa (HI4.1 bX);obtain⟨k0,k1,k2,k3,k4,k5⟩:=cs6 Bk;go_wp2_with fail;refine (nH d c _ (HR.below HB.out) HOK.1.2.2 (by have:=HOK.2.2.1.1;omega)).mono ?_;have z1526z:=@aa _ @E0;exact rT):p:=h
theorem Cz(h:p:=by
 exact z1257z):p:=h
theorem Cw(h:p:=by
 have HI6:=aa hi;clear hi;cases r
 ·exact O5
 go_wp2;go_ret;exact ar.t ⟨HI1.1 bX,HOK.out,(kD HOK.out).2 HBd.out,(iI HOK.out HBd.out).2 HPl.out,HI5.1 bX,HI6.1 bX⟩ HB.out):p:=h
theorem Cu(h:p:=by
 have HI5:=aa hi;clear hi;cases r
 ·exact ajJ
 obtain⟨k0,k1,k2,k3,k4,k5⟩:=cs6 Bk;go_wp2_with fail;exact z1526z):p:=h
theorem fw(h:p:=by
 clear k0 k1 k2 k3 k4 k5;replace Bk:=upK Bk hb;replace HB:=upB HB hb;clear hb;exact z1719z):p:=h
theorem Ci(h:p:=by
 have z1z:=@aa _ @aiS;exact bC):p:=h
theorem Ch(h:p:=by
 have HC0:=aa (λq:Wd q1.w=>(bW xa xl xc v.zs n.n q.w (HTx.below (HW.trans (q.b.mono HW.size)))).mono (λ_ _ h=>ar.yes h HIn.out));have z53z:=@aa _ @ahO;exact aC):p:=h
theorem Cf(h:p:=by
 have HC0:=aa (λq:Wd q1.w=>(bW xa xl xc v.zs n.n q.w (HTx.below (HW.trans (q.b.mono HW.size)))).mono (λ_ _ h=>ar.no h HIn.out));have z53z:=@aa _ @ahN;exact aC):p:=h
theorem lS(h:p:=by
 obtain⟨Gk,Gv,HW,k2,v0,v2,v5,v6⟩:=agA;have vw:=λq:Wd q1.w=>(q.cell hbv).trans v7;have hne0:=Wd.ne q1.w;exact z1730z):p:=h
namespace Rc
def PSa(c:Cl) (p:Pd):Prop:=p.d=⟨#[]⟩\/∃(i:Nat) (n:Nd),c.ns[i]?=Y3 n/\n.n=p.d/\(p.z=⟨#[]⟩\/n.z=p.z)
def akf(c:Cl) (p:Pd) (t:ByteArray):Prop:=(∃(i:Nat) (x:Xd),c.xs[i]?=Y3 x/\x.n=t)/\(p.d=⟨#[]⟩\/∃(v:Vd) (i:Nat) (n:Nd),aY c t v/\c.ns[i]?=Y3 n/\n.n=p.d/\v.z=n.z)
def PSb(c:Cl) (p:Pd):Prop:=∀(j:Nat) t,p.zs[j]?=Y3 t->akf c p t
def PSc(c:Cl) (k:Nat) (p:Pd):Prop:=∀(j:Nat) q,j<k->c.ps[j]?=Y3 q->oT c q p
def PS(c:Cl) (k:Nat) (p:Pd):Prop:=PSa c p/\PSb c p/\PSc c k p
def qu(c:Cl):Prop:=(∀(k:Nat) p,c.ps[k]?=Y3 p->PS c k p)/\∀(j:Nat) n,c.ns[j]?=Y3 n->cpuOf n.n c.ps<=n.c
theorem qN(d:Ad) (c:Cl) (w:World) (hr:aB w d c.raw) (hn:aH Nd.n c.ns) (hx:aH Xd.n c.xs) (hv:aH Vd.n c.vs) (hne:∀(j:Nat) v,c.vs[j]?=Y3 v->¬v.n=⟨#[]⟩) (hps8:c.ps.length<=8) (hpc:∀(j:Nat) p,c.ps[j]?=Y3 p->0<=p.c/\p.c<=1000000):
  Calls Tryz.prog 52 #[Za #[J d.a1 d.l1 d.c1,J d.a2 d.l2 d.c2,J d.a3 d.l3 d.c3,J d.a4 d.l4 d.c4,J d.a5 d.l5 d.c5,Y4 Y5 c.now]] w (ar (qu c) w):=by
 have z519z:=@aa _ @XL;exact cK
def BF(c:Cl):Prop:=(∀(j:Nat) z,c.vs[j]?=Y3 z->AQ1 c z)/\∀(j:Nat) n,c.ns[j]?=Y3 n->onOf n.n c.vs<=n.s
theorem nH(d:Ad) (c:Cl) (w:World) (hr:aB w d c.raw) (hn:aH Nd.n c.ns) (hvs8:c.vs.length<=8):
  Calls Tryz.prog 53 #[Za #[J d.a1 d.l1 d.c1,J d.a2 d.l2 d.c2,J d.a3 d.l3 d.c3,J d.a4 d.l4 d.c4,J d.a5 d.l5 d.c5,Y4 Y5 c.now]] w (ar (BF c) w):=by
 have z519z:=@aa _ @XK;exact cK
def qx(W:World):Fact:=λv w=> ∃g,v=Zd (Y3 ⟨g,0,U⟩)/\W.heap.size<=g/\w.heap[g]?=Y3 (Y6 #[I ⟨#[]⟩,I ⟨#[]⟩,Y4 Y5 0,Y4 Y5 0,Y4 Y5 0,Y7 Y8,J U 0 0] 38 (0,0))
theorem qx.mono(W:World):Fact.bH (qx W):=by
 rintro v w w' ⟨g,h1,h2,h3⟩ hb;exact⟨g,h1,h2,(hb.block g (ae h3)).trans h3⟩
theorem alq {v6:Value} (h:w.heap[g]?=Y3 (Y6 #[I ⟨#[]⟩,I ⟨#[]⟩,Y4 Y5 0,Y4 Y5 0,Y4 Y5 0,Y7 Y8,J U 0 0] 38 (0,0))):
  (((((((w.setCell ⟨g,0,U⟩ (v0)).setCell ⟨g,1,U⟩ (v1)).setCell ⟨g,2,U⟩ (v2)).setCell ⟨g,3,U⟩ (v3)).setCell ⟨g,4,U⟩ (v4)).setCell ⟨g,5,U⟩ (v5)).setCell ⟨g,6,U⟩ (v6)).heap[g]?=Y3 (Y6 #[v0,v1,v2,v3,v4,v5,v6] 38 (0,0)):=by
 have:=au (i:=6) (au (i:=5) (au (i:=4) (au (i:=3) (au (i:=2) (au (i:=1) (au (i:=0) h v0) v1) v2) v3) v4) v5) v6;simpa using this
theorem uT {v6:Value} (hg:W.heap.size<=g) (h:Below W.heap.size W w):Below W.heap.size W (((((((w.setCell ⟨g,0,U⟩ (v0)).setCell ⟨g,1,U⟩ (v1)).setCell ⟨g,2,U⟩ (v2)).setCell ⟨g,3,U⟩ (v3)).setCell ⟨g,4,U⟩ (v4)).setCell ⟨g,5,U⟩ (v5)).setCell ⟨g,6,U⟩ (v6)):=
 ah hg (ah hg (ah hg (ah hg (ah hg (ah hg (ah hg h))))))
def qD(c:Cl) (p:Pd) (n:Nd):Prop:=∀(j:Nat) t,p.zs[j]?=Y3 t->∃v,aY c t v/\InL n.zs v.n
theorem lP(d:Ad) (c:Cl) (p:Pd) (pa:Option Addr) (pl pc:Nat) (j1:Nat) (n:Nd) (w:World) (hr:aB w d c.raw) (hn:aH Nd.n c.ns) (hx:aH Xd.n c.xs) (hv:aH Vd.n c.vs) (hne:∀(j:Nat) v,c.vs[j]?=Y3 v->¬v.n=⟨#[]⟩) (hp:ay w pa pl pc p.zs) (hj1:c.ns[j1]?=Y3 n) (hnn:n.n=p.d) (hbd:∀(j:Nat) t,p.zs[j]?=Y3 t->∃v,aY c t v):
  Calls Tryz.prog 71 #[Za #[J d.a1 d.l1 d.c1,J d.a2 d.l2 d.c2,J d.a3 d.l3 d.c3,J d.a4 d.l4 d.c4,J d.a5 d.l5 d.c5,Y4 Y5 c.now],Za #[I p.n,Y4 Y5 p.c,I p.z,J pa pl pc,I p.d,Y4 Y5 p.p]] w (ar (qD c p n) w):=by
 have z519z:=@aa _ @XJ;exact cK
theorem oX(d:Ad) (c:Cl) (w:World) (hr:aB w d c.raw) (hn:aH Nd.n c.ns) (hx:aH Xd.n c.xs) (hv:aH Vd.n c.vs) (hne:∀(j:Nat) v,c.vs[j]?=Y3 v->¬v.n=⟨#[]⟩) (hrun:∀(j:Nat) p,c.ps[j]?=Y3 p->p.p=2->(∃(i:Nat) (n:Nd),c.ns[i]?=Y3 n/\n.n=p.d)/\∀(j:Nat) t,p.zs[j]?=Y3 t->∃v,aY c t v):
  Calls Tryz.prog 54 #[Za #[J d.a1 d.l1 d.c1,J d.a2 d.l2 d.c2,J d.a3 d.l3 d.c3,J d.a4 d.l4 d.c4,J d.a5 d.l5 d.c5,Y4 Y5 c.now]] w (ar (nF c) w):=by
 have z519z:=@aa _ @XI;exact cK
theorem ij(h:aH nm xs):hit nm xs t=Y_↔∃(i:Nat) (x:α),xs[i]?=Y3 x/\nm x=t:=by
 constructor
 ·intro e;obtain⟨x,h1,h2⟩:=cv e;exact⟨_,x,h1,h2⟩
 ·rintro⟨i,x,h1,h2⟩;exact (a_ h h1 h2).2
theorem kD {c:Cl} (h:cM c):xi c↔xh c:=by
 have hk:=h.2.1.2.2;have hv:=h.2.2.1.2.2;have hx:=h.2.2.2.1.2.2;constructor
 ·rintro⟨h1,h2⟩;refine⟨λj v e=>?_,λj x e=>?_⟩
  ·obtain⟨a,b⟩:=h1 j v e;refine⟨(ij hk).1 a,b.imp id ?_⟩;rintro⟨i,j',x,v',e1,e2,e3,e4,e5,e6,_⟩;exact⟨i,x,e1,e2,e5⟩
  ·obtain⟨a,b⟩:=h2 j x e;refine⟨(ij hk).1 a,b.imp id ?_⟩;rintro⟨i,j',x',v',e1,e2,e3,e4,e5,e6,e7,e8,e9⟩;obtain⟨_,rfl⟩:=hx.inj e1 e e2;exact⟨j',v',e3,e4,e6,e7,e8,e9⟩
 ·rintro⟨h1,h2⟩;refine⟨λj v e=>?_,λj x e=>?_⟩
  ·obtain⟨a,b⟩:=h1 j v e;refine⟨(ij hk).2 a,b.imp id ?_⟩;rintro⟨i,x,e1,e2,e3⟩;have hne:¬x.v=⟨#[]⟩:=λq=>h.ne j v e (e3.symm.trans q);obtain⟨_,b2⟩:=h2 i x e1;rcases b2 with b2|⟨j',v',f1,f2,f3,f4,f5,f6⟩
   ·exact absurd b2 hne
   obtain⟨_,rfl⟩:=hv.inj f1 e (f2.trans e3);exact⟨i,j,x,v',e1,e2,e,rfl,e3,rfl,f4,f5,f6⟩
  ·obtain⟨a,b⟩:=h2 j x e;refine⟨(ij hk).2 a,b.imp id ?_⟩;rintro⟨j',v,e1,e2,e3,e4,e5,e6⟩;exact⟨j,j',x,v,e,rfl,e1,e2,rfl,e3,e4,e5,e6⟩
theorem iI {c:Cl} (h:cM c) (hb:xh c):qv c↔qu c:=by
 have hn:=h.1.2.2;have hv:=h.2.2.1.2.2;have hx:=h.2.2.2.1.2.2;have one:(∀(j:Nat) z,c.vs[j]?=Y3 z->PQ3 c z)↔∀(k:Nat) p,c.ps[k]?=Y3 p->PSc c k p:=by
  constructor
  ·intro h3 k p hp j q hj hq;by_cases e1:q.d=⟨#[]⟩
   ·exact Zc e1
   by_cases e2:p.d=⟨#[]⟩
   ·exact Zb (Zc e2)
   by_cases e3:q.d=p.d
   ·exact Zb (Zb (Zc e3))
   refine Zb (Zb (Zb λi t ht v hbd hs hin=>e3 ?_));obtain⟨i1,j1,x,f1,f2,f3,f4⟩:=hbd;have hxv:¬x.v=⟨#[]⟩:=λz=>h.ne j1 v f3 (f4.trans z);have hvm:v.m=t:=by
    rcases (hb.2 i1 x f1).2 with z|⟨j2,v2,g1,g2,g3,_⟩
    ·exact absurd z hxv
    ·obtain⟨_,rfl⟩:=hv.inj g1 f3 (g2.trans f4.symm);rw[g3,f2]
   have ht0:¬v.m=⟨#[]⟩:=λz=>by
    have h1:=(h.2.2.2.1.2.1 i1 x f1).1.1;rw[f2,<-hvm,z] at h1;exact absurd h1 ag
   have:=h3 j1 v f3 hs ht0;rw[hvm] at this;exact this j k q p hq hp e1 e2 ⟨i,ht⟩ hin
  ·intro h3 j v hj hs hm i1 i2 p q hp hq d1 d2 in1 in2;obtain⟨i4,x,f1,f2,f3⟩:=(hb.1 j v hj).2.resolve_left hm;have hbd:aY c v.m v:=⟨i4,j,x,f1,f2,hj,f3.symm⟩;rcases Nat.lt_trichotomy i1 i2 with k|k|k
   ·obtain⟨r,hr⟩:=in1;rcases h3 i2 q hq i1 p k hp with z|z|z|z
    ·exact absurd z d1
    ·exact absurd z d2
    ·exact z
    ·exact absurd in2 (z r v.m hr v hbd hs)
   ·subst k;rw[hp] at hq;rw[Yd hq]
   ·obtain⟨r,hr⟩:=in2;rcases h3 i1 p hp i2 q k hq with z|z|z|z
    ·exact absurd z d2
    ·exact absurd z d1
    ·exact z.symm
    ·exact absurd in1 (z r v.m hr v hbd hs)
 constructor
 ·rintro⟨h1,h2,h3⟩;refine⟨λk p hp=>⟨?_,?_,one.1 h3 k p hp⟩,h2⟩
  ·rcases (h1 k p hp).2 with z|⟨i,n,e1,e2,e3,e4⟩
   ·exact Zc z
   ·exact Zb ⟨i,n,e1,e2,e3.imp id Eq.symm⟩
  ·intro j t ht;refine⟨(ij hx).1 ((h1 k p hp).1 j t ht),?_⟩;rcases (h1 k p hp).2 with z|⟨i,n,e1,e2,e3,e4⟩
   ·exact Zc z
   ·obtain⟨v,f1,f2⟩:=e4 j t ht;exact Zb ⟨v,i,n,f1,e1,e2,f2⟩
 ·rintro⟨h1,h2⟩;refine⟨λk p hp=>⟨λj t ht=>(ij hx).2 ((h1 k p hp).2.1 j t ht).1,?_⟩,h2,one.2 (λk p hp=>(h1 k p hp).2.2)⟩;rcases (h1 k p hp).1 with z|⟨i,n,e1,e2,e3⟩
  ·exact Zc z
  by_cases z:p.d=⟨#[]⟩
  ·exact Zc z
  refine Zb ⟨i,n,e1,e2,e3.imp id Eq.symm,λj t ht=>?_⟩;obtain⟨v,i',n',f1,f2,f3,f4⟩:=((h1 k p hp).2.1 j t ht).2.resolve_left z;obtain⟨_,rfl⟩:=hn.inj f2 e1 (f3.trans e2.symm);exact⟨v,f1,f4⟩
theorem running {c:Cl} (h:cM c) (hp:qu c) (j:Nat) (p:Pd) (hj:c.ps[j]?=Y3 p) (h2:p.p=2):(∃(i:Nat) (n:Nd),c.ns[i]?=Y3 n/\n.n=p.d)/\∀(j:Nat) t,p.zs[j]?=Y3 t->∃v,aY c t v:=by
 have hd:¬p.d=⟨#[]⟩:=λe=>by
  have h1:=(h.2.2.2.2.2.1 j p hj).2.2.2.2;rcases h1 with ⟨h3,_⟩|⟨_,h3⟩
  ·rw[h2] at h3;cases h3
  ·have h4:=h3.1;rw[e] at h4;exact absurd h4 ag
 obtain⟨a,b,_⟩:=hp.1 j p hj;obtain⟨i,n,e1,e2,_⟩:=a.resolve_left hd;refine⟨⟨i,n,e1,e2⟩,λk t ht=>?_⟩;obtain⟨v,_,_,e3,_⟩:=(b k t ht).2.resolve_left hd;exact⟨v,e3⟩
theorem dz(d:Ad) (c:Cl) (w:World) (hr:aB w d c.raw):
  Calls Tryz.prog 23 #[Za #[J d.a1 d.l1 d.c1,J d.a2 d.l2 d.c2,J d.a3 d.l3 d.c3,J d.a4 d.l4 d.c4,J d.a5 d.l5 d.c5,Y4 Y5 c.now]] w (ar (av c) w):=by
 obtain⟨HR,HB⟩:=mX;clear hr;go_enter Tryz.func23,Tryz.ntmps23;go_wp2_with fail;refine (oJ c.now _).mono ?_;have z275z:=@aa _ @acR;exact zq
theorem bf {o:Nat} {v:Value} (h:w.cell? ⟨b,o,U⟩=Y3 v):b<w.heap.size:=Y0 w _ h
def bu:Nat->Int
 | 0=>2
 | 1=>1
 | 2=>6
 | 3=>7
 | 4=>9
 | 5=>11
 | 6=>7
 | 7=>11
 | 8=>10
 | 9=>3
 | _=>0
theorem Below.kR(h:Below B w w'):Below B w w'.drew:=⟨h.os,h.tape,h.output,h.size,h.block⟩
end Rc
namespace Gi
abbrev Rs:=Option Tmp->World->World->Prop
structure Rel (R:Rs) (sp:Tmp):Prop where
 refl:∀w,R U w w
 trans:∀{a b c},R U a b->R U b c->R U a c
 size:∀{a b},R U a b->a.heap.size<=b.heap.size
 drew:∀w,R U w w.drew
 sub:∀s {a b},R s a b->R U a b
 low:∀s {a b},¬s=U->¬s=Y3 sp->R s a b->Below a.heap.size a b
abbrev Fact:=Value->World->Nat->Nat->Prop
abbrev Ex:=Tmp->Option Tmp
def Fact.bH(R:Rs) (ex:Ex) (d:Option Tmp) (φ:Fact):Prop:=∀s,¬s=U->¬s=d->(∀t e,d=Y3 t->ex t=Y3 e->¬s=Y3 e)->∀v w w' l h,φ v w l h->R s w w'->φ v w' l h
theorem Fact.cV(R:Rs) (ex:Ex) (d:Option Tmp) (c:Value):Fact.bH R ex d (λv _ _ _=>v=c):=λ_ _ _ _ _ _ _ _ _ h _=>h
def aj(ex:Ex) (d:Option Tmp) (a0:Act) (known:List (Tmp×Fact)) (a:Act) (w:World) (lo hi:Tmp->Nat) (t:Tmp):Prop:=
 match known.lookup t with
 | some φ=>(ex t=U\/ex t=d)->φ (a.tmps.getD t undef) w (lo t) (hi t)
 | none=>a.tmps.getD t undef=a0.tmps.getD t undef
def qC(known:List (Tmp×Fact)) (lo hi:Tmp->Nat) (ts:List Tmp):Prop:=∀t∈ts,∀t'∈ts,(known.lookup t).isSome=Y_->(known.lookup t').isSome=Y_->¬t=t'->hi t<=lo t'\/hi t'<=lo t
def Obl(R:Rs) (sp:Tmp) (ex:Ex) (P:Program) (ops:Array Oper) (Q:Exit->Act->World->Prop) (W:World) (a0:Act) (known:List (Tmp×Fact)) (o:Oper) (φ:Fact):Prop:=
 ∀(a:Act) (w:World) (K:Act->World->Prop) (lo hi:Tmp->Nat),a.tmps.size=a0.tmps.size->R U W w->(o.dst=Y3 sp->Below W.heap.size W w)->(∀t∈o.looksAt ops,aj ex o.dst a0 known a w lo hi t)->qC known lo hi (o.looksAt ops)->
  (∀v w',R o.dst w w'->φ v w' w.heap.size w'.heap.size->K (a.put o.dst v) w')->if YM o (yielded ops a.tmps)=Y_ then o.wp P a w K Q else K (a.put o.dst undef) w
theorem Obl.plain {R:Rs} {ex:Ex} {known:List (Tmp×Fact)} {φ:Fact} (hg:o.guard=U)
  (h:∀(a:Act) (w:World) (K:Act->World->Prop) (lo hi:Tmp->Nat),a.tmps.size=a0.tmps.size->R U W w->(o.dst=Y3 sp->Below W.heap.size W w)->(∀t∈jP o,aj ex o.dst a0 known a w lo hi t)->qC known lo hi (jP o)->(∀v w',R o.dst w w'->φ v w' w.heap.size w'.heap.size->K (a.put o.dst v) w')->o.wp P a w K Q):Obl R sp ex P ops Q W a0 known o φ:=by
 intro a w K lo hi h1 h2 h6 h3 h5 h4;have hw:YM o (yielded ops a.tmps)=Y_:=by simp[YM,hg]
 rw[if_pos hw];have hs:∀t∈jP o,t∈o.looksAt ops:=λt ht=>by unfold Oper.looksAt;exact List.mem_append_left _ ht
 exact h a w K lo hi h1 h2 h6 (λt ht=>h3 t (hs t ht)) (λt ht t' ht'=>h5 t (hs t ht) t' (hs t' ht')) h4
def aJ(a0:Act) (known:List (Tmp×Fact)) (x:Tmp->Value):Act:=known.foldr (λp b=>b.put (Y3 p.1) (x p.1)) a0
def alZ(known:List (Tmp×Fact)) (lo hi:Tmp->Nat):Prop:=∀p∈known,∀q∈known,¬p.1=q.1->hi p.1<=lo q.1\/hi q.1<=lo p.1
def Fin(R:Rs) (ex:Ex) (P:Program) (ops:Array Oper) (Q:Exit->Act->World->Prop) (W:World) (a0:Act) (back:Option Oper) (known:List (Tmp×Fact)):Prop:=
 ∀(x:Tmp->Value) (w:World) (lo hi:Tmp->Nat),R U W w->(∀p∈known,ex p.1=U->p.2 (x p.1) w (lo p.1) (hi p.1))->alZ known lo hi->fG P ops Q back (aJ a0 known x) w
def kn(d:Option Tmp) (φ:Fact) (known:List (Tmp×Fact)):List (Tmp×Fact):=match d with|Y3 t=>(t,φ) ::known|U=>known
def Grow(R:Rs) (sp:Tmp) (ex:Ex) (P:Program) (ops:Array Oper) (Q:Exit->Act->World->Prop) (W:World) (a0:Act) (back:Option Oper):List Oper->List (Tmp×Fact)->Prop
 | [],known=>Fin R ex P ops Q W a0 back known
 | o ::rest,known=> ∃φ:Fact,φ.bH R ex o.dst/\Obl R sp ex P ops Q W a0 known o φ/\Grow R sp ex P ops Q W a0 back rest (kn o.dst φ known)
theorem Grow.step {R:Rs} {ex:Ex} {known:List (Tmp×Fact)} {t:Tmp} (φ:Fact) (hd:o.dst=Y3 t) (hφ:φ.bH R ex (Y3 t)) (ho:Obl R sp ex P ops Q W a0 known o φ)
  (h:Grow R sp ex P ops Q W a0 back rest ((t,φ) ::known)):Grow R sp ex P ops Q W a0 back (o ::rest) known:=⟨φ,by rw[hd];exact hφ,ho,by rw[hd];exact h⟩
theorem Grow.stepC {R:Rs} {ex:Ex} {known:List (Tmp×Fact)} {t:Tmp} (c:Value) (hd:o.dst=Y3 t) (ho:Obl R sp ex P ops Q W a0 known o (λv _ _ _=>v=c))
  (h:Grow R sp ex P ops Q W a0 back rest ((t,λv _ _ _=>v=c) ::known)):Grow R sp ex P ops Q W a0 back (o ::rest) known:=Grow.step _ hd (Fact.cV R ex _ c) ho h
theorem Grow.done {R:Rs} {ex:Ex} {known:List (Tmp×Fact)} (h:Fin R ex P ops Q W a0 back known):Grow R sp ex P ops Q W a0 back [] known:=h
section
variable {R:Rs} {sp:Tmp} {ex:Ex} {P:Program} {ops:Array Oper} {Q:Exit->Act->World->Prop} {W:World} {a0:Act} {back:Option Oper}
def knAll:List (Tmp×Fact)->List Oper->List Fact->List (Tmp×Fact)
 | known,o ::l,φ ::φs=>knAll (kn o.dst φ known) l φs
 | known,_,_=>known
theorem cO(known:List (Tmp×Fact)) (φs:List Fact):knAll known [] φs=known:=by cases φs <;> rfl
theorem Grow.spec:∀(l:List Oper) (known:List (Tmp×Fact)),Grow R sp ex P ops Q W a0 back l known->∃φs:List Fact,φs.length=l.length/\
  (∀(i:Nat) (o:Oper) (φ:Fact),l[i]?=Y3 o->φs[i]?=Y3 φ->φ.bH R ex o.dst/\Obl R sp ex P ops Q W a0 (knAll known (l.take i) (φs.take i)) o φ)/\Fin R ex P ops Q W a0 back (knAll known l φs)
 | [],known,h=>⟨[],rfl,λi o φ h=>by simp at h,by rw[cO];exact h⟩
 | o ::l,known,h=>by
  exact Nx
theorem kB(d:Option Tmp) (φ:Fact) (known:List (Tmp×Fact)) (t:Tmp):(kn d φ known).lookup t=if d=Y3 t then Y3 φ else known.lookup t:=by
 exact Pz
theorem de:∀(l:List Oper) (φs:List Fact) (known:List (Tmp×Fact)) {t:Tmp} {φ:Fact},(knAll known l φs).lookup t=Y3 φ->
  (∃(i:Nat) (o:Oper),l[i]?=Y3 o/\o.dst=Y3 t/\φs[i]?=Y3 φ)\/known.lookup t=Y3 φ
 | [],φs,known,t,φ,h=>by rw[cO] at h;exact Zb h
 | o ::l,[],known,t,φ,h=>Zb h
 | o ::l,ψ ::φs,known,t,φ,h=>by
  exact agG
theorem df:∀(l:List Oper) (φs:List Fact) (known:List (Tmp×Fact)) {t:Tmp},(knAll known l φs).lookup t=U->
  known.lookup t=U/\∀(i:Nat) (o:Oper) (φ:Fact),l[i]?=Y3 o->φs[i]?=Y3 φ->o.dst≠Y3 t
 | [],φs,known,t,h=>by rw[cO] at h;exact⟨h,λi o φ h=>by simp at h⟩
 | o ::l,[],known,t,h=>⟨h,λi o φ _ h=>by simp at h⟩
 | o ::l,ψ ::φs,known,t,h=>by
  exact agS
theorem dU:∀(l:List Oper) (φs:List Fact) (known:List (Tmp×Fact)) {p:Tmp×Fact},p∈knAll known l φs->
  (∃(i:Nat) (o:Oper),l[i]?=Y3 o/\o.dst=Y3 p.1/\φs[i]?=Y3 p.2)\/p∈known
 | [],φs,known,p,h=>by rw[cO] at h;exact Zb h
 | o ::l,[],known,p,h=>Zb h
 | o ::l,ψ ::φs,known,p,h=>by
  exact agO
theorem dJ(a0:Act) (x:Tmp->Value):∀known,(aJ a0 known x).tmps.size=a0.tmps.size
 | []=>rfl
 | p ::l=>by unfold aJ;rw[List.foldr_cons,size_put];exact dJ a0 x l
theorem dK(a0:Act) (x:Tmp->Value):∀known,(aJ a0 known x).defers=a0.defers
 | []=>rfl
 | p ::l=>by unfold aJ;rw[List.foldr_cons,fZ];exact dK a0 x l
theorem jM(a0 a:Act) (known:List (Tmp×Fact)) (hk:∀p∈known,p.1<a0.tmps.size) (t:Tmp) (h:(∀p∈known,p.1≠t)->a.tmps.getD t undef=a0.tmps.getD t undef):
  (aJ a0 known (λt=>a.tmps.getD t undef)).tmps.getD t undef=a.tmps.getD t undef:=by
 exact ag0
structure At (R:Rs) (sp:Tmp) (ex:Ex) (front:List Oper) (φs:List Fact) (W:World) (a0:Act) (listed:Array Bool) (a:Act) (w:World) (lo hi:Tmp->Nat):Prop where
 size:a.tmps.size=a0.tmps.size
 defers:a.defers=a0.defers
 below:R U W w
 pre:(∀(i:Nat) (p:Oper),front[i]?=Y3 p->p.dst=Y3 sp->listed.getD i Y8=Y8)->Below W.heap.size W w
 known:∀(i:Nat) (o:Oper) (φ:Fact),front[i]?=Y3 o->φs[i]?=Y3 φ->∀t,o.dst=Y3 t->listed.getD i Y8=Y_->(∀e,ex t=Y3 e->∀(i':Nat) (p':Oper),front[i']?=Y3 p'->p'.dst=Y3 e->listed.getD i' Y8=Y8)->φ (a.tmps.getD t undef) w (lo t) (hi t)
 top:∀(i:Nat) (o:Oper),front[i]?=Y3 o->∀t,o.dst=Y3 t->listed.getD i Y8=Y_->hi t<=w.heap.size
 apart:∀(i:Nat) (o:Oper) (i':Nat) (o':Oper),front[i]?=Y3 o->front[i']?=Y3 o'->∀t t',o.dst=Y3 t->o'.dst=Y3 t'->listed.getD i Y8=Y_->listed.getD i' Y8=Y_->¬t=t'->hi t<=lo t'\/hi t'<=lo t
 other:∀t,(∀(i:Nat) (o:Oper),front[i]?=Y3 o->o.dst=Y3 t->listed.getD i Y8=Y8)->a.tmps.getD t undef=a0.tmps.getD t undef
theorem At.step {φs:List Fact} {a:Act} {lo hi:Tmp->Nat} {φ:Fact} {v:Value} (hR:Rel R sp) (hds:¬o.dst=U) (h:At R sp ex front φs W a0 listed a w lo hi)
  (hn:(front.filterMap (·.dst)).Nodup) (hin:∀o∈front,∀t,o.dst=Y3 t->t<a0.tmps.size) (hmono:∀(i:Nat) (o:Oper) (φ:Fact),front[i]?=Y3 o->φs[i]?=Y3 φ->φ.bH R ex o.dst)
  (ho:front[j]?=Y3 o) (hφ:φs[j]?=Y3 φ) (hj:j<listed.size) (hb:R o.dst w w') (hv:φ v w' w.heap.size w'.heap.size):∃lo hi,At R sp ex front φs W a0 (listed.setIfInBounds j Y_) (a.put o.dst v) w' lo hi:=by
 have old:∀(i:Nat) (p:Oper) t,front[i]?=Y3 p->p.dst=Y3 t->¬j=i->(listed.setIfInBounds j Y_).getD i Y8=Y_->¬o.dst=Y3 t/\listed.getD i Y8=Y_:=λi p t hp ht e hl=>
  ⟨λhd=>e (fF front hn ho hp hd ht),by simpa[Yp,Array.getElem?_setIfInBounds,e] using hl⟩
 refine⟨λt=>if o.dst=Y3 t then w.heap.size else lo t,λt=>if o.dst=Y3 t then w'.heap.size else hi t,(size_put _ _ _).trans h.size,(fZ _ _ _).trans h.defers,hR.trans h.below (hR.sub _ hb),λhx=>?_,?_,?_,?_,?_⟩
 ·have hns:¬o.dst=Y3 sp:=λe=>by
   have:=hx j o ho e;simp[Yp,hj] at this
  have h1:=h.pre (λi p hp hd=>by
   have h2:=hx i p hp hd
   have e:¬j=i:=λe=>by subst e;exact hns (by rw[Yd (ho.symm.trans hp)];exact hd)
   simpa[Yp,Array.getElem?_setIfInBounds,e] using h2)
  exact h1.trans ((hR.low _ hds hns hb).mono h1.size)
 ·intro i p ψ hp hψ t ht hl hx;by_cases e:j=i
  ·subst e;obtain rfl:o=p:=Yd (ho.symm.trans hp);obtain rfl:φ=ψ:=Yd (hφ.symm.trans hψ);simp only[if_pos ht];exact OJ
  ·obtain⟨hne,hl'⟩:=old i p t hp ht e hl;simp only[if_neg hne];have hxo:∀e,ex t=Y3 e->∀(i':Nat) (p':Oper),front[i']?=Y3 p'->p'.dst=Y3 e->¬j=i'/\listed.getD i' Y8=Y8:=λe9 he i' p' hp' hd'=>by
    have h9:=hx e9 he i' p' hp' hd';by_cases ej:j=i'
    ·subst ej;simp[Yp,hj] at h9
    ·exact⟨ej,by simpa[Yp,Array.getElem?_setIfInBounds,ej] using h9⟩
   have h1:=hmono i p ψ hp hψ o.dst hds (λe9=>hne (e9.trans ht)) (λt9 e9 h8 h9 hd=>by
    obtain rfl:t=t9:=Yd (ht.symm.trans h8)
    exact (hxo e9 h9 j o ho hd).1 rfl) _ _ _ _ _ (h.known i p ψ hp hψ t ht hl' (λe9 he i' p' hp' hd'=>(hxo e9 he i' p' hp' hd').2)) hb
   exact N_
 ·intro i p hp t ht hl;by_cases e:j=i
  ·subst e;obtain rfl:o=p:=Yd (ho.symm.trans hp);simp only[if_pos ht];exact Ye _
  ·obtain⟨hne,hl'⟩:=old i p t hp ht e hl;simp only[if_neg hne];exact Yl (h.top i p hp t ht hl') (hR.size (hR.sub _ hb))
 ·intro i p i' p' hp hp' t t' ht ht' hl hl' hne;by_cases e:j=i
  ·subst e;obtain rfl:o=p:=Yd (ho.symm.trans hp);by_cases e':j=i'
   ·subst e';obtain rfl:o=p':=Yd (ho.symm.trans hp');exact absurd (Yd (ht.symm.trans ht')) hne
   ·obtain⟨hne',hl''⟩:=old i' p' t' hp' ht' e' hl';simp only[if_pos ht,if_neg hne'];exact Zb (h.top i' p' hp' t' ht' hl'')
  ·obtain⟨hne1,hl1⟩:=old i p t hp ht e hl;by_cases e':j=i'
   ·subst e';obtain rfl:o=p':=Yd (ho.symm.trans hp');simp only[if_pos ht',if_neg hne1];exact Zc (h.top i p hp t ht hl1)
   ·obtain⟨hne',hl''⟩:=old i' p' t' hp' ht' e' hl';simp only[if_neg hne1,if_neg hne'];exact h.apart i p i' p' hp hp' t t' ht ht' hl1 hl'' hne
 ·exact agY
theorem Fin.last {φs:List Fact} {a:Act} {lo hi:Tmp->Nat} (hf:Fin R ex P ops Q W a0 back (knAll [] front φs)) (hlen:φs.length=front.length) (hin:∀o∈front,∀t,o.dst=Y3 t->t<a0.tmps.size)
  (h:At R sp ex front φs W a0 listed a w lo hi) (hall:∀i,i<front.length->listed.getD i Y8=Y_):fG P ops Q back a w:=by
 have h1:=hf (λt=>a.tmps.getD t undef) w lo hi h.below (λp hp hpe=>by
  rcases dU front φs [] hp with ⟨i,o,h1,h2,h3⟩|h1
  ·exact h.known i o p.2 h1 h3 p.1 h2 (hall i (Yc.1 h1).1) (λe he=>by rw[hpe] at he;cases he)
  ·simp at h1) (λp hp q hq hne=>by
  rcases dU front φs [] hp with ⟨i,o,h1,h2,h3⟩|h1
  ·rcases dU front φs [] hq with ⟨i',o',g1,g2,g3⟩|g1
   ·exact h.apart i o i' o' h1 g1 p.1 q.1 h2 g2 (hall i (Yc.1 h1).1) (hall i' (Yc.1 g1).1) hne
   ·simp at g1
  ·simp at h1)
 exact ag_
theorem dy {φs:List Fact} (hR:Rel R sp) (hds:∀o∈front,¬o.dst=U) (hops:ops=(front++back.toList).toArray) (hB:growB a0.tmps.size front back=Y_) (hlen:φs.length=front.length)
  (hs:∀(i:Nat) (o:Oper) (φ:Fact),front[i]?=Y3 o->φs[i]?=Y3 φ->φ.bH R ex o.dst/\Obl R sp ex P ops Q W a0 (knAll [] (front.take i) (φs.take i)) o φ) (hf:Fin R ex P ops Q W a0 back (knAll [] front φs)):
  ∀(fuel:Nat) (listed:Array Bool) (a:Act) (w:World),listed.size=ops.size->listed.toList.count Y8<=fuel->(∀o,back=Y3 o->listed.getD front.length Y8=Y8)->(∃lo hi,At R sp ex front φs W a0 listed a w lo hi)->wpAny P .any ops Q fuel listed a w:=by
 have z378z:=@aa _ @abz;exact pF
end
theorem c_ {R:Rs} {ex:Ex} (hR:Rel R sp) {P:Program} {id:Nat} {Q:Exit->Act->World->Prop} {a0:Act} {W:World} {l:List Oper} {front:List Oper} {back:Option Oper} (hm:P.follows .mixedOrders=Y_) (hl:l=front++back.toList) (hds:front.all (λo=>o.dst.isSome)=Y_) (hB:growB a0.tmps.size front back=Y_)
  (h:Grow R sp ex P l.toArray Q W a0 back front []):(Code.region id l.toArray Y_).wp P Q a0 W:=by
 obtain⟨φs,hlen,hs,hf⟩:=Grow.spec _ _ h;refine wp_region_any hm (dy hR (λo ho e=>by have:=List.all_eq_true.1 hds o ho;rw[e] at this;cases this) (by rw[hl]) hB hlen hs hf _ _ _ _ aF ?_ (λo ho=>?_) ⟨λ_=>0,λ_=>0,rfl,rfl,hR.drew _,λ_=>(Yh _ _).drew,λi o φ h1 h2 t ht hx _=>?_,λi o h1 t ht hx=>?_,λi o i' o' h1 h2 t t' ht ht' hx=>?_,λt _=>rfl⟩)
 ·exact pV
 ·exact bK _ _
 ·rw[bK] at hx;cases hx
 ·rw[bK] at hx;cases hx
 ·rw[bK] at hx;cases hx
theorem bG {R:Rs} {ex:Ex} (hR:Rel R sp) {P:Program} {id:Nat} {Q:Exit->Act->World->Prop} {a0:Act} {W:World} {l:List Oper} {front:List Oper} {last:Oper} (hm:P.follows .mixedOrders=Y_) (hf:l.dropLast=front) (hb:l.getLast?=Y3 last) (hds:front.all (λo=>o.dst.isSome)=Y_) (hB:growB a0.tmps.size front (Y3 last)=Y_)
  (h:Grow R sp ex P l.toArray Q W a0 (Y3 last) front []):(Code.region id l.toArray Y_).wp P Q a0 W:=by
 refine c_ hR hm ?_ hds hB h;exact vH
end Gi
namespace Rc
structure Sm (c:Cl):Prop where
 n:c.ns.length<=8
 ns:∀(j:Nat) x,c.ns[j]?=Y3 x->x.zs.length<=8001
 k:c.ks.length<=8
 v:c.vs.length<=8
 vs:∀(j:Nat) x,c.vs[j]?=Y3 x->x.zs.length<=8001
 x:c.xs.length<=8
 p:c.ps.length<=8
 ps:∀(j:Nat) x,c.ps[j]?=Y3 x->x.zs.length<=8001
theorem av.sm {c:Cl} (h:av c):Sm c:=by
 obtain⟨_,⟨⟨h1,h2,_⟩,⟨h3,_⟩,⟨h4,h5,_⟩,⟨h6,_⟩,⟨h7,h8,_⟩⟩,_⟩:=h;refine⟨by omega,λj x hj=>?_,by omega,by omega,λj x hj=>?_,by omega,by omega,λj x hj=>?_⟩
 ·have:=(h2 j x hj).2.2.2.2.2.1;omega
 ·have:=(ic (h5 j x hj).2.2.2.2.2.2).1;omega
 ·have:=(h8 j x hj).2.2.2.1.1;omega
def et(r:List Fv):List Value:=r.map λf=>f.val.getD undef
def gV(r:List Fv):Prop:=∀(i:Nat) f,r[i]?=Y3 f->∃v,f.val=Y3 v
theorem Fv.Is.val {f:Fv} {v:Value} (h:f.Is w v) (hu:f.val=Y3 u):v=u/\f.Fr w 0 (λ_=>False) v:=by
 cases f with
 | s t=>cases hu;exact⟨h.1,h⟩
 | i n=>cases hu;exact⟨h,h⟩
 | b x=>cases hu;exact⟨h,h⟩
 | l zs=>cases hu
theorem Fv.Fr.any {f:Fv} {v:Value} {h h':Nat} {S':Nat->Prop} (k:f.Fr w h S v) (hu:f.val=Y3 u):f.Fr w' h' S' v:=by
 cases f with
 | l zs=>cases hu
 | _=>exact k
theorem Ql {r:List Fv} (hf:gV r) {i:Nat} {f:Fv} (hi:r[i]?=Y3 f):∃u,f.val=Y3 u/\(et r)[i]?=Y3 u:=by
 obtain⟨u,hu⟩:=hf i f hi;exact⟨u,hu,by rw[et,Yt,hi];simp[hu]⟩
theorem Bq {r:List Fv} (hf:gV r) {i:Nat} {u:Value} (hi:(et r)[i]?=Y3 u):∃f,r[i]?=Y3 f/\f.val=Y3 u:=by
 rw[et,Yt] at hi;obtain⟨f,h1,h2⟩:=Yz.1 hi;obtain⟨v,hv⟩:=hf i f h1;rw[hv] at h2;exact⟨f,h1,by rw[hv];simpa using h2⟩
section
variable {w:World} {a:Option Addr} {len cap m:Nat} {rs:List (List Fv)}
theorem jT(hm:∀(j:Nat) r,rs[j]?=Y3 r->r.length=m):∀(j:Nat) vs,(rs.map et)[j]?=Y3 vs->vs.length=m:=by
 intro j vs hj;rw[Yt] at hj;obtain⟨r,h1,rfl⟩:=Yz.1 hj;rw[et,Yr];exact hm j r h1
theorem oO {o:Nat} (h:aT w (Y3 ⟨b,o,U⟩) len cap m rs) (hm:∀(j:Nat) r,rs[j]?=Y3 r->r.length=m/\gV r):∀(k:Nat) u,(rs.map et).flatten[k]?=Y3 u->w.cell? ((⟨b,o,U⟩:Addr).add k)=Y3 u:=by
 intro k u hk;obtain⟨j,i,vs,h1,h2,rfl⟩:=jS (jT λj r hj=>(hm j r hj).1) hk;rw[Yt] at h1;obtain⟨r,h3,rfl⟩:=Yz.1 h1;obtain⟨f,h4,h5⟩:=Bq (hm j r h3).2 h2;rcases h.2.2.2 with rfl|⟨b',o',e,_,hc⟩
 ·simp at h3
 ·cases e;obtain⟨v,h6,h7⟩:=hc j r h3 i f h4;rw[Yo,<-Nat.add_assoc,h6,(h7.val h5).1]
theorem ik(h:aT w a len cap m rs) (hm:∀(j:Nat) r,rs[j]?=Y3 r->r.length=m/\gV r) (w':World) (S:Nat->Prop):aQ w' S m rs (rs.map et) (λ_ _=>0):=by
 refine⟨by simp,jT λj r hj=>(hm j r hj).1,λj r hj=>(hm j r hj).1,λj r vs hj hv i f hi=>?_,λj r i zs j' r' i' zs' hj hi=>?_⟩
 ·rw[Yt,hj] at hv;cases hv;obtain⟨u,h1,h2⟩:=Ql (hm j r hj).2 hi;rcases h.2.2.2 with rfl|⟨b',o',e,_,hc⟩
  ·simp at hj
  ·obtain⟨v,h6,h7⟩:=hc j r hj i f hi;obtain⟨rfl,h8⟩:=h7.val h1;exact⟨v,h2,h8.any h1⟩
 ·obtain⟨v,hv⟩:=(hm j r hj).2 i _ hi;cases hv
end
theorem Ah(x:Kd):(kdF x).length=4/\gV (kdF x):=⟨rfl,λi f h=>by
 rcases i with _|_|_|_|i <;> first|(cases h;exact⟨_,rfl⟩)|(simp[kdF] at h)⟩
theorem xj(x:Xd):(xdF x).length=5/\gV (xdF x):=⟨rfl,λi f h=>by
 rcases i with _|_|_|_|_|i <;> first|(cases h;exact⟨_,rfl⟩)|(simp[xdF] at h)⟩
theorem jO {F:α->List Fv} (hF:∀x,(F x).length=m/\gV (F x)) (xs:List α):∀(j:Nat) r,(xs.map F)[j]?=Y3 r->r.length=m/\gV r:=by
 intro j r hj;rw[Yt] at hj;obtain⟨x,_,rfl⟩:=Yz.1 hj;exact hF x
structure Co where
 c:Cl
 n:ByteArray
 p:Int
def cl0:Cl:=⟨[],[],[],[],[],0⟩
def co0(p:Int):Co:=⟨cl0,⟨#[]⟩,p⟩
def ad0:Ad:=⟨U,0,0,U,0,0,U,0,0,U,0,0,U,0,0⟩
theorem als(w:World) (S:Nat->Prop):cX w ad0 cl0.raw S:=⟨λ_=>1,aw.nil _ _ _ _ _ (by decide),aw.nil _ _ _ _ _ (by decide),aw.nil _ _ _ _ _ (by decide),aw.nil _ _ _ _ _ (by decide),aw.nil _ _ _ _ _ (by decide)⟩
def wo(nm:α->ByteArray) (t:ByteArray) (xs:List α):List α:=xs.filter λx=> !((nm x).toList==t.toList)
theorem uJ {k:Nat} {x:α} (h:xs[k]?=Y3 x) (hn:((nm x).toList==t.toList)=Y8):wo nm t (xs.take (k+1))=wo nm t (xs.take k)++[x]:=by
 unfold wo;rw[YL,h,YU];simp[hn]
theorem af7 {k:Nat} {x:α} (h:xs[k]?=Y3 x) (hn:((nm x).toList==t.toList)=Y_):wo nm t (xs.take (k+1))=wo nm t (xs.take k):=by
 unfold wo;rw[YL,h,YU];simp[hn]
def afS(E:Nat->Addr) (Why:Nat->Prop) (ok:Prop) (w:World) (e:Ending) (w':World):Prop:=Below w.heap.size w w'/\((∃i,i<9/\Why i/\e=Y9 (.iface 193 (Zd (Y3 (E i)))))\/(ok/\e=Y9 .nilIface))
theorem aV(p:Int):eV 1 (co0 p).c.raw<=1152921504606846976:=by simp[co0,cl0,Cl.raw,eV,fl]
theorem uK {x:α} (h:(wo nm t xs)[j]?=Y3 x):∃i:Nat,xs[i]?=Y3 x:=YF (List.mem_filter.1 (Yu h)).1
theorem ke(w:World) (t t' ty e e':TypeId) (i:TypeInfo) (ht:Tryz.prog.underlying t=Y3 (J e)) (ht':Tryz.prog.underlying t'=Y3 (J e')) (hi:Tryz.prog.info? e=Y3 i) (a:Option Addr) (l c:Nat) (b:Value):(Builtin.append_ #[t,t'] ty #[J a l c,b]).run Tryz.prog w=(Builtin.append_ #[t,t] ty #[J a l c,b]).run Tryz.prog w:=by
 simp[Builtin.append_,run_underlying ht,run_underlying ht',sizeOf,typeInfo,hi]
theorem dE {a:Act} (hgd:o.guard=U) (s x:Operand) (t t':TypeId)
  (ho:o.op=.call { callee:=.builtin .append,args:=#[s,x],argTypes:=#[t,t'] })
  (base:Nat) (e e':TypeId) (i:TypeInfo) (z:Value) (size bytes:Nat) (ht:Tryz.prog.underlying t=Y3 (J e)) (ht':Tryz.prog.underlying t'=Y3 (J e')) (hi:Tryz.prog.info? e=Y3 i) (hz:i.zero=Y3 z)
  (hsize:i.size=size) (hby:i.bytes=bytes) (hzs:z.cells.size=size) (hsz:0<size)
  (v:Value) (n:Nat) (xs:List Value) (hs:a.eval s=v) (hown:w.ownsRow base e size v n xs)
  (ad:Addr) (m c:Nat) (news:List Value) (hx:a.eval x=J (Y3 ad) m c) (hl:news.length=m*size) (hnews:∀j u,news[j]?=Y3 u->w.cell? (ad.add j)=Y3 u) (h1:∀u∈news,u.oneCell'=Y_)
  (h63:n+m<=maxLen) (hbytes:(n+m)*bytes<=140737488355328) (hbase:base<=w.heap.size)
  (h:∀v' w',w'.ownsRow base e size v' (n+m) (xs++news)->w.grownBy w' v.ownBlock->wpList Tryz.prog ops Q rest (a.put o.dst v') w'):wpList Tryz.prog ops Q (o ::rest) a w:=by
 have z348z:=@aa _ @abW;exact zl
theorem gn(w:World) {ops:Array Oper} {rest:List Oper} {o:Oper} {a:Act} {Q:Exit->Act->World->Prop} (hgd:o.guard=U) (d s:Operand) (t t':TypeId)
  (ho:o.op=.call { callee:=.builtin .copy,args:=#[d,s],argTypes:=#[t,t'] }) (v u:Value) (hd:a.eval d=v) (hs:a.eval s=u) {v':Value} {w':World}
  (hr:(Builtin.copy_ #[t,t'] o.type #[v,u]).run Tryz.prog w=.ok v' w') (h:wpList Tryz.prog ops Q rest (a.put o.dst v') w'):wpList Tryz.prog ops Q (o ::rest) a w:=by
 refine wpList_plain hgd λK hK=>?_;unfold Oper.wp execOp;simp only[ho,resolve,invoke,builtin,Sem.run_bind,Sem.run_pure,Result.andThen_ok,List.map_toArray,List.map_cons,List.map_nil,hd,hs,hr];exact hK _ _ h
def aM(p:Nat) (x:α) (xs:List α):List α:=xs.take p++[x]++xs.drop p
theorem ct {p:Nat} {x:α} (h:p<=xs.length):(aM p x xs).length=xs.length+1:=by
 simp only[aM,List.length_append,YG,List.length_drop,YY,List.length_nil];omega
theorem fH {β:Type} (f:α->β) (p:Nat) (x:α) (xs:List α):(aM p x xs).map f=aM p (f x) (xs.map f):=by simp[aM,List.map_take,List.map_drop]
theorem lC {p:Nat} {x:α} (h:p<=xs.length) (j:Nat) (hj:j<xs.length+1):(aM p x xs)[j]?=(xs++[x])[if j<p then j else if j=p then xs.length else j - 1]?:=by
 unfold aM;by_cases h1:j<p
 ·rw[if_pos h1,List.append_assoc,Yv tA,Yv af,YD,if_pos h1]
 ·rw[if_neg h1];by_cases h2:j=p
  ·subst h2;have hl:(xs.take j).length=j:=by rw[YG,Nat.min_eq_left h]
   have e1:(xs.take j++[x]++xs.drop j)[j]?=Y3 x:=by
    rw[List.append_assoc,List.getElem?_append_right af,hl,Nat.sub_self];rfl
   rw[e1,if_pos rfl];simp
  ·rw[if_neg h2,List.getElem?_append_right (by simp only[List.length_append,YG,YY,List.length_nil];omega),Yv af,List.getElem?_drop];congr 1;simp only[List.length_append,YG,YY,List.length_nil];omega
theorem aQ.ins {rs:List (List Fv)} (h:aQ w S m rs vss H) {r:List Fv} {vs:List Value} {hh:Nat->Nat} (hr:r.length=m) (hvs:vs.length=m) (hc:∀(i:Nat) f,r[i]?=Y3 f->∃v,vs[i]?=Y3 v/\f.Fr w (hh i) S v)
  (hn:∀(i:Nat) zs,r[i]?=Y3 (.l zs)->zs≠[]->∀(j:Nat) r' (i':Nat) zs',rs[j]?=Y3 r'->r'[i']?=Y3 (.l zs')->zs'≠[]->¬H j i'=hh i)
  (h1:∀(i i':Nat) zs zs',r[i]?=Y3 (.l zs)->zs≠[]->r[i']?=Y3 (.l zs')->zs'≠[]->i=i') {p:Nat} (hp:p<=rs.length):∃H',aQ w S m (aM p r rs) (aM p vs vss) H':=by
 have hl:=h.len;have e1:(aM p r rs).length=rs.length+1:=ct hp;have e2:(aM p vs vss).length=vss.length+1:=ct af;refine⟨_,(h.push hr hvs hc hn h1).sel (λj=>if j<p then j else if j=p then rs.length else j - 1) af (λj hj=>lC hp j af) (λj hj=>?_) (λj j' hj hj' e=>?_)⟩
 ·have:=lC (x:=vs) (xs:=vss) (p:=p) af j af;rw[hl] at this;exact this
 ·split at e <;> split at e
  ·exact e
  all_goals (try split at e) <;> (try split at e) <;> omega
def WnF:Fact:=λv _=>v=.nilIface\/∃a:Addr,v=.iface 193 (Zd (Y3 (a)))
def TwF(P:Value->Value->Prop):Fact:=λv w=> ∃b v0 v1,v=J (Y3 ⟨b,0,U⟩) 2 2/\P v0 v1/\w.cell? ⟨b,0,U⟩=Y3 v0/\w.cell? ⟨b,1,U⟩=Y3 v1
theorem nx {p:Nat} {x y:α} (h:(aM p x xs)[j]?=Y3 y):y=x\/∃i:Nat,xs[i]?=Y3 y:=by
 exact PQ
theorem nx {p:Nat} {x y:α} (h:(aM p x xs)[j]?=Y3 y):y=x\/∃i:Nat,xs[i]?=Y3 y:=by
 exact PQ
end Rc
namespace Um
def ul(k:Int) (s:ByteArray):Lit:=I (keyBytes [Y4 Y5 k,I s.data.toList])
section
variable {w:World} {b clock:Nat} {es:Array MapEntry}
end
end Um
namespace Rc
def OnU(zs:List ByteArray) (k:Nat) (l:Lit):Prop:=∃(i:Nat) (t:ByteArray),i<k/\zs[i]?=Y3 t/\l=Um.ul 3 t
def MoU(ns:List Nd) (t:ByteArray) (k:Nat) (l:Lit):Prop:=∃(i:Nat) (n:Nd),i<k/\ns[i]?=Y3 n/\InL n.zs t/\l=Um.ul 3 n.n
def PoU(ps:List Pd) (t:ByteArray) (k:Nat) (l:Lit):Prop:=∃(i:Nat) (p:Pd),i<k/\ps[i]?=Y3 p/\InL p.zs t/\l=Um.ul 1 p.n
theorem qV {f:Nat×Nat} (h:w.heap[g]?=Y3 (Y6 cs T f)):Below w.heap.size w (w.setRow g cs):=by
 refine⟨rfl,rfl,rfl,by simp,λk hk=>?_⟩;by_cases e:k=g
 ·subst e;rw[setRow_heap w k cs cs T f h,h]
 ·exact setRow_other w g k cs e
theorem dP(t ty e:TypeId) (i:TypeInfo) (ht:Tryz.prog.underlying t=Y3 (J e)) (hi:Tryz.prog.info? e=Y3 i) (g cap:Nat):
  (Builtin.append_ #[t,t] ty #[J (Y3 ⟨g,0,U⟩) 0 0,J U 0 cap]).run Tryz.prog w=.ok (J (Y3 ⟨g,0,U⟩) 0 0) w:=by
 simp[Builtin.append_,run_underlying ht,sizeOf,typeInfo,hi,Builtin.lenOf,Builtin.firstCells,storeCells]
theorem bN.here {l c:Nat} {S':Nat->Prop} (h:bN w (Y3 ⟨g,0,U⟩) l c zs S) (hS:S' g):bN w (Y3 ⟨g,0,U⟩) l c zs S':=
 ⟨h.1,h.2.imp id λ⟨g',cur,e,_,hg⟩=>by cases e;exact⟨g,cur,rfl,hS,hg⟩⟩
theorem kf(ty:TypeId) (hg:w.heap[g0]?=Y3 (Y6 #[] 9 (0,0))) (hr:ay w va len cap zs) (hl:len<=8001):
  ∃a l c w',(Builtin.append_ #[36,36] ty #[J (Y3 ⟨g0,0,U⟩) 0 0,J va len cap]).run Tryz.prog w=.ok (J a l c) w'/\bN w' a l c zs (λk=>k=g0\/w.heap.size<=k)/\Below w.heap.size w w':=by
 obtain⟨i0,hi,hz0,hz1,hz2⟩:=info_parts ig;have hzl:=hr.1;rcases Nat.eq_zero_or_pos len with h0|h0
 ·subst h0;obtain rfl:zs=[]:=YN hzl;cases va with
  | none=>exact⟨_,_,_,_,dP 36 ty 9 i0 Tryz.underlying36 hi g0 cap,⟨⟨rfl,Ye _,by omega,λj x hx=>by simp at hx,Zc rfl⟩,Zc rfl⟩,Yh _ _⟩
  | some ad=>
   have h:=run_append_room (P:=Tryz.prog) w 36 ty 9 i0 Tryz.underlying36 hi g0 0 0 #[] hg ad 0 cap [] aF (λj u hu=>by simp at hu) (λu hu=>by simp at hu) af aF;exact⟨_,_,_,_,h,⟨⟨rfl,Ye _,by omega,λj x hx=>by simp at hx,Zc rfl⟩,Zc rfl⟩,by simpa using qV hg⟩
 ·cases va with
  | none=>
   rcases hr.2.2.2.2 with h|⟨b,o,e,_⟩
   ·subst h;simp at hzl;omega
   ·cases e
  | some ad=>
   have h:=run_append_grow (P:=Tryz.prog) w 36 ty 9 i0 (I ⟨#[]⟩) Tryz.underlying36 hi hz0 ⟨g0,0,U⟩ 0 0 [] aF (λj u hu=>by simp at hu) ad len cap (zs.map Yn) (by rw[hz1];simpa using hzl) (Ap.Ab hr) af af (growslice_fits af (by rw[hz2];omega));obtain⟨v',w',hr2,h2,h3,h4⟩:=run_append_own (P:=Tryz.prog) w (base:=0) 36 ty 9 i0 (I ⟨#[]⟩) 1 16 Tryz.underlying36 hi hz0 hz1 hz2 rfl ag (J (Y3 ⟨g0,0,U⟩) 0 0) 0 [] ⟨rfl,Zb ⟨g0,0,#[],rfl,YI _,hg,Ye _,by unfold maxLen;omega,rfl,rfl⟩⟩ ad len cap (zs.map Yn) (by simpa using hzl) (Ap.Ab hr) (λu hu=>by obtain⟨x,_,rfl⟩:=List.mem_map.1 hu;rfl) bo af (YI _);rw[h] at hr2
   cases hr2
   rw[Yq,List.nil_append] at h2;obtain⟨a',c',e,hT⟩:=bN.fk h2 hr.2.2.2.1;have hbel:Below w.heap.size w (w.drew.alloc (Y6 (([]:List Value).toArray++(zs.map Yn).toArray++Builtin.zeroCells (Yn ⟨#[]⟩).cells (grownCap w (0+len) 0 9 - (0+len))) 9)):=⟨rfl,rfl,rfl,by simp,λk hk=>heap_alloc_old w.drew _ (by simpa using hk)⟩;simp only[Yq] at e h hbel ⊢
   cases e
   exact⟨_,_,_,_,h,hT.here (Zb (Ye _)),hbel⟩
theorem oV {a:Act} (hgd:o.guard=U) (s x:Operand) (ho:o.op=.call { callee:=.builtin .append,args:=#[s,x],argTypes:=#[36,36] }) (g0:Nat) (hs:a.eval s=J (Y3 ⟨g0,0,U⟩) 0 0) (hg:w.heap[g0]?=Y3 (Y6 #[] 9 (0,0)))
  (va:Option Addr) (len cap:Nat) (hx:a.eval x=J va len cap) (zs:List ByteArray) (hr:ay w va len cap zs) (hl:len<=8001)
  (h:∀a' l c w',bN w' a' l c zs (λk=>k=g0\/w.heap.size<=k)->Below w.heap.size w w'->wpList Tryz.prog ops Q rest (a.put o.dst (J a' l c)) w'):wpList Tryz.prog ops Q (o ::rest) a w:=by
 refine wpList_plain hgd λK hK=>?_;obtain⟨a',l,c,w',hrun,h1,h2⟩:=kf o.type hg hr hl;unfold Oper.wp execOp;simp only[ho,resolve,invoke,builtin,Sem.run_bind,Sem.run_pure,Result.andThen_ok,List.map_toArray,List.map_cons,List.map_nil,hs,hx,hrun];exact hK _ _ (h a' l c w' h1 h2)
theorem kX {bytes:Nat} {rs:List (List Fv)} (t ty T:TypeId) (i:TypeInfo) (z:Value) (ht:Tryz.prog.underlying t=Y3 (J T)) (hi:Tryz.prog.info? T=Y3 i) (hz:i.zero=Y3 z) (hsize:i.size=m) (hby:i.bytes=bytes) (hzs:z.cells.size=m) (hsz:0<m) (hT:¬T=9) (hg:w.heap[g0]?=Y3 (Y6 #[] T (0,0)))
  (hr:aT w va len cap m rs) (hm:∀(j:Nat) r,rs[j]?=Y3 r->r.length=m/\gV r) (hl:len<=8) (hb8:bytes<=1000):
  ∃a c w',(Builtin.append_ #[t,t] ty #[J (Y3 ⟨g0,0,U⟩) 0 0,J va len cap]).run Tryz.prog w=.ok (J a len c) w'/\aw w' a len c m T rs (λk=>k=g0\/w.heap.size<=k)/\Below w.heap.size w w':=by
 rcases Nat.eq_zero_or_pos len with h0|h0
 ·subst h0;obtain rfl:rs=[]:=YN hr.1;cases va with
  | none=>exact⟨_,_,_,dP t ty T i ht hi g0 cap,aw.nil _ _ _ _ _ af,Yh _ _⟩
  | some ad=>
   have h:=run_append_room (P:=Tryz.prog) w t ty T i ht hi g0 0 0 #[] hg ad 0 cap [] aF (λj u hu=>by simp at hu) (λu hu=>by simp at hu) af aF;exact⟨_,_,_,h,aw.nil _ _ _ _ _ af,by simpa using qV hg⟩
 ·have hlen:((rs.map et).flatten).length=len*m:=by rw[eR (jT λj r hj=>(hm j r hj).1),Yr,hr.1]
  obtain⟨ad,rfl,hnews⟩:∃ad,va=Y3 ad/\∀(j:Nat) u,((rs.map et).flatten)[j]?=Y3 u->w.cell? (ad.add j)=Y3 u:=by
   rcases hr.2.2.2 with h|⟨b,o,rfl,_⟩
   ·subst h;have:=hr.1;simp at this;omega
   ·exact⟨_,rfl,oO hr hm⟩
  have h:=run_append_grow (P:=Tryz.prog) w t ty T i z ht hi hz ⟨g0,0,U⟩ 0 0 [] aF (λj u hu=>by simp at hu) ad len cap (rs.map et).flatten (by rw[hsize];exact hlen) hnews af af (growslice_fits af (by rw[hby];have:(0+len)*bytes<=8*1000:=Nat.mul_le_mul af hb8;omega));obtain⟨v',w',hr2,h2,h3,h4⟩:=run_append_own (P:=Tryz.prog) w (base:=0) t ty T i z m bytes ht hi hz hsize hby hzs hsz (J (Y3 ⟨g0,0,U⟩) 0 0) 0 [] ⟨by simp,Zb ⟨g0,0,#[],rfl,YI _,hg,Ye _,by unfold maxLen;omega,by simp,by simp⟩⟩ ad len cap (rs.map et).flatten hlen hnews (ik hr hm w (λ_=>True)).one bo (by have:(0+len)*bytes<=8*1000:=Nat.mul_le_mul af hb8;omega) (YI _);rw[h] at hr2;cases hr2;rw[Yq,List.nil_append] at h2;obtain⟨a',c',e,hR⟩:=(ik hr hm _ (λk=>k=g0\/w.heap.size<=k)).own h2 hr.1.symm hT (λg hg=>by simp[YJ] at hg;exact Zb af);have hbel:Below w.heap.size w (w.drew.alloc (Y6 (([]:List Value).toArray++((rs.map et).flatten).toArray++Builtin.zeroCells z.cells (grownCap w (0+len) 0 T - (0+len))) T)):=⟨rfl,rfl,rfl,by simp,λk hk=>heap_alloc_old w.drew _ (by simpa using hk)⟩;rw[hr.1] at e hR;simp only[Yq] at e h hbel hR ⊢;cases e;exact⟨_,_,_,h,hR,hbel⟩
theorem qG {a:Act} {K:Act->World->Prop} {bytes:Nat} {rs:List (List Fv)} (s x:Operand) (t T:TypeId) (ho:o.op=.call { callee:=.builtin .append,args:=#[s,x],argTypes:=#[t,t] }) (i:TypeInfo) (z:Value) (ht:Tryz.prog.underlying t=Y3 (J T)) (hi:Tryz.prog.info? T=Y3 i) (hz:i.zero=Y3 z) (hsize:i.size=m) (hby:i.bytes=bytes) (hzs:z.cells.size=m) (hsz:0<m) (hT:¬T=9) (hs:a.eval s=J (Y3 ⟨g0,0,U⟩) 0 0) (hg:w.heap[g0]?=Y3 (Y6 #[] T (0,0)))
  (hx:a.eval x=J va len cap) (hr:aT w va len cap m rs) (hm:∀(j:Nat) r,rs[j]?=Y3 r->r.length=m/\gV r) (hl:len<=8) (hb8:bytes<=1000)
  (h:∀a' c' w',aw w' a' len c' m T rs (λk=>k=g0\/w.heap.size<=k)->Below w.heap.size w w'->K (a.put o.dst (J a' len c')) w'):o.wp Tryz.prog a w K Q:=by
 obtain⟨a',c',w',hrun,h1,h2⟩:=kX t o.type T i z ht hi hz hsize hby hzs hsz hT hg hr hm hl hb8;unfold Oper.wp execOp;simp only[ho,resolve,invoke,builtin,Sem.run_bind,Sem.run_pure,Result.andThen_ok,List.map_toArray,List.map_cons,List.map_nil,hs,hx,hrun];exact h a' c' w' h1 h2
theorem Q3 {o p:Obj} (h:Below (w.heap.size+1+1) ((w.alloc o).alloc p) w'):w'.heap[w.heap.size]?=Y3 o/\w'.heap[w.heap.size+1]?=Y3 p/\Below w.heap.size w w':=eh (by rw[db,db];exact h)
theorem iA(w:World) (n:Nat) (hn:w.heap.size=n) (vs:List Value) (T:TypeId):∀(j:Nat) u,vs[j]?=Y3 u->(w.alloc (Y6 vs.toArray T)).cell? ((⟨n,0,U⟩:Addr).add j)=Y3 u:=by
 subst hn;exact eP w vs T
theorem amm {u0 u1 u2 u3 u4 u5:Value} (h:w.heap[b]?=Y3 (Y6 #[u0,u1,u2,u3,u4,u5] T (0,0))):
  ((((((w.setCell ⟨b,0,U⟩ v0).setCell ⟨b,1,U⟩ v1).setCell ⟨b,2,U⟩ v2).setCell ⟨b,3,U⟩ v3).setCell ⟨b,4,U⟩ v4).setCell ⟨b,5,U⟩ v5).heap[b]?=Y3 (Y6 #[v0,v1,v2,v3,v4,v5] T (0,0)):=
 au (au (au (au (au (au h v0) v1) v2) v3) v4) v5
theorem fT {k:Nat} (hk:¬k=b):
  ((((((w.setCell ⟨b,0,U⟩ v0).setCell ⟨b,1,U⟩ v1).setCell ⟨b,2,U⟩ v2).setCell ⟨b,3,U⟩ v3).setCell ⟨b,4,U⟩ v4).setCell ⟨b,5,U⟩ v5).heap[k]?=w.heap[k]?:=by
 rw[Ya _ _ _ _ hk,Ya _ _ _ _ hk,Ya _ _ _ _ hk,Ya _ _ _ _ hk,Ya _ _ _ _ hk,Ya _ _ _ _ hk]
theorem aw.dN {a:Option Addr} {T':TypeId} {rs:List (List Fv)} (h:aw w a len cap m T rs S) {b:Nat} {cs:Array Value} (hb:w.heap[b]?=Y3 (Y6 cs T' (0,0))) (h1:¬T'=T) (h2:¬T'=9):aw w a len cap m T rs (λk=>S k/\¬k=b):=by
 obtain⟨a1,a2,a3,a4⟩:=h;refine⟨a1,a2,a3,a4.imp id ?_⟩;rintro⟨g,cur,H,e,h5⟩;refine⟨g,cur,H,e,h5.blk,⟨h5.inS,λq=>?_⟩,h5.len,λj r hj i f hi=>?_,h5.inj⟩
 ·subst q;have:=h5.blk;rw[hb] at this;cases this;exact h1 rfl
 ·obtain⟨v,q1,q2⟩:=h5.cell j r hj i f hi;refine⟨v,q1,?_⟩;cases f with
  | l zs=>
   obtain⟨a',l',c',k1,k2,k3,k4,k5,k6⟩:=q2;refine⟨a',l',c',k1,k2,k3,k4,k5,k6.imp id ?_⟩;rintro⟨z1,z2,z3,cu,z4,z5⟩;refine⟨z1,⟨z2,λq=>?_⟩,z3,cu,z4,z5⟩;rw[q] at z4;rw[hb] at z4
   cases z4
   exact h2 rfl
  | _=>exact q2
theorem ug {n:Nat} {T':TypeId} {v:Value} {xs:List Value} {i:Nat} (h:w.ownsRow base T m v n xs) (hb:w.heap[b]?=Y3 (Y6 cs T' (0,0))) (hT:¬T'=T):(w.setCell ⟨b,i,U⟩ u).ownsRow base T m v n xs:=by
 refine⟨h.1,h.2.imp id ?_⟩;rintro⟨g,cap,cur,h1,h2,h3,h4⟩;refine⟨g,cap,cur,h1,h2,(Ya _ _ _ _ (λe=>?_)).trans h3,h4⟩;subst e;rw[hb] at h3;cases h3;exact hT rfl
theorem aQ.set {rs:List (List Fv)} (h:aQ w S m rs vss H) {b i:Nat} {cs:Array Value} {T':TypeId} {u:Value} (hb:w.heap[b]?=Y3 (Y6 cs T' (0,0))) (hT:¬T'=9):aQ (w.setCell ⟨b,i,U⟩ u) S m rs vss H:=
 h.az (λk cu _ q=>Ya _ _ _ _ (λe=>by subst e;rw[hb] at q;cases q;exact hT rfl)) (λ_ _ s=>s)
theorem aG.ui(hg:W.grownBy w vb) (h:∀g,vb=Y3 g->S g):aG S W w:=⟨hg.os,hg.tape,hg.output,hg.size,λk hk hn=>hg.block k hk (λe=>hn (h k e.symm))⟩
theorem aA {n:Nat} {v:Value} {xs:List Value} (h:w.ownsRow base T m v n xs):∃a l c,v=J a l c:=by
 rcases h.2 with ⟨rfl,_⟩|⟨g,cap,cur,rfl,_⟩
 ·exact⟨_,_,_,rfl⟩
 ·exact⟨_,_,_,rfl⟩
abbrev Cps(b:Nat) (X:World):Nat->Prop:=λk=>k=b\/X.heap.size<=k
theorem wS {X wr w5:World} {b3 k:Nat} {TC:TypeId} {v:Value} {xs:List Value} (hO:wr.ownsRow X.heap.size T m v k xs) (hBo:wr.heap[b3]?=Y3 (Y6 cs TC (0,0))) (hb3:b3<X.heap.size) (hb:Below wr.heap.size wr W) (hg:W.grownBy w5 v.ownBlock):w5.heap[b3]?=Y3 (Y6 cs TC (0,0)):=
 (hg.block b3 (Yj (ae hBo) hb.size) (λe=>by have:=(hO.lt b3 e.symm).1;omega)).trans ((hb.block _ (ae hBo)).trans hBo)
theorem Al {X wr w5:World} {b3 k f:Nat} {TC:TypeId} {v v':Value} {rs:List (List Fv)} {r:List Fv} {vs:List Value} {hh:Nat} (hK:aG (Cps b3 X) X wr) (hO:wr.ownsRow X.heap.size T m v k vss.flatten) (hV:aQ wr (λk=>X.heap.size<=k) m rs vss H) (hBo:wr.heap[b3]?=Y3 (Y6 cs TC (0,0))) (hb3:b3<X.heap.size)
  (hb:Below wr.heap.size wr W) (hown:w5.ownsRow X.heap.size T m v' (k+1) (vss.flatten++vs)) (hg:W.grownBy w5 v.ownBlock) (hT:¬T=9) (hTC:¬TC=T) (hTS:¬TC=9) (hr:r.length=m) (hvs:vs.length=m) (hc:∀(i:Nat) f,r[i]?=Y3 f->∃v,vs[i]?=Y3 v/\f.Fr W hh (λk=>X.heap.size<=k) v) (hfr:∀(i:Nat) zs,r[i]?=Y3 (.l zs)->zs≠[]->wr.heap.size<=hh)
  (h1:∀(i i':Nat) zs zs',r[i]?=Y3 (.l zs)->zs≠[]->r[i']?=Y3 (.l zs')->zs'≠[]->i=i'):
  aG (Cps b3 X) X (w5.setCell ⟨b3,f,U⟩ v')/\(w5.setCell ⟨b3,f,U⟩ v').ownsRow X.heap.size T m v' (k+1) (vss++[vs]).flatten/\(∃H',aQ (w5.setCell ⟨b3,f,U⟩ v') (λk=>X.heap.size<=k) m (rs++[r]) (vss++[vs]) H')/\(w5.setCell ⟨b3,f,U⟩ v').heap[b3]?=Y3 (Y6 (cs.setIfInBounds f v') TC (0,0)):=by
 have hb5:=wS hO hBo hb3 hb hg;refine⟨?_,?_,⟨_,(hV.app hb (cA hO hb) hT hg hr hvs hc hfr h1).set hb5 hTS⟩,au hb5 v'⟩
 ·exact ((hK.trans (aG.cr hb)).trans (aG.ui hg (λg e=>Zb (hO.lt g e).1))).set (Zc rfl)
 ·rw[List.flatten_append];refine ug ?_ hb5 hTC;simpa using hown
structure cZ (w:World) (d:Ad) (c:Cr) (S:Nat->Prop):Prop where
 n:aw w d.a1 d.l1 d.c1 7 38 c.n S
 k:aw w d.a2 d.l2 d.c2 4 92 c.k S
 v:aw w d.a3 d.l3 d.c3 8 95 c.v S
 x:aw w d.a4 d.l4 d.c4 5 97 c.x S
 p:aw w d.a5 d.l5 d.c5 6 40 c.p S
def EmF(B:Nat) (T:TypeId):Fact:=λv w=> ∃b,v=J (Y3 ⟨b,0,U⟩) 0 0/\B<=b/\w.heap[b]?=Y3 (Y6 #[] T (0,0))
theorem EmF.mono(B:Nat) (T:TypeId):Fact.bH (EmF B T):=by
 exact mZ
def RwF(B len m:Nat) (T:TypeId) (rs:List (List Fv)):Fact:=λv w=> ∃a c,v=J a len c/\aw w a len c m T rs (λk=>B<=k)
theorem RwF.mono(B len m:Nat) (T:TypeId) (rs:List (List Fv)):Fact.bH (RwF B len m T rs):=by
 rintro v w w' ⟨a,c,h1,h2⟩ hb;exact⟨a,c,h1,h2.below hb⟩
def CpF(B l2 l4:Nat) (c:Cl):Fact:=λv w=> ∃a2 c2 a4 c4,v=Za #[J U 0 0,J a2 l2 c2,J U 0 0,J a4 l4 c4,J U 0 0,Y4 Y5 c.now]/\aw w a2 l2 c2 4 92 (c.ks.map kdF) (λk=>B<=k)/\aw w a4 l4 c4 5 97 (c.xs.map xdF) (λk=>B<=k)
theorem CpF.mono(B l2 l4:Nat) (c:Cl):Fact.bH (CpF B l2 l4 c):=by
 rintro v w w' ⟨a2,c2,a4,c4,h1,h2,h3⟩ hb;exact⟨a2,c2,a4,c4,h1,h2.below hb,h3.below hb⟩
def FrF(B:Nat):Fact:=λv w=> ∃b,v=Zd (Y3 ⟨b,0,U⟩)/\B<=b/\w.heap[b]?=Y3 (Y6 #[J U 0 0,J U 0 0,J U 0 0,J U 0 0,J U 0 0,Y4 Y5 0] 29 (0,0))
theorem FrF.mono(B:Nat):Fact.bH (FrF B):=by
 exact mZ
def Rv(vb:Option Nat) (sp:Tmp):Gi.Rs:=λs w w'=>match s with
 | none=>w.grownBy w' vb
 | some t=>if t=sp then w.grownBy w' vb else Below w.heap.size w w'
theorem di(vb:Option Nat) (h:Below w.heap.size w w'):w.grownBy w' vb:=⟨h.os,h.tape,h.output,h.size,λk hk _=>h.block k hk⟩
theorem Rv.below {s:Option Tmp} (h:Rv vb sp s w w') (h1:¬s=U) (h2:¬s=Y3 sp):Below w.heap.size w w':=by
 cases s with
 | none=>exact absurd rfl h1
 | some t=>
  simp only[Rv] at h;rw[if_neg (λe=>h2 (by rw[e]))] at h;exact h
theorem Rv.rel(vb:Option Nat) (sp:Tmp):Gi.Rel (Rv vb sp) sp:=by
 refine⟨λw=>di vb (Yh _ _),fun {a b c} h k=>?_,λh=>World.grownBy.size h,λw=>di vb (Yh _ _).drew,λs {a b} h=>?_,λs {a b} h1 h2 h=>Rv.below h h1 h2⟩
 ·have h:World.grownBy a b vb:=h;have k:World.grownBy b c vb:=k;exact⟨k.os.trans h.os,k.tape.trans h.tape,k.output.trans h.output,Yl h.size k.size,λi hi hn=>(k.block i (Yj hi h.size) hn).trans (h.block i hi hn)⟩
 ·cases s with
  | none=>exact h
  | some t=>
   show World.grownBy a b vb
   simp only[Rv] at h
   split at h
   ·exact h
   ·exact di vb h
theorem Rv.other {t:Tmp} (ht:¬t=sp) (h:Below w.heap.size w w'):Rv vb sp (Y3 t) w w':=by
 show (if t=sp then w.grownBy w' vb else Below w.heap.size w w');rw[if_neg ht];exact h
theorem Rv.this(h:w.grownBy w' vb):Rv vb sp (Y3 sp) w w':=by
 show (if sp=sp then w.grownBy w' vb else Below w.heap.size w w');rw[if_pos rfl];exact h
theorem PW {vs:List Value} (h:w.heap[b]?=Y3 (Y6 vs.toArray T (0,0))):∀(j:Nat) u,vs[j]?=Y3 u->w.cell? ((⟨b,0,U⟩:Addr).add j)=Y3 u:=by
 intro j u hu;rw[Yo,an h,Yq];simpa using hu
def TvF(B:Nat) (x:Vd):Gi.Fact:=λu w _ _=> ∃a l c,u=Za #[I x.n,Y4 Y5 x.c,I x.z,I x.k,Y7 x.x,I x.m,Y7 x.y,J a l c]/\bN w a l c x.zs (λk=>B<=k)
def BsF(B:Nat) (x:Vd):Gi.Fact:=λu w _ _=> ∃b a l c,u=J (Y3 ⟨b,0,U⟩) 1 1/\B<=b/\w.heap[b]?=Y3 (Y6 #[I x.n,Y4 Y5 x.c,I x.z,I x.k,Y7 x.x,I x.m,Y7 x.y,J a l c] 95 (0,0))/\bN w a l c x.zs (λk=>B<=k)
def ApF(B k:Nat) (rs:List (List Fv)) (vss:List (List Value)):Gi.Fact:=λu w _ _=> ∃H' vs,w.ownsRow B 95 8 u (k+1) (vss++[vs]).flatten/\aQ w (λk=>B<=k) 8 rs (vss++[vs]) H'
theorem TvF.mono {x:Vd} (hv:∀g,vb=Y3 g->g<B):Gi.Fact.bH (Rv vb sp) ex d (TvF B x):=by
 rintro s _ _ _ v w w' l h ⟨a,l,c,h1,h2⟩ hb;have hb:w.grownBy w' vb:=(Rv.rel vb sp).sub s hb;exact⟨a,l,c,h1,h2.az (λk hk s=>hb.block k hk (λe=>by have s1:B<=k:=s;have:=hv k e.symm;omega)) (λ_ _ s=>s)⟩
theorem BsF.mono {x:Vd} (hv:∀g,vb=Y3 g->g<B):Gi.Fact.bH (Rv vb sp) ex d (BsF B x):=by
 rintro s _ _ _ v w w' l h ⟨b,a,l,c,h1,h2,h3,h4⟩ hb;have hb:w.grownBy w' vb:=(Rv.rel vb sp).sub s hb;exact⟨b,a,l,c,h1,h2,(hb.block _ (ae h3) (λe=>by have:=hv b e.symm;omega)).trans h3,h4.az (λk hk s=>hb.block k hk (λe=>by have s1:B<=k:=s;have:=hv k e.symm;omega)) (λ_ _ s=>s)⟩
theorem ApF.mono {k:Nat} {rs:List (List Fv)} :Gi.Fact.bH (Rv vb sp) ex (Y3 sp) (ApF B k rs vss):=by
 rintro s h1 h2 _ v w w' l h ⟨H',vs,h3,h4⟩ hb;have hb:=Rv.below hb h1 h2;exact⟨H',vs,cA h3 hb,h4.below hb⟩
theorem dd(d:Ad) (c:Cl) (w:World) (hr:aB w d c.raw) (hs:Sm c):
  Calls Tryz.prog 29 #[Za #[J d.a1 d.l1 d.c1,J d.a2 d.l2 d.c2,J d.a3 d.l3 d.c3,J d.a4 d.l4 d.c4,J d.a5 d.l5 d.c5,Y4 Y5 c.now]] w λe w'=> ∃d',e=Y9 (Za #[J d'.a1 d'.l1 d'.c1,J d'.a2 d'.l2 d'.c2,J d'.a3 d'.l3 d'.c3,J d'.a4 d'.l4 d'.c4,J d'.a5 d'.l5 d'.c5,Y4 Y5 c.now])/\cZ w' d' c.raw (λk=>w.heap.size<=k)/\Below w.heap.size w w':=by
 have z154z:=@aa _ @aev;exact jr
theorem bm(hl:∀(j:Nat) vs,vss[j]?=Y3 vs->vs.length=m) {k:Nat} (hk:k<=vss.length):(vss.take k).flatten.length=k*m:=by
 rw[eR (m:=m) (λj vs h=>?_),YG,Nat.min_eq_left hk];rw[YD] at h;split at h
 ·exact hl j vs h
 ·cases h
theorem dW(hl:∀(j:Nat) vs,vss[j]?=Y3 vs->vs.length=m) {k:Nat} :(vss.drop k).flatten.length=(vss.length - k)*m:=by
 rw[eR (m:=m) (λj vs h=>?_),List.length_drop];rw[List.getElem?_drop] at h;exact hl _ vs h
theorem cI {k i:Nat} (h:(vss.take k).flatten[i]?=Y3 u):vss.flatten[i]?=Y3 u:=by
 have h1:vss.flatten=(vss.take k).flatten++(vss.drop k).flatten:=zN
 rw[h1,Yv (Yc.1 h).1];exact h
theorem cW(hl:∀(j:Nat) vs,vss[j]?=Y3 vs->vs.length=m) {k i:Nat} {u:Value} (hk:k<=vss.length) (h:(vss.drop k).flatten[i]?=Y3 u):vss.flatten[k*m+i]?=Y3 u:=by
 have h1:vss.flatten=(vss.take k).flatten++(vss.drop k).flatten:=zN
 rw[h1,List.getElem?_append_right (by rw[bm hl hk];omega),bm hl hk,Nat.add_sub_cancel_left];exact h
theorem aD {P:Value->Prop} (h:∀u∈vss.flatten,P u) (k:Nat):(∀u∈(vss.take k).flatten,P u)/\∀u∈(vss.drop k).flatten,P u:=by
 have h1:vss.flatten=(vss.take k).flatten++(vss.drop k).flatten:=zN
 exact⟨λu hu=>h u (by rw[h1];exact List.mem_append_left _ hu),λu hu=>h u (by rw[h1];exact List.mem_append_right _ hu)⟩
theorem aK(p:Int) (w:World):
  Calls Tryz.prog 25 #[Y4 Y5 p] w λe w'=>e=Y9 (Za #[J U 0 0,J U 0 0,J U 0 0,J U 0 0,J U 0 0,Y4 Y5 0,I ⟨#[]⟩,Y4 Y5 p])/\Below w.heap.size w w':=by
 go_enter Tryz.func25,Tryz.ntmps25;go_wp2;exact bodyPost_ret (v:=Za #[J U 0 0,J U 0 0,J U 0 0,J U 0 0,J U 0 0,Y4 Y5 0,I ⟨#[]⟩,Y4 Y5 p]) (by simp[results,Tryz.results25,go_sem]) rfl ⟨rfl,ak _ _⟩
section
variable {P:Program}
end
def UF(w:World) (g:Nat):Prop:=∃cs T,w.heap[g]?=Y3 (Y6 cs T (0,0))
def LoA(B:Nat) (w:World) (a:Option Addr) (len:Nat):Prop:=len=0\/∃b o,a=Y3 ⟨b,o,U⟩/\B<=b/\UF w b
structure Low (B:Nat) (w:World) (d:Ad):Prop where
 n:LoA B w d.a1 d.l1
 k:LoA B w d.a2 d.l2
 v:LoA B w d.a3 d.l3
 x:LoA B w d.a4 d.l4
 p:LoA B w d.a5 d.l5
theorem lo0(B:Nat) (w:World):Low B w ad0:=⟨Zc rfl,Zc rfl,Zc rfl,Zc rfl,Zc rfl⟩
theorem aw.lo {a:Option Addr} {rs:List (List Fv)} (h:aw w a len cap m T rs S) {B:Nat} (hS:∀k,S k->B<=k):LoA B w a len:=by
 obtain⟨h1,_,_,h4⟩:=h;rcases h4 with h4|⟨g,cur,H,h5,h6⟩
 ·subst h4;exact Zc h1.symm
 ·exact Zb ⟨g,0,h5,hS g h6.inS,_,_,h6.blk⟩
def RL(B:Nat) (w:World) (a:Option Addr) (len cap m:Nat) (rs:List (List Fv)):Prop:=aT w a len cap m rs/\LoA B w a len
theorem aw.rl {a:Option Addr} {rs:List (List Fv)} (h:aw w a len cap m T rs S) (hS:∀k,S k->B<=k):RL B w a len cap m rs:=⟨h.row,h.lo hS⟩
structure fI (B:Nat) (w:World) (d:Ad) (c:Cr):Prop where
 n:RL B w d.a1 d.l1 d.c1 7 c.n
 k:RL B w d.a2 d.l2 d.c2 4 c.k
 v:RL B w d.a3 d.l3 d.c3 8 c.v
 x:RL B w d.a4 d.l4 d.c4 5 c.x
 p:RL B w d.a5 d.l5 d.c5 6 c.p
theorem fI.of {d:Ad} {c:Cr} (h:aB w d c) (l:Low B w d):fI B w d c:=⟨⟨h.n,l.n⟩,⟨h.k,l.k⟩,⟨h.v,l.v⟩,⟨h.x,l.x⟩,⟨h.p,l.p⟩⟩
theorem rl0(B:Nat) (w:World):fI B w ad0 cl0.raw:=fI.of (als w (λ_=>True)).row (lo0 B w)
def im(Is:Co->Prop) (w:World) (e:Ending) (w':World):Prop:=∃g o,e=Y9 (Za #[J g.a1 g.l1 g.c1,J g.a2 g.l2 g.c2,J g.a3 g.l3 g.c3,J g.a4 g.l4 g.c4,J g.a5 g.l5 g.c5,Y4 Y5 o.c.now,I o.n,Y4 Y5 o.p])/\Is o/\fI w.heap.size w' g o.c.raw/\Below w.heap.size w w'
end Rc
def wV(w:World) (cb zb:Nat) (n':ByteArray) (c':Int) (k':ByteArray) (x':Bool) (v':ByteArray) (t:ByteArray):Prop:=
 w.heap[cb]?=Y3 (Y6 #[I n',Y4 Y5 c',I k',Y7 x',I v'] 97 (0,0))/\w.heap[zb]?=Y3 (Y6 #[I t] 9 (0,0))
namespace Rc
section
variable {c:Cl} {i j:Nat} {x:Xd} {u:Vd}
end
section
variable {c:Cl} {i:Nat} {x:Xd} {t:ByteArray}
end
def wW(W:World) (nb vb:Nat) (t:ByteArray) (v:Vd) (ua:Option Addr) (ul uc:Nat):Prop:=W.heap[nb]?=Y3 (Y6 #[I t] 9 (0,0))/\W.heap[vb]?=Y3 (Y6 #[I v.n,Y4 Y5 v.c,I v.z,I v.k,Y7 v.x,I v.m,Y7 v.y,J ua ul uc] 95 (0,0))
def QB(p:Pd) (t m:ByteArray):Prop:=p.d=t/\InL p.zs m
theorem Qv {o:Nat} {v:Value} (h:w.cell? ⟨b,o,U⟩=Y3 v):b<w.heap.size:=Y0 w _ h
def AY(w:World) (g:Nat):Prop:=∃T v,w.cell? ⟨g,0,U⟩=Y3 (.iface T v)
def Es3(w:World):Prop:=AY w 2/\AY w 3/\AY w 4
theorem iX(w:World) (t t' ty e e':TypeId) (i:TypeInfo) (ht:Tryz.prog.underlying t=Y3 (J e)) (ht':Tryz.prog.underlying t'=Y3 (J e')) (hi:Tryz.prog.info? e=Y3 i) (a:Option Addr) (l c:Nat) (b:Value):(Builtin.append_ #[t,t'] ty #[J a l c,b]).run Tryz.prog w=(Builtin.append_ #[t,t] ty #[J a l c,b]).run Tryz.prog w:=by
 simp[Builtin.append_,run_underlying ht,run_underlying ht',sizeOf,typeInfo,hi]
theorem iE {a:Act} (hgd:o.guard=U) (s x:Operand) (t t':TypeId)
  (ho:o.op=.call { callee:=.builtin .append,args:=#[s,x],argTypes:=#[t,t'] })
  (base:Nat) (e e':TypeId) (i:TypeInfo) (z:Value) (size bytes:Nat) (ht:Tryz.prog.underlying t=Y3 (J e)) (ht':Tryz.prog.underlying t'=Y3 (J e')) (hi:Tryz.prog.info? e=Y3 i) (hz:i.zero=Y3 z)
  (hsize:i.size=size) (hby:i.bytes=bytes) (hzs:z.cells.size=size) (hsz:0<size)
  (v:Value) (n:Nat) (xs:List Value) (hs:a.eval s=v) (hown:w.ownsRow base e size v n xs)
  (ad:Addr) (m c:Nat) (news:List Value) (hx:a.eval x=J (Y3 ad) m c) (hl:news.length=m*size) (hnews:∀j u,news[j]?=Y3 u->w.cell? (ad.add j)=Y3 u) (h1:∀u∈news,u.oneCell'=Y_)
  (h63:n+m<=maxLen) (hbytes:(n+m)*bytes<=140737488355328) (hbase:base<=w.heap.size)
  (h:∀v' w',w'.ownsRow base e size v' (n+m) (xs++news)->w.grownBy w' v.ownBlock->wpList Tryz.prog ops Q rest (a.put o.dst v') w'):wpList Tryz.prog ops Q (o ::rest) a w:=by
 have z348z:=@aa _ @abV;exact zl
theorem iY {t ty e:TypeId} {size:Nat} (ht:Tryz.prog.underlying t=Y3 (J e)) (hi:Tryz.prog.info? e=Y3 i) {v:Value} {n:Nat} {xs:List Value} (hown:w.ownsRow base e size v n xs) (ax:Option Addr) (cx:Nat):
  (Builtin.append_ #[t,t] ty #[v,J ax 0 cx]).run Tryz.prog w=.ok v w:=by
 exact agM
theorem aE {a:Act} (hgd:o.guard=U) (s x:Operand) (t:TypeId)
  (ho:o.op=.call { callee:=.builtin .append,args:=#[s,x],argTypes:=#[t,t] })
  (base:Nat) (e:TypeId) (i:TypeInfo) (z:Value) (size bytes:Nat) (ht:Tryz.prog.underlying t=Y3 (J e)) (hi:Tryz.prog.info? e=Y3 i) (hz:i.zero=Y3 z)
  (hsize:i.size=size) (hby:i.bytes=bytes) (hzs:z.cells.size=size) (hsz:0<size)
  (v:Value) (n:Nat) (xs:List Value) (hs:a.eval s=v) (hown:w.ownsRow base e size v n xs)
  (ax:Option Addr) (l c:Nat) (news:List Value) (hx:a.eval x=J ax l c) (hl:news.length=l*size) (hnews:∀(j:Nat) u,news[j]?=Y3 u->∃ad:Addr,ax=Y3 ad/\w.cell? (ad.add j)=Y3 u) (h1:∀u∈news,u.oneCell'=Y_)
  (h63:n+l<=maxLen) (hbytes:(n+l)*bytes<=140737488355328) (hbase:base<=w.heap.size)
  (h:∀v' w',w'.ownsRow base e size v' (n+l) (xs++news)->w.grownBy w' v.ownBlock->wpList Tryz.prog ops Q rest (a.put o.dst v') w'):wpList Tryz.prog ops Q (o ::rest) a w:=by
 rcases news with _|⟨u,news⟩
 ·have z424z:=@aa _ @aa5;exact yT
 ·obtain⟨ad,rfl,_⟩:=hnews 0 u rfl;exact iE hgd s x t t ho base e e i z size bytes ht ht hi hz hsize hby hzs hsz v n xs hs hown ad l c (u ::news) hx hl (λj y hy=>by
   obtain⟨ad',e,h2⟩:=hnews j y hy
   cases e
   exact h2) h1 h63 hbytes hbase h
theorem P5 {x:ByteArray} (h:Yk x.toList t.toList=Y8) (hn:¬x=t):Yk t.toList x.toList=Y_:=by
 exact OU
def Put(t:ByteArray) (zs zs':List ByteArray):Prop:=(t∈zs/\zs'=zs)\/∃k,k<=zs.length/\zs'=zs.take k++[t]++zs.drop k/\(∀(j:Nat) y,j<k->zs[j]?=Y3 y->Yk y.toList t.toList=Y_)/\∀y,zs[k]?=Y3 y->Yk t.toList y.toList=Y_
theorem fs {l:List α} {k:Nat} {u:α} (h:(l.take k)[j]?=Y3 u):l[j]?=Y3 u:=by
 rw[YD] at h;split at h
 ·exact h
 ·cases h
section
variable {α:Type} (f:α->Int) (lt:α->α->Prop)
def Bf(a b:α):Prop:=f b<f a\/(f a=f b/\lt a b)
def afT(ms ls:List α) (k:Nat):Prop:=∃P,ls=P++ms.drop k/\P.length=k/\P.Perm (ms.take k)/\P.Pairwise (Bf f lt)
def afU(ms ls:List α) (k j:Nat) (x:α):Prop:=∃A B,ls=A++x ::(B++ms.drop (k+1))/\A.length=j/\A.length+B.length=k/\ms[k]?=Y3 x/\(A++B).Perm (ms.take k)/\(A++B).Pairwise (Bf f lt)/\∀y∈B,f y<f x
variable {f lt} {ms ls:List α} {k j:Nat} {x:α}
end
structure Nv where
 n:Nd
 a:Option Addr
 l:Nat
 c:Nat
theorem oe(h:gi zs) {i:Nat} :∀(j:Nat) {x y:ByteArray},i<j->zs[i]?=Y3 x->zs[j]?=Y3 y->Yk x.toList y.toList=Y_
 | 0,_,_,hij,_,_=>absurd hij af
 | j+1,x,y,hij,hx,hy=>by
  have hj:j<zs.length:=by have:=(Yc.1 hy).1;omega
  have h1:=(h (j+1) y hy).2 zs[j] af (Yi hj);by_cases e:i=j
  ·subst e;rw[Yi hj] at hx;obtain rfl:=Yd hx;exact h1
  ·exact b8 _ _ _ (oe h j af hx (Yi hj)) h1
def cb(a b:ByteArray):Int:=Lib.compareBytes a.data.toList b.data.toList
def TwN(u v:Int):Fact:=λx w=> ∃b,x=J (Y3 ⟨b,0,U⟩) 2 2/\w.cell? ⟨b,0,U⟩=Y3 (Y4 Y5 u)/\w.cell? ⟨b,1,U⟩=Y3 (Y4 Y5 v)
theorem kg {t ty e:TypeId} {size:Nat} (ht:Tryz.prog.underlying t=Y3 (J e)) (hi:Tryz.prog.info? e=Y3 i) {v:Value} {n:Nat} {xs:List Value} (hown:w.ownsRow base e size v n xs) (ax:Option Addr) (cx:Nat):
  (Builtin.append_ #[t,t] ty #[v,J ax 0 cx]).run Tryz.prog w=.ok v w:=by
 exact agM
theorem aq {a:Act} (hgd:o.guard=U) (s x:Operand) (t:TypeId)
  (ho:o.op=.call { callee:=.builtin .append,args:=#[s,x],argTypes:=#[t,t] })
  (base:Nat) (e:TypeId) (i:TypeInfo) (z:Value) (size bytes:Nat) (ht:Tryz.prog.underlying t=Y3 (J e)) (hi:Tryz.prog.info? e=Y3 i) (hz:i.zero=Y3 z)
  (hsize:i.size=size) (hby:i.bytes=bytes) (hzs:z.cells.size=size) (hsz:0<size)
  (v:Value) (n:Nat) (xs:List Value) (hs:a.eval s=v) (hown:w.ownsRow base e size v n xs)
  (ax:Option Addr) (l c:Nat) (news:List Value) (hx:a.eval x=J ax l c) (hl:news.length=l*size) (hnews:∀(j:Nat) u,news[j]?=Y3 u->∃ad:Addr,ax=Y3 ad/\w.cell? (ad.add j)=Y3 u) (h1:∀u∈news,u.oneCell'=Y_)
  (h63:n+l<=maxLen) (hbytes:(n+l)*bytes<=140737488355328) (hbase:base<=w.heap.size)
  (h:∀v' w',w'.ownsRow base e size v' (n+l) (xs++news)->w.grownBy w' v.ownBlock->wpList Tryz.prog ops Q rest (a.put o.dst v') w'):wpList Tryz.prog ops Q (o ::rest) a w:=by
 rcases news with _|⟨u,news⟩
 ·have z424z:=@aa _ @aa4;exact yT
 ·obtain⟨ad,rfl,_⟩:=hnews 0 u rfl;exact dE hgd s x t t ho base e e i z size bytes ht ht hi hz hsize hby hzs hsz v n xs hs hown ad l c (u ::news) hx hl (λj y hy=>by
   obtain⟨ad',e,h2⟩:=hnews j y hy
   cases e
   exact h2) h1 h63 hbytes hbase h
structure Lq (B:Nat) (w w':World):Prop where
 os:w'.os=w.os
 tape:w'.tape=w.tape
 output:w'.output=w.output
 size:w.heap.size<=w'.heap.size
 block:∀k,k<w.heap.size->(k<B\/∃(cs:Array Value) (T:TypeId),w.heap[k]?=Y3 (Y6 cs T (0,0))/\cs.size=2)->w'.heap[k]?=w.heap[k]?
def Rq(B:Nat) (sp:Tmp):Gi.Rs:=λs w w'=>match s with
 | none=>Lq B w w'
 | some t=>if t=sp then Lq B w w' else Below w.heap.size w w'
def OwG(B n:Nat) (xs:List Value):Gi.Fact:=λu w _ _=>w.ownsRow B 132 2 u n xs
open Classical in
end Rc
-/
namespace Rc
end Rc
namespace Dk
end Dk
def gW(u n:Nat) (r:ByteArray):Prop:=n<=u/\(if n=0 then [] else YV n)++r.data.toList=YV u
def dgB(n:Nat):UInt8:=UInt8.ofNat (48+n % 10)
namespace Dk
end Dk
namespace Rc
section
variable {B:Nat} {w0:World} {p:Nat} {v:Value} {len X b:Nat} {c:Cl} {w w1 w2:World} {d:Ad} {c':Cl}
end
def alV(B:Nat):Fact:=λv w=> ∃b,v=Zd (Y3 ⟨b,0,U⟩)/\B<=b/\w.heap[b]?=Y3 (Y6 #[J U 0 0,J U 0 0,J U 0 0,J U 0 0,J U 0 0,Y4 Y5 0,I ⟨#[]⟩,Y4 Y5 0] 33 (0,0))
def amz(Is:Co->Prop) (w:World) (e:Ending) (w':World):Prop:=∃g o,e=Y9 (Za #[J g.a1 g.l1 g.c1,J g.a2 g.l2 g.c2,J g.a3 g.l3 g.c3,J g.a4 g.l4 g.c4,J g.a5 g.l5 g.c5,Y4 Y5 o.c.now,I o.n,Y4 Y5 o.p])/\Is o/\cZ w' g o.c.raw (λ_=>True)/\Below w.heap.size w w'
def al0(Is:Co->Prop):Fact:=λv w=> ∃g o,v=Za #[J g.a1 g.l1 g.c1,J g.a2 g.l2 g.c2,J g.a3 g.l3 g.c3,J g.a4 g.l4 g.c4,J g.a5 g.l5 g.c5,Y4 Y5 o.c.now,I o.n,Y4 Y5 o.p]/\Is o/\cZ w g o.c.raw (λ_=>True)
def OwF(B:Nat) (Is:Co->Prop):Fact:=λv w=> ∃g o,v=Za #[J g.a1 g.l1 g.c1,J g.a2 g.l2 g.c2,J g.a3 g.l3 g.c3,J g.a4 g.l4 g.c4,J g.a5 g.l5 g.c5,Y4 Y5 o.c.now,I o.n,Y4 Y5 o.p]/\Is o/\cX w g o.c.raw (λk=>B<=k)
end Rc
-/
namespace Gs
def uF(SR:World->World->Prop) (φ:Fact):Prop:=φ.bH/\∀v w w',φ v w->SR w w'->φ v w'
theorem Qj(SR:World->World->Prop) (c:Value):uF SR (λv _=>v=c):=⟨Fact.cV c,λ_ _ _ h _=>h⟩
def alH(SR:World->World->Prop) (t4:Tmp) (Ψ:Fact) (P:Program) (ops:Array Oper) (Q:Exit->Act->World->Prop) (W:World) (a0:Act) (known:List (Tmp×Fact)) (o:Oper):Prop:=
 ∀(a:Act) (w:World) (K:Act->World->Prop),a.tmps.size=a0.tmps.size->Below W.heap.size W w->(∀t∈o.looksAt ops,aj a0 known a w t)->
  (∀v w',SR w w'->Ψ (a.tmps.getD t4 undef) w'->K (a.put o.dst v) w')->if YM o (yielded ops a.tmps)=Y_ then o.wp P a w K Q else K (a.put o.dst undef) w
def Fin(t4:Tmp) (Ψ:Fact) (P:Program) (ops:Array Oper) (Q:Exit->Act->World->Prop) (W:World) (a0:Act) (back:Option Oper) (known:List (Tmp×Fact)):Prop:=
 ∀(x:Tmp->Value) (w:World),Below W.heap.size W w->(∀p∈known,p.2 (x p.1) w)->Ψ ((aJ a0 known x).tmps.getD t4 undef) w->fG P ops Q back (aJ a0 known x) w
def Grow(SR:World->World->Prop) (t4:Tmp) (Ψ:Fact) (P:Program) (ops:Array Oper) (Q:Exit->Act->World->Prop) (W:World) (a0:Act) (back:Option Oper):List Oper->List (Tmp×Fact)->Prop
 | [],known=>Fin t4 Ψ P ops Q W a0 back known
 | o ::rest,known=> ∃φ:Fact,uF SR φ/\(¬o.dst=U->Obl P ops Q W a0 known o φ)/\(o.dst=U->alH SR t4 Ψ P ops Q W a0 known o)/\Grow SR t4 Ψ P ops Q W a0 back rest (kn o.dst φ known)
section
variable {SR:World->World->Prop} {t4:Tmp} {Ψ:Fact} {P:Program} {ops:Array Oper} {Q:Exit->Act->World->Prop} {W:World} {a0:Act} {back:Option Oper}
structure At (t4:Tmp) (Ψ:Fact) (front:List Oper) (φs:List Fact) (W:World) (a0:Act) (listed:Array Bool) (a:Act) (w:World):Prop where
 old:Go.Proofs.YtiplhgedmjoliaaGreatDoor.At front φs W a0 listed a w
 sto:∀(i:Nat) (o:Oper),front[i]?=Y3 o->o.dst=U->listed.getD i Y8=Y_->Ψ (a.tmps.getD t4 undef) w/\∀(i':Nat) (p:Oper),front[i']?=Y3 p->p.dst=Y3 t4->listed.getD i' Y8=Y_
theorem BZ {i:Nat} (h:listed.getD i Y8=Y_):(listed.setIfInBounds j Y_).getD i Y8=Y_:=by
 by_cases e:j=i
 ·subst e;simp only[Yp,Array.getElem?_setIfInBounds];split
  ·split
   ·rfl
   ·simp[Yp] at h;next hx=>
     have:listed[j]?=U:=Array.getElem?_eq_none_iff.2 af;rw[this] at h
     cases h
  ·contradiction
 ·simpa[Yp,Array.getElem?_setIfInBounds,e] using h
theorem AM {i:Nat} (e:¬j=i) (h:(listed.setIfInBounds j Y_).getD i Y8=Y_):listed.getD i Y8=Y_:=by
 simpa[Yp,Array.getElem?_setIfInBounds,e] using h
end
structure Form (W w w':World):Prop where
 low:Below W.heap.size w w'
 form:∀(k:Nat) (cs:Array Value) (T:TypeId),w.heap[k]?=Y3 (Y6 cs T (0,0))->∃cs',cs'.size=cs.size/\w'.heap[k]?=Y3 (Y6 cs' T (0,0))
def alO(W:World) (m:Nat) (T:TypeId):Fact:=λv w=> ∃g cs,v=Zd (Y3 ⟨g,0,U⟩)/\W.heap.size<=g/\cs.size=m/\w.heap[g]?=Y3 (Y6 cs T (0,0))
def ahl(W:World) (cs:Array Value) (T:TypeId):Fact:=λv w=> ∃g,v=Zd (Y3 ⟨g,0,U⟩)/\W.heap.size<=g/\w.heap[g]?=Y3 (Y6 cs T (0,0))
end Gs
end Go.Proofs.YtiplhgedmjoliaaGreatDoor

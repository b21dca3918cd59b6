import Derived.Test.YtbbdcjbfnjlndaaGreatDoorC4
import Derived.Laws.CopyRow
import Derived.Laws.Tables
import Derived.Laws.Rows
import Derived.Laws.CopyOwn
import Derived.Shelf.Strings.OnBuilder
/-
 The pairs that are to be taken off, as the program tells them.
-/
set_option maxRecDepth 100000
set_option maxHeartbeats 12800000
open And renaming intro→xf
open Array renaming getElem?_push_size→xt, getD_eq_getD_getElem?→xv, getElem?_eq_some_iff→xA, getElem?_setIfInBounds→xJ, length_toList→yF, getElem?_eq_getElem→yO
open Bool renaming and_eq_true→yk
open Classical renaming byContradiction→yj
open Go.Act renaming put→yx
open Go.Addr renaming add_lit→xB
open Go.Builtin renaming append_→xU, zeroCells→yS, copy_→za
open Go.Calls renaming quiet_of_same→xI
open Go.Op renaming bytesLess→xn
open Go.Region renaming ready→xY, binds→yp, wanted→yA
open Go.RowKit.Below renaming heap_setCell→xi, refl→xj, heap_alloc→xM
open Go.Value renaming string→xo
open Go.World renaming setCell→xZ, block_lt_of_cell?→x8, ownsRow_nil→yq, cell?_of_block→yr
open Int renaming le_trans→xQ, add_assoc→yv
open List renaming getElem?_eq_some_iff→xe, lookup→xg, getElem?_eq_getElem→xm, getElem?_map→xq, take_of_length_le→xw, setIfInBounds_toArray→xx, mem_of_getElem?→xD, length_take→xE, getElem?_take→xF, set_cons_zero→xG, forall_mem_cons→xH, set_cons_succ→xK, eq_nil_of_length_eq_zero→xN, length_append→xO, getElem?_append_left→xP, length_map→xR, getElem?_of_mem→xS, mem_cons→xV, drop_eq_nil_of_le→xW, getElem?_drop→xX, take_add_one→yb, length_drop→yf, getLast→yg, getElem?_eq_none→yi, foldr→yo, range→yt, mem_cons_self→yD, pairwise_append→yJ, pairwise_cons→yL, filter_append→yM, pairwise_iff_getElem→yP, size_toArray→yT, take_left'→yZ, length_filter_le→zb, mem_cons_of_mem→zd, mem_of_mem_drop→ze
open Nat renaming le_refl→xk, le_trans→xp, lt_of_lt_of_le→xr, le_succ→xC, zero_add→xL, eq_zero_or_pos→yy
open Option renaming map_eq_some_iff→xu
open Option.some renaming inj→xh, injEq→ym
namespace Go.Proofs.YtbbdcjbfnjlndaaGreatDoor
theorem kg {p:Prop} (h:p:=by rw[xR,xE];omega):p:=h
theorem kf {p:Prop} (h:p:=by rw[xR,yf];omega):p:=h
theorem nj {p:Prop} (h:p:=by simp[Act.eval,yx]):p:=h
theorem pO {p:Prop} (h:p:=by simp[results,Tryz.results93,go_sem]):p:=h
end Go.Proofs.YtbbdcjbfnjlndaaGreatDoor
namespace Go.Proofs.YtbbdcjbfnjlndaaGreatDoor
theorem u7 {p:Prop} (h:p:=by
 go_enter Tryz.func154,Tryz.ntmps154;go_wp2_with (first|(at_builtin;refine cr rfl _ _ 123 32 rfl base 62 62 i0 (.agg #[.string ⟨#[]⟩,.int .i64 0,.string ⟨#[]⟩,.string ⟨#[]⟩,.bool false,.string ⟨#[]⟩,.bool false,.slice none 0 0]) 8 112 Tryz.underlying123 Tryz.underlying32 HI0.1 HI0.2.1 HI0.2.2.1 HI0.2.2.2 rfl aj _ _ _ rfl HO.out ⟨vb,0,none⟩ 1 1 ys rfl af HYN.out HY1.out bJ af hbs ?_));intro v' w' h1 h2;have H1:=aa h1;have H2:=aa h2;clear h1 h2;go_wp2;go_ret;exact⟨v',rfl,H1.out,H2.out⟩):p:=h
theorem uV {p:Prop} (h:p:=by
 clear hf;go_simp;refine (cD d c.now c.vs y.n w _ HR.v (HB.trans (hW.mono HB.size))).mono ?_;rintro e w6 ⟨hb6,hf⟩;have hit9:=cV HT.2.1.2.2.1.2.2 HV0.out HVN.out;rcases hf with ⟨hh,n9,va,vl,vc,hx,hn9,rfl,-,-,-,-,hrow⟩|⟨hh,rfl⟩;rotate_left
 ·rw[hit9.2] at hh;cases hh
 obtain⟨-,rfl⟩:=HT.2.1.2.2.1.2.2.inj HV0.out hx (HVN.trans hn9.symm);exact hK _ _ hb6 ⟨va,vl,vc,rfl,hrow⟩):p:=h
theorem uM {p:Prop} (h:p:=by
 go_wp2;refine⟨⟨n+1,ca,cl,cc,ys,by omega,by go_num,rfl,⟨HQ.1.below HY2.out,HQ.2.1,fun q=>?_,by omega⟩,HL2.trans (HY2.out.mono hs3)⟩,by simp[intOf];omega⟩;rw[HQ.2.2.1,Xc.no HXT.out (fun h=>by have h9:=HI.2 ((Mof.iff HT.2.1.1.2.2 HJ.out HJN.out).1 h.2);cases h9)]):p:=h
theorem uI {p:Prop} (h:p:=by
 clear hgk hrow;go_simp;refine hK undef _ ?_ ?_
 ·exact cR hgB (cR hgB (cR hgB (cR hgB (cR hgB (cR hgB (cR hgB (cR hgB (oX _ _))))))))
 ·exact⟨g,va,vl,vc,by simpa using EP.out,hgB,HRO.out,wO HGK.out _ _ _ _ _ _ _ _⟩):p:=h
theorem um {p:Prop} (h:p:=by
 rintro e w6 ⟨d',rfl,ho6,hb6⟩;rw[po HT.out HV0.out] at ho6;have hs6:=hW.size;exact hK _ _ hb6 ⟨d',rfl,ho6.dX (fun k _ s=>by have s1:wg.heap.size<=k:=s;show wz.heap.size<=k;omega)⟩):p:=h
theorem rL {p:Prop} (h:p:=by
 refine Obl.plain rfl ?_;intro ac wg K hsz hW hf hK;clear hsz;clear hf;go_simp;exact hK _ _ (al _ _) ⟨_,_,_,_,_,_,_,_,_,rfl,hW.size,xt⟩):p:=h
theorem jc {p:Prop} (h:p:=by
 go_simp;exact hK _ _ (xj _ _) ⟨va,vl,vc,rfl,hrow⟩):p:=h
theorem rp {p:Prop} (h:p:=by
 have h1:=(HES.2 q).2 hq;obtain⟨j,hj⟩:=xS h1;have:=(xe.1 hj).1;omega):p:=h
theorem lT {p:Prop} (h:p:=by
 rintro v w w' ⟨d,h1,h2⟩ hb;exact⟨d,h1,h2.below hb⟩):p:=h
theorem fK {p:Prop} (h:p:=by
 clear hf;obtain⟨e0,e1,e2,e3,e4,e5,e6,e7⟩:=cs8 ((hW.block _ (ae HGV.out)).trans HGV.out);exact bx):p:=h
theorem qY {p:Prop} (h:p:=by
 go_wp2;refine⟨⟨n+1,sa,sl,sc,zs2,by omega,by go_num,rfl,⟨HO2.out,HP2.tv HQ.2.1,fun q=>?_,by have h9:=HP2.len;omega⟩,HL2.trans (HY2.out.mono hs3)⟩,by simp[intOf];omega⟩;rw[HP2.mem,HQ.2.2.1,Xc.yes HXT.out HNW.out HMO.out,or_assoc]):p:=h
theorem qX {p:Prop} (h:p:=by
 refine Obl.plain rfl ?_;intro ac wg K hsz hW hf hK;clear hsz;have e1:=hf 1 aj;simp[ak,xg] at e1;clear hf;obtain⟨d0,d1,d2,d3,d4,d5⟩:=cs6 ((hW.block _ (ae BkZ.out)).trans BkZ.out);exact bx):p:=h
theorem qW {p:Prop} (h:p:=by
 refine Obl.plain rfl ?_;intro ac wg K hsz hW hf hK;clear hsz;have e1:=hf 1 aj;simp[ak,xg] at e1;clear hf;obtain⟨d0,d1,d2,d3,d4,d5⟩:=cs6 ((hW.block _ (ae Bk.out)).trans Bk.out);exact bx):p:=h
theorem qO {p:Prop} (h:p:=by
 refine Obl.plain rfl ?_;intro ac wg K hsz hW hf hK;clear hsz;have e7:=hf 7 aj;simp[ak,xg] at e7;clear hf;exact bx):p:=h
theorem qN {p:Prop} (h:p:=by
 refine Obl.plain rfl ?_;intro ac wg K hsz hW hf hK;clear hsz;have e6:=hf 6 aj;simp[ak,xg] at e6;clear hf;exact bx):p:=h
theorem qM {p:Prop} (h:p:=by
 refine Obl.plain rfl ?_;intro ac wg K hsz hW hf hK;clear hsz;have e4:=hf 4 aj;simp[ak,xg] at e4;clear hf;exact bx):p:=h
theorem qE {p:Prop} (h:p:=by
 go_wp2;exact bodyPost_ret (v:=.agg #[.slice none 0 0,.slice none 0 0,.slice none 0 0,.slice none 0 0,.slice none 0 0,.int .i64 0,.string ⟨#[]⟩,.int .i64 cc]) (by simp[results,Tryz.results7,go_sem, *]) rfl ⟨ad0,co0 cc,rfl,HV.out,wb _ _,sb1 (sb1 (sb1 (sb1 (sb1 (sb1 (sb1 (sb1 (HB.out))))))))⟩):p:=h
theorem qC {p:Prop} (h:p:=by
 go_wp2;refine⟨⟨k+1,ca,cl,cc,ys,by omega,by go_num,rfl,⟨HQ.1,HQ.2.1,fun q=>?_,by omega⟩,HL.trans (HBP.mono af)⟩,by simp[intOf];omega⟩;rw[HQ.2.2.1,Xn.step HXx.out,hxz,hnv]):p:=h
theorem qA {p:Prop} (h:p:=by
 go_wp2;go_ret;exact⟨_,_,_,ys,rfl,HQ.1,HQ.2.1,by rw[hl3,<-hkl];exact HQ.2.2.1,by have:=HQ.2.2.2;omega,HB.out⟩):p:=h
theorem ui {p:Prop} (h:p:=by
 have ns:∀q:Wd w3,q.w.cell? ⟨b1,o1+j*7+3,none⟩=some (.int .i64 n.s):=fun q=>(q.cell (xr HNS.1 HB.size)).trans (hn9);have hne0:=Wd.ne w3;have HC0:=aa (fun q:Wd w3=>ng ⟨(some ⟨b1,o1,none⟩),l1,y1,a2,l2,y2,(some ⟨b,o,none⟩),l3,y3,a4,l4,y4,a5,l5,y5⟩ c.now c.vs x.d q.w (HR.v.below (HW.trans (q.b.mono HW.size))) h8);have HC1:=aa (fun q:Wd w3=>dZ ⟨(some ⟨b1,o1,none⟩),l1,y1,a2,l2,y2,(some ⟨b,o,none⟩),l3,y3,a4,l4,y4,a5,l5,y5⟩ c.now c.ns x.d q.w (HR.n.below (HW.trans (q.b.mono HW.size))) HT.2.1.1.2.2 HN.out HNN.out);exact xf ns (xf hne0 (xf HC0 HC1))):p:=h
theorem nG {p:Prop} (h:p:=by
 have fr0:=aw Br6.out 0;have fr1:=aw Br6.out 1;have fr2:=aw Br6.out 2;have fr3:=aw Br6.out 3;have fr4:=aw Br6.out 4;have fr5:=aw Br6.out 5;have fr6:=aw Br6.out 6;have fr7:=aw Br6.out 7;exact xf fr0 (xf fr1 (xf fr2 (xf fr3 (xf fr4 (xf fr5 (xf fr6 fr7))))))):p:=h
theorem tZ {p:Prop} (h:p:=by
 have BkZ:=upK Bk HWZ.out;have BrZ:=upK Br HWZ.out;have HBZ:=aa (HB.trans (HWZ.mono HB.size));have HYZ:=aa ((ai HWZ.out HYB.out).trans HY1.out);have HYBZ:Hid (b<wz.heap.size):=xr HYB.out HWZ.size;have HRZ:=aa (HR.below HBZ.out);have HROZ:=aa (HRO.below HBZ.out);have hvk:=HT.2.1.2.2.1.2.1 i x HV0.out;exact xf BkZ (xf BrZ (xf HBZ (xf HYZ (xf HYBZ (xf HRZ (xf HROZ hvk))))))):p:=h
theorem tR {p:Prop} (h:p:=by
 have HOW:Hid ((w.alloc (.cells #[] 9)).ownsRow w.heap.size 9 1 (.slice (some ⟨w.heap.size,0,none⟩) 0 0) 0 []):=World.ownsRow_made w #[] 0 (xk _) (Nat.zero_le _) aT;have hik:(k:Int)<=cap:=af
 have hkn:k<=cap:=af
 exact xf HOW (xf hik hkn)):p:=h
theorem tM {p:Prop} (h:p:=by
 have hbP:Below W1.heap.size W1 wr:=(al W1 (.cells (vov x va vl vc) 62)).trans (HL2.mono af);have Bp:=aa ((HL2.block W1.heap.size af).trans (heap_alloc_new W1 (.cells (vov x va vl vc) 62)));exact xf hbP Bp):p:=h
end Go.Proofs.YtbbdcjbfnjlndaaGreatDoor
namespace Go.Proofs.YtbbdcjbfnjlndaaGreatDoor
open Go.RowKit
namespace Rc
open Mk

def Wnt (c:Cl) (v:Vd) (t:ByteArray):Prop:=∃(j:Nat) (p:Pd),c.ps[j]?=some p/\ia p t v.m
def Mof (c:Cl) (v:Vd) (t:ByteArray):Prop:=∃(j:Nat) (n:Nd),c.ns[j]?=some n/\n.n=t/\ln c n v.n
def Xc (c:Cl) (v:Vd) (k:Nat) (q:Qd):Prop:=∃(i:Nat) (t:ByteArray),i<k/\v.zs[i]?=some t/\¬Wnt c v t/\Mof c v t/\q=⟨v.n,t⟩
def Xn (c:Cl) (k:Nat) (q:Qd):Prop:=∃(j:Nat) (v:Vd),j<k/\c.vs[j]?=some v/\Xc c v v.zs.length q
def sC (c:Cl) (B:Nat) (w:World) (e:Ending) (w':World):Prop:=∃a' l' c' zs',e=.returned (.slice a' l' c')/\az w' a' l' c' 2 58 (zs'.map qdF) (fun k=>B<=k)/\RQ zs'/\(∀q,q∈zs'↔Xn c c.vs.length q)/\zs'.length<=64/\Below w.heap.size w w'
theorem Mof.iff {c:Cl} {v:Vd} {t:ByteArray} {j:Nat} {n:Nd} (hr:aJ Nd.n c.ns) (h:c.ns[j]?=some n) (hn:n.n=t):Mof c v t↔ln c n v.n:=by
 constructor
 ·rintro⟨j',n',h',hn',ho⟩;obtain⟨-,rfl⟩:=hr.inj h h' (hn.trans hn'.symm);exact ho
 ·exact fun ho=>⟨j,n,h,hn,ho⟩
theorem Xc.yes {c:Cl} {v:Vd} {k:Nat} {t:ByteArray} {q:Qd} (ht:v.zs[k]?=some t) (h1:¬Wnt c v t) (h2:Mof c v t):Xc c v (k+1) q↔Xc c v k q\/q=⟨v.n,t⟩:=by
 constructor
 ·rintro⟨i,s,hi,hs,a,b,e⟩;by_cases h:i=k
  ·subst h;rw[ht] at hs;obtain rfl:=xh hs;exact .inr e
  ·exact .inl ⟨i,s,by omega,hs,a,b,e⟩
 ·rintro (⟨i,s,hi,hs,a,b,e⟩|e)
  ·exact⟨i,s,by omega,hs,a,b,e⟩
  ·exact⟨k,t,by omega,ht,h1,h2,e⟩
theorem Xc.no {c:Cl} {v:Vd} {k:Nat} {t:ByteArray} {q:Qd} (ht:v.zs[k]?=some t) (h1:¬(¬Wnt c v t/\Mof c v t)):Xc c v (k+1) q↔Xc c v k q:=by
 constructor
 ·rintro⟨i,s,hi,hs,a,b,e⟩;by_cases h:i=k
  ·subst h;rw[ht] at hs;obtain rfl:=xh hs;exact absurd ⟨a,b⟩ h1
  ·exact⟨i,s,by omega,hs,a,b,e⟩
 ·rintro⟨i,s,hi,hs,a,b,e⟩;exact⟨i,s,by omega,hs,a,b,e⟩
theorem Xn.step {c:Cl} {k:Nat} {v:Vd} {q:Qd} (hv:c.vs[k]?=some v):Xn c (k+1) q↔Xn c k q\/Xc c v v.zs.length q:=by
 constructor
 ·rintro⟨i,s,hi,hs,a⟩;by_cases h:i=k
  ·subst h;rw[hv] at hs;obtain rfl:=xh hs;exact .inr a
  ·exact .inl ⟨i,s,by omega,hs,a⟩
 ·rintro (⟨i,s,hi,hs,a⟩|a)
  ·exact⟨i,s,by omega,hs,a⟩
  ·exact⟨k,v,by omega,hv,a⟩

theorem sk (d:Ad) (c:Cl) (w:World) (hr:aK w d c.raw) (hT:a8 c):
  Calls Tryz.prog 34 #[.agg #[.slice d.a1 d.l1 d.c1,.slice d.a2 d.l2 d.c2,.slice d.a3 d.l3 d.c3,.slice d.a4 d.l4 d.c4,.slice d.a5 d.l5 d.c5,.int .i64 c.now]] w (sC c (w.heap.size+1) w):=by
 obtain⟨a1,l1,y1,a2,l2,y2,a3,l3,y3,a4,l4,y4,a5,l5,y5⟩:=d;dsimp only;obtain⟨HR,hl1,hm1,hl2,hm2,hl3,hm3,hl4,hm4,hl5,hm5⟩:=lP;clear hr;have HT:=aa hT;clear hT;have h58:c.vs.length<=8:=by have:=HT.sm.v;omega
 go_enter Tryz.func34,Tryz.ntmps34;go_wp2;go_loopw [3,11] (fun vo vi wr=> ∃(k:Nat) (ca:Option Addr) (cl cc:Nat) (ys:List Qd),k<=l3/\vi=.int .i64 k/\vo=.slice ca cl cc/\Hid (az wr ca cl cc 2 58 (ys.map qdF) (fun j=>w.heap.size+1<=j)/\RQ ys/\(∀q,q∈ys↔Xn c k q)/\ys.length<=8*k)/\Hid (Below (w.heap.size+1) (w.alloc (.cells #[.slice a1 l1 y1,.slice a2 l2 y2,.slice a3 l3 y3,.slice a4 l4 y4,.slice a5 l5 y5,.int .i64 c.now] 36)) wr)) (fun _ vi _=>l3 - (intOf vi).toNat);case atStart=>exact⟨0,_,0,0,[],by omega,rfl,rfl,⟨⟨rfl,xk _,by omega,.inl rfl⟩,List.Pairwise.nil,fun q=>⟨fun h=>by simp at h,fun ⟨j,p,h,_⟩=>by omega⟩,by simp⟩,xj _ _⟩
 case round=>
  obtain⟨k,ca,cl,cc,ys,hk,rfl,rfl,HQ,HL⟩:=hrel;obtain⟨Bk,HB,hLs⟩:=qg;by_cases hlt:k<l3
  ·obtain⟨b,o,x,rfl,hb,hx,hat⟩:=bq (HR.v.below HB.out) hlt;obtain⟨va,vl,vc,hvr,z0,z2,z3,z5,c0,c1,c2,c3,c4,c5,c6,c7⟩:=aE hat;have HXx:=aa hx;have HTx:=aa hvr;have HZx0:=aa z0;have HZx2:=aa z2;have HZx3:=aa z3;have HZx5:=aa z5;clear hat hx z0 z2 z3 z5 hvr;have hbw:=hb;clear hb;have hk1:(k:Int)<l3:=af
   obtain⟨W1,hW1⟩:∃W1,W1=wr:=⟨_,rfl⟩;subst hW1;have hxz:x.zs.length=vl:=HTx.1;have hv3:vl<=8:=by have h9:=(dD (HT.2.1.2.2.1.2.1 k x HXx.out).2.2.2.2.2.2).1;omega
   have hyb:=HQ.2.2.2;obtain⟨k0,k1,k2,k3,k4,k5⟩:=cs6 Bk;have ltk_0:=ae Bk.out;go_wp2;clear k0 k1 k2 k3 k4 k5 ltk_0;clear c0 c1 c2 c3 c4 c5 c6 c7 hbw;go_loopw [3,18] (fun vo vi wr=> ∃(n:Nat) (ca:Option Addr) (cl cc:Nat) (ys:List Qd),n<=vl/\vi=.int .i64 n/\vo=.slice ca cl cc/\Hid (az wr ca cl cc 2 58 (ys.map qdF) (fun j=>w.heap.size+1<=j)/\RQ ys/\(∀q,q∈ys↔Xn c k q\/Xc c x n q)/\ys.length<=8*k+n)/\Hid (Below (W1.heap.size+1) (W1.alloc (.cells #[.string x.n,.int .i64 x.c,.string x.z,.string x.k,.bool x.x,.string x.m,.bool x.y,.slice va vl vc] 62)) wr)) (fun _ vi _=>vl - (intOf vi).toNat);case atStart=>exact⟨0,_,_,_,ys,by omega,rfl,rfl,⟨HQ.1.below (al _ _),HQ.2.1,fun q=>by rw[HQ.2.2.1];exact⟨.inl,fun h=>h.elim id (fun ⟨i,t,h,_⟩=>by omega)⟩,by omega⟩,xj _ _⟩
   case round=>
    clear HQ hyb;obtain⟨n,ca,cl,cc,ys,hn,rfl,rfl,HQ,HL2⟩:=hrel;obtain⟨hbP,Bp⟩:=tM;replace Bk:=upK Bk hbP;replace HB:=upB HB hbP;have HBP:=aa hbP;have hs2:=hbP.size;obtain⟨hs3,hyl,hyb⟩:=qb;clear hbP;by_cases hlt2:n<vl
    ·have hk3:(n:Int)<vl:=af
     obtain⟨b2,o2,t,rfl,hb2,hx2,hc2,hsz2⟩:=(HTx.below HBP.out).at hlt2;have HXT:=aa hx2;obtain⟨j,nd,hj,hjn,-⟩:=HT.2.2.2.2.1.1 k x HXx.out n t hx2;have HJ:=aa hj;have HJN:=aa hjn;have HZT:=aa hsz2;clear hj hjn hx2 hsz2;have HY2:Hid (Bw wr wr):=Bw.refl _;obtain⟨k0,k1,k2,k3,k4,k5⟩:=cs6 Bk;have ltk_0:=ae Bk.out;obtain⟨p0,p1,p2,p3,p4,p5,p6,p7⟩:=cs8 Bp;have ltp_0:=ae Bp.out;go_wp2_with fail;refine (sV ⟨a1,l1,y1,a2,l2,y2,(some ⟨b,o,none⟩),l3,y3,a4,l4,y4,a5,l5,y5⟩ c x (some ⟨b2,o2,none⟩) vl vc t _ (HR.below HB.out)).mono ?_;rintro e w2 ⟨r,rfl,hi,hb3⟩;clear k0 k1 k2 k3 k4 k5 ltk_0 p0 p1 p2 p3 p4 p5 p6 p7 ltp_0;replace Bk:=upK Bk hb3;replace Bp:=upK Bp hb3;replace HY2:=aa (HY2.below hb3);replace HB:=upB HB hb3;clear hb3;have HI:=aa hi;clear hi hb2 hc2;cases r;rotate_left
     ·obtain⟨k0,k1,k2,k3,k4,k5⟩:=cs6 Bk;have ltk_1:=ae Bk.out;obtain⟨p0,p1,p2,p3,p4,p5,p6,p7⟩:=cs8 Bp;have ltp_1:=ae Bp.out;go_wp2;refine⟨⟨n+1,ca,cl,cc,ys,by omega,by go_num,rfl,⟨HQ.1.below HY2.out,HQ.2.1,fun q=>?_,by omega⟩,HL2.trans (HY2.out.mono hs3)⟩,by simp[intOf];omega⟩;rw[HQ.2.2.1,Xc.no HXT.out (fun h=>h.1 (HI.1 bA))]
     have HNW:Hid (¬Wnt c x t):=fun h=>by have h9:=HI.2 h;cases h9
     clear HI;obtain⟨k0,k1,k2,k3,k4,k5⟩:=cs6 Bk;have ltk_1:=ae Bk.out;obtain⟨p0,p1,p2,p3,p4,p5,p6,p7⟩:=cs8 Bp;have ltp_1:=ae Bp.out;go_wp2_with fail;refine (oR ⟨a1,l1,y1,a2,l2,y2,(some ⟨b,o,none⟩),l3,y3,a4,l4,y4,a5,l5,y5⟩ c x.n t j nd _ (HR.below HB.out) HT.out HJ.out HJN.out).mono ?_;rintro e w3 ⟨r,rfl,hi,hb3⟩;clear k0 k1 k2 k3 k4 k5 ltk_1 p0 p1 p2 p3 p4 p5 p6 p7 ltp_1;replace Bk:=upK Bk hb3;replace Bp:=upK Bp hb3;replace HY2:=aa (HY2.below hb3);replace HB:=upB HB hb3;clear hb3;have HI:=aa hi;clear hi;cases r
     ·obtain⟨k0,k1,k2,k3,k4,k5⟩:=cs6 Bk;have ltk_2:=ae Bk.out;obtain⟨p0,p1,p2,p3,p4,p5,p6,p7⟩:=cs8 Bp;have ltp_2:=ae Bp.out;exact uM
     have HMO:Hid (Mof c x t):=(Mof.iff HT.2.1.1.2.2 HJ.out HJN.out).2 (HI.1 bA);clear HI;obtain⟨k0,k1,k2,k3,k4,k5⟩:=cs6 Bk;have ltk_2:=ae Bk.out;obtain⟨p0,p1,p2,p3,p4,p5,p6,p7⟩:=cs8 Bp;have ltp_2:=ae Bp.out;go_wp2_with fail;refine (iL ca cl cc ys ⟨x.n,t⟩ (w.heap.size+1) _ (HQ.1.below HY2.out) (by have:=HY2.le;omega) HQ.2.1 af HZx0.out HZT.out).mono ?_;rintro e w4 ⟨sa,sl,sc,zs2,rfl,ho2,hp2,hb3⟩;clear k0 k1 k2 k3 k4 k5 ltk_2 p0 p1 p2 p3 p4 p5 p6 p7 ltp_2;replace Bk:=upK Bk hb3;replace Bp:=upK Bp hb3;replace HY2:=aa (HY2.below hb3);replace HB:=upB HB hb3;clear hb3;have HP2:=aa hp2;have HO2:=aa ho2;clear hp2 ho2;obtain⟨k0,k1,k2,k3,k4,k5⟩:=cs6 Bk;have ltk_3:=ae Bk.out;obtain⟨p0,p1,p2,p3,p4,p5,p6,p7⟩:=cs8 Bp;have ltp_3:=ae Bp.out;exact qY
    have hk3:¬(n:Int)<vl:=af
    have hnv:n=vl:=af
    obtain⟨p0,p1,p2,p3,p4,p5,p6,p7⟩:=cs8 Bp;have ltp_0:=ae Bp.out;exact qC
  have hk1:¬(k:Int)<l3:=af
  have hkl:k=l3:=af
  obtain⟨k0,k1,k2,k3,k4,k5⟩:=cs6 Bk;have ltk_0:=ae Bk.out;exact qA

def lq (c:Cl) (v:Vd) (n:Nd):Prop:=¬InL v.zs n.n/\¬(v.x=true/\0<v.zs.length)/\onOf n.n c.vs<n.s

theorem oS (d:Ad) (c:Cl) (x:Qd) (i j:Nat) (v:Vd) (n:Nd) (w:World) (hr:aK w d c.raw) (hT:a8 c) (hv:c.vs[i]?=some v) (hvn:v.n=x.n) (hn:c.ns[j]?=some n) (hnn:n.n=x.d):
  Calls Tryz.prog 97 #[.agg #[.slice d.a1 d.l1 d.c1,.slice d.a2 d.l2 d.c2,.slice d.a3 d.l3 d.c3,.slice d.a4 d.l4 d.c4,.slice d.a5 d.l5 d.c5,.int .i64 c.now],.agg #[.string x.n,.string x.d]] w (aq (lq c v n) w):=by
 have HR:=aa hr;have HT:=aa hT;have HV:=aa hv;have HVN:=aa hvn;have HN:=aa hn;have HNN:=aa hnn;have h8:c.vs.length<=8:=hT.sm.v;have HB:=aa (xj w.heap.size w);clear hr hT hn hnn hv hvn;go_enter Tryz.func97,Tryz.ntmps97;go_wp2_with fail;refine (cD d c.now c.vs x.n w _ HR.v (aM _ _ _)).mono ?_;rintro e w1 ⟨hb,hf⟩;obtain⟨HA0,HA1,hbx⟩:=de hb;have Bk:=aa HA0;have Bx:=aa HA1;replace HB:=upB HB hbx;clear hb hbx HA0 HA1;have hit9:=cV HT.2.1.2.2.1.2.2 HV.out HVN.out;rcases hf with ⟨hh,n9,va,vl,vc,hx,hn9,rfl,hf9⟩|⟨hh,rfl⟩;rotate_left
 ·rw[hit9.2] at hh;cases hh
 obtain⟨-,rfl⟩:=HT.2.1.2.2.1.2.2.inj HV.out hx (HVN.trans hn9.symm);have HZ:=aa hf9;clear hx hn9 hh hit9 hf9;obtain⟨k0,k1,k2,k3,k4,k5⟩:=cs6 Bk;have ltk_1:=ae Bk.out;obtain⟨x0,x1⟩:=cs2 Bx;have ltx_1:=ae Bx.out;go_wp2_with fail;refine (dz d c.now c.ns x.d w _ HR.n (HB.trans ((al _ _).mono HB.size))).mono ?_;rintro e w2 ⟨hb,hf⟩;clear k0 k1 k2 k3 k4 k5 ltk_1 x0 x1 ltx_1;obtain⟨HA0,hbx⟩:=aH hb;replace Bk:=upK Bk hbx;replace Bx:=upK Bx hbx;have Bv:=aa HA0;replace HB:=upB HB hbx;clear hb hbx HA0;have hit9:=cV HT.2.1.1.2.2 HN.out HNN.out;rcases hf with ⟨hh,n9,na,nl,nc,hx,hn9,rfl,-⟩|⟨hh,rfl⟩;rotate_left
 ·rw[hit9.2] at hh;cases hh
 obtain⟨-,rfl⟩:=HT.2.1.1.2.2.inj HN.out hx (HNN.trans hn9.symm);clear hx hn9 hh hit9;obtain⟨k0,k1,k2,k3,k4,k5⟩:=cs6 Bk;have ltk_2:=ae Bk.out;obtain⟨x0,x1⟩:=cs2 Bx;have ltx_2:=ae Bx.out;obtain⟨v0,v1,v2,v3,v4,v5,v6,v7⟩:=cs8 Bv;have ltv_2:=ae Bv.out;go_wp2_with fail;refine (bE va vl vc v.zs n.n _ (HZ.2.2.2.2.below (HB.trans ((al _ _).mono HB.size)))).mono ?_;rintro e w3 ⟨r,rfl,hi,hb⟩;clear k0 k1 k2 k3 k4 k5 ltk_2 x0 x1 ltx_2 v0 v1 v2 v3 v4 v5 v6 v7 ltv_2;obtain⟨HA0,hbx⟩:=aH hb;replace Bk:=upK Bk hbx;replace Bx:=upK Bx hbx;replace Bv:=upK Bv hbx;have Bn:=aa HA0;replace HB:=upB HB hbx;clear hb hbx HA0;have HI:=aa hi;have hvl:v.zs.length=vl:=HZ.2.2.2.2.1;clear hi;cases r;rotate_left
 ·obtain⟨k0,k1,k2,k3,k4,k5⟩:=cs6 Bk;have ltk_3:=ae Bk.out;obtain⟨x0,x1⟩:=cs2 Bx;have ltx_3:=ae Bx.out;obtain⟨v0,v1,v2,v3,v4,v5,v6,v7⟩:=cs8 Bv;have ltv_3:=ae Bv.out;obtain⟨n0,n1,n2,n3,n4,n5,n6⟩:=cs7 Bn;have ltn_3:=ae Bn.out;go_wp2;go_ret;exact aq.f (fun h=>h.1 (HI.1 bA)) HB.out
 have HNI:Hid (¬InL v.zs n.n):=fun h=>by have h9:=HI.2 h;cases h9
 clear HI;cases hx:v.x;rotate_left
 ·(try unfold vov at Bv);rw[hx] at Bv;have HX:=aa hx;clear hx;by_cases h0:0<vl
  ·have h1:(0:Int)<vl:=af
   obtain⟨k0,k1,k2,k3,k4,k5⟩:=cs6 Bk;have ltk_3:=ae Bk.out;obtain⟨x0,x1⟩:=cs2 Bx;have ltx_3:=ae Bx.out;obtain⟨v0,v1,v2,v3,v4,v5,v6,v7⟩:=cs8 Bv;have ltv_3:=ae Bv.out;obtain⟨n0,n1,n2,n3,n4,n5,n6⟩:=cs7 Bn;have ltn_3:=ae Bn.out;go_wp2;go_ret;exact aq.f (fun h=>h.2.1 ⟨HX.out,by omega⟩) HB.out
  ·have h1:¬(0:Int)<vl:=af
   obtain⟨k0,k1,k2,k3,k4,k5⟩:=cs6 Bk;have ltk_3:=ae Bk.out;obtain⟨x0,x1⟩:=cs2 Bx;have ltx_3:=ae Bx.out;obtain⟨v0,v1,v2,v3,v4,v5,v6,v7⟩:=cs8 Bv;have ltv_3:=ae Bv.out;obtain⟨n0,n1,n2,n3,n4,n5,n6⟩:=cs7 Bn;have ltn_3:=ae Bn.out;go_wp2_with fail;clear k0 k1 k2 k3 k4 k5 ltk_3 x0 x1 ltx_3 v0 v1 v2 v3 v4 v5 v6 v7 ltv_3 n0 n1 n2 n3 n4 n5 n6 ltn_3;have Gk:=Bk;have Gx:=Bx;have Gv:=Bv;have Gn:=Bn;have HW:=HB;obtain⟨k0,k1,k2,k3,k4,k5⟩:=sl6 Gk;obtain⟨x0,x1⟩:=sl2 Gx;obtain⟨v0,v1,v2,v3,v4,v5,v6,v7⟩:=sl8 Gv;obtain⟨n0,n1,n2,n3,n4,n5,n6⟩:=sl7 Gn;have hne0:=Wd.ne w3;have HC0:=aa (fun q:Wd w3=>df d c.now c.vs n.n q.w (HR.v.below (HW.trans (q.b.mono HW.size))) h8);go_wp2_with fail;refine ag an an ?_;repeat (go_big_quiet_step (first|(go_at_call 137;exact Calls.wide (HC0.out _))|fail))
   refine wpQuiet_nil ?_;rintro _ ⟨q1,rfl⟩;have HB4:=upB HW q1.b;have Ck:=upK Gk q1.b;have Cx:=upK Gx q1.b;have Cv:=upK Gv q1.b;have Cn:=upK Gn q1.b;clear hne0 HW HB HC0 k0 k1 k2 k3 k4 k5 x0 x1 v0 v1 v2 v3 v4 v5 v6 v7 n0 n1 n2 n3 n4 n5 n6 Gk Gx Gv Gn Bk Bx Bv Bn;have HB:=HB4;clear HB4;have Bk:=Ck;clear Ck;have Bx:=Cx;clear Cx;have Bv:=Cv;clear Cv;have Bn:=Cn;clear Cn;go_wp2;go_ret;exact⟨_,rfl,by simp only[decide_eq_true_eq];exact⟨fun h=>⟨HNI.out,(fun h=>by omega),h⟩,fun h=>h.2.2⟩,HB.out⟩
 ·(try unfold vov at Bv);rw[hx] at Bv;have HX:=aa hx;clear hx;obtain⟨k0,k1,k2,k3,k4,k5⟩:=cs6 Bk;have ltk_3:=ae Bk.out;obtain⟨x0,x1⟩:=cs2 Bx;have ltx_3:=ae Bx.out;obtain⟨v0,v1,v2,v3,v4,v5,v6,v7⟩:=cs8 Bv;have ltv_3:=ae Bv.out;obtain⟨n0,n1,n2,n3,n4,n5,n6⟩:=cs7 Bn;have ltn_3:=ae Bn.out;go_wp2_with fail;clear k0 k1 k2 k3 k4 k5 ltk_3 x0 x1 ltx_3 v0 v1 v2 v3 v4 v5 v6 v7 ltv_3 n0 n1 n2 n3 n4 n5 n6 ltn_3;have Gk:=Bk;have Gx:=Bx;have Gv:=Bv;have Gn:=Bn;have HW:=HB;obtain⟨k0,k1,k2,k3,k4,k5⟩:=sl6 Gk;obtain⟨x0,x1⟩:=sl2 Gx;obtain⟨v0,v1,v2,v3,v4,v5,v6,v7⟩:=sl8 Gv;obtain⟨n0,n1,n2,n3,n4,n5,n6⟩:=sl7 Gn;have hne0:=Wd.ne w3;have HC0:=aa (fun q:Wd w3=>df d c.now c.vs n.n q.w (HR.v.below (HW.trans (q.b.mono HW.size))) h8);go_wp2_with fail;refine ag an an ?_;repeat (go_big_quiet_step (first|(go_at_call 137;exact Calls.wide (HC0.out _))|fail))
  refine wpQuiet_nil ?_;rintro _ ⟨q1,rfl⟩;have HB4:=upB HW q1.b;have Ck:=upK Gk q1.b;have Cx:=upK Gx q1.b;have Cv:=upK Gv q1.b;have Cn:=upK Gn q1.b;clear hne0 HW HB HC0 k0 k1 k2 k3 k4 k5 x0 x1 v0 v1 v2 v3 v4 v5 v6 v7 n0 n1 n2 n3 n4 n5 n6 Gk Gx Gv Gn Bk Bx Bv Bn;have HB:=HB4;clear HB4;have Bk:=Ck;clear Ck;have Bx:=Cx;clear Cx;have Bv:=Cv;clear Cv;have Bn:=Cn;clear Cn;go_wp2;go_ret;exact⟨_,rfl,by simp only[decide_eq_true_eq];exact⟨fun h=>⟨HNI.out,(fun h=>by have h9:=h.1;rw[HX.out] at h9;cases h9),h⟩,fun h=>h.2.2⟩,HB.out⟩

end Rc
end Go.Proofs.YtbbdcjbfnjlndaaGreatDoor

namespace Go.Proofs.YtbbdcjbfnjlndaaGreatDoor
open Go.RowKit
namespace Rc

section
variable {P:Program}
end

end Rc
end Go.Proofs.YtbbdcjbfnjlndaaGreatDoor

namespace Go.Proofs.YtbbdcjbfnjlndaaGreatDoor
open Go.RowKit
namespace Rc
open Mk

def UF (w:World) (g:Nat):Prop:=∃cs T,w.heap[g]?=some (.cells cs T (0,0))
def LoA (B:Nat) (w:World) (a:Option Addr) (len:Nat):Prop:=len=0\/∃b o,a=some ⟨b,o,none⟩/\B<=b/\UF w b
structure Low (B:Nat) (w:World) (d:Ad):Prop where
 n:LoA B w d.a1 d.l1
 k:LoA B w d.a2 d.l2
 v:LoA B w d.a3 d.l3
 x:LoA B w d.a4 d.l4
 p:LoA B w d.a5 d.l5
theorem lo0 (B:Nat) (w:World):Low B w ad0:=⟨.inl rfl,.inl rfl,.inl rfl,.inl rfl,.inl rfl⟩
theorem az.lo {w:World} {a:Option Addr} {len cap m:Nat} {T:TypeId} {rs:List (List Fv)} {S:Nat->Prop} (h:az w a len cap m T rs S) {B:Nat} (hS:∀k,S k->B<=k):LoA B w a len:=by
 obtain⟨h1,_,_,h4⟩:=h;rcases h4 with h4|⟨g,cur,H,h5,h6⟩
 ·subst h4;exact .inl h1.symm
 ·exact .inr ⟨g,0,h5,hS g h6.inS,_,_,h6.blk⟩
def RL (B:Nat) (w:World) (a:Option Addr) (len cap m:Nat) (rs:List (List Fv)):Prop:=aF w a len cap m rs/\LoA B w a len
theorem az.rl {w:World} {a:Option Addr} {len cap m:Nat} {T:TypeId} {rs:List (List Fv)} {S:Nat->Prop} {B:Nat} (h:az w a len cap m T rs S) (hS:∀k,S k->B<=k):RL B w a len cap m rs:=⟨h.row,h.lo hS⟩
structure lp (B:Nat) (w:World) (d:Ad) (c:Cr):Prop where
 n:RL B w d.a1 d.l1 d.c1 7 c.n
 k:RL B w d.a2 d.l2 d.c2 4 c.k
 v:RL B w d.a3 d.l3 d.c3 8 c.v
 x:RL B w d.a4 d.l4 d.c4 5 c.x
 p:RL B w d.a5 d.l5 d.c5 6 c.p
theorem lp.row {B:Nat} {w:World} {d:Ad} {c:Cr} (h:lp B w d c):aK w d c:=⟨h.n.1,h.k.1,h.v.1,h.x.1,h.p.1⟩
theorem lp.of {B:Nat} {w:World} {d:Ad} {c:Cr} (h:aK w d c) (l:Low B w d):lp B w d c:=⟨⟨h.n,l.n⟩,⟨h.k,l.k⟩,⟨h.v,l.v⟩,⟨h.x,l.x⟩,⟨h.p,l.p⟩⟩
theorem rl0 (B:Nat) (w:World):lp B w ad0 cl0.raw:=lp.of (wb w (fun _=>True)).row (lo0 B w)
def vS (Is:Co->Prop) (w:World) (e:Ending) (w':World):Prop:=∃g o,e=.returned (.agg #[.slice g.a1 g.l1 g.c1,.slice g.a2 g.l2 g.c2,.slice g.a3 g.l3 g.c3,.slice g.a4 g.l4 g.c4,.slice g.a5 g.l5 g.c5,.int .i64 o.c.now,.string o.n,.int .i64 o.p])/\Is o/\lp w.heap.size w' g o.c.raw/\Below w.heap.size w w'
theorem vS.s {Is:Co->Prop} {w:World} {e:Ending} {w':World} (h:vS Is w e w'):wx Is w e w':=by
 obtain⟨g,o,h1,h2,h3,h4⟩:=h;exact⟨g,o,h1,h2,h3.row,h4⟩

theorem jL {α:Type} {nm:α->ByteArray} {t:ByteArray} {xs:List α} {k:Nat} {x:α} (hr:aJ nm xs) (hx:xs[k]?=some x) (hn:nm x=t):wo nm t xs=xs.take k++xs.drop (k+1):=by
 have hk:k<xs.length:=(xe.1 hx).1;have e:xs=xs.take k++x ::xs.drop (k+1):=by
  have h1:xs.drop k=x ::xs.drop (k+1):=by rw[List.drop_eq_getElem_cons hk];congr 1;exact (xe.1 hx).2
  rw[<-h1,List.take_append_drop]
 have hno:∀(j:Nat) y,xs[j]?=some y->¬j=k->(!((nm y).toList==t.toList))=true:=fun j y hj hne=>by
  have:¬nm y=t:=fun q=>hne (hr.inj hj hx (q.trans hn.symm)).1;simp[bL this]
 have h1:(xs.take k).filter (fun x=> !((nm x).toList==t.toList))=xs.take k:=List.filter_eq_self.2 fun y hy=>by
  obtain⟨j,hj⟩:=xS hy;rw[xF] at hj;split at hj
  ·exact hno j y hj af
  ·cases hj
 have h2:(xs.drop (k+1)).filter (fun x=> !((nm x).toList==t.toList))=xs.drop (k+1):=List.filter_eq_self.2 fun y hy=>by
  obtain⟨j,hj⟩:=xS hy;rw[xX] at hj;exact hno _ y hj af
 unfold wo;conv=>lhs;rw[e]
 rw[yM,List.filter_cons,h1,h2,a_ hn];rfl

theorem e_ (w:World) (t t' ty e e':TypeId) (i:TypeInfo) (ht:Tryz.prog.underlying t=some (.slice e)) (ht':Tryz.prog.underlying t'=some (.slice e')) (hi:Tryz.prog.info? e=some i) (a:Option Addr) (l c:Nat) (b:Value):(xU #[t,t'] ty #[.slice a l c,b]).run Tryz.prog w=(xU #[t,t] ty #[.slice a l c,b]).run Tryz.prog w:=by
 simp[xU,run_underlying ht,run_underlying ht',sizeOf,typeInfo,hi]
theorem eO {w:World} {ops:Array Oper} {rest:List Oper} {o:Oper} {a:Act} {Q:Exit->Act->World->Prop} (hgd:o.guard=none) (s x:Operand) (t t':TypeId)
  (ho:o.op=.call { callee:=.builtin .append,args:=#[s,x],argTypes:=#[t,t'] })
  (base:Nat) (e e':TypeId) (i:TypeInfo) (z:Value) (size bytes:Nat) (ht:Tryz.prog.underlying t=some (.slice e)) (ht':Tryz.prog.underlying t'=some (.slice e')) (hi:Tryz.prog.info? e=some i) (hz:i.zero=some z)
  (hsize:i.size=size) (hby:i.bytes=bytes) (hzs:z.cells.size=size) (hsz:0<size)
  (v:Value) (n:Nat) (xs:List Value) (hs:a.eval s=v) (hown:w.ownsRow base e size v n xs)
  (ad:Addr) (m c:Nat) (news:List Value) (hx:a.eval x=.slice (some ad) m c) (hl:news.length=m*size) (hnews:∀j u,news[j]?=some u->w.cell? (ad.add j)=some u) (h1:∀u∈news,u.oneCell'=true)
  (h63:n+m<=maxLen) (hbytes:(n+m)*bytes<=140737488355328) (hbase:base<=w.heap.size)
  (h:∀v' w',w'.ownsRow base e size v' (n+m) (xs++news)->w.grownBy w' v.ownBlock->wpList Tryz.prog ops Q rest (a.put o.dst v') w'):wpList Tryz.prog ops Q (o ::rest) a w:=by
 refine wpList_plain hgd fun K hK=>?_;obtain⟨v',w',hr,h2,h3,h4⟩:=run_append_own (P:=Tryz.prog) w base t o.type e i z size bytes ht hi hz hsize hby hzs hsz v n xs hown ad m c news hl hnews h1 h63 hbytes hbase;obtain⟨va,vl,vc,rfl⟩:∃a l c,v=.slice a l c:=by
  exact qF
 rw[<-e_ w t t' o.type e e' i ht ht' hi] at hr;exact rM
theorem fb {w:World} {base:Nat} {t ty e:TypeId} {i:TypeInfo} {size:Nat} (ht:Tryz.prog.underlying t=some (.slice e)) (hi:Tryz.prog.info? e=some i) {v:Value} {n:Nat} {xs:List Value} (hown:w.ownsRow base e size v n xs) (ax:Option Addr) (cx:Nat):
  (xU #[t,t] ty #[v,.slice ax 0 cx]).run Tryz.prog w=.ok v w:=by
 exact uO
theorem aR {w:World} {ops:Array Oper} {rest:List Oper} {o:Oper} {a:Act} {Q:Exit->Act->World->Prop} (hgd:o.guard=none) (s x:Operand) (t:TypeId)
  (ho:o.op=.call { callee:=.builtin .append,args:=#[s,x],argTypes:=#[t,t] })
  (base:Nat) (e:TypeId) (i:TypeInfo) (z:Value) (size bytes:Nat) (ht:Tryz.prog.underlying t=some (.slice e)) (hi:Tryz.prog.info? e=some i) (hz:i.zero=some z)
  (hsize:i.size=size) (hby:i.bytes=bytes) (hzs:z.cells.size=size) (hsz:0<size)
  (v:Value) (n:Nat) (xs:List Value) (hs:a.eval s=v) (hown:w.ownsRow base e size v n xs)
  (ax:Option Addr) (l c:Nat) (news:List Value) (hx:a.eval x=.slice ax l c) (hl:news.length=l*size) (hnews:∀(j:Nat) u,news[j]?=some u->∃ad:Addr,ax=some ad/\w.cell? (ad.add j)=some u) (h1:∀u∈news,u.oneCell'=true)
  (h63:n+l<=maxLen) (hbytes:(n+l)*bytes<=140737488355328) (hbase:base<=w.heap.size)
  (h:∀v' w',w'.ownsRow base e size v' (n+l) (xs++news)->w.grownBy w' v.ownBlock->wpList Tryz.prog ops Q rest (a.put o.dst v') w'):wpList Tryz.prog ops Q (o ::rest) a w:=by
 rcases news with _|⟨u,news⟩
 ·have hl0:l=0:=by
   rcases yy l with e|e
   ·exact e
   ·have:=Nat.mul_pos e hsz;simp at hl;omega
  subst hl0;refine wpList_plain hgd fun K hK=>?_;have hr:=fb (ty:=o.type) ht hi hown ax c;exact uy
 ·obtain⟨ad,rfl,_⟩:=hnews 0 u rfl;exact eO hgd s x t t ho base e e i z size bytes ht ht hi hz hsize hby hzs hsz v n xs hs hown ad l c (u ::news) hx hl (fun j y hy=>by
   obtain⟨ad',e,h2⟩:=hnews j y hy
   cases e
   exact h2) h1 h63 hbytes hbase h

def RT (zs:List ByteArray):Prop:=zs.Pairwise fun a b=>xn a.toList b.toList=true
theorem kW {x t:ByteArray} (h:xn x.toList t.toList=false) (hn:¬x=t):xn t.toList x.toList=true:=by
 have h1:=eg x.toList t.toList;rw[h] at h1;have h2:=bL (fun e=>hn e.symm);rw[h2] at h1;simpa using h1
def Put (t:ByteArray) (zs zs':List ByteArray):Prop:=(t∈zs/\zs'=zs)\/∃k,k<=zs.length/\zs'=zs.take k++[t]++zs.drop k/\(∀(j:Nat) y,j<k->zs[j]?=some y->xn y.toList t.toList=true)/\∀y,zs[k]?=some y->xn t.toList y.toList=true
theorem Put.mem {t:ByteArray} {zs zs':List ByteArray} (h:Put t zs zs') (s:ByteArray):s∈zs'↔s∈zs\/s=t:=by
 exact uX
theorem Put.len {t:ByteArray} {zs zs':List ByteArray} (h:Put t zs zs'):zs'.length<=zs.length+1:=by
 exact rH
theorem Put.tv {t:ByteArray} {zs zs':List ByteArray} (h:Put t zs zs') (hr:RT zs):RT zs':=by
 rcases h with ⟨_,rfl⟩|⟨k,hk,rfl,hlt,hgt⟩
 ·exact hr
 ·have h1:RT (zs.take k++zs.drop k):=by rw[List.take_append_drop];exact hr
  obtain⟨h2,h3,h4⟩:=yJ.1 h1;have h5:∀a∈zs.take k,xn a.toList t.toList=true:=fun a ha=>by
   exact rB
  have h6:∀a∈zs.drop k,xn t.toList a.toList=true:=fun a ha=>by
   cases hd:zs.drop k with
   | nil=>rw[hd] at ha;cases ha
   | cons b r=>
    have hb:zs[k]?=some b:=by rw[<-Nat.add_zero k,<-xX,hd];rfl
    have h7:=hgt b hb;rw[hd] at ha h3
    rcases xV.1 ha with rfl|ha
    ·exact h7
    ·exact bD _ _ _ h7 ((yL.1 h3).1 a ha)
  refine yJ.2 ⟨yJ.2 ⟨h2,List.pairwise_singleton _ _,fun a ha b hb=>?_⟩,h3,fun a ha b hb=>?_⟩
  ·rw[List.mem_singleton.1 hb];exact h5 a ha
  ·rcases List.mem_append.1 ha with ha|ha
   ·exact bD _ _ _ (h5 a ha) (h6 b hb)
   ·rw[List.mem_singleton.1 ha];exact h6 b hb
def vQ (t:ByteArray) (zs:List ByteArray) (w:World) (e:Ending) (w':World):Prop:=∃a' l' c' zs',e=.returned (.slice a' l' c')/\av w' a' l' c' zs'/\Put t zs zs'/\Below w.heap.size w w'
theorem RT.ext:∀{xs ys:List ByteArray},RT xs->RT ys->(∀s,s∈xs↔s∈ys)->xs=ys
 | [],[],_,_,_=>rfl
 | [],b ::ys,_,_,h=>by have:=(h b).2 (yD ..);cases this
 | a ::xs,[],_,_,h=>by have:=(h a).1 (yD ..);cases this
 | a ::xs,b ::ys,hx,hy,h=>by
  obtain⟨x1,x2⟩:=yL.1 hx;obtain⟨y1,y2⟩:=yL.1 hy;have hab:a=b:=by
   rcases xV.1 ((h a).1 (yD ..)) with e|ha
   ·exact e
   ·rcases xV.1 ((h b).2 (yD ..)) with e|hb
    ·exact e.symm
    ·have h9:=bD _ _ _ (y1 a ha) (x1 b hb);rw[bN] at h9;cases h9
  subst hab;have ne:∀{l:List ByteArray},(∀s∈l,xn a.toList s.toList=true)->∀s∈l,¬s=a:=fun hl s hs e=>by
   have h9:=hl s hs;rw[e,bN] at h9;cases h9
  rw[RT.ext x2 y2 (fun s=>⟨fun hs=>(xV.1 ((h s).1 (zd _ hs))).resolve_left (ne x1 s hs),fun hs=>(xV.1 ((h s).2 (zd _ hs))).resolve_left (ne y1 s hs)⟩)]

theorem gG {α:Type} {l:List α} {k j:Nat} {u:α} (h:(l.take k)[j]?=some u):l[j]?=some u:=by
 rw[xF] at h;split at h
 ·exact h
 ·cases h

def jH (c:Cl) (q:Qd):Prop:=∃(i j:Nat) (v:Vd) (n:Nd),c.vs[i]?=some v/\v.n=q.n/\c.ns[j]?=some n/\n.n=q.d/\lq c v n
open Classical in
noncomputable def lakL (c:Cl) (zs:List Qd):List Qd:=zs.filter fun q=>decide (jH c q)
theorem nW {c:Cl} {zs:List Qd} {k:Nat} {q:Qd} (h:zs[k]?=some q) (hq:jH c q):lakL c (zs.take (k+1))=lakL c (zs.take k)++[q]:=by
 unfold lakL;rw[yb,h,yM];simp[hq]
theorem rY {c:Cl} {zs:List Qd} {k:Nat} {q:Qd} (h:zs[k]?=some q) (hq:¬jH c q):lakL c (zs.take (k+1))=lakL c (zs.take k):=by
 unfold lakL;rw[yb,h,yM];simp[hq]
theorem vN (c:Cl) (zs:List Qd):(lakL c zs).length<=zs.length:=zb _ _
theorem oI {c:Cl} {zs:List Qd} {k:Nat} {q:Qd} (h:zs[k]?=some q) (hq:jH c q) (h0:lakL c (zs.take k)=[]):(lakL c zs)[0]?=some q:=by
 have h1:=nW h hq;rw[h0,List.nil_append] at h1;have h2:lakL c zs=lakL c (zs.take (k+1))++lakL c (zs.drop (k+1)):=by
  unfold lakL;rw[<-yM,List.take_append_drop]
 rw[h2,h1];rfl
theorem nX {c:Cl} {zs:List Qd} {q:Qd} (h:q∈lakL c zs):q∈zs/\jH c q:=by
 unfold lakL at h;simpa using h
theorem jH.iff {c:Cl} {q:Qd} {i j:Nat} {v:Vd} {n:Nd} (hT:a8 c) (h1:c.vs[i]?=some v) (h2:v.n=q.n) (h3:c.ns[j]?=some n) (h4:n.n=q.d):jH c q↔lq c v n:=by
 constructor
 ·rintro⟨i',j',v',n',k1,k2,k3,k4,k5⟩;obtain⟨-,rfl⟩:=hT.2.1.2.2.1.2.2.inj h1 k1 (h2.trans k2.symm);obtain⟨-,rfl⟩:=hT.2.1.1.2.2.inj h3 k3 (h4.trans k4.symm);exact k5
 ·exact fun h=>⟨i,j,v,n,h1,h2,h3,h4,h⟩
theorem lx {c:Cl} {q:Qd} (hT:a8 c) (h:Wn c c.ps.length q):∃(i j:Nat) (v:Vd) (n:Nd),c.vs[i]?=some v/\v.n=q.n/\c.ns[j]?=some n/\n.n=q.d:=by
 obtain⟨j,p,_,hp,hd,i,t,v,hz,⟨i1,jv,x,h1,h2,h3,h4⟩,rfl⟩:=h;obtain⟨i9,n9,k1,k2,_⟩:=(hT.2.2.2.1.1 j p hp).2.resolve_left hd;exact⟨jv,i9,v,n9,h3,rfl,k1,k2⟩
theorem oB {zs:List ByteArray} (h:dU zs):aJ (fun s:ByteArray=>s) zs:=fun j x y hx hy=>(h (j+1) x hx).2 y (by omega) (by simpa using hy)
theorem ew {zs:List ByteArray} (h:dU zs):RT zs:=yP.2 fun _ _ hi hj hij=>(oB h).lt hij (xm hi) (xm hj)
theorem a8.on {c:Cl} {i:Nat} {v:Vd} (h:a8 c) (hv:c.vs[i]?=some v):v.zs.length<=6/\dU v.zs:=by
 have h1:=dD (h.2.1.2.2.1.2.1 i v hv).2.2.2.2.2.2;exact⟨by have:=h1.1;omega,h1.2⟩
def onV (v:Vd) (zs:List ByteArray):Vd:=⟨v.n,v.c,v.z,v.k,v.x,v.m,v.y,zs⟩
def dF (c:Cl) (i:Nat) (y:Vd):Cl:=⟨c.ns,c.ks,c.vs.set i y,c.xs,c.ps,c.now⟩
def sR (c:Cl) (x:Vd):Cl:=⟨c.ns,c.ks,bz (pl Vd.n (wo Vd.n x.n c.vs) x.n) x (wo Vd.n x.n c.vs),c.xs,c.ps,c.now⟩
theorem vC {α:Type} {nm:α->ByteArray} {ps:List α} {t:ByteArray} {k:Nat} {x y:α} (hr:aJ nm ps) (hx:ps[k]?=some x) (hn:nm x=t):bz (pl nm (wo nm t ps) t) y (wo nm t ps)=ps.set k y:=by
 have hk:k<ps.length:=(xe.1 hx).1;have hw:=jL hr hx hn;have hpl:pl nm (wo nm t ps) t=k:=by
  rw[hw];have hlt:∀(j:Nat) z,j<k->(ps.take k++ps.drop (k+1))[j]?=some z->xn (nm z).toList t.toList=true:=fun j z hj hz=>by
   have h1:(ps.take k).length=k:=by rw[xE];omega
   rw[xP af,xF,if_pos hj] at hz;have:=hr.lt hj hz hx;rw[hn] at this;exact this
  by_cases he:k+1<ps.length
  ·have h1:(ps.take k).length=k:=by rw[xE];omega
   have h2:(ps.take k++ps.drop (k+1))[k]?=some ps[k+1]:=by
    rw[List.getElem?_append_right af,h1,Nat.sub_self,xX];exact xm he
   refine rO hlt h2 ?_;have h3:=hr.lt (Nat.lt_succ_self k) hx (xm he);rw[hn] at h3;cases h9:xn (nm ps[k+1]).toList t.toList
   ·rfl
   ·have h8:=bD _ _ _ h3 h9;rw[bN] at h8;cases h8
  ·have h4:ps.take k++ps.drop (k+1)=ps.take k:=by rw[xW af,List.append_nil]
   rw[h4];rw[h4] at hlt;have h1:(ps.take k).length=k:=by rw[xE];omega
   rw[gX (fun j z hz=>hlt j z ch hz),h1]
 rw[hpl,hw];unfold bz;have h1:(ps.take k).length=k:=by rw[xE];omega
 rw[yZ h1,List.drop_left' h1,List.set_eq_take_append_cons_drop,if_pos hk];simp
theorem po {c:Cl} {i:Nat} {v:Vd} {zs:List ByteArray} (hr:a8 c) (hv:c.vs[i]?=some v):sR c (onV v zs)=dF c i (onV v zs):=by
 unfold sR dF;rw[show (onV v zs).n=v.n from rfl,vC (y:=onV v zs) hr.2.1.2.2.1.2.2 hv rfl]
def gk:ByteArray:=⟨#[111,102,102,32]⟩
def wOn:ByteArray:=⟨#[111,110,32]⟩
def cZ (c:Cl) (o:Co):Prop:=
 (¬a8 c/\o=co0 1)\/
 (a8 c/\∃es q i v,(RQ es/\∀q,q∈es↔Xn c c.vs.length q)/\es[0]?=some q/\c.vs[i]?=some v/\v.n=q.n/\o=⟨dF c i (onV v (wo (fun s:ByteArray=>s) q.d v.zs)),gk++v.n,0⟩)\/
 (a8 c/\(∀q,¬Xn c c.vs.length q)/\∃zs,(RQ zs/\∀q,q∈zs↔Wn c c.ps.length q)/\((∃q i v ys,(lakL c zs)[0]?=some q/\c.vs[i]?=some v/\v.n=q.n/\Put q.d v.zs ys/\o=⟨dF c i (onV v ys),wOn++v.n,0⟩)\/(lakL c zs=[]/\o=co0 6)))
theorem cZ.same {c:Cl} {o o':Co} (h:cZ c o) (h':cZ c o'):o=o':=by
 rcases h with ⟨a,rfl⟩|⟨a,es,q,i,v,a1,a2,a3,a4,rfl⟩|⟨a,a0,zs,a1,ha⟩ <;> rcases h' with ⟨b,rfl⟩|⟨b,es',q',i',v',b1,b2,b3,b4,rfl⟩|⟨b,b0,zs',b1,hb⟩
 ·rfl
 ·exact absurd b a
 ·exact absurd b a
 ·exact absurd a b
 ·obtain rfl:es=es':=RQ.ext a1.1 b1.1 fun s=>by rw[a1.2,b1.2]
  rw[a2] at b2;obtain rfl:=xh b2;obtain⟨rfl,rfl⟩:=a.2.1.2.2.1.2.2.inj a3 b3 (a4.trans b4.symm);rfl
 ·exact absurd ((a1.2 q).1 (xD a2)) (b0 q)
 ·exact absurd a b
 ·exact absurd ((b1.2 q').1 (xD b2)) (a0 q')
 ·obtain rfl:zs=zs':=RQ.ext a1.1 b1.1 fun s=>by rw[a1.2,b1.2]
  rcases ha with ⟨q,i,v,ys,a2,a3,a4,a5,rfl⟩|⟨a2,rfl⟩ <;> rcases hb with ⟨q',i',v',ys',b2,b3,b4,b5,rfl⟩|⟨b2,rfl⟩
  ·rw[a2] at b2;obtain rfl:=xh b2;obtain⟨rfl,rfl⟩:=a.2.1.2.2.1.2.2.inj a3 b3 (a4.trans b4.symm);have hz:=ew (a.on a3).2;obtain rfl:ys=ys':=RT.ext (a5.tv hz) (b5.tv hz) fun s=>by rw[a5.mem,b5.mem]
   rfl
  ·rw[b2] at a2;cases a2
  ·rw[a2] at b2;cases b2
  ·rfl
theorem gF {c:Cl} {i:Nat} {v:Vd} {zs:List ByteArray} (hf:fD c) (hv:c.vs[i]?=some v) (hz:zs.length<=1048576):cS 1 (dF c i (onV v zs)).raw<=1152921504606846976:=by
 refine fD.marks (c:=dF c i (onV v zs)) ⟨hf.l1,hf.f1,hf.l2,?_,fun j y hy=>?_,hf.l4,hf.l5,hf.f5⟩
 ·show (c.vs.set _ _).length<=_;rw[List.length_set];exact hf.l3
 ·have hy':(c.vs.set i (onV v zs))[j]?=some y:=hy;rw[du (xe.1 hv).1] at hy';split at hy'
  ·obtain rfl:=xh hy';exact hz
  ·exact hf.f3 j y hy'
theorem cZ.marks {c:Cl} {o:Co} (h:cZ c o) (hf:fD c):cS 1 o.c.raw<=1152921504606846976:=by
 rcases h with ⟨_,rfl⟩|⟨a,es,q,i,v,_,_,a3,_,rfl⟩|⟨a,_,zs,_,⟨q,i,v,ys,_,a3,_,a5,rfl⟩|⟨_,rfl⟩⟩
 ·exact iP _
 ·exact gF hf a3 (xp (zb _ _) (by have:=(a.on a3).1;omega))
 ·exact gF hf a3 (by have h1:=a5.len;have:=(a.on a3).1;omega)
 ·exact iP _

def qV (q:Qd):List Value:=[.string q.n,.string q.d]
theorem vD {w:World} {base:Nat} {v:Value} {qs:List Qd} (h:w.ownsRow base 58 2 v qs.length (qs.map qV).flatten) (hs:∀q∈qs,q.n.size<=9223372036854775807/\q.d.size<=9223372036854775807):∃a' c',v=.slice a' qs.length c'/\aF w a' qs.length c' 2 (qs.map qdF):=by
 have hc:=fun (g:Nat) (cap:Nat) (e:v=.slice (some ⟨g,0,none⟩) qs.length cap)=>h.cells (g:=g) (by rw[e];rfl);rcases h.2 with ⟨rfl,h0⟩|⟨g,cap,cur,rfl,hb,hg,hnc,hcm,hcs,htake⟩
 ·rw[h0];exact⟨none,0,rfl,by simpa using h0,xk _,by omega,.inl (by simpa using xN h0)⟩
 ·refine⟨_,_,rfl,by simp,hnc,by unfold maxLen at hcm;omega,.inr ⟨g,0,rfl,ae hg,fun j r hr=>?_⟩⟩;rw[xq,xu] at hr;obtain⟨q,hq,rfl⟩:=hr;have hq2:(qs.map qV)[j]?=some (qV q):=by rw[xq,hq];rfl
  have hall:∀(j:Nat) vs,(qs.map qV)[j]?=some vs->vs.length=2:=fun j vs hv=>by
   rw[xq,xu] at hv;obtain⟨q,_,rfl⟩:=hv;rfl
  have hz:=hs q (xD hq);intro i f hf;rcases i with _|_|i
  ·have h1:=hc g cap rfl _ _ (cM hall hq2 (i:=0) (u:=.string q.n) rfl);rw[xB] at h1;cases hf;exact⟨_,h1,rfl,hz.1⟩
  ·have h1:=hc g cap rfl _ _ (cM hall hq2 (i:=1) (u:=.string q.d) rfl);rw[xB] at h1;cases hf;exact⟨_,by simpa[Nat.add_assoc] using h1,rfl,hz.2⟩
  ·simp[qdF] at hf
def vT (c:Cl) (w:World) (e:Ending) (w':World):Prop:=∃a' l' c' zs,e=.returned (.slice a' l' c')/\aF w' a' l' c' 2 ((lakL c zs).map qdF)/\RQ zs/\(∀q,q∈zs↔Wn c c.ps.length q)/\zs.length<=24/\Below w.heap.size w w'

theorem sj (d:Ad) (c:Cl) (w:World) (hr:aK w d c.raw) (hT:a8 c):
  Calls Tryz.prog 40 #[.agg #[.slice d.a1 d.l1 d.c1,.slice d.a2 d.l2 d.c2,.slice d.a3 d.l3 d.c3,.slice d.a4 d.l4 d.c4,.slice d.a5 d.l5 d.c5,.int .i64 c.now]] w (vT c w):=by
 obtain⟨a1,l1,y1,a2,l2,y2,a3,l3,y3,a4,l4,y4,a5,l5,y5⟩:=d;dsimp only;obtain⟨HR,hl1,hm1,hl2,hm2,hl3,hm3,hl4,hm4,hl5,hm5⟩:=lP;clear hr;have HT:=aa hT;clear hT;have HB:=aa (xj w.heap.size w);obtain⟨i0,hi,hz0,hz1,hz2⟩:=info_parts mC;have HI0:=aa (xf hi (xf hz0 (xf hz1 hz2)));clear hi hz0 hz1 hz2;go_enter Tryz.func40,Tryz.ntmps40;go_wp2_with fail;refine (rZ ⟨a1,l1,y1,a2,l2,y2,a3,l3,y3,a4,l4,y4,a5,l5,y5⟩ c _ (HR.below (HB.trans ((al _ _).mono HB.size))) HT.out).mono ?_;rintro e w0 ⟨wa,wl,wc,zs,rfl,how,hrw,hmw,hlw,hb⟩;obtain⟨HA0,hbx⟩:=aH hb;have Bk:=aa HA0;replace HB:=upB HB hbx;clear hb hbx HA0;have HW:=aa how.row;have hzl:zs.length=wl:=by simpa using how.row.1
 have HRQ:=aa hrw;have HMW:=aa hmw;have HZ:Hid (∀q∈lakL c zs,q.n.size<=9223372036854775807/\q.d.size<=9223372036854775807):=fun q hq=>by
  obtain⟨j,hj⟩:=xS (nX hq).1;obtain⟨b,o,y,-,-,hy,hat⟩:=eJ how.row (j:=j) iz;rw[hj] at hy;obtain rfl:=xh hy;exact⟨(b8 hat).1,(b8 hat).2.1⟩
 clear how hrw hmw;obtain⟨k0,k1,k2,k3,k4,k5⟩:=cs6 Bk;have ltk_1:=ae Bk.out;go_wp2;clear k0 k1 k2 k3 k4 k5 ltk_1;have hs0:w.heap.size<w0.heap.size:=ae Bk.out;go_loopw [3,9] (fun vo vi wr=> ∃k:Nat,k<=wl/\vi=.int .i64 k/\Hid (wr.ownsRow w0.heap.size 58 2 vo (lakL c (zs.take k)).length ((lakL c (zs.take k)).map qV).flatten)/\Hid (Below w0.heap.size w0 wr)) (fun _ vi _=>wl - (intOf vi).toNat);case atStart=>exact⟨0,by omega,rfl,yq _ _ _ _,xj _ _⟩
 case round=>
  obtain⟨k,hk,rfl,HO,HL⟩:=hrel;replace Bk:=aa ((HL.block w.heap.size hs0).trans Bk.out);replace HB:=aa (HB.trans (HL.mono HB.size));have hLs:=HL.size;have hn8:=vN c (zs.take k);have hn9:(lakL c (zs.take k)).length<=k:=by rw[xE] at hn8;omega
  by_cases hlt:k<wl
  ·have hk1:(k:Int)<wl:=af
   obtain⟨b,o,y,rfl,hb,hy,hat⟩:=eJ (HW.below HL.out) hlt;obtain⟨z0,z1,hc0,hc1⟩:=b8 hat;have HY:=aa hy;obtain⟨i,j,v,n,g1,g2,g3,g4⟩:=lx HT.out ((HMW.out y).1 (xD hy));have HG:=aa (xf g1 (xf g2 (xf g3 g4)));have HCI:=aa (jH.iff HT.out g1 g2 g3 g4);have HY2:Hid (Bw wr wr):=Bw.refl _;clear hat hy z0 z1 g1 g2 g3 g4;obtain⟨k0,k1,k2,k3,k4,k5⟩:=cs6 Bk;have ltk_1:=ae Bk.out;go_wp2_with fail;refine (oS ⟨a1,l1,y1,a2,l2,y2,a3,l3,y3,a4,l4,y4,a5,l5,y5⟩ c y i j v n _ (HR.below (HB.trans ((al _ _).mono HB.size))) HT.out HG.1 HG.2.1 HG.2.2.1 HG.2.2.2).mono ?_;rintro e w2 ⟨r,rfl,hi,hb3⟩;clear k0 k1 k2 k3 k4 k5 ltk_1;obtain⟨HA0,hbx⟩:=aH hb3;replace Bk:=upK Bk hbx;have By:=aa HA0;replace HY2:=aa (HY2.below hbx);replace HB:=upB HB hbx;clear hb3 hbx HA0;have HI:=aa hi;clear hi hb hc0 hc1;have hb2s:=HY2.le;cases r
   ·have HN:Hid (lakL c (zs.take (k+1))=lakL c (zs.take k)):=rY HY.out (fun h=>by have h9:=HI.2 (HCI.1 h);cases h9);clear HI;obtain⟨k0,k1,k2,k3,k4,k5⟩:=cs6 Bk;have ltk_2:=ae Bk.out;obtain⟨y0,y1⟩:=cs2 By;have lty_2:=ae By.out;go_wp2;refine⟨⟨k+1,by omega,by go_num,?_,HL.trans (HY2.out.mono hLs)⟩,by simp[intOf];omega⟩;rw[HN.out];exact br HO.out HY2.out
   have HN:Hid (lakL c (zs.take (k+1))=lakL c (zs.take k)++[y]):=nW HY.out (HCI.2 (HI.1 bA));clear HI;have HO2:=aa (br HO.out HY2.out);obtain⟨k0,k1,k2,k3,k4,k5⟩:=cs6 Bk;have ltk_2:=ae Bk.out;obtain⟨y0,y1⟩:=cs2 By;have lty_2:=ae By.out;go_wp2_with (first|(at_builtin;refine wpList_append_own _ rfl _ _ 54 rfl w0.heap.size 58 i0 (.agg #[.string ⟨#[]⟩,.string ⟨#[]⟩]) 2 32 Tryz.underlying54 HI0.1 HI0.2.1 HI0.2.2.1 HI0.2.2.2 rfl aj _ _ _ rfl (HO2.alloc _) ⟨w2.heap.size,0,none⟩ 1 1 [.string y.n,.string y.d] rfl rfl ?c1 ?c2 ?c3 ?c4 ?c5 ?_));case c1=>exact cG _ _ _
   case c2=>intro u hu;simp only[xV,List.not_mem_nil,or_false] at hu;rcases hu with rfl|rfl <;> rfl
   case c3=>unfold maxLen;omega
   case c4=>omega
   case c5=>simp;omega
   rintro v' w3 hown3 hgrow -;have HO3:Hid (w3.ownsRow w0.heap.size 58 2 v' (lakL c (zs.take (k+1))).length ((lakL c (zs.take (k+1))).map qV).flatten):=by
    show World.ownsRow _ _ _ _ _ _ _;rw[HN.out];simpa[qV] using hown3
   have hb23:Below wr.heap.size wr (w2.alloc (.cells #[.string y.n,.string y.d] 58)):=HY2.out.trans ((al _ _).mono hb2s);have HB3:=aa ((HL.trans (hb23.mono hLs)).grown hgrow bX (fun g hg=>(HO2.lt g hg).1));clear hown3 hgrow hb23;clear k0 k1 k2 k3 k4 k5 ltk_2 y0 y1 lty_2;go_wp2;exact⟨⟨k+1,by omega,by go_num,HO3,HB3⟩,by simp[intOf];omega⟩
  obtain rfl:k=wl:=af
  have hk1:¬(k:Int)<k:=af
  have hO:=HO.out;rw[xw af] at hO;obtain⟨a9,c9,rfl,h9⟩:=vD hO HZ.out;have HR9:=aa h9;clear hO h9 HO;obtain⟨k0,k1,k2,k3,k4,k5⟩:=cs6 Bk;have ltk_1:=ae Bk.out;go_wp2;go_ret;exact⟨_,_,_,zs,rfl,HR9.out,HRQ.out,HMW.out,hlw,HB.out⟩

theorem iM (a:Option Addr) (n cap i base vb:Nat) (X ys:List Value) (w:World) (ho:w.ownsRow base 62 8 (.slice a n cap) n X) (hn:n<=8) (hin:i<=n) (hbs:base<=w.heap.size) (hy:w.heap[vb]?=some (.cells ys.toArray 62 (0,0))) (hyl:ys.length=8) (hy1:∀u∈ys,u.oneCell'=true) (hX1:∀u∈X,u.oneCell'=true) (hne:∀g,a=some ⟨g,0,none⟩->¬vb=g):
  Calls Tryz.prog 154 #[.slice a n cap,.int .i64 i,.slice (some ⟨vb,0,none⟩) 1 1] w fun e w'=> ∃v',e=.returned v'/\w'.ownsRow base 62 8 v' (n+1) (X.take (i*8)++ys++X.drop (i*8))/\w.grownBy w' ((.slice a n cap:Value).ownBlock):=by
 obtain⟨i0,hi,hz0,hz1,hz2⟩:=info_parts fP;have HI0:=aa (xf hi (xf hz0 (xf hz1 hz2)));clear hi hz0 hz1 hz2;have hXl:=ho.1;have hnc:n<=cap/\cap<=9223372036854775807:=by
  rcases ho.2 with ⟨h1,h2⟩|⟨g,cp,cur,h1,_,_,h4,h5,_⟩
  ·cases h1;omega
  ·cases h1;unfold maxLen at h5;omega
 have hyn:∀(j:Nat) u,ys[j]?=some u->w.cell? ((⟨vb,0,none⟩:Addr).add j)=some u:=fun j u hu=>by
  rw[xB,aD hy,xL];simpa using hu
 have HYN:=aa hyn;have HO:=aa ho;have HY:=aa hy;have hvl:=ae hy;have HX1:=aa hX1;have HY1:=aa hy1;clear hyn ho hy hX1 hy1;by_cases hie:i=n
 ·subst hie;have e1:X.take (i*8)++ys++X.drop (i*8)=X++ys:=by rw[xw af,List.drop_of_length_le af,List.append_nil]
  rw[e1];clear e1;have hc0:=hnc.1;have hq:cap=i\/¬cap=i:=Classical.em _;rcases hq with rfl|hcap
  ·exact u7
  ·exact u7
 have hil:i<n:=af
 obtain⟨g,cur,rfl,hbg,hg,hcs,htk⟩:∃g cur,a=some ⟨g,0,none⟩/\base<=g/\w.heap[g]?=some (.cells cur 62 (0,0))/\cur.size=cap*8/\cur.toList.take (n*8)=X:=by
  rcases HO.2 with ⟨h1,h2⟩|⟨g,cp,cur,h1,h2,h3,h4,h5,h6,h7⟩
  ·cases h1;omega
  ·cases h1;exact⟨g,cur,rfl,h2,h3,h6,h7⟩
 have hvg:=hne g rfl;clear hne;have hcell:∀(j:Nat) u,X[j]?=some u->w.cell? ⟨g,j,none⟩=some u:=fun j u hj=>by
  rw[aD hg];rw[<-htk,xF] at hj;split at hj
  ·simpa using hj
  ·cases hj
 have hdl:(X.drop (i*8)).length=(n - i)*8:=by rw[yf,hXl,Nat.sub_mul]
 have hgl:=ae hg;by_cases hroom:n+1<=cap
 ·have hcp1:∀ty dc sc,(za #[123,123] ty #[.slice (some ⟨g,(i+1)*8,none⟩) (n - i) dc,.slice (some ⟨g,i*8,none⟩) (n+1 - i) sc]).run Tryz.prog w.drew=.ok (goInt (Nat.min (n+1 - i) (n - i))) (w.drew.setRow g (cur.toList.take ((i+1)*8)++X.drop (i*8)++cur.toList.drop ((i+1)*8+(X.drop (i*8)).length)).toArray):=fun ty dc sc=>
   c_ w.drew 123 123 ty 62 g ((i+1)*8) (n - i) dc ⟨g,i*8,none⟩ (n+1 - i) sc 8 cur 62 (X.drop (i*8)) i0 Tryz.underlying123 HI0.1 HI0.2.2.1 hg (by rw[hdl];simp only[Nat.min_def];split <;> omega) (fun j u hj=>by
    rw[xX] at hj;rw[xB]
    exact hcell _ u hj) (by rw[hdl,hcs];omega) (fun u hu=>HX1.out u (ze hu))
  obtain⟨cur1,hcur1⟩:∃c1:List Value,c1=cur.toList.take ((i+1)*8)++X.drop (i*8)++cur.toList.drop ((i+1)*8+(X.drop (i*8)).length):=⟨_,rfl⟩;rw[<-hcur1] at hcp1;have hc1l:cur1.length=cap*8:=by rw[hcur1];simp only[xO,xE,yf,hXl,yF,hcs];omega
  obtain⟨W1,hW1⟩:∃W1,W1=w.drew.setRow g cur1.toArray:=⟨_,rfl⟩;rw[<-hW1] at hcp1;have hg1:W1.heap[g]?=some (.cells cur1.toArray 62 (0,0)):=by rw[hW1];exact setRow_heap w.drew g _ _ 62 _ hg
  have hv1:W1.heap[vb]?=w.heap[vb]?:=by rw[hW1];exact setRow_other w.drew g vb _ hvg
  have hcp2:∀ty dc,(za #[123,32] ty #[.slice (some ⟨g,i*8,none⟩) (n+1 - i) dc,.slice (some ⟨vb,0,none⟩) 1 1]).run Tryz.prog W1=.ok (goInt (Nat.min 1 (n+1 - i))) (W1.setRow g (cur1.take (i*8)++ys++cur1.drop (i*8+ys.length)).toArray):=fun ty dc=>by
   have:=c_ W1 123 32 ty 62 g (i*8) (n+1 - i) dc ⟨vb,0,none⟩ 1 1 8 cur1.toArray 62 ys i0 Tryz.underlying123 HI0.1 HI0.2.2.1 hg1 (by rw[hyl];simp only[Nat.min_def];split <;> omega) (fun j u hj=>by
    rw[xB,aD (hv1.trans HY.out),xL]
    simpa using hj) (by simp only[yT];rw[hc1l,hyl];omega) HY1.out
   simpa using this
  have hov:∀lb cb,(callFunc 176 #[.slice (some ⟨vb,0,none⟩) 1 1,.slice (some ⟨g,(i+1)*8,none⟩) lb cb]).run Tryz.prog w=.ok (.value (.bool false)) w:=fun lb cb=>by
   rw[run_callFunc_extern Tryz.func176 an an an (e:=Extern.SlicesOverlaps.overlaps #[32,32] #[4]) an,
    Lib.run_overlaps_apart w 32 4 62 Tryz.underlying32 8 (fun w=>by kernel_rfl) ⟨vb,0,none⟩ ⟨g,(i+1)*8,none⟩ 1 1 lb cb hvg 62 62 ys.toArray.size cur.size (by simp[World.shape?,HY.out]) (by simp[World.shape?,hg]) (Nat.ne_of_gt (by rw[hcs];omega)) (aw HY.out _) (aw HY.out _)]
   rfl
  have hb2:¬cap=i+1:=af
  have hb4:¬cap=i:=af
  have hb6:¬((cap:Int)<(n:Int)+1):=af
  have mixed:Tryz.prog.follows .mixedOrders=true:=an
  have hw1:IntKind.i64.wrap ((i:Int)+1)=(i:Int)+1:=by rw[IntKind.wrap_i64];omega
  have hb1:(0:Int)<=(i:Int)+1:=af
  have hin:i<=n:=af
  have htn:((i:Int)+1).toNat=i+1:=af
  have hb3:(i:Int)<=(n:Int)+1:=af
  have HG1:=aa hg1;have HW1:=aa hW1;have HC1:=aa hcur1;have HTK:=aa htk;clear hg hg1 hW1 hcur1 htk hv1 hcell hdl hie;go_enter Tryz.func154,Tryz.ntmps154;go_wp2_with (simp only[hov]);go_region_law_o (refine eD rfl _ _ 123 123 rfl _ _ nj nj (hcp1 (3) (cap - (i+1)) (cap - i)) ?_);go_wp2_with (at_builtin;refine wpList_copy_run _ rfl _ _ 123 32 rfl _ _ rfl rfl (hcp2 _ _) ?_);go_ret;refine⟨_,rfl,⟨?_,Or.inr ⟨g,cap,(cur1.take (i*8)++(ys++cur1.drop (i*8+8))).toArray,rfl,hbg,setRow_heap W1 g _ _ _ _ HG1.out,hroom,by unfold maxLen;omega,?_,?_⟩⟩,?_⟩
  ·simp only[xO,xE,yf];omega
  ·simp only[yT,xO,xE,yf,hc1l];omega
  ·have e:=sh (a:=i*8) (b:=n*8) (c:=cap*8) (m:=8) (c1:=cur1) HTK.out (by rw[yF,hcs]) af af hyl (by rw[HC1.out,show (i+1)*8=i*8+8 by omega]);rw[show (n+1)*8=n*8+8 by omega];simpa using e
  ·have h1:w.grownBy w.drew (some g):=⟨rfl,rfl,rfl,xk _,fun _ _ _=>rfl⟩;have h2:w.drew.grownBy W1 (some g):=by rw[HW1.out];exact fv w.drew g _
   exact (h1.trans h2).trans (fv W1 g _)
 have hcn:cap=n:=af
 subst hcn;obtain⟨N,hN⟩:∃N,N=w.heap.size:=⟨_,rfl⟩;obtain⟨G,hG⟩:∃G,G=grownCap w (cap+1) cap 62:=⟨_,rfl⟩;obtain⟨ROW,hROW⟩:∃R:Array Value,R=(X.take (i*8)).toArray++yS (.agg #[.string ⟨#[]⟩,.int .i64 0,.string ⟨#[]⟩,.string ⟨#[]⟩,.bool false,.string ⟨#[]⟩,.bool false,.slice none 0 0]:Value).cells (cap+1 - i)++yS (.agg #[.string ⟨#[]⟩,.int .i64 0,.string ⟨#[]⟩,.string ⟨#[]⟩,.bool false,.string ⟨#[]⟩,.bool false,.slice none 0 0]:Value).cells (G - (cap+1)):=⟨_,rfl⟩;obtain⟨W1,hW1⟩:∃W1,W1=w.drew.alloc (.cells ROW 62):=⟨_,rfl⟩;have hGn:cap+1<=G:=by rw[hG];exact grownCap_ge w _ _ _
 have hG63:G<=9223372036854775807:=by
  have:=grownCap_le_maxLen w (cap+1) cap 62 bJ;rw[<-hG] at this;unfold maxLen at this;omega
 have hRs:ROW.size=G*8:=by
  rw[hROW];simp only[Array.size_append,yT,xE,size_zeroCells,hXl];rw[show (.agg #[.string ⟨#[]⟩,.int .i64 0,.string ⟨#[]⟩,.string ⟨#[]⟩,.bool false,.string ⟨#[]⟩,.bool false,.slice none 0 0]:Value).cells.size=8 from rfl];omega
 have hRt:ROW.toList.take (i*8)=X.take (i*8):=by
  rw[hROW,Array.toList_append,Array.toList_append,List.append_assoc];exact yZ kd
 have hrz:∀ty,(xU #[123,3] ty #[.slice (some ⟨g,0,none⟩) i cap,.int .i64 ((cap:Int)+1 - (i:Int))]).run Tryz.prog w=.ok (.slice (some ⟨N,0,none⟩) (cap+1) G) W1:=fun ty=>by
  have hold:(Builtin.firstCells i0.size i (.slice (some ⟨g,0,none⟩) i cap)).run Tryz.prog w.drew=.ok (X.take (i*8)).toArray w.drew:=by
   rw[HI0.2.2.1];exact run_firstCells_some w.drew 8 i ⟨g,0,none⟩ i cap (X.take (i*8)) kd (fun j v hj=>by
    rw[xB,xL];rw[xF] at hj
    split at hj
    ·exact hcell j v hj
    ·cases hj)
  have h:=Lib.run_append_grow_zeros w 123 3 ty 62 i0 _ .i64 .i64 Tryz.underlying123 Tryz.underlying3 HI0.1 HI0.2.1 (some ⟨g,0,none⟩) i cap (X.take (i*8)) hold (cap+1 - i) af (by rw[HI0.2.2.1];decide) af af (by rw[HI0.2.2.2];omega) (by rw[HI0.2.2.2];exact growslice_fits af af);rw[show i+(cap+1 - i)=cap+1 by omega,<-hG,<-hROW,<-hW1,<-hN] at h;rw[show (cap:Int)+1 - (i:Int)=((cap+1 - i:Nat):Int) by omega];exact h
 have hgN:W1.heap[N]?=some (.cells ROW 62 (0,0)):=by rw[hW1,hN];exact Go.heap_alloc_new w.drew _
 have hg1:W1.heap[g]?=w.heap[g]?:=by rw[hW1];exact Go.heap_alloc_old w.drew _ hgl
 have hv1:W1.heap[vb]?=w.heap[vb]?:=by rw[hW1];exact Go.heap_alloc_old w.drew _ hvl
 obtain⟨R2,hR2⟩:∃R2:List Value,R2=ROW.toList.take (i*8)++ys++ROW.toList.drop (i*8+ys.length):=⟨_,rfl⟩;obtain⟨W2,hW2⟩:∃W2,W2=W1.setRow N R2.toArray:=⟨_,rfl⟩;have hcpA:∀ty dc,(za #[123,32] ty #[.slice (some ⟨N,i*8,none⟩) (cap+1 - i) dc,.slice (some ⟨vb,0,none⟩) 1 1]).run Tryz.prog W1=.ok (goInt (Nat.min 1 (cap+1 - i))) W2:=fun ty dc=>by
  rw[hW2,hR2];exact c_ W1 123 32 ty 62 N (i*8) (cap+1 - i) dc ⟨vb,0,none⟩ 1 1 8 ROW 62 ys i0 Tryz.underlying123 HI0.1 HI0.2.2.1 hgN (by rw[hyl];simp only[Nat.min_def];split <;> omega) (fun j u hj=>by
   rw[xB,aD (hv1.trans HY.out),xL]
   simpa using hj) (by rw[hRs,hyl];omega) HY1.out
 have hR2l:R2.length=G*8:=by
  rw[hR2];simp only[xO,xE,yf,yF,hRs,hyl];omega
 have hgN2:W2.heap[N]?=some (.cells R2.toArray 62 (0,0)):=by rw[hW2];exact setRow_heap W1 N _ _ 62 _ hgN
 have hgn:¬g=N:=af
 have hg2:W2.heap[g]?=w.heap[g]?:=by rw[hW2,setRow_other W1 N g _ hgn];exact hg1
 obtain⟨R3,hR3⟩:∃R3:List Value,R3=R2.take ((i+1)*8)++X.drop (i*8)++R2.drop ((i+1)*8+(X.drop (i*8)).length):=⟨_,rfl⟩;obtain⟨W3,hW3⟩:∃W3,W3=W2.drew.setRow N R3.toArray:=⟨_,rfl⟩;have hcpB:∀ty dc sc,(za #[123,123] ty #[.slice (some ⟨N,(i+1)*8,none⟩) (cap - i) dc,.slice (some ⟨g,i*8,none⟩) (cap - i) sc]).run Tryz.prog W2.drew=.ok (goInt (Nat.min (cap - i) (cap - i))) W3:=fun ty dc sc=>by
  have:=c_ W2.drew 123 123 ty 62 N ((i+1)*8) (cap - i) dc ⟨g,i*8,none⟩ (cap - i) sc 8 R2.toArray 62 (X.drop (i*8)) i0 Tryz.underlying123 HI0.1 HI0.2.2.1 hgN2 (by rw[hdl];simp only[Nat.min_def];split <;> omega) (fun j u hj=>by
   rw[xX] at hj;have hc:=hcell _ u hj;rw[xB];rw[<-hc]
   exact yr (w:=w) (w':=W2.drew) hg2) (by rw[hdl,yT,hR2l];omega) (fun u hu=>HX1.out u (ze hu))
  rw[hW3,hR3];simpa only[List.toList_toArray] using this
 have hW3o:∀k,¬k=N->W3.heap[k]?=W1.heap[k]?:=fun k hk=>by rw[hW3,setRow_other W2.drew N k _ hk];exact (congrArg (fun z:World=>z.heap[k]?) hW2).trans (setRow_other W1 N k _ hk)
 have hfin:w.grownBy W3 (some g):=by
  have h0:w.grownBy w.drew (some g):=⟨rfl,rfl,rfl,xk _,fun _ _ _=>rfl⟩;have h1:w.grownBy W1 (some g):=by rw[hW1];exact h0.trans (World.grownBy_alloc w.drew _ _)
  refine⟨?_,?_,?_,?_,fun k hk hkg=>(hW3o k af).trans (h1.block k hk hkg)⟩
  ·rw[hW3,hW2];exact h1.os
  ·rw[hW3,hW2];exact h1.tape
  ·rw[hW3,hW2];exact h1.output
  ·rw[hW3,hW2];exact xp h1.size (by simp[World.setRow])
 have hrow:W3.ownsRow base 62 8 (.slice (some ⟨N,0,none⟩) (cap+1) G) (cap+1) (X.take (i*8)++ys++X.drop (i*8)):=by
  refine⟨?_,Or.inr ⟨N,G,R3.toArray,rfl,by omega,by rw[hW3];exact setRow_heap W2.drew N _ _ 62 _ hgN2,hGn,by unfold maxLen;omega,?_,?_⟩⟩
  ·simp only[xO,xE,yf];omega
  ·rw[hR3];simp only[yT,xO,xE,yf,hR2l];omega
  ·have e:=oV (a:=i*8) (b:=cap*8) (m:=8) (R2:=R2) hRt hXl af hyl hR2 (R2.drop ((i+1)*8+(X.drop (i*8)).length));rw[hR3,show (cap+1)*8=cap*8+8 by omega,show (i+1)*8=i*8+8 by omega];rw[show (i+1)*8=i*8+8 by omega] at e;simpa using e
 have hGi:¬G=i:=af
 have hGim:¬G=i+1:=af
 have hci:¬cap=i:=af
 have hz2:¬((i:Int)=(cap:Int)):=af
 have hz3:(cap:Int)<(cap:Int)+1:=af
 have mixed:Tryz.prog.follows .mixedOrders=true:=an
 have hw1:IntKind.i64.wrap ((i:Int)+1)=(i:Int)+1:=by rw[IntKind.wrap_i64];omega
 have hb1:(0:Int)<=(i:Int)+1:=af
 have hin:i<=cap:=af
 have htn:((i:Int)+1).toNat=i+1:=af
 have hb3:(i:Int)<=(cap:Int):=af
 have HF:=aa (xf hrow hfin);clear hN hrow hfin hW3o hW3 hW2 hR3 hg2 hgN2 hR2l hR2 hv1 hg1 hgN hRt hRs hW1 hROW hG hcell hdl hie hg htk hcs HO;go_enter Tryz.func154,Tryz.ntmps154;go_wp2_with (first
  | (at_builtin;refine Lib.wpList_append_run _ rfl _ _ _ _ rfl _ _ rfl rfl _ _ (hrz _) ?_)
  | (at_builtin;refine wpList_copy_run _ rfl _ _ 123 32 rfl _ _ rfl rfl (hcpA _ _) ?_))
 go_region_law_o (refine eD rfl _ _ 123 123 rfl _ _ nj nj (hcpB 3 (G - (i+1)) (cap - i)) ?_);go_wp2;go_ret;exact⟨_,rfl,HF.1,HF.2⟩

theorem gj (a:Option Addr) (n cap:Nat) (X:List Value) (w:World) (hn:n<=8) (hXl:X.length=n*8) (hX1:∀u∈X,u.oneCell'=true) (hXc:∀(j:Nat) u,X[j]?=some u->∃g,a=some ⟨g,0,none⟩/\w.cell? ⟨g,j,none⟩=some u):
  Calls Tryz.prog 155 #[.slice a n cap] w fun e w'=> ∃a' c',e=.returned (.slice a' n c')/\w'.ownsRow w.heap.size 62 8 (.slice a' n c') n X/\Below w.heap.size w w':=by
 obtain⟨i0,hi,hz0,hz1,hz2⟩:=info_parts fP;have HI0:=aa (xf hi (xf hz0 (xf hz1 hz2)));clear hi hz0 hz1 hz2;have HX1:=aa hX1;have HXC:=aa hXc;have heq:=fun w=>Lib.run_eql_slice_nil w 123 62 a n cap 0 0 Tryz.underlying123;clear hX1 hXc;cases a with
 | none=>
  obtain rfl:X=[]:=by
   rcases X with _|⟨u,X⟩
   ·rfl
   ·obtain⟨g,e,_⟩:=HXC.out 0 u rfl
    cases e
  obtain rfl:n=0:=by simp at hXl;omega
  go_enter Tryz.func155,Tryz.ntmps155
  go_wp2
  go_ret;exact⟨none,0,rfl,yq _ _ _ _,xj _ _⟩
 | some ad=>
  obtain⟨ab,ao,asp⟩:=ad
  have hnew:∀(j:Nat) u,X[j]?=some u->(w.alloc (.cells #[] 62)).cell? ((⟨ab,ao,asp⟩:Addr).add j)=some u:=fun j u hu=>by
   obtain⟨g,e,hc⟩:=HXC.out j u hu
   cases e
   rw[xB,xL];have hlt:=bG hc;rw[<-hc];exact yr (heap_alloc_old w _ hlt)
  have HN:=aa hnew;have HO:Hid ((w.alloc (.cells #[] 62)).ownsRow w.heap.size 62 8 (.slice (some ⟨w.heap.size,0,none⟩) 0 0) 0 []):=World.ownsRow_made w #[] 0 (xk _) (Nat.zero_le _) aT;clear hnew HXC
  go_enter Tryz.func155,Tryz.ntmps155
  go_wp2_with (at_builtin;refine cr rfl _ _ 123 123 rfl w.heap.size 62 62 i0 (.agg #[.string ⟨#[]⟩,.int .i64 0,.string ⟨#[]⟩,.string ⟨#[]⟩,.bool false,.string ⟨#[]⟩,.bool false,.slice none 0 0]) 8 112 Tryz.underlying123 Tryz.underlying123 HI0.1 HI0.2.1 HI0.2.2.1 HI0.2.2.2 rfl aj _ _ _ rfl HO.out ⟨ab,ao,asp⟩ n cap X rfl hXl HN.out HX1.out bJ af aT ?_)
  intro v' w' h1 h2
  obtain⟨a',c',rfl⟩:∃a' c',v'=.slice a' n c':=by
   rcases h1.2 with ⟨rfl,h0⟩|⟨g,cp,cu,rfl,_⟩
   ·exact⟨none,0,by rw[h0]⟩
   ·exact⟨_,_,rfl⟩
  have H1:=aa h1;have H2:=aa h2;clear h1 h2
  go_wp2
  go_ret;refine⟨a',c',rfl,H1.out,((al w (.cells #[] 62)).grown H2.out aT (fun g hg=>?_))⟩
  simp[Value.ownBlock] at hg
  omega

theorem ly (a:Option Addr) (n cap:Nat) (xs:List Vd) (x:Vd) (va:Option Addr) (vl vc hh:Nat) (Q Q2:Nat->Prop) (w:World) (ho:az w a n cap 8 62 (xs.map vdF) Q) (hn:n<=8) (hxf:∀(i:Nat) f,(vdF x)[i]?=some f->∃v,[.string x.n,.int .i64 x.c,.string x.z,.string x.k,.bool x.x,.string x.m,.bool x.y,.slice va vl vc][i]?=some v/\f.Fr w hh Q2 v) (hq:∀k,Q k->Q2 k->False):
  Calls Tryz.prog 91 #[.slice a n cap,.agg #[.string x.n,.int .i64 x.c,.string x.z,.string x.k,.bool x.x,.string x.m,.bool x.y,.slice va vl vc]] w fun e w'=> ∃a' l' c',e=.returned (.slice a' l' c')/\az w' a' l' c' 8 62 ((bz (pl Vd.n xs x.n) x xs).map vdF) (fun k=>(Q k\/Q2 k)\/w.heap.size<=k)/\Below w.heap.size w w':=by
 have HR:=aa ho.row;have hxl:xs.length=n:=by simpa using ho.1
 obtain⟨vss,H,hV,hcell⟩:=ho.oC;have hvl:vss.length=n:=by rw[hV.len,xR,hxl]
 have hfl:vss.flatten.length=n*8:=by rw[dj hV.all,hvl]
 have HV:=aa hV;have HC:=aa hcell;have HF:=aa hxf;have HQ:=aa hq;clear ho hV hcell hxf hq;have hmcalled:∀(v:Value) (w:World),(method 362 62 v "loop.example/g00571/impl.called").run Tryz.prog w=.ok (204,v) w:=fun _ _=>by kernel_rfl
 obtain⟨j,hj⟩:∃j,j=pl Vd.n xs x.n:=⟨_,rfl⟩;have hjn:j<=n:=by rw[hj,<-hxl];exact List.findIdx_le_length
 have HJ:=aa hj;have HFIN:Hid (∀(w4:World) v4 base,w.heap.size<=base->Below w.heap.size w w4->w4.ownsRow base 62 8 v4 (n+1) (vss.flatten.take (j*8)++[.string x.n,.int .i64 x.c,.string x.z,.string x.k,.bool x.x,.string x.m,.bool x.y,.slice va vl vc]++vss.flatten.drop (j*8))->∃a' c',v4=.slice a' (n+1) c'/\az w4 a' (n+1) c' 8 62 ((bz (pl Vd.n xs x.n) x xs).map vdF) (fun k=>(Q k\/Q2 k)\/w.heap.size<=k)):=fun w4 v4 base hbs hB4 ho4=>by
  rw[<-oQ HV.all af] at ho4;have hV4:=(HV.below hB4).aN (w':=w4) (S':=fun k=>(Q k\/Q2 k)\/w.heap.size<=k) (fun _ _ _ _=>rfl) (fun _ _ s=>.inl (.inl s));obtain⟨H4,hV5⟩:=hV4.ins (p:=j) (r:=vdF x) (vs:=[.string x.n,.int .i64 x.c,.string x.z,.string x.k,.bool x.x,.string x.m,.bool x.y,.slice va vl vc]) (hh:=fun _=>hh) rfl rfl (fun i f hf=>by
   obtain⟨v,h1,h2⟩:=HF.out i f hf
   exact⟨v,h1,h2.aN (fun cu _ q=>hB4.block _ (ae q)) (fun _ s=>.inl (.inr s))⟩) (fun i zs h hz k r i2 zs2 hr2 hz2 hne e=>by
  obtain⟨v,_,h2⟩:=HF.out i _ h;obtain⟨_,_,_,_,_,_,_,_,h3⟩:=h2;have hkv:k<vss.length:=by rw[HV.len];exact (xe.1 hr2).1
  obtain⟨v',_,h5⟩:=HV.cell k r _ hr2 (xm hkv) i2 _ hz2;obtain⟨_,_,_,_,_,_,_,_,h6⟩:=h5;rcases h3 with h3|⟨_,h3,_⟩
  ·exact hz h3
  ·rcases h6 with h6|⟨_,h6,_⟩
   ·exact hne h6
   ·rw[e] at h6;exact HQ.out _ h6 h3) (fun i i2 zs zs2 h _ h2 _=>by
  rcases i with _|_|_|_|_|_|_|_|i <;> simp[vdF] at h <;> rcases i2 with _|_|_|_|_|_|_|_|i2 <;> simp[vdF] at h2 <;> rfl) (by rw[xR];omega)
  have h45:aP w4 (fun k=>(Q k\/Q2 k)\/w.heap.size<=k) 8 ((bz j x xs).map vdF) (bz j [.string x.n,.int .i64 x.c,.string x.z,.string x.k,.bool x.x,.string x.m,.bool x.y,.slice va vl vc] vss) H4:=by rw[k_];exact hV5
  have hle:((bz j x xs).map vdF).length=n+1:=by rw[xR,fq af,hxl]
  obtain⟨a',c',e,hR⟩:=h45.own ho4 hle.symm aj (fun g hg=>.inr (by have:=(ho4.lt g hg).1;omega));rw[hle] at e hR;rw[hj] at hR;exact⟨a',c',e,hR⟩
 have HCL:Hid (∀W,Below w.heap.size w W->∀(k:Nat) u,vss.flatten[k]?=some u->∃g,a=some ⟨g,0,none⟩/\W.cell? ⟨g,k,none⟩=some u):=fun W hW k u hu=>by
  obtain⟨g,h1,_,h3⟩:=HC.out k u hu;exact⟨g,h1,(ai hW (bG h3)).trans h3⟩
 have HV1:=aa HV.one;clear HV HC HF HQ hj;go_enter Tryz.func91,Tryz.ntmps91;go_wp2_with fail;refine (db x va vl vc _).mono ?_;rintro e w1 ⟨rfl,hb1⟩;obtain⟨hn1,hbx⟩:=aH hb1;have HN1:=aa hn1;have HB1:=aa hbx;clear hb1 hn1 hbx;go_wp2_with fail;refine (gg a n cap xs x.n _ (HR.below HB1.out)).mono ?_;rintro e w2 ⟨rfl,hb2⟩;have HN2:=aa ((hb2.block w.heap.size (ae HN1.out)).trans HN1.out);have HB2:=upB HB1 hb2;clear hb2 HN1 HB1;rw[<-HJ.out];generalize hit Vd.n xs x.n=bb;have hs2:=ae HN2.out;have HBD:Hid (Below w.heap.size w w2.drew):=Below.vq HB2.out;obtain⟨n0,n1,n2,n3,n4,n5,n6,n7⟩:=cs8 (show w2.drew.heap[w.heap.size]?=_ from HN2.out);have hcl1:Calls Tryz.prog 155 #[.slice a n cap] w2.drew fun e w3=> ∃a3 c3,e=.returned (.slice a3 n c3)/\Hid (w3.ownsRow w2.heap.size 62 8 (.slice a3 n c3) n vss.flatten)/\Hid (Below w.heap.size w w3)/\w2.heap.size<=w3.heap.size/\w.heap.size<w3.heap.size/\w3.heap[w.heap.size]?=some (.cells (vov x va vl vc) 62 (0,0)):=by
  refine (gj a n cap vss.flatten w2.drew hn hfl HV1.out (HCL.out _ HBD.out)).mono ?_;rintro e w3 ⟨a3,c3,rfl,ho3,hb3⟩;have hs3:w2.heap.size<=w3.heap.size:=hb3.size;exact⟨a3,c3,rfl,ho3,HBD.trans (hb3.mono HBD.size),hs3,by omega,(hb3.block w.heap.size hs2).trans (show w2.drew.heap[w.heap.size]?=_ from HN2.out)⟩
 have hcl2:Calls Tryz.prog 155 #[.slice a n cap] (w2.alloc (.cells (vov x va vl vc) 62)).drew fun e w3=> ∃a3 c3,e=.returned (.slice a3 n c3)/\Hid (w3.ownsRow (w2.heap.size+1) 62 8 (.slice a3 n c3) n vss.flatten)/\Hid (Below w.heap.size w w3)/\w2.heap.size+1<=w3.heap.size/\Hid (w3.heap[w2.heap.size]?=some (.cells (vov x va vl vc) 62 (0,0))):=by
  have hbl:=Below.vq (HB2.alloc HB2.size (.cells (vov x va vl vc) 62));have hsz:(w2.alloc (.cells (vov x va vl vc) 62)).drew.heap.size=w2.heap.size+1:=aT
  refine (gj a n cap vss.flatten _ hn hfl HV1.out (HCL.out _ hbl)).mono ?_;rintro e w3 ⟨a3,c3,rfl,ho3,hb3⟩;have hs3:=hb3.size;rw[hsz] at ho3 hs3;exact⟨a3,c3,rfl,ho3,hbl.trans (hb3.mono hbl.size),hs3,(hb3.block w2.heap.size (by rw[hsz];omega)).trans (show (w2.alloc (.cells (vov x va vl vc) 62)).drew.heap[w2.heap.size]?=_ from heap_alloc_new w2 _)⟩
 have hin1:∀(w3:World) a3 c3,w3.ownsRow w2.heap.size 62 8 (.slice a3 n c3) n vss.flatten->Below w.heap.size w w3->w2.heap.size<=w3.heap.size->Calls Tryz.prog 154 #[.slice a3 n c3,.int .i64 j,.slice (some ⟨w3.heap.size,0,none⟩) 1 1] (w3.alloc (.cells (vov x va vl vc) 62)) fun e w4=> ∃a' c',e=.returned (.slice a' (n+1) c')/\Hid (az w4 a' (n+1) c' 8 62 ((bz (pl Vd.n xs x.n) x xs).map vdF) (fun k=>(Q k\/Q2 k)\/w.heap.size<=k))/\Hid (Below w.heap.size w w4):=fun w3 a3 c3 ho3 hB3 hs3=>by
  refine (iM a3 n c3 j w2.heap.size w3.heap.size vss.flatten [.string x.n,.int .i64 x.c,.string x.z,.string x.k,.bool x.x,.string x.m,.bool x.y,.slice va vl vc] (w3.alloc (.cells (vov x va vl vc) 62)) (ho3.alloc _) hn hjn bX (heap_alloc_new w3 _) rfl fX HV1.out (fun g hg e=>by
   have h9:=(ho3.lt g (by rw[hg];rfl)).2
   omega)).mono ?_
  rintro e w4 ⟨v4,rfl,ho4,hg4⟩;have hB5:=(hB3.alloc hB3.size (.cells (vov x va vl vc) 62)).grown hg4 bX (fun g hg=>by
   have h9:=(ho3.lt g hg).1
   omega)
  obtain⟨a',c',rfl,hR⟩:=HFIN.out w4 v4 _ af hB5 ho4;exact⟨a',c',rfl,hR,hB5⟩
 have hin2:∀(w3:World) a3 c3,w3.ownsRow (w2.heap.size+1) 62 8 (.slice a3 n c3) n vss.flatten->Below w.heap.size w w3->w2.heap.size+1<=w3.heap.size->w3.heap[w2.heap.size]?=some (.cells (vov x va vl vc) 62 (0,0))->Calls Tryz.prog 154 #[.slice a3 n c3,.int .i64 j,.slice (some ⟨w2.heap.size,0,none⟩) 1 1] w3 fun e w4=> ∃a' c',e=.returned (.slice a' (n+1) c')/\Hid (az w4 a' (n+1) c' 8 62 ((bz (pl Vd.n xs x.n) x xs).map vdF) (fun k=>(Q k\/Q2 k)\/w.heap.size<=k))/\Hid (Below w.heap.size w w4):=fun w3 a3 c3 ho3 hB3 hs3 hy3=>by
  refine (iM a3 n c3 j (w2.heap.size+1) w2.heap.size vss.flatten [.string x.n,.int .i64 x.c,.string x.z,.string x.k,.bool x.x,.string x.m,.bool x.y,.slice va vl vc] w3 ho3 hn hjn hs3 hy3 rfl fX HV1.out (fun g hg e=>by
   have h9:=(ho3.lt g (by rw[hg];rfl)).1
   omega)).mono ?_
  rintro e w4 ⟨v4,rfl,ho4,hg4⟩;have hB5:=hB3.grown hg4 af (fun g hg=>by
   have h9:=(ho3.lt g hg).1
   omega)
  obtain⟨a',c',rfl,hR⟩:=HFIN.out w4 v4 _ af hB5 ho4;exact⟨a',c',rfl,hR,hB5⟩
 have C1:=aa hcl1;have C2:=aa hcl2;have I1:=aa hin1;have I2:=aa hin2;clear hcl1 hcl2 hin1 hin2 HFIN HCL HR HJ HBD HB2;have mixed:Tryz.prog.follows .mixedOrders=true:=an
 go_wp2;go_region_with (first
  | (go_at_call 155;refine C1.mono ?_;rintro e w3 ⟨a3,c3,rfl,HO3,HB3,hs3,hw3l,hx3⟩;obtain⟨m0,m1,m2,m3,m4,m5,m6,m7⟩:=cs8 hx3;clear hx3)
  | (go_at_call 155;refine C2.mono ?_;rintro e w3 ⟨a3,c3,rfl,HO3,HB3,hs3,HY3⟩)
  | (go_at_call 154;refine (I1.out w3 a3 c3 HO3.out HB3.out hs3).mono ?_;rintro e w4 ⟨a',c',rfl,HR5,HB5⟩)
  | (go_at_call 154;refine (I2.out w3 a3 c3 HO3.out HB3.out hs3 HY3.out).mono ?_;rintro e w4 ⟨a',c',rfl,HR5,HB5⟩))
 all_goals (
  go_wp2
  go_ret
  exact⟨a',_,c',rfl,HR5.out,HB5.out⟩)

theorem kZ (d:Ad) (c:Cl) (x:Vd) (ta:Option Addr) (tl tc:Nat) (va:Option Addr) (vl vc:Nat) (w:World) (hr:aK w d c.raw) (hs:Sm c) (hx:av w va vl vc x.zs) (hvl:vl<=8001) (z0:x.n.size<=9223372036854775807) (z2:x.z.size<=9223372036854775807) (z3:x.k.size<=9223372036854775807) (z5:x.m.size<=9223372036854775807):
  Calls Tryz.prog 36 #[.agg #[.slice d.a1 d.l1 d.c1,.slice d.a2 d.l2 d.c2,.slice d.a3 d.l3 d.c3,.slice d.a4 d.l4 d.c4,.slice d.a5 d.l5 d.c5,.int .i64 c.now],.agg #[.string x.n,.int .i64 x.c,.string x.z,.string x.k,.bool x.x,.string x.m,.bool x.y,.slice ta tl tc],.slice va vl vc] w fun e w'=> ∃d',e=.returned (.agg #[.slice d'.a1 d'.l1 d'.c1,.slice d'.a2 d'.l2 d'.c2,.slice d'.a3 d'.l3 d'.c3,.slice d'.a4 d'.l4 d'.c4,.slice d'.a5 d'.l5 d'.c5,.int .i64 c.now])/\bP w' d' (sR c x).raw (fun k=>w.heap.size<=k)/\Below w.heap.size w w':=by
 have HR:=aa hr;have HS:=aa hs;have HX:=aa hx;have HB:=aa (xj w.heap.size w);clear hr hs hx;go_enter Tryz.func36,Tryz.ntmps36;go_wp2_with fail;refine (oN d c _ (HR.below (HB.trans ((bS _ _ _ _).mono HB.size))) HS.out).mono ?_;rintro e w1 ⟨d',rfl,ho,hb⟩;have HQ2:=aa hb.size;simp only[cB] at HQ2 ho;obtain⟨HA0,HA1,HA2,hbx⟩:=pK hb;have Bk:=aa HA0;have Bp:=aa HA1;have Br:=aa HA2;replace HB:=upB HB hbx;clear hb hbx HA0 HA1 HA2;obtain⟨P,hP⟩:=ho;have HP:=aa hP;have hq2:w.heap.size+1+1+1<=w1.heap.size:=HQ2.out;clear hP;obtain⟨p0,p1,p2,p3,p4,p5,p6,p7⟩:=cs8 Bp;have ltp_1:=ae Bp.out;have h5:=(HP.v.dX (S':=(fun k=>(w.heap.size+1+1+1<=k/\P k=3)/\k<w1.heap.size)) (fun k hk s=>⟨s,hk⟩)).below (al w1 (.cells (clv d' c.now) 36));have hlen:d'.l3<=8:=by have h6:=HP.v.1;have h7:(c.vs.map vdF).length=d'.l3:=h6;rw[xR] at h7;have:=HS.v;omega
 have hbo:Below w1.heap.size w1 (w1.alloc (.cells (clv d' c.now) 36)):=al w1 (.cells (clv d' c.now) 36);have hpk:=ae Bp.out;have hc1:Calls Tryz.prog 90 #[.slice d'.a3 d'.l3 d'.c3,.string x.n] (w1.alloc (.cells (clv d' c.now) 36)).drew fun e W=> ∃a2 l2 c2,e=.returned (.slice a2 l2 c2)/\Hid (az W a2 l2 c2 8 62 ((wo Vd.n x.n c.vs).map vdF) (fun k=>(fun k=>(w.heap.size+1+1+1<=k/\P k=3)/\k<w1.heap.size) k\/w1.heap.size+1<=k))/\Hid (Below (w1.alloc (.cells (clv d' c.now) 36)).heap.size (w1.alloc (.cells (clv d' c.now) 36)) W)/\Hid (W.heap[w.heap.size+1]?=some (.cells (vov x va vl vc) 62 (0,0)))/\Hid (W.heap[w1.heap.size]?=some (.cells (clv d' c.now) 36 (0,0)))/\Hid (W.heap[w.heap.size+1+1]?=some (.cells (clo6 none 0 0 none 0 0 none 0 0 none 0 0 none 0 0 0) 36 (0,0))):=by
  refine (oJ d'.a3 d'.l3 d'.c3 c.vs x.n (fun k=>(w.heap.size+1+1+1<=k/\P k=3)/\k<w1.heap.size) (w1.alloc (.cells (clv d' c.now) 36)).drew (h5.aN (fun _ _ _=>rfl) (fun _ _ s=>s)) hlen).mono ?_;rintro e W ⟨a2,l2,c2,rfl,hN,hb⟩;have hb':Below (w1.alloc (.cells (clv d' c.now) 36)).heap.size (w1.alloc (.cells (clv d' c.now) 36)) W:=⟨hb.os,hb.tape,hb.output,hb.size,hb.block⟩;have hN':=hN.dX (S':=fun k=>(fun k=>(w.heap.size+1+1+1<=k/\P k=3)/\k<w1.heap.size) k\/w1.heap.size+1<=k) (fun k _ s=>s.imp id (fun q=>by have q1:(w1.alloc (.cells (clv d' c.now) 36)).drew.heap.size<=k:=q;simpa using q1));exact⟨a2,l2,c2,rfl,hN',hb',(hb'.block _ bX).trans ((hbo.block _ hpk).trans Bp.out),(hb'.block _ aT).trans (heap_alloc_new w1 (.cells (clv d' c.now) 36)),(hb'.block _ bX).trans ((hbo.block _ af).trans Br.out)⟩
 have hc2:∀W,Below (w1.alloc (.cells (clv d' c.now) 36)).heap.size (w1.alloc (.cells (clv d' c.now) 36)) W->Hid (W.heap[w.heap.size+1]?=some (.cells (vov x va vl vc) 62 (0,0)))/\Hid (W.heap[w1.heap.size]?=some (.cells (clv d' c.now) 36 (0,0)))/\Hid (W.heap[w.heap.size+1+1]?=some (.cells (clo6 none 0 0 none 0 0 none 0 0 none 0 0 none 0 0 0) 36 (0,0)))->Calls Tryz.prog 92 #[.agg #[.string x.n,.int .i64 x.c,.string x.z,.string x.k,.bool x.x,.string x.m,.bool x.y,.slice va vl vc]] W fun e W3=> ∃a3 l3 c3,e=.returned (.agg #[.string x.n,.int .i64 x.c,.string x.z,.string x.k,.bool x.x,.string x.m,.bool x.y,.slice a3 l3 c3])/\Hid (bK W3 a3 l3 c3 x.zs (fun k=>W.heap.size<=k))/\Hid (Below W.heap.size W W3)/\Hid (W3.heap[w.heap.size+1]?=some (.cells (vov x va vl vc) 62 (0,0)))/\Hid (W3.heap[w1.heap.size]?=some (.cells (clv d' c.now) 36 (0,0)))/\Hid (W3.heap[w.heap.size+1+1]?=some (.cells (clo6 none 0 0 none 0 0 none 0 0 none 0 0 none 0 0 0) 36 (0,0))):=fun W hb hkp=>by
  refine (hY x va vl vc W (HX.below (HB.trans ((hbo.trans (hb.mono aT)).mono HB.size))) hvl).mono ?_;rintro e W3 ⟨a3,l3,c3,rfl,hO,hb3⟩;exact⟨a3,l3,c3,rfl,hO,hb3,(hb3.block _ (ae hkp.1.out)).trans hkp.1.out,(hb3.block _ (ae hkp.2.1.out)).trans hkp.2.1.out,(hb3.block _ (ae hkp.2.2.out)).trans hkp.2.2.out⟩
 have hc3:∀(W W3:World) a2 l2 c2 a3 l3 c3,Below (w1.alloc (.cells (clv d' c.now) 36)).heap.size (w1.alloc (.cells (clv d' c.now) 36)) W->az W a2 l2 c2 8 62 ((wo Vd.n x.n c.vs).map vdF) (fun k=>(fun k=>(w.heap.size+1+1+1<=k/\P k=3)/\k<w1.heap.size) k\/w1.heap.size+1<=k)->Below W.heap.size W W3->bK W3 a3 l3 c3 x.zs (fun k=>W.heap.size<=k)->Hid (W3.heap[w.heap.size+1]?=some (.cells (vov x va vl vc) 62 (0,0)))/\Hid (W3.heap[w1.heap.size]?=some (.cells (clv d' c.now) 36 (0,0)))/\Hid (W3.heap[w.heap.size+1+1]?=some (.cells (clo6 none 0 0 none 0 0 none 0 0 none 0 0 none 0 0 0) 36 (0,0)))->Calls Tryz.prog 91 #[.slice a2 l2 c2,.agg #[.string x.n,.int .i64 x.c,.string x.z,.string x.k,.bool x.x,.string x.m,.bool x.y,.slice a3 l3 c3]] W3 fun e W4=> ∃a4 l4 c4,e=.returned (.slice a4 l4 c4)/\Hid (az W4 a4 l4 c4 8 62 ((sR c x).vs.map vdF) (fun k=>(fun k=>(w.heap.size+1+1+1<=k/\P k=3)/\k<w1.heap.size) k\/w1.heap.size+1<=k))/\Hid (Below w1.heap.size w1 W4)/\Hid (W4.heap[w.heap.size+1]?=some (.cells (vov x va vl vc) 62 (0,0)))/\Hid (W4.heap[w1.heap.size]?=some (.cells (clv d' c.now) 36 (0,0)))/\Hid (W4.heap[w.heap.size+1+1]?=some (.cells (clo6 none 0 0 none 0 0 none 0 0 none 0 0 none 0 0 0) 36 (0,0))):=fun W W3 a2 l2 c2 a3 l3 c3 hb hO2 hb3 hO3 hkp=>by
  obtain⟨g,hg⟩:=hO3.fr;have hr2:=(hO2.dX (S':=fun k=>((fun k=>(w.heap.size+1+1+1<=k/\P k=3)/\k<w1.heap.size) k\/w1.heap.size+1<=k)/\k<W.heap.size) (fun k hk s=>⟨s,hk⟩)).below hb3;have hl2:l2<=8:=by have h6:=hO2.1;rw[xR] at h6;have h7:=tr Vd.n x.n c.vs;have:=HS.v;omega
  have hs1:=hb.size;simp only[cB] at hs1;refine (ly a2 l2 c2 (wo Vd.n x.n c.vs) x a3 l3 c3 g _ (fun k=>W.heap.size<=k) W3 hr2 hl2 (pt z0 z2 z3 z5 hg) (fun k q1 q2=>by have q3:=q1.2;have q4:W.heap.size<=k:=q2;omega)).mono ?_;rintro e W4 ⟨a4,l4,c4,rfl,hN,hb4⟩;have hs3:=hb3.size;have hb14:Below w1.heap.size w1 W4:=(hbo.trans (hb.mono aT)).trans ((hb3.mono af).trans (hb4.mono af));have hN':=hN.dX (S':=fun k=>(fun k=>(w.heap.size+1+1+1<=k/\P k=3)/\k<w1.heap.size) k\/w1.heap.size+1<=k) (fun k _ s=>by
   rcases s with (s|s)|s
   ·exact s.1
   ·have s1:W.heap.size<=k:=s;exact .inr af
   ·have s1:W3.heap.size<=k:=s;exact .inr af)
  exact⟨a4,l4,c4,rfl,hN',hb14,(hb4.block _ (ae hkp.1.out)).trans hkp.1.out,(hb4.block _ (ae hkp.2.1.out)).trans hkp.2.1.out,(hb4.block _ (ae hkp.2.2.out)).trans hkp.2.2.out⟩
 have C1:=aa hc1;have C2:=aa hc2;have C3:=aa hc3;clear hc1 hc2 hc3 h5 HX;have mixed:Tryz.prog.follows .mixedOrders=true:=an
 go_wp2;go_region_with (first
  | (go_at_call 90;refine C1.mono ?_;rintro e w2 ⟨a2,l2,c2,rfl,HO2,HB2,HKP2⟩;obtain⟨p0,p1,p2,p3,p4,p5,p6,p7⟩:=cs8 HKP2.1.out)
  | (go_at_call 92;refine (C2.out w2 HB2.out HKP2).mono ?_;rintro e w3 ⟨a3,l3,c3,rfl,HO3,HB3,HKP3⟩)
  | (go_at_call 91;refine (C3.out w2 w3 a2 l2 c2 a3 l3 c3 HB2.out HO2.out HB3.out HO3.out HKP3).mono ?_;rintro e w4 ⟨a4,l4,c4,rfl,HO4,HB4,HKP4⟩;obtain⟨o0,o1,o2,o3,o4,o5⟩:=cs6 HKP4.2.1.out;have hol:=ae HKP4.2.1.out;have fo2:=aw HKP4.2.1.out 2))
 all_goals (
  obtain⟨r0,r1,r2,r3,r4,r5⟩:=cs6 HKP4.2.2.out;have fr0:=aw HKP4.2.2.out 0;have fr1:=aw HKP4.2.2.out 1;have fr2:=aw HKP4.2.2.out 2;have fr3:=aw HKP4.2.2.out 3;have fr4:=aw HKP4.2.2.out 4;have fr5:=aw HKP4.2.2.out 5;have hrl:=ae HKP4.2.2.out
  have hne:¬w.heap.size+1+1=w1.heap.size:=af
  have hne2:¬w1.heap.size=w.heap.size+1+1:=af
  go_wp2
  refine bodyPost_ret (v:=.agg #[.slice d'.a1 d'.l1 d'.c1,.slice d'.a2 d'.l2 d'.c2,.slice a4 l4 c4,.slice d'.a4 d'.l4 d'.c4,.slice d'.a5 d'.l5 d'.c5,.int .i64 c.now]) (by simp[results,Tryz.results36,go_sem, *]) rfl ⟨⟨d'.a1,d'.l1,d'.c1,d'.a2,d'.l2,d'.c2,a4,l4,c4,d'.a4,d'.l4,d'.c4,d'.a5,d'.l5,d'.c5⟩,rfl,?_,sb2 (sb2 (sb2 (sb2 (sb2 (sb2 (ah (show w.heap.size<=w1.heap.size by omega) (HB.trans (HB4.mono HB.size))))))))⟩;have h9:=HP.wT hq2 HO4.out HB4.out (w4:=(((((((w4.setCell ⟨w1.heap.size,2,none⟩ (.slice a4 l4 c4)).setCell ⟨w.heap.size+1+1,0,none⟩ (.slice d'.a1 d'.l1 d'.c1)).setCell ⟨w.heap.size+1+1,1,none⟩ (.slice d'.a2 d'.l2 d'.c2)).setCell ⟨w.heap.size+1+1,2,none⟩ (.slice a4 l4 c4)).setCell ⟨w.heap.size+1+1,3,none⟩ (.slice d'.a4 d'.l4 d'.c4)).setCell ⟨w.heap.size+1+1,4,none⟩ (.slice d'.a5 d'.l5 d'.c5)).setCell ⟨w.heap.size+1+1,5,none⟩ (.int .i64 c.now))) (fun k h1 h2=>by rw[xi _ _ _ _ (show k≠w.heap.size+1+1 by omega),xi _ _ _ _ (show k≠w.heap.size+1+1 by omega),xi _ _ _ _ (show k≠w.heap.size+1+1 by omega),xi _ _ _ _ (show k≠w.heap.size+1+1 by omega),xi _ _ _ _ (show k≠w.heap.size+1+1 by omega),xi _ _ _ _ (show k≠w.heap.size+1+1 by omega),xi _ _ _ _ (show k≠w1.heap.size by omega)])
  exact h9.dX (fun k _ s=>by have s1:w.heap.size+1+1+1<=k:=s;show w.heap.size<=k;omega))

theorem ft (a b:ByteArray) (w:World) (r:Int) (h:r=cb a b):Calls Tryz.prog 38 #[.string a,.string b] w fun e w'=>e=.returned (.int .i64 r)/\Below w.heap.size w w':=by
 rw[h];refine (fQ a b w).mono ?_;rintro e w' ⟨rfl,rfl⟩;exact⟨rfl,xj _ _⟩
def BsT (zs:List ByteArray) (x:ByteArray) (w:World) (e:Ending) (w':World):Prop:=∃(k:Nat) (f:Bool),e=.returned (.tuple #[.int .i64 k,.bool f])/\k<=zs.length/\(∀(j:Nat) y,j<k->zs[j]?=some y->xn y.toList x.toList=true)/\((f=true/\zs[k]?=some x)\/(f=false/\∀y,zs[k]?=some y->xn x.toList y.toList=true))/\Below w.heap.size w w'
theorem RT.le {zs:List ByteArray} {x y z:ByteArray} {i j:Nat} (h:RT zs) (hij:i<=j) (hi:zs[i]?=some y) (hj:zs[j]?=some z) (hl:xn z.toList x.toList=true):xn y.toList x.toList=true:=by
 rcases Nat.lt_or_ge i j with hlt|hge
 ·have h1:=xe.1 hi;have h2:=xe.1 hj;obtain⟨i1,rfl⟩:=h1;obtain⟨j1,rfl⟩:=h2;exact bD _ _ _ (yP.1 h i j i1 j1 hlt) hl
 ·obtain rfl:i=j:=af
  rw[hi] at hj;obtain rfl:=xh hj;exact hl

theorem lf (a:Option Addr) (len cap:Nat) (zs:List ByteArray) (x:ByteArray) (w:World) (hr:av w a len cap zs) (hri:RT zs) (hl:len<=64):
  Calls Tryz.prog 93 #[.slice a len cap,.string x,.func (.func 38) #[] #[]] w (BsT zs x w):=by
 have HR:=aa hr;have hzl:zs.length=len:=hr.1;obtain⟨hlc,hcm⟩:=kj;have HRI:=aa hri;clear hr hri;go_enter Tryz.func93,Tryz.ntmps93;go_wp2;go_loopw [9,10] (fun vi vj wr=> ∃(i j:Nat),i<=j/\j<=len/\vi=.int .i64 i/\vj=.int .i64 j/\Hid (∀(q:Nat) y,q<i->zs[q]?=some y->xn y.toList x.toList=true)/\Hid (∀(q:Nat) y,j<=q->zs[q]?=some y->xn y.toList x.toList=false)/\Hid (Below w.heap.size w wr)) (fun vi vj _=>(intOf vj).toNat - (intOf vi).toNat);case atStart=>exact⟨0,len,by omega,by omega,rfl,rfl,fun q y h=>by omega,fun q y h hy=>by have:=(xe.1 hy).1;omega,xj _ _⟩
 case round=>
  obtain⟨i,j,hij,hj,rfl,rfl,HI,HJ,HB⟩:=hrel;have hLs:=HB.size;have HL:=HB;by_cases hlt:i<j
  ·have hk1:(i:Int)<j:=af
   obtain⟨m,hm⟩:∃m,m=(i+j) / 2:=⟨_,rfl⟩;have hm1:m<j:=af
   have hm2:i<=m:=af
   have hml:m<len:=af
   obtain⟨b,o,y,rfl,hb,hy,hc0,-⟩:=(HR.below HB.out).at hml;have HY:=aa hy;clear hy;have hmi:((i:Int)+j) / 2=(m:Int):=af
   have hm0:¬(m:Int)<0:=af
   have hm3:(m:Int)<len:=af
   obtain⟨r,hr⟩:∃r,r=cb y x:=⟨_,rfl⟩;have HRR:=aa hr;clear hr hm;by_cases hr0:r<0
   ·have hr1:decide (r<0)=true:=fW
    go_wp2_with fail;clear hb hc0;refine (ft y x _ r HRR.out).mono ?_;rintro e w2 ⟨rfl,hb3⟩;replace HB:=upB HB hb3;clear hb3;have HLS:Hid (xn y.toList x.toList=true):=(gC _ _).1 nk;go_wp2;refine⟨⟨m+1,j,by omega,by omega,by go_num,rfl,fun q z hq hz=>HRI.le af hz HY.out HLS.out,HJ.out,HB.out⟩,by simp[intOf];omega⟩
   ·have hr1:decide (r<0)=false:=fW
    go_wp2_with fail;clear hb hc0;refine (ft y x _ r HRR.out).mono ?_;rintro e w2 ⟨rfl,hb3⟩;replace HB:=upB HB hb3;clear hb3;have HLS:Hid (xn y.toList x.toList=false):=by
     show xn y.toList x.toList=false;cases h9:xn y.toList x.toList
     ·rfl
     ·have h8:=(gC y x).2 h9;rw[<-HRR.out] at h8;omega
    go_wp2;refine⟨⟨i,m,by omega,by omega,rfl,rfl,HI.out,fun q z hq hz=>?_,HB.out⟩,by simp[intOf];omega⟩;cases h9:xn z.toList x.toList
    ·rfl
    ·have h8:=HRI.le hq HY.out hz h9;rw[HLS.out] at h8;cases h8
  have HIJ:Hid (i=j):=by show i=j;omega
  have hk1:¬(i:Int)<j:=af
  by_cases hil:i<len
  ·have hk2:(i:Int)<len:=af
   have hk3:decide ((i:Int)<len)=true:=by simp;omega
   obtain⟨b,o,y,rfl,hb,hy,hc0,-⟩:=(HR.below HB.out).at hil;have HY:=aa hy;clear hy;obtain⟨r,hr⟩:∃r,r=cb y x:=⟨_,rfl⟩;have HRR:=aa hr;clear hr;by_cases hr0:r=0
   ·have hr1:(r==0)=true:=fW
    go_wp2_with fail;clear hb hc0;refine (ft y x _ r HRR.out).mono ?_;rintro e w2 ⟨rfl,hb3⟩;replace HB:=upB HB hb3;clear hb3;have HEQ:Hid (zs[i]?=some x):=by
     have h9:y=x:=(dS _ _).1 nk;rw[<-h9];exact HY.out
    go_wp2;exact bodyPost_ret (v:=.tuple #[.int .i64 i,.bool true]) pO rfl ⟨i,true,rfl,by omega,HI.out,.inl ⟨rfl,HEQ.out⟩,HB.out⟩
   ·have hr1:(r==0)=false:=fW
    go_wp2_with fail;clear hb hc0;refine (ft y x _ r HRR.out).mono ?_;rintro e w2 ⟨rfl,hb3⟩;replace HB:=upB HB hb3;clear hb3;have HGT:Hid (∀z,zs[i]?=some z->xn x.toList z.toList=true):=fun z hz=>by
     rw[HY.out] at hz;obtain rfl:=xh hz;exact hU (HJ.out i y (by have:=HIJ.out;omega) HY.out) (fun e=>hr0 (by rw[HRR.out];exact (dS _ _).2 e))
    go_wp2;exact bodyPost_ret (v:=.tuple #[.int .i64 i,.bool false]) pO rfl ⟨i,false,rfl,by omega,HI.out,.inr ⟨rfl,HGT.out⟩,HB.out⟩
  have hk2:¬(i:Int)<len:=af
  have hk3:decide ((i:Int)<len)=false:=by simp;omega
  go_wp2;exact bodyPost_ret (v:=.tuple #[.int .i64 i,.bool false]) pO rfl ⟨i,false,rfl,by omega,HI.out,.inr ⟨rfl,fun z hz=>by have:=(xe.1 hz).1;omega⟩,HB.out⟩

structure Lt (B:Nat) (w w':World):Prop where
 os:w'.os=w.os
 tape:w'.tape=w.tape
 output:w'.output=w.output
 size:w.heap.size<=w'.heap.size
 block:∀k,k<w.heap.size->(k<B\/∃(cs:Array Value) (T:TypeId),w.heap[k]?=some (.cells cs T (0,0))/\cs.size=1)->w'.heap[k]?=w.heap[k]?
theorem Lt.bh {B:Nat} {w w':World} (h:Below w.heap.size w w'):Lt B w w':=⟨h.os,h.tape,h.output,h.size,fun k hk _=>h.block k hk⟩
theorem Lt.trans {B:Nat} {a b c:World} (h:Lt B a b) (k:Lt B b c):Lt B a c:=⟨k.os.trans h.os,k.tape.trans h.tape,k.output.trans h.output,xp h.size k.size,fun i hi hp=>by
 have h1:=h.block i hi hp;exact (k.block i (xr hi h.size) (hp.imp id (fun ⟨cs,T,h2,h3⟩=>⟨cs,T,h1.trans h2,h3⟩))).trans h1⟩
theorem Lt.low {w w':World} (h:Lt w.heap.size w w'):Below w.heap.size w w':=⟨h.os,h.tape,h.output,h.size,fun k hk=>h.block k hk (.inl hk)⟩
def Rt (B:Nat) (sp:Tmp):Gi.Rs:=fun s w w'=>match s with
 | none=>Lt B w w'
 | some t=>if t=sp then Lt B w w' else Below w.heap.size w w'
theorem Rt.below {B:Nat} {sp:Tmp} {s:Option Tmp} {w w':World} (h:Rt B sp s w w') (h1:¬s=none) (h2:¬s=some sp):Below w.heap.size w w':=by
 cases s with
 | none=>exact absurd rfl h1
 | some t=>
  simp only[Rt] at h;rw[if_neg (fun e=>h2 (by rw[e]))] at h;exact h
theorem Rt.rel (B:Nat) (sp:Tmp):Gi.Rel (Rt B sp) sp:=by
 refine⟨fun w=>Lt.bh (xj _ _),fun {a b c} h k=>Lt.trans h k,fun h=>Lt.size h,fun w=>Lt.bh (xj _ _).drew,fun s {a b} h=>?_,fun s {a b} h1 h2 h=>Rt.below h h1 h2⟩;cases s with
 | none=>exact h
 | some t=>
  show Lt B a b
  simp only[Rt] at h
  split at h
  ·exact h
  ·exact Lt.bh h
theorem Rt.other {B:Nat} {sp t:Tmp} {w w':World} (ht:¬t=sp) (h:Below w.heap.size w w'):Rt B sp (some t) w w':=by
 show (if t=sp then Lt B w w' else Below w.heap.size w w');rw[if_neg ht];exact h
theorem Rt.this {B:Nat} {sp:Tmp} {w w':World} (h:Lt B w w'):Rt B sp (some sp) w w':=by
 show (if sp=sp then Lt B w w' else Below w.heap.size w w');rw[if_pos rfl];exact h
def B1T (x:ByteArray):Gi.Fact:=fun u w _ _=> ∃b,u=.slice (some ⟨b,0,none⟩) 1 1/\w.heap[b]?=some (.cells #[.string x] 9 (0,0))
theorem B1T.mono {B:Nat} {sp:Tmp} {ex:Gi.Ex} {d:Option Tmp} {x:ByteArray} :Gi.Fact.bw (Rt B sp) ex d (B1T x):=by
 rintro s _ _ _ v w w' l h ⟨b,h1,h2⟩ hb;have hb:Lt B w w':=(Rt.rel B sp).sub s hb;exact⟨b,h1,(hb.block b (ae h2) (.inr ⟨_,_,h2,rfl⟩)).trans h2⟩
def OwT (B n:Nat) (xs:List Value):Gi.Fact:=fun u w _ _=>w.ownsRow B 9 1 u n xs
theorem OwT.mono {B B' n:Nat} {sp t:Tmp} {ex:Gi.Ex} {xs:List Value} (hx:t=sp\/ex t=some sp):Gi.Fact.bw (Rt B sp) ex (some t) (OwT B' n xs):=by
 rintro s h1 h2 h3 v w w' l h ho hb;refine br ho (Rt.below hb h1 (fun e=>?_));rcases hx with rfl|hx
 ·exact h2 e
 ·exact h3 t sp rfl hx e
theorem eE (w:World) (B:Nat) (t ty e:TypeId) (i:TypeInfo) (z:Value) (bytes:Nat) (ht:Tryz.prog.underlying t=some (.slice e)) (hi:Tryz.prog.info? e=some i) (hz:i.zero=some z)
  (hsize:i.size=1) (hby:i.bytes=bytes) (hzs:z.cells.size=1) (v:Value) (n:Nat) (xs:List Value) (hn:0<n) (hown:w.ownsRow B e 1 v n xs)
  (ax:Option Addr) (m c:Nat) (news:List Value) (hl:news.length=m*1) (hnews:∀(j:Nat) u,news[j]?=some u->∃ad:Addr,ax=some ad/\w.cell? (ad.add j)=some u) (h1:∀u∈news,u.oneCell'=true)
  (h63:n+m<=maxLen) (hbytes:(n+m)*bytes<=140737488355328) (hbase:B<=w.heap.size):
  ∃v' w',(xU #[t,t] ty #[v,.slice ax m c]).run Tryz.prog w=.ok v' w'/\w'.ownsRow B e 1 v' (n+m) (xs++news)/\Lt B w w':=by
 rcases yy m with rfl|hm
 ·have h0:news=[]:=xN (by simpa using hl);subst h0;exact⟨v,w,cF ht hi hown ax c,by simpa using hown,Lt.bh (xj _ _)⟩
 ·obtain⟨ad,rfl,_⟩:=hnews 0 (news[0]'(by omega)) (xm _);have hnw:∀(j:Nat) u,news[j]?=some u->w.cell? (ad.add j)=some u:=fun j u hu=>by
   obtain⟨ad',e',h3⟩:=hnews j u hu;cases e';exact h3
  obtain⟨v',w',hr,h2,h3,h4⟩:=run_append_own (P:=Tryz.prog) w B t ty e i z 1 bytes ht hi hz hsize hby hzs aj v n xs hown ad m c news hl hnw h1 h63 hbytes hbase;exact vd

theorem gu (w:World) (t ty e:TypeId) (i:TypeInfo) (ht:Tryz.prog.underlying t=some (.slice e)) (hi:Tryz.prog.info? e=some i) (bs ax:Option Addr) (n c:Nat):(xU #[t,t] ty #[.slice bs n n,.slice ax 0 c]).run Tryz.prog w=.ok (.slice bs n n) w:=by
 cases bs <;> cases ax <;> simp[xU,run_underlying ht,sizeOf,typeInfo,hi,Builtin.lenOf,Builtin.firstCells,storeCells,loadCells,loadCellsFrom]
theorem mb {w:World} {base:Nat} {v:Value} {n:Nat} {zs:List ByteArray} (h:w.ownsRow base 9 1 v n (zs.map xo)) (hs:∀(j:Nat) z,zs[j]?=some z->z.size<=9223372036854775807):∃a' c',v=.slice a' n c'/\av w a' n c' zs:=by
 have hn:zs.length=n:=by have h1:=h.1;simpa using h1
 have hc:=fun (g:Nat) (cap:Nat) (e:v=.slice (some ⟨g,0,none⟩) n cap)=>h.cells (g:=g) (by rw[e];rfl);rcases h.2 with ⟨rfl,h0⟩|⟨g,cap,cur,rfl,hb,hg,hnc,hcm,hcs,htake⟩
 ·subst h0;exact⟨none,0,rfl,hn,xk _,by omega,hs,.inl (xN hn)⟩
 ·refine⟨_,_,rfl,hn,hnc,by unfold maxLen at hcm;omega,hs,.inr ⟨g,0,rfl,ae hg,fun j z hz=>?_⟩⟩;have h1:=hc g cap rfl j (.string z) (by rw[xq,hz];rfl);rw[xB] at h1;exact h1
theorem im (w:World) (ty:TypeId) (i:TypeInfo) (hi:Tryz.prog.info? 9=some i) (hz:i.zero=some (.string ⟨#[]⟩)) (hsize:i.size=1) (hby:i.bytes=16) (bs ax:Option Addr) (n m c:Nat) (xs ys:List ByteArray) (hn:n<=64) (hm:m<=64) (hx:av w bs n n xs) (hy:av w ax m c ys):
  ∃v' w' a' c',(xU #[59,59] ty #[.slice bs n n,.slice ax m c]).run Tryz.prog w=.ok v' w'/\v'=.slice a' (n+m) c'/\av w' a' (n+m) c' (xs++ys)/\Below w.heap.size w w':=by
 rcases yy m with rfl|hm0
 ·have h0:ys=[]:=xN hy.1;subst h0;exact⟨_,_,bs,n,gu w _ ty _ i Tryz.underlying59 hi bs ax n c,rfl,by simpa using hx,xj _ _⟩
 ·have hyc:∀(j:Nat) u,(ys.map xo)[j]?=some u->∃ad:Addr,ax=some ad/\w.cell? (ad.add j)=some u:=fun j u hu=>by
   rw[xq,xu] at hu;obtain⟨z,hz,rfl⟩:=hu;obtain⟨b,o,x,rfl,hb,hx,hc,-⟩:=hy.at (k:=j) (by have:=(xe.1 hz).1;have:=hy.1;omega);rw[hz] at hx;cases hx;exact⟨_,rfl,by rw[xB];exact hc⟩
  have hxc:∀(j:Nat) u,(xs.map xo)[j]?=some u->∃ad:Addr,bs=some ad/\w.cell? (ad.add j)=some u:=fun j u hu=>by
   rw[xq,xu] at hu;obtain⟨z,hz,rfl⟩:=hu;obtain⟨b,o,x,rfl,hb,hx,hc,-⟩:=hx.at (k:=j) (by have:=(xe.1 hz).1;have:=hx.1;omega);rw[hz] at hx;cases hx;exact⟨_,rfl,by rw[xB];exact hc⟩
  obtain⟨ad,rfl,-⟩:=hyc 0 _ (by rw[xq,xm (by have:=hy.1;omega)];rfl);obtain⟨v',w',hr,h2,h3⟩:=bZ w 59 ty 9 i (.string ⟨#[]⟩) 1 16 Tryz.underlying59 hi hz hsize hby rfl bs n (xs.map xo) (by simpa using hx.1) (fun e=>by
   subst e
   rcases hx.2.2.2.2 with h9|⟨b,o,h9,_⟩
   ·subst h9;exact hx.1.symm
   ·cases h9) hxc ad m c (ys.map xo) hm0 (by simpa using hy.1) (fun j u hu=>by
   obtain⟨ad',e',h5⟩:=hyc j u hu
   cases e'
   exact h5) bJ af
  rw[<-List.map_append] at h2;obtain⟨a',c',e,h4⟩:=mb h2 (fun j z hz=>by
   have h1:=xD hz
   rcases List.mem_append.1 h1 with h1|h1
   ·obtain⟨i,hi⟩:=xS h1;exact hx.2.2.2.1 i z hi
   ·obtain⟨i,hi⟩:=xS h1;exact hy.2.2.2.1 i z hi)
  exact⟨_,_,a',c',hr,e,h4,h3⟩
theorem sK {w:World} {a:Option Addr} {len cap k:Nat} {zs:List ByteArray} (h:av w a len cap zs) (hk:k<=len):av w a k k (zs.take k):=by
 obtain⟨h1,h2,h3,h4,h5⟩:=h;refine⟨by rw[xE];omega,xk _,by omega,fun j x hx=>?_,?_⟩
 ·rw[xF] at hx;split at hx
  ·exact h4 j x hx
  ·cases hx
 ·rcases h5 with rfl|⟨b,o,e,hb,hc⟩
  ·exact .inl aT
  ·refine .inr ⟨b,o,e,hb,fun j x hx=>?_⟩;rw[xF] at hx;split at hx
   ·exact hc j x hx
   ·cases hx

theorem RT.tu {zs:List ByteArray} (h:RT zs):aJ (fun s:ByteArray=>s) zs:=fun j x y hx hy=>by
 obtain⟨i1,rfl⟩:=xe.1 hx;obtain⟨j1,rfl⟩:=xe.1 hy;exact yP.1 h j (j+1) j1 i1 af
theorem vP {zs:List ByteArray} {x:ByteArray} {k:Nat} (h:RT zs) (hlt:∀(j:Nat) y,j<k->zs[j]?=some y->xn y.toList x.toList=true) (hgt:∀y,zs[k]?=some y->xn x.toList y.toList=true):¬x∈zs:=fun hx=>by
 obtain⟨j,hj⟩:=xS hx;rcases Nat.lt_trichotomy j k with h1|rfl|h1
 ·have h2:=hlt j x h1 hj;rw[bN] at h2;cases h2
 ·have h2:=hgt x hj;rw[bN] at h2;cases h2
 ·have hl:=(xe.1 hj).1;have hk:zs[k]?=some (zs[k]'(by omega)):=xm _;have h2:=bD _ _ _ (h.tu.lt h1 hk hj) (hgt _ hk);rw[bN] at h2;cases h2
def s_ (x:ByteArray) (zs:List ByteArray) (w:World) (e:Ending) (w':World):Prop:=∃a' l' c',e=.returned (.slice a' l' c')/\av w' a' l' c' (wo (fun s:ByteArray=>s) x zs)/\Below w.heap.size w w'
def TxF (n:Nat) (zs:List ByteArray):Fact:=fun v w=> ∃a' c',v=.slice a' n c'/\av w a' n c' zs
theorem TxF.mono (n:Nat) (zs:List ByteArray):Fact.bw (TxF n zs):=by
 rintro v w w' ⟨a',c',h1,h2⟩ hb;exact⟨a',c',h1,h2.below hb⟩
theorem sJ {w:World} {b o len cap k:Nat} {zs:List ByteArray} (h:av w (some ⟨b,o,none⟩) len cap zs) (hk:k<=len) (p:Nat) (hp:k<len->p=o+k):av w (some ⟨b,p,none⟩) (len - k) (cap - k) (zs.drop k):=by
 obtain⟨h1,h2,h3,h4,h5⟩:=h;refine⟨by rw[yf];omega,by omega,by omega,fun j x hx=>?_,?_⟩
 ·rw[xX] at hx;exact h4 _ x hx
 ·by_cases hd:zs.drop k=[]
  ·exact .inl hd
  ·have hkl:k<len:=yj fun q=>hd (xW af);rcases h5 with rfl|⟨b',o',e,hb,hc⟩
   ·exact absurd aT hd
   ·cases e;refine .inr ⟨b,p,rfl,hb,fun j x hx=>?_⟩;rw[xX] at hx;rw[hp hkl,Nat.add_assoc];exact hc _ x hx

theorem mw (a:Option Addr) (len cap:Nat) (zs:List ByteArray) (x:ByteArray) (w:World) (hr:av w a len cap zs) (hri:RT zs) (hl:len<=64) (hx:x∈zs):
  Calls Tryz.prog 37 #[.slice a len cap,.string x,.func (.func 38) #[] #[]] w (s_ x zs w):=by
 have HR:=aa hr;have hzl:zs.length=len:=hr.1;obtain⟨hlc,hcm⟩:=kj;have HRI:=aa hri;have HX:=aa hx;obtain⟨i0,hi,hz0,hz1,hz2⟩:=info_parts dt;have HI0:=aa (xf hi (xf hz0 (xf hz1 hz2)));clear hi hz0 hz1 hz2;have HB:=aa (xj w.heap.size w);clear hr hri hx;go_enter Tryz.func37,Tryz.ntmps37;go_wp2_with fail;refine (lf a len cap zs x _ HR.out HRI.out hl).mono ?_;rintro e w1 ⟨k,f,rfl,hk,hlt,hfd,hb⟩;replace HB:=upB HB hb;clear hb;rcases hfd with ⟨rfl,hxk⟩|⟨rfl,hgt⟩;rotate_left
 ·exact absurd HX.out (vP HRI.out hlt hgt)
 have HWO:Hid (wo (fun s:ByteArray=>s) x zs=zs.take k++zs.drop (k+1)):=jL HRI.tu hxk rfl;have hkl:k<len:=by have:=(xe.1 hxk).1;omega
 obtain⟨b,o,t,rfl,-,-,-,-⟩:=HR.at hkl;have hkc:k<=cap:=af
 have hkc2:k+1<=cap:=af
 have hic:(k:Int)<=cap:=af
 have hil:(k:Int)+1<=len:=af
 have hi0:(0:Int)<=(k:Int)+1:=af
 have hn1:((k:Int)+1).toNat=k+1:=af
 have hkk:(k:Int)<=(k:Int)+1:=af
 have hwr:IntKind.i64.wrap ((k:Int)+1)=(k:Int)+1:=by simp only[IntKind.wrap,IntKind.bits,IntKind.signed];simp;omega
 clear hxk hlt hk;by_cases hcap:cap=k+1;all_goals (
  go_wp2_with fail;rename_i K0 hK0;refine aB an rfl rfl an ?_;refine' Grow.ar _ rfl ?_ ?_;rotate_left 1
  ·refine Obl.plain rfl ?_;intro ac wg K hsz hW hf hK;clear hsz;have e0:=hf 0 aj
   simp[ak,xg] at e0
   clear hf;go_simp;refine hK _ _ (xj _ _) ?_;with_reducible rfl
  refine' Grow.ar _ rfl ?_ ?_;rotate_left 1
  ·refine Obl.plain rfl ?_;intro ac wg K hsz hW hf hK;clear hsz;have e7:=hf 7 aj
   simp[ak,xg] at e7
   clear hf;go_simp;refine hK _ _ (xj _ _) ?_;with_reducible rfl
  refine' Grow.ar _ rfl ?_ ?_;rotate_left 1
  ·refine Obl.plain rfl ?_;intro ac wg K hsz hW hf hK;clear hsz;have e7:=hf 7 aj
   simp[ak,xg] at e7
   clear hf;go_simp;refine hK _ _ (xj _ _) ?_;with_reducible rfl
  refine' Grow.ar _ rfl ?_ ?_;rotate_left 1
  ·refine Obl.plain rfl ?_;intro ac wg K hsz hW hf hK;clear hsz;have e19:=hf 19 aj
   simp[ak,xg] at e19
   have e20:=hf 20 aj
   simp[ak,xg] at e20
   have e21:=hf 21 aj
   simp[ak,xg] at e21
   clear hf;go_simp;refine hK _ _ (xj _ _) ?_;with_reducible rfl
  refine' Grow.ar _ rfl ?_ ?_;rotate_left 1
  ·refine Obl.plain rfl ?_;intro ac wg K hsz hW hf hK;clear hsz;have e0:=hf 0 aj
   simp[ak,xg] at e0
   clear hf;go_simp;refine hK _ _ (xj _ _) ?_;with_reducible rfl
  refine' Grow.ar _ rfl ?_ ?_;rotate_left 1
  ·refine Obl.plain rfl ?_;intro ac wg K hsz hW hf hK;clear hsz;have e7:=hf 7 aj
   simp[ak,xg] at e7
   clear hf;go_simp;refine hK _ _ (xj _ _) ?_;with_reducible rfl
  refine' Grow.ar _ rfl ?_ ?_;rotate_left 1
  ·refine Obl.plain rfl ?_;intro ac wg K hsz hW hf hK;clear hsz;have e24:=hf 24 aj
   simp[ak,xg] at e24
   clear hf;go_simp;refine hK _ _ (xj _ _) ?_;with_reducible rfl
  refine' Grow.ar _ rfl ?_ ?_;rotate_left 1
  ·refine Obl.plain rfl ?_;intro ac wg K hsz hW hf hK;clear hsz;have e23:=hf 23 aj
   simp[ak,xg] at e23
   have e25:=hf 25 aj
   simp[ak,xg] at e25
   clear hf;go_simp;refine hK _ _ (xj _ _) ?_;with_reducible rfl
  refine Grow.step (TxF (k+(len - (k+1))) (zs.take k++zs.drop (k+1))) rfl (TxF.mono _ _) ?_ ?_
  ·refine Obl.plain rfl ?_;intro ac wg K hsz hW hf hK;clear hsz;have e22:=hf 22 aj
   simp[ak,xg] at e22
   have e26:=hf 26 aj
   simp[ak,xg] at e26
   clear hf;obtain⟨p9,c9,e26',hc9,hp9⟩:∃(p9 c9:Nat),ac.tmps[26]?.getD undef=.slice (some ⟨b,p9,none⟩) (len - (k+1)) c9/\c9=cap - (k+1)/\(k+1<len->p9=o+(k+1)):=⟨_,_,e26,by omega,fun _=>by omega⟩;subst hc9;obtain⟨v',w',a',c',hr,rfl,h2,h3⟩:=im wg 59 i0 HI0.1 HI0.2.1 HI0.2.2.1 HI0.2.2.2 _ _ k (len - (k+1)) _ (zs.take k) (zs.drop (k+1)) af af (sK (HR.below (HB.trans (hW.mono HB.size))) (Nat.le_of_lt hkl)) (sJ (HR.below (HB.trans (hW.mono HB.size))) (k:=k+1) hkl p9 hp9);refine wp_append_run (.tmp 22) (.tmp 26) 59 rfl (by simpa[Act.eval] using e22) (by simpa[Act.eval] using e26') hr ?_;exact hK _ _ h3 ⟨a',c',rfl,h2⟩
  refine Grow.done ?_;intro q wz hW hf;simp only[xH] at hf;obtain⟨h27,-⟩:=hf;have h27':TxF (k+(len - (k+1))) (zs.take k++zs.drop (k+1)) (q 27) wz:=h27;obtain⟨a',c',hv27,ht⟩:=h27';rw[<-HWO.out] at ht;have HTX:=aa ht;have HB7:=upB HB hW;clear ht h27 hW;intro K hK;rw[if_pos (by rfl)];simp only[aI,yo,yx,xx,xG,xK,hv27];simp only[yg];go_simp;refine hK _ _ ?_;refine hK0 _ _ ?_;clear hK hK0 K K0
  go_wp2
  go_ret
  exact⟨a',_,c',rfl,HTX.out,HB7.out⟩)

theorem oM (a:Option Addr) (len cap:Nat) (zs:List ByteArray) (x:ByteArray) (w:World) (hr:av w a len cap zs) (hri:RT zs) (hl:len<=64) (hx:x.size<=9223372036854775807):
  Calls Tryz.prog 41 #[.slice a len cap,.string x,.func (.func 38) #[] #[]] w (vQ x zs w):=by
 have HR:=aa hr;have hzl:zs.length=len:=hr.1;obtain⟨hlc,hcm⟩:=kj;have HRI:=aa hri;obtain⟨i0,hi,hz0,hz1,hz2⟩:=info_parts dt;have HI0:=aa (xf hi (xf hz0 (xf hz1 hz2)));clear hi hz0 hz1 hz2;have HC:Hid (∀(j:Nat) u,(zs.map xo)[j]?=some u->∃b o,a=some ⟨b,o,none⟩/\w.cell? ⟨b,o+j,none⟩=some u):=fun j u hu=>by
  rw[xq,xu] at hu;obtain⟨z,hz,rfl⟩:=hu;obtain⟨b,o,y,rfl,hb,hy,hc,hsz⟩:=hr.at (k:=j) ch;rw[hz] at hy;cases hy;exact⟨b,o,rfl,hc⟩
 have HZS:Hid (∀(k j:Nat) z,(zs.take k++[x]++zs.drop k)[j]?=some z->z.size<=9223372036854775807):=fun k j z hz=>by
  have h1:=xD hz;simp only[List.mem_append,List.mem_singleton] at h1;rcases h1 with (h1|rfl)|h1
  ·obtain⟨i,hi⟩:=xS (List.mem_of_mem_take h1);exact hr.2.2.2.1 i z hi
  ·exact hx
  ·obtain⟨i,hi⟩:=xS (ze h1);exact hr.2.2.2.1 i z hi
 have HB:=aa (xj w.heap.size w);clear hr hri hx;go_enter Tryz.func41,Tryz.ntmps41;go_wp2_with fail;refine (lf a len cap zs x _ HR.out HRI.out hl).mono ?_;rintro e w1 ⟨k,f,rfl,hk,hlt,hfd,hb⟩;replace HB:=upB HB hb;clear hb;have HLT:=aa hlt;clear hlt;rcases hfd with ⟨rfl,hxk⟩|⟨rfl,hgt⟩
 ·have HP:Hid (Put x zs zs):=.inl ⟨xD hxk,rfl⟩;clear hxk;go_wp2;go_ret;exact⟨_,_,_,_,rfl,HR.below HB.out,HP.out,HB.out⟩
 have HP:Hid (Put x zs (zs.take k++[x]++zs.drop k)):=.inr ⟨k,hk,rfl,HLT.out,hgt⟩;have hkl:k<=len:=af
 have hkc:k<=cap:=af
 have hik:(k:Int)<=len:=af
 have hic:(k:Int)<=cap:=af
 clear hgt hk HLT;rcases a with _|⟨b2,f2,sp⟩
 ·have hl0:len=0:=yj fun hne0=>by
   have h1:(zs.map xo)[0]?=some (.string (zs[0]'(by omega))):=by rw[xq,xm af];rfl
   obtain⟨g,o,e,_⟩:=HC.out _ _ h1;cases e
  obtain rfl:k=0:=af
  subst hl0;by_cases hcap:cap=0;all_goals (
   go_wp2_with fail;rename_i K0 hK0;refine Gi.aB (R:=Rt w1.heap.size 28) (ex:=fun q=>if q=24 then some 28 else none) (Rt.rel _ _) an rfl rfl an an ?_;refine' Gi.Grow.ar _ rfl ?_ ?_;rotate_left 1
   ·refine Gi.Obl.plain rfl ?_;intro ac wg K lo hi hsz hW hpr hf hap hK;clear hsz hap hpr;have hW:Lt w1.heap.size w1 wg:=hW;have e0:=hf 0 aj
    simp[Gi.ak,xg] at e0
    clear hf;go_simp;refine hK _ _ (Rt.other aj (xj _ _)) ?_;with_reducible rfl
   refine' Gi.Grow.ar _ rfl ?_ ?_;rotate_left 1
   ·refine Gi.Obl.plain rfl ?_;intro ac wg K lo hi hsz hW hpr hf hap hK;clear hsz hap hpr;have hW:Lt w1.heap.size w1 wg:=hW;have e7:=hf 7 aj
    simp[Gi.ak,xg] at e7
    clear hf;go_simp;refine hK _ _ (Rt.other aj (xj _ _)) ?_;with_reducible rfl
   refine' Gi.Grow.ar _ rfl ?_ ?_;rotate_left 1
   ·refine Gi.Obl.plain rfl ?_;intro ac wg K lo hi hsz hW hpr hf hap hK;clear hsz hap hpr;have hW:Lt w1.heap.size w1 wg:=hW;have e7:=hf 7 aj
    simp[Gi.ak,xg] at e7
    clear hf;go_simp;refine hK _ _ (Rt.other aj (xj _ _)) ?_;with_reducible rfl
   refine' Gi.Grow.ar _ rfl ?_ ?_;rotate_left 1
   ·refine Gi.Obl.plain rfl ?_;intro ac wg K lo hi hsz hW hpr hf hap hK;clear hsz hap hpr;have hW:Lt w1.heap.size w1 wg:=hW;have e18:=hf 18 aj
    simp[Gi.ak,xg] at e18
    have e19:=hf 19 aj
    simp[Gi.ak,xg] at e19
    have e20:=hf 20 aj
    simp[Gi.ak,xg] at e20
    clear hf;go_simp;refine hK _ _ (Rt.other aj (xj _ _)) ?_;with_reducible rfl
   refine' Gi.Grow.ar _ rfl ?_ ?_;rotate_left 1
   ·refine Gi.Obl.plain rfl ?_;intro ac wg K lo hi hsz hW hpr hf hap hK;clear hsz hap hpr;have hW:Lt w1.heap.size w1 wg:=hW;have e1:=hf 1 aj
    simp[Gi.ak,xg] at e1
    clear hf;go_simp;refine hK _ _ (Rt.other aj (xj _ _)) ?_;with_reducible rfl
   refine Gi.Grow.step (B1T x) rfl (B1T.mono) ?_ ?_
   ·refine Gi.Obl.plain rfl ?_;intro ac wg K lo hi hsz hW hpr hf hap hK;clear hsz hap hpr;have hW:Lt w1.heap.size w1 wg:=hW;have e22:=hf 22 aj
    simp[Gi.ak,xg] at e22
    clear hf;go_simp;exact hK _ _ (Rt.other aj (al _ _)) ⟨_,rfl,xt⟩
   refine Gi.Grow.step (OwT w1.heap.size (0+1) ((zs.take 0).map xo++[.string x])) rfl (OwT.mono (.inr rfl)) ?_ ?_
   ·refine Gi.Obl.plain rfl ?_;intro ac wg K lo hi hsz hW hpr hf hap hK;clear hsz hap hpr;have hW:Lt w1.heap.size w1 wg:=hW;have e21:=hf 21 aj
    simp[Gi.ak,xg] at e21
    have e23:=hf 23 aj
    simp[Gi.ak,xg] at e23
    clear hf
    have HCG:Hid (∀(j:Nat) u,(zs.map xo)[j]?=some u->∃b o,(none:Option Addr)=some ⟨b,o,none⟩/\wg.cell? ⟨b,o+j,none⟩=some u):=fun j u hj=>by
     obtain⟨b,o,e,h3⟩:=HC.out j u hj;exact⟨b,o,e,(ai (HB.trans (hW.low.mono HB.size)) (x8 _ _ h3)).trans h3⟩
    obtain⟨b5,e23,hg5⟩:=e23
    obtain⟨v',w',hr,h2,h3⟩:=bZ wg 59 59 9 i0 (.string ⟨#[]⟩) 1 16 Tryz.underlying59 HI0.1 HI0.2.1 HI0.2.2.1 HI0.2.2.2 rfl none 0 ((zs.take 0).map xo) kg (fun e=>yj fun hne=>by
     have h1:(zs.map xo)[0]?=some (.string (zs[0]'(by omega))):=by rw[xq,xm af];rfl
     obtain⟨g,o,e',_⟩:=HC.out _ _ h1;rw[e] at e'
     cases e') (fun j u hu=>by
     rw[List.map_take,xF] at hu
     split at hu
     ·obtain⟨g,o,e',h3⟩:=HCG.out _ _ hu;exact⟨_,e',by rw[xB];exact h3⟩
     ·cases hu) ⟨b5,0,none⟩ 1 1 [.string x] aj rfl (ee hg5) bJ af
    refine wp_append_run (.tmp 21) (.tmp 23) 59 rfl np nn hr ?_;refine hK _ _ (Rt.other aj h3) ?_;obtain⟨h4,h5⟩:=h2;refine⟨h4,h5.imp id ?_⟩;rintro⟨g,cap',cur,h6,h7,h8⟩;exact⟨g,cap',cur,h6,xp hW.size h7,h8⟩
   refine' Gi.Grow.ar _ rfl ?_ ?_;rotate_left 1
   ·refine Gi.Obl.plain rfl ?_;intro ac wg K lo hi hsz hW hpr hf hap hK;clear hsz hap hpr;have hW:Lt w1.heap.size w1 wg:=hW;have e0:=hf 0 aj
    simp[Gi.ak,xg] at e0
    clear hf;go_simp;refine hK _ _ (Rt.other aj (xj _ _)) ?_;with_reducible rfl
   refine' Gi.Grow.ar _ rfl ?_ ?_;rotate_left 1
   ·refine Gi.Obl.plain rfl ?_;intro ac wg K lo hi hsz hW hpr hf hap hK;clear hsz hap hpr;have hW:Lt w1.heap.size w1 wg:=hW;have e7:=hf 7 aj
    simp[Gi.ak,xg] at e7
    clear hf;go_simp;refine hK _ _ (Rt.other aj (xj _ _)) ?_;with_reducible rfl
   refine' Gi.Grow.ar _ rfl ?_ ?_;rotate_left 1
   ·refine Gi.Obl.plain rfl ?_;intro ac wg K lo hi hsz hW hpr hf hap hK;clear hsz hap hpr;have hW:Lt w1.heap.size w1 wg:=hW;have e25:=hf 25 aj
    simp[Gi.ak,xg] at e25
    have e26:=hf 26 aj
    simp[Gi.ak,xg] at e26
    clear hf;go_simp;refine hK _ _ (Rt.other aj (xj _ _)) ?_;with_reducible rfl
   refine Gi.Grow.step (OwT w1.heap.size (0+1) ((zs.take 0++[x]++zs.drop 0).map xo)) rfl (OwT.mono (.inl rfl)) ?_ ?_
   ·refine Gi.Obl.plain rfl ?_;intro ac wg K lo hi hsz hW hpr hf hap hK;clear hsz hap;have hW:Lt w1.heap.size w1 wg:=hW;have e24:=hf 24 aj
    simp[Gi.ak,xg] at e24
    have e27:=hf 27 aj
    simp[Gi.ak,xg] at e27
    clear hf
    have HCG:Hid (∀(j:Nat) u,(zs.map xo)[j]?=some u->∃b o,(none:Option Addr)=some ⟨b,o,none⟩/\wg.cell? ⟨b,o+j,none⟩=some u):=fun j u hj=>by
     obtain⟨b,o,e,h3⟩:=HC.out j u hj;exact⟨b,o,e,(ai (HB.trans (hW.low.mono HB.size)) (x8 _ _ h3)).trans h3⟩
    have hbW:Below w1.heap.size w1 wg:=hpr rfl;clear hpr
    have e24':wg.ownsRow w1.heap.size 9 1 (ac.tmps.getD 24 undef) (0+1) ((zs.take 0).map xo++[.string x]):=by simpa[OwT] using e24
    obtain⟨u4,hu4⟩:∃u4,u4=ac.tmps.getD 24 undef:=⟨_,rfl⟩;obtain⟨ax,c9,e27',hax⟩:∃(ax:Option Addr) (c9:Nat),ac.tmps[27]?.getD undef=.slice ax (0 - 0) c9/\(∀(j:Nat) u,((zs.drop 0).map xo)[j]?=some u->∃ad:Addr,ax=some ad/\wg.cell? (ad.add j)=some u):=⟨_,_,e27,fun j u hu=>by first|(rw[xW af] at hu;simp at hu;done)|(rw[List.map_drop,xX] at hu;obtain⟨g,o,e',h3⟩:=HCG.out _ _ hu;cases e' <;> exact⟨_,rfl,by simp only[xB];rw[Nat.add_assoc];exact h3⟩)⟩;rw[<-hu4] at e24';obtain⟨v',w',hr,h2,h3⟩:=eE wg w1.heap.size 59 59 9 i0 (.string ⟨#[]⟩) 16 Tryz.underlying59 HI0.1 HI0.2.1 HI0.2.2.1 HI0.2.2.2 rfl u4 (0+1) ((zs.take 0).map xo++[.string x]) af e24' ax (0 - 0) c9 ((zs.drop 0).map xo) kf hax (fun u hu=>by obtain⟨z,_,rfl⟩:=List.mem_map.1 hu;rfl) bJ af j_;refine wp_append_run (.tmp 24) (.tmp 27) 59 rfl nr nq hr ?_;refine hK _ _ (Rt.this h3) ?_
    show w'.ownsRow _ _ _ _ _ _
    have e9:0+1+(0 - 0)=0+1:=af
    rw[e9] at h2
    simpa using h2
   refine Gi.Grow.done ?_;intro q wz lo hi hW hf hap;clear hap;have hW:Lt w1.heap.size w1 wz:=hW;simp only[xH] at hf;obtain⟨h28,-⟩:=hf;have h28:wz.ownsRow w1.heap.size 9 1 (q 28) (0+1) ((zs.take 0++[x]++zs.drop 0).map xo):=h28 bA;obtain⟨v8,hv8⟩:∃v8,q 28=v8:=⟨_,rfl⟩;rw[hv8] at h28;have HB7:=aa (HB.trans (hW.low.mono HB.size));obtain⟨a',c',rfl,hR⟩:=mb h28 (HZS.out 0);have HR7:=aa hR;clear h28 hR hW;intro K hK;rw[if_pos (by rfl)];simp only[Gi.aI,yo,yx,xx,xG,xK,hv8];simp only[yg];go_simp;refine hK _ _ ?_;refine hK0 _ _ ?_;clear hK hK0 K K0
   go_wp2
   go_ret
   exact⟨a',_,c',_,rfl,HR7.out,HP.out,HB7.out⟩)
 by_cases hcap:cap=k;all_goals (
  go_wp2_with fail;rename_i K0 hK0;refine Gi.aB (R:=Rt w1.heap.size 28) (ex:=fun q=>if q=24 then some 28 else none) (Rt.rel _ _) an rfl rfl an an ?_;refine' Gi.Grow.ar _ rfl ?_ ?_;rotate_left 1
  ·refine Gi.Obl.plain rfl ?_;intro ac wg K lo hi hsz hW hpr hf hap hK;clear hsz hap hpr;have hW:Lt w1.heap.size w1 wg:=hW;have e0:=hf 0 aj
   simp[Gi.ak,xg] at e0
   clear hf;go_simp;refine hK _ _ (Rt.other aj (xj _ _)) ?_;with_reducible rfl
  refine' Gi.Grow.ar _ rfl ?_ ?_;rotate_left 1
  ·refine Gi.Obl.plain rfl ?_;intro ac wg K lo hi hsz hW hpr hf hap hK;clear hsz hap hpr;have hW:Lt w1.heap.size w1 wg:=hW;have e7:=hf 7 aj
   simp[Gi.ak,xg] at e7
   clear hf;go_simp;refine hK _ _ (Rt.other aj (xj _ _)) ?_;with_reducible rfl
  refine' Gi.Grow.ar _ rfl ?_ ?_;rotate_left 1
  ·refine Gi.Obl.plain rfl ?_;intro ac wg K lo hi hsz hW hpr hf hap hK;clear hsz hap hpr;have hW:Lt w1.heap.size w1 wg:=hW;have e7:=hf 7 aj
   simp[Gi.ak,xg] at e7
   clear hf;go_simp;refine hK _ _ (Rt.other aj (xj _ _)) ?_;with_reducible rfl
  refine' Gi.Grow.ar _ rfl ?_ ?_;rotate_left 1
  ·refine Gi.Obl.plain rfl ?_;intro ac wg K lo hi hsz hW hpr hf hap hK;clear hsz hap hpr;have hW:Lt w1.heap.size w1 wg:=hW;have e18:=hf 18 aj
   simp[Gi.ak,xg] at e18
   have e19:=hf 19 aj
   simp[Gi.ak,xg] at e19
   have e20:=hf 20 aj
   simp[Gi.ak,xg] at e20
   clear hf;go_simp;refine hK _ _ (Rt.other aj (xj _ _)) ?_;with_reducible rfl
  refine' Gi.Grow.ar _ rfl ?_ ?_;rotate_left 1
  ·refine Gi.Obl.plain rfl ?_;intro ac wg K lo hi hsz hW hpr hf hap hK;clear hsz hap hpr;have hW:Lt w1.heap.size w1 wg:=hW;have e1:=hf 1 aj
   simp[Gi.ak,xg] at e1
   clear hf;go_simp;refine hK _ _ (Rt.other aj (xj _ _)) ?_;with_reducible rfl
  refine Gi.Grow.step (B1T x) rfl (B1T.mono) ?_ ?_
  ·refine Gi.Obl.plain rfl ?_;intro ac wg K lo hi hsz hW hpr hf hap hK;clear hsz hap hpr;have hW:Lt w1.heap.size w1 wg:=hW;have e22:=hf 22 aj
   simp[Gi.ak,xg] at e22
   clear hf;go_simp;exact hK _ _ (Rt.other aj (al _ _)) ⟨_,rfl,xt⟩
  refine Gi.Grow.step (OwT w1.heap.size (k+1) ((zs.take k).map xo++[.string x])) rfl (OwT.mono (.inr rfl)) ?_ ?_
  ·refine Gi.Obl.plain rfl ?_;intro ac wg K lo hi hsz hW hpr hf hap hK;clear hsz hap hpr;have hW:Lt w1.heap.size w1 wg:=hW;have e21:=hf 21 aj
   simp[Gi.ak,xg] at e21
   have e23:=hf 23 aj
   simp[Gi.ak,xg] at e23
   clear hf
   have HCG:Hid (∀(j:Nat) u,(zs.map xo)[j]?=some u->∃b o,(some ⟨b2,f2,sp⟩:Option Addr)=some ⟨b,o,none⟩/\wg.cell? ⟨b,o+j,none⟩=some u):=fun j u hj=>by
    obtain⟨b,o,e,h3⟩:=HC.out j u hj;exact⟨b,o,e,(ai (HB.trans (hW.low.mono HB.size)) (x8 _ _ h3)).trans h3⟩
   obtain⟨b5,e23,hg5⟩:=e23
   obtain⟨v',w',hr,h2,h3⟩:=bZ wg 59 59 9 i0 (.string ⟨#[]⟩) 1 16 Tryz.underlying59 HI0.1 HI0.2.1 HI0.2.2.1 HI0.2.2.2 rfl (some ⟨b2,f2,sp⟩:Option Addr) k ((zs.take k).map xo) kg (fun e=>yj fun hne=>by
    have h1:(zs.map xo)[0]?=some (.string (zs[0]'(by omega))):=by rw[xq,xm af];rfl
    obtain⟨g,o,e',_⟩:=HC.out _ _ h1;rw[e] at e'
    cases e') (fun j u hu=>by
    rw[List.map_take,xF] at hu
    split at hu
    ·obtain⟨g,o,e',h3⟩:=HCG.out _ _ hu;exact⟨_,e',by rw[xB];exact h3⟩
    ·cases hu) ⟨b5,0,none⟩ 1 1 [.string x] aj rfl (ee hg5) bJ af
   refine wp_append_run (.tmp 21) (.tmp 23) 59 rfl np nn hr ?_;refine hK _ _ (Rt.other aj h3) ?_;obtain⟨h4,h5⟩:=h2;refine⟨h4,h5.imp id ?_⟩;rintro⟨g,cap',cur,h6,h7,h8⟩;exact⟨g,cap',cur,h6,xp hW.size h7,h8⟩
  refine' Gi.Grow.ar _ rfl ?_ ?_;rotate_left 1
  ·refine Gi.Obl.plain rfl ?_;intro ac wg K lo hi hsz hW hpr hf hap hK;clear hsz hap hpr;have hW:Lt w1.heap.size w1 wg:=hW;have e0:=hf 0 aj
   simp[Gi.ak,xg] at e0
   clear hf;go_simp;refine hK _ _ (Rt.other aj (xj _ _)) ?_;with_reducible rfl
  refine' Gi.Grow.ar _ rfl ?_ ?_;rotate_left 1
  ·refine Gi.Obl.plain rfl ?_;intro ac wg K lo hi hsz hW hpr hf hap hK;clear hsz hap hpr;have hW:Lt w1.heap.size w1 wg:=hW;have e7:=hf 7 aj
   simp[Gi.ak,xg] at e7
   clear hf;go_simp;refine hK _ _ (Rt.other aj (xj _ _)) ?_;with_reducible rfl
  refine' Gi.Grow.ar _ rfl ?_ ?_;rotate_left 1
  ·refine Gi.Obl.plain rfl ?_;intro ac wg K lo hi hsz hW hpr hf hap hK;clear hsz hap hpr;have hW:Lt w1.heap.size w1 wg:=hW;have e25:=hf 25 aj
   simp[Gi.ak,xg] at e25
   have e26:=hf 26 aj
   simp[Gi.ak,xg] at e26
   clear hf;go_simp;refine hK _ _ (Rt.other aj (xj _ _)) ?_;with_reducible rfl
  refine Gi.Grow.step (OwT w1.heap.size (len+1) ((zs.take k++[x]++zs.drop k).map xo)) rfl (OwT.mono (.inl rfl)) ?_ ?_
  ·refine Gi.Obl.plain rfl ?_;intro ac wg K lo hi hsz hW hpr hf hap hK;clear hsz hap;have hW:Lt w1.heap.size w1 wg:=hW;have e24:=hf 24 aj
   simp[Gi.ak,xg] at e24
   have e27:=hf 27 aj
   simp[Gi.ak,xg] at e27
   clear hf
   have HCG:Hid (∀(j:Nat) u,(zs.map xo)[j]?=some u->∃b o,(some ⟨b2,f2,sp⟩:Option Addr)=some ⟨b,o,none⟩/\wg.cell? ⟨b,o+j,none⟩=some u):=fun j u hj=>by
    obtain⟨b,o,e,h3⟩:=HC.out j u hj;exact⟨b,o,e,(ai (HB.trans (hW.low.mono HB.size)) (x8 _ _ h3)).trans h3⟩
   have hbW:Below w1.heap.size w1 wg:=hpr rfl;clear hpr
   have e24':wg.ownsRow w1.heap.size 9 1 (ac.tmps.getD 24 undef) (k+1) ((zs.take k).map xo++[.string x]):=by simpa[OwT] using e24
   obtain⟨u4,hu4⟩:∃u4,u4=ac.tmps.getD 24 undef:=⟨_,rfl⟩;obtain⟨ax,c9,e27',hax⟩:∃(ax:Option Addr) (c9:Nat),ac.tmps[27]?.getD undef=.slice ax (len - k) c9/\(∀(j:Nat) u,((zs.drop k).map xo)[j]?=some u->∃ad:Addr,ax=some ad/\wg.cell? (ad.add j)=some u):=⟨_,_,e27,fun j u hu=>by first|(rw[xW af] at hu;simp at hu;done)|(rw[List.map_drop,xX] at hu;obtain⟨g,o,e',h3⟩:=HCG.out _ _ hu;cases e' <;> exact⟨_,rfl,by simp only[xB];rw[Nat.add_assoc];exact h3⟩)⟩;rw[<-hu4] at e24';obtain⟨v',w',hr,h2,h3⟩:=eE wg w1.heap.size 59 59 9 i0 (.string ⟨#[]⟩) 16 Tryz.underlying59 HI0.1 HI0.2.1 HI0.2.2.1 HI0.2.2.2 rfl u4 (k+1) ((zs.take k).map xo++[.string x]) af e24' ax (len - k) c9 ((zs.drop k).map xo) kf hax (fun u hu=>by obtain⟨z,_,rfl⟩:=List.mem_map.1 hu;rfl) bJ af j_;refine wp_append_run (.tmp 24) (.tmp 27) 59 rfl nr nq hr ?_;refine hK _ _ (Rt.this h3) ?_
   show w'.ownsRow _ _ _ _ _ _
   have e9:k+1+(len - k)=len+1:=af
   rw[e9] at h2
   simpa using h2
  refine Gi.Grow.done ?_;intro q wz lo hi hW hf hap;clear hap;have hW:Lt w1.heap.size w1 wz:=hW;simp only[xH] at hf;obtain⟨h28,-⟩:=hf;have h28:wz.ownsRow w1.heap.size 9 1 (q 28) (len+1) ((zs.take k++[x]++zs.drop k).map xo):=h28 bA;obtain⟨v8,hv8⟩:∃v8,q 28=v8:=⟨_,rfl⟩;rw[hv8] at h28;have HB7:=aa (HB.trans (hW.low.mono HB.size));obtain⟨a',c',rfl,hR⟩:=mb h28 (HZS.out k);have HR7:=aa hR;clear h28 hR hW;intro K hK;rw[if_pos (by rfl)];simp only[Gi.aI,yo,yx,xx,xG,xK,hv8];simp only[yg];go_simp;refine hK _ _ ?_;refine hK0 _ _ ?_;clear hK hK0 K K0
  go_wp2
  go_ret
  exact⟨a',_,c',_,rfl,HR7.out,HP.out,HB7.out⟩)

end Rc
end Go.Proofs.YtbbdcjbfnjlndaaGreatDoor

namespace Go.Proofs.YtbbdcjbfnjlndaaGreatDoor
open Go.RowKit

def gi:Go.Shelf.Ren:=⟨fun|156=>95|165=>158|166=>159|169=>160|240=>178|241=>179|276=>184|277=>185|n=>n,fun|31=>59|9=>9|3=>3|4=>4|0=>0|20=>20|72=>178|76=>180|70=>175|37=>176|75=>71|127=>198|164=>212|5=>5|80=>171|n=>n,fun|n=>n⟩

theorem sU:Go.Proofs.Lays.n156 Tryz.prog gi:={
 mixed:=an
 f156:=Tryz.func95.trans (congrArg some an)
 f165:=Tryz.func158.trans (congrArg some an)
 f166:=Tryz.func159.trans (congrArg some an)
 f169:=Tryz.func160.trans (congrArg some an)
 f240:=Tryz.func178.trans (congrArg some an)
 f241:=Tryz.func179.trans (congrArg some an)
 f276:=Tryz.func184.trans (congrArg some an)
 f277:=Tryz.func185.trans (congrArg some an)
 t0:=Tryz.underlying0
 a0:=Tryz.isAgg0
 z0:=Tryz.sizeOf0
 v0:=Tryz.zeroValue0
 t3:=Tryz.underlying3
 a3:=Tryz.isAgg3
 z3:=Tryz.sizeOf3
 v3:=Tryz.zeroValue3
 t4:=Tryz.underlying4
 a4:=Tryz.isAgg4
 z4:=Tryz.sizeOf4
 v4:=Tryz.zeroValue4
 t9:=Tryz.underlying9
 a9:=Tryz.isAgg9
 z9:=Tryz.sizeOf9
 v9:=Tryz.zeroValue9
 t20:=Tryz.underlying20
 a20:=Tryz.isAgg20
 z20:=Tryz.sizeOf20
 v20:=Tryz.zeroValue20
 t31:=Tryz.underlying59
 a31:=Tryz.isAgg59
 z31:=Tryz.sizeOf59
 v31:=Tryz.zeroValue59
 t37:=Tryz.underlying176
 a37:=Tryz.isAgg176
 z37:=Tryz.sizeOf176
 v37:=Tryz.zeroValue176
 t70:=Tryz.underlying175
 a70:=Tryz.isAgg175
 z70:=Tryz.sizeOf175
 v70:=Tryz.zeroValue175
 t72:=Tryz.underlying178
 a72:=Tryz.isAgg178
 z72:=Tryz.sizeOf178
 v72:=Tryz.zeroValue178
 t75:=Tryz.underlying71
 a75:=Tryz.isAgg71
 z75:=Tryz.sizeOf71
 v75:=Tryz.zeroValue71
 t76:=Tryz.underlying180
 a76:=Tryz.isAgg180
 z76:=Tryz.sizeOf180
 v76:=Tryz.zeroValue180
 t127:=Tryz.underlying198
 a127:=Tryz.isAgg198
 z127:=Tryz.sizeOf198
 v127:=Tryz.zeroValue198
 t164:=Tryz.underlying212
 a164:=Tryz.isAgg212
 z164:=Tryz.sizeOf212
 v164:=Tryz.zeroValue212 }

theorem mv:Builder.Extra Tryz.prog gi:={
 sizeBuilder:=an
 liesBuilder:=an
 t5:=Tryz.underlying5
 a5:=Tryz.isAgg5
 z5:=Tryz.sizeOf5
 v5:=Tryz.zeroValue5
 infoByte:=an
 cellsByte:=an
 sizeByte:=an
 neB5:=by decide }

def eT (xs:List ByteArray):ByteArray:=⟨(Lib.join (xs.map (·.data.toList)) [32]).toArray⟩

theorem gE (bk o c:Nat) (xs:List ByteArray) (n:Nat) (w:World) (hcells:∀(j:Nat) x,xs[j]?=some x->w.cell? ⟨bk,o+j,none⟩=some (.string x)) (hbk:bk<w.heap.size) (hn:xs.length=n) (hN:n<=1000) (hcap:n<=c)
  (hlen:(Lib.join (xs.map (·.data.toList)) [32]).length<=140737488355328):
  Calls Tryz.prog 39 #[.slice (some ⟨bk,o,none⟩) n c] w fun e w'=>e=.returned (.string (eT xs))/\Below w.heap.size w w':=by
 subst hn;have HJ:Hid (Calls Tryz.prog 95 #[.slice (some ⟨bk,o,none⟩) xs.length c,.string ⟨#[32]⟩] w fun e w'=>e=.returned (.string (eT xs))/\Below w.heap.size w w'):=Any.strings_Join sU mv bk o c xs ⟨#[32]⟩ w hcells hbk af hcap hlen;clear hcells hbk hN hcap hlen;go_enter Tryz.func39,Tryz.ntmps39;go_wp2_with fail;refine HJ.mono ?_;rintro e w1 ⟨rfl,hb⟩;go_wp2_with fail;go_ret;exact⟨rfl,hb⟩

namespace Gs

def ic (SR:World->World->Prop) (φ:Fact):Prop:=φ.bw/\∀v w w',φ v w->SR w w'->φ v w'
theorem lh (SR:World->World->Prop) (c:Value):ic SR (fun v _=>v=c):=⟨Fact.gz c,fun _ _ _ h _=>h⟩
def iR (SR:World->World->Prop) (t4:Tmp) (Ψ:Fact) (P:Program) (ops:Array Oper) (Q:Exit->Act->World->Prop) (W:World) (a0:Act) (known:List (Tmp×Fact)) (o:Oper):Prop:=
 ∀(a:Act) (w:World) (K:Act->World->Prop),a.tmps.size=a0.tmps.size->Below W.heap.size W w->(∀t∈o.looksAt ops,ak a0 known a w t)->
  (∀v w',SR w w'->Ψ (a.tmps.getD t4 undef) w'->K (a.put o.dst v) w')->if yA o (yielded ops a.tmps)=true then o.wp P a w K Q else K (a.put o.dst undef) w
theorem iR.plain {SR:World->World->Prop} {t4:Tmp} {Ψ:Fact} {P:Program} {ops:Array Oper} {Q:Exit->Act->World->Prop} {W:World} {a0:Act} {known:List (Tmp×Fact)} {o:Oper} (hg:o.guard=none)
  (h:∀(a:Act) (w:World) (K:Act->World->Prop),a.tmps.size=a0.tmps.size->Below W.heap.size W w->(∀t∈da o,ak a0 known a w t)->(∀v w',SR w w'->Ψ (a.tmps.getD t4 undef) w'->K (a.put o.dst v) w')->o.wp P a w K Q):iR SR t4 Ψ P ops Q W a0 known o:=by
 exact uw
def Fin (t4:Tmp) (Ψ:Fact) (P:Program) (ops:Array Oper) (Q:Exit->Act->World->Prop) (W:World) (a0:Act) (back:Option Oper) (known:List (Tmp×Fact)):Prop:=
 ∀(x:Tmp->Value) (w:World),Below W.heap.size W w->(∀p∈known,p.2 (x p.1) w)->Ψ ((aI a0 known x).tmps.getD t4 undef) w->dE P ops Q back (aI a0 known x) w
def Grow (SR:World->World->Prop) (t4:Tmp) (Ψ:Fact) (P:Program) (ops:Array Oper) (Q:Exit->Act->World->Prop) (W:World) (a0:Act) (back:Option Oper):List Oper->List (Tmp×Fact)->Prop
 | [],known=>Fin t4 Ψ P ops Q W a0 back known
 | o ::rest,known=> ∃φ:Fact,ic SR φ/\(¬o.dst=none->Obl P ops Q W a0 known o φ)/\(o.dst=none->iR SR t4 Ψ P ops Q W a0 known o)/\Grow SR t4 Ψ P ops Q W a0 back rest (kn o.dst φ known)
section
variable {SR:World->World->Prop} {t4:Tmp} {Ψ:Fact} {P:Program} {ops:Array Oper} {Q:Exit->Act->World->Prop} {W:World} {a0:Act} {back:Option Oper}
theorem Grow.step {o:Oper} {rest:List Oper} {known:List (Tmp×Fact)} {t:Tmp} (φ:Fact) (hd:o.dst=some t) (hφ:ic SR φ) (ho:Obl P ops Q W a0 known o φ)
  (h:Grow SR t4 Ψ P ops Q W a0 back rest ((t,φ) ::known)):Grow SR t4 Ψ P ops Q W a0 back (o ::rest) known:=⟨φ,hφ,fun _=>ho,fun e=>(by rw[hd] at e;cases e),(by rw[hd];exact h)⟩
theorem Grow.ar {o:Oper} {rest:List Oper} {known:List (Tmp×Fact)} {t:Tmp} (c:Value) (hd:o.dst=some t) (ho:Obl P ops Q W a0 known o (fun v _=>v=c))
  (h:Grow SR t4 Ψ P ops Q W a0 back rest ((t,fun v _=>v=c) ::known)):Grow SR t4 Ψ P ops Q W a0 back (o ::rest) known:=Grow.step _ hd (lh SR c) ho h
theorem Grow.store {o:Oper} {rest:List Oper} {known:List (Tmp×Fact)} (hd:o.dst=none) (ho:iR SR t4 Ψ P ops Q W a0 known o)
  (h:Grow SR t4 Ψ P ops Q W a0 back rest known):Grow SR t4 Ψ P ops Q W a0 back (o ::rest) known:=⟨fun v _=>v=undef,lh SR undef,fun e=>absurd hd e,fun _=>ho,(by rw[hd];exact h)⟩
theorem Grow.done {known:List (Tmp×Fact)} (h:Fin t4 Ψ P ops Q W a0 back known):Grow SR t4 Ψ P ops Q W a0 back [] known:=h
def growB (t4:Tmp) (n:Nat) (front:List Oper) (back:Option Oper):Bool:=
 let ops:=(front++back.toList).toArray
 decide ((front.filterMap (·.dst)).Nodup) && front.all (fun o=>match o.dst with|some t=>decide (t<n)|none=>decide (t4∈da o)) &&
 (yt front.length).all (fun j=>match front[j]? with
  | some o=>(o.looksAt ops).all (fun t=>(yt front.length).all fun i=>match front[i]? with
    | some p=>p.dst !=some t || (decide (i<j) && o.after.any fun e=>e.on==i && yp .any e)
    | none=>true)
  | none=>true) &&
 (yt ops.size).all (fun j=>match ops[j]? with|some o=>o.after.all (fun e=> !yp .any e || decide (e.on<j))|none=>true) &&
 (match back with|some o=>(yt front.length).all (fun i=>o.after.any fun e=>e.on==i && yp .any e)|none=>true) && front.any (fun o=>o.dst.isNone)
theorem cJ {n:Nat} {front:List Oper} {back:Option Oper} (h:growB t4 n front back=true):
  (front.filterMap (·.dst)).Nodup/\(∀o∈front,∀t,o.dst=some t->t<n)/\(∀o∈front,o.dst=none->t4∈da o)/\
  (∀(j:Nat) (o:Oper),front[j]?=some o->∀t∈o.looksAt (front++back.toList).toArray,∀(i:Nat) (p:Oper),front[i]?=some p->p.dst=some t->i<j/\∃e∈o.after,e.on=i/\yp .any e=true)/\
  (∀(j:Nat) o,(front++back.toList).toArray[j]?=some o->∀e∈o.after,yp .any e=true->e.on<j)/\
  (∀o,back=some o->∀i,i<front.length->∃e∈o.after,e.on=i/\yp .any e=true)/\∃(i:Nat) (o:Oper),front[i]?=some o/\o.dst=none:=by
 unfold growB at h;simp only[yk,decide_eq_true_eq] at h;obtain⟨⟨⟨⟨⟨h1,h2⟩,h3⟩,h4⟩,h5⟩,h6⟩:=h;refine⟨h1,?_,?_,?_,?_,?_,?_⟩
 ·intro o ho t ht;exact jd
 ·intro o ho ht;exact jd
 ·exact ra
 ·intro j o ho e he hbe;have hj:j<(front++back.toList).toArray.size:=(xA.1 ho).1;have:=List.all_eq_true.1 h4 j (List.mem_range.2 hj);rw[ho] at this;have:=Array.all_eq_true.1 this;obtain⟨k,hk,rfl⟩:=Array.mem_iff_getElem.1 he;have h9:=this k hk;rw[hbe] at h9;simpa using h9
 ·exact uu
 ·obtain⟨o,ho,hx⟩:=List.any_eq_true.1 h6;obtain⟨i,hi⟩:=xS ho;exact⟨i,o,hi,by simpa using hx⟩

theorem Grow.spec:∀(l:List Oper) (known:List (Tmp×Fact)),Grow SR t4 Ψ P ops Q W a0 back l known->∃φs:List Fact,φs.length=l.length/\
  (∀(i:Nat) (o:Oper) (φ:Fact),l[i]?=some o->φs[i]?=some φ->ic SR φ/\(¬o.dst=none->Obl P ops Q W a0 (knAll known (l.take i) (φs.take i)) o φ)/\(o.dst=none->iR SR t4 Ψ P ops Q W a0 (knAll known (l.take i) (φs.take i)) o))/\Fin t4 Ψ P ops Q W a0 back (knAll known l φs)
 | [],known,h=>⟨[],rfl,fun i o φ h=>by simp at h,by rw[bR];exact h⟩
 | o ::l,known,h=>by
  obtain⟨φ,hφ,ho,ho2,hr⟩:=h;obtain⟨φs,hl,hs,hf⟩:=Grow.spec l _ hr;refine⟨φ ::φs,by simp[hl],?_,hf⟩;intro i o' φ' h1 h2;cases i with
  | zero=>
   simp only[List.getElem?_cons_zero,ym] at h1 h2;subst h1;subst h2;exact⟨hφ,ho,ho2⟩
  | succ i=>
   simp only[List.getElem?_cons_succ] at h1 h2
   simpa[knAll] using hs i o' φ' h1 h2

theorem dk {listed:Array Bool} (hs:listed.size=ops.size) (hlt:∀(j:Nat) o,ops[j]?=some o->∀e∈o.after,yp .any e=true->e.on<j) (hr:xY .any ops listed=[]):∀i,i<ops.size->listed.getD i false=true:=by
 intro i;induction i using Nat.strongRecOn with
 | _ i ih=>
  intro hi
  cases hb:listed.getD i false with
  | true=>rfl
  | false=>
   have ho:ops[i]?=some ops[i]:=yO hi;have hm:i∈xY .any ops listed:=mem_ready.2 ⟨by rw[<-cg af];exact hb,_,ho,fun e he hbe=>ih e.on (hlt i _ ho e he hbe) (Nat.lt_trans (hlt i _ ho e he hbe) hi)⟩;rw[hr] at hm
   cases hm

structure At (t4:Tmp) (Ψ:Fact) (front:List Oper) (φs:List Fact) (W:World) (a0:Act) (listed:Array Bool) (a:Act) (w:World):Prop where
 old:Go.Proofs.YtbbdcjbfnjlndaaGreatDoor.At front φs W a0 listed a w
 sto:∀(i:Nat) (o:Oper),front[i]?=some o->o.dst=none->listed.getD i false=true->Ψ (a.tmps.getD t4 undef) w/\∀(i':Nat) (p:Oper),front[i']?=some p->p.dst=some t4->listed.getD i' false=true

theorem jX {listed:Array Bool} {i j:Nat} (h:listed.getD i false=true):(listed.setIfInBounds j true).getD i false=true:=by
 by_cases e:j=i
 ·subst e;simp only[xv,xJ];split
  ·split
   ·rfl
   ·simp[xv] at h;next hx=>
     have:listed[j]?=none:=Array.getElem?_eq_none_iff.2 af;rw[this] at h
     cases h
  ·contradiction
 ·simpa[xv,xJ,e] using h
theorem iw {listed:Array Bool} {i j:Nat} (e:¬j=i) (h:(listed.setIfInBounds j true).getD i false=true):listed.getD i false=true:=by
 simpa[xv,xJ,e] using h

theorem At.step {front:List Oper} {φs:List Fact} {listed:Array Bool} {a:Act} {w w':World} {j:Nat} {o:Oper} {φ:Fact} {v:Value} (hΨ:Ψ.bw) (h:At t4 Ψ front φs W a0 listed a w)
  (hn:(front.filterMap (·.dst)).Nodup) (hin:∀o∈front,∀t,o.dst=some t->t<a0.tmps.size) (hmono:∀(i:Nat) (o:Oper) (φ:Fact),front[i]?=some o->φs[i]?=some φ->ic SR φ)
  (ho:front[j]?=some o) (hφ:φs[j]?=some φ) (hj:j<listed.size) (hun:listed.getD j false=false) (hd:¬o.dst=none) (hb:Below w.heap.size w w') (hv:φ v w'):At t4 Ψ front φs W a0 (listed.setIfInBounds j true) (a.put o.dst v) w':=by
 refine⟨h.old.step hn hin (fun i o φ h1 h2=>(hmono i o φ h1 h2).1) ho hφ hj hb hv,fun i p hp hpd hl=>?_⟩;have hij:¬j=i:=fun e=>by subst e;obtain rfl:=xh (ho.symm.trans hp);exact hd hpd
 obtain⟨h1,h2⟩:=h.sto i p hp hpd (iw hij hl);refine⟨?_,fun i' p' hp' hd'=>jX (h2 i' p' hp' hd')⟩;cases ht:o.dst with
 | none=>exact absurd ht hd
 | some d=>
  rw[eh,if_neg (fun hx=>?_)]
  ·exact hΨ _ _ _ h1 hb
  ·have h3:=h2 j o ho (ht.trans (by rw[hx.1]));rw[hun] at h3
   cases h3
theorem At.store {front:List Oper} {φs:List Fact} {listed:Array Bool} {a:Act} {w w':World} {j:Nat} {o:Oper} {v:Value} (hSR:∀{a b},SR a b->Below W.heap.size a b) (h:At t4 Ψ front φs W a0 listed a w)
  (hmono:∀(i:Nat) (o:Oper) (φ:Fact),front[i]?=some o->φs[i]?=some φ->ic SR φ) (hone:∀(i:Nat) (p:Oper),front[i]?=some p->p.dst=some t4->listed.getD i false=true)
  (ho:front[j]?=some o) (hd:o.dst=none) (hb:SR w w') (hv:Ψ (a.tmps.getD t4 undef) w'):At t4 Ψ front φs W a0 (listed.setIfInBounds j true) (a.put o.dst v) w':=by
 have e:a.put o.dst v=a:=by rw[hd];rfl
 rw[e];have hne:∀(i:Nat) (p:Oper) t,front[i]?=some p->p.dst=some t->¬j=i:=fun i p t hp ht e=>by
  subst e;obtain rfl:=xh (ho.symm.trans hp);rw[hd] at ht;cases ht
 refine⟨⟨h.old.size,h.old.defers,h.old.below.trans (hSR hb),fun i p ψ hp hψ t ht hl=>?_,fun t ht=>?_⟩,fun i p hp hpd hl=>⟨hv,fun i' p' hp' hd'=>jX (hone i' p' hp' hd')⟩⟩
 ·exact (hmono i p ψ hp hψ).2 _ _ _ (h.old.known i p ψ hp hψ t ht (iw (hne i p t hp ht) hl)) hb
 ·refine h.old.other t (fun i p hp hpd=>?_);have h1:=ht i p hp hpd;have e9:=hne i p t hp hpd;simpa[xv,xJ,e9] using h1

theorem Fin.last {front:List Oper} {φs:List Fact} {listed:Array Bool} {a:Act} {w:World} (hf:Fin t4 Ψ P ops Q W a0 back (knAll [] front φs)) (hlen:φs.length=front.length) (hin:∀o∈front,∀t,o.dst=some t->t<a0.tmps.size) (hst:∃(i:Nat) (o:Oper),front[i]?=some o/\o.dst=none)
  (h:At t4 Ψ front φs W a0 listed a w) (hall:∀i,i<front.length->listed.getD i false=true):dE P ops Q back a w:=by
 obtain⟨i,o,hi,hd⟩:=hst;have hΨ:=(h.sto i o hi hd (hall i (xe.1 hi).1)).1;have h9:∃x,a=aI a0 (knAll [] front φs) x/\∀p∈knAll [] front φs,p.2 (x p.1) w:=Go.Proofs.YtbbdcjbfnjlndaaGreatDoor.Fin.last (P:=P) (ops:=ops) (Q:=fun _ a' w'=> ∃x,a'=aI a0 (knAll [] front φs) x/\∀p∈knAll [] front φs,p.2 (x p.1) w') (back:=none) (fun x _ _ h2=>⟨x,rfl,h2⟩) hlen hin h.old hall;obtain⟨x,e,h2⟩:=h9;have h3:=hf x w h.old.below h2 (by rw[<-e];exact hΨ);rw[<-e] at h3;exact h3
theorem ck {front:List Oper} {φs:List Fact} (hΨ:Ψ.bw) (hSR:∀{a b},SR a b->Below W.heap.size a b) (hops:ops=(front++back.toList).toArray) (hB:growB t4 a0.tmps.size front back=true) (hlen:φs.length=front.length)
  (hs:∀(i:Nat) (o:Oper) (φ:Fact),front[i]?=some o->φs[i]?=some φ->ic SR φ/\(¬o.dst=none->Obl P ops Q W a0 (knAll [] (front.take i) (φs.take i)) o φ)/\(o.dst=none->iR SR t4 Ψ P ops Q W a0 (knAll [] (front.take i) (φs.take i)) o)) (hf:Fin t4 Ψ P ops Q W a0 back (knAll [] front φs)):
  ∀(fuel:Nat) (listed:Array Bool) (a:Act) (w:World),listed.size=ops.size->listed.toList.count false<=fuel->(∀o,back=some o->listed.getD front.length false=false)->At t4 Ψ front φs W a0 listed a w->wpAny P .any ops Q fuel listed a w:=by
 obtain⟨hn,hin,hlk,hdep,hlt,hback,hst⟩:=cJ hB;rw[<-hops] at hdep hlt;have hsz:ops.size=front.length+back.toList.length:=by rw[hops];simp
 have hend:∀(listed:Array Bool) (a:Act) (w:World),listed.size=ops.size->(∀i,i<ops.size->listed.getD i false=true)->(∀o,back=some o->listed.getD front.length false=false)->At t4 Ψ front φs W a0 listed a w->Q .normal a w:=by
  intro listed a w hz hall hb h;have h1:=hf.last hlen hin hst h (fun i hi=>hall i af);exact nO
 intro fuel;induction fuel with
 | zero=>
  intro listed a w hz hc hb h;have hall:∀i,i<ops.size->listed.getD i false=true:=fun i hi=>fk af i af;refine⟨?_,hend listed a w hz hall hb h⟩
  cases hr:xY .any ops listed with
  | nil=>rfl
  | cons j js=>
   have hm:j∈xY .any ops listed:=by rw[hr];simp
   obtain⟨h1,o,ho,-⟩:=mem_ready.1 hm;have hj:=(xA.1 ho).1;rw[<-cg af,hall j hj] at h1
   cases h1
 | succ fuel ih=>
  intro listed a w hz hc hb h;refine⟨fun hr=>hend listed a w hz (dk hz hlt hr) hb h,fun j hj=>?_⟩;obtain⟨hun,o,ho,hall⟩:=mem_ready.1 hj;have hjs:j<ops.size:=(xA.1 ho).1;have hcs:=count_set (listed:=listed) (i:=j) af hun
  by_cases hjf:j<front.length
  ·have hof:front[j]?=some o:=by rw[hops] at ho;simpa[xP hjf] using ho
   have hφ:φs[j]?=some (φs[j]'(by omega)):=xm _;obtain⟨hm,hob,hob2⟩:=hs j o _ hof hφ
   have hfacts:∀t∈o.looksAt ops,ak a0 (knAll [] (front.take j) (φs.take j)) a w t:=by
    intro t ht;unfold ak
    cases hk:(knAll [] (front.take j) (φs.take j)).lookup t with
    | some φ=>
     rcases b_ _ _ _ hk with ⟨i,p,h1,h2,h3⟩|h1
     ·have hij:i<j:=by have:=(xe.1 h1).1;simp at this;omega
      rw[xF,if_pos hij] at h1 h3;obtain⟨-,e,he,hon,hbi⟩:=hdep j o hof t ht i p h1 h2;have hl:=hall e he hbi;rw[hon] at hl;exact h.old.known i p φ h1 h3 t h2 hl
     ·simp at h1
    | none=>
     refine h.old.other t (fun i p hp hd=>?_)
     exfalso
     obtain⟨hij,-⟩:=hdep j o hof t ht i p hp hd;have hi:=(xe.1 hp).1;exact (cd _ _ _ hk).2 i p (φs[i]'(by omega)) nu nA hd
   have hnext:∀o',back=some o'->(listed.setIfInBounds j true).getD front.length false=false:=fun o' ho'=>by
    have h2:=hb o' ho'
    have e:¬j=front.length:=af
    simpa[xv,xJ,e] using h2
   have h1:if yA o (yielded ops a.tmps)=true then o.wp P a w (wpAny P .any ops Q fuel (listed.setIfInBounds j true)) Q else wpAny P .any ops Q fuel (listed.setIfInBounds j true) (a.put o.dst undef) w:=by
    by_cases hd:o.dst=none
    ·refine hob2 hd a w _ h.old.size h.old.below hfacts (fun v w' hsr hv=>?_);refine ih _ _ _ (by simpa using hz) af hnext (h.store hSR (fun i o φ h1 h2=>(hs i o φ h1 h2).1) (fun i p hp hpd=>?_) hof hd hsr hv)
     have hlook:t4∈o.looksAt ops:=by unfold Oper.looksAt;exact List.mem_append_left _ (hlk o (xD hof) hd)
     obtain⟨-,e,he,hon,hbi⟩:=hdep j o hof t4 hlook i p hp hpd;have hl:=hall e he hbi;rw[hon] at hl;exact hl
    ·exact hob hd a w _ h.old.size h.old.below hfacts (fun v w' hbw hv=>ih _ _ _ (by simpa using hz) af hnext (h.step hΨ hn hin (fun i o φ h1 h2=>(hs i o φ h1 h2).1) hof hφ af (by rw[cg af];exact hun) hd hbw hv))
   unfold wpOp;rw[ho]
   simp only
   split
   ·rename_i hw;rw[if_pos hw] at h1;exact .inl h1
   ·rename_i hw;rw[if_neg hw] at h1;exact h1
  ·cases hk:back with
   | none=>rw[hk] at hsz;simp at hsz;omega
   | some b=>
    have hjn:j=front.length:=by rw[hk] at hsz;simp at hsz;omega
    subst hjn
    have hob:o=b:=by
     rw[hops,hk] at ho
     simp at ho
     exact ho.symm
    subst hob
    have hfl:∀i,i<front.length->listed.getD i false=true:=fun i hi=>by
     obtain⟨e,he,hon,hbi⟩:=hback o hk i hi;have:=hall e he hbi
     rwa [hon] at this
    have h1:=hf.last hlen hin hst h hfl;rw[hk] at h1
    have h2:=h1 (wpAny P .any ops Q fuel (listed.setIfInBounds front.length true)) (fun a' w' hq=>by
     have hr:xY .any ops (listed.setIfInBounds front.length true)=[]:=by
      cases hr:xY .any ops (listed.setIfInBounds front.length true) with
      | nil=>rfl
      | cons i is=>
       have hm:i∈xY .any ops (listed.setIfInBounds front.length true):=by rw[hr];simp
       obtain⟨h3,o',ho',-⟩:=mem_ready.1 hm;have hi:=(xA.1 ho').1
       exfalso
       by_cases e:front.length=i
       ·subst e
        simp[xv,show front.length<listed.size from by omega] at h3
       ·have h4:=hfl i nt;rw[cg af] at h4
        simp[xv,e] at h3 h4
        rw[h3] at h4
        cases h4
     cases fuel with
     | zero=>exact⟨hr,hq⟩
     | succ fuel=>exact⟨fun _=>hq,fun i hi=>by rw[hr] at hi;cases hi⟩)
    unfold wpOp;rw[ho]
    simp only
    split
    ·rename_i hw;rw[if_pos hw] at h2;exact .inl h2
    ·rename_i hw;rw[if_neg hw] at h2;exact h2
end
theorem aB {SR:World->World->Prop} (t4:Tmp) (Ψ:Fact) {P:Program} {id:Nat} {Q:Exit->Act->World->Prop} {a0:Act} {W:World} {l:List Oper} {front:List Oper} {last:Oper} (hΨ:Ψ.bw) (hSR:∀{a b},SR a b->Below W.heap.size a b) (hm:P.follows .mixedOrders=true) (hf:l.dropLast=front) (hb:l.getLast?=some last) (hB:growB t4 a0.tmps.size front (some last)=true)
  (h:Grow SR t4 Ψ P l.toArray Q W a0 (some last) front []):(Code.region id l.toArray true).wp P Q a0 W:=by
 obtain⟨φs,hlen,hs,hfi⟩:=Grow.spec _ _ h;have hl:l=front++(some last).toList:=by
  exact nJ
 refine wp_region_any hm (ck hΨ hSR (by rw[hl]) hB hlen hs hfi _ _ _ _ aT ?_ (fun o ho=>?_) ⟨⟨rfl,rfl,(xj _ _).drew,fun i o φ h1 h2 t ht hx=>?_,fun t _=>rfl⟩,fun i o h1 h2 hx=>?_⟩)
 ·exact nK
 ·exact bm _ _
 ·rw[bm] at hx;cases hx
 ·rw[bm] at hx;cases hx
structure Form (W w w':World):Prop where
 low:Below W.heap.size w w'
 form:∀(k:Nat) (cs:Array Value) (T:TypeId),w.heap[k]?=some (.cells cs T (0,0))->∃cs',cs'.size=cs.size/\w'.heap[k]?=some (.cells cs' T (0,0))
end Gs
namespace Gt

def growB (n:Nat) (front:List Oper) (back:Option Oper):Bool:=
 let ops:=(front++back.toList).toArray
 decide ((front.filterMap (·.dst)).Nodup) && front.all (fun o=>match o.dst with|some t=>decide (t<n)|none=>true) &&
 (yt front.length).all (fun j=>match front[j]? with
  | some o=>(o.looksAt ops).all (fun t=>(yt front.length).all fun i=>match front[i]? with
    | some p=>p.dst !=some t || (decide (i<j) && o.after.any fun e=>e.on==i && yp .any e)
    | none=>true)
  | none=>true) &&
 (yt ops.size).all (fun j=>match ops[j]? with|some o=>o.after.all (fun e=>decide (e.on<j))|none=>true) &&
 (match back with|some o=>(yt front.length).all (fun i=>o.after.any fun e=>yp .any e && (e.on==i || match front[e.on]? with|some p=>p.after.any (fun e'=>e'.on==i && yp .any e')|none=>false))|none=>true)

section
variable {P:Program} {ops:Array Oper} {Q:Exit->Act->World->Prop} {W:World} {a0:Act} {back:Option Oper}
theorem cJ {n:Nat} {front:List Oper} {back:Option Oper} (h:growB n front back=true):
  (front.filterMap (·.dst)).Nodup/\(∀o∈front,∀t,o.dst=some t->t<n)/\
  (∀(j:Nat) (o:Oper),front[j]?=some o->∀t∈o.looksAt (front++back.toList).toArray,∀(i:Nat) (p:Oper),front[i]?=some p->p.dst=some t->i<j/\∃e∈o.after,e.on=i/\yp .any e=true)/\
  (∀(j:Nat) o,(front++back.toList).toArray[j]?=some o->∀e∈o.after,e.on<j)/\
  (∀o,back=some o->∀i,i<front.length->∃e∈o.after,yp .any e=true/\(e.on=i\/∃p,front[e.on]?=some p/\∃e'∈p.after,e'.on=i/\yp .any e'=true)):=by
 unfold growB at h;simp only[yk,decide_eq_true_eq] at h;obtain⟨⟨⟨⟨h1,h2⟩,h3⟩,h4⟩,h5⟩:=h;refine⟨h1,?_,?_,?_,?_⟩
 ·intro o ho t ht;exact jd
 ·exact ra
 ·exact uJ
 ·intro o ho i hi;subst ho;have:=List.all_eq_true.1 h5 i (List.mem_range.2 hi);obtain⟨k,hk,hx⟩:=Array.any_eq_true.1 this;simp only[yk,Bool.or_eq_true,beq_iff_eq] at hx;refine⟨_,Array.getElem_mem hk,hx.1,hx.2.imp id fun h9=>?_⟩;split at h9
  ·next p hp=>
   obtain⟨k',hk',hx'⟩:=Array.any_eq_true.1 h9;simp only[yk,beq_iff_eq] at hx';exact⟨p,hp,_,Array.getElem_mem hk',hx'.1,hx'.2⟩
  ·cases h9

structure Ac (front:List Oper) (φs:List Fact) (W:World) (a0:Act) (listed:Array Bool) (a:Act) (w:World):Prop where
 old:At front φs W a0 listed a w
 cl:∀(j:Nat) (o:Oper),front[j]?=some o->listed.getD j false=true->∀e∈o.after,yp .any e=true->listed.getD e.on false=true
theorem ck {front:List Oper} {φs:List Fact} (hops:ops=(front++back.toList).toArray) (hB:growB a0.tmps.size front back=true) (hlen:φs.length=front.length)
  (hs:∀(i:Nat) (o:Oper) (φ:Fact),front[i]?=some o->φs[i]?=some φ->φ.bw/\Obl P ops Q W a0 (knAll [] (front.take i) (φs.take i)) o φ) (hf:Fin P ops Q W a0 back (knAll [] front φs)):
  ∀(fuel:Nat) (listed:Array Bool) (a:Act) (w:World),listed.size=ops.size->listed.toList.count false<=fuel->(∀o,back=some o->listed.getD front.length false=false)->Ac front φs W a0 listed a w->wpAny P .any ops Q fuel listed a w:=by
 obtain⟨hn,hin,hdep,hlt,hback⟩:=cJ hB;rw[<-hops] at hdep hlt;have hsz:ops.size=front.length+back.toList.length:=by rw[hops];simp
 have hend:∀(listed:Array Bool) (a:Act) (w:World),listed.size=ops.size->(∀i,i<ops.size->listed.getD i false=true)->(∀o,back=some o->listed.getD front.length false=false)->Ac front φs W a0 listed a w->Q .normal a w:=by
  intro listed a w hz hall hb h;have h1:=Fin.last hf hlen hin h.old (fun i hi=>hall i af);exact nO
 intro fuel;induction fuel with
 | zero=>
  intro listed a w hz hc hb h;have hall:∀i,i<ops.size->listed.getD i false=true:=fun i hi=>fk af i af;refine⟨?_,hend listed a w hz hall hb h⟩
  cases hr:xY .any ops listed with
  | nil=>rfl
  | cons j js=>
   have hm:j∈xY .any ops listed:=by rw[hr];simp
   obtain⟨h1,o,ho,-⟩:=mem_ready.1 hm;have hj:=(xA.1 ho).1;rw[<-cg af,hall j hj] at h1
   cases h1
 | succ fuel ih=>
  intro listed a w hz hc hb h;refine⟨fun hr=>hend listed a w hz (dk hz hlt hr) hb h,fun j hj=>?_⟩;obtain⟨hun,o,ho,hall⟩:=mem_ready.1 hj;have hjs:j<ops.size:=(xA.1 ho).1;have hcs:=count_set (listed:=listed) (i:=j) af hun
  by_cases hjf:j<front.length
  ·have hof:front[j]?=some o:=by rw[hops] at ho;simpa[xP hjf] using ho
   have hφ:φs[j]?=some (φs[j]'(by omega)):=xm _;obtain⟨hm,hob⟩:=hs j o _ hof hφ
   have hfacts:∀t∈o.looksAt ops,ak a0 (knAll [] (front.take j) (φs.take j)) a w t:=by
    intro t ht;unfold ak
    cases hk:(knAll [] (front.take j) (φs.take j)).lookup t with
    | some φ=>
     rcases b_ _ _ _ hk with ⟨i,p,h1,h2,h3⟩|h1
     ·have hij:i<j:=by have:=(xe.1 h1).1;simp at this;omega
      rw[xF,if_pos hij] at h1 h3;obtain⟨-,e,he,hon,hbi⟩:=hdep j o hof t ht i p h1 h2;have hl:=hall e he hbi;rw[hon] at hl;exact h.old.known i p φ h1 h3 t h2 hl
     ·simp at h1
    | none=>
     refine h.old.other t (fun i p hp hd=>?_)
     exfalso
     obtain⟨hij,-⟩:=hdep j o hof t ht i p hp hd;have hi:=(xe.1 hp).1;exact (cd _ _ _ hk).2 i p (φs[i]'(by omega)) nu nA hd
   have h1:=hob a w (wpAny P .any ops Q fuel (listed.setIfInBounds j true)) h.old.size h.old.below hfacts (fun v w' hbw hv=>by
    refine ih _ _ _ (by simpa using hz) af (fun o' ho'=>?_) ⟨h.old.step hn hin (fun i o φ h1 h2=>(hs i o φ h1 h2).1) hof hφ af hbw hv,fun j' o' ho' hl e he hbe=>(by
     by_cases ej:j=j'
     ·subst ej;obtain rfl:o=o':=xh (hof.symm.trans ho');exact Gs.jX (hall e he hbe)
     ·exact Gs.jX (h.cl j' o' ho' (Gs.iw ej hl) e he hbe))⟩
    have h2:=hb o' ho'
    have e:¬j=front.length:=af
    simpa[xv,xJ,e] using h2)
   unfold wpOp;rw[ho]
   simp only
   split
   ·rename_i hw;rw[if_pos hw] at h1;exact .inl h1
   ·rename_i hw;rw[if_neg hw] at h1;exact h1
  ·cases hk:back with
   | none=>rw[hk] at hsz;simp at hsz;omega
   | some b=>
    have hjn:j=front.length:=by rw[hk] at hsz;simp at hsz;omega
    subst hjn
    have hob:o=b:=by
     rw[hops,hk] at ho
     simp at ho
     exact ho.symm
    subst hob
    have hfl:∀i,i<front.length->listed.getD i false=true:=fun i hi=>by
     obtain⟨e,he,hbi,hon⟩:=hback o hk i hi;have hl:=hall e he hbi
     rcases hon with hon|⟨p,hp,e',he',hon,hbi'⟩
     ·rwa [hon] at hl
     ·have:=h.cl e.on p hp hl e' he' hbi'
      rwa [hon] at this
    have h1:=Fin.last hf hlen hin h.old hfl;rw[hk] at h1
    have h2:=h1 (wpAny P .any ops Q fuel (listed.setIfInBounds front.length true)) (fun a' w' hq=>by
     have hr:xY .any ops (listed.setIfInBounds front.length true)=[]:=by
      cases hr:xY .any ops (listed.setIfInBounds front.length true) with
      | nil=>rfl
      | cons i is=>
       have hm:i∈xY .any ops (listed.setIfInBounds front.length true):=by rw[hr];simp
       obtain⟨h3,o',ho',-⟩:=mem_ready.1 hm;have hi:=(xA.1 ho').1
       exfalso
       by_cases e:front.length=i
       ·subst e
        simp[xv,show front.length<listed.size from by omega] at h3
       ·have h4:=hfl i nt;rw[cg af] at h4
        simp[xv,e] at h3 h4
        rw[h3] at h4
        cases h4
     cases fuel with
     | zero=>exact⟨hr,hq⟩
     | succ fuel=>exact⟨fun _=>hq,fun i hi=>by rw[hr] at hi;cases hi⟩)
    unfold wpOp;rw[ho]
    simp only
    split
    ·rename_i hw;rw[if_pos hw] at h2;exact .inl h2
    ·rename_i hw;rw[if_neg hw] at h2;exact h2
end
theorem aB {P:Program} {id:Nat} {Q:Exit->Act->World->Prop} {a0:Act} {W:World} {l:List Oper} {front:List Oper} {last:Oper} (hm:P.follows .mixedOrders=true) (hf:l.dropLast=front) (hb:l.getLast?=some last) (hB:growB a0.tmps.size front (some last)=true)
  (h:Grow P l.toArray Q W a0 (some last) front []):(Code.region id l.toArray true).wp P Q a0 W:=by
 obtain⟨φs,hlen,hs,hfi⟩:=Grow.spec _ _ h;have hl:l=front++(some last).toList:=by
  exact nJ
 refine wp_region_any hm (ck (by rw[hl]) hB hlen hs hfi _ _ _ _ aT ?_ (fun o ho=>?_) ⟨⟨rfl,rfl,(xj _ _).drew,fun i o φ h1 h2 t ht hx=>?_,fun t _=>rfl⟩,fun j o h1 hx=>?_⟩)
 ·exact nK
 ·exact bm _ _
 ·rw[bm] at hx;cases hx
 ·rw[bm] at hx;cases hx
end Gt
end Go.Proofs.YtbbdcjbfnjlndaaGreatDoor

namespace Go.Proofs.YtbbdcjbfnjlndaaGreatDoor
open Go.RowKit
namespace Rc
open Mk

theorem oX (W w:World):Gs.Form W w w:=⟨xj _ _,fun _ cs _ h=>⟨cs,rfl,h⟩⟩
theorem cR {W a b:World} {g i:Nat} {v:Value} (hg:W.heap.size<=g) (h:Gs.Form W a b):Gs.Form W a (b.setCell ⟨g,i,none⟩ v):=by
 refine⟨ah hg h.low,fun k cs T hk=>?_⟩;obtain⟨cs',h1,h2⟩:=h.form k cs T hk;by_cases e:k=g
 ·subst e;exact⟨_,by rw[Array.size_setIfInBounds];exact h1,au h2 v⟩
 ·exact⟨cs',h1,(xi _ _ _ _ e).trans h2⟩
theorem wU {cs:Array Value} (h:cs.size=8):∃c0 c1 c2 c3 c4 c5 c6 c7,cs=#[c0,c1,c2,c3,c4,c5,c6,c7]:=by
 obtain⟨l⟩:=cs;rcases l with _|⟨c0,_|⟨c1,_|⟨c2,_|⟨c3,_|⟨c4,_|⟨c5,_|⟨c6,_|⟨c7,_|⟨c8,l⟩⟩⟩⟩⟩⟩⟩⟩⟩ <;> simp at h
 exact⟨c0,c1,c2,c3,c4,c5,c6,c7,rfl⟩
def o_ (W:World) (T:TypeId):Fact:=fun v w=> ∃g c0 c1 c2 c3 c4 c5 c6 c7,v=.pointer (some ⟨g,0,none⟩)/\W.heap.size<=g/\w.heap[g]?=some (.cells #[c0,c1,c2,c3,c4,c5,c6,c7] T (0,0))
theorem o_.mono (W:World) (T:TypeId):Gs.ic (Gs.Form W) (o_ W T):=by
 refine⟨?_,?_⟩
 ·rintro v w w' ⟨g,c0,c1,c2,c3,c4,c5,c6,c7,h1,h2,h4⟩ hb;exact⟨g,c0,c1,c2,c3,c4,c5,c6,c7,h1,h2,(hb.block g (ae h4)).trans h4⟩
 ·rintro v w w' ⟨g,c0,c1,c2,c3,c4,c5,c6,c7,h1,h2,h4⟩ hb;obtain⟨cs',h5,h6⟩:=hb.form g _ T h4;obtain⟨e0,e1,e2,e3,e4,e5,e6,e7,rfl⟩:=wU (cs:=cs') (h5.trans rfl);exact⟨g,e0,e1,e2,e3,e4,e5,e6,e7,h1,h2,h6⟩
def VtF (w:World) (x:Vd):Fact:=fun v _=> ∃va vl vc,v=.tuple #[.agg #[.string x.n,.int .i64 x.c,.string x.z,.string x.k,.bool x.x,.string x.m,.bool x.y,.slice va vl vc],.bool true]/\av w va vl vc x.zs
theorem VtF.mono (SR:World->World->Prop) (w:World) (x:Vd):Gs.ic SR (VtF w x):=⟨fun _ _ _ h _=>h,fun _ _ _ h _=>h⟩
def VaF (w:World) (x:Vd):Fact:=fun v _=> ∃va vl vc,v=.agg #[.string x.n,.int .i64 x.c,.string x.z,.string x.k,.bool x.x,.string x.m,.bool x.y,.slice va vl vc]/\av w va vl vc x.zs
theorem VaF.mono (SR:World->World->Prop) (w:World) (x:Vd):Gs.ic SR (VaF w x):=⟨fun _ _ _ h _=>h,fun _ _ _ h _=>h⟩
def PsV (W w:World) (x:Vd):Fact:=fun v w'=> ∃g va vl vc,v=.pointer (some ⟨g,0,none⟩)/\W.heap.size<=g/\av w va vl vc x.zs/\w'.heap[g]?=some (.cells #[.string x.n,.int .i64 x.c,.string x.z,.string x.k,.bool x.x,.string x.m,.bool x.y,.slice va vl vc] 62 (0,0))
theorem PsV.mono (W w:World) (x:Vd):(PsV W w x).bw:=by
 rintro v a b ⟨g,va,vl,vc,h1,h2,h3,h4⟩ hb;exact⟨g,va,vl,vc,h1,h2,h3,(hb.block g (ae h4)).trans h4⟩
theorem wO {w:World} {g:Nat} {T:TypeId} {c0 c1 c2 c3 c4 c5 c6 c7:Value} (h:w.heap[g]?=some (.cells #[c0,c1,c2,c3,c4,c5,c6,c7] T (0,0))) (v0 v1 v2 v3 v4 v5 v6 v7:Value):
  ((((((((w.setCell ⟨g,0,none⟩ v0).setCell ⟨g,1,none⟩ v1).setCell ⟨g,2,none⟩ v2).setCell ⟨g,3,none⟩ v3).setCell ⟨g,4,none⟩ v4).setCell ⟨g,5,none⟩ v5).setCell ⟨g,6,none⟩ v6).setCell ⟨g,7,none⟩ v7).heap[g]?=some (.cells #[v0,v1,v2,v3,v4,v5,v6,v7] T (0,0)):=by
 rw[au (i:=7) (au (i:=6) (au (i:=5) (au (i:=4) (au (i:=3) (au (i:=2) (au (i:=1) (au (i:=0) h v0) v1) v2) v3) v4) v5) v6) v7];simp only[xx,xG,xK]

theorem Fv.Own.vO {w w':World} {h:Nat} {S:Nat->Prop} {g:Nat} {f:Fv} {v:Value} (k:f.Own w h S g v) (hk:h<w.heap.size->S h->w'.heap[h]?=w.heap[h]?):f.Own w' h S g v:=by
 cases f with
 | l zs=>
  obtain⟨a',l',c',h1,h2,h3,h4,h5,h6⟩:=k;refine⟨a',l',c',h1,h2,h3,h4,h5,h6.imp id ?_⟩;rintro⟨q1,q2,q3,cu,q4,q5⟩;exact⟨q1,q2,q3,cu,(hk (ae q4) q2).trans q4,q5⟩
 | _=>exact k
theorem cy.wR {w W:World} {B g len cap m:Nat} {T:TypeId} {rs:List (List Fv)} {S:Nat->Prop} {cur:Array Value} {H:Nat->Nat->Nat} (h:cy w g m T rs S cur H) (hS:∀k,S k->B<=k) (hl:rs.length=len) (hlc:len<=cap) (hcm:cap<=9223372036854775807) {i j:Nat} {r:List Fv} {old:Fv} (hi:rs[i]?=some r) (hj:r[j]?=some old)
  {va:Option Addr} {vl vc:Nat} {zs:List ByteArray} (hz:av w va vl vc zs) (hne:∀b o,va=some ⟨b,o,none⟩->zs≠[]->¬b=g/\B<=b) (hW:∀k,B<=k->k<w.heap.size->W.heap[k]?=(w.setCell ⟨g,i*m+j,none⟩ (.slice va vl vc)).heap[k]?):aF W (some ⟨g,0,none⟩) len cap m (rs.set i (r.set j (.l zs))):=by
 have hlt:i<rs.length:=(xe.1 hi).1;have hil:j<r.length:=(xe.1 hj).1;have hrm:r.length=m:=h.len i r hi;have hgB:=hS g h.inS;have hbl:=(hW g hgB (ae h.blk)).trans (au h.blk _);obtain⟨v0,hc0,-⟩:=h.cell i r hi j _ hj;have hin:i*m+j<cur.size:=(xA.1 hc0).1;refine⟨by rw[List.length_set];exact hl,hlc,hcm,.inr ⟨g,0,rfl,ae hbl,fun j' r' hj' i' f' hi'=>?_⟩⟩;rw[xL];rcases dx (r:=r) hlt hil hj' hi' with ⟨rfl,rfl,rfl⟩|⟨hne',r0,q1,q2⟩
 ·refine⟨.slice va vl vc,?_,va,vl,vc,rfl,?_⟩
  ·rw[aD hbl,Array.getElem?_setIfInBounds_self_of_lt hin]
  ·obtain⟨h1,h2,h3,h4,h5⟩:=hz;refine⟨h1,h2,h3,h4,?_⟩;by_cases hzn:zs=[]
   ·exact .inl hzn
   ·rcases h5 with h5|⟨b,o,rfl,hlt,hc⟩
    ·exact .inl h5
    ·obtain⟨hbg,hbB⟩:=hne b o rfl hzn;have e:W.heap[b]?=w.heap[b]?:=(hW b hbB hlt).trans (xi _ _ _ _ hbg);have hs:W.heap[b]?=some (w.heap[b]'hlt):=e.trans (yO hlt);refine .inr ⟨b,o,rfl,(xA.1 hs).1,fun k x hx=>?_⟩;have:=hc k x hx;simp only[World.cell?,e] at this ⊢;exact this
 ·rw[gJ hi] at q1;obtain⟨v',k1,k2⟩:=h.cell j' r0 q1 i' f' q2;have hil':i'<r0.length:=(xe.1 q2).1;have hrm':=h.len j' r0 q1;refine⟨v',?_,((k2.aZ (k:=i*m+j) (v:=.slice va vl vc)).vO (w':=W) (fun hl s=>hW _ (hS _ s) (by simpa using hl))).is⟩;rw[aD hbl,Array.getElem?_setIfInBounds_ne (fun e2=>hne' tA)];exact k1
theorem pe.volC {w2 wz W:World} {d:Ad} {c:Cl} {B i g:Nat} {v:Vd} {zs:List ByteArray} {va:Option Addr} {vl vc:Nat} {C:Nat} (ho:pe w2 d c.raw (fun k=>B<=k)) (hC:C<=B) (hd:d.a3=some ⟨g,0,none⟩) (hv:c.vs[i]?=some v) (hB:B<=w2.heap.size) (hb:Below w2.heap.size w2 wz) (hz:av wz va vl vc zs) (hz2:∀b o,va=some ⟨b,o,none⟩->zs≠[]->w2.heap.size<=b)
  (hW:∀k,B<=k->k<wz.heap.size->W.heap[k]?=(wz.setCell ⟨g,i*8+7,none⟩ (.slice va vl vc)).heap[k]?):lp C W d (dF c i (onV v zs)).raw:=by
 have hvi:(c.vs.map vdF)[i]?=some (vdF v):=by rw[xq,hv];rfl
 obtain⟨v1,v2,v3,v4⟩:=ho.v;rcases v4 with v4|⟨g',cur,H,e,hat⟩
 ·have h9:c.vs.map vdF=[]:=v4;rw[h9] at hvi;cases hvi
 rw[hd] at e;obtain rfl:g=g':=by cases e;rfl
 have hg:g<w2.heap.size:=ae hat.blk;have hk:∀k,B<=k->¬k=g->k<w2.heap.size->W.heap[k]?=w2.heap[k]?:=fun k h1 h2 h3=>by rw[hW k h1 (xr h3 hb.size),xi _ _ _ _ h2,hb.block k h3]
 have hR:=(hat.aN (w':=wz) (S':=fun k=>B<=k) (fun k hk _=>hb.block k hk) (fun _ _ s=>s)).wR (W:=W) (B:=B) (i:=i) (j:=7) (fun _ s=>s) v1 v2 v3 hvi rfl hz (fun b o e hn=>⟨fun q=>by have:=hz2 b o e hn;omega,by have:=hz2 b o e hn;omega⟩) hW;have hvs:(Rc.dF c i (onV v zs)).raw.v=(c.vs.map vdF).set i ((vdF v).set 7 (.l zs)):=by
  show (c.vs.set i (onV v zs)).map vdF=_;rw[List.map_set];rfl
 refine⟨?_,?_,?_,?_,?_⟩
 ·exact ((ho.n.jA hat.blk aj aj).aN (w':=W) (S':=fun k=>B<=k) (fun k hk' s=>hk k s.1 s.2 hk') (fun _ _ s=>s.1)).rl (fun k s=>xp hC s)
 ·exact ((ho.k.jA hat.blk aj aj).aN (w':=W) (S':=fun k=>B<=k) (fun k hk' s=>hk k s.1 s.2 hk') (fun _ _ s=>s.1)).rl (fun k s=>xp hC s)
 ·rw[hvs,hd];exact⟨hR,.inr ⟨g,0,rfl,xp hC hat.inS,_,_,(hW g hat.inS (xr hg hb.size)).trans (au ((hb.block g hg).trans hat.blk) _)⟩⟩
 ·exact ((ho.x.jA hat.blk aj aj).aN (w':=W) (S':=fun k=>B<=k) (fun k hk' s=>hk k s.1 s.2 hk') (fun _ _ s=>s.1)).rl (fun k s=>xp hC s)
 ·exact ((ho.p.jA hat.blk aj aj).aN (w':=W) (S':=fun k=>B<=k) (fun k hk' s=>hk k s.1 s.2 hk') (fun _ _ s=>s.1)).rl (fun k s=>xp hC s)
theorem pe.wk {w2:World} {d:Ad} {c:Cl} {B i:Nat} {v:Vd} (ho:pe w2 d c.raw (fun k=>B<=k)) (hv:c.vs[i]?=some v):∃g cs,d.a3=some ⟨g,0,none⟩/\B<=g/\w2.heap[g]?=some (.cells cs 62 (0,0))/\(∃a l p,cs[i*8+7]?=some (.slice a l p)/\av w2 a l p v.zs):=by
 have hvi:(c.vs.map vdF)[i]?=some (vdF v):=by rw[xq,hv];rfl
 obtain⟨v1,v2,v3,v4⟩:=ho.v;rcases v4 with v4|⟨g,cur,H,e,hat⟩
 ·have h9:c.vs.map vdF=[]:=v4;rw[h9] at hvi;cases hvi
 obtain⟨u,hu,a,l,p,rfl,h5⟩:=hat.cell i (vdF v) hvi 7 (.l v.zs) rfl;exact⟨g,cur,e,hat.inS,hat.blk,a,l,p,hu,jD.row (h:=H i 7) (S:=fun k=>B<=k) (g:=g) ⟨a,l,p,rfl,h5⟩⟩
theorem pg {c:Cl} {k:Nat} {q:Qd} (h:Xn c k q):∃(i:Nat) (v:Vd),c.vs[i]?=some v/\v.n=q.n/\q.d∈v.zs:=by
 obtain⟨i,v,_,h1,j,t,_,h2,_,_,rfl⟩:=h;exact⟨i,v,h1,rfl,xD h2⟩

def TxW (zs:List ByteArray):Fact:=fun v w=> ∃a' l' c',v=.slice a' l' c'/\av w a' l' c' zs
theorem TxW.mono (zs:List ByteArray):Fact.bw (TxW zs):=by
 rintro v w w' ⟨a',l',c',h1,h2⟩ hb;exact⟨a',l',c',h1,h2.below hb⟩
def o8 (W:World) (c:Cl):Fact:=fun v w=> ∃d,v=.agg #[.slice d.a1 d.l1 d.c1,.slice d.a2 d.l2 d.c2,.slice d.a3 d.l3 d.c3,.slice d.a4 d.l4 d.c4,.slice d.a5 d.l5 d.c5,.int .i64 c.now]/\bP w d c.raw (fun k=>W.heap.size<=k)
theorem o8.mono (W:World) (c:Cl):Fact.bw (o8 W c):=by
 exact lT
def pd (W:World) (c:Cl) (n:ByteArray):Fact:=fun v w=> ∃d,v=.agg #[.slice d.a1 d.l1 d.c1,.slice d.a2 d.l2 d.c2,.slice d.a3 d.l3 d.c3,.slice d.a4 d.l4 d.c4,.slice d.a5 d.l5 d.c5,.int .i64 c.now,.string n,.int .i64 0]/\bP w d c.raw (fun k=>W.heap.size<=k)
theorem pd.mono (W:World) (c:Cl) (n:ByteArray):Fact.bw (pd W c n):=by
 exact lT
def iT (a b:ByteArray):Fact:=fun v w=> ∃g,v=.slice (some ⟨g,0,none⟩) 2 2/\w.heap[g]?=some (.cells #[.string a,.string b] 9 (0,0))
theorem iT.mono (a b:ByteArray):Fact.bw (iT a b):=by
 rintro v w w' ⟨g,h1,h2⟩ hb;exact⟨g,h1,(hb.block g (ae h2)).trans h2⟩
theorem vB (t:ByteArray) (zs:List ByteArray):∃ys,Put t zs ys:=by
 by_cases h:t∈zs
 ·exact⟨zs,.inl ⟨h,rfl⟩⟩
 ·refine⟨_,.inr ⟨pl (fun s:ByteArray=>s) zs t,List.findIdx_le_length,rfl,fun j y hj hy=>?_,fun y hy=>?_⟩⟩
  ·have h1:=List.not_of_lt_findIdx hj;rw[(xe.1 hy).2] at h1;simpa using h1
  ·obtain⟨h2,h3⟩:=xe.1 hy;have h1:=List.findIdx_getElem (w:=h2);have h4:zs[List.findIdx (fun x:ByteArray=> !xn x.toList t.toList) zs]'h2=y:=h3;rw[h4] at h1;exact kW (by simpa using h1) (fun e=>h (e ▸ xD hy))
theorem vp (a b s:List UInt8):Lib.join [a,b] s=a++(s++b):=by simp[Lib.join,List.intercalate]
theorem gD (a b:ByteArray):(Lib.join ([a,b].map (·.data.toList)) [32]).length=a.size+(1+b.size):=by
 show (Lib.join [a.data.toList,b.data.toList] [32]).length=_;rw[vp,xO,xO,yF,yF];rfl
theorem pj (a b:ByteArray):eT [a,b]=a++(⟨#[32]⟩++b):=by
 show (⟨(Lib.join [a.data.toList,b.data.toList] [32]).toArray⟩:ByteArray)=_;rw[vp];apply ByteArray.ext;simp[ByteArray.data_append]
theorem oo (n:ByteArray):eT [⟨#[111,102,102]⟩,n]=gk++n:=by
 rw[pj];apply ByteArray.ext;simp[ByteArray.data_append,gk]
theorem ph (n:ByteArray):eT [⟨#[111,110]⟩,n]=wOn++n:=by
 rw[pj];apply ByteArray.ext;simp[ByteArray.data_append,wOn]

theorem lg (d:Ad) (c:Cl) (E:Nat->Addr) (w:World) (hr:aK w d c.raw) (hG:Ers w E):
  Calls Tryz.prog 7 #[.agg #[.slice d.a1 d.l1 d.c1,.slice d.a2 d.l2 d.c2,.slice d.a3 d.l3 d.c3,.slice d.a4 d.l4 d.c4,.slice d.a5 d.l5 d.c5,.int .i64 c.now]] w (wZ (cZ c) w):=by
 have HR:=aa hr;have HE:=aa hG;have HEN:=aa hG.ens;have HB:=aa (xj w.heap.size w);clear hr hG;go_enter Tryz.func7,Tryz.ntmps7;go_wp2_with fail;refine (my d c _ (HR.below (HB.trans ((aM _ _ _).mono HB.size))) (HEN.below (HB.trans ((aM _ _ _).mono HB.size)))).mono ?_;rintro e w1 ⟨r,rfl,hi,hb⟩;obtain⟨HA0,HA1,hbx⟩:=de hb;have Bk:=aa HA0;have Br:=aa HA1;replace HB:=upB HB hbx;clear hb hbx HA0 HA1;have HI:=aa hi;clear hi;cases r
 ·have HV:Hid (cZ c (co0 (fR 1))):=.inl ⟨fun h=>(by have h9:=HI.2 h;cases h9),rfl⟩;clear HI;obtain⟨cc,hcc⟩:∃cc,cc=fR 1:=⟨_,rfl⟩;rw[<-hcc] at HV;have ev:=(HE.below HB.out).v1;have evl:=bG ev;obtain⟨k0,k1,k2,k3,k4,k5⟩:=cs6 Bk;have ltk_1:=ae Bk.out;go_wp2_with fail;refine (fV E 1 cc hcc _ (HE.below HB.out) (by first|decide|omega)).mono ?_;rintro e w2 ⟨rfl,hb⟩;clear k0 k1 k2 k3 k4 k5 ltk_1;replace Bk:=upK Bk hb;replace Br:=upK Br hb;replace HB:=upB HB hb;clear hb;clear hcc;obtain⟨r0,r1,r2,r3,r4,r5,r6,r7⟩:=cs8 Br;have ltr_2:=ae Br.out;obtain⟨fr0,fr1,fr2,fr3,fr4,fr5⟩:=iC;have fr6:=aw Br.out 6;have fr7:=aw Br.out 7;have hrl:w.heap.size+1<w2.heap.size:=ae Br.out;exact qE
 have HT:=aa (HI.1 bA);clear HI;obtain⟨k0,k1,k2,k3,k4,k5⟩:=cs6 Bk;have ltk_1:=ae Bk.out;go_wp2_with fail;refine (sk d c _ (HR.below HB.out) HT.out).mono ?_;rintro e w2 ⟨ea,el,ec,es,rfl,ho,hrq,hmem,hle,hb⟩;clear k0 k1 k2 k3 k4 k5 ltk_1;replace Bk:=upK Bk hb;replace Br:=upK Br hb;replace HB:=upB HB hb;clear hb;have HER:=aa ho.row;have hel:es.length=el:=by simpa using ho.row.1
 have HES:=aa (xf hrq hmem);clear ho hrq hmem;by_cases he0:0<el
 ·have hei:(0:Int)<el:=af
  obtain⟨b,o,y,rfl,hbl,hy,hat⟩:=eJ HER.out he0;obtain⟨-,-,hc0,hc1⟩:=b8 hat;have HY0:=aa hy;obtain⟨i,x,hv,hvn,hvd⟩:=pg ((HES.2 y).1 (xD hy));have HV0:=aa hv;have HVN:=aa hvn;have HVD:=aa hvd;have hc0':w2.cell? ⟨b,o,none⟩=some (.string y.n):=by simpa using hc0
  have hc1':w2.cell? ⟨b,o+1,none⟩=some (.string y.d):=by simpa using hc1
  have HYN:=aa hc0';have HY1:=aa hc1';have HYB:=aa hbl;clear hat hy hv hvn hvd hc0 hc1 hc0' hc1' hbl;obtain⟨k0,k1,k2,k3,k4,k5⟩:=cs6 Bk;have ltk_2:=ae Bk.out;go_wp2_with fail;clear k0 k1 k2 k3 k4 k5 ltk_2;rename_i K0 hK0;refine Gs.aB (SR:=Gs.Form w2) 4 (PsV w2 w x) (PsV.mono w2 w x) (fun h=>h.low) an rfl rfl an ?_;refine' Gs.Grow.ar _ rfl ?_ ?_;rotate_left 1
  ·exact qW
  refine' Gs.Grow.ar _ rfl ?_ ?_;rotate_left 1
  ·exact jb
  refine' Gs.Grow.ar _ rfl ?_ ?_;rotate_left 1
  ·refine Obl.plain rfl ?_;intro ac wg K hsz hW hf hK;clear hsz;have e21:=hf 21 aj;simp[ak,xg] at e21;clear hf;exact bx
  refine' Gs.Grow.ar _ rfl ?_ ?_;rotate_left 1
  ·refine Obl.plain rfl ?_;intro ac wg K hsz hW hf hK;clear hsz;have e22:=hf 22 aj;simp[ak,xg] at e22;clear hf;exact bx
  refine' Gs.Grow.ar _ rfl ?_ ?_;rotate_left 1
  ·refine Obl.plain rfl ?_;intro ac wg K hsz hW hf hK;clear hsz;have e23:=hf 23 aj;simp[ak,xg] at e23;clear hf;have c7:=(ai hW HYB.out).trans HYN.out;exact bx
  refine Gs.Grow.step (VtF w x) rfl (VtF.mono _ w x) ?_ ?_
  ·refine Obl.plain rfl ?_;intro ac wg K hsz hW hf hK;clear hsz;have e20:=hf 20 aj;simp[ak,xg] at e20;have e24:=hf 24 aj;simp[ak,xg] at e24;exact uV
  refine Gs.Grow.step (VtF w x) rfl (VtF.mono _ w x) ?_ ?_
  ·refine Obl.plain rfl ?_;intro ac wg K hsz hW hf hK;clear hsz;have e25:=hf 25 aj;simp[ak,xg] at e25;clear hf;obtain⟨va,vl,vc,e25,hrow⟩:=e25;exact jc
  refine Gs.Grow.step (VaF w x) rfl (VaF.mono _ w x) ?_ ?_
  ·refine Obl.plain rfl ?_;intro ac wg K hsz hW hf hK;clear hsz;have e19:=hf 19 aj;simp[ak,xg] at e19;clear hf;obtain⟨va,vl,vc,e19,hrow⟩:=e19;exact jc
  refine' Gs.Grow.ar (.bool true) rfl ?_ ?_
  ·refine Obl.plain rfl ?_;intro ac wg K hsz hW hf hK;clear hsz;have e19:=hf 19 aj;simp[ak,xg] at e19;obtain⟨va,vl,vc,e19,-⟩:=e19;clear hf;exact bx
  refine Gs.Grow.step (o_ w2 62) rfl (o_.mono w2 62) ?_ ?_
  ·exact rL
  refine Gs.Grow.store rfl ?_ ?_
  ·refine Gs.iR.plain rfl ?_;intro ac wg K hsz hW hf hK;clear hsz;have e4:=hf 4 aj;simp[ak,xg] at e4;have e26:=hf 26 aj;simp[ak,xg] at e26;clear hf;obtain⟨g,c0,c1,c2,c3,c4,c5,c6,c7,e4,hgB,hgk⟩:=e4;obtain⟨va,vl,vc,e26,hrow⟩:=e26;have HGK:=aa hgk;have HRO:=aa hrow;obtain⟨g0,g1,g2,g3,g4,g5,g6,g7⟩:=cs8 hgk;have fg0:=aw hgk 0;have fg1:=aw hgk 1;have fg2:=aw hgk 2;have fg3:=aw hgk 3;have fg4:=aw hgk 4;have fg5:=aw hgk 5;have fg6:=aw hgk 6;have fg7:=aw hgk 7;have hgl:=ae hgk;have EP:=aa e4;exact uI
  refine Gs.Grow.done ?_;intro q wz hW hf hps;simp only[xH] at hf;obtain⟨-,h27,-,-,-,h24,h23,h22,h21,h20,-⟩:=hf;have hps2:PsV w2 w x (q 4) wz:=by simpa[aI,yx] using hps
  obtain⟨g,va,vl,vc,hv4,hgB,hrow,hblk⟩:=hps2;have HWZ:=aa hW;have HRO:=aa hrow;have HGV:=aa hblk;clear hps hrow hblk;intro K hK;rw[if_pos (by rfl)];simp only[aI,yo,yx,xx,xG,xK,h27,h24,h23,h22,h21,h20,hv4];simp only[yg];go_simp;refine hK _ _ ?_;refine hK0 _ _ ?_;clear hK hK0 K K0;obtain⟨BkZ,BrZ,HBZ,HYZ,HYBZ,HRZ,HROZ,hvk⟩:=tZ;have z0:(onV x (wo (fun s:ByteArray=>s) y.d x.zs)).n.size<=9223372036854775807:=by have h1:=hvk.1.2.1;show x.n.size<=_;omega
  have z2:(onV x (wo (fun s:ByteArray=>s) y.d x.zs)).z.size<=9223372036854775807:=by have h1:=hvk.2.2.1.2.1;show x.z.size<=_;omega
  have z3:(onV x (wo (fun s:ByteArray=>s) y.d x.zs)).k.size<=9223372036854775807:=by have h1:=hvk.2.2.2.1.2.1;show x.k.size<=_;omega
  have z5:(onV x (wo (fun s:ByteArray=>s) y.d x.zs)).m.size<=9223372036854775807:=by
   show x.m.size<=_;rcases hvk.2.2.2.2.1 with h1|h1
   ·rw[h1];decide
   ·have h2:=h1.2.1;omega
  have hn20:x.n.size<=20:=hvk.1.2.1;have HL3:Hid ((⟨#[111,102,102]⟩:ByteArray).size<=3):=(by decide:(⟨#[111,102,102]⟩:ByteArray).size<=3);have hvl:vl<=64:=by have h1:x.zs.length=vl:=HRO.1;have:=(HT.on HV0.out).1;omega
  have hzl:((wo (fun s:ByteArray=>s) y.d x.zs)).length<=7:=xp (zb _ _) (by have:=(HT.on HV0.out).1;omega);have HZ:=aa (xf z0 (xf z2 (xf z3 z5)));have hq1:w.heap.size+1<wz.heap.size:=ae BrZ.out;clear hvk z0 z2 z3 z5;go_wp2_with fail;rename_i K0 hK0;refine aB an rfl rfl an ?_;refine' Grow.ar _ rfl ?_ ?_;rotate_left 1
  ·exact qX
  refine' Grow.ar _ rfl ?_ ?_;rotate_left 1
  ·refine Obl.plain rfl ?_;intro ac wg K hsz hW hf hK;clear hsz;have e4:=hf 4 aj;simp[ak,xg] at e4;exact fK
  refine' Grow.ar _ rfl ?_ ?_;rotate_left 1
  ·exact qM
  refine' Grow.ar _ rfl ?_ ?_;rotate_left 1
  ·refine Obl.plain rfl ?_;intro ac wg K hsz hW hf hK;clear hsz;have e30:=hf 30 aj;simp[ak,xg] at e30;exact fK
  refine' Grow.ar _ rfl ?_ ?_;rotate_left 1
  ·exact jb
  refine' Grow.ar _ rfl ?_ ?_;rotate_left 1
  ·refine Obl.plain rfl ?_;intro ac wg K hsz hW hf hK;clear hsz;have e32:=hf 32 aj;simp[ak,xg] at e32;clear hf;exact bx
  refine' Grow.ar _ rfl ?_ ?_;rotate_left 1
  ·refine Obl.plain rfl ?_;intro ac wg K hsz hW hf hK;clear hsz;have e33:=hf 33 aj;simp[ak,xg] at e33;clear hf;exact bx
  refine' Grow.ar _ rfl ?_ ?_;rotate_left 1
  ·refine Obl.plain rfl ?_;intro ac wg K hsz hW hf hK;clear hsz;have e34:=hf 34 aj;simp[ak,xg] at e34;clear hf;have c7:=(ai hW HYBZ.out).trans HYZ.out;exact bx
  refine Grow.step (TxW ((wo (fun s:ByteArray=>s) y.d x.zs))) rfl (TxW.mono _) ?_ ?_
  ·refine Obl.plain rfl ?_;intro ac wg K hsz hW hf hK;clear hsz;have e31:=hf 31 aj;simp[ak,xg] at e31;have e35:=hf 35 aj;simp[ak,xg] at e35;clear hf;go_simp;refine (mw va vl vc x.zs y.d _ (HROZ.below hW) (ew (HT.on HV0.out).2) hvl HVD.out).mono ?_;rintro e w6 ⟨ta,tl,tc,rfl,htx,hb6⟩;exact hK _ _ hb6 ⟨ta,tl,tc,rfl,htx⟩
  refine Grow.step (o8 wz (dF c i (onV x ((wo (fun s:ByteArray=>s) y.d x.zs))))) rfl (o8.mono _ _) ?_ ?_
  ·refine Obl.plain rfl ?_;intro ac wg K hsz hW hf hK;clear hsz;have e28:=hf 28 aj;simp[ak,xg] at e28;have e29:=hf 29 aj;simp[ak,xg] at e29;have e36:=hf 36 aj;simp[ak,xg] at e36;clear hf;obtain⟨ta,tl,tc,e36,htx⟩:=e36;go_simp;have htl:tl<=8001:=by have h1:((wo (fun s:ByteArray=>s) y.d x.zs)).length=tl:=htx.1;omega
   refine (kZ d c (onV x ((wo (fun s:ByteArray=>s) y.d x.zs))) va vl vc ta tl tc _ (HRZ.below hW) HT.sm htx htl HZ.1 HZ.2.1 HZ.2.2.1 HZ.2.2.2).mono ?_;exact um
  refine' Grow.ar _ rfl ?_ ?_;rotate_left 1
  ·exact qM
  refine' Grow.ar _ rfl ?_ ?_;rotate_left 1
  ·refine Obl.plain rfl ?_;intro ac wg K hsz hW hf hK;clear hsz;have e38:=hf 38 aj;simp[ak,xg] at e38;exact fK
  refine Grow.step (iT ⟨#[111,102,102]⟩ x.n) rfl (iT.mono _ _) ?_ ?_
  ·refine Obl.plain rfl ?_;intro ac wg K hsz hW hf hK;clear hsz;have e39:=hf 39 aj;simp[ak,xg] at e39;clear hf;go_simp;exact hK _ _ (al _ _) ⟨_,rfl,xt⟩
  refine' Grow.ar (.string (gk++x.n)) rfl ?_ ?_
  ·refine Obl.plain rfl ?_;intro ac wg K hsz hW hf hK;clear hsz;have e40:=hf 40 aj;simp[ak,xg] at e40;obtain⟨lb,e40,hlb⟩:=e40;clear hf;go_simp;refine (gE lb 0 2 [⟨#[111,102,102]⟩,x.n] 2 _ (fun j z hz=>by
    rw[xL,aD hlb]
    rcases j with _|_|j
    ·cases hz;rfl
    ·cases hz;rfl
    ·simp at hz) (ae hlb) rfl aj (xk _) (by rw[gD];have h9:=HL3.out;omega)).mono ?_
   rintro e w6 ⟨rfl,hb6⟩;refine hK _ _ hb6 ?_;rw[oo]
  refine Grow.step (pd wz (dF c i (onV x ((wo (fun s:ByteArray=>s) y.d x.zs)))) (gk++x.n)) rfl (pd.mono _ _ _) ?_ ?_
  ·refine Obl.plain rfl ?_;intro ac wg K hsz hW hf hK;clear hsz;have e37:=hf 37 aj;simp[ak,xg] at e37;have e41:=hf 41 aj;simp[ak,xg] at e41;clear hf;obtain⟨d',e37,ho⟩:=e37;go_simp;exact hK _ _ (xj _ _) ⟨d',rfl,ho⟩
  refine Grow.done ?_;intro q wy hW hf;simp only[xH] at hf;obtain⟨h42,h41,-,h39,h38,-,-,h35,h34,h33,h32,h31,h30,h29,h28,-⟩:=hf;obtain⟨d',hv9,ho⟩:=h42;have HO:=aa ho;have HWY:=aa hW;have Br6:=upK BrZ hW;obtain⟨r0,r1,r2,r3,r4,r5,r6,r7⟩:=cs8 Br6;obtain⟨fr0,fr1,fr2,fr3,fr4,fr5,fr6,fr7⟩:=nG;have hrl:=ae Br6.out;clear ho;intro K hK;rw[if_pos (by rfl)];simp only[aI,yo,yx,xx,xG,xK,h41,h39,h38,h35,h34,h33,h32,h31,h30,h29,h28,hv9];simp only[yg];go_simp;refine hK _ _ ?_;refine hK0 _ _ ?_;clear hK hK0 K K0;have HV:Hid (cZ c ⟨dF c i (onV x ((wo (fun s:ByteArray=>s) y.d x.zs))),gk++x.n,0⟩):=.inr (.inl ⟨HT.out,es,y,i,x,HES.out,HY0.out,HV0.out,HVN.out,rfl⟩);go_wp2;refine bodyPost_ret (v:=.agg #[.slice d'.a1 d'.l1 d'.c1,.slice d'.a2 d'.l2 d'.c2,.slice d'.a3 d'.l3 d'.c3,.slice d'.a4 d'.l4 d'.c4,.slice d'.a5 d'.l5 d'.c5,.int .i64 c.now,.string (gk++x.n),.int .i64 0]) (by simp[results,Tryz.results7,go_sem, *];rfl) rfl ⟨d',⟨dF c i (onV x ((wo (fun s:ByteArray=>s) y.d x.zs))),gk++x.n,0⟩,rfl,HV.out,?_,sb1 (sb1 (sb1 (sb1 (sb1 (sb1 (sb1 (sb1 (HBZ.trans (HWY.mono HBZ.size)))))))))⟩;obtain⟨P,hP⟩:=HO.out;exact⟨P,hP.aN (w':=((((((((wy.setCell ⟨w.heap.size+1,0,none⟩ (.slice d'.a1 d'.l1 d'.c1)).setCell ⟨w.heap.size+1,1,none⟩ (.slice d'.a2 d'.l2 d'.c2)).setCell ⟨w.heap.size+1,2,none⟩ (.slice d'.a3 d'.l3 d'.c3)).setCell ⟨w.heap.size+1,3,none⟩ (.slice d'.a4 d'.l4 d'.c4)).setCell ⟨w.heap.size+1,4,none⟩ (.slice d'.a5 d'.l5 d'.c5)).setCell ⟨w.heap.size+1,5,none⟩ (.int .i64 c.now)).setCell ⟨w.heap.size+1,6,none⟩ (.string (gk++x.n))).setCell ⟨w.heap.size+1,7,none⟩ (.int .i64 0))) (fun k hk s=>by have s1:wz.heap.size<=k:=s;rw[xi _ _ _ _ (show k≠w.heap.size+1 by omega),xi _ _ _ _ (show k≠w.heap.size+1 by omega),xi _ _ _ _ (show k≠w.heap.size+1 by omega),xi _ _ _ _ (show k≠w.heap.size+1 by omega),xi _ _ _ _ (show k≠w.heap.size+1 by omega),xi _ _ _ _ (show k≠w.heap.size+1 by omega),xi _ _ _ _ (show k≠w.heap.size+1 by omega),xi _ _ _ _ (show k≠w.heap.size+1 by omega)]) (fun k _ s=>by have s1:wz.heap.size<=k:=s;show w.heap.size<=k;omega)⟩
 have hei:¬(0:Int)<el:=af
 have HNX:Hid (∀q,¬Xn c c.vs.length q):=fun q hq=>by
  exact rp
 clear HER HES;obtain⟨k0,k1,k2,k3,k4,k5⟩:=cs6 Bk;have ltk_2:=ae Bk.out;go_wp2_with fail;refine (sj d c _ (HR.below HB.out) HT.out).mono ?_;rintro e w3 ⟨fa,fl,fc,ws,rfl,ho,hrq,hmem,hle2,hb⟩;clear k0 k1 k2 k3 k4 k5 ltk_2;replace Bk:=upK Bk hb;replace Br:=upK Br hb;replace HB:=upB HB hb;clear hb;have HER:=aa ho;have hfl:(lakL c ws).length=fl:=by simpa using ho.1
 have HES:=aa (xf hrq hmem);clear ho hrq hmem;by_cases hf0:0<fl
 ·have hfi:(0:Int)<fl:=af
  obtain⟨b,o,y,rfl,hbl,hy,hat⟩:=eJ HER.out hf0;obtain⟨-,hzd,hc0,hc1⟩:=b8 hat;have HY0:=aa hy;obtain⟨i,jn,x,n,hv,hvn,-,-⟩:=lx HT.out ((HES.2 y).1 (nX (xD hy)).1);have HV0:=aa hv;have HVN:=aa hvn;have HZD:=aa hzd;have hc0':w3.cell? ⟨b,o,none⟩=some (.string y.n):=by simpa using hc0
  have hc1':w3.cell? ⟨b,o+1,none⟩=some (.string y.d):=by simpa using hc1
  have HYN:=aa hc0';have HY1:=aa hc1';have HYB:=aa hbl;obtain⟨ys,hys⟩:=vB y.d x.zs;have HPY:=aa hys;clear hat hy hv hvn hc0 hc1 hc0' hc1' hbl hzd hys;obtain⟨k0,k1,k2,k3,k4,k5⟩:=cs6 Bk;have ltk_3:=ae Bk.out;go_wp2_with fail;clear k0 k1 k2 k3 k4 k5 ltk_3;rename_i K0 hK0;refine Gs.aB (SR:=Gs.Form w3) 7 (PsV w3 w x) (PsV.mono w3 w x) (fun h=>h.low) an rfl rfl an ?_;refine' Gs.Grow.ar _ rfl ?_ ?_;rotate_left 1
  ·exact qW
  refine' Gs.Grow.ar _ rfl ?_ ?_;rotate_left 1
  ·exact qN
  refine' Gs.Grow.ar _ rfl ?_ ?_;rotate_left 1
  ·refine Obl.plain rfl ?_;intro ac wg K hsz hW hf hK;clear hsz;have e50:=hf 50 aj;simp[ak,xg] at e50;clear hf;exact bx
  refine' Gs.Grow.ar _ rfl ?_ ?_;rotate_left 1
  ·refine Obl.plain rfl ?_;intro ac wg K hsz hW hf hK;clear hsz;have e51:=hf 51 aj;simp[ak,xg] at e51;clear hf;exact bx
  refine' Gs.Grow.ar _ rfl ?_ ?_;rotate_left 1
  ·refine Obl.plain rfl ?_;intro ac wg K hsz hW hf hK;clear hsz;have e52:=hf 52 aj;simp[ak,xg] at e52;clear hf;have c7:=(ai hW HYB.out).trans HYN.out;exact bx
  refine Gs.Grow.step (VtF w x) rfl (VtF.mono _ w x) ?_ ?_
  ·refine Obl.plain rfl ?_;intro ac wg K hsz hW hf hK;clear hsz;have e49:=hf 49 aj;simp[ak,xg] at e49;have e53:=hf 53 aj;simp[ak,xg] at e53;exact uV
  refine Gs.Grow.step (VtF w x) rfl (VtF.mono _ w x) ?_ ?_
  ·refine Obl.plain rfl ?_;intro ac wg K hsz hW hf hK;clear hsz;have e54:=hf 54 aj;simp[ak,xg] at e54;clear hf;obtain⟨va,vl,vc,e54,hrow⟩:=e54;exact jc
  refine Gs.Grow.step (VaF w x) rfl (VaF.mono _ w x) ?_ ?_
  ·refine Obl.plain rfl ?_;intro ac wg K hsz hW hf hK;clear hsz;have e48:=hf 48 aj;simp[ak,xg] at e48;clear hf;obtain⟨va,vl,vc,e48,hrow⟩:=e48;exact jc
  refine' Gs.Grow.ar (.bool true) rfl ?_ ?_
  ·refine Obl.plain rfl ?_;intro ac wg K hsz hW hf hK;clear hsz;have e48:=hf 48 aj;simp[ak,xg] at e48;obtain⟨va,vl,vc,e48,-⟩:=e48;clear hf;exact bx
  refine Gs.Grow.step (o_ w3 62) rfl (o_.mono w3 62) ?_ ?_
  ·exact rL
  refine Gs.Grow.store rfl ?_ ?_
  ·refine Gs.iR.plain rfl ?_;intro ac wg K hsz hW hf hK;clear hsz;have e7:=hf 7 aj;simp[ak,xg] at e7;have e55:=hf 55 aj;simp[ak,xg] at e55;clear hf;obtain⟨g,c0,c1,c2,c3,c4,c5,c6,c7,e7,hgB,hgk⟩:=e7;obtain⟨va,vl,vc,e55,hrow⟩:=e55;have HGK:=aa hgk;have HRO:=aa hrow;obtain⟨g0,g1,g2,g3,g4,g5,g6,g7⟩:=cs8 hgk;have fg0:=aw hgk 0;have fg1:=aw hgk 1;have fg2:=aw hgk 2;have fg3:=aw hgk 3;have fg4:=aw hgk 4;have fg5:=aw hgk 5;have fg6:=aw hgk 6;have fg7:=aw hgk 7;have hgl:=ae hgk;have EP:=aa e7;exact uI
  refine Gs.Grow.done ?_;intro q wz hW hf hps;simp only[xH] at hf;obtain⟨-,h56,-,-,-,h53,h52,h51,h50,h49,-⟩:=hf;have hps2:PsV w3 w x (q 7) wz:=by simpa[aI,yx] using hps
  obtain⟨g,va,vl,vc,hv7,hgB,hrow,hblk⟩:=hps2;have HWZ:=aa hW;have HRO:=aa hrow;have HGV:=aa hblk;clear hps hrow hblk;intro K hK;rw[if_pos (by rfl)];simp only[aI,yo,yx,xx,xG,xK,h56,h53,h52,h51,h50,h49,hv7];simp only[yg];go_simp;refine hK _ _ ?_;refine hK0 _ _ ?_;clear hK hK0 K K0;obtain⟨BkZ,BrZ,HBZ,HYZ,HYBZ,HRZ,HROZ,hvk⟩:=tZ;have z0:(onV x ys).n.size<=9223372036854775807:=by have h1:=hvk.1.2.1;show x.n.size<=_;omega
  have z2:(onV x ys).z.size<=9223372036854775807:=by have h1:=hvk.2.2.1.2.1;show x.z.size<=_;omega
  have z3:(onV x ys).k.size<=9223372036854775807:=by have h1:=hvk.2.2.2.1.2.1;show x.k.size<=_;omega
  have z5:(onV x ys).m.size<=9223372036854775807:=by
   show x.m.size<=_;rcases hvk.2.2.2.2.1 with h1|h1
   ·rw[h1];decide
   ·have h2:=h1.2.1;omega
  have hn20:x.n.size<=20:=hvk.1.2.1;have HL3:Hid ((⟨#[111,110]⟩:ByteArray).size<=3):=(by decide:(⟨#[111,110]⟩:ByteArray).size<=3);have hvl:vl<=64:=by have h1:x.zs.length=vl:=HRO.1;have:=(HT.on HV0.out).1;omega
  have hzl:(ys).length<=7:=by have h1:=HPY.len;have:=(HT.on HV0.out).1;omega
  have HZ:=aa (xf z0 (xf z2 (xf z3 z5)));have hq1:w.heap.size+1<wz.heap.size:=ae BrZ.out;clear hvk z0 z2 z3 z5;go_wp2_with fail;rename_i K0 hK0;refine aB an rfl rfl an ?_;refine' Grow.ar _ rfl ?_ ?_;rotate_left 1
  ·exact qX
  refine' Grow.ar _ rfl ?_ ?_;rotate_left 1
  ·refine Obl.plain rfl ?_;intro ac wg K hsz hW hf hK;clear hsz;have e7:=hf 7 aj;simp[ak,xg] at e7;exact fK
  refine' Grow.ar _ rfl ?_ ?_;rotate_left 1
  ·exact qO
  refine' Grow.ar _ rfl ?_ ?_;rotate_left 1
  ·refine Obl.plain rfl ?_;intro ac wg K hsz hW hf hK;clear hsz;have e59:=hf 59 aj;simp[ak,xg] at e59;exact fK
  refine' Grow.ar _ rfl ?_ ?_;rotate_left 1
  ·exact qN
  refine' Grow.ar _ rfl ?_ ?_;rotate_left 1
  ·refine Obl.plain rfl ?_;intro ac wg K hsz hW hf hK;clear hsz;have e61:=hf 61 aj;simp[ak,xg] at e61;clear hf;exact bx
  refine' Grow.ar _ rfl ?_ ?_;rotate_left 1
  ·refine Obl.plain rfl ?_;intro ac wg K hsz hW hf hK;clear hsz;have e62:=hf 62 aj;simp[ak,xg] at e62;clear hf;exact bx
  refine' Grow.ar _ rfl ?_ ?_;rotate_left 1
  ·refine Obl.plain rfl ?_;intro ac wg K hsz hW hf hK;clear hsz;have e63:=hf 63 aj;simp[ak,xg] at e63;clear hf;have c7:=(ai hW HYBZ.out).trans HYZ.out;exact bx
  refine Grow.step (TxW (ys)) rfl (TxW.mono _) ?_ ?_
  ·refine Obl.plain rfl ?_;intro ac wg K hsz hW hf hK;clear hsz;have e60:=hf 60 aj;simp[ak,xg] at e60;have e64:=hf 64 aj;simp[ak,xg] at e64;clear hf;go_simp;refine (oM va vl vc x.zs y.d _ (HROZ.below hW) (ew (HT.on HV0.out).2) hvl HZD.out).mono ?_;rintro e w6 ⟨ta,tl,tc,ys9,rfl,htx,hput,hb6⟩;have hrt:=ew (HT.on HV0.out).2;obtain rfl:ys9=ys:=RT.ext (hput.tv hrt) (HPY.tv hrt) fun s=>by rw[hput.mem,HPY.mem]
   exact hK _ _ hb6 ⟨ta,tl,tc,rfl,htx⟩
  refine Grow.step (o8 wz (dF c i (onV x (ys)))) rfl (o8.mono _ _) ?_ ?_
  ·refine Obl.plain rfl ?_;intro ac wg K hsz hW hf hK;clear hsz;have e57:=hf 57 aj;simp[ak,xg] at e57;have e58:=hf 58 aj;simp[ak,xg] at e58;have e65:=hf 65 aj;simp[ak,xg] at e65;clear hf;obtain⟨ta,tl,tc,e65,htx⟩:=e65;go_simp;have htl:tl<=8001:=by have h1:(ys).length=tl:=htx.1;omega
   refine (kZ d c (onV x (ys)) va vl vc ta tl tc _ (HRZ.below hW) HT.sm htx htl HZ.1 HZ.2.1 HZ.2.2.1 HZ.2.2.2).mono ?_;exact um
  refine' Grow.ar _ rfl ?_ ?_;rotate_left 1
  ·exact qO
  refine' Grow.ar _ rfl ?_ ?_;rotate_left 1
  ·refine Obl.plain rfl ?_;intro ac wg K hsz hW hf hK;clear hsz;have e67:=hf 67 aj;simp[ak,xg] at e67;exact fK
  refine Grow.step (iT ⟨#[111,110]⟩ x.n) rfl (iT.mono _ _) ?_ ?_
  ·refine Obl.plain rfl ?_;intro ac wg K hsz hW hf hK;clear hsz;have e68:=hf 68 aj;simp[ak,xg] at e68;clear hf;go_simp;exact hK _ _ (al _ _) ⟨_,rfl,xt⟩
  refine' Grow.ar (.string (wOn++x.n)) rfl ?_ ?_
  ·refine Obl.plain rfl ?_;intro ac wg K hsz hW hf hK;clear hsz;have e69:=hf 69 aj;simp[ak,xg] at e69;obtain⟨lb,e69,hlb⟩:=e69;clear hf;go_simp;refine (gE lb 0 2 [⟨#[111,110]⟩,x.n] 2 _ (fun j z hz=>by
    rw[xL,aD hlb]
    rcases j with _|_|j
    ·cases hz;rfl
    ·cases hz;rfl
    ·simp at hz) (ae hlb) rfl aj (xk _) (by rw[gD];have h9:=HL3.out;omega)).mono ?_
   rintro e w6 ⟨rfl,hb6⟩;refine hK _ _ hb6 ?_;rw[ph]
  refine Grow.step (pd wz (dF c i (onV x (ys))) (wOn++x.n)) rfl (pd.mono _ _ _) ?_ ?_
  ·refine Obl.plain rfl ?_;intro ac wg K hsz hW hf hK;clear hsz;have e66:=hf 66 aj;simp[ak,xg] at e66;have e70:=hf 70 aj;simp[ak,xg] at e70;clear hf;obtain⟨d',e66,ho⟩:=e66;go_simp;exact hK _ _ (xj _ _) ⟨d',rfl,ho⟩
  refine Grow.done ?_;intro q wy hW hf;simp only[xH] at hf;obtain⟨h71,h70,-,h68,h67,-,-,h64,h63,h62,h61,h60,h59,h58,h57,-⟩:=hf;obtain⟨d',hv9,ho⟩:=h71;have HO:=aa ho;have HWY:=aa hW;have Br6:=upK BrZ hW;obtain⟨r0,r1,r2,r3,r4,r5,r6,r7⟩:=cs8 Br6;obtain⟨fr0,fr1,fr2,fr3,fr4,fr5,fr6,fr7⟩:=nG;have hrl:=ae Br6.out;clear ho;intro K hK;rw[if_pos (by rfl)];simp only[aI,yo,yx,xx,xG,xK,h70,h68,h67,h64,h63,h62,h61,h60,h59,h58,h57,hv9];simp only[yg];go_simp;refine hK _ _ ?_;refine hK0 _ _ ?_;clear hK hK0 K K0;have HV:Hid (cZ c ⟨dF c i (onV x (ys)),wOn++x.n,0⟩):=.inr (.inr ⟨HT.out,HNX.out,ws,HES.out,.inl ⟨y,i,x,ys,HY0.out,HV0.out,HVN.out,HPY.out,rfl⟩⟩);go_wp2;refine bodyPost_ret (v:=.agg #[.slice d'.a1 d'.l1 d'.c1,.slice d'.a2 d'.l2 d'.c2,.slice d'.a3 d'.l3 d'.c3,.slice d'.a4 d'.l4 d'.c4,.slice d'.a5 d'.l5 d'.c5,.int .i64 c.now,.string (wOn++x.n),.int .i64 0]) (by simp[results,Tryz.results7,go_sem, *];rfl) rfl ⟨d',⟨dF c i (onV x (ys)),wOn++x.n,0⟩,rfl,HV.out,?_,sb1 (sb1 (sb1 (sb1 (sb1 (sb1 (sb1 (sb1 (HBZ.trans (HWY.mono HBZ.size)))))))))⟩;obtain⟨P,hP⟩:=HO.out;exact⟨P,hP.aN (w':=((((((((wy.setCell ⟨w.heap.size+1,0,none⟩ (.slice d'.a1 d'.l1 d'.c1)).setCell ⟨w.heap.size+1,1,none⟩ (.slice d'.a2 d'.l2 d'.c2)).setCell ⟨w.heap.size+1,2,none⟩ (.slice d'.a3 d'.l3 d'.c3)).setCell ⟨w.heap.size+1,3,none⟩ (.slice d'.a4 d'.l4 d'.c4)).setCell ⟨w.heap.size+1,4,none⟩ (.slice d'.a5 d'.l5 d'.c5)).setCell ⟨w.heap.size+1,5,none⟩ (.int .i64 c.now)).setCell ⟨w.heap.size+1,6,none⟩ (.string (wOn++x.n))).setCell ⟨w.heap.size+1,7,none⟩ (.int .i64 0))) (fun k hk s=>by have s1:wz.heap.size<=k:=s;rw[xi _ _ _ _ (show k≠w.heap.size+1 by omega),xi _ _ _ _ (show k≠w.heap.size+1 by omega),xi _ _ _ _ (show k≠w.heap.size+1 by omega),xi _ _ _ _ (show k≠w.heap.size+1 by omega),xi _ _ _ _ (show k≠w.heap.size+1 by omega),xi _ _ _ _ (show k≠w.heap.size+1 by omega),xi _ _ _ _ (show k≠w.heap.size+1 by omega),xi _ _ _ _ (show k≠w.heap.size+1 by omega)]) (fun k _ s=>by have s1:wz.heap.size<=k:=s;show w.heap.size<=k;omega)⟩
 have hfi:¬(0:Int)<fl:=af
 have HV:Hid (cZ c (co0 (fR 2))):=.inr (.inr ⟨HT.out,HNX.out,ws,HES.out,.inr ⟨xN af,rfl⟩⟩);obtain⟨cc,hcc⟩:∃cc,cc=fR 2:=⟨_,rfl⟩;rw[<-hcc] at HV;have ev:=(HE.below HB.out).v2;have evl:=bG ev;obtain⟨k0,k1,k2,k3,k4,k5⟩:=cs6 Bk;have ltk_3:=ae Bk.out;go_wp2_with fail;refine (fV E 2 cc hcc _ (HE.below HB.out) (by first|decide|omega)).mono ?_;rintro e w4 ⟨rfl,hb⟩;clear k0 k1 k2 k3 k4 k5 ltk_3;replace Bk:=upK Bk hb;replace Br:=upK Br hb;replace HB:=upB HB hb;clear hb;clear hcc;obtain⟨r0,r1,r2,r3,r4,r5,r6,r7⟩:=cs8 Br;have ltr_4:=ae Br.out;obtain⟨fr0,fr1,fr2,fr3,fr4,fr5⟩:=iC;have fr6:=aw Br.out 6;have fr7:=aw Br.out 7;have hrl:w.heap.size+1<w4.heap.size:=ae Br.out;exact qE

def tm (B:Nat):Fact:=fun v w=> ∃b,v=.pointer (some ⟨b,0,none⟩)/\B<=b/\w.heap[b]?=some (.cells #[.string ⟨#[]⟩,.string ⟨#[]⟩] 58 (0,0))
theorem tm.mono (B:Nat):Fact.bw (tm B):=by
 exact kD
theorem g_ {x:ByteArray} (h:bc x):¬x=⟨#[]⟩:=fun e=>by
 rw[e] at h;have h8:=h.1;revert h8;decide
theorem pn {c:Cl} (hT:a8 c) {k:Nat} {v:Vd} {t:ByteArray} (hj:c.vs[k]?=some v) (ht:¬t=⟨#[]⟩):Wn c c.ps.length ⟨v.n,t⟩↔Wnt c v t:=by
 have hv:=hT.2.1.2.2.1.2.2;constructor
 ·rintro⟨j,p,_,hp,hd,i,s,v',hs,⟨i1,jv,x,h1,h2,h3,h4⟩,e⟩;obtain⟨e1,e2⟩:=Qd.mk.inj e;obtain⟨-,rfl⟩:=hv.inj hj h3 e1;have hne:¬x.v=⟨#[]⟩:=by rw[<-h4];exact g_ (hT.2.1.2.2.1.2.1 _ v hj).1
  obtain⟨i',j',x',v',k1,k2,k3,k4,k5,k6,_⟩:=(hT.2.2.1.2 i1 x h1).2.resolve_left hne;obtain⟨_,rfl⟩:=hv.inj k3 hj (k4.trans h4.symm);refine⟨j,p,hp,e2.symm,i,?_⟩;rw[hs,k6,h2]
 ·rintro⟨j,p,hp,hd,i,hk⟩;have hz:=(hT.2.1.2.2.2.2.2.1 j p hp).2.2.2.1.2;have hne:¬v.m=⟨#[]⟩:=g_ (hz i v.m hk).1;obtain⟨i',j',x',v',k1,k2,k3,k4,k5,k6,_⟩:=(hT.2.2.1.1 k v hj).2.resolve_left hne;exact⟨j,p,(xe.1 hp).1,hp,by rw[hd];exact ht,i,v.m,v,hk,⟨i',k,x',k1,k2,hj,k5.symm⟩,by rw[hd]⟩

theorem pL (d:Ad) (c:Cl) (w:World) (hr:aK w d c.raw) (hT:a8 c):
  Calls Tryz.prog 21 #[.agg #[.slice d.a1 d.l1 d.c1,.slice d.a2 d.l2 d.c2,.slice d.a3 d.l3 d.c3,.slice d.a4 d.l4 d.c4,.slice d.a5 d.l5 d.c5,.int .i64 c.now]] w (sC c (w.heap.size+1) w):=by
 obtain⟨a1,l1,y1,a2,l2,y2,a3,l3,y3,a4,l4,y4,a5,l5,y5⟩:=d;dsimp only;obtain⟨HR,hl3⟩:=kr;have hm3:l3<=9223372036854775807:=xp hr.v.2.1 hr.v.2.2.1;clear hr;have HT:=aa hT;clear hT;have HB:=aa (xj w.heap.size w);have h58:c.vs.length<=8:=by have:=HT.sm.v;omega
 go_enter Tryz.func21,Tryz.ntmps21;go_wp2_with fail;refine (jT ⟨a1,l1,y1,a2,l2,y2,a3,l3,y3,a4,l4,y4,a5,l5,y5⟩ c _ (HR.below (HB.trans ((al _ _).mono HB.size))) HT.out).mono ?_;rintro e w0 ⟨wa,wl,wc,zw,rfl,how,hrw,hmw,hlw,hb⟩;obtain⟨HA0,hbx⟩:=aH hb;have Bk:=aa HA0;replace HB:=upB HB hbx;clear hb hbx HA0;have HOW:=aa how.row;have HMW:=aa hmw;clear how hrw hmw hlw;obtain⟨k0,k1,k2,k3,k4,k5⟩:=cs6 Bk;go_wp2;clear k0 k1 k2 k3 k4 k5;have hs0:w.heap.size<w0.heap.size:=ae Bk.out;go_loopw [4,5] (fun vo vi wr=> ∃(k:Nat) (ca:Option Addr) (cl cc:Nat) (ys:List Qd),k<=l3/\vi=.int .i64 k/\vo=.slice ca cl cc/\Hid (az wr ca cl cc 2 58 (ys.map qdF) (fun j=>w.heap.size+1<=j)/\RQ ys/\(∀q,q∈ys↔Xn c k q)/\ys.length<=8*k)/\Hid (Below w0.heap.size w0 wr)) (fun _ vi _=>l3 - (intOf vi).toNat);case atStart=>exact⟨0,_,0,0,[],by omega,rfl,rfl,⟨⟨rfl,xk _,by omega,.inl rfl⟩,List.Pairwise.nil,fun q=>⟨fun h=>by simp at h,fun ⟨j,p,h,_⟩=>by omega⟩,by simp⟩,al _ _⟩
 case round=>
  obtain⟨k,ca,cl,cc,ys,hk,rfl,rfl,HQ,HL⟩:=hrel;replace Bk:=aa ((HL.block w.heap.size hs0).trans Bk.out);replace HB:=aa (HB.trans (HL.mono HB.size));replace HOW:=aa (HOW.below HL.out);have hLs:=HL.size;by_cases hlt:k<l3
  ·obtain⟨b,o,x,rfl,hb,hx,hat⟩:=bq (HR.v.below HB.out) hlt;obtain⟨va,vl,vc,hvr,z0,z2,z3,z5,c0,c1,c2,c3,c4,c5,c6,c7⟩:=aE hat;have HXx:=aa hx;have HTx:=aa hvr;have HZx0:=aa z0;clear hat hx z0 z2 z3 z5 hvr;have hbw:=hb;clear hb;have hk1:(k:Int)<l3:=af
   obtain⟨W1,hW1⟩:∃W1,W1=wr:=⟨_,rfl⟩;subst hW1;have hxz:x.zs.length=vl:=HTx.1;have hv3:vl<=8:=by have h9:=(dD (HT.2.1.2.2.1.2.1 k x HXx.out).2.2.2.2.2.2).1;omega
   have hyb:=HQ.2.2.2;obtain⟨k0,k1,k2,k3,k4,k5⟩:=cs6 Bk;go_wp2;clear k0 k1 k2 k3 k4 k5;clear c0 c1 c2 c3 c4 c5 c6 c7 hbw;go_loopw [4,7] (fun vo vi wr=> ∃(n:Nat) (ca:Option Addr) (cl cc:Nat) (ys:List Qd),n<=vl/\vi=.int .i64 n/\vo=.slice ca cl cc/\Hid (az wr ca cl cc 2 58 (ys.map qdF) (fun j=>w.heap.size+1<=j)/\RQ ys/\(∀q,q∈ys↔Xn c k q\/Xc c x n q)/\ys.length<=8*k+n)/\Hid (Below (W1.heap.size+1) (W1.alloc (.cells #[.string x.n,.int .i64 x.c,.string x.z,.string x.k,.bool x.x,.string x.m,.bool x.y,.slice va vl vc] 62)) wr)) (fun _ vi _=>vl - (intOf vi).toNat);case atStart=>exact⟨0,_,_,_,ys,by omega,rfl,rfl,⟨HQ.1.below (al _ _),HQ.2.1,fun q=>by rw[HQ.2.2.1];exact⟨.inl,fun h=>h.elim id (fun ⟨i,t,h,_⟩=>by omega)⟩,by omega⟩,xj _ _⟩
   case round=>
    clear HQ hyb;obtain⟨n,ca,cl,cc,ys,hn,rfl,rfl,HQ,HL2⟩:=hrel;obtain⟨hbP,Bp⟩:=tM;replace Bk:=upK Bk hbP;replace HB:=upB HB hbP;replace HOW:=aa (HOW.below hbP);have HBP:=aa hbP;obtain⟨hs3,hyl,hyb⟩:=qb;clear hbP;by_cases hlt2:n<vl
    ·have hk3:(n:Int)<vl:=af
     obtain⟨b2,o2,t,rfl,hb2,hx2,hc2,hsz2⟩:=(HTx.below HBP.out).at hlt2;have HXT:=aa hx2;obtain⟨j,nd,hj,hjn,-⟩:=HT.2.2.2.2.1.1 k x HXx.out n t hx2;have HTN:Hid (¬t=⟨#[]⟩):=by rw[<-hjn];exact g_ (HT.2.1.1.2.1 j nd hj).1
     have HJ:=aa hj;have HJN:=aa hjn;have HZT:=aa hsz2;have HTC:=aa (xf hb2 hc2);clear hj hjn hx2 hsz2 hb2 hc2;obtain⟨k0,k1,k2,k3,k4,k5⟩:=cs6 Bk;obtain⟨p0,p1,p2,p3,p4,p5,p6,p7⟩:=cs8 Bp;go_wp2_with fail;clear k0 k1 k2 k3 k4 k5 p0 p1 p2 p3 p4 p5 p6 p7;rename_i K0 hK0;refine aB an rfl rfl an ?_;refine Grow.bf ?_;refine Grow.bT Bp.out ?_;refine Grow.bf ?_;refine Grow.bT Bp.out ?_;iterate 2 refine Grow.bf ?_
     refine' Grow.ar _ rfl ?_ ?_;rotate_left 1
     ·refine Obl.plain rfl ?_;intro ac wg K hsz hW hf hK;clear hsz;have e36:=hf 36 aj;simp[ak,xg] at e36;clear hf;have tc:=(ai hW HTC.1).trans HTC.2;exact bx
     refine Grow.bf ?_;refine Grow.step (tm wr.heap.size) rfl (tm.mono _) ?_ ?_
     ·exact gO
     refine Grow.done ?_;intro q w5 hW hf;simp only[xH] at hf;obtain⟨⟨b9,h8,hb9,hg9⟩,h38,-⟩:=hf;have g0:=hg9;have g1:(w5.setCell ⟨b9,0,none⟩ (.string x.n)).heap[b9]?=some (.cells #[.string x.n,.string ⟨#[]⟩] 58 (0,0)):=au g0 _;have g2:((w5.setCell ⟨b9,0,none⟩ (.string x.n)).setCell ⟨b9,1,none⟩ (.string t)).heap[b9]?=some (.cells #[.string x.n,.string t] 58 (0,0)):=au g1 _;obtain⟨t0,t1⟩:=cs2 hg9;have f0:=aw hg9 0;have f1:=aw hg9 1;have Bx:=aa g2;have HWX:Hid (Below wr.heap.size wr ((w5.setCell ⟨b9,0,none⟩ (.string x.n)).setCell ⟨b9,1,none⟩ (.string t))):=ah hb9 (ah hb9 (hW));clear g0 g1 g2 hg9;intro K hK;rw[if_pos (by rfl)];simp only[aI,yo,yx,xx,xG,xK,h8,h38];simp only[yg];go_simp;refine hK _ _ ?_;refine hK0 _ _ ?_;clear hK hK0 K K0;generalize ((w5.setCell ⟨b9,0,none⟩ (.string x.n)).setCell ⟨b9,1,none⟩ (.string t))=X3 at Bx HWX ⊢;clear t0 t1 f0 f1 hW h8 h38;have HY2:Hid (Bw wr X3):=Bw.below (Bw.refl wr) HWX.out;replace HB:=aa (HB.trans (HWX.mono HB.size));replace HOW:=aa (HOW.below HWX.out);replace Bk:=aa ((HWX.block _ (ae Bk.out)).trans Bk.out);replace Bp:=aa ((HWX.block _ (ae Bp.out)).trans Bp.out);clear HWX;obtain⟨k0,k1,k2,k3,k4,k5⟩:=cs6 Bk;obtain⟨p0,p1,p2,p3,p4,p5,p6,p7⟩:=cs8 Bp;obtain⟨x0,x1⟩:=cs2 Bx;go_wp2_with fail;refine (oz wa wl wc zw ⟨x.n,t⟩ _ HOW.out).mono ?_;rintro e w2 ⟨r,rfl,hi,hb3⟩;clear k0 k1 k2 k3 k4 k5 p0 p1 p2 p3 p4 p5 p6 p7 x0 x1;replace Bk:=upK Bk hb3;replace Bp:=upK Bp hb3;replace Bx:=upK Bx hb3;replace HY2:=aa (HY2.below hb3);replace HOW:=aa (HOW.below hb3);replace HB:=upB HB hb3;clear hb3;have HI:=aa hi;clear hi;cases r;rotate_left
     ·obtain⟨k0,k1,k2,k3,k4,k5⟩:=cs6 Bk;obtain⟨p0,p1,p2,p3,p4,p5,p6,p7⟩:=cs8 Bp;obtain⟨x0,x1⟩:=cs2 Bx;go_wp2;refine⟨⟨n+1,ca,cl,cc,ys,by omega,by go_num,rfl,⟨HQ.1.below HY2.out,HQ.2.1,fun q=>?_,by omega⟩,HL2.trans (HY2.out.mono hs3)⟩,by simp[intOf];omega⟩;rw[HQ.2.2.1,Xc.no HXT.out (fun h=>h.1 ((pn HT.out HXx.out HTN.out).1 ((HMW.out _).1 (HI.1 bA))))]
     have HNW:Hid (¬Wnt c x t):=fun h=>by have h9:=HI.2 ((HMW.out _).2 ((pn HT.out HXx.out HTN.out).2 h));cases h9
     clear HI;obtain⟨k0,k1,k2,k3,k4,k5⟩:=cs6 Bk;obtain⟨p0,p1,p2,p3,p4,p5,p6,p7⟩:=cs8 Bp;obtain⟨x0,x1⟩:=cs2 Bx;go_wp2_with fail;refine (pJ ⟨a1,l1,y1,a2,l2,y2,(some ⟨b,o,none⟩),l3,y3,a4,l4,y4,a5,l5,y5⟩ c ⟨x.n,t⟩ j nd _ (HR.below HB.out) HT.out HJ.out HJN.out).mono ?_;rintro e w3 ⟨r,rfl,hi,hb3⟩;clear k0 k1 k2 k3 k4 k5 p0 p1 p2 p3 p4 p5 p6 p7 x0 x1;replace Bk:=upK Bk hb3;replace Bp:=upK Bp hb3;replace Bx:=upK Bx hb3;replace HY2:=aa (HY2.below hb3);replace HOW:=aa (HOW.below hb3);replace HB:=upB HB hb3;clear hb3;have HI:=aa hi;clear hi;cases r
     ·obtain⟨k0,k1,k2,k3,k4,k5⟩:=cs6 Bk;have ltk_3:=ae Bk.out;obtain⟨p0,p1,p2,p3,p4,p5,p6,p7⟩:=cs8 Bp;obtain⟨x0,x1⟩:=cs2 Bx;exact uM
     have HMO:Hid (Mof c x t):=(Mof.iff HT.2.1.1.2.2 HJ.out HJN.out).2 (HI.1 bA);clear HI;obtain⟨k0,k1,k2,k3,k4,k5⟩:=cs6 Bk;have ltk_3:=ae Bk.out;obtain⟨p0,p1,p2,p3,p4,p5,p6,p7⟩:=cs8 Bp;obtain⟨x0,x1⟩:=cs2 Bx;go_wp2_with fail;refine (iu ca cl cc ys ⟨x.n,t⟩ (w.heap.size+1) _ (HQ.1.below HY2.out) (by have:=HY2.le;omega) af HZx0.out HZT.out).mono ?_;rintro e w4 ⟨sa,sl,sc,zs2,rfl,ho2,hp2,hb3⟩;clear k0 k1 k2 k3 k4 k5 ltk_3 p0 p1 p2 p3 p4 p5 p6 p7 x0 x1;replace Bk:=upK Bk hb3;replace Bp:=upK Bp hb3;replace Bx:=upK Bx hb3;replace HY2:=aa (HY2.below hb3);replace HOW:=aa (HOW.below hb3);replace HB:=upB HB hb3;clear hb3;have HP2:=aa hp2;have HO2:=aa ho2;clear hp2 ho2;obtain⟨k0,k1,k2,k3,k4,k5⟩:=cs6 Bk;obtain⟨p0,p1,p2,p3,p4,p5,p6,p7⟩:=cs8 Bp;obtain⟨x0,x1⟩:=cs2 Bx;exact qY
    have hk3:¬(n:Int)<vl:=af
    have hnv:n=vl:=af
    obtain⟨p0,p1,p2,p3,p4,p5,p6,p7⟩:=cs8 Bp;exact qC
  have hk1:¬(k:Int)<l3:=af
  have hkl:k=l3:=af
  obtain⟨k0,k1,k2,k3,k4,k5⟩:=cs6 Bk;exact qA

def tk (B:Nat):Fact:=fun v w=> ∃b,v=.pointer (some ⟨b,0,none⟩)/\B<=b/\w.heap[b]?=some (.cells #[.string ⟨#[]⟩,.int .i64 0,.string ⟨#[]⟩,.string ⟨#[]⟩,.bool false,.string ⟨#[]⟩,.bool false,.slice none 0 0] 62 (0,0))
theorem tk.mono (B:Nat):Fact.bw (tk B):=by
 exact kD

theorem pM (d:Ad) (c:Cl) (x:Qd) (i j:Nat) (v:Vd) (n:Nd) (w:World) (hr:aK w d c.raw) (hT:a8 c) (hv:c.vs[i]?=some v) (hvn:v.n=x.n) (hn:c.ns[j]?=some n) (hnn:n.n=x.d):
  Calls Tryz.prog 25 #[.agg #[.slice d.a1 d.l1 d.c1,.slice d.a2 d.l2 d.c2,.slice d.a3 d.l3 d.c3,.slice d.a4 d.l4 d.c4,.slice d.a5 d.l5 d.c5,.int .i64 c.now],.agg #[.string x.n,.string x.d]] w (aq (lq c v n) w):=by
 obtain⟨a1,l1,y1,a2,l2,y2,a3,l3,y3,a4,l4,y4,a5,l5,y5⟩:=d;dsimp only;obtain⟨HR,hl1,hm1,hl2,hm2,hl3,hm3,hl4,hm4,hl5,hm5⟩:=lP;clear hr;have HT:=aa hT;have HVI:=aa hv;have HVN:=aa hvn;have HN:=aa hn;have HNN:=aa hnn;have h8:c.vs.length<=8:=hT.sm.v;have hi1:i<l3:=by have:=(xe.1 hv).1;omega
 have hi2:(i:Int)<l3:=af
 have hi0:¬(i:Int)<0:=af
 have hj1:j<l1:=by have:=(xe.1 hn).1;omega
 have hj2:(j:Int)<l1:=af
 have hj0:¬(j:Int)<0:=af
 clear hT hn hnn hv hvn;have HB:=aa (xj w.heap.size w);obtain⟨b,o,y,rfl,hbl,hy,hat⟩:=bq HR.v hi1;rw[HVI.out] at hy;obtain rfl:=xh hy;obtain⟨va,vl,vc,hvr,-,-,-,-,d0,d1,d2,d3,d4,d5,d6,d7⟩:=aE hat;have HV:=aa hvr;have hvl:v.zs.length=vl:=hvr.1;clear hat hy hvr;obtain⟨b1,o1,y,rfl,hbn,hy,hat⟩:=bU HR.n hj1;rw[HN.out] at hy;obtain rfl:=xh hy;obtain⟨na,nl,nc,-,-,-,-,-,-,e3,-,-,-⟩:=aQ hat;clear hat hy;go_enter Tryz.func25,Tryz.ntmps25;go_wp2_with fail;obtain⟨W,hW0⟩:∃W,W=((w.alloc (.cells (clo6 (some ⟨b1,o1,none⟩) l1 y1 a2 l2 y2 (some ⟨b,o,none⟩) l3 y3 a4 l4 y4 a5 l5 y5 c.now) 36)).alloc (.cells #[.string x.n,.string x.d] 58)):=⟨_,rfl⟩;have Bk:Hid (W.heap[w.heap.size]?=some (.cells (clo6 (some ⟨b1,o1,none⟩) l1 y1 a2 l2 y2 (some ⟨b,o,none⟩) l3 y3 a4 l4 y4 a5 l5 y5 c.now) 36 (0,0))):=by rw[hW0];exact cL _ _ _
 obtain⟨Bx,HBW⟩:=tD;have HNC:=aa (xf d0 (xf d1 (xf d2 (xf d3 (xf d4 (xf d5 (xf d6 d7)))))));have HBL:=aa hbl;have HNS:=aa (xf hbn e3);rw[<-hW0];clear hW0 d0 d1 d2 d3 d4 d5 d6 d7 hbl hbn e3;rename_i K0 hK0;refine aB an rfl rfl an ?_;refine Grow.bf ?_;refine Grow.bT Bk.out ?_;refine Grow.bT Bk.out ?_;refine Grow.bf ?_;refine Grow.bT Bx.out ?_;refine' Grow.ar (.int .i64 i) rfl ?_ ?_
 ·refine Obl.plain rfl ?_;intro ac wg K hsz hW hf hK;clear hsz;have e8:=hf 8 aj;simp[ak,xg] at e8;have e10:=hf 10 aj;simp[ak,xg] at e10;clear hf;go_simp;refine (dY ⟨(some ⟨b1,o1,none⟩),l1,y1,a2,l2,y2,(some ⟨b,o,none⟩),l3,y3,a4,l4,y4,a5,l5,y5⟩ c.now c.vs x.n _ (HR.v.below (HBW.trans (hW.mono HBW.size))) HT.2.1.2.2.1.2.2 HVI.out HVN.out).mono ?_;rintro e w6 ⟨rfl,hb6⟩;exact hK _ _ hb6 rfl
 refine Grow.bf ?_;refine' Grow.ar _ rfl ?_ ?_;rotate_left 1
 ·refine Obl.plain rfl ?_;intro ac wg K hsz hW hf hK;clear hsz;have e12:=hf 12 aj;simp[ak,xg] at e12;clear hf;obtain⟨d0,d1,d2,d3,d4,d5,d6,d7⟩:=HNC.out;have hbg:=HBW.trans (hW.mono HBW.size);replace d0:=(ai hbg HBL.out).trans d0;replace d1:=(ai hbg HBL.out).trans d1;replace d2:=(ai hbg HBL.out).trans d2;replace d3:=(ai hbg HBL.out).trans d3;replace d4:=(ai hbg HBL.out).trans d4;replace d5:=(ai hbg HBL.out).trans d5;replace d6:=(ai hbg HBL.out).trans d6;replace d7:=(ai hbg HBL.out).trans d7;exact bx
 refine Grow.step (tk W.heap.size) rfl (tk.mono _) ?_ ?_
 ·exact gO
 refine Grow.done ?_;intro q wz hW hf;simp only[xH] at hf;obtain⟨⟨b9,h5,hb9,hg9⟩,h13,-⟩:=hf;have g0:=hg9;have g1:(wz.setCell ⟨b9,0,none⟩ (.string v.n)).heap[b9]?=some (.cells #[.string v.n,.int .i64 0,.string ⟨#[]⟩,.string ⟨#[]⟩,.bool false,.string ⟨#[]⟩,.bool false,.slice none 0 0] 62 (0,0)):=au g0 _;have g2:((wz.setCell ⟨b9,0,none⟩ (.string v.n)).setCell ⟨b9,1,none⟩ (.int .i64 v.c)).heap[b9]?=some (.cells #[.string v.n,.int .i64 v.c,.string ⟨#[]⟩,.string ⟨#[]⟩,.bool false,.string ⟨#[]⟩,.bool false,.slice none 0 0] 62 (0,0)):=au g1 _;have g3:(((wz.setCell ⟨b9,0,none⟩ (.string v.n)).setCell ⟨b9,1,none⟩ (.int .i64 v.c)).setCell ⟨b9,2,none⟩ (.string v.z)).heap[b9]?=some (.cells #[.string v.n,.int .i64 v.c,.string v.z,.string ⟨#[]⟩,.bool false,.string ⟨#[]⟩,.bool false,.slice none 0 0] 62 (0,0)):=au g2 _;have g4:((((wz.setCell ⟨b9,0,none⟩ (.string v.n)).setCell ⟨b9,1,none⟩ (.int .i64 v.c)).setCell ⟨b9,2,none⟩ (.string v.z)).setCell ⟨b9,3,none⟩ (.string v.k)).heap[b9]?=some (.cells #[.string v.n,.int .i64 v.c,.string v.z,.string v.k,.bool false,.string ⟨#[]⟩,.bool false,.slice none 0 0] 62 (0,0)):=au g3 _;have g5:(((((wz.setCell ⟨b9,0,none⟩ (.string v.n)).setCell ⟨b9,1,none⟩ (.int .i64 v.c)).setCell ⟨b9,2,none⟩ (.string v.z)).setCell ⟨b9,3,none⟩ (.string v.k)).setCell ⟨b9,4,none⟩ (.bool v.x)).heap[b9]?=some (.cells #[.string v.n,.int .i64 v.c,.string v.z,.string v.k,.bool v.x,.string ⟨#[]⟩,.bool false,.slice none 0 0] 62 (0,0)):=au g4 _;have g6:((((((wz.setCell ⟨b9,0,none⟩ (.string v.n)).setCell ⟨b9,1,none⟩ (.int .i64 v.c)).setCell ⟨b9,2,none⟩ (.string v.z)).setCell ⟨b9,3,none⟩ (.string v.k)).setCell ⟨b9,4,none⟩ (.bool v.x)).setCell ⟨b9,5,none⟩ (.string v.m)).heap[b9]?=some (.cells #[.string v.n,.int .i64 v.c,.string v.z,.string v.k,.bool v.x,.string v.m,.bool false,.slice none 0 0] 62 (0,0)):=au g5 _;have g7:(((((((wz.setCell ⟨b9,0,none⟩ (.string v.n)).setCell ⟨b9,1,none⟩ (.int .i64 v.c)).setCell ⟨b9,2,none⟩ (.string v.z)).setCell ⟨b9,3,none⟩ (.string v.k)).setCell ⟨b9,4,none⟩ (.bool v.x)).setCell ⟨b9,5,none⟩ (.string v.m)).setCell ⟨b9,6,none⟩ (.bool v.y)).heap[b9]?=some (.cells (vov v none 0 0) 62 (0,0)):=au g6 _;have g8:((((((((wz.setCell ⟨b9,0,none⟩ (.string v.n)).setCell ⟨b9,1,none⟩ (.int .i64 v.c)).setCell ⟨b9,2,none⟩ (.string v.z)).setCell ⟨b9,3,none⟩ (.string v.k)).setCell ⟨b9,4,none⟩ (.bool v.x)).setCell ⟨b9,5,none⟩ (.string v.m)).setCell ⟨b9,6,none⟩ (.bool v.y)).setCell ⟨b9,7,none⟩ (.slice va vl vc)).heap[b9]?=some (.cells (vov v va vl vc) 62 (0,0)):=au g7 _;obtain⟨t0,t1,t2,t3,t4,t5,t6,t7⟩:=cs8 hg9;have f0:=aw hg9 0;have f1:=aw hg9 1;have f2:=aw hg9 2;have f3:=aw hg9 3;have f4:=aw hg9 4;have f5:=aw hg9 5;have f6:=aw hg9 6;have f7:=aw hg9 7;have Bv:=aa g8;have HWX:Hid (Below W.heap.size W ((((((((wz.setCell ⟨b9,0,none⟩ (.string v.n)).setCell ⟨b9,1,none⟩ (.int .i64 v.c)).setCell ⟨b9,2,none⟩ (.string v.z)).setCell ⟨b9,3,none⟩ (.string v.k)).setCell ⟨b9,4,none⟩ (.bool v.x)).setCell ⟨b9,5,none⟩ (.string v.m)).setCell ⟨b9,6,none⟩ (.bool v.y)).setCell ⟨b9,7,none⟩ (.slice va vl vc))):=ah hb9 (ah hb9 (ah hb9 (ah hb9 (ah hb9 (ah hb9 (ah hb9 (ah hb9 (hW))))))))
 clear g0 g1 g2 g3 g4 g5 g6 g7 g8 hg9;intro K hK;rw[if_pos (by rfl)];simp only[aI,yo,yx,xx,xG,xK,h5,h13];simp only[yg];go_simp;refine hK _ _ ?_;refine hK0 _ _ ?_;clear hK hK0 K K0;generalize ((((((((wz.setCell ⟨b9,0,none⟩ (.string v.n)).setCell ⟨b9,1,none⟩ (.int .i64 v.c)).setCell ⟨b9,2,none⟩ (.string v.z)).setCell ⟨b9,3,none⟩ (.string v.k)).setCell ⟨b9,4,none⟩ (.bool v.x)).setCell ⟨b9,5,none⟩ (.string v.m)).setCell ⟨b9,6,none⟩ (.bool v.y)).setCell ⟨b9,7,none⟩ (.slice va vl vc))=X3 at Bv HWX ⊢;clear t0 f0 t1 f1 t2 f2 t3 f3 t4 f4 t5 f5 t6 f6 t7 f7;have HB3:=aa (HBW.trans (HWX.mono HBW.size));replace Bk:=aa ((HWX.block _ (ae Bk.out)).trans Bk.out);replace Bx:=aa ((HWX.block _ (ae Bx.out)).trans Bx.out);clear HB hW HWX HBW HNC HBL;have HB:=HB3;clear HB3;obtain⟨k0,k1,k2,k3,k4,k5⟩:=cs6 Bk;have ltk_0:=ae Bk.out;obtain⟨x0,x1⟩:=cs2 Bx;have ltx_0:=ae Bx.out;obtain⟨v0,v1,v2,v3,v4,v5,v6,v7⟩:=cs8 Bv;have ltv_0:=ae Bv.out;go_wp2_with fail;refine (ct va vl vc v.zs x.d _ (HV.below HB.out)).mono ?_;rintro e w3 ⟨r,rfl,hi,hb⟩;clear k0 k1 k2 k3 k4 k5 ltk_0 x0 x1 ltx_0 v0 v1 v2 v3 v4 v5 v6 v7 ltv_0;replace Bk:=upK Bk hb;replace Bx:=upK Bx hb;replace Bv:=upK Bv hb;replace HB:=upB HB hb;clear hb;have HI:=aa hi;clear hi;rw[<-HNN.out] at HI;cases r;rotate_left
 ·obtain⟨k0,k1,k2,k3,k4,k5⟩:=cs6 Bk;have ltk_1:=ae Bk.out;obtain⟨x0,x1⟩:=cs2 Bx;have ltx_1:=ae Bx.out;obtain⟨v0,v1,v2,v3,v4,v5,v6,v7⟩:=cs8 Bv;have ltv_1:=ae Bv.out;go_wp2;go_ret;exact aq.f (fun h=>h.1 (HI.1 bA)) HB.out
 have HNI:Hid (¬InL v.zs n.n):=fun h=>by have h9:=HI.2 h;cases h9
 clear HI;cases hx:v.x;rotate_left
 ·(try unfold vov at Bv);rw[hx] at Bv;have HX:=aa hx;clear hx;by_cases h0:0<vl
  ·have h1:(0:Int)<vl:=af
   obtain⟨k0,k1,k2,k3,k4,k5⟩:=cs6 Bk;have ltk_1:=ae Bk.out;obtain⟨x0,x1⟩:=cs2 Bx;have ltx_1:=ae Bx.out;obtain⟨v0,v1,v2,v3,v4,v5,v6,v7⟩:=cs8 Bv;have ltv_1:=ae Bv.out;go_wp2;go_ret;exact aq.f (fun h=>h.2.1 ⟨HX.out,by omega⟩) HB.out
  ·have h1:¬(0:Int)<vl:=af
   obtain⟨k0,k1,k2,k3,k4,k5⟩:=cs6 Bk;have ltk_1:=ae Bk.out;obtain⟨x0,x1⟩:=cs2 Bx;have ltx_1:=ae Bx.out;obtain⟨v0,v1,v2,v3,v4,v5,v6,v7⟩:=cs8 Bv;have ltv_1:=ae Bv.out;go_wp2_with fail;have hn9:=(ai HB.out HNS.1).trans HNS.2;clear k0 k1 k2 k3 k4 k5 ltk_1 x0 x1 ltx_1 v0 v1 v2 v3 v4 v5 v6 v7 ltv_1;have Gk:=Bk;have Gx:=Bx;have Gv:=Bv;have HW:=HB;obtain⟨k0,k1,k2,k3,k4,k5⟩:=sl6 Gk;obtain⟨x0,x1⟩:=sl2 Gx;obtain⟨v0,v1,v2,v3,v4,v5,v6,v7⟩:=sl8 Gv;obtain⟨ns,hne0,HC0,HC1⟩:=ui;go_wp2_with fail;refine ag an an ?_;repeat (go_big_quiet_step (first|(go_at_call 70;exact Calls.wide (HC0.out _))|(go_at_call 71;exact Calls.wide (HC1.out _))|fail))
   refine wpQuiet_nil ?_;rintro _ ⟨q1,rfl⟩;have HB2:=upB HW q1.b;have Ck:=upK Gk q1.b;have Cx:=upK Gx q1.b;have Cv:=upK Gv q1.b;clear hne0 HW HB HC0 HC1 k0 k1 k2 k3 k4 k5 x0 x1 v0 v1 v2 v3 v4 v5 v6 v7 ns Gk Gx Gv Bk Bx Bv;have HB:=HB2;clear HB2;have Bk:=Ck;clear Ck;have Bx:=Cx;clear Cx;have Bv:=Cv;clear Cv;go_wp2;go_ret;exact⟨_,rfl,by rw[HNN.symm];simp only[decide_eq_true_eq];exact⟨fun h=>⟨HNI.out,(fun h=>by omega),h⟩,fun h=>h.2.2⟩,HB.out⟩
 ·(try unfold vov at Bv);rw[hx] at Bv;have HX:=aa hx;clear hx;obtain⟨k0,k1,k2,k3,k4,k5⟩:=cs6 Bk;have ltk_1:=ae Bk.out;obtain⟨x0,x1⟩:=cs2 Bx;have ltx_1:=ae Bx.out;obtain⟨v0,v1,v2,v3,v4,v5,v6,v7⟩:=cs8 Bv;have ltv_1:=ae Bv.out;go_wp2_with fail;have hn9:=(ai HB.out HNS.1).trans HNS.2;clear k0 k1 k2 k3 k4 k5 ltk_1 x0 x1 ltx_1 v0 v1 v2 v3 v4 v5 v6 v7 ltv_1;have Gk:=Bk;have Gx:=Bx;have Gv:=Bv;have HW:=HB;obtain⟨k0,k1,k2,k3,k4,k5⟩:=sl6 Gk;obtain⟨x0,x1⟩:=sl2 Gx;obtain⟨v0,v1,v2,v3,v4,v5,v6,v7⟩:=sl8 Gv;obtain⟨ns,hne0,HC0,HC1⟩:=ui;go_wp2_with fail;refine ag an an ?_;repeat (go_big_quiet_step (first|(go_at_call 70;exact Calls.wide (HC0.out _))|(go_at_call 71;exact Calls.wide (HC1.out _))|fail))
  refine wpQuiet_nil ?_;rintro _ ⟨q1,rfl⟩;have HB2:=upB HW q1.b;have Ck:=upK Gk q1.b;have Cx:=upK Gx q1.b;have Cv:=upK Gv q1.b;clear hne0 HW HB HC0 HC1 k0 k1 k2 k3 k4 k5 x0 x1 v0 v1 v2 v3 v4 v5 v6 v7 ns Gk Gx Gv Bk Bx Bv;have HB:=HB2;clear HB2;have Bk:=Ck;clear Ck;have Bx:=Cx;clear Cx;have Bv:=Cv;clear Cv;go_wp2;go_ret;exact⟨_,rfl,by rw[HNN.symm];simp only[decide_eq_true_eq];exact⟨fun h=>⟨HNI.out,(fun h=>by have h9:=h.1;rw[HX.out] at h9;cases h9),h⟩,fun h=>h.2.2⟩,HB.out⟩

theorem sI {w:World} {a:Option Addr} {len cap:Nat} {zs:List ByteArray} {t:ByteArray} (h:av w a len cap zs) (j:Nat) (z:ByteArray) (hz:(wo (fun s:ByteArray=>s) t zs)[j]?=some z):z.size<=9223372036854775807:=by
 have hm:=xD hz;obtain⟨i,hi⟩:=xS ((List.mem_filter.1 hm).1);obtain⟨b,o,y,-,-,hy,-,hs⟩:=h.at (k:=i) (by have:=(xe.1 hi).1;have:=h.1;omega);rw[hi] at hy;cases hy;exact hs

theorem pI (a:Option Addr) (len cap:Nat) (zs:List ByteArray) (t:ByteArray) (w:World) (hr:av w a len cap zs) (hl:len<=64):
  Calls Tryz.prog 23 #[.slice a len cap,.string t] w fun e w'=> ∃a' l' c',e=.returned (.slice a' l' c')/\bK w' a' l' c' (wo (fun s:ByteArray=>s) t zs) (fun k=>w.heap.size<=k)/\Below w.heap.size w w':=by
 have HR:=aa hr;have hzl:zs.length=len:=hr.1;have HB:=aa (xj w.heap.size w);obtain⟨i0,hi,hz0,hz1,hz2⟩:=info_parts dt;have HI0:=aa (xf hi (xf hz0 (xf hz1 hz2)));clear hi hz0 hz1 hz2 hr;go_enter Tryz.func23,Tryz.ntmps23;go_wp2;go_loopw [5,6] (fun vo vi wr=> ∃k n:Nat,k<=len/\n<=k/\vi=.int .i64 k/\Hid (wr.ownsRow w.heap.size 9 1 vo n ((wo (fun s:ByteArray=>s) t (zs.take k)).map xo))/\Hid (Below w.heap.size w wr)) (fun _ vi _=>len - (intOf vi).toNat);case atStart=>exact⟨0,0,by omega,by omega,rfl,⟨rfl,.inr ⟨w.heap.size,0,#[],rfl,xk _,heap_alloc_new _ _,xk _,by unfold maxLen;omega,rfl,rfl⟩⟩,al _ _⟩
 case round=>
  obtain⟨k,n,hk,hn,rfl,HO,HB⟩:=hrel;have hBs:=HB.size;by_cases hlt:k<len
  ·have hk1:(k:Int)<len:=af
   obtain⟨b2,o2,s,rfl,hb2,hx2,hc2,hsz2⟩:=(HR.below HB.out).at hlt;have HXT:=aa hx2;clear hx2 hsz2;by_cases he:s=t
   ·have hq:(s.toList==t.toList)=true:=by rw[he];simp
    have HO3:=HO;rw[<-tq (nm:=fun s:ByteArray=>s) HXT.out hq] at HO3;clear he;go_wp2;exact⟨⟨k+1,n,by omega,by omega,by go_num,HO3,HB⟩,by simp[intOf];omega⟩
   ·have hq:(s.toList==t.toList)=false:=by cases h:(s.toList==t.toList);rfl;exact absurd (dw h) he
    clear he;go_wp2_with (first|(at_builtin;refine wpList_append_own _ rfl _ _ 59 rfl w.heap.size 9 i0 (.string ⟨#[]⟩) 1 16 Tryz.underlying59 HI0.1 HI0.2.1 HI0.2.2.1 HI0.2.2.2 rfl aj _ _ _ rfl (HO.alloc _) ⟨wr.heap.size,0,none⟩ 1 1 [.string s] rfl rfl ?c1 ?c2 ?c3 ?c4 ?c5 ?_));case c1=>
     intro j u hu;cases j with
     | zero=>
      simp only[List.getElem?_cons_zero,ym] at hu;subst hu;rw[xB];exact aD (heap_alloc_new _ _) 0
     | succ j=>simp at hu
    case c2=>intro u hu;rw[List.mem_singleton.1 hu];rfl
    case c3=>unfold maxLen;omega
    case c4=>omega
    case c5=>simp;omega
    rintro v' w3 hown3 hgrow -;have HO3:Hid (w3.ownsRow w.heap.size 9 1 v' (n+1) ((wo (fun s:ByteArray=>s) t (zs.take (k+1))).map xo)):=by
     show World.ownsRow _ _ _ _ _ _ _;rw[lv (nm:=fun s:ByteArray=>s) HXT.out hq,List.map_append];exact hown3
    have HB3:=aa ((HB.trans ((al _ _).mono hBs)).grown hgrow bX (fun g hg=>by have:=(HO.lt g hg).1;omega));clear hown3 hgrow;go_wp2;exact⟨⟨k+1,n+1,by omega,by omega,by go_num,HO3,HB3⟩,by simp[intOf];omega⟩
  ·have hkl:k=len:=af
   have hk1:¬(k:Int)<len:=af
   have HO3:=HO;rw[xw af] at HO3;obtain⟨a',p',rfl,hT⟩:=bK.gZ HO3.out (sI HR.out);have HTO:=aa hT;clear HO3 hT HO;go_wp2;go_ret;exact⟨_,_,_,rfl,HTO.out,HB.out⟩

def tf (t:ByteArray) (zs:List ByteArray) (w:World) (e:Ending) (w':World):Prop:=∃a' l' c' zs',e=.returned (.slice a' l' c')/\av w' a' l' c' zs'/\Put t zs zs'/\(t∈zs\/bK w' a' l' c' zs' (fun k=>w.heap.size<=k))/\Below w.heap.size w w'

theorem oy (a:Option Addr) (len cap:Nat) (zs:List ByteArray) (t:ByteArray) (w:World) (hr:av w a len cap zs) (hl:len<=64) (ht:t.size<=9223372036854775807):
  Calls Tryz.prog 26 #[.slice a len cap,.string t] w (tf t zs w):=by
 have HR:=aa hr;obtain⟨hlc,hcm⟩:=kj;have hzl:zs.length=len:=hr.1;obtain⟨i0,hi,hz0,hz1,hz2⟩:=info_parts dt;have HI0:=aa (xf hi (xf hz0 (xf hz1 hz2)));clear hi hz0 hz1 hz2;have HC:Hid (∀(j:Nat) u,(zs.map xo)[j]?=some u->∃g o9,a=some ⟨g,o9,none⟩/\g<w.heap.size/\w.cell? ⟨g,o9+j,none⟩=some u):=fun j u hu=>by
  rw[xq,xu] at hu;obtain⟨z,hz,rfl⟩:=hu;obtain⟨b,o,x,rfl,hb,hx,hc,hsz⟩:=hr.at (k:=j) ch;rw[hz] at hx;cases hx;exact⟨b,o,rfl,hb,hc⟩
 have HZS:Hid (∀(k j:Nat) z,(zs.take k++[t]++zs.drop k)[j]?=some z->z.size<=9223372036854775807):=fun k j z hz=>by
  have h1:=xD hz;simp only[List.mem_append,List.mem_singleton] at h1;rcases h1 with (h1|rfl)|h1
  ·obtain⟨i,hi⟩:=xS (List.mem_of_mem_take h1);exact hr.2.2.2.1 i z hi
  ·exact ht
  ·obtain⟨i,hi⟩:=xS (ze h1);exact hr.2.2.2.1 i z hi
 have HON:Hid (∀(l:List ByteArray) u,u∈l.map xo->u.oneCell'=true):=fun l u hu=>by obtain⟨z,_,rfl⟩:=List.mem_map.1 hu;rfl
 have HW:Hid (Below w.heap.size w w):=xj _ _;clear hr;go_enter Tryz.func26,Tryz.ntmps26;go_wp2;go_loop [5] (fun i=> ∃k:Nat,k<=len/\i=.int .i64 k/\Hid (∀(j:Nat) y,j<k->zs[j]?=some y->xn y.toList t.toList=true)) (fun i=>len - (intOf i).toNat);case atStart=>exact⟨0,by omega,rfl,fun j y hj=>by omega⟩
 case round=>
  obtain⟨k,hk,rfl,HE⟩:=hrel;by_cases hlt:k<len
  ·obtain⟨b,o,x,rfl,hb,hx,hc,hsz⟩:=HR.at hlt;have HX:=aa hx;clear hx hsz;have hk1:(k:Int)<len:=af
   cases hless:xn x.toList t.toList
   ·by_cases he:x=t
    ·have HM:Hid (t∈zs):=he ▸ xD HX.out;have HP:Hid (Put t zs zs):=.inl ⟨he ▸ xD HX.out,rfl⟩;have hq:=a_ he;clear he;go_wp2;go_ret;exact⟨_,_,_,_,rfl,HR.out,HP.out,.inl HM.out,HW.out⟩
    have HP:Hid (Put t zs (zs.take k++[t]++zs.drop k)):=.inr ⟨k,by omega,rfl,HE.out,fun y hy=>by rw[HX.out] at hy;cases hy;exact kW hless he⟩;have hq:=bL he;clear he;obtain⟨HOW,hik,hkn⟩:=tR;have hcap:¬cap=k:=af
    all_goals (
     go_wp2_with (first|(at_builtin;refine aR rfl _ _ 59 rfl w.heap.size 9 i0 (.string ⟨#[]⟩) 1 16 Tryz.underlying59 HI0.1 HI0.2.1 HI0.2.2.1 HI0.2.2.2 rfl aj _ _ _ rfl (HOW.out) _ k _ ((zs.take k).map xo) rfl kg (fun j u hu=>by rw[List.map_take] at hu;obtain⟨g9,o9,e,hgl,h3⟩:=HC.out j u (gG hu);cases e <;> exact⟨_,rfl,by simp only[xB];exact (ai (al w _) hgl).trans h3⟩) (HON.out _) bJ af aT ?_))
     intro v5 w5 hown5 hgr5
     replace hown5:w5.ownsRow w.heap.size 9 1 v5 k ((zs.take k).map xo):=ix
     have hb5:Below w.heap.size w w5:=(al w (.cells #[] 9)).grown hgr5 aT (fun g hg=>by simp[Value.ownBlock] at hg;omega);obtain⟨s1,s2,s3,rfl⟩:=aY hown5;have HO5:=aa hown5;have H5:=aa hb5;have hs5:=hb5.size;clear hown5 hgr5 hb5 HOW
     go_wp2_with (first|(at_builtin;refine aR rfl _ _ 59 rfl w.heap.size 9 i0 (.string ⟨#[]⟩) 1 16 Tryz.underlying59 HI0.1 HI0.2.1 HI0.2.2.1 HI0.2.2.2 rfl aj _ _ _ rfl (HO5.alloc _) _ 1 _ [.string t] rfl rfl (fun j u hu=>⟨_,rfl,by rw[xB,xL,aD (heap_alloc_new w5 _)];simpa using hu⟩) fX bJ af bX ?_))
     intro v6 w6 hown6 hgr6;have hb6:Below w.heap.size w w6:=(H5.alloc H5.size _).grown hgr6 bX (fun g hg=>(HO5.lt g hg).1);obtain⟨r1,r2,r3,rfl⟩:=aY hown6;have HO6:=aa hown6;have H6:=aa hb6;have hs6:=hb6.size;clear hown6 hgr6 hb6
     go_wp2_with (first|(at_builtin;refine aR rfl _ _ 59 rfl w.heap.size 9 i0 (.string ⟨#[]⟩) 1 16 Tryz.underlying59 HI0.1 HI0.2.1 HI0.2.2.1 HI0.2.2.2 rfl aj _ _ _ rfl (HO6.out) _ (len - k) _ ((zs.drop k).map xo) rfl kf (fun j u hu=>by first|(rw[xW af] at hu;simp at hu;done)|(rw[List.map_drop,xX] at hu;obtain⟨g9,o9,e,hgl,h3⟩:=HC.out _ u hu;cases e <;> exact⟨_,rfl,by simp only[xB,Nat.add_assoc];exact (ai H6.out hgl).trans h3⟩)) (HON.out _) bJ af af ?_))
     intro v7 w7 hown7 hgr7;have hb7:Below w.heap.size w w7:=H6.grown hgr7 af (fun g hg=>(HO6.lt g hg).1)
     replace hown7:w7.ownsRow w.heap.size 9 1 v7 (len+1) ((zs.take k++[t]++zs.drop k).map xo):=by
      have e9:k+1+(len - k)=len+1:=af
      try rw[e9] at hown7
      simpa using hown7
     obtain⟨a',p',rfl,hT⟩:=bK.gZ hown7 (HZS.out k);have HT7:=aa hT;have HB7:=aa hb7;clear hown7 hgr7 hb7 hT hik hkn
     go_wp2
     go_ret
     exact⟨_,_,_,_,rfl,HT7.row,HP.out,.inr HT7.out,HB7.out⟩)
   ·go_wp2;refine⟨⟨k+1,by omega,by go_num,fun j z hj hz=>?_⟩,by simp[intOf];omega⟩;by_cases e:j=k
    ·subst e;rw[HX.out] at hz;obtain rfl:=xh hz;exact hless
    ·exact HE.out j z af hz
  ·have hk1:¬(k:Int)<len:=af
   have HP:Hid (Put t zs (zs.take k++[t]++zs.drop k)):=.inr ⟨k,by omega,rfl,HE.out,fun y hy=>by have:=(xe.1 hy).1;omega⟩;obtain⟨HOW,hik,hkn⟩:=tR;rcases a with _|⟨b,o,sp⟩
   ·have hl0:len=0:=yj fun hne0=>by
     obtain⟨g9,o9,e,_⟩:=HC.out 0 _ (by rw[xq,xm (show 0<zs.length by omega)];rfl);cases e
    obtain rfl:k=0:=af
    subst hl0;by_cases hcap:cap=0;all_goals (
     go_wp2_with (first|(at_builtin;refine aR rfl _ _ 59 rfl w.heap.size 9 i0 (.string ⟨#[]⟩) 1 16 Tryz.underlying59 HI0.1 HI0.2.1 HI0.2.2.1 HI0.2.2.2 rfl aj _ _ _ rfl (HOW.out) _ 0 _ ((zs.take 0).map xo) rfl kg (fun j u hu=>by rw[List.map_take] at hu;obtain⟨g9,o9,e,hgl,h3⟩:=HC.out j u (gG hu);cases e <;> exact⟨_,rfl,by simp only[xB];exact (ai (al w _) hgl).trans h3⟩) (HON.out _) bJ af aT ?_))
     intro v5 w5 hown5 hgr5
     replace hown5:w5.ownsRow w.heap.size 9 1 v5 0 ((zs.take 0).map xo):=ix
     have hb5:Below w.heap.size w w5:=(al w (.cells #[] 9)).grown hgr5 aT (fun g hg=>by simp[Value.ownBlock] at hg;omega);obtain⟨s1,s2,s3,rfl⟩:=aY hown5;have HO5:=aa hown5;have H5:=aa hb5;have hs5:=hb5.size;clear hown5 hgr5 hb5 HOW
     go_wp2_with (first|(at_builtin;refine aR rfl _ _ 59 rfl w.heap.size 9 i0 (.string ⟨#[]⟩) 1 16 Tryz.underlying59 HI0.1 HI0.2.1 HI0.2.2.1 HI0.2.2.2 rfl aj _ _ _ rfl (HO5.alloc _) _ 1 _ [.string t] rfl rfl (fun j u hu=>⟨_,rfl,by rw[xB,xL,aD (heap_alloc_new w5 _)];simpa using hu⟩) fX bJ af bX ?_))
     intro v6 w6 hown6 hgr6;have hb6:Below w.heap.size w w6:=(H5.alloc H5.size _).grown hgr6 bX (fun g hg=>(HO5.lt g hg).1);obtain⟨r1,r2,r3,rfl⟩:=aY hown6;have HO6:=aa hown6;have H6:=aa hb6;have hs6:=hb6.size;clear hown6 hgr6 hb6
     go_wp2_with (first|(at_builtin;refine aR rfl _ _ 59 rfl w.heap.size 9 i0 (.string ⟨#[]⟩) 1 16 Tryz.underlying59 HI0.1 HI0.2.1 HI0.2.2.1 HI0.2.2.2 rfl aj _ _ _ rfl (HO6.out) _ (0 - 0) _ ((zs.drop 0).map xo) rfl kf (fun j u hu=>by first|(rw[xW af] at hu;simp at hu;done)|(rw[List.map_drop,xX] at hu;obtain⟨g9,o9,e,hgl,h3⟩:=HC.out _ u hu;cases e <;> exact⟨_,rfl,by simp only[xB,Nat.add_assoc];exact (ai H6.out hgl).trans h3⟩)) (HON.out _) bJ af af ?_))
     intro v7 w7 hown7 hgr7;have hb7:Below w.heap.size w w7:=H6.grown hgr7 af (fun g hg=>(HO6.lt g hg).1)
     replace hown7:w7.ownsRow w.heap.size 9 1 v7 (0+1) ((zs.take 0++[t]++zs.drop 0).map xo):=by
      have e9:0+1+(0 - 0)=0+1:=af
      try rw[e9] at hown7
      simpa using hown7
     obtain⟨a',p',rfl,hT⟩:=bK.gZ hown7 (HZS.out 0);have HT7:=aa hT;have HB7:=aa hb7;clear hown7 hgr7 hb7 hT hik hkn
     go_wp2
     go_ret
     exact⟨_,_,_,_,rfl,HT7.row,HP.out,.inr HT7.out,HB7.out⟩)
   by_cases hcap:cap=k;all_goals (
    go_wp2_with (first|(at_builtin;refine aR rfl _ _ 59 rfl w.heap.size 9 i0 (.string ⟨#[]⟩) 1 16 Tryz.underlying59 HI0.1 HI0.2.1 HI0.2.2.1 HI0.2.2.2 rfl aj _ _ _ rfl (HOW.out) _ k _ ((zs.take k).map xo) rfl kg (fun j u hu=>by rw[List.map_take] at hu;obtain⟨g9,o9,e,hgl,h3⟩:=HC.out j u (gG hu);cases e <;> exact⟨_,rfl,by simp only[xB];exact (ai (al w _) hgl).trans h3⟩) (HON.out _) bJ af aT ?_))
    intro v5 w5 hown5 hgr5
    replace hown5:w5.ownsRow w.heap.size 9 1 v5 k ((zs.take k).map xo):=ix
    have hb5:Below w.heap.size w w5:=(al w (.cells #[] 9)).grown hgr5 aT (fun g hg=>by simp[Value.ownBlock] at hg;omega);obtain⟨s1,s2,s3,rfl⟩:=aY hown5;have HO5:=aa hown5;have H5:=aa hb5;have hs5:=hb5.size;clear hown5 hgr5 hb5 HOW
    go_wp2_with (first|(at_builtin;refine aR rfl _ _ 59 rfl w.heap.size 9 i0 (.string ⟨#[]⟩) 1 16 Tryz.underlying59 HI0.1 HI0.2.1 HI0.2.2.1 HI0.2.2.2 rfl aj _ _ _ rfl (HO5.alloc _) _ 1 _ [.string t] rfl rfl (fun j u hu=>⟨_,rfl,by rw[xB,xL,aD (heap_alloc_new w5 _)];simpa using hu⟩) fX bJ af bX ?_))
    intro v6 w6 hown6 hgr6;have hb6:Below w.heap.size w w6:=(H5.alloc H5.size _).grown hgr6 bX (fun g hg=>(HO5.lt g hg).1);obtain⟨r1,r2,r3,rfl⟩:=aY hown6;have HO6:=aa hown6;have H6:=aa hb6;have hs6:=hb6.size;clear hown6 hgr6 hb6
    go_wp2_with (first|(at_builtin;refine aR rfl _ _ 59 rfl w.heap.size 9 i0 (.string ⟨#[]⟩) 1 16 Tryz.underlying59 HI0.1 HI0.2.1 HI0.2.2.1 HI0.2.2.2 rfl aj _ _ _ rfl (HO6.out) _ (len - k) _ ((zs.drop k).map xo) rfl kf (fun j u hu=>by first|(rw[xW af] at hu;simp at hu;done)|(rw[List.map_drop,xX] at hu;obtain⟨g9,o9,e,hgl,h3⟩:=HC.out _ u hu;cases e <;> exact⟨_,rfl,by simp only[xB,Nat.add_assoc];exact (ai H6.out hgl).trans h3⟩)) (HON.out _) bJ af af ?_))
    intro v7 w7 hown7 hgr7;have hb7:Below w.heap.size w w7:=H6.grown hgr7 af (fun g hg=>(HO6.lt g hg).1)
    replace hown7:w7.ownsRow w.heap.size 9 1 v7 (len+1) ((zs.take k++[t]++zs.drop k).map xo):=by
     have e9:k+1+(len - k)=len+1:=af
     try rw[e9] at hown7
     simpa using hown7
    obtain⟨a',p',rfl,hT⟩:=bK.gZ hown7 (HZS.out k);have HT7:=aa hT;have HB7:=aa hb7;clear hown7 hgr7 hb7 hT hik hkn
    go_wp2
    go_ret
    exact⟨_,_,_,_,rfl,HT7.row,HP.out,.inr HT7.out,HB7.out⟩)

end Rc
end Go.Proofs.YtbbdcjbfnjlndaaGreatDoor

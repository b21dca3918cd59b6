import Derived.Test.YtbbdcjbfnjlndaaGreatDoorC5
import Derived.Stop.LaidErr
import Derived.ChangeVars
import Derived.Deep.Strs
import Derived.Deep.Fields
import Derived.WideShapes
import Derived.ChangeArms
/-
 The next disk to be taken off or put on, as the specification tells it.
-/
set_option maxRecDepth 100000
set_option maxHeartbeats 12800000
open And renaming intro→xf
open Array renaming getElem?_push_size→xt, getD_eq_getD_getElem?→xv, getElem?_eq_some_iff→xA, getElem?_setIfInBounds→xJ, length_toList→yF
open Bool renaming and_eq_true→yk
open Go.Act renaming put→yx
open Go.Addr renaming add_lit→xB
open Go.Builtin renaming append_→xU
open Go.Calls renaming quiet_of_same→xI
open Go.DataW renaming trod_string→yh, trod→yH, trod_int→yV, trod_bool→y8
open Go.Region renaming wanted→yA
open Go.RowKit.Below renaming heap_setCell→xi, refl→xj, heap_alloc→xM
open Go.Value renaming string→xo
open Go.World renaming setCell→xZ
open Int renaming le_trans→xQ, add_assoc→yv
open List renaming getElem?_eq_some_iff→xe, lookup→xg, getElem?_eq_getElem→xm, getElem?_map→xq, take_of_length_le→xw, setIfInBounds_toArray→xx, mem_of_getElem?→xD, length_take→xE, getElem?_take→xF, set_cons_zero→xG, forall_mem_cons→xH, set_cons_succ→xK, length_append→xO, length_map→xR, getElem?_of_mem→xS, mem_cons→xV, length_drop→yf, getLast→yg, getElem?_eq_none→yi, foldr→yo, range→yt, drop_eq_getElem_cons→yG, mem_append_right→zc
open Nat renaming le_refl→xk, le_trans→xp, lt_of_lt_of_le→xr, le_succ→xC, zero_add→xL
open Option renaming map_eq_some_iff→xu
open Option.some renaming inj→xh, injEq→ym
namespace Go.Proofs.YtbbdcjbfnjlndaaGreatDoor
theorem kP {p:Prop} (h:p:=by
 obtain⟨f,hf⟩:=choose_lt each;refine⟨some ⟨b,o,none⟩,len,cap,(yt len).map f,by simpa using hcs,by simp,hl,hm',.inr ⟨b,o,rfl,hblt,fun j r hj=>?_⟩⟩;rw[xq,xq] at hj;by_cases hjl:j<len
 ·rw[List.getElem?_range hjl] at hj;obtain rfl:=xh hj;exact hf j hjl
 ·rw[yi bX] at hj;cases hj):p:=h
theorem vZ {p:Prop} (h:p:=by
 rw[xi _ _ _ _ (show k≠w.heap.size+1 by omega),xi _ _ _ _ (show k≠w.heap.size+1 by omega),xi _ _ _ _ (show k≠w.heap.size+1 by omega),xi _ _ _ _ (show k≠w.heap.size+1 by omega),xi _ _ _ _ (show k≠w.heap.size+1 by omega),xi _ _ _ _ (show k≠w.heap.size+1 by omega),xi _ _ _ _ (show k≠w.heap.size+1 by omega),xi _ _ _ _ (show k≠w.heap.size+1 by omega),HWY.block k af,hW5]):p:=h
theorem kC {p:Prop} (h:p:=by
 cases hi;exact⟨_,(hc 0 af).trans e0,rfl,show b0.size<=_ by omega⟩):p:=h
theorem uG {p:Prop} (h:p:=by
 have hbg:¬b=g:=by have:=HEB2.out;omega
 have e9:W5.heap[b]?=wz.heap[b]?:=by rw[hW5];exact xi _ _ _ _ hbg
 have h9:=(ai HWZ.out HYB2.out).trans HYV.out;show W5.cell? _=_;simp only[World.cell?,e9] at h9 ⊢;exact h9):p:=h
theorem lW {p:Prop} (h:p:=by
 cases hi;exact⟨_,(hc 2 af).trans e2,rfl,show b2.size<=_ by omega⟩):p:=h
theorem vz {p:Prop} (h:p:=by
 rcases HTO.2 with h5|⟨g5,cu5,e5,hS5,_⟩
 ·exact absurd h5 hn9
 ·rw[e9] at e5;cases e5;have h6:W.heap.size<=b9:=hS5;have:=HY.le;omega):p:=h
theorem rn {p:Prop} (h:p:=by
 rw[e] at g;exact⟨_,xs[i]'(by omega),xm hlc,by rw[g,xm]⟩):p:=h
theorem gV {p:Prop} (h:p:=by
 obtain⟨_,hl0,hc0⟩:=World.cells?_some k1;have:=hc0 0 af;rw[xm af] at this;rcases Nat.lt_or_ge b w.heap.size with h1|h1
 ·exact h1
 ·simp[Addr.add,World.cell?,Array.getElem?_eq_none h1] at this):p:=h
theorem gU {p:Prop} (h:p:=by
 obtain⟨_,hl0,hc0⟩:=World.cells?_some k1;have:=hc0 0 af;rw[xm af] at this;simpa[Addr.add] using World.cell?_spot this):p:=h
theorem gR {p:Prop} (h:p:=by
 have:=hc0 j hj;rw[add_add,xB] at this;rw[Nat.add_assoc];exact this):p:=h
theorem gQ {p:Prop} (h:p:=by
 exact⟨none,0,0,[],by simpa using hcs,rfl,xk _,by omega,.inl rfl⟩):p:=h
theorem gP {p:Prop} (h:p:=by
 subst h0;exact⟨some a,0,cap,[],by simpa using hcs,rfl,hl,hm',.inl rfl⟩):p:=h
theorem qS {p:Prop} (h:p:=by
 refine pe.volC (wz:=wz) (va:=sa) (vl:=sl) (vc:=sc) HO.out hlo rfl HV0.out hq2 (HY.out.trans (HWZ.mono HY.le)) HTO.row (fun b9 o9 e9 hn9=>?_) (fun k h1 h2=>?_)
 ·exact vz
 ·exact vZ):p:=h
theorem vW {p:Prop} (h:p:=by
 have hq1:w.heap.size+1<w1.heap.size:=HQ1.out;have hq2:w1.heap.size<=w2.heap.size:=HQ2.out;have hsz:=HWZ.size;have HB5:Hid (Below w.heap.size w W5):=by rw[hW5];exact ah (show w.heap.size<=g by omega) (HB.trans (HWZ.mono HB.size))
 have hsz5:W5.heap.size=wz.heap.size:=by rw[hW5];simp
 have Br5:Hid (W5.heap[w.heap.size+1]?=some (.cells #[.slice none 0 0,.slice none 0 0,.slice none 0 0,.slice none 0 0,.slice none 0 0,.int .i64 0,.string ⟨#[]⟩,.int .i64 0] 38 (0,0))):=by rw[hW5];exact (xi _ _ _ _ (show w.heap.size+1≠g by omega)).trans ((HWZ.block _ (ae Br.out)).trans Br.out)
 have Bo5:Hid (W5.heap[w2.heap.size]?=some (.cells (clo6 x1 m1 n1 x2 m2 n2 (some ⟨g,0,none⟩) l3 n3 x4 m4 n4 x5 m5 n5 c.now) 36 (0,0))):=by rw[hW5];exact (xi _ _ _ _ (show w2.heap.size≠g by omega)).trans ((HWZ.block _ (ae Bo.out)).trans Bo.out)
 exact xf hq1 (xf hq2 (xf hsz (xf HB5 (xf hsz5 (xf Br5 Bo5)))))):p:=h
theorem uj {p:Prop} (h:p:=by
 have Ck:=aa ((hk.block (w.heap.size) (ae Bk.out) (fun s=>by have s1:=s.1;have s2:=s.2;have q3:=HQ3.out;have q4:=HQ4.out;have q5:=HQ5.out;omega)).trans Bk.out);have Ca:=aa ((hk.block (w3.heap.size) (ae Ba.out) (fun s=>by have s1:=s.1;have s2:=s.2;have q3:=HQ3.out;have q4:=HQ4.out;have q5:=HQ5.out;omega)).trans Ba.out);have Cx:=aa ((hk.block (w4.heap.size) (ae Bx.out) (fun s=>by have s1:=s.1;have s2:=s.2;have q3:=HQ3.out;have q4:=HQ4.out;have q5:=HQ5.out;omega)).trans Bx.out);have Cg:=aa ((hk.block (w5.heap.size) (ae Bg.out) (fun s=>by have s1:=s.1;have s2:=s.2;have q3:=HQ3.out;have q4:=HQ4.out;have q5:=HQ5.out;omega)).trans Bg.out);exact xf Ck (xf Ca (xf Cx Cg))):p:=h
theorem iB {p:Prop} (h:p:=by
 have hlm:len<=m:=by rw[hmm];split <;> omega
 have hm':cap<=9223372036854775807:=by unfold maxLen at hm;omega
 exact xf hlm hm'):p:=h
theorem tQ {p:Prop} (h:p:=by
 have HWZ:=aa hW;have hwg:wz.heap[g]?=some (.cells cs 62 (0,0)):=((HY.out.trans (hW.mono HY.le)).block g hgs).trans HGB.out;have hfz:=aw hwg (i*8+7);have hcz:wz.cell? ⟨g,i*8+7,none⟩=some (.slice ga gl gp):=(aD hwg _).trans HGC.out;exact xf HWZ (xf hwg (xf hfz hcz))):p:=h
end Go.Proofs.YtbbdcjbfnjlndaaGreatDoor
namespace Go.Proofs.YtbbdcjbfnjlndaaGreatDoor
open Go.RowKit
namespace Rc
open Mk

theorem ni (d:Ad) (c:Cl) (x:Qd) (i j:Nat) (v:Vd) (n:Nd) (w:World) (hr:aK w d c.raw) (hT:a8 c) (hv:c.vs[i]?=some v) (hvn:v.n=x.n) (hn:c.ns[j]?=some n) (hnn:n.n=x.d) (r:Bool) (h:r=true↔lq c v n):
  Calls Tryz.prog 25 #[.agg #[.slice d.a1 d.l1 d.c1,.slice d.a2 d.l2 d.c2,.slice d.a3 d.l3 d.c3,.slice d.a4 d.l4 d.c4,.slice d.a5 d.l5 d.c5,.int .i64 c.now],.agg #[.string x.n,.string x.d]] w fun e w'=>e=.returned (.bool r)/\Below w.heap.size w w':=by
 refine (pM d c x i j v n w hr hT hv hvn hn hnn).mono ?_;rintro e w' ⟨r',rfl,h',hb⟩;have e:r'=r:=by
  cases r <;> cases r'
  ·rfl
  ·exact (h.2 (h'.1 rfl)).symm
  ·exact h'.2 (h.1 rfl)
  ·rfl
 rw[e];exact⟨rfl,hb⟩
def td (W:World) (t:ByteArray) (zs:List ByteArray):Fact:=fun v w=> ∃a' l' c' ys,v=.slice a' l' c'/\bK w a' l' c' ys (fun k=>W.heap.size<=k)/\Put t zs ys
theorem td.mono (W:World) (t:ByteArray) (zs:List ByteArray):Fact.bw (td W t zs):=by
 rintro v w w' ⟨a',l',c',ys,h1,h2,h3⟩ hb;exact⟨a',l',c',ys,h1,h2.below hb,h3⟩
def tg (W:World) (zs:List ByteArray):Fact:=fun v w=> ∃a' l' c',v=.slice a' l' c'/\bK w a' l' c' zs (fun k=>W.heap.size<=k)
theorem tg.mono (W:World) (zs:List ByteArray):Fact.bw (tg W zs):=by
 rintro v w w' ⟨a',l',c',h1,h2⟩ hb;exact⟨a',l',c',h1,h2.below hb⟩

theorem sL (d:Ad) (c:Cl) (w:World) (hr:aK w d c.raw):
  Calls Tryz.prog 5 #[.agg #[.slice d.a1 d.l1 d.c1,.slice d.a2 d.l2 d.c2,.slice d.a3 d.l3 d.c3,.slice d.a4 d.l4 d.c4,.slice d.a5 d.l5 d.c5,.int .i64 c.now]] w (vS (cZ c) w):=by
 obtain⟨a1,l1,y1,a2,l2,y2,a3,l3,y3,a4,l4,y4,a5,l5,y5⟩:=d;dsimp only;obtain⟨HR,hl3⟩:=kr;have hm3:l3<=9223372036854775807:=xp hr.v.2.1 hr.v.2.2.1;clear hr;have HB:=aa (xj w.heap.size w);go_enter Tryz.func5,Tryz.ntmps5;go_wp2_with fail;refine (lD ⟨a1,l1,y1,a2,l2,y2,a3,l3,y3,a4,l4,y4,a5,l5,y5⟩ c _ (HR.below (HB.trans ((aM _ _ _).mono HB.size)))).mono ?_;rintro e w1 ⟨r,rfl,hi,hb⟩;obtain⟨HA0,HA1,hbx⟩:=de hb;have Bk:=aa HA0;have Br:=aa HA1;replace HB:=upB HB hbx;clear hb hbx HA0 HA1;have HI:=aa hi;clear hi;cases r
 ·have HV:Hid (cZ c (co0 1)):=.inl ⟨fun h=>(by have h9:=HI.2 h;cases h9),rfl⟩;clear HI;obtain⟨k0,k1,k2,k3,k4,k5⟩:=cs6 Bk;go_wp2_with fail;refine (jW 1 _).mono ?_;rintro e w2 ⟨rfl,hb⟩;clear k0 k1 k2 k3 k4 k5;replace Bk:=upK Bk hb;replace Br:=upK Br hb;replace HB:=upB HB hb;clear hb;obtain⟨r0,r1,r2,r3,r4,r5,r6,r7⟩:=cs8 Br;obtain⟨fr0,fr1,fr2,fr3,fr4,fr5⟩:=iC;have fr6:=aw Br.out 6;have fr7:=aw Br.out 7;go_wp2;exact bodyPost_ret (v:=.agg #[.slice none 0 0,.slice none 0 0,.slice none 0 0,.slice none 0 0,.slice none 0 0,.int .i64 0,.string ⟨#[]⟩,.int .i64 1]) (by simp[results,Tryz.results5,go_sem, *]) rfl ⟨ad0,co0 1,rfl,HV.out,(rl0 _ _),sb1 (sb1 (sb1 (sb1 (sb1 (sb1 (sb1 (sb1 (HB.out))))))))⟩
 have HT:=aa (HI.1 bA);clear HI;obtain⟨k0,k1,k2,k3,k4,k5⟩:=cs6 Bk;go_wp2_with fail;have HLO:=aa HB.size;refine (lH ⟨a1,l1,y1,a2,l2,y2,a3,l3,y3,a4,l4,y4,a5,l5,y5⟩ c _ (HR.below HB.out) HT.sm).mono ?_;rintro e w2 ⟨d',rfl,ho,hb⟩;have HQ2:=aa hb.size;have HQ1:=aa (ae Br.out);clear k0 k1 k2 k3 k4 k5;replace Bk:=upK Bk hb;replace Br:=upK Br hb;replace HB:=upB HB hb;clear hb;obtain⟨x1,m1,n1,x2,m2,n2,x3,m3,n3,x4,m4,n4,x5,m5,n5⟩:=d';have hm3:l3=m3:=by have h6:(c.vs.map vdF).length=m3:=ho.v.1;rw[xR] at h6;omega
 subst hm3;have HO:=aa ho;have HY:Hid (Bw w2 w2):=Bw.refl _;clear ho;obtain⟨k0,k1,k2,k3,k4,k5⟩:=cs6 Bk;have ltk_2:=ae Bk.out;go_wp2_with fail;refine (pL ⟨a1,l1,y1,a2,l2,y2,a3,l3,y3,a4,l4,y4,a5,l5,y5⟩ c _ (HR.below (HB.trans ((al _ _).mono HB.size))) HT.out).mono ?_;rintro e w3 ⟨ea,el,ec,es,rfl,ho,hrq,hmem,hle,hb⟩;clear k0 k1 k2 k3 k4 k5 ltk_2;obtain⟨HA0,hbx⟩:=aH hb;replace Bk:=upK Bk hbx;replace Br:=upK Br hbx;have Bo:=aa HA0;replace HY:=aa (HY.below hbx);replace HB:=upB HB hbx;clear hb hbx HA0;have HEB:Hid (∀b o,ea=some ⟨b,o,none⟩->0<el->w2.heap.size<b):=fun b o e hp=>by
  obtain⟨h1,-,-,h4⟩:=ho;rcases h4 with h4|⟨g',cur,H,e',hat⟩
  ·rw[h4] at h1;simp at h1;omega
  ·rw[e] at e';cases e';have h5:=hat.inS;simp at h5;omega
 have HQ3:Hid (w2.heap.size<w3.heap.size):=ae Bo.out;have HER:=aa ho.row;have hel:es.length=el:=by simpa using ho.row.1
 have HES:=aa (xf hrq hmem);clear ho hrq hmem;by_cases he0:0<el
 ·have hei:(0:Int)<el:=af
  obtain⟨b,o,y,rfl,hbl,hy,hat⟩:=eJ HER.out he0;obtain⟨-,-,hc0,hc1⟩:=b8 hat;have HY0:=aa hy;obtain⟨i,v,hv,hvn,hvd⟩:=pg ((HES.2 y).1 (xD hy));have HV0:=aa hv;have HVN:=aa hvn;have hi3:i<l3:=by have:=(xe.1 hv).1;omega
  clear hat hy hv hvn hvd;have hy0:w3.cell? ⟨b,o,none⟩=some (.string y.n):=by simpa using hc0
  have hy1:w3.cell? ⟨b,o+1,none⟩=some (.string y.d):=by simpa using hc1
  have HY1:=aa hy1;have HYN:=aa hy0;have HYB:=aa hbl;have hv64:v.zs.length<=64:=by have:=(HT.on HV0.out).1;omega
  clear hc0 hc1 hy1;obtain⟨k0,k1,k2,k3,k4,k5⟩:=cs6 Bk;obtain⟨o0,o1,o2,o3,o4,o5⟩:=cs6 Bo;go_wp2_with fail;clear k0 k1 k2 k3 k4 k5 o0 o1 o2 o3 o4 o5;have Gk:=Bk;have Gr:=Br;have Go:=Bo;have HW:=HB;obtain⟨k0,k1,k2,k3,k4,k5⟩:=sl6 Gk;have yn:=fun q:Wd w3=>(q.cell hbl).trans hy0;have hne0:=Wd.ne w3;have HC0:=aa (fun q:Wd w3=>dY ⟨a1,l1,y1,a2,l2,y2,a3,l3,y3,a4,l4,y4,a5,l5,y5⟩ c.now c.vs y.n q.w (HR.v.below (HW.trans (q.b.mono HW.size))) HT.2.1.2.2.1.2.2 HV0.out HVN.out);go_wp2_with fail;refine ag an an ?_;repeat (go_big_quiet_step (first|(go_at_call 22;exact Calls.wide (HC0.out _))|fail))
  refine wpQuiet_nil ?_;rintro _ ⟨q1,rfl⟩;have HB4:=upB HW q1.b;obtain⟨Ck,Cr⟩:=cQ;have Co:=upK Go q1.b;have CHY:=aa ((HY.out).below q1.b);clear hne0 HW HB HC0 k0 k1 k2 k3 k4 k5 yn Gk Gr Go Bk Br Bo HY hy0 hbl;have HB:=HB4;clear HB4;have HY:=CHY;clear CHY;have Bk:=Ck;clear Ck;have Br:=Cr;clear Cr;have Bo:=Co;clear Co;obtain⟨g,cs,hd3,hgB,hgb,ga,gl,gp,hgc,hgt⟩:=HO.wk HV0.out;have hd3':x3=some ⟨g,0,none⟩:=hd3;subst hd3';have hgs:g<w2.heap.size:=ae hgb;have HGB:=aa hgb;have HGC:=aa hgc;obtain⟨b3,o3,v',e3,hb3,hx3,hat⟩:=bq (HR.v.below HB.out) hi3;have e3':a3=some ⟨b3,o3,none⟩:=e3;subst e3';rw[HV0.out] at hx3;obtain rfl:=xh hx3;obtain⟨va,vl,vc,hvr,-,-,-,-,-,-,-,-,-,-,-,hc7⟩:=aE hat;have HC7:=aa hc7;have HVR:=aa hvr;have HB3B:=aa hb3;have hvl64:vl<=64:=by have h1:v.zs.length=vl:=HVR.1;omega
  have HEB2:Hid (w2.heap.size<b):=HEB.out b o rfl he0;have hil3:(i:Int)<l3:=af
  have hii0:¬(i:Int)<0:=af
  clear hd3 hgb hgc hgt hat hx3 hc7 hvr hb3;obtain⟨W,hW0⟩:∃W,W=q1.w:=⟨_,rfl⟩;rw[<-hW0] at HB HY Bk Br Bo HC7 HVR HB3B;have HYW:Hid (W.cell? ⟨b,o+1,none⟩=some (.string y.d)):=by
   rw[hW0];exact (q1.cell HYB.out).trans HY1.out
  have HYV:Hid (W.cell? ⟨b,o,none⟩=some (.string y.n)):=by
   rw[hW0];exact (q1.cell HYB.out).trans HYN.out
  have HYB2:Hid (b<W.heap.size):=by rw[hW0];exact xr HYB.out q1.b.size
  go_wp2_with fail;rw[<-hW0];clear hW0;rename_i K0 hK0;refine Gt.aB an rfl rfl an ?_;refine Grow.bf ?_;refine Grow.bT Bo.out ?_;iterate 2 refine Grow.bf ?_
  refine Grow.bT Bk.out ?_;iterate 3 refine Grow.bf ?_
  refine' Grow.ar _ rfl ?_ ?_;rotate_left 1
  ·refine Obl.plain rfl ?_;intro ac wg K hsz hW hf hK;clear hsz;have e33:=hf 33 aj;simp[ak,xg] at e33;clear hf;have c7:=(ai hW HB3B.out).trans HC7.out;exact bx
  iterate 3 refine Grow.bf ?_
  refine' Grow.ar _ rfl ?_ ?_;rotate_left 1
  ·refine Obl.plain rfl ?_;intro ac wg K hsz hW hf hK;clear hsz;have e37:=hf 37 aj;simp[ak,xg] at e37;clear hf;have c7:=(ai hW HYB2.out).trans HYW.out;exact bx
  refine Grow.step (tg W (wo (fun s:ByteArray=>s) y.d v.zs)) rfl (tg.mono W (wo (fun s:ByteArray=>s) y.d v.zs)) ?_ ?_
  ·refine Obl.plain rfl ?_;intro ac wg K hsz hW hf hK;clear hsz;have e34:=hf 34 aj;simp[ak,xg] at e34;have e38:=hf 38 aj;simp[ak,xg] at e38;clear hf;go_simp;refine (pI va vl vc v.zs y.d _ (HVR.below hW) hvl64).mono ?_;rintro e w6 ⟨sa,sl,sc,rfl,ho6,hb6⟩;have hs6:=hW.size;exact hK _ _ hb6 ⟨sa,sl,sc,rfl,ho6.aN (fun _ _ _=>rfl) (fun k _ s=>by have s1:wg.heap.size<=k:=s;show W.heap.size<=k;omega)⟩
  iterate 2 refine Grow.bf ?_
  refine Grow.done ?_;intro q wz hW hf;simp only[xH] at hf;obtain⟨h41,h40,h39,h38,h37,h36,h35,h34,h33,h32,h31,h30,h29,h28,h27,h26,-⟩:=hf;obtain⟨sa,sl,sc,hv39,hto⟩:=h39;have HTO:=aa hto;obtain⟨HWZ,hwg,hfz,hcz⟩:=tQ;clear hto;intro K hK;rw[if_pos (by rfl)];simp only[aI,yo,yx,xx,xG,xK,h41,h40,h38,h37,h36,h35,h34,h33,h32,h31,h30,h29,h28,h27,h26,hv39];simp only[yg];go_simp;refine hK _ _ ?_;refine hK0 _ _ ?_;clear hK hK0 K K0;obtain⟨W5,hW5⟩:∃W5,W5=wz.setCell ⟨g,i*8+7,none⟩ (.slice sa sl sc):=⟨_,rfl⟩;rw[<-hW5];obtain⟨hq1,hq2,hsz,HB5,hsz5,Br5,Bo5⟩:=vW;have HYV5:Hid (W5.cell? ⟨b,o,none⟩=some (.string y.n)):=by
   exact uG
  have HYB5:Hid (b<W5.heap.size):=by have:=HYB2.out;show b<_;omega
  have hn20:=(HT.2.1.2.2.1.2.1 i v HV0.out).1.2.1;rw[HVN.out] at hn20;have hn4:¬9223372036854775807<4+y.n.size:=af
  clear hfz hcz hwg hn20;go_wp2_with fail;rename_i K0 hK0;refine aB an rfl rfl an ?_;refine Grow.bT Bo5.out ?_;iterate 3 refine Grow.bf ?_
  refine' Grow.ar _ rfl ?_ ?_;rotate_left 1
  ·refine Obl.plain rfl ?_;intro ac wg K hsz hW hf hK;clear hsz;have e45:=hf 45 aj;simp[ak,xg] at e45;clear hf;have c7:=(ai hW HYB5.out).trans HYV5.out;exact bx
  iterate 2 refine Grow.bf ?_
  refine Grow.done ?_;intro q wy hW hf;simp only[xH] at hf;obtain⟨h48,h47,h46,h45,h44,h43,h42,-⟩:=hf;have Br6:=upK Br5 hW;have HWY:=aa hW;obtain⟨r0,r1,r2,r3,r4,r5,r6,r7⟩:=cs8 Br6;obtain⟨fr0,fr1,fr2,fr3,fr4,fr5,fr6,fr7⟩:=nG;intro K hK;rw[if_pos (by rfl)];simp only[aI,yo,yx,xx,xG,xK,h48,h47,h46,h45,h44,h43,h42];simp only[yg];go_simp;refine hK _ _ ?_;refine hK0 _ _ ?_;clear hK hK0 K K0;have HV:Hid (cZ c ⟨dF c i (onV v (wo (fun s:ByteArray=>s) y.d v.zs)),gk++y.n,0⟩):=.inr (.inl ⟨HT.out,es,y,i,v,HES.out,HY0.out,HV0.out,HVN.out,by rw[HVN.out]⟩);go_wp2;have hlo:=HLO.out;refine bodyPost_ret (v:=.agg #[.slice x1 m1 n1,.slice x2 m2 n2,.slice (some ⟨g,0,none⟩) l3 n3,.slice x4 m4 n4,.slice x5 m5 n5,.int .i64 c.now,.string (gk++y.n),.int .i64 0]) (by simp[results,Tryz.results5,go_sem, *];rfl) rfl ⟨⟨x1,m1,n1,x2,m2,n2,some ⟨g,0,none⟩,l3,n3,x4,m4,n4,x5,m5,n5⟩,⟨dF c i (onV v (wo (fun s:ByteArray=>s) y.d v.zs)),gk++y.n,0⟩,rfl,HV.out,?_,sb1 (sb1 (sb1 (sb1 (sb1 (sb1 (sb1 (sb1 (HB5.trans (HWY.mono HB5.size)))))))))⟩;exact qS
 have hei:¬(0:Int)<el:=af
 have HNX:Hid (∀q,¬Xn c c.vs.length q):=fun q hq=>by
  exact rp
 clear HER HES HEB;obtain⟨k0,k1,k2,k3,k4,k5⟩:=cs6 Bk;obtain⟨o0,o1,o2,o3,o4,o5⟩:=cs6 Bo;go_wp2_with fail;refine (jT ⟨a1,l1,y1,a2,l2,y2,a3,l3,y3,a4,l4,y4,a5,l5,y5⟩ c _ (HR.below HB.out) HT.out).mono ?_;rintro e w4 ⟨wa,wl,wc,ws,rfl,ho,hrq,hmem,hle,hb⟩;clear k0 k1 k2 k3 k4 k5 o0 o1 o2 o3 o4 o5;replace Bk:=upK Bk hb;replace Br:=upK Br hb;replace Bo:=upK Bo hb;replace HY:=aa (HY.below hb);replace HB:=upB HB hb;clear hb;have HEB:Hid (∀b o,wa=some ⟨b,o,none⟩->0<wl->w3.heap.size<b):=fun b o e hp=>by
  obtain⟨h1,-,-,h4⟩:=ho;rcases h4 with h4|⟨g',cur,H,e',hat⟩
  ·rw[h4] at h1;simp at h1;omega
  ·rw[e] at e';cases e';have h5:w3.heap.size+1<=b:=hat.inS;omega
 have HER:=aa ho.row;have hwl:ws.length=wl:=by simpa using ho.row.1
 have HES:=aa (xf hrq hmem);clear ho hrq hmem;obtain⟨k0,k1,k2,k3,k4,k5⟩:=cs6 Bk;obtain⟨o0,o1,o2,o3,o4,o5⟩:=cs6 Bo;go_wp2;clear k0 k1 k2 k3 k4 k5 o0 o1 o2 o3 o4 o5;go_loopw [7] (fun vi wr=> ∃k:Nat,k<=wl/\vi=.int .i64 k/\Hid (lakL c (ws.take k)=[])/\Hid (Below w4.heap.size w4 wr)) (fun vi _=>wl - (intOf vi).toNat);case atStart=>exact⟨0,by omega,rfl,rfl,xj _ _⟩
 case round=>
  obtain⟨k,hk,rfl,HLK,HL⟩:=hrel;replace Bk:=aa ((HL.block _ (ae Bk.out)).trans Bk.out);replace Br:=aa ((HL.block _ (ae Br.out)).trans Br.out);replace Bo:=aa ((HL.block _ (ae Bo.out)).trans Bo.out);replace HY:=aa (HY.below HL.out);replace HB:=aa (HB.trans (HL.mono HB.size));have hLs:=HL.size;by_cases hlt:k<wl
  ·have hk1:(k:Int)<wl:=af
   have hk0:¬(k:Int)<0:=af
   obtain⟨b,o,y,rfl,hbl,hy,hat⟩:=eJ (HER.below HL.out) hlt;obtain⟨-,hzd,hc0,hc1⟩:=b8 hat;have HY0:=aa hy;obtain⟨i,j,v,n,g1,g2,g3,g4⟩:=lx HT.out ((HES.2 y).1 (xD hy));have HV0:=aa g1;have HVN:=aa g2;have HNJ:=aa (xf g3 g4);have HCI:=aa (jH.iff HT.out g1 g2 g3 g4);have hi3:i<l3:=by have:=(xe.1 g1).1;omega
   have HEB2:Hid (w3.heap.size<b):=HEB.out b o rfl af;have HYN:=aa hc0;have HY1:=aa hc1;have HYB:=aa hbl;have HZD:=aa hzd;clear hat hy g1 g2 g3 g4 hzd;by_cases hcan:lq c v n;rotate_left
   ·have HN:Hid (lakL c (ws.take (k+1))=lakL c (ws.take k)):=rY HY0.out (fun h=>hcan (HCI.1 h));have HCB:Hid (¬lq c v n):=hcan;obtain⟨k0,k1,k2,k3,k4,k5⟩:=cs6 Bk;obtain⟨o0,o1,o2,o3,o4,o5⟩:=cs6 Bo;go_wp2_with fail;clear k0 k1 k2 k3 k4 k5 o0 o1 o2 o3 o4 o5;have Gk:=Bk;have Gr:=Br;have Go:=Bo;have HW:=HB;obtain⟨k0,k1,k2,k3,k4,k5⟩:=sl6 Gk;have yn:=fun q:Wd wr=>(q.cell hbl).trans hc0;have yd:=fun q:Wd wr=>(q.cell hbl).trans hc1;have hne0:=Wd.ne wr;have HC0:=aa (fun q:Wd wr=>ni ⟨a1,l1,y1,a2,l2,y2,a3,l3,y3,a4,l4,y4,a5,l5,y5⟩ c y i j v n q.w (HR.below (HW.trans (q.b.mono HW.size))) HT.out HV0.out HVN.out HNJ.1 HNJ.2 false ⟨fun h=>bM,fun h=>absurd h HCB.out⟩);go_wp2_with fail;refine ag an an ?_;repeat (go_big_quiet_step (first|(go_at_call 25;exact Calls.wide (HC0.out _))|fail))
    refine wpQuiet_nil ?_;rintro _ ⟨q1,rfl⟩;have HB5:=upB HW q1.b;obtain⟨Ck,Cr⟩:=cQ;have Co:=upK Go q1.b;have CHY:=aa ((HY.out).below q1.b);clear hne0 HW HB HC0 k0 k1 k2 k3 k4 k5 yn yd Gk Gr Go Bk Br Bo HY hbl hc0 hc1;have HB:=HB5;clear HB5;have HY:=CHY;clear CHY;have Bk:=Ck;clear Ck;have Br:=Cr;clear Cr;have Bo:=Co;clear Co;obtain⟨k0,k1,k2,k3,k4,k5⟩:=cs6 Bk;obtain⟨o0,o1,o2,o3,o4,o5⟩:=cs6 Bo;go_wp2;refine⟨⟨k+1,by omega,by go_num,?_,HL.trans (q1.b.mono hLs)⟩,by simp[intOf];omega⟩;rw[HN.out];exact HLK
   have HF:Hid ((lakL c ws)[0]?=some y):=oI HY0.out (HCI.2 hcan) HLK.out;have HCB:Hid (lq c v n):=hcan;have HCN:Hid (¬y.d∈v.zs):=fun h9=>hcan.1 (by obtain⟨q,hq⟩:=xS h9;rw[HNJ.2];exact⟨q,hq⟩);clear hcan;obtain⟨k0,k1,k2,k3,k4,k5⟩:=cs6 Bk;obtain⟨o0,o1,o2,o3,o4,o5⟩:=cs6 Bo;go_wp2_with fail;clear k0 k1 k2 k3 k4 k5 o0 o1 o2 o3 o4 o5;have Gk:=Bk;have Gr:=Br;have Go:=Bo;have HW:=HB;obtain⟨k0,k1,k2,k3,k4,k5⟩:=sl6 Gk;have yn:=fun q:Wd wr=>(q.cell hbl).trans hc0;have yd:=fun q:Wd wr=>(q.cell hbl).trans hc1;have hne0:=Wd.ne wr;have HC0:=aa (fun q:Wd wr=>ni ⟨a1,l1,y1,a2,l2,y2,a3,l3,y3,a4,l4,y4,a5,l5,y5⟩ c y i j v n q.w (HR.below (HW.trans (q.b.mono HW.size))) HT.out HV0.out HVN.out HNJ.1 HNJ.2 true ⟨fun _=>HCB.out,fun _=>rfl⟩);go_wp2_with fail;refine ag an an ?_;repeat (go_big_quiet_step (first|(go_at_call 25;exact Calls.wide (HC0.out _))|fail))
   refine wpQuiet_nil ?_;rintro _ ⟨q1,rfl⟩;have HB5:=upB HW q1.b;obtain⟨Ck,Cr⟩:=cQ;have Co:=upK Go q1.b;have CHY:=aa ((HY.out).below q1.b);clear hne0 HW HB HC0 k0 k1 k2 k3 k4 k5 yn yd Gk Gr Go Bk Br Bo HY hbl hc0 hc1;have HB:=HB5;clear HB5;have HY:=CHY;clear CHY;have Bk:=Ck;clear Ck;have Br:=Cr;clear Cr;have Bo:=Co;clear Co;have hbl2:b<q1.w.heap.size:=xr HYB.out q1.b.size;have hy0:q1.w.cell? ⟨b,o+k*2,none⟩=some (.string y.n):=(q1.cell HYB.out).trans HYN.out;have HYN2:=aa hy0;have HYB3:=aa hbl2;have HY12:Hid (q1.w.cell? ⟨b,o+k*2+1,none⟩=some (.string y.d)):=(q1.cell HYB.out).trans HY1.out;obtain⟨k0,k1,k2,k3,k4,k5⟩:=cs6 Bk;obtain⟨o0,o1,o2,o3,o4,o5⟩:=cs6 Bo;go_wp2_with fail;clear k0 k1 k2 k3 k4 k5 o0 o1 o2 o3 o4 o5;have Gk:=Bk;have Gr:=Br;have Go:=Bo;have HW:=HB;obtain⟨k0,k1,k2,k3,k4,k5⟩:=sl6 Gk;have yn:=fun q:Wd q1.w=>(q.cell hbl2).trans hy0;have hne0:=Wd.ne q1.w;have HC0:=aa (fun q:Wd q1.w=>dY ⟨a1,l1,y1,a2,l2,y2,a3,l3,y3,a4,l4,y4,a5,l5,y5⟩ c.now c.vs y.n q.w (HR.v.below (HW.trans (q.b.mono HW.size))) HT.2.1.2.2.1.2.2 HV0.out HVN.out);go_wp2_with fail;refine ag an an ?_;repeat (go_big_quiet_step (first|(go_at_call 22;exact Calls.wide (HC0.out _))|fail))
   refine wpQuiet_nil ?_;rintro _ ⟨q2,rfl⟩;have HB6:=upB HW q2.b;have Ck:=upK Gk q2.b;have Cr:=upK Gr q2.b;have Co:=upK Go q2.b;have CHY:=aa ((HY.out).below q2.b);clear hne0 HW HB HC0 k0 k1 k2 k3 k4 k5 yn Gk Gr Go Bk Br Bo HY hy0 hbl2;have HB:=HB6;clear HB6;have HY:=CHY;clear CHY;have Bk:=Ck;clear Ck;have Br:=Cr;clear Cr;have Bo:=Co;clear Co;obtain⟨g,cs,hd3,hgB,hgb,ga,gl,gp,hgc,hgt⟩:=HO.wk HV0.out;have hd3':x3=some ⟨g,0,none⟩:=hd3;subst hd3';have hgs:g<w2.heap.size:=ae hgb;have HGB:=aa hgb;have HGC:=aa hgc;have HGT:=aa hgt;have hgl64:gl<=64:=by have h1:v.zs.length=gl:=hgt.1;have:=(HT.on HV0.out).1;omega
   have hil3:(i:Int)<l3:=af
   have hii0:¬(i:Int)<0:=af
   clear hd3 hgb hgc hgt;obtain⟨W,hW0⟩:∃W,W=q2.w:=⟨_,rfl⟩;rw[<-hW0] at HB HY Bk Br Bo;have HYW:Hid (W.cell? ⟨b,o+k*2+1,none⟩=some (.string y.d)):=by
    rw[hW0];exact (q2.cell HYB3.out).trans HY12.out
   have HYV:Hid (W.cell? ⟨b,o+k*2,none⟩=some (.string y.n)):=by
    rw[hW0];exact (q2.cell HYB3.out).trans HYN2.out
   have HYB2:Hid (b<W.heap.size):=by rw[hW0];exact xr HYB3.out q2.b.size
   replace HEB2:Hid (w2.heap.size<b):=by have h1:=HEB2.out;have h2:=HQ3.out;show _<_;omega
   go_wp2_with fail;rw[<-hW0];clear hW0;rename_i K0 hK0;refine Gt.aB an rfl rfl an ?_;refine Grow.bf ?_;refine Grow.bT Bo.out ?_;iterate 2 refine Grow.bf ?_
   refine Grow.bT Bo.out ?_;iterate 3 refine Grow.bf ?_
   refine' Grow.ar _ rfl ?_ ?_;rotate_left 1
   ·refine Obl.plain rfl ?_;intro ac wg K hsz hW hf hK;clear hsz;have e77:=hf 77 aj;simp[ak,xg] at e77;clear hf;have c7:wg.cell? ⟨g,i*8+7,none⟩=some (.slice ga gl gp):=(aD (((HY.out.trans (hW.mono HY.le)).block g hgs).trans HGB.out) _).trans HGC.out;exact bx
   iterate 4 refine Grow.bf ?_
   refine' Grow.ar _ rfl ?_ ?_;rotate_left 1
   ·refine Obl.plain rfl ?_;intro ac wg K hsz hW hf hK;clear hsz;have e82:=hf 82 aj;simp[ak,xg] at e82;clear hf;have c7:=(ai hW HYB2.out).trans HYW.out;exact bx
   refine Grow.step (td W y.d v.zs) rfl (td.mono W y.d v.zs) ?_ ?_
   ·refine Obl.plain rfl ?_;intro ac wg K hsz hW hf hK;clear hsz;have e78:=hf 78 aj;simp[ak,xg] at e78;have e83:=hf 83 aj;simp[ak,xg] at e83;clear hf;go_simp;refine (oy ga gl gp v.zs y.d _ (HGT.below (HY.out.trans (hW.mono HY.le))) hgl64 HZD.out).mono ?_;rintro e w6 ⟨sa,sl,sc,ys,rfl,-,hput,how,hb6⟩;have hs6:=hW.size;rcases how with how|how
    ·exact absurd how HCN.out
    exact hK _ _ hb6 ⟨sa,sl,sc,ys,rfl,how.aN (fun _ _ _=>rfl) (fun k _ s=>by have s1:wg.heap.size<=k:=s;show W.heap.size<=k;omega),hput⟩
   iterate 2 refine Grow.bf ?_
   refine Grow.done ?_;intro q wz hW hf;simp only[xH] at hf;obtain⟨h86,h85,h84,h83,h82,h81,h80,h79,h78,h77,h76,h75,h74,h73,h72,h71,h70,-⟩:=hf;obtain⟨sa,sl,sc,ys,hv84,hto,hput⟩:=h84;have HTO:=aa hto;have HPUT:=aa hput;obtain⟨HWZ,hwg,hfz,hcz⟩:=tQ;clear hto hput;intro K hK;rw[if_pos (by rfl)];simp only[aI,yo,yx,xx,xG,xK,h86,h85,h83,h82,h81,h80,h79,h78,h77,h76,h75,h74,h73,h72,h71,h70,hv84];simp only[yg];go_simp;refine hK _ _ ?_;refine hK0 _ _ ?_;clear hK hK0 K K0;obtain⟨W5,hW5⟩:∃W5,W5=wz.setCell ⟨g,i*8+7,none⟩ (.slice sa sl sc):=⟨_,rfl⟩;rw[<-hW5];obtain⟨hq1,hq2,hsz,HB5,hsz5,Br5,Bo5⟩:=vW;have HYV5:Hid (W5.cell? ⟨b,o+k*2,none⟩=some (.string y.n)):=by
    exact uG
   have HYB5:Hid (b<W5.heap.size):=by have:=HYB2.out;show b<_;omega
   have hn20:=(HT.2.1.2.2.1.2.1 i v HV0.out).1.2.1;rw[HVN.out] at hn20;have hn4:¬9223372036854775807<3+y.n.size:=af
   clear hfz hcz hwg hn20;go_wp2_with fail;rename_i K0 hK0;refine aB an rfl rfl an ?_;refine Grow.bT Bo5.out ?_;iterate 4 refine Grow.bf ?_
   refine' Grow.ar _ rfl ?_ ?_;rotate_left 1
   ·refine Obl.plain rfl ?_;intro ac wg K hsz hW hf hK;clear hsz;have e91:=hf 91 aj;simp[ak,xg] at e91;clear hf;have c7:=(ai hW HYB5.out).trans HYV5.out;exact bx
   iterate 2 refine Grow.bf ?_
   refine Grow.done ?_;intro q wy hW hf;simp only[xH] at hf;obtain⟨h94,h93,h92,h91,h90,h89,h88,h87,-⟩:=hf;have Br6:=upK Br5 hW;have HWY:=aa hW;obtain⟨r0,r1,r2,r3,r4,r5,r6,r7⟩:=cs8 Br6;obtain⟨fr0,fr1,fr2,fr3,fr4,fr5,fr6,fr7⟩:=nG;intro K hK;rw[if_pos (by rfl)];simp only[aI,yo,yx,xx,xG,xK,h94,h93,h92,h91,h90,h89,h88,h87];simp only[yg];go_simp;refine hK _ _ ?_;refine hK0 _ _ ?_;clear hK hK0 K K0;have HV:Hid (cZ c ⟨dF c i (onV v ys),wOn++y.n,0⟩):=.inr (.inr ⟨HT.out,HNX.out,ws,HES.out,.inl ⟨y,i,v,ys,HF.out,HV0.out,HVN.out,HPUT.out,by rw[HVN.out]⟩⟩);go_wp2;have hlo:=HLO.out;refine bodyPost_ret (v:=.agg #[.slice x1 m1 n1,.slice x2 m2 n2,.slice (some ⟨g,0,none⟩) l3 n3,.slice x4 m4 n4,.slice x5 m5 n5,.int .i64 c.now,.string (wOn++y.n),.int .i64 0]) (by simp[results,Tryz.results5,go_sem, *];rfl) rfl ⟨⟨x1,m1,n1,x2,m2,n2,some ⟨g,0,none⟩,l3,n3,x4,m4,n4,x5,m5,n5⟩,⟨dF c i (onV v ys),wOn++y.n,0⟩,rfl,HV.out,?_,sb1 (sb1 (sb1 (sb1 (sb1 (sb1 (sb1 (sb1 (HB5.trans (HWY.mono HB5.size)))))))))⟩;exact qS
  have hk1:¬(k:Int)<wl:=af
  have HV:Hid (cZ c (co0 6)):=.inr (.inr ⟨HT.out,HNX.out,ws,HES.out,.inr ⟨by have h9:=HLK.out;rw[xw af] at h9;exact h9,rfl⟩⟩);obtain⟨k0,k1,k2,k3,k4,k5⟩:=cs6 Bk;go_wp2_with fail;refine (jW 6 _).mono ?_;rintro e w5 ⟨rfl,hb⟩;clear k0 k1 k2 k3 k4 k5;replace Bk:=upK Bk hb;replace Br:=upK Br hb;replace Bo:=upK Bo hb;replace HY:=aa (HY.below hb);replace HB:=upB HB hb;clear hb;obtain⟨r0,r1,r2,r3,r4,r5,r6,r7⟩:=cs8 Br;obtain⟨fr0,fr1,fr2,fr3,fr4,fr5⟩:=iC;have fr6:=aw Br.out 6;have fr7:=aw Br.out 7;go_wp2;exact bodyPost_ret (v:=.agg #[.slice none 0 0,.slice none 0 0,.slice none 0 0,.slice none 0 0,.slice none 0 0,.int .i64 0,.string ⟨#[]⟩,.int .i64 6]) (by simp[results,Tryz.results5,go_sem, *]) rfl ⟨ad0,co0 6,rfl,HV.out,(rl0 _ _),sb1 (sb1 (sb1 (sb1 (sb1 (sb1 (sb1 (sb1 (HB.out))))))))⟩

theorem pN (d:Ad) (c:Cl) (w:World) (hr:aK w d c.raw):
  Calls Tryz.prog 5 #[.agg #[.slice d.a1 d.l1 d.c1,.slice d.a2 d.l2 d.c2,.slice d.a3 d.l3 d.c3,.slice d.a4 d.l4 d.c4,.slice d.a5 d.l5 d.c5,.int .i64 c.now]] w (wx (cZ c) w):=(sL d c w hr).mono fun _ _ h=>h.s

end Rc
end Go.Proofs.YtbbdcjbfnjlndaaGreatDoor

namespace Go.Proofs.YtbbdcjbfnjlndaaGreatDoor
open Go.RowKit Rc Mk

def cO (c:Cl):Fact:=fun v w=> ∃d:Ad,v=.agg #[.slice d.a1 d.l1 d.c1,.slice d.a2 d.l2 d.c2,.slice d.a3 d.l3 d.c3,.slice d.a4 d.l4 d.c4,.slice d.a5 d.l5 d.c5,.int .i64 c.now]/\aK w d c.raw
theorem cO.mono (c:Cl):Fact.bw (cO c):=by
 exact lT

set_option linter.unusedVariables false in
theorem gw (d:Ad) (c:Cl)  (E:Nat->Addr) (w:World) (hr:aK w d c.raw)  (hG:Ers w E):
  Calls Tryz.prog 3 #[.agg #[.slice d.a1 d.l1 d.c1,.slice d.a2 d.l2 d.c2,.slice d.a3 d.l3 d.c3,.slice d.a4 d.l4 d.c4,.slice d.a5 d.l5 d.c5,.int .i64 c.now]] w fun e w'=>e=.returned (.bool true)/\Below w.heap.size w w':=by
 have HR:=aa hr;have HE:=aa hG;have HB:=aa (xj w.heap.size w);clear hr hG;go_enter Tryz.func3,Tryz.ntmps3;go_wp2_with fail;refine (ig d c _ (HR.below (HB.trans ((al _ _).mono HB.size)))).mono ?_;rintro e w1 ⟨r,rfl,hi,hb⟩;obtain⟨HA0,hbx⟩:=aH hb;have Bk:=aa HA0;replace HB:=upB HB hbx;clear hb hbx HA0;rcases hi with rfl|⟨hr0,-,hft⟩
 ·obtain⟨k0,k1,k2,k3,k4,k5⟩:=cs6 Bk;have ltk_1:=ae Bk.out;go_wp2;go_ret;exact⟨rfl,HB.out⟩
 have HF:=aa hft;clear hft;obtain⟨k0,k1,k2,k3,k4,k5⟩:=cs6 Bk;have ltk_1:=ae Bk.out;go_wp2_with fail;refine (cK d c _ (HR.below HB.out) HF.out).mono ?_;rintro e w2 ⟨d1,rfl,ho,hb⟩;clear k0 k1 k2 k3 k4 k5 ltk_1;replace Bk:=upK Bk hb;replace HB:=upB HB hb;clear hb;have HO:=aa ho.row;clear ho;go_wp2_with fail;refine (pN d1 c _ HO.out).mono ?_;rintro e w3 ⟨dg0,o,rfl,hI,ho,hb⟩;have R0:=aa ho;have HIS:=aa hI;clear ho hI HO;replace Bk:=upK Bk hb;replace HB:=upB HB hb;clear hb;have HY:=aa (Bw.refl w3);have HQ3:=aa (show w.heap.size<w3.heap.size from ae Bk.out);obtain⟨k0,k1,k2,k3,k4,k5⟩:=cs6 Bk;have ltk_3:=ae Bk.out;go_wp2_with fail;refine (cK d c _ (HR.below (HB.trans ((al _ _).mono HB.size))) HF.out).mono ?_;rintro e w4 ⟨d2,rfl,ho,hb⟩;clear k0 k1 k2 k3 k4 k5 ltk_3;obtain⟨HA0,hbx⟩:=aH hb;replace Bk:=upK Bk hbx;have Ba:=aa HA0;replace HY:=aa (HY.below hbx);replace HB:=upB HB hbx;clear hb hbx HA0;have HQ4:Hid (w3.heap.size+1<=w4.heap.size):=by have:=HY.le;have:=ae Ba.out;show w3.heap.size+1<=_;omega
 have HO2:=aa (ho.dX (S':=fun k=>w3.heap.size+1<=k/\k<w4.heap.size) (fun k hk s=>⟨(show w3.heap.size+1<=k by simpa using s),hk⟩));clear ho;obtain⟨k0,k1,k2,k3,k4,k5⟩:=cs6 Bk;have ltk_4:=ae Bk.out;obtain⟨a0,a1,a2,a3,a4,a5,a6,a7⟩:=cs8 Ba;have lta_4:=ae Ba.out;go_wp2_with fail;have HOX:=aa (HO2.below (al w4 (.cells (clv d2 c.now) 36)));refine (lg d2 c E _ HOX.row (HE.below (HB.trans ((al _ _).mono HB.size)))).mono ?_;rintro e w5 ⟨dg1,o1,rfl,hI,ho,hb⟩;clear HOX;obtain rfl:=HIS.same hI;clear hI;clear k0 k1 k2 k3 k4 k5 ltk_4 a0 a1 a2 a3 a4 a5 a6 a7 lta_4;obtain⟨HA0,hbx⟩:=aH hb;replace Bk:=upK Bk hbx;replace Ba:=upK Ba hbx;have Bx:=aa HA0;replace HY:=aa (HY.below hbx);replace HO2:=aa (HO2.below hbx);replace HB:=upB HB hbx;clear hb hbx HA0;have HQ5:Hid (w4.heap.size<w5.heap.size):=ae Bx.out;have HO1:=aa (ho.dX (S':=fun k=>w4.heap.size+1<=k/\k<w5.heap.size) (fun k hk s=>⟨(show w4.heap.size+1<=k by simpa using s),hk⟩));clear ho;have hlz:cS 1 o.c.raw<=1152921504606846976:=HIS.marks HF.out;have HH:=aa (fun (W:World) (hr:aK W dg1 (mkC 1 o.c.raw))=>jx dg1 o 1 W hr aj hlz);obtain⟨M,hM⟩:∃M:Int,M=cS 1 o.c.raw:=⟨_,rfl⟩;have hM0:(0:Int)<M:=by rw[hM];have:=jh 1 o.c.raw;omega
 rw[<-hM] at HH;have HMM:=aa hM;clear hM;obtain⟨k0,k1,k2,k3,k4,k5⟩:=cs6 Bk;have ltk_5:=ae Bk.out;obtain⟨a0,a1,a2,a3,a4,a5,a6,a7⟩:=cs8 Ba;have lta_5:=ae Ba.out;obtain⟨x0,x1,x2,x3,x4,x5⟩:=cs6 Bx;have ltx_5:=ae Bx.out;go_wp2_with fail;refine (eR dg1 dg0 o _ (HO1.row.below (al _ _)) (R0.below (HY.below (al _ _)).out)).mono ?_;rintro e w6 ⟨rfl,hb⟩;clear k0 k1 k2 k3 k4 k5 ltk_5 a0 a1 a2 a3 a4 a5 a6 a7 lta_5 x0 x1 x2 x3 x4 x5 ltx_5;obtain⟨HA0,hbx⟩:=aH hb;replace Bk:=upK Bk hbx;replace Ba:=upK Ba hbx;replace Bx:=upK Bx hbx;have Bg:=aa HA0;replace HY:=aa (HY.below hbx);replace HO2:=aa (HO2.below hbx);replace HO1:=aa (HO1.below hbx);replace HB:=upB HB hbx;clear hb hbx HA0;obtain⟨W,hW0⟩:∃W,W=w6:=⟨_,rfl⟩;rw[<-hW0] at HB HY HO2 HO1 Bk Ba Bx Bg;go_wp2_with fail;rw[<-hW0];clear hW0;rename_i K0 hK0;refine bY (back:=none) an (List.append_nil _).symm an ?_;refine' Grow.ar _ rfl ?_ ?_;rotate_left 1
 ·refine Obl.plain rfl ?_;intro ac wg K hsz hW hf hK;clear hsz;have e5:=hf 5 aj;simp[ak,xg] at e5;clear hf;obtain⟨k0,k1,k2,k3,k4,k5⟩:=cs6 ((hW.block _ (ae Bx.out)).trans Bx.out);exact bx
 refine' Grow.ar _ rfl ?_ ?_;rotate_left 1
 ·refine Obl.plain rfl ?_;intro ac wg K hsz hW hf hK;clear hsz;have e1:=hf 1 aj;simp[ak,xg] at e1;clear hf;obtain⟨k0,k1,k2,k3,k4,k5⟩:=cs6 ((hW.block _ (ae Bk.out)).trans Bk.out);exact bx
 refine Grow.step (cO c) rfl (cO.mono c) ?_ ?_
 ·refine Obl.plain rfl ?_;intro ac wg K hsz hW hf hK;clear hsz;have e28:=hf 28 aj;simp[ak,xg] at e28;clear hf;go_simp;refine (cK d c _ (HR.below (HB.trans (hW.mono HB.size))) HF.out).mono ?_;rintro e w6 ⟨d3,rfl,ho,hb6⟩;exact hK _ _ hb6 ⟨d3,rfl,ho.row⟩
 refine' Grow.ar (.bool true) rfl ?_ ?_
 ·refine Obl.plain rfl ?_;intro ac wg K hsz hW hf hK;clear hsz;have e27:=hf 27 aj;simp[ak,xg] at e27;have e29:=hf 29 aj;simp[ak,xg] at e29;obtain⟨d3,e29,hrow⟩:=e29;clear hf;go_simp;refine (eN d2 d3 c _ (HO2.row.below hW) hrow).mono ?_;rintro e w6 ⟨rfl,hb6⟩;exact hK _ _ hb6 rfl
 refine' Grow.ar _ rfl ?_ ?_;rotate_left 1
 ·refine Obl.plain rfl ?_;intro ac wg K hsz hW hf hK;clear hsz;have e30:=hf 30 aj;simp[ak,xg] at e30;clear hf;exact bx
 refine Grow.done ?_;intro q wz hW hf;simp only[xH] at hf;obtain⟨h31,-⟩:=hf;have hb:=hW;refine hK0 _ _ ?_;simp only[aI,yo,yx,xx,xG,xK,h31];clear hK0;replace Bk:=upK Bk hb;replace Ba:=upK Ba hb;replace Bx:=upK Bx hb;replace Bg:=upK Bg hb;replace HY:=aa (HY.below hb);replace HO2:=aa (HO2.below hb);replace HO1:=aa (HO1.below hb);replace HB:=upB HB hb;clear hb;clear hW;obtain⟨rk,hrk⟩:∃r:Int,r=cS 1 c.raw:=⟨_,rfl⟩;have hrk0:decide (rk<0)=false:=by rw[decide_eq_false_iff_not,hrk];have:=jh 1 c.raw;omega
 obtain⟨k0,k1,k2,k3,k4,k5⟩:=cs6 Bk;have ltk_7:=ae Bk.out;obtain⟨a0,a1,a2,a3,a4,a5,a6,a7⟩:=cs8 Ba;have lta_7:=ae Ba.out;obtain⟨x0,x1,x2,x3,x4,x5⟩:=cs6 Bx;have ltx_7:=ae Bx.out;obtain⟨g0,g1,g2,g3,g4,g5,g6,g7⟩:=cs8 Bg;have ltg_7:=ae Bg.out;go_wp2_with fail;refine (dW d2 c 1 _ wz HO2.out (fun k s=>by have s2:=s.2;have q9:=HY.le;have q8:=ae Bx.out;have q3:=HQ3.out;have q4:=HQ4.out;have q5:=HQ5.out;omega) aj HF.marks).mono ?_;rintro e w8 ⟨rfl,ho,hk⟩;clear k0 k1 k2 k3 k4 k5 ltk_7 a0 a1 a2 a3 a4 a5 a6 a7 lta_7 x0 x1 x2 x3 x4 x5 ltx_7 g0 g1 g2 g3 g4 g5 g6 g7 ltg_7;obtain⟨Ck,Ca,Cx,Cg⟩:=uj;have HB8:=aa (HB.trans (hk.low (X:=w.heap.size) HB.size (fun k s=>by have s1:=s.1;have q3:=HQ3.out;have q4:=HQ4.out;have q5:=HQ5.out;omega)));have CHY:=aa (HY.kept hk (fun k s=>by have s1:=s.1;have q3:=HQ3.out;have q4:=HQ4.out;have q5:=HQ5.out;omega));have CHO1:=aa (HO1.kept hk (fun k s s'=>by have s1:=s.1;have s2:=s.2;have t1:=s'.1;have t2:=s'.2;have q3:=HQ3.out;have q4:=HQ4.out;have q5:=HQ5.out;omega));clear HB HY hk HO2 HO1 Bk Ba Bx Bg;have HB:=HB8;clear HB8;have HY:=CHY;clear CHY;have HO1:=CHO1;clear CHO1;have Bk:=Ck;clear Ck;have Ba:=Ca;clear Ca;have Bx:=Cx;clear Cx;have Bg:=Cg;clear Cg;clear ho;rw[<-hrk];clear hrk;obtain⟨k0,k1,k2,k3,k4,k5⟩:=cs6 Bk;have ltk_8:=ae Bk.out;obtain⟨a0,a1,a2,a3,a4,a5,a6,a7⟩:=cs8 Ba;have lta_8:=ae Ba.out;obtain⟨x0,x1,x2,x3,x4,x5⟩:=cs6 Bx;have ltx_8:=ae Bx.out;obtain⟨g0,g1,g2,g3,g4,g5,g6,g7⟩:=cs8 Bg;have ltg_8:=ae Bg.out;go_wp2_with fail;refine (eR dg1 dg0 o _ (HO1.row) (R0.below HY.out)).mono ?_;rintro e w9 ⟨rfl,hb⟩;clear k0 k1 k2 k3 k4 k5 ltk_8 a0 a1 a2 a3 a4 a5 a6 a7 lta_8 x0 x1 x2 x3 x4 x5 ltx_8 g0 g1 g2 g3 g4 g5 g6 g7 ltg_8;replace Bk:=upK Bk hb;replace Ba:=upK Ba hb;replace Bx:=upK Bx hb;replace Bg:=upK Bg hb;replace HY:=aa (HY.below hb);replace HO1:=aa (HO1.below hb);replace HB:=upB HB hb;clear hb;clear hrk0;obtain⟨k0,k1,k2,k3,k4,k5⟩:=cs6 Bk;have ltk_9:=ae Bk.out;obtain⟨a0,a1,a2,a3,a4,a5,a6,a7⟩:=cs8 Ba;have lta_9:=ae Ba.out;obtain⟨x0,x1,x2,x3,x4,x5⟩:=cs6 Bx;have ltx_9:=ae Bx.out;obtain⟨g0,g1,g2,g3,g4,g5,g6,g7⟩:=cs8 Bg;have ltg_9:=ae Bg.out;go_wp2_with fail;refine (ji dg1 o 1 _ _ HO1.out (fun k s=>by have s2:=s.2;have q9:=HB.size;have q8:=HY.le;have q7:=ae Bg.out;have q3:=HQ3.out;have q4:=HQ4.out;have q5:=HQ5.out; omega) aj hlz).mono ?_;rintro e w10 ⟨rfl,ho,hk⟩;clear k0 k1 k2 k3 k4 k5 ltk_9 a0 a1 a2 a3 a4 a5 a6 a7 lta_9 x0 x1 x2 x3 x4 x5 ltx_9 g0 g1 g2 g3 g4 g5 g6 g7 ltg_9;obtain⟨Ck,Ca,Cx,Cg⟩:=uj;have HB10:=aa (HB.trans (hk.low (X:=w.heap.size) HB.size (fun k s=>by have s1:=s.1;have q3:=HQ3.out;have q4:=HQ4.out;have q5:=HQ5.out;omega)));have CHY:=aa (HY.kept hk (fun k s=>by have s1:=s.1;have q3:=HQ3.out;have q4:=HQ4.out;have q5:=HQ5.out;omega))
 clear HB HY hk HO1 Bk Ba Bx Bg;have HB:=HB10;clear HB10;have HY:=CHY;clear CHY;have Bk:=Ck;clear Ck;have Ba:=Ca;clear Ca;have Bx:=Cx;clear Cx;have Bg:=Cg;clear Cg;have HM1:=aa ho;clear ho;rw[<-HMM.out];obtain⟨k0,k1,k2,k3,k4,k5⟩:=cs6 Bk;have ltk_10:=ae Bk.out;obtain⟨a0,a1,a2,a3,a4,a5,a6,a7⟩:=cs8 Ba;have lta_10:=ae Ba.out;obtain⟨x0,x1,x2,x3,x4,x5⟩:=cs6 Bx;have ltx_10:=ae Bx.out;obtain⟨g0,g1,g2,g3,g4,g5,g6,g7⟩:=cs8 Bg;have ltg_10:=ae Bg.out;go_wp2_with fail;refine (HH.out _ HM1.row).mono ?_;rintro e w11 ⟨rfl,hb⟩;clear k0 k1 k2 k3 k4 k5 ltk_10 a0 a1 a2 a3 a4 a5 a6 a7 lta_10 x0 x1 x2 x3 x4 x5 ltx_10 g0 g1 g2 g3 g4 g5 g6 g7 ltg_10;replace Bk:=upK Bk hb;replace Ba:=upK Ba hb;replace Bx:=upK Bx hb;replace Bg:=upK Bg hb;replace HY:=aa (HY.below hb);replace HM1:=aa (HM1.below hb);replace HB:=upB HB hb;clear hb;obtain⟨k0,k1,k2,k3,k4,k5⟩:=cs6 Bk;have ltk_11:=ae Bk.out;go_wp2_with fail;refine (cK d c _ (HR.below HB.out) HF.out).mono ?_;rintro e w12 ⟨d4,rfl,ho,hb⟩;clear k0 k1 k2 k3 k4 k5 ltk_11;replace Bk:=upK Bk hb;replace Ba:=upK Ba hb;replace Bx:=upK Bx hb;replace Bg:=upK Bg hb;replace HY:=aa (HY.below hb);replace HM1:=aa (HM1.below hb);replace HB:=upB HB hb;clear hb;have HO:=aa ho.row;clear ho;go_wp2_with fail;refine (lg d4 c E _ HO.out (HE.below HB.out)).mono ?_;rintro e w13 ⟨dg2,o2,rfl,hI,ho,hb⟩;obtain rfl:=HIS.same hI;clear hI HO;have HR2:=aa ho.row;clear ho;replace Bk:=upK Bk hb;replace Ba:=upK Ba hb;replace Bx:=upK Bx hb;replace Bg:=upK Bg hb;replace HY:=aa (HY.below hb);replace HM1:=aa (HM1.below hb);replace HB:=upB HB hb;clear hb;obtain⟨k0,k1,k2,k3,k4,k5⟩:=cs6 Bk;have ltk_13:=ae Bk.out;obtain⟨a0,a1,a2,a3,a4,a5,a6,a7⟩:=cs8 Ba;have lta_13:=ae Ba.out;obtain⟨x0,x1,x2,x3,x4,x5⟩:=cs6 Bx;have ltx_13:=ae Bx.out;obtain⟨g0,g1,g2,g3,g4,g5,g6,g7⟩:=cs8 Bg;have ltg_13:=ae Bg.out;go_wp2_with fail;refine (eR dg2 dg0 o _ (HR2.below (al _ _)) (R0.below (HY.below (al _ _)).out)).mono ?_;rintro e w14 ⟨rfl,hb⟩;clear k0 k1 k2 k3 k4 k5 ltk_13 a0 a1 a2 a3 a4 a5 a6 a7 lta_13 x0 x1 x2 x3 x4 x5 ltx_13 g0 g1 g2 g3 g4 g5 g6 g7 ltg_13;obtain⟨HA0,hbx⟩:=aH hb;replace Bk:=upK Bk hbx;replace Ba:=upK Ba hbx;replace Bx:=upK Bx hbx;replace Bg:=upK Bg hbx;have Bh:=aa HA0;replace HY:=aa (HY.below hbx);replace HM1:=aa (HM1.below hbx);replace HB:=upB HB hbx;clear hb hbx HA0;obtain⟨k0,k1,k2,k3,k4,k5⟩:=cs6 Bk;have ltk_14:=ae Bk.out;obtain⟨g0,g1,g2,g3,g4,g5,g6,g7⟩:=cs8 Bg;have ltg_14:=ae Bg.out;go_wp2_with fail;refine (HH.out _ HM1.row).mono ?_;rintro e w15 ⟨rfl,hb⟩;clear k0 k1 k2 k3 k4 k5 ltk_14 g0 g1 g2 g3 g4 g5 g6 g7 ltg_14;replace Bk:=upK Bk hb;replace Ba:=upK Ba hb;replace Bx:=upK Bx hb;replace Bg:=upK Bg hb;replace Bh:=upK Bh hb;replace HY:=aa (HY.below hb);replace HM1:=aa (HM1.below hb);replace HB:=upB HB hb
 clear hb;go_wp2_with fail;go_ret;exact⟨rfl,HB.out⟩

set_option linter.unusedVariables false in
theorem dP (a1:Option Addr) (l1 y1:Nat) (ns:List Nd) (a2:Option Addr) (l2 y2:Nat) (ks:List Kd) (a3:Option Addr) (l3 y3:Nat) (vs:List Vd) (a4:Option Addr) (l4 y4:Nat) (xs:List Xd) (a5:Option Addr) (l5 y5:Nat) (ps:List Pd) (now:Int)  (w:World)
  (h1:aF w a1 l1 y1 7 (ns.map ndF)) (h2:aF w a2 l2 y2 4 (ks.map kdF)) (h3:aF w a3 l3 y3 8 (vs.map vdF)) (h4:aF w a4 l4 y4 5 (xs.map xdF)) (h5:aF w a5 l5 y5 6 (ps.map pdF)) (_:(Lit.int .i64 now).wf=true)  (hG:∃E,Ers w E):
  Calls Tryz.prog 3 #[.agg #[.slice a1 l1 y1,.slice a2 l2 y2,.slice a3 l3 y3,.slice a4 l4 y4,.slice a5 l5 y5,.int .i64 now]] w fun e w'=>e=.returned (.bool true)/\Below w.heap.size w w':=
 by obtain⟨E,hG⟩:=hG;exact gw ⟨a1,l1,y1,a2,l2,y2,a3,l3,y3,a4,l4,y4,a5,l5,y5⟩ ⟨ns,ks,vs,xs,ps,now⟩  E w ⟨h1,h2,h3,h4,h5⟩  hG

end Go.Proofs.YtbbdcjbfnjlndaaGreatDoor

namespace Go.Proofs.YtbbdcjbfnjlndaaGreatDoor
open Go.RowKit
namespace Rc

theorem jK: "*" ++ "errors.errorString" = "*errors.errorString":=by decide
theorem wE (u:TypeId) (h:Tryz.prog.typeName? 3 u=some "*errors.errorString"):u=216:=
 typeName_ptr_named (nm:= "errors.errorString") (by rw[jK];kernel_rfl) an aj u (by rw[jK];exact h)

theorem mq {P:Program} {W:World} {nm:String} {ti tp te ts:TypeId} {ms:Array (String×TypeId)} {f:Field} (hi:P.underlying ti=some (.interface ms)) (hrow:∀u,P.typeName? 3 u=some nm->u=tp)
  (hp:P.underlying tp=some (.pointer te)) (he:P.underlying te=some (.struct #[f])) (hft:f.type=ts) (hfo:f.offset=0) (hs:P.underlying ts=some .string) (hc:P.cellsOf te=1) (hcs:P.cellsOf ts=1):
  ∀(l:List (String×List UInt8)) (ps:List MemPlace),(∀x∈l,∃g,P.globalNamed x.1=some g/\(P.globals[g]?).map (·.type)=some ti)->
   DataW.LaidVars P W (l.map fun x=>(x.1,.iface nm (.ptr (.agg [.lit (.string x.2)])))) ps->ps.Nodup->
   (∀b off,MemPlace.cell b off∈ps->(∃c t,W.heap[b]?=some (.cells c t (0,0)))/\∀u v,W.cell? ⟨b,off,none⟩=some (.iface u v)->Value.okWide P W .any 0 u v)->
   ∃E:Nat->Addr,(∀(i:Nat) x,l[i]?=some x->W.var? P x.1=some #[.iface tp (.pointer (some (E i)))]/\MemPlace.cell (E i).block (E i).off∈ps)/\∀i j,i<l.length->j<l.length->E i=E j->i=j
 | [],ps,_,_,_,_=>⟨fun _=>⟨0,0,none⟩,fun i x h=>by simp at h,fun i j h=>by simp at h⟩
 | x ::l,ps,hT,hv,hnd,hrows=>by
  obtain⟨g,t,cs,fuel,p,q,hg,ht,hvar,hd,hq,rfl⟩:=hv;obtain⟨g',hg',ht'⟩:=hT x aT;obtain rfl:=xh (hg.symm.trans hg');obtain rfl:=xh (ht.symm.trans ht');have hsub:∀{y},y∈q->y∈MemPlace.row ⟨g,0,none⟩ cs.size++p++q:=fun h=>zc _ h;obtain⟨E,hE1,hE2⟩:=mq hi hrow hp he hft hfo hs hc hcs l q (fun y hy=>hT y (by simp[hy])) hq (List.Nodup.sublist (List.sublist_append_right _ _) hnd) (fun b off hm=>hrows b off (hsub hm));obtain⟨l0⟩:=cs;have ok0:∀u v,l0=[.iface u v]->Value.okWide P W .any 0 u v:=fun u v e=>by
   subst e;exact (hrows g 0 (by simp[MemPlace.row])).2 u v (by simpa using World.var?_cell hg hvar 0)
  obtain⟨a0,s0,rfl,hc0,hs0,hz0,rfl⟩:=errorString_of_trod hi hrow hp he hft hfo hs hc hcs hd ok0;have ha:MemPlace.cell a0.block a0.off∈MemPlace.row a0 1:=by simp[MemPlace.row]
  have hdis:∀i,i<l.length->¬E i=a0:=fun i hi' e=>by
   have h1:=(hE1 i _ (xm hi')).2;rw[e] at h1;have h2:=(List.nodup_append.1 hnd).2.2 _ (zc _ ha) _ h1;exact h2 rfl
  refine⟨fun i=>match i with|0=>a0|i+1=>E i,fun i y hy=>?_,fun i j hi' hj' e=>?_⟩
  ·cases i with
   | zero=>
    obtain rfl:x=y:=by simpa using hy
    exact⟨hvar,List.mem_append_left _ (zc _ ha)⟩
   | succ i=>
    obtain⟨h1,h2⟩:=hE1 i y (by simpa using hy);exact⟨h1,hsub h2⟩
  ·cases i with
   | zero=>cases j with
    | zero=>rfl
    | succ j=>exact absurd e.symm (hdis j (by simpa using hj'))
   | succ i=>cases j with
    | zero=>exact absurd e (hdis i (by simpa using hi'))
    | succ j=>rw[hE2 i j (by simpa using hi') (by simpa using hj') e]

theorem jN {H:Type} {enc:TypeId×Value->H} {P:Program} {w:World} {sp:Nat->Bool} :∀(ns:List String) (gs:List (DataW H)) (ps:List MemPlace),DataW.TrodVars enc P w sp ns gs ps->gs.length=ns.length
 | [],[],_,_=>rfl
 | [],_ ::_,_,h=>h.elim
 | _ ::_,[],_,h=>h.elim
 | _ ::ns,_ ::gs,_,h=>by
  obtain⟨_,_,_,_,_,q,_,_,_,_,h1,_⟩:=h;simp[jN ns gs q h1]
theorem xb {α:Type} :∀{l:List α},l.length=10->∃a b c d e f g h i j,l=[a,b,c,d,e,f,g,h,i,j]
 | [a,b,c,d,e,f,g,h,i,j],_=>⟨a,b,c,d,e,f,g,h,i,j,rfl⟩

end Rc
end Go.Proofs.YtbbdcjbfnjlndaaGreatDoor

namespace Go.Proofs.YtbbdcjbfnjlndaaGreatDoor
open Go.RowKit Go.ChangeShapes Go.WideShapes Go.Deep

theorem wh {α:Type} {l:List α} (h:l.length=6):∃x0 x1 x2 x3 x4 x5,l=[x0,x1,x2,x3,x4,x5]:=by
 match l,h with
 | [x0,x1,x2,x3,x4,x5],_=>exact⟨_,_,_,_,_,_,rfl⟩
section
variable {H:Type} {enc:TypeId×Value->H} {P:Program} {w:World} {base:Nat} {spare:Nat->Bool} {held:Bool}

theorem oE {r:Reach} {b0:Nat} {t:TypeId} {fs:Array Field} {v:Value} {d:DataW H} {p:List MemPlace} (hs:P.underlying t=some (.struct fs)) (hone:oneCellFields P fs=true) (hC:P.cellsOf t=fs.size)
  (hv:Value.okWide P w r b0 t v) (h:DataW.Trod enc P w base spare held t v d p):
  ∃(cs:List Value) (n:Nat),v=.agg cs.toArray/\cs.length=fs.size/\∀(i:Nat) (f:Field),fs[i]?=some f->∃c y,cs[i]?=some c/\yH enc P w base spare held n f.type [c]=some y:=by
 obtain⟨cs,rfl,hsz⟩:=okWide_struct hs hv;obtain⟨fuel,hf⟩:=h;obtain⟨xs,n,_,hx,hl,hlen,hf'⟩:=DataW.trod_struct hs hf;refine⟨cs.toList,n,rfl,by rw[yF];exact hsz.trans hC,fun i f hi=>?_⟩;obtain⟨o,k⟩:=hone_of hone i f hi;have hlt:i<fs.size:=(xA.1 hi).1;have hlc:i<cs.toList.length:=by rw[yF,hsz,hC];exact hlt
 have g:=hf' i f hi;rw[o,k] at g;have e:((Value.agg cs).cells.toList.drop i).take 1=[cs.toList[i]'hlc]:=by
  show (cs.toList.drop i).take 1=_;rw[yG hlc];rfl
 exact rn

theorem eb {t e:TypeId} {n:Nat} {c:Value} {y:DataW H×List MemPlace} (ht:P.underlying t=some (.slice e)) (he:P.underlying e=some .string) (hc:P.cellsOf e=1)
  (h:yH enc P w base spare held n t [c]=some y):∃a len cap zs,c=.slice a len cap/\av w a len cap zs:=by
 rcases open_strs ht he hc h with ⟨hcs,_⟩|⟨a,len,cap,m,Sx,hcs,hb,hl,hm,hmm,_,hx⟩
 ·exact⟨none,0,0,[],by simpa using hcs,rfl,xk _,by omega,fun j x hx=>by simp at hx,Or.inl rfl⟩
 ·obtain⟨hlm,hm'⟩:=iB;refine⟨some a,len,cap,(yt len).map Sx,by simpa using hcs,by simp,hl,hm',fun j x hj=>?_,?_⟩
  ·rw[xq] at hj;by_cases hjl:j<len
   ·rw[List.getElem?_range hjl] at hj;obtain rfl:=xh hj;have:=(hx j af).2;unfold maxLen at this;omega
   ·exact qt
  ·by_cases h0:len=0
   ·subst h0;exact Or.inl rfl
   right;obtain⟨b,o,spot⟩:=a;have h0':=(hx 0 af).1;have hspot:spot=none:=by simpa[Addr.add] using World.cell?_spot h0'
   subst hspot;refine⟨b,o,rfl,?_,fun j x hj=>?_⟩
   ·rw[xB] at h0';rcases Nat.lt_or_ge b w.heap.size with h1|h1
    ·exact h1
    ·simp[World.cell?,Array.getElem?_eq_none h1] at h0'
   ·rw[xq] at hj;by_cases hjl:j<len
    ·rw[List.getElem?_range hjl] at hj;obtain rfl:=xh hj;have:=(hx j af).1;rw[xB] at this;exact this
    ·exact qt
end

section
variable {H:Type} {enc:TypeId×Value->H} {w:World} {base:Nat} {spare:Nat->Bool} {held:Bool}

theorem dB {P:Program} {n:Nat} {t:TypeId} {fs:Array Field} {cs:List Value} {x:DataW H×List MemPlace} (hs:P.underlying t=some (.struct fs)) (hone:oneCellFields P fs=true) (hC:P.cellsOf t=fs.size)
  (h:yH enc P w base spare held n t cs=some x):
  ∃(n:Nat),cs.length=fs.size/\∀(i:Nat) (f:Field),fs[i]?=some f->∃c y,cs[i]?=some c/\yH enc P w base spare held n f.type [c]=some y:=by
 obtain⟨xs,n,_,hx,hl,hlen,hf'⟩:=DataW.trod_struct hs h;refine⟨n,hl.trans hC,fun i f hi=>?_⟩;obtain⟨o,k⟩:=hone_of hone i f hi;have hlt:i<fs.size:=(xA.1 hi).1;have hlc:i<cs.length:=by rw[hl,hC];exact hlt
 have g:=hf' i f hi;rw[o,k] at g;have e:(cs.drop i).take 1=[cs[i]'hlc]:=by
  rw[yG hlc];rfl
 exact rn

end

end Go.Proofs.YtbbdcjbfnjlndaaGreatDoor

namespace Go.Proofs.YtbbdcjbfnjlndaaGreatDoor
open Go.RowKit Go.ChangeShapes Go.WideShapes Go.Deep
namespace Rc

section
variable {H:Type} {enc:TypeId×Value->H} {w:World} {base:Nat} {spare:Nat->Bool} {held:Bool}

theorem mf {b o n:Nat} {cs:List Value} {x:DataW H×List MemPlace} (hc:∀i,i<7->w.cell? ⟨b,o+i,none⟩=cs[i]?) (h:yH enc Tryz.prog w base spare held n 90 cs=some x):∃v:Nd,RAt w b o (ndF v):=by
 obtain⟨m,hl,hf⟩:=dB Tryz.underlying90 an an h;obtain⟨c0,y0,e0,t0⟩:=hf 0 _ rfl;obtain⟨b0,q0,-,s0⟩:=yh Tryz.underlying9 t0;obtain rfl:c0=.string b0:=by simpa using q0
 obtain⟨c1,y1,e1,t1⟩:=hf 1 _ rfl;obtain⟨b1,q1,-,s1⟩:=yh Tryz.underlying9 t1;obtain rfl:c1=.string b1:=by simpa using q1
 obtain⟨c2,y2,e2,t2⟩:=hf 2 _ rfl;obtain⟨b2,q2,-,s2⟩:=yV Tryz.underlying2 t2;obtain rfl:c2=.int .i64 b2:=by simpa using q2
 obtain⟨c3,y3,e3,t3⟩:=hf 3 _ rfl;obtain⟨b3,q3,-,s3⟩:=yV Tryz.underlying2 t3;obtain rfl:c3=.int .i64 b3:=by simpa using q3
 obtain⟨c4,y4,e4,t4⟩:=hf 4 _ rfl;obtain⟨b4,q4,-,s4⟩:=yV Tryz.underlying2 t4;obtain rfl:c4=.int .i64 b4:=by simpa using q4
 obtain⟨c5,y5,e5,t5⟩:=hf 5 _ rfl;obtain⟨b5,q5,-⟩:=y8 Tryz.underlying4 t5;obtain rfl:c5=.bool b5:=by simpa using q5
 obtain⟨c6,y6,e6,t6⟩:=hf 6 _ rfl;obtain⟨b6,l6,p6,zz,rfl,r6⟩:=eb Tryz.underlying59 Tryz.underlying9 an t6;unfold maxLen at s0 s1;refine⟨⟨b0,b1,b2,b3,b4,b5,zz⟩,fun i f hi=>?_⟩;rcases i with _|_|_|_|_|_|_|i
 ·exact kC
 ·cases hi;exact⟨_,(hc 1 af).trans e1,rfl,show b1.size<=_ by omega⟩
 ·cases hi;exact⟨_,(hc 2 af).trans e2,rfl⟩
 ·cases hi;exact⟨_,(hc 3 af).trans e3,rfl⟩
 ·cases hi;exact⟨_,(hc 4 af).trans e4,rfl⟩
 ·cases hi;exact⟨_,(hc 5 af).trans e5,rfl⟩
 ·cases hi;exact⟨_,(hc 6 af).trans e6,b6,l6,p6,rfl,r6⟩
 ·first|(cases hi;done)|(simp[ndF] at hi;done)

theorem sG {n:Nat} {c:Value} {y:DataW H×List MemPlace} (h:yH enc Tryz.prog w base spare held n 22 [c]=some y):∃a len cap,∃xs:List Nd,c=.slice a len cap/\aF w a len cap 7 (xs.map ndF):=by
 rcases open_slice Tryz.underlying22 h with ⟨hcs,_⟩|⟨a,len,cap,m,n',D,Pl,hcs,hb,hl,hm,hmm,_,hx⟩
 ·exact gQ
 obtain⟨hlm,hm'⟩:=iB;have hce:Tryz.prog.cellsOf 90=7:=an
 rw[hce] at hx;by_cases h0:len=0
 ·exact gP
 obtain⟨b,o,spot⟩:=a;obtain⟨cs0,k1,k2⟩:=hx 0 af;have hspot:spot=none:=by
  exact gU
 subst hspot;have hblt:b<w.heap.size:=by
  exact gV
 have each:∀i,i<len->∃v:Nd,RAt w b (o+i*7) (ndF v):=fun i hi=>by
  obtain⟨cs,k1,k2⟩:=hx i af;obtain⟨_,hl0,hc0⟩:=World.cells?_some k1;refine mf (fun j hj=>?_) k2;exact gR
 have hin:Inhabited Nd:=⟨⟨⟨#[]⟩,⟨#[]⟩,0,0,0,false,[]⟩⟩;exact kP

theorem mr {b o n:Nat} {cs:List Value} {x:DataW H×List MemPlace} (hc:∀i,i<4->w.cell? ⟨b,o+i,none⟩=cs[i]?) (h:yH enc Tryz.prog w base spare held n 93 cs=some x):∃v:Kd,RAt w b o (kdF v):=by
 obtain⟨m,hl,hf⟩:=dB Tryz.underlying93 an an h;obtain⟨c0,y0,e0,t0⟩:=hf 0 _ rfl;obtain⟨b0,q0,-,s0⟩:=yh Tryz.underlying9 t0;obtain rfl:c0=.string b0:=by simpa using q0
 obtain⟨c1,y1,e1,t1⟩:=hf 1 _ rfl;obtain⟨b1,q1,-⟩:=y8 Tryz.underlying4 t1;obtain rfl:c1=.bool b1:=by simpa using q1
 obtain⟨c2,y2,e2,t2⟩:=hf 2 _ rfl;obtain⟨b2,q2,-⟩:=y8 Tryz.underlying4 t2;obtain rfl:c2=.bool b2:=by simpa using q2
 obtain⟨c3,y3,e3,t3⟩:=hf 3 _ rfl;obtain⟨b3,q3,-,s3⟩:=yh Tryz.underlying9 t3;obtain rfl:c3=.string b3:=by simpa using q3
 unfold maxLen at s0 s3;refine⟨⟨b0,b1,b2,b3⟩,fun i f hi=>?_⟩;rcases i with _|_|_|_|i
 ·exact kC
 ·cases hi;exact⟨_,(hc 1 af).trans e1,rfl⟩
 ·cases hi;exact⟨_,(hc 2 af).trans e2,rfl⟩
 ·cases hi;exact⟨_,(hc 3 af).trans e3,rfl,show b3.size<=_ by omega⟩
 ·first|(cases hi;done)|(simp[kdF] at hi;done)

theorem sH {n:Nat} {c:Value} {y:DataW H×List MemPlace} (h:yH enc Tryz.prog w base spare held n 23 [c]=some y):∃a len cap,∃xs:List Kd,c=.slice a len cap/\aF w a len cap 4 (xs.map kdF):=by
 rcases open_slice Tryz.underlying23 h with ⟨hcs,_⟩|⟨a,len,cap,m,n',D,Pl,hcs,hb,hl,hm,hmm,_,hx⟩
 ·exact gQ
 obtain⟨hlm,hm'⟩:=iB;have hce:Tryz.prog.cellsOf 93=4:=an
 rw[hce] at hx;by_cases h0:len=0
 ·exact gP
 obtain⟨b,o,spot⟩:=a;obtain⟨cs0,k1,k2⟩:=hx 0 af;have hspot:spot=none:=by
  exact gU
 subst hspot;have hblt:b<w.heap.size:=by
  exact gV
 have each:∀i,i<len->∃v:Kd,RAt w b (o+i*4) (kdF v):=fun i hi=>by
  obtain⟨cs,k1,k2⟩:=hx i af;obtain⟨_,hl0,hc0⟩:=World.cells?_some k1;refine mr (fun j hj=>?_) k2;exact gR
 have hin:Inhabited Kd:=⟨⟨⟨#[]⟩,false,false,⟨#[]⟩⟩⟩;exact kP

theorem lz {b o n:Nat} {cs:List Value} {x:DataW H×List MemPlace} (hc:∀i,i<8->w.cell? ⟨b,o+i,none⟩=cs[i]?) (h:yH enc Tryz.prog w base spare held n 95 cs=some x):∃v:Vd,RAt w b o (vdF v):=by
 obtain⟨m,hl,hf⟩:=dB Tryz.underlying95 an an h;obtain⟨c0,y0,e0,t0⟩:=hf 0 _ rfl;obtain⟨b0,q0,-,s0⟩:=yh Tryz.underlying9 t0;obtain rfl:c0=.string b0:=by simpa using q0
 obtain⟨c1,y1,e1,t1⟩:=hf 1 _ rfl;obtain⟨b1,q1,-,s1⟩:=yV Tryz.underlying2 t1;obtain rfl:c1=.int .i64 b1:=by simpa using q1
 obtain⟨c2,y2,e2,t2⟩:=hf 2 _ rfl;obtain⟨b2,q2,-,s2⟩:=yh Tryz.underlying9 t2;obtain rfl:c2=.string b2:=by simpa using q2
 obtain⟨c3,y3,e3,t3⟩:=hf 3 _ rfl;obtain⟨b3,q3,-,s3⟩:=yh Tryz.underlying9 t3;obtain rfl:c3=.string b3:=by simpa using q3
 obtain⟨c4,y4,e4,t4⟩:=hf 4 _ rfl;obtain⟨b4,q4,-⟩:=y8 Tryz.underlying4 t4;obtain rfl:c4=.bool b4:=by simpa using q4
 obtain⟨c5,y5,e5,t5⟩:=hf 5 _ rfl;obtain⟨b5,q5,-,s5⟩:=yh Tryz.underlying9 t5;obtain rfl:c5=.string b5:=by simpa using q5
 obtain⟨c6,y6,e6,t6⟩:=hf 6 _ rfl;obtain⟨b6,q6,-⟩:=y8 Tryz.underlying4 t6;obtain rfl:c6=.bool b6:=by simpa using q6
 obtain⟨c7,y7,e7,t7⟩:=hf 7 _ rfl;obtain⟨b7,l7,p7,zz,rfl,r7⟩:=eb Tryz.underlying59 Tryz.underlying9 an t7;unfold maxLen at s0 s2 s3 s5;refine⟨⟨b0,b1,b2,b3,b4,b5,b6,zz⟩,fun i f hi=>?_⟩;rcases i with _|_|_|_|_|_|_|_|i
 ·exact kC
 ·cases hi;exact⟨_,(hc 1 af).trans e1,rfl⟩
 ·exact lW
 ·cases hi;exact⟨_,(hc 3 af).trans e3,rfl,show b3.size<=_ by omega⟩
 ·cases hi;exact⟨_,(hc 4 af).trans e4,rfl⟩
 ·cases hi;exact⟨_,(hc 5 af).trans e5,rfl,show b5.size<=_ by omega⟩
 ·cases hi;exact⟨_,(hc 6 af).trans e6,rfl⟩
 ·cases hi;exact⟨_,(hc 7 af).trans e7,b7,l7,p7,rfl,r7⟩
 ·first|(cases hi;done)|(simp[vdF] at hi;done)

theorem sE {n:Nat} {c:Value} {y:DataW H×List MemPlace} (h:yH enc Tryz.prog w base spare held n 24 [c]=some y):∃a len cap,∃xs:List Vd,c=.slice a len cap/\aF w a len cap 8 (xs.map vdF):=by
 rcases open_slice Tryz.underlying24 h with ⟨hcs,_⟩|⟨a,len,cap,m,n',D,Pl,hcs,hb,hl,hm,hmm,_,hx⟩
 ·exact gQ
 obtain⟨hlm,hm'⟩:=iB;have hce:Tryz.prog.cellsOf 95=8:=an
 rw[hce] at hx;by_cases h0:len=0
 ·exact gP
 obtain⟨b,o,spot⟩:=a;obtain⟨cs0,k1,k2⟩:=hx 0 af;have hspot:spot=none:=by
  exact gU
 subst hspot;have hblt:b<w.heap.size:=by
  exact gV
 have each:∀i,i<len->∃v:Vd,RAt w b (o+i*8) (vdF v):=fun i hi=>by
  obtain⟨cs,k1,k2⟩:=hx i af;obtain⟨_,hl0,hc0⟩:=World.cells?_some k1;refine lz (fun j hj=>?_) k2;exact gR
 have hin:Inhabited Vd:=⟨⟨⟨#[]⟩,0,⟨#[]⟩,⟨#[]⟩,false,⟨#[]⟩,false,[]⟩⟩;exact kP

theorem lr {b o n:Nat} {cs:List Value} {x:DataW H×List MemPlace} (hc:∀i,i<5->w.cell? ⟨b,o+i,none⟩=cs[i]?) (h:yH enc Tryz.prog w base spare held n 98 cs=some x):∃v:Xd,RAt w b o (xdF v):=by
 obtain⟨m,hl,hf⟩:=dB Tryz.underlying98 an an h;obtain⟨c0,y0,e0,t0⟩:=hf 0 _ rfl;obtain⟨b0,q0,-,s0⟩:=yh Tryz.underlying9 t0;obtain rfl:c0=.string b0:=by simpa using q0
 obtain⟨c1,y1,e1,t1⟩:=hf 1 _ rfl;obtain⟨b1,q1,-,s1⟩:=yV Tryz.underlying2 t1;obtain rfl:c1=.int .i64 b1:=by simpa using q1
 obtain⟨c2,y2,e2,t2⟩:=hf 2 _ rfl;obtain⟨b2,q2,-,s2⟩:=yh Tryz.underlying9 t2;obtain rfl:c2=.string b2:=by simpa using q2
 obtain⟨c3,y3,e3,t3⟩:=hf 3 _ rfl;obtain⟨b3,q3,-⟩:=y8 Tryz.underlying4 t3;obtain rfl:c3=.bool b3:=by simpa using q3
 obtain⟨c4,y4,e4,t4⟩:=hf 4 _ rfl;obtain⟨b4,q4,-,s4⟩:=yh Tryz.underlying9 t4;obtain rfl:c4=.string b4:=by simpa using q4
 unfold maxLen at s0 s2 s4;refine⟨⟨b0,b1,b2,b3,b4⟩,fun i f hi=>?_⟩;rcases i with _|_|_|_|_|i
 ·exact kC
 ·cases hi;exact⟨_,(hc 1 af).trans e1,rfl⟩
 ·exact lW
 ·cases hi;exact⟨_,(hc 3 af).trans e3,rfl⟩
 ·cases hi;exact⟨_,(hc 4 af).trans e4,rfl,show b4.size<=_ by omega⟩
 ·first|(cases hi;done)|(simp[xdF] at hi;done)

theorem sD {n:Nat} {c:Value} {y:DataW H×List MemPlace} (h:yH enc Tryz.prog w base spare held n 25 [c]=some y):∃a len cap,∃xs:List Xd,c=.slice a len cap/\aF w a len cap 5 (xs.map xdF):=by
 rcases open_slice Tryz.underlying25 h with ⟨hcs,_⟩|⟨a,len,cap,m,n',D,Pl,hcs,hb,hl,hm,hmm,_,hx⟩
 ·exact gQ
 obtain⟨hlm,hm'⟩:=iB;have hce:Tryz.prog.cellsOf 98=5:=an
 rw[hce] at hx;by_cases h0:len=0
 ·exact gP
 obtain⟨b,o,spot⟩:=a;obtain⟨cs0,k1,k2⟩:=hx 0 af;have hspot:spot=none:=by
  exact gU
 subst hspot;have hblt:b<w.heap.size:=by
  exact gV
 have each:∀i,i<len->∃v:Xd,RAt w b (o+i*5) (xdF v):=fun i hi=>by
  obtain⟨cs,k1,k2⟩:=hx i af;obtain⟨_,hl0,hc0⟩:=World.cells?_some k1;refine lr (fun j hj=>?_) k2;exact gR
 have hin:Inhabited Xd:=⟨⟨⟨#[]⟩,0,⟨#[]⟩,false,⟨#[]⟩⟩⟩;exact kP

theorem l9 {b o n:Nat} {cs:List Value} {x:DataW H×List MemPlace} (hc:∀i,i<6->w.cell? ⟨b,o+i,none⟩=cs[i]?) (h:yH enc Tryz.prog w base spare held n 101 cs=some x):∃v:Pd,RAt w b o (pdF v):=by
 obtain⟨m,hl,hf⟩:=dB Tryz.underlying101 an an h;obtain⟨c0,y0,e0,t0⟩:=hf 0 _ rfl;obtain⟨b0,q0,-,s0⟩:=yh Tryz.underlying9 t0;obtain rfl:c0=.string b0:=by simpa using q0
 obtain⟨c1,y1,e1,t1⟩:=hf 1 _ rfl;obtain⟨b1,q1,-,s1⟩:=yV Tryz.underlying2 t1;obtain rfl:c1=.int .i64 b1:=by simpa using q1
 obtain⟨c2,y2,e2,t2⟩:=hf 2 _ rfl;obtain⟨b2,q2,-,s2⟩:=yh Tryz.underlying9 t2;obtain rfl:c2=.string b2:=by simpa using q2
 obtain⟨c3,y3,e3,t3⟩:=hf 3 _ rfl;obtain⟨b3,l3,p3,zz,rfl,r3⟩:=eb Tryz.underlying59 Tryz.underlying9 an t3;obtain⟨c4,y4,e4,t4⟩:=hf 4 _ rfl;obtain⟨b4,q4,-,s4⟩:=yh Tryz.underlying9 t4;obtain rfl:c4=.string b4:=by simpa using q4
 obtain⟨c5,y5,e5,t5⟩:=hf 5 _ rfl;obtain⟨b5,q5,-,s5⟩:=yV Tryz.underlying2 t5;obtain rfl:c5=.int .i64 b5:=by simpa using q5
 unfold maxLen at s0 s2 s4;refine⟨⟨b0,b1,b2,zz,b4,b5⟩,fun i f hi=>?_⟩;rcases i with _|_|_|_|_|_|i
 ·exact kC
 ·cases hi;exact⟨_,(hc 1 af).trans e1,rfl⟩
 ·exact lW
 ·cases hi;exact⟨_,(hc 3 af).trans e3,b3,l3,p3,rfl,r3⟩
 ·cases hi;exact⟨_,(hc 4 af).trans e4,rfl,show b4.size<=_ by omega⟩
 ·cases hi;exact⟨_,(hc 5 af).trans e5,rfl⟩
 ·first|(cases hi;done)|(simp[pdF] at hi;done)

theorem sF {n:Nat} {c:Value} {y:DataW H×List MemPlace} (h:yH enc Tryz.prog w base spare held n 26 [c]=some y):∃a len cap,∃xs:List Pd,c=.slice a len cap/\aF w a len cap 6 (xs.map pdF):=by
 rcases open_slice Tryz.underlying26 h with ⟨hcs,_⟩|⟨a,len,cap,m,n',D,Pl,hcs,hb,hl,hm,hmm,_,hx⟩
 ·exact gQ
 obtain⟨hlm,hm'⟩:=iB;have hce:Tryz.prog.cellsOf 101=6:=an
 rw[hce] at hx;by_cases h0:len=0
 ·exact gP
 obtain⟨b,o,spot⟩:=a;obtain⟨cs0,k1,k2⟩:=hx 0 af;have hspot:spot=none:=by
  exact gU
 subst hspot;have hblt:b<w.heap.size:=by
  exact gV
 have each:∀i,i<len->∃v:Pd,RAt w b (o+i*6) (pdF v):=fun i hi=>by
  obtain⟨cs,k1,k2⟩:=hx i af;obtain⟨_,hl0,hc0⟩:=World.cells?_some k1;refine l9 (fun j hj=>?_) k2;exact gR
 have hin:Inhabited Pd:=⟨⟨⟨#[]⟩,0,⟨#[]⟩,[],⟨#[]⟩,0⟩⟩;exact kP

end

end Rc
end Go.Proofs.YtbbdcjbfnjlndaaGreatDoor

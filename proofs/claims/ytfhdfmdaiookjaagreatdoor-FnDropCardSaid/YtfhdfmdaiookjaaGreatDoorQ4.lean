import Derived.Test.YtfhdfmdaiookjaaGreatDoorQ3
import Derived.Lib.Overlaps
import Derived.Lib.SliceRun
import Derived.Lib.AppendZerosOnto
import Derived.Deep.RegionLaw
import Derived.Shelf.RegionOpenPlain
import Derived.Test.YtfhdfmdaiookjaaGreatDoorRows
import Derived.WalkKit
import Derived.Maps.OwnSet
import Derived.DeepKeys4
import Derived.WideKeyEntry
import Derived.OpenShut
import Derived.Deep.CutRange
/-
 slices.Insert over a row of records that is the call's own: one record more, in its place.
-/
set_option maxRecDepth 100000
set_option maxHeartbeats 12800000
open Bool renaming false→Y_,true→Zb
open Go.Ending renaming returned→Za
open Go.IntKind renaming i64→Y6
open Go.Obj renaming cells→Y8
open Go.Value renaming string→I,slice→J,int→Y7,bool→Y9,agg→Zc,pointer→Zf,tuple→Zg
open Option renaming none→U,some→Y5
open Or renaming inr→Zd,inl→Ze
open And renaming intro→Yb
open Array renaming getElem?_push_size→Yg, getD_eq_getD_getElem?→Yr, getElem?_eq_some_iff→Yw
open Bool renaming and_eq_true→YG
open Classical renaming byContradiction→YH
open Go.Addr renaming add_lit→Yn
open Go.Calls renaming quiet_of_same→Yz
open Go.Op renaming bytesLess→Yk
open Go.Region renaming wanted→YP, ready→YQ
open Go.RowKit.Below renaming heap_setCell→Ya, refl→Yh, heap_alloc→Yl
open Go.Value renaming string→Ym, ownBlock→YL
open List renaming getElem?_eq_some_iff→Yc, lookup→Yf, getElem?_eq_getElem→Yi, length_map→Yo, mem_of_getElem?→Ys, setIfInBounds_toArray→Yt, getElem?_append_left→Yu, getElem?_map→Yv, drop_eq_nil_of_le→Yx, getElem?_take→YA, set_cons_zero→YC, getElem?_of_mem→YD, set_cons_succ→YE, length_take→YF, forall_mem_cons→YI, take_of_length_le→YJ, take_add_one→YN, mem_cons→YO, foldr→YT
open Nat renaming le_refl→Ye, lt_of_lt_of_le→Yj, le_trans→Yp, zero_add→Yq, le_succ→Yy, zero_le→YK
open Option renaming map_eq_some_iff→YB
open Option.some renaming inj→Yd
namespace Go.Proofs.YtfhdfmdaiookjaaGreatDoor
variable {p:Prop}
namespace Mk
end Mk
open Go.RowKit Mk Go.ChangeMaps Go.MapKept Go.WideShapes
open Go.WideElems (Fit rd rg pl)
open Go.WideMaps (KeyLaw)
open Go.Maps (Keyed)
variable {α:Type} {B b k n:Nat} {P:Nat->Nat} {S:Lit->Prop} {c:Rc.Cl} {d:Rc.Ad} {l:Lit} {ns:List Rc.Nd} {ps:List Rc.Pd} {t:ByteArray} {v:Vd} {w w':World} {nm:α->ByteArray}
theorem fD(h:p:=by rcases s with s|s <;> omega):p:=h
theorem NR(h:p:=by simp[results,Tryz.results5,go_sem, *]):p:=h
theorem z8(h:p:=by simp[Act.eval,Act.put]):p:=h
theorem ag7(h:p:=by simp only[List.length_append,YF,List.length_drop];omega):p:=h
theorem ahV(h:p:=by
 go_enter Tryz.func104,Tryz.ntmps104;go_wp2_with (first|(at_builtin;refine dA rfl _ _ 63 25 rfl base 38 38 i0 (Zc #[I ⟨#[]⟩,Y7 Y6 0,I ⟨#[]⟩,I ⟨#[]⟩,Y9 Y_,I ⟨#[]⟩,Y9 Y_,J U 0 0]) 8 112 Tryz.underlying63 Tryz.underlying25 HI0.1 HI0.2.1 HI0.2.2.1 HI0.2.2.2 rfl ag _ _ _ rfl HO.out ⟨vb,0,U⟩ 1 1 ys rfl af HYN.out HY1.out bj af hbs ?_));intro v' w' h1 h2;have H1:=aa h1;have H2:=aa h2;clear h1 h2;go_wp2;go_ret;exact⟨v',rfl,H1.out,H2.out⟩):p:=h
theorem QG(h:p:=by
 have HH:=aa hh;clear hh;have z182z:=@aa _ @ae3;exact fc):p:=h
theorem Qu(h:p:=by
 constructor
 ·rintro⟨i,s,hi,hs,a,e⟩;by_cases hik:i=k
  ·subst hik;rw[h] at hs;obtain rfl:=Yd hs;exact absurd a hy
  ·exact⟨i,s,by omega,hs,a,e⟩
 ·rintro⟨i,s,hi,hs,a,e⟩;exact⟨i,s,by omega,hs,a,e⟩):p:=h
theorem Qb(h:p:=by
 have hq1:(0:Int)<q:=af
 have ev:=(HE.below HB.out).v5;have evl:=bG ev;go_wp2;go_ret;exact⟨HB.out,Ze ⟨5,by decide,⟨by decide,HK.out⟩,rfl⟩⟩):p:=h
theorem wL(h:p:=by
 exact h9.bm (λk _ s=>by have s1:w1.heap.size<=k:=s;show w.heap.size<=k;omega)):p:=h
theorem P8(h:p:=by
 obtain⟨n,hn,hH⟩:=hH1.out;exact⟨0,by omega,rfl,⟨n,by omega,hH.to (λl=>⟨Ze,λh=>h.elim id (λ⟨i,t,h,_⟩=>by omega)⟩)⟩,hk1,hv1,hb1⟩):p:=h
theorem P6(h:p:=by
 rintro⟨i,s,hi,hs,a,e⟩;by_cases hik:i=k
 ·subst hik;rw[h] at hs;obtain rfl:=Yd hs;exact Zd e
 ·exact Ze ⟨i,s,by omega,hs,a,e⟩):p:=h
theorem PI(h:p:=by
 simp[Instr.lookup,run_underlying Tryz.underlying92,MapKept.run_getObj_map hb,qG.check w _ hkey,h1,Result.andThen]):p:=h
theorem N6(h:p:=by
 have fo0:=al Bo.out 0;have fo1:=al Bo.out 1;have fo2:=al Bo.out 2;have fo3:=al Bo.out 3;have fo4:=al Bo.out 4;have fo5:=al Bo.out 5;exact Yb fo0 (Yb fo1 (Yb fo2 (Yb fo3 (Yb fo4 fo5))))):p:=h
theorem N3(h:p:=by
 have hne:¬w.heap.size+1=w2.heap.size:=af
 have hne2:¬w2.heap.size=w.heap.size+1:=af
 exact Yb hne hne2):p:=h
theorem Og(h:p:=by
 have HP:=aa hP;have hq1:w.heap.size+1<w1.heap.size:=HQ1.out;have hq2:w1.heap.size<=w2.heap.size:=HQ2.out;exact Yb HP (Yb hq1 hq2)):p:=h
theorem afE(h:p:=by
 go_wp2;exact bodyPost_ret (v:=Zc #[J U 0 0,J U 0 0,J U 0 0,J U 0 0,J U 0 0,Y7 Y6 0,I ⟨#[]⟩,Y7 Y6 cc]) NR rfl ⟨ad0,co0 cc,rfl,HV.out,agr _ _,sb1 (sb1 (sb1 (sb1 (sb1 (sb1 (sb1 (sb1 (HB.out))))))))⟩):p:=h
theorem lL(h:p:=by
 have z1516z:=@aa _ @FY;exact jH):p:=h
theorem afz(h:p:=by
 have HT:=aa hT;have HVR:=aa hv;clear hT hv;have h16:l1<=8:=by have:=HT.sm.n;omega
 have hmk:=@run_makeMap Tryz.prog;go_enter Tryz.func63,Tryz.ntmps63;go_upto_if 13 with fail;have hH0:Hid (Um.Has (((w.alloc (Y8 (clo6 a1 l1 y1 a2 l2 y2 a3 l3 y3 a4 l4 y4 a5 l5 y5 c.now) 29)).alloc (Y8 (vov v ea el ec) 38)).alloc (.map #[] 0)) (w.heap.size+1+1) 0 (λ_=>False)):=by
  have h:=Um.Has.made ((w.alloc (Y8 (clo6 a1 l1 y1 a2 l2 y2 a3 l3 y3 a4 l4 y4 a5 l5 y5 c.now) 29)).alloc (Y8 (vov v ea el ec) 38));rw[show ((w.alloc (Y8 (clo6 a1 l1 y1 a2 l2 y2 a3 l3 y3 a4 l4 y4 a5 l5 y5 c.now) 29)).alloc (Y8 (vov v ea el ec) 38)).heap.size=w.heap.size+1+1 by simp] at h;exact h
 have hk0:Hid ((((w.alloc (Y8 (clo6 a1 l1 y1 a2 l2 y2 a3 l3 y3 a4 l4 y4 a5 l5 y5 c.now) 29)).alloc (Y8 (vov v ea el ec) 38)).alloc (.map #[] 0)).heap[w.heap.size]?=Y5 (Y8 (clo6 a1 l1 y1 a2 l2 y2 a3 l3 y3 a4 l4 y4 a5 l5 y5 c.now) 29 (0,0))):=lS w _ _ _;have hv0:Hid ((((w.alloc (Y8 (clo6 a1 l1 y1 a2 l2 y2 a3 l3 y3 a4 l4 y4 a5 l5 y5 c.now) 29)).alloc (Y8 (vov v ea el ec) 38)).alloc (.map #[] 0)).heap[w.heap.size+1]?=Y5 (Y8 (vov v ea el ec) 38 (0,0))):=jX w _ _ _;have hb0:Hid (Below w.heap.size w (((w.alloc (Y8 (clo6 a1 l1 y1 a2 l2 y2 a3 l3 y3 a4 l4 y4 a5 l5 y5 c.now) 29)).alloc (Y8 (vov v ea el ec) 38)).alloc (.map #[] 0))):=dj w _ _ _;go_cut [5] from 13 to 22 (λs wx=>s=.map (Y5 (w.heap.size+1+1))/\Hid (∃n,n<=1/\Um.Has wx (w.heap.size+1+1) n (ClU v))/\Hid (wx.heap[w.heap.size]?=Y5 (Y8 (clo6 a1 l1 y1 a2 l2 y2 a3 l3 y3 a4 l4 y4 a5 l5 y5 c.now) 29 (0,0)))/\Hid (wx.heap[w.heap.size+1]?=Y5 (Y8 (vov v ea el ec) 38 (0,0)))/\Hid (Below w.heap.size w wx));case first=>
  by_cases hm:v.m=⟨#[]⟩
  ·have hm2:(!v.m.toList.isEmpty)=Y_:=by rw[cC hm];rfl
   rw[hm2];go_wp2_with fail;go_meet;exact⟨rfl,⟨0,by omega,hH0.to (λl=>⟨False.elim,λh=>h.1 hm⟩)⟩,hk0.out,hv0.out,hb0.out⟩
  ·have hm2:(!v.m.toList.isEmpty)=Zb:=by rw[aY hm];rfl
   rw[hm2];have hH:Um.Has (((w.alloc (Y8 (clo6 a1 l1 y1 a2 l2 y2 a3 l3 y3 a4 l4 y4 a5 l5 y5 c.now) 29)).alloc (Y8 (vov v ea el ec) 38)).alloc (.map #[] 0)).drew (w.heap.size+1+1) 0 (λ_=>False):=hH0.ay rfl;obtain⟨cn,st,W1,W3,e1,e2,e3,e4,hH3,hg3⟩:=hH.bump bj 2 v.m BX bj;have e5:=lT e4;have HH3:=aa hH3;have HG3:=aa hg3;clear hH hH3 hg3 e4;go_wp2_with fail;go_region;all_goals (
    go_wp2_with fail
    go_meet
    exact⟨rfl,⟨1,by omega,HH3.to (λl=>⟨λh=>h.elim False.elim (λe=>⟨hm,e⟩),λh=>Zd h.2⟩)⟩,eo HG3.out hk0.out af,eo HG3.out hv0.out af,fH HG3.out (Below.AF hb0.out) af⟩)
 case rest=>
  obtain⟨hs5,hH1,hk1,hv1,hb1⟩:=hcut;subst hs5;clear hH0 hk0 hv0 hb0;obtain⟨k0,k1,k2,k3,k4,k5⟩:=cs6 hk1;obtain⟨q0,q1,q2,q3,q4,q5,q6,q7⟩:=cs8 hv1;go_wp2_with fail;go_loopw [25] (λvi wr=> ∃(k:Nat),k<=el/\vi=Y7 Y6 k/\Hid (∃n,n<=1+k/\Um.Has wr (w.heap.size+1+1) n (λl=>ClU v l\/OnU v.zs k l))/\Hid (wr.heap[w.heap.size]?=Y5 (Y8 (clo6 a1 l1 y1 a2 l2 y2 a3 l3 y3 a4 l4 y4 a5 l5 y5 c.now) 29 (0,0)))/\Hid (wr.heap[w.heap.size+1]?=Y5 (Y8 (vov v ea el ec) 38 (0,0)))/\Hid (Below w.heap.size w wr)) (λvi _=>el - (intOf vi).toNat);case atStart=>
   exact P8
  case round=>
   clear hH1 hk1 hv1 hb1 k0 k1 k2 k3 k4 k5 q0 q1 q2 q3 q4 q5 q6 q7;obtain⟨k,hk,rfl,hH1,hk1,hv1,hb1⟩:=hrel;by_cases hlt:k<el
   ·obtain⟨b2,o2,t,rfl,hb2,hx2,hc2,hsz2⟩:=(HVR.below hb1.out).at hlt;have hk3:(k:Int)<el:=af
    obtain⟨n,hn,hH⟩:=hH1.out;obtain⟨cn,st,W1,W3,e1,e2,e3,e4,hH3,hg3⟩:=(hH.ay (w':=wr.drew) rfl).bump bj 3 t BU bj;have e5:=lT e4;have HX2:=aa hx2;have HH3:=aa hH3;have HG3:=aa hg3;clear hH hH3 hg3 e4 hx2 hsz2;go_wp2_with fail;go_region;all_goals (
     go_wp2
     refine⟨⟨k+1,by omega,by go_num,⟨n+1,by omega,HH3.to (λl=>?_)⟩,eo HG3.out hk1.out af,eo HG3.out hv1.out af,fH HG3.out (Below.AF hb1.out) af⟩,by simp[intOf];omega⟩
     rw[OnU.step HX2.out,or_assoc])
   obtain rfl:el=k:=af
   have hzl:v.zs.length=el:=HVR.1;rw[<-hzl] at hH1;clear hlt hk;obtain⟨k0,k1,k2,k3,k4,k5⟩:=cs6 hk1;obtain⟨q0,q1,q2,q3,q4,q5,q6,q7⟩:=cs8 hv1;go_wp2_with fail;obtain⟨W1,hW1⟩:∃W1,W1=wr:=⟨_,rfl⟩;subst hW1;go_loopw [40] (λvi wr=> ∃(j:Nat),j<=l1/\vi=Y7 Y6 j/\Hid (∃n,n<=1+el+j/\Um.Has wr (w.heap.size+1+1) n (λl=>(ClU v l\/OnU v.zs v.zs.length l)\/MoU c.ns v.n j l))/\Hid (wr.heap[w.heap.size]?=Y5 (Y8 (clo6 a1 l1 y1 a2 l2 y2 a3 l3 y3 a4 l4 y4 a5 l5 y5 c.now) 29 (0,0)))/\Hid (wr.heap[w.heap.size+1]?=Y5 (Y8 (vov v ea el ec) 38 (0,0)))/\Hid (Below w.heap.size w wr)) (λvi _=>l1 - (intOf vi).toNat);case atStart=>
    exact P8
   case round=>
    clear hH1 hk1 hv1 hb1 k0 k1 k2 k3 k4 k5 q0 q1 q2 q3 q4 q5 q6 q7;obtain⟨j,hj,rfl,hH1,hk1,hv1,hb1⟩:=hrel;by_cases hlt:j<l1
    ·obtain⟨b,o,x,rfl,hb,hx,hat⟩:=dh (HR.n.below hb1.out) hlt;obtain⟨va,vl,vc,hvr,z0,z1,c0,c1,c2,c3,c4,c5,c6⟩:=bg hat;obtain⟨HXx,HTx,HZx0⟩:=gZ;have HZx1:=aa z1;clear hat hx z0 z1 hvr;have hk3:(j:Int)<l1:=af
     obtain⟨k0,k1,k2,k3,k4,k5⟩:=cs6 hk1;obtain⟨q0,q1,q2,q3,q4,q5,q6,q7⟩:=cs8 hv1;have ltk:=ae hk1.out;have ltv:=ae hv1.out;have hbw:=hb;clear hb;go_wp2_with fail;refine (cM va vl vc x.zs v.n _ (HTx.below (ak _ _))).mono ?_;rintro e w2 ⟨r,rfl,hi,hb⟩;obtain⟨HA0,hbx⟩:=aV hb;have Bx:=aa HA0;have HI:=aa hi;have hk2:=aa ((hbx.block _ ltk).trans hk1.out);have hv2:=aa ((hbx.block _ ltv).trans hv1.out);have hb2:=upB hb1 hbx;obtain⟨n,hn,hH⟩:=hH1.out;have HH2:=aa (hH.below hbx);clear hb hi HA0 k0 k1 k2 k3 k4 k5 q0 q1 q2 q3 q4 q5 q6 q7 ltk ltv hH hbx c0 c1 c2 c3 c4 c5 c6 hbw;obtain⟨x0,x1,x2,x3,x4,x5,x6⟩:=cs7 Bx;have ltx:=ae Bx.out;cases r
     ·go_wp2;refine⟨⟨j+1,by omega,by go_num,⟨n,by omega,HH2.to (λl=>?_)⟩,hk2,hv2,hb2⟩,by simp[intOf];omega⟩;rw[MoU.no HXx.out (λh=>by have h9:=HI.2 h;cases h9)]
     ·obtain⟨cn,st,W2,W3,e1,e2,e3,e4,hH3,hg3⟩:=(HH2.ay (w':=w2.drew) rfl).bump bj 3 x.n BU (by unfold maxLen;have:=HZx0.out;omega);have e5:=lT e4;have HH3:=aa hH3;have HG3:=aa hg3;clear hH3 hg3 e4;go_wp2_with fail;go_region;all_goals (
       go_wp2
       refine⟨⟨j+1,by omega,by go_num,⟨n+1,by omega,HH3.to (λl=>?_)⟩,eo HG3.out hk2.out af,eo HG3.out hv2.out af,fH HG3.out (Below.AF hb2.out) af⟩,by simp[intOf];omega⟩
       rw[MoU.yes HXx.out (HI.1 bM),or_assoc])
    obtain rfl:j=l1:=af
    go_wp2;go_ret;obtain⟨n,hn,hH⟩:=hH1.out;exact⟨_,n,rfl,hH.to (λl=>by unfold xN;rw[hl1]),by omega,by omega,hb1.out⟩):p:=h
theorem afy(h:p:=by
 have HT:=aa hT;clear hT;have HB:=aa (Yh w.heap.size w);have h58:l5<=8:=by have:=HT.sm.p;omega
 go_enter Tryz.func52,Tryz.ntmps52;go_wp2_with fail;refine (qO ⟨a1,l1,y1,a2,l2,y2,a3,l3,y3,a4,l4,y4,a5,l5,y5⟩ c t w _ HR.out (ak _ _) HT.2.1.2.2.2.1.2.2 HT.2.1.2.2.1.2.2 (cq.ne HT.2.1)).mono ?_;rintro e w1 ⟨hb,hf⟩;have z1073z:=@aa _ @ML;exact fC):p:=h
theorem ae9(h:p:=by
 refine (agC d c t _ (HR.below (HB.trans ((ak _ _).mono HB.size))) HT.out ht).mono ?_;rintro e w2 ⟨b,m,S,rfl,hH,hS,hb⟩;obtain⟨q,hq,hq0,hq8⟩:=hH.len 3;have HQ:=aa (hq0.trans hS);clear hH hq0 hS hq8;have z735z:=@aa _ @Vw;exact iy):p:=h
theorem ae4(h:p:=by
 have z773z:=@aa _ @U5;exact ix):p:=h
theorem ae3(h:p:=by
 have ev:=(HE.below HB.out).v2;have evl:=bG ev;go_wp2;go_ret;exact⟨HB.alloc HB.size _,Ze ⟨2,by decide,⟨by decide,Ze ⟨rfl,HH.out⟩⟩,rfl⟩⟩):p:=h
theorem acx(h:p:=by
 have hrl:w.heap.size+1<w5.heap.size:=af
 obtain⟨hne,hne2⟩:=N3;go_wp2;refine bodyPost_ret (v:=Zc #[J d'.a1 d'.l1 d'.c1,J d'.a2 d'.l2 d'.c2,J a5 l5 c5,J a' l' c',J d'.a5 d'.l5 d'.c5,Y7 Y6 c.now,I ⟨#[]⟩,Y7 Y6 0]) NR rfl ⟨⟨d'.a1,d'.l1,d'.c1,d'.a2,d'.l2,d'.c2,a5,l5,c5,a',l',c',d'.a5,d'.l5,d'.c5⟩,⟨fJ c t vs,⟨#[]⟩,0⟩,rfl,HVS.out,?_,sb1 (sb1 (sb1 (sb1 (sb1 (sb1 (sb1 (sb1 (ah (show w.heap.size<=w2.heap.size by omega) (HB.out)))))))))⟩;have h9:=HCP.aml (o:=w2.heap.size) af (by show (if w2.heap.size+1<=w2.heap.size then 4 else if w2.heap.size=w2.heap.size then 0 else P w2.heap.size)=0;rw[if_neg af,if_pos rfl]) af HN5.out HX5.out (w6:=(((((((((w5.setCell ⟨w2.heap.size,2,U⟩ (J a5 l5 c5)).setCell ⟨w.heap.size+1,0,U⟩ (J d'.a1 d'.l1 d'.c1)).setCell ⟨w.heap.size+1,1,U⟩ (J d'.a2 d'.l2 d'.c2)).setCell ⟨w.heap.size+1,2,U⟩ (J a5 l5 c5)).setCell ⟨w.heap.size+1,3,U⟩ (J a' l' c')).setCell ⟨w.heap.size+1,4,U⟩ (J d'.a5 d'.l5 d'.c5)).setCell ⟨w.heap.size+1,5,U⟩ (Y7 Y6 c.now)).setCell ⟨w.heap.size+1,6,U⟩ (I ⟨#[]⟩)).setCell ⟨w.heap.size+1,7,U⟩ (Y7 Y6 0))) (λk h1 h2=>by rw[Ya _ _ _ _ (show k≠w.heap.size+1 by omega),Ya _ _ _ _ (show k≠w.heap.size+1 by omega),Ya _ _ _ _ (show k≠w.heap.size+1 by omega),Ya _ _ _ _ (show k≠w.heap.size+1 by omega),Ya _ _ _ _ (show k≠w.heap.size+1 by omega),Ya _ _ _ _ (show k≠w.heap.size+1 by omega),Ya _ _ _ _ (show k≠w.heap.size+1 by omega),Ya _ _ _ _ (show k≠w.heap.size+1 by omega),Ya _ _ _ _ (show k≠w2.heap.size by omega)]);exact wL):p:=h
theorem zH(h:p:=by
 obtain⟨r0,r1,r2,r3,r4,r5,r6,r7⟩:=cs8 Br;have ltr_5:=ae Br.out;obtain⟨o0,o1,o2,o3,o4,o5⟩:=cs6 Bo;have lto_5:=ae Bo.out;obtain⟨fr0,fr1,fr2,fr3,fr4,fr5,fr6,fr7⟩:=gJ;obtain⟨fo0,fo1,fo2,fo3,fo4,fo5⟩:=N6;exact z379z):p:=h
theorem acb(h:p:=by
 have hin:i<=cap:=af
 have htn:((i:Int)+1).toNat=i+1:=af
 have hb3:(i:Int)<=(cap:Int):=af
 have HF:=aa (Yb hrow hfin);clear hN hrow hfin hW3o hW3 hW2 hR3 hg2 hgN2 hR2l hR2 hv1 hg1 hgN hRt hRs hW1 hROW hG hcell hdl hie hg htk hcs HO;go_enter Tryz.func104,Tryz.ntmps104;go_wp2_with (first
  | (at_builtin;refine Lib.wpList_append_run _ rfl _ _ _ _ rfl _ _ rfl rfl _ _ (hrz _) ?_)
  | (at_builtin;refine wpList_copy_run _ rfl _ _ 63 25 rfl _ _ rfl rfl (hcpA _ _) ?_))
 go_region_law_o (refine iI rfl _ _ 63 63 rfl _ _ z8 z8 (hcpB 3 (G - (i+1)) (cap - i)) ?_)
 go_wp2
 go_ret;exact⟨_,rfl,HF.1,HF.2⟩):p:=h
theorem aca(h:p:=by
 have hin:i<=n:=af
 have htn:((i:Int)+1).toNat=i+1:=af
 have hb3:(i:Int)<=(n:Int)+1:=af
 have HG1:=aa hg1;have HW1:=aa hW1;have HC1:=aa hcur1;have HTK:=aa htk;clear hg hg1 hW1 hcur1 htk hv1 hcell hdl hie;go_enter Tryz.func104,Tryz.ntmps104;go_wp2_with (simp only[hov]);go_region_law_o (refine iI rfl _ _ 63 63 rfl _ _ z8 z8 (hcp1 (3) (cap - (i+1)) (cap - i)) ?_);go_wp2_with (at_builtin;refine wpList_copy_run _ rfl _ _ 63 25 rfl _ _ rfl rfl (hcp2 _ _) ?_);go_ret;refine⟨_,rfl,⟨?_,Or.inr ⟨g,cap,(cur1.take (i*8)++(ys++cur1.drop (i*8+8))).toArray,rfl,hbg,setRow_heap W1 g _ _ _ _ HG1.out,hroom,by unfold maxLen;omega,?_,?_⟩⟩,?_⟩
 ·simp only[List.length_append,YF,List.length_drop];omega
 ·simp only[List.size_toArray,List.length_append,YF,List.length_drop,hc1l];omega
 ·have e:=Q_ (a:=i*8) (b:=n*8) (c:=cap*8) (m:=8) (c1:=cur1) HTK.out (by rw[Array.length_toList,hcs]) af af hyl (by rw[HC1.out,show (i+1)*8=i*8+8 by omega]);rw[show (n+1)*8=n*8+8 by omega];simpa using e
 ·have h1:w.grownBy w.drew (Y5 g):=⟨rfl,rfl,rfl,Ye _,λ_ _ _=>rfl⟩;have h2:w.drew.grownBy W1 (Y5 g):=by rw[HW1.out];exact jY w.drew g _
  exact (h1.trans h2).trans (jY W1 g _)):p:=h
theorem zB(h:p:=by
 have mixed:Tryz.prog.follows .mixedOrders=Zb:=bf
 have hw1:IntKind.i64.wrap ((i:Int)+1)=(i:Int)+1:=by rw[IntKind.wrap_i64];omega
 have hb1:(0:Int)<=(i:Int)+1:=af
 exact z406z):p:=h
theorem ab_(h:p:=by
 rcases s with s|s
 ·exact⟨s.1.1,by show (if w2.heap.size+1<=k then 4 else if k=w2.heap.size then 0 else P k)=4;rw[if_neg af,if_neg af];exact s.1.2⟩
 ·exact⟨by show B<=k;omega,if_pos s⟩):p:=h
theorem p8(h:p:=by
 refine hN.ay (λk _ s=>hk k (by rcases s with s|s;exact s.1.1;omega) fD) (λk _ s=>?_);exact z409z):p:=h
theorem abq(h:p:=by
 have z1412z:=@aa _ @Im;exact mO):p:=h
theorem abp(h:p:=by
 refine (gN E i cc hcc _ (HE.below HB.out) hi8).mono ?_;rintro e w2 ⟨rfl,hb⟩;have z856z:=@aa _ @TZ;exact fS):p:=h
theorem abo(h:p:=by
 refine (AE ⟨a1,l1,y1,a2,l2,y2,a3,l3,y3,a4,l4,y4,a5,l5,y5⟩ c v ea el ec _ (HR.below (HB.trans ((ak _ _).mono HB.size))) HT.out (HVR.below (HB.trans ((ak _ _).mono HB.size))) hv8 hm9).mono ?_;rintro e w2 ⟨b,m,rfl,hH,hm1,hbl,hb⟩;have hbl2:w.heap.size+1<=b:=by have h1:=ae Bk.out;rw[cw] at hbl;omega
 have HH:=aa hH;clear hH hbl;clear k0 k1 k2 k3 k4 k5 ltk_1;obtain⟨HA0,hbx⟩:=aV hb;replace Bk:=upK Bk hbx;have Bv:=aa HA0;replace HB:=upB HB hbx;clear hb hbx HA0;obtain⟨W3,hdel,hH3,hg3⟩:=HH.del 2 t BX bj 0;have HH3:=aa hH3;have HG3:=aa hg3;clear hH3 hg3;have HK3:=aa (eo HG3.out Bk.out af);have HB3:=aa (fH HG3.out HB.out af);obtain⟨k0,k1,k2,k3,k4,k5⟩:=cs6 Bk;obtain⟨j0,j1,j2,j3,j4,j5⟩:=cs6 HK3;go_wp2_with fail;go_loopw [25] (λvi wr=> ∃(k:Nat),k<=l5/\vi=Y7 Y6 k/\Hid (∃n,n<=100+k/\Um.Has wr b n (λl=>(xN c v l/\¬l=Um.ul 2 t)\/PoU c.ps t k l))/\Hid (wr.heap[w.heap.size]?=Y5 (Y8 (clo6 a1 l1 y1 a2 l2 y2 a3 l3 y3 a4 l4 y4 a5 l5 y5 c.now) 29 (0,0)))/\Hid (Below w.heap.size w wr)) (λvi _=>l5 - (intOf vi).toNat);case atStart=>exact⟨0,by omega,rfl,⟨m,by omega,HH3.to (λl=>⟨Ze,λh=>h.elim id (λ⟨i,p,h,_⟩=>by omega)⟩)⟩,HK3,HB3⟩
 case round=>
  clear HH3 HG3 HK3 HB3 hdel HH Bk HB k0 k1 k2 k3 k4 k5 j0 j1 j2 j3 j4 j5 Bv;obtain⟨k,hk,rfl,hH1,hk1,hb1⟩:=hrel;by_cases hlt:k<l5
  ·obtain⟨b,o,x,rfl,hb,hx,hat⟩:=cg (HR.p.below hb1.out) hlt;have z1042z:=@aa _ @M9;exact cK
  obtain rfl:k=l5:=af
  go_wp2;go_ret;obtain⟨n,hn,hH⟩:=hH1.out;refine⟨_,n,_,rfl,hH,?_,hb1.out⟩;rw[<-hl5];exact BT HU.out):p:=h
theorem W_(h:p:=by
 rcases hf with ⟨hh,x,hx,hn,rfl,-⟩|⟨hh,rfl⟩;rotate_left
 ·exact QG
 have HH:=aa hh;clear hh hx hn;have z170z:=@aa _ @ae9;exact fW):p:=h
theorem V2(h:p:=by
 obtain⟨j,hj⟩:∃j,j=pl Vd.n xs x.n:=⟨_,rfl⟩;have hjn:j<=n:=by rw[hj,<-hxl];exact List.findIdx_le_length
 have HJ:=aa hj;have HFIN:Hid (∀(w4:World) v4 base,w.heap.size<=base->Below w.heap.size w w4->w4.ownsRow base 38 8 v4 (n+1) (vss.flatten.take (j*8)++[I x.n,Y7 Y6 x.c,I x.z,I x.k,Y9 x.x,I x.m,Y9 x.y,J va vl vc]++vss.flatten.drop (j*8))->∃a' c',v4=J a' (n+1) c'/\aw w4 a' (n+1) c' 8 38 ((aR (pl Vd.n xs x.n) x xs).map vdF) (λk=>(Q k\/Q2 k)\/w.heap.size<=k)):=λw4 v4 base hbs hB4 ho4=>by
  rw[<-BA HV.all af] at ho4;have hV4:=(HV.below hB4).ay (w':=w4) (S':=λk=>(Q k\/Q2 k)\/w.heap.size<=k) (λ_ _ _ _=>rfl) (λ_ _ s=>Ze (Ze s));obtain⟨H4,hV5⟩:=hV4.ins (p:=j) (r:=vdF x) (vs:=[I x.n,Y7 Y6 x.c,I x.z,I x.k,Y9 x.x,I x.m,Y9 x.y,J va vl vc]) (hh:=λ_=>hh) rfl rfl (λi f hf=>by
   obtain⟨v,h1,h2⟩:=HF.out i f hf
   exact⟨v,h1,h2.ay (λcu _ q=>hB4.block _ (ae q)) (λ_ s=>Ze (Zd s))⟩) (λi zs h hz k r i2 zs2 hr2 hz2 hne e=>by
  obtain⟨v,_,h2⟩:=HF.out i _ h;obtain⟨_,_,_,_,_,_,_,_,h3⟩:=h2;have hkv:k<vss.length:=by rw[HV.len];exact (Yc.1 hr2).1
  obtain⟨v',_,h5⟩:=HV.cell k r _ hr2 (Yi hkv) i2 _ hz2;obtain⟨_,_,_,_,_,_,_,_,h6⟩:=h5;rcases h3 with h3|⟨_,h3,_⟩
  ·exact hz h3
  ·rcases h6 with h6|⟨_,h6,_⟩
   ·exact hne h6
   ·rw[e] at h6;exact HQ.out _ h6 h3) (λi i2 zs zs2 h _ h2 _=>by
  rcases i with _|_|_|_|_|_|_|_|i <;> simp[vdF] at h <;> rcases i2 with _|_|_|_|_|_|_|_|i2 <;> simp[vdF] at h2 <;> rfl) ug
  exact ahQ
 have HCL:Hid (∀W,Below w.heap.size w W->∀(k:Nat) u,vss.flatten[k]?=Y5 u->∃g,a=Y5 ⟨g,0,U⟩/\W.cell? ⟨g,k,U⟩=Y5 u):=λW hW k u hu=>by
  obtain⟨g,h1,_,h3⟩:=HC.out k u hu;exact⟨g,h1,(ai hW (bG h3)).trans h3⟩
 have HV1:=aa HV.one;clear HV HC HF HQ hj;go_enter Tryz.func62,Tryz.ntmps62;go_wp2_with fail;refine (eH x va vl vc _).mono ?_;rintro e w1 ⟨rfl,hb1⟩;obtain⟨hn1,hbx⟩:=aV hb1;have HN1:=aa hn1;have HB1:=aa hbx;clear hb1 hn1 hbx;go_wp2_with fail;refine (k8 a n cap xs x.n _ (HR.below HB1.out)).mono ?_;rintro e w2 ⟨rfl,hb2⟩;have HN2:=aa ((hb2.block w.heap.size (ae HN1.out)).trans HN1.out);have HB2:=upB HB1 hb2;clear hb2 HN1 HB1;rw[<-HJ.out];generalize hit Vd.n xs x.n=bb;have hs2:=ae HN2.out;have HBD:Hid (Below w.heap.size w w2.drew):=Below.vj HB2.out;obtain⟨n0,n1,n2,n3,n4,n5,n6,n7⟩:=cs8 (show w2.drew.heap[w.heap.size]?=_ from HN2.out);have hcl1:Calls Tryz.prog 105 #[J a n cap] w2.drew λe w3=> ∃a3 c3,e=Za (J a3 n c3)/\Hid (w3.ownsRow w2.heap.size 38 8 (J a3 n c3) n vss.flatten)/\Hid (Below w.heap.size w w3)/\w2.heap.size<=w3.heap.size/\w.heap.size<w3.heap.size/\w3.heap[w.heap.size]?=Y5 (Y8 (vov x va vl vc) 38 (0,0)):=by
  refine (lj a n cap vss.flatten w2.drew hn hfl HV1.out (HCL.out _ HBD.out)).mono ?_;rintro e w3 ⟨a3,c3,rfl,ho3,hb3⟩;have hs3:w2.heap.size<=w3.heap.size:=hb3.size;exact⟨a3,c3,rfl,ho3,HBD.trans (hb3.mono HBD.size),hs3,by omega,(hb3.block w.heap.size hs2).trans (show w2.drew.heap[w.heap.size]?=_ from HN2.out)⟩
 have hcl2:Calls Tryz.prog 105 #[J a n cap] (w2.alloc (Y8 (vov x va vl vc) 38)).drew λe w3=> ∃a3 c3,e=Za (J a3 n c3)/\Hid (w3.ownsRow (w2.heap.size+1) 38 8 (J a3 n c3) n vss.flatten)/\Hid (Below w.heap.size w w3)/\w2.heap.size+1<=w3.heap.size/\Hid (w3.heap[w2.heap.size]?=Y5 (Y8 (vov x va vl vc) 38 (0,0))):=by
  have hbl:=Below.vj (HB2.alloc HB2.size (Y8 (vov x va vl vc) 38));have hsz:(w2.alloc (Y8 (vov x va vl vc) 38)).drew.heap.size=w2.heap.size+1:=aG
  refine (lj a n cap vss.flatten _ hn hfl HV1.out (HCL.out _ hbl)).mono ?_;rintro e w3 ⟨a3,c3,rfl,ho3,hb3⟩;have hs3:=hb3.size;rw[hsz] at ho3 hs3;exact⟨a3,c3,rfl,ho3,hbl.trans (hb3.mono hbl.size),hs3,(hb3.block w2.heap.size (by rw[hsz];omega)).trans (show (w2.alloc (Y8 (vov x va vl vc) 38)).drew.heap[w2.heap.size]?=_ from heap_alloc_new w2 _)⟩
 have hin1:∀(w3:World) a3 c3,w3.ownsRow w2.heap.size 38 8 (J a3 n c3) n vss.flatten->Below w.heap.size w w3->w2.heap.size<=w3.heap.size->Calls Tryz.prog 104 #[J a3 n c3,Y7 Y6 j,J (Y5 ⟨w3.heap.size,0,U⟩) 1 1] (w3.alloc (Y8 (vov x va vl vc) 38)) λe w4=> ∃a' c',e=Za (J a' (n+1) c')/\Hid (aw w4 a' (n+1) c' 8 38 ((aR (pl Vd.n xs x.n) x xs).map vdF) (λk=>(Q k\/Q2 k)\/w.heap.size<=k))/\Hid (Below w.heap.size w w4):=λw3 a3 c3 ho3 hB3 hs3=>by
  refine (pd a3 n c3 j w2.heap.size w3.heap.size vss.flatten [I x.n,Y7 Y6 x.c,I x.z,I x.k,Y9 x.x,I x.m,Y9 x.y,J va vl vc] (w3.alloc (Y8 (vov x va vl vc) 38)) (ho3.alloc _) hn hjn bL (heap_alloc_new w3 _) rfl dx HV1.out (λg hg e=>by
   have h9:=(ho3.lt g (by rw[hg];rfl)).2
   omega)).mono ?_
  rintro e w4 ⟨v4,rfl,ho4,hg4⟩;have hB5:=(hB3.alloc hB3.size (Y8 (vov x va vl vc) 38)).grown hg4 bL (λg hg=>by
   have h9:=(ho3.lt g hg).1
   omega)
  obtain⟨a',c',rfl,hR⟩:=HFIN.out w4 v4 _ af hB5 ho4;exact⟨a',c',rfl,hR,hB5⟩
 have hin2:∀(w3:World) a3 c3,w3.ownsRow (w2.heap.size+1) 38 8 (J a3 n c3) n vss.flatten->Below w.heap.size w w3->w2.heap.size+1<=w3.heap.size->w3.heap[w2.heap.size]?=Y5 (Y8 (vov x va vl vc) 38 (0,0))->Calls Tryz.prog 104 #[J a3 n c3,Y7 Y6 j,J (Y5 ⟨w2.heap.size,0,U⟩) 1 1] w3 λe w4=> ∃a' c',e=Za (J a' (n+1) c')/\Hid (aw w4 a' (n+1) c' 8 38 ((aR (pl Vd.n xs x.n) x xs).map vdF) (λk=>(Q k\/Q2 k)\/w.heap.size<=k))/\Hid (Below w.heap.size w w4):=λw3 a3 c3 ho3 hB3 hs3 hy3=>by
  refine (pd a3 n c3 j (w2.heap.size+1) w2.heap.size vss.flatten [I x.n,Y7 Y6 x.c,I x.z,I x.k,Y9 x.x,I x.m,Y9 x.y,J va vl vc] w3 ho3 hn hjn hs3 hy3 rfl dx HV1.out (λg hg e=>by
   have h9:=(ho3.lt g (by rw[hg];rfl)).1
   omega)).mono ?_
  rintro e w4 ⟨v4,rfl,ho4,hg4⟩;have hB5:=hB3.grown hg4 af (λg hg=>by
   have h9:=(ho3.lt g hg).1
   omega)
  obtain⟨a',c',rfl,hR⟩:=HFIN.out w4 v4 _ af hB5 ho4;exact⟨a',c',rfl,hR,hB5⟩
 have C1:=aa hcl1;have C2:=aa hcl2;have I1:=aa hin1;have I2:=aa hin2;clear hcl1 hcl2 hin1 hin2 HFIN HCL HR HJ HBD HB2;have mixed:Tryz.prog.follows .mixedOrders=Zb:=bf
 go_wp2;go_region_with (first
  | (go_at_call 105;refine C1.mono ?_;rintro e w3 ⟨a3,c3,rfl,HO3,HB3,hs3,hw3l,hx3⟩;obtain⟨m0,m1,m2,m3,m4,m5,m6,m7⟩:=cs8 hx3;clear hx3)
  | (go_at_call 105;refine C2.mono ?_;rintro e w3 ⟨a3,c3,rfl,HO3,HB3,hs3,HY3⟩)
  | (go_at_call 104;refine (I1.out w3 a3 c3 HO3.out HB3.out hs3).mono ?_;rintro e w4 ⟨a',c',rfl,HR5,HB5⟩)
  | (go_at_call 104;refine (I2.out w3 a3 c3 HO3.out HB3.out hs3 HY3.out).mono ?_;rintro e w4 ⟨a',c',rfl,HR5,HB5⟩))
 all_goals (
  go_wp2
  go_ret
  exact⟨a',_,c',rfl,HR5.out,HB5.out⟩)):p:=h
theorem VI(h:p:=by
 have hXl:=ho.1;have hnc:n<=cap/\cap<=9223372036854775807:=by
  rcases ho.2 with ⟨h1,h2⟩|⟨g,cp,cur,h1,_,_,h4,h5,_⟩
  ·cases h1;omega
  ·cases h1;unfold maxLen at h5;omega
 have hyn:∀(j:Nat) u,ys[j]?=Y5 u->w.cell? ((⟨vb,0,U⟩:Addr).add j)=Y5 u:=λj u hu=>by
  rw[Yn,an hy,Yq];simpa using hu
 have HYN:=aa hyn;have HO:=aa ho;have HY:=aa hy;have hvl:=ae hy;have HX1:=aa hX1;have HY1:=aa hy1;clear hyn ho hy hX1 hy1;by_cases hie:i=n
 ·subst hie;have e1:X.take (i*8)++ys++X.drop (i*8)=X++ys:=by rw[YJ af,List.drop_of_length_le af,List.append_nil]
  rw[e1];clear e1;have hc0:=hnc.1;have hq:cap=i\/¬cap=i:=Classical.em _;rcases hq with rfl|hcap
  ·exact ahV
  ·exact ahV
 have hil:i<n:=af
 obtain⟨g,cur,rfl,hbg,hg,hcs,htk⟩:∃g cur,a=Y5 ⟨g,0,U⟩/\base<=g/\w.heap[g]?=Y5 (Y8 cur 38 (0,0))/\cur.size=cap*8/\cur.toList.take (n*8)=X:=by
  rcases HO.2 with ⟨h1,h2⟩|⟨g,cp,cur,h1,h2,h3,h4,h5,h6,h7⟩
  ·cases h1;omega
  ·cases h1;exact⟨g,cur,rfl,h2,h3,h6,h7⟩
 have hvg:=hne g rfl;clear hne;have hcell:∀(j:Nat) u,X[j]?=Y5 u->w.cell? ⟨g,j,U⟩=Y5 u:=λj u hj=>by
  rw[an hg];rw[<-htk,YA] at hj;split at hj
  ·simpa using hj
  ·cases hj
 have hdl:(X.drop (i*8)).length=(n - i)*8:=by rw[List.length_drop,hXl,Nat.sub_mul]
 have hgl:=ae hg;by_cases hroom:n+1<=cap
 ·have hcp1:∀ty dc sc,(Builtin.copy_ #[63,63] ty #[J (Y5 ⟨g,(i+1)*8,U⟩) (n - i) dc,J (Y5 ⟨g,i*8,U⟩) (n+1 - i) sc]).run Tryz.prog w.drew=.ok (goInt (Nat.min (n+1 - i) (n - i))) (w.drew.setRow g (cur.toList.take ((i+1)*8)++X.drop (i*8)++cur.toList.drop ((i+1)*8+(X.drop (i*8)).length)).toArray):=λty dc sc=>
   ez w.drew 63 63 ty 38 g ((i+1)*8) (n - i) dc ⟨g,i*8,U⟩ (n+1 - i) sc 8 cur 38 (X.drop (i*8)) i0 Tryz.underlying63 HI0.1 HI0.2.2.1 hg (by rw[hdl];simp only[Nat.min_def];split <;> omega) (λj u hj=>by
    rw[List.getElem?_drop] at hj;rw[Yn]
    exact hcell _ u hj) (by rw[hdl,hcs];omega) (λu hu=>HX1.out u (List.mem_of_mem_drop hu))
  obtain⟨cur1,hcur1⟩:∃c1:List Value,c1=cur.toList.take ((i+1)*8)++X.drop (i*8)++cur.toList.drop ((i+1)*8+(X.drop (i*8)).length):=⟨_,rfl⟩;rw[<-hcur1] at hcp1;have hc1l:cur1.length=cap*8:=by rw[hcur1];simp only[List.length_append,YF,List.length_drop,hXl,Array.length_toList,hcs];omega
  obtain⟨W1,hW1⟩:∃W1,W1=w.drew.setRow g cur1.toArray:=⟨_,rfl⟩;rw[<-hW1] at hcp1;have hg1:W1.heap[g]?=Y5 (Y8 cur1.toArray 38 (0,0)):=by rw[hW1];exact setRow_heap w.drew g _ _ 38 _ hg
  have hv1:W1.heap[vb]?=w.heap[vb]?:=by rw[hW1];exact setRow_other w.drew g vb _ hvg
  have hcp2:∀ty dc,(Builtin.copy_ #[63,25] ty #[J (Y5 ⟨g,i*8,U⟩) (n+1 - i) dc,J (Y5 ⟨vb,0,U⟩) 1 1]).run Tryz.prog W1=.ok (goInt (Nat.min 1 (n+1 - i))) (W1.setRow g (cur1.take (i*8)++ys++cur1.drop (i*8+ys.length)).toArray):=λty dc=>by
   have:=ez W1 63 25 ty 38 g (i*8) (n+1 - i) dc ⟨vb,0,U⟩ 1 1 8 cur1.toArray 38 ys i0 Tryz.underlying63 HI0.1 HI0.2.2.1 hg1 (by rw[hyl];simp only[Nat.min_def];split <;> omega) (λj u hj=>by
    rw[Yn,an (hv1.trans HY.out),Yq]
    simpa using hj) (by simp only[List.size_toArray];rw[hc1l,hyl];omega) HY1.out
   simpa using this
  have hov:∀lb cb,(callFunc 154 #[J (Y5 ⟨vb,0,U⟩) 1 1,J (Y5 ⟨g,(i+1)*8,U⟩) lb cb]).run Tryz.prog w=.ok (.value (Y9 Y_)) w:=λlb cb=>by
   rw[run_callFunc_extern Tryz.func154 bf bf bf (e:=Extern.SlicesOverlaps.overlaps #[25,25] #[4]) bf,
    Lib.run_overlaps_apart w 25 4 38 Tryz.underlying25 8 (λw=>by kernel_rfl) ⟨vb,0,U⟩ ⟨g,(i+1)*8,U⟩ 1 1 lb cb hvg 38 38 ys.toArray.size cur.size (by simp[World.shape?,HY.out]) (by simp[World.shape?,hg]) (Nat.ne_of_gt (by rw[hcs];omega)) (al HY.out _) (al HY.out _)]
   rfl
  have hb2:¬cap=i+1:=af
  have hb4:¬cap=i:=af
  have hb6:¬((cap:Int)<(n:Int)+1):=af
  have z406z:=@aa _ @aca;exact zB
 have hcn:cap=n:=af
 subst hcn;obtain⟨N,hN⟩:∃N,N=w.heap.size:=⟨_,rfl⟩;obtain⟨G,hG⟩:∃G,G=grownCap w (cap+1) cap 38:=⟨_,rfl⟩;obtain⟨ROW,hROW⟩:∃R:Array Value,R=(X.take (i*8)).toArray++Builtin.zeroCells (Zc #[I ⟨#[]⟩,Y7 Y6 0,I ⟨#[]⟩,I ⟨#[]⟩,Y9 Y_,I ⟨#[]⟩,Y9 Y_,J U 0 0]:Value).cells (cap+1 - i)++Builtin.zeroCells (Zc #[I ⟨#[]⟩,Y7 Y6 0,I ⟨#[]⟩,I ⟨#[]⟩,Y9 Y_,I ⟨#[]⟩,Y9 Y_,J U 0 0]:Value).cells (G - (cap+1)):=⟨_,rfl⟩;obtain⟨W1,hW1⟩:∃W1,W1=w.drew.alloc (Y8 ROW 38):=⟨_,rfl⟩;have hGn:cap+1<=G:=by rw[hG];exact grownCap_ge w _ _ _
 have hG63:G<=9223372036854775807:=by
  have:=grownCap_le_maxLen w (cap+1) cap 38 bj;rw[<-hG] at this;unfold maxLen at this;omega
 have hRs:ROW.size=G*8:=by
  rw[hROW];simp only[Array.size_append,List.size_toArray,YF,size_zeroCells,hXl];rw[show (Zc #[I ⟨#[]⟩,Y7 Y6 0,I ⟨#[]⟩,I ⟨#[]⟩,Y9 Y_,I ⟨#[]⟩,Y9 Y_,J U 0 0]:Value).cells.size=8 from rfl];omega
 have hRt:ROW.toList.take (i*8)=X.take (i*8):=by
  rw[hROW,Array.toList_append,Array.toList_append,List.append_assoc];exact List.take_left' uh
 have hrz:∀ty,(Builtin.append_ #[63,3] ty #[J (Y5 ⟨g,0,U⟩) i cap,Y7 Y6 ((cap:Int)+1 - (i:Int))]).run Tryz.prog w=.ok (J (Y5 ⟨N,0,U⟩) (cap+1) G) W1:=λty=>by
  have hold:(Builtin.firstCells i0.size i (J (Y5 ⟨g,0,U⟩) i cap)).run Tryz.prog w.drew=.ok (X.take (i*8)).toArray w.drew:=by
   rw[HI0.2.2.1];exact run_firstCells_some w.drew 8 i ⟨g,0,U⟩ i cap (X.take (i*8)) uh (λj v hj=>by
    rw[Yn,Yq];rw[YA] at hj
    split at hj
    ·exact hcell j v hj
    ·cases hj)
  have h:=Lib.run_append_grow_zeros w 63 3 ty 38 i0 _ Y6 Y6 Tryz.underlying63 Tryz.underlying3 HI0.1 HI0.2.1 (Y5 ⟨g,0,U⟩) i cap (X.take (i*8)) hold (cap+1 - i) af (by rw[HI0.2.2.1];decide) af af (by rw[HI0.2.2.2];omega) (by rw[HI0.2.2.2];exact growslice_fits af af);rw[show i+(cap+1 - i)=cap+1 by omega,<-hG,<-hROW,<-hW1,<-hN] at h;rw[show (cap:Int)+1 - (i:Int)=((cap+1 - i:Nat):Int) by omega];exact h
 have hgN:W1.heap[N]?=Y5 (Y8 ROW 38 (0,0)):=by rw[hW1,hN];exact Go.heap_alloc_new w.drew _
 have hg1:W1.heap[g]?=w.heap[g]?:=by rw[hW1];exact Go.heap_alloc_old w.drew _ hgl
 have hv1:W1.heap[vb]?=w.heap[vb]?:=by rw[hW1];exact Go.heap_alloc_old w.drew _ hvl
 obtain⟨R2,hR2⟩:∃R2:List Value,R2=ROW.toList.take (i*8)++ys++ROW.toList.drop (i*8+ys.length):=⟨_,rfl⟩;obtain⟨W2,hW2⟩:∃W2,W2=W1.setRow N R2.toArray:=⟨_,rfl⟩;have hcpA:∀ty dc,(Builtin.copy_ #[63,25] ty #[J (Y5 ⟨N,i*8,U⟩) (cap+1 - i) dc,J (Y5 ⟨vb,0,U⟩) 1 1]).run Tryz.prog W1=.ok (goInt (Nat.min 1 (cap+1 - i))) W2:=λty dc=>by
  rw[hW2,hR2];exact ez W1 63 25 ty 38 N (i*8) (cap+1 - i) dc ⟨vb,0,U⟩ 1 1 8 ROW 38 ys i0 Tryz.underlying63 HI0.1 HI0.2.2.1 hgN (by rw[hyl];simp only[Nat.min_def];split <;> omega) (λj u hj=>by
   rw[Yn,an (hv1.trans HY.out),Yq]
   simpa using hj) (by rw[hRs,hyl];omega) HY1.out
 have hR2l:R2.length=G*8:=by
  rw[hR2];simp only[List.length_append,YF,List.length_drop,Array.length_toList,hRs,hyl];omega
 have hgN2:W2.heap[N]?=Y5 (Y8 R2.toArray 38 (0,0)):=by rw[hW2];exact setRow_heap W1 N _ _ 38 _ hgN
 have hgn:¬g=N:=af
 have hg2:W2.heap[g]?=w.heap[g]?:=by rw[hW2,setRow_other W1 N g _ hgn];exact hg1
 obtain⟨R3,hR3⟩:∃R3:List Value,R3=R2.take ((i+1)*8)++X.drop (i*8)++R2.drop ((i+1)*8+(X.drop (i*8)).length):=⟨_,rfl⟩;obtain⟨W3,hW3⟩:∃W3,W3=W2.drew.setRow N R3.toArray:=⟨_,rfl⟩;have hcpB:∀ty dc sc,(Builtin.copy_ #[63,63] ty #[J (Y5 ⟨N,(i+1)*8,U⟩) (cap - i) dc,J (Y5 ⟨g,i*8,U⟩) (cap - i) sc]).run Tryz.prog W2.drew=.ok (goInt (Nat.min (cap - i) (cap - i))) W3:=λty dc sc=>by
  have:=ez W2.drew 63 63 ty 38 N ((i+1)*8) (cap - i) dc ⟨g,i*8,U⟩ (cap - i) sc 8 R2.toArray 38 (X.drop (i*8)) i0 Tryz.underlying63 HI0.1 HI0.2.2.1 hgN2 (by rw[hdl];simp only[Nat.min_def];split <;> omega) (λj u hj=>by
   rw[List.getElem?_drop] at hj;have hc:=hcell _ u hj;rw[Yn];rw[<-hc]
   exact World.cell?_of_block (w:=w) (w':=W2.drew) hg2) (by rw[hdl,List.size_toArray,hR2l];omega) (λu hu=>HX1.out u (List.mem_of_mem_drop hu))
  rw[hW3,hR3];simpa only[List.toList_toArray] using this
 have hW3o:∀k,¬k=N->W3.heap[k]?=W1.heap[k]?:=λk hk=>by rw[hW3,setRow_other W2.drew N k _ hk];exact (congrArg (λz:World=>z.heap[k]?) hW2).trans (setRow_other W1 N k _ hk)
 have hfin:w.grownBy W3 (Y5 g):=by
  have h0:w.grownBy w.drew (Y5 g):=⟨rfl,rfl,rfl,Ye _,λ_ _ _=>rfl⟩;have h1:w.grownBy W1 (Y5 g):=by rw[hW1];exact h0.trans (World.grownBy_alloc w.drew _ _)
  refine⟨?_,?_,?_,?_,λk hk hkg=>(hW3o k af).trans (h1.block k hk hkg)⟩
  ·rw[hW3,hW2];exact h1.os
  ·rw[hW3,hW2];exact h1.tape
  ·rw[hW3,hW2];exact h1.output
  ·rw[hW3,hW2];exact Yp h1.size (by simp[World.setRow])
 have hrow:W3.ownsRow base 38 8 (J (Y5 ⟨N,0,U⟩) (cap+1) G) (cap+1) (X.take (i*8)++ys++X.drop (i*8)):=by
  refine⟨?_,Or.inr ⟨N,G,R3.toArray,rfl,by omega,by rw[hW3];exact setRow_heap W2.drew N _ _ 38 _ hgN2,hGn,by unfold maxLen;omega,?_,?_⟩⟩
  ·simp only[List.length_append,YF,List.length_drop];omega
  ·rw[hR3];simp only[List.size_toArray,List.length_append,YF,List.length_drop,hR2l];omega
  ·have e:=BB (a:=i*8) (b:=cap*8) (m:=8) (R2:=R2) hRt hXl af hyl hR2 (R2.drop ((i+1)*8+(X.drop (i*8)).length));rw[hR3,show (cap+1)*8=cap*8+8 by omega,show (i+1)*8=i*8+8 by omega];rw[show (i+1)*8=i*8+8 by omega] at e;simpa using e
 have hGi:¬G=i:=af
 have hGim:¬G=i+1:=af
 have hci:¬cap=i:=af
 have hz2:¬((i:Int)=(cap:Int)):=af
 have hz3:(cap:Int)<(cap:Int)+1:=af
 have z406z:=@aa _ @acb;exact zB):p:=h
theorem VH(h:p:=by
 have HX1:=aa hX1;have HXC:=aa hXc;have heq:=λw=>Lib.run_eql_slice_nil w 63 38 a n cap 0 0 Tryz.underlying63;clear hX1 hXc;cases a with
 | none=>
  obtain rfl:X=[]:=by
   rcases X with _|⟨u,X⟩
   ·rfl
   ·obtain⟨g,e,_⟩:=HXC.out 0 u rfl
    cases e
  obtain rfl:n=0:=by simp at hXl;omega
  go_enter Tryz.func105,Tryz.ntmps105
  go_wp2
  go_ret;exact⟨U,0,rfl,World.ownsRow_nil _ _ _ _,Yh _ _⟩
 | some ad=>
  obtain⟨ab,ao,asp⟩:=ad
  have hnew:∀(j:Nat) u,X[j]?=Y5 u->(w.alloc (Y8 #[] 38)).cell? ((⟨ab,ao,asp⟩:Addr).add j)=Y5 u:=λj u hu=>by
   obtain⟨g,e,hc⟩:=HXC.out j u hu
   cases e
   rw[Yn,Yq];have hlt:=bG hc;rw[<-hc];exact World.cell?_of_block (heap_alloc_old w _ hlt)
  have HN:=aa hnew;have HO:Hid ((w.alloc (Y8 #[] 38)).ownsRow w.heap.size 38 8 (J (Y5 ⟨w.heap.size,0,U⟩) 0 0) 0 []):=World.ownsRow_made w #[] 0 (Ye _) (YK _) aG;clear hnew HXC
  go_enter Tryz.func105,Tryz.ntmps105
  go_wp2_with (at_builtin;refine dA rfl _ _ 63 63 rfl w.heap.size 38 38 i0 (Zc #[I ⟨#[]⟩,Y7 Y6 0,I ⟨#[]⟩,I ⟨#[]⟩,Y9 Y_,I ⟨#[]⟩,Y9 Y_,J U 0 0]) 8 112 Tryz.underlying63 Tryz.underlying63 HI0.1 HI0.2.1 HI0.2.2.1 HI0.2.2.2 rfl ag _ _ _ rfl HO.out ⟨ab,ao,asp⟩ n cap X rfl hXl HN.out HX1.out bj af aG ?_)
  intro v' w' h1 h2
  obtain⟨a',c',rfl⟩:∃a' c',v'=J a' n c':=by
   rcases h1.2 with ⟨rfl,h0⟩|⟨g,cp,cu,rfl,_⟩
   ·exact⟨U,0,by rw[h0]⟩
   ·exact⟨_,_,rfl⟩
  have H1:=aa h1;have H2:=aa h2;clear h1 h2
  go_wp2
  go_ret;refine⟨a',c',rfl,H1.out,((ak w (Y8 #[] 38)).grown H2.out aG (λg hg=>?_))⟩
  simp[YL] at hg
  omega):p:=h
theorem Vw(h:p:=by
 have Bx:=aa HA0;replace HB:=upB HB hbx;clear hb hbx HA0;by_cases hz:q=0
 ·have HK:Hid (h_ c t):=⟨HH.out,HQ.1 hz⟩;subst hz;go_wp2;go_ret;exact⟨HB.out,Zd ⟨HK.out,rfl⟩⟩
 ·have HK:Hid (eW c t 5):=Zd ⟨rfl,HH.out,YH λh=>hz (HQ.2 h)⟩;exact Qb):p:=h
theorem U5(h:p:=by
 go_wp2_with fail;refine (om g c.now c.ks v.k w _ HK.out HB.out).mono ?_;rintro e w2 ⟨hb,hf⟩;have HBX:=aa hb;clear k0 k1 k2 k3 k4 k5 ltk_1 v0 v1 v2 v3 v4 v5 v6 v7 ltv_1;replace Bk:=upK Bk hb;replace Bv:=upK Bv hb;replace HB:=upB HB hb;clear hb;have hf2:∃(kn:ByteArray) (kx ky:Bool) (kz:ByteArray) (r:Bool),e=Za (Zg #[Zc #[I kn,Y9 kx,Y9 ky,I kz],Y9 r])/\(ky=Zb↔Kept c v):=by
  rcases hf with ⟨hh,x,hx,hn,rfl,-⟩|⟨hh,rfl⟩
  ·exact⟨_,_,_,_,_,rfl,λh=>⟨_,x,hx,hn,h⟩,λ⟨j,k,hj,hk,hy⟩=>by
    obtain⟨-,rfl⟩:=HRK.inj hx hj (hn.trans hk.symm)
    exact hy⟩
  ·exact⟨_,_,_,_,_,rfl,λh=>bU,λ⟨j,k,hj,hk,hy⟩=>by
    have h1:=(bo HRK.out hj hk).2;rw[hh] at h1
    cases h1⟩
 obtain⟨kn,kx,ky,kz,r,rfl,hky⟩:=hf2;have HKY:=aa hky;have HN2:=aa (HN.below HBX.out);clear hf hky;cases ky
 ·have z864z:=@aa _ @TQ;exact cr
 ·have z864z:=@aa _ @TP;exact cr):p:=h
theorem T0(h:p:=by
 obtain⟨P,hP⟩:=ho;obtain⟨HP,hq1,hq2⟩:=Og;clear hP;have z1227z:=@aa _ @KN;exact ef):p:=h
theorem TZ(h:p:=by
 clear hcc;have z140z:=@aa _ @afE;exact lL):p:=h
theorem fS(h:p:=by
 clear k0 k1 k2 k3 k4 k5 ltk_1;have z1444z:=@aa _ @Hq;exact ba):p:=h
theorem TQ(h:p:=by
 obtain⟨v0,v1,v2,v3,v4,v5,v6,v7⟩:=cs8 Bv;have ltv_2:=ae Bv.out;go_wp2;go_ret;exact⟨a1,l1,c1,_,rfl,Zd ⟨λh=>(by have h9:=HKY.2 h;cases h9),rfl⟩,(HN2.below (ak _ _)).bm (λk _ s=>s.imp And.left (λq=>by omega)),HB.alloc HB.size _⟩):p:=h
theorem TP(h:p:=by
 obtain⟨v0,v1,v2,v3,v4,v5,v6,v7⟩:=cs8 Bv;have ltv_2:=ae Bv.out;have fr5:=al Bv.out 5;have fr6:=al Bv.out 6;go_wp2_with fail;have hsv:((w2.setCell ⟨w.heap.size+1,5,U⟩ (I ⟨#[]⟩)).setCell ⟨w.heap.size+1,6,U⟩ (Y9 Zb)).heap.size=w2.heap.size:=kS
 have HBV:Hid (Below w.heap.size w (((w2.setCell ⟨w.heap.size+1,5,U⟩ (I ⟨#[]⟩)).setCell ⟨w.heap.size+1,6,U⟩ (Y9 Zb)).alloc (Y8 #[I kn,Y9 kx,Y9 Zb,I kz] 74))):=(sb1 (ah (show w.heap.size<=w.heap.size+1 by omega) HB.out)).alloc (by rw[hsv];exact HB.size) _;have HNV:Hid (aw (((w2.setCell ⟨w.heap.size+1,5,U⟩ (I ⟨#[]⟩)).setCell ⟨w.heap.size+1,6,U⟩ (Y9 Zb)).alloc (Y8 #[I kn,Y9 kx,Y9 Zb,I kz] 74)) a1 l1 c1 8 38 ((wo Vd.n v.n c.vs).map vdF) (λk=>(Q k/\k<w.heap.size)\/w.heap.size+1+1<=k)):=HN2.ay (λk hk s=>by
  rw[Yl _ _ _ (by rw[hsv];exact hk),Ya _ _ _ _ (show k≠w.heap.size+1 by rcases s with s|s <;> omega),Ya _ _ _ _ (show k≠w.heap.size+1 by rcases s with s|s <;> omega)]) (λ_ _ s=>s)
 have hszV:(((w2.setCell ⟨w.heap.size+1,5,U⟩ (I ⟨#[]⟩)).setCell ⟨w.heap.size+1,6,U⟩ (Y9 Zb)).alloc (Y8 #[I kn,Y9 kx,Y9 Zb,I kz] 74)).heap.size=w2.heap.size+1:=by rw[cw,hsv]
 have hw2:=HB.size;refine (nK (gF v) ea el ec _ (show az _ ea el ec v.zs from HV.below HBV.out) af).mono ?_;rintro e w3 ⟨a3,l3,c3,rfl,hO3,hb3⟩;have hs3:=hb3.size;rw[hszV] at hs3;have HO3:=aa hO3;have HN3:=aa ((HNV.bm (S':=λk=>((Q k/\k<w.heap.size)\/w.heap.size+1+1<=k)/\k<w2.heap.size+1) (λk hk s=>⟨s,by rw[hszV] at hk;exact hk⟩)).below hb3);have HB3:=upB HBV hb3;have hl1:l1<=8:=by have h6:=HN2.1;rw[Yo] at h6;have h7:=rk Vd.n v.n c.vs;have h8:=HO.1;rw[Yo] at h8;omega
 clear hO3 hb3 HNV;go_wp2_with fail;obtain⟨gg,hgg⟩:=HO3.fr;rw[hszV] at hgg;refine (vx a1 l1 c1 (wo Vd.n v.n c.vs) (gF v) a3 l3 c3 gg _ (λk=>w2.heap.size+1<=k) w3 HN3.out hl1 (BP (x:=gF v) z0 z2 z3 (show (⟨#[]⟩:ByteArray).size<=9223372036854775807 by decide) hgg) (λk q1 q2=>by have q3:=q1.2;have q4:w2.heap.size+1<=k:=q2;omega)).mono ?_;rintro e w4 ⟨a4,l4,c4,rfl,hN4,hb4⟩;have HN4:=aa (hN4.bm (S':=λk=>Q k\/w.heap.size<=k) (λk _ s=>by
  rcases s with (s|s)|s
  ·rcases s.1 with s|s
   ·exact Ze s.1
   ·exact Zd af
  ·have s1:w2.heap.size+1<=k:=s;exact Zd af
  ·have s1:w3.heap.size<=k:=s;exact Zd af))
 have HB4:=upB HB3 hb4;clear hN4 hb4;go_wp2;go_ret;exact⟨a4,l4,c4,_,rfl,Ze ⟨HKY.1 bM,rfl⟩,HN4.out,HB4.out⟩):p:=h
theorem TA(h:p:=by
 rcases hf with ⟨i,hi8,hwhy,rfl⟩|⟨⟨hl,hT,hok⟩,rfl⟩
 ·have HV:Hid (a_ c t (co0 (bB i))):=Ze ⟨i,hwhy,rfl⟩;clear hwhy;obtain⟨cc,hcc⟩:∃cc,cc=bB i:=⟨_,rfl⟩;rw[<-hcc] at HV;have z467z:=@aa _ @abp;exact cG
 have HQ1:Hid (w.heap.size+1<w1.heap.size):=ae Br.out;have HV:Hid (∀vs,de c t vs->a_ c t ⟨fJ c t vs,⟨#[]⟩,0⟩):=λvs h=>Zd ⟨hl,hT,hok,vs,h,rfl⟩;have HT:=aa hT;have HS:=aa hT.sm;clear hT hok;have z467z:=@aa _ @abq;exact cG):p:=h
theorem lx(h:p:=by
 have z1280z:=@aa _ @J4;exact gU):p:=h
theorem M9(h:p:=by
 obtain⟨HXx,HTx,HZx0⟩:=gZ;have HZx2:=aa z2;have HZx4:=aa z4;clear hat hx z0 z2 z4 hvr;have hk3:(k:Int)<l5:=af
 obtain⟨k0,k1,k2,k3,k4,k5⟩:=cs6 hk1;have ltk:=ae hk1.out;have hbw:=hb;clear hb;go_wp2_with fail;refine (cM va vl vc x.zs t _ (HTx.below (ak _ _))).mono ?_;rintro e w4 ⟨r2,rfl,hi,hb⟩;obtain⟨HA0,hbx⟩:=aV hb;have Bx:=aa HA0;have HI:=aa hi;have hk2:=aa ((hbx.block _ ltk).trans hk1.out);have hb2:=upB hb1 hbx;obtain⟨n,hn,hH⟩:=hH1.out;have HH2:=aa (hH.below hbx);clear hb hi HA0 k0 k1 k2 k3 k4 k5 ltk hH hbx c0 c1 c2 c3 c4 c5 hbw;obtain⟨x0,x1,x2,x3,x4,x5⟩:=cs6 Bx;have ltx:=ae Bx.out;cases r2
 ·go_wp2;refine⟨⟨k+1,by omega,by go_num,⟨n,by omega,HH2.to (λl=>?_)⟩,hk2,hb2⟩,by simp[intOf];omega⟩;rw[PoU.no HXx.out (λh=>by have h9:=HI.2 h;cases h9)]
 ·obtain⟨cn,st,W2,W3,e1,e2,e3,e4,hH3,hg3⟩:=(HH2.ay (w':=w4.drew) rfl).bump bj 1 x.n aio (by unfold maxLen;have:=HZx0.out;omega);have e5:=lT e4;have HH3:=aa hH3;have HG3:=aa hg3;clear hH3 hg3 e4;go_wp2_with fail;go_region;all_goals (
   go_wp2
   refine⟨⟨k+1,by omega,by go_num,⟨n+1,by omega,HH3.to (λl=>?_)⟩,eo HG3.out hk2.out af,fH HG3.out (Below.AF hb2.out) af⟩,by simp[intOf];omega⟩
   rw[PoU.yes HXx.out (HI.1 bM),or_assoc])):p:=h
theorem ML(h:p:=by
 have hf2:∃(v:Vd) (ea:Option Addr) (el ec:Nat) (r:Bool),e=Za (Zg #[Zc #[I v.n,Y7 Y6 v.c,I v.z,I v.k,Y9 v.x,I v.m,Y9 v.y,J ea el ec],Y9 r])/\az w ea el ec v.zs/\el<=8/\v.m.size<=9223372036854775807/\((∀l,¬(xN c v l/\¬l=Um.ul 2 t))↔¬∃u,aO c t u/\nX c u):=by
  rcases hf with ⟨v,va,vl,vc,hbd,rfl,z0,z2,hvr⟩|⟨hno,rfl⟩
  ·obtain⟨j,hj⟩:=hbd.at;have hok:=HT.2.1.2.2.1.2.1 j v hj;refine⟨v,va,vl,vc,Zb,rfl,hvr,?_,?_,ain HT.out hbd⟩
   ·have h8:v.zs.length=vl:=hvr.1;have h9:=(dy hok.2.2.2.2.2.2).1;omega
   ·rcases hok.2.2.2.2.1 with e|e
    ·rw[e];decide
    ·have:=e.2.1;omega
  ·exact⟨vd0,U,0,0,Y_,rfl,⟨rfl,Ye _,by omega,λj x h=>by simp[vd0] at h,Ze rfl⟩,by omega,by decide,aim HT.out hno⟩
 obtain⟨v,ea,el,ec,r,rfl,hvr,hv8,hm9,hu⟩:=hf2;have HVR:=aa hvr;have HU:=aa hu;clear hf hvr hu;have z467z:=@aa _ @abo;exact cG):p:=h
theorem KN(h:p:=by
 obtain⟨r0,r1,r2,r3,r4,r5,r6,r7⟩:=cs8 Br;have ltr_2:=ae Br.out;go_wp2_with fail;have h5:=(HP.x.bm (S':=λk=>(w1.heap.size<=k/\P k=4)/\k<w2.heap.size) (λk hk s=>⟨s,hk⟩)).below (ak w2 (Y8 (clv d' c.now) 29));refine (Bh d'.a4 d'.l4 d'.c4 c.xs t _ _ h5 (by have h6:=HP.x.1;have h7:(c.xs.map xdF).length=d'.l4:=h6;rw[Yo] at h7;have:=HS.x;omega)).mono ?_;rintro e w3 ⟨a',l',c',rfl,hN,hb⟩;rw[cw] at hN;have hbw23:=(aV hb).2;have HN:=aa hN;clear hN h5;clear k0 k1 k2 k3 k4 k5 ltk_2 r0 r1 r2 r3 r4 r5 r6 r7 ltr_2;have z1571z:=@aa _ @Fb;exact sy):p:=h
theorem J4(h:p:=by
 exact z881z):p:=h
theorem Im(h:p:=by
 have z856z:=@aa _ @T0;exact fS):p:=h
theorem mO(h:p:=by
 refine (Bu d c _ (HR.below HB.out) HS.out).mono ?_;rintro e w2 ⟨d',rfl,ho,hb⟩;have HQ2:=aa hb.size;exact z1412z):p:=h
theorem Hq(h:p:=by
 exact z856z):p:=h
theorem FY(h:p:=by
 have hrl:w.heap.size+1<w2.heap.size:=ae Br.out;exact z140z):p:=h
theorem Fb(h:p:=by
 have z1689z:=@aa _ @DO;exact dp):p:=h
theorem sy(h:p:=by
 obtain⟨HA0,hbx⟩:=aV hb;replace Bk:=upK Bk hbx;replace Br:=upK Br hbx;have Bo:=aa HA0;replace HB:=upB HB hbx;clear hb hbx HA0;have hq3:w2.heap.size<w3.heap.size:=ae Bo.out;have HBX:=aa hbw23;clear hbw23;exact z1571z):p:=h
theorem DO(h:p:=by
 obtain⟨r0,r1,r2,r3,r4,r5,r6,r7⟩:=cs8 Br;have ltr_3:=ae Br.out;obtain⟨o0,o1,o2,o3,o4,o5⟩:=cs6 Bo;have lto_3:=ae Bo.out;obtain⟨fo0,fo1,fo2,fo3,fo4,fo5⟩:=N6;go_wp2_with fail;have hcp:dk (w3.setCell ⟨w2.heap.size,3,U⟩ (J a' l' c')) ⟨d'.a1,d'.l1,d'.c1,d'.a2,d'.l2,d'.c2,d'.a3,d'.l3,d'.c3,a',l',c',d'.a5,d'.l5,d'.c5⟩ (⟨c.raw.n,c.raw.k,c.raw.v,(wo Xd.n t c.xs).map xdF,c.raw.p⟩:Cr) (λk=>w1.heap.size<=k) (λk=>if w2.heap.size+1<=k then 4 else if k=w2.heap.size then 0 else P k):=HP.amk hq2 HN.out HBX.out (λk h1 h2=>by rw[Ya _ _ _ _ h2]);have hbv:Below w.heap.size w (w3.setCell ⟨w2.heap.size,3,U⟩ (J a' l' c')):=ah af HB.out;have hbo:(w3.setCell ⟨w2.heap.size,3,U⟩ (J a' l' c')).heap[w2.heap.size]?=Y5 (Y8 (clo6 d'.a1 d'.l1 d'.c1 d'.a2 d'.l2 d'.c2 d'.a3 d'.l3 d'.c3 a' l' c' d'.a5 d'.l5 d'.c5 c.now) 29 (0,0)):=av Bo.out _;have hbr:(w3.setCell ⟨w2.heap.size,3,U⟩ (J a' l' c')).heap[w.heap.size+1]?=Y5 (Y8 #[J U 0 0,J U 0 0,J U 0 0,J U 0 0,J U 0 0,Y7 Y6 0,I ⟨#[]⟩,Y7 Y6 0] 33 (0,0)):=(Ya _ _ _ _ (show w.heap.size+1≠w2.heap.size by omega)).trans Br.out;have hsv:(w3.setCell ⟨w2.heap.size,3,U⟩ (J a' l' c')).heap.size=w3.heap.size:=kS
 generalize (w3.setCell ⟨w2.heap.size,3,U⟩ (J a' l' c'))=V at*;clear k0 k1 k2 k3 k4 k5 ltk_3 r0 r1 r2 r3 r4 r5 r6 r7 ltr_3 o0 o1 o2 o3 o4 o5 lto_3;have HCP:=aa hcp;replace HB:=aa hbv;replace Bo:=aa hbo;replace Br:=aa hbr;clear hcp hbv hbo hbr HN HP Bk HBX;refine (qO d c t w _ HR.out HB.out HT.2.1.2.2.2.1.2.2 HT.2.1.2.2.1.2.2 (cq.ne HT.2.1)).mono ?_;rintro e w4 ⟨hb,hf⟩;have HBX:=aa hb;have hq4:=hb.size;replace Br:=upK Br hb;replace Bo:=upK Bo hb;replace HB:=upB HB hb;clear hb;rcases hf with ⟨v,va,vl,vc,hbd,rfl,z0,z2,hvr⟩|⟨hno,rfl⟩
 ·obtain⟨jv,hjv⟩:=hbd.at;have hok:=HT.2.1.2.2.1.2.1 jv v hjv;have hvl8:vl<=8:=by have h8:v.zs.length=vl:=hvr.1;have h9:=(dy hok.2.2.2.2.2.2).1;omega
  have z3:v.k.size<=9223372036854775807:=by have:=hok.2.2.2.1.2.1;omega
  have HBD:=aa hbd;have HVR:=aa hvr;clear hbd hvr hok hjv;obtain⟨r0,r1,r2,r3,r4,r5,r6,r7⟩:=cs8 Br;have ltr_4:=ae Br.out;obtain⟨o0,o1,o2,o3,o4,o5⟩:=cs6 Bo;have lto_4:=ae Bo.out;go_wp2_with fail;have ho5:aw (w4.alloc (Y8 (vov v va vl vc) 38)) d'.a3 d'.l3 d'.c3 8 38 (c.vs.map vdF) (λk=>(w1.heap.size<=k/\(λk=>if w2.heap.size+1<=k then 4 else if k=w2.heap.size then 0 else P k) k=3)/\k<V.heap.size):=((HCP.v.bm (λk hk s=>⟨s,hk⟩)).below HBX.out).below (ak _ _);have hk5:aT (w4.alloc (Y8 (vov v va vl vc) 38)) d'.a2 d'.l2 d'.c2 4 (c.ks.map kdF):=(HCP.k.row.below HBX.out).below (ak _ _);refine (agA ⟨d'.a1,d'.l1,d'.c1,d'.a2,d'.l2,d'.c2,d'.a3,d'.l3,d'.c3,a',l',c',d'.a5,d'.l5,d'.c5⟩ c v va vl vc _ _ ho5 hk5 HT.2.1.2.1.2.2 (HVR.below (HB.trans ((ak _ _).mono HB.size))) (by have h6:=HCP.v.1;have h7:(c.vs.map vdF).length=d'.l3:=h6;rw[Yo] at h7;have:=HS.v;show d'.l3<=8;omega) hvl8 z0 z2 z3).mono ?_;rintro e w5 ⟨a5,l5,c5,vs,rfl,hvs,hN5,hb⟩;rw[cw] at hN5;have hb45:=(aV hb).2;have HN5:=aa (hN5.bm (S':=λk=>((w1.heap.size<=k/\(λk=>if w2.heap.size+1<=k then 4 else if k=w2.heap.size then 0 else P k) k=3)/\k<V.heap.size)\/V.heap.size<=k) (λk _ s=>s.imp id (λq=>by have q1:w4.heap.size+1<=k:=q;omega)));have HX5:=aa (HBX.trans (hb45.mono af));have HVS:=aa (HV.out vs (hvs.amw HT.out HBD.out));clear hN5 hb45 hvs ho5 hk5;clear r0 r1 r2 r3 r4 r5 r6 r7 ltr_4 o0 o1 o2 o3 o4 o5 lto_4;obtain⟨HA0,hbx⟩:=aV hb;replace Br:=upK Br hbx;replace Bo:=upK Bo hbx;have Bv:=aa HA0;replace HB:=upB HB hbx;clear hb hbx HA0;have hq5:w2.heap.size<w5.heap.size:=ae Bo.out;have z379z:=@aa _ @acx;exact zH
 ·have HVS:=aa (HV.out c.vs (Zd ⟨hno,rfl⟩));clear hno;have hq5:w2.heap.size<w4.heap.size:=ae Bo.out;obtain⟨r0,r1,r2,r3,r4,r5,r6,r7⟩:=cs8 Br;have ltr_4:=ae Br.out;obtain⟨o0,o1,o2,o3,o4,o5⟩:=cs6 Bo;have lto_4:=ae Bo.out;obtain⟨fr0,fr1,fr2,fr3,fr4,fr5,fr6,fr7⟩:=gJ;have hrl:w.heap.size+1<w4.heap.size:=af
  obtain⟨hne,hne2⟩:=N3;go_wp2;refine bodyPost_ret (v:=Zc #[J d'.a1 d'.l1 d'.c1,J d'.a2 d'.l2 d'.c2,J d'.a3 d'.l3 d'.c3,J a' l' c',J d'.a5 d'.l5 d'.c5,Y7 Y6 c.now,I ⟨#[]⟩,Y7 Y6 0]) NR rfl ⟨⟨d'.a1,d'.l1,d'.c1,d'.a2,d'.l2,d'.c2,d'.a3,d'.l3,d'.c3,a',l',c',d'.a5,d'.l5,d'.c5⟩,⟨fJ c t c.vs,⟨#[]⟩,0⟩,rfl,HVS.out,?_,(sb1 (sb1 (sb1 (sb1 (sb1 (sb1 (sb1 (sb1 (HB.out))))))))).alloc iK _⟩;refine⟨(λk=>if w2.heap.size+1<=k then 4 else if k=w2.heap.size then 0 else P k),HCP.ay (λk hk s=>?_) (λk _ s=>?_)⟩
  ·have s1:w1.heap.size<=k:=s;rw[Yl _ _ _ iK,Ya _ _ _ _ (show k≠w.heap.size+1 by omega),Ya _ _ _ _ (show k≠w.heap.size+1 by omega),Ya _ _ _ _ (show k≠w.heap.size+1 by omega),Ya _ _ _ _ (show k≠w.heap.size+1 by omega),Ya _ _ _ _ (show k≠w.heap.size+1 by omega),Ya _ _ _ _ (show k≠w.heap.size+1 by omega),Ya _ _ _ _ (show k≠w.heap.size+1 by omega),Ya _ _ _ _ (show k≠w.heap.size+1 by omega)];exact HBX.block k hk
  ·have s1:w1.heap.size<=k:=s;show w.heap.size<=k;omega):p:=h
namespace Rc
theorem ez(w:World) (dT sT ty elem:TypeId) (g o dLen dCap:Nat) (a:Addr) (sLen sCap m:Nat) (cur:Array Value) (t:TypeId) (cs:List Value) (i:TypeInfo)
  (hu:Tryz.prog.underlying dT=Y5 (.slice elem)) (hi:Tryz.prog.info? elem=Y5 i) (hs:i.size=m)
  (hg:w.heap[g]?=Y5 (Y8 cur t (0,0))) (hn:cs.length=Nat.min sLen dLen*m)
  (hsrc:∀j v,cs[j]?=Y5 v->w.cell? (a.add j)=Y5 v) (hfit:o+cs.length<=cur.size) (h1:∀v∈cs,v.oneCell'=Zb):
  (Builtin.copy_ #[dT,sT] ty #[J (Y5 ⟨g,o,U⟩) dLen dCap,J (Y5 a) sLen sCap]).run Tryz.prog w=
   .ok (goInt (Nat.min sLen dLen)) (w.setRow g (cur.toList.take o++cs++cur.toList.drop (o+cs.length)).toArray):=by
 have hl:=run_loadCells_list (P:=Tryz.prog) w a cs hsrc;have hst:=run_storeCells_at Tryz.prog g o t cs 0 cur w hg (by simpa using hfit) h1;rw[hn] at hl;simp[Builtin.copy_,run_underlying hu,Builtin.lenOf,Builtin.firstCells,sizeOf,typeInfo,hi,hs,hl,hst]
theorem Q_ {a c m:Nat} {X ys cur c1:List Value} (hX:cur.take b=X) (hc:cur.length=c) (h1:a+m<=b) (h2:b+m<=c) (hy:ys.length=m) (h:c1=cur.take (a+m)++X.drop a++cur.drop (a+m+(X.drop a).length)):(c1.take a++(ys++c1.drop (a+m))).take (b+m)=X.take a++ys++X.drop a:=by
 have hXl:X.length=b:=by rw[<-hX,YF];omega
 have e1:c1.take a=X.take a:=by
  rw[h,List.append_assoc,List.take_append_of_le_length uh,List.take_take,<-hX,List.take_take];congr 1;omega
 have e2:c1.drop (a+m)=X.drop a++cur.drop (a+m+(X.drop a).length):=by
  rw[h,List.append_assoc];exact List.drop_left' uh
 rw[e1,e2,<-List.append_assoc,<-List.append_assoc];exact List.take_left' ag7
theorem BB {a m:Nat} {X ys R R2 S:List Value} (hX:R.take a=X.take a) (hXl:X.length=b) (h1:a<=b) (hy:ys.length=m) (h:R2=R.take a++ys++S) (T:List Value):(R2.take (a+m)++X.drop a++T).take (b+m)=X.take a++ys++X.drop a:=by
 have e1:R2.take (a+m)=X.take a++ys:=by
  rw[h,hX];exact List.take_left' (by simp only[List.length_append,YF];omega)
 rw[e1];exact List.take_left' ag7
theorem jY(w:World) (g:Nat) (cs:Array Value):w.grownBy (w.setRow g cs) (Y5 g):=⟨rfl,rfl,rfl,by simp[World.setRow],λk _ h=>setRow_other w g k cs (λe=>h (by rw[e]))⟩
theorem iI {ops:Array Oper} {o:Oper} {a:Act} {K:Act->World->Prop} {Q:Exit->Act->World->Prop} {E:Prop}
  (hg:o.guard=U) (d x:Operand) (dT sT:TypeId) (hop:o.op=Op.call { callee:=Callee.builtin Builtin.copy,args:=#[d,x],argTypes:=#[dT,sT] })
  (v u:Value) (hd:a.eval d=v) (hx:a.eval x=u) {v':Value} {w':World} (hr:(Builtin.copy_ #[dT,sT] o.type #[v,u]).run Tryz.prog w=.ok v' w') (hK:K (a.put o.dst v') w'):
  if YP o (yielded ops a.tmps)=Zb then Oper.wp Tryz.prog o a w K Q else E:=by
 have hw:YP o (yielded ops a.tmps)=Zb:=by simp[YP,hg]
 rw[if_pos hw];unfold Oper.wp;simp[execOp,hop,resolve,invoke,builtin,hd,hx,hr,Result.andThen];exact hK
theorem BA {m p:Nat} {vss:List (List α)} (h:∀(j:Nat) vs,vss[j]?=Y5 vs->vs.length=m) (hp:p<=vss.length) (vs:List α):(aR p vs vss).flatten=vss.flatten.take (p*m)++vs++vss.flatten.drop (p*m):=by
 have hl:((vss.take p).flatten).length=p*m:=by
  rw[eV (m:=m) (λj v hv=>by
   rw[YA] at hv
   split at hv
   ·exact h j v hv
   ·cases hv),YF,Nat.min_eq_left hp]
 have e:vss.flatten=(vss.take p).flatten++(vss.drop p).flatten:=Ai
 have e1:vss.flatten.take (p*m)=(vss.take p).flatten:=by rw[e];exact List.take_left' hl
 have e2:vss.flatten.drop (p*m)=(vss.drop p).flatten:=by rw[e];exact List.drop_left' hl
 rw[e1,e2];simp[aR]
theorem pd(a:Option Addr) (n cap i base vb:Nat) (X ys:List Value) (w:World) (ho:w.ownsRow base 38 8 (J a n cap) n X) (hn:n<=8) (hin:i<=n) (hbs:base<=w.heap.size) (hy:w.heap[vb]?=Y5 (Y8 ys.toArray 38 (0,0))) (hyl:ys.length=8) (hy1:∀u∈ys,u.oneCell'=Zb) (hX1:∀u∈X,u.oneCell'=Zb) (hne:∀g,a=Y5 ⟨g,0,U⟩->¬vb=g):
  Calls Tryz.prog 104 #[J a n cap,Y7 Y6 i,J (Y5 ⟨vb,0,U⟩) 1 1] w λe w'=> ∃v',e=Za v'/\w'.ownsRow base 38 8 v' (n+1) (X.take (i*8)++ys++X.drop (i*8))/\w.grownBy w' ((J a n cap:Value).ownBlock):=by
 obtain⟨i0,hi,hz0,hz1,hz2⟩:=info_parts iY;have z722z:=@aa _ @VI;exact iz
theorem lj(a:Option Addr) (n cap:Nat) (X:List Value) (w:World) (hn:n<=8) (hXl:X.length=n*8) (hX1:∀u∈X,u.oneCell'=Zb) (hXc:∀(j:Nat) u,X[j]?=Y5 u->∃g,a=Y5 ⟨g,0,U⟩/\w.cell? ⟨g,j,U⟩=Y5 u):
  Calls Tryz.prog 105 #[J a n cap] w λe w'=> ∃a' c',e=Za (J a' n c')/\w'.ownsRow w.heap.size 38 8 (J a' n c') n X/\Below w.heap.size w w':=by
 obtain⟨i0,hi,hz0,hz1,hz2⟩:=info_parts iY;have z722z:=@aa _ @VH;exact iz
theorem vx(a:Option Addr) (n cap:Nat) (xs:List Vd) (x:Vd) (va:Option Addr) (vl vc hh:Nat) (Q Q2:Nat->Prop) (w:World) (ho:aw w a n cap 8 38 (xs.map vdF) Q) (hn:n<=8) (hxf:∀(i:Nat) f,(vdF x)[i]?=Y5 f->∃v,[I x.n,Y7 Y6 x.c,I x.z,I x.k,Y9 x.x,I x.m,Y9 x.y,J va vl vc][i]?=Y5 v/\f.Fr w hh Q2 v) (hq:∀k,Q k->Q2 k->False):
  Calls Tryz.prog 62 #[J a n cap,Zc #[I x.n,Y7 Y6 x.c,I x.z,I x.k,Y9 x.x,I x.m,Y9 x.y,J va vl vc]] w λe w'=> ∃a' l' c',e=Za (J a' l' c')/\aw w' a' l' c' 8 38 ((aR (pl Vd.n xs x.n) x xs).map vdF) (λk=>(Q k\/Q2 k)\/w.heap.size<=k)/\Below w.heap.size w w':=by
 have HR:=aa ho.row;have hxl:xs.length=n:=oI
 obtain⟨vss,H,hV,hcell⟩:=ho.ju;have hvl:vss.length=n:=by rw[hV.len,Yo,hxl]
 have hfl:vss.flatten.length=n*8:=by rw[eV hV.all,hvl]
 have HV:=aa hV;have HC:=aa hcell;have HF:=aa hxf;have HQ:=aa hq;clear ho hV hcell hxf hq;have z699z:=@aa _ @V2;exact pN
end Rc
namespace Um
theorem amp:laidOutB Tryz.prog=Zb:=by kernel_rfl
theorem am4:(126:TypeId)<Tryz.prog.types.size:=of_decide_eq_true (by kernel_rfl)
theorem alf:(match Tryz.prog.underlying 126 with|Y5 (.array _ _)|Y5 (.struct _)=>Zb|_=>Y_)=Zb:=by kernel_rfl
theorem atU:Tryz.prog.keyTypeAt 2 126=Zb:=by kernel_rfl
theorem qG:KeyLaw Tryz.prog 126:=deep_law_laid amp (m:=2) (by omega) am4 atU alf
theorem qH:Keyed Tryz.prog 126:=Keyed.of_law qG
theorem ali:Tryz.prog.keyType 126=Zb:=by kernel_rfl
theorem akW:Tryz.prog.cellsOf 126=2:=by kernel_rfl
theorem akY:Tryz.prog.cellsOf 2=1:=by kernel_rfl
theorem akX:Tryz.prog.cellsOf 9=1:=by kernel_rfl
theorem ale(w:World):(zeroValue 2).run Tryz.prog w=.ok (Y7 Y6 0) w:=by kernel_rfl
theorem alk:Tryz.prog.types.size+1=(344 - 101)+2:=by kernel_rfl
def ul(k:Int) (s:ByteArray):Lit:=.string (keyBytes [.int Y6 k,.string s.data.toList])
theorem amq(k:Int) (s:ByteArray) (hk:(Lit.int Y6 k).wf=Zb) (hs:s.size<=maxLen):keyOf Tryz.prog 126 (Zc #[Y7 Y6 k,I s])=Y5 (ul k s):=by
 have hu:=Tryz.underlying126;have hi:=Tryz.underlying2;have ht:=Tryz.underlying9;obtain⟨m,hm⟩:∃m,Tryz.prog.types.size+1=m+2:=⟨_,alk⟩;unfold keyOf;rw[hu,hm];simp[ali,Value.formed,hu,akW,Value.cells,Program.keyLits,akY,akX,hi,ht,hk,hs,ul]
noncomputable abbrev UR:Value->Option (DataW Unit×List MemPlace):=plainElem Tryz.prog 2
def Has(w:World) (b n:Nat) (S:Lit->Prop):Prop:=∃L,w.ownsMap Tryz.prog 126 UR b n (.map L)/\∀l,(∃d,(l,d)∈L)↔S l
theorem Has.made(w:World):Has (w.alloc (.map #[] 0)) w.heap.size 0 (λ_=>False):=⟨[],World.ownsMap_made w _ _ _,by simp⟩
theorem Has.lt(h:Has w b n S):b<w.heap.size:=by obtain⟨L,h,_⟩:=h;exact h.lt
theorem Has.ay(h:Has w b n S) (hk:w'.heap[b]?=w.heap[b]?):Has w' b n S:=by
 obtain⟨L,⟨es,cl,h1,h2⟩,h3⟩:=h;exact⟨L,⟨es,cl,hk.trans h1,h2⟩,h3⟩
theorem Has.below(h:Has w b n S) (hb:Below w.heap.size w w'):Has w' b n S:=h.ay (hb.block b h.lt)
theorem Has.to {S':Lit->Prop} (h:Has w b n S) (hs:∀l,S l↔S' l):Has w b n S':=by
 obtain⟨L,h1,h2⟩:=h;exact⟨L,h1,λl=>(h2 l).trans (hs l)⟩
section
variable {w:World} {b clock:Nat} {es:Array MapEntry}
theorem amo(hb:w.heap[b]?=Y5 (.map es clock)) (hks:∀x∈es.toList,∃l,keyOf Tryz.prog 126 x.key=Y5 l) {key:Value} {kl:Lit} (hkey:keyOf Tryz.prog 126 key=Y5 kl) (hno:∀x∈es.toList,¬x.key=key):
  (Instr.lookup 92 (.map (Y5 b)) key Y_).run Tryz.prog w=.ok (Y7 Y6 0) w:=by
 rcases qG.find w hkey es.toList hks with ⟨h1,h2⟩|⟨j,e0,h1,h2,h3⟩
 ·exact PI
 ·exact absurd h3 (hno e0 (Ys h2))
theorem QU(hb:w.heap[b]?=Y5 (.map es clock)) (hks:∀x∈es.toList,∃l,keyOf Tryz.prog 126 x.key=Y5 l) {key:Value} {kl:Lit} (hkey:keyOf Tryz.prog 126 key=Y5 kl) {v:Value} (hin:∃x∈es.toList,x.key=key) (hone:∀x∈es.toList,x.key=key->x.val=v):
  (Instr.lookup 92 (.map (Y5 b)) key Y_).run Tryz.prog w=.ok v w:=by
 rcases qG.find w hkey es.toList hks with ⟨h1,h2⟩|⟨j,e0,h1,h2,h3⟩
 ·obtain⟨x,hx,he⟩:=hin;exact absurd he (h2 x hx)
 ·rw[<-hone e0 (Ys h2) h3];exact PI
end
theorem yf {a b c d:Value} (h:Value.tuple #[a,b]=Value.tuple #[c,d]):a=c:=by
 injection h with h;exact Yd (congrArg (λx:Array Value=>x[0]?) h)
theorem l_(o o':Obj):setBlock (setBlock w b o) b o'=setBlock w b o':=by
 unfold setBlock;simp
theorem Has.bump(h:Has w b n S) (hn:n<maxLen) (k:Int) (s:ByteArray) (hk:(Lit.int Y6 k).wf=Zb) (hs:s.size<=maxLen):
  ∃(c:Int) (st:Nat) (w1 w3:World),
   (Instr.lookup 92 (.map (Y5 b)) (Zc #[Y7 Y6 k,I s]) Y_).run Tryz.prog w=.ok (Y7 Y6 c) w/\
   (Instr.mapEntry 92 (.map (Y5 b)) (Zc #[Y7 Y6 k,I s])).run Tryz.prog w=.ok (Zg #[Y7 Y6 c,Y7 Y6 st]) w1/\
   (Instr.lookup 92 (.map (Y5 b)) (Zc #[Y7 Y6 k,I s]) Y_).run Tryz.prog w1=.ok (Y7 Y6 c) w1/\
   (Instr.entryStore 92 (.map (Y5 b)) (Y7 Y6 st) (Y7 Y6 (IntKind.i64.wrap (c+1)))).run Tryz.prog w1=.ok () w3/\
   Has w3 b (n+1) (λl=>S l\/l=ul k s)/\w.grownBy w3 (Y5 b):=by
 have hkey:=amq k s hk hs;obtain⟨L,ho,hS⟩:=h;obtain⟨es,clock,hb,F,hsz,hD⟩:=ho;obtain⟨v0,st,es1,clock1,hE,hv,hSt⟩:=WideElems.entry_then_store qG Tryz.underlying92 ale hb F hkey;have hb1:(setBlock w b (.map es1 clock1)).heap[b]?=Y5 (.map es1 clock1):=heap_setBlock_same hb _;have hc:∃c:Int,v0=Y7 Y6 c/\(Instr.lookup 92 (.map (Y5 b)) (Zc #[Y7 Y6 k,I s]) Y_).run Tryz.prog w=.ok (Y7 Y6 c) w/\
   (Instr.lookup 92 (.map (Y5 b)) (Zc #[Y7 Y6 k,I s]) Y_).run Tryz.prog (setBlock w b (.map es1 clock1))=.ok (Y7 Y6 c) (setBlock w b (.map es1 clock1)):=by
  rcases qG.find w hkey es.toList F.keys with ⟨h1,h2⟩|⟨j,e0,h1,h2,h3⟩
  ·have hE':(Instr.mapEntry 92 (.map (Y5 b)) (Zc #[Y7 Y6 k,I s])).run Tryz.prog w=.ok (Zg #[Y7 Y6 0,goInt clock]) (setBlock w b (.map (es.push ⟨Zc #[Y7 Y6 k,I s],Y7 Y6 0,clock⟩) (clock+1))):=by
    simp[Instr.mapEntry,run_underlying Tryz.underlying92,MapKept.run_getObj_map hb,qG.check w Y_ hkey,h1,MapKept.run_setObj_map _ hb,Result.andThen,setBlock]
   rw[hE] at hE'
   injection hE' with q1 q2
   rw[q2] at hb1 ⊢;have hv0:v0=Y7 Y6 0:=(yf q1);refine⟨0,hv0,amo hb F.keys hkey h2,?_⟩;have hb2:(setBlock w b (.map (es.push ⟨Zc #[Y7 Y6 k,I s],Y7 Y6 0,clock⟩) (clock+1))).heap[b]?=Y5 (.map (es.push ⟨Zc #[Y7 Y6 k,I s],Y7 Y6 0,clock⟩) (clock+1)):=heap_setBlock_same hb _;refine QU hb2 (λx hx=>?_) hkey ⟨⟨Zc #[Y7 Y6 k,I s],Y7 Y6 0,clock⟩,by simp,rfl⟩ (λx hx he=>?_)
   ·simp only[Array.toList_push,List.mem_append,List.mem_singleton] at hx
    rcases hx with hx|rfl
    ·exact F.keys x hx
    ·exact⟨_,hkey⟩
   ·simp only[Array.toList_push,List.mem_append,List.mem_singleton] at hx
    rcases hx with hx|rfl
    ·exact absurd he (h2 x hx)
    ·rfl
  ·have hm0:=Ys h2;obtain⟨y0,hy0⟩:=F.reads e0 hm0;obtain⟨zv,hzv,-⟩:=WideElems.rd_val hy0;obtain⟨c,hval,-,-⟩:=plainElem_int_inv Tryz.underlying2 hzv
   have hone:∀x∈es.toList,x.key=Zc #[Y7 Y6 k,I s]->x.val=Y7 Y6 c:=λx hx he=>by
    obtain⟨i,hi⟩:=YD hx
    by_cases hij:i=j
    ·subst hij;rw[h2] at hi;obtain rfl:=Yd hi;exact hval
    ·exact absurd (he.trans h3.symm) (WideElems.other_key F h2 hi hij)
   have hsame:es.modify j (λe=> { e with key:=Zc #[Y7 Y6 k,I s] })=es:=by
    apply Array.ext'
    rw[Array.toList_modify,modify_eq_set _ _ _ _ h2,<-h3];exact WideElems.set_self _ _ _ h2
   have hj:es[j]?=Y5 e0:=by simpa using h2
   have hE':(Instr.mapEntry 92 (.map (Y5 b)) (Zc #[Y7 Y6 k,I s])).run Tryz.prog w=.ok (Zg #[e0.val,goInt e0.born]) (setBlock w b (.map es clock)):=by
    simp[Instr.mapEntry,run_underlying Tryz.underlying92,MapKept.run_getObj_map hb,qG.check w Y_ hkey,h1,hj,h3,qG.stays w hkey,hsame,MapKept.run_setObj_map _ hb,Result.andThen,setBlock]
   rw[hE] at hE'
   injection hE' with q1 q2
   rw[q2] at hb1 ⊢;have hv0:v0=e0.val:=(yf q1);have hb2:(setBlock w b (.map es clock)).heap[b]?=Y5 (.map es clock):=heap_setBlock_same hb _;exact⟨c,hv0.trans hval,QU hb F.keys hkey ⟨e0,hm0,h3⟩ hone,QU hb2 F.keys hkey ⟨e0,hm0,h3⟩ hone⟩
 obtain⟨c,rfl,hl1,hl2⟩:=hc;have hwc:(Lit.int Y6 (IntKind.i64.wrap (c+1))).wf=Zb:=wf_wrap Y6 _;have ho:w.ownsMap Tryz.prog 126 UR b n (.map L):=⟨es,clock,hb,F,hsz,hD⟩;obtain⟨w',hu1,hu2,hu3⟩:=ho.update qH Tryz.underlying92 hn hkey (plainElem_int Tryz.underlying2 hwc);obtain⟨es',clock',hs1,hs2⟩:=hSt (setBlock w b (.map es1 clock1)) (Y7 Y6 (IntKind.i64.wrap (c+1))) hb1;rw[l_] at hs1;rw[hu1] at hs2;injection hs2 with _ q2;subst q2;refine⟨c,st,_,_,hl1,hE,hl2,hs1,⟨_,by rw[DataW.put_eq] at hu2;exact hu2,λl=>?_⟩,hu3⟩;have hkl:WideAt.IsKeyLit (ul k s):=qH.key hkey;unfold putKey;constructor
 ·rintro⟨d,hd⟩;rcases mem_insert_iff.1 hd with hd|hd
  ·exact Zd (congrArg Prod.fst hd)
  ·exact Ze ((hS l).1 ⟨d,(List.mem_filter.1 hd).1⟩)
 ·rintro (hl|rfl)
  ·by_cases he:l=ul k s
   ·subst he;exact⟨_,mem_insert_iff.2 (Ze rfl)⟩
   ·obtain⟨d,hd⟩:=(hS l).2 hl;exact⟨d,mem_insert_iff.2 (Zd (List.mem_filter.2 ⟨hd,(Maps.notKey_iff hkl).2 he⟩))⟩
  ·exact⟨_,mem_insert_iff.2 (Ze rfl)⟩
theorem Has.del(h:Has w b n S) (k:Int) (s:ByteArray) (hk:(Lit.int Y6 k).wf=Zb) (hs:s.size<=maxLen) (ty:TypeId):
  ∃w',(Builtin.delete_ #[92,126] ty #[.map (Y5 b),Zc #[Y7 Y6 k,I s]]).run Tryz.prog w=.ok (Zg #[]) w'/\Has w' b n (λl=>S l/\¬l=ul k s)/\w.grownBy w' (Y5 b):=by
 have hkey:=amq k s hk hs;obtain⟨L,ho,hS⟩:=h;obtain⟨w',h1,h2,h3⟩:=ho.drop qH Tryz.underlying92 hkey ty;have hkl:WideAt.IsKeyLit (ul k s):=qH.key hkey;refine⟨w',h1,⟨_,by rw[DataW.del_eq] at h2;exact h2,λl=>?_⟩,h3.grown⟩;unfold delKey;constructor
 ·rintro⟨d,hd⟩;obtain⟨a1,a2⟩:=List.mem_filter.1 hd;exact⟨(hS l).1 ⟨d,a1⟩,(Maps.notKey_iff hkl).1 a2⟩
 ·rintro⟨a1,a2⟩;obtain⟨d,hd⟩:=(hS l).2 a1;exact⟨d,List.mem_filter.2 ⟨hd,(Maps.notKey_iff hkl).2 a2⟩⟩
theorem Has.len(h:Has w b n S) (ty:TypeId):∃m:Nat,(Builtin.len_ #[92] ty #[.map (Y5 b)]).run Tryz.prog w=.ok (Y7 Y6 m) w/\(m=0↔∀l,¬S l)/\m<=n:=by
 obtain⟨L,ho,hS⟩:=h;have hl:=ho.len Tryz.underlying92 ty;refine⟨L.length,hl,⟨λh0 l hl=>?_,λhno=>?_⟩,?_⟩
 ·obtain⟨d,hd⟩:=(hS l).2 hl;rw[List.eq_nil_of_length_eq_zero h0] at hd;cases hd
 ·rcases L with _|⟨⟨l,d⟩,L⟩
  ·rfl
  ·exact absurd ((hS l).1 ⟨d,by simp⟩) (hno l)
 ·obtain⟨es,clock,_,_,hsz,hD⟩:=ho;injection hD with hD;rw[hD,length_sorted];simpa using hsz
end Um
namespace Rc
def OnU(zs:List ByteArray) (k:Nat) (l:Lit):Prop:=∃(i:Nat) (t:ByteArray),i<k/\zs[i]?=Y5 t/\l=Um.ul 3 t
def MoU(ns:List Nd) (t:ByteArray) (k:Nat) (l:Lit):Prop:=∃(i:Nat) (n:Nd),i<k/\ns[i]?=Y5 n/\InL n.zs t/\l=Um.ul 3 n.n
def ClU(v:Vd) (l:Lit):Prop:=¬v.m=⟨#[]⟩/\l=Um.ul 2 v.m
def xN(c:Cl) (v:Vd) (l:Lit):Prop:=(ClU v l\/OnU v.zs v.zs.length l)\/MoU c.ns v.n c.ns.length l
def ak2(c:Cl) (v:Vd) (w:World) (e:Ending) (w':World):Prop:=∃b n,e=Za (.map (Y5 b))/\Um.Has w' b n (xN c v)/\n<=100/\w.heap.size<=b/\Below w.heap.size w w'
theorem OnU.step {zs:List ByteArray} (h:zs[k]?=Y5 t):OnU zs (k+1) l↔OnU zs k l\/l=Um.ul 3 t:=by
 constructor
 ·rintro⟨i,s,hi,hs,e⟩;by_cases hik:i=k
  ·subst hik;rw[h] at hs;obtain rfl:=Yd hs;exact Zd e
  ·exact Ze ⟨i,s,by omega,hs,e⟩
 ·rintro (⟨i,s,hi,hs,e⟩|e)
  ·exact⟨i,s,by omega,hs,e⟩
  ·exact⟨k,t,by omega,h,e⟩
theorem MoU.yes {n:Nd} (h:ns[k]?=Y5 n) (hy:InL n.zs t):MoU ns t (k+1) l↔MoU ns t k l\/l=Um.ul 3 n.n:=by
 constructor
 ·exact P6
 ·rintro (⟨i,s,hi,hs,a,e⟩|e)
  ·exact⟨i,s,by omega,hs,a,e⟩
  ·exact⟨k,n,by omega,h,hy,e⟩
theorem MoU.no {n:Nd} (h:ns[k]?=Y5 n) (hy:¬InL n.zs t):MoU ns t (k+1) l↔MoU ns t k l:=by
 exact Qu
theorem BX:(Lit.int Y6 2).wf=Zb:=by decide
theorem BU:(Lit.int Y6 3).wf=Zb:=by decide
theorem lT {m:Value} {st cn:Int} {W W':World} (h:(Instr.entryStore 92 m (Y7 Y6 st) (Y7 Y6 (IntKind.i64.wrap (cn+1)))).run Tryz.prog W=.ok () W'):(Instr.entryStore 92 m (Y7 Y6 st) (Y7 Y6 (wrap64 (cn+1)))).run Tryz.prog W=.ok () W':=by
 rw[IntKind.wrap_i64] at h;unfold wrap64;exact h
theorem eo {w0:World} {o:Obj} (hg:w0.grownBy w' (Y5 b)) (h:w0.heap[k]?=Y5 o) (hne:¬k=b):w'.heap[k]?=Y5 o:=(hg.block k (ae h) (λe=>hne (Yd e))).trans h
theorem Below.AF {a:World} (h:Below B a w):Below B a w.drew:=⟨h.os,h.tape,h.output,h.size,h.block⟩
theorem fH {w0:World} (hg:w0.grownBy w' (Y5 b)) (hb:Below w.heap.size w w0) (hl:w.heap.size<=b):Below w.heap.size w w':=hb.grown hg hb.size (λk hk=>by cases hk;exact hl)
theorem AE(d:Ad) (c:Cl) (v:Vd) (ea:Option Addr) (el ec:Nat) (w:World) (hr:aB w d c.raw) (hT:aq c) (hv:az w ea el ec v.zs) (hv8:el<=8) (hm9:v.m.size<=9223372036854775807):
  Calls Tryz.prog 63 #[Zc #[J d.a1 d.l1 d.c1,J d.a2 d.l2 d.c2,J d.a3 d.l3 d.c3,J d.a4 d.l4 d.c4,J d.a5 d.l5 d.c5,Y7 Y6 c.now],Zc #[I v.n,Y7 Y6 v.c,I v.z,I v.k,Y9 v.x,I v.m,Y9 v.y,J ea el ec]] w (ak2 c v w):=by
 have z145z:=@aa _ @afz;exact fe
def nX(c:Cl) (v:Vd):Prop:=¬v.zs=[]\/∃(j:Nat) (n:Nd),c.ns[j]?=Y5 n/\InL n.zs v.n
theorem ag2(k:Int) (hk:k=1\/k=3) (s t:ByteArray):¬Um.ul k s=Um.ul 2 t:=by
 intro h;have h1:=congrArg (λl:Lit=>match l with | .string b=>b[7]?|_=>U) h;rcases hk with rfl|rfl;all_goals
  simp only[Um.ul,keyBytes,Lit.keyBytes,bytesBE,IntKind.bits,List.flatMap_cons,List.flatMap_nil,List.append_nil] at h1;rw[Yu ag,Yu ag] at h1
  revert h1
  decide
theorem aio:(Lit.int Y6 1).wf=Zb:=by decide
def PoU(ps:List Pd) (t:ByteArray) (k:Nat) (l:Lit):Prop:=∃(i:Nat) (p:Pd),i<k/\ps[i]?=Y5 p/\InL p.zs t/\l=Um.ul 1 p.n
theorem PoU.yes {p:Pd} (h:ps[k]?=Y5 p) (hy:InL p.zs t):PoU ps t (k+1) l↔PoU ps t k l\/l=Um.ul 1 p.n:=by
 constructor
 ·exact P6
 ·rintro (⟨i,s,hi,hs,a,e⟩|e)
  ·exact⟨i,s,by omega,hs,a,e⟩
  ·exact⟨k,p,by omega,h,hy,e⟩
theorem PoU.no {p:Pd} (h:ps[k]?=Y5 p) (hy:¬InL p.zs t):PoU ps t (k+1) l↔PoU ps t k l:=by
 exact Qu
def po(c:Cl) (t:ByteArray):Prop:=(∃v,aO c t v/\nX c v)\/∃(j:Nat) (p:Pd),c.ps[j]?=Y5 p/\InL p.zs t
theorem aO.back(hT:aq c) (h:aO c t v):v.m=t:=by
 obtain⟨i,j,x,h1,h2,h3,h4⟩:=h;rcases (hT.2.2.1.2 i x h1).2 with e|⟨i',j',x',v',a1,a2,a3,a4,a5,a6,-⟩
 ·exact absurd (h4.trans e) (cq.ne hT.2.1 j v h3)
 ·obtain⟨-,rfl⟩:=hT.2.1.2.2.1.2.2.inj h3 a3 (h4.trans a4.symm);exact a6.trans h2
theorem ain(hT:aq c) (h:aO c t v):(∀l,¬(xN c v l/\¬l=Um.ul 2 t))↔¬∃u,aO c t u/\nX c u:=by
 have hm:=h.back hT;constructor
 ·rintro hno ⟨u,hu,hb⟩;obtain rfl:=aO.inj hT.2.1.2.2.2.1.2.2 hT.2.1.2.2.1.2.2 hu h;rcases hb with hz|⟨j,n,hj,hi⟩
  ·rcases hzs:u.zs with _|⟨s,zs⟩
   ·exact hz hzs
   ·exact hno _ ⟨Ze (Zd ⟨0,s,by rw[hzs];simp,by rw[hzs];rfl,rfl⟩),ag2 3 (Zd rfl) _ _⟩
  ·exact hno _ ⟨Zd ⟨j,n,(Yc.1 hj).1,hj,hi,rfl⟩,ag2 3 (Zd rfl) _ _⟩
 ·rintro hno l ⟨(⟨-,e⟩|⟨i,s,-,hs,-⟩)|⟨j,n,-,hj,hi,-⟩,hne⟩
  ·exact hne (by rw[e,hm])
  ·exact hno ⟨v,h,Ze (λe=>by rw[e] at hs;cases hs)⟩
  ·exact hno ⟨v,h,Zd ⟨j,n,hj,hi⟩⟩
def vd0:Vd:=⟨⟨#[]⟩,0,⟨#[]⟩,⟨#[]⟩,Y_,⟨#[]⟩,Y_,[]⟩
theorem aim(hT:aq c) (h:∀v,¬aO c t v):(∀l,¬(xN c vd0 l/\¬l=Um.ul 2 t))↔¬∃u,aO c t u/\nX c u:=by
 refine⟨λ_ ⟨u,hu,_⟩=>h u hu,?_⟩;rintro - l ⟨(⟨hm,-⟩|⟨i,s,-,hs,-⟩)|⟨j,n,-,hj,⟨q,hq⟩,-⟩,-⟩
 ·exact hm rfl
 ·cases hs
 ·have h1:=((hT.2.1.1.2.1 j n hj).2.2.2.2.2).2;exact absurd (h1 q _ hq).1.1 ag
theorem BT(h:(∀l,¬S l)↔¬∃u,aO c t u/\nX c u):(∀l,¬(S l\/PoU c.ps t c.ps.length l))↔¬po c t:=by
 constructor
 ·rintro hno (hb|⟨j,p,hj,hi⟩)
  ·exact h.1 (λl hl=>hno l (Ze hl)) hb
  ·exact hno _ (Zd ⟨j,p,(Yc.1 hj).1,hj,hi,rfl⟩)
 ·rintro hno l (hl|⟨j,p,-,hj,hi,-⟩)
  ·exact h.2 (λhb=>hno (Ze hb)) l hl
  ·exact hno (Zd ⟨j,p,hj,hi⟩)
theorem agC(d:Ad) (c:Cl) (t:ByteArray) (w:World) (hr:aB w d c.raw) (hT:aq c) (ht:t.size<=1048576):
  Calls Tryz.prog 52 #[Zc #[J d.a1 d.l1 d.c1,J d.a2 d.l2 d.c2,J d.a3 d.l3 d.c3,J d.a4 d.l4 d.c4,J d.a5 d.l5 d.c5,Y7 Y6 c.now],I t] w λe w'=> ∃b n S,e=Za (.map (Y5 b))/\Um.Has w' b n S/\((∀l,¬S l)↔¬po c t)/\Below w.heap.size w w':=by
 have z145z:=@aa _ @afy;exact fe
def eW(c:Cl) (t:ByteArray) (i:Nat):Prop:=(i=2/\hit Xd.n c.xs t=Y_)\/(i=5/\hit Xd.n c.xs t=Zb/\po c t)
def h_(c:Cl) (t:ByteArray):Prop:=hit Xd.n c.xs t=Zb/\¬po c t
theorem QZ(d:Ad) (c:Cl) (t:ByteArray) (E:Nat->Addr) (w:World) (hr:aB w d c.raw) (hT:aq c) (hG:Ers w E) (ht:t.size<=1048576):
  Calls Tryz.prog 20 #[Zc #[J d.a1 d.l1 d.c1,J d.a2 d.l2 d.c2,J d.a3 d.l3 d.c3,J d.a4 d.l4 d.c4,J d.a5 d.l5 d.c5,Y7 Y6 c.now],I t] w (qQ E (λi=>2<=i/\eW c t i) (h_ c t) w):=by
 have HR:=aa hr;have HT:=aa hT;obtain⟨HE,HB⟩:=kX;clear hr hG hT;go_enter Tryz.func20,Tryz.ntmps20;go_wp2_with fail;refine (ie d c.now c.xs t w _ HR.x (ak _ _)).mono ?_;rintro e w1 ⟨hb,hf⟩;have z627z:=@aa _ @W_;exact iA
theorem jd {xs:List α} {x:α} (hr:aF nm xs) (hx:xs[k]?=Y5 x) (hn:nm x=t):wo nm t xs=xs.take k++xs.drop (k+1):=by
 have hk:k<xs.length:=(Yc.1 hx).1;have e:xs=xs.take k++x ::xs.drop (k+1):=by
  have h1:xs.drop k=x ::xs.drop (k+1):=by rw[List.drop_eq_getElem_cons hk];congr 1;exact (Yc.1 hx).2
  rw[<-h1,List.take_append_drop]
 have hno:∀(j:Nat) y,xs[j]?=Y5 y->¬j=k->(!((nm y).toList==t.toList))=Zb:=λj y hj hne=>by
  have:¬nm y=t:=λq=>hne (hr.inj hj hx (q.trans hn.symm)).1;simp[bu this]
 have h1:(xs.take k).filter (λx=> !((nm x).toList==t.toList))=xs.take k:=List.filter_eq_self.2 λy hy=>by
  obtain⟨j,hj⟩:=YD hy;rw[YA] at hj;split at hj
  ·exact hno j y hj af
  ·cases hj
 have h2:(xs.drop (k+1)).filter (λx=> !((nm x).toList==t.toList))=xs.drop (k+1):=List.filter_eq_self.2 λy hy=>by
  obtain⟨j,hj⟩:=YD hy;rw[List.getElem?_drop] at hj;exact hno _ y hj af
 unfold wo;conv=>lhs;rw[e]
 rw[List.filter_append,List.filter_cons,h1,h2,aP hn];rfl
theorem agj {ps:List α} {x y:α} (hr:aF nm ps) (hx:ps[k]?=Y5 x) (hn:nm x=t):aR (pl nm (wo nm t ps) t) y (wo nm t ps)=ps.set k y:=by
 have hk:k<ps.length:=(Yc.1 hx).1;have hw:=jd hr hx hn;have hpl:pl nm (wo nm t ps) t=k:=by
  rw[hw];have hlt:∀(j:Nat) z,j<k->(ps.take k++ps.drop (k+1))[j]?=Y5 z->Yk (nm z).toList t.toList=Zb:=λj z hj hz=>by
   have h1:(ps.take k).length=k:=by rw[YF];omega
   rw[Yu af,YA,if_pos hj] at hz;have:=hr.lt hj hz hx;rw[hn] at this;exact this
  by_cases he:k+1<ps.length
  ·have h1:(ps.take k).length=k:=by rw[YF];omega
   have h2:(ps.take k++ps.drop (k+1))[k]?=Y5 ps[k+1]:=by
    rw[List.getElem?_append_right af,h1,Nat.sub_self,List.getElem?_drop];exact Yi he
   refine oY hlt h2 ?_;have h3:=hr.lt (Nat.lt_succ_self k) hx (Yi he);rw[hn] at h3;cases h9:Yk (nm ps[k+1]).toList t.toList
   ·rfl
   ·have h8:=cJ _ _ _ h3 h9;rw[en] at h8;cases h8
  ·have h4:ps.take k++ps.drop (k+1)=ps.take k:=by rw[Yx af,List.append_nil]
   rw[h4];rw[h4] at hlt;have h1:(ps.take k).length=k:=by rw[YF];omega
   rw[fY (λj z hz=>hlt j z dz hz),h1]
 rw[hpl,hw];unfold aR;have h1:(ps.take k).length=k:=by rw[YF];omega
 rw[List.take_left' h1,List.drop_left' h1,List.set_eq_take_append_cons_drop,if_pos hk];simp
def Kept(c:Cl) (v:Vd):Prop:=∃(j:Nat) (k:Kd),c.ks[j]?=Y5 k/\k.n=v.k/\k.y=Zb
def gF(v:Vd):Vd:=⟨v.n,v.c,v.z,v.k,v.x,⟨#[]⟩,Zb,v.zs⟩
def xR(c:Cl) (v:Vd) (vs:List Vd):Prop:=(Kept c v/\vs=aR (pl Vd.n (wo Vd.n v.n c.vs) v.n) (gF v) (wo Vd.n v.n c.vs))\/(¬Kept c v/\vs=wo Vd.n v.n c.vs)
theorem agA(g:Ad) (c:Cl) (v:Vd) (ea:Option Addr) (el ec:Nat) (Q:Nat->Prop) (w:World) (ho:aw w g.a3 g.l3 g.c3 8 38 (c.vs.map vdF) Q) (hk:aT w g.a2 g.l2 g.c2 4 (c.ks.map kdF)) (hrk:aF Kd.n c.ks) (hv:az w ea el ec v.zs) (hl:g.l3<=8) (hv8:el<=8) (z0:v.n.size<=9223372036854775807) (z2:v.z.size<=9223372036854775807) (z3:v.k.size<=9223372036854775807):
  Calls Tryz.prog 25 #[Zc #[J g.a1 g.l1 g.c1,J g.a2 g.l2 g.c2,J g.a3 g.l3 g.c3,J g.a4 g.l4 g.c4,J g.a5 g.l5 g.c5,Y7 Y6 c.now],Zc #[I v.n,Y7 Y6 v.c,I v.z,I v.k,Y9 v.x,I v.m,Y9 v.y,J ea el ec]] w λe w'=> ∃a' l' c' vs,e=Za (J a' l' c')/\xR c v vs/\aw w' a' l' c' 8 38 (vs.map vdF) (λk=>Q k\/w.heap.size<=k)/\Below w.heap.size w w':=by
 have HO:=aa ho;have HK:=aa hk;have HRK:=aa hrk;have HV:=aa hv;have HB:=aa (Yh w.heap.size w);clear ho hk hrk hv;go_enter Tryz.func25,Tryz.ntmps25;go_wp2_with fail;have h5:=(HO.bm (S':=λk=>Q k/\k<w.heap.size) (λk hk s=>⟨s,hk⟩)).below (aS w (Y8 (clv g c.now) 29) (Y8 (vov v ea el ec) 38));refine (pb g.a3 g.l3 g.c3 c.vs v.n _ _ h5 hl).mono ?_;rintro e w1 ⟨a1,l1,c1,rfl,hN,hb⟩;have hs1:=hb.size;simp only[cw] at hs1;have hN2:=hN.bm (S':=λk=>(Q k/\k<w.heap.size)\/w.heap.size+1+1<=k) (λk _ s=>s.imp id (λq=>by simpa using q));have HN:=aa hN2;clear hN hN2 h5;obtain⟨HA0,HA1,hbx⟩:=dP hb;have Bk:=aa HA0;have Bv:=aa HA1;replace HB:=upB HB hbx;clear hb hbx HA0 HA1;have z182z:=@aa _ @ae4;exact fc
def de(c:Cl) (t:ByteArray) (vs:List Vd):Prop:=
 (∃(j:Nat) (v:Vd),c.vs[j]?=Y5 v/\aO c t v/\((Kept c v/\vs=c.vs.set j (gF v))\/(¬Kept c v/\vs=wo Vd.n v.n c.vs)))\/((∀v,¬aO c t v)/\vs=c.vs)
theorem xR.amw {vs:List Vd} (hT:aq c) (hb:aO c t v) (h:xR c v vs):de c t vs:=by
 obtain⟨j,hj⟩:=hb.at;refine Ze ⟨j,v,hj,hb,?_⟩;rcases h with ⟨a,rfl⟩|⟨a,rfl⟩
 ·exact Ze ⟨a,agj hT.2.1.2.2.1.2.2 hj rfl⟩
 ·exact Zd ⟨a,rfl⟩
def fJ(c:Cl) (t:ByteArray) (vs:List Vd):Cl:=⟨c.ns,c.ks,vs,wo Xd.n t c.xs,c.ps,c.now⟩
def a_(c:Cl) (t:ByteArray) (o:Co):Prop:=(∃i,DwWhy c t (eW c t) i/\o=co0 (bB i))\/(¬8000<t.size/\aq c/\h_ c t/\∃vs,de c t vs/\o=⟨fJ c t vs,⟨#[]⟩,0⟩)
theorem dk.amk {w2 w3 w4:World} {c:Cr} (h:dk w2 d c (λk=>B<=k) P) (hB:B<=w2.heap.size) {a:Option Addr} {l cp:Nat} {rs:List (List Fv)} (hN:aw w3 a l cp 5 50 rs (λk=>((B<=k/\P k=4)/\k<w2.heap.size)\/w2.heap.size+1<=k)) (hb:Below w2.heap.size w2 w3) (hk:∀k,B<=k->¬k=w2.heap.size->w4.heap[k]?=w3.heap[k]?):dk w4 ⟨d.a1,d.l1,d.c1,d.a2,d.l2,d.c2,d.a3,d.l3,d.c3,a,l,cp,d.a5,d.l5,d.c5⟩ ⟨c.n,c.k,c.v,rs,c.p⟩ (λk=>B<=k) (λk=>if w2.heap.size+1<=k then 4 else if k=w2.heap.size then 0 else P k):=by
 refine⟨?_,?_,?_,?_,?_⟩
 ·exact h.n.ay (λk hl s=>(hk k s.1 af).trans (hb.block k hl)) (λk hl s=>⟨s.1,by show (if w2.heap.size+1<=k then 4 else if k=w2.heap.size then 0 else P k)=1;rw[if_neg af,if_neg af];exact s.2⟩)
 ·exact h.k.ay (λk hl s=>(hk k s.1 af).trans (hb.block k hl)) (λk hl s=>⟨s.1,by show (if w2.heap.size+1<=k then 4 else if k=w2.heap.size then 0 else P k)=2;rw[if_neg af,if_neg af];exact s.2⟩)
 ·exact h.v.ay (λk hl s=>(hk k s.1 af).trans (hb.block k hl)) (λk hl s=>⟨s.1,by show (if w2.heap.size+1<=k then 4 else if k=w2.heap.size then 0 else P k)=3;rw[if_neg af,if_neg af];exact s.2⟩)
 ·have z409z:=@aa _ @ab_;exact p8
 ·exact h.p.ay (λk hl s=>(hk k s.1 af).trans (hb.block k hl)) (λk hl s=>⟨s.1,by show (if w2.heap.size+1<=k then 4 else if k=w2.heap.size then 0 else P k)=5;rw[if_neg af,if_neg af];exact s.2⟩)
theorem dk.aml {V w5 w6:World} {c:Cr} {o:Nat} (h:dk V d c (λk=>B<=k) P) (hB:B<=V.heap.size) (ho:P o=0) (hoV:o<V.heap.size) {a:Option Addr} {l cp:Nat} {rs:List (List Fv)} (hN:aw w5 a l cp 8 38 rs (λk=>((B<=k/\P k=3)/\k<V.heap.size)\/V.heap.size<=k)) (hb:Below V.heap.size V w5) (hk:∀k,B<=k->¬k=o->w6.heap[k]?=w5.heap[k]?):dK w6 ⟨d.a1,d.l1,d.c1,d.a2,d.l2,d.c2,a,l,cp,d.a4,d.l4,d.c4,d.a5,d.l5,d.c5⟩ ⟨c.n,c.k,rs,c.x,c.p⟩ (λk=>B<=k):=by
 refine⟨λk=>if V.heap.size<=k then 3 else P k,?_,?_,?_,?_,?_⟩
 ·exact h.n.ay (λk hl s=>(hk k s.1 (λe=>by have s2:=s.2;rw[e,ho] at s2;exact absurd s2 ag)).trans (hb.block k hl)) (λk hl s=>⟨s.1,by show (if V.heap.size<=k then 3 else P k)=1;rw[if_neg af];exact s.2⟩)
 ·exact h.k.ay (λk hl s=>(hk k s.1 (λe=>by have s2:=s.2;rw[e,ho] at s2;exact absurd s2 ag)).trans (hb.block k hl)) (λk hl s=>⟨s.1,by show (if V.heap.size<=k then 3 else P k)=2;rw[if_neg af];exact s.2⟩)
 ·refine hN.ay (λk _ s=>hk k (by rcases s with s|s;exact s.1.1;omega) (by rcases s with s|s;exact (λe=>by rw[e,ho] at s;exact absurd s.1.2 ag);omega)) (λk _ s=>?_);rcases s with s|s
  ·exact⟨s.1.1,by show (if V.heap.size<=k then 3 else P k)=3;rw[if_neg af];exact s.1.2⟩
  ·exact⟨by show B<=k;omega,if_pos s⟩
 ·exact h.x.ay (λk hl s=>(hk k s.1 (λe=>by have s2:=s.2;rw[e,ho] at s2;exact absurd s2 ag)).trans (hb.block k hl)) (λk hl s=>⟨s.1,by show (if V.heap.size<=k then 3 else P k)=4;rw[if_neg af];exact s.2⟩)
 ·exact h.p.ay (λk hl s=>(hk k s.1 (λe=>by have s2:=s.2;rw[e,ho] at s2;exact absurd s2 ag)).trans (hb.block k hl)) (λk hl s=>⟨s.1,by show (if V.heap.size<=k then 3 else P k)=5;rw[if_neg af];exact s.2⟩)
theorem xu(d:Ad) (c:Cl) (t:ByteArray) (E:Nat->Addr) (w:World) (hr:aB w d c.raw) (hG:Ers w E):
  Calls Tryz.prog 5 #[Zc #[J d.a1 d.l1 d.c1,J d.a2 d.l2 d.c2,J d.a3 d.l3 d.c3,J d.a4 d.l4 d.c4,J d.a5 d.l5 d.c5,Y7 Y6 c.now],I t] w (ak6 (a_ c t) w):=by
 have HR:=aa hr;obtain⟨HE,HB⟩:=kX;clear hr hG;go_enter Tryz.func5,Tryz.ntmps5;go_wp2_with fail;refine (Re d c t E (eW c t) (h_ c t) _ (HR.below (HB.trans ((aS _ _ _).mono HB.size))) (HE.below (HB.trans ((aS _ _ _).mono HB.size))) (λW h1 h2 h3 h4=>QZ d c t E W h1 h2 h3 af)).mono ?_;rintro e w1 ⟨hb,hf⟩;have z881z:=@aa _ @TA;exact lx
end Rc
end Go.Proofs.YtfhdfmdaiookjaaGreatDoor

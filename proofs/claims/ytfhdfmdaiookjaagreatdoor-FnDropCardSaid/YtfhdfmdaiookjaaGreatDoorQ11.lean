import Derived.Test.YtfhdfmdaiookjaaGreatDoorQ10
import Derived.Deep.Cut
import Derived.Deep.CutRange
import Derived.Stop.LaidErr
import Derived.ChangeVars
/-
 Bytes that came in, as the walks want them.
-/
set_option maxRecDepth 100000
set_option maxHeartbeats 12800000
open Bool renaming false→Y_,true→Zb
open Go.Ending renaming returned→Za
open Go.IntKind renaming i64→Y6
open Go.Obj renaming cells→Y8
open Go.Value renaming string→I,slice→J,int→Y7,bool→Y9,agg→Zc,pointer→Zf,tuple→Zg
open Option renaming none→U,some→Y5
open Or renaming inr→Zd,inl→Ze
open And renaming intro→Yb
open Array renaming getElem?_push_size→Yg, getD_eq_getD_getElem?→Yr, getElem?_eq_some_iff→Yw
open Bool renaming and_eq_true→YG
open Classical renaming byContradiction→YH
open Go.Addr renaming add_lit→Yn
open Go.Calls renaming quiet_of_same→Yz
open Go.Op renaming bytesLess→Yk
open Go.Region renaming ready→YQ
open Go.RowKit.Below renaming heap_setCell→Ya, refl→Yh, heap_alloc→Yl
open Go.Value renaming string→Ym, ownBlock→YL
open List renaming getElem?_eq_some_iff→Yc, lookup→Yf, getElem?_eq_getElem→Yi, length_map→Yo, mem_of_getElem?→Ys, setIfInBounds_toArray→Yt, getElem?_append_left→Yu, getElem?_map→Yv, drop_eq_nil_of_le→Yx, getElem?_take→YA, set_cons_zero→YC, getElem?_of_mem→YD, set_cons_succ→YE, length_take→YF, forall_mem_cons→YI, take_of_length_le→YJ, take_add_one→YN, mem_cons→YO, foldr→YT, mem_append_right→YY
open Nat renaming le_refl→Ye, lt_of_lt_of_le→Yj, le_trans→Yp, zero_add→Yq, le_succ→Yy, zero_le→YK
open Option renaming map_eq_some_iff→YB
open Option.some renaming inj→Yd
namespace Go.Proofs.YtfhdfmdaiookjaaGreatDoor
variable {p:Prop}
namespace Mk
end Mk
namespace Dk
end Dk
namespace Rc
end Rc
open Go.RowKit Mk Dk Rc
variable {P:Program} {len:Nat} {w:World}
theorem al8(h:p:=by
 obtain⟨x0,x1,x2,x3,x4,x5,x6,x7⟩:=cs8 Bx1;by_cases hx:o1.p=0;rotate_left
 ·have hp:(o1.p !=0)=Zb:=by simpa using hx
  go_wp2;go_ret;exact⟨rfl,HB.out⟩
 have hp:(o1.p !=0)=Y_:=by simpa using hx
 have hlw:=HI1.law hx;have HNP:=aa hlw.1;have HNV:=aa hlw.2;clear hlw hx;have hm5:l51<=9223372036854775807:=Yp HC1.p.2.1 HC1.p.2.2.1;have pk4:=ck4 Bc1;go_wp2_with fail;go_loopw [14] (λi wr=> ∃k:Nat,k<=l51/\i=Y7 Y6 k/\wr=wz) (λi _=>l51 - (intOf i).toNat);case atStart=>exact⟨0,by omega,rfl,rfl⟩
 case round=>
  obtain⟨k,hk,rfl,hw⟩:=hrel;subst wr;by_cases hlt:k<l51
  ·obtain⟨b,on,pp,rfl,hb,hxk,hat⟩:=cg HC1.p hlt;obtain⟨va,vl,vc,hvr,-,-,-,-,-,-,c3,-,-⟩:=bH hat;have HXK:=aa hxk;have HVR:=aa hvr;have hvl:=Yp hvr.2.1 hvr.2.2.1;clear hat hvr hxk;go_wp2_with fail;go_loopw [15] (λi wr=> ∃q:Nat,q<=vl/\i=Y7 Y6 q/\wr=wz) (λi _=>vl - (intOf i).toNat);case atStart=>exact⟨0,by omega,rfl,rfl⟩
   case round=>
    obtain⟨q,hq,rfl,hw⟩:=hrel;subst wr;by_cases hlt2:q<vl
    ·obtain⟨b2,on2,s,rfl,hb2,hs,hc,hsz⟩:=HVR.at hlt2;have he:=bu (λe:s=t1=>HNP.out k pp q HXK.out (e ▸ hs));clear hs;go_wp2_with fail;exact⟨⟨q+1,by omega,by go_num,bM⟩,by simp[intOf];omega⟩
    ·obtain rfl:vl=q:=af
     exact OW
  ·obtain rfl:l51=k:=af
   obtain⟨k0,k1,k2,k3,k4,k5⟩:=cs6 Bc1;go_wp2_with fail;refine (B1 ⟨a11,l11,y11,a21,l21,y21,a31,l31,y31,a41,l41,y41,a51,l51,y51⟩ c1 t1 _ HC1.out).mono ?_;rintro e w6 ⟨ua,ul,uc,u,rfl,hvi,-,hb6⟩;have HVI:=aa hvi;clear hvi k0 k1 k2 k3 k4 k5 x0 x1 x2 x3 x4 x5 x6 x7 pk4;go_wp2_with fail;have hbV:=ak w6 (Y8 #[I u.u.n,Y7 Y6 u.u.c,I u.u.z,I u.u.k,Y9 u.u.x,I u.u.m,Y9 u.u.y,J ua ul uc,Y7 Y6 u.p] 42);have Bv:Hid ((w6.alloc (Y8 #[I u.u.n,Y7 Y6 u.u.c,I u.u.z,I u.u.k,Y9 u.u.x,I u.u.m,Y9 u.u.y,J ua ul uc,Y7 Y6 u.p] 42)).heap[w6.heap.size]?=Y5 (Y8 #[I u.u.n,Y7 Y6 u.u.c,I u.u.z,I u.u.k,Y9 u.u.x,I u.u.m,Y9 u.u.y,J ua ul uc,Y7 Y6 u.p] 42 (0,0))):=Yg;have hb7:=hb6.trans (hbV.mono hb6.size);replace Bx1:=upK Bx1 hb7;replace HX1:=aa (HX1.below hb7);replace HB:=upB HB hb7;clear hb6 hbV hb7;generalize hX:w6.heap.size=bv at*;generalize (w6.alloc (Y8 #[I u.u.n,Y7 Y6 u.u.c,I u.u.z,I u.u.k,Y9 u.u.x,I u.u.m,Y9 u.u.y,J ua ul uc,Y7 Y6 u.p] 42))=W7 at*;clear hX;have hm3:g1.l3<=9223372036854775807:=Yp HX1.v.2.1 HX1.v.2.2.1;go_loopw [17] (λi wr=> ∃k:Nat,k<=g1.l3/\i=Y7 Y6 k/\Hid (Below W7.heap.size W7 wr)) (λi _=>g1.l3 - (intOf i).toNat);case atStart=>exact⟨0,by omega,rfl,Yh _ _⟩
   case round=>
    obtain⟨k9,hk9,rfl,HBW⟩:=hrel;have Rx:=upK Bx1 HBW.out;have Rv:=upK Bv HBW.out;obtain⟨x0,x1,x2,x3,x4,x5,x6,x7⟩:=cs8 Rx;by_cases hlt9:k9<g1.l3
    ·obtain⟨b9,o9,z,ha9,hb9,hz9,hat9⟩:=bK (HX1.v.below HBW.out) hlt9;rw[ha9] at x2;obtain⟨za,zl,zc,-,-,-,-,-,e0,e1,e2,e3,e4,e5,e6,e7⟩:=aW hat9;have HZ9:=aa hz9;clear hat9 hz9 ha9;have v0:=an Rv.out 0;have v8:=an Rv.out 8;have hvb:=ae Rv.out;by_cases hu:u.p=0
     ·have hu1:(u.p==0)=Zb:=by simpa using hu
      by_cases hzn:z.n=u.u.n
      ·have he:=aP hzn;have hl:=HNV.out u HVI.out hu k9 z HZ9.out hzn;have hze:=cC hl.1;have hzy:=hl.2;clear hl hzn hu;exact wB
      ·have he:=bu hzn;clear hzn hu;exact wB
     ·have hu1:(u.p==0)=Y_:=by simpa using hu
      clear hu;exact wB
    ·obtain h9:g1.l3=k9:=af
     go_wp2;go_ret;exact⟨rfl,HB.trans (HBW.mono HB.size)⟩):p:=h
theorem fh(h:p:=by
 go_simp;refine hK _ _ (Yh _ _) ?_;first|with_reducible rfl|(simp;done)|rfl):p:=h
theorem ahB(h:p:=by
 exact OW):p:=h
theorem Po(h:p:=by
 have z230z:=@aa _ @aef;exact dt):p:=h
theorem wB(h:p:=by
 go_wp2_with fail;exact⟨⟨k9+1,by omega,by go_num,HBW.trans ((ak _ _).mono HBW.size)⟩,by simp[intOf];omega⟩):p:=h
theorem Pj(h:p:=by
 have z230z:=@aa _ @aee;exact dt):p:=h
theorem Pe(h:p:=by
 obtain⟨d0,d1,d2,d3,d4,d5⟩:=cs6 gd;clear gd;exact fh):p:=h
theorem OW(h:p:=by
 go_wp2_with fail;exact⟨⟨k+1,by omega,by go_num,bM⟩,by simp[intOf];omega⟩):p:=h
theorem aep(h:p:=by
 have e10:=hf 10 ag;simp[aj,Yf] at e10;clear hf;have gd:=(hW.block _ (ae Bx2.out)).trans Bx2.out;obtain⟨d0,d1,d2,d3,d4,d5,d6,d7⟩:=cs8 gd;clear gd;exact fh):p:=h
theorem aeo(h:p:=by
 have e8:=hf 8 ag;simp[aj,Yf] at e8;clear hf;have gd:=(hW.block _ (ae Bc2.out)).trans Bc2.out;exact Pe):p:=h
theorem aen(h:p:=by
 have e9:=hf 9 ag;simp[aj,Yf] at e9;clear hf;exact fh):p:=h
theorem aem(h:p:=by
 have e56:=hf 56 ag;simp[aj,Yf] at e56;have e57:=hf 57 ag;simp[aj,Yf] at e57;clear hf;go_simp;refine (vI ⟨a12,l12,y12,a22,l22,y22,a32,l32,y32,a42,l42,y42,a52,l52,y52⟩ c2 t2 _ (HC2.below hW)).mono ?_;rintro e w3 ⟨g9,o9,rfl,hI2,ho2,hb3⟩;obtain rfl:=HI2.same hI2;exact hK _ _ hb3 ⟨g9,rfl,ho2⟩):p:=h
theorem ael(h:p:=by
 have e55:=hf 55 ag;simp[aj,Yf] at e55;have e58:=hf 58 ag;simp[aj,Yf] at e58;clear hf;obtain⟨g9,e58,hrow⟩:=e58;go_simp;refine (kM g2 g9 o2 _ (HX2.below hW) hrow (λh=>HI2.right h)).mono ?_;rintro e w3 ⟨rfl,hb3⟩;exact hK _ _ hb3 rfl):p:=h
theorem aek(h:p:=by
 have e59:=hf 59 ag;simp[aj,Yf] at e59;clear hf;exact fh):p:=h
theorem aej(h:p:=by
 have e63:=hf 63 ag;simp[aj,Yf] at e63;have e64:=hf 64 ag;simp[aj,Yf] at e64;clear hf;go_simp;refine (xw ⟨a13,l13,y13,a23,l23,y23,a33,l33,y33,a43,l43,y43,a53,l53,y53⟩ c3 t3 E _ (HC3.below hW) ((HE.below HB.out).below hW)).mono ?_;rintro e w3 ⟨g9,o9,rfl,hI2,ho2,hb3⟩;obtain rfl:=HI3.same hI2;exact hK _ _ hb3 ⟨g9,rfl,ho2.row⟩):p:=h
theorem aei(h:p:=by
 have e66:=hf 66 ag;simp[aj,Yf] at e66;have e67:=hf 67 ag;simp[aj,Yf] at e67;clear hf;go_simp;refine (vJ ⟨a13,l13,y13,a23,l23,y23,a33,l33,y33,a43,l43,y43,a53,l53,y53⟩ c3 t3 _ (HC3.below hW)).mono ?_;rintro e w3 ⟨g9,o9,rfl,hI2,ho2,hb3⟩;obtain rfl:=HI3.same hI2;exact hK _ _ hb3 ⟨g9,rfl,ho2⟩):p:=h
theorem aeh(h:p:=by
 have e65:=hf 65 ag;simp[aj,Yf] at e65;have e68:=hf 68 ag;simp[aj,Yf] at e68;clear hf;obtain⟨g8,e65,hrow2⟩:=e65;obtain⟨g9,e68,hrow⟩:=e68;go_simp;refine (kM g8 g9 o3 _ hrow2 hrow (λh=>HI3.right h)).mono ?_;rintro e w3 ⟨rfl,hb3⟩;exact hK _ _ hb3 rfl):p:=h
theorem aeg(h:p:=by
 have e69:=hf 69 ag;simp[aj,Yf] at e69;clear hf;exact fh):p:=h
theorem aef(h:p:=by
 have e11:=hf 11 ag;simp[aj,Yf] at e11;clear hf;have gd:=(hW.block _ (ae Bc3.out)).trans Bc3.out;obtain⟨d0,d1,d2,d3,d4,d5⟩:=cs6 gd;clear gd;exact fh):p:=h
theorem aee(h:p:=by
 have e12:=hf 12 ag;simp[aj,Yf] at e12;clear hf;exact fh):p:=h
theorem dt(h:p:=by
 refine Obl.guarded rfl rfl (by intro a w e;simpa[aj,Yf] using e) ?_;intro ac wg K hsz hW hf hK;clear hsz;exact z230z):p:=h
theorem acD(h:p:=by
 clear hf;have gd:=(hW.block _ (ae Bx1.out)).trans Bx1.out;obtain⟨d0,d1,d2,d3,d4,d5,d6,d7⟩:=cs8 gd;clear gd;exact fh):p:=h
theorem ab4(h:p:=by
 clear hf;exact fh):p:=h
theorem MG(h:p:=by
 refine Grow.stepC (Zc #[J g1.a1 g1.l1 g1.c1,J g1.a2 g1.l2 g1.c2,J g1.a3 g1.l3 g1.c3,J g1.a4 g1.l4 g1.c4,J g1.a5 g1.l5 g1.c5,Y7 Y6 o1.c.now,I o1.n,Y7 Y6 o1.p]) rfl ?_ ?_
 ·have z368z:=@aa _ @acD;exact lF
 refine Grow.stepC (Zc #[J a11 l11 y11,J a21 l21 y21,J a31 l31 y31,J a41 l41 y41,J a51 l51 y51,Y7 Y6 c1.now]) rfl ?_ ?_
 ·refine Obl.plain rfl ?_;intro ac wg K hsz hW hf hK;clear hsz;have e5:=hf 5 ag;simp[aj,Yf] at e5;clear hf;have gd:=(hW.block _ (ae Bc1.out)).trans Bc1.out;exact Pe
 refine Grow.stepC (I t1) rfl ?_ ?_
 ·have z416z:=@aa _ @ab4;exact pZ
 refine Grow.step (CoF o1) rfl (CoF.mono o1) ?_ ?_
 ·refine Obl.plain rfl ?_;intro ac wg K hsz hW hf hK;clear hsz;have e49:=hf 49 ag;simp[aj,Yf] at e49;have e50:=hf 50 ag;simp[aj,Yf] at e50;clear hf;go_simp;refine (vH ⟨a11,l11,y11,a21,l21,y21,a31,l31,y31,a41,l41,y41,a51,l51,y51⟩ c1 t1 _ (HC1.below hW)).mono ?_;rintro e w3 ⟨g2,o2,rfl,hI2,ho2,hb3⟩;obtain rfl:=HI1.same hI2;exact hK _ _ hb3 ⟨g2,rfl,ho2⟩
 refine Grow.stepC (Y9 Zb) rfl ?_ ?_
 ·refine Obl.plain rfl ?_;intro ac wg K hsz hW hf hK;clear hsz;have e48:=hf 48 ag;simp[aj,Yf] at e48;have e51:=hf 51 ag;simp[aj,Yf] at e51;clear hf;obtain⟨g9,e51,hrow⟩:=e51;go_simp;refine (kM g1 g9 o1 _ (HX1.below hW) hrow (λh=>HI1.right h)).mono ?_;rintro e w3 ⟨rfl,hb3⟩;exact hK _ _ hb3 rfl
 refine Grow.stepC (Y9 Y_) rfl ?_ ?_
 ·refine Obl.plain rfl ?_;intro ac wg K hsz hW hf hK;clear hsz;have e52:=hf 52 ag;simp[aj,Yf] at e52;clear hf;exact fh
 refine Grow.stepC (Y9 Y_) rfl ?_ ?_
 ·refine Obl.plain rfl ?_;intro ac wg K hsz hW hf hK;clear hsz;have e53:=hf 53 ag;simp[aj,Yf] at e53;clear hf;exact fh
 refine Grow.stepC (Zc #[J g2.a1 g2.l1 g2.c1,J g2.a2 g2.l2 g2.c2,J g2.a3 g2.l3 g2.c3,J g2.a4 g2.l4 g2.c4,J g2.a5 g2.l5 g2.c5,Y7 Y6 o2.c.now,I o2.n,Y7 Y6 o2.p]) rfl ?_ ?_
 ·have z230z:=@aa _ @aep;exact dt
 refine Grow.stepC (Zc #[J a12 l12 y12,J a22 l22 y22,J a32 l32 y32,J a42 l42 y42,J a52 l52 y52,Y7 Y6 c2.now]) rfl ?_ ?_
 ·have z230z:=@aa _ @aeo;exact dt
 refine Grow.stepC (I t2) rfl ?_ ?_
 ·have z230z:=@aa _ @aen;exact dt
 refine Grow.step (CoF o2) rfl (CoF.mono o2) ?_ ?_
 ·have z230z:=@aa _ @aem;exact dt
 refine Grow.stepC (Y9 Zb) rfl ?_ ?_
 ·have z230z:=@aa _ @ael;exact dt
 refine Grow.stepC (Y9 Y_) rfl ?_ ?_
 ·have z230z:=@aa _ @aek;exact dt
 refine Grow.stepC (Y9 Y_) rfl ?_ ?_
 ·refine Obl.plain rfl ?_;intro ac wg K hsz hW hf hK;clear hsz;have e54:=hf 54 ag;simp[aj,Yf] at e54;have e60:=hf 60 ag;simp[aj,Yf] at e60;clear hf;exact fh
 refine Grow.stepC (Y9 Y_) rfl ?_ ?_
 ·refine Obl.plain rfl ?_;intro ac wg K hsz hW hf hK;clear hsz;have e61:=hf 61 ag;simp[aj,Yf] at e61;clear hf;exact fh
 refine Grow.stepC (Zc #[J a13 l13 y13,J a23 l23 y23,J a33 l33 y33,J a43 l43 y43,J a53 l53 y53,Y7 Y6 c3.now]) rfl ?_ ?_
 ·exact Po
 refine Grow.stepC (I t3) rfl ?_ ?_
 ·exact Pj
 refine Grow.step (CoF o3) rfl (CoF.mono o3) ?_ ?_
 ·have z230z:=@aa _ @aej;exact dt
 refine Grow.stepC (Zc #[J a13 l13 y13,J a23 l23 y23,J a33 l33 y33,J a43 l43 y43,J a53 l53 y53,Y7 Y6 c3.now]) rfl ?_ ?_
 ·exact Po
 refine Grow.stepC (I t3) rfl ?_ ?_
 ·exact Pj
 refine Grow.step (CoF o3) rfl (CoF.mono o3) ?_ ?_
 ·have z230z:=@aa _ @aei;exact dt
 refine Grow.stepC (Y9 Zb) rfl ?_ ?_
 ·have z230z:=@aa _ @aeh;exact dt
 refine Grow.stepC (Y9 Y_) rfl ?_ ?_
 ·have z230z:=@aa _ @aeg;exact dt
 refine Grow.stepC (Y9 Y_) rfl ?_ ?_
 ·refine Obl.plain rfl ?_;intro ac wg K hsz hW hf hK;clear hsz;have e62:=hf 62 ag;simp[aj,Yf] at e62;have e70:=hf 70 ag;simp[aj,Yf] at e70;clear hf;exact fh
 have z1721z:=@aa _ @Dg;exact fx):p:=h
theorem Dg(h:p:=by
 obtain⟨h71,-⟩:=hf;refine hK0 _ _ ?_;simp only[aM,YT,Act.put,Yt,YC,YE,h71];clear hK0;replace HB:=upB HB hW;replace HC1:=aa (HC1.below hW);replace Bc1:=upK Bc1 hW;replace HX1:=aa (HX1.below hW);replace Bx1:=upK Bx1 hW;replace HC2:=aa (HC2.below hW);replace Bc2:=upK Bc2 hW;replace HX2:=aa (HX2.below hW);replace Bx2:=upK Bx2 hW;replace HC3:=aa (HC3.below hW);replace Bc3:=upK Bc3 hW;clear hW Bc3 HC3;go_wp2_with fail;have hm2:l32<=9223372036854775807:=Yp HC2.v.2.1 HC2.v.2.2.1;go_loopw [13] (λi wr=> ∃k:Nat,k<=l32/\i=Y7 Y6 k/\wr=wz) (λi _=>l32 - (intOf i).toNat);case atStart=>exact⟨0,by omega,rfl,rfl⟩
 case round=>
  obtain⟨k,hk,rfl,hw⟩:=hrel;subst wr;have pk2:=ck2 Bc2;have py7:=an Bx2.out 7;by_cases hlt:k<l32
  ·by_cases hy:o2.p=0
   ·have hy1:(o2.p==0)=Zb:=by simpa using hy
    obtain⟨b,on,v,rfl,hb,hxk,hat⟩:=bK HC2.v hlt;obtain⟨va,vl,vc,hvr,-,-,-,-,c0,-,-,-,-,c5,-,c7⟩:=aW hat;by_cases hn:v.n=t2
    ·have he:=aP hn;have hl:=HI2.law hy k v hxk hn;have hme:=cC hl.1;have hvl:vl=0:=by have:=hvr.1;rw[hl.2] at this;simpa using this.symm
     subst hvl;clear hl hn hat hvr hxk hy;exact ahB
    ·have he:=bu hn;clear hn hat hvr hxk hy;exact ahB
   ·have hy1:(o2.p==0)=Y_:=by simpa using hy
    clear hy;exact al8
  ·obtain rfl:l32=k:=af
   exact al8):p:=h
def px(k:IntKind) (w:World) (a:Option Addr) (len cap:Nat) (zs:List Int):Prop:=
 (a=U/\len=0/\cap=0/\zs=[])\/
 ∃x,a=Y5 x/\len<=cap/\cap<=maxLen/\zs.length=cap/\(∀i,i<zs.length->w.cell? (x.add i)=Y5 (Y7 k (zs.getD i 0)))/\∀n∈zs,(Lit.int k n).wf=Zb
theorem px.ag4 {a:Option Addr} {cap:Nat} {zs:List Int} (h:px .u8 w a len cap zs) (hl:len<=1048576):ep w.heap.size w (J a len cap) len:=by
 refine⟨by omega,a,cap,rfl,λj hj=>?_⟩;rcases h with ⟨rfl,rfl,rfl,rfl⟩|⟨x,rfl,hlc,_,hz,hcell,hwf⟩
 ·omega
 ·obtain⟨b,off,spot⟩:=x;have hc:=hcell j af;have hspot:spot=U:=by
   have h0:=hcell 0 af;simpa[Addr.add] using World.cell?_spot h0
  subst hspot;rw[Yn] at hc;have hb:b<w.heap.size:=by
   rcases Nat.lt_or_ge b w.heap.size with h1|h1
   ·exact h1
   ·simp[World.cell?,Array.getElem?_eq_none h1] at hc
  have hmem:zs.getD j 0∈zs:=by
   rw[List.getD_eq_getElem?_getD,Yi af];simp
  have hw:=hwf _ hmem;simp[Lit.wf,IntKind.min,IntKind.max,IntKind.signed,IntKind.bits] at hw;have e:zs.getD j 0=zs[j]?.getD 0:=List.getD_eq_getElem?_getD ..;exact⟨b,off,zs.getD j 0,rfl,hb,hc,by rw[e];omega,by rw[e];omega⟩
namespace Rc
theorem ag3 {B B':Nat} {v:Value} (h:ep B w v len) (hB:B<=B'):ep B' w v len:=by
 obtain⟨h1,a0,cap,h2,h3⟩:=h;exact⟨h1,a0,cap,h2,λj hj=>by obtain⟨b,off,z,h4,h5,h6⟩:=h3 j hj;exact⟨b,off,z,h4,by omega,h6⟩⟩
def CoF(o:Co):Fact:=λv w=> ∃g:Ad,v=Zc #[J g.a1 g.l1 g.c1,J g.a2 g.l2 g.c2,J g.a3 g.l3 g.c3,J g.a4 g.l4 g.c4,J g.a5 g.l5 g.c5,Y7 Y6 o.c.now,I o.n,Y7 Y6 o.p]/\aB w g o.c.raw
theorem CoF.mono(o:Co):Fact.cA (CoF o):=λ_ _ _ ⟨g,h,h1⟩ hb=>⟨g,h,h1.below hb⟩
set_option linter.unusedVariables false in
theorem BC(v v2:Value) (len len2:Nat) (E:Nat->Addr) (w:World) (hv:∃a cap,v=J a len cap) (hv2:∃a cap,v2=J a len2 cap) (hR:ep w.heap.size w v len) (hR2:ep w.heap.size w v2 len2) (hl:len<=1048576) (hl2:len2<=1048576) (hG:Ers w E):
  Calls Tryz.prog 3 #[v,v2] w λe w'=>e=Za (Y9 Zb)/\Below w.heap.size w w':=by
 obtain⟨ac,cc,rfl⟩:=hv;obtain⟨am,cm,rfl⟩:=hv2;have HR:=aa hR;have HR2:=aa hR2;have HE:=aa hG;clear hR hR2 hG;go_enter Tryz.func3,Tryz.ntmps3;go_wp2_with fail;refine (od _ len _ HR.out).mono ?_;rintro e w1 ⟨⟨a11,l11,y11,a21,l21,y21,a31,l31,y31,a41,l41,y41,a51,l51,y51⟩,c1,t1,rfl,hr,ht1,hb⟩;have HB:=aa hb;have HC1:=aa hr;clear hr hb HR;go_wp2_with fail;refine (xu ⟨a11,l11,y11,a21,l21,y21,a31,l31,y31,a41,l41,y41,a51,l51,y51⟩ c1 t1 E _ (HC1.below (ak _ _)) ((HE.below HB.out).below (ak _ _))).mono ?_;rintro e w2 ⟨g1,o1,rfl,hI,ho,hb⟩;obtain⟨HA0,hbx⟩:=aV hb;replace HB:=upB HB hbx;replace HC1:=aa (HC1.below hbx);have Bc1:=aa HA0;have HX1:=aa ho.row;have HI1:=aa hI;clear hI ho hb hbx HA0;go_wp2_with fail;have HRQ:=aa (ag3 (HR2.below (HB.trans ((ak w2 (Y8 #[J g1.a1 g1.l1 g1.c1,J g1.a2 g1.l2 g1.c2,J g1.a3 g1.l3 g1.c3,J g1.a4 g1.l4 g1.c4,J g1.a5 g1.l5 g1.c5,Y7 Y6 o1.c.now,I o1.n,Y7 Y6 o1.p] 33)).mono HB.size))) (HB.trans ((ak w2 (Y8 #[J g1.a1 g1.l1 g1.c1,J g1.a2 g1.l2 g1.c2,J g1.a3 g1.l3 g1.c3,J g1.a4 g1.l4 g1.c4,J g1.a5 g1.l5 g1.c5,Y7 Y6 o1.c.now,I o1.n,Y7 Y6 o1.p] 33)).mono HB.size)).size);refine (oe _ len2 _ HRQ.out).mono ?_;rintro e w3 ⟨⟨a12,l12,y12,a22,l22,y22,a32,l32,y32,a42,l42,y42,a52,l52,y52⟩,c2,t2,rfl,hr,ht2,hb⟩;obtain⟨HA0,hbx⟩:=aV hb;replace HB:=upB HB hbx;replace HC1:=aa (HC1.below hbx);replace Bc1:=upK Bc1 hbx;replace HX1:=aa (HX1.below hbx);have Bx1:=aa HA0;have HC2:=aa hr;clear hr hb hbx HA0 HRQ;go_wp2_with fail;refine (xv ⟨a12,l12,y12,a22,l22,y22,a32,l32,y32,a42,l42,y42,a52,l52,y52⟩ c2 t2 E _ (HC2.below (ak _ _)) ((HE.below HB.out).below (ak _ _))).mono ?_;rintro e w4 ⟨g2,o2,rfl,hI,ho,hb⟩;obtain⟨HA0,hbx⟩:=aV hb;replace HB:=upB HB hbx;replace HC1:=aa (HC1.below hbx);replace Bc1:=upK Bc1 hbx;replace HX1:=aa (HX1.below hbx);replace Bx1:=upK Bx1 hbx;replace HC2:=aa (HC2.below hbx);have Bc2:=aa HA0;have HX2:=aa ho.row;have HI2:=aa hI;clear hI ho hb hbx HA0;go_wp2_with fail;have HRQ:=aa (ag3 (HR2.below (HB.trans ((ak w4 (Y8 #[J g2.a1 g2.l1 g2.c1,J g2.a2 g2.l2 g2.c2,J g2.a3 g2.l3 g2.c3,J g2.a4 g2.l4 g2.c4,J g2.a5 g2.l5 g2.c5,Y7 Y6 o2.c.now,I o2.n,Y7 Y6 o2.p] 33)).mono HB.size))) (HB.trans ((ak w4 (Y8 #[J g2.a1 g2.l1 g2.c1,J g2.a2 g2.l2 g2.c2,J g2.a3 g2.l3 g2.c3,J g2.a4 g2.l4 g2.c4,J g2.a5 g2.l5 g2.c5,Y7 Y6 o2.c.now,I o2.n,Y7 Y6 o2.p] 33)).mono HB.size)).size);refine (og _ len2 _ HRQ.out).mono ?_;rintro e w5 ⟨⟨a13,l13,y13,a23,l23,y23,a33,l33,y33,a43,l43,y43,a53,l53,y53⟩,c3,t3,rfl,hr,ht3,hb⟩;obtain⟨HA0,hbx⟩:=aV hb;replace HB:=upB HB hbx;replace HC1:=aa (HC1.below hbx);replace Bc1:=upK Bc1 hbx;replace HX1:=aa (HX1.below hbx);replace Bx1:=upK Bx1 hbx
 replace HC2:=aa (HC2.below hbx);replace Bc2:=upK Bc2 hbx;replace HX2:=aa (HX2.below hbx);have Bx2:=aa HA0;have HC3:=aa hr;clear hr hb hbx HA0 HRQ;go_wp2_with fail;have hbX:=ak w5 (Y8 (clo6 a13 l13 y13 a23 l23 y23 a33 l33 y33 a43 l43 y43 a53 l53 y53 c3.now) 29);replace HB:=upB HB hbX;replace HC1:=aa (HC1.below hbX);replace Bc1:=upK Bc1 hbX;replace HX1:=aa (HX1.below hbX);replace Bx1:=upK Bx1 hbX;replace HC2:=aa (HC2.below hbX);replace Bc2:=upK Bc2 hbX;replace HX2:=aa (HX2.below hbX);replace Bx2:=upK Bx2 hbX;replace HC3:=aa (HC3.below hbX);have Bc3:Hid ((w5.alloc (Y8 (clo6 a13 l13 y13 a23 l23 y23 a33 l33 y33 a43 l43 y43 a53 l53 y53 c3.now) 29)).heap[w5.heap.size]?=Y5 (Y8 (clo6 a13 l13 y13 a23 l23 y23 a33 l33 y33 a43 l43 y43 a53 l53 y53 c3.now) 29 (0,0))):=Yg;clear hbX;generalize hX:w5.heap.size=bc3 at*;generalize (w5.alloc (Y8 (clo6 a13 l13 y13 a23 l23 y23 a33 l33 y33 a43 l43 y43 a53 l53 y53 c3.now) 29))=W at*;generalize hX4:w4.heap.size=bx2 at*;generalize hX3:w3.heap.size=bc2 at*;generalize hX2:w2.heap.size=bx1 at*;generalize hX1:w1.heap.size=bc1 at*;clear hX hX1 hX2 hX3 hX4;obtain⟨o3,HI3⟩:∃o3,Hid (bl c3 t3 o3):=by
  by_cases hl9:8000<t3.size
  ·exact⟨_,Ze ⟨0,hl9,rfl⟩⟩
  by_cases hr9:aq c3
  ·cases hh:hit Pd.n c3.ps t3
   ·exact⟨_,Ze ⟨2,⟨hl9,hr9,rfl,hh⟩,rfl⟩⟩
   ·exact⟨_,Zd ⟨hl9,hr9,hh,rfl⟩⟩
  ·exact⟨_,Ze ⟨1,⟨hl9,hr9⟩,rfl⟩⟩
 have z1080z:=@aa _ @MG;exact ni
end Rc
set_option linter.unusedVariables false in
theorem vd(a0:Option Addr) (len0 cap0:Nat) (z0:List Int) (a1:Option Addr) (len1 cap1:Nat) (z1:List Int) (w:World) (w0:px .u8 w a0 len0 cap0 z0) (w1:px .u8 w a1 len1 cap1 z1) (hG:∃E,Ers w E):
  Calls Tryz.prog 3 #[J a0 len0 cap0,J a1 len1 cap1] w λe w'=>e=Za (Y9 Zb)/\Below w.heap.size w w':=by
 obtain⟨E,hG⟩:=hG;by_cases h0:1048576<len0
 ·clear w0 w1 hG;go_enter Tryz.func3,Tryz.ntmps3;go_wp2;go_ret;exact⟨rfl,Yh _ _⟩
 by_cases h1:1048576<len1
 ·clear w0 w1 hG;go_enter Tryz.func3,Tryz.ntmps3;go_wp2;go_ret;exact⟨rfl,Yh _ _⟩
 exact BC _ _ len0 len1 E w ⟨a0,cap0,rfl⟩ ⟨a1,cap1,rfl⟩ (w0.ag4 af) (w1.ag4 af) af af hG
namespace Rc
theorem rj: "*" ++ "errors.errorString" = "*errors.errorString":=by decide
theorem amP(u:TypeId) (h:Tryz.prog.typeName? 3 u=Y5 "*errors.errorString"):u=199:=
 typeName_ptr_named (nm:= "errors.errorString") (by rw[rj];kernel_rfl) bf ag u (by rw[rj];exact h)
theorem xg {W:World} {nm:String} {ti tp te ts:TypeId} {ms:Array (String×TypeId)} {f:Field} (hi:P.underlying ti=Y5 (.interface ms)) (hrow:∀u,P.typeName? 3 u=Y5 nm->u=tp)
  (hp:P.underlying tp=Y5 (.pointer te)) (he:P.underlying te=Y5 (.struct #[f])) (hft:f.type=ts) (hfo:f.offset=0) (hs:P.underlying ts=Y5 .string) (hc:P.cellsOf te=1) (hcs:P.cellsOf ts=1):
  ∀(l:List (String×List UInt8)) (ps:List MemPlace),(∀x∈l,∃g,P.globalNamed x.1=Y5 g/\(P.globals[g]?).map (·.type)=Y5 ti)->
   DataW.LaidVars P W (l.map λx=>(x.1,.iface nm (.ptr (.agg [.lit (.string x.2)])))) ps->ps.Nodup->
   (∀b off,MemPlace.cell b off∈ps->(∃c t,W.heap[b]?=Y5 (Y8 c t (0,0)))/\∀u v,W.cell? ⟨b,off,U⟩=Y5 (.iface u v)->Value.okWide P W .any 0 u v)->
   ∃E:Nat->Addr,(∀(i:Nat) x,l[i]?=Y5 x->W.var? P x.1=Y5 #[.iface tp (Zf (Y5 (E i)))]/\MemPlace.cell (E i).block (E i).off∈ps)/\∀i j,i<l.length->j<l.length->E i=E j->i=j
 | [],ps,_,_,_,_=>⟨λ_=>⟨0,0,U⟩,λi x h=>by simp at h,λi j h=>by simp at h⟩
 | x ::l,ps,hT,hv,hnd,hrows=>by
  obtain⟨g,t,cs,fuel,p,q,hg,ht,hvar,hd,hq,rfl⟩:=hv;obtain⟨g',hg',ht'⟩:=hT x aG;obtain rfl:=Yd (hg.symm.trans hg');obtain rfl:=Yd (ht.symm.trans ht');have hsub:∀{y},y∈q->y∈MemPlace.row ⟨g,0,U⟩ cs.size++p++q:=λh=>YY _ h;obtain⟨E,hE1,hE2⟩:=xg hi hrow hp he hft hfo hs hc hcs l q (λy hy=>hT y (by simp[hy])) hq (List.Nodup.sublist (List.sublist_append_right _ _) hnd) (λb off hm=>hrows b off (hsub hm));obtain⟨l0⟩:=cs;have ok0:∀u v,l0=[.iface u v]->Value.okWide P W .any 0 u v:=λu v e=>by
   subst e;exact (hrows g 0 (by simp[MemPlace.row])).2 u v (by simpa using World.var?_cell hg hvar 0)
  obtain⟨a0,s0,rfl,hc0,hs0,hz0,rfl⟩:=errorString_of_trod hi hrow hp he hft hfo hs hc hcs hd ok0;have ha:MemPlace.cell a0.block a0.off∈MemPlace.row a0 1:=by simp[MemPlace.row]
  have hdis:∀i,i<l.length->¬E i=a0:=λi hi' e=>by
   have h1:=(hE1 i _ (Yi hi')).2;rw[e] at h1;have h2:=(List.nodup_append.1 hnd).2.2 _ (YY _ ha) _ h1;exact h2 rfl
  refine⟨λi=>match i with|0=>a0|i+1=>E i,λi y hy=>?_,λi j hi' hj' e=>?_⟩
  ·cases i with
   | zero=>
    obtain rfl:x=y:=by simpa using hy
    exact⟨hvar,List.mem_append_left _ (YY _ ha)⟩
   | succ i=>
    obtain⟨h1,h2⟩:=hE1 i y (by simpa using hy);exact⟨h1,hsub h2⟩
  ·cases i with
   | zero=>cases j with
    | zero=>rfl
    | succ j=>exact absurd e.symm (hdis j (by simpa using hj'))
   | succ i=>cases j with
    | zero=>exact absurd e (hdis i (by simpa using hi'))
    | succ j=>rw[hE2 i j (by simpa using hi') (by simpa using hj') e]
theorem rr {H:Type} {enc:TypeId×Value->H} {sp:Nat->Bool} :∀(ns:List String) (gs:List (DataW H)) (ps:List MemPlace),DataW.TrodVars enc P w sp ns gs ps->gs.length=ns.length
 | [],[],_,_=>rfl
 | [],_ ::_,_,h=>h.elim
 | _ ::_,[],_,h=>h.elim
 | _ ::ns,_ ::gs,_,h=>by
  obtain⟨_,_,_,_,_,q,_,_,_,_,h1,_⟩:=h;simp[rr ns gs q h1]
theorem ans {α:Type} :∀{l:List α},l.length=10->∃a b c d e f g h i j,l=[a,b,c,d,e,f,g,h,i,j]
 | [a,b,c,d,e,f,g,h,i,j],_=>⟨a,b,c,d,e,f,g,h,i,j,rfl⟩
end Rc
end Go.Proofs.YtfhdfmdaiookjaaGreatDoor

import Derived.Test.YtiplhgedmjoliaaGreatDoorV3
import Derived.Laws.StructEq
set_option maxRecDepth 100000
set_option maxHeartbeats 12800000
open Bool renaming false→Y8,true→Y_
open Go.Ending renaming returned→Y9
open Go.IntKind renaming i64→Y5
open Go.Obj renaming cells→Y6
open Go.Value renaming string→I,slice→J,int→Y4,bool→Y7,agg→Za,pointer→Zd,tuple→Ze
open Option renaming none→U,some→Y3
open Or renaming inr→Zb,inl→Zc
open And renaming intro→Yb
open Array renaming getElem?_push_size→Yg, getD_eq_getD_getElem?→Yp, getElem?_eq_some_iff→Yw
open Bool renaming and_eq_true→YE
open Go.Addr renaming add_lit→Yo
open Go.Calls renaming quiet_of_same→YC
open Go.Op renaming bytesLess→Yk
open Go.Region renaming ready→YR
open Go.RowKit.Below renaming heap_setCell→Ya, refl→Yh, heap_alloc→Ym
open Go.Value renaming string→Yn, ownBlock→YJ
open Go.World renaming setCell→YO
open List renaming getElem?_eq_some_iff→Yc, lookup→Yf, getElem?_eq_getElem→Yi, length_map→Yr, setIfInBounds_toArray→Ys, getElem?_map→Yt, mem_of_getElem?→Yu, getElem?_append_left→Yv, drop_eq_nil_of_le→Yx, set_cons_zero→YA, set_cons_succ→YB, getElem?_take→YD, getElem?_of_mem→YF, length_take→YG, take_of_length_le→YH, length_set→YK, take_add_one→YL, foldr→YQ, filter_append→YU, pairwise_append→YW
open Nat renaming le_refl→Ye, lt_of_lt_of_le→Yj, le_trans→Yl, zero_add→Yq, le_succ→Yy, zero_le→YI
open Option renaming map_eq_some_iff→Yz
open Option.some renaming inj→Yd
namespace Go.Proofs.YtiplhgedmjoliaaGreatDoor
variable {p:Prop}
namespace Mk
end Mk
open Go.RowKit Mk
variable {B cap g i j k:Nat} {H:Nat->Nat->Nat} {S:Nat->Prop} {T:TypeId} {W w w2:World} {a:Option Addr} {c:Cl} {t x:ByteArray} {v:Vd} {zs:List ByteArray}
theorem agc(h:p:=by have e1:=dp h1;have e2:=dp h2;obtain⟨y1,y2⟩:=y;obtain⟨x1,x2⟩:=x;cases e1;cases e2;rfl):p:=h
theorem ald(h:p:=by
 rw[Ya _ _ _ _ (show k≠w.heap.size+1 by omega),Ya _ _ _ _ (show k≠w.heap.size+1 by omega),Ya _ _ _ _ (show k≠w.heap.size+1 by omega),Ya _ _ _ _ (show k≠w.heap.size+1 by omega),Ya _ _ _ _ (show k≠w.heap.size+1 by omega),Ya _ _ _ _ (show k≠w.heap.size+1 by omega),Ya _ _ _ _ (show k≠w.heap.size+1 by omega),Ya _ _ _ _ (show k≠w.heap.size+1 by omega),HWY.block k af,hW5]):p:=h
theorem Nr(h:p:=by
 rintro e w' ⟨r',rfl,h',hb⟩;have e:r'=r:=by
  cases r <;> cases r'
  ·rfl
  ·exact (h.2 (h'.1 rfl)).symm
  ·exact h'.2 (h.1 rfl)
  ·rfl
 rw[e];exact⟨rfl,hb⟩):p:=h
theorem PM(h:p:=by
 have hbg:¬b=g:=by have:=HEB2.out;omega
 have e9:W5.heap[b]?=wz.heap[b]?:=by rw[hW5];exact Ya _ _ _ _ hbg
 have h9:=(ai HWZ.out HYB2.out).trans HYV.out;show W5.cell? _=_;simp only[World.cell?,e9] at h9 ⊢;exact h9):p:=h
theorem Po(h:p:=by
 intro j u hu;cases j with
 | zero=>
  simp only[List.getElem?_cons_zero,Option.some.injEq] at hu;subst hu;rw[Yo];exact an (heap_alloc_new _ _) 0
 | succ j=>simp at hu):p:=h
theorem ajM(h:p:=by
 rcases HTO.2 with h5|⟨g5,cu5,e5,hS5,_⟩
 ·exact absurd h5 hn9
 ·rw[e9] at e5;cases e5;have h6:W.heap.size<=b9:=hS5;have:=HY.le;omega):p:=h
theorem OV(h:p:=by
 cases hd:n.d;all_goals (
  go_enter Tryz.func27,Tryz.ntmps27
  go_wp2
  go_ret
  exact⟨by simp,aR _ _ _⟩)):p:=h
theorem vA(h:p:=by
 have z413z:=@aa _ @abb;exact pD):p:=h
theorem ajz(h:p:=by
 have z344z:=@aa _ @abZ;exact lr):p:=h
theorem ajy(h:p:=by
 have z318z:=@aa _ @acg;exact pI):p:=h
theorem vy(h:p:=by
 clear hf;obtain⟨o0,o1,o2,o3,o4,o5⟩:=cs6 ((hW.block _ (ae Bo.out)).trans Bo.out);exact aL):p:=h
theorem Of(h:p:=by
 refine Obl.plain rfl ?_;intro ac wg K hsz hW hf hK;clear hsz;have e4:=hf 4 ag;simp[aj,Yf] at e4;clear hf;exact aL):p:=h
theorem N4(h:p:=by
 clear hf;obtain⟨p0,p1,p2,p3,p4,p5,p6,p7⟩:=cs8 ((hW.block _ (ae Bp.out)).trans Bp.out);exact aL):p:=h
theorem N1(h:p:=by
 clear hf;obtain⟨p0,p1,p2,p3,p4,p5⟩:=cs6 ((hW.block _ (ae Bp.out)).trans Bp.out);exact aL):p:=h
theorem NP(h:p:=by
 refine cZ.volC (wz:=wz) (va:=sa) (vl:=sl) (vc:=sc) HO.out hlo rfl HV0.out hq2 (HY.out.trans (HWZ.mono HY.le)) HTO.row (λb9 o9 e9 hn9=>?_) (λk h1 h2=>?_)
 ·exact ajM
 ·exact ald):p:=h
theorem NK(h:p:=by
 have z413z:=@aa _ @OD;exact pD):p:=h
theorem ajc(h:p:=by
 refine Obl.plain rfl ?_;intro ac wg K hsz hW hf hK;clear hsz;have e6:=hf 6 ag;simp[aj,Yf] at e6;exact gO):p:=h
theorem agD(h:p:=by
 have hq1:w.heap.size+1<w1.heap.size:=HQ1.out;have hq2:w1.heap.size<=w2.heap.size:=HQ2.out;have hsz:=HWZ.size;have HB5:Hid (Below w.heap.size w W5):=by rw[hW5];exact ah (show w.heap.size<=g by omega) (HB.trans (HWZ.mono HB.size))
 have hsz5:W5.heap.size=wz.heap.size:=by rw[hW5];simp
 have Br5:Hid (W5.heap[w.heap.size+1]?=Y3 (Y6 #[J U 0 0,J U 0 0,J U 0 0,J U 0 0,J U 0 0,Y4 Y5 0,I ⟨#[]⟩,Y4 Y5 0] 33 (0,0))):=by rw[hW5];exact (Ya _ _ _ _ (show w.heap.size+1≠g by omega)).trans ((HWZ.block _ (ae Br.out)).trans Br.out)
 have Bo5:Hid (W5.heap[w2.heap.size]?=Y3 (Y6 (clo6 x1 m1 n1 x2 m2 n2 (Y3 ⟨g,0,U⟩) l3 n3 x4 m4 n4 x5 m5 n5 c.now) 29 (0,0))):=by rw[hW5];exact (Ya _ _ _ _ (show w2.heap.size≠g by omega)).trans ((HWZ.block _ (ae Bo.out)).trans Bo.out)
 exact Yb hq1 (Yb hq2 (Yb hsz (Yb HB5 (Yb hsz5 (Yb Br5 Bo5)))))):p:=h
theorem akW(h:p:=by
 have ns:∀q:Wd w3,q.w.cell? ⟨b1,o1+j*7+3,U⟩=Y3 (Y4 Y5 n.s):=λq=>(q.cell (Yj HNS.1 HB.size)).trans (hn9);have hne0:=Wd.ne w3;have HC0:=aa (λq:Wd w3=>xt ⟨(Y3 ⟨b1,o1,U⟩),l1,y1,a2,l2,y2,(Y3 ⟨b,o,U⟩),l3,y3,a4,l4,y4,a5,l5,y5⟩ c.now c.vs x.d q.w (HR.v.below (HW.trans (q.b.mono HW.size))) h8);have HC1:=aa (λq:Wd w3=>fu ⟨(Y3 ⟨b1,o1,U⟩),l1,y1,a2,l2,y2,(Y3 ⟨b,o,U⟩),l3,y3,a4,l4,y4,a5,l5,y5⟩ c.now c.ns x.d q.w (HR.n.below (HW.trans (q.b.mono HW.size))) HT.2.1.1.2.2 HN.out HNN.out);exact Yb ns (Yb hne0 (Yb HC0 HC1))):p:=h
theorem agl(h:p:=by
 have HOW:Hid ((q3.w.alloc (Y6 #[] 132)).ownsRow q3.w.heap.size 132 2 (J (Y3 ⟨q3.w.heap.size,0,U⟩) 0 0) 0 []):=World.ownsRow_made q3.w #[] 0 (Ye _) (YI _) aF;have hik:(k:Int)<=cap:=af
 have hkn:k<=cap:=af
 exact Yb HOW (Yb hik hkn)):p:=h
theorem agj(h:p:=by
 have HWZ:=aa hW;have hwg:wz.heap[g]?=Y3 (Y6 cs 95 (0,0)):=((HY.out.trans (hW.mono HY.le)).block g hgs).trans HGB.out;have hfz:=al hwg (i*8+7);have hcz:wz.cell? ⟨g,i*8+7,U⟩=Y3 (J ga gl gp):=(an hwg _).trans HGC.out;exact Yb HWZ (Yb hwg (Yb hfz hcz))):p:=h
theorem age(h:p:=by
 have HB:=aa ((ak w (Y6 #[I x.n,I x.d] 132)).trans (HL.mono af));have Bx:=aa ((HL.block w.heap.size af).trans (heap_alloc_new w (Y6 #[I x.n,I x.d] 132)));exact Yb HB Bx):p:=h
theorem Np(h:p:=by
 have Bx:Hid (W.heap[w.heap.size+1]?=Y3 (Y6 #[I x.n,I x.d] 132 (0,0))):=by rw[hW0];exact dZ _ _ _
 have HBW:Hid (Below w.heap.size w W):=by rw[hW0];exact aR _ _ _
 exact Yb Bx HBW):p:=h
theorem aiM(h:p:=by
 have z789z:=@aa _ @T4;exact x_):p:=h
theorem aiL(h:p:=by
 have z789z:=@aa _ @T3;exact x_):p:=h
theorem aiK(h:p:=by
 rintro _ ⟨q2,rfl⟩;have HB1:=upB HW q2.b;have Cx:=upK Gx q2.b;clear hne0 HW HB x0 x1 Gx Bx;have HB:=HB1;clear HB1;have Bx:=Cx;clear Cx;have Gx:=Bx;have HW:=HB;obtain⟨x0,x1⟩:=sl2 Gx;have hne0:=Wd.ne q2.w;go_wp2_with fail;have z761z:=@aa _ @Up;exact pg):p:=h
theorem aiJ(h:p:=by
 have z783z:=@aa _ @T8;exact ye):p:=h
theorem aiI(h:p:=by
 have z783z:=@aa _ @T7;exact ye):p:=h
theorem aiv(h:p:=by
 go_wp2;exact bodyPost_ret (v:=Za #[J U 0 0,J U 0 0,J U 0 0,J U 0 0,J U 0 0,Y4 Y5 0,I ⟨#[]⟩,Y4 Y5 1]) (by simp[results,Tryz.results69,go_sem, *]) rfl ⟨ad0,co0 1,rfl,HV.out,(rl0 _ _),sb1 (sb1 (sb1 (sb1 (sb1 (sb1 (sb1 (sb1 (HB.out))))))))⟩):p:=h
theorem ae7(h:p:=by
 have z724z:=@aa _ @UP;exact yt):p:=h
theorem ae6(h:p:=by
 have z604z:=@aa _ @Wr;exact yH):p:=h
theorem ae5(h:p:=by
 have z604z:=@aa _ @Wq;exact yH):p:=h
theorem ae4(h:p:=by
 have z1740z:=@aa _ @B_;exact lR):p:=h
theorem ae3(h:p:=by
 have z937z:=@aa _ @RV;exact xN):p:=h
theorem ae2(h:p:=by
 have z937z:=@aa _ @RU;exact xN):p:=h
theorem aet(h:p:=by
 have HT:=aa hT;clear hT;have h58:c.ps.length<=8:=by have:=HT.sm.p;omega
 go_enter Tryz.func103,Tryz.ntmps103;go_wp2;go_loopw [3,4] (λvo vi wr=> ∃(k:Nat) (ca:Option Addr) (cl cc:Nat) (ys:List Qd),k<=l5/\vi=Y4 Y5 k/\vo=J ca cl cc/\Hid (aw wr ca cl cc 2 132 (ys.map qdF) (λj=>w.heap.size+1<=j)/\RQ ys/\(∀q,q∈ys↔Wn c k q)/\ys.length<=3*k)/\Hid (Below (w.heap.size+1) (w.alloc (Y6 #[J a1 l1 y1,J a2 l2 y2,J a3 l3 y3,J a4 l4 y4,J a5 l5 y5,Y4 Y5 c.now] 29)) wr)) (λ_ vi _=>l5 - (intOf vi).toNat);case atStart=>exact⟨0,_,0,0,[],by omega,rfl,rfl,⟨⟨rfl,Ye _,by omega,Zc rfl⟩,List.Pairwise.nil,λq=>⟨λh=>by simp at h,λ⟨j,p,h,_⟩=>by omega⟩,by simp⟩,by first|exact Yh _ _|exact (ak _ _).mono aF⟩
 case round=>
  obtain⟨k,ca,cl,cc,ys,hk,rfl,rfl,HQ,HL⟩:=hrel;obtain⟨Bk,HB⟩:=agm;have hLs:w.heap.size+1<=wr.heap.size:=by have h8:=HL.size;rw[db] at h8;exact h8
  by_cases hlt:k<l5
  ·have z982z:=@aa _ @Ri;exact xC
  have hk1:¬(k:Int)<l5:=af
  have hkl:k=l5:=af
  have z1507z:=@aa _ @E_;exact dG):p:=h
theorem aes(h:p:=by
 have HT:=aa hT;have HN:=aa hn;have HNN:=aa hnn;have hj1:j<l1:=by have:=(Yc.1 hn).1;omega
 have hj2:(j:Int)<l1:=af
 have hj0:¬(j:Int)<0:=af
 have hu:=av.ako hT hn;clear hT hn hnn;have HB:=aa (Yh w.heap.size w);obtain⟨b,o,y,rfl,hbl,hy,hat⟩:=dn HR.n hj1;rw[HN.out] at hy;obtain rfl:=Yd hy;obtain⟨va,vl,vc,hvr,-,-,d0,d1,d2,d3,d4,d5,d6⟩:=aZ hat;have HV:=aa hvr;clear hat hy hvr;go_enter Tryz.func150,Tryz.ntmps150;go_wp2_with fail;obtain⟨W,hW0⟩:∃W,W=((w.alloc (Y6 (clo6 (Y3 ⟨b,o,U⟩) l1 y1 a2 l2 y2 a3 l3 y3 a4 l4 y4 a5 l5 y5 c.now) 29)).alloc (Y6 #[I x.n,I x.d] 132)):=⟨_,rfl⟩;have Bk:Hid (W.heap[w.heap.size]?=Y3 (Y6 (clo6 (Y3 ⟨b,o,U⟩) l1 y1 a2 l2 y2 a3 l3 y3 a4 l4 y4 a5 l5 y5 c.now) 29 (0,0))):=by rw[hW0];exact d_ _ _ _
 obtain⟨Bx,HBW⟩:=Np;have HNC:=aa (Yb d0 (Yb d1 (Yb d2 (Yb d3 (Yb d4 (Yb d5 d6))))));have HBL:=aa hbl;rw[<-hW0];clear hW0 d0 d1 d2 d3 d4 d5 d6 hbl;have z1224z:=@aa _ @JW;exact sP):p:=h
theorem aer(h:p:=by
 have HT:=aa hT;clear hT;have HB:=aa (Yh w.heap.size w);have h58:c.vs.length<=8:=by have:=HT.sm.v;omega
 go_enter Tryz.func115,Tryz.ntmps115;go_wp2_with fail;refine (lK ⟨a1,l1,y1,a2,l2,y2,a3,l3,y3,a4,l4,y4,a5,l5,y5⟩ c _ (HR.below (HB.trans ((ak _ _).mono HB.size))) HT.out).mono ?_;rintro e w0 ⟨wa,wl,wc,zw,rfl,how,hrw,hmw,hlw,hb⟩;have z1123z:=@aa _ @Lp;exact jG):p:=h
theorem ad5(h:p:=by
 have z1520z:=@aa _ @E4;exact mw):p:=h
theorem ad4(h:p:=by
 have z1520z:=@aa _ @E3;exact mw):p:=h
theorem adf(h:p:=by
 go_loop [5] (λi=> ∃k:Nat,k<=len/\i=Y4 Y5 k/\Hid (∀(j:Nat) y,j<k->zs[j]?=Y3 y->Yk y.toList t.toList=Y_)) (λi=>len - (intOf i).toNat);case atStart=>exact⟨0,by omega,rfl,λj y hj=>by omega⟩
 case round=>
  obtain⟨k,hk,rfl,HE⟩:=hrel;by_cases hlt:k<len
  ·obtain⟨b,o,x,rfl,hb,hx,hc,hsz⟩:=HR.at hlt;have HX:=aa hx;clear hx hsz;have hk1:(k:Int)<len:=af
   cases hless:Yk x.toList t.toList
   ·by_cases he:x=t
    ·have HM:Hid (t∈zs):=he ▸ Yu HX.out;have HP:Hid (Put t zs zs):=Zc ⟨he ▸ Yu HX.out,rfl⟩;have hq:=aP he;clear he;go_wp2;go_ret;exact⟨_,_,_,_,rfl,HR.out,HP.out,Zc HM.out,HW.out⟩
    have z746z:=@aa _ @Uz;exact yk
   ·exact Pv
  ·obtain⟨hk1,HP⟩:=No;obtain⟨HOW,hik,hkn⟩:=Nh;rcases a with _|⟨b,o,sp⟩
   ·have hl0:len=0:=Classical.byContradiction λhne0=>by
     exact O2
    obtain rfl:k=0:=af
    subst hl0;by_cases hcap:cap=0;all_goals (
     go_wp2_with (first|(at_builtin;refine aE rfl _ _ 36 rfl w.heap.size 9 i0 (I ⟨#[]⟩) 1 16 Tryz.underlying36 HI0.1 HI0.2.1 HI0.2.2.1 HI0.2.2.2 rfl ag _ _ _ rfl (HOW.out) _ 0 _ ((zs.take 0).map Yn) rfl ot (λj u hu=>by rw[List.map_take] at hu;obtain⟨g9,o9,e,hgl,h3⟩:=HC.out j u (fs hu);cases e <;> exact⟨_,rfl,by simp only[Yo];exact (ai (ak w _) hgl).trans h3⟩) (HON.out _) bo af aF ?_))
     intro v5 w5 hown5 hgr5
     replace hown5:w5.ownsRow w.heap.size 9 1 v5 0 ((zs.take 0).map Yn):=dQ
     have hb5:Below w.heap.size w w5:=(ak w (Y6 #[] 9)).grown hgr5 aF (λg hg=>by simp[YJ] at hg;omega);obtain⟨s1,s2,s3,rfl⟩:=aA hown5;have HO5:=aa hown5;have H5:=aa hb5;have hs5:=hb5.size;clear hown5 hgr5 hb5 HOW
     go_wp2_with (first|(at_builtin;refine aE rfl _ _ 36 rfl w.heap.size 9 i0 (I ⟨#[]⟩) 1 16 Tryz.underlying36 HI0.1 HI0.2.1 HI0.2.2.1 HI0.2.2.2 rfl ag _ _ _ rfl (HO5.alloc _) _ 1 _ [I t] rfl rfl (λj u hu=>⟨_,rfl,by rw[Yo,Yq,an (heap_alloc_new w5 _)];simpa using hu⟩) dC bo af bJ ?_))
     intro v6 w6 hown6 hgr6;have hb6:Below w.heap.size w w6:=(H5.alloc H5.size _).grown hgr6 bJ (λg hg=>(HO5.lt g hg).1);obtain⟨r1,r2,r3,rfl⟩:=aA hown6;have HO6:=aa hown6;have H6:=aa hb6;have hs6:=hb6.size;clear hown6 hgr6 hb6
     go_wp2_with (first|(at_builtin;refine aE rfl _ _ 36 rfl w.heap.size 9 i0 (I ⟨#[]⟩) 1 16 Tryz.underlying36 HI0.1 HI0.2.1 HI0.2.2.1 HI0.2.2.2 rfl ag _ _ _ rfl (HO6.out) _ (0 - 0) _ ((zs.drop 0).map Yn) rfl oq (λj u hu=>by first|(rw[Yx af] at hu;simp at hu;done)|(rw[List.map_drop,List.getElem?_drop] at hu;obtain⟨g9,o9,e,hgl,h3⟩:=HC.out _ u hu;cases e <;> exact⟨_,rfl,by simp only[Yo,Nat.add_assoc];exact (ai H6.out hgl).trans h3⟩)) (HON.out _) bo af af ?_))
     intro v7 w7 hown7 hgr7;have hb7:Below w.heap.size w w7:=H6.grown hgr7 af (λg hg=>(HO6.lt g hg).1)
     replace hown7:w7.ownsRow w.heap.size 9 1 v7 (0+1) ((zs.take 0++[t]++zs.drop 0).map Yn):=by
      have e9:0+1+(0 - 0)=0+1:=af
      try rw[e9] at hown7
      simpa using hown7
     obtain⟨a',p',rfl,hT⟩:=bN.fk hown7 (HZS.out 0);have HT7:=aa hT;have HB7:=aa hb7;clear hown7 hgr7 hb7 hT hik hkn
     go_wp2
     go_ret
     exact⟨_,_,_,_,rfl,HT7.row,HP.out,Zb HT7.out,HB7.out⟩)
   by_cases hcap:cap=k;all_goals (
    go_wp2_with (first|(at_builtin;refine aE rfl _ _ 36 rfl w.heap.size 9 i0 (I ⟨#[]⟩) 1 16 Tryz.underlying36 HI0.1 HI0.2.1 HI0.2.2.1 HI0.2.2.2 rfl ag _ _ _ rfl (HOW.out) _ k _ ((zs.take k).map Yn) rfl ot (λj u hu=>by rw[List.map_take] at hu;obtain⟨g9,o9,e,hgl,h3⟩:=HC.out j u (fs hu);cases e <;> exact⟨_,rfl,by simp only[Yo];exact (ai (ak w _) hgl).trans h3⟩) (HON.out _) bo af aF ?_))
    intro v5 w5 hown5 hgr5
    replace hown5:w5.ownsRow w.heap.size 9 1 v5 k ((zs.take k).map Yn):=dQ
    have hb5:Below w.heap.size w w5:=(ak w (Y6 #[] 9)).grown hgr5 aF (λg hg=>by simp[YJ] at hg;omega);obtain⟨s1,s2,s3,rfl⟩:=aA hown5;have HO5:=aa hown5;have H5:=aa hb5;have hs5:=hb5.size;clear hown5 hgr5 hb5 HOW
    go_wp2_with (first|(at_builtin;refine aE rfl _ _ 36 rfl w.heap.size 9 i0 (I ⟨#[]⟩) 1 16 Tryz.underlying36 HI0.1 HI0.2.1 HI0.2.2.1 HI0.2.2.2 rfl ag _ _ _ rfl (HO5.alloc _) _ 1 _ [I t] rfl rfl (λj u hu=>⟨_,rfl,by rw[Yo,Yq,an (heap_alloc_new w5 _)];simpa using hu⟩) dC bo af bJ ?_))
    intro v6 w6 hown6 hgr6;have hb6:Below w.heap.size w w6:=(H5.alloc H5.size _).grown hgr6 bJ (λg hg=>(HO5.lt g hg).1);obtain⟨r1,r2,r3,rfl⟩:=aA hown6;have HO6:=aa hown6;have H6:=aa hb6;have hs6:=hb6.size;clear hown6 hgr6 hb6
    go_wp2_with (first|(at_builtin;refine aE rfl _ _ 36 rfl w.heap.size 9 i0 (I ⟨#[]⟩) 1 16 Tryz.underlying36 HI0.1 HI0.2.1 HI0.2.2.1 HI0.2.2.2 rfl ag _ _ _ rfl (HO6.out) _ (len - k) _ ((zs.drop k).map Yn) rfl oq (λj u hu=>by first|(rw[Yx af] at hu;simp at hu;done)|(rw[List.map_drop,List.getElem?_drop] at hu;obtain⟨g9,o9,e,hgl,h3⟩:=HC.out _ u hu;cases e <;> exact⟨_,rfl,by simp only[Yo,Nat.add_assoc];exact (ai H6.out hgl).trans h3⟩)) (HON.out _) bo af af ?_))
    intro v7 w7 hown7 hgr7;have hb7:Below w.heap.size w w7:=H6.grown hgr7 af (λg hg=>(HO6.lt g hg).1)
    replace hown7:w7.ownsRow w.heap.size 9 1 v7 (len+1) ((zs.take k++[t]++zs.drop k).map Yn):=by
     have e9:k+1+(len - k)=len+1:=af
     try rw[e9] at hown7
     simpa using hown7
    obtain⟨a',p',rfl,hT⟩:=bN.fk hown7 (HZS.out k);have HT7:=aa hT;have HB7:=aa hb7;clear hown7 hgr7 hb7 hT hik hkn
    go_wp2
    go_ret
    exact⟨_,_,_,_,rfl,HT7.row,HP.out,Zb HT7.out,HB7.out⟩)):p:=h
theorem acF(h:p:=by
 have e10:=hf 10 ag;simp[aj,Yf] at e10;clear hf;go_simp;refine (ed ⟨(Y3 ⟨b1,o1,U⟩),l1,y1,a2,l2,y2,(Y3 ⟨b,o,U⟩),l3,y3,a4,l4,y4,a5,l5,y5⟩ c.now c.vs x.n _ (HR.v.below (HBW.trans (hW.mono HBW.size))) HT.2.1.2.2.1.2.2 HVI.out HVN.out).mono ?_;rintro e w6 ⟨rfl,hb6⟩;exact hK _ _ hb6 rfl):p:=h
theorem acg(h:p:=by
 clear hf;obtain⟨k0,k1⟩:=cs2 ((hW.block _ (ae Bx.out)).trans Bx.out);exact aL):p:=h
theorem ab2(h:p:=by
 rintro e w' ⟨hb2,⟨j',v',h1,h2,rfl⟩|⟨hno,rfl⟩⟩
 ·obtain⟨rfl,_⟩:=hT.2.1.2.2.1.2.2.inj h1 hv (h2.ahi hT.2.1.2.2.2.1.2.2 hb);exact⟨rfl,hb2⟩
 ·exact absurd hb (hno v)):p:=h
theorem abZ(h:p:=by
 obtain⟨o0,o1,o2,o3,o4,o5⟩:=cs6 ((hW.block _ (ae Bo5.out)).trans Bo5.out);exact aL):p:=h
theorem abb(h:p:=by
 clear hf;exact aL):p:=h
theorem aaL(h:p:=by
 have HT:=aa hT;have HVI:=aa hv;have HVN:=aa hvn;have HN:=aa hn;have HNN:=aa hnn;have h8:c.vs.length<=8:=hT.sm.v;have hi1:i<l3:=by have:=(Yc.1 hv).1;omega
 have hi2:(i:Int)<l3:=af
 have hi0:¬(i:Int)<0:=af
 have hj1:j<l1:=by have:=(Yc.1 hn).1;omega
 have hj2:(j:Int)<l1:=af
 have hj0:¬(j:Int)<0:=af
 clear hT hn hnn hv hvn;have HB:=aa (Yh w.heap.size w);obtain⟨b,o,y,rfl,hbl,hy,hat⟩:=cj HR.v hi1;rw[HVI.out] at hy;obtain rfl:=Yd hy;obtain⟨va,vl,vc,hvr,-,-,-,-,d0,d1,d2,d3,d4,d5,d6,d7⟩:=bh hat;have HV:=aa hvr;have hvl:v.zs.length=vl:=hvr.1;clear hat hy hvr;obtain⟨b1,o1,y,rfl,hbn,hy,hat⟩:=dn HR.n hj1;rw[HN.out] at hy;obtain rfl:=Yd hy;obtain⟨na,nl,nc,-,-,-,-,-,-,e3,-,-,-⟩:=aZ hat;clear hat hy;go_enter Tryz.func117,Tryz.ntmps117;go_wp2_with fail;obtain⟨W,hW0⟩:∃W,W=((w.alloc (Y6 (clo6 (Y3 ⟨b1,o1,U⟩) l1 y1 a2 l2 y2 (Y3 ⟨b,o,U⟩) l3 y3 a4 l4 y4 a5 l5 y5 c.now) 29)).alloc (Y6 #[I x.n,I x.d] 132)):=⟨_,rfl⟩;have Bk:Hid (W.heap[w.heap.size]?=Y3 (Y6 (clo6 (Y3 ⟨b1,o1,U⟩) l1 y1 a2 l2 y2 (Y3 ⟨b,o,U⟩) l3 y3 a4 l4 y4 a5 l5 y5 c.now) 29 (0,0))):=by rw[hW0];exact d_ _ _ _
 obtain⟨Bx,HBW⟩:=Np;have HNC:=aa (Yb d0 (Yb d1 (Yb d2 (Yb d3 (Yb d4 (Yb d5 (Yb d6 d7)))))));have HBL:=aa hbl;have HNS:=aa (Yb hbn e3);rw[<-hW0];clear hW0 d0 d1 d2 d3 d4 d5 d6 d7 hbl hbn e3;have z1224z:=@aa _ @JV;exact sP):p:=h
theorem aaK(h:p:=by
 have HB:=aa (Yh w.heap.size w);go_enter Tryz.func69,Tryz.ntmps69;go_wp2_with fail;refine (dz ⟨a1,l1,y1,a2,l2,y2,a3,l3,y3,a4,l4,y4,a5,l5,y5⟩ c _ (HR.below (HB.trans ((aR _ _ _).mono HB.size)))).mono ?_;rintro e w1 ⟨r,rfl,hi,hb⟩;have z1186z:=@aa _ @Ku;exact fA):p:=h
theorem aak(h:p:=by
 obtain⟨x0,x1⟩:=cs2 Bx;have ltx_1:=ae Bx.out;obtain⟨n0,n1,n2,n3,n4,n5,n6⟩:=cs7 Bn;have ltn_1:=ae Bn.out;cases r;all_goals (
  go_wp2
  go_ret
  first
   | exact ar.t ((nj HD.out).2 (λh=>by have h9:=HH.2 h;cases h9)) HB.out
   | exact ar.f (λh=>(nj HD.out).1 h (HH.1 aF)) HB.out)):p:=h
theorem aaj(h:p:=by
 cases r;all_goals (
  go_wp2
  go_ret
  first
   | exact ar.t ((oH HD.out).2 (of_decide_eq_true HRR.symm)) HB.out
   | exact ar.f (λh=>(of_decide_eq_false HRR.symm) ((oH HD.out).1 h)) HB.out)):p:=h
theorem aai(h:p:=by
 go_wp2;clear k0 k1 k2 k3 k4 k5 ltk_1;have hs0:w.heap.size<w0.heap.size:=ae Bk.out;go_loopw [4,5] (λvo vi wr=> ∃(k:Nat) (ca:Option Addr) (cl cc:Nat) (ys:List Qd),k<=l3/\vi=Y4 Y5 k/\vo=J ca cl cc/\Hid (aw wr ca cl cc 2 132 (ys.map qdF) (λj=>w.heap.size+1<=j)/\RQ ys/\(∀q,q∈ys↔Xn c k q)/\ys.length<=8*k)/\Hid (Below w0.heap.size w0 wr)) (λ_ vi _=>l3 - (intOf vi).toNat);case atStart=>exact⟨0,_,0,0,[],by omega,rfl,rfl,⟨⟨rfl,Ye _,by omega,Zc rfl⟩,List.Pairwise.nil,λq=>⟨λh=>by simp at h,λ⟨j,p,h,_⟩=>by omega⟩,by simp⟩,ak _ _⟩
 case round=>
  obtain⟨k,ca,cl,cc,ys,hk,rfl,rfl,HQ,HL⟩:=hrel;replace Bk:=aa ((HL.block w.heap.size hs0).trans Bk.out);replace HB:=aa (HB.trans (HL.mono HB.size));replace HOW:=aa (HOW.below HL.out);have hLs:=HL.size;by_cases hlt:k<l3
  ·have z1285z:=@aa _ @Ja;exact sJ
  have hk1:¬(k:Int)<l3:=af
  have hkl:k=l3:=af
  have z475z:=@aa _ @aah;exact cC):p:=h
theorem aah(h:p:=by
 go_wp2;go_ret;exact⟨_,_,_,ys,rfl,HQ.1,HQ.2.1,by rw[hl3,<-hkl];exact HQ.2.2.1,by have:=HQ.2.2.2;omega,HB.out⟩):p:=h
theorem aag(h:p:=by
 go_wp2;clear k0 k1 k2 k3 k4 k5 ltk_1;clear c0 c1 c2 c3 c4 c5 c6 c7 hbw;go_loopw [4,7] (λvo vi wr=> ∃(n:Nat) (ca:Option Addr) (cl cc:Nat) (ys:List Qd),n<=vl/\vi=Y4 Y5 n/\vo=J ca cl cc/\Hid (aw wr ca cl cc 2 132 (ys.map qdF) (λj=>w.heap.size+1<=j)/\RQ ys/\(∀q,q∈ys↔Xn c k q\/Xc c x n q)/\ys.length<=8*k+n)/\Hid (Below (W1.heap.size+1) (W1.alloc (Y6 #[I x.n,Y4 Y5 x.c,I x.z,I x.k,Y7 x.x,I x.m,Y7 x.y,J va vl vc] 95)) wr)) (λ_ vi _=>vl - (intOf vi).toNat);case atStart=>exact⟨0,_,_,_,ys,by omega,rfl,rfl,⟨HQ.1.below (ak _ _),HQ.2.1,λq=>by rw[HQ.2.2.1];exact⟨Zc,λh=>h.elim id (λ⟨i,t,h,_⟩=>by omega)⟩,by omega⟩,Yh _ _⟩
 case round=>
  clear HQ hyb;obtain⟨n,ca,cl,cc,ys,hn,rfl,rfl,HQ,HL2⟩:=hrel;have hbP:Below W1.heap.size W1 wr:=(ak W1 (Y6 (vov x va vl vc) 95)).trans (HL2.mono af);have Bp:=aa ((HL2.block W1.heap.size af).trans (heap_alloc_new W1 (Y6 (vov x va vl vc) 95)));replace Bk:=upK Bk hbP;replace HB:=upB HB hbP;replace HOW:=aa (HOW.below hbP);have HBP:=aa hbP;have hs2:=hbP.size;have hs3:W1.heap.size+1<=wr.heap.size:=by have h8:=HL2.size;rw[db] at h8;exact h8
  have hyl:ys.length=cl:=by have h9:(ys.map qdF).length=cl:=HQ.1.1;rw[Yr] at h9;exact h9
  have hyb:=HQ.2.2.2;clear hbP;by_cases hlt2:n<vl
  ·have hk3:(n:Int)<vl:=af
   obtain⟨b2,o2,t,rfl,hb2,hx2,hc2,hsz2⟩:=(HTx.below HBP.out).at hlt2;have HXT:=aa hx2;obtain⟨j,nd,hj,hjn,-⟩:=HT.2.2.2.2.1.1 k x HXx.out n t hx2;have HTN:Hid (¬t=⟨#[]⟩):=by rw[<-hjn];exact np (HT.2.1.1.2.1 j nd hj).1
   have HJ:=aa hj;have HJN:=aa hjn;have HZT:=aa hsz2;have HTC:=aa (Yb hb2 hc2);clear hj hjn hx2 hsz2 hb2 hc2;have z475z:=@aa _ @aaf;exact cC
  have hk3:¬(n:Int)<vl:=af
  have hnv:n=vl:=af
  obtain⟨p0,p1,p2,p3,p4,p5,p6,p7⟩:=cs8 Bp;have ltp_1:=ae Bp.out;have z1737z:=@aa _ @Cc;exact re):p:=h
theorem aaf(h:p:=by
 obtain⟨p0,p1,p2,p3,p4,p5,p6,p7⟩:=cs8 Bp;have ltp_1:=ae Bp.out;go_wp2_with fail;clear k0 k1 k2 k3 k4 k5 ltk_1 p0 p1 p2 p3 p4 p5 p6 p7 ltp_1;rename_i K0 hK0;refine bG ba rfl rfl ba ?_;refine' Grow.stepC _ rfl ?_ ?_;rotate_left 1
 ·exact km
 refine' Grow.stepC _ rfl ?_ ?_;rotate_left 1
 ·have z1563z:=@aa _ @N4;exact mg
 refine' Grow.stepC _ rfl ?_ ?_;rotate_left 1
 ·exact km
 refine' Grow.stepC _ rfl ?_ ?_;rotate_left 1
 ·have z1443z:=@aa _ @N4;exact gH
 refine' Grow.stepC _ rfl ?_ ?_;rotate_left 1
 ·exact vA
 refine' Grow.stepC _ rfl ?_ ?_;rotate_left 1
 ·have z1491z:=@aa _ @Ft;exact jx
 refine' Grow.stepC _ rfl ?_ ?_;rotate_left 1
 ·have z1499z:=@aa _ @Fl;exact ju
 refine' Grow.stepC _ rfl ?_ ?_;rotate_left 1
 ·have z1496z:=@aa _ @vx;exact jw
 refine Grow.step (af4 wr.heap.size) rfl (af4.mono _) ?_ ?_
 ·exact kL
 refine Grow.done ?_;intro q w5 hW hf;simp only[List.forall_mem_cons] at hf;obtain⟨⟨b9,h8,hb9,hg9⟩,h38,-⟩:=hf;have g0:=hg9;have g1:(w5.setCell ⟨b9,0,U⟩ (I x.n)).heap[b9]?=Y3 (Y6 #[I x.n,I ⟨#[]⟩] 132 (0,0)):=au g0 _;have g2:((w5.setCell ⟨b9,0,U⟩ (I x.n)).setCell ⟨b9,1,U⟩ (I t)).heap[b9]?=Y3 (Y6 #[I x.n,I t] 132 (0,0)):=au g1 _;obtain⟨t0,t1⟩:=cs2 hg9;have f0:=al hg9 0;have f1:=al hg9 1;have Bx:=aa g2;have HWX:Hid (Below wr.heap.size wr ((w5.setCell ⟨b9,0,U⟩ (I x.n)).setCell ⟨b9,1,U⟩ (I t))):=ah hb9 (ah hb9 (hW));clear g0 g1 g2 hg9;intro K hK;rw[if_pos (by rfl)];simp only[aJ,YQ,Act.put,Ys,YA,YB,h8,h38];have z1667z:=@aa _ @Df;exact jo):p:=h
theorem W7(h:p:=by
 obtain⟨W5,hW5⟩:∃W5,W5=wz.setCell ⟨g,i*8+7,U⟩ (J sa sl sc):=⟨_,rfl⟩;rw[<-hW5];obtain⟨hq1,hq2,hsz,HB5,hsz5,Br5,Bo5⟩:=agD;have HYV5:Hid (W5.cell? ⟨b,o,U⟩=Y3 (I y.n)):=by
  exact PM
 have HYB5:Hid (b<W5.heap.size):=by have:=HYB2.out;show b<_;omega
 have hn20:=(HT.2.1.2.2.1.2.1 i v HV0.out).1.2.1;rw[HVN.out] at hn20;have hn4:¬9223372036854775807<4+y.n.size:=af
 have z1700z:=@aa _ @CP;exact rh):p:=h
theorem W0(h:p:=by
 obtain⟨W5,hW5⟩:∃W5,W5=wz.setCell ⟨g,i*8+7,U⟩ (J sa sl sc):=⟨_,rfl⟩;rw[<-hW5];obtain⟨hq1,hq2,hsz,HB5,hsz5,Br5,Bo5⟩:=agD;have HYV5:Hid (W5.cell? ⟨b,o+k*2,U⟩=Y3 (I y.n)):=by
  exact PM
 have HYB5:Hid (b<W5.heap.size):=by have:=HYB2.out;show b<_;omega
 have hn20:=(HT.2.1.2.2.1.2.1 i v HV0.out).1.2.1;rw[HVN.out] at hn20;have hn4:¬9223372036854775807<3+y.n.size:=af
 have z1700z:=@aa _ @CO;exact rh):p:=h
theorem WZ(h:p:=by
 go_wp2;refine⟨⟨n+1,sa,sl,sc,zs2,by omega,λe=>absurd e HHE.out,by go_num,rfl,⟨HO2.out,HP2.ris HQ.2.1,λq=>?_,by have h9:=HP2.len;omega⟩,HL2.trans (HW2.mono (by have h8:=HL2.size;rw[db] at h8;exact h8))⟩,by simp[intOf];omega⟩;rw[HP2.mem,HQ.2.2.1,Wc.step HT.2.1.2.2.2.1.2.2 HXT.out HBD.out,or_assoc]):p:=h
theorem Wr(h:p:=by
 exact⟨_,rfl,by rw[HNN.symm];simp only[decide_eq_true_eq];exact⟨λh=>⟨HNI.out,(λh=>by omega),h⟩,λh=>h.2.2⟩,HB.out⟩):p:=h
theorem Wq(h:p:=by
 exact⟨_,rfl,by rw[HNN.symm];simp only[decide_eq_true_eq];exact⟨λh=>⟨HNI.out,(λh=>by have h9:=h.1;rw[HX.out] at h9;cases h9),h⟩,λh=>h.2.2⟩,HB.out⟩):p:=h
theorem yH(h:p:=by
 repeat (go_big_quiet_step (first|(go_at_call 101;exact Calls.wide (HC0.out _))|(go_at_call 28;exact Calls.wide (HC1.out _))|fail))
 refine wpQuiet_nil ?_;rintro _ ⟨q1,rfl⟩;have HB2:=upB HW q1.b;have Ck:=upK Gk q1.b;have Cx:=upK Gx q1.b;have Cv:=upK Gv q1.b;clear hne0 HW HB HC0 HC1 k0 k1 k2 k3 k4 k5 x0 x1 v0 v1 v2 v3 v4 v5 v6 v7 ns Gk Gx Gv Bk Bx Bv;have HB:=HB2;clear HB2;have Bk:=Ck;clear Ck;have Bx:=Cx;clear Cx;have Bv:=Cv;clear Cv;go_wp2;go_ret;exact z604z):p:=h
theorem U0(h:p:=by
 have z1z:=@aa _ @aiJ;exact bC):p:=h
theorem UZ(h:p:=by
 have z1z:=@aa _ @aiI;exact bC):p:=h
theorem yv(h:p:=by
 have HE:=aa he;clear he;obtain⟨x0,x1⟩:=cs2 Bx;have ltx_0:=ae Bx.out;go_wp2_with fail;clear x0 x1 ltx_0;have Gx:=Bx;have HW:=HB;obtain⟨x0,x1⟩:=sl2 Gx;have yn:=λq:Wd wr=>(q.cell hb).trans hc0;have yd:=λq:Wd wr=>(q.cell hb).trans hc1;have hne0:=Wd.ne wr;exact z713z):p:=h
theorem UQ(h:p:=by
 have hbw:b<q2.w.heap.size:=Yj HBW.out q2.b.size;have hc0:=(q2.cell HBW.out).trans HC0.out;have hc1:=(q2.cell HBW.out).trans HC1.out;by_cases he:y=x
 ·have HP:Hid (nC x zs zs):=Zc ⟨he ▸ Yu HXy.out,rfl⟩;have hq1:(y.n.toList==x.n.toList)=Y_:=aP (by rw[he]);have hq2:(y.d.toList==x.d.toList)=Y_:=aP (by rw[he]);have hn1:y.n=x.n:=by rw[he]
  have hn2:y.d=x.d:=by rw[he]
  clear he;have hqe:∀W:World,(Op.equalIn 10000 132 (Za #[I y.n,I y.d]) (Za #[I x.n,I x.d])).run Tryz.prog W=.ok Y_ W:=λW=>by rw[eqQ,hq1,hq2];rfl
  clear hn1 hn2;have z1111z:=@aa _ @LA;exact sX
 have HP:Hid (nC x zs (aM k x zs)):=Zb ⟨k,by omega,rfl,HE.out,λz hz=>by rw[HXy.out] at hz;cases hz;exact A3 HLS.out he⟩;have hq1:((y.n.toList==x.n.toList) && (y.d.toList==x.d.toList))=Y8:=by
  cases h1:(y.n.toList==x.n.toList)
  ·rfl
  ·cases h2:(y.d.toList==x.d.toList)
   ·rfl
   ·exact absurd agc he
 have hqe:∀W:World,(Op.equalIn 10000 132 (Za #[I y.n,I y.d]) (Za #[I x.n,I x.d])).run Tryz.prog W=.ok Y8 W:=λW=>by rw[eqQ,hq1]
 clear he;have z1111z:=@aa _ @LB;exact sX):p:=h
theorem UP(h:p:=by
 go_wp2;refine⟨⟨k+1,by omega,by go_num,λj z hj hz=>?_,HL.trans (q2.b.mono af)⟩,by simp[intOf];omega⟩;by_cases e:j=k
 ·subst e;rw[HXy.out] at hz;obtain rfl:=Yd hz;exact HLS.out
 ·exact HE.out j z af hz):p:=h
theorem yt(h:p:=by
 repeat (go_big_quiet_step (first|(go_at_call 157;exact Calls.wide (HC0.out _))|fail))
 refine wpQuiet_nil ?_;rintro _ ⟨q2,rfl⟩;have HB1:=upB HW q2.b;have Cx:=upK Gx q2.b;clear hne0 HW HB HC0 x0 x1 yn yd Gx Bx hc0 hc1 hbw;have HB:=HB1;clear HB1;have Bx:=Cx;clear Cx;exact z724z):p:=h
theorem Uz(h:p:=by
 have hcap:¬cap=k:=af
 all_goals (
  go_wp2_with (first|(at_builtin;refine aE rfl _ _ 36 rfl w.heap.size 9 i0 (I ⟨#[]⟩) 1 16 Tryz.underlying36 HI0.1 HI0.2.1 HI0.2.2.1 HI0.2.2.2 rfl ag _ _ _ rfl (HOW.out) _ k _ ((zs.take k).map Yn) rfl ot (λj u hu=>by rw[List.map_take] at hu;obtain⟨g9,o9,e,hgl,h3⟩:=HC.out j u (fs hu);cases e <;> exact⟨_,rfl,by simp only[Yo];exact (ai (ak w _) hgl).trans h3⟩) (HON.out _) bo af aF ?_))
  intro v5 w5 hown5 hgr5
  replace hown5:w5.ownsRow w.heap.size 9 1 v5 k ((zs.take k).map Yn):=dQ
  have hb5:Below w.heap.size w w5:=(ak w (Y6 #[] 9)).grown hgr5 aF (λg hg=>by simp[YJ] at hg;omega);obtain⟨s1,s2,s3,rfl⟩:=aA hown5;have HO5:=aa hown5;have H5:=aa hb5;have hs5:=hb5.size;clear hown5 hgr5 hb5 HOW
  go_wp2_with (first|(at_builtin;refine aE rfl _ _ 36 rfl w.heap.size 9 i0 (I ⟨#[]⟩) 1 16 Tryz.underlying36 HI0.1 HI0.2.1 HI0.2.2.1 HI0.2.2.2 rfl ag _ _ _ rfl (HO5.alloc _) _ 1 _ [I t] rfl rfl (λj u hu=>⟨_,rfl,by rw[Yo,Yq,an (heap_alloc_new w5 _)];simpa using hu⟩) dC bo af bJ ?_))
  intro v6 w6 hown6 hgr6;have hb6:Below w.heap.size w w6:=(H5.alloc H5.size _).grown hgr6 bJ (λg hg=>(HO5.lt g hg).1);obtain⟨r1,r2,r3,rfl⟩:=aA hown6;have HO6:=aa hown6;have H6:=aa hb6;have hs6:=hb6.size;clear hown6 hgr6 hb6
  go_wp2_with (first|(at_builtin;refine aE rfl _ _ 36 rfl w.heap.size 9 i0 (I ⟨#[]⟩) 1 16 Tryz.underlying36 HI0.1 HI0.2.1 HI0.2.2.1 HI0.2.2.2 rfl ag _ _ _ rfl (HO6.out) _ (len - k) _ ((zs.drop k).map Yn) rfl oq (λj u hu=>by first|(rw[Yx af] at hu;simp at hu;done)|(rw[List.map_drop,List.getElem?_drop] at hu;obtain⟨g9,o9,e,hgl,h3⟩:=HC.out _ u hu;cases e <;> exact⟨_,rfl,by simp only[Yo,Nat.add_assoc];exact (ai H6.out hgl).trans h3⟩)) (HON.out _) bo af af ?_))
  intro v7 w7 hown7 hgr7;have hb7:Below w.heap.size w w7:=H6.grown hgr7 af (λg hg=>(HO6.lt g hg).1)
  replace hown7:w7.ownsRow w.heap.size 9 1 v7 (len+1) ((zs.take k++[t]++zs.drop k).map Yn):=by
   have e9:k+1+(len - k)=len+1:=af
   try rw[e9] at hown7
   simpa using hown7
  obtain⟨a',p',rfl,hT⟩:=bN.fk hown7 (HZS.out k);have HT7:=aa hT;have HB7:=aa hb7;clear hown7 hgr7 hb7 hT hik hkn
  go_wp2
  go_ret
  exact⟨_,_,_,_,rfl,HT7.row,HP.out,Zb HT7.out,HB7.out⟩)):p:=h
theorem Up(h:p:=by
 rintro _ ⟨q3,rfl⟩;have HB2:=upB HW q3.b;have Cx:=upK Gx q3.b;clear hne0 HW HB x0 x1 Gx Bx;have HB:=HB2;clear HB2;have Bx:=Cx;clear Cx;have HCQ:Hid (∀(j:Nat) u,vss.flatten[j]?=Y3 u->∃b9,a=Y3 ⟨b9,0,U⟩/\b9<q3.w.heap.size/\q3.w.cell? ⟨b9,j,U⟩=Y3 u):=λj u hj=>by
  exact zX
 obtain⟨HOW,hik,hkn⟩:=agl;rcases a with _|⟨b2,f2,sp⟩
 ·have hl0:len=0:=Classical.byContradiction λhne0=>by
   exact z8
  obtain rfl:k=0:=af
  subst hl0;by_cases hcap:cap=0;all_goals (
   go_wp2_with (first|(at_builtin;refine aq rfl _ _ 129 rfl q3.w.heap.size 132 i5 (Za #[I ⟨#[]⟩,I ⟨#[]⟩]) 2 32 Tryz.underlying129 HI0.1 HI0.2.1 HI0.2.2.1 HI0.2.2.2 rfl ag _ _ _ rfl (HOW.out) _ 0 _ (vss.take 0).flatten rfl (bm HVA.out af) (λj u hu=>by obtain⟨g,e,hgl,h3⟩:=HCQ.out _ _ (cI hu);cases e <;> exact⟨_,rfl,by simp only[Yo,Yq];exact (ai (ak q3.w _) hgl).trans h3⟩) (aD HV1.out 0).1 bo af aF ?_))
   intro v5 w5 hown5 hgr5
   replace hown5:w5.ownsRow q3.w.heap.size 132 2 v5 0 (vss.take 0).flatten:=dQ
   have hb5:Below q3.w.heap.size q3.w w5:=(ak q3.w (Y6 #[] 132)).grown hgr5 aF (λg hg=>by simp[YJ] at hg;omega);obtain⟨s1,s2,s3,rfl⟩:=aA hown5;have HO5:=aa hown5;have H5:=aa hb5;have hs6:=hb5.size;have Bx5:=upK Bx hb5;obtain⟨x0,x1⟩:=cs2 Bx5;have hxl:=ae Bx5.out;clear hown5 hgr5 hb5 HOW
   go_wp2_with (first|(at_builtin;refine aq rfl _ _ 129 rfl q3.w.heap.size 132 i5 (Za #[I ⟨#[]⟩,I ⟨#[]⟩]) 2 32 Tryz.underlying129 HI0.1 HI0.2.1 HI0.2.2.1 HI0.2.2.2 rfl ag _ _ _ rfl (HO5.alloc _) _ 1 _ [I x.n,I x.d] rfl rfl (λj u hu=>⟨_,rfl,by rw[Yo,Yq,an (heap_alloc_new w5 _)];simpa using hu⟩) dC bo af bJ ?_))
   intro v6 w6 hown6 hgr6;have hb6:Below q3.w.heap.size q3.w w6:=(H5.alloc H5.size _).grown hgr6 bJ (λg hg=>(HO5.lt g hg).1);obtain⟨r1,r2,r3,rfl⟩:=aA hown6;have HO6:=aa hown6;have H6:=aa hb6;have hs7:=hb6.size;clear hown6 hgr6 hb6 x0 x1 hxl
   go_wp2_with (first|(at_builtin;refine aq rfl _ _ 129 rfl q3.w.heap.size 132 i5 (Za #[I ⟨#[]⟩,I ⟨#[]⟩]) 2 32 Tryz.underlying129 HI0.1 HI0.2.1 HI0.2.2.1 HI0.2.2.2 rfl ag _ _ _ rfl (HO6.out) _ (0 - 0) _ (vss.drop 0).flatten rfl jH (λj u hu=>by first|(rw[Yx af] at hu;simp at hu;done)|(obtain⟨g,e,hgl,h3⟩:=HCQ.out _ _ (cW HVA.out af hu);cases e <;> exact⟨_,rfl,by simp only[Yo,Yq];exact (ai H6.out hgl).trans h3⟩)) (aD HV1.out 0).2 bo af af ?_))
   intro v7 w7 hown7 hgr7;have hb7:Below q3.w.heap.size q3.w w7:=H6.grown hgr7 af (λg hg=>(HO6.lt g hg).1)
   replace hown7:w7.ownsRow q3.w.heap.size 132 2 v7 (0+1) (aM 0 [I x.n,I x.d] vss).flatten:=by
    have e9:0+1+(0 - 0)=0+1:=af
    try rw[e9] at hown7
    simpa[aM] using hown7
   have HB7:=upB HB hb7;obtain⟨a',c',rfl,hR⟩:=HFIN.out w7 v7 q3.w.heap.size 0 af HB.size HB7.out hown7;have HR7:=aa hR;clear hown7 hgr7 hb7 hR hik hkn hcap
   go_wp2
   go_ret
   exact⟨a',_,c',_,rfl,HR7.out,HP.out,HB7.out⟩)
 by_cases hcap:cap=k;all_goals (
  go_wp2_with (first|(at_builtin;refine aq rfl _ _ 129 rfl q3.w.heap.size 132 i5 (Za #[I ⟨#[]⟩,I ⟨#[]⟩]) 2 32 Tryz.underlying129 HI0.1 HI0.2.1 HI0.2.2.1 HI0.2.2.2 rfl ag _ _ _ rfl (HOW.out) _ k _ (vss.take k).flatten rfl (bm HVA.out af) (λj u hu=>by obtain⟨g,e,hgl,h3⟩:=HCQ.out _ _ (cI hu);cases e <;> exact⟨_,rfl,by simp only[Yo,Yq];exact (ai (ak q3.w _) hgl).trans h3⟩) (aD HV1.out k).1 bo af aF ?_))
  intro v5 w5 hown5 hgr5
  replace hown5:w5.ownsRow q3.w.heap.size 132 2 v5 k (vss.take k).flatten:=dQ
  have hb5:Below q3.w.heap.size q3.w w5:=(ak q3.w (Y6 #[] 132)).grown hgr5 aF (λg hg=>by simp[YJ] at hg;omega);obtain⟨s1,s2,s3,rfl⟩:=aA hown5;have HO5:=aa hown5;have H5:=aa hb5;have hs6:=hb5.size;have Bx5:=upK Bx hb5;obtain⟨x0,x1⟩:=cs2 Bx5;have hxl:=ae Bx5.out;clear hown5 hgr5 hb5 HOW
  go_wp2_with (first|(at_builtin;refine aq rfl _ _ 129 rfl q3.w.heap.size 132 i5 (Za #[I ⟨#[]⟩,I ⟨#[]⟩]) 2 32 Tryz.underlying129 HI0.1 HI0.2.1 HI0.2.2.1 HI0.2.2.2 rfl ag _ _ _ rfl (HO5.alloc _) _ 1 _ [I x.n,I x.d] rfl rfl (λj u hu=>⟨_,rfl,by rw[Yo,Yq,an (heap_alloc_new w5 _)];simpa using hu⟩) dC bo af bJ ?_))
  intro v6 w6 hown6 hgr6;have hb6:Below q3.w.heap.size q3.w w6:=(H5.alloc H5.size _).grown hgr6 bJ (λg hg=>(HO5.lt g hg).1);obtain⟨r1,r2,r3,rfl⟩:=aA hown6;have HO6:=aa hown6;have H6:=aa hb6;have hs7:=hb6.size;clear hown6 hgr6 hb6 x0 x1 hxl
  go_wp2_with (first|(at_builtin;refine aq rfl _ _ 129 rfl q3.w.heap.size 132 i5 (Za #[I ⟨#[]⟩,I ⟨#[]⟩]) 2 32 Tryz.underlying129 HI0.1 HI0.2.1 HI0.2.2.1 HI0.2.2.2 rfl ag _ _ _ rfl (HO6.out) _ (len - k) _ (vss.drop k).flatten rfl jH (λj u hu=>by first|(rw[Yx af] at hu;simp at hu;done)|(obtain⟨g,e,hgl,h3⟩:=HCQ.out _ _ (cW HVA.out af hu);cases e <;> exact⟨_,rfl,by simp only[Yo,Yq];exact (ai H6.out hgl).trans h3⟩)) (aD HV1.out k).2 bo af af ?_))
  intro v7 w7 hown7 hgr7;have hb7:Below q3.w.heap.size q3.w w7:=H6.grown hgr7 af (λg hg=>(HO6.lt g hg).1)
  replace hown7:w7.ownsRow q3.w.heap.size 132 2 v7 (len+1) (aM k [I x.n,I x.d] vss).flatten:=by
   have e9:k+1+(len - k)=len+1:=af
   try rw[e9] at hown7
   simpa[aM] using hown7
  have HB7:=upB HB hb7;obtain⟨a',c',rfl,hR⟩:=HFIN.out w7 v7 q3.w.heap.size k af HB.size HB7.out hown7;have HR7:=aa hR;clear hown7 hgr7 hb7 hR hik hkn hcap
  go_wp2
  go_ret
  exact⟨a',_,c',_,rfl,HR7.out,HP.out,HB7.out⟩)):p:=h
theorem T8(h:p:=by
 refine⟨⟨k+1,by omega,by go_num,λj z hj hz=>?_,HL.trans (q1.b.mono af)⟩,by simp[intOf];omega⟩;by_cases e:j=k
 ·subst e;rw[HY.out] at hz;obtain rfl:=Yd hz;exact HE.out
 ·exact HI.out j z af hz):p:=h
theorem T7(h:p:=by
 go_ret;exact ar.t (by rw[<-HE.out];exact Yu HY.out) HB.out):p:=h
theorem ye(h:p:=by
 rintro _ ⟨q1,rfl⟩;have HB1:=upB HW q1.b;have Cx:=upK Gx q1.b;clear hne0 HW HB x0 x1 yn yd Gx Bx hb hc0 hc1 hqe;have HB:=HB1;clear HB1;have Bx:=Cx;clear Cx;go_wp2;exact z783z):p:=h
theorem T4(h:p:=by
 clear hq1;have HCQ:Hid (∀(j:Nat) u,vss.flatten[j]?=Y3 u->∃b9,(Y3 ⟨b,o,U⟩:Option Addr)=Y3 ⟨b9,0,U⟩/\b9<q3.w.heap.size/\q3.w.cell? ⟨b9,j,U⟩=Y3 u):=λj u hj=>by
  exact zX
 obtain⟨HOW,hik,hkn⟩:=agl;have hcap:¬cap=k:=af
 all_goals (
  go_wp2_with (first|(at_builtin;refine aq rfl _ _ 129 rfl q3.w.heap.size 132 i5 (Za #[I ⟨#[]⟩,I ⟨#[]⟩]) 2 32 Tryz.underlying129 HI0.1 HI0.2.1 HI0.2.2.1 HI0.2.2.2 rfl ag _ _ _ rfl (HOW.out) _ k _ (vss.take k).flatten rfl (bm HVA.out af) (λj u hu=>by obtain⟨g,e,hgl,h3⟩:=HCQ.out _ _ (cI hu);cases e <;> exact⟨_,rfl,by simp only[Yo,Yq];exact (ai (ak q3.w _) hgl).trans h3⟩) (aD HV1.out k).1 bo af aF ?_))
  intro v5 w5 hown5 hgr5
  replace hown5:w5.ownsRow q3.w.heap.size 132 2 v5 k (vss.take k).flatten:=dQ
  have hb5:Below q3.w.heap.size q3.w w5:=(ak q3.w (Y6 #[] 132)).grown hgr5 aF (λg hg=>by simp[YJ] at hg;omega);obtain⟨s1,s2,s3,rfl⟩:=aA hown5;have HO5:=aa hown5;have H5:=aa hb5;have hs6:=hb5.size;have Bx5:=upK Bx hb5;obtain⟨x0,x1⟩:=cs2 Bx5;have hxl:=ae Bx5.out;clear hown5 hgr5 hb5 HOW
  go_wp2_with (first|(at_builtin;refine aq rfl _ _ 129 rfl q3.w.heap.size 132 i5 (Za #[I ⟨#[]⟩,I ⟨#[]⟩]) 2 32 Tryz.underlying129 HI0.1 HI0.2.1 HI0.2.2.1 HI0.2.2.2 rfl ag _ _ _ rfl (HO5.alloc _) _ 1 _ [I x.n,I x.d] rfl rfl (λj u hu=>⟨_,rfl,by rw[Yo,Yq,an (heap_alloc_new w5 _)];simpa using hu⟩) dC bo af bJ ?_))
  intro v6 w6 hown6 hgr6;have hb6:Below q3.w.heap.size q3.w w6:=(H5.alloc H5.size _).grown hgr6 bJ (λg hg=>(HO5.lt g hg).1);obtain⟨r1,r2,r3,rfl⟩:=aA hown6;have HO6:=aa hown6;have H6:=aa hb6;have hs7:=hb6.size;clear hown6 hgr6 hb6 x0 x1 hxl
  go_wp2_with (first|(at_builtin;refine aq rfl _ _ 129 rfl q3.w.heap.size 132 i5 (Za #[I ⟨#[]⟩,I ⟨#[]⟩]) 2 32 Tryz.underlying129 HI0.1 HI0.2.1 HI0.2.2.1 HI0.2.2.2 rfl ag _ _ _ rfl (HO6.out) _ (len - k) _ (vss.drop k).flatten rfl jH (λj u hu=>by first|(rw[Yx af] at hu;simp at hu;done)|(obtain⟨g,e,hgl,h3⟩:=HCQ.out _ _ (cW HVA.out af hu);cases e <;> exact⟨_,rfl,by simp only[Yo,Yq];exact (ai H6.out hgl).trans h3⟩)) (aD HV1.out k).2 bo af af ?_))
  intro v7 w7 hown7 hgr7;have hb7:Below q3.w.heap.size q3.w w7:=H6.grown hgr7 af (λg hg=>(HO6.lt g hg).1)
  replace hown7:w7.ownsRow q3.w.heap.size 132 2 v7 (len+1) (aM k [I x.n,I x.d] vss).flatten:=by
   have e9:k+1+(len - k)=len+1:=af
   try rw[e9] at hown7
   simpa[aM] using hown7
  have HB7:=upB HB hb7;obtain⟨a',c',rfl,hR⟩:=HFIN.out w7 v7 q3.w.heap.size k af HB.size HB7.out hown7;have HR7:=aa hR;clear hown7 hgr7 hb7 hR hik hkn hcap
  go_wp2
  go_ret
  exact⟨a',_,c',_,rfl,HR7.out,HP.out,HB7.out⟩)):p:=h
theorem T3(h:p:=by
 go_wp2;go_ret;exact⟨_,_,_,_,rfl,HOW0.below HB.out,HP.out,HB.out⟩):p:=h
theorem x_(h:p:=by
 rintro _ ⟨q3,rfl⟩;have HB2:=upB HW q3.b;have Cx:=upK Gx q3.b;clear hne0 HW HB x0 x1 yn yd Gx Bx hc0 hc1 hbw hqe;have HB:=HB2;clear HB2;have Bx:=Cx;clear Cx;exact z789z):p:=h
theorem Tz(h:p:=by
 have z1624z:=@aa _ @DS;exact fy):p:=h
theorem Ty(h:p:=by
 refine (aK 1 _).mono ?_;have z41z:=@aa _ @aiv;exact ei):p:=h
theorem Tk(h:p:=by
 obtain⟨p0,p1,p2,p3,p4,p5,p6,p7⟩:=cs8 Bp;have ltp_2:=ae Bp.out;obtain⟨x0,x1⟩:=cs2 Bx;have ltx_2:=ae Bx.out;go_wp2_with fail;refine (BR ⟨a1,l1,y1,a2,l2,y2,(Y3 ⟨b,o,U⟩),l3,y3,a4,l4,y4,a5,l5,y5⟩ c ⟨x.n,t⟩ j nd _ (HR.below HB.out) HT.out HJ.out HJN.out).mono ?_;rintro e w3 ⟨r,rfl,hi,hb3⟩;clear k0 k1 k2 k3 k4 k5 ltk_2 p0 p1 p2 p3 p4 p5 p6 p7 ltp_2 x0 x1 ltx_2;have z1646z:=@aa _ @DB;exact lX):p:=h
theorem Tj(h:p:=by
 obtain⟨p0,p1,p2,p3,p4,p5,p6,p7⟩:=cs8 Bp;have ltp_2:=ae Bp.out;obtain⟨x0,x1⟩:=cs2 Bx;have ltx_2:=ae Bx.out;have z1697z:=@aa _ @CR;exact ri):p:=h
theorem SQ(h:p:=by
 have z53z:=@aa _ @ae6;exact aC):p:=h
theorem SP(h:p:=by
 have z53z:=@aa _ @ae5;exact aC):p:=h
theorem xX(h:p:=by
 have z1176z:=@aa _ @KB;exact dI):p:=h
theorem R8(h:p:=by
 generalize (((((((wz.setCell ⟨b9,0,U⟩ (I n.n)).setCell ⟨b9,1,U⟩ (I n.z)).setCell ⟨b9,2,U⟩ (Y4 Y5 n.c)).setCell ⟨b9,3,U⟩ (Y4 Y5 n.s)).setCell ⟨b9,4,U⟩ (Y4 Y5 n.u)).setCell ⟨b9,5,U⟩ (Y7 n.d)).setCell ⟨b9,6,U⟩ (J va vl vc))=X3 at Bn HWX ⊢;clear t0 t1 t2 t3 t4 t5 t6 f0 f1 f2 f3 f4 f5 f6;have HB3:=aa (HBW.trans (HWX.mono HBW.size));replace Bk:=aa ((HWX.block _ (ae Bk.out)).trans Bk.out);replace Bx:=aa ((HWX.block _ (ae Bx.out)).trans Bx.out);clear HB hW HWX HBW;have HB:=HB3;clear HB3;cases hd:n.d
 ·have z1295z:=@aa _ @I5;exact sH
 ·have z1295z:=@aa _ @I4;exact sH):p:=h
theorem R7(h:p:=by
 have HV:Hid (gY c ⟨oW c i (onV v (wo (λs:ByteArray=>s) y.d v.zs)),AA++y.n,0⟩):=Zb (Zc ⟨HT.out,es,y,i,v,HES.out,HY0.out,HV0.out,HVN.out,by rw[HVN.out]⟩);go_wp2;have hlo:=HLO.out;refine bodyPost_ret (v:=Za #[J x1 m1 n1,J x2 m2 n2,J (Y3 ⟨g,0,U⟩) l3 n3,J x4 m4 n4,J x5 m5 n5,Y4 Y5 c.now,I (AA++y.n),Y4 Y5 0]) (by simp[results,Tryz.results69,go_sem, *];rfl) rfl ⟨⟨x1,m1,n1,x2,m2,n2,Y3 ⟨g,0,U⟩,l3,n3,x4,m4,n4,x5,m5,n5⟩,⟨oW c i (onV v (wo (λs:ByteArray=>s) y.d v.zs)),AA++y.n,0⟩,rfl,HV.out,?_,sb1 (sb1 (sb1 (sb1 (sb1 (sb1 (sb1 (sb1 (HB5.trans (HWY.mono HB5.size)))))))))⟩;exact NP):p:=h
theorem R6(h:p:=by
 have HV:Hid (gY c ⟨oW c i (onV v ys),wOn++y.n,0⟩):=Zb (Zb ⟨HT.out,HNX.out,ws,HES.out,Zc ⟨y,i,v,ys,HF.out,HV0.out,HVN.out,HPUT.out,by rw[HVN.out]⟩⟩);go_wp2;have hlo:=HLO.out;refine bodyPost_ret (v:=Za #[J x1 m1 n1,J x2 m2 n2,J (Y3 ⟨g,0,U⟩) l3 n3,J x4 m4 n4,J x5 m5 n5,Y4 Y5 c.now,I (wOn++y.n),Y4 Y5 0]) (by simp[results,Tryz.results69,go_sem, *];rfl) rfl ⟨⟨x1,m1,n1,x2,m2,n2,Y3 ⟨g,0,U⟩,l3,n3,x4,m4,n4,x5,m5,n5⟩,⟨oW c i (onV v ys),wOn++y.n,0⟩,rfl,HV.out,?_,sb1 (sb1 (sb1 (sb1 (sb1 (sb1 (sb1 (sb1 (HB5.trans (HWY.mono HB5.size)))))))))⟩;exact NP):p:=h
theorem RV(h:p:=by
 have hbl2:b<q1.w.heap.size:=Yj HYB.out q1.b.size;have hy0:q1.w.cell? ⟨b,o+k*2,U⟩=Y3 (I y.n):=(q1.cell HYB.out).trans HYN.out;have HYN2:=aa hy0;have HYB3:=aa hbl2;have HY12:Hid (q1.w.cell? ⟨b,o+k*2+1,U⟩=Y3 (I y.d)):=(q1.cell HYB.out).trans HY1.out;obtain⟨k0,k1,k2,k3,k4,k5⟩:=cs6 Bk;have ltk_5:=ae Bk.out;obtain⟨o0,o1,o2,o3,o4,o5⟩:=cs6 Bo;have lto_5:=ae Bo.out;go_wp2_with fail;clear k0 k1 k2 k3 k4 k5 ltk_5 o0 o1 o2 o3 o4 o5 lto_5;have Gk:=Bk;have Gr:=Br;have Go:=Bo;have HW:=HB;obtain⟨k0,k1,k2,k3,k4,k5⟩:=sl6 Gk;have yn:=λq:Wd q1.w=>(q.cell hbl2).trans hy0;have hne0:=Wd.ne q1.w;have HC0:=aa (λq:Wd q1.w=>ed ⟨a1,l1,y1,a2,l2,y2,a3,l3,y3,a4,l4,y4,a5,l5,y5⟩ c.now c.vs y.n q.w (HR.v.below (HW.trans (q.b.mono HW.size))) HT.2.1.2.2.1.2.2 HV0.out HVN.out);have z1202z:=@aa _ @J7;exact bQ):p:=h
theorem RU(h:p:=by
 obtain⟨k0,k1,k2,k3,k4,k5⟩:=cs6 Bk;have ltk_5:=ae Bk.out;obtain⟨o0,o1,o2,o3,o4,o5⟩:=cs6 Bo;have lto_5:=ae Bo.out;go_wp2;refine⟨⟨k+1,by omega,by go_num,?_,HL.trans (q1.b.mono hLs)⟩,by simp[intOf];omega⟩;rw[HN.out];exact HLK):p:=h
theorem xN(h:p:=by
 repeat (go_big_quiet_step (first|(go_at_call 117;exact Calls.wide (HC0.out _))|fail))
 refine wpQuiet_nil ?_;rintro _ ⟨q1,rfl⟩;have HB5:=upB HW q1.b;obtain⟨Ck,Cr⟩:=er;have Co:=upK Go q1.b;have CHY:=aa ((HY.out).below q1.b);clear hne0 HW HB HC0 k0 k1 k2 k3 k4 k5 yn yd Gk Gr Go Bk Br Bo HY hbl hc0 hc1;have HB:=HB5;clear HB5;have HY:=CHY;clear CHY;have Bk:=Ck;clear Ck;have Br:=Cr;clear Cr;have Bo:=Co;clear Co;exact z937z):p:=h
theorem Ri(h:p:=by
 have HZx2:=aa z2;have HZx4:=aa z4;clear hat hx z0 z2 z4 hvr;have hbw:=hb;clear hb;have hk1:(k:Int)<l5:=af
 obtain⟨W1,hW1⟩:∃W1,W1=wr:=⟨_,rfl⟩;subst hW1;have hxz:x.zs.length=vl:=HTx.1;have hv3:vl<=3:=by have h9:(x.zs.length:Int)<=3:=(HT.2.1.2.2.2.2.2.1 k x HXx.out).2.2.2.1.1;omega
 have z1507z:=@aa _ @E9;exact dG):p:=h
theorem LZ(h:p:=by
 have HC0:=aa (λq:Wd wr=>n8 y x q.w Y8 HLS.out);have z1202z:=@aa _ @J6;exact bQ):p:=h
theorem LY(h:p:=by
 have HC0:=aa (λq:Wd wr=>n8 y x q.w Y_ HLS.out);have z53z:=@aa _ @ae7;exact aC):p:=h
theorem tj(h:p:=by
 have HLS:=aa hless;clear hless;have Gx:=Bx;have HW:=HB;obtain⟨x0,x1⟩:=sl2 Gx;have yn:=λq:Wd wr=>(q.cell hbw).trans hc0;have yd:=λq:Wd wr=>(q.cell hbw).trans hc1;have hne0:=Wd.ne wr;exact z1078z):p:=h
theorem LB(h:p:=by
 have z1z:=@aa _ @aiM;exact bC):p:=h
theorem LA(h:p:=by
 have z1z:=@aa _ @aiL;exact bC):p:=h
theorem sX(h:p:=by
 have Gx:=Bx;have HW:=HB;obtain⟨x0,x1⟩:=sl2 Gx;have yn:=λq:Wd q2.w=>(q.cell hbw).trans hc0;have yd:=λq:Wd q2.w=>(q.cell hbw).trans hc1;have hne0:=Wd.ne q2.w;exact z1111z):p:=h
theorem Lp(h:p:=by
 have HOW:=aa how.row;have HMW:=aa hmw;clear how hrw hmw hlw;have z475z:=@aa _ @aai;exact cC):p:=h
theorem K8(h:p:=by
 refine (BY ⟨a1,l1,y1,a2,l2,y2,a3,l3,y3,a4,l4,y4,a5,l5,y5⟩ c _ (HR.below (HB.trans ((ak _ _).mono HB.size))) HT.out).mono ?_;rintro e w3 ⟨ea,el,ec,es,rfl,ho,hrq,hmem,hle,hb⟩;clear k0 k1 k2 k3 k4 k5 ltk_2;obtain⟨HA0,hbx⟩:=bB hb;replace Bk:=upK Bk hbx;replace Br:=upK Br hbx;have Bo:=aa HA0;replace HY:=aa (HY.below hbx);replace HB:=upB HB hbx;clear hb hbx HA0;have HEB:Hid (∀b o,ea=Y3 ⟨b,o,U⟩->0<el->w2.heap.size<b):=λb o e hp=>by
  obtain⟨h1,-,-,h4⟩:=ho;rcases h4 with h4|⟨g',cur,H,e',hat⟩
  ·rw[h4] at h1;simp at h1;omega
  ·rw[e] at e';cases e';have h5:=hat.inS;simp at h5;omega
 have HQ3:Hid (w2.heap.size<w3.heap.size):=ae Bo.out;have HER:=aa ho.row;have hel:es.length=el:=by simpa using ho.row.1
 have HES:=aa (Yb hrq hmem);clear ho hrq hmem;by_cases he0:0<el
 ·have hei:(0:Int)<el:=af
  obtain⟨b,o,y,rfl,hbl,hy,hat⟩:=oF HER.out he0;obtain⟨-,-,hc0,hc1⟩:=fE hat;have HY0:=aa hy;obtain⟨i,v,hv,hvn,hvd⟩:=ahr ((HES.2 y).1 (Yu hy));have HV0:=aa hv;have HVN:=aa hvn;have hi3:i<l3:=by have:=(Yc.1 hv).1;omega
  clear hat hy hv hvn hvd;have hy0:w3.cell? ⟨b,o,U⟩=Y3 (I y.n):=by simpa using hc0
  have hy1:w3.cell? ⟨b,o+1,U⟩=Y3 (I y.d):=by simpa using hc1
  have HY1:=aa hy1;have HYN:=aa hy0;have HYB:=aa hbl;have hv64:v.zs.length<=64:=by have:=(HT.on HV0.out).1;omega
  clear hc0 hc1 hy1;have z1429z:=@aa _ @Gj;exact dH
 have hei:¬(0:Int)<el:=af
 have HNX:Hid (∀q,¬Xn c c.vs.length q):=λq hq=>by
  have h1:=(HES.2 q).2 hq;obtain⟨j,hj⟩:=YF h1;have:=(Yc.1 hj).1;omega
 clear HER HES HEB;obtain⟨k0,k1,k2,k3,k4,k5⟩:=cs6 Bk;have ltk_3:=ae Bk.out;obtain⟨o0,o1,o2,o3,o4,o5⟩:=cs6 Bo;have lto_3:=ae Bo.out;go_wp2_with fail;refine (lK ⟨a1,l1,y1,a2,l2,y2,a3,l3,y3,a4,l4,y4,a5,l5,y5⟩ c _ (HR.below HB.out) HT.out).mono ?_;rintro e w4 ⟨wa,wl,wc,ws,rfl,ho,hrq,hmem,hle,hb⟩;clear k0 k1 k2 k3 k4 k5 ltk_3 o0 o1 o2 o3 o4 o5 lto_3;replace Bk:=upK Bk hb;replace Br:=upK Br hb;replace Bo:=upK Bo hb;replace HY:=aa (HY.below hb);replace HB:=upB HB hb;clear hb;have HEB:Hid (∀b o,wa=Y3 ⟨b,o,U⟩->0<wl->w3.heap.size<b):=λb o e hp=>by
  obtain⟨h1,-,-,h4⟩:=ho;rcases h4 with h4|⟨g',cur,H,e',hat⟩
  ·rw[h4] at h1;simp at h1;omega
  ·rw[e] at e';cases e';have h5:w3.heap.size+1<=b:=hat.inS;omega
 have HER:=aa ho.row;have hwl:ws.length=wl:=by simpa using ho.row.1
 have HES:=aa (Yb hrq hmem);clear ho hrq hmem;obtain⟨k0,k1,k2,k3,k4,k5⟩:=cs6 Bk;have ltk_4:=ae Bk.out;obtain⟨o0,o1,o2,o3,o4,o5⟩:=cs6 Bo;have lto_4:=ae Bo.out;go_wp2;clear k0 k1 k2 k3 k4 k5 ltk_4 o0 o1 o2 o3 o4 o5 lto_4;have h4o:w2.heap.size<w4.heap.size:=ae Bo.out;go_loopw [7] (λvi wr=> ∃k:Nat,k<=wl/\vi=Y4 Y5 k/\Hid (lakL c (ws.take k)=[])/\Hid (Below w4.heap.size w4 wr)) (λvi _=>wl - (intOf vi).toNat);case atStart=>exact⟨0,by omega,rfl,rfl,Yh _ _⟩
 case round=>
  obtain⟨k,hk,rfl,HLK,HL⟩:=hrel;replace Bk:=aa ((HL.block _ (ae Bk.out)).trans Bk.out);replace Br:=aa ((HL.block _ (ae Br.out)).trans Br.out);replace Bo:=aa ((HL.block _ (ae Bo.out)).trans Bo.out);replace HY:=aa (HY.below HL.out);replace HB:=aa (HB.trans (HL.mono HB.size));have hLs:=HL.size;by_cases hlt:k<wl
  ·have hk1:(k:Int)<wl:=af
   have hk0:¬(k:Int)<0:=af
   obtain⟨b,o,y,rfl,hbl,hy,hat⟩:=oF (HER.below HL.out) hlt;obtain⟨-,hzd,hc0,hc1⟩:=fE hat;have HY0:=aa hy;obtain⟨i,j,v,n,g1,g2,g3,g4⟩:=aht HT.out ((HES.2 y).1 (Yu hy));have HV0:=aa g1;have HVN:=aa g2;have HNJ:=aa (Yb g3 g4);have HCI:=aa (xf.iff HT.out g1 g2 g3 g4);have hi3:i<l3:=by have:=(Yc.1 g1).1;omega
   have HEB2:Hid (w3.heap.size<b):=HEB.out b o rfl af;have HYN:=aa hc0;have HY1:=aa hc1;have HYB:=aa hbl;have HZD:=aa hzd;clear hat hy g1 g2 g3 g4 hzd;by_cases hcan:xg c v n;rotate_left
   ·have HN:Hid (lakL c (ws.take (k+1))=lakL c (ws.take k)):=aj5 HY0.out (λh=>hcan (HCI.1 h));have HCB:Hid (¬xg c v n):=hcan;have z1413z:=@aa _ @GO;exact sd
   have HF:Hid ((lakL c ws)[0]?=Y3 y):=A5 HY0.out (HCI.2 hcan) HLK.out;have HCB:Hid (xg c v n):=hcan;have HCN:Hid (¬y.d∈v.zs):=λh9=>hcan.1 (by obtain⟨q,hq⟩:=YF h9;rw[HNJ.2];exact⟨q,hq⟩);clear hcan;have z1413z:=@aa _ @GQ;exact sd
  have hk1:¬(k:Int)<wl:=af
  have HV:Hid (gY c (co0 6)):=Zb (Zb ⟨HT.out,HNX.out,ws,HES.out,Zb ⟨by have h9:=HLK.out;rw[YH af] at h9;exact h9,rfl⟩⟩);obtain⟨k0,k1,k2,k3,k4,k5⟩:=cs6 Bk;have ltk_4:=ae Bk.out;go_wp2_with fail;refine (aK 6 _).mono ?_;rintro e w5 ⟨rfl,hb⟩;clear k0 k1 k2 k3 k4 k5 ltk_4;replace Bk:=upK Bk hb;replace Br:=upK Br hb;replace Bo:=upK Bo hb;replace HY:=aa (HY.below hb);replace HB:=upB HB hb;clear hb;have z1713z:=@aa _ @CE;exact fx):p:=h
theorem KC(h:p:=by
 obtain⟨p0,p1,p2,p3,p4,p5,p6,p7⟩:=cs8 Bp;have ltp_1:=ae Bp.out;obtain⟨x0,x1⟩:=cs2 Bx;have ltx_1:=ae Bx.out;go_wp2_with fail;refine (AJ wa wl wc zw ⟨x.n,t⟩ _ HOW.out).mono ?_;rintro e w2 ⟨r,rfl,hi,hb3⟩;clear k0 k1 k2 k3 k4 k5 ltk_1 p0 p1 p2 p3 p4 p5 p6 p7 ltp_1 x0 x1 ltx_1;have z1646z:=@aa _ @DA;exact lX):p:=h
theorem KB(h:p:=by
 have z1520z:=@aa _ @E2;exact mw):p:=h
theorem Ku(h:p:=by
 have HI:=aa hi;clear hi;cases r
 ·have HV:Hid (gY c (co0 1)):=Zc ⟨λh=>(by have h9:=HI.2 h;cases h9),rfl⟩;clear HI;have z820z:=@aa _ @Ty;exact fP
 have HT:=aa (HI.1 bX);clear HI;have z820z:=@aa _ @Tz;exact fP):p:=h
theorem Kp(h:p:=by
 obtain⟨p0,p1,p2,p3,p4,p5,p6,p7⟩:=cs8 Bp;have ltp_4:=ae Bp.out;obtain⟨x0,x1⟩:=cs2 Bx;have ltx_4:=ae Bx.out;go_wp2;refine⟨⟨n+1,sa,sl,sc,zs2,by omega,by go_num,rfl,⟨HO2.out,HP2.ris HQ.2.1,λq=>?_,by have h9:=HP2.len;omega⟩,HL2.trans (HY2.out.mono hs3)⟩,by simp[intOf];omega⟩;rw[HP2.mem,HQ.2.2.1,Xc.yes HXT.out HNW.out HMO.out,or_assoc]):p:=h
theorem J7(h:p:=by
 have z1740z:=@aa _ @B9;exact lR):p:=h
theorem J6(h:p:=by
 have z724z:=@aa _ @UQ;exact yt):p:=h
theorem JW(h:p:=by
 refine' Grow.stepC (Y4 Y5 j) rfl ?_ ?_
 ·have z1579z:=@aa _ @Ek;exact lZ
 refine' Grow.stepC _ rfl ?_ ?_;rotate_left 1
 ·exact NK
 refine' Grow.stepC _ rfl ?_ ?_;rotate_left 1
 ·refine Obl.plain rfl ?_;intro ac wg K hsz hW hf hK;clear hsz;have e12:=hf 12 ag;simp[aj,Yf] at e12;clear hf;obtain⟨d0,d1,d2,d3,d4,d5,d6⟩:=HNC.out;have z1419z:=@aa _ @aL;exact r_
 refine Grow.step (af5 W.heap.size) rfl (af5.mono _) ?_ ?_
 ·exact kL
 have z1656z:=@aa _ @Dp;exact du):p:=h
theorem JV(h:p:=by
 refine' Grow.stepC (Y4 Y5 i) rfl ?_ ?_
 ·have z286z:=@aa _ @acF;exact lx
 refine' Grow.stepC _ rfl ?_ ?_;rotate_left 1
 ·exact NK
 refine' Grow.stepC _ rfl ?_ ?_;rotate_left 1
 ·refine Obl.plain rfl ?_;intro ac wg K hsz hW hf hK;clear hsz;have e12:=hf 12 ag;simp[aj,Yf] at e12;clear hf;obtain⟨d0,d1,d2,d3,d4,d5,d6,d7⟩:=HNC.out;have z1419z:=@aa _ @GJ;exact r_
 refine Grow.step (af3 W.heap.size) rfl (af3.mono _) ?_ ?_
 ·exact kL
 have z1656z:=@aa _ @Dn;exact du):p:=h
theorem sP(h:p:=by
 rename_i K0 hK0;refine bG ba rfl rfl ba ?_;refine' Grow.stepC _ rfl ?_ ?_;rotate_left 1
 ·exact nf
 refine' Grow.stepC _ rfl ?_ ?_;rotate_left 1
 ·exact ajc
 refine' Grow.stepC _ rfl ?_ ?_;rotate_left 1
 ·exact NR
 refine' Grow.stepC _ rfl ?_ ?_;rotate_left 1
 ·exact ko
 refine' Grow.stepC _ rfl ?_ ?_;rotate_left 1
 ·exact ajy
 exact z1224z):p:=h
theorem JP(h:p:=by
 simp only[aJ,YQ,Act.put,Ys,YA,YB,h48,h47,h46,h45,h44,h43,h42];have z923z:=@aa _ @R7;exact ia):p:=h
theorem JO(h:p:=by
 simp only[aJ,YQ,Act.put,Ys,YA,YB,h94,h93,h92,h91,h90,h89,h88,h87];have z923z:=@aa _ @R6;exact ia):p:=h
theorem sN(h:p:=by
 have Br6:=upK Br5 hW;have HWY:=aa hW;obtain⟨r0,r1,r2,r3,r4,r5,r6,r7⟩:=cs8 Br6;have fr0:=al Br6.out 0;have fr1:=al Br6.out 1;have fr2:=al Br6.out 2;have fr3:=al Br6.out 3;have fr4:=al Br6.out 4;have fr5:=al Br6.out 5;have fr6:=al Br6.out 6;have fr7:=al Br6.out 7;have hrl:=ae Br6.out;intro K hK;rw[if_pos (by rfl)];exact z1234z):p:=h
theorem JE(h:p:=by
 refine' Grow.stepC _ rfl ?_ ?_;rotate_left 1
 ·exact ko
 refine' Grow.stepC _ rfl ?_ ?_;rotate_left 1
 ·exact kt
 refine' Grow.stepC _ rfl ?_ ?_;rotate_left 1
 ·have z1443z:=@aa _ @gO;exact gH
 refine' Grow.stepC _ rfl ?_ ?_;rotate_left 1
 ·refine Obl.plain rfl ?_;intro ac wg K hsz hW hf hK;clear hsz;have e1:=hf 1 ag;simp[aj,Yf] at e1;exact gO
 refine' Grow.stepC _ rfl ?_ ?_;rotate_left 1
 ·exact kl
 refine' Grow.stepC _ rfl ?_ ?_;rotate_left 1
 ·have z1499z:=@aa _ @N1;exact ju
 refine' Grow.stepC _ rfl ?_ ?_;rotate_left 1
 ·exact km
 refine' Grow.stepC _ rfl ?_ ?_;rotate_left 1
 ·refine Obl.plain rfl ?_;intro ac wg K hsz hW hf hK;clear hsz;have e37:=hf 37 ag;simp[aj,Yf] at e37;have e38:=hf 38 ag;simp[aj,Yf] at e38;clear hf;exact aL
 refine' Grow.stepC _ rfl ?_ ?_;rotate_left 1
 ·have z1529z:=@aa _ @EX;exact mr
 refine' Grow.stepC (Y4 Y5 j) rfl ?_ ?_
 ·have z1447z:=@aa _ @F7;exact gG
 refine' Grow.stepC _ rfl ?_ ?_;rotate_left 1
 ·have z1491z:=@aa _ @Fs;exact jx
 refine' Grow.stepC _ rfl ?_ ?_;rotate_left 1
 ·have z1556z:=@aa _ @EB;exact mi
 refine' Grow.stepC _ rfl ?_ ?_;rotate_left 1
 ·refine Obl.plain rfl ?_;intro ac wg K hsz hW hf hK;clear hsz;have e43:=hf 43 ag;simp[aj,Yf] at e43;clear hf;have vc9:=(ai hW HVC.1).trans HVC.2;exact aL
 refine' Grow.stepC _ rfl ?_ ?_;rotate_left 1
 ·exact kl
 refine' Grow.stepC _ rfl ?_ ?_;rotate_left 1
 ·have z1553z:=@aa _ @N1;exact mj
 refine' Grow.stepC _ rfl ?_ ?_;rotate_left 1
 ·refine Obl.plain rfl ?_;intro ac wg K hsz hW hf hK;clear hsz;have e44:=hf 44 ag;simp[aj,Yf] at e44;have e46:=hf 46 ag;simp[aj,Yf] at e46;clear hf;exact aL
 refine Grow.step (PqF ⟨v.n,x.d⟩ ys (w.heap.size+1)) rfl (PqF.mono) ?_ ?_
 ·have z1496z:=@aa _ @Fo;exact jw
 refine Grow.done ?_;intro q w5 hW hf;simp only[List.forall_mem_cons] at hf;obtain⟨⟨sa,sl,sc,zs2,h48,ho2,hp2⟩,-⟩:=hf;have HP2:=aa hp2;have HO2:=aa ho2;have HW2:=aa hW;clear hp2 ho2;intro K hK;rw[if_pos (by rfl)];simp only[aJ,YQ,Act.put,Ys,YA,YB,h48];have z560z:=@aa _ @WZ;exact jl):p:=h
theorem Ja(h:p:=by
 have hbw:=hb;clear hb;have hk1:(k:Int)<l3:=af
 obtain⟨W1,hW1⟩:∃W1,W1=wr:=⟨_,rfl⟩;subst hW1;have hxz:x.zs.length=vl:=HTx.1;have hv3:vl<=8:=by have h9:=(ic (HT.2.1.2.2.1.2.1 k x HXx.out).2.2.2.2.2.2).1;omega
 have hyb:=HQ.2.2.2;have z475z:=@aa _ @aag;exact cC):p:=h
theorem I5(h:p:=by
 refine (bW va vl vc n.zs x.n _ (HV.below HB.out)).mono ?_;rintro e w4 ⟨r,rfl,hh,hb⟩;have z1606z:=@aa _ @D4;exact rF):p:=h
theorem I4(h:p:=by
 obtain⟨r,hr⟩:∃r,r=decide (n.u+5<c.now):=⟨_,rfl⟩;have HRR:=aa hr;clear hr;have hg:=uR ⟨(Y3 ⟨b,o,U⟩),l1,y1,a2,l2,y2,a3,l3,y3,a4,l4,y4,a5,l5,y5⟩ c.now n va vl vc X3 hu.1 hu.2;rw[HD.out,<-HRR.out] at hg;refine (hg).mono ?_;rintro e w4 ⟨rfl,hb⟩;have z1606z:=@aa _ @D3;exact rF):p:=h
theorem sH(h:p:=by
 have HD:=aa hd;clear hd;rw[HD.out] at Bn;have z1507z:=@aa _ @E7;exact dG):p:=h
theorem IW(h:p:=by
 refine' Grow.stepC _ rfl ?_ ?_;rotate_left 1
 ·exact ko
 refine' Grow.stepC _ rfl ?_ ?_;rotate_left 1
 ·refine Obl.plain rfl ?_;intro ac wg K hsz hW hf hK;clear hsz;have e26:=hf 26 ag;simp[aj,Yf] at e26;exact vy
 refine' Grow.stepC _ rfl ?_ ?_;rotate_left 1
 ·exact kl
 refine' Grow.stepC _ rfl ?_ ?_;rotate_left 1
 ·exact kt
 refine' Grow.stepC _ rfl ?_ ?_;rotate_left 1
 ·refine Obl.plain rfl ?_;intro ac wg K hsz hW hf hK;clear hsz;have e29:=hf 29 ag;simp[aj,Yf] at e29;clear hf;obtain⟨d0,d1,d2,d3,d4,d5⟩:=cs6 ((hW.block _ (ae Bk.out)).trans Bk.out);exact aL
 refine' Grow.stepC _ rfl ?_ ?_;rotate_left 1
 ·exact kl
 refine' Grow.stepC _ rfl ?_ ?_;rotate_left 1
 ·have z1566z:=@aa _ @Eu;exact mf
 refine' Grow.stepC _ rfl ?_ ?_;rotate_left 1
 ·have z1496z:=@aa _ @Fm;exact jw
 refine' Grow.stepC _ rfl ?_ ?_;rotate_left 1
 ·have z1443z:=@aa _ @F9;exact gH
 refine' Grow.stepC _ rfl ?_ ?_;rotate_left 1
 ·exact Of
 refine' Grow.stepC _ rfl ?_ ?_;rotate_left 1
 ·have z1447z:=@aa _ @F6;exact gG
 refine' Grow.stepC _ rfl ?_ ?_;rotate_left 1
 ·have z1499z:=@aa _ @Fk;exact ju
 refine' Grow.stepC _ rfl ?_ ?_;rotate_left 1
 ·refine Obl.plain rfl ?_;intro ac wg K hsz hW hf hK;clear hsz;have e37:=hf 37 ag;simp[aj,Yf] at e37;clear hf;have c7:=(ai hW HYB2.out).trans HYW.out;exact aL
 refine Grow.step (afZ W (wo (λs:ByteArray=>s) y.d v.zs)) rfl (afZ.mono W (wo (λs:ByteArray=>s) y.d v.zs)) ?_ ?_
 ·have z1491z:=@aa _ @Fq;exact jx
 refine' Grow.stepC _ rfl ?_ ?_;rotate_left 1
 ·have z1548z:=@aa _ @aL;exact rP
 refine' Grow.stepC _ rfl ?_ ?_;rotate_left 1
 ·exact Oh
 have z1656z:=@aa _ @Dm;exact du):p:=h
theorem H8(h:p:=by
 clear hi hz0 hz1 hz2 hr;go_enter Tryz.func116,Tryz.ntmps116;go_wp2;go_loopw [5,6] (λvo vi wr=> ∃k n:Nat,k<=len/\n<=k/\vi=Y4 Y5 k/\Hid (wr.ownsRow w.heap.size 9 1 vo n ((wo (λs:ByteArray=>s) t (zs.take k)).map Yn))/\Hid (Below w.heap.size w wr)) (λ_ vi _=>len - (intOf vi).toNat);case atStart=>exact⟨0,0,by omega,by omega,rfl,⟨rfl,Zb ⟨w.heap.size,0,#[],rfl,Ye _,heap_alloc_new _ _,Ye _,by unfold maxLen;omega,rfl,rfl⟩⟩,ak _ _⟩
 case round=>
  obtain⟨k,n,hk,hn,rfl,HO,HB⟩:=hrel;have hBs:=HB.size;by_cases hlt:k<len
  ·have hk1:(k:Int)<len:=af
   obtain⟨b2,o2,s,rfl,hb2,hx2,hc2,hsz2⟩:=(HR.below HB.out).at hlt;have HXT:=aa hx2;clear hx2 hsz2;by_cases he:s=t
   ·have hq:(s.toList==t.toList)=Y_:=by rw[he];simp
    have HO3:=HO;rw[<-af7 (nm:=λs:ByteArray=>s) HXT.out hq] at HO3;have HE:=aa he;clear he;go_wp2;exact⟨⟨k+1,n,by omega,by omega,by go_num,HO3,HB⟩,by simp[intOf];omega⟩
   ·have hq:(s.toList==t.toList)=Y8:=by cases h:(s.toList==t.toList);rfl;exact absurd (dp h) he
    have HE:=aa he;clear he;go_wp2_with (first|(at_builtin;refine wpList_append_own _ rfl _ _ 36 rfl w.heap.size 9 i0 (I ⟨#[]⟩) 1 16 Tryz.underlying36 HI0.1 HI0.2.1 HI0.2.2.1 HI0.2.2.2 rfl ag _ _ _ rfl (HO.alloc _) ⟨wr.heap.size,0,U⟩ 1 1 [I s] rfl rfl ?c1 ?c2 ?c3 ?c4 ?c5 ?_));case c1=>
     exact Po
    case c2=>intro u hu;rw[List.mem_singleton.1 hu];rfl
    case c3=>unfold maxLen;omega
    case c4=>omega
    case c5=>simp;omega
    rintro v' w3 hown3 hgrow -;have HO3:Hid (w3.ownsRow w.heap.size 9 1 v' (n+1) ((wo (λs:ByteArray=>s) t (zs.take (k+1))).map Yn)):=by
     show World.ownsRow _ _ _ _ _ _ _;rw[uJ (nm:=λs:ByteArray=>s) HXT.out hq,List.map_append];exact hown3
    have HB3:=aa ((HB.trans ((ak _ _).mono hBs)).grown hgrow bJ (λg hg=>by have:=(HO.lt g hg).1;omega));clear hown3 hgrow;go_wp2;exact⟨⟨k+1,n+1,by omega,by omega,by go_num,HO3,HB3⟩,by simp[intOf];omega⟩
  ·have hkl:k=len:=af
   have hk1:¬(k:Int)<len:=af
   have HO3:=HO;rw[YH af] at HO3;obtain⟨a',p',rfl,hT⟩:=bN.fk HO3.out (QT HR.out);have HTO:=aa hT;clear HO3 hT HO;go_wp2;go_ret;exact⟨_,_,_,rfl,HTO.out,HB.out⟩):p:=h
theorem Hk(h:p:=by
 obtain⟨x1,m1,n1,x2,m2,n2,x3,m3,n3,x4,m4,n4,x5,m5,n5⟩:=d';have hm3:l3=m3:=by have h6:(c.vs.map vdF).length=m3:=ho.v.1;rw[Yr] at h6;omega
 subst hm3;have HO:=aa ho;have HY:Hid (Bw w2 w2):=Bw.refl _;clear ho;have z1147z:=@aa _ @K8;exact bI):p:=h
theorem GQ(h:p:=by
 have HC0:=aa (λq:Wd wr=>xw ⟨a1,l1,y1,a2,l2,y2,a3,l3,y3,a4,l4,y4,a5,l5,y5⟩ c y i j v n q.w (HR.below (HW.trans (q.b.mono HW.size))) HT.out HV0.out HVN.out HNJ.1 HNJ.2 Y_ ⟨λ_=>HCB.out,λ_=>rfl⟩);have z53z:=@aa _ @ae3;exact aC):p:=h
theorem GO(h:p:=by
 have HC0:=aa (λq:Wd wr=>xw ⟨a1,l1,y1,a2,l2,y2,a3,l3,y3,a4,l4,y4,a5,l5,y5⟩ c y i j v n q.w (HR.below (HW.trans (q.b.mono HW.size))) HT.out HV0.out HVN.out HNJ.1 HNJ.2 Y8 ⟨λh=>bY,λh=>absurd h HCB.out⟩);have z53z:=@aa _ @ae2;exact aC):p:=h
theorem sd(h:p:=by
 obtain⟨k0,k1,k2,k3,k4,k5⟩:=cs6 Bk;have ltk_4:=ae Bk.out;obtain⟨o0,o1,o2,o3,o4,o5⟩:=cs6 Bo;have lto_4:=ae Bo.out;go_wp2_with fail;clear k0 k1 k2 k3 k4 k5 ltk_4 o0 o1 o2 o3 o4 o5 lto_4;have Gk:=Bk;have Gr:=Br;have Go:=Bo;have HW:=HB;obtain⟨k0,k1,k2,k3,k4,k5⟩:=sl6 Gk;have yn:=λq:Wd wr=>(q.cell hbl).trans hc0;have yd:=λq:Wd wr=>(q.cell hbl).trans hc1;have hne0:=Wd.ne wr;exact z1413z):p:=h
theorem GJ(h:p:=by
 replace d7:=(ai hbg HBL.out).trans d7;exact aL):p:=h
theorem r_(h:p:=by
 have hbg:=HBW.trans (hW.mono HBW.size);replace d0:=(ai hbg HBL.out).trans d0;replace d1:=(ai hbg HBL.out).trans d1;replace d2:=(ai hbg HBL.out).trans d2;replace d3:=(ai hbg HBL.out).trans d3;replace d4:=(ai hbg HBL.out).trans d4;replace d5:=(ai hbg HBL.out).trans d5;replace d6:=(ai hbg HBL.out).trans d6;exact z1419z):p:=h
theorem Gm(h:p:=by
 obtain⟨p0,p1,p2,p3,p4,p5,p6,p7⟩:=cs8 Bp;have ltp_3:=ae Bp.out;obtain⟨x0,x1⟩:=cs2 Bx;have ltx_3:=ae Bx.out;go_wp2_with fail;refine (nZ ca cl cc ys ⟨x.n,t⟩ (w.heap.size+1) _ (HQ.1.below HY2.out) (by have:=HY2.le;omega) af HZx0.out HZT.out).mono ?_;rintro e w4 ⟨sa,sl,sc,zs2,rfl,ho2,hp2,hb3⟩;clear k0 k1 k2 k3 k4 k5 ltk_3 p0 p1 p2 p3 p4 p5 p6 p7 ltp_3 x0 x1 ltx_3;have z1646z:=@aa _ @Dz;exact lX):p:=h
theorem Gl(h:p:=by
 obtain⟨p0,p1,p2,p3,p4,p5,p6,p7⟩:=cs8 Bp;have ltp_3:=ae Bp.out;obtain⟨x0,x1⟩:=cs2 Bx;have ltx_3:=ae Bx.out;have z1697z:=@aa _ @CQ;exact ri):p:=h
theorem Gj(h:p:=by
 obtain⟨o0,o1,o2,o3,o4,o5⟩:=cs6 Bo;have lto_3:=ae Bo.out;go_wp2_with fail;clear k0 k1 k2 k3 k4 k5 ltk_3 o0 o1 o2 o3 o4 o5 lto_3;have HB3:=HY;have Gk:=Bk;have Gr:=Br;have Go:=Bo;have HW:=HB;obtain⟨k0,k1,k2,k3,k4,k5⟩:=sl6 Gk;have yn:=λq:Wd w3=>(q.cell hbl).trans hy0;have hne0:=Wd.ne w3;have HC0:=aa (λq:Wd w3=>ed ⟨a1,l1,y1,a2,l2,y2,a3,l3,y3,a4,l4,y4,a5,l5,y5⟩ c.now c.vs y.n q.w (HR.v.below (HW.trans (q.b.mono HW.size))) HT.2.1.2.2.1.2.2 HV0.out HVN.out);have z53z:=@aa _ @ae4;exact aC):p:=h
theorem F9(h:p:=by
 clear hf;have c7:=(ai hW HB3B.out).trans HC7.out;exact aL):p:=h
theorem F7(h:p:=by
 have e40:=hf 40 ag;simp[aj,Yf] at e40;clear hf;go_simp;refine (uV ⟨a1,l1,y1,a2,l2,y2,(Y3 ⟨b3,o3,U⟩),l3,y3,a4,l4,y4,(Y3 ⟨b,o,U⟩),l5,y5⟩ c t _ (HR.below (HB.trans (hW.mono HB.size))) HT.out HVJ.out HBD.out).mono ?_;rintro e w6 ⟨rfl,hb6⟩;exact hK _ _ hb6 rfl):p:=h
theorem F6(h:p:=by
 clear hf;exact aL):p:=h
theorem FO(h:p:=by
 obtain⟨b3,o3,v',e3,hb3,hx3,hat⟩:=cj (HR.v.below HB.out) hi3;have e3':a3=Y3 ⟨b3,o3,U⟩:=e3;subst e3';rw[HV0.out] at hx3;obtain rfl:=Yd hx3;obtain⟨va,vl,vc,hvr,-,-,-,-,-,-,-,-,-,-,-,hc7⟩:=bh hat;have HC7:=aa hc7;have HVR:=aa hvr;have HB3B:=aa hb3;have hvl64:vl<=64:=by have h1:v.zs.length=vl:=HVR.1;omega
 have HEB2:Hid (w2.heap.size<b):=HEB.out b o rfl he0;have hil3:(i:Int)<l3:=af
 have hii0:¬(i:Int)<0:=af
 clear hd3 hgb hgc hgt hat hx3 hc7 hvr hb3;obtain⟨W,hW0⟩:∃W,W=q1.w:=⟨_,rfl⟩;rw[<-hW0] at HB HY Bk Br Bo HC7 HVR HB3B;have HYW:Hid (W.cell? ⟨b,o+1,U⟩=Y3 (I y.d)):=by
  rw[hW0];exact (q1.cell HYB.out).trans HY1.out
 have HYV:Hid (W.cell? ⟨b,o,U⟩=Y3 (I y.n)):=by
  rw[hW0];exact (q1.cell HYB.out).trans HYN.out
 have HYB2:Hid (b<W.heap.size):=by rw[hW0];exact Yj HYB.out q1.b.size
 go_wp2_with fail;rw[<-hW0];clear hW0;have z1301z:=@aa _ @IW;exact jC):p:=h
theorem FN(h:p:=by
 have HGT:=aa hgt;have hgl64:gl<=64:=by have h1:v.zs.length=gl:=hgt.1;have:=(HT.on HV0.out).1;omega
 have hil3:(i:Int)<l3:=af
 have hii0:¬(i:Int)<0:=af
 clear hd3 hgb hgc hgt;obtain⟨W,hW0⟩:∃W,W=q2.w:=⟨_,rfl⟩;rw[<-hW0] at HB HY Bk Br Bo;have HYW:Hid (W.cell? ⟨b,o+k*2+1,U⟩=Y3 (I y.d)):=by
  rw[hW0];exact (q2.cell HYB3.out).trans HY12.out
 have HYV:Hid (W.cell? ⟨b,o+k*2,U⟩=Y3 (I y.n)):=by
  rw[hW0];exact (q2.cell HYB3.out).trans HYN2.out
 have HYB2:Hid (b<W.heap.size):=by rw[hW0];exact Yj HYB3.out q2.b.size
 replace HEB2:Hid (w2.heap.size<b):=by have h1:=HEB2.out;have h2:=HQ3.out;show _<_;omega
 go_wp2_with fail;rw[<-hW0];clear hW0;rename_i K0 hK0;refine Gt.bG ba rfl rfl ba ?_;refine' Grow.stepC _ rfl ?_ ?_;rotate_left 1
 ·exact ko
 refine' Grow.stepC _ rfl ?_ ?_;rotate_left 1
 ·refine Obl.plain rfl ?_;intro ac wg K hsz hW hf hK;clear hsz;have e70:=hf 70 ag;simp[aj,Yf] at e70;exact vy
 refine' Grow.stepC _ rfl ?_ ?_;rotate_left 1
 ·exact kj
 refine' Grow.stepC _ rfl ?_ ?_;rotate_left 1
 ·exact ko
 refine' Grow.stepC _ rfl ?_ ?_;rotate_left 1
 ·refine Obl.plain rfl ?_;intro ac wg K hsz hW hf hK;clear hsz;have e73:=hf 73 ag;simp[aj,Yf] at e73;exact vy
 refine' Grow.stepC _ rfl ?_ ?_;rotate_left 1
 ·exact kj
 refine' Grow.stepC _ rfl ?_ ?_;rotate_left 1
 ·refine Obl.plain rfl ?_;intro ac wg K hsz hW hf hK;clear hsz;have e74:=hf 74 ag;simp[aj,Yf] at e74;have e75:=hf 75 ag;simp[aj,Yf] at e75;clear hf;exact aL
 refine' Grow.stepC _ rfl ?_ ?_;rotate_left 1
 ·refine Obl.plain rfl ?_;intro ac wg K hsz hW hf hK;clear hsz;have e76:=hf 76 ag;simp[aj,Yf] at e76;clear hf;exact aL
 refine' Grow.stepC _ rfl ?_ ?_;rotate_left 1
 ·refine Obl.plain rfl ?_;intro ac wg K hsz hW hf hK;clear hsz;have e77:=hf 77 ag;simp[aj,Yf] at e77;clear hf;have c7:wg.cell? ⟨g,i*8+7,U⟩=Y3 (J ga gl gp):=(an (((HY.out.trans (hW.mono HY.le)).block g hgs).trans HGB.out) _).trans HGC.out;exact aL
 refine' Grow.stepC _ rfl ?_ ?_;rotate_left 1
 ·exact km
 refine' Grow.stepC _ rfl ?_ ?_;rotate_left 1
 ·exact vA
 refine' Grow.stepC _ rfl ?_ ?_;rotate_left 1
 ·refine Obl.plain rfl ?_;intro ac wg K hsz hW hf hK;clear hsz;have e79:=hf 79 ag;simp[aj,Yf] at e79;have e80:=hf 80 ag;simp[aj,Yf] at e80;clear hf;exact aL
 refine' Grow.stepC _ rfl ?_ ?_;rotate_left 1
 ·refine Obl.plain rfl ?_;intro ac wg K hsz hW hf hK;clear hsz;have e81:=hf 81 ag;simp[aj,Yf] at e81;clear hf;exact aL
 refine' Grow.stepC _ rfl ?_ ?_;rotate_left 1
 ·refine Obl.plain rfl ?_;intro ac wg K hsz hW hf hK;clear hsz;have e82:=hf 82 ag;simp[aj,Yf] at e82;clear hf;have c7:=(ai hW HYB2.out).trans HYW.out;exact aL
 refine Grow.step (afW W y.d v.zs) rfl (afW.mono W y.d v.zs) ?_ ?_
 ·refine Obl.plain rfl ?_;intro ac wg K hsz hW hf hK;clear hsz;have e78:=hf 78 ag;simp[aj,Yf] at e78;have e83:=hf 83 ag;simp[aj,Yf] at e83;clear hf;go_simp;refine (AH ga gl gp v.zs y.d _ (HGT.below (HY.out.trans (hW.mono HY.le))) hgl64 HZD.out).mono ?_;rintro e w6 ⟨sa,sl,sc,ys,rfl,-,hput,how,hb6⟩;have hs6:=hW.size;rcases how with how|how
  ·exact absurd how HCN.out
  exact hK _ _ hb6 ⟨sa,sl,sc,ys,rfl,how.az (λ_ _ _=>rfl) (λk _ s=>by have s1:wg.heap.size<=k:=s;show W.heap.size<=k;omega),hput⟩
 refine' Grow.stepC _ rfl ?_ ?_;rotate_left 1
 ·refine Obl.plain rfl ?_;intro ac wg K hsz hW hf hK;clear hsz;have e71:=hf 71 ag;simp[aj,Yf] at e71;have e72:=hf 72 ag;simp[aj,Yf] at e72;clear hf;exact aL
 refine' Grow.stepC _ rfl ?_ ?_;rotate_left 1
 ·refine Obl.plain rfl ?_;intro ac wg K hsz hW hf hK;clear hsz;have e85:=hf 85 ag;simp[aj,Yf] at e85;clear hf;exact aL
 have z1656z:=@aa _ @Dl;exact du):p:=h
theorem rX(h:p:=by
 have HY:=CHY;clear CHY;have Bk:=Ck;clear Ck;have Br:=Cr;clear Cr;have Bo:=Co;clear Co;obtain⟨g,cs,hd3,hgB,hgb,ga,gl,gp,hgc,hgt⟩:=HO.amp HV0.out;have hd3':x3=Y3 ⟨g,0,U⟩:=hd3;subst hd3';have hgs:g<w2.heap.size:=ae hgb;have HGB:=aa hgb;have HGC:=aa hgc;exact z1464z):p:=h
theorem Ft(h:p:=by
 have e35:=hf 35 ag;simp[aj,Yf] at e35;clear hf;have hj0:¬(n:Int)<0:=af
 exact aL):p:=h
theorem Fs(h:p:=by
 have e41:=hf 41 ag;simp[aj,Yf] at e41;clear hf;have hj0:¬(j:Int)<0:=af
 have hj2:(j:Int)<l3:=af
 exact aL):p:=h
theorem Fq(h:p:=by
 have e38:=hf 38 ag;simp[aj,Yf] at e38;clear hf;go_simp;refine (BK va vl vc v.zs y.d _ (HVR.below hW) hvl64).mono ?_;rintro e w6 ⟨sa,sl,sc,rfl,ho6,hb6⟩;have hs6:=hW.size;exact hK _ _ hb6 ⟨sa,sl,sc,rfl,ho6.az (λ_ _ _=>rfl) (λk _ s=>by have s1:wg.heap.size<=k:=s;show W.heap.size<=k;omega)⟩):p:=h
theorem jx(h:p:=by
 refine Obl.plain rfl ?_;intro ac wg K hsz hW hf hK;clear hsz;have e34:=hf 34 ag;simp[aj,Yf] at e34;exact z1491z):p:=h
theorem Fo(h:p:=by
 have e47:=hf 47 ag;simp[aj,Yf] at e47;clear hf;go_simp;refine (nZ ca cl cc ys ⟨v.n,x.d⟩ (w.heap.size+1) _ (HQ.1.below hW) (by have:=hW.size;omega) af HZ0.out HZD.out).mono ?_;rintro e w6 ⟨sa,sl,sc,zs2,rfl,ho2,hp2,hb6⟩;exact hK _ _ hb6 ⟨sa,sl,sc,zs2,rfl,ho2,hp2⟩):p:=h
theorem Fm(h:p:=by
 clear hf;exact aL):p:=h
theorem Fl(h:p:=by
 clear hf;have tc:=(ai hW HTC.1).trans HTC.2;exact aL):p:=h
theorem Fk(h:p:=by
 clear hf;exact aL):p:=h
theorem ju(h:p:=by
 refine Obl.plain rfl ?_;intro ac wg K hsz hW hf hK;clear hsz;have e36:=hf 36 ag;simp[aj,Yf] at e36;exact z1499z):p:=h
theorem E_(h:p:=by
 go_wp2;go_ret;exact⟨_,_,_,ys,rfl,HQ.1,HQ.2.1,by rw[hl5,<-hkl];exact HQ.2.2.1,by have:=HQ.2.2.2;omega,HB.out⟩):p:=h
theorem E9(h:p:=by
 go_wp2;clear k0 k1 k2 k3 k4 k5 ltk_0;clear c0 c1 c2 c3 c4 c5 hbw;go_loopw [3,6] (λvo vi wr=> ∃(n:Nat) (ca:Option Addr) (cl cc:Nat) (ys:List Qd),n<=vl/\(x.d=⟨#[]⟩->n=0)/\vi=Y4 Y5 n/\vo=J ca cl cc/\Hid (aw wr ca cl cc 2 132 (ys.map qdF) (λj=>w.heap.size+1<=j)/\RQ ys/\(∀q,q∈ys↔Wn c k q\/Wc c x n q)/\ys.length<=3*k+n)/\Hid (Below (W1.heap.size+1) (W1.alloc (Y6 #[I x.n,Y4 Y5 x.c,I x.z,J va vl vc,I x.d,Y4 Y5 x.p] 40)) wr)) (λ_ vi _=>vl - (intOf vi).toNat);case atStart=>exact⟨0,_,_,_,ys,by omega,λ_=>rfl,rfl,rfl,⟨HQ.1.below (ak _ _),HQ.2.1,λq=>by rw[HQ.2.2.1];exact⟨Zc,λh=>h.elim id (λ⟨i,t,v,h,_⟩=>by omega)⟩,by have:=HQ.2.2.2;omega⟩,Yh _ _⟩
 case round=>
  clear HQ;obtain⟨n,ca,cl,cc,ys,hn,hn0,rfl,rfl,HQ,HL2⟩:=hrel;have hbP:Below W1.heap.size W1 wr:=(ak W1 (Y6 (pov x va vl vc) 40)).trans (HL2.mono af);have Bp:=aa ((HL2.block W1.heap.size af).trans (heap_alloc_new W1 (Y6 (pov x va vl vc) 40)));replace Bk:=upK Bk hbP;replace HB:=upB HB hbP;have HBP:=aa hbP;have hs2:=hbP.size;have hyl:ys.length=cl:=by have h9:(ys.map qdF).length=cl:=HQ.1.1;rw[Yr] at h9;exact h9
  have hyb:=HQ.2.2.2;clear hbP;by_cases he:x.d=⟨#[]⟩
  ·obtain rfl:=hn0 he;have hq:=cN he;have HHE:=aa he;clear he;obtain⟨p0,p1,p2,p3,p4,p5⟩:=cs6 Bp;have ltp_0:=ae Bp.out;go_wp2;all_goals (
    refine⟨⟨k+1,ca,cl,cc,ys,by omega,by go_num,rfl,⟨HQ.1,HQ.2.1,λq=>?_,by omega⟩,HL.trans (HBP.mono af)⟩,by simp[intOf];omega⟩;rw[HQ.2.2.1,Wn.no HXx.out HHE.out]
    exact⟨λh=>h.elim id (λ⟨i,t,v,h,_⟩=>by omega),Zc⟩)
  have hq:=aX he;have HHE:=aa he;clear he hn0;by_cases hlt2:n<vl
  ·have hk3:(n:Int)<vl:=af
   obtain⟨b2,o2,t,rfl,hb2,hx2,hc2,hsz2⟩:=(HTx.below HBP.out).at hlt2;have HXT:=aa hx2;obtain⟨v,hbd⟩:∃v,aY c t v:=by
    obtain⟨i9,n9,_,_,_,h9⟩:=(HT.2.2.2.1.1 k x HXx.out).2.resolve_left HHE.out;obtain⟨v,hv,_⟩:=h9 n t hx2;exact⟨v,hv⟩
   obtain⟨i9,j,x9,h91,h92,hv,h94⟩:=hbd;have hbd:aY c t v:=⟨i9,j,x9,h91,h92,hv,h94⟩;have HVJ:=aa hv;have HBD:=aa hbd;clear h91 h92 h94 hbd hx2 hsz2;have hj3:j<l3:=by have:=(Yc.1 hv).1;omega
   obtain⟨b3,o3,y,rfl,hb3,hy,hat⟩:=cj (HR.v.below HB.out) hj3;rw[hv] at hy;obtain rfl:=Yd hy;obtain⟨ya,yl,yc,-,hz0,-,-,-,hc3,-,-,-,-,-,-,-⟩:=bh hat;have HTC:=aa (Yb hb2 hc2);have HVC:=aa (Yb hb3 hc3);have HZ0:=aa hz0;have HZD:Hid (x.d.size<=9223372036854775807):=HZx4.out;clear hv hy hat hb2 hc2 hb3 hc3 hz0;have z1507z:=@aa _ @E8;exact dG
  have hk3:¬(n:Int)<vl:=af
  have hnv:n=vl:=af
  obtain⟨p0,p1,p2,p3,p4,p5⟩:=cs6 Bp;have ltp_0:=ae Bp.out;have z1737z:=@aa _ @Cb;exact re):p:=h
theorem E8(h:p:=by
 obtain⟨p0,p1,p2,p3,p4,p5⟩:=cs6 Bp;have ltp_0:=ae Bp.out;go_wp2_with fail;clear k0 k1 k2 k3 k4 k5 ltk_0 p0 p1 p2 p3 p4 p5 ltp_0;have z1243z:=@aa _ @JE;exact gJ):p:=h
theorem E7(h:p:=by
 obtain⟨x0,x1⟩:=cs2 Bx;have ltx_0:=ae Bx.out;obtain⟨n0,n1,n2,n3,n4,n5,n6⟩:=cs7 Bn;have ltn_0:=ae Bn.out;go_wp2_with fail;exact z1295z):p:=h
theorem E4(h:p:=by
 go_wp2;go_ret;exact ar.f (λh=>h.1 (HI.1 bX)) HB.out):p:=h
theorem E3(h:p:=by
 go_wp2;go_ret;exact ar.f (λh=>h.2.1 ⟨HX.out,by omega⟩) HB.out):p:=h
theorem E2(h:p:=by
 go_wp2_with fail;have hn9:=(ai HB.out HNS.1).trans HNS.2;clear k0 k1 k2 k3 k4 k5 ltk_1 x0 x1 ltx_1 v0 v1 v2 v3 v4 v5 v6 v7 ltv_1;have Gk:=Bk;have Gx:=Bx;have Gv:=Bv;have HW:=HB;obtain⟨k0,k1,k2,k3,k4,k5⟩:=sl6 Gk;obtain⟨x0,x1⟩:=sl2 Gx;obtain⟨v0,v1,v2,v3,v4,v5,v6,v7⟩:=sl8 Gv;obtain⟨ns,hne0,HC0,HC1⟩:=akW;exact z870z):p:=h
theorem mw(h:p:=by
 obtain⟨x0,x1⟩:=cs2 Bx;have ltx_1:=ae Bx.out;obtain⟨v0,v1,v2,v3,v4,v5,v6,v7⟩:=cs8 Bv;have ltv_1:=ae Bv.out;exact z1520z):p:=h
theorem EX(h:p:=by
 have tc:=(ai hW HTC.1).trans HTC.2;exact aL):p:=h
theorem EE(h:p:=by
 clear hf;have c7:=(ai hW HYB5.out).trans HYV5.out;exact aL):p:=h
theorem EC(h:p:=by
 have e47:=hf 47 ag;simp[aj,Yf] at e47;clear hf;exact aL):p:=h
theorem EB(h:p:=by
 clear hf;exact aL):p:=h
theorem Ez(h:p:=by
 clear hf;have c7:=(ai hW HYB5.out).trans HYV5.out;exact aL):p:=h
theorem Eu(h:p:=by
 have e31:=hf 31 ag;simp[aj,Yf] at e31;clear hf;exact aL):p:=h
theorem Es(h:p:=by
 clear hf;exact aL):p:=h
theorem Ek(h:p:=by
 have e10:=hf 10 ag;simp[aj,Yf] at e10;clear hf;go_simp;refine (fu ⟨(Y3 ⟨b,o,U⟩),l1,y1,a2,l2,y2,a3,l3,y3,a4,l4,y4,a5,l5,y5⟩ c.now c.ns x.d _ (HR.n.below (HBW.trans (hW.mono HBW.size))) HT.2.1.1.2.2 HN.out HNN.out).mono ?_;rintro e w6 ⟨rfl,hb6⟩;exact hK _ _ hb6 rfl):p:=h
theorem D4(h:p:=by
 have HH:=aa hh;clear hh;have z475z:=@aa _ @aak;exact cC):p:=h
theorem D3(h:p:=by
 clear hg;have z475z:=@aa _ @aaj;exact cC):p:=h
theorem rF(h:p:=by
 clear k0 k1 k2 k3 k4 k5 ltk_0 x0 x1 ltx_0 n0 n1 n2 n3 n4 n5 n6 ltn_0;replace Bk:=upK Bk hb;replace Bx:=upK Bx hb;replace Bn:=upK Bn hb;replace HB:=upB HB hb;clear hb;exact z1606z):p:=h
theorem DS(h:p:=by
 rintro e w2 ⟨d',rfl,ho,hb⟩;have HQ2:=aa hb.size;have HQ1:=aa (ae Br.out);clear k0 k1 k2 k3 k4 k5 ltk_1;have z1388z:=@aa _ @Hk;exact bj):p:=h
theorem fy(h:p:=by
 have HLO:=aa HB.size;refine (dd ⟨a1,l1,y1,a2,l2,y2,a3,l3,y3,a4,l4,y4,a5,l5,y5⟩ c _ (HR.below HB.out) HT.sm).mono ?_;exact z1624z):p:=h
theorem DB(h:p:=by
 have HI:=aa hi;clear hi;cases r
 ·have z1429z:=@aa _ @Gl;exact dH
 have HMO:Hid (Mof c x t):=(Mof.iff HT.2.1.1.2.2 HJ.out HJN.out).2 (HI.1 bX);clear HI;have z1429z:=@aa _ @Gm;exact dH):p:=h
theorem DA(h:p:=by
 have HI:=aa hi;clear hi;cases r;rotate_left
 ·have z828z:=@aa _ @Tj;exact cB
 have HNW:Hid (¬Wnt c x t):=λh=>by have h9:=HI.2 ((HMW.out _).2 ((BG HT.out HXx.out HTN.out).2 h));cases h9
 clear HI;have z828z:=@aa _ @Tk;exact cB):p:=h
theorem Dz(h:p:=by
 have HP2:=aa hp2;have HO2:=aa ho2;clear hp2 ho2;have z1193z:=@aa _ @Kp;exact ee):p:=h
theorem lX(h:p:=by
 replace Bk:=upK Bk hb3;replace Bp:=upK Bp hb3;replace Bx:=upK Bx hb3;replace HY2:=aa (HY2.below hb3);replace HOW:=aa (HOW.below hb3);replace HB:=upB HB hb3;clear hb3;exact z1646z):p:=h
theorem Dp(h:p:=by
 obtain⟨⟨b9,h5,hb9,hg9⟩,h13,-⟩:=hf;have g0:=hg9;have g1:(wz.setCell ⟨b9,0,U⟩ (I n.n)).heap[b9]?=Y3 (Y6 #[I n.n,I ⟨#[]⟩,Y4 Y5 0,Y4 Y5 0,Y4 Y5 0,Y7 Y8,J U 0 0] 38 (0,0)):=au g0 _;have g2:((wz.setCell ⟨b9,0,U⟩ (I n.n)).setCell ⟨b9,1,U⟩ (I n.z)).heap[b9]?=Y3 (Y6 #[I n.n,I n.z,Y4 Y5 0,Y4 Y5 0,Y4 Y5 0,Y7 Y8,J U 0 0] 38 (0,0)):=au g1 _;have g3:(((wz.setCell ⟨b9,0,U⟩ (I n.n)).setCell ⟨b9,1,U⟩ (I n.z)).setCell ⟨b9,2,U⟩ (Y4 Y5 n.c)).heap[b9]?=Y3 (Y6 #[I n.n,I n.z,Y4 Y5 n.c,Y4 Y5 0,Y4 Y5 0,Y7 Y8,J U 0 0] 38 (0,0)):=au g2 _;have g4:((((wz.setCell ⟨b9,0,U⟩ (I n.n)).setCell ⟨b9,1,U⟩ (I n.z)).setCell ⟨b9,2,U⟩ (Y4 Y5 n.c)).setCell ⟨b9,3,U⟩ (Y4 Y5 n.s)).heap[b9]?=Y3 (Y6 #[I n.n,I n.z,Y4 Y5 n.c,Y4 Y5 n.s,Y4 Y5 0,Y7 Y8,J U 0 0] 38 (0,0)):=au g3 _;have g5:(((((wz.setCell ⟨b9,0,U⟩ (I n.n)).setCell ⟨b9,1,U⟩ (I n.z)).setCell ⟨b9,2,U⟩ (Y4 Y5 n.c)).setCell ⟨b9,3,U⟩ (Y4 Y5 n.s)).setCell ⟨b9,4,U⟩ (Y4 Y5 n.u)).heap[b9]?=Y3 (Y6 #[I n.n,I n.z,Y4 Y5 n.c,Y4 Y5 n.s,Y4 Y5 n.u,Y7 Y8,J U 0 0] 38 (0,0)):=au g4 _;have g6:((((((wz.setCell ⟨b9,0,U⟩ (I n.n)).setCell ⟨b9,1,U⟩ (I n.z)).setCell ⟨b9,2,U⟩ (Y4 Y5 n.c)).setCell ⟨b9,3,U⟩ (Y4 Y5 n.s)).setCell ⟨b9,4,U⟩ (Y4 Y5 n.u)).setCell ⟨b9,5,U⟩ (Y7 n.d)).heap[b9]?=Y3 (Y6 (nov n U 0 0) 38 (0,0)):=au g5 _;have g7:(((((((wz.setCell ⟨b9,0,U⟩ (I n.n)).setCell ⟨b9,1,U⟩ (I n.z)).setCell ⟨b9,2,U⟩ (Y4 Y5 n.c)).setCell ⟨b9,3,U⟩ (Y4 Y5 n.s)).setCell ⟨b9,4,U⟩ (Y4 Y5 n.u)).setCell ⟨b9,5,U⟩ (Y7 n.d)).setCell ⟨b9,6,U⟩ (J va vl vc)).heap[b9]?=Y3 (Y6 (nov n va vl vc) 38 (0,0)):=au g6 _;obtain⟨t0,t1,t2,t3,t4,t5,t6⟩:=cs7 hg9;have f0:=al hg9 0;have f1:=al hg9 1;have f2:=al hg9 2;have f3:=al hg9 3;have f4:=al hg9 4;have f5:=al hg9 5;have f6:=al hg9 6;have Bn:=aa g7;have HWX:Hid (Below W.heap.size W (((((((wz.setCell ⟨b9,0,U⟩ (I n.n)).setCell ⟨b9,1,U⟩ (I n.z)).setCell ⟨b9,2,U⟩ (Y4 Y5 n.c)).setCell ⟨b9,3,U⟩ (Y4 Y5 n.s)).setCell ⟨b9,4,U⟩ (Y4 Y5 n.u)).setCell ⟨b9,5,U⟩ (Y7 n.d)).setCell ⟨b9,6,U⟩ (J va vl vc))):=ah hb9 (ah hb9 (ah hb9 (ah hb9 (ah hb9 (ah hb9 (ah hb9 (hW)))))));clear g0 g1 g2 g3 g4 g5 g6 g7 hg9;intro K hK;rw[if_pos (by rfl)];simp only[aJ,YQ,Act.put,Ys,YA,YB,h5,h13];have z923z:=@aa _ @R8;exact ia):p:=h
theorem Dn(h:p:=by
 obtain⟨⟨b9,h5,hb9,hg9⟩,h13,-⟩:=hf;have g0:=hg9;have g1:(wz.setCell ⟨b9,0,U⟩ (I v.n)).heap[b9]?=Y3 (Y6 #[I v.n,Y4 Y5 0,I ⟨#[]⟩,I ⟨#[]⟩,Y7 Y8,I ⟨#[]⟩,Y7 Y8,J U 0 0] 95 (0,0)):=au g0 _;have g2:((wz.setCell ⟨b9,0,U⟩ (I v.n)).setCell ⟨b9,1,U⟩ (Y4 Y5 v.c)).heap[b9]?=Y3 (Y6 #[I v.n,Y4 Y5 v.c,I ⟨#[]⟩,I ⟨#[]⟩,Y7 Y8,I ⟨#[]⟩,Y7 Y8,J U 0 0] 95 (0,0)):=au g1 _;have g3:(((wz.setCell ⟨b9,0,U⟩ (I v.n)).setCell ⟨b9,1,U⟩ (Y4 Y5 v.c)).setCell ⟨b9,2,U⟩ (I v.z)).heap[b9]?=Y3 (Y6 #[I v.n,Y4 Y5 v.c,I v.z,I ⟨#[]⟩,Y7 Y8,I ⟨#[]⟩,Y7 Y8,J U 0 0] 95 (0,0)):=au g2 _;have g4:((((wz.setCell ⟨b9,0,U⟩ (I v.n)).setCell ⟨b9,1,U⟩ (Y4 Y5 v.c)).setCell ⟨b9,2,U⟩ (I v.z)).setCell ⟨b9,3,U⟩ (I v.k)).heap[b9]?=Y3 (Y6 #[I v.n,Y4 Y5 v.c,I v.z,I v.k,Y7 Y8,I ⟨#[]⟩,Y7 Y8,J U 0 0] 95 (0,0)):=au g3 _;have g5:(((((wz.setCell ⟨b9,0,U⟩ (I v.n)).setCell ⟨b9,1,U⟩ (Y4 Y5 v.c)).setCell ⟨b9,2,U⟩ (I v.z)).setCell ⟨b9,3,U⟩ (I v.k)).setCell ⟨b9,4,U⟩ (Y7 v.x)).heap[b9]?=Y3 (Y6 #[I v.n,Y4 Y5 v.c,I v.z,I v.k,Y7 v.x,I ⟨#[]⟩,Y7 Y8,J U 0 0] 95 (0,0)):=au g4 _;have g6:((((((wz.setCell ⟨b9,0,U⟩ (I v.n)).setCell ⟨b9,1,U⟩ (Y4 Y5 v.c)).setCell ⟨b9,2,U⟩ (I v.z)).setCell ⟨b9,3,U⟩ (I v.k)).setCell ⟨b9,4,U⟩ (Y7 v.x)).setCell ⟨b9,5,U⟩ (I v.m)).heap[b9]?=Y3 (Y6 #[I v.n,Y4 Y5 v.c,I v.z,I v.k,Y7 v.x,I v.m,Y7 Y8,J U 0 0] 95 (0,0)):=au g5 _;have g7:(((((((wz.setCell ⟨b9,0,U⟩ (I v.n)).setCell ⟨b9,1,U⟩ (Y4 Y5 v.c)).setCell ⟨b9,2,U⟩ (I v.z)).setCell ⟨b9,3,U⟩ (I v.k)).setCell ⟨b9,4,U⟩ (Y7 v.x)).setCell ⟨b9,5,U⟩ (I v.m)).setCell ⟨b9,6,U⟩ (Y7 v.y)).heap[b9]?=Y3 (Y6 (vov v U 0 0) 95 (0,0)):=au g6 _;have g8:((((((((wz.setCell ⟨b9,0,U⟩ (I v.n)).setCell ⟨b9,1,U⟩ (Y4 Y5 v.c)).setCell ⟨b9,2,U⟩ (I v.z)).setCell ⟨b9,3,U⟩ (I v.k)).setCell ⟨b9,4,U⟩ (Y7 v.x)).setCell ⟨b9,5,U⟩ (I v.m)).setCell ⟨b9,6,U⟩ (Y7 v.y)).setCell ⟨b9,7,U⟩ (J va vl vc)).heap[b9]?=Y3 (Y6 (vov v va vl vc) 95 (0,0)):=au g7 _;obtain⟨t0,t1,t2,t3,t4,t5,t6,t7⟩:=cs8 hg9;have f0:=al hg9 0;have f1:=al hg9 1;have f2:=al hg9 2;have f3:=al hg9 3;have f4:=al hg9 4;have f5:=al hg9 5;have f6:=al hg9 6;have f7:=al hg9 7;have Bv:=aa g8;have HWX:Hid (Below W.heap.size W ((((((((wz.setCell ⟨b9,0,U⟩ (I v.n)).setCell ⟨b9,1,U⟩ (Y4 Y5 v.c)).setCell ⟨b9,2,U⟩ (I v.z)).setCell ⟨b9,3,U⟩ (I v.k)).setCell ⟨b9,4,U⟩ (Y7 v.x)).setCell ⟨b9,5,U⟩ (I v.m)).setCell ⟨b9,6,U⟩ (Y7 v.y)).setCell ⟨b9,7,U⟩ (J va vl vc))):=ah hb9 (ah hb9 (ah hb9 (ah hb9 (ah hb9 (ah hb9 (ah hb9 (ah hb9 (hW))))))))
 clear g0 g1 g2 g3 g4 g5 g6 g7 g8 hg9;intro K hK;rw[if_pos (by rfl)];simp only[aJ,YQ,Act.put,Ys,YA,YB,h5,h13];simp only[List.getLast];go_simp;refine hK _ _ ?_;refine hK0 _ _ ?_;clear hK hK0 K K0;generalize ((((((((wz.setCell ⟨b9,0,U⟩ (I v.n)).setCell ⟨b9,1,U⟩ (Y4 Y5 v.c)).setCell ⟨b9,2,U⟩ (I v.z)).setCell ⟨b9,3,U⟩ (I v.k)).setCell ⟨b9,4,U⟩ (Y7 v.x)).setCell ⟨b9,5,U⟩ (I v.m)).setCell ⟨b9,6,U⟩ (Y7 v.y)).setCell ⟨b9,7,U⟩ (J va vl vc))=X3 at Bv HWX ⊢;clear t0 f0 t1 f1 t2 f2 t3 f3 t4 f4 t5 f5 t6 f6 t7 f7;have HB3:=aa (HBW.trans (HWX.mono HBW.size));replace Bk:=aa ((HWX.block _ (ae Bk.out)).trans Bk.out);replace Bx:=aa ((HWX.block _ (ae Bx.out)).trans Bx.out);clear HB hW HWX HBW HNC HBL;have HB:=HB3;clear HB3;obtain⟨k0,k1,k2,k3,k4,k5⟩:=cs6 Bk;have ltk_0:=ae Bk.out;obtain⟨x0,x1⟩:=cs2 Bx;have ltx_0:=ae Bx.out;obtain⟨v0,v1,v2,v3,v4,v5,v6,v7⟩:=cs8 Bv;have ltv_0:=ae Bv.out;go_wp2_with fail;refine (bW va vl vc v.zs x.d _ (HV.below HB.out)).mono ?_;rintro e w3 ⟨r,rfl,hi,hb⟩;clear k0 k1 k2 k3 k4 k5 ltk_0 x0 x1 ltx_0 v0 v1 v2 v3 v4 v5 v6 v7 ltv_0;replace Bk:=upK Bk hb;replace Bx:=upK Bx hb;replace Bv:=upK Bv hb;replace HB:=upB HB hb;clear hb;have HI:=aa hi;clear hi;rw[<-HNN.out] at HI;cases r;rotate_left
 ·have z177z:=@aa _ @ad5;exact dx
 have HNI:Hid (¬InL v.zs n.n):=λh=>by have h9:=HI.2 h;cases h9
 clear HI;cases hx:v.x;rotate_left
 ·rw[hx] at Bv;have HX:=aa hx;clear hx;by_cases h0:0<vl
  ·have h1:(0:Int)<vl:=af
   have z177z:=@aa _ @ad4;exact dx
  ·have h1:¬(0:Int)<vl:=af
   have z870z:=@aa _ @SQ;exact xX
 ·rw[hx] at Bv;have HX:=aa hx;clear hx;have z870z:=@aa _ @SP;exact xX):p:=h
theorem Dm(h:p:=by
 obtain⟨h41,h40,h39,h38,h37,h36,h35,h34,h33,h32,h31,h30,h29,h28,h27,h26,-⟩:=hf;obtain⟨sa,sl,sc,hv39,hto⟩:=h39;have HTO:=aa hto;obtain⟨HWZ,hwg,hfz,hcz⟩:=agj;clear hto;intro K hK;rw[if_pos (by rfl)];simp only[aJ,YQ,Act.put,Ys,YA,YB,h41,h40,h38,h37,h36,h35,h34,h33,h32,h31,h30,h29,h28,h27,h26,hv39];have z560z:=@aa _ @W7;exact jl):p:=h
theorem Dl(h:p:=by
 obtain⟨h86,h85,h84,h83,h82,h81,h80,h79,h78,h77,h76,h75,h74,h73,h72,h71,h70,-⟩:=hf;obtain⟨sa,sl,sc,ys,hv84,hto,hput⟩:=h84;have HTO:=aa hto;have HPUT:=aa hput;obtain⟨HWZ,hwg,hfz,hcz⟩:=agj;clear hto hput;intro K hK;rw[if_pos (by rfl)];simp only[aJ,YQ,Act.put,Ys,YA,YB,h86,h85,h83,h82,h81,h80,h79,h78,h77,h76,h75,h74,h73,h72,h71,h70,hv84];have z560z:=@aa _ @W0;exact jl):p:=h
theorem Df(h:p:=by
 generalize ((w5.setCell ⟨b9,0,U⟩ (I x.n)).setCell ⟨b9,1,U⟩ (I t))=X3 at Bx HWX ⊢;clear t0 t1 f0 f1 hW h8 h38;have HY2:Hid (Bw wr X3):=Bw.below (Bw.refl wr) HWX.out;replace HB:=aa (HB.trans (HWX.mono HB.size));replace HOW:=aa (HOW.below HWX.out);replace Bk:=aa ((HWX.block _ (ae Bk.out)).trans Bk.out);replace Bp:=aa ((HWX.block _ (ae Bp.out)).trans Bp.out);clear HWX;have z1176z:=@aa _ @KC;exact dI):p:=h
theorem CR(h:p:=by
 rw[HQ.2.2.1,Xc.no HXT.out (λh=>h.1 ((BG HT.out HXx.out HTN.out).1 ((HMW.out _).1 (HI.1 bX))))]):p:=h
theorem CQ(h:p:=by
 rw[HQ.2.2.1,Xc.no HXT.out (λh=>by have h9:=HI.2 ((Mof.iff HT.2.1.1.2.2 HJ.out HJN.out).1 h.2);cases h9)]):p:=h
theorem ri(h:p:=by
 go_wp2;refine⟨⟨n+1,ca,cl,cc,ys,by omega,by go_num,rfl,⟨HQ.1.below HY2.out,HQ.2.1,λq=>?_,by omega⟩,HL2.trans (HY2.out.mono hs3)⟩,by simp[intOf];omega⟩;exact z1697z):p:=h
theorem CP(h:p:=by
 refine' Grow.stepC _ rfl ?_ ?_;rotate_left 1
 ·exact Of
 refine' Grow.stepC _ rfl ?_ ?_;rotate_left 1
 ·refine Obl.plain rfl ?_;intro ac wg K hsz hW hf hK;clear hsz;have e43:=hf 43 ag;simp[aj,Yf] at e43;clear hf;exact aL
 refine' Grow.stepC _ rfl ?_ ?_;rotate_left 1
 ·exact Og
 refine' Grow.stepC _ rfl ?_ ?_;rotate_left 1
 ·have z1553z:=@aa _ @EE;exact mj
 refine' Grow.stepC _ rfl ?_ ?_;rotate_left 1
 ·refine Obl.plain rfl ?_;intro ac wg K hsz hW hf hK;clear hsz;have e46:=hf 46 ag;simp[aj,Yf] at e46;clear hf;exact aL
 refine' Grow.stepC _ rfl ?_ ?_;rotate_left 1
 ·have z1556z:=@aa _ @EC;exact mi
 refine Grow.done ?_;intro q wy hW hf;simp only[List.forall_mem_cons] at hf;obtain⟨h48,h47,h46,h45,h44,h43,h42,-⟩:=hf;have z1234z:=@aa _ @JP;exact sN):p:=h
theorem CO(h:p:=by
 refine' Grow.stepC _ rfl ?_ ?_;rotate_left 1
 ·exact km
 refine' Grow.stepC _ rfl ?_ ?_;rotate_left 1
 ·exact vA
 refine' Grow.stepC _ rfl ?_ ?_;rotate_left 1
 ·refine Obl.plain rfl ?_;intro ac wg K hsz hW hf hK;clear hsz;have e88:=hf 88 ag;simp[aj,Yf] at e88;have e89:=hf 89 ag;simp[aj,Yf] at e89;clear hf;exact aL
 refine' Grow.stepC _ rfl ?_ ?_;rotate_left 1
 ·refine Obl.plain rfl ?_;intro ac wg K hsz hW hf hK;clear hsz;have e90:=hf 90 ag;simp[aj,Yf] at e90;clear hf;exact aL
 refine' Grow.stepC _ rfl ?_ ?_;rotate_left 1
 ·have z1560z:=@aa _ @Ez;exact mh
 refine' Grow.stepC _ rfl ?_ ?_;rotate_left 1
 ·have z1570z:=@aa _ @Es;exact me
 refine' Grow.stepC _ rfl ?_ ?_;rotate_left 1
 ·refine Obl.plain rfl ?_;intro ac wg K hsz hW hf hK;clear hsz;have e87:=hf 87 ag;simp[aj,Yf] at e87;have e93:=hf 93 ag;simp[aj,Yf] at e93;clear hf;exact aL
 refine Grow.done ?_;intro q wy hW hf;simp only[List.forall_mem_cons] at hf;obtain⟨h94,h93,h92,h91,h90,h89,h88,h87,-⟩:=hf;have z1234z:=@aa _ @JO;exact sN):p:=h
theorem rh(h:p:=by
 clear hfz hcz hwg hn20;go_wp2_with fail;rename_i K0 hK0;refine bG ba rfl rfl ba ?_;refine' Grow.stepC _ rfl ?_ ?_;rotate_left 1
 ·exact ajz
 exact z1700z):p:=h
theorem CE(h:p:=by
 obtain⟨fr0,fr1,fr2,fr3,fr4,fr5,fr6,fr7⟩:=kY;have hrl:w.heap.size+1<w5.heap.size:=ae Br.out;go_wp2;exact bodyPost_ret (v:=Za #[J U 0 0,J U 0 0,J U 0 0,J U 0 0,J U 0 0,Y4 Y5 0,I ⟨#[]⟩,Y4 Y5 6]) (by simp[results,Tryz.results69,go_sem, *]) rfl ⟨ad0,co0 6,rfl,HV.out,(rl0 _ _),sb1 (sb1 (sb1 (sb1 (sb1 (sb1 (sb1 (sb1 (HB.out))))))))⟩):p:=h
theorem Cc(h:p:=by
 rw[HQ.2.2.1,Xn.step HXx.out,hxz,hnv]):p:=h
theorem Cb(h:p:=by
 rw[HQ.2.2.1,Wn.yes HXx.out HHE.out,hxz,hnv]):p:=h
theorem re(h:p:=by
 go_wp2;refine⟨⟨k+1,ca,cl,cc,ys,by omega,by go_num,rfl,⟨HQ.1,HQ.2.1,λq=>?_,by omega⟩,HL.trans (HBP.mono af)⟩,by simp[intOf];omega⟩;exact z1737z):p:=h
theorem B_(h:p:=by
 rintro _ ⟨q1,rfl⟩;have HB4:=upB HW q1.b;obtain⟨Ck,Cr⟩:=er;have Co:=upK Go q1.b;have CHY:=aa ((HY.out).below q1.b);clear hne0 HW HB HC0 k0 k1 k2 k3 k4 k5 yn Gk Gr Go Bk Br Bo HY hy0 hbl;have HB:=HB4;clear HB4;have z1464z:=@aa _ @FO;exact rX):p:=h
theorem B9(h:p:=by
 rintro _ ⟨q2,rfl⟩;have HB6:=upB HW q2.b;have Ck:=upK Gk q2.b;have Cr:=upK Gr q2.b;have Co:=upK Go q2.b;have CHY:=aa ((HY.out).below q2.b);clear hne0 HW HB HC0 k0 k1 k2 k3 k4 k5 yn Gk Gr Go Bk Br Bo HY hy0 hbl2;have HB:=HB6;clear HB6;have z1464z:=@aa _ @FN;exact rX):p:=h
/-! The cells of a block, at once; what stands behind a callee that came up over new blocks. -/
theorem cs2 {b:Nat} {v0 v1:Value} (h:w.heap[b]?=Y3 (Y6 #[v0,v1] T (0,0))):w.cell? ⟨b,0,U⟩=Y3 v0/\w.cell? ⟨b,1,U⟩=Y3 v1:=⟨an h 0,an h 1⟩
namespace Rc
theorem Bw.le {y:World} (h:Bw y W):y.heap.size<=W.heap.size:=Below.size h
structure Qd where
 n:ByteArray
 d:ByteArray
def qdF(x:Qd):List Fv:=[.s x.n,.s x.d]
theorem fE {b o:Nat} {x:Qd} (h:RAt w b o (qdF x)):x.n.size<=9223372036854775807/\x.d.size<=9223372036854775807/\w.cell? ⟨b,o,U⟩=Y3 (I x.n)/\w.cell? ⟨b,o+1,U⟩=Y3 (I x.d):=by
 obtain⟨v0,h0,rfl,z0⟩:=h 0 _ rfl;obtain⟨v1,h1,rfl,z1⟩:=h 1 _ rfl;exact⟨z0,z1,h0,h1⟩
theorem oF {len:Nat} {xs:List Qd} (h:aT w a len cap 2 (xs.map qdF)) {j:Nat} (hj:j<len):
  ∃b o x,a=Y3 ⟨b,o,U⟩/\b<w.heap.size/\xs[j]?=Y3 x/\RAt w b (o+j*2) (qdF x):=by
 exact oD
def dM(a b:Qd):Bool:=Yk a.n.toList b.n.toList || ((a.n.toList==b.n.toList) && Yk a.d.toList b.d.toList)
theorem kO {a b c:Qd} (h:dM a b=Y_) (k:dM b c=Y_):dM a c=Y_:=by
 unfold dM at h k ⊢;simp only[Bool.or_eq_true,YE] at h k ⊢;rcases h with h|⟨h1,h2⟩
 ·rcases k with k|⟨k1,k2⟩
  ·exact Zc (b8 _ _ _ h k)
  ·rw[<-dp k1];exact Zc h
 ·rw[dp h1];rcases k with k|⟨k1,k2⟩
  ·exact Zc k
  ·exact Zb ⟨k1,b8 _ _ _ h2 k2⟩
theorem uq(h:Yk x.toList t.toList=Y8) (hn:¬x=t):Yk t.toList x.toList=Y_:=by
 have h1:=gR x.toList t.toList;rw[h] at h1;have h2:(t.toList==x.toList)=Y8:=bA (λe=>hn e.symm);rw[h2] at h1;simpa using h1
theorem A3 {a b:Qd} (h:dM a b=Y8) (hn:¬a=b):dM b a=Y_:=by
 unfold dM at h ⊢;simp only[Bool.or_eq_false_iff,Bool.and_eq_false_iff] at h;simp only[Bool.or_eq_true,YE];by_cases e:a.n=b.n
 ·refine Zb ⟨aP e.symm,?_⟩;have h2:Yk a.d.toList b.d.toList=Y8:=h.2.resolve_left (λh3=>by rw[aP e] at h3;cases h3);exact uq h2 (λe2=>hn (by obtain⟨a1,a2⟩:=a;obtain⟨b1,b2⟩:=b;cases e;cases e2;rfl))
 ·exact Zc (uq h.1 e)
def RQ(zs:List Qd):Prop:=zs.Pairwise λa b=>dM a b=Y_
def nC(t:Qd) (zs zs':List Qd):Prop:=(t∈zs/\zs'=zs)\/∃k,k<=zs.length/\zs'=zs.take k++[t]++zs.drop k/\(∀(j:Nat) y,j<k->zs[j]?=Y3 y->dM y t=Y_)/\∀y,zs[k]?=Y3 y->dM t y=Y_
theorem nC.mem {t:Qd} {zs zs':List Qd} (h:nC t zs zs') (s:Qd):s∈zs'↔s∈zs\/s=t:=by
 exact agW
theorem nC.len {t:Qd} {zs zs':List Qd} (h:nC t zs zs'):zs'.length<=zs.length+1:=by
 exact Pe
theorem nC.ris {t:Qd} {zs zs':List Qd} (h:nC t zs zs') (hr:RQ zs):RQ zs':=by
 rcases h with ⟨_,rfl⟩|⟨k,hk,rfl,hlt,hgt⟩
 ·exact hr
 ·have h1:RQ (zs.take k++zs.drop k):=by rw[List.take_append_drop];exact hr
  obtain⟨h2,h3,h4⟩:=YW.1 h1;have h5:∀a∈zs.take k,dM a t=Y_:=λa ha=>by
   exact O8
  have h6:∀a∈zs.drop k,dM t a=Y_:=λa ha=>by
   cases hd:zs.drop k with
   | nil=>rw[hd] at ha;cases ha
   | cons b r=>
    have hb:zs[k]?=Y3 b:=by rw[<-Nat.add_zero k,<-List.getElem?_drop,hd];rfl
    have h7:=hgt b hb;rw[hd] at ha h3
    rcases List.mem_cons.1 ha with rfl|ha
    ·exact h7
    ·exact kO h7 ((List.pairwise_cons.1 h3).1 a ha)
  refine YW.2 ⟨YW.2 ⟨h2,List.pairwise_singleton _ _,λa ha b hb=>?_⟩,h3,λa ha b hb=>?_⟩
  ·rw[List.mem_singleton.1 hb];exact h5 a ha
  ·rcases List.mem_append.1 ha with ha|ha
   ·exact kO (h5 a ha) (h6 b hb)
   ·rw[List.mem_singleton.1 ha];exact h6 b hb
theorem aj7:(Tryz.prog.info? 132).map (λi=>(i.zero,i.size,i.bytes))=Y3 (Y3 (Za #[I ⟨#[]⟩,I ⟨#[]⟩]),2,32):=by kernel_rfl
theorem uQ(a b:Qd) (w:World):
  Calls Tryz.prog 157 #[Za #[I a.n,I a.d],Za #[I b.n,I b.d]] w λe w'=>e=Y9 (Y7 (dM a b))/\Below w.heap.size w w':=by
 obtain⟨r,hr⟩:∃r,r=dM a b:=⟨_,rfl⟩;rw[<-hr];have hr2:(Yk a.n.toList b.n.toList=Y_/\r=Y_)\/(Yk a.n.toList b.n.toList=Y8/\(a.n.toList==b.n.toList)=Y8/\r=Y8)\/(Yk a.n.toList b.n.toList=Y8/\(a.n.toList==b.n.toList)=Y_/\Yk a.d.toList b.d.toList=r):=by
  unfold dM at hr;cases h1:Yk a.n.toList b.n.toList
  ·cases h2:(a.n.toList==b.n.toList)
   ·rw[h1,h2] at hr;exact Zb (Zc ⟨rfl,rfl,hr⟩)
   ·rw[h1,h2] at hr;exact Zb (Zb ⟨rfl,rfl,by rw[hr];simp⟩)
  ·rw[h1] at hr;exact Zc ⟨rfl,hr⟩
 clear hr;rcases hr2 with ⟨h1,rfl⟩|⟨h1,h2,rfl⟩|⟨h1,h2,h3⟩;all_goals (
  go_enter Tryz.func157,Tryz.ntmps157
  go_wp2
  go_ret
  first|exact⟨rfl,aR _ _ _⟩|exact⟨by rw[h3],aR _ _ _⟩)
theorem eqQ(a b c d:ByteArray) (w:World):(Op.equalIn 10000 132 (Za #[I a,I b]) (Za #[I c,I d])).run Tryz.prog w=.ok ((a.toList==c.toList) && (b.toList==d.toList)) w:=by
 have u3:=Tryz.underlying9;have hS:Tryz.prog.underlying 132=Y3 (.struct (Tryz.prog.fieldsOf 132)):=ba
 have hp:Tryz.prog.stoodInHeld 132=Y8:=ba
 rw[show (10000:Nat)=9999+1 from rfl,run_equalIn_agg w 9999 132 _ _ hS hp];simp only[Program.fieldsOf,Tryz.underlying132];go_simp;by_cases h1:a.toList=c.toList
 ·by_cases h2:b.toList=d.toList <;> simp[h1,h2]
 ·simp[h1]
theorem ajQ {w4:World} {v4:Value} {base n:Nat} {xs:List Qd} {x:Qd} {vss:List (List Value)} {Q:Nat->Prop} (hV:aQ w Q 2 (xs.map qdF) vss H) (hxl:xs.length=n) (hjn:j<=n) (hB4:Below w.heap.size w w4) (hx1:x.n.size<=9223372036854775807) (hx2:x.d.size<=9223372036854775807) (hQ:∀k,base<=k->Q k)
  (ho4:w4.ownsRow base 132 2 v4 (n+1) (aM j [I x.n,I x.d] vss).flatten):∃a' c',v4=J a' (n+1) c'/\aw w4 a' (n+1) c' 2 132 ((aM j x xs).map qdF) Q:=by
 obtain⟨H4,hV5⟩:=(hV.below hB4).ins (p:=j) (r:=qdF x) (vs:=[I x.n,I x.d]) (hh:=λ_=>0) rfl rfl (λi f hf=>by
  rcases i with _|_|i <;> simp[qdF] at hf <;> subst hf
  ·exact⟨_,rfl,rfl,hx1⟩
  ·exact⟨_,rfl,rfl,hx2⟩) (λi zs h hz=>by rcases i with _|_|i <;> simp[qdF] at h) (λi i2 zs zs2 h=>by rcases i with _|_|i <;> simp[qdF] at h) tx
 have h45:aQ w4 Q 2 ((aM j x xs).map qdF) (aM j [I x.n,I x.d] vss) H4:=by rw[fH];exact hV5
 have hle:((aM j x xs).map qdF).length=n+1:=by rw[Yr,ct af,hxl]
 obtain⟨a',c',e,hR⟩:=h45.own ho4 hle.symm ag (λg hg=>hQ g (ho4.lt g hg).1);rw[hle] at e hR;exact⟨a',c',e,hR⟩
theorem n8(a b:Qd) (w:World) (r:Bool) (h:dM a b=r):Calls Tryz.prog 157 #[Za #[I a.n,I a.d],Za #[I b.n,I b.d]] w λe w'=>e=Y9 (Y7 r)/\Below w.heap.size w w':=by
 rw[<-h];exact uQ a b w
def afV(t:Qd) (zs:List Qd) (B:Nat) (w:World) (e:Ending) (w':World):Prop:=∃a' l' c' zs',e=Y9 (J a' l' c')/\aw w' a' l' c' 2 132 (zs'.map qdF) (λk=>B<=k)/\nC t zs zs'/\Below w.heap.size w w'
theorem nZ(a:Option Addr) (len cap:Nat) (zs:List Qd) (x:Qd) (B:Nat) (w:World) (ho:aw w a len cap 2 132 (zs.map qdF) (λk=>B<=k)) (hB:B<=w.heap.size) (hl:len<=64) (hx1:x.n.size<=9223372036854775807) (hx2:x.d.size<=9223372036854775807):
  Calls Tryz.prog 142 #[J a len cap,Za #[I x.n,I x.d]] w (afV x zs B w):=by
 have hll:zs.length=len:=og
 have hlc:len<=cap:=ho.2.1;have hcm:cap<=9223372036854775807:=ho.2.2.1;have HR:=aa ho.row;have HOW0:=aa ho;obtain⟨vss,H,hV,hcell⟩:=ho.i_;have hvl:vss.length=len:=by rw[hV.len,Yr,hll]
 have HC:Hid (∀(j:Nat) u,vss.flatten[j]?=Y3 u->∃b,a=Y3 ⟨b,0,U⟩/\w.cell? ⟨b,j,U⟩=Y3 u):=λj u hj=>by
  obtain⟨b,e,_,h3⟩:=hcell j u hj;exact⟨b,e,h3⟩
 have HVA:=aa hV.all;have HV1:=aa hV.one;have HFIN:Hid (∀(w4:World) v4 base k,k<=len->w.heap.size<=base->Below w.heap.size w w4->w4.ownsRow base 132 2 v4 (len+1) (aM k [I x.n,I x.d] vss).flatten->∃a' c',v4=J a' (len+1) c'/\aw w4 a' (len+1) c' 2 132 ((aM k x zs).map qdF) (λk=>B<=k)):=λw4 v4 base k hk hbs hB4 ho4=>ajQ hV hll hk hB4 hx1 hx2 (λk hk=>by omega) ho4;obtain⟨i5,hi5',hz0,hz1,hz2⟩:=info_parts aj7;have HI0:=aa (Yb hi5' (Yb hz0 (Yb hz1 hz2)));clear hi5' hz0 hz1 hz2 hV hcell ho;go_enter Tryz.func142,Tryz.ntmps142;go_wp2;go_loopw [5] (λvi wr=> ∃k:Nat,k<=len/\vi=Y4 Y5 k/\Hid (∀(j:Nat) y,j<k->zs[j]?=Y3 y->dM y x=Y_)/\Hid (Below (w.heap.size+1) (w.alloc (Y6 #[I x.n,I x.d] 132)) wr)) (λvi _=>len - (intOf vi).toNat);case atStart=>exact⟨0,by omega,rfl,λj y hj=>by omega,Yh _ _⟩
 case round=>
  obtain⟨k,hk,rfl,HE,HL⟩:=hrel;have hLs:w.heap.size+1<=wr.heap.size:=by have:=HL.size;simpa using this
  obtain⟨HB,Bx⟩:=age;by_cases hlt:k<len
  ·obtain⟨b,o,y,rfl,hb,hx,hat⟩:=oF (HR.below HB.out) hlt;obtain⟨-,-,hc0,hc1⟩:=fE hat;have HXy:=aa hx;have hbw:b<wr.heap.size:=hb;have HC0:=aa hc0;have HC1:=aa hc1;have HBW:=aa hbw;have hk1:(k:Int)<len:=af
   have hk2:decide ((k:Int)<len)=Y_:=by simp;omega
   clear hb hat hx;cases hless:dM y x
   ·have z1078z:=@aa _ @LZ;exact tj
   ·have z1078z:=@aa _ @LY;exact tj
  ·have hk1:¬(k:Int)<len:=af
   have hk2:decide ((k:Int)<len)=Y8:=by simp;omega
   have HP:Hid (nC x zs (aM k x zs)):=Zb ⟨k,by omega,rfl,HE.out,λz hz=>by have:=(Yc.1 hz).1;omega⟩;have Gx:=Bx;have HW:=HB;have x0:=λq:Wd wr=>q.slot (o:=0) Gx.out rfl;have x1:=λq:Wd wr=>q.slot (o:=1) Gx.out rfl;have hne0:=Wd.ne wr;have z1z:=@aa _ @aiK;exact bC
def Wn(c:Cl) (k:Nat) (q:Qd):Prop:=∃(j:Nat) (p:Pd),j<k/\c.ps[j]?=Y3 p/\¬p.d=⟨#[]⟩/\∃(i:Nat) (t:ByteArray) (v:Vd),p.zs[i]?=Y3 t/\aY c t v/\q=⟨v.n,p.d⟩
def Wc(c:Cl) (p:Pd) (k:Nat) (q:Qd):Prop:=∃(i:Nat) (t:ByteArray) (v:Vd),i<k/\p.zs[i]?=Y3 t/\aY c t v/\q=⟨v.n,p.d⟩
def akc(c:Cl) (B:Nat) (w:World) (e:Ending) (w':World):Prop:=∃a' l' c' zs',e=Y9 (J a' l' c')/\aw w' a' l' c' 2 132 (zs'.map qdF) (λk=>B<=k)/\RQ zs'/\(∀q,q∈zs'↔Wn c c.ps.length q)/\zs'.length<=24/\Below w.heap.size w w'
def PqF(t:Qd) (zs:List Qd) (B:Nat):Fact:=λv w=> ∃a' l' c' zs',v=J a' l' c'/\aw w a' l' c' 2 132 (zs'.map qdF) (λk=>B<=k)/\nC t zs zs'
theorem PqF.mono {t:Qd} {zs:List Qd} :Fact.bH (PqF t zs B):=by
 rintro v w w' ⟨a',l',c',zs',h1,h2,h3⟩ hb;exact⟨a',l',c',zs',h1,h2.below hb,h3⟩
theorem aY.ahi {v':Vd} (hx:aH Xd.n c.xs) (h:aY c t v) (h':aY c t v'):v.n=v'.n:=by
 exact O9
theorem uV(d:Ad) (c:Cl) (t:ByteArray) (w:World) (hr:aB w d c.raw) (hT:av c) {j:Nat} {v:Vd} (hv:c.vs[j]?=Y3 v) (hb:aY c t v):
  Calls Tryz.prog 98 #[Za #[J d.a1 d.l1 d.c1,J d.a2 d.l2 d.c2,J d.a3 d.l3 d.c3,J d.a4 d.l4 d.c4,J d.a5 d.l5 d.c5,Y4 Y5 c.now],I t] w λe w'=>e=Y9 (Y4 Y5 j)/\Below w.heap.size w w':=by
 have z337z:=@aa _ @ab2;exact pG
theorem Wc.step {p:Pd} {q:Qd} (hx:aH Xd.n c.xs) (ht:p.zs[k]?=Y3 t) (hb:aY c t v):Wc c p (k+1) q↔Wc c p k q\/q=⟨v.n,p.d⟩:=by
 constructor
 ·rintro⟨i,t',v',h1,h2,h3,rfl⟩;by_cases e:i=k
  ·subst e;rw[ht] at h2;obtain rfl:=Yd h2;exact Zb (by rw[h3.ahi hx hb])
  ·exact Zc ⟨i,t',v',by omega,h2,h3,rfl⟩
 ·rintro (⟨i,t',v',h1,h2,h3,rfl⟩|rfl)
  ·exact⟨i,t',v',by omega,h2,h3,rfl⟩
  ·exact⟨k,t,v,by omega,ht,hb,rfl⟩
theorem Wn.yes {p:Pd} {q:Qd} (hp:c.ps[k]?=Y3 p) (hd:¬p.d=⟨#[]⟩):Wn c (k+1) q↔Wn c k q\/Wc c p p.zs.length q:=by
 constructor
 ·rintro⟨j,p',h1,h2,h3,i,t,v,h4,h5,h6⟩;by_cases e:j=k
  ·subst e;rw[hp] at h2;obtain rfl:=Yd h2;exact Zb ⟨i,t,v,(Yc.1 h4).1,h4,h5,h6⟩
  ·exact Zc ⟨j,p',by omega,h2,h3,i,t,v,h4,h5,h6⟩
 ·rintro (⟨j,p',h1,h2,h3,h4⟩|⟨i,t,v,_,h4,h5,h6⟩)
  ·exact⟨j,p',by omega,h2,h3,h4⟩
  ·exact⟨k,p,by omega,hp,hd,i,t,v,h4,h5,h6⟩
theorem Wn.no {p:Pd} {q:Qd} (hp:c.ps[k]?=Y3 p) (hd:p.d=⟨#[]⟩):Wn c (k+1) q↔Wn c k q:=by
 constructor
 ·rintro⟨j,p',h1,h2,h3,h4⟩;by_cases e:j=k
  ·subst e;rw[hp] at h2;obtain rfl:=Yd h2;exact absurd hd h3
  ·exact⟨j,p',by omega,h2,h3,h4⟩
 ·rintro⟨j,p',h1,h2,h3,h4⟩;exact⟨j,p',by omega,h2,h3,h4⟩
theorem lK(d:Ad) (c:Cl) (w:World) (hr:aB w d c.raw) (hT:av c):
  Calls Tryz.prog 103 #[Za #[J d.a1 d.l1 d.c1,J d.a2 d.l2 d.c2,J d.a3 d.l3 d.c3,J d.a4 d.l4 d.c4,J d.a5 d.l5 d.c5,Y4 Y5 c.now]] w (akc c (w.heap.size+1) w):=by
 have z154z:=@aa _ @aet;exact jr
def B1F(x:Qd):Gi.Fact:=λu w _ _=> ∃b,u=J (Y3 ⟨b,0,U⟩) 1 1/\w.heap[b]?=Y3 (Y6 #[I x.n,I x.d] 132 (0,0))
def wY(c:Cl) (n:Nd) (t:ByteArray):Prop:=(n.d=Y_/\n.u+5<c.now)\/(n.d=Y8/\¬InL n.zs t)
theorem AJ(a:Option Addr) (len cap:Nat) (zs:List Qd) (x:Qd) (w:World) (hr:aT w a len cap 2 (zs.map qdF)):
  Calls Tryz.prog 149 #[J a len cap,Za #[I x.n,I x.d]] w (ar (x∈zs) w):=by
 have HR:=aa hr;have hzl:zs.length=len:=fe
 have hlc:len<=9223372036854775807:=Yl hr.2.1 hr.2.2.1;clear hr;go_enter Tryz.func149,Tryz.ntmps149;go_wp2;go_loopw [5] (λvi wr=> ∃k:Nat,k<=len/\vi=Y4 Y5 k/\Hid (∀(j:Nat) y,j<k->zs[j]?=Y3 y->¬y=x)/\Hid (Below (w.heap.size+1) (w.alloc (Y6 #[I x.n,I x.d] 132)) wr)) (λvi _=>len - (intOf vi).toNat);case atStart=>exact⟨0,by omega,rfl,λj y h=>by omega,Yh _ _⟩
 case round=>
  obtain⟨k,hk,rfl,HI,HL⟩:=hrel;have hLs:w.heap.size+1<=wr.heap.size:=by have h8:=HL.size;rw[db] at h8;exact h8
  obtain⟨HB,Bx⟩:=age;by_cases hlt:k<len
  ·have hk1:(k:Int)<len:=af
   obtain⟨b,o,y,rfl,hb,hy,hat⟩:=oF (HR.below HB.out) hlt;obtain⟨-,-,hc0,hc1⟩:=fE hat;have HY:=aa hy;clear hat hy;by_cases he:y=x
   ·have hqe:∀W:World,(Op.equalIn 10000 132 (Za #[I y.n,I y.d]) (Za #[I x.n,I x.d])).run Tryz.prog W=.ok Y_ W:=λW=>by rw[eqQ];rw[he];simp
    have z713z:=@aa _ @UZ;exact yv
   have hqe:∀W:World,(Op.equalIn 10000 132 (Za #[I y.n,I y.d]) (Za #[I x.n,I x.d])).run Tryz.prog W=.ok Y8 W:=λW=>by rw[eqQ];exact congrArg (Result.ok · W) (by
    cases h1:(y.n.toList==x.n.toList)
    ·rfl
    ·cases h2:(y.d.toList==x.d.toList)
     ·rfl
     ·exact absurd agc he)
   have z713z:=@aa _ @U0;exact yv
  have hk1:¬(k:Int)<len:=af
  obtain⟨x0,x1⟩:=cs2 Bx;have ltx_0:=ae Bx.out;go_wp2;go_ret;exact ar.f (λh=>by obtain⟨j,hj⟩:=YF h;exact HI.out j x tF hj rfl) HB.out
theorem uR(d:Ad) (now:Int) (n:Nd) (va:Option Addr) (vl vc:Nat) (w:World) (h0:0<=n.u) (h1:n.u<=1000000):
  Calls Tryz.prog 27 #[Za #[J d.a1 d.l1 d.c1,J d.a2 d.l2 d.c2,J d.a3 d.l3 d.c3,J d.a4 d.l4 d.c4,J d.a5 d.l5 d.c5,Y4 Y5 now],Za #[I n.n,I n.z,Y4 Y5 n.c,Y4 Y5 n.s,Y4 Y5 n.u,Y7 n.d,J va vl vc]] w λe w'=>e=Y9 (Y7 (n.d && decide (n.u+5<now)))/\Below w.heap.size w w':=by
 exact OV
def af5(B:Nat):Fact:=λv w=> ∃b,v=Zd (Y3 ⟨b,0,U⟩)/\B<=b/\w.heap[b]?=Y3 (Y6 #[I ⟨#[]⟩,I ⟨#[]⟩,Y4 Y5 0,Y4 Y5 0,Y4 Y5 0,Y7 Y8,J U 0 0] 38 (0,0))
theorem af5.mono(B:Nat):Fact.bH (af5 B):=by
 exact mZ
theorem av.ako {n:Nd} (h:av c) (hn:c.ns[j]?=Y3 n):0<=n.u/\n.u<=1000000:=(h.2.1.1.2.1 j n hn).2.2.2.2.1
theorem oH {n:Nd} (h:n.d=Y_):wY c n t↔n.u+5<c.now:=by
 unfold wY;rw[h];simp
theorem nj {n:Nd} (h:n.d=Y8):wY c n t↔¬InL n.zs t:=by
 unfold wY;rw[h];simp
theorem BR(d:Ad) (c:Cl) (x:Qd) (j:Nat) (n:Nd) (w:World) (hr:aB w d c.raw) (hT:av c) (hn:c.ns[j]?=Y3 n) (hnn:n.n=x.d):
  Calls Tryz.prog 150 #[Za #[J d.a1 d.l1 d.c1,J d.a2 d.l2 d.c2,J d.a3 d.l3 d.c3,J d.a4 d.l4 d.c4,J d.a5 d.l5 d.c5,Y4 Y5 c.now],Za #[I x.n,I x.d]] w (ar (wY c n x.n) w):=by
 have z154z:=@aa _ @aes;exact jr
def Wnt(c:Cl) (v:Vd) (t:ByteArray):Prop:=∃(j:Nat) (p:Pd),c.ps[j]?=Y3 p/\QB p t v.m
def Mof(c:Cl) (v:Vd) (t:ByteArray):Prop:=∃(j:Nat) (n:Nd),c.ns[j]?=Y3 n/\n.n=t/\wY c n v.n
def Xc(c:Cl) (v:Vd) (k:Nat) (q:Qd):Prop:=∃(i:Nat) (t:ByteArray),i<k/\v.zs[i]?=Y3 t/\¬Wnt c v t/\Mof c v t/\q=⟨v.n,t⟩
def Xn(c:Cl) (k:Nat) (q:Qd):Prop:=∃(j:Nat) (v:Vd),j<k/\c.vs[j]?=Y3 v/\Xc c v v.zs.length q
def akh(c:Cl) (B:Nat) (w:World) (e:Ending) (w':World):Prop:=∃a' l' c' zs',e=Y9 (J a' l' c')/\aw w' a' l' c' 2 132 (zs'.map qdF) (λk=>B<=k)/\RQ zs'/\(∀q,q∈zs'↔Xn c c.vs.length q)/\zs'.length<=64/\Below w.heap.size w w'
theorem Mof.iff {n:Nd} (hr:aH Nd.n c.ns) (h:c.ns[j]?=Y3 n) (hn:n.n=t):Mof c v t↔wY c n v.n:=by
 constructor
 ·rintro⟨j',n',h',hn',ho⟩;obtain⟨-,rfl⟩:=hr.inj h h' (hn.trans hn'.symm);exact ho
 ·exact λho=>⟨j,n,h,hn,ho⟩
theorem Xc.yes {q:Qd} (ht:v.zs[k]?=Y3 t) (h1:¬Wnt c v t) (h2:Mof c v t):Xc c v (k+1) q↔Xc c v k q\/q=⟨v.n,t⟩:=by
 constructor
 ·rintro⟨i,s,hi,hs,a,b,e⟩;by_cases h:i=k
  ·subst h;rw[ht] at hs;obtain rfl:=Yd hs;exact Zb e
  ·exact Zc ⟨i,s,by omega,hs,a,b,e⟩
 ·rintro (⟨i,s,hi,hs,a,b,e⟩|e)
  ·exact⟨i,s,by omega,hs,a,b,e⟩
  ·exact⟨k,t,by omega,ht,h1,h2,e⟩
theorem Xc.no {q:Qd} (ht:v.zs[k]?=Y3 t) (h1:¬(¬Wnt c v t/\Mof c v t)):Xc c v (k+1) q↔Xc c v k q:=by
 constructor
 ·rintro⟨i,s,hi,hs,a,b,e⟩;by_cases h:i=k
  ·subst h;rw[ht] at hs;obtain rfl:=Yd hs;exact absurd ⟨a,b⟩ h1
  ·exact⟨i,s,by omega,hs,a,b,e⟩
 ·rintro⟨i,s,hi,hs,a,b,e⟩;exact⟨i,s,by omega,hs,a,b,e⟩
theorem Xn.step {q:Qd} (hv:c.vs[k]?=Y3 v):Xn c (k+1) q↔Xn c k q\/Xc c v v.zs.length q:=by
 constructor
 ·rintro⟨i,s,hi,hs,a⟩;by_cases h:i=k
  ·subst h;rw[hv] at hs;obtain rfl:=Yd hs;exact Zb a
  ·exact Zc ⟨i,s,by omega,hs,a⟩
 ·rintro (⟨i,s,hi,hs,a⟩|a)
  ·exact⟨i,s,by omega,hs,a⟩
  ·exact⟨k,v,by omega,hv,a⟩
def xg(c:Cl) (v:Vd) (n:Nd):Prop:=¬InL v.zs n.n/\¬(v.x=Y_/\0<v.zs.length)/\onOf n.n c.vs<n.s
def xf(c:Cl) (q:Qd):Prop:=∃(i j:Nat) (v:Vd) (n:Nd),c.vs[i]?=Y3 v/\v.n=q.n/\c.ns[j]?=Y3 n/\n.n=q.d/\xg c v n
open Classical in
noncomputable def lakL (c:Cl) (zs:List Qd):List Qd:=zs.filter λq=>decide (xf c q)
theorem afB {zs:List Qd} {q:Qd} (h:zs[k]?=Y3 q) (hq:xf c q):lakL c (zs.take (k+1))=lakL c (zs.take k)++[q]:=by
 unfold lakL;rw[YL,h,YU];simp[hq]
theorem aj5 {zs:List Qd} {q:Qd} (h:zs[k]?=Y3 q) (hq:¬xf c q):lakL c (zs.take (k+1))=lakL c (zs.take k):=by
 unfold lakL;rw[YL,h,YU];simp[hq]
theorem A5 {zs:List Qd} {q:Qd} (h:zs[k]?=Y3 q) (hq:xf c q) (h0:lakL c (zs.take k)=[]):(lakL c zs)[0]?=Y3 q:=by
 have h1:=afB h hq;rw[h0,List.nil_append] at h1;have h2:lakL c zs=lakL c (zs.take (k+1))++lakL c (zs.drop (k+1)):=by
  unfold lakL;rw[<-YU,List.take_append_drop]
 rw[h2,h1];rfl
theorem xf.iff {q:Qd} {n:Nd} (hT:av c) (h1:c.vs[i]?=Y3 v) (h2:v.n=q.n) (h3:c.ns[j]?=Y3 n) (h4:n.n=q.d):xf c q↔xg c v n:=by
 constructor
 ·rintro⟨i',j',v',n',k1,k2,k3,k4,k5⟩;obtain⟨-,rfl⟩:=hT.2.1.2.2.1.2.2.inj h1 k1 (h2.trans k2.symm);obtain⟨-,rfl⟩:=hT.2.1.1.2.2.inj h3 k3 (h4.trans k4.symm);exact k5
 ·exact λh=>⟨i,j,v,n,h1,h2,h3,h4,h⟩
theorem aht {q:Qd} (hT:av c) (h:Wn c c.ps.length q):∃(i j:Nat) (v:Vd) (n:Nd),c.vs[i]?=Y3 v/\v.n=q.n/\c.ns[j]?=Y3 n/\n.n=q.d:=by
 obtain⟨j,p,_,hp,hd,i,t,v,hz,⟨i1,jv,x,h1,h2,h3,h4⟩,rfl⟩:=h;obtain⟨i9,n9,k1,k2,_⟩:=(hT.2.2.2.1.1 j p hp).2.resolve_left hd;exact⟨jv,i9,v,n9,h3,rfl,k1,k2⟩
theorem av.on(h:av c) (hv:c.vs[i]?=Y3 v):v.zs.length<=6/\gi v.zs:=by
 have h1:=ic (h.2.1.2.2.1.2.1 i v hv).2.2.2.2.2.2;exact⟨by have:=h1.1;omega,h1.2⟩
def onV(v:Vd) (zs:List ByteArray):Vd:=⟨v.n,v.c,v.z,v.k,v.x,v.m,v.y,zs⟩
def oW(c:Cl) (i:Nat) (y:Vd):Cl:=⟨c.ns,c.ks,c.vs.set i y,c.xs,c.ps,c.now⟩
def AA:ByteArray:=⟨#[111,102,102,32]⟩
def wOn:ByteArray:=⟨#[111,110,32]⟩
def gY(c:Cl) (o:Co):Prop:=
 (¬av c/\o=co0 1)\/
 (av c/\∃es q i v,(RQ es/\∀q,q∈es↔Xn c c.vs.length q)/\es[0]?=Y3 q/\c.vs[i]?=Y3 v/\v.n=q.n/\o=⟨oW c i (onV v (wo (λs:ByteArray=>s) q.d v.zs)),AA++v.n,0⟩)\/
 (av c/\(∀q,¬Xn c c.vs.length q)/\∃zs,(RQ zs/\∀q,q∈zs↔Wn c c.ps.length q)/\((∃q i v ys,(lakL c zs)[0]?=Y3 q/\c.vs[i]?=Y3 v/\v.n=q.n/\Put q.d v.zs ys/\o=⟨oW c i (onV v ys),wOn++v.n,0⟩)\/(lakL c zs=[]/\o=co0 6)))
theorem lJ(hf:bM c) (hv:c.vs[i]?=Y3 v) (hz:zs.length<=1048576):eV 1 (oW c i (onV v zs)).raw<=1152921504606846976:=by
 refine bM.marks (c:=oW c i (onV v zs)) ⟨hf.l1,hf.f1,hf.l2,?_,λj y hy=>?_,hf.l4,hf.l5,hf.f5⟩
 ·show (c.vs.set _ _).length<=_;rw[YK];exact hf.l3
 ·have hy':(c.vs.set i (onV v zs))[j]?=Y3 y:=hy;rw[ch (Yc.1 hv).1] at hy';split at hy'
  ·obtain rfl:=Yd hy';exact hz
  ·exact hf.f3 j y hy'
def af4(B:Nat):Fact:=λv w=> ∃b,v=Zd (Y3 ⟨b,0,U⟩)/\B<=b/\w.heap[b]?=Y3 (Y6 #[I ⟨#[]⟩,I ⟨#[]⟩] 132 (0,0))
theorem af4.mono(B:Nat):Fact.bH (af4 B):=by
 exact mZ
theorem np(h:aO x):¬x=⟨#[]⟩:=λe=>by
 rw[e] at h;have h8:=h.1;revert h8;decide
theorem BG(hT:av c) {k:Nat} {v:Vd} {t:ByteArray} (hj:c.vs[k]?=Y3 v) (ht:¬t=⟨#[]⟩):Wn c c.ps.length ⟨v.n,t⟩↔Wnt c v t:=by
 have hv:=hT.2.1.2.2.1.2.2;constructor
 ·rintro⟨j,p,_,hp,hd,i,s,v',hs,⟨i1,jv,x,h1,h2,h3,h4⟩,e⟩;obtain⟨e1,e2⟩:=Qd.mk.inj e;obtain⟨-,rfl⟩:=hv.inj hj h3 e1;have hne:¬x.v=⟨#[]⟩:=by rw[<-h4];exact np (hT.2.1.2.2.1.2.1 _ v hj).1
  obtain⟨i',j',x',v',k1,k2,k3,k4,k5,k6,_⟩:=(hT.2.2.1.2 i1 x h1).2.resolve_left hne;obtain⟨_,rfl⟩:=hv.inj k3 hj (k4.trans h4.symm);refine⟨j,p,hp,e2.symm,i,?_⟩;rw[hs,k6,h2]
 ·rintro⟨j,p,hp,hd,i,hk⟩;have hz:=(hT.2.1.2.2.2.2.2.1 j p hp).2.2.2.1.2;have hne:¬v.m=⟨#[]⟩:=np (hz i v.m hk).1;obtain⟨i',j',x',v',k1,k2,k3,k4,k5,k6,_⟩:=(hT.2.2.1.1 k v hj).2.resolve_left hne;exact⟨j,p,(Yc.1 hp).1,hp,by rw[hd];exact ht,i,v.m,v,hk,⟨i',k,x',k1,k2,hj,k5.symm⟩,by rw[hd]⟩
theorem BY(d:Ad) (c:Cl) (w:World) (hr:aB w d c.raw) (hT:av c):
  Calls Tryz.prog 115 #[Za #[J d.a1 d.l1 d.c1,J d.a2 d.l2 d.c2,J d.a3 d.l3 d.c3,J d.a4 d.l4 d.c4,J d.a5 d.l5 d.c5,Y4 Y5 c.now]] w (akh c (w.heap.size+1) w):=by
 have z154z:=@aa _ @aer;exact jr
def af3(B:Nat):Fact:=λv w=> ∃b,v=Zd (Y3 ⟨b,0,U⟩)/\B<=b/\w.heap[b]?=Y3 (Y6 #[I ⟨#[]⟩,Y4 Y5 0,I ⟨#[]⟩,I ⟨#[]⟩,Y7 Y8,I ⟨#[]⟩,Y7 Y8,J U 0 0] 95 (0,0))
theorem af3.mono(B:Nat):Fact.bH (af3 B):=by
 exact mZ
theorem B2(d:Ad) (c:Cl) (x:Qd) (i j:Nat) (v:Vd) (n:Nd) (w:World) (hr:aB w d c.raw) (hT:av c) (hv:c.vs[i]?=Y3 v) (hvn:v.n=x.n) (hn:c.ns[j]?=Y3 n) (hnn:n.n=x.d):
  Calls Tryz.prog 117 #[Za #[J d.a1 d.l1 d.c1,J d.a2 d.l2 d.c2,J d.a3 d.l3 d.c3,J d.a4 d.l4 d.c4,J d.a5 d.l5 d.c5,Y4 Y5 c.now],Za #[I x.n,I x.d]] w (ar (xg c v n) w):=by
 have z445z:=@aa _ @aaL;exact cf
theorem QT {len:Nat} (h:ay w a len cap zs) (j:Nat) (z:ByteArray) (hz:(wo (λs:ByteArray=>s) t zs)[j]?=Y3 z):z.size<=9223372036854775807:=by
 have hm:=Yu hz;obtain⟨i,hi⟩:=YF ((List.mem_filter.1 hm).1);obtain⟨b,o,y,-,-,hy,-,hs⟩:=h.at (k:=i) (by have:=(Yc.1 hi).1;have:=h.1;omega);rw[hi] at hy;cases hy;exact hs
theorem BK(a:Option Addr) (len cap:Nat) (zs:List ByteArray) (t:ByteArray) (w:World) (hr:ay w a len cap zs) (hl:len<=64):
  Calls Tryz.prog 116 #[J a len cap,I t] w λe w'=> ∃a' l' c',e=Y9 (J a' l' c')/\bN w' a' l' c' (wo (λs:ByteArray=>s) t zs) (λk=>w.heap.size<=k)/\Below w.heap.size w w':=by
 have HR:=aa hr;have hzl:zs.length=len:=hr.1;have HB:=aa (Yh w.heap.size w);have z1366z:=@aa _ @H8;exact mC
def afX(t:ByteArray) (zs:List ByteArray) (w:World) (e:Ending) (w':World):Prop:=∃a' l' c' zs',e=Y9 (J a' l' c')/\ay w' a' l' c' zs'/\Put t zs zs'/\(t∈zs\/bN w' a' l' c' zs' (λk=>w.heap.size<=k))/\Below w.heap.size w w'
theorem AH(a:Option Addr) (len cap:Nat) (zs:List ByteArray) (t:ByteArray) (w:World) (hr:ay w a len cap zs) (hl:len<=64) (ht:t.size<=9223372036854775807):
  Calls Tryz.prog 118 #[J a len cap,I t] w (afX t zs w):=by
 have HR:=aa hr;have hlc:len<=cap:=hr.2.1;have hcm:cap<=9223372036854775807:=hr.2.2.1;have hzl:zs.length=len:=hr.1;have z244z:=@aa _ @adf;exact zy
theorem Fv.Own.aj6 {w':World} {h:Nat} {f:Fv} {v:Value} (k:f.Own w h S g v) (hk:h<w.heap.size->S h->w'.heap[h]?=w.heap[h]?):f.Own w' h S g v:=by
 cases f with
 | l zs=>
  obtain⟨a',l',c',h1,h2,h3,h4,h5,h6⟩:=k;refine⟨a',l',c',h1,h2,h3,h4,h5,h6.imp id ?_⟩;rintro⟨q1,q2,q3,cu,q4,q5⟩;exact⟨q1,q2,q3,cu,(hk (ae q4) q2).trans q4,q5⟩
 | _=>exact k
theorem en.aml {len m:Nat} {rs:List (List Fv)} {cur:Array Value} (h:en w g m T rs S cur H) (hS:∀k,S k->B<=k) (hl:rs.length=len) (hlc:len<=cap) (hcm:cap<=9223372036854775807) {i j:Nat} {r:List Fv} {old:Fv} (hi:rs[i]?=Y3 r) (hj:r[j]?=Y3 old)
  {va:Option Addr} {vl vc:Nat} {zs:List ByteArray} (hz:ay w va vl vc zs) (hne:∀b o,va=Y3 ⟨b,o,U⟩->zs≠[]->¬b=g/\B<=b) (hW:∀k,B<=k->k<w.heap.size->W.heap[k]?=(w.setCell ⟨g,i*m+j,U⟩ (J va vl vc)).heap[k]?):aT W (Y3 ⟨g,0,U⟩) len cap m (rs.set i (r.set j (.l zs))):=by
 have hlt:i<rs.length:=(Yc.1 hi).1;have hil:j<r.length:=(Yc.1 hj).1;have hrm:r.length=m:=h.len i r hi;have hgB:=hS g h.inS;have hbl:=(hW g hgB (ae h.blk)).trans (au h.blk _);obtain⟨v0,hc0,-⟩:=h.cell i r hi j _ hj;have hin:i*m+j<cur.size:=(Yw.1 hc0).1;refine⟨by rw[YK];exact hl,hlc,hcm,Zb ⟨g,0,rfl,ae hbl,λj' r' hj' i' f' hi'=>?_⟩⟩;rw[Yq];rcases eL (r:=r) hlt hil hj' hi' with ⟨rfl,rfl,rfl⟩|⟨hne',r0,q1,q2⟩
 ·refine⟨J va vl vc,?_,va,vl,vc,rfl,?_⟩
  ·rw[an hbl,Array.getElem?_setIfInBounds_self_of_lt hin]
  ·obtain⟨h1,h2,h3,h4,h5⟩:=hz;refine⟨h1,h2,h3,h4,?_⟩;by_cases hzn:zs=[]
   ·exact Zc hzn
   ·rcases h5 with h5|⟨b,o,rfl,hlt,hc⟩
    ·exact Zc h5
    ·obtain⟨hbg,hbB⟩:=hne b o rfl hzn;have e:W.heap[b]?=w.heap[b]?:=(hW b hbB hlt).trans (Ya _ _ _ _ hbg);have hs:W.heap[b]?=Y3 (w.heap[b]'hlt):=e.trans (Array.getElem?_eq_getElem hlt);refine Zb ⟨b,o,rfl,(Yw.1 hs).1,λk x hx=>?_⟩;have:=hc k x hx;simp only[World.cell?,e] at this ⊢;exact this
 ·rw[qS hi] at q1;obtain⟨v',k1,k2⟩:=h.cell j' r0 q1 i' f' q2;have hil':i'<r0.length:=(Yc.1 q2).1;have hrm':=h.len j' r0 q1;refine⟨v',?_,((k2.iV (k:=i*m+j) (v:=J va vl vc)).aj6 (w':=W) (λhl s=>hW _ (hS _ s) (by simpa using hl))).is⟩;rw[an hbl,Array.getElem?_setIfInBounds_ne (λe2=>hne' af_)];exact k1
theorem cZ.volC {wz:World} {d:Ad} {va:Option Addr} {vl vc:Nat} {C:Nat} (ho:cZ w2 d c.raw (λk=>B<=k)) (hC:C<=B) (hd:d.a3=Y3 ⟨g,0,U⟩) (hv:c.vs[i]?=Y3 v) (hB:B<=w2.heap.size) (hb:Below w2.heap.size w2 wz) (hz:ay wz va vl vc zs) (hz2:∀b o,va=Y3 ⟨b,o,U⟩->zs≠[]->w2.heap.size<=b)
  (hW:∀k,B<=k->k<wz.heap.size->W.heap[k]?=(wz.setCell ⟨g,i*8+7,U⟩ (J va vl vc)).heap[k]?):fI C W d (oW c i (onV v zs)).raw:=by
 have hvi:(c.vs.map vdF)[i]?=Y3 (vdF v):=by rw[Yt,hv];rfl
 obtain⟨v1,v2,v3,v4⟩:=ho.v;rcases v4 with v4|⟨g',cur,H,e,hat⟩
 ·have h9:c.vs.map vdF=[]:=v4;rw[h9] at hvi;cases hvi
 rw[hd] at e;obtain rfl:g=g':=by cases e;rfl
 have hg:g<w2.heap.size:=ae hat.blk;have hk:∀k,B<=k->¬k=g->k<w2.heap.size->W.heap[k]?=w2.heap[k]?:=λk h1 h2 h3=>by rw[hW k h1 (Yj h3 hb.size),Ya _ _ _ _ h2,hb.block k h3]
 have hR:=(hat.az (w':=wz) (S':=λk=>B<=k) (λk hk _=>hb.block k hk) (λ_ _ s=>s)).aml (W:=W) (B:=B) (i:=i) (j:=7) (λ_ s=>s) v1 v2 v3 hvi rfl hz (λb o e hn=>⟨λq=>by have:=hz2 b o e hn;omega,by have:=hz2 b o e hn;omega⟩) hW;have hvs:(Rc.oW c i (onV v zs)).raw.v=(c.vs.map vdF).set i ((vdF v).set 7 (.l zs)):=by
  show (c.vs.set i (onV v zs)).map vdF=_;rw[List.map_set];rfl
 refine⟨?_,?_,?_,?_,?_⟩
 ·exact ((ho.n.dN hat.blk ag ag).az (w':=W) (S':=λk=>B<=k) (λk hk' s=>hk k s.1 s.2 hk') (λ_ _ s=>s.1)).rl (λk s=>Yl hC s)
 ·exact ((ho.k.dN hat.blk ag ag).az (w':=W) (S':=λk=>B<=k) (λk hk' s=>hk k s.1 s.2 hk') (λ_ _ s=>s.1)).rl (λk s=>Yl hC s)
 ·rw[hvs,hd];exact⟨hR,Zb ⟨g,0,rfl,Yl hC hat.inS,_,_,(hW g hat.inS (Yj hg hb.size)).trans (au ((hb.block g hg).trans hat.blk) _)⟩⟩
 ·exact ((ho.x.dN hat.blk ag ag).az (w':=W) (S':=λk=>B<=k) (λk hk' s=>hk k s.1 s.2 hk') (λ_ _ s=>s.1)).rl (λk s=>Yl hC s)
 ·exact ((ho.p.dN hat.blk ag ag).az (w':=W) (S':=λk=>B<=k) (λk hk' s=>hk k s.1 s.2 hk') (λ_ _ s=>s.1)).rl (λk s=>Yl hC s)
theorem cZ.amp {d:Ad} (ho:cZ w2 d c.raw (λk=>B<=k)) (hv:c.vs[i]?=Y3 v):∃g cs,d.a3=Y3 ⟨g,0,U⟩/\B<=g/\w2.heap[g]?=Y3 (Y6 cs 95 (0,0))/\(∃a l p,cs[i*8+7]?=Y3 (J a l p)/\ay w2 a l p v.zs):=by
 have hvi:(c.vs.map vdF)[i]?=Y3 (vdF v):=by rw[Yt,hv];rfl
 obtain⟨v1,v2,v3,v4⟩:=ho.v;rcases v4 with v4|⟨g,cur,H,e,hat⟩
 ·have h9:c.vs.map vdF=[]:=v4;rw[h9] at hvi;cases hvi
 obtain⟨u,hu,a,l,p,rfl,h5⟩:=hat.cell i (vdF v) hvi 7 (.l v.zs) rfl;exact⟨g,cur,e,hat.inS,hat.blk,a,l,p,hu,nQ.row (h:=H i 7) (S:=λk=>B<=k) (g:=g) ⟨a,l,p,rfl,h5⟩⟩
theorem ahr {q:Qd} (h:Xn c k q):∃(i:Nat) (v:Vd),c.vs[i]?=Y3 v/\v.n=q.n/\q.d∈v.zs:=by
 obtain⟨i,v,_,h1,j,t,_,h2,_,_,rfl⟩:=h;exact⟨i,v,h1,rfl,Yu h2⟩
theorem xw(d:Ad) (c:Cl) (x:Qd) (i j:Nat) (v:Vd) (n:Nd) (w:World) (hr:aB w d c.raw) (hT:av c) (hv:c.vs[i]?=Y3 v) (hvn:v.n=x.n) (hn:c.ns[j]?=Y3 n) (hnn:n.n=x.d) (r:Bool) (h:r=Y_↔xg c v n):
  Calls Tryz.prog 117 #[Za #[J d.a1 d.l1 d.c1,J d.a2 d.l2 d.c2,J d.a3 d.l3 d.c3,J d.a4 d.l4 d.c4,J d.a5 d.l5 d.c5,Y4 Y5 c.now],Za #[I x.n,I x.d]] w λe w'=>e=Y9 (Y7 r)/\Below w.heap.size w w':=by
 refine (B2 d c x i j v n w hr hT hv hvn hn hnn).mono ?_;exact Nr
def afW(W:World) (t:ByteArray) (zs:List ByteArray):Fact:=λv w=> ∃a' l' c' ys,v=J a' l' c'/\bN w a' l' c' ys (λk=>W.heap.size<=k)/\Put t zs ys
theorem afW.mono(W:World) (t:ByteArray) (zs:List ByteArray):Fact.bH (afW W t zs):=by
 rintro v w w' ⟨a',l',c',ys,h1,h2,h3⟩ hb;exact⟨a',l',c',ys,h1,h2.below hb,h3⟩
def afZ(W:World) (zs:List ByteArray):Fact:=λv w=> ∃a' l' c',v=J a' l' c'/\bN w a' l' c' zs (λk=>W.heap.size<=k)
theorem afZ.mono(W:World) (zs:List ByteArray):Fact.bH (afZ W zs):=by
 rintro v w w' ⟨a',l',c',h1,h2⟩ hb;exact⟨a',l',c',h1,h2.below hb⟩
theorem xx(d:Ad) (c:Cl) (w:World) (hr:aB w d c.raw):
  Calls Tryz.prog 69 #[Za #[J d.a1 d.l1 d.c1,J d.a2 d.l2 d.c2,J d.a3 d.l3 d.c3,J d.a4 d.l4 d.c4,J d.a5 d.l5 d.c5,Y4 Y5 c.now]] w (im (gY c) w):=by
 have z445z:=@aa _ @aaK;exact cf
end Rc
end Go.Proofs.YtiplhgedmjoliaaGreatDoor

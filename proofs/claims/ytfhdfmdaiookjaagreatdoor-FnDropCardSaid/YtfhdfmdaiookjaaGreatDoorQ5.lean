import Derived.Test.YtfhdfmdaiookjaaGreatDoorQ2
import Derived.RegionTactic
/-
 What the laws on kinds call besides: measures, copies, comparisons.
-/
set_option maxRecDepth 100000
set_option maxHeartbeats 12800000
open Bool renaming false→Y_,true→Zb
open Go.Ending renaming returned→Za
open Go.IntKind renaming i64→Y6
open Go.Obj renaming cells→Y8
open Go.Value renaming string→I,slice→J,int→Y7,bool→Y9,agg→Zc,pointer→Zf,tuple→Zg
open Option renaming none→U,some→Y5
open Or renaming inr→Zd,inl→Ze
open And renaming intro→Yb
open Array renaming getElem?_push_size→Yg, getD_eq_getD_getElem?→Yr, getElem?_eq_some_iff→Yw
open Bool renaming and_eq_true→YG
open Classical renaming byContradiction→YH
open Go.Addr renaming add_lit→Yn
open Go.Calls renaming quiet_of_same→Yz
open Go.Op renaming bytesLess→Yk
open Go.Region renaming wanted→YP, ready→YQ, binds→YR
open Go.RowKit.Below renaming heap_setCell→Ya, refl→Yh, heap_alloc→Yl
open Go.Value renaming string→Ym, ownBlock→YL
open List renaming getElem?_eq_some_iff→Yc, lookup→Yf, getElem?_eq_getElem→Yi, length_map→Yo, mem_of_getElem?→Ys, setIfInBounds_toArray→Yt, getElem?_append_left→Yu, getElem?_map→Yv, drop_eq_nil_of_le→Yx, getElem?_take→YA, set_cons_zero→YC, getElem?_of_mem→YD, set_cons_succ→YE, length_take→YF, forall_mem_cons→YI, take_of_length_le→YJ, take_add_one→YN, mem_cons→YO, foldr→YT, range→YU, pairwise_append→YW, getElem?_set→YZ, mem_cons_self→Y1
open Nat renaming le_refl→Ye, lt_of_lt_of_le→Yj, le_trans→Yp, zero_add→Yq, le_succ→Yy, zero_le→YK
open Option renaming map_eq_some_iff→YB
open Option.some renaming inj→Yd
namespace Go.Proofs.YtfhdfmdaiookjaaGreatDoor
variable {p:Prop}
namespace Mk
end Mk
open Go.RowKit Mk
variable {α:Type} {S:Nat->Prop} {T:TypeId} {a:Option Addr} {best e1 e2 most:Int} {c c1 c2:Rc.Cl} {cap cp fuel g i j k m:Nat} {cs ts zs zs':List ByteArray} {d:Rc.Ad} {front rest:List Oper} {known:List (Tmp×Fact)} {listed:Array Bool} {n:Rc.Nd} {o:Oper} {s t x:ByteArray} {v:Value} {w w' wr wz:World} {φs:List Fact} {nm:α->ByteArray} {xs:List α} {y:α}
theorem z_(h:p:=by simp[results,Tryz.results126,go_sem]):p:=h
theorem ah6(h:p:=by
 have z403z:=@aa _ @ace;exact zC):p:=h
theorem oW(h:p:=by
 go_enter Tryz.func163,Tryz.ntmps163;go_wp2_with fail;exact bodyPost_ret (v:=Zg #[Zc #[I ⟨#[]⟩,Y7 Y6 0,I ⟨#[]⟩,I ⟨#[]⟩,Y9 Y_,I ⟨#[]⟩,Y9 Y_,J U 0 0],Y9 Y_]) (by simp[results,Tryz.results163,go_sem]) rfl ⟨rfl,dj _ _ _ _⟩):p:=h
theorem Ou(h:p:=by
 go_wp2;exact bodyPost_ret (v:=Zg #[I ⟨#[]⟩,Y7 Y6 6]) z_ rfl (Zd ⟨HNO.out,Ze ⟨6,by decide,Ze ⟨HNM.out,rfl⟩,rfl,HB5.alloc HB5.size _⟩⟩)):p:=h
theorem Ot(h:p:=by
 obtain⟨v',k1,k2⟩:=h1.cell j' r0 q1 i' f' q2;have hil':i'<r0.length:=(Yc.1 q2).1;have hrm':=h1.len j' r0 q1;refine⟨v',?_,k2.jm⟩;exact O8):p:=h
theorem ahP(h:p:=by
 go_wp2;refine⟨⟨k+1,by omega,by go_num,λj z hj hz=>?_,HL.trans (q2.b.mono af)⟩,by simp[intOf];omega⟩;by_cases e:j=k
 ·subst e;rw[HXy.out] at hz;obtain rfl:=Yd hz;exact hless
 ·exact HE.out j z af hz):p:=h
theorem al9(h:p:=by
 have z403z:=@aa _ @acd;exact zC):p:=h
theorem ahM(h:p:=by
 clear h2;have z55z:=@aa _ @af_;exact aC):p:=h
theorem ahL(h:p:=by
 have z55z:=@aa _ @af9;exact aC):p:=h
theorem ahK(h:p:=by
 have hxn:=hZ1;have hxk:=hZ2;rcases q with _|_|_|_|_|_|_|_|q <;> simp[vdF,mkV] at hf <;> subst hf
 ·exact⟨_,rfl,rfl,hZ0⟩
 ·exact⟨_,rfl,rfl⟩
 ·exact⟨_,rfl,rfl,hZ3⟩
 ·exact⟨_,rfl,rfl,hxk⟩
 ·exact⟨_,rfl,rfl⟩
 ·exact⟨_,rfl,rfl,hxn⟩
 ·exact⟨_,rfl,rfl⟩
 ·exact⟨_,rfl,U,0,0,rfl,rfl,Ye _,by decide,λj x hx=>by simp at hx,Ze rfl⟩):p:=h
theorem oT(h:p:=by
 go_enter Tryz.func173,Tryz.ntmps173;go_wp2_with fail;go_ret;exact⟨rfl,HB.out⟩):p:=h
theorem al2(h:p:=by
 have z310z:=@aa _ @adn;exact qh):p:=h
theorem ahz(h:p:=by
 clear h4 h2;go_enter Tryz.func163,Tryz.ntmps163;go_wp2_with fail;exact bodyPost_ret (v:=Zg #[Zc #[I (aN++n'),Y7 Y6 c',I t,I k',Y9 x',I n',Y9 Y_,J U 0 0],Y9 Zb]) (by simp[results,Tryz.results163,go_sem,aN]) rfl ⟨rfl,dj _ _ _ _⟩):p:=h
theorem akD(h:p:=by
 have z310z:=@aa _ @adm;exact qh):p:=h
theorem akB(h:p:=by
 have z310z:=@aa _ @adl;exact qh):p:=h
theorem Qz(h:p:=by
 constructor
 ·rintro⟨j,q,h1,h2,h3,h4⟩;by_cases e:j=k
  ·subst e;rw[hp] at h2;obtain rfl:=Yd h2;exact absurd h3 hd
  ·exact⟨j,q,by omega,h2,h3,h4⟩
 ·rintro⟨j,q,h1,h2,h3,h4⟩;exact⟨j,q,by omega,h2,h3,h4⟩):p:=h
theorem Qm(h:p:=by
 intro _ _ i1 i2 p q hp hq hpd hqd hpi hqi;obtain⟨k1,hk1⟩:=hpi;obtain⟨i3,n,b1,b2,b3,b4⟩:=(hT.2.2.2.1.1 _ _ hp).2.resolve_left hpd;obtain⟨v,b5,b6⟩:=b4 k1 _ hk1;exact absurd rfl (nF hT hx hxv b5)):p:=h
theorem Qi(h:p:=by
 unfold RT;rw[List.pairwise_iff_getElem];intro i j hi hj hij;rw[List.getElem_map,List.getElem_map];rw[Yo] at hi hj;exact h.lt hij (Yi hi) (Yi hj)):p:=h
theorem wK(h:p:=by
 go_enter Tryz.func120,Tryz.ntmps120;go_wp2;go_ret;exact⟨rfl,Yh _ _⟩):p:=h
theorem akw(h:p:=by
 rw[HZO.out];exact⟨f1,f2,f3,by show aw _ _ _ _ _ _ ((c.xs.set i (bdX x (aN++x.n))).map xdF) _;rw[List.map_set];exact hX9,f5⟩):p:=h
theorem PU(h:p:=by
 refine⟨v,List.mem_filter.2 ⟨Ys h2,?_⟩,rfl⟩;unfold onB;rw[Bool.or_eq_true];exact Ze (eE.2 h3)):p:=h
theorem PO(h:p:=by
 refine⟨i1,n,b1,b2,b3,λq t ht=>?_⟩;obtain⟨v,b5,b6⟩:=b4 q t ht;exact⟨v,Bq hT hx hxv hu hum b5,b6⟩):p:=h
theorem PJ(h:p:=by
 refine⟨i1,n,b1,b2,b3,λq r hr=>?_⟩;obtain⟨v,b5,b6⟩:=b4 q r hr;exact⟨v,Bm hT hx hxv b5,b6⟩):p:=h
theorem PH(h:p:=by
 subst e;rw[hx] at a1;obtain rfl:=Yd a1;exact cq.ne hT.2.1 _ _ a3 (a4.trans (a5.symm.trans hxv))):p:=h
theorem Px(h:p:=by
 have hx8:(wx.setCell ⟨b,2,U⟩ (J q3 m3 z3)).heap[gx]?=Y5 (Y8 curx 50 (0,0)):=(Ya _ _ _ _ (show gx≠b from hgb)).trans ((HWX.block _ (ae HXB.out)).trans HXB.out);have hK8:aI (λk=>S k\/k=b) w (wx.setCell ⟨b,2,U⟩ (J q3 m3 z3)):=(aI.dE HWX.out).set (Zd rfl);obtain⟨W8,hW8⟩:∃W8,W8=wx.setCell ⟨b,2,U⟩ (J q3 m3 z3):=⟨_,rfl⟩;rw[<-hW8] at f1 f2 f3 f4 f5 hB8 hv8 hx8 hK8 ⊢;have HF8:=aa (Yb f1 (Yb f2 (Yb f3 (Yb f4 f5))));have Bc8:=aa hB8;have Bv8:=aa hv8;have HX8:=aa hx8;have HK8:=aa hK8;clear hW8 f1 f2 f3 f4 f5 hB8 hv8 hx8 hK8 kp HO7 Bc7 Bv7 Bc6 Bv6 hnb;go_wp2_with fail;have z1354z:=@aa _ @I7;exact jL):p:=h
theorem kI(h:p:=by
 exact kA):p:=h
theorem qu(h:p:=by
 have z326z:=@aa _ @ac9;exact qf):p:=h
theorem wv(h:p:=by
 clear hf;obtain⟨k0,k1,k2,k3,k4,k5⟩:=cs6 ((hW.block _ (ae Bc2.out)).trans Bc2.out);exact aK):p:=h
theorem O8(h:p:=by
 rw[Array.getElem?_setIfInBounds_ne (λe2=>hne ag6)];exact k1):p:=h
theorem OV(h:p:=by
 clear hf;obtain⟨k0,k1,k2,k3,k4,k5⟩:=cs6 ((hW.block _ (ae Bc5.out)).trans Bc5.out);exact aK):p:=h
theorem OS(h:p:=by
 clear hf;obtain⟨x0,x1,x2,x3,x4⟩:=cs5 ((hW.block _ (ae Bx2.out)).trans Bx2.out);exact aK):p:=h
theorem akk(h:p:=by
 obtain⟨u9,hu9,hun9⟩:=cf hh;have HU:=aa (Yb hu9 hun9);have HH:=aa hh;obtain⟨j9,hj9⟩:∃j9,j9=pl Vd.n c.vs (aN++x.n):=⟨_,rfl⟩;rw[<-hj9] at HU;clear hu9 hun9 hh hj9;have z648z:=@aa _ @WN;exact zd):p:=h
theorem akj(h:p:=by
 have z648z:=@aa _ @WM;exact zd):p:=h
theorem kA(h:p:=by
 exact we):p:=h
theorem wh(h:p:=by
 exact wb):p:=h
theorem aki(h:p:=by
 exact OF):p:=h
theorem OR(h:p:=by
 exact OA):p:=h
theorem akh(h:p:=by
 exact v_):p:=h
theorem akg(h:p:=by
 exact OE):p:=h
theorem akf(h:p:=by
 exact vZ):p:=h
theorem ake(h:p:=by
 exact OD):p:=h
theorem akd(h:p:=by
 exact OC):p:=h
theorem akc(h:p:=by
 exact OB):p:=h
theorem ON(h:p:=by
 rintro e w7 ⟨q3,z3,rfl,ho7,hb7⟩;have hs7:=HB6.size;have hs8:=hW.size;exact hK _ _ hb7 ⟨q3,_,z3,rfl,ho7.bm (λk _ s=>by rcases s with (s|s)|s;exact Ze s;exact s.elim;exact Zd (by have s1:wg.heap.size<=k:=s;omega))⟩):p:=h
theorem akb(h:p:=by
 refine Obl.plain rfl ?_;intro ac wg K hsz hW hf hK;clear hsz;have e11:=hf 11 ag;simp[aj,Yf] at e11;clear hf;obtain⟨v0,v1,v2,v3,v4,v5,v6,v7⟩:=cs8 ((hW.block _ (ae Bv6.out)).trans Bv6.out);exact aK):p:=h
theorem aka(h:p:=by
 refine Obl.plain rfl ?_;intro ac wg K hsz hW hf hK;clear hsz;have e110:=hf 110 ag;simp[aj,Yf] at e110;clear hf;obtain⟨k0,k1,k2,k3,k4,k5⟩:=cs6 ((hW.block _ (ae Bc6.out)).trans Bc6.out);exact aK):p:=h
theorem OL(h:p:=by
 rintro e w5 ⟨rfl,hb⟩;have HNM:Hid (¬lq x kc t):=λh=>hm (by have h1:=h.2;rw[HZO.out] at h1;exact h1);have HB5:=upB HB3 hb;clear hb hm;exact Ou):p:=h
theorem OK(h:p:=by
 refine Obl.plain rfl ?_;intro ac wg K hsz hW hf hK;clear hsz;have e114:=hf 114 ag;simp[aj,Yf] at e114;clear hf;exact aK):p:=h
theorem OJ(h:p:=by
 refine Obl.plain rfl ?_;intro ac wg K hsz hW hf hK;clear hsz;have e107:=hf 107 ag;simp[aj,Yf] at e107;clear hf;exact aK):p:=h
theorem aj_(h:p:=by
 refine Obl.plain rfl ?_;intro ac wg K hsz hW hf hK;clear hsz;have e109:=hf 109 ag;simp[aj,Yf] at e109;clear hf;exact aK):p:=h
theorem aj9(h:p:=by
 refine Obl.plain rfl ?_;intro ac wg K hsz hW hf hK;clear hsz;have e108:=hf 108 ag;simp[aj,Yf] at e108;clear hf;exact aK):p:=h
theorem we(h:p:=by
 refine Obl.plain rfl ?_;intro ac wg K hsz hW hf hK;clear hsz;have e0:=hf 0 ag;simp[aj,Yf] at e0;clear hf;exact aK):p:=h
theorem OF(h:p:=by
 refine Obl.plain rfl ?_;intro ac wg K hsz hW hf hK;clear hsz;have e94:=hf 94 ag;simp[aj,Yf] at e94;clear hf;obtain⟨v0,v1,v2,v3,v4,v5,v6,v7⟩:=cs8 ((hW.block _ (ae BvW.out)).trans BvW.out);exact aK):p:=h
theorem wb(h:p:=by
 clear hf;obtain⟨k0,k1,k2,k3,k4,k5⟩:=cs6 ((hW.block _ (ae BcW.out)).trans BcW.out);exact aK):p:=h
theorem v_(h:p:=by
 refine Obl.plain rfl ?_;intro ac wg K hsz hW hf hK;clear hsz;have e103:=hf 103 ag;simp[aj,Yf] at e103;clear hf;exact aK):p:=h
theorem OE(h:p:=by
 refine Obl.plain rfl ?_;intro ac wg K hsz hW hf hK;clear hsz;have e101:=hf 101 ag;simp[aj,Yf] at e101;clear hf;exact aK):p:=h
theorem vZ(h:p:=by
 refine Obl.plain rfl ?_;intro ac wg K hsz hW hf hK;clear hsz;have e96:=hf 96 ag;simp[aj,Yf] at e96;clear hf;exact aK):p:=h
theorem OD(h:p:=by
 have z1599z:=@aa _ @ET;exact mE):p:=h
theorem OC(h:p:=by
 refine Obl.plain rfl ?_;intro ac wg K hsz hW hf hK;clear hsz;have e98:=hf 98 ag;simp[aj,Yf] at e98;clear hf;exact aK):p:=h
theorem OB(h:p:=by
 refine Obl.plain rfl ?_;intro ac wg K hsz hW hf hK;clear hsz;have e99:=hf 99 ag;simp[aj,Yf] at e99;clear hf;exact aK):p:=h
theorem OA(h:p:=by
 refine Obl.plain rfl ?_;intro ac wg K hsz hW hf hK;clear hsz;have e11:=hf 11 ag;simp[aj,Yf] at e11;clear hf;exact aK):p:=h
theorem aj7(h:p:=by
 refine Obl.plain rfl ?_;intro ac wg K hsz hW hf hK;clear hsz;have e100:=hf 100 ag;simp[aj,Yf] at e100;exact wh):p:=h
theorem aj6(h:p:=by
 have z1609z:=@aa _ @wh;exact mB):p:=h
theorem aj5(h:p:=by
 refine Obl.plain rfl ?_;intro ac wg K hsz hW hf hK;clear hsz;have e100:=hf 100 ag;simp[aj,Yf] at e100;exact wb):p:=h
theorem aj4(h:p:=by
 have z1609z:=@aa _ @wb;exact mB):p:=h
theorem alV(h:p:=by
 have kp:∀{a l cp m T rs},aw w a l cp m T rs S->aw (wx.setCell ⟨b,2,U⟩ (J q3 m3 z3)) a l cp m T rs (λk=>S k\/w.heap.size<=k):=λh=>h.ay (λk hk s=>(Ya _ _ _ _ (hnb k (Ze s))).trans (HWX.block k hk)) (λ_ _ s=>Ze s);have f1:=kp HO.n;have f2:=kp HO.k;have f4:=kp HO.x;have f5:=kp HO.p;have f3:=HO7.ay (w':=wx.setCell ⟨b,2,U⟩ (J q3 m3 z3)) (λk hk s=>Ya _ _ _ _ (hnb k s)) (λ_ _ s=>s);have hB8:(wx.setCell ⟨b,2,U⟩ (J q3 m3 z3)).heap[b]?=Y5 (Y8 (clo6 a1 l1 y1 (Y5 ⟨gk,0,U⟩) l2 y2 q3 m3 z3 (Y5 ⟨gx,0,U⟩) l4 y4 a5 l5 y5 c.now) 29 (0,0)):=av Bc7.out _;exact Yb @kp (Yb f1 (Yb f2 (Yb f4 (Yb f5 (Yb f3 hB8)))))):p:=h
theorem uw(h:p:=by
 have x0:=λq:Wd wr=>q.slot (o:=0) Gx.out rfl;have yn:=λq:Wd wr=>(q.cell hbw).trans hc0;have hne0:=Wd.ne wr;exact Yb x0 (Yb yn hne0)):p:=h
theorem alJ(h:p:=by
 have hxo:=HT.2.1.2.2.2.1.2.1 i x HX.out;have hZ1:x.n.size<=9223372036854775807:=HZX.1;have hZ2:x.k.size<=9223372036854775807:=HZX.2.1;have hZ0:(aN++x.n).size<=9223372036854775807:=by have h1:=hxo.1.2.1;rw[ByteArray.size_append];have h2:aN.size<=10:=ag;omega
 exact Yb hxo (Yb hZ1 (Yb hZ2 hZ0))):p:=h
theorem ahb(h:p:=by
 have HOW:Hid ((q2.w.alloc (Y8 #[] 38)).ownsRow q2.w.heap.size 38 8 (J (Y5 ⟨q2.w.heap.size,0,U⟩) 0 0) 0 []):=World.ownsRow_made q2.w #[] 0 (Ye _) (YK _) aG;have hik:(k:Int)<=n:=af
 have hkn:k<=n:=af
 exact Yb HOW (Yb hik hkn)):p:=h
theorem NZ(h:p:=by
 have hi4:i<l4:=by have:=(Yc.1 hx).1;omega
 have hii:(i:Int)<l4:=af
 have hi0:¬(i:Int)<0:=af
 exact Yb hi4 (Yb hii hi0)):p:=h
theorem Oi(h:p:=by
 have hjn:j<=n:=by rw[hj,<-hxl];exact List.findIdx_le_length
 have hV4:=(hV.below hB4).ay (w':=w4) (S':=λk=>(Q k\/Q2 k)\/w.heap.size<=k) (λ_ _ _ _=>rfl) (λ_ _ s=>Ze (Ze s));exact Yb hjn hV4):p:=h
theorem ajw(h:p:=by
 rintro _ ⟨q2,rfl⟩;have HB1:=upB HW q2.b;have Cx:=upK Gx q2.b;clear hne0 HW HB x0 yn Gx Bx hc0 hbw;have HB:=HB1;clear HB1;have Bx:=Cx;clear Cx;have HPL:Hid (k=pl Vd.n vs x.n):=(oY HE.out HXy.out hless).symm;have HCQ:Hid (∀(j:Nat) u,vss.flatten[j]?=Y5 u->∃b9,(Y5 ⟨b,o,U⟩:Option Addr)=Y5 ⟨b9,0,U⟩/\b9<q2.w.heap.size/\q2.w.cell? ⟨b9,j,U⟩=Y5 u):=λj u hj=>by
  exact As
 obtain⟨HOW,hik,hkn⟩:=ahb;have hcap:¬n=k:=af
 all_goals (
  go_wp2_with (first|(at_builtin;refine ar rfl _ _ 25 rfl q2.w.heap.size 38 i5 (Zc #[I ⟨#[]⟩,Y7 Y6 0,I ⟨#[]⟩,I ⟨#[]⟩,Y9 Y_,I ⟨#[]⟩,Y9 Y_,J U 0 0]) 8 112 Tryz.underlying25 HI0.1 HI0.2.1 HI0.2.2.1 HI0.2.2.2 rfl ag _ _ _ rfl (HOW.out) _ k _ (vss.take k).flatten rfl (bw HVA.out af) (λj u hu=>by obtain⟨g,e,hgl,h3⟩:=HCQ.out _ _ (cD hu);cases e <;> exact⟨_,rfl,by simp only[Yn,Yq];exact (ai (ak q2.w _) hgl).trans h3⟩) (aD HV1.out k).1 bj af aG ?_))
  intro v5 w5 hown5 hgr5
  replace hown5:w5.ownsRow q2.w.heap.size 38 8 v5 k (vss.take k).flatten:=dN
  have hb5:=(ak q2.w (Y8 #[] 38)).grown hgr5 aG (λg hg=>by simp[YL] at hg;omega);obtain⟨s1,s2,s3,rfl⟩:=aA hown5;have HO5:=aa hown5;have H5:=aa hb5;have hs6:=hb5.size;have Bx5:=upK Bx hb5;obtain⟨x0,x1,x2,x3,x4,x5,x6,x7⟩:=cs8 Bx5;clear hown5 hgr5 hb5 HOW
  go_wp2_with (first|(at_builtin;refine ar rfl _ _ 25 rfl q2.w.heap.size 38 i5 (Zc #[I ⟨#[]⟩,Y7 Y6 0,I ⟨#[]⟩,I ⟨#[]⟩,Y9 Y_,I ⟨#[]⟩,Y9 Y_,J U 0 0]) 8 112 Tryz.underlying25 HI0.1 HI0.2.1 HI0.2.2.1 HI0.2.2.2 rfl ag _ _ _ rfl (HO5.alloc _) _ 1 _ [I x.n,Y7 Y6 x.c,I x.z,I x.k,Y9 x.x,I x.m,Y9 x.y,J va vl vc] rfl rfl (λj u hu=>⟨_,rfl,by rw[Yn,Yq,an (heap_alloc_new w5 _)];simpa using hu⟩) dx bj af bL ?_))
  intro v6 w6 hown6 hgr6;have hb6:=(H5.alloc H5.size _).grown hgr6 bL (λg hg=>(HO5.lt g hg).1);obtain⟨r1,r2,r3,rfl⟩:=aA hown6;have HO6:=aa hown6;have H6:=aa hb6;have hs7:=hb6.size;clear hown6 hgr6 hb6 x0 x1 x2 x3 x4 x5 x6 x7
  go_wp2_with (first|(at_builtin;refine ar rfl _ _ 25 rfl q2.w.heap.size 38 i5 (Zc #[I ⟨#[]⟩,Y7 Y6 0,I ⟨#[]⟩,I ⟨#[]⟩,Y9 Y_,I ⟨#[]⟩,Y9 Y_,J U 0 0]) 8 112 Tryz.underlying25 HI0.1 HI0.2.1 HI0.2.2.1 HI0.2.2.2 rfl ag _ _ _ rfl (HO6.out) _ (l - k) _ (vss.drop k).flatten rfl jP (λj u hu=>by first|(rw[Yx af] at hu;simp at hu;done)|(obtain⟨g,e,hgl,h3⟩:=HCQ.out _ _ (cV HVA.out af hu);cases e <;> exact⟨_,rfl,by simp only[Yn,Yq];exact (ai H6.out hgl).trans h3⟩)) (aD HV1.out k).2 bj af af ?_))
  intro v7 w7 hown7 hgr7;have hb7:=H6.grown hgr7 af (λg hg=>(HO6.lt g hg).1)
  replace hown7:w7.ownsRow q2.w.heap.size 38 8 v7 (l+1) (aR k [I x.n,Y7 Y6 x.c,I x.z,I x.k,Y9 x.x,I x.m,Y9 x.y,J va vl vc] vss).flatten:=by
   have e9:k+1+(l - k)=l+1:=af
   try rw[e9] at hown7
   simpa[aR] using hown7
  have HB7:=upB HB hb7;obtain⟨a',c',rfl,hR⟩:=HFIN.out w7 v7 q2.w.heap.size k HPL.out HB.size HB7.out hown7;have HR7:=aa hR;clear hown7 hgr7 hb7 hR hik hkn hcap
  go_wp2
  go_ret
  exact⟨a',c',rfl,HR7.out,HB7.out⟩)):p:=h
theorem ajv(h:p:=by
 rintro _ ⟨q2,rfl⟩;have HB1:=upB HW q2.b;have Cx:=upK Gx q2.b;clear hne0 HW HB x0 yn Gx Bx hc0 hbw;have HB:=HB1;clear HB1;have Bx:=Cx;clear Cx;exact ahP):p:=h
theorem aju(h:p:=by
 rintro _ ⟨q2,rfl⟩;have HB1:=upB HW q2.b;have Cx:=upK Gx q2.b;clear hne0 HW HB x0 Gx Bx;have HB:=HB1;clear HB1;have Bx:=Cx;clear Cx;have HPL:Hid (k=pl Vd.n vs x.n):=by show k=_;rw[fY (nm:=Vd.n) (xs:=vs) (t:=x.n) (λj y hy=>HE.out j y kV hy)];omega
 have HCQ:Hid (∀(j:Nat) u,vss.flatten[j]?=Y5 u->∃b9,g=Y5 ⟨b9,0,U⟩/\b9<q2.w.heap.size/\q2.w.cell? ⟨b9,j,U⟩=Y5 u):=λj u hj=>by
  exact As
 obtain⟨HOW,hik,hkn⟩:=ahb;rcases g with _|⟨b2,f2,sp⟩
 ·have hl0:l=0:=YH λhne0=>by
   exact Av
  obtain rfl:k=0:=af
  subst hl0;by_cases hcap:n=0;all_goals (
   go_wp2_with (first|(at_builtin;refine ar rfl _ _ 25 rfl q2.w.heap.size 38 i5 (Zc #[I ⟨#[]⟩,Y7 Y6 0,I ⟨#[]⟩,I ⟨#[]⟩,Y9 Y_,I ⟨#[]⟩,Y9 Y_,J U 0 0]) 8 112 Tryz.underlying25 HI0.1 HI0.2.1 HI0.2.2.1 HI0.2.2.2 rfl ag _ _ _ rfl (HOW.out) _ 0 _ (vss.take 0).flatten rfl (bw HVA.out af) (λj u hu=>by obtain⟨g,e,hgl,h3⟩:=HCQ.out _ _ (cD hu);cases e <;> exact⟨_,rfl,by simp only[Yn,Yq];exact (ai (ak q2.w _) hgl).trans h3⟩) (aD HV1.out 0).1 bj af aG ?_))
   intro v5 w5 hown5 hgr5
   replace hown5:w5.ownsRow q2.w.heap.size 38 8 v5 0 (vss.take 0).flatten:=dN
   have hb5:=(ak q2.w (Y8 #[] 38)).grown hgr5 aG (λg hg=>by simp[YL] at hg;omega);obtain⟨s1,s2,s3,rfl⟩:=aA hown5;have HO5:=aa hown5;have H5:=aa hb5;have hs6:=hb5.size;have Bx5:=upK Bx hb5;obtain⟨x0,x1,x2,x3,x4,x5,x6,x7⟩:=cs8 Bx5;clear hown5 hgr5 hb5 HOW
   go_wp2_with (first|(at_builtin;refine ar rfl _ _ 25 rfl q2.w.heap.size 38 i5 (Zc #[I ⟨#[]⟩,Y7 Y6 0,I ⟨#[]⟩,I ⟨#[]⟩,Y9 Y_,I ⟨#[]⟩,Y9 Y_,J U 0 0]) 8 112 Tryz.underlying25 HI0.1 HI0.2.1 HI0.2.2.1 HI0.2.2.2 rfl ag _ _ _ rfl (HO5.alloc _) _ 1 _ [I x.n,Y7 Y6 x.c,I x.z,I x.k,Y9 x.x,I x.m,Y9 x.y,J va vl vc] rfl rfl (λj u hu=>⟨_,rfl,by rw[Yn,Yq,an (heap_alloc_new w5 _)];simpa using hu⟩) dx bj af bL ?_))
   intro v6 w6 hown6 hgr6;have hb6:=(H5.alloc H5.size _).grown hgr6 bL (λg hg=>(HO5.lt g hg).1);obtain⟨r1,r2,r3,rfl⟩:=aA hown6;have HO6:=aa hown6;have H6:=aa hb6;have hs7:=hb6.size;clear hown6 hgr6 hb6 x0 x1 x2 x3 x4 x5 x6 x7
   go_wp2_with (first|(at_builtin;refine ar rfl _ _ 25 rfl q2.w.heap.size 38 i5 (Zc #[I ⟨#[]⟩,Y7 Y6 0,I ⟨#[]⟩,I ⟨#[]⟩,Y9 Y_,I ⟨#[]⟩,Y9 Y_,J U 0 0]) 8 112 Tryz.underlying25 HI0.1 HI0.2.1 HI0.2.2.1 HI0.2.2.2 rfl ag _ _ _ rfl (HO6.out) _ (0 - 0) _ (vss.drop 0).flatten rfl jP (λj u hu=>by first|(rw[Yx af] at hu;simp at hu;done)|(obtain⟨g,e,hgl,h3⟩:=HCQ.out _ _ (cV HVA.out af hu);cases e <;> exact⟨_,rfl,by simp only[Yn,Yq];exact (ai H6.out hgl).trans h3⟩)) (aD HV1.out 0).2 bj af af ?_))
   intro v7 w7 hown7 hgr7;have hb7:=H6.grown hgr7 af (λg hg=>(HO6.lt g hg).1)
   replace hown7:w7.ownsRow q2.w.heap.size 38 8 v7 (1) (aR 0 [I x.n,Y7 Y6 x.c,I x.z,I x.k,Y9 x.x,I x.m,Y9 x.y,J va vl vc] vss).flatten:=by
    have e9:0+1+(0 - 0)=1:=af
    try rw[e9] at hown7
    simpa[aR] using hown7
   have HB7:=upB HB hb7;obtain⟨a',c',rfl,hR⟩:=HFIN.out w7 v7 q2.w.heap.size 0 HPL.out HB.size HB7.out hown7;have HR7:=aa hR;clear hown7 hgr7 hb7 hR hik hkn hcap
   go_wp2
   go_ret
   exact⟨a',c',rfl,HR7.out,HB7.out⟩)
 by_cases hcap:n=k;all_goals (
  go_wp2_with (first|(at_builtin;refine ar rfl _ _ 25 rfl q2.w.heap.size 38 i5 (Zc #[I ⟨#[]⟩,Y7 Y6 0,I ⟨#[]⟩,I ⟨#[]⟩,Y9 Y_,I ⟨#[]⟩,Y9 Y_,J U 0 0]) 8 112 Tryz.underlying25 HI0.1 HI0.2.1 HI0.2.2.1 HI0.2.2.2 rfl ag _ _ _ rfl (HOW.out) _ k _ (vss.take k).flatten rfl (bw HVA.out af) (λj u hu=>by obtain⟨g,e,hgl,h3⟩:=HCQ.out _ _ (cD hu);cases e <;> exact⟨_,rfl,by simp only[Yn,Yq];exact (ai (ak q2.w _) hgl).trans h3⟩) (aD HV1.out k).1 bj af aG ?_))
  intro v5 w5 hown5 hgr5
  replace hown5:w5.ownsRow q2.w.heap.size 38 8 v5 k (vss.take k).flatten:=dN
  have hb5:=(ak q2.w (Y8 #[] 38)).grown hgr5 aG (λg hg=>by simp[YL] at hg;omega);obtain⟨s1,s2,s3,rfl⟩:=aA hown5;have HO5:=aa hown5;have H5:=aa hb5;have hs6:=hb5.size;have Bx5:=upK Bx hb5;obtain⟨x0,x1,x2,x3,x4,x5,x6,x7⟩:=cs8 Bx5;clear hown5 hgr5 hb5 HOW
  go_wp2_with (first|(at_builtin;refine ar rfl _ _ 25 rfl q2.w.heap.size 38 i5 (Zc #[I ⟨#[]⟩,Y7 Y6 0,I ⟨#[]⟩,I ⟨#[]⟩,Y9 Y_,I ⟨#[]⟩,Y9 Y_,J U 0 0]) 8 112 Tryz.underlying25 HI0.1 HI0.2.1 HI0.2.2.1 HI0.2.2.2 rfl ag _ _ _ rfl (HO5.alloc _) _ 1 _ [I x.n,Y7 Y6 x.c,I x.z,I x.k,Y9 x.x,I x.m,Y9 x.y,J va vl vc] rfl rfl (λj u hu=>⟨_,rfl,by rw[Yn,Yq,an (heap_alloc_new w5 _)];simpa using hu⟩) dx bj af bL ?_))
  intro v6 w6 hown6 hgr6;have hb6:=(H5.alloc H5.size _).grown hgr6 bL (λg hg=>(HO5.lt g hg).1);obtain⟨r1,r2,r3,rfl⟩:=aA hown6;have HO6:=aa hown6;have H6:=aa hb6;have hs7:=hb6.size;clear hown6 hgr6 hb6 x0 x1 x2 x3 x4 x5 x6 x7
  go_wp2_with (first|(at_builtin;refine ar rfl _ _ 25 rfl q2.w.heap.size 38 i5 (Zc #[I ⟨#[]⟩,Y7 Y6 0,I ⟨#[]⟩,I ⟨#[]⟩,Y9 Y_,I ⟨#[]⟩,Y9 Y_,J U 0 0]) 8 112 Tryz.underlying25 HI0.1 HI0.2.1 HI0.2.2.1 HI0.2.2.2 rfl ag _ _ _ rfl (HO6.out) _ (l - k) _ (vss.drop k).flatten rfl jP (λj u hu=>by first|(rw[Yx af] at hu;simp at hu;done)|(obtain⟨g,e,hgl,h3⟩:=HCQ.out _ _ (cV HVA.out af hu);cases e <;> exact⟨_,rfl,by simp only[Yn,Yq];exact (ai H6.out hgl).trans h3⟩)) (aD HV1.out k).2 bj af af ?_))
  intro v7 w7 hown7 hgr7;have hb7:=H6.grown hgr7 af (λg hg=>(HO6.lt g hg).1)
  replace hown7:w7.ownsRow q2.w.heap.size 38 8 v7 (l+1) (aR k [I x.n,Y7 Y6 x.c,I x.z,I x.k,Y9 x.x,I x.m,Y9 x.y,J va vl vc] vss).flatten:=by
   have e9:k+1+(l - k)=l+1:=af
   try rw[e9] at hown7
   simpa[aR] using hown7
  have HB7:=upB HB hb7;obtain⟨a',c',rfl,hR⟩:=HFIN.out w7 v7 q2.w.heap.size k HPL.out HB.size HB7.out hown7;have HR7:=aa hR;clear hown7 hgr7 hb7 hR hik hkn hcap
  go_wp2
  go_ret
  exact⟨a',c',rfl,HR7.out,HB7.out⟩)):p:=h
theorem agd(h:p:=by
 have z703z:=@aa _ @V1;exact lz):p:=h
theorem agc(h:p:=by
 have z703z:=@aa _ @V0;exact lz):p:=h
theorem agb(h:p:=by
 have z661z:=@aa _ @WD;exact y9):p:=h
theorem aga(h:p:=by
 have z661z:=@aa _ @WC;exact y9):p:=h
theorem af_(h:p:=by
 have z703z:=@aa _ @VZ;exact lz):p:=h
theorem af9(h:p:=by
 have z703z:=@aa _ @VY;exact lz):p:=h
theorem aeF(h:p:=by
 have z1372z:=@aa _ @IS;exact s9):p:=h
theorem aeE(h:p:=by
 have z1372z:=@aa _ @IQ;exact s9):p:=h
theorem aeD(h:p:=by
 go_wp2;exact bodyPost_ret (v:=Zg #[I ⟨#[]⟩,Y7 Y6 7]) z_ rfl (Zd ⟨HNO.out,Ze ⟨7,by decide,Zd (Ze ⟨HMV.out,HH.out,rfl⟩),rfl,HBW.trans (HWY.mono HBW.size)⟩⟩)):p:=h
theorem aeC(h:p:=by
 go_wp2;exact bodyPost_ret (v:=Zg #[I ⟨#[]⟩,Y7 Y6 9]) z_ rfl (Zd ⟨HNO.out,Ze ⟨9,by decide,Zd (Zd ⟨HMV.out,HH.out,by omega,rfl⟩),rfl,HBW.trans (HWY.mono HBW.size)⟩⟩)):p:=h
theorem lK(h:p:=by
 refine Grow.done ?_;intro q wy hW hf;simp only[YI] at hf;obtain⟨h13,h103,h102,h101,h100,h99,h98,h97,h96,h95,h94,h93,h92,h91,-⟩:=hf;have HWY:=aa hW;clear hW;refine hK0 _ _ ?_;simp only[aM,YT,Act.put,Yt,YC,YE,h13,h103,h102,h101,h100,h99,h98,h97,h96,h95,h94,h93,h92,h91];clear hK0;exact z210z):p:=h
theorem aec(h:p:=by
 replace Bk:=upK Bk hb2;replace HL2:=aa (HL2.below hb2);replace HB:=upB HB hb2;clear hb2;clear hW HCS HBW;have HTX:=aa (Yb htx (Yb hri2 hmm2));have hxz:=HTx.1;clear htx hri2 hmm2;obtain⟨k0,k1,k2,k3,k4,k5⟩:=cs6 Bk;go_wp2;refine⟨⟨k+1,sa,sl,sc,zs2,by omega,by go_num,rfl,⟨HTX.1,HTX.2.1,λs=>?_,by omega⟩,HL.trans (HL2.out.mono (by have h8:=HL.size;rw[cw] at h8;exact h8))⟩,by simp[intOf];omega⟩;rw[HTX.2.2,HQ.2.2.1,PBs.yes HXx.out HHE.out]):p:=h
theorem aeb(h:p:=by
 have hV5:=aw.aiq HO.v HWY.out HJR.out (i:=5) rfl x.n hxz;have f1:=aw.bR (i:=j*8+5) (v:=I x.n) HO.n HWY.out HVB.out ag ag;have f2:=aw.bR (i:=j*8+5) (v:=I x.n) HO.k HWY.out HVB.out ag ag;have f4:=aw.bR (i:=j*8+5) (v:=I x.n) HO.x HWY.out HVB.out ag ag;have f5:=aw.bR (i:=j*8+5) (v:=I x.n) HO.p HWY.out HVB.out ag ag;have hK5:aI S w (wy.setCell ⟨gv,j*8+5,U⟩ (I x.n)):=(aI.dE HWY.out).set HVS.out;have hB5:(wy.setCell ⟨gv,j*8+5,U⟩ (I x.n)).heap[b]?=_:=(Ya _ _ _ _ (show b≠gv from λe=>hvb e.symm)).trans Bc3.out;have hx5:(wy.setCell ⟨gv,j*8+5,U⟩ (I x.n)).heap[gx]?=Y5 (Y8 curx 50 (0,0)):=(Ya _ _ _ _ (show gx≠gv from λe=>by have h1:=HXB.out;have h2:=HVB.out;rw[e,h2] at h1;simp at h1)).trans ((HWY.block _ (ae HXB.out)).trans HXB.out);obtain⟨cur5,hv5b⟩:∃cur5,(wy.setCell ⟨gv,j*8+5,U⟩ (I x.n)).heap[gv]?=Y5 (Y8 cur5 38 (0,0)):=⟨_,av ((HWY.block _ (ae HVB.out)).trans HVB.out) _⟩;clear hcz hfz;obtain⟨W5,hW5⟩:∃W5,W5=wy.setCell ⟨gv,j*8+5,U⟩ (I x.n):=⟨_,rfl⟩;rw[<-hW5] at hV5 f1 f2 f4 f5 hK5 hB5 hx5 hv5b ⊢;have HV5:=aa hV5;have HF5:=aa (Yb f1 (Yb f2 (Yb f4 f5)));have HK5:=aa hK5;have Bc5:=aa hB5;have HX5:=aa hx5;have HVB5:=aa hv5b;have hjl5:j<l3:=af
 obtain⟨b5,o5,v5,e5,hbl5,hx5',hat5⟩:=bK (xs:=c.vs.set j (bdV u x.n)) (by rw[List.map_set];exact hV5.row) hjl5;cases e5;rw[dW hjl,if_pos rfl] at hx5';obtain rfl:=Yd hx5';obtain⟨va5,vl5,vc5,-,-,-,-,-,cn5,-,-,-,-,-,-,-⟩:=aW hat5;rw[Yq] at cn5;have HCN5:Hid (W5.cell? ⟨gv,j*8,U⟩=Y5 (I u.n)):=cn5;clear hW5 hV5 f1 f2 f4 f5 hK5 hB5 hx5 hat5 cn5 hbl5 hx5' hv5b;go_wp2_with fail;have z1354z:=@aa _ @I6;exact jL):p:=h
theorem aea(h:p:=by
 clear hcz hfz;have hX9:=aw.aiq HF8.2.2.2.1 HWU.out HIR.out (i:=4) rfl (aN++x.n) hZ0;have f1:=aw.bR (i:=i*5+4) (v:=I (aN++x.n)) HF8.1 HWU.out HX8.out ag ag;have f2:=aw.bR (i:=i*5+4) (v:=I (aN++x.n)) HF8.2.1 HWU.out HX8.out ag ag;have f3:=aw.bR (i:=i*5+4) (v:=I (aN++x.n)) HF8.2.2.1 HWU.out HX8.out ag ag;have f5:=aw.bR (i:=i*5+4) (v:=I (aN++x.n)) HF8.2.2.2.2 HWU.out HX8.out ag ag;have hK9:aI (λk=>S k\/k=b) w (wu.setCell ⟨gx,i*5+4,U⟩ (I (aN++x.n))):=(HK8.below HWU.out).set (Ze HGS.out);have hB9:(wu.setCell ⟨gx,i*5+4,U⟩ (I (aN++x.n))).heap[b]?=_:=(Ya _ _ _ _ (show b≠gx from λe=>hgb e.symm)).trans Bc9.out;have hv9b:(wu.setCell ⟨gx,i*5+4,U⟩ (I (aN++x.n))).heap[w5.heap.size]?=_:=(Ya _ _ _ _ (show w5.heap.size≠gx by omega)).trans Bv9.out;obtain⟨W9,hW9⟩:∃W9,W9=(wu.setCell ⟨gx,i*5+4,U⟩ (I (aN++x.n))):=⟨_,rfl⟩;rw[<-hW9] at hX9 f1 f2 f3 f5 hK9 hB9 hv9b ⊢;have HA9:Hid (df W9 ⟨a1,l1,y1,Y5 ⟨gk,0,U⟩,l2,y2,q3,m3,z3,Y5 ⟨gx,0,U⟩,l4,y4,a5,l5,y5⟩ (ew c i x (cO t kc.z)).raw (λk=>S k\/w.heap.size<=k)):=by
  exact akw
 have HK9:=aa hK9;have HB9:=aa hB9;clear hW9 hX9 f1 f2 f3 f5 hK9 hB9;obtain⟨v0,v1,v2,v3,v4,v5,v6,v7⟩:=cs8 hv9b;have hvl9:=ae hv9b;clear hv9b;go_wp2;exact bodyPost_ret (v:=Zg #[I (aN++x.n),Y7 Y6 0]) z_ rfl (Zd ⟨HNO.out,Zd ⟨HMV.out,HH.out,by omega,rfl,q3,m3,z3,HB9.out,HA9.out,HK9.out⟩⟩)):p:=h
theorem ad8(h:p:=by
 go_loop [5] (λi=> ∃k:Nat,k<=len/\i=Y7 Y6 k/\Hid (∀(j:Nat) y,j<k->zs[j]?=Y5 y->Yk y.toList t.toList=Zb)) (λi=>len - (intOf i).toNat);case atStart=>exact⟨0,by omega,rfl,λj y hj=>by omega⟩
 case round=>
  obtain⟨k,hk,rfl,HE⟩:=hrel;by_cases hlt:k<len
  ·obtain⟨b,o,x,rfl,hb,hx,hc,hsz⟩:=HR.at hlt;have HX:=aa hx;clear hx hsz;have hk1:(k:Int)<len:=af
   cases hless:Yk x.toList t.toList
   ·by_cases he:x=t
    ·have HP:Hid (Put t zs zs):=Ze ⟨he ▸ Ys HX.out,rfl⟩;have hq:=aP he;clear he;go_wp2;go_ret;exact⟨_,_,_,_,rfl,HR.out,HP.out,HW.out⟩
    have z783z:=@aa _ @U0;exact yN
   ·exact Ql
  ·obtain⟨hk1,HP⟩:=Of;obtain⟨HOW,hik,hkn⟩:=Oa;rcases a with _|⟨b,o,sp⟩
   ·have hl0:len=0:=YH λhne0=>by
     exact PT
    obtain rfl:k=0:=af
    subst hl0;by_cases hcap:cap=0;all_goals (
     go_wp2_with (first|(at_builtin;refine aE rfl _ _ 36 rfl w.heap.size 9 i0 (I ⟨#[]⟩) 1 16 Tryz.underlying36 HI0.1 HI0.2.1 HI0.2.2.1 HI0.2.2.2 rfl ag _ _ _ rfl (HOW.out) _ 0 _ ((zs.take 0).map Ym) rfl oN (λj u hu=>by rw[List.map_take] at hu;obtain⟨g9,o9,e,hgl,h3⟩:=HC.out j u (fs hu);cases e <;> exact⟨_,rfl,by simp only[Yn];exact (ai (ak w _) hgl).trans h3⟩) (HON.out _) bj af aG ?_))
     intro v5 w5 hown5 hgr5
     replace hown5:w5.ownsRow w.heap.size 9 1 v5 0 ((zs.take 0).map Ym):=dN
     have hb5:=(ak w (Y8 #[] 9)).grown hgr5 aG (λg hg=>by simp[YL] at hg;omega);obtain⟨s1,s2,s3,rfl⟩:=aA hown5;have HO5:=aa hown5;have H5:=aa hb5;have hs5:=hb5.size;clear hown5 hgr5 hb5 HOW
     go_wp2_with (first|(at_builtin;refine aE rfl _ _ 36 rfl w.heap.size 9 i0 (I ⟨#[]⟩) 1 16 Tryz.underlying36 HI0.1 HI0.2.1 HI0.2.2.1 HI0.2.2.2 rfl ag _ _ _ rfl (HO5.alloc _) _ 1 _ [I t] rfl rfl (λj u hu=>⟨_,rfl,by rw[Yn,Yq,an (heap_alloc_new w5 _)];simpa using hu⟩) dx bj af bL ?_))
     intro v6 w6 hown6 hgr6;have hb6:=(H5.alloc H5.size _).grown hgr6 bL (λg hg=>(HO5.lt g hg).1);obtain⟨r1,r2,r3,rfl⟩:=aA hown6;have HO6:=aa hown6;have H6:=aa hb6;have hs6:=hb6.size;clear hown6 hgr6 hb6
     go_wp2_with (first|(at_builtin;refine aE rfl _ _ 36 rfl w.heap.size 9 i0 (I ⟨#[]⟩) 1 16 Tryz.underlying36 HI0.1 HI0.2.1 HI0.2.2.1 HI0.2.2.2 rfl ag _ _ _ rfl (HO6.out) _ (0 - 0) _ ((zs.drop 0).map Ym) rfl oM (λj u hu=>by first|(rw[Yx af] at hu;simp at hu;done)|(rw[List.map_drop,List.getElem?_drop] at hu;obtain⟨g9,o9,e,hgl,h3⟩:=HC.out _ u hu;cases e <;> exact⟨_,rfl,by simp only[Yn,Nat.add_assoc];exact (ai H6.out hgl).trans h3⟩)) (HON.out _) bj af af ?_))
     intro v7 w7 hown7 hgr7;have hb7:=H6.grown hgr7 af (λg hg=>(HO6.lt g hg).1)
     replace hown7:w7.ownsRow w.heap.size 9 1 v7 (0+1) ((zs.take 0++[t]++zs.drop 0).map Ym):=by
      have e9:0+1+(0 - 0)=0+1:=af
      try rw[e9] at hown7
      simpa using hown7
     obtain⟨a',p',rfl,hT⟩:=bS.fo hown7 (HZS.out 0);have HT7:=aa hT;have HB7:=aa hb7;clear hown7 hgr7 hb7 hT hik hkn
     go_wp2
     go_ret
     exact⟨_,_,_,_,rfl,HT7.row,HP.out,HB7.out⟩)
   by_cases hcap:cap=k;all_goals (
    go_wp2_with (first|(at_builtin;refine aE rfl _ _ 36 rfl w.heap.size 9 i0 (I ⟨#[]⟩) 1 16 Tryz.underlying36 HI0.1 HI0.2.1 HI0.2.2.1 HI0.2.2.2 rfl ag _ _ _ rfl (HOW.out) _ k _ ((zs.take k).map Ym) rfl oN (λj u hu=>by rw[List.map_take] at hu;obtain⟨g9,o9,e,hgl,h3⟩:=HC.out j u (fs hu);cases e <;> exact⟨_,rfl,by simp only[Yn];exact (ai (ak w _) hgl).trans h3⟩) (HON.out _) bj af aG ?_))
    intro v5 w5 hown5 hgr5
    replace hown5:w5.ownsRow w.heap.size 9 1 v5 k ((zs.take k).map Ym):=dN
    have hb5:=(ak w (Y8 #[] 9)).grown hgr5 aG (λg hg=>by simp[YL] at hg;omega);obtain⟨s1,s2,s3,rfl⟩:=aA hown5;have HO5:=aa hown5;have H5:=aa hb5;have hs5:=hb5.size;clear hown5 hgr5 hb5 HOW
    go_wp2_with (first|(at_builtin;refine aE rfl _ _ 36 rfl w.heap.size 9 i0 (I ⟨#[]⟩) 1 16 Tryz.underlying36 HI0.1 HI0.2.1 HI0.2.2.1 HI0.2.2.2 rfl ag _ _ _ rfl (HO5.alloc _) _ 1 _ [I t] rfl rfl (λj u hu=>⟨_,rfl,by rw[Yn,Yq,an (heap_alloc_new w5 _)];simpa using hu⟩) dx bj af bL ?_))
    intro v6 w6 hown6 hgr6;have hb6:=(H5.alloc H5.size _).grown hgr6 bL (λg hg=>(HO5.lt g hg).1);obtain⟨r1,r2,r3,rfl⟩:=aA hown6;have HO6:=aa hown6;have H6:=aa hb6;have hs6:=hb6.size;clear hown6 hgr6 hb6
    go_wp2_with (first|(at_builtin;refine aE rfl _ _ 36 rfl w.heap.size 9 i0 (I ⟨#[]⟩) 1 16 Tryz.underlying36 HI0.1 HI0.2.1 HI0.2.2.1 HI0.2.2.2 rfl ag _ _ _ rfl (HO6.out) _ (len - k) _ ((zs.drop k).map Ym) rfl oM (λj u hu=>by first|(rw[Yx af] at hu;simp at hu;done)|(rw[List.map_drop,List.getElem?_drop] at hu;obtain⟨g9,o9,e,hgl,h3⟩:=HC.out _ u hu;cases e <;> exact⟨_,rfl,by simp only[Yn,Nat.add_assoc];exact (ai H6.out hgl).trans h3⟩)) (HON.out _) bj af af ?_))
    intro v7 w7 hown7 hgr7;have hb7:=H6.grown hgr7 af (λg hg=>(HO6.lt g hg).1)
    replace hown7:w7.ownsRow w.heap.size 9 1 v7 (len+1) ((zs.take k++[t]++zs.drop k).map Ym):=by
     have e9:k+1+(len - k)=len+1:=af
     try rw[e9] at hown7
     simpa using hown7
    obtain⟨a',p',rfl,hT⟩:=bS.fo hown7 (HZS.out k);have HT7:=aa hT;have HB7:=aa hb7;clear hown7 hgr7 hb7 hT hik hkn
    go_wp2
    go_ret
    exact⟨_,_,_,_,rfl,HT7.row,HP.out,HB7.out⟩)):p:=h
theorem adE(h:p:=by
 obtain⟨HXx,HTx,HZx0⟩:=gZ;clear hat hx z0 z2 z3 z5 hvr;have hbw:=hb;clear hb;have hk3:(m2:Int)<l3:=af
 have HL2:Hid (Bw wr wr):=Bw.refl _;obtain⟨k0,k1,k2,k3,k4,k5⟩:=cs6 Bk;go_wp2_with fail;refine (bX va vl vc x.zs t _ HTx.out).mono ?_;rintro e w1 ⟨r,rfl,hh,hb2⟩;have hc0:=(ai hb2 hbw).trans c0;clear c0 c1 c2 c3 c4 c5 c6 c7 hbw;clear k0 k1 k2 k3 k4 k5;replace Bk:=upK Bk hb2;replace HL2:=aa (HL2.below hb2);replace HB:=upB HB hb2;clear hb2;cases r
 ·have HHN:Hid (¬InL x.zs t):=λh=>(by have h9:=hh.2 h;cases h9);clear hh;obtain⟨k0,k1,k2,k3,k4,k5⟩:=cs6 Bk;go_wp2;refine⟨⟨m2+1,ca,cl,cc,ys,by omega,by go_num,rfl,⟨HQ.1.below HL2.out,HQ.2.1,λs=>?_,by omega⟩,HL.trans (HL2.out.mono HL.size)⟩,by simp[intOf];omega⟩;rw[HQ.2.2.1,VBs.no HXx.out HHN.out]
 have HHN:Hid (InL x.zs t):=hh.1 bM;clear hh;obtain⟨k0,k1,k2,k3,k4,k5⟩:=cs6 Bk;go_wp2_with fail;refine (ou ca cl cc ys x.n _ (HQ.1.below HL2.out) af HZx0.out).mono ?_;rintro e w2 ⟨sa,sl,sc,zs2,rfl,htx,hput,hb2⟩;clear k0 k1 k2 k3 k4 k5;replace Bk:=upK Bk hb2;replace HL2:=aa (HL2.below hb2);replace HB:=upB HB hb2;clear hb2;have HTX:=aa htx;have HPU:=aa hput;clear htx hput hc0;obtain⟨k0,k1,k2,k3,k4,k5⟩:=cs6 Bk;go_wp2;refine⟨⟨m2+1,sa,sl,sc,zs2,by omega,by go_num,rfl,⟨HTX.out,HPU.ris HQ.2.1,λs=>?_,by have h9:=HPU.len;omega⟩,HL.trans (HL2.out.mono HL.size)⟩,by simp[intOf];omega⟩;rw[HPU.mem,HQ.2.2.1,VBs.yes HXx.out HHN.out,or_assoc]):p:=h
theorem adv(h:p:=by
 clear hf;obtain⟨x0,x1,x2,x3,x4⟩:=cs5 ((hW.block _ (ae BxW.out)).trans BxW.out);exact aK):p:=h
theorem adn(h:p:=by
 refine (fM l3 8 af _).mono ?_;rintro e w6 ⟨rfl,hb6⟩;exact hK _ _ hb6 rfl):p:=h
theorem adm(h:p:=by
 refine (jo l3 8 h8 _).mono ?_;rintro e w6 ⟨rfl,hb6⟩;exact hK _ _ hb6 rfl):p:=h
theorem adl(h:p:=by
 refine (eZ l3 8 _).mono ?_;rintro e w6 ⟨rfl,hb6⟩;exact hK _ _ hb6 rfl):p:=h
theorem qh(h:p:=by
 refine Obl.plain rfl ?_;intro ac wg K hsz hW hf hK;clear hsz;have e97:=hf 97 ag;simp[aj,Yf] at e97;have e102:=hf 102 ag;simp[aj,Yf] at e102;clear hf;go_simp;exact z310z):p:=h
theorem ac9(h:p:=by
 clear hf;exact aK):p:=h
theorem acY(h:p:=by
 rintro e w' ⟨hb2,⟨j',v',h1,h2,rfl⟩|⟨hno,rfl⟩⟩
 ·obtain⟨rfl,_⟩:=hT.2.1.2.2.1.2.2.inj h1 hv (h2.name hT.2.1.2.2.2.1.2.2 hb);exact⟨rfl,hb2⟩
 ·exact absurd hb (hno v)):p:=h
theorem acX(h:p:=by
 rintro e w' ⟨hb2,⟨j',v',h1,h2,rfl⟩|⟨_,rfl⟩⟩
 ·exact absurd h2 (hno v')
 ·exact⟨rfl,hb2⟩):p:=h
theorem acC(h:p:=by
 have hnl:∀zs,¬.l zs=f:=λzs e=>by subst e;cases hv
 have back:∀(j':Nat) r' (i':Nat) zs',(rs.set j (r.set i f))[j']?=Y5 r'->r'[i']?=Y5 (.l zs')->∃r0,(rs.set j r)[j']?=Y5 r0/\r0[i']?=Y5 (.l zs'):=by
  intro j' r' i' zs' hj' hi';rcases eO h3 hil hj' hi' with ⟨_,_,e⟩|⟨_,q⟩
  ·exact absurd e (hnl _)
  ·exact q
 refine⟨⟨cur.setIfInBounds (j*m+i) v,H,⟨av h1.blk v,h1.inS,lr h3 h1.len,λj' r' hj' i' f' hi'=>?_,λj' r' i' zs' j2 r2 i2 zs2 hj' hi' hz' hj2 hi2 hz2 hH=>?_⟩,λj' r' i' zs' hj' hi' hz'=>?_⟩,h2.set h1.inS,h3⟩
 ·rcases eO h3 hil hj' hi' with ⟨rfl,rfl,rfl⟩|⟨hne,r0,q1,q2⟩
  ·exact⟨v,by rw[Array.getElem?_setIfInBounds_self_of_lt hin],Fv.Own.akL hv hf⟩
  ·exact Ot
 ·obtain⟨r0,b1,b2⟩:=back j' r' i' zs' hj' hi';obtain⟨r3,b3,b4⟩:=back j2 r2 i2 zs2 hj2 hi2;exact h1.inj j' r0 i' zs' j2 r3 i2 zs2 b1 b2 hz' b3 b4 hz2 hH
 ·obtain⟨r0,b1,b2⟩:=back j' r' i' zs' hj' hi';exact hN j' r0 i' zs' b1 b2 hz'):p:=h
theorem zK(h:p:=by
 have hget:=h.get;obtain⟨⟨cur,H,h1,hN⟩,h2,h3⟩:=h;have hil:i<r.length:=(Yc.1 hi).1;have hrm:=h1.len j r hget;obtain⟨v0,hc0,-⟩:=h1.cell j r hget i _ hi;have hin:j*m+i<cur.size:=(Yw.1 hc0).1;exact z371z):p:=h
theorem ack(h:p:=by
 refine⟨v',List.mem_filter.2 ⟨Ys h3,?_⟩,rfl⟩;unfold onB;rw[Bool.or_eq_true];refine Zd (dO.2 ⟨j,p,hp,hd,k,?_⟩);rw[hk,k6,h2]):p:=h
theorem acj(h:p:=by
 exact⟨jv,v',h3,rfl,k,by rw[hk,k6,h2]⟩):p:=h
theorem zF(h:p:=by
 have hne:¬x.v=⟨#[]⟩:=by rw[<-h4];exact lM (hT.2.1.2.2.1.2.1 jv v h3).1
 obtain⟨i',j',x',v',k1,k2,k3,k4,k5,k6,_⟩:=(hT.2.2.1.2 i x h1).2.resolve_left hne;obtain⟨_,rfl⟩:=hv.inj k3 h3 (k4.trans h4.symm);exact z394z):p:=h
theorem ace(h:p:=by
 refine (ij ⟨a1,l1,y1,Y5 ⟨gk,0,U⟩,l2,y2,a3,l3,y3,Y5 ⟨gx,0,U⟩,l4,y4,a5,l5,y5⟩ c.now c.vs (aN++x.n) _ (HO.v.row.below (HBW.trans (hW.mono HBW.size))) (λj9 v9 h9 e9=>by have h7:=(bo HT.2.1.2.2.1.2.2 h9 e9).2;rw[HH.out] at h7;cases h7)).mono ?_;rintro e w6 ⟨rfl,hb6⟩;exact hK _ _ hb6 rfl):p:=h
theorem acd(h:p:=by
 refine (dZ ⟨a1,l1,y1,Y5 ⟨gk,0,U⟩,l2,y2,a3,l3,y3,Y5 ⟨gx,0,U⟩,l4,y4,a5,l5,y5⟩ c.now c.vs (aN++x.n) _ (HO.v.row.below (HBW.trans (hW.mono HBW.size))) HT.2.1.2.2.1.2.2 HU.1 HU.2).mono ?_;rintro e w6 ⟨rfl,hb6⟩;exact hK _ _ hb6 rfl):p:=h
theorem zC(h:p:=by
 refine Obl.plain rfl ?_;intro ac wg K hsz hW hf hK;clear hsz;have e93:=hf 93 ag;simp[aj,Yf] at e93;have e95:=hf 95 ag;simp[aj,Yf] at e95;clear hf;go_simp;exact z403z):p:=h
theorem ab6(h:p:=by
 have:=List.all_eq_true.1 this d hd;have:=List.all_eq_true.1 this i (List.mem_range.2 hi);rw[hp] at this;simp only[hpd,bne_self_eq_false,Bool.false_or,YG,decide_eq_true_eq] at this;exact Pg):p:=h
theorem abR(h:p:=by
 unfold onB at h3;rw[Bool.or_eq_true] at h3;rcases h3 with h3|h3
 ·exact Zd ⟨jv,v,(Yc.1 hj).1,hj,eE.1 h3,rfl⟩
 ·obtain⟨j,p,hp,hd,k,hk⟩:=dO.1 h3;have hz:=(hT.2.1.2.2.2.2.2.1 j p hp).2.2.2.1.2;have hne:=lM (hz k v.m hk).1;obtain⟨i',j',x',v',k1,k2,k3,k4,k5,k6,_⟩:=(hT.2.2.1.1 jv v hj).2.resolve_left hne;exact Ze ⟨j,p,(Yc.1 hp).1,hp,hd,k,v.m,v,hk,⟨i',jv,x',k1,k2,hj,k5.symm⟩,rfl⟩):p:=h
theorem abQ(h:p:=by
 unfold onB at h3;rw[Bool.or_eq_true] at h3;rcases h3 with h3|h3
 ·exact Ze (Zd ⟨jv,v,(Yc.1 hj).1,hj,eE.1 h3,rfl⟩)
 ·obtain⟨k,q,hq,hw⟩:=dO.1 h3;rcases dn hp hq with ⟨-,rfl⟩|⟨-,hq⟩
  ·exact Zd ⟨jv,v,hj,rfl,hw.2⟩
  ·exact Ze (Ze ⟨jv,v,hj,rfl,k,q,hq,hw⟩)):p:=h
theorem pW(h:p:=by
 rintro⟨v,h1,rfl⟩;obtain⟨h2,h3⟩:=List.mem_filter.1 h1;obtain⟨jv,hj⟩:=YD h2;exact z437z):p:=h
theorem abO(h:p:=by
 by_cases e:j=k
 ·subst e;rw[HX.out] at hz;obtain rfl:=Yd hz;exact λh=>h.1 H0.out
 ·exact HE.out j z af hz):p:=h
theorem abN(h:p:=by
 by_cases e:j=k
 ·subst e;rw[HX.out] at hz;obtain rfl:=Yd hz;exact λh=>h.2.1 H1.out
 ·exact HE.out j z af hz):p:=h
theorem zr(h:p:=by
 go_wp2;refine⟨⟨k+1,by omega,by go_num,λj z hj hz=>?_,HB.alloc HB.size _,(Yl _ _ _ ltk).trans Bk.out⟩,by simp[intOf];omega⟩;exact z441z):p:=h
theorem aaO(h:p:=by
 have hv8:(wx.setCell ⟨b,2,U⟩ (J q3 m3 z3)).heap[w5.heap.size]?=Y5 (Y8 #[I (aN++x.n),Y7 Y6 x.z,I kc.z,I x.k,Y9 x.x,I x.n,Y9 Y_,J U 0 0] 38 (0,0)):=(Ya _ _ _ _ (show w5.heap.size≠b by omega)).trans Bv7.out;exact Px):p:=h
theorem aaN(h:p:=by
 have hv8:(wx.setCell ⟨b,2,U⟩ (J q3 m3 z3)).heap[w5.heap.size]?=Y5 (Y8 #[I (aN++x.n),Y7 Y6 x.z,I t,I x.k,Y9 x.x,I x.n,Y9 Y_,J U 0 0] 38 (0,0)):=(Ya _ _ _ _ (show w5.heap.size≠b by omega)).trans Bv7.out;exact Px):p:=h
theorem zm(h:p:=by
 refine Grow.done ?_;intro q wx hW hf;simp only[YI] at hf;obtain⟨h115,h114,h113,h112,h111,h110,h109,h108,h107,-⟩:=hf;obtain⟨q3,m3,z3,hv113,ho7⟩:=h113;have HO7:=aa ho7;have HWX:=upB HB6 hW;have Bc7:=upK Bc6 hW;have Bv7:=upK Bv6 hW;obtain⟨k0,k1,k2,k3,k4,k5⟩:=cs6 Bc7;have hfz:=al Bc7.out 2;have hbl7:=ae Bc7.out;clear ho7 hW;intro K hK;rw[if_pos (by rfl)];simp only[aM,YT,Act.put,Yt,YC,YE,h115,h114,h112,h111,h110,h109,h108,h107,hv113];have z969z:=@aa _ @Sl;exact ir):p:=h
theorem aal(h:p:=by
 have HR:=aa hr;have HT:=aa hT;have HP:=aa hp;have hpl:=hp.1;have hzl:=hz.1;have HZ0:=aa hz;have HRI:=aa hri;have hll:c.vs.length=l3:=uq
 clear hr hT hp hz hri;go_enter Tryz.func166,Tryz.ntmps166;go_wp2;go_loopw [1,7] (λvl0 vi wr=> ∃(k:Nat) (ca:Option Addr) (cl cc:Nat) (ys:List ByteArray),k<=vl/\vi=Y7 Y6 k/\vl0=J ca cl cc/\Hid (az wr ca cl cc ys/\RT ys/\(∀s,s∈ys↔s∈zs\/iH c (p.zs.take k) s)/\ys.length<=zs.length+k)/\Hid (Below ((w.alloc (Y8 #[J a1 l1 y1,J a2 l2 y2,J a3 l3 y3,J a4 l4 y4,J a5 l5 y5,Y7 Y6 c.now] 29)).alloc (Y8 #[I p.n,Y7 Y6 p.c,I p.z,J va vl vc,I p.d,Y7 Y6 p.p] 40)).heap.size ((w.alloc (Y8 #[J a1 l1 y1,J a2 l2 y2,J a3 l3 y3,J a4 l4 y4,J a5 l5 y5,Y7 Y6 c.now] 29)).alloc (Y8 #[I p.n,Y7 Y6 p.c,I p.z,J va vl vc,I p.d,Y7 Y6 p.p] 40)) wr)) (λ_ vi _=>vl - (intOf vi).toNat);case atStart=>exact⟨0,a,len,cap,zs,by omega,rfl,rfl,⟨HZ0.below (aS _ _ _),HRI.out,λs=>⟨Ze,λh=>h.elim id (λ⟨j,t,v,h,_⟩=>by simp at h)⟩,by omega⟩,Yh _ _⟩
 case round=>
  obtain⟨k,ca,cl,cc,ys,hk,rfl,rfl,HQ,HL⟩:=hrel;have hb0:=HL.out;obtain⟨HA0,HA1,hbx⟩:=dP hb0;have Bk:=aa HA0;have Bp:=aa HA1;have HB:=aa hbx;clear hb0 HA0 HA1 hbx;have hyl:=HQ.1.1;have hyb:=HQ.2.2.2;by_cases hlt:k<vl
  ·have hk1:(k:Int)<vl:=af
   obtain⟨b,o,t,rfl,hb,hx,hc,hsz⟩:=(HP.below HB.out).at hlt;have HX:=aa hx;clear hx hsz;have HL2:Hid (Bw wr wr):=Bw.refl _;rcases Classical.em (∃v,aO c t v) with ⟨v,hbd⟩|hno
   ·obtain⟨i9,j,x9,h91,h92,hv,h94⟩:=hbd;have hbd:aO c t v:=⟨i9,j,x9,h91,h92,hv,h94⟩;have HVJ:=aa hv;have HBD:=aa hbd;clear h91 h92 h94 hbd hv;have z1024z:=@aa _ @Nu;exact tY
   ·have HNO:Hid (∀v,¬aO c t v):=λv h=>hno ⟨v,h⟩;clear hno;have z1024z:=@aa _ @Nt;exact tY
  have hk1:¬(k:Int)<vl:=af
  have HQ2:=HQ;rw[YJ (show p.zs.length<=k by omega)] at HQ2;obtain⟨k0,k1,k2,k3,k4,k5⟩:=cs6 Bk;obtain⟨p0,p1,p2,p3,p4,p5⟩:=cs6 Bp;go_wp2;go_ret;exact⟨_,_,_,ys,rfl,HQ2.1,HQ2.2.1,HQ2.2.2.1,by have:=HQ2.2.2.2;omega,HB.out⟩):p:=h
theorem aak(h:p:=by
 have HR:=aa hr;have hl2:c.ks.length=l2:=by simpa using (show (c.ks.map kdF).length=l2 from hr.k.1)
 have z1351z:=@aa _ @I8;exact tg):p:=h
theorem aaj(h:p:=by
 have HR:=aa hr.p;obtain⟨hl5,hm5⟩:=nu;clear hr;go_enter Tryz.func174,Tryz.ntmps174;go_wp2;go_loopw [7] (λi wr=> ∃k:Nat,k<=l5/\i=Y7 Y6 k/\Hid (∀(j:Nat) (p:Pd),j<k->c.ps[j]?=Y5 p->¬OtP p s m)/\Hid (Below w.heap.size w wr)/\Hid (wr.heap[w.heap.size]?=Y5 (Y8 (clo6 a1 l1 y1 a2 l2 y2 a3 l3 y3 a4 l4 y4 a5 l5 y5 c.now) 29 (0,0)))) (λi _=>l5 - (intOf i).toNat);case atStart=>exact⟨0,by omega,rfl,λ_ _ h=>absurd h af,ak _ _,heap_alloc_new _ _⟩
 case round=>
  obtain⟨k,hk,rfl,HE,HB,Bk⟩:=hrel;have ltk:=ae Bk.out;by_cases hlt:k<l5
  ·have hlt2:(k:Int)<(l5:Int):=af
   obtain⟨b,o,p,rfl,hb,hx,hat⟩:=cg (HR.below HB.out) hlt;have z1042z:=@aa _ @M7;exact cK
  ·obtain rfl:l5=k:=af
   have k4:=ck4 Bk;go_wp2;go_ret;exact au.f (λ⟨j,p,hj,hp⟩=>HE.out j p uo hj hp) HB.out):p:=h
theorem XU(h:p:=by
 have z996z:=@aa _ @RZ;exact yq):p:=h
theorem XT(h:p:=by
 have z996z:=@aa _ @RY;exact yq):p:=h
theorem zk(h:p:=by
 have z1080z:=@aa _ @MI;exact ni):p:=h
theorem XR(h:p:=by
 have hX6:=aw.aiq HF5.2.2.1 HWX.out HIR.out (i:=4) rfl u.n huz;have f1:=aw.bR (i:=i*5+4) (v:=I u.n) HF5.1 HWX.out HX5.out ag ag;have f2:=aw.bR (i:=i*5+4) (v:=I u.n) HF5.2.1 HWX.out HX5.out ag ag;have f3:=aw.bR (i:=i*5+4) (v:=I u.n) HV5.out HWX.out HX5.out ag ag;have f5:=aw.bR (i:=i*5+4) (v:=I u.n) HF5.2.2.2 HWX.out HX5.out ag ag;have hK6:aI S w (wx.setCell ⟨gx,i*5+4,U⟩ (I u.n)):=(HK5.below HWX.out).set HGS.out;have hB6:(wx.setCell ⟨gx,i*5+4,U⟩ (I u.n)).heap[b]?=_:=(Ya _ _ _ _ (show b≠gx from λe=>hgb e.symm)).trans Bc6.out;have hc6:(wx.setCell ⟨gx,i*5+4,U⟩ (I u.n)).cell? ⟨gv,j*8,U⟩=Y5 (I u.n):=by
  have h9:=(ai HWX.out (ae HVB5.out)).trans HCN5.out;have hne:¬gv=gx:=λe=>by have h1:=HX5.out;have h2:=HVB5.out;rw[<-e,h2] at h1;simp at h1
  have e9:(wx.setCell ⟨gx,i*5+4,U⟩ (I u.n)).heap[gv]?=wx.heap[gv]?:=Ya _ _ _ _ hne;simp only[World.cell?,e9] at h9 ⊢;exact h9
 clear hcz hfz;obtain⟨W6,hW6⟩:∃W6,W6=wx.setCell ⟨gx,i*5+4,U⟩ (I u.n):=⟨_,rfl⟩;rw[<-hW6] at hX6 f1 f2 f3 f5 hK6 hB6 hc6 ⊢;have HA6:Hid (df W6 ⟨a1,l1,y1,a2,l2,y2,Y5 ⟨gv,0,U⟩,l3,y3,Y5 ⟨gx,0,U⟩,l4,y4,a5,l5,y5⟩ (fK c i j x u).raw S):=⟨f1,f2,by show aw _ _ _ _ _ _ ((c.vs.set j (bdV u x.n)).map vdF) _;rw[List.map_set];exact f3,by show aw _ _ _ _ _ _ ((c.xs.set i (bdX x u.n)).map xdF) _;rw[List.map_set];exact hX6,f5⟩;have HK6:=aa hK6;have HB6:=aa hB6;clear hW6 hX6 f1 f2 f3 f5 hK6;obtain⟨k0,k1,k2,k3,k4,k5⟩:=cs6 hB6;clear hB6;go_wp2;exact bodyPost_ret (v:=Zg #[I u.n,Y7 Y6 0]) (by simp[results,Tryz.results126,go_sem, *]) rfl (Ze ⟨j,u,HSO.out,HJU.out,rfl,HB6.out,HA6.out,HK6.out⟩)):p:=h
theorem WN(h:p:=by
 refine Grow.step (λv _=>v=Y7 Y6 (j9:Nat)) rfl (Fact.dd _) ?_ ?_
 ·exact al9
 refine' Grow.stepC (Y9 Zb) rfl ?_ ?_
 ·exact vZ
 have z1055z:=@aa _ @M1;exact tW):p:=h
theorem WM(h:p:=by
 refine Grow.step (λv _=>v=Y7 Y6 (-1)) rfl (Fact.dd _) ?_ ?_
 ·exact ah6
 refine' Grow.stepC (Y9 Y_) rfl ?_ ?_
 ·exact vZ
 have z1055z:=@aa _ @M0;exact tW):p:=h
theorem zd(h:p:=by
 have z1080z:=@aa _ @MH;exact ni):p:=h
theorem WD(h:p:=by
 have hv:=HVJ.out;have hj3:j<l3:=by have:=(Yc.1 hv).1;omega
 have hj1:(0:Int)<=j:=af
 have hj2:(j:Int)<l3:=af
 obtain⟨b3,o3,y,rfl,hb3,hy,hat⟩:=bK (HR.v.below HB.out) hj3;rw[hv] at hy;obtain rfl:=Yd hy;obtain⟨ya,yl,yc,-,hz0,-,-,-,hc0,-,-,-,-,-,-,-⟩:=aW hat;clear hv hy hat;have z1033z:=@aa _ @Nj;exact gX):p:=h
theorem WC(h:p:=by
 have z1033z:=@aa _ @Ni;exact gX):p:=h
theorem y9(h:p:=by
 have z1066z:=@aa _ @MR;exact nj):p:=h
theorem V1(h:p:=by
 exact⟨⟨i+1,_,by omega,rfl,by go_num,HA.no HV.out HS.out,(q.b.block _ hgl).trans HG.out,HB.trans (q.b.mono HB.size)⟩,by simp[intOf];omega⟩):p:=h
theorem V0(h:p:=by
 exact⟨⟨i+1,_,by omega,rfl,by go_num,dm.first HN.out HV.out HS.out,(q.b.block _ hgl).trans HG.out,HB.trans (q.b.mono HB.size)⟩,by simp[intOf];omega⟩):p:=h
theorem VZ(h:p:=by
 exact⟨⟨i+1,_,by omega,rfl,by go_num,dm.old HU.out HBU.out HV.out HX.out,(q.b.block _ hgl).trans HG.out,HB.trans (q.b.mono HB.size)⟩,by simp[intOf];omega⟩):p:=h
theorem VY(h:p:=by
 exact⟨⟨i+1,_,by omega,rfl,by go_num,dm.new HBU.out HV.out HS.out HX.out,(q.b.block _ hgl).trans HG.out,HB.trans (q.b.mono HB.size)⟩,by simp[intOf];omega⟩):p:=h
theorem lz(h:p:=by
 repeat (go_big_quiet_step (first|(go_at_call 173;exact Calls.wide (HF.out _))|fail))
 refine wpQuiet_nil ?_;rintro _ ⟨q,rfl⟩;go_wp2_with fail;exact z703z):p:=h
theorem U0(h:p:=by
 have hcap:¬cap=k:=af
 all_goals (
  go_wp2_with (first|(at_builtin;refine aE rfl _ _ 36 rfl w.heap.size 9 i0 (I ⟨#[]⟩) 1 16 Tryz.underlying36 HI0.1 HI0.2.1 HI0.2.2.1 HI0.2.2.2 rfl ag _ _ _ rfl (HOW.out) _ k _ ((zs.take k).map Ym) rfl oN (λj u hu=>by rw[List.map_take] at hu;obtain⟨g9,o9,e,hgl,h3⟩:=HC.out j u (fs hu);cases e <;> exact⟨_,rfl,by simp only[Yn];exact (ai (ak w _) hgl).trans h3⟩) (HON.out _) bj af aG ?_))
  intro v5 w5 hown5 hgr5
  replace hown5:w5.ownsRow w.heap.size 9 1 v5 k ((zs.take k).map Ym):=dN
  have hb5:=(ak w (Y8 #[] 9)).grown hgr5 aG (λg hg=>by simp[YL] at hg;omega);obtain⟨s1,s2,s3,rfl⟩:=aA hown5;have HO5:=aa hown5;have H5:=aa hb5;have hs5:=hb5.size;clear hown5 hgr5 hb5 HOW
  go_wp2_with (first|(at_builtin;refine aE rfl _ _ 36 rfl w.heap.size 9 i0 (I ⟨#[]⟩) 1 16 Tryz.underlying36 HI0.1 HI0.2.1 HI0.2.2.1 HI0.2.2.2 rfl ag _ _ _ rfl (HO5.alloc _) _ 1 _ [I t] rfl rfl (λj u hu=>⟨_,rfl,by rw[Yn,Yq,an (heap_alloc_new w5 _)];simpa using hu⟩) dx bj af bL ?_))
  intro v6 w6 hown6 hgr6;have hb6:=(H5.alloc H5.size _).grown hgr6 bL (λg hg=>(HO5.lt g hg).1);obtain⟨r1,r2,r3,rfl⟩:=aA hown6;have HO6:=aa hown6;have H6:=aa hb6;have hs6:=hb6.size;clear hown6 hgr6 hb6
  go_wp2_with (first|(at_builtin;refine aE rfl _ _ 36 rfl w.heap.size 9 i0 (I ⟨#[]⟩) 1 16 Tryz.underlying36 HI0.1 HI0.2.1 HI0.2.2.1 HI0.2.2.2 rfl ag _ _ _ rfl (HO6.out) _ (len - k) _ ((zs.drop k).map Ym) rfl oM (λj u hu=>by first|(rw[Yx af] at hu;simp at hu;done)|(rw[List.map_drop,List.getElem?_drop] at hu;obtain⟨g9,o9,e,hgl,h3⟩:=HC.out _ u hu;cases e <;> exact⟨_,rfl,by simp only[Yn,Nat.add_assoc];exact (ai H6.out hgl).trans h3⟩)) (HON.out _) bj af af ?_))
  intro v7 w7 hown7 hgr7;have hb7:=H6.grown hgr7 af (λg hg=>(HO6.lt g hg).1)
  replace hown7:w7.ownsRow w.heap.size 9 1 v7 (len+1) ((zs.take k++[t]++zs.drop k).map Ym):=by
   have e9:k+1+(len - k)=len+1:=af
   try rw[e9] at hown7
   simpa using hown7
  obtain⟨a',p',rfl,hT⟩:=bS.fo hown7 (HZS.out k);have HT7:=aa hT;have HB7:=aa hb7;clear hown7 hgr7 hb7 hT hik hkn
  go_wp2
  go_ret
  exact⟨_,_,_,_,rfl,HT7.row,HP.out,HB7.out⟩)):p:=h
theorem Sx(h:p:=by
 refine Grow.step (BI w S (ew c i x kc.z).vs) rfl (BI.mono _ _ _) ?_ ?_
 ·have z1391z:=@aa _ @IC;exact sZ
 refine' Grow.stepC _ rfl ?_ ?_;rotate_left 1
 ·exact OJ
 refine' Grow.stepC _ rfl ?_ ?_;rotate_left 1
 ·exact OK
 have z513z:=@aa _ @aaO;exact zm):p:=h
theorem Sw(h:p:=by
 refine Grow.step (BI w S (ew c i x t).vs) rfl (BI.mono _ _ _) ?_ ?_
 ·have z1391z:=@aa _ @IB;exact sZ
 refine' Grow.stepC _ rfl ?_ ?_;rotate_left 1
 ·exact OJ
 refine' Grow.stepC _ rfl ?_ ?_;rotate_left 1
 ·exact OK
 have z513z:=@aa _ @aaN;exact zm):p:=h
theorem yy(h:p:=by
 clear hxo;have z1354z:=@aa _ @I5;exact jL):p:=h
theorem Sn(h:p:=by
 generalize ((((wy.setCell ⟨b9,0,U⟩ (I kc.n)).setCell ⟨b9,1,U⟩ (Y9 kc.x)).setCell ⟨b9,2,U⟩ (Y9 kc.y)).setCell ⟨b9,3,U⟩ (I kc.z))=X3 at Bn HWX ⊢;clear t0 t1 t2 t3 f0 f1 f2 f3;have HB3:=aa (HB2.trans (HWX.mono HB2.size));have Bc3:=upK Bc2 HWX.out;have Bx3:=upK Bx2 HWX.out;have hb9':w.heap.size<b9:=af
 clear hW HWX HB2 Bc2 Bx2;by_cases hte:t=⟨#[]⟩
 ·have hq:=cC hte;have HZO:Hid (cO t kc.z=kc.z):=by show cO _ _=_;unfold cO;rw[if_pos hte]
  clear hte;have hzn:¬kc.z=⟨#[]⟩->aL kc.z:=λh=>((HT.2.1.2.1.2.1 jk kc HK.1).2.resolve_left h);have z1630z:=@aa _ @Ev;exact sj
 ·have hq:=aY hte;have HZO:Hid (cO t kc.z=t):=by show cO _ _=_;unfold cO;rw[if_neg hte]
  clear hte;have hzn:¬t=⟨#[]⟩->aL t:=λh=>HTZ.resolve_left h;have z1630z:=@aa _ @Eu;exact sj):p:=h
theorem Sl(h:p:=by
 clear k0 k1 k2 k3 k4 k5 hfz;have hnb:∀k,(S k\/w.heap.size<=k)->¬k=b:=λk h=>by
  rcases h with h|h
  ·exact (HS.out k h).2
  ·omega
 obtain⟨kp,f1,f2,f4,f5,f3,hB8⟩:=alV;exact z513z):p:=h
theorem RZ(h:p:=by
 have z210z:=@aa _ @aeF;exact lK):p:=h
theorem RY(h:p:=by
 have z210z:=@aa _ @aeE;exact lK):p:=h
theorem yq(h:p:=by
 refine' Grow.stepC _ rfl ?_ ?_;rotate_left 1
 ·exact akd
 refine' Grow.stepC _ rfl ?_ ?_;rotate_left 1
 ·exact akc
 refine' Grow.stepC _ rfl ?_ ?_;rotate_left 1
 ·exact aj7
 refine' Grow.stepC (Y7 Y6 l3) rfl ?_ ?_
 ·exact akg
 refine Grow.step (λv _=>v=Y7 Y6 0) rfl (Fact.dd _) ?_ ?_
 ·exact akD
 refine' Grow.stepC _ rfl ?_ ?_;rotate_left 1
 ·exact akh
 exact z996z):p:=h
theorem Nu(h:p:=by
 have HC0:=aa (λq:Wd wr=>oF ⟨a1,l1,y1,a2,l2,y2,a3,l3,y3,a4,l4,y4,a5,l5,y5⟩ c t q.w (HR.below (HW.trans (q.b.mono HW.size))) HT.out HVJ.out HBD.out);have z55z:=@aa _ @agb;exact aC):p:=h
theorem Nt(h:p:=by
 have HC0:=aa (λq:Wd wr=>rG ⟨a1,l1,y1,a2,l2,y2,a3,l3,y3,a4,l4,y4,a5,l5,y5⟩ c t q.w (HR.below (HW.trans (q.b.mono HW.size))) HT.out HNO.out);have z55z:=@aa _ @aga;exact aC):p:=h
theorem tY(h:p:=by
 obtain⟨k0,k1,k2,k3,k4,k5⟩:=cs6 Bk;obtain⟨p0,p1,p2,p3,p4,p5⟩:=cs6 Bp;go_wp2_with fail;clear k0 k1 k2 k3 k4 k5 p0 p1 p2 p3 p4 p5;have Gk:=Bk;have Gp:=Bp;have HW:=HB;obtain⟨k0,k1,k2,k3,k4,k5⟩:=sl6 Gk;obtain⟨p0,p1,p2,p3,p4,p5⟩:=sl6 Gp;have tc:=λq:Wd wr=>(q.cell hb).trans hc;have hne0:=Wd.ne wr;exact z1024z):p:=h
theorem Nj(h:p:=by
 go_wp2_with fail;refine (ou ca cl cc ys v.n _ (HQ.1.below HL2.out) af hz0).mono ?_;rintro e w2 ⟨sa,sl,sc,zs2,rfl,htx,hput,hb2⟩;clear k0 k1 k2 k3 k4 k5 p0 p1 p2 p3 p4 p5;replace Bk:=upK Bk hb2;replace Bp:=upK Bp hb2;replace HL2:=aa (HL2.below hb2);replace HB:=upB HB hb2;clear hb2;have HTX:=aa htx;have HPU:=aa hput;clear htx hput hc0 hz0 hb3;obtain⟨k0,k1,k2,k3,k4,k5⟩:=cs6 Bk;obtain⟨p0,p1,p2,p3,p4,p5⟩:=cs6 Bp;go_wp2;refine⟨⟨k+1,sa,sl,sc,zs2,by omega,by go_num,rfl,⟨HTX.out,HPU.ris HQ.2.1,λs=>?_,by have h9:=HPU.len;omega⟩,HL.trans (HL2.out.mono HL.size)⟩,by simp[intOf];omega⟩;rw[HPU.mem,HQ.2.2.1,YN,HX.out,Option.toList_some];exact Rn HT.2.1.2.2.2.1.2.2 HBD.out):p:=h
theorem Ni(h:p:=by
 go_wp2;refine⟨⟨k+1,ca,cl,cc,ys,by omega,by go_num,rfl,⟨HQ.1.below HL2.out,HQ.2.1,λs=>?_,by omega⟩,HL.trans (HL2.out.mono HL.size)⟩,by simp[intOf];omega⟩;rw[HQ.2.2.1,YN,HX.out,Option.toList_some];exact agJ HNO.out):p:=h
theorem M8(h:p:=by
 obtain⟨HXx,HTx,HZx0⟩:=gZ;clear hat hx z0 z2 z4 hvr;have hbw:=hb;clear hb;have hk1:(k:Int)<l5:=af
 have HL2:Hid (Bw wr wr):=Bw.refl _;by_cases he:x.d=t
 ·have hq:=aP he;have HHE:=aa he;clear he;obtain⟨k0,k1,k2,k3,k4,k5⟩:=cs6 Bk;go_wp2_with fail;have hv3:vl<=3:=by have h9:(x.zs.length:Int)<=3:=(HT.2.1.2.2.2.2.2.1 k x HXx.out).2.2.2.1.1;have h8:x.zs.length=vl:=HTx.1;omega
  have HCS:=aa (Yb c0 (Yb c1 (Yb c2 (Yb c3 (Yb c4 c5)))));have HBW:=aa hbw;clear c0 c1 c2 c3 c4 c5 hbw;clear k0 k1 k2 k3 k4 k5;have z1302z:=@aa _ @JH;exact gS
 have hq:=bu he;have HHE:=aa he;clear he;obtain⟨k0,k1,k2,k3,k4,k5⟩:=cs6 Bk;go_wp2;refine⟨⟨k+1,ca,cl,cc,ys,by omega,by go_num,rfl,⟨HQ.1,HQ.2.1,λs=>?_,by omega⟩,HL.out⟩,by simp[intOf];omega⟩;rw[HQ.2.2.1,PBs.no HXx.out HHE.out]):p:=h
theorem M7(h:p:=by
 have HX:=aa hx;have HV:=aa hvr;have k4:=ck4 Bk;clear hat hx hvr z0 z2 z4;by_cases h0:p.d=⟨#[]⟩
 ·have hq:=cC h0;have H0:=aa h0;clear h0;have z441z:=@aa _ @abO;exact zr
 have hq0:=aY h0;have H0:=aa h0;clear h0;by_cases h1:p.d=s
 ·have hq:=aP h1;have H1:=aa h1;clear h1;have z441z:=@aa _ @abN;exact zr
 have hq:=bu h1;have H1:=aa h1;clear h1;go_wp2_with fail;refine (bX va vl vc p.zs m _ (HV.below (ak _ _))).mono ?_;rintro e w1 ⟨r,rfl,hi,hb1⟩;obtain⟨HA0,hbx⟩:=aV hb1;have HI:=aa hi;have HB1:=upB HB hbx;have Bk1:=aa ((hbx.block _ ltk).trans Bk.out);clear hi hb1 hbx HA0 c0 c1 c2 c3 c4 c5 k4;cases r
 ·go_wp2;refine⟨⟨k+1,by omega,by go_num,λj z hj hz=>?_,HB1.out,Bk1.out⟩,by simp[intOf];omega⟩;by_cases e:j=k
  ·subst e;rw[HX.out] at hz;obtain rfl:=Yd hz;exact λh=>by have:=HI.2 h.2.2;cases this
  ·exact HE.out j z af hz
 ·go_wp2;go_ret;exact au.t ⟨k,p,HX.out,H0.out,H1.out,HI.1 bM⟩ HB1.out):p:=h
theorem M1(h:p:=by
 refine Grow.step (λv _=>v=Y7 Y6 7) rfl (Fact.dd _) ?_ ?_
 ·exact akB
 refine' Grow.stepC _ rfl ?_ ?_;rotate_left 1
 ·exact v_
 have z210z:=@aa _ @aeD;exact lK):p:=h
theorem M0(h:p:=by
 refine Grow.step (λv _=>v=Y7 Y6 9) rfl (Fact.dd _) ?_ ?_
 ·exact al2
 refine' Grow.stepC _ rfl ?_ ?_;rotate_left 1
 ·exact v_
 have z210z:=@aa _ @aeC;exact lK):p:=h
theorem tW(h:p:=by
 refine' Grow.stepC _ rfl ?_ ?_;rotate_left 1
 ·exact we
 refine' Grow.stepC _ rfl ?_ ?_;rotate_left 1
 ·exact OC
 refine' Grow.stepC _ rfl ?_ ?_;rotate_left 1
 ·exact OB
 refine' Grow.stepC _ rfl ?_ ?_;rotate_left 1
 ·exact aj5
 refine' Grow.stepC (Y7 Y6 l3) rfl ?_ ?_
 ·exact OE
 exact z1055z):p:=h
theorem MR(h:p:=by
 obtain⟨HB1,Ck⟩:=iL;have Cp:=upK Gp q1.b;have CHL2:=aa ((HL2.out).below q1.b);clear hne0 HW HB HC0 k0 k1 k2 k3 k4 k5 p0 p1 p2 p3 p4 p5 tc Gk Gp Bk Bp HL2 hb hc;have HB:=HB1;clear HB1;have HL2:=CHL2;clear CHL2;have Bk:=Ck;clear Ck;have Bp:=Cp;clear Cp;exact z661z):p:=h
theorem MI(h:p:=by
 refine' Grow.stepC _ rfl ?_ ?_;rotate_left 1
 ·exact kA
 refine' Grow.stepC _ rfl ?_ ?_;rotate_left 1
 ·exact ake
 refine' Grow.stepC _ rfl ?_ ?_;rotate_left 1
 ·exact aj6
 refine' Grow.stepC _ rfl ?_ ?_;rotate_left 1
 ·exact OR
 refine' Grow.stepC _ rfl ?_ ?_;rotate_left 1
 ·exact aki
 refine Grow.step (λv _=>v=Y7 Y6 (-1)) rfl (Fact.dd _) ?_ ?_
 ·exact ah6
 refine' Grow.stepC (Y9 Y_) rfl ?_ ?_
 ·exact akf
 refine' Grow.stepC _ rfl ?_ ?_;rotate_left 1
 ·exact kA
 exact z576z):p:=h
theorem MH(h:p:=by
 refine' Grow.stepC _ rfl ?_ ?_;rotate_left 1
 ·exact we
 refine' Grow.stepC _ rfl ?_ ?_;rotate_left 1
 ·exact OD
 refine' Grow.stepC _ rfl ?_ ?_;rotate_left 1
 ·exact aj4
 refine' Grow.stepC _ rfl ?_ ?_;rotate_left 1
 ·exact OA
 refine' Grow.stepC _ rfl ?_ ?_;rotate_left 1
 ·exact OF
 exact z648z):p:=h
theorem ni(h:p:=by
 rename_i K0 hK0;refine ct (back:=U) bf (List.append_nil _).symm bf ?_;exact z1080z):p:=h
theorem JI(h:p:=by
 refine' Grow.stepC _ rfl ?_ ?_;rotate_left 1
 ·exact kI
 refine' Grow.stepC _ rfl ?_ ?_;rotate_left 1
 ·refine Obl.plain rfl ?_;intro ac wg K hsz hW hf hK;clear hsz;have e62:=hf 62 ag;simp[aj,Yf] at e62;clear hf;exact aK
 refine' Grow.stepC _ rfl ?_ ?_;rotate_left 1
 ·refine Obl.plain rfl ?_;intro ac wg K hsz hW hf hK;clear hsz;have e63:=hf 63 ag;simp[aj,Yf] at e63;clear hf;exact aK
 refine' Grow.stepC _ rfl ?_ ?_;rotate_left 1
 ·refine Obl.plain rfl ?_;intro ac wg K hsz hW hf hK;clear hsz;have e64:=hf 64 ag;simp[aj,Yf] at e64;exact wv
 refine' Grow.stepC _ rfl ?_ ?_;rotate_left 1
 ·exact kI
 refine' Grow.stepC _ rfl ?_ ?_;rotate_left 1
 ·refine Obl.plain rfl ?_;intro ac wg K hsz hW hf hK;clear hsz;have e66:=hf 66 ag;simp[aj,Yf] at e66;clear hf;exact aK
 refine' Grow.stepC _ rfl ?_ ?_;rotate_left 1
 ·refine Obl.plain rfl ?_;intro ac wg K hsz hW hf hK;clear hsz;have e67:=hf 67 ag;simp[aj,Yf] at e67;exact wv
 refine' Grow.stepC _ rfl ?_ ?_;rotate_left 1
 ·exact kC
 refine' Grow.stepC _ rfl ?_ ?_;rotate_left 1
 ·refine Obl.plain rfl ?_;intro ac wg K hsz hW hf hK;clear hsz;have e69:=hf 69 ag;simp[aj,Yf] at e69;exact OS
 refine Grow.step (λv _=>v=Y7 Y6 jk) rfl (Fact.dd _) ?_ ?_
 ·refine Obl.plain rfl ?_;intro ac wg K hsz hW hf hK;clear hsz;have e68:=hf 68 ag;simp[aj,Yf] at e68;have e70:=hf 70 ag;simp[aj,Yf] at e70;clear hf;go_simp;refine (d_ ⟨a1,l1,y1,Y5 ⟨gk,0,U⟩,l2,y2,a3,l3,y3,Y5 ⟨gx,0,U⟩,l4,y4,a5,l5,y5⟩ c.now c.ks x.k _ (HRK.below (HB2.trans (hW.mono HB2.size))) HT.2.1.2.1.2.2 HK.1 HK.2).mono ?_;rintro e w6 ⟨rfl,hb6⟩;exact hK _ _ hb6 rfl
 refine' Grow.stepC _ rfl ?_ ?_;rotate_left 1
 ·refine Obl.plain rfl ?_;intro ac wg K hsz hW hf hK;clear hsz;have e65:=hf 65 ag;simp[aj,Yf] at e65;have e71:=hf 71 ag;simp[aj,Yf] at e71;clear hf;exact aK
 refine' Grow.stepC _ rfl ?_ ?_;rotate_left 1
 ·refine Obl.plain rfl ?_;intro ac wg K hsz hW hf hK;clear hsz;have e72:=hf 72 ag;simp[aj,Yf] at e72;clear hf;obtain⟨d0,d1,d2,d3⟩:=HKC.out;have hbg:=HB2.trans (hW.mono HB2.size);replace d0:=(ai hbg HGK.out).trans d0;replace d1:=(ai hbg HGK.out).trans d1;replace d2:=(ai hbg HGK.out).trans d2;replace d3:=(ai hbg HGK.out).trans d3;exact aK
 refine Grow.step (agZ wz.heap.size) rfl (agZ.mono _) ?_ ?_
 ·exact kZ
 refine Grow.done ?_;intro q wy hW hf;simp only[YI] at hf;obtain⟨⟨b9,h10,hb9,hg9⟩,h73,h72,h71,h70,h69,h68,h67,h66,h65,h64,h63,h62,-⟩:=hf;have g0:=hg9;have g1:(wy.setCell ⟨b9,0,U⟩ (I kc.n)).heap[b9]?=Y5 (Y8 #[I kc.n,Y9 Y_,Y9 Y_,I ⟨#[]⟩] 74 (0,0)):=av g0 _;have g2:((wy.setCell ⟨b9,0,U⟩ (I kc.n)).setCell ⟨b9,1,U⟩ (Y9 kc.x)).heap[b9]?=Y5 (Y8 #[I kc.n,Y9 kc.x,Y9 Y_,I ⟨#[]⟩] 74 (0,0)):=av g1 _;have g3:(((wy.setCell ⟨b9,0,U⟩ (I kc.n)).setCell ⟨b9,1,U⟩ (Y9 kc.x)).setCell ⟨b9,2,U⟩ (Y9 kc.y)).heap[b9]?=Y5 (Y8 #[I kc.n,Y9 kc.x,Y9 kc.y,I ⟨#[]⟩] 74 (0,0)):=av g2 _;have g4:((((wy.setCell ⟨b9,0,U⟩ (I kc.n)).setCell ⟨b9,1,U⟩ (Y9 kc.x)).setCell ⟨b9,2,U⟩ (Y9 kc.y)).setCell ⟨b9,3,U⟩ (I kc.z)).heap[b9]?=Y5 (Y8 #[I kc.n,Y9 kc.x,Y9 kc.y,I kc.z] 74 (0,0)):=av g3 _;obtain⟨t0,t1,t2,t3⟩:=cs4 hg9;have f0:=al hg9 0;have f1:=al hg9 1;have f2:=al hg9 2;have f3:=al hg9 3;have Bn:=aa g4;have HWX:Hid (Below wz.heap.size wz ((((wy.setCell ⟨b9,0,U⟩ (I kc.n)).setCell ⟨b9,1,U⟩ (Y9 kc.x)).setCell ⟨b9,2,U⟩ (Y9 kc.y)).setCell ⟨b9,3,U⟩ (I kc.z))):=ah hb9 (ah hb9 (ah hb9 (ah hb9 (hW))));clear g0 g1 g2 g3 g4 hg9;intro K hK;rw[if_pos (by rfl)];simp only[aM,YT,Act.put,Yt,YC,YE,h10,h73,h72,h71,h70,h69,h68,h67,h66,h65,h64,h63,h62];have z969z:=@aa _ @Sn;exact ir):p:=h
theorem JH(h:p:=by
 refine' Grow.stepC _ rfl ?_ ?_;rotate_left 1
 ·exact OO
 refine' Grow.stepC _ rfl ?_ ?_;rotate_left 1
 ·exact kD
 refine' Grow.stepC _ rfl ?_ ?_;rotate_left 1
 ·exact ny
 refine' Grow.stepC _ rfl ?_ ?_;rotate_left 1
 ·refine Obl.plain rfl ?_;intro ac wg K hsz hW hf hK;clear hsz;have e26:=hf 26 ag;simp[aj,Yf] at e26;exact g_
 refine' Grow.stepC _ rfl ?_ ?_;rotate_left 1
 ·exact kE
 refine' Grow.stepC _ rfl ?_ ?_;rotate_left 1
 ·have z1587z:=@aa _ @E1;exact sr
 refine' Grow.stepC _ rfl ?_ ?_;rotate_left 1
 ·refine Obl.plain rfl ?_;intro ac wg K hsz hW hf hK;clear hsz;have e29:=hf 29 ag;simp[aj,Yf] at e29;clear hf;obtain⟨d0,d1,d2,d3,d4,d5⟩:=HCS.out;replace d0:=(ai hW HBW.out).trans d0;replace d1:=(ai hW HBW.out).trans d1;replace d2:=(ai hW HBW.out).trans d2;replace d3:=(ai hW HBW.out).trans d3;replace d4:=(ai hW HBW.out).trans d4;replace d5:=(ai hW HBW.out).trans d5;exact aK
 refine Grow.step (AdF c ys x.zs) rfl (AdF.mono) ?_ ?_
 ·have z1624z:=@aa _ @Ez;exact sn
 refine Grow.done ?_;intro q w1 hW hf;simp only[YI] at hf;obtain⟨⟨sa,sl,sc,zs2,h31,htx,hri2,hmm2,hl2⟩,-⟩:=hf;have hb2:=hW;intro K hK;rw[if_pos (by rfl)];simp only[aM,YT,Act.put,Yt,YC,YE,h31];have z243z:=@aa _ @aec;exact lJ):p:=h
theorem I8(h:p:=by
 obtain⟨hl5,hm5⟩:=nu;clear hr;have HT:=aa hT;clear hT;have h58:c.ps.length<=8:=by have:=HT.sm.p;omega
 have h38:c.vs.length<=8:=by have:=HT.sm.v;omega
 go_enter Tryz.func167,Tryz.ntmps167;go_wp2;go_loopw [5,6] (λvo vi wr=> ∃(k:Nat) (ca:Option Addr) (cl cc:Nat) (ys:List ByteArray),k<=l5/\vi=Y7 Y6 k/\vo=J ca cl cc/\Hid (az wr ca cl cc ys/\RT ys/\(∀s,s∈ys↔PBs c t k s)/\ys.length<=3*k)/\Hid (Below (w.heap.size+1) (w.alloc (Y8 #[J a1 l1 y1,J a2 l2 y2,J a3 l3 y3,J a4 l4 y4,J a5 l5 y5,Y7 Y6 c.now] 29)) wr)) (λ_ vi _=>l5 - (intOf vi).toNat);case atStart=>exact⟨0,_,0,0,[],by omega,rfl,rfl,⟨⟨rfl,Ye _,by omega,λj x hx=>by simp at hx,Ze rfl⟩,List.Pairwise.nil,λs=>⟨λh=>by simp at h,λ⟨j,p,h,_⟩=>by omega⟩,by simp⟩,by first|exact Yh _ _|exact (ak _ _).mono aG⟩
 case round=>
  obtain⟨k,ca,cl,cc,ys,hk,rfl,rfl,HQ,HL⟩:=hrel;obtain⟨Bk,HB⟩:=ahd;have hyl:=HQ.1.1;have hyb:=HQ.2.2.2;by_cases hlt:k<l5
  ·obtain⟨b,o,x,rfl,hb,hx,hat⟩:=cg (HR.p.below HB.out) hlt;have z1042z:=@aa _ @M8;exact cK
  have hkl:k=l5:=af
  have hk1:¬(k:Int)<l5:=af
  clear hlt HL;obtain⟨W1,hW1⟩:∃W1,W1=wr:=⟨_,rfl⟩;subst hW1;obtain⟨k0,k1,k2,k3,k4,k5⟩:=cs6 Bk;go_wp2;clear k0 k1 k2 k3 k4 k5;go_loopw [5,7] (λvo vi wr=> ∃(m2:Nat) (ca:Option Addr) (cl cc:Nat) (ys:List ByteArray),m2<=l3/\vi=Y7 Y6 m2/\vo=J ca cl cc/\Hid (az wr ca cl cc ys/\RT ys/\(∀s,s∈ys↔PBs c t k s\/VBs c t m2 s)/\ys.length<=3*k+m2)/\Hid (Below W1.heap.size W1 wr)) (λ_ vi _=>l3 - (intOf vi).toNat);case atStart=>exact⟨0,_,_,_,ys,by omega,rfl,rfl,⟨HQ.1,HQ.2.1,λs=>by rw[HQ.2.2.1];exact⟨Ze,λh=>h.elim id (λ⟨j,p,h,_⟩=>by omega)⟩,by omega⟩,Yh _ _⟩
  case round=>
   clear HQ hyl hyb;obtain⟨m2,ca,cl,cc,ys,hmm2,rfl,rfl,HQ,HL⟩:=hrel;replace Bk:=aa ((HL.block _ (ae Bk.out)).trans Bk.out);replace HB:=aa (HB.trans (HL.mono HB.size));have hyl:=HQ.1.1;have hyb:=HQ.2.2.2;by_cases hlt:m2<l3
   ·obtain⟨b,o,x,rfl,hb,hx,hat⟩:=bK (HR.v.below HB.out) hlt;have z280z:=@aa _ @adE;exact fV
   have hk3:¬(m2:Int)<l3:=af
   have hkl2:m2=l3:=af
   obtain⟨k0,k1,k2,k3,k4,k5⟩:=cs6 Bk;go_wp2;go_ret;exact⟨_,_,_,ys,rfl,HQ.1,HQ.2.1,by rw[hl5,hl3,<-hkl,<-hkl2];exact HQ.2.2.1,HB.out⟩):p:=h
theorem I7(h:p:=by
 refine' Grow.stepC _ rfl ?_ ?_;rotate_left 1
 ·exact kA
 refine' Grow.stepC _ rfl ?_ ?_;rotate_left 1
 ·refine Obl.plain rfl ?_;intro ac wg K hsz hW hf hK;clear hsz;have e116:=hf 116 ag;simp[aj,Yf] at e116;clear hf;exact aK
 refine' Grow.stepC _ rfl ?_ ?_;rotate_left 1
 ·refine Obl.plain rfl ?_;intro ac wg K hsz hW hf hK;clear hsz;have e117:=hf 117 ag;simp[aj,Yf] at e117;clear hf;exact aK
 refine' Grow.stepC _ rfl ?_ ?_;rotate_left 1
 ·refine Obl.plain rfl ?_;intro ac wg K hsz hW hf hK;clear hsz;have e118:=hf 118 ag;simp[aj,Yf] at e118;clear hf;obtain⟨k0,k1,k2,k3,k4,k5⟩:=cs6 ((hW.block _ (ae Bc8.out)).trans Bc8.out);exact aK
 refine' Grow.stepC _ rfl ?_ ?_;rotate_left 1
 ·exact OI
 refine' Grow.stepC _ rfl ?_ ?_;rotate_left 1
 ·exact OR
 refine' Grow.stepC _ rfl ?_ ?_;rotate_left 1
 ·refine Obl.plain rfl ?_;intro ac wg K hsz hW hf hK;clear hsz;have e121:=hf 121 ag;simp[aj,Yf] at e121;clear hf;obtain⟨v0,v1,v2,v3,v4,v5,v6,v7⟩:=cs8 ((hW.block _ (ae Bv8.out)).trans Bv8.out);exact aK
 refine' Grow.stepC _ rfl ?_ ?_;rotate_left 1
 ·refine Obl.plain rfl ?_;intro ac wg K hsz hW hf hK;clear hsz;have e119:=hf 119 ag;simp[aj,Yf] at e119;have e120:=hf 120 ag;simp[aj,Yf] at e120;clear hf;exact aK
 refine' Grow.stepC _ rfl ?_ ?_;rotate_left 1
 ·refine Obl.plain rfl ?_;intro ac wg K hsz hW hf hK;clear hsz;have e123:=hf 123 ag;simp[aj,Yf] at e123;clear hf;exact aK
 refine Grow.done ?_;intro q wu hW hf;simp only[YI] at hf;obtain⟨h124,h123,h122,h121,h120,h119,h118,h117,h116,-⟩:=hf;have HWU:=aa hW;have Bc9:=upK Bc8 hW;have Bv9:=upK Bv8 hW;obtain⟨⟨v9,hcz⟩,hfz⟩:=aw.atT HF8.2.2.2.1 hW HIR.out (i:=4) rfl;clear hW;intro K hK;rw[if_pos (by rfl)];simp only[aM,YT,Act.put,Yt,YC,YE,h124,h123,h122,h121,h120,h119,h118,h117,h116];have z243z:=@aa _ @aea;exact lJ):p:=h
theorem I6(h:p:=by
 refine' Grow.stepC _ rfl ?_ ?_;rotate_left 1
 ·exact kI
 refine' Grow.stepC _ rfl ?_ ?_;rotate_left 1
 ·refine Obl.plain rfl ?_;intro ac wg K hsz hW hf hK;clear hsz;have e39:=hf 39 ag;simp[aj,Yf] at e39;clear hf;exact aK
 refine' Grow.stepC _ rfl ?_ ?_;rotate_left 1
 ·exact Pa
 refine' Grow.stepC _ rfl ?_ ?_;rotate_left 1
 ·refine Obl.plain rfl ?_;intro ac wg K hsz hW hf hK;clear hsz;have e41:=hf 41 ag;simp[aj,Yf] at e41;exact OV
 refine' Grow.stepC _ rfl ?_ ?_;rotate_left 1
 ·exact kH
 refine' Grow.stepC _ rfl ?_ ?_;rotate_left 1
 ·exact kI
 refine' Grow.stepC _ rfl ?_ ?_;rotate_left 1
 ·exact O_
 refine' Grow.stepC _ rfl ?_ ?_;rotate_left 1
 ·have z1592z:=@aa _ @EY;exact mG
 refine' Grow.stepC _ rfl ?_ ?_;rotate_left 1
 ·refine Obl.plain rfl ?_;intro ac wg K hsz hW hf hK;clear hsz;have e46:=hf 46 ag;simp[aj,Yf] at e46;exact OV
 refine' Grow.stepC _ rfl ?_ ?_;rotate_left 1
 ·exact qu
 refine' Grow.stepC _ rfl ?_ ?_;rotate_left 1
 ·refine Obl.plain rfl ?_;intro ac wg K hsz hW hf hK;clear hsz;have e47:=hf 47 ag;simp[aj,Yf] at e47;have e48:=hf 48 ag;simp[aj,Yf] at e48;clear hf;exact aK
 refine' Grow.stepC _ rfl ?_ ?_;rotate_left 1
 ·refine Obl.plain rfl ?_;intro ac wg K hsz hW hf hK;clear hsz;have e49:=hf 49 ag;simp[aj,Yf] at e49;clear hf;exact aK
 refine' Grow.stepC _ rfl ?_ ?_;rotate_left 1
 ·refine Obl.plain rfl ?_;intro ac wg K hsz hW hf hK;clear hsz;have e50:=hf 50 ag;simp[aj,Yf] at e50;clear hf;have c7:=(ai hW (ae HVB5.out)).trans HCN5.out;exact aK
 refine' Grow.stepC _ rfl ?_ ?_;rotate_left 1
 ·have z1595z:=@aa _ @EW;exact mF
 refine' Grow.stepC _ rfl ?_ ?_;rotate_left 1
 ·refine Obl.plain rfl ?_;intro ac wg K hsz hW hf hK;clear hsz;have e52:=hf 52 ag;simp[aj,Yf] at e52;clear hf;exact aK
 refine Grow.done ?_;intro q wx hW hf;simp only[YI] at hf;obtain⟨h53,h52,h51,h50,h49,h48,h47,h46,h45,h44,h43,h42,h41,h40,h39,-⟩:=hf;have HWX:=aa hW;have Bc6:=upK Bc5 hW;obtain⟨⟨v9,hcz⟩,hfz⟩:=aw.atT HF5.2.2.1 hW HIR.out (i:=4) rfl;intro K hK;rw[if_pos (by rfl)];simp only[aM,YT,Act.put,Yt,YC,YE,h53,h52,h51,h50,h49,h48,h47,h46,h45,h44,h43,h42,h41,h40,h39];have z579z:=@aa _ @XR;exact jB):p:=h
theorem I5(h:p:=by
 refine' Grow.stepC _ rfl ?_ ?_;rotate_left 1
 ·exact kA
 refine' Grow.stepC _ rfl ?_ ?_;rotate_left 1
 ·exact kA
 refine' Grow.stepC _ rfl ?_ ?_;rotate_left 1
 ·exact aj9
 refine' Grow.stepC _ rfl ?_ ?_;rotate_left 1
 ·exact aj_
 refine' Grow.stepC _ rfl ?_ ?_;rotate_left 1
 ·exact aka
 refine' Grow.stepC _ rfl ?_ ?_;rotate_left 1
 ·exact akb
 exact z958z):p:=h
theorem IZ(h:p:=by
 have z576z:=@aa _ @XU;exact zk):p:=h
theorem IY(h:p:=by
 have z576z:=@aa _ @XT;exact zk):p:=h
theorem td(h:p:=by
 have hw5:w.heap.size<=w5.heap.size:=HB5.size;rw[<-hW0] at BcW BvW HBW ⊢;clear hW0 Bc5 HB5;cases hh:hit Vd.n c.vs (aN++x.n);rotate_left
 ·exact akk
 have HH:=aa hh;clear hh;by_cases h8:l3<8;rotate_left
 ·exact akj
 exact z1362z):p:=h
theorem IS(h:p:=by
 have hZ3:kc.z.size<=9223372036854775807:=by have h1:=HZN.2.1;omega
 have z958z:=@aa _ @Sx;exact yy):p:=h
theorem IQ(h:p:=by
 have hZ3:t.size<=9223372036854775807:=by have h1:=HZN.2.1;omega
 have z958z:=@aa _ @Sw;exact yy):p:=h
theorem s9(h:p:=by
 have Bc6:=upK BcW HWY.out;have Bv6:=upK BvW HWY.out;have HB6:=aa (HBW.trans (HWY.mono HBW.size));have hw6:w5.heap.size<wy.heap.size:=ae Bv6.out;clear HBW HWY BcW BvW;go_wp2_with fail;obtain⟨hxo,hZ1,hZ2,hZ0⟩:=alJ;exact z1372z):p:=h
theorem IC(h:p:=by
 refine (lY a3 l3 y3 c.vs (mkV x kc.z) U 0 0 0 S (λ_=>False) _ (HO.v.below (HB6.trans (hW.mono HB6.size))) af (λq f hf=>?_) (λ_ _ h=>h)).mono ?_
 ·exact ahK
 exact ON):p:=h
theorem IB(h:p:=by
 refine (lY a3 l3 y3 c.vs (mkV x t) U 0 0 0 S (λ_=>False) _ (HO.v.below (HB6.trans (hW.mono HB6.size))) af (λq f hf=>?_) (λ_ _ h=>h)).mono ?_
 ·exact ahK
 exact ON):p:=h
theorem sZ(h:p:=by
 refine Obl.plain rfl ?_;intro ac wg K hsz hW hf hK;clear hsz;have e111:=hf 111 ag;simp[aj,Yf] at e111;have e112:=hf 112 ag;simp[aj,Yf] at e112;clear hf;go_simp;exact z1391z):p:=h
theorem GF(h:p:=by
 have e34:=hf 34 ag;simp[aj,Yf] at e34;clear hf;exact aK):p:=h
theorem E1(h:p:=by
 have hk1:(k:Int)<l5:=af
 exact aK):p:=h
theorem EY(h:p:=by
 clear hf;exact aK):p:=h
theorem EW(h:p:=by
 have e43:=hf 43 ag;simp[aj,Yf] at e43;clear hf;exact aK):p:=h
theorem ET(h:p:=by
 clear hf;exact aK):p:=h
theorem EP(h:p:=by
 clear hf;exact aK):p:=h
theorem EN(h:p:=by
 clear hf;exact aK):p:=h
theorem EA(h:p:=by
 have e26:=hf 26 ag;simp[aj,Yf] at e26;clear hf;go_simp;refine (vM a3 l3 y3 c.vs x.n x.z x.k x.x x.v t _ (alg (HO.v.row.below (HBW.trans (hW.mono HBW.size))))).mono ?_;rintro e w6 ⟨r,rfl,hr6,hb6⟩;exact hK _ _ hb6 ⟨r,rfl,by rw[hl3];exact hr6⟩):p:=h
theorem Ez(h:p:=by
 have e30:=hf 30 ag;simp[aj,Yf] at e30;clear hf;go_simp;refine (oH ⟨a1,l1,y1,a2,l2,y2,a3,l3,y3,a4,l4,y4,(Y5 ⟨b,o,U⟩),l5,y5⟩ c ca cl cc ys x va vl vc _ (HR.below (HB.trans (hW.mono HB.size))) HT.out (HQ.1.below hW) HQ.2.1 (HTx.below hW) af).mono ?_;rintro e w6 ⟨sa,sl,sc,zs2,rfl,htx,hri2,hmm2,hl2,hb6⟩;exact hK _ _ hb6 ⟨sa,sl,sc,zs2,rfl,htx,hri2,hmm2,hl2⟩):p:=h
theorem sn(h:p:=by
 refine Obl.plain rfl ?_;intro ac wg K hsz hW hf hK;clear hsz;have e24:=hf 24 ag;simp[aj,Yf] at e24;have e25:=hf 25 ag;simp[aj,Yf] at e25;exact z1624z):p:=h
theorem Ev(h:p:=by
 by_cases hm:vq x.n x.k x.v kc.n kc.z kc.z;rotate_left
 ·refine (B8 x.n x.z x.k x.x x.v kc.n kc.x kc.y kc.z kc.z _ HZX.1 hm).mono ?_;exact OL
 refine (yi x.n x.z x.k x.x x.v kc.n kc.x kc.y kc.z kc.z _ hm).mono ?_;rintro e w5 ⟨rfl,hb⟩;have HM:=aa hm;have HB5:=upB HB3 hb;have Bc5:=upK Bc3 hb;clear hb hm Bc3 Bx3 Bn hxl hnl;by_cases hz:kc.z=⟨#[]⟩
 ·have HNM:Hid (¬lq x kc t):=λh=>h.1 (by rw[HZO.out];exact hz);have hq2:=cC hz;clear hz;exact Ou
 have HMV:Hid (lq x kc t):=⟨by rw[HZO.out];exact hz,by rw[HZO.out];exact HM.out⟩;have hzno:=hzn hz;have HZN:=aa hzno;have hq2:=aY hz;clear hz hzno hzn;go_wp2_with fail;clear hq2;obtain⟨W,hW0⟩:∃W,W=w5.alloc (Y8 #[I (aN++x.n),Y7 Y6 x.z,I kc.z,I x.k,Y9 x.x,I x.n,Y9 Y_,J U 0 0] 38):=⟨_,rfl⟩;have BcW:=aa ((Yl w5 (Y8 #[I (aN++x.n),Y7 Y6 x.z,I kc.z,I x.k,Y9 x.x,I x.n,Y9 Y_,J U 0 0] 38) _ (ae Bc5.out)).trans Bc5.out);have BvW:=aa (heap_alloc_new w5 (Y8 #[I (aN++x.n),Y7 Y6 x.z,I kc.z,I x.k,Y9 x.x,I x.n,Y9 Y_,J U 0 0] 38));have HBW:=aa (HB5.trans ((ak w5 (Y8 #[I (aN++x.n),Y7 Y6 x.z,I kc.z,I x.k,Y9 x.x,I x.n,Y9 Y_,J U 0 0] 38)).mono HB5.size));have z1362z:=@aa _ @IZ;exact td):p:=h
theorem Eu(h:p:=by
 by_cases hm:vq x.n x.k x.v kc.n kc.z t;rotate_left
 ·refine (B8 x.n x.z x.k x.x x.v kc.n kc.x kc.y kc.z t _ HZX.1 hm).mono ?_;exact OL
 refine (yi x.n x.z x.k x.x x.v kc.n kc.x kc.y kc.z t _ hm).mono ?_;rintro e w5 ⟨rfl,hb⟩;have HM:=aa hm;have HB5:=upB HB3 hb;have Bc5:=upK Bc3 hb;clear hb hm Bc3 Bx3 Bn hxl hnl;by_cases hz:t=⟨#[]⟩
 ·have HNM:Hid (¬lq x kc t):=λh=>h.1 (by rw[HZO.out];exact hz);clear hq;have hq2:=cC hz;clear hz;exact Ou
 have HMV:Hid (lq x kc t):=⟨by rw[HZO.out];exact hz,by rw[HZO.out];exact HM.out⟩;have hzno:=hzn hz;have HZN:=aa hzno;clear hq;have hq2:=aY hz;clear hz hzno hzn;go_wp2_with fail;clear hq2;obtain⟨W,hW0⟩:∃W,W=w5.alloc (Y8 #[I (aN++x.n),Y7 Y6 x.z,I t,I x.k,Y9 x.x,I x.n,Y9 Y_,J U 0 0] 38):=⟨_,rfl⟩;have BcW:=aa ((Yl w5 (Y8 #[I (aN++x.n),Y7 Y6 x.z,I t,I x.k,Y9 x.x,I x.n,Y9 Y_,J U 0 0] 38) _ (ae Bc5.out)).trans Bc5.out);have BvW:=aa (heap_alloc_new w5 (Y8 #[I (aN++x.n),Y7 Y6 x.z,I t,I x.k,Y9 x.x,I x.n,Y9 Y_,J U 0 0] 38));have HBW:=aa (HB5.trans ((ak w5 (Y8 #[I (aN++x.n),Y7 Y6 x.z,I t,I x.k,Y9 x.x,I x.n,Y9 Y_,J U 0 0] 38)).mono HB5.size));have z1362z:=@aa _ @IY;exact td):p:=h
theorem sj(h:p:=by
 obtain⟨x0,x1,x2,x3,x4⟩:=cs5 Bx3;obtain⟨n0,n1,n2,n3⟩:=cs4 Bn;have hxl:=ae Bx3.out;have hnl:=ae Bn.out;go_wp2_with fail;clear x0 x1 x2 x3 x4 n0 n1 n2 n3;exact z1630z):p:=h
theorem Dm(h:p:=by
 obtain⟨h9,h27,h26,h25,h24,h23,h22,h21,-⟩:=hf;obtain⟨r,hv9,hbest⟩:=h9;obtain⟨r2,hv27,-⟩:=h27;have HWZ:=aa hW;clear hW;refine hK0 _ _ ?_;simp only[aM,YT,Act.put,Yt,YC,YE,h26,h25,h24,h23,h22,h21,hv9,hv27];clear hK0;have Bc2:=upK BcW HWZ.out;have Bx2:=upK BxW HWZ.out;have HB2:=aa (HBW.trans (HWZ.mono HBW.size));have hw2:w.heap.size+1<=wz.heap.size:=by have:=HWZ.size;omega
 clear BcW BxW HBW HWZ;rcases hbest with ⟨rfl,hnone⟩|⟨j,u,rfl,hjl,hju,hsome⟩;rotate_left
 ·rw[List.take_length] at hsome;have HJU:=aa hju;have HSO:=aa hsome;have hj3:(j:Int)<l3:=af
  have hj0:¬(j:Int)<0:=af
  have hjr:(c.vs.map vdF)[j]?=Y5 (vdF u):=by rw[Yv,hju];rfl
  have hir:(c.xs.map xdF)[i]?=Y5 (xdF x):=by rw[Yv,HX.out];rfl
  have HJR:=aa hjr;have HIR:=aa hir;obtain⟨gv,curv,hgv,hgvS,hgvl,hgvb⟩:=aw.inn HO.v hjr;have hgv':a3=Y5 ⟨gv,0,U⟩:=hgv;subst hgv';obtain⟨gx2,curx,hgx2,-,-,hgxb⟩:=aw.inn HO.x hir;cases hgx2;have HVB:=aa hgvb;have HXB:=aa hgxb;have hvb:¬gv=b:=(HS.out gv hgvS).2;have HVS:=aa hgvS;have hxz:x.n.size<=9223372036854775807:=HZX.1;have huz:u.n.size<=9223372036854775807:=by have h1:=(HT.2.1.2.2.1.2.1 j u hju).1.2.1;omega
  clear hju hsome hjr hir hgv hgvS hgvb hgxb;go_wp2_with fail;rename_i K0 hK0;refine Gt.bF bf rfl rfl bf ?_;refine' Grow.stepC _ rfl ?_ ?_;rotate_left 1
  ·exact kI
  refine' Grow.stepC _ rfl ?_ ?_;rotate_left 1
  ·have z1605z:=@aa _ @EN;exact mC
  refine' Grow.stepC _ rfl ?_ ?_;rotate_left 1
  ·have z1602z:=@aa _ @EP;exact mD
  refine' Grow.stepC _ rfl ?_ ?_;rotate_left 1
  ·have z1543z:=@aa _ @wv;exact jE
  refine' Grow.stepC _ rfl ?_ ?_;rotate_left 1
  ·exact qu
  refine' Grow.stepC _ rfl ?_ ?_;rotate_left 1
  ·exact kC
  refine' Grow.stepC _ rfl ?_ ?_;rotate_left 1
  ·have z1539z:=@aa _ @OS;exact jF
  refine' Grow.stepC _ rfl ?_ ?_;rotate_left 1
  ·have z1486z:=@aa _ @GF;exact gQ
  refine' Grow.stepC _ rfl ?_ ?_;rotate_left 1
  ·refine Obl.plain rfl ?_;intro ac wg K hsz hW hf hK;clear hsz;exact wk
  refine Grow.done ?_;intro q wy hW hf;simp only[YI] at hf;obtain⟨h38,h37,h36,h35,h34,h33,h32,h31,h30,-⟩:=hf;have HWY:=upB HB2 hW;have Bc3:=upK Bc2 hW;obtain⟨⟨v9,hcz⟩,hfz⟩:=aw.atT HO.v HWY.out HJR.out (i:=5) rfl;intro K hK;rw[if_pos (by rfl)];simp only[aM,YT,Act.put,Yt,YC,YE,h38,h37,h36,h35,h34,h33,h32,h31,h30];have z243z:=@aa _ @aeb;exact lJ
 rw[List.take_length] at hnone;have HNO:=aa hnone;have hkr:(c.ks.map kdF)[jk]?=Y5 (kdF kc):=by rw[Yv,HK.1];rfl
 have hir:(c.xs.map xdF)[i]?=Y5 (xdF x):=by rw[Yv,HX.out];rfl
 have HIR:=aa hir;have hjk:jk<l2:=by have:=(Yc.1 HK.1).1;omega
 have hj2:(jk:Int)<l2:=af
 have hj0:¬(jk:Int)<0:=af
 obtain⟨gk,curk,hgk,-,hgkl,-⟩:=aw.inn HO.k hkr;have hgk':a2=Y5 ⟨gk,0,U⟩:=hgk;subst hgk';obtain⟨gx2,curx,hgx2,-,-,hgxb⟩:=aw.inn HO.x hir;cases hgx2;have HXB:=aa hgxb;obtain⟨b2,o2,y',e2,hb2,hx2,hat⟩:=gH HO.k.row hjk;cases e2;rw[HK.1] at hx2;obtain rfl:=Yd hx2;obtain⟨zk0,zk3,d0,d1,d2,d3⟩:=da hat;rw[Yq] at d0 d1 d2 d3;have HKC:=aa (Yb d0 (Yb d1 (Yb d2 d3)));have HZK:=aa (Yb zk0 zk3);have HRK:=aa HO.k.row;have HGK:=aa hgkl;clear hnone hkr hir hgk hgxb hat hx2 hb2 zk0 zk3 d0 d1 d2 d3;go_wp2_with fail;have z1302z:=@aa _ @JI;exact gS):p:=h
theorem cs4 {b:Nat} {v0 v1 v2 v3:Value} (h:w.heap[b]?=Y5 (Y8 #[v0,v1,v2,v3] T (0,0))):w.cell? ⟨b,0,U⟩=Y5 v0/\w.cell? ⟨b,1,U⟩=Y5 v1/\w.cell? ⟨b,2,U⟩=Y5 v2/\w.cell? ⟨b,3,U⟩=Y5 v3:=⟨an h 0,an h 1,an h 2,an h 3⟩
namespace Rc
def Fv.fit:Fv->Prop
 | .s t=>t.size<=9223372036854775807
 | _=>True
theorem aI.below {a b c:World} (h:aI S a b) (k:Below b.heap.size b c):aI S a c:=h.trans (aI.dE k)
theorem aI.mono {S':Nat->Prop} (h:aI S w w') (hs:∀k,S k->S' k):aI S' w w':=⟨h.os,h.tape,h.output,h.size,λk hk hn=>h.block k hk (λx=>hn (hs k x))⟩
theorem Fv.Own.akL {h:Nat} {f:Fv} (hv:f.val=Y5 v) (hf:f.fit):f.Own w h S g v:=by
 cases f with
 | s t=>cases hv;exact⟨rfl,hf⟩
 | i n=>cases hv;exact rfl
 | b x=>cases hv;exact rfl
 | l zs=>cases hv
def NoH(N:Nat->Prop) (rs:List (List Fv)) (H:Nat->Nat->Nat):Prop:=∀(j:Nat) r (i:Nat) zs,rs[j]?=Y5 r->r[i]?=Y5 (.l zs)->zs≠[]->¬N (H j i)
structure StJ (g m:Nat) (T:TypeId) (S N:Nat->Prop) (w wr:World) (rs:List (List Fv)) (j:Nat) (r:List Fv):Prop where
 own:∃cur H,er wr g m T (rs.set j r) S cur H/\NoH N (rs.set j r) H
 kept:aI S w wr
 lt:j<rs.length
section
variable {g m:Nat} {T:TypeId} {S N:Nat->Prop} {w wr w2:World} {rs:List (List Fv)} {j:Nat} {r:List Fv}
theorem StJ.get(h:StJ g m T S N w wr rs j r):(rs.set j r)[j]?=Y5 r:=by rw[dW h.lt,if_pos rfl]
theorem StJ.cell(h:StJ g m T S N w wr rs j r) {i:Nat} {f:Fv} (hi:r[i]?=Y5 f):∃v,wr.cell? ⟨g,j*m+i,U⟩=Y5 v:=by
 obtain⟨⟨cur,H,h1,hN⟩,h2,h3⟩:=h;obtain⟨v,h4,h5⟩:=h1.cell j r (by rw[dW h3,if_pos rfl]) i f hi;exact⟨v,(an h1.blk _).trans h4⟩
theorem StJ.ob(h:StJ g m T S N w wr rs j r) (i:Nat):wr.frozen? ⟨g,i,U⟩=Y_:=by
 obtain⟨⟨cur,H,h1,hN⟩,h2,h3⟩:=h;exact al h1.blk i
theorem lr(hlt:j<rs.length) {f:Fv} {i:Nat} (hl:∀(j':Nat) r',(rs.set j r)[j']?=Y5 r'->r'.length=m):∀(j':Nat) r',(rs.set j (r.set i f))[j']?=Y5 r'->r'.length=m:=by
 intro j' r' hj';rw[dW hlt] at hj';split at hj'
 ·cases hj';rw[List.length_set];exact hl j r (by rw[dW hlt,if_pos rfl])
 ·exact hl j' r' (by rw[dW hlt,if_neg (by assumption)];exact hj')
theorem StJ.set(h:StJ g m T S N w wr rs j r) {i:Nat} {old:Fv} (hi:r[i]?=Y5 old) (f:Fv) {v:Value} (hv:f.val=Y5 v) (hf:f.fit):StJ g m T S N w (wr.setCell ⟨g,j*m+i,U⟩ v) rs j (r.set i f):=by
 have z371z:=@aa _ @acC;exact zK
end
theorem StJ.RX {N:Nat->Prop} {rs:List (List Fv)} {r:List Fv} (h:StJ g m T S N w wr rs j r) {i:Nat} {old:Fv} (hi:r[i]?=Y5 old) (t:ByteArray) (hf:t.size<=9223372036854775807):StJ g m T S N w (wr.setCell ⟨g,j*m+i,U⟩ (I t)) rs j (r.set i (.s t)):=h.set hi (.s t) rfl hf
theorem StJ.AZ {N:Nat->Prop} {rs:List (List Fv)} {r:List Fv} (h:StJ g m T S N w wr rs j r) {i:Nat} {old:Fv} (hi:r[i]?=Y5 old) (t:Int):StJ g m T S N w (wr.setCell ⟨g,j*m+i,U⟩ (Y7 Y6 t)) rs j (r.set i (.i t)):=h.set hi (.i t) rfl trivial
theorem aw.st {len:Nat} {rs:List (List Fv)} (h:aw wr a len cap m T rs S) (hk:aI S w wr) {i:Nat} {r:List Fv} (hi:rs[i]?=Y5 r):∃g,a=Y5 ⟨g,0,U⟩/\StJ g m T S (λ_=>False) w wr rs i r:=by
 obtain⟨h1,h2,h3,h4⟩:=h;rcases h4 with h4|⟨g,cur,H,h5,h6⟩
 ·subst h4;simp at hi
 ·refine⟨g,h5,⟨cur,H,?_,λ_ _ _ _ _ _ _ q=>q⟩,hk,(Yc.1 hi).1⟩;rw[rE hi];exact h6
end Rc
def Vd.Fit(v:Vd):Prop:=v.n.size<=9223372036854775807/\v.z.size<=9223372036854775807/\v.k.size<=9223372036854775807/\v.m.size<=9223372036854775807
def Vd.At(v:Vd) (w:World) (b o:Nat):Prop:=v.Fit/\∃a len cap,az w a len cap v.zs/\
 w.cell? ⟨b,o,U⟩=Y5 (I v.n)/\w.cell? ⟨b,o+1,U⟩=Y5 (Y7 Y6 v.c)/\w.cell? ⟨b,o+2,U⟩=Y5 (I v.z)/\w.cell? ⟨b,o+3,U⟩=Y5 (I v.k)/\
 w.cell? ⟨b,o+4,U⟩=Y5 (Y9 v.x)/\w.cell? ⟨b,o+5,U⟩=Y5 (I v.m)/\w.cell? ⟨b,o+6,U⟩=Y5 (Y9 v.y)/\w.cell? ⟨b,o+7,U⟩=Y5 (J a len cap)
theorem Vd.At.below {v:Vd} {b o:Nat} (h:v.At w b o) (hl:b<w.heap.size) (hb:Below w.heap.size w w'):v.At w' b o:=by
 obtain⟨hf,a,len,cap,hr,h0,h1,h2,h3,h4,h5,h6,h7⟩:=h;exact⟨hf,a,len,cap,hr.below hb,(ai hb hl).trans h0,(ai hb hl).trans h1,(ai hb hl).trans h2,(ai hb hl).trans h3,(ai hb hl).trans h4,(ai hb hl).trans h5,(ai hb hl).trans h6,(ai hb hl).trans h7⟩
def nT(w:World) (a:Option Addr) (len cap:Nat) (vs:List Vd):Prop:=
 vs.length=len/\len<=cap/\cap<=9223372036854775807/\
 (vs=[]\/∃b o,a=Y5 ⟨b,o,U⟩/\b<w.heap.size/\∀(j:Nat) v,vs[j]?=Y5 v->v.At w b (o+j*8))
theorem nT.below {len:Nat} {vs:List Vd} (h:nT w a len cap vs) (hb:Below w.heap.size w w'):nT w' a len cap vs:=by
 exact Qj
theorem nT.at {len:Nat} {vs:List Vd} (h:nT w a len cap vs) {j:Nat} (hj:j<len):
  ∃b o v,a=Y5 ⟨b,o,U⟩/\b<w.heap.size/\vs[j]?=Y5 v/\v.At w b (o+j*8):=by
 obtain⟨h1,h2,h3,h5⟩:=h;have hx:vs[j]?=Y5 (vs[j]'(by omega)):=Yi _;exact PD
namespace Rc
section
variable {α:Type} {nm:α->ByteArray} {xs:List α} {t:ByteArray}
theorem f_(h:∀(j:Nat) x,xs[j]?=Y5 x->¬nm x=t):hit nm xs t=Y_:=by
 unfold hit;split
 ·next x hx=>exact bu (h _ x hx)
 ·rfl
end
def anj(xs:List Pd) (t:ByteArray) (w:World) (e:Ending) (w':World):Prop:=
 Below w.heap.size w w'/\((∃(j:Nat) (x:Pd),xs[j]?=Y5 x/\x.n=t/\e=Za (Y7 Y6 j))\/((∀(j:Nat) x,xs[j]?=Y5 x->¬x.n=t)/\e=Za (Y7 Y6 (-1))))
theorem gL(d:Ad) (now:Int) (xs:List Pd) (t:ByteArray) (w:World) (hr:aT w d.a5 d.l5 d.c5 6 (xs.map pdF)):
  Calls Tryz.prog 43 #[Zc #[J d.a1 d.l1 d.c1,J d.a2 d.l2 d.c2,J d.a3 d.l3 d.c3,J d.a4 d.l4 d.c4,J d.a5 d.l5 d.c5,Y7 Y6 now],I t] w (anj xs t w):=by
 have HR:=aa hr;have hxl:xs.length=d.l5:=fg
 have hlc:=Yp hr.2.1 hr.2.2.1;clear hr;go_enter Tryz.func43,Tryz.ntmps43;go_wp2;go_loopw [5] (λi wr=> ∃k:Nat,k<=d.l5/\i=Y7 Y6 k/\wr=w.alloc (Y8 #[J d.a1 d.l1 d.c1,J d.a2 d.l2 d.c2,J d.a3 d.l3 d.c3,J d.a4 d.l4 d.c4,J d.a5 d.l5 d.c5,Y7 Y6 now] 29)/\Hid (∀(j:Nat) z,j<k->xs[j]?=Y5 z->¬z.n=t)) (λi _=>d.l5 - (intOf i).toNat);case atStart=>exact⟨0,by omega,rfl,rfl,λ_ _ h=>absurd h af⟩
 case round=>
  obtain⟨k,hk,rfl,rfl,HE⟩:=hrel;by_cases hlt:k<d.l5
  ·obtain⟨b,o,x,ha,hb,hx,hat⟩:=cg HR.out hlt;obtain⟨va,vl,vc,hvr,-,-,-,c0,-,-,-,-,-⟩:=bH hat;have HX:=aa hx;clear hat hx hvr;exact uI
  ·obtain rfl:k=d.l5:=af
   exact uA
def amM(c:Cl) (t:ByteArray) (p:Int):Prop:=(8000<t.size/\p=2)\/(¬8000<t.size/\¬aq c/\p=1)\/(¬8000<t.size/\aq c/\p=0)
theorem me(d:Ad) (c:Cl) (t:ByteArray) (w:World) (hr:aB w d c.raw):
  Calls Tryz.prog 31 #[Zc #[J d.a1 d.l1 d.c1,J d.a2 d.l2 d.c2,J d.a3 d.l3 d.c3,J d.a4 d.l4 d.c4,J d.a5 d.l5 d.c5,Y7 Y6 c.now],I t] w λe w'=> ∃p:Int,e=Za (Y7 Y6 p)/\amM c t p/\Below w.heap.size w w':=by
 obtain⟨HR,HB⟩:=kY;clear hr;by_cases hl:8000<t.size
 ·go_enter Tryz.func31,Tryz.ntmps31;go_wp2;go_ret;exact⟨2,rfl,Ze ⟨hl,rfl⟩,ak _ _⟩
 go_enter Tryz.func31,Tryz.ntmps31;go_wp2_with fail;refine (cY d c _ (HR.below (HB.trans ((ak _ _).mono HB.size)))).mono ?_;rintro e w1 ⟨r,rfl,hi,hb⟩;obtain⟨HA0,hbx⟩:=aV hb;replace HB:=upB HB hbx;clear hb hbx HA0;have HI:=aa hi;clear hi;cases r
 ·go_wp2;go_ret;exact⟨1,rfl,Zd (Ze ⟨hl,λh=>(by have:=HI.2 h;cases this),rfl⟩),HB.out⟩
 ·go_wp2;go_ret;exact⟨0,rfl,Zd (Zd ⟨hl,HI.1 bM,rfl⟩),HB.out⟩
theorem df.row {c:Cr} (h:df w d c S):aB w d c:=⟨h.n.row,h.k.row,h.v.row,h.x.row,h.p.row⟩
theorem loq(h:p:=by first|omega|(obtain⟨s,_⟩:=s;omega)|(rcases s with s|s <;> omega)|(rcases s with (s|s)|s <;> omega)):p:=h
theorem df.rl {c:Cr} {B:Nat} (h:df w d c S) (hS:∀k,S k->B<=k):kf B w d c:=⟨h.n.rl hS,h.k.rl hS,h.v.rl hS,h.x.rl hS,h.p.rl hS⟩
end Rc
def svB(c:Int) (z k:ByteArray) (x:Bool) (m:ByteArray) (y:Bool) (c':Int) (k':ByteArray) (x':Bool) (t:ByteArray):Bool:=
 (k.toList==k'.toList) && (x==x') && !y && m.toList.isEmpty && decide (c'<=c) && (t.toList.isEmpty || (z.toList==t.toList))
theorem RU(n:ByteArray) (c:Int) (z:ByteArray) (k:ByteArray) (x:Bool) (m:ByteArray) (y:Bool) (a:Option Addr) (len cap:Nat) (n':ByteArray) (c':Int) (k':ByteArray) (x':Bool) (v':ByteArray) (t:ByteArray) (w:World):
  Calls Tryz.prog 173 #[Zc #[I n,Y7 Y6 c,I z,I k,Y9 x,I m,Y9 y,J a len cap],Zc #[I n',Y7 Y6 c',I k',Y9 x',I v'],I t] w λe w'=>e=Za (Y9 (svB c z k x m y c' k' x' t))/\Below w.heap.size w w':=by
 have HB:=aa (aS w (Y8 #[I n,Y7 Y6 c,I z,I k,Y9 x,I m,Y9 y,J a len cap] 38) (Y8 #[I n',Y7 Y6 c',I k',Y9 x',I v'] 50));unfold svB;cases h0:(k.toList==k'.toList)
 ·exact oT
 cases h1:(x==x')
 ·exact oT
 cases y;case true=>
  exact oT
 cases h2:m.toList.isEmpty
 ·exact oT
 by_cases h3:c'<=c;case neg=>
  have h3':decide (c'<=c)=Y_:=by simpa using h3
  rw[h3'];exact oT
 have h3':decide (c'<=c)=Zb:=by simpa using h3
 rw[h3'];cases h4:t.toList.isEmpty
 ·cases h5:(z.toList==t.toList);all_goals (
   go_enter Tryz.func173,Tryz.ntmps173
   go_wp2_with fail;go_ret
   exact⟨rfl,HB.out⟩)
 ·exact oT
def nQ(v u:Vd):Bool:=decide (v.c<u.c) || ((v.c==u.c) && Yk v.n.toList u.n.toList)
def stepB(sv:Vd->Bool) (acc:Option Vd) (v:Vd):Option Vd:=if (sv v && (match acc with|U=>Zb|Y5 u=>nQ v u))=Zb then Y5 v else acc
def fl(sv:Vd->Bool) (vs:List Vd):Option Vd:=vs.foldl (stepB sv) U
def svV(c':Int) (k':ByteArray) (x':Bool) (t:ByteArray) (v:Vd):Bool:=svB v.c v.z v.k v.x v.m v.y c' k' x' t
theorem gA {sv:Vd->Bool} {vs:List Vd} {v:Vd} (h:vs[i]?=Y5 v):fl sv (vs.take (i+1))=stepB sv (fl sv (vs.take i)) v:=by
 unfold fl;rw[YN,h];simp
def dm(sv:Vd->Bool) (vs:List Vd) (i:Nat) (r:Int):Prop:=
 (r= -1/\fl sv (vs.take i)=U)\/∃(j:Nat) (u:Vd),r=j/\j<vs.length/\vs[j]?=Y5 u/\fl sv (vs.take i)=Y5 u
theorem dm.no {sv:Vd->Bool} {vs:List Vd} {r:Int} {v:Vd} (h:dm sv vs i r) (hv:vs[i]?=Y5 v) (hs:sv v=Y_):dm sv vs (i+1) r:=by
 unfold dm;rw[gA hv];simp only[stepB,hs,Bool.false_and,Bool.false_eq_true,if_false];exact h
theorem dm.first {sv:Vd->Bool} {vs:List Vd} {v:Vd} (h:fl sv (vs.take i)=U) (hv:vs[i]?=Y5 v) (hs:sv v=Zb):dm sv vs (i+1) i:=by
 refine Zd ⟨i,v,rfl,(Yc.1 hv).1,hv,?_⟩;rw[gA hv,h];simp[stepB,hs]
theorem dm.new {sv:Vd->Bool} {vs:List Vd} {v u:Vd} (h:fl sv (vs.take i)=Y5 u) (hv:vs[i]?=Y5 v) (hs:sv v=Zb) (hb:nQ v u=Zb):dm sv vs (i+1) i:=by
 refine Zd ⟨i,v,rfl,(Yc.1 hv).1,hv,?_⟩;rw[gA hv,h];simp[stepB,hs,hb]
theorem dm.old {sv:Vd->Bool} {vs:List Vd} {v u:Vd} (hj:vs[j]?=Y5 u) (h:fl sv (vs.take i)=Y5 u) (hv:vs[i]?=Y5 v) (hb:nQ v u=Y_):dm sv vs (i+1) j:=by
 refine Zd ⟨j,u,rfl,(Yc.1 hj).1,hj,?_⟩;rw[gA hv,h];simp[stepB,hb]
theorem B3(v:Vd) (va:Option Addr) (vl vc:Nat) (n':ByteArray) (c':Int) (k':ByteArray) (x':Bool) (v':ByteArray) (t:ByteArray) (w:World) {b:Bool} (h:svV c' k' x' t v=b):
  Calls Tryz.prog 173 #[Zc #[I v.n,Y7 Y6 v.c,I v.z,I v.k,Y9 v.x,I v.m,Y9 v.y,J va vl vc],Zc #[I n',Y7 Y6 c',I k',Y9 x',I v'],I t] w λe w'=>e=Za (Y9 b)/\Below w.heap.size w w':=by
 subst h;exact RU v.n v.c v.z v.k v.x v.m v.y va vl vc n' c' k' x' v' t w
theorem vM(a:Option Addr) (len cap:Nat) (vs:List Vd) (n':ByteArray) (c':Int) (k':ByteArray) (x':Bool) (v':ByteArray) (t:ByteArray) (w:World) (hr:nT w a len cap vs):
  Calls Tryz.prog 162 #[J a len cap,Zc #[I n',Y7 Y6 c',I k',Y9 x',I v'],I t] w λe w'=> ∃r:Int,e=Za (Y7 Y6 r)/\dm (svV c' k' x' t) vs len r/\Below w.heap.size w w':=by
 have HR:=aa hr;have hvl:=hr.1;have hlc:=Yp hr.2.1 hr.2.2.1;clear hr;go_enter Tryz.func162,Tryz.ntmps162;go_wp2;go_loopw [7,8] (λvk vi wr=> ∃(i:Nat) (r:Int),i<=len/\vk=Y7 Y6 r/\vi=Y7 Y6 i/\Hid (dm (svV c' k' x' t) vs i r)/\Hid (wr.heap[w.heap.size]?=Y5 (Y8 #[I n',Y7 Y6 c',I k',Y9 x',I v'] 50 (0,0)))/\Hid (Below w.heap.size w wr)) (λ_ vi _=>len - (intOf vi).toNat);case atStart=>exact⟨0,-1,by omega,rfl,rfl,Ze ⟨rfl,rfl⟩,Yg,ak _ _⟩
 case round=>
  obtain⟨i,r,hi,rfl,rfl,HA,HG,HB⟩:=hrel;by_cases hlt:i<len;case neg=>
   obtain rfl:i=len:=af
   go_wp2;go_ret;exact⟨r,rfl,HA.out,HB.out⟩
  obtain⟨b,o,v,rfl,hb,hv,-,va,vl,vc,-,p0,p1,p2,p3,p4,p5,p6,p7⟩:=(HR.below HB.out).at hlt;have hgl:=ae HG.out;have HV:=aa hv;have hne:=Wd.ne wr;have e0:∀q:Wd wr,q.w.cell? ⟨b,o+i*8,U⟩=Y5 (I v.n):=λq=>(q.cell hb).trans p0;have e1:∀q:Wd wr,q.w.cell? ⟨b,o+i*8+1,U⟩=Y5 (Y7 Y6 v.c):=λq=>(q.cell hb).trans p1;have e2:∀q:Wd wr,q.w.cell? ⟨b,o+i*8+2,U⟩=Y5 (I v.z):=λq=>(q.cell hb).trans p2;have e3:∀q:Wd wr,q.w.cell? ⟨b,o+i*8+3,U⟩=Y5 (I v.k):=λq=>(q.cell hb).trans p3;have e4:∀q:Wd wr,q.w.cell? ⟨b,o+i*8+4,U⟩=Y5 (Y9 v.x):=λq=>(q.cell hb).trans p4;have e5:∀q:Wd wr,q.w.cell? ⟨b,o+i*8+5,U⟩=Y5 (I v.m):=λq=>(q.cell hb).trans p5;have e6:∀q:Wd wr,q.w.cell? ⟨b,o+i*8+6,U⟩=Y5 (Y9 v.y):=λq=>(q.cell hb).trans p6;have e7:∀q:Wd wr,q.w.cell? ⟨b,o+i*8+7,U⟩=Y5 (J va vl vc):=λq=>(q.cell hb).trans p7;have d0:∀q:Wd wr,q.w.cell? ⟨w.heap.size,0,U⟩=Y5 (I n'):=λq=>q.slot HG.out rfl;have d1:∀q:Wd wr,q.w.cell? ⟨w.heap.size,1,U⟩=Y5 (Y7 Y6 c'):=λq=>q.slot HG.out rfl;have d2:∀q:Wd wr,q.w.cell? ⟨w.heap.size,2,U⟩=Y5 (I k'):=λq=>q.slot HG.out rfl;have d3:∀q:Wd wr,q.w.cell? ⟨w.heap.size,3,U⟩=Y5 (Y9 x'):=λq=>q.slot HG.out rfl;have d4:∀q:Wd wr,q.w.cell? ⟨w.heap.size,4,U⟩=Y5 (I v'):=λq=>q.slot HG.out rfl;clear hv p2 p3 p4 p5 p6 p7;cases hs:svV c' k' x' t v
  ·have HF:=aa (λq:Wd wr=>B3 v va vl vc n' c' k' x' v' t q.w hs);have HS:=aa hs;clear hs p0 p1;have z55z:=@aa _ @agd;exact aC
  have HF:=aa (λq:Wd wr=>B3 v va vl vc n' c' k' x' v' t q.w hs);have HS:=aa hs;clear hs;rcases HA.out with ⟨rfl,hn⟩|⟨j,u,rfl,hj,hu,hbu⟩
  ·have HN:=aa hn;clear hn p0 p1;have z55z:=@aa _ @agc;exact aC
  obtain⟨b2,o2,u2,e2,hb2,hu2,-,ua,ul,uc,-,s0,s1,-,-,-,-,-,-⟩:=(HR.below HB.out).at (j:=j) af;rw[hu] at hu2;obtain rfl:=Yd hu2;cases e2;have g0:∀q:Wd wr,q.w.cell? ⟨b,o+j*8,U⟩=Y5 (I u.n):=λq=>(q.cell hb).trans s0;have g1:∀q:Wd wr,q.w.cell? ⟨b,o+j*8+1,U⟩=Y5 (Y7 Y6 u.c):=λq=>(q.cell hb).trans s1;have HBU:=aa hbu;have HU:=aa hu;have hj0:¬(j:Int)<0:=af
  have hj1:decide ((j:Int)<0)=Y_:=aG
  have hjl:(j:Int)<len:=af
  clear hu hu2 hbu s0 s1 p0 p1 hb2;by_cases h1:v.c<u.c
  ·have q1:decide (v.c<u.c)=Zb:=by simpa using h1
   have HX:=aa (show nQ v u=Zb by simp[nQ,h1]);exact ahL
  have q1:decide (v.c<u.c)=Y_:=by simpa using h1
  by_cases h2:v.c=u.c;case neg=>
   have q2:(v.c==u.c)=Y_:=by simpa using h2
   have HX:=aa (show nQ v u=Y_ by simp[nQ,h1,h2]);exact ahM
  have q2:(v.c==u.c)=Zb:=by simpa using h2
  cases q3:Yk v.n.toList u.n.toList
  ·have HX:=aa (show nQ v u=Y_ by simp[nQ,h1,q3]);exact ahM
  ·have HX:=aa (show nQ v u=Zb by simp[nQ,h2,q3]);clear h2;exact ahL
def aN:ByteArray:=⟨#[118,95]⟩
def vq(n' k' v' n z t:ByteArray):Prop:=k'=n/\v'=⟨#[]⟩/\(z=⟨#[]⟩\/z=t)/\n'.size<=18
theorem QT {n':ByteArray} (h:n'.size<=18):(⟨#[118,95]⟩:ByteArray).size+n'.size<=9223372036854775807:=by rw[show (⟨#[118,95]⟩:ByteArray).size=2 from rfl];omega
theorem B8(n':ByteArray) (c':Int) (k':ByteArray) (x':Bool) (v':ByteArray) (n:ByteArray) (x:Bool) (y:Bool) (z:ByteArray) (t:ByteArray) (w:World) (hn':n'.size<=9223372036854775807) (hm:¬vq n' k' v' n z t):
  Calls Tryz.prog 163 #[Zc #[I n',Y7 Y6 c',I k',Y9 x',I v'],Zc #[I n,Y9 x,Y9 y,I z],I t] w λe w'=>e=Za (Zg #[Zc #[I ⟨#[]⟩,Y7 Y6 0,I ⟨#[]⟩,I ⟨#[]⟩,Y9 Y_,I ⟨#[]⟩,Y9 Y_,J U 0 0],Y9 Y_])/\Below w.heap.size w w':=by
 have HM:=aa hm;clear hm;by_cases h0:k'=n;case neg=>
  have q0:=bu h0;clear h0;exact oW
 have q0:=aP h0;have H0:=aa h0;clear h0;by_cases h1:v'=⟨#[]⟩;case neg=>
  have q1:=aY h1;clear h1;exact oW
 have q1:=(fj v').2 h1;have H1:=aa h1;clear h1;by_cases h3:18<n'.size
 ·by_cases h2:z=⟨#[]⟩
  ·have q2:=(fj z).2 h2;clear h2;exact oW
  ·have q2:=aY h2;by_cases h4:z=t
   ·have q4:=aP h4;clear h4 h2;exact oW
   ·have q4:=bu h4;clear h4 h2;exact oW
 by_cases h2:z=⟨#[]⟩
 ·exact absurd ⟨H0.out,H1.out,Ze h2,by omega⟩ HM.out
 have q2:=aY h2;by_cases h4:z=t
 ·exact absurd ⟨H0.out,H1.out,Zd h4,by omega⟩ HM.out
 have q4:=bu h4;clear h4 h2;exact oW
theorem yi(n':ByteArray) (c':Int) (k':ByteArray) (x':Bool) (v':ByteArray) (n:ByteArray) (x:Bool) (y:Bool) (z:ByteArray) (t:ByteArray) (w:World) (hm:vq n' k' v' n z t):
  Calls Tryz.prog 163 #[Zc #[I n',Y7 Y6 c',I k',Y9 x',I v'],Zc #[I n,Y9 x,Y9 y,I z],I t] w λe w'=>e=Za (Zg #[Zc #[I (aN++n'),Y7 Y6 c',I t,I k',Y9 x',I n',Y9 Y_,J U 0 0],Y9 Zb])/\Below w.heap.size w w':=by
 obtain⟨h0,h1,h2,h3⟩:=hm;have q0:=aP h0;have q1:=(fj v').2 h1;have q5:=QT h3;clear h0 h1;by_cases h4:z=⟨#[]⟩
 ·have q2:=(fj z).2 h4;exact ahz
 ·have q2:=aY h4;have q4:=aP (h2.resolve_left h4);exact ahz
namespace Rc
theorem alg {len:Nat} {vs:List Vd} (h:aT w a len cap 8 (vs.map vdF)):nT w a len cap vs:=by
 obtain⟨h1,h2,h3,h5⟩:=h;refine⟨by simpa using h1,h2,h3,?_⟩;rcases h5 with h5|⟨b,o,rfl,hlt,hc⟩
 ·exact Ze (by simpa using h5)
 ·refine Zd ⟨b,o,rfl,hlt,λj v hv=>?_⟩;obtain⟨va,vl,vc,hvr,z0,z2,z3,z5,c0,c1,c2,c3,c4,c5,c6,c7⟩:=aW (hc j (vdF v) (by rw[Yv,hv];rfl));exact⟨⟨z0,z2,z3,z5⟩,va,vl,vc,hvr,c0,c1,c2,c3,c4,c5,c6,c7⟩
def bdX(x:Xd) (n:ByteArray):Xd:=⟨x.n,x.z,x.k,x.x,n⟩
def bdV(v:Vd) (n:ByteArray):Vd:=⟨v.n,v.c,v.z,v.k,v.x,n,v.y,v.zs⟩
def fK(c:Cl) (i j:Nat) (x:Xd) (u:Vd):Cl:=⟨c.ns,c.ks,c.vs.set j (bdV u x.n),c.xs.set i (bdX x u.n),c.ps,c.now⟩
def mkV(x:Xd) (t:ByteArray):Vd:=⟨aN++x.n,x.z,t,x.k,x.x,x.n,Y_,[]⟩
def ew(c:Cl) (i:Nat) (x:Xd) (t:ByteArray):Cl:=⟨c.ns,c.ks,aR (pl Vd.n c.vs (aN++x.n)) (mkV x t) c.vs,c.xs.set i (bdX x (aN++x.n)),c.ps,c.now⟩
def cO(t z:ByteArray):ByteArray:=if t=⟨#[]⟩ then z else t
def lq(x:Xd) (k:Kd) (t:ByteArray):Prop:=¬cO t k.z=⟨#[]⟩/\vq x.n x.k x.v k.n k.z (cO t k.z)
def iP(c:Cl) (i:Nat) (x:Xd) (k:Kd) (t:ByteArray) (o:Co):Prop:=
 (∃j u,fl (svV x.z x.k x.x t) c.vs=Y5 u/\c.vs[j]?=Y5 u/\o=⟨fK c i j x u,u.n,0⟩)\/
 (fl (svV x.z x.k x.x t) c.vs=U/\((¬lq x k t/\o=co0 6)\/(lq x k t/\((hit Vd.n c.vs (aN++x.n)=Zb/\o=co0 7)\/(hit Vd.n c.vs (aN++x.n)=Y_/\((¬c.vs.length<8/\o=co0 9)\/(c.vs.length<8/\o=⟨ew c i x (cO t k.z),aN++x.n,0⟩)))))))
theorem iP.same {x:Xd} {k:Kd} {o o':Co} (hr:aq c) (h:iP c i x k t o) (h':iP c i x k t o'):o=o':=by
 rcases h with ⟨j,u,a1,a2,rfl⟩|⟨a1,a⟩ <;> rcases h' with ⟨j',u',b1,b2,rfl⟩|⟨b1,b⟩
 ·rw[a1] at b1;obtain rfl:=Yd b1;obtain⟨rfl,-⟩:=hr.2.1.2.2.1.2.2.inj a2 b2 rfl;rfl
 ·rw[a1] at b1;cases b1
 ·rw[a1] at b1;cases b1
 ·rcases a with ⟨a2,rfl⟩|⟨a2,a⟩ <;> rcases b with ⟨b2,rfl⟩|⟨b2,b⟩
  ·rfl
  ·exact absurd b2 a2
  ·exact absurd a2 b2
  ·rcases a with ⟨a3,rfl⟩|⟨a3,a⟩ <;> rcases b with ⟨b3,rfl⟩|⟨b3,b⟩
   ·rfl
   ·rw[a3] at b3;cases b3
   ·rw[a3] at b3;cases b3
   ·rcases a with ⟨a4,rfl⟩|⟨a4,rfl⟩ <;> rcases b with ⟨b4,rfl⟩|⟨b4,rfl⟩
    ·rfl
    ·exact absurd b4 a4
    ·exact absurd a4 b4
    ·rfl
theorem dn {u z:α} (_hu:xs[j]?=Y5 u) (h:(xs.set j y)[k]?=Y5 z):(k=j/\z=y)\/(¬k=j/\xs[k]?=Y5 z):=by
 rw[YZ] at h;by_cases e:j=k
 ·rw[if_pos e] at h;split at h
  ·exact Ze ⟨e.symm,(Yd h).symm⟩
  ·cases h
 ·rw[if_neg e] at h;exact Zd ⟨λq=>e q.symm,h⟩
theorem il {u:α} (hu:xs[j]?=Y5 u):(xs.set j y)[j]?=Y5 y:=by
 rw[YZ,if_pos rfl,if_pos (Yc.1 hu).1]
theorem db {z:α} (hk:¬k=j) (h:xs[k]?=Y5 z):(xs.set j y)[k]?=Y5 z:=by
 rw[YZ,if_neg (λe=>hk e.symm)];exact h
theorem jt {x:α} (h:aF nm xs) (hx:xs[k]?=Y5 x) (e:nm y=nm x):aF nm (xs.set k y):=by
 intro j a b ha hb;have hn:∀(q:Nat) z,(xs.set k y)[q]?=Y5 z->∃z',xs[q]?=Y5 z'/\nm z=nm z':=λq z hz=>by
  rcases dn hx hz with ⟨rfl,rfl⟩|⟨_,hz⟩
  ·exact⟨x,hx,e⟩
  ·exact⟨z,hz,rfl⟩
 obtain⟨a',ha',ea⟩:=hn _ _ ha;obtain⟨b',hb',eb⟩:=hn _ _ hb;rw[ea,eb];exact h j a' b' ha' hb'
theorem lQ {x:α} (h:aF nm xs) (hx:xs[k]?=Y5 x) (e:nm y=nm x) (hh:hit nm xs t=Zb):hit nm (xs.set k y) t=Zb:=by
 obtain⟨z,hz,hn⟩:=cf hh;generalize pl nm xs t=q at hz;by_cases hq:q=k
 ·subst hq;rw[hx] at hz;obtain rfl:=Yd hz;exact (bo (jt h hx e) (il hx) (e.trans hn)).2
 ·exact (bo (jt h hx e) (db hq hz) hn).2
theorem nC(t:ByteArray):∀(vs:List Vd) (j:Nat) (u y:Vd),vs[j]?=Y5 u->y.zs=u.zs->onOf t (vs.set j y)=onOf t vs
 | [],_,_,_,h,_=>by simp at h
 | v ::vs,0,u,y,h,e=>by
  obtain rfl:v=u:=np
  rw[YC];unfold onOf;rw[e]
 | v ::vs,j+1,u,y,h,e=>by
  have h':vs[j]?=Y5 u:=np
  simp[onOf,nC t vs j u y h' e]
theorem lO {p:Nat} {x:α} (h:(aR p x xs)[j]?=Y5 y):y=x\/∃i:Nat,xs[i]?=Y5 y:=by
 have h1:=Ys h;unfold aR at h1;simp only[List.mem_append,List.mem_singleton] at h1;rcases h1 with (h1|h1)|h1
 ·exact Zd (YD (List.mem_of_mem_take h1))
 ·exact Ze h1
 ·exact Zd (YD (List.mem_of_mem_drop h1))
theorem akS(p:Nat) (x:α) (xs:List α):∃j:Nat,(aR p x xs)[j]?=Y5 x:=YD (by unfold aR;simp)
theorem nN(p:Nat) (x:α) {j:Nat} {y:α} {xs:List α} (h:xs[j]?=Y5 y):∃i:Nat,(aR p x xs)[i]?=Y5 y:=by
 refine YD ?_;have h1:=Ys h;rw[<-List.take_append_drop p xs,List.mem_append] at h1;unfold aR;simp only[List.mem_append,List.mem_singleton];exact h1.elim (λh=>Ze (Ze h)) Zd
theorem ags(t:ByteArray) (p:Nat) (y:Vd) (vs:List Vd) (e:y.zs=[]):onOf t (aR p y vs)=onOf t vs:=by
 have h0:¬InL y.zs t:=λ⟨k,hk⟩=>by rw[e] at hk;simp at hk
 have h1:onOf t [y]=0:=by
  unfold onOf;rw[if_neg h0];simp[onOf]
 have h2:=ei t (vs.take p) (vs.drop p);rw[List.take_append_drop] at h2;unfold aR;rw[ei,ei,h1,h2];omega
theorem A9(h:Yk x.toList t.toList=Y_) (hn:¬x=t):Yk t.toList x.toList=Zb:=by
 exact PK
theorem uV(b:Bool):dX [] (if b=Zb then 1 else 6):=⟨by cases b <;> decide,λi x h=>by simp at h⟩
theorem aiv(h:aF nm xs) (hn:nm y=t) (hh:hit nm xs t=Y_):aF nm (aR (pl nm xs t) y xs):=by
 have hp:pl nm xs t<=xs.length:=List.findIdx_le_length;have lo:∀(q:Nat) z,q<pl nm xs t->xs[q]?=Y5 z->Yk (nm z).toList t.toList=Zb:=λq z hq hz=>by
  have h1:=List.not_of_lt_findIdx (p:=λx=> !Yk (nm x).toList t.toList) (xs:=xs) hq;obtain⟨h2,rfl⟩:=Yc.1 hz;simpa using h1
 have hi:∀(q:Nat) z,pl nm xs t<=q->xs[q]?=Y5 z->Yk t.toList (nm z).toList=Zb:=λq z hq hz=>by
  have hl:=(Yc.1 hz).1;have h1:=List.findIdx_getElem (p:=λx=> !Yk (nm x).toList t.toList) (xs:=xs) (w:=Nat.lt_of_le_of_lt hq hl);have h2:xs[pl nm xs t]?=Y5 (xs[pl nm xs t]'(Nat.lt_of_le_of_lt hq hl)):=Yi _;have h3:Yk (nm (xs[pl nm xs t]'(Nat.lt_of_le_of_lt hq hl))).toList t.toList=Y_:=by simpa[pl] using h1
  have h4:=A9 h3 (λe=>by
   have:=(bo h h2 e).2;rw[hh] at this
   cases this)
  rcases Nat.lt_or_eq_of_le hq with k|k
  ·exact cJ _ _ _ h4 (h.lt k h2 hz)
  ·rw[<-k,h2] at hz;obtain rfl:=Yd hz;exact h4
 intro j a b ha hb;have ja:j+1<xs.length+1:=by
  have:=(Yc.1 ha).1;rw[dq hp] at this;exact this
 rw[lP hp _ ja] at ha;rw[lP hp _ af] at hb;generalize pl nm xs t=p at*;rcases Nat.lt_trichotomy (j+1) p with k|k|k
 ·rw[if_pos k,Yu af] at ha;rw[if_pos af,Yu af] at hb;exact h j a b ha hb
 ·rw[if_neg af,if_pos k] at ha;rw[if_pos af,Yu af] at hb;obtain rfl:y=a:=by simpa using ha
  rw[hn];exact lo j b af hb
 ·rw[if_neg af,if_neg af,Nat.add_sub_cancel,Yu af] at ha;rw[if_neg af] at hb;by_cases e:j=p
  ·rw[if_pos e] at hb;obtain rfl:y=b:=by simpa using hb
   rw[hn];exact hi j a af ha
  ·rw[if_neg e,Yu af] at hb;obtain⟨q,rfl⟩:∃q,j=q+1:=⟨j - 1,by omega⟩;exact h q a b ha hb
section
variable {c:Cl} {i j:Nat} {x:Xd} {u:Vd}
theorem pn(hT:aq c) (hx:c.xs[i]?=Y5 x) (hxv:x.v=⟨#[]⟩) (hu:c.vs[j]?=Y5 u) (hum:u.m=⟨#[]⟩) {t s:ByteArray} (h:kg c t s):kg (fK c i j x u) t s:=by
 obtain⟨i1,j1,x1,v1,a1,a2,a3,a4,a5,a6,a7⟩:=h;refine⟨i1,j1,x1,v1,db (λe=>?_) a1,a2,db (λe=>?_) a3,a4,a5,a6,a7⟩
 ·exact PH
 ·subst e;rw[hu] at a3;obtain rfl:=Yd a3;have h1:=(hT.2.1.2.2.2.1.2.1 _ _ a1).1.1;rw[a2,<-a6,hum] at h1;exact absurd h1 ag
theorem Bq(hT:aq c) (hx:c.xs[i]?=Y5 x) (hxv:x.v=⟨#[]⟩) (hu:c.vs[j]?=Y5 u) (hum:u.m=⟨#[]⟩) {t:ByteArray} {v:Vd} (h:aO c t v):aO (fK c i j x u) t v:=by
 have hb:=h;obtain⟨i1,j1,x1,a1,a2,a3,a4⟩:=h;have h0:¬x1.v=⟨#[]⟩:=λe=>cq.ne hT.2.1 _ _ a3 (a4.trans e);have hB:=((hT.2.2.1.2 _ _ a1).2.resolve_left h0);obtain⟨i2,j2,x2,v2,c1,c2,c3,c4,c5,c6,-⟩:=hB;obtain⟨rfl,rfl⟩:=hT.2.1.2.2.1.2.2.inj a3 c3 (a4.trans c4.symm);refine⟨i1,j1,x1,db (λe=>?_) a1,a2,db (λe=>?_) a3,a4⟩
 ·subst e;rw[hx] at a1;obtain rfl:=Yd a1;exact h0 hxv
 ·subst e;rw[hu] at a3;obtain rfl:=Yd a3;have h1:=(hT.2.1.2.2.2.1.2.1 _ _ a1).1.1;rw[<-c6,hum] at h1;exact absurd h1 ag
theorem nF {v:Vd} (hT:aq c) (hx:c.xs[i]?=Y5 x) (hxv:x.v=⟨#[]⟩) (h:aO c t v):¬t=x.n:=λe=>by
 obtain⟨i1,j1,x1,a1,a2,a3,a4⟩:=h;obtain⟨-,rfl⟩:=hT.2.1.2.2.2.1.2.2.inj a1 hx (a2.trans e);exact cq.ne hT.2.1 _ _ a3 (a4.trans hxv)
theorem BG(hx:c.xs[i]?=Y5 x) (hu:c.vs[j]?=Y5 u) (hz:x.z<=u.c) (hk:u.k=x.k) (hxx:u.x=x.x):kg (fK c i j x u) x.n u.n:=
 ⟨i,j,bdX x u.n,bdV u x.n,il hx,rfl,il hu,rfl,rfl,rfl,hz,hk,hxx⟩
theorem xM(hT:aq c) (hx:c.xs[i]?=Y5 x) (hxv:x.v=⟨#[]⟩) (hu:c.vs[j]?=Y5 u) (hum:u.m=⟨#[]⟩) (huy:u.y=Y_) (hz:x.z<=u.c) (hk:u.k=x.k) (hxx:u.x=x.x):aq (fK c i j x u):=by
 have hV:=hT.2.1.2.2.1;have hX:=hT.2.1.2.2.2.1;have hux:=hV.2.1 _ _ hu;have hxo:=hX.2.1 _ _ hx;have hB:=BG hx hu hz hk hxx;refine⟨hT.1,⟨hT.2.1.1,hT.2.1.2.1,⟨?_,?_,jt hV.2.2 hu rfl⟩,⟨?_,?_,jt hX.2.2 hx rfl⟩,hT.2.1.2.2.2.2⟩,⟨?_,?_⟩,⟨?_,hT.2.2.2.1.2.1,?_⟩,⟨?_,?_⟩,?_,?_⟩
 ·rw[show (fK c i j x u).vs=c.vs.set j (bdV u x.n) from rfl,List.length_set];exact hV.1
 ·intro k v hv;rcases dn hu hv with ⟨-,rfl⟩|⟨-,hv⟩
  ·exact⟨hux.1,hux.2.1,hux.2.2.1,hux.2.2.2.1,Zd hxo.1,λe=>absurd (show u.y=Zb from e) (by rw[huy];exact Bool.noConfusion),hux.2.2.2.2.2.2⟩
  ·exact hV.2.1 _ _ hv
 ·rw[show (fK c i j x u).xs=c.xs.set i (bdX x u.n) from rfl,List.length_set];exact hX.1
 ·intro k v hv;rcases dn hx hv with ⟨-,rfl⟩|⟨-,hv⟩
  ·exact⟨hxo.1,hxo.2.1,hxo.2.2.1,Zd hux.1⟩
  ·exact hX.2.1 _ _ hv
 ·intro k v hv;rcases dn hu hv with ⟨-,rfl⟩|⟨-,hv⟩
  ·exact⟨(hT.2.2.1.1 _ _ hu).1,Zd hB⟩
  ·exact⟨(hT.2.2.1.1 _ _ hv).1,(hT.2.2.1.1 _ _ hv).2.imp id (pn hT hx hxv hu hum)⟩
 ·intro k v hv;rcases dn hx hv with ⟨-,rfl⟩|⟨-,hv⟩
  ·exact⟨(hT.2.2.1.2 _ _ hx).1,Zd hB⟩
  ·exact⟨(hT.2.2.1.2 _ _ hv).1,(hT.2.2.1.2 _ _ hv).2.imp id (pn hT hx hxv hu hum)⟩
 ·intro k p hp;have h1:=hT.2.2.2.1.1 k p hp;refine⟨λq t ht=>lQ hX.2.2 hx rfl (h1.1 q t ht),h1.2.imp id ?_⟩;rintro⟨i1,n,b1,b2,b3,b4⟩;exact PO
 ·intro k v hv;rcases dn hu hv with ⟨-,rfl⟩|⟨-,hv⟩
  ·exact Qm
  ·exact hT.2.2.2.1.2.2 _ _ hv
 ·intro k v hv;rcases dn hu hv with ⟨-,rfl⟩|⟨-,hv⟩
  ·exact (hT.2.2.2.2.1.1 j u hu:AQ1 c u)
  ·exact hT.2.2.2.2.1.1 _ _ hv
 ·intro k n hn;have h1:onOf n.n c.vs<=n.s:=hT.2.2.2.2.1.2 k n hn;show onOf n.n (c.vs.set j (bdV u x.n))<=n.s;rw[nC n.n c.vs j u (bdV u x.n) hu rfl];exact h1
 ·intro k n hn q t ht;obtain⟨i1,v,b1,b2,b3⟩:=hT.2.2.2.2.2.1 k n hn q t ht;by_cases e:i1=j
  ·subst e;rw[hu] at b1;obtain rfl:=Yd b1;exact⟨i1,bdV u x.n,il hu,b2,b3⟩
  ·exact⟨i1,v,db e b1,b2,b3⟩
 ·intro k p hp h2;obtain⟨i1,n,b1,b2,b3,b4⟩:=hT.2.2.2.2.2.2 k p hp h2;exact PO
end
section
variable {c:Cl} {i:Nat} {x:Xd} {t:ByteArray}
theorem pj(hT:aq c) (hx:c.xs[i]?=Y5 x) (hxv:x.v=⟨#[]⟩) {r s:ByteArray} (h:kg c r s):kg (ew c i x t) r s:=by
 obtain⟨i1,j1,x1,v1,a1,a2,a3,a4,a5,a6,a7⟩:=h;obtain⟨j2,a3'⟩:=nN (pl Vd.n c.vs (aN++x.n)) (mkV x t) a3;refine⟨i1,j2,x1,v1,db (λe=>?_) a1,a2,a3',a4,a5,a6,a7⟩;exact PH
theorem Bm(hT:aq c) (hx:c.xs[i]?=Y5 x) (hxv:x.v=⟨#[]⟩) {r:ByteArray} {v:Vd} (h:aO c r v):aO (ew c i x t) r v:=by
 obtain⟨i1,j1,x1,a1,a2,a3,a4⟩:=h;obtain⟨j2,a3'⟩:=nN (pl Vd.n c.vs (aN++x.n)) (mkV x t) a3;refine⟨i1,j2,x1,db (λe=>?_) a1,a2,a3',a4⟩;subst e;rw[hx] at a1;obtain rfl:=Yd a1;exact cq.ne hT.2.1 _ _ a3 (a4.trans hxv)
theorem A8(hx:c.xs[i]?=Y5 x):kg (ew c i x t) x.n (aN++x.n):=by
 obtain⟨j,hj⟩:=akS (pl Vd.n c.vs (aN++x.n)) (mkV x t) c.vs;exact⟨i,j,bdX x (aN++x.n),mkV x t,il hx,rfl,hj,rfl,rfl,rfl,Int.le_refl _,rfl,rfl⟩
theorem wY(hT:aq c) (hx:c.xs[i]?=Y5 x) (hxv:x.v=⟨#[]⟩) (hh:hit Vd.n c.vs (aN++x.n)=Y_) (hl:c.vs.length<8) (hnm:aL (aN++x.n)) (ht:aL t):aq (ew c i x t):=by
 have hV:=hT.2.1.2.2.1;have hX:=hT.2.1.2.2.2.1;have hxo:=hX.2.1 _ _ hx;have hB:kg (ew c i x t) x.n (aN++x.n):=A8 hx;refine⟨hT.1,⟨hT.2.1.1,hT.2.1.2.1,⟨?_,?_,aiv hV.2.2 rfl hh⟩,⟨?_,?_,jt hX.2.2 hx rfl⟩,hT.2.1.2.2.2.2⟩,⟨?_,?_⟩,⟨?_,hT.2.2.2.1.2.1,?_⟩,⟨?_,?_⟩,?_,?_⟩
 ·rw[show (ew c i x t).vs=aR (pl Vd.n c.vs (aN++x.n)) (mkV x t) c.vs from rfl,dq (show pl Vd.n c.vs (aN++x.n)<=c.vs.length from List.findIdx_le_length)];omega
 ·intro k v hv;rcases lO hv with rfl|⟨k1,hv⟩
  ·exact⟨hnm,hxo.2.1,ht,hxo.2.2.1,Zd hxo.1,λe=>absurd (show Y_=Zb from e) Bool.noConfusion,uV x.x⟩
  ·exact hV.2.1 _ _ hv
 ·rw[show (ew c i x t).xs=c.xs.set i (bdX x (aN++x.n)) from rfl,List.length_set];exact hX.1
 ·intro k v hv;rcases dn hx hv with ⟨-,rfl⟩|⟨-,hv⟩
  ·exact⟨hxo.1,hxo.2.1,hxo.2.2.1,Zd hnm⟩
  ·exact hX.2.1 _ _ hv
 ·intro k v hv;rcases lO hv with rfl|⟨k1,hv⟩
  ·exact⟨(hT.2.2.1.2 _ _ hx).1,Zd hB⟩
  ·exact⟨(hT.2.2.1.1 _ _ hv).1,(hT.2.2.1.1 _ _ hv).2.imp id (pj hT hx hxv)⟩
 ·intro k v hv;rcases dn hx hv with ⟨-,rfl⟩|⟨-,hv⟩
  ·exact⟨(hT.2.2.1.2 _ _ hx).1,Zd hB⟩
  ·exact⟨(hT.2.2.1.2 _ _ hv).1,(hT.2.2.1.2 _ _ hv).2.imp id (pj hT hx hxv)⟩
 ·intro k p hp;have h1:=hT.2.2.2.1.1 k p hp;refine⟨λq r hr=>lQ hX.2.2 hx rfl (h1.1 q r hr),h1.2.imp id ?_⟩;rintro⟨i1,n,b1,b2,b3,b4⟩;exact PJ
 ·intro k v hv;rcases lO hv with rfl|⟨k1,hv⟩
  ·exact Qm
  ·exact hT.2.2.2.1.2.2 _ _ hv
 ·intro k v hv;rcases lO hv with rfl|⟨k1,hv⟩
  ·intro q r hr;simp[mkV] at hr
  ·exact hT.2.2.2.2.1.1 _ _ hv
 ·intro k n hn;have h1:onOf n.n c.vs<=n.s:=hT.2.2.2.2.1.2 k n hn;show onOf n.n (aR (pl Vd.n c.vs (aN++x.n)) (mkV x t) c.vs)<=n.s;rw[ags _ _ _ _ rfl];exact h1
 ·intro k n hn q r hr;obtain⟨i1,v,b1,b2,b3⟩:=hT.2.2.2.2.2.1 k n hn q r hr;obtain⟨i2,b1'⟩:=nN (pl Vd.n c.vs (aN++x.n)) (mkV x t) b1;exact⟨i2,v,b1',b2,b3⟩
 ·intro k p hp h2;obtain⟨i1,n,b1,b2,b3,b4⟩:=hT.2.2.2.2.2.2 k p hp h2;exact PJ
end
theorem wZ(s:ByteArray):(aN++s).size=2+s.size:=by rw[ByteArray.size_append];rfl
theorem w_(h:aL s) (hs:s.size<=18):aL (aN++s):=by
 obtain⟨h1,-,h3⟩:=h;have hz:=wZ s;refine⟨by omega,by omega,λi hi=>?_⟩;by_cases h2:i<2
 ·have e:(aN++s)[i]'hi=aN[i]'(by exact h2):=ByteArray.getElem_append_left h2;rw[e];match i,h2 with
  | 0,_=>rfl
  | 1,_=>rfl
 ·have e:(aN++s)[i]'hi=s[i - 2]'(by omega):=ByteArray.getElem_append_right (by show 2<=i;omega);rw[e];have:=h3 (i - 2) af;revert this;generalize (s[i - 2]'(by omega)).toNat=b;intro h;have hi0:¬i=0:=af
  unfold okB at h ⊢;rw[if_neg hi0];by_cases h4:i - 2=0
  ·rw[if_pos h4] at h;simp[nbB,h]
  ·rw[if_neg h4] at h;exact h
theorem RR(sv:Vd->Bool) (acc:Option Vd) (v:Vd):stepB sv acc v=acc\/(stepB sv acc v=Y5 v/\sv v=Zb):=by
 unfold stepB;exact (Decidable.em _).elim (λh=>Zd ⟨if_pos h,(Bool.and_eq_true_iff.1 h).1⟩) (λh=>Ze (if_neg h))
theorem AH(sv:Vd->Bool) {u:Vd} :∀(vs:List Vd) (acc:Option Vd),vs.foldl (stepB sv) acc=Y5 u->acc=Y5 u\/sv u=Zb
 | [],_,h=>Ze h
 | v ::vs,acc,h=>by
  rcases AH sv vs (stepB sv acc v) h with h1|h1
  ·rcases RR sv acc v with h2|⟨h2,h3⟩
   ·rw[h2] at h1;exact Ze h1
   ·rw[h2] at h1;obtain rfl:=Yd h1;exact Zd h3
  ·exact Zd h1
theorem AN {z:ByteArray} (ht:dw t) (hz:dw z) (h:¬cO t z=⟨#[]⟩):aL (cO t z):=by
 unfold cO at h ⊢;by_cases e:t=⟨#[]⟩
 ·rw[if_pos e] at h ⊢;exact hz.resolve_left h
 ·rw[if_neg e];exact ht.resolve_left e
theorem BH {x:Xd} {k:Kd} {o:Co} (hT:aq c) (hx:c.xs[i]?=Y5 x) (hxv:x.v=⟨#[]⟩) (hk:c.ks[j]?=Y5 k) (ht:dw t) (h:iP c i x k t o) (h0:o.p=0):aq o.c:=by
 rcases h with ⟨j1,u,a1,a2,rfl⟩|⟨-,⟨-,rfl⟩|⟨a2,⟨-,rfl⟩|⟨a3,⟨-,rfl⟩|⟨a4,rfl⟩⟩⟩⟩
 ·have h1:=(AH _ _ _ a1).resolve_left (λe=>by cases e);unfold svV svB at h1;simp only[Bool.and_eq_true_iff] at h1;obtain⟨⟨⟨⟨⟨b1,b2⟩,b3⟩,b4⟩,b5⟩,-⟩:=h1;exact xM hT hx hxv a2 ((fj _).1 b4) (by simpa using b3) (of_decide_eq_true b5) (di b1) (eq_of_beq b2)
 ·exact absurd h0 ag
 ·exact absurd h0 ag
 ·exact absurd h0 ag
 ·exact wY hT hx hxv a3 a4 (w_ (hT.2.1.2.2.2.1.2.1 _ _ hx).1 a2.2.2.2.2) (AN ht (hT.2.1.2.1.2.1 _ _ hk).2 a2.1)
def Rz(c:Cl) (v:Vd) (s:ByteArray):Prop:=v.x=Zb/\((∃(j:Nat) (t:ByteArray),v.zs[j]?=Y5 t/\¬t=s)\/∃(j:Nat) (p:Pd),c.ps[j]?=Y5 p/\¬p.d=⟨#[]⟩/\¬p.d=s/\InL p.zs v.m)
def gE(c:Cl) (n:Nd) (t:ByteArray) (c':Cl) (e:Int):Prop:=∃(i:Nat) (x:Xd),c.xs[i]?=Y5 x/\x.n=t/\
 ((∃(j:Nat) (v:Vd),c.vs[j]?=Y5 v/\v.n=x.v/\c'=c/\((¬v.z=n.z/\e=8)\/(v.z=n.z/\Rz c v n.n/\e=10)\/(v.z=n.z/\¬Rz c v n.n/\e=0)))\/
  (x.v=⟨#[]⟩/\∃(j:Nat) (k:Kd) (o:Co),c.ks[j]?=Y5 k/\k.n=x.k/\iP c i x k n.z o/\c'=o.c/\((k.x=Y_/\e=11)\/(k.x=Zb/\e=o.p))))
theorem gE.same(hT:aq c) (h:gE c n t c1 e1) (h':gE c n t c2 e2):c1=c2/\e1=e2:=by
 obtain⟨i,x,a1,a2,a⟩:=h;obtain⟨i',x',b1,b2,b⟩:=h';obtain⟨rfl,rfl⟩:=hT.2.1.2.2.2.1.2.2.inj a1 b1 (a2.trans b2.symm);rcases a with ⟨j,v,a3,a4,rfl,a⟩|⟨a3,j,k,o,a4,a5,a6,rfl,a⟩ <;> rcases b with ⟨j',v',b3,b4,rfl,b⟩|⟨b3,j',k',o',b4,b5,b6,rfl,b⟩
 ·obtain⟨-,rfl⟩:=hT.2.1.2.2.1.2.2.inj a3 b3 (a4.trans b4.symm);refine⟨rfl,?_⟩;rcases a with ⟨p1,rfl⟩|⟨p1,p2,rfl⟩|⟨p1,p2,rfl⟩ <;> rcases b with ⟨q1,rfl⟩|⟨q1,q2,rfl⟩|⟨q1,q2,rfl⟩ <;> first|rfl|exact absurd q1 p1|exact absurd p1 q1|exact absurd q2 p2|exact absurd p2 q2
 ·exact absurd (a4.trans b3) (cq.ne hT.2.1 _ _ a3)
 ·exact absurd (b4.trans a3) (cq.ne hT.2.1 _ _ b3)
 ·obtain⟨-,rfl⟩:=hT.2.1.2.1.2.2.inj a4 b4 (a5.trans b5.symm);obtain rfl:=a6.same hT b6;refine⟨rfl,?_⟩;rcases a with ⟨p1,rfl⟩|⟨p1,rfl⟩ <;> rcases b with ⟨q1,rfl⟩|⟨q1,rfl⟩
  ·rfl
  ·rw[p1] at q1;cases q1
  ·rw[p1] at q1;cases q1
  ·rfl
theorem iP.keeps {x:Xd} {k:Kd} {o:Co} (hT:aq c) (hx:c.xs[i]?=Y5 x) (h:iP c i x k t o) (h0:o.p=0):o.c.ns=c.ns/\o.c.ks=c.ks/\o.c.ps=c.ps/\o.c.now=c.now/\∀s,hit Xd.n c.xs s=Zb->hit Xd.n o.c.xs s=Zb:=by
 rcases h with ⟨j1,u,-,-,rfl⟩|⟨-,⟨-,rfl⟩|⟨-,⟨-,rfl⟩|⟨-,⟨-,rfl⟩|⟨-,rfl⟩⟩⟩⟩
 ·exact⟨rfl,rfl,rfl,rfl,λs hs=>lQ hT.2.1.2.2.2.1.2.2 hx rfl hs⟩
 ·exact absurd h0 ag
 ·exact absurd h0 ag
 ·exact absurd h0 ag
 ·exact⟨rfl,rfl,rfl,rfl,λs hs=>lQ hT.2.1.2.2.2.1.2.2 hx rfl hs⟩
theorem gE.right {c':Cl} (hT:aq c) (hn:aL n.z) (h:gE c n t c' 0):aq c'/\c'.ns=c.ns/\c'.ks=c.ks/\c'.ps=c.ps/\c'.now=c.now/\∀s,hit Xd.n c.xs s=Zb->hit Xd.n c'.xs s=Zb:=by
 obtain⟨i,x,a1,-,a⟩:=h;rcases a with ⟨j,v,-,-,rfl,-⟩|⟨a3,j,k,o,a4,-,a6,rfl,a⟩
 ·exact⟨hT,rfl,rfl,rfl,rfl,λ_ h=>h⟩
 ·rcases a with ⟨-,e⟩|⟨-,e⟩
  ·exact absurd e ag
  ·exact⟨BH hT a1 a3 a4 (Zd hn) a6 e.symm,a6.keeps hT a1 e.symm⟩
def dU(c:Cl) (n:Nd) (ts:List ByteArray):Nat->Cl->Prop
 | 0,c'=>c'=c
 | k+1,c'=> ∃(c1:Cl) (t:ByteArray),dU c n ts k c1/\ts[k]?=Y5 t/\gE c1 n t c' 0
theorem dU.right(hT:aq c) (hn:aL n.z):∀(k:Nat) (c':Cl),dU c n ts k c'->aq c'/\c'.ns=c.ns/\c'.ks=c.ks/\c'.ps=c.ps/\c'.now=c.now/\∀s,hit Xd.n c.xs s=Zb->hit Xd.n c'.xs s=Zb
 | 0,c',h=>by
  obtain rfl:c'=c:=h;exact⟨hT,rfl,rfl,rfl,rfl,λ_ h=>h⟩
 | k+1,c',h=>by
  obtain⟨c1,t,h1,-,h3⟩:=h;obtain⟨r1,r2,r3,r4,r5,r6⟩:=dU.right hT hn k c1 h1;obtain⟨q1,q2,q3,q4,q5,q6⟩:=h3.right r1 hn;exact⟨q1,q2.trans r2,q3.trans r3,q4.trans r4,q5.trans r5,λs hs=>q6 s (r6 s hs)⟩
theorem dU.same(hT:aq c) (hn:aL n.z):∀(k:Nat) (c1 c2:Cl),dU c n ts k c1->dU c n ts k c2->c1=c2
 | 0,_,_,h,h'=>Eq.trans h (Eq.symm h')
 | k+1,c1,c2,h,h'=>by
  obtain⟨d1,t,h1,h2,h3⟩:=h;obtain⟨d2,t',g1,g2,g3⟩:=h';obtain rfl:=dU.same hT hn k d1 d2 h1 g1;rw[h2] at g2;obtain rfl:=Yd g2;exact (h3.same (dU.right hT hn k _ h1).1 g3).1
theorem dU.less:∀(k j:Nat) (c':Cl),j<=k->dU c n ts k c'->∃c1,dU c n ts j c1
 | 0,j,c',h,r=>by
  obtain rfl:j=0:=af
  exact⟨c',r⟩
 | k+1,j,c',h,r=>by
  by_cases e:j=k+1
  ·subst e;exact⟨c',r⟩
  ·obtain⟨c1,t,r1,-,-⟩:=r;exact dU.less k j c1 af r1
def RK(c:Cl) (n:Nd) (ts:List ByteArray) (c':Cl) (e:Int):Prop:=(dU c n ts ts.length c'/\e=0)\/∃(k:Nat) (c1:Cl) (t:ByteArray),dU c n ts k c1/\ts[k]?=Y5 t/\gE c1 n t c' e/\¬e=0
theorem RK.same(hT:aq c) (hn:aL n.z) (h:RK c n ts c1 e1) (h':RK c n ts c2 e2):c1=c2/\e1=e2:=by
 have gen:∀{k k':Nat} {d d' d1:Cl} {t:ByteArray} {e:Int},dU c n ts k d->ts[k]?=Y5 t->gE d n t d1 e->¬e=0->dU c n ts k' d'->k'<=k:=fun {k k' d d' d1 t e} r ht hd he r'=>by
  rcases Nat.lt_or_ge k k' with hk|hk
  ·obtain⟨f,r2⟩:=dU.less k' (k+1) d' hk r';obtain⟨g,t',r3,ht',hd'⟩:=r2;obtain rfl:=dU.same hT hn k _ _ r r3;rw[ht] at ht';obtain rfl:=Yd ht';exact absurd (hd.same (dU.right hT hn k _ r).1 hd').2 he
  ·exact hk
 rcases h with ⟨a1,rfl⟩|⟨k,d,t,a1,a2,a3,a4⟩ <;> rcases h' with ⟨b1,rfl⟩|⟨k',d',t',b1,b2,b3,b4⟩
 ·exact⟨dU.same hT hn _ _ _ a1 b1,rfl⟩
 ·have h1:=gen b1 b2 b3 b4 a1;have h2:=(Yc.1 b2).1;omega
 ·have h1:=gen a1 a2 a3 a4 b1;have h2:=(Yc.1 a2).1;omega
 ·have h1:=gen b1 b2 b3 b4 a1;have h2:=gen a1 a2 a3 a4 b1;obtain rfl:k=k':=af
  obtain rfl:=dU.same hT hn k _ _ a1 b1;rw[a2] at b2;obtain rfl:=Yd b2;exact a3.same (dU.right hT hn k _ a1).1 b3
def inB(zs:List ByteArray) (t:ByteArray):Bool:=zs.any λz=>z.toList==t.toList
theorem eE:inB zs t=Zb↔InL zs t:=by
 unfold inB;rw[List.any_eq_true];constructor
 ·rintro⟨z,hz,he⟩;obtain⟨j,hj⟩:=YD hz;exact⟨j,by rw[hj,di he]⟩
 ·rintro⟨j,hj⟩;exact⟨t,Ys hj,aP rfl⟩
def x8(c:Cl) (t m:ByteArray):Bool:=c.ps.any λp=>(p.d.toList==t.toList) && inB p.zs m
theorem dO {m:ByteArray} :x8 c t m=Zb↔∃(j:Nat) (p:Pd),c.ps[j]?=Y5 p/\Rw p t m:=by
 unfold x8;rw[List.any_eq_true];constructor
 ·rintro⟨p,hp,he⟩;obtain⟨j,hj⟩:=YD hp;rw[YG] at he;exact⟨j,p,hj,di he.1,eE.1 he.2⟩
 ·rintro⟨j,p,hj,h1,h2⟩;exact⟨p,Ys hj,by rw[YG];exact⟨aP h1,eE.2 h2⟩⟩
def onB(c:Cl) (t:ByteArray) (v:Vd):Bool:=inB v.zs t || x8 c t v.m
def oc(c:Cl) (t:ByteArray) (vs:List Vd):List ByteArray:=(vs.filter (onB c t)).map Vd.n
def RT(zs:List ByteArray):Prop:=zs.Pairwise λa b=>Yk a.toList b.toList=Zb
theorem Put.mem(h:Put t zs zs') (s:ByteArray):s∈zs'↔s∈zs\/s=t:=by
 exact ahN
theorem Put.len(h:Put t zs zs'):zs'.length<=zs.length+1:=by
 exact P3
theorem Put.ris(h:Put t zs zs') (hr:RT zs):RT zs':=by
 rcases h with ⟨_,rfl⟩|⟨k,hk,rfl,hlt,hgt⟩
 ·exact hr
 ·have h1:RT (zs.take k++zs.drop k):=by rw[List.take_append_drop];exact hr
  obtain⟨h2,h3,h4⟩:=YW.1 h1;have h5:∀a∈zs.take k,Yk a.toList t.toList=Zb:=λa ha=>by
   exact PY
  have h6:∀a∈zs.drop k,Yk t.toList a.toList=Zb:=λa ha=>by
   cases hd:zs.drop k with
   | nil=>rw[hd] at ha;cases ha
   | cons b r=>
    have hb:zs[k]?=Y5 b:=by rw[<-Nat.add_zero k,<-List.getElem?_drop,hd];rfl
    have h7:=hgt b hb;rw[hd] at ha h3
    rcases YO.1 ha with rfl|ha
    ·exact h7
    ·exact cJ _ _ _ h7 ((List.pairwise_cons.1 h3).1 a ha)
  refine YW.2 ⟨YW.2 ⟨h2,List.pairwise_singleton _ _,λa ha b hb=>?_⟩,h3,λa ha b hb=>?_⟩
  ·rw[List.mem_singleton.1 hb];exact h5 a ha
  ·rcases List.mem_append.1 ha with ha|ha
   ·exact cJ _ _ _ (h5 a ha) (h6 b hb)
   ·rw[List.mem_singleton.1 ha];exact h6 b hb
def ak3(t:ByteArray) (zs:List ByteArray) (w:World) (e:Ending) (w':World):Prop:=∃a' l' c' zs',e=Za (J a' l' c')/\az w' a' l' c' zs'/\Put t zs zs'/\Below w.heap.size w w'
theorem RT.ext:∀{xs ys:List ByteArray},RT xs->RT ys->(∀s,s∈xs↔s∈ys)->xs=ys
 | [],[],_,_,_=>rfl
 | [],b ::ys,_,_,h=>by have:=(h b).2 (Y1 ..);cases this
 | a ::xs,[],_,_,h=>by have:=(h a).1 (Y1 ..);cases this
 | a ::xs,b ::ys,hx,hy,h=>by
  obtain⟨x1,x2⟩:=List.pairwise_cons.1 hx;obtain⟨y1,y2⟩:=List.pairwise_cons.1 hy;have hab:a=b:=by
   rcases YO.1 ((h a).1 (Y1 ..)) with e|ha
   ·exact e
   ·rcases YO.1 ((h b).2 (Y1 ..)) with e|hb
    ·exact e.symm
    ·have h9:=cJ _ _ _ (y1 a ha) (x1 b hb);rw[en] at h9;cases h9
  subst hab;have ne:∀{l:List ByteArray},(∀s∈l,Yk a.toList s.toList=Zb)->∀s∈l,¬s=a:=λhl s hs e=>by
   have h9:=hl s hs;rw[e,en] at h9;cases h9
  rw[RT.ext x2 y2 (λs=>⟨λhs=>(YO.1 ((h s).1 (List.mem_cons_of_mem _ hs))).resolve_left (ne x1 s hs),λhs=>(YO.1 ((h s).2 (List.mem_cons_of_mem _ hs))).resolve_left (ne y1 s hs)⟩)]
theorem ou(a:Option Addr) (len cap:Nat) (zs:List ByteArray) (t:ByteArray) (w:World) (hr:az w a len cap zs) (hl:len<=64) (ht:t.size<=9223372036854775807):
  Calls Tryz.prog 133 #[J a len cap,I t] w (ak3 t zs w):=by
 have HR:=aa hr;have hlc:=hr.2.1;have hcm:=hr.2.2.1;have hzl:=hr.1;have z251z:=@aa _ @ad8;exact zW
def iH(c:Cl) (zs:List ByteArray) (s:ByteArray):Prop:=∃(j:Nat) (t:ByteArray) (v:Vd),zs[j]?=Y5 t/\aO c t v/\v.n=s
theorem aO.name {v v':Vd} (hx:aF Xd.n c.xs) (h:aO c t v) (h':aO c t v'):v.n=v'.n:=by
 exact PZ
theorem iH.snoc:iH c (cs++[t]) s↔iH c cs s\/∃v,aO c t v/\v.n=s:=by
 constructor
 ·rintro⟨j,t',v,h1,h2,h3⟩;rw[List.getElem?_append] at h1;split at h1
  ·exact Ze ⟨j,t',v,h1,h2,h3⟩
  ·have h4:=Ys h1;rw[List.mem_singleton] at h4;subst h4;exact Zd ⟨v,h2,h3⟩
 ·rintro (⟨j,t',v,h1,h2,h3⟩|⟨v,h2,h3⟩)
  ·exact⟨j,t',v,by rw[Yu (Yc.1 h1).1];exact h1,h2,h3⟩
  ·exact⟨cs.length,t,v,by simp,h2,h3⟩
theorem Rn {v:Vd} (hx:aF Xd.n c.xs) (hb:aO c t v):((s∈zs\/iH c cs s)\/s=v.n)↔(s∈zs\/iH c (cs++[t]) s):=by
 rw[iH.snoc];constructor
 ·rintro ((h|h)|rfl)
  ·exact Ze h
  ·exact Zd (Ze h)
  ·exact Zd (Zd ⟨v,hb,rfl⟩)
 ·rintro (h|h|⟨v',h1,rfl⟩)
  ·exact Ze (Ze h)
  ·exact Ze (Zd h)
  ·exact Zd (h1.name hx hb)
theorem agJ(hb:∀v,¬aO c t v):(s∈zs\/iH c cs s)↔(s∈zs\/iH c (cs++[t]) s):=by
 rw[iH.snoc];constructor
 ·rintro (h|h)
  ·exact Ze h
  ·exact Zd (Ze h)
 ·rintro (h|h|⟨v',h1,_⟩)
  ·exact Ze h
  ·exact Zd h
  ·exact absurd h1 (hb v')
theorem oF(d:Ad) (c:Cl) (t:ByteArray) (w:World) (hr:aB w d c.raw) (hT:aq c) {j:Nat} {v:Vd} (hv:c.vs[j]?=Y5 v) (hb:aO c t v):
  Calls Tryz.prog 34 #[Zc #[J d.a1 d.l1 d.c1,J d.a2 d.l2 d.c2,J d.a3 d.l3 d.c3,J d.a4 d.l4 d.c4,J d.a5 d.l5 d.c5,Y7 Y6 c.now],I t] w λe w'=>e=Za (Y7 Y6 j)/\Below w.heap.size w w':=by
 have z342z:=@aa _ @acY;exact qd
theorem rG(d:Ad) (c:Cl) (t:ByteArray) (w:World) (hr:aB w d c.raw) (hT:aq c) (hno:∀v,¬aO c t v):
  Calls Tryz.prog 34 #[Zc #[J d.a1 d.l1 d.c1,J d.a2 d.l2 d.c2,J d.a3 d.l3 d.c3,J d.a4 d.l4 d.c4,J d.a5 d.l5 d.c5,Y7 Y6 c.now],I t] w λe w'=>e=Za (Y7 Y6 (-1))/\Below w.heap.size w w':=by
 have z342z:=@aa _ @acX;exact qd
def alb(c:Cl) (zs cs:List ByteArray) (w:World) (e:Ending) (w':World):Prop:=∃a' l' c' zs',e=Za (J a' l' c')/\az w' a' l' c' zs'/\RT zs'/\(∀s,s∈zs'↔s∈zs\/iH c cs s)/\zs'.length<=zs.length+cs.length/\Below w.heap.size w w'
theorem oH(d:Ad) (c:Cl) (a:Option Addr) (len cap:Nat) (zs:List ByteArray) (p:Pd) (va:Option Addr) (vl vc:Nat) (w:World) (hr:aB w d c.raw) (hT:aq c) (hz:az w a len cap zs) (hri:RT zs) (hp:az w va vl vc p.zs) (hl:len+vl<=60):
  Calls Tryz.prog 166 #[Zc #[J d.a1 d.l1 d.c1,J d.a2 d.l2 d.c2,J d.a3 d.l3 d.c3,J d.a4 d.l4 d.c4,J d.a5 d.l5 d.c5,Y7 Y6 c.now],J a len cap,Zc #[I p.n,Y7 Y6 p.c,I p.z,J va vl vc,I p.d,Y7 Y6 p.p]] w (alb c zs p.zs w):=by
 have z535z:=@aa _ @aal;exact cP
def PBs(c:Cl) (t:ByteArray) (k:Nat) (s:ByteArray):Prop:=∃(j:Nat) (p:Pd),j<k/\c.ps[j]?=Y5 p/\p.d=t/\iH c p.zs s
def VBs(c:Cl) (t:ByteArray) (k:Nat) (s:ByteArray):Prop:=∃(j:Nat) (v:Vd),j<k/\c.vs[j]?=Y5 v/\InL v.zs t/\v.n=s
theorem PBs.yes {p:Pd} (hp:c.ps[k]?=Y5 p) (hd:p.d=t):PBs c t (k+1) s↔PBs c t k s\/iH c p.zs s:=by
 constructor
 ·rintro⟨j,q,h1,h2,h3,h4⟩;by_cases e:j=k
  ·subst e;rw[hp] at h2;obtain rfl:=Yd h2;exact Zd h4
  ·exact Ze ⟨j,q,by omega,h2,h3,h4⟩
 ·rintro (⟨j,q,h1,h2,h3,h4⟩|h)
  ·exact⟨j,q,by omega,h2,h3,h4⟩
  ·exact⟨k,p,by omega,hp,hd,h⟩
theorem PBs.no {p:Pd} (hp:c.ps[k]?=Y5 p) (hd:¬p.d=t):PBs c t (k+1) s↔PBs c t k s:=by
 exact Qz
theorem VBs.yes {v:Vd} (hp:c.vs[k]?=Y5 v) (hd:InL v.zs t):VBs c t (k+1) s↔VBs c t k s\/s=v.n:=by
 constructor
 ·rintro⟨j,q,h1,h2,h3,h4⟩;by_cases e:j=k
  ·subst e;rw[hp] at h2;obtain rfl:=Yd h2;exact Zd h4.symm
  ·exact Ze ⟨j,q,by omega,h2,h3,h4⟩
 ·rintro (⟨j,q,h1,h2,h3,h4⟩|h)
  ·exact⟨j,q,by omega,h2,h3,h4⟩
  ·exact⟨k,v,by omega,hp,hd,h.symm⟩
theorem VBs.no {v:Vd} (hp:c.vs[k]?=Y5 v) (hd:¬InL v.zs t):VBs c t (k+1) s↔VBs c t k s:=by
 exact Qz
def AdF(c:Cl) (zs cs:List ByteArray):Fact:=λv w=> ∃a' l' c' zs',v=J a' l' c'/\az w a' l' c' zs'/\RT zs'/\(∀s,s∈zs'↔s∈zs\/iH c cs s)/\zs'.length<=zs.length+cs.length
theorem AdF.mono:Fact.cA (AdF c zs cs):=by
 rintro v w w' ⟨a',l',c',zs',h1,h2,h3⟩ hb;exact⟨a',l',c',zs',h1,h2.below hb,h3⟩
def ala(c:Cl) (t:ByteArray) (w:World) (e:Ending) (w':World):Prop:=∃a' l' c' zs',e=Za (J a' l' c')/\az w' a' l' c' zs'/\RT zs'/\(∀s,s∈zs'↔PBs c t c.ps.length s\/VBs c t c.vs.length s)/\Below w.heap.size w w'
theorem A1(d:Ad) (c:Cl) (t:ByteArray) (w:World) (hr:aB w d c.raw) (hT:aq c):
  Calls Tryz.prog 167 #[Zc #[J d.a1 d.l1 d.c1,J d.a2 d.l2 d.c2,J d.a3 d.l3 d.c3,J d.a4 d.l4 d.c4,J d.a5 d.l5 d.c5,Y7 Y6 c.now],I t] w (ala c t w):=by
 have z535z:=@aa _ @aak;exact cP
theorem aF.rt(h:aF nm xs):RT (xs.map nm):=by
 exact Qi
theorem oc.rt(h:aF Vd.n c.vs):RT (oc c t c.vs):=List.Pairwise.sublist (List.filter_sublist.map _) h.rt
theorem lM(h:aL x):¬x=⟨#[]⟩:=λe=>by
 rw[e] at h;have h8:=h.1;revert h8;decide
theorem Ri(hT:aq c) (hr:RT zs) (hm:∀s,s∈zs↔PBs c t c.ps.length s\/VBs c t c.vs.length s):zs=oc c t c.vs:=by
 have hv:=hT.2.1.2.2.1.2.2;refine hr.ext (oc.rt hv) (λs=>?_);rw[hm];unfold oc;rw[List.mem_map];constructor
 ·rintro (⟨j,p,_,hp,hd,k,cl,v,hk,hb,rfl⟩|⟨j,v,_,h2,h3,rfl⟩)
  ·obtain⟨i,jv,x,h1,h2,h3,h4⟩:=hb;have z394z:=@aa _ @ack;exact zF
  ·exact PU
 ·have z437z:=@aa _ @abR;exact pW
def onP(p:Pd) (s:ByteArray):Pd:=⟨p.n,p.c,p.z,p.zs,s,1⟩
def plC(c:Cl) (i:Nat) (p:Pd) (s:ByteArray):Cl:=⟨c.ns,c.ks,c.vs,c.xs,c.ps.set i (onP p s),c.now⟩
theorem nS(hT:aq c) (hz:∀(k:Nat) z,zs[k]?=Y5 z->aL z):iH c zs s↔∃(j:Nat) (v:Vd),c.vs[j]?=Y5 v/\v.n=s/\InL zs v.m:=by
 have hv:=hT.2.1.2.2.1.2.2;constructor
 ·rintro⟨k,cl,v,hk,⟨i,jv,x,h1,h2,h3,h4⟩,rfl⟩;have z394z:=@aa _ @acj;exact zF
 ·rintro⟨jv,v,hj,rfl,k,hk⟩;have hne:=lM (hz k v.m hk);obtain⟨i',j',x',v',k1,k2,k3,k4,k5,k6,_⟩:=(hT.2.2.1.1 jv v hj).2.resolve_left hne;exact⟨k,v.m,v,hk,⟨i',jv,x',k1,k2,hj,k5.symm⟩,rfl⟩
theorem agp(hT:aq c):PBs c t c.ps.length s↔∃(j:Nat) (v:Vd),c.vs[j]?=Y5 v/\v.n=s/\∃(k:Nat) (p:Pd),c.ps[k]?=Y5 p/\Rw p t v.m:=by
 constructor
 ·rintro⟨j,p,_,hp,hd,hb⟩;obtain⟨jv,v,h1,h2,h3⟩:=(nS hT (λk z hk=>((hT.2.1.2.2.2.2.2.1 j p hp).2.2.2.1.2 k z hk).1)).1 hb;exact⟨jv,v,h1,h2,j,p,hp,hd,h3⟩
 ·rintro⟨jv,v,h1,h2,j,p,hp,hd,h3⟩;exact⟨j,p,(Yc.1 hp).1,hp,hd,(nS hT (λk z hk=>((hT.2.1.2.2.2.2.2.1 j p hp).2.2.2.1.2 k z hk).1)).2 ⟨jv,v,h1,h2,h3⟩⟩
theorem Bd {p:Pd} (hT:aq c) (hp:c.ps[i]?=Y5 p) (hd:¬p.d=s) (hr:RT zs) (hm:∀t,t∈zs↔(PBs c s c.ps.length t\/VBs c s c.vs.length t)\/iH c p.zs t):zs=oc (plC c i p s) s c.vs:=by
 have hv:=hT.2.1.2.2.1.2.2;refine hr.ext (List.Pairwise.sublist (List.filter_sublist.map _) hv.rt) (λt=>?_);rw[hm,agp hT,nS hT (λk z hk=>((hT.2.1.2.2.2.2.2.1 i p hp).2.2.2.1.2 k z hk).1)];unfold oc;rw[List.mem_map];constructor
 ·rintro ((⟨j,v,h1,rfl,k,q,hq,hw⟩|⟨j,v,_,h2,h3,rfl⟩)|⟨j,v,h1,rfl,h3⟩)
  ·refine⟨v,List.mem_filter.2 ⟨Ys h1,?_⟩,rfl⟩;unfold onB;rw[Bool.or_eq_true];refine Zd (dO.2 ⟨k,q,db (λe=>?_) hq,hw⟩);subst e;rw[hp] at hq;obtain rfl:=Yd hq;exact hd hw.1
  ·exact PU
  ·refine⟨v,List.mem_filter.2 ⟨Ys h1,?_⟩,rfl⟩;unfold onB;rw[Bool.or_eq_true];exact Zd (dO.2 ⟨i,onP p s,il hp,rfl,h3⟩)
 ·have z437z:=@aa _ @abQ;exact pW
def RJ(c:Cl) (n:Nd):Prop:=n.d=Zb\/n.u<=c.now
def Ru(p:Pd) (n:Nd):Prop:=¬p.z=⟨#[]⟩/\¬p.z=n.z
def agV(c:Cl) (p:Pd) (n:Nd):Prop:=n.c - cpuOf n.n c.ps<p.c
def qR(c:Cl) (i:Nat) (p:Pd) (n:Nd):Prop:=n.s<((oc (plC c i p n.n) n.n c.vs).length:Int)
def ke(c:Cl) (i:Nat) (p:Pd) (n:Nd) (c':Cl) (e:Int):Prop:=
 (RJ c n/\e=11)\/(¬RJ c n/\((Ru p n/\e=8)\/(¬Ru p n/\((agV c p n/\e=9)\/(¬agV c p n/\∃c1 e1,RK c n p.zs c1 e1/\
  ((¬e1=0/\e=e1)\/(e1=0/\((qR c1 i p n/\e=9)\/(¬qR c1 i p n/\e=0/\c'=plC c1 i p n.n)))))))))
theorem ke.same {p:Pd} (hT:aq c) (hn:aL n.z) (h:ke c i p n c1 e1) (h':ke c i p n c2 e2):e1=e2/\(e1=0->c1=c2):=by
 rcases h with ⟨a1,rfl⟩|⟨a1,⟨a2,rfl⟩|⟨a2,⟨a3,rfl⟩|⟨a3,d1,f1,a4,a5⟩⟩⟩ <;> rcases h' with ⟨b1,rfl⟩|⟨b1,⟨b2,rfl⟩|⟨b2,⟨b3,rfl⟩|⟨b3,d2,f2,b4,b5⟩⟩⟩
 all_goals first
  | exact⟨rfl,λe=>absurd e ag⟩
  | exact absurd a1 b1
  | exact absurd b1 a1
  | exact absurd a2 b2
  | exact absurd b2 a2
  | exact absurd a3 b3
  | exact absurd b3 a3
  | skip
 obtain⟨rfl,rfl⟩:=a4.same hT hn b4;rcases a5 with ⟨a5,rfl⟩|⟨a5,⟨a6,rfl⟩|⟨a6,rfl,rfl⟩⟩ <;> rcases b5 with ⟨b5,rfl⟩|⟨b5,⟨b6,rfl⟩|⟨b6,rfl,rfl⟩⟩
 all_goals first
  | exact⟨rfl,λe=>absurd e a5⟩
  | exact absurd a5 b5
  | exact absurd b5 a5
  | exact⟨rfl,λe=>absurd e ag⟩
  | exact absurd a6 b6
  | exact absurd b6 a6
  | exact⟨rfl,λ_=>rfl⟩
def frN(c:Cl) (n:Nd):Int:=n.c - cpuOf n.n c.ps
def oh(c:Cl) (i:Nat) (p:Pd) (n:Nd):Prop:=∃c',ke c i p n c' 0
def qV(c:Cl) (i:Nat) (p:Pd):Prop:=∀(j:Nat) n,c.ns[j]?=Y5 n->¬oh c i p n
def ag0(c:Cl) (i:Nat) (p:Pd) (b:Nat) (n:Nd):Prop:=c.ns[b]?=Y5 n/\oh c i p n/\∀(j:Nat) m,c.ns[j]?=Y5 m->oh c i p m->frN c m<frN c n\/(frN c m=frN c n/\b<=j)
theorem oh.cpu {p:Pd} (h:oh c i p n):p.c<=frN c n:=by
 obtain⟨c',h⟩:=h;rcases h with ⟨_,h⟩|⟨_,⟨_,h⟩|⟨_,⟨_,h⟩|⟨h,_⟩⟩⟩
 ·exact absurd h ag
 ·exact absurd h ag
 ·exact absurd h ag
 ·unfold agV at h;unfold frN;omega
def eX(c:Cl) (i:Nat) (p:Pd) (k:Nat) (best most:Int):Prop:=
 (best= -1/\most= -1/\∀(j:Nat) n,j<k->c.ns[j]?=Y5 n->¬oh c i p n)\/
 ∃(b:Nat) (n:Nd),best=b/\b<k/\most=frN c n/\c.ns[b]?=Y5 n/\oh c i p n/\∀(j:Nat) m,j<k->c.ns[j]?=Y5 m->oh c i p m->frN c m<frN c n\/(frN c m=frN c n/\b<=j)
theorem eX.zero {p:Pd} :eX c i p 0 (-1) (-1):=Ze ⟨rfl,rfl,λ_ _ h=>absurd h (by omega)⟩
theorem eX.pass {p:Pd} (h:eX c i p k best most) (hn:c.ns[k]?=Y5 n) (hp:0<=p.c) (hf:frN c n<=most):eX c i p (k+1) best most:=by
 rcases h with ⟨h1,h2,h3⟩|⟨b,m,h1,h2,h3,h4,h5,h6⟩
 ·refine Ze ⟨h1,h2,λj x hj hx hF=>?_⟩;by_cases e:j=k
  ·subst e;rw[hn] at hx;obtain rfl:=Yd hx;have:=hF.cpu;omega
  ·exact h3 j x af hx hF
 ·refine Zd ⟨b,m,h1,by omega,h3,h4,h5,λj x hj hx hF=>?_⟩;by_cases e:j=k
  ·subst e;rw[hn] at hx;obtain rfl:=Yd hx;omega
  ·exact h6 j x af hx hF
theorem eX.no {p:Pd} (h:eX c i p k best most) (hn:c.ns[k]?=Y5 n) (hf:¬oh c i p n):eX c i p (k+1) best most:=by
 rcases h with ⟨h1,h2,h3⟩|⟨b,m,h1,h2,h3,h4,h5,h6⟩
 ·refine Ze ⟨h1,h2,λj x hj hx hF=>?_⟩;by_cases e:j=k
  ·subst e;rw[hn] at hx;obtain rfl:=Yd hx;exact hf hF
  ·exact h3 j x af hx hF
 ·refine Zd ⟨b,m,h1,by omega,h3,h4,h5,λj x hj hx hF=>?_⟩;by_cases e:j=k
  ·subst e;rw[hn] at hx;obtain rfl:=Yd hx;exact absurd hF hf
  ·exact h6 j x af hx hF
theorem eX.take {p:Pd} (h:eX c i p k best most) (hn:c.ns[k]?=Y5 n) (hf:¬frN c n<=most) (hF:oh c i p n):eX c i p (k+1) k (frN c n):=by
 refine Zd ⟨k,n,rfl,by omega,rfl,hn,hF,λj x hj hx hG=>?_⟩;by_cases e:j=k
 ·subst e;rw[hn] at hx;obtain rfl:=Yd hx;exact Zd ⟨rfl,by omega⟩
 ·rcases h with ⟨_,_,h3⟩|⟨b,m,_,h2,h3,h4,h5,h6⟩
  ·exact absurd hG (h3 j x af hx)
  ·have:=h6 j x af hx hG;exact Ze af
theorem eX.done {p:Pd} (h:eX c i p c.ns.length best most):(best= -1/\qV c i p)\/∃(b:Nat) (n:Nd),best=b/\ag0 c i p b n:=by
 rcases h with ⟨h1,_,h3⟩|⟨b,n,h1,_,_,h4,h5,h6⟩
 ·exact Ze ⟨h1,λj n hn=>h3 j n (Yc.1 hn).1 hn⟩
 ·exact Zd ⟨b,n,h1,h4,h5,λj m hm=>h6 j m (Yc.1 hm).1 hm⟩
def vr(c:Cl) (t:ByteArray):Nat->Prop
 | 0=>8000<t.size
 | 1=>¬8000<t.size/\¬aq c
 | 2=>¬8000<t.size/\aq c/\hit Pd.n c.ps t=Y_
 | 7=>¬8000<t.size/\aq c/\∃x,c.ps[pl Pd.n c.ps t]?=Y5 x/\x.n=t/\x.p=0/\qV c (pl Pd.n c.ps t) x
 | 8=>¬8000<t.size/\aq c/\∃x,c.ps[pl Pd.n c.ps t]?=Y5 x/\x.n=t/\¬x.p=0
 | _=>False
def anp(R:Cl->Nat->Pd->Nd->Cl->Prop) (c:Cl) (t:ByteArray) (o:Co):Prop:=(∃i,vr c t i/\o=co0 (bB i))\/(¬8000<t.size/\aq c/\∃x b n c',c.ps[pl Pd.n c.ps t]?=Y5 x/\x.n=t/\x.p=0/\ag0 c (pl Pd.n c.ps t) x b n/\R c (pl Pd.n c.ps t) x n c'/\o=⟨c',n.n,0⟩)
def gD:Cl->ByteArray->Co->Prop:=anp λc i p n c'=>ke c i p n c' 0
theorem eZ(many most:Nat) (w:World):Calls Tryz.prog 120 #[Y9 Zb,Y7 Y6 many,Y7 Y6 most] w λe w'=>e=Za (Y7 Y6 7)/\Below w.heap.size w w':=by
 exact wK
theorem fM(many most:Nat) (hm:most<=many) (w:World):Calls Tryz.prog 120 #[Y9 Y_,Y7 Y6 many,Y7 Y6 most] w λe w'=>e=Za (Y7 Y6 9)/\Below w.heap.size w w':=by
 exact wK
theorem jo(many most:Nat) (hm:many<most) (w:World):Calls Tryz.prog 120 #[Y9 Y_,Y7 Y6 many,Y7 Y6 most] w λe w'=>e=Za (Y7 Y6 0)/\Below w.heap.size w w':=by
 exact wK
theorem df.below {c:Cr} (h:df w d c S) (hb:Below w.heap.size w w'):df w' d c S:=⟨h.n.below hb,h.k.below hb,h.v.below hb,h.x.below hb,h.p.below hb⟩
theorem df.bR {c:Cr} (h:df w d c S) {b:Nat} {cs:Array Value} (hb:w.heap[b]?=Y5 (Y8 cs 33 (0,0))) (hk:∀k,¬k=b->w'.heap[k]?=w.heap[k]?):df w' d c S:=
 ⟨(h.n.dH hb ag ag).ay (λk _ s=>hk k s.2) (λ_ _ s=>s.1),(h.k.dH hb ag ag).ay (λk _ s=>hk k s.2) (λ_ _ s=>s.1),(h.v.dH hb ag ag).ay (λk _ s=>hk k s.2) (λ_ _ s=>s.1),(h.x.dH hb ag ag).ay (λk _ s=>hk k s.2) (λ_ _ s=>s.1),(h.p.dH hb ag ag).ay (λk _ s=>hk k s.2) (λ_ _ s=>s.1)⟩
theorem ail {w4:World} {v4:Value} {base n hh:Nat} {xs:List Vd} {x:Vd} {va:Option Addr} {vl vc:Nat} {vss:List (List Value)} {H:Nat->Nat->Nat} {Q Q2:Nat->Prop} (hV:aQ w Q 8 (xs.map vdF) vss H) (hxl:xs.length=n) (hj:j=pl Vd.n xs x.n) (hbs:w.heap.size<=base) (hB4:Below w.heap.size w w4)
  (hxf:∀(i:Nat) f,(vdF x)[i]?=Y5 f->∃v,[I x.n,Y7 Y6 x.c,I x.z,I x.k,Y9 x.x,I x.m,Y9 x.y,J va vl vc][i]?=Y5 v/\f.Fr w hh Q2 v) (hq:∀k,Q k->Q2 k->False) (ho4:w4.ownsRow base 38 8 v4 (n+1) (aR j [I x.n,Y7 Y6 x.c,I x.z,I x.k,Y9 x.x,I x.m,Y9 x.y,J va vl vc] vss).flatten):
  ∃a' c',v4=J a' (n+1) c'/\aw w4 a' (n+1) c' 8 38 ((aR (pl Vd.n xs x.n) x xs).map vdF) (λk=>(Q k\/Q2 k)\/w.heap.size<=k):=by
 obtain⟨hjn,hV4⟩:=Oi;obtain⟨H4,hV5⟩:=hV4.ins (p:=j) (r:=vdF x) (vs:=[I x.n,Y7 Y6 x.c,I x.z,I x.k,Y9 x.x,I x.m,Y9 x.y,J va vl vc]) (hh:=λ_=>hh) rfl rfl (λi f hf=>by
   obtain⟨v,h1,h2⟩:=hxf i f hf
   exact⟨v,h1,h2.ay (λcu _ q=>hB4.block _ (ae q)) (λ_ s=>Ze (Zd s))⟩) (λi zs h hz k r i2 zs2 hr2 hz2 hne e=>by
  obtain⟨v,_,h2⟩:=hxf i _ h;obtain⟨_,_,_,_,_,_,_,_,h3⟩:=h2
  have hkv:k<vss.length:=by rw[hV.len];exact (Yc.1 hr2).1
  obtain⟨v',_,h5⟩:=hV.cell k r _ hr2 (Yi hkv) i2 _ hz2;obtain⟨_,_,_,_,_,_,_,_,h6⟩:=h5
  rcases h3 with h3|⟨_,h3,_⟩
  ·exact hz h3
  ·rcases h6 with h6|⟨_,h6,_⟩
   ·exact hne h6
   ·rw[e] at h6
    exact hq _ h6 h3) (λi i2 zs zs2 h _ h2 _=>by
  rcases i with _|_|_|_|_|_|_|_|i <;> simp[vdF] at h <;> rcases i2 with _|_|_|_|_|_|_|_|i2 <;> simp[vdF] at h2 <;> rfl) ug
 exact ahQ
theorem lY(g:Option Addr) (l n:Nat) (vs:List Vd) (x:Vd) (va:Option Addr) (vl vc hh:Nat) (Q Q2:Nat->Prop) (w:World) (ho:aw w g l n 8 38 (vs.map vdF) Q) (hl8:l<=8) (hxf:∀(i:Nat) f,(vdF x)[i]?=Y5 f->∃v,[I x.n,Y7 Y6 x.c,I x.z,I x.k,Y9 x.x,I x.m,Y9 x.y,J va vl vc][i]?=Y5 v/\f.Fr w hh Q2 v) (hq:∀k,Q k->Q2 k->False):
  Calls Tryz.prog 121 #[J g l n,Zc #[I x.n,Y7 Y6 x.c,I x.z,I x.k,Y9 x.x,I x.m,Y9 x.y,J va vl vc]] w λe w'=> ∃a' c',e=Za (J a' (l+1) c')/\aw w' a' (l+1) c' 8 38 ((aR (pl Vd.n vs x.n) x vs).map vdF) (λk=>(Q k\/Q2 k)\/w.heap.size<=k)/\Below w.heap.size w w':=by
 have hll:vs.length=l:=oI
 have hln:=ho.2.1;have hnm:=ho.2.2.1;have HR:=aa ho.row;obtain⟨vss,H,hV,hcell⟩:=ho.ju;have hvl:vss.length=l:=by rw[hV.len,Yo,hll]
 have HC:Hid (∀(j:Nat) u,vss.flatten[j]?=Y5 u->∃b,g=Y5 ⟨b,0,U⟩/\w.cell? ⟨b,j,U⟩=Y5 u):=λj u hj=>by
  obtain⟨b,e,_,h3⟩:=hcell j u hj;exact⟨b,e,h3⟩
 have HVA:=aa hV.all;have HV1:=aa hV.one;have HFIN:Hid (∀(w4:World) v4 base k,k=pl Vd.n vs x.n->w.heap.size<=base->Below w.heap.size w w4->w4.ownsRow base 38 8 v4 (l+1) (aR k [I x.n,Y7 Y6 x.c,I x.z,I x.k,Y9 x.x,I x.m,Y9 x.y,J va vl vc] vss).flatten->∃a' c',v4=J a' (l+1) c'/\aw w4 a' (l+1) c' 8 38 ((aR (pl Vd.n vs x.n) x vs).map vdF) (λk=>(Q k\/Q2 k)\/w.heap.size<=k)):=λw4 v4 base k hk hbs hB4 ho4=>ail hV hll hk hbs hB4 hxf hq ho4;obtain⟨i5,hi5',hz0,hz1,hz2⟩:=info_parts iY;have HI0:=aa (Yb hi5' (Yb hz0 (Yb hz1 hz2)));clear hi5' hz0 hz1 hz2 hV hcell ho hxf hq;go_enter Tryz.func121,Tryz.ntmps121;go_wp2;go_loopw [5] (λvi wr=> ∃k:Nat,k<=l/\vi=Y7 Y6 k/\Hid (∀(j:Nat) y,j<k->vs[j]?=Y5 y->Yk y.n.toList x.n.toList=Zb)/\Hid (Below (w.heap.size+1) (w.alloc (Y8 #[I x.n,Y7 Y6 x.c,I x.z,I x.k,Y9 x.x,I x.m,Y9 x.y,J va vl vc] 38)) wr)) (λvi _=>l - (intOf vi).toNat);case atStart=>exact⟨0,by omega,rfl,λj y hj=>by omega,Yh _ _⟩
 case round=>
  obtain⟨k,hk,rfl,HE,HL⟩:=hrel;have hLs:w.heap.size+1<=wr.heap.size:=by have:=HL.size;simpa using this
  have HB:=aa ((ak w (Y8 (vov x va vl vc) 38)).trans (HL.mono af));have Bx:=aa ((HL.block w.heap.size af).trans (heap_alloc_new w (Y8 (vov x va vl vc) 38)));by_cases hlt:k<l
  ·obtain⟨b,o,y,rfl,hb,hx,hat⟩:=bK (HR.below HB.out) hlt;obtain⟨ya,yl,yc,-,-,-,-,-,hc0,-,-,-,-,-,-,-⟩:=aW hat;have HXy:=aa hx;have hbw:=hb;have hk1:(k:Int)<l:=af
   have hk2:decide ((k:Int)<l)=Zb:=by simp;omega
   clear hb hat hx;cases hless:Yk y.n.toList x.n.toList
   ·have Gx:Hid (wr.heap[w.heap.size]?=Y5 (Y8 (vov x va vl vc) 38 (0,0))):=Bx.out;have HW:=HB;obtain⟨x0,yn,hne0⟩:=uw;have z15z:=@aa _ @ajw;exact aX
   ·have Gx:Hid (wr.heap[w.heap.size]?=Y5 (Y8 (vov x va vl vc) 38 (0,0))):=Bx.out;have HW:=HB;obtain⟨x0,yn,hne0⟩:=uw;have z15z:=@aa _ @ajv;exact aX
  ·have hk1:¬(k:Int)<l:=af
   have hk2:decide ((k:Int)<l)=Y_:=by simp;omega
   have Gx:=Bx;have HW:=HB;have x0:=λq:Wd wr=>q.slot (o:=0) Gx.out rfl;have hne0:=Wd.ne wr;have z15z:=@aa _ @aju;exact aX
end Rc
namespace Gs
section
variable {SR:World->World->Prop} {t4:Tmp} {Ψ:Fact} {P:Program} {ops:Array Oper} {Q:Exit->Act->World->Prop} {W:World} {a0:Act} {back:Option Oper}
theorem gB(hs:listed.size=ops.size) (hlt:∀(j:Nat) o,ops[j]?=Y5 o->∀e∈o.after,YR .any e=Zb->e.on<j) (hr:YQ .any ops listed=[]):∀i,i<ops.size->listed.getD i Y_=Zb:=by
 intro i;induction i using Nat.strongRecOn with
 | _ i ih=>
  intro hi
  cases hb:listed.getD i Y_ with
  | true=>rfl
  | false=>
   have ho:ops[i]?=Y5 ops[i]:=Array.getElem?_eq_getElem hi;have hm:i∈YQ .any ops listed:=mem_ready.2 ⟨by rw[<-cU af];exact hb,_,ho,λe he hbe=>ih e.on (hlt i _ ho e he hbe) (Nat.lt_trans (hlt i _ ho e he hbe) hi)⟩;rw[hr] at hm
   cases hm
end
end Gs
namespace Gu
def waits(front:List Oper) (i:Nat):Nat->Array Edge->Bool
 | 0,after=>after.any λe=>YR .any e && e.on==i
 | f+1,after=>after.any λe=>YR .any e && (e.on==i || match front[e.on]? with|Y5 p=>waits front i f p.after|U=>Y_)
theorem lV(hc:∀(j:Nat) (o:Oper),front[j]?=Y5 o->listed.getD j Y_=Zb->∀e∈o.after,YR .any e=Zb->listed.getD e.on Y_=Zb):∀(f:Nat) (after:Array Edge),waits front i f after=Zb->(∀e∈after,YR .any e=Zb->listed.getD e.on Y_=Zb)->listed.getD i Y_=Zb
 | 0,after,h,ha=>by
  obtain⟨k,hk,hx⟩:=Array.any_eq_true.1 h;simp only[YG,beq_iff_eq] at hx;have:=ha _ (Array.getElem_mem hk) hx.1
  rwa [hx.2] at this
 | f+1,after,h,ha=>by
  obtain⟨k,hk,hx⟩:=Array.any_eq_true.1 h;simp only[YG,Bool.or_eq_true,beq_iff_eq] at hx;have h1:=ha _ (Array.getElem_mem hk) hx.1
  rcases hx.2 with h2|h2
  ·rwa [h2] at h1
  ·split at h2
   ·next p hp=>exact lV hc f p.after h2 (λe he hb=>hc _ p hp h1 e he hb)
   ·cases h2
def AA(P:Program) (ops:Array Oper) (Q:Exit->Act->World->Prop) (s t:Oper) (a:Act) (w:World):Prop:=
 ∀K:Act->World->Prop,(∀a' w',(∀K':Act->World->Prop,(∀a w,Q .normal a w->K' a w)->if YP t (yielded ops a'.tmps)=Zb then t.wp P a' w' K' Q else K' (a'.put t.dst undef) w')->K a' w')->if YP s (yielded ops a.tmps)=Zb then s.wp P a w K Q else K (a.put s.dst undef) w
def Fin(P:Program) (ops:Array Oper) (Q:Exit->Act->World->Prop) (W:World) (a0:Act) (s t:Oper) (known:List (Tmp×Fact)):Prop:=
 ∀(x:Tmp->Value) (w:World),Below W.heap.size W w->(∀p∈known,p.2 (x p.1) w)->AA P ops Q s t (aM a0 known x) w
def Grow(P:Program) (ops:Array Oper) (Q:Exit->Act->World->Prop) (W:World) (a0:Act) (s t:Oper):List Oper->List (Tmp×Fact)->Prop
 | [],known=>Fin P ops Q W a0 s t known
 | o ::rest,known=> ∃φ:Fact,φ.cA/\Obl P ops Q W a0 known o φ/\Grow P ops Q W a0 s t rest (kn o.dst φ known)
section
variable {P:Program} {ops:Array Oper} {Q:Exit->Act->World->Prop} {W:World} {a0:Act} {s t:Oper}
theorem Grow.step {d:Tmp} (φ:Fact) (hd:o.dst=Y5 d) (hφ:φ.cA) (ho:Obl P ops Q W a0 known o φ)
  (h:Grow P ops Q W a0 s t rest ((d,φ) ::known)):Grow P ops Q W a0 s t (o ::rest) known:=⟨φ,hφ,ho,(by rw[hd];exact h)⟩
theorem Grow.stepC {d:Tmp} (c:Value) (hd:o.dst=Y5 d) (ho:Obl P ops Q W a0 known o (λv _=>v=c))
  (h:Grow P ops Q W a0 s t rest ((d,λv _=>v=c) ::known)):Grow P ops Q W a0 s t (o ::rest) known:=Grow.step _ hd (Fact.dd c) ho h
theorem Grow.done(h:Fin P ops Q W a0 s t known):Grow P ops Q W a0 s t [] known:=h
theorem Grow.spec:∀(l:List Oper) (known:List (Tmp×Fact)),Grow P ops Q W a0 s t l known->∃φs:List Fact,φs.length=l.length/\
  (∀(i:Nat) (o:Oper) (φ:Fact),l[i]?=Y5 o->φs[i]?=Y5 φ->φ.cA/\Obl P ops Q W a0 (knAll known (l.take i) (φs.take i)) o φ)/\Fin P ops Q W a0 s t (knAll known l φs)
 | [],known,h=>⟨[],rfl,λi o φ h=>by simp at h,by rw[cL];exact h⟩
 | o ::l,known,h=>by
  exact Ow
def growB(n:Nat) (front:List Oper) (s t:Oper):Bool:=
 let ops:=(front++[s,t]).toArray
 decide ((front.filterMap (·.dst)).Nodup) && front.all (λo=>match o.dst with|Y5 d=>decide (d<n)|U=>Zb) &&
 (YU front.length).all (λj=>match front[j]? with
  | some o=>(o.looksAt ops).all (λd=>(YU front.length).all λi=>match front[i]? with
    | some p=>p.dst !=Y5 d || (decide (i<j) && o.after.any λe=>e.on==i && YR .any e)
    | none=>Zb)
  | none=>Zb) &&
 (YU ops.size).all (λj=>match ops[j]? with|Y5 o=>o.after.all (λe=> !YR .any e || decide (e.on<j))|U=>Zb) &&
 (YU front.length).all (λi=>waits front i 12 s.after) && t.after.any (λe=>YR .any e && e.on==front.length)
theorem gf {n:Nat} (h:growB n front s t=Zb):
  (front.filterMap (·.dst)).Nodup/\(∀o∈front,∀d,o.dst=Y5 d->d<n)/\
  (∀(j:Nat) (o:Oper),front[j]?=Y5 o->∀d∈o.looksAt (front++[s,t]).toArray,∀(i:Nat) (p:Oper),front[i]?=Y5 p->p.dst=Y5 d->i<j/\∃e∈o.after,e.on=i/\YR .any e=Zb)/\
  (∀(j:Nat) o,(front++[s,t]).toArray[j]?=Y5 o->∀e∈o.after,YR .any e=Zb->e.on<j)/\
  (∀i,i<front.length->waits front i 12 s.after=Zb)/\∃e∈t.after,YR .any e=Zb/\e.on=front.length:=by
 unfold growB at h;simp only[YG,decide_eq_true_eq] at h;obtain⟨⟨⟨⟨⟨h1,h2⟩,h3⟩,h4⟩,h5⟩,h6⟩:=h;refine⟨h1,?_,?_,?_,?_,?_⟩
 ·intro o ho d hd;have:=List.all_eq_true.1 h2 o ho;rw[hd] at this;simpa using this
 ·intro j o ho d hd i p hp hpd;have z413z:=@aa _ @ab6;exact zA
 ·intro j o ho e he hbe;have hj:j<(front++[s,t]).toArray.size:=(Yw.1 ho).1;have:=List.all_eq_true.1 h4 j (List.mem_range.2 hj);rw[ho] at this;have:=Array.all_eq_true.1 this;obtain⟨k,hk,rfl⟩:=Array.mem_iff_getElem.1 he;have h9:=this k hk;rw[hbe] at h9;simpa using h9
 ·intro i hi;exact List.all_eq_true.1 h5 i (List.mem_range.2 hi)
 ·obtain⟨k,hk,hx⟩:=Array.any_eq_true.1 h6;simp only[YG,beq_iff_eq] at hx;exact⟨_,Array.getElem_mem hk,hx.1,hx.2⟩
theorem Fin.last {a:Act} (hf:Fin P ops Q W a0 s t (knAll [] front φs)) (hlen:φs.length=front.length) (hin:∀o∈front,∀d,o.dst=Y5 d->d<a0.tmps.size)
  (h:At front φs W a0 listed a w) (hall:∀i,i<front.length->listed.getD i Y_=Zb):AA P ops Q s t a w:=by
 have h9:∃x,a=aM a0 (knAll [] front φs) x/\∀p∈knAll [] front φs,p.2 (x p.1) w:=Go.Proofs.YtfhdfmdaiookjaaGreatDoor.Fin.last (P:=P) (ops:=ops) (Q:=λ_ a' w'=> ∃x,a'=aM a0 (knAll [] front φs) x/\∀p∈knAll [] front φs,p.2 (x p.1) w') (back:=U) (λx _ _ h2=>⟨x,rfl,h2⟩) hlen hin h hall;obtain⟨x,e,h2⟩:=h9;have h3:=hf x w h.below h2;rw[<-e] at h3;exact h3
theorem vQ {a:Act} (ho:ops[j]?=Y5 o) (h1:if YP o (yielded ops a.tmps)=Zb then o.wp P a w (wpAny P .any ops Q fuel (listed.setIfInBounds j Zb)) Q else wpAny P .any ops Q fuel (listed.setIfInBounds j Zb) (a.put o.dst undef) w):wpOp P ops Q j (wpAny P .any ops Q fuel (listed.setIfInBounds j Zb)) a w:=by
 unfold wpOp;rw[ho];simp only;split
 ·rename_i hw;rw[if_pos hw] at h1;exact Ze h1
 ·rename_i hw;rw[if_neg hw] at h1;exact h1
theorem wT(hz:listed.size=ops.size) (hall:∀i,i<ops.size->listed.getD i Y_=Zb):YQ .any ops listed=[]:=by
 cases hr:YQ .any ops listed with
 | nil=>rfl
 | cons j js=>
  have hm:j∈YQ .any ops listed:=by rw[hr];simp
  obtain⟨h1,o,ho,-⟩:=mem_ready.1 hm;have hj:=(Yw.1 ho).1;rw[<-cU af,hall j hj] at h1
  cases h1
theorem agH {a:Act} (hz:listed.size=ops.size) (hall:∀i,i<ops.size->listed.getD i Y_=Zb) (hq:Q .normal a w):wpAny P .any ops Q fuel listed a w:=by
 have hr:=wT hz hall;cases fuel with
 | zero=>exact⟨hr,hq⟩
 | succ fuel=>exact⟨λ_=>hq,λi hi=>by rw[hr] at hi;cases hi⟩
theorem du(hops:ops=(front++[s,t]).toArray) (hB:growB a0.tmps.size front s t=Zb) (hlen:φs.length=front.length)
  (hs:∀(i:Nat) (o:Oper) (φ:Fact),front[i]?=Y5 o->φs[i]?=Y5 φ->φ.cA/\Obl P ops Q W a0 (knAll [] (front.take i) (φs.take i)) o φ) (hf:Fin P ops Q W a0 s t (knAll [] front φs)):
  ∀(fuel:Nat) (listed:Array Bool) (a:Act) (w:World),listed.size=ops.size->listed.toList.count Y_<=fuel->listed.getD front.length Y_=Y_->listed.getD (front.length+1) Y_=Y_->Gt.Ac front φs W a0 listed a w->wpAny P .any ops Q fuel listed a w:=by
 obtain⟨hn,hin,hdep,hlt,hwait,e2,he2,hb2,hon2⟩:=gf hB;rw[<-hops] at hdep hlt;have hsz:ops.size=front.length+2:=by rw[hops];simp
 have hos:ops[front.length]?=Y5 s:=by rw[hops];simp
 have hot:ops[front.length+1]?=Y5 t:=by rw[hops];simp
 intro fuel;induction fuel with
 | zero=>
  intro listed a w hz hc hb hb' h;have h9:=hJ (by omega:listed.toList.count Y_=0) front.length af;rw[hb] at h9
  cases h9
 | succ fuel ih=>
  intro listed a w hz hc hb hb' h;refine⟨λhr=>?_,λj hj=>?_⟩
  ·have h9:=Gs.gB hz hlt hr front.length af;rw[hb] at h9
   cases h9
  obtain⟨hun,o,ho,hall⟩:=mem_ready.1 hj;have hjs:j<ops.size:=(Yw.1 ho).1;have hcs:=count_set (listed:=listed) (i:=j) af hun
  by_cases hjf:j<front.length
  ·have hof:front[j]?=Y5 o:=by rw[hops] at ho;simpa[Yu hjf] using ho
   have hφ:φs[j]?=Y5 (φs[j]'(by omega)):=Yi _;obtain⟨hm,hob⟩:=hs j o _ hof hφ
   have hfacts:∀t∈o.looksAt ops,aj a0 (knAll [] (front.take j) (φs.take j)) a w t:=by
    intro t ht;unfold aj
    cases hk:(knAll [] (front.take j) (φs.take j)).lookup t with
    | some φ=>
     rcases cZ _ _ _ hk with ⟨i,p,h1,h2,h3⟩|h1
     ·have hij:i<j:=by have:=(Yc.1 h1).1;simp at this;omega
      rw[YA,if_pos hij] at h1 h3;obtain⟨-,e,he,hon,hbi⟩:=hdep j o hof t ht i p h1 h2;have hl:=hall e he hbi;rw[hon] at hl;exact h.old.known i p φ h1 h3 t h2 hl
     ·simp at h1
    | none=>
     refine h.old.other t (λi p hp hd=>?_)
     exfalso
     obtain⟨hij,-⟩:=hdep j o hof t ht i p hp hd;have hi:=(Yc.1 hp).1;exact (c_ _ _ _ hk).2 i p (φs[i]'(by omega)) Ag Aj hd
   have hkeep:∀i,¬j=i->listed.getD i Y_=Y_->(listed.setIfInBounds j Zb).getD i Y_=Y_:=λi e h2=>by
    simpa[Yr,Array.getElem?_setIfInBounds,e] using h2
   exact vQ ho (hob a w _ h.old.size h.old.below hfacts (λv w' hbw hv=>ih _ _ _ (by simpa using hz) af (hkeep _ af hb) (hkeep _ af hb') ⟨h.old.step hn hin (λi o φ h1 h2=>(hs i o φ h1 h2).1) hof hφ af hbw hv,λj' o' ho' hl e he hbe=>(by
     by_cases ej:j=j'
     ·subst ej;obtain rfl:o=o':=Yd (hof.symm.trans ho');exact Gs.aln (hall e he hbe)
     ·exact Gs.aln (h.cl j' o' ho' (Gs.alc ej hl) e he hbe))⟩))
  ·by_cases hj1:j=front.length
   ·subst hj1;obtain rfl:s=o:=Yd (hos.symm.trans ho);have hfl:=λi hi=>lV h.cl 12 s.after (hwait i hi) (λe he hbe=>hall e he hbe);refine vQ ho (Fin.last hf hlen hin h.old hfl _ (λa' w' ht=>?_))
    have hz2:(listed.setIfInBounds front.length Zb).size=ops.size:=by simpa using hz
    have hl2:∀i,i<front.length+1->(listed.setIfInBounds front.length Zb).getD i Y_=Zb:=λi hi=>by
     by_cases e:front.length=i
     ·subst e
      simp[Yr,show front.length<listed.size from by omega]
     ·exact Gs.aln (hfl i af)
    have hu2:(listed.setIfInBounds front.length Zb).getD (front.length+1) Y_=Y_:=by
     have e:¬front.length=front.length+1:=af
     simpa[Yr,Array.getElem?_setIfInBounds,e] using hb'
    cases fuel with
    | zero=>
     have h9:=hJ (by omega:(listed.setIfInBounds front.length Zb).toList.count Y_=0) (front.length+1) af;rw[hu2] at h9
     cases h9
    | succ fuel=>
     refine⟨λhr=>?_,λi hi=>?_⟩
     ·have h9:=Gs.gB hz2 hlt hr (front.length+1) af;rw[hu2] at h9
      cases h9
     ·obtain⟨hun2,o2,ho2,-⟩:=mem_ready.1 hi;have his:i<ops.size:=(Yw.1 ho2).1
      have hie:i=front.length+1:=YH λe=>by
       have h9:=hl2 i af;rw[cU af] at h9;rw[h9] at hun2
       cases hun2
      subst hie;obtain rfl:t=o2:=Yd (hot.symm.trans ho2);refine vQ ho2 (ht _ (λa3 w3 hq=>agH (by simpa using hz2) (λi hi=>?_) hq))
      by_cases e:front.length+1=i
      ·subst e
       simp[Yr,show front.length+1<listed.size from by omega]
      ·exact Gs.aln (hl2 i af)
   ·obtain rfl:j=front.length+1:=af
    obtain rfl:t=o:=Yd (hot.symm.trans ho);have h9:=hall e2 he2 hb2;rw[hon2,cU af] at h9;rw[cU af] at hb;rw[hb] at h9
    cases h9
end
theorem vu {P:Program} {id:Nat} {Q:Exit->Act->World->Prop} {a0:Act} {W:World} {l:List Oper} {s t:Oper} (hm:P.follows .mixedOrders=Zb) (hfr:l.dropLast.dropLast=front) (hss:l.dropLast.getLast?=Y5 s) (htt:l.getLast?=Y5 t) (hB:growB a0.tmps.size front s t=Zb)
  (h:Grow P l.toArray Q W a0 s t front []):(Code.region id l.toArray Zb).wp P Q a0 W:=by
 have hl:l=front++[s,t]:=by
  obtain⟨l',rfl⟩:=List.getLast?_eq_some_iff.1 htt;rw[List.dropLast_concat] at hfr hss;obtain⟨l2,rfl⟩:=List.getLast?_eq_some_iff.1 hss;rw[List.dropLast_concat] at hfr;rw[<-hfr];simp
 obtain⟨φs,hlen,hs,hfi⟩:=Grow.spec _ _ h;refine wp_region_any hm (du (by rw[hl]) hB hlen hs hfi _ _ _ _ aG ?_ ?_ ?_ ⟨⟨rfl,rfl,(Yh _ _).drew,λi o φ h1 h2 d hd hx=>?_,λd _=>rfl⟩,λj o h1 hx=>?_⟩)
 ·exact qA
 ·exact bI _ _
 ·exact bI _ _
 ·rw[bI] at hx;cases hx
 ·rw[bI] at hx;cases hx
end Gu
namespace Rc
def BL(sv:Vd->Bool) (vs:List Vd):Fact:=λv _=> ∃r:Int,v=Y7 Y6 r/\dm sv vs vs.length r
theorem BL.mono(sv:Vd->Bool) (vs:List Vd):Fact.cA (BL sv vs):=λ_ _ _ h _=>h
theorem aw.aiq {l:Nat} {rs:List (List Fv)} {r:List Fv} {old:Fv} (hO:aw wr (Y5 ⟨g,0,U⟩) l cp m T rs S) (hb:Below wr.heap.size wr wz) (hj:rs[j]?=Y5 r) (hi:r[i]?=Y5 old) (t:ByteArray) (ht:t.size<=9223372036854775807):aw (wz.setCell ⟨g,j*m+i,U⟩ (I t)) (Y5 ⟨g,0,U⟩) l cp m T (rs.set j (r.set i (.s t))) S:=by
 obtain⟨g',e,hS⟩:=(hO.below hb).st (aI.refl S wz) hj;cases e;obtain⟨⟨cur2,H2,h3,_⟩,_,_⟩:=hS.RX hi t ht;exact⟨by rw[List.length_set];exact hO.1,hO.2.1,hO.2.2.1,Zd ⟨g,cur2,H2,rfl,h3⟩⟩
theorem aw.atT {l:Nat} {rs:List (List Fv)} {r:List Fv} {old:Fv} (hO:aw wr (Y5 ⟨g,0,U⟩) l cp m T rs S) (hb:Below wr.heap.size wr wz) (hj:rs[j]?=Y5 r) (hi:r[i]?=Y5 old):(∃v,wz.cell? ⟨g,j*m+i,U⟩=Y5 v)/\wz.frozen? ⟨g,j*m+i,U⟩=Y_:=by
 obtain⟨g',e,hS⟩:=(hO.below hb).st (aI.refl S wz) hj;cases e;exact⟨hS.cell hi,hS.ob _⟩
theorem aw.inn {l:Nat} {rs:List (List Fv)} {r:List Fv} (hO:aw w a l cp m T rs S) (hj:rs[j]?=Y5 r):∃g cur,a=Y5 ⟨g,0,U⟩/\S g/\g<w.heap.size/\w.heap[g]?=Y5 (Y8 cur T (0,0)):=by
 obtain⟨g',e,hS⟩:=hO.st (aI.refl S w) hj;obtain⟨⟨cur,H,h1,_⟩,_⟩:=hS;exact⟨g',cur,e,h1.inS,ae h1.blk,h1.blk⟩
theorem aw.bR {l:Nat} {T':TypeId} {rs:List (List Fv)} {cur:Array Value} (h:aw w a l cp m T rs S) (hb:Below w.heap.size w wz) (hg:w.heap[g]?=Y5 (Y8 cur T' (0,0))) (h1:¬T'=T) (h2:¬T'=9):aw (wz.setCell ⟨g,i,U⟩ v) a l cp m T rs S:=
 (h.dH hg h1 h2).ay (λk hk s=>(Ya _ _ _ _ s.2).trans (hb.block k hk)) (λ_ _ s=>s.1)
def agZ(B:Nat):Fact:=λv w=> ∃b,v=Zf (Y5 ⟨b,0,U⟩)/\B<=b/\w.heap[b]?=Y5 (Y8 #[I ⟨#[]⟩,Y9 Y_,Y9 Y_,I ⟨#[]⟩] 74 (0,0))
theorem agZ.mono(B:Nat):Fact.cA (agZ B):=by
 exact oU
def BI(W:World) (S:Nat->Prop) (vs:List Vd):Fact:=λv w=> ∃a l cp,v=J a l cp/\aw w a l cp 8 38 (vs.map vdF) (λk=>S k\/W.heap.size<=k)
theorem BI.mono(W:World) (S:Nat->Prop) (vs:List Vd):Fact.cA (BI W S vs):=by
 rintro v w w' ⟨a,l,cp,h1,h2⟩ hb;exact⟨a,l,cp,h1,h2.below hb⟩
def amF(c:Cl) (i:Nat) (x:Xd) (kc:Kd) (t:ByteArray) (S:Nat->Prop) (b:Nat) (a1:Option Addr) (l1 y1:Nat) (a2:Option Addr) (l2 y2:Nat) (a3:Option Addr) (l3 y3:Nat) (a4:Option Addr) (l4 y4:Nat) (a5:Option Addr) (l5 y5:Nat) (w:World) (e:Ending) (w':World):Prop:=
 (∃(j:Nat) (u:Vd),fl (svV x.z x.k x.x t) c.vs=Y5 u/\c.vs[j]?=Y5 u/\e=Za (Zg #[I u.n,Y7 Y6 0])/\w'.heap[b]?=Y5 (Y8 (clo6 a1 l1 y1 a2 l2 y2 a3 l3 y3 a4 l4 y4 a5 l5 y5 c.now) 29 (0,0))/\df w' ⟨a1,l1,y1,a2,l2,y2,a3,l3,y3,a4,l4,y4,a5,l5,y5⟩ (fK c i j x u).raw S/\aI S w w')\/
 (fl (svV x.z x.k x.x t) c.vs=U/\((∃p:Int,¬p=0/\((¬lq x kc t/\p=6)\/(lq x kc t/\hit Vd.n c.vs (aN++x.n)=Zb/\p=7)\/(lq x kc t/\hit Vd.n c.vs (aN++x.n)=Y_/\¬c.vs.length<8/\p=9))/\e=Za (Zg #[I ⟨#[]⟩,Y7 Y6 p])/\Below w.heap.size w w')\/
  (lq x kc t/\hit Vd.n c.vs (aN++x.n)=Y_/\c.vs.length<8/\e=Za (Zg #[I (aN++x.n),Y7 Y6 0])/\∃(q3:Option Addr) (m3 z3:Nat),w'.heap[b]?=Y5 (Y8 (clo6 a1 l1 y1 a2 l2 y2 q3 m3 z3 a4 l4 y4 a5 l5 y5 c.now) 29 (0,0))/\df w' ⟨a1,l1,y1,a2,l2,y2,q3,m3,z3,a4,l4,y4,a5,l5,y5⟩ (ew c i x (cO t kc.z)).raw (λk=>S k\/w.heap.size<=k)/\aI (λk=>S k\/k=b) w w')))
theorem rC(c:Cl) (i:Nat) (x:Xd) (jk:Nat) (kc:Kd) (t:ByteArray) (S:Nat->Prop) (b:Nat) (a1:Option Addr) (l1 y1:Nat) (a2:Option Addr) (l2 y2:Nat) (a3:Option Addr) (l3 y3:Nat) (a4:Option Addr) (l4 y4:Nat) (a5:Option Addr) (l5 y5:Nat) (w:World) (hb:w.heap[b]?=Y5 (Y8 #[J a1 l1 y1,J a2 l2 y2,J a3 l3 y3,J a4 l4 y4,J a5 l5 y5,Y7 Y6 c.now] 29 (0,0))) (hO:df w ⟨a1,l1,y1,a2,l2,y2,a3,l3,y3,a4,l4,y4,a5,l5,y5⟩ c.raw S) (hS:∀k,S k->k<w.heap.size/\¬k=b) (hT:aq c) (hx:c.xs[i]?=Y5 x) (hk:c.ks[jk]?=Y5 kc) (hkn:kc.n=x.k) (hxv:x.v=⟨#[]⟩) (ht:t=⟨#[]⟩\/aL t):
  Calls Tryz.prog 126 #[Zf (Y5 ⟨b,0,U⟩),Y7 Y6 i,I t] w (amF c i x kc t S b a1 l1 y1 a2 l2 y2 a3 l3 y3 a4 l4 y4 a5 l5 y5 w):=by
 have HO:=aa hO;have HS:=aa hS;have HT:=aa hT;have HX:=aa hx;have HK:=aa (Yb hk hkn);have HXV:=aa hxv;have HTZ:=aa ht;have Bc:=aa hb;have hl4:c.xs.length=l4:=by have h6:(c.xs.map xdF).length=l4:=hO.x.1;rw[Yo] at h6;exact h6
 have hl3:c.vs.length=l3:=by have h6:(c.vs.map vdF).length=l3:=hO.v.1;rw[Yo] at h6;exact h6
 have hl2:c.ks.length=l2:=by have h6:(c.ks.map kdF).length=l2:=hO.k.1;rw[Yo] at h6;exact h6
 obtain⟨hi4,hii,hi0⟩:=NZ;obtain⟨gx,hgx,hSx⟩:=hO.x.st (aI.refl S w) (i:=i) (r:=xdF x) (show (c.xs.map xdF)[i]?=Y5 (xdF x) by rw[Yv,hx];rfl);have hgx':a4=Y5 ⟨gx,0,U⟩:=hgx;subst hgx';have hgxS:S gx/\gx<w.heap.size:=by obtain⟨⟨cur,H,h1,_⟩,_⟩:=hSx;exact⟨h1.inS,ae h1.blk⟩
 obtain⟨b4,o4,x',e4,hb4,hx4,hat⟩:=dL hO.x.row hi4;cases e4;rw[hx] at hx4;obtain rfl:=Yd hx4;obtain⟨zx0,zx2,zx4,c0,c1,c2,c3,c4⟩:=bQ hat;rw[Yq] at c0 c1 c2 c3 c4;have HC:=aa (Yb c0 (Yb c1 (Yb c2 (Yb c3 c4))));have HZX:=aa (Yb zx0 (Yb zx2 zx4));have HSX:=aa hSx;have hgb:¬gx=b:=(hS gx hgxS.1).2;have HGS:=aa hgxS.1;have hgl:gx<w.heap.size:=hgxS.2;have hbl:b<w.heap.size:=ae hb;have HB:=aa (Yh w.heap.size w);obtain⟨k0,k1,k2,k3,k4,k5⟩:=cs6 hb;clear hO hS hT hx hk hkn hxv ht hSx hgx hgxS hat hx4 hb4 zx0 zx2 zx4;go_enter Tryz.func126,Tryz.ntmps126;go_wp2_with fail;clear k0 k1 k2 k3 k4 k5 c0 c1 c2 c3 c4;obtain⟨W,hW0⟩:∃W,W=(w.alloc (Y8 (xov x) 50)):=⟨_,rfl⟩;have BcW:=aa ((Yl w (Y8 (xov x) 50) _ hbl).trans hb);have BxW:=aa (heap_alloc_new w (Y8 (xov x) 50));have HBW:=aa (ak w (Y8 (xov x) 50));have hws:W.heap.size=w.heap.size+1:=by rw[hW0];exact cw _ _
 rw[<-hW0] at BcW BxW HBW ⊢;clear hW0 hb;rename_i K0 hK0;refine ct (back:=U) bf (List.append_nil _).symm bf ?_;refine' Grow.stepC _ rfl ?_ ?_;rotate_left 1
 ·exact kI
 refine' Grow.stepC _ rfl ?_ ?_;rotate_left 1
 ·refine Obl.plain rfl ?_;intro ac wg K hsz hW hf hK;clear hsz;have e21:=hf 21 ag;simp[aj,Yf] at e21;clear hf;exact aK
 refine' Grow.stepC _ rfl ?_ ?_;rotate_left 1
 ·refine Obl.plain rfl ?_;intro ac wg K hsz hW hf hK;clear hsz;have e22:=hf 22 ag;simp[aj,Yf] at e22;clear hf;exact aK
 refine' Grow.stepC _ rfl ?_ ?_;rotate_left 1
 ·refine Obl.plain rfl ?_;intro ac wg K hsz hW hf hK;clear hsz;have e23:=hf 23 ag;simp[aj,Yf] at e23;exact wh
 refine' Grow.stepC _ rfl ?_ ?_;rotate_left 1
 ·have z297z:=@aa _ @adv;exact lI
 refine' Grow.stepC _ rfl ?_ ?_;rotate_left 1
 ·exact ny
 refine Grow.step (BL (svV x.z x.k x.x t) c.vs) rfl (BL.mono _ _) ?_ ?_
 ·have z1624z:=@aa _ @EA;exact sn
 refine Grow.step (BL (svV x.z x.k x.x t) c.vs) rfl (BL.mono _ _) ?_ ?_
 ·refine Obl.plain rfl ?_;intro ac wg K hsz hW hf hK;clear hsz;have e27:=hf 27 ag;simp[aj,Yf] at e27;obtain⟨r,e27,hr6⟩:=e27;clear hf;go_simp;exact hK _ _ (Yh _ _) ⟨r,rfl,hr6⟩
 have z1721z:=@aa _ @Dm;exact fx
def OtP(p:Pd) (t m:ByteArray):Prop:=¬p.d=⟨#[]⟩/\¬p.d=t/\InL p.zs m
theorem km(d:Ad) (c:Cl) (m s:ByteArray) (w:World) (hr:aB w d c.raw):
  Calls Tryz.prog 174 #[Zc #[J d.a1 d.l1 d.c1,J d.a2 d.l2 d.c2,J d.a3 d.l3 d.c3,J d.a4 d.l4 d.c4,J d.a5 d.l5 d.c5,Y7 Y6 c.now],I m,I s] w (au (∃(j:Nat) (p:Pd),c.ps[j]?=Y5 p/\OtP p s m) w):=by
 have z535z:=@aa _ @aaj;exact cP
theorem nR(w:World) (o p q r:Obj):Below w.heap.size w ((((w.alloc o).alloc p).alloc q).alloc r):=(dj w o p q).alloc (by simp;omega) r
theorem RS(sv:Vd->Bool) (acc:Option Vd) (v:Vd):stepB sv acc v=Y5 v\/stepB sv acc v=acc:=by
 unfold stepB;exact (Decidable.em _).elim (λh=>Ze (if_pos h)) (λh=>Zd (if_neg h))
theorem AI(sv:Vd->Bool) {u:Vd} :∀(vs:List Vd) (acc:Option Vd),vs.foldl (stepB sv) acc=Y5 u->acc=Y5 u\/u∈vs
 | [],acc,h=>Ze h
 | v ::vs,acc,h=>by
  have h2:=RS sv acc v;rcases AI sv vs (stepB sv acc v) h with h1|h1
  ·rcases h2 with h2|h2
   ·rw[h2] at h1;exact Zd (by rw[Yd h1];exact Y1 ..)
   ·rw[h2] at h1;exact Ze h1
  ·exact Zd (List.mem_cons_of_mem _ h1)
theorem Rl {sv:Vd->Bool} {vs:List Vd} {u:Vd} (h:fl sv vs=Y5 u):∃j:Nat,vs[j]?=Y5 u:=by
 rcases AI sv vs U h with h1|h1
 ·cases h1
 ·exact YD h1
end Rc
end Go.Proofs.YtfhdfmdaiookjaaGreatDoor

import Derived.Test.YtcnmlpiffcldkaaGreatDoorN2
import Derived.RegionTactic
import Derived.Deep.CutRange
/-
 What the laws on kinds call besides: measures, copies, comparisons.
-/
set_option maxRecDepth 100000
set_option maxHeartbeats 12800000
open Bool renaming false→Zg,true→Zi
open Go.Ending renaming returned→Zh
open Go.IntKind renaming i64→O
open Go.Obj renaming cells→Ze
open Go.Value renaming string→I,slice→U,int→V,bool→Zf,agg→Zj,pointer→Zm,tuple→Zn
open Option renaming none→J,some→M
open Or renaming inr→Zk,inl→Zl
open And renaming intro→Yb
open Array renaming getElem?_push_size→Yf, getD_eq_getD_getElem?→Ys, getElem?_eq_some_iff→YA, getElem?_setIfInBounds→YH
open Bool renaming and_eq_true→YI
open Go.Act renaming put→Y0
open Go.Addr renaming add_lit→Ym
open Go.Builtin renaming append_→YY
open Go.Calls renaming quiet_of_same→YD
open Go.Op renaming bytesLess→Yk
open Go.Region renaming ready→YU
open Go.RowKit.Below renaming heap_setCell→Ya, refl→Yh, heap_alloc→Yj
open Go.Value renaming string→Yn, ownBlock→YK
open Go.World renaming setCell→YV, cell?→YX
open List renaming getElem?_eq_some_iff→Yc, lookup→Yg, getElem?_eq_getElem→Yi, length_map→Yq, setIfInBounds_toArray→Yr, getElem?_map→Yt, getElem?_append_left→Yu, mem_of_getElem?→Yv, drop_eq_nil_of_le→Yw, set_cons_zero→Yx, set_cons_succ→Yy, take_of_length_le→YB, getElem?_take→YC, length_take→YF, getElem?_of_mem→YG, forall_mem_cons→YL, take_add_one→YM, getElem?_drop→YN, length_append→YP, foldr→YQ, mem_cons→YT, mem_cons_self→Y5, pairwise_append→Y6, getElem?_set→Y9
open Nat renaming le_refl→Ye, lt_of_lt_of_le→Yl, le_trans→Yo, zero_add→Yp, le_succ→Yz, zero_le→YJ
open Option renaming map_eq_some_iff→YE
open Option.some renaming inj→Yd, injEq→YZ
namespace Go.Proofs.YtcnmlpiffcldkaaGreatDoor
variable {p:Prop}
namespace Mk
end Mk
open Go.RowKit Mk
variable {α:Type} {S:Nat->Prop} {T:TypeId} {a:Option Addr} {apb e1 e2 Zu:Int} {c c1 c2:Rc.Cl} {cp g i j k m:Nat} {cs ts zs ZB:List ByteArray} {d:Rc.Ad} {n:Rc.Nd} {o:Rc.Co} {s t x:ByteArray} {sv:Vd->Bool} {v:Vd} {vs:List Vd} {w w' wr wz:World} {nm:α->ByteArray} {xs:List α} {y:α}
theorem ln(h:p:=by simp[results,Tryz.results141,go_sem, *]):p:=h
theorem uR(h:p:=by simp[results,Tryz.results140,go_sem, *]):p:=h
theorem iZ(h:p:=by simpa using Ξ):p:=h
theorem iY(h:p:=by simpa using hp):p:=h
theorem AG(h:p:=by simp[results,Tryz.results36,go_sem]):p:=h
theorem amq(h:p:=by
 have hx8:(wx.setCell ⟨b,2,J⟩ (U q3 m3 z3)).heap[gx]?=M (Ze awc 47 (0,0)):=(Ya _ _ _ _ (show gx≠b from Δ)).trans ((HWX.block _ (ae HXB.out)).trans HXB.out);have hK8:aJ (λk=>S k\/k=b) w (wx.setCell ⟨b,2,J⟩ (U q3 m3 z3)):=(aJ.dW HWX.out).set (Zk rfl);obtain⟨W8,hW8⟩:∃W8,W8=wx.setCell ⟨b,2,J⟩ (U q3 m3 z3):=⟨_,rfl⟩;rw[<-hW8] at f1 f2 f3 f4 f5 hB8 hv8 hx8 hK8 ⊢;have HF8:=G (Yb f1 (Yb f2 (Yb f3 (Yb f4 f5))));have Bc8:=G hB8;have Bv8:=G hv8;have HX8:=G hx8;have HK8:=G hK8;clear hW8 f1 f2 f3 f4 f5 hB8 hv8 hx8 hK8 kp hnb;go_wp2_with fail;rename_i K0 hK0;refine Gt.bS aW rfl rfl aW ?_;iterate 3 refine Grow.aK ?_
 refine Grow.aO Bc8.out ?_;iterate 2 refine Grow.aK ?_
 refine Grow.aO Bv8.out ?_;iterate 2 refine Grow.aK ?_
 refine Grow.done ?_;intro q wu hW hf;simp only[YL] at hf;obtain⟨ax4,ax5,ax6,ax7,ax8,ax9,ax_,aya,awd,-⟩:=hf;have HWU:=G hW;have Bc9:=upK Bc8 hW;have Bv9:=upK Bv8 hW;obtain⟨⟨v9,hcz⟩,hfz⟩:=av.atT HF8.2.2.2.1 hW HIR.out (i:=4) rfl;clear hW;intro K hK;rw[if_pos cF];simp only[aL,YQ,Y0,Yr,Yx,Yy,ax4,ax5,ax6,ax7,ax8,ax9,ax_,aya,awd];have aqP:=@G _ @aeV;exact l_):p:=h
theorem pf(h:p:=by
 go_enter Tryz.func62,Tryz.ntmps62;go_wp2_with fail;exact bodyPost_ret (v:=Zn #[Zj #[I ⟨#[]⟩,V O 0,I ⟨#[]⟩,I ⟨#[]⟩,Zf Zg,I ⟨#[]⟩,Zf Zg,U J 0 0],Zf Zg]) (by simp[results,Tryz.results62,go_sem]) rfl ⟨rfl,cO _ _ _ _⟩):p:=h
theorem Pc(h:p:=by
 obtain⟨v',k1,k2⟩:=h1.cell j' r0 q1 i' f' q2;have awV:i'<r0.length:=(Yc.1 q2).1;have awW:=h1.len j' r0 q1;refine⟨v',?_,k2.jF⟩;exact PD):p:=h
theorem Pa(h:p:=by
 go_wp2;refine⟨⟨k+1,by omega,by go_num,λj z hj hz=>?_,HL.trans (q2.b.mono af)⟩,by simp[intOf];omega⟩;by_cases e:j=k
 ·subst e;rw[HXy.out] at hz;obtain rfl:=Yd hz;exact Zz
 ·exact HE.out j z af hz):p:=h
theorem aif(h:p:=by
 clear h2;have Zw:=@G _ @agJ;exact aB):p:=h
theorem aie(h:p:=by
 have Zw:=@G _ @agI;exact aB):p:=h
theorem pb(h:p:=by
 go_enter Tryz.func116,Tryz.ntmps116;go_wp2_with fail;go_ret;exact⟨rfl,HB.out⟩):p:=h
theorem Rh(h:p:=by
 clear h4 h2;go_enter Tryz.func62,Tryz.ntmps62;go_wp2_with fail;exact bodyPost_ret (v:=Zn #[Zj #[I (aC++n'),V O c',I t,I k',Zf x',I n',Zf Zg,U J 0 0],Zf Zi]) (by simp[results,Tryz.results62,go_sem,aC]) rfl ⟨rfl,cO _ _ _ _⟩):p:=h
theorem Q6(h:p:=by
 constructor
 ·rintro⟨j,q,h1,h2,h3,h4⟩;by_cases e:j=k
  ·subst e;rw[hp] at h2;obtain rfl:=Yd h2;exact absurd h3 hd
  ·exact⟨j,q,by omega,h2,h3,h4⟩
 ·rintro⟨j,q,h1,h2,h3,h4⟩;exact⟨j,q,by omega,h2,h3,h4⟩):p:=h
theorem QS(h:p:=by
 intro _ _ i1 i2 p q hp hq hpd hqd hpi hqi;obtain⟨k1,Ο⟩:=hpi;obtain⟨i3,n,b1,b2,b3,b4⟩:=(hT.2.2.2.1.1 _ _ hp).2.resolve_left hpd;obtain⟨v,b5,b6⟩:=b4 k1 _ Ο;exact absurd rfl (nV hT hx hxv b5)):p:=h
theorem QO(h:p:=by
 unfold RT;rw[List.pairwise_iff_getElem];intro i j hi hj hij;rw[List.getElem_map,List.getElem_map];rw[Yq] at hi hj;exact h.lt hij (Yi hi) (Yi hj)):p:=h
theorem QJ(h:p:=by
 rcases hp with ⟨h1,rfl⟩|⟨h1,h2,rfl⟩|⟨h1,h2,rfl⟩
 ·exact Zl ⟨by decide,0,h1,rfl⟩
 ·exact Zl ⟨by decide,1,⟨h1,h2⟩,rfl⟩
 ·exact Zk ⟨rfl,h1,h2⟩):p:=h
theorem xq(h:p:=by
 go_enter Tryz.func63,Tryz.ntmps63;go_wp2;go_ret;exact⟨rfl,Yh _ _⟩):p:=h
theorem Qq(h:p:=by
 refine⟨v,List.mem_filter.2 ⟨Yv h2,?_⟩,rfl⟩;unfold onB;rw[Bool.or_eq_true];exact Zl (eR.2 h3)):p:=h
theorem Qi(h:p:=by
 refine⟨i1,n,b1,b2,b3,λq t ht=>?_⟩;obtain⟨v,b5,b6⟩:=b4 q t ht;exact⟨v,Ch hT hx hxv hu hum b5,b6⟩):p:=h
theorem Qc(h:p:=by
 refine⟨i1,n,b1,b2,b3,λq r hr=>?_⟩;obtain⟨v,b5,b6⟩:=b4 q r hr;exact⟨v,Cg hT hx hxv b5,b6⟩):p:=h
theorem Qb(h:p:=by
 subst e;rw[hx] at a1;obtain rfl:=Yd a1;exact cP.ne hT.2.1 _ _ a3 (a4.trans (a5.symm.trans hxv))):p:=h
theorem akV(h:p:=by
 obtain⟨u9,hu9,awX⟩:=cy hh;have HU:=G (Yb hu9 awX);have HH:=G hh;obtain⟨j9,hj9⟩:∃j9,j9=pl Vd.n c.vs (aC++x.n):=⟨_,rfl⟩;rw[<-hj9] at HU;clear hu9 awX hh hj9;have avh:=@G _ @aaS;exact zO):p:=h
theorem akU(h:p:=by
 have avh:=@G _ @aaR;exact zO):p:=h
theorem akT(h:p:=by
 exact Pn):p:=h
theorem akS(h:p:=by
 exact w_):p:=h
theorem akR(h:p:=by
 exact wZ):p:=h
theorem xg(h:p:=by
 go_wp2;exact bodyPost_ret (v:=Zn #[I ⟨#[]⟩,V O 6]) AG rfl (Zk ⟨HNO.out,Zl ⟨6,by decide,Zl ⟨HNM.out,rfl⟩,rfl,Ρ.alloc Ρ.size _⟩⟩)):p:=h
theorem PR(h:p:=by
 have hxn:=hZ1;have hxk:=hZ2;rcases q with _|_|_|_|_|_|_|_|q <;> simp[vdF,mkV] at hf <;> subst hf
 ·exact⟨_,rfl,rfl,hZ0⟩
 ·exact⟨_,rfl,rfl⟩
 ·exact⟨_,rfl,rfl,hZ3⟩
 ·exact⟨_,rfl,rfl,hxk⟩
 ·exact⟨_,rfl,rfl⟩
 ·exact⟨_,rfl,rfl,hxn⟩
 ·exact⟨_,rfl,rfl⟩
 ·exact⟨_,rfl,J,0,0,rfl,rfl,Ye _,by decide,λj x hx=>by simp at hx,Zl rfl⟩):p:=h
theorem akP(h:p:=by
 have asR:=@G _ @S4;exact pW):p:=h
theorem PD(h:p:=by
 rw[Array.getElem?_setIfInBounds_ne (λe2=>ZE ahA)];exact k1):p:=h
theorem Pn(h:p:=by
 have asS:=@G _ @MW;exact uy):p:=h
theorem w_(h:p:=by
 refine Obl.plain rfl ?_;intro ac wg K Zq hW hf hK;clear Zq;have awe:=hf 101 ag;simp[slotFact,Yg] at awe;clear hf;exact wY):p:=h
theorem wZ(h:p:=by
 refine Obl.plain rfl ?_;intro ac wg K Zq hW hf hK;clear Zq;have e96:=hf 96 ag;simp[slotFact,Yg] at e96;clear hf;exact wY):p:=h
theorem Pm(h:p:=by
 rintro e w7 ⟨q3,z3,rfl,ho7,Z0⟩;have hs8:=hW.size;exact hK _ _ Z0 ⟨q3,_,z3,rfl,ho7.bC (λk _ s=>by rcases s with (s|s)|s;exact Zl s;exact s.elim;exact Zk (by have s1:wg.heap.size<=k:=s;omega))⟩):p:=h
theorem Pk(h:p:=by
 rintro e w5 ⟨rfl,hb⟩;have HNM:Hid (¬fG x kc t):=λh=>hm (by have h1:=h.2;rw[HZO.out] at h1;exact h1);have Ρ:=upB Z7 hb;clear hb hm;exact xg):p:=h
theorem anx(h:p:=by
 have Gk:Hid (((((w.alloc (Ze (Zd (M ⟨bn,on,J⟩) l1 y1 a2 l2 y2 a3 l3 y3 a4 l4 y4 (M ⟨b,o,J⟩) l5 y5 c.now) 29)).alloc (Ze (Zd J 0 0 J 0 0 J 0 0 J 0 0 J 0 0 0) 29)).alloc (Ze (pov p va vl vc) 102)).alloc (Ze #[I n.n,I n.z,V O n.c,V O n.s,V O n.u,Zf Zg,U ua ul uc] 81)).heap[w.heap.size]?=M (Ze (Zd (M ⟨bn,on,J⟩) l1 y1 a2 l2 y2 a3 l3 y3 a4 l4 y4 (M ⟨b,o,J⟩) l5 y5 c.now) 29 (0,0))):=ag8 _ _ _ _ _;have Gr:Hid (((((w.alloc (Ze (Zd (M ⟨bn,on,J⟩) l1 y1 a2 l2 y2 a3 l3 y3 a4 l4 y4 (M ⟨b,o,J⟩) l5 y5 c.now) 29)).alloc (Ze (Zd J 0 0 J 0 0 J 0 0 J 0 0 J 0 0 0) 29)).alloc (Ze (pov p va vl vc) 102)).alloc (Ze #[I n.n,I n.z,V O n.c,V O n.s,V O n.u,Zf Zg,U ua ul uc] 81)).heap[w.heap.size+1]?=M (Ze (Zd J 0 0 J 0 0 J 0 0 J 0 0 J 0 0 0) 29 (0,0))):=ag7 _ _ _ _ _;have Gp:Hid (((((w.alloc (Ze (Zd (M ⟨bn,on,J⟩) l1 y1 a2 l2 y2 a3 l3 y3 a4 l4 y4 (M ⟨b,o,J⟩) l5 y5 c.now) 29)).alloc (Ze (Zd J 0 0 J 0 0 J 0 0 J 0 0 J 0 0 0) 29)).alloc (Ze (pov p va vl vc) 102)).alloc (Ze #[I n.n,I n.z,V O n.c,V O n.s,V O n.u,Zf Zg,U ua ul uc] 81)).heap[w.heap.size+1+1]?=M (Ze (pov p va vl vc) 102 (0,0))):=ag6 _ _ _ _ _;have Gn:Hid (((((w.alloc (Ze (Zd (M ⟨bn,on,J⟩) l1 y1 a2 l2 y2 a3 l3 y3 a4 l4 y4 (M ⟨b,o,J⟩) l5 y5 c.now) 29)).alloc (Ze (Zd J 0 0 J 0 0 J 0 0 J 0 0 J 0 0 0) 29)).alloc (Ze (pov p va vl vc) 102)).alloc (Ze #[I n.n,I n.z,V O n.c,V O n.s,V O n.u,Zf Zg,U ua ul uc] 81)).heap[w.heap.size+1+1+1]?=M (Ze #[I n.n,I n.z,V O n.c,V O n.s,V O n.u,Zf Zg,U ua ul uc] 81 (0,0))):=ag5 _ _ _ _ _;have HW:Hid (Below w.heap.size w ((((w.alloc (Ze (Zd (M ⟨bn,on,J⟩) l1 y1 a2 l2 y2 a3 l3 y3 a4 l4 y4 (M ⟨b,o,J⟩) l5 y5 c.now) 29)).alloc (Ze (Zd J 0 0 J 0 0 J 0 0 J 0 0 J 0 0 0) 29)).alloc (Ze (pov p va vl vc) 102)).alloc (Ze #[I n.n,I n.z,V O n.c,V O n.s,V O n.u,Zf Zg,U ua ul uc] 81))):=(HB.trans ((jt _ _ _ _ _).mono HB.size));exact Yb Gk (Yb Gr (Yb Gp (Yb Gn HW)))):p:=h
theorem ah3(h:p:=by
 have aoq:(w1.alloc (Ze #[I v.n,V O v.c,I v.z,I v.k,Zf Zi,I v.m,Zf v.y,U (M ⟨bz,oz,J⟩) 1 vc] 37)).heap.size=w1.heap.size+1:=aF
 have Gg:Hid ((w1.alloc (Ze #[I v.n,V O v.c,I v.z,I v.k,Zf Zi,I v.m,Zf v.y,U (M ⟨bz,oz,J⟩) 1 vc] 37)).heap[b]?=M (Ze (Zd a1 l1 y1 a2 l2 y2 (M ⟨bv,ov,J⟩) l3 y3 a4 l4 y4 a5 l5 y5 c.now) 29 (0,0))):=(Yj _ _ _ (ae Bg.out)).trans (Bg.out);have Gn:Hid ((w1.alloc (Ze #[I v.n,V O v.c,I v.z,I v.k,Zf Zi,I v.m,Zf v.y,U (M ⟨bz,oz,J⟩) 1 vc] 37)).heap[w.heap.size]?=M (Ze (nov n na nl nc) 81 (0,0))):=(Yj _ _ _ (ae Bn.out)).trans (Bn.out);have Gv:Hid ((w1.alloc (Ze #[I v.n,V O v.c,I v.z,I v.k,Zf Zi,I v.m,Zf v.y,U (M ⟨bz,oz,J⟩) 1 vc] 37)).heap[w1.heap.size]?=M (Ze #[I v.n,V O v.c,I v.z,I v.k,Zf Zi,I v.m,Zf v.y,U (M ⟨bz,oz,J⟩) 1 vc] 37 (0,0))):=Yf;have HW:Hid (Below w.heap.size w (w1.alloc (Ze #[I v.n,V O v.c,I v.z,I v.k,Zf Zi,I v.m,Zf v.y,U (M ⟨bz,oz,J⟩) 1 vc] 37))):=(HB.trans ((aj _ _).mono HB.size));exact Yb aoq (Yb Gg (Yb Gn (Yb Gv HW)))):p:=h
theorem ah1(h:p:=by
 have v4:=λq:Wd (w1.alloc (Ze #[I v.n,V O v.c,I v.z,I v.k,Zf Zi,I v.m,Zf v.y,U (M ⟨bz,oz,J⟩) 1 vc] 37))=>q.slot (o:=4) Gv.out rfl;have v7:=λq:Wd (w1.alloc (Ze #[I v.n,V O v.c,I v.z,I v.k,Zf Zi,I v.m,Zf v.y,U (M ⟨bz,oz,J⟩) 1 vc] 37))=>q.slot (o:=7) Gv.out rfl;have zc:∀q:Wd (w1.alloc (Ze #[I v.n,V O v.c,I v.z,I v.k,Zf Zi,I v.m,Zf v.y,U (M ⟨bz,oz,J⟩) 1 vc] 37)),q.w.cell? ⟨bz,oz,J⟩=M (I z):=λq=>(q.cell bg).trans (((aj _ _).cell hbz).trans hcz);have hne0:=Wd.ne (w1.alloc (Ze #[I v.n,V O v.c,I v.z,I v.k,Zf Zi,I v.m,Zf v.y,U (M ⟨bz,oz,J⟩) 1 vc] 37));have Zv:=G (λq:Wd (w1.alloc (Ze #[I v.n,V O v.c,I v.z,I v.k,Zf Zi,I v.m,Zf v.y,U (M ⟨bz,oz,J⟩) 1 vc] 37))=>(kL ⟨a1,l1,y1,a2,l2,y2,(M ⟨bv,ov,J⟩),l3,y3,a4,l4,y4,a5,l5,y5⟩ c t n.n q.w (HR.below (HW.trans (q.b.mono HW.size)))).mono (λ_ _ h=>ar.no h HEL.out));exact Yb v4 (Yb v7 (Yb zc (Yb hne0 Zv)))):p:=h
theorem aml(h:p:=by
 have hne0:=Wd.ne ((((w.alloc (Ze (Zd (M ⟨bn,on,J⟩) l1 y1 a2 l2 y2 a3 l3 y3 a4 l4 y4 (M ⟨b,o,J⟩) l5 y5 c.now) 29)).alloc (Ze (Zd J 0 0 J 0 0 J 0 0 J 0 0 J 0 0 0) 29)).alloc (Ze (pov p va vl vc) 102)).alloc (Ze #[I n.n,I n.z,V O n.c,V O n.s,V O n.u,Zf Zg,U ua ul uc] 81));have Zv:=G (λq:Wd ((((w.alloc (Ze (Zd (M ⟨bn,on,J⟩) l1 y1 a2 l2 y2 a3 l3 y3 a4 l4 y4 (M ⟨b,o,J⟩) l5 y5 c.now) 29)).alloc (Ze (Zd J 0 0 J 0 0 J 0 0 J 0 0 J 0 0 0) 29)).alloc (Ze (pov p va vl vc) 102)).alloc (Ze #[I n.n,I n.z,V O n.c,V O n.s,V O n.u,Zf Zg,U ua ul uc] 81))=>kI ⟨(M ⟨bn,on,J⟩),l1,y1,a2,l2,y2,a3,l3,y3,a4,l4,y4,(M ⟨b,o,J⟩),l5,y5⟩ c.now c.ps n.n q.w (HR.p.below (HW.trans (q.b.mono HW.size))) HL8.out HPC.out);exact Yb hne0 Zv):p:=h
theorem amg(h:p:=by
 have kp:∀{a l cp m T rs},av w a l cp m T rs S->av (wx.setCell ⟨b,2,J⟩ (U q3 m3 z3)) a l cp m T rs (λk=>S k\/w.heap.size<=k):=λh=>h.ay (λk hk s=>(Ya _ _ _ _ (hnb k (Zl s))).trans (HWX.block k hk)) (λ_ _ s=>Zl s);have f1:=kp HO.n;have f2:=kp HO.k;have f4:=kp HO.x;have f5:=kp HO.p;have f3:=HO7.ay (w':=wx.setCell ⟨b,2,J⟩ (U q3 m3 z3)) (λk hk s=>Ya _ _ _ _ (hnb k s)) (λ_ _ s=>s);have hB8:(wx.setCell ⟨b,2,J⟩ (U q3 m3 z3)).heap[b]?=M (Ze (Zd a1 l1 y1 (M ⟨gk,0,J⟩) l2 y2 q3 m3 z3 (M ⟨gx,0,J⟩) l4 y4 a5 l5 y5 c.now) 29 (0,0)):=an Bc7.out _;exact Yb @kp (Yb f1 (Yb f2 (Yb f4 (Yb f5 (Yb f3 hB8)))))):p:=h
theorem AV(h:p:=by
 have x0:=λq:Wd wr=>q.slot (o:=0) Gx.out rfl;have yn:=λq:Wd wr=>(q.cell δ).trans hc0;have hne0:=Wd.ne wr;exact Yb x0 (Yb yn hne0)):p:=h
theorem ahM(h:p:=by
 have xk:=λq:Wd w2=>(q.cell Z3).trans c2;have kx:=λq:Wd w2=>(q.cell hbk).trans d1;have hne0:=Wd.ne w2;have Zv:=G (λq:Wd w2=>eB ⟨a1,l1,y1,(M ⟨bk,ok,J⟩),l2,y2,a3,l3,y3,(M ⟨bx,ox,J⟩),l4,y4,a5,l5,y5⟩ c.now c.ks x.k q.w (HR.k.below (HW.trans (q.b.mono HW.size))) HT.2.1.2.1.2.2 HK.1 HK.2);exact Yb xk (Yb kx (Yb hne0 Zv))):p:=h
theorem al6(h:p:=by
 have hxo:=HT.2.1.2.2.2.1.2.1 i x HX.out;have hZ1:x.n.size<=9223372036854775807:=HZX.1;have hZ2:x.k.size<=9223372036854775807:=HZX.2.1;have hZ0:(aC++x.n).size<=9223372036854775807:=by have h1:=hxo.1.2.1;rw[ByteArray.size_append];have h2:aC.size<=10:=ag;omega
 exact Yb hxo (Yb hZ1 (Yb hZ2 hZ0))):p:=h
theorem OL(h:p:=by
 have auc:¬w.heap.size+1=w3.heap.size:=af
 have aud:¬w3.heap.size=w.heap.size+1:=af
 exact Yb auc aud):p:=h
theorem ahD(h:p:=by
 have ρ:Hid ((q2.w.alloc (Ze #[] 37)).ownsRow q2.w.heap.size 37 8 (U (M ⟨q2.w.heap.size,0,J⟩) 0 0) 0 []):=World.ownsRow_made q2.w #[] 0 (Ye _) (YJ _) aF;have hik:(k:Int)<=n:=af
 have Γ:k<=n:=af
 exact Yb ρ (Yb hik Γ)):p:=h
theorem AS(h:p:=by
 have HB:=upB HW q1.b;have Bg:=upK Gg q1.b;have Bn:=upK Gn q1.b;exact Yb HB (Yb Bg Bn)):p:=h
theorem OJ(h:p:=by
 have hi4:i<l4:=by have:=(Yc.1 hx).1;omega
 have hii:(i:Int)<l4:=af
 have hi0:¬(i:Int)<0:=af
 exact Yb hi4 (Yb hii hi0)):p:=h
theorem akB(h:p:=by
 have hil:i<r.length:=(Yc.1 hi).1;have hrm:=h1.len j r aq1;exact Yb hil hrm):p:=h
theorem O2(h:p:=by
 have hjn:j<=n:=by rw[hj,<-Z4];exact List.findIdx_le_length
 have hV4:=(hV.below hB4).ay (w':=w4) (S':=λk=>(Q k\/Q2 k)\/w.heap.size<=k) (λ_ _ _ _=>rfl) (λ_ _ s=>Zl (Zl s));exact Yb hjn hV4):p:=h
theorem akj(h:p:=by
 rintro _ ⟨q2,rfl⟩;have ZW:=upB HW q2.b;have Cx:=upK Gx q2.b;clear hne0 HW HB x0 yn Gx Bx hc0 δ;have HB:=ZW;have Bx:=Cx;have HPL:Hid (k=pl Vd.n vs x.n):=(pj HE.out HXy.out Zz).symm;have HCQ:Hid (∀(j:Nat) u,vss.flatten[j]?=M u->∃b9,(M ⟨b,o,J⟩:Option Addr)=M ⟨b9,0,J⟩/\b9<q2.w.heap.size/\q2.w.cell? ⟨b9,j,J⟩=M u):=λj u hj=>by
  exact A0
 obtain⟨ρ,hik,Γ⟩:=ahD;have ZZ:¬n=k:=af
 all_goals (
  go_wp2_with (first|(at_builtin;refine aq rfl _ _ 25 rfl q2.w.heap.size 37 i5 (Zj #[I ⟨#[]⟩,V O 0,I ⟨#[]⟩,I ⟨#[]⟩,Zf Zg,I ⟨#[]⟩,Zf Zg,U J 0 0]) 8 112 Tryz.underlying25 Y_.1 Y_.2.1 Y_.2.2.1 Y_.2.2.2 rfl ag _ _ _ rfl (ρ.out) _ k _ (vss.take k).flatten rfl (bA HVA.out af) (λj u hu=>by obtain⟨g,e,ZM,h3⟩:=HCQ.out _ _ (cH hu);cases e <;> exact⟨_,rfl,by simp only[Ym,Yp];exact (ah (aj q2.w _) ZM).trans h3⟩) (aD HV1.out k).1 br af aF ?_))
  intro v5 w5 aa ZF
  replace aa:w5.ownsRow q2.w.heap.size 37 8 v5 k (vss.take k).flatten:=eg
  have ZI:=(aj q2.w (Ze #[] 37)).grown ZF aF (λg hg=>by simp[YK] at hg;omega);obtain⟨s1,s2,s3,rfl⟩:=az aa;have Β:=G aa;have H5:=G ZI;have hs6:=ZI.size;have Bx5:=upK Bx ZI;obtain⟨x0,x1,x2,x3,x4,x5,x6,x7⟩:=cs8 Bx5;clear aa ZF ZI
  go_wp2_with (first|(at_builtin;refine aq rfl _ _ 25 rfl q2.w.heap.size 37 i5 (Zj #[I ⟨#[]⟩,V O 0,I ⟨#[]⟩,I ⟨#[]⟩,Zf Zg,I ⟨#[]⟩,Zf Zg,U J 0 0]) 8 112 Tryz.underlying25 Y_.1 Y_.2.1 Y_.2.2.1 Y_.2.2.2 rfl ag _ _ _ rfl (Β.alloc _) _ 1 _ [I x.n,V O x.c,I x.z,I x.k,Zf x.x,I x.m,Zf x.y,U va vl vc] rfl rfl (λj u hu=>⟨_,rfl,by rw[Ym,Yp,al (heap_alloc_new w5 _)];simpa using hu⟩) dx br af bg ?_))
  intro v6 w6 Zt ZJ;have ZA:=(H5.alloc H5.size _).grown ZJ bg (λg hg=>(Β.lt g hg).1);obtain⟨r1,r2,r3,rfl⟩:=az Zt;have Η:=G Zt;have H6:=G ZA;have hs7:=ZA.size;clear Zt ZJ ZA x0 x1 x2 x3 x4 x5 x6 x7
  go_wp2_with (first|(at_builtin;refine aq rfl _ _ 25 rfl q2.w.heap.size 37 i5 (Zj #[I ⟨#[]⟩,V O 0,I ⟨#[]⟩,I ⟨#[]⟩,Zf Zg,I ⟨#[]⟩,Zf Zg,U J 0 0]) 8 112 Tryz.underlying25 Y_.1 Y_.2.1 Y_.2.2.1 Y_.2.2.2 rfl ag _ _ _ rfl (Η.out) _ (l - k) _ (vss.drop k).flatten rfl ka (λj u hu=>by first|(rw[Yw af] at hu;simp at hu;done)|(obtain⟨g,e,ZM,h3⟩:=HCQ.out _ _ (cS HVA.out af hu);cases e <;> exact⟨_,rfl,by simp only[Ym,Yp];exact (ah H6.out ZM).trans h3⟩)) (aD HV1.out k).2 br af af ?_))
  intro v7 w7 Zb ZK;have Z0:=H6.grown ZK af (λg hg=>(Η.lt g hg).1)
  replace Zb:w7.ownsRow q2.w.heap.size 37 8 v7 (l+1) (aQ k [I x.n,V O x.c,I x.z,I x.k,Zf x.x,I x.m,Zf x.y,U va vl vc] vss).flatten:=by
   have e9:k+1+(l - k)=l+1:=af
   try rw[e9] at Zb
   simpa[aQ] using Zb
  have HB7:=upB HB Z0;obtain⟨a',c',rfl,hR⟩:=aoc.out w7 v7 q2.w.heap.size k HPL.out HB.size HB7.out Zb;have HR7:=G hR;clear Zb ZK Z0 hR hik Γ ZZ
  go_wp2
  go_ret
  exact⟨a',c',rfl,HR7.out,HB7.out⟩)):p:=h
theorem aki(h:p:=by
 rintro _ ⟨q2,rfl⟩;have ZW:=upB HW q2.b;have Cx:=upK Gx q2.b;clear hne0 HW HB x0 yn Gx Bx hc0 δ;have HB:=ZW;have Bx:=Cx;exact Pa):p:=h
theorem akh(h:p:=by
 rintro _ ⟨q2,rfl⟩;have ZW:=upB HW q2.b;have Cx:=upK Gx q2.b;clear hne0 HW HB x0 Gx Bx;have HB:=ZW;have Bx:=Cx;have HPL:Hid (k=pl Vd.n vs x.n):=by show k=_;rw[ik (nm:=Vd.n) (xs:=vs) (t:=x.n) (λj y hy=>HE.out j y nK hy)];omega
 have HCQ:Hid (∀(j:Nat) u,vss.flatten[j]?=M u->∃b9,g=M ⟨b9,0,J⟩/\b9<q2.w.heap.size/\q2.w.cell? ⟨b9,j,J⟩=M u):=λj u hj=>by
  exact A0
 obtain⟨ρ,hik,Γ⟩:=ahD;rcases g with _|⟨b2,f2,sp⟩
 ·have hl0:l=0:=Classical.byContradiction λhne0=>by
   exact A3
  obtain rfl:k=0:=af
  subst hl0;by_cases ZZ:n=0;all_goals (
   go_wp2_with (first|(at_builtin;refine aq rfl _ _ 25 rfl q2.w.heap.size 37 i5 (Zj #[I ⟨#[]⟩,V O 0,I ⟨#[]⟩,I ⟨#[]⟩,Zf Zg,I ⟨#[]⟩,Zf Zg,U J 0 0]) 8 112 Tryz.underlying25 Y_.1 Y_.2.1 Y_.2.2.1 Y_.2.2.2 rfl ag _ _ _ rfl (ρ.out) _ 0 _ (vss.take 0).flatten rfl (bA HVA.out af) (λj u hu=>by obtain⟨g,e,ZM,h3⟩:=HCQ.out _ _ (cH hu);cases e <;> exact⟨_,rfl,by simp only[Ym,Yp];exact (ah (aj q2.w _) ZM).trans h3⟩) (aD HV1.out 0).1 br af aF ?_))
   intro v5 w5 aa ZF
   replace aa:w5.ownsRow q2.w.heap.size 37 8 v5 0 (vss.take 0).flatten:=eg
   have ZI:=(aj q2.w (Ze #[] 37)).grown ZF aF (λg hg=>by simp[YK] at hg;omega);obtain⟨s1,s2,s3,rfl⟩:=az aa;have Β:=G aa;have H5:=G ZI;have hs6:=ZI.size;have Bx5:=upK Bx ZI;obtain⟨x0,x1,x2,x3,x4,x5,x6,x7⟩:=cs8 Bx5;clear aa ZF ZI
   go_wp2_with (first|(at_builtin;refine aq rfl _ _ 25 rfl q2.w.heap.size 37 i5 (Zj #[I ⟨#[]⟩,V O 0,I ⟨#[]⟩,I ⟨#[]⟩,Zf Zg,I ⟨#[]⟩,Zf Zg,U J 0 0]) 8 112 Tryz.underlying25 Y_.1 Y_.2.1 Y_.2.2.1 Y_.2.2.2 rfl ag _ _ _ rfl (Β.alloc _) _ 1 _ [I x.n,V O x.c,I x.z,I x.k,Zf x.x,I x.m,Zf x.y,U va vl vc] rfl rfl (λj u hu=>⟨_,rfl,by rw[Ym,Yp,al (heap_alloc_new w5 _)];simpa using hu⟩) dx br af bg ?_))
   intro v6 w6 Zt ZJ;have ZA:=(H5.alloc H5.size _).grown ZJ bg (λg hg=>(Β.lt g hg).1);obtain⟨r1,r2,r3,rfl⟩:=az Zt;have Η:=G Zt;have H6:=G ZA;have hs7:=ZA.size;clear Zt ZJ ZA x0 x1 x2 x3 x4 x5 x6 x7
   go_wp2_with (first|(at_builtin;refine aq rfl _ _ 25 rfl q2.w.heap.size 37 i5 (Zj #[I ⟨#[]⟩,V O 0,I ⟨#[]⟩,I ⟨#[]⟩,Zf Zg,I ⟨#[]⟩,Zf Zg,U J 0 0]) 8 112 Tryz.underlying25 Y_.1 Y_.2.1 Y_.2.2.1 Y_.2.2.2 rfl ag _ _ _ rfl (Η.out) _ (0 - 0) _ (vss.drop 0).flatten rfl ka (λj u hu=>by first|(rw[Yw af] at hu;simp at hu;done)|(obtain⟨g,e,ZM,h3⟩:=HCQ.out _ _ (cS HVA.out af hu);cases e <;> exact⟨_,rfl,by simp only[Ym,Yp];exact (ah H6.out ZM).trans h3⟩)) (aD HV1.out 0).2 br af af ?_))
   intro v7 w7 Zb ZK;have Z0:=H6.grown ZK af (λg hg=>(Η.lt g hg).1)
   replace Zb:w7.ownsRow q2.w.heap.size 37 8 v7 (1) (aQ 0 [I x.n,V O x.c,I x.z,I x.k,Zf x.x,I x.m,Zf x.y,U va vl vc] vss).flatten:=by
    have e9:0+1+(0 - 0)=1:=af
    try rw[e9] at Zb
    simpa[aQ] using Zb
   have HB7:=upB HB Z0;obtain⟨a',c',rfl,hR⟩:=aoc.out w7 v7 q2.w.heap.size 0 HPL.out HB.size HB7.out Zb;have HR7:=G hR;clear Zb ZK Z0 hR hik Γ ZZ
   go_wp2
   go_ret
   exact⟨a',c',rfl,HR7.out,HB7.out⟩)
 by_cases ZZ:n=k;all_goals (
  go_wp2_with (first|(at_builtin;refine aq rfl _ _ 25 rfl q2.w.heap.size 37 i5 (Zj #[I ⟨#[]⟩,V O 0,I ⟨#[]⟩,I ⟨#[]⟩,Zf Zg,I ⟨#[]⟩,Zf Zg,U J 0 0]) 8 112 Tryz.underlying25 Y_.1 Y_.2.1 Y_.2.2.1 Y_.2.2.2 rfl ag _ _ _ rfl (ρ.out) _ k _ (vss.take k).flatten rfl (bA HVA.out af) (λj u hu=>by obtain⟨g,e,ZM,h3⟩:=HCQ.out _ _ (cH hu);cases e <;> exact⟨_,rfl,by simp only[Ym,Yp];exact (ah (aj q2.w _) ZM).trans h3⟩) (aD HV1.out k).1 br af aF ?_))
  intro v5 w5 aa ZF
  replace aa:w5.ownsRow q2.w.heap.size 37 8 v5 k (vss.take k).flatten:=eg
  have ZI:=(aj q2.w (Ze #[] 37)).grown ZF aF (λg hg=>by simp[YK] at hg;omega);obtain⟨s1,s2,s3,rfl⟩:=az aa;have Β:=G aa;have H5:=G ZI;have hs6:=ZI.size;have Bx5:=upK Bx ZI;obtain⟨x0,x1,x2,x3,x4,x5,x6,x7⟩:=cs8 Bx5;clear aa ZF ZI
  go_wp2_with (first|(at_builtin;refine aq rfl _ _ 25 rfl q2.w.heap.size 37 i5 (Zj #[I ⟨#[]⟩,V O 0,I ⟨#[]⟩,I ⟨#[]⟩,Zf Zg,I ⟨#[]⟩,Zf Zg,U J 0 0]) 8 112 Tryz.underlying25 Y_.1 Y_.2.1 Y_.2.2.1 Y_.2.2.2 rfl ag _ _ _ rfl (Β.alloc _) _ 1 _ [I x.n,V O x.c,I x.z,I x.k,Zf x.x,I x.m,Zf x.y,U va vl vc] rfl rfl (λj u hu=>⟨_,rfl,by rw[Ym,Yp,al (heap_alloc_new w5 _)];simpa using hu⟩) dx br af bg ?_))
  intro v6 w6 Zt ZJ;have ZA:=(H5.alloc H5.size _).grown ZJ bg (λg hg=>(Β.lt g hg).1);obtain⟨r1,r2,r3,rfl⟩:=az Zt;have Η:=G Zt;have H6:=G ZA;have hs7:=ZA.size;clear Zt ZJ ZA x0 x1 x2 x3 x4 x5 x6 x7
  go_wp2_with (first|(at_builtin;refine aq rfl _ _ 25 rfl q2.w.heap.size 37 i5 (Zj #[I ⟨#[]⟩,V O 0,I ⟨#[]⟩,I ⟨#[]⟩,Zf Zg,I ⟨#[]⟩,Zf Zg,U J 0 0]) 8 112 Tryz.underlying25 Y_.1 Y_.2.1 Y_.2.2.1 Y_.2.2.2 rfl ag _ _ _ rfl (Η.out) _ (l - k) _ (vss.drop k).flatten rfl ka (λj u hu=>by first|(rw[Yw af] at hu;simp at hu;done)|(obtain⟨g,e,ZM,h3⟩:=HCQ.out _ _ (cS HVA.out af hu);cases e <;> exact⟨_,rfl,by simp only[Ym,Yp];exact (ah H6.out ZM).trans h3⟩)) (aD HV1.out k).2 br af af ?_))
  intro v7 w7 Zb ZK;have Z0:=H6.grown ZK af (λg hg=>(Η.lt g hg).1)
  replace Zb:w7.ownsRow q2.w.heap.size 37 8 v7 (l+1) (aQ k [I x.n,V O x.c,I x.z,I x.k,Zf x.x,I x.m,Zf x.y,U va vl vc] vss).flatten:=by
   have e9:k+1+(l - k)=l+1:=af
   try rw[e9] at Zb
   simpa[aQ] using Zb
  have HB7:=upB HB Z0;obtain⟨a',c',rfl,hR⟩:=aoc.out w7 v7 q2.w.heap.size k HPL.out HB.size HB7.out Zb;have HR7:=G hR;clear Zb ZK Z0 hR hik Γ ZZ
  go_wp2
  go_ret
  exact⟨a',c',rfl,HR7.out,HB7.out⟩)):p:=h
theorem akg(h:p:=by
 rintro _ ⟨q1,rfl⟩;obtain⟨HB,Bg,Bn⟩:=AS;have Cv:=upK Gv q1.b;have aqq:=@G _ @L6;exact nv):p:=h
theorem aje(h:p:=by
 have aqU:=@G _ @W_;exact lS):p:=h
theorem ajd(h:p:=by
 have aqU:=@G _ @W7;exact lS):p:=h
theorem ajc(h:p:=by
 have aqL:=@G _ @S8;exact lO):p:=h
theorem ajb(h:p:=by
 have aqL:=@G _ @S7;exact lO):p:=h
theorem aja(h:p:=by
 have asT:=@G _ @aal;exact qt):p:=h
theorem ai_(h:p:=by
 have asT:=@G _ @aak;exact qt):p:=h
theorem ai9(h:p:=by
 have asT:=@G _ @aaj;exact qt):p:=h
theorem ai8(h:p:=by
 have aoD:=@G _ @abw;exact fx):p:=h
theorem ai7(h:p:=by
 have asU:=@G _ @Om;exact uM):p:=h
theorem ai6(h:p:=by
 have asU:=@G _ @Ol;exact uM):p:=h
theorem agK(h:p:=by
 have asV:=@G _ @Ic;exact sZ):p:=h
theorem agJ(h:p:=by
 have aqU:=@G _ @W0;exact lS):p:=h
theorem agI(h:p:=by
 have aqU:=@G _ @WZ;exact lS):p:=h
theorem afP(h:p:=by
 have HR:=G hr;have hl2:c.ks.length=l2:=OH
 obtain⟨hl3,hm3⟩:=o_;obtain⟨hl5,hm5⟩:=lK;clear hr;have HT:=G hT;clear hT;have h58:c.ps.length<=8:=by have:=HT.sm.p;omega
 have h38:c.vs.length<=8:=by have:=HT.sm.v;omega
 go_enter Tryz.func180,Tryz.ntmps180;go_wp2;go_loopw [5,6] (λvo vi wr=> ∃(k:Nat) (ca:Option Addr) (cl cc:Nat) (ys:List ByteArray),k<=l5/\vi=V O k/\vo=U ca cl cc/\Hid (aw wr ca cl cc ys/\RT ys/\(∀s,s∈ys↔PBs c t k s)/\ys.length<=3*k)/\Hid (Below (w.heap.size+1) (w.alloc (Ze #[U a1 l1 y1,U a2 l2 y2,U a3 l3 y3,U a4 l4 y4,U a5 l5 y5,V O c.now] 29)) wr)) (λ_ vi _=>l5 - (intOf vi).toNat);case atStart=>exact⟨0,_,0,0,[],by omega,rfl,rfl,⟨⟨rfl,Ye _,by omega,λj x hx=>by simp at hx,Zl rfl⟩,List.Pairwise.nil,λs=>⟨λh=>by simp at h,λ⟨j,p,h,_⟩=>by omega⟩,by simp⟩,by first|exact Yh _ _|exact (aj _ _).mono aF⟩
 case round=>
  obtain⟨k,ca,cl,cc,ys,hk,rfl,rfl,HQ,HL⟩:=hrel;obtain⟨Bk,HB⟩:=ahH;have hyl:=HQ.1.1;have hyb:=HQ.2.2.2;by_cases Zo:k<l5
  ·have arY:=@G _ @N1;exact uJ
  have hkl:k=l5:=af
  have Ο:¬(k:Int)<l5:=af
  clear Zo HL;obtain⟨W1,hW1⟩:∃W1,W1=wr:=⟨_,rfl⟩;subst hW1;obtain⟨k0,k1,k2,k3,k4,k5⟩:=cs6 Bk;go_wp2;clear k0 k1 k2 k3 k4 k5;go_loopw [5,7] (λvo vi wr=> ∃(m2:Nat) (ca:Option Addr) (cl cc:Nat) (ys:List ByteArray),m2<=l3/\vi=V O m2/\vo=U ca cl cc/\Hid (aw wr ca cl cc ys/\RT ys/\(∀s,s∈ys↔PBs c t k s\/VBs c t m2 s)/\ys.length<=3*k+m2)/\Hid (Below W1.heap.size W1 wr)) (λ_ vi _=>l3 - (intOf vi).toNat);case atStart=>exact⟨0,_,_,_,ys,by omega,rfl,rfl,⟨HQ.1,HQ.2.1,λs=>by rw[HQ.2.2.1];exact⟨Zl,λh=>h.elim id (λ⟨j,p,h,_⟩=>by omega)⟩,by omega⟩,Yh _ _⟩
  case round=>
   clear HQ hyl hyb;obtain⟨m2,ca,cl,cc,ys,asW,rfl,rfl,HQ,HL⟩:=hrel;replace Bk:=G ((HL.block _ (ae Bk.out)).trans Bk.out);replace HB:=G (HB.trans (HL.mono HB.size));have hyl:=HQ.1.1;have hyb:=HQ.2.2.2;by_cases Zo:m2<l3
   ·have auO:=@G _ @SP;exact yL
   have hk3:¬(m2:Int)<l3:=af
   have ayb:m2=l3:=af
   obtain⟨k0,k1,k2,k3,k4,k5⟩:=cs6 Bk;go_wp2;go_ret;exact⟨_,_,_,ys,rfl,HQ.1,HQ.2.1,by rw[hl5,hl3,<-hkl,<-ayb];exact HQ.2.2.1,HB.out⟩):p:=h
theorem afO(h:p:=by
 have HR:=G hr.p;obtain⟨hl5,hm5⟩:=lK;clear hr;go_enter Tryz.func195,Tryz.ntmps195;go_wp2;go_loopw [7] (λi wr=> ∃k:Nat,k<=l5/\i=V O k/\Hid (∀(j:Nat) (p:Pd),j<k->c.ps[j]?=M p->¬OtP p s m)/\Hid (Below w.heap.size w wr)/\Hid (wr.heap[w.heap.size]?=M (Ze (Zd a1 l1 y1 a2 l2 y2 a3 l3 y3 a4 l4 y4 a5 l5 y5 c.now) 29 (0,0)))) (λi _=>l5 - (intOf i).toNat);case atStart=>exact⟨0,by omega,rfl,λ_ _ h=>absurd h af,aj _ _,heap_alloc_new _ _⟩
 case round=>
  obtain⟨k,hk,rfl,HE,HB,Bk⟩:=hrel;have ltk:=ae Bk.out;by_cases Zo:k<l5
  ·have aob:(k:Int)<(l5:Int):=af
   obtain⟨b,o,p,rfl,hb,hx,Zc⟩:=db (HR.below HB.out) Zo;have aoX:=@G _ @IB;exact ia
  ·obtain rfl:l5=k:=af
   have k4:=ck4 Bk;go_wp2;go_ret;exact ar.f (λ⟨j,p,hj,hp⟩=>HE.out j p uT hj hp) HB.out):p:=h
theorem afN(h:p:=by
 have HR:=G hr;have hl5:c.ps.length=l5:=OG
 clear hr;have HB:=G (Yh w.heap.size w);go_enter Tryz.func140,Tryz.ntmps140;go_wp2_with fail;refine (mE ⟨a1,l1,y1,a2,l2,y2,a3,l3,y3,a4,l4,y4,a5,l5,y5⟩ c t _ (HR.below (HB.trans ((aj _ _).mono HB.size)))).mono ?_;rintro e w1 ⟨p,rfl,hp,hb⟩;have aov:=@G _ @N8;exact fT):p:=h
theorem afe(h:p:=by
 have asX:=@G _ @Np;exact uC):p:=h
theorem afd(h:p:=by
 have asX:=@G _ @No;exact uC):p:=h
theorem afc(h:p:=by
 go_wp2;exact bodyPost_ret (v:=Zn #[I ⟨#[]⟩,V O 7]) AG rfl (Zk ⟨HNO.out,Zl ⟨7,by decide,Zk (Zl ⟨HMV.out,HH.out,rfl⟩),rfl,ZH.trans (HWY.mono ZH.size)⟩⟩)):p:=h
theorem afb(h:p:=by
 go_wp2;exact bodyPost_ret (v:=Zn #[I ⟨#[]⟩,V O 9]) AG rfl (Zk ⟨HNO.out,Zl ⟨9,by decide,Zk (Zk ⟨HMV.out,HH.out,by omega,rfl⟩),rfl,ZH.trans (HWY.mono ZH.size)⟩⟩)):p:=h
theorem me(h:p:=by
 refine Grow.aK ?_;have aom:=@G _ @D0;exact fc):p:=h
theorem aeW(h:p:=by
 have hV5:=av.aiY HO.v HWY.out HJR.out (i:=5) rfl x.n hxz;have f1:=av.bN (i:=j*8+5) (v:=I x.n) HO.n HWY.out HVB.out ag ag;have f2:=av.bN (i:=j*8+5) (v:=I x.n) HO.k HWY.out HVB.out ag ag;have f4:=av.bN (i:=j*8+5) (v:=I x.n) HO.x HWY.out HVB.out ag ag;have f5:=av.bN (i:=j*8+5) (v:=I x.n) HO.p HWY.out HVB.out ag ag;have hK5:aJ S w (wy.setCell ⟨gv,j*8+5,J⟩ (I x.n)):=(aJ.dW HWY.out).set HVS.out;have hB5:(wy.setCell ⟨gv,j*8+5,J⟩ (I x.n)).heap[b]?=_:=(Ya _ _ _ _ (show b≠gv from λe=>hvb e.symm)).trans Bc3.out;have hx5:(wy.setCell ⟨gv,j*8+5,J⟩ (I x.n)).heap[gx]?=M (Ze awc 47 (0,0)):=(Ya _ _ _ _ (show gx≠gv from λe=>by have h1:=HXB.out;have h2:=HVB.out;rw[e,h2] at h1;simp at h1)).trans ((HWY.block _ (ae HXB.out)).trans HXB.out);obtain⟨awY,awf⟩:∃awY,(wy.setCell ⟨gv,j*8+5,J⟩ (I x.n)).heap[gv]?=M (Ze awY 37 (0,0)):=⟨_,an ((HWY.block _ (ae HVB.out)).trans HVB.out) _⟩;clear hcz hfz;obtain⟨W5,hW5⟩:∃W5,W5=wy.setCell ⟨gv,j*8+5,J⟩ (I x.n):=⟨_,rfl⟩;rw[<-hW5] at hV5 f1 f2 f4 f5 hK5 hB5 hx5 awf ⊢;have HV5:=G hV5;have HF5:=G (Yb f1 (Yb f2 (Yb f4 f5)));have HK5:=G hK5;have Bc5:=G hB5;have HX5:=G hx5;have awg:=G awf;have ayc:j<l3:=af
 obtain⟨b5,o5,v5,e5,ayd,awh,awZ⟩:=bY (xs:=c.vs.set j (bdV u x.n)) (by rw[List.map_set];exact hV5.row) ayc;cases e5;rw[ew hjl,if_pos rfl] at awh;obtain rfl:=Yd awh;obtain⟨va5,vl5,vc5,-,-,-,-,-,cn5,-,-,-,-,-,-,-⟩:=bm awZ;rw[Yp] at cn5;have aw0:Hid (W5.cell? ⟨gv,j*8,J⟩=M (I u.n)):=cn5;clear hW5 hV5 f1 f2 f4 f5 hK5 hB5 hx5 awZ cn5 ayd awh awf;go_wp2_with fail;rename_i K0 hK0;refine Gt.bS aW rfl rfl aW ?_;iterate 3 refine Grow.aK ?_
 refine Grow.aO Bc5.out ?_;iterate 4 refine Grow.aK ?_
 refine Grow.aO Bc5.out ?_;iterate 3 refine Grow.aK ?_
 refine' Grow.stepC _ rfl ?_ ?_;rotate_left 1
 ·refine Obl.plain rfl ?_;intro ac wg K Zq hW hf hK;clear Zq;have e50:=hf 50 ag;simp[slotFact,Yg] at e50;clear hf;have c7:=(ah hW (ae awg.out)).trans aw0.out;exact dE
 iterate 2 refine Grow.aK ?_
 refine Grow.done ?_;intro q wx hW hf;simp only[YL] at hf;obtain⟨h53,h52,h51,h50,h49,h48,h47,h46,h45,h44,h43,h42,h41,h40,h39,-⟩:=hf;have HWX:=G hW;have Bc6:=upK Bc5 hW;obtain⟨⟨v9,hcz⟩,hfz⟩:=av.atT HF5.2.2.1 hW HIR.out (i:=4) rfl;intro K hK;rw[if_pos cF];simp only[aL,YQ,Y0,Yr,Yx,Yy,h53,h52,h51,h50,h49,h48,h47,h46,h45,h44,h43,h42,h41,h40,h39];have amW:=@G _ @abj;exact cQ):p:=h
theorem aeV(h:p:=by
 clear hcz hfz;have hX9:=av.aiY HF8.2.2.2.1 HWU.out HIR.out (i:=4) rfl (aC++x.n) hZ0;have f1:=av.bN (i:=i*5+4) (v:=I (aC++x.n)) HF8.1 HWU.out HX8.out ag ag;have f2:=av.bN (i:=i*5+4) (v:=I (aC++x.n)) HF8.2.1 HWU.out HX8.out ag ag;have f3:=av.bN (i:=i*5+4) (v:=I (aC++x.n)) HF8.2.2.1 HWU.out HX8.out ag ag;have f5:=av.bN (i:=i*5+4) (v:=I (aC++x.n)) HF8.2.2.2.2 HWU.out HX8.out ag ag;have hK9:aJ (λk=>S k\/k=b) w (wu.setCell ⟨gx,i*5+4,J⟩ (I (aC++x.n))):=(HK8.below HWU.out).set (Zl HGS.out);have hB9:(wu.setCell ⟨gx,i*5+4,J⟩ (I (aC++x.n))).heap[b]?=_:=(Ya _ _ _ _ (show b≠gx from λe=>Δ e.symm)).trans Bc9.out;have awi:(wu.setCell ⟨gx,i*5+4,J⟩ (I (aC++x.n))).heap[w5.heap.size]?=_:=(Ya _ _ _ _ (show w5.heap.size≠gx by omega)).trans Bv9.out;obtain⟨W9,hW9⟩:∃W9,W9=(wu.setCell ⟨gx,i*5+4,J⟩ (I (aC++x.n))):=⟨_,rfl⟩;rw[<-hW9] at hX9 f1 f2 f3 f5 hK9 hB9 awi ⊢;have HA9:Hid (dw W9 ⟨a1,l1,y1,M ⟨gk,0,J⟩,l2,y2,q3,m3,z3,M ⟨gx,0,J⟩,l4,y4,a5,l5,y5⟩ (dd c i x (aT t kc.z)).raw (λk=>S k\/w.heap.size<=k)):=by
  rw[HZO.out];exact⟨f1,f2,f3,by show av _ _ _ _ _ _ ((c.xs.set i (bdX x (aC++x.n))).map xdF) _;rw[List.map_set];exact hX9,f5⟩
 have HK9:=G hK9;have HB9:=G hB9;clear hW9 hX9 f1 f2 f3 f5 hK9 hB9;obtain⟨v0,v1,v2,v3,v4,v5,v6,v7⟩:=cs8 awi;clear awi;go_wp2;exact bodyPost_ret (v:=Zn #[I (aC++x.n),V O 0]) AG rfl (Zk ⟨HNO.out,Zk ⟨HMV.out,HH.out,by omega,rfl,q3,m3,z3,HB9.out,HA9.out,HK9.out⟩⟩)):p:=h
theorem aeH(h:p:=by
 go_loop [5] (λi=> ∃k:Nat,k<=len/\i=V O k/\Hid (∀(j:Nat) y,j<k->zs[j]?=M y->Yk y.toList t.toList=Zi)) (λi=>len - (intOf i).toNat);case atStart=>exact⟨0,by omega,rfl,λj y hj=>by omega⟩
 case round=>
  obtain⟨k,hk,rfl,HE⟩:=hrel;by_cases Zo:k<len
  ·obtain⟨b,o,x,rfl,hb,hx,hc,Zq⟩:=HR.at Zo;have HX:=G hx;clear hx Zq;have Ο:(k:Int)<len:=af
   cases Zz:Yk x.toList t.toList
   ·by_cases he:x=t
    ·have HP:Hid (Put t zs zs):=Zl ⟨he ▸ Yv HX.out,rfl⟩;have hq:=aP he;clear he;go_wp2;go_ret;exact⟨_,_,_,_,rfl,HR.out,HP.out,HW.out⟩
    have auK:=@G _ @We;exact zr
   ·exact QR
  ·obtain⟨Ο,HP⟩:=O0;obtain⟨ρ,hik,Γ⟩:=OW;rcases a with _|⟨b,o,sp⟩
   ·have hl0:len=0:=Classical.byContradiction λhne0=>by
     exact Qo
    obtain rfl:k=0:=af
    subst hl0;by_cases ZZ:cap=0;all_goals (
     go_wp2_with (first|(at_builtin;refine aE rfl _ _ 35 rfl w.heap.size 9 i0 (I ⟨#[]⟩) 1 16 Tryz.underlying35 Y_.1 Y_.2.1 Y_.2.2.1 Y_.2.2.2 rfl ag _ _ _ rfl (ρ.out) _ 0 _ ((zs.take 0).map Yn) rfl oY (λj u hu=>by rw[List.map_take] at hu;obtain⟨g9,o9,e,ZM,h3⟩:=HC.out j u (fJ hu);cases e <;> exact⟨_,rfl,by simp only[Ym];exact (ah (aj w _) ZM).trans h3⟩) (HON.out _) br af aF ?_))
     intro v5 w5 aa ZF
     replace aa:w5.ownsRow w.heap.size 9 1 v5 0 ((zs.take 0).map Yn):=eg
     have ZI:=(aj w (Ze #[] 9)).grown ZF aF (λg hg=>by simp[YK] at hg;omega);obtain⟨s1,s2,s3,rfl⟩:=az aa;have Β:=G aa;have H5:=G ZI;have hs5:=ZI.size;clear aa ZF ZI
     go_wp2_with (first|(at_builtin;refine aE rfl _ _ 35 rfl w.heap.size 9 i0 (I ⟨#[]⟩) 1 16 Tryz.underlying35 Y_.1 Y_.2.1 Y_.2.2.1 Y_.2.2.2 rfl ag _ _ _ rfl (Β.alloc _) _ 1 _ [I t] rfl rfl (λj u hu=>⟨_,rfl,by rw[Ym,Yp,al (heap_alloc_new w5 _)];simpa using hu⟩) dx br af bg ?_))
     intro v6 w6 Zt ZJ;have ZA:=(H5.alloc H5.size _).grown ZJ bg (λg hg=>(Β.lt g hg).1);obtain⟨r1,r2,r3,rfl⟩:=az Zt;have Η:=G Zt;have H6:=G ZA;have hs6:=ZA.size;clear Zt ZJ ZA
     go_wp2_with (first|(at_builtin;refine aE rfl _ _ 35 rfl w.heap.size 9 i0 (I ⟨#[]⟩) 1 16 Tryz.underlying35 Y_.1 Y_.2.1 Y_.2.2.1 Y_.2.2.2 rfl ag _ _ _ rfl (Η.out) _ (0 - 0) _ ((zs.drop 0).map Yn) rfl oX (λj u hu=>by first|(rw[Yw af] at hu;simp at hu;done)|(rw[List.map_drop,YN] at hu;obtain⟨g9,o9,e,ZM,h3⟩:=HC.out _ u hu;cases e <;> exact⟨_,rfl,by simp only[Ym,Nat.add_assoc];exact (ah H6.out ZM).trans h3⟩)) (HON.out _) br af af ?_))
     intro v7 w7 Zb ZK;have Z0:=H6.grown ZK af (λg hg=>(Η.lt g hg).1)
     replace Zb:w7.ownsRow w.heap.size 9 1 v7 (0+1) ((zs.take 0++[t]++zs.drop 0).map Yn):=by
      have e9:0+1+(0 - 0)=0+1:=af
      try rw[e9] at Zb
      simpa using Zb
     obtain⟨a',p',rfl,hT⟩:=bG.fh Zb (HZS.out 0);have HT7:=G hT;have HB7:=G Z0;clear Zb ZK Z0 hT hik Γ
     go_wp2
     go_ret
     exact⟨_,_,_,_,rfl,HT7.row,HP.out,HB7.out⟩)
   by_cases ZZ:cap=k;all_goals (
    go_wp2_with (first|(at_builtin;refine aE rfl _ _ 35 rfl w.heap.size 9 i0 (I ⟨#[]⟩) 1 16 Tryz.underlying35 Y_.1 Y_.2.1 Y_.2.2.1 Y_.2.2.2 rfl ag _ _ _ rfl (ρ.out) _ k _ ((zs.take k).map Yn) rfl oY (λj u hu=>by rw[List.map_take] at hu;obtain⟨g9,o9,e,ZM,h3⟩:=HC.out j u (fJ hu);cases e <;> exact⟨_,rfl,by simp only[Ym];exact (ah (aj w _) ZM).trans h3⟩) (HON.out _) br af aF ?_))
    intro v5 w5 aa ZF
    replace aa:w5.ownsRow w.heap.size 9 1 v5 k ((zs.take k).map Yn):=eg
    have ZI:=(aj w (Ze #[] 9)).grown ZF aF (λg hg=>by simp[YK] at hg;omega);obtain⟨s1,s2,s3,rfl⟩:=az aa;have Β:=G aa;have H5:=G ZI;have hs5:=ZI.size;clear aa ZF ZI
    go_wp2_with (first|(at_builtin;refine aE rfl _ _ 35 rfl w.heap.size 9 i0 (I ⟨#[]⟩) 1 16 Tryz.underlying35 Y_.1 Y_.2.1 Y_.2.2.1 Y_.2.2.2 rfl ag _ _ _ rfl (Β.alloc _) _ 1 _ [I t] rfl rfl (λj u hu=>⟨_,rfl,by rw[Ym,Yp,al (heap_alloc_new w5 _)];simpa using hu⟩) dx br af bg ?_))
    intro v6 w6 Zt ZJ;have ZA:=(H5.alloc H5.size _).grown ZJ bg (λg hg=>(Β.lt g hg).1);obtain⟨r1,r2,r3,rfl⟩:=az Zt;have Η:=G Zt;have H6:=G ZA;have hs6:=ZA.size;clear Zt ZJ ZA
    go_wp2_with (first|(at_builtin;refine aE rfl _ _ 35 rfl w.heap.size 9 i0 (I ⟨#[]⟩) 1 16 Tryz.underlying35 Y_.1 Y_.2.1 Y_.2.2.1 Y_.2.2.2 rfl ag _ _ _ rfl (Η.out) _ (len - k) _ ((zs.drop k).map Yn) rfl oX (λj u hu=>by first|(rw[Yw af] at hu;simp at hu;done)|(rw[List.map_drop,YN] at hu;obtain⟨g9,o9,e,ZM,h3⟩:=HC.out _ u hu;cases e <;> exact⟨_,rfl,by simp only[Ym,Nat.add_assoc];exact (ah H6.out ZM).trans h3⟩)) (HON.out _) br af af ?_))
    intro v7 w7 Zb ZK;have Z0:=H6.grown ZK af (λg hg=>(Η.lt g hg).1)
    replace Zb:w7.ownsRow w.heap.size 9 1 v7 (len+1) ((zs.take k++[t]++zs.drop k).map Yn):=by
     have e9:k+1+(len - k)=len+1:=af
     try rw[e9] at Zb
     simpa using Zb
    obtain⟨a',p',rfl,hT⟩:=bG.fh Zb (HZS.out k);have HT7:=G hT;have HB7:=G Z0;clear Zb ZK Z0 hT hik Γ
    go_wp2
    go_ret
    exact⟨_,_,_,_,rfl,HT7.row,HP.out,HB7.out⟩)):p:=h
theorem ael(h:p:=by
 have hnl:∀zs,¬.l zs=f:=λzs e=>by subst e;cases hv
 have back:∀(j':Nat) r' (i':Nat) ZB,(rs.set j (r.set i f))[j']?=M r'->r'[i']?=M (.l ZB)->∃r0,(rs.set j r)[j']?=M r0/\r0[i']?=M (.l ZB):=by
  intro j' r' i' ZB Λ hi';rcases e_ h3 hil Λ hi' with ⟨_,_,e⟩|⟨_,q⟩
  ·exact absurd e (hnl _)
  ·exact q
 refine⟨⟨cur.setIfInBounds (j*m+i) v,H,⟨an h1.blk v,h1.inS,lN h3 h1.len,λj' r' Λ i' f' hi'=>?_,λj' r' i' ZB j2 r2 i2 zs2 Λ hi' hz' hj2 hi2 ZP hH=>?_⟩,λj' r' i' ZB Λ hi' hz'=>?_⟩,h2.set h1.inS,h3⟩
 ·rcases e_ h3 hil Λ hi' with ⟨rfl,rfl,rfl⟩|⟨ZE,r0,q1,q2⟩
  ·exact⟨v,by rw[Array.getElem?_setIfInBounds_self_of_lt Z6],Fv.Own.ali hv hf⟩
  ·exact Pc
 ·obtain⟨r0,b1,b2⟩:=back j' r' i' ZB Λ hi';obtain⟨r3,b3,b4⟩:=back j2 r2 i2 zs2 hj2 hi2;exact h1.inj j' r0 i' ZB j2 r3 i2 zs2 b1 b2 hz' b3 b4 ZP hH
 ·obtain⟨r0,b1,b2⟩:=back j' r' i' ZB Λ hi';exact hN j' r0 i' ZB b1 b2 hz'):p:=h
theorem lZ(h:p:=by
 have aq1:=h.get;obtain⟨⟨cur,H,h1,hN⟩,h2,h3⟩:=h;obtain⟨hil,hrm⟩:=akB;obtain⟨v0,hc0,-⟩:=h1.cell j r aq1 i _ hi;have Z6:j*m+i<cur.size:=(YA.1 hc0).1;exact aqV):p:=h
theorem adI(h:p:=by
 rintro e w' ⟨ZG,⟨j',v',h1,h2,rfl⟩|⟨ε,rfl⟩⟩
 ·obtain⟨rfl,_⟩:=hT.2.1.2.2.1.2.2.inj h1 hv (h2.name hT.2.1.2.2.2.1.2.2 hb);exact⟨rfl,ZG⟩
 ·exact absurd hb (ε v)):p:=h
theorem adH(h:p:=by
 rintro e w' ⟨ZG,⟨j',v',h1,h2,rfl⟩|⟨_,rfl⟩⟩
 ·exact absurd h2 (ε v')
 ·exact⟨rfl,ZG⟩):p:=h
theorem adb(h:p:=by
 refine⟨v',List.mem_filter.2 ⟨Yv h3,?_⟩,rfl⟩;unfold onB;rw[Bool.or_eq_true];refine Zk (eh.2 ⟨j,p,hp,hd,k,?_⟩);rw[hk,k6,h2]):p:=h
theorem ada(h:p:=by
 exact⟨jv,v',h3,rfl,k,by rw[hk,k6,h2]⟩):p:=h
theorem Ae(h:p:=by
 have ZE:¬x.v=⟨#[]⟩:=by rw[<-h4];exact mf (hT.2.1.2.2.1.2.1 jv v h3).1
 obtain⟨i',j',x',v',k1,k2,k3,k4,k5,k6,_⟩:=(hT.2.2.1.2 i x h1).2.resolve_left ZE;obtain⟨_,rfl⟩:=hv.inj k3 h3 (k4.trans h4.symm);exact avi):p:=h
theorem acD(h:p:=by
 unfold onB at h3;rw[Bool.or_eq_true] at h3;rcases h3 with h3|h3
 ·exact Zk ⟨jv,v,(Yc.1 hj).1,hj,eR.1 h3,rfl⟩
 ·obtain⟨j,p,hp,hd,k,hk⟩:=eh.1 h3;have hz:=(hT.2.1.2.2.2.2.2.1 j p hp).2.2.2.1.2;have ZE:=mf (hz k v.m hk).1;obtain⟨i',j',x',v',k1,k2,k3,k4,k5,k6,_⟩:=(hT.2.2.1.1 jv v hj).2.resolve_left ZE;exact Zl ⟨j,p,(Yc.1 hp).1,hp,hd,k,v.m,v,hk,⟨i',jv,x',k1,k2,hj,k5.symm⟩,rfl⟩):p:=h
theorem acC(h:p:=by
 unfold onB at h3;rw[Bool.or_eq_true] at h3;rcases h3 with h3|h3
 ·exact Zl (Zk ⟨jv,v,(Yc.1 hj).1,hj,eR.1 h3,rfl⟩)
 ·obtain⟨k,q,hq,hw⟩:=eh.1 h3;rcases cX hp hq with ⟨-,rfl⟩|⟨-,hq⟩
  ·exact Zk ⟨jv,v,hj,rfl,hw.2⟩
  ·exact Zl (Zl ⟨jv,v,hj,rfl,k,q,hq,hw⟩)):p:=h
theorem qy(h:p:=by
 rintro⟨v,h1,rfl⟩;obtain⟨h2,h3⟩:=List.mem_filter.1 h1;obtain⟨jv,hj⟩:=YG h2;exact asY):p:=h
theorem ab9(h:p:=by
 have HR:=G hr;have HT:=G hT;have HP:=G hp;have hpl:=hp.1;have hzl:=hz.1;have HZ0:=G hz;have HRI:=G hri;have hll:c.vs.length=l3:=OI
 clear hr hT hp hz hri;go_enter Tryz.func179,Tryz.ntmps179;go_wp2;go_loopw [1,7] (λvl0 vi wr=> ∃(k:Nat) (ca:Option Addr) (cl cc:Nat) (ys:List ByteArray),k<=vl/\vi=V O k/\vl0=U ca cl cc/\Hid (aw wr ca cl cc ys/\RT ys/\(∀s,s∈ys↔s∈zs\/iX c (p.zs.take k) s)/\ys.length<=zs.length+k)/\Hid (Below ((w.alloc (Ze #[U a1 l1 y1,U a2 l2 y2,U a3 l3 y3,U a4 l4 y4,U a5 l5 y5,V O c.now] 29)).alloc (Ze #[I p.n,V O p.c,I p.z,U va vl vc,I p.d,V O p.p] 102)).heap.size ((w.alloc (Ze #[U a1 l1 y1,U a2 l2 y2,U a3 l3 y3,U a4 l4 y4,U a5 l5 y5,V O c.now] 29)).alloc (Ze #[I p.n,V O p.c,I p.z,U va vl vc,I p.d,V O p.p] 102)) wr)) (λ_ vi _=>vl - (intOf vi).toNat);case atStart=>exact⟨0,a,len,cap,zs,by omega,rfl,rfl,⟨HZ0.below (aM _ _ _),HRI.out,λs=>⟨Zl,λh=>h.elim id (λ⟨j,t,v,h,_⟩=>by simp at h)⟩,by omega⟩,Yh _ _⟩
 case round=>
  obtain⟨k,ca,cl,cc,ys,hk,rfl,rfl,HQ,HL⟩:=hrel;have hb0:=HL.out;obtain⟨ZD,Ν,Zr⟩:=dK hb0;have Bk:=G ZD;have Bp:=G Ν;have HB:=G Zr;clear hb0 ZD Ν Zr;have hyl:=HQ.1.1;have hyb:=HQ.2.2.2;by_cases Zo:k<vl
  ·have Ο:(k:Int)<vl:=af
   obtain⟨b,o,t,rfl,hb,hx,hc,Zq⟩:=(HP.below HB.out).at Zo;have HX:=G hx;clear hx Zq;have HL2:Hid (Bw wr wr):=Bw.refl _;rcases Classical.em (∃v,aX c t v) with ⟨v,ω⟩|ε
   ·obtain⟨i9,j,x9,h91,h92,hv,h94⟩:=ω;have ω:aX c t v:=⟨i9,j,x9,h91,h92,hv,h94⟩;have HVJ:=G hv;have HBD:=G ω;clear h91 h92 h94 ω hv;have asZ:=@G _ @Oj;exact uL
   ·have HNO:Hid (∀v,¬aX c t v):=λv h=>ε ⟨v,h⟩;clear ε;have asZ:=@G _ @Oi;exact uL
  have Ο:¬(k:Int)<vl:=af
  have ν:=HQ;rw[YB (show p.zs.length<=k by omega)] at ν;have aoz:=@G _ @Jh;exact fQ):p:=h
theorem ab8(h:p:=by
 obtain⟨HR,hl1⟩:=lr;obtain⟨hl5,hm5⟩:=lK;clear hr;have HT:=G hT;have HP:=G hp;have HPC:=G (λ(j:Nat) (q:Pd) (h:c.ps[j]?=M q)=>(hT.2.1.2.2.2.2.2.1 j q h).2.1);have HN:=G hn;have HNZ:=G (hT.2.1.1.2.1 _ _ hn).2.1;have HB:=G (Yh w.heap.size w);have hi5:i<l5:=by have:=(Yc.1 hp).1;omega
 have hii:(i:Int)<l5:=af
 have hi0:¬(i:Int)<0:=af
 have hj1:j<l1:=by have:=(Yc.1 hn).1;omega
 have hjj:(j:Int)<l1:=af
 obtain⟨b,o,y,rfl,Z3,hy,Zc⟩:=db HR.p hi5;rw[hp] at hy;obtain rfl:=Yd hy;obtain⟨va,vl,vc,Zx,-,-,-,c0,c1,c2,c3,c4,c5⟩:=bK Zc;clear Zc hy;obtain⟨bn,on,y,rfl,hbn,hy,Zc⟩:=dF HR.n hj1;rw[hn] at hy;obtain rfl:=Yd hy;obtain⟨ua,ul,uc,hur,-,-,d0,d1,d2,d3,d4,d5,d6⟩:=bo Zc;have σ:=G Zx;have hpl:p.zs.length=vl:=Zx.1;have hlc:vl<=9223372036854775807:=Yo Zx.2.1 Zx.2.2.1;clear Zc hy Zx hur hp hn hT;have aze:bn<w.heap.size+1:=af
 have azf:bn<w.heap.size+1+1:=af
 go_enter Tryz.func141,Tryz.ntmps141;by_cases hph:p.p=0;rotate_left
 ·have hpb:(p.p==0)=Zg:=by simpa using hph
  go_wp2;exact bodyPost_ret (v:=Zn #[Zj #[U (M ⟨bn,on,J⟩) l1 y1,U a2 l2 y2,U a3 l3 y3,U a4 l4 y4,U (M ⟨b,o,J⟩) l5 y5,V O c.now],V O 10]) ln rfl ⟨⟨(M ⟨bn,on,J⟩),l1,y1,a2,l2,y2,a3,l3,y3,a4,l4,y4,(M ⟨b,o,J⟩),l5,y5⟩,c,10,rfl,Zl ⟨hph,rfl⟩,λh=>absurd h ag,(HB.trans ((jt _ _ _ _ _).mono HB.size))⟩
 have hpb:(p.p==0)=Zi:=by simpa using hph
 have HPH:=G hph;clear hph;cases hnd:n.d;rotate_left
 ·rw[hnd] at d5;go_wp2;exact bodyPost_ret (v:=Zn #[Zj #[U (M ⟨bn,on,J⟩) l1 y1,U a2 l2 y2,U a3 l3 y3,U a4 l4 y4,U (M ⟨b,o,J⟩) l5 y5,V O c.now],V O 11]) ln rfl ⟨⟨(M ⟨bn,on,J⟩),l1,y1,a2,l2,y2,a3,l3,y3,a4,l4,y4,(M ⟨b,o,J⟩),l5,y5⟩,c,11,rfl,Zk ⟨HPH.out,Zl ⟨Zl hnd,rfl⟩⟩,λh=>absurd h ag,(HB.trans ((jt _ _ _ _ _).mono HB.size))⟩
 have HND:=G hnd;rw[hnd] at d5;clear hnd;by_cases hu:n.u<=c.now
 ·go_wp2;exact bodyPost_ret (v:=Zn #[Zj #[U (M ⟨bn,on,J⟩) l1 y1,U a2 l2 y2,U a3 l3 y3,U a4 l4 y4,U (M ⟨b,o,J⟩) l5 y5,V O c.now],V O 11]) ln rfl ⟨⟨(M ⟨bn,on,J⟩),l1,y1,a2,l2,y2,a3,l3,y3,a4,l4,y4,(M ⟨b,o,J⟩),l5,y5⟩,c,11,rfl,Zk ⟨HPH.out,Zl ⟨Zk hu,rfl⟩⟩,λh=>absurd h ag,(HB.trans ((jt _ _ _ _ _).mono HB.size))⟩
 have HAW:Hid (¬So c n):=λh=>h.elim (λh=>by rw[HND.out] at h;cases h) hu;by_cases hZ:R8 p n
 ·have ZO:=aU hZ.1;have η:=bu hZ.2;go_wp2;exact bodyPost_ret (v:=Zn #[Zj #[U (M ⟨bn,on,J⟩) l1 y1,U a2 l2 y2,U a3 l3 y3,U a4 l4 y4,U (M ⟨b,o,J⟩) l5 y5,V O c.now],V O 8]) ln rfl ⟨⟨(M ⟨bn,on,J⟩),l1,y1,a2,l2,y2,a3,l3,y3,a4,l4,y4,(M ⟨b,o,J⟩),l5,y5⟩,c,8,rfl,Zk ⟨HPH.out,Zk ⟨HAW.out,Zl ⟨hZ,rfl⟩⟩⟩,λh=>absurd h ag,(HB.trans ((jt _ _ _ _ _).mono HB.size))⟩
 have HZO:=G hZ;go_upto_region 7 with fail;go_cut [39] from 23 to 49 (λs wx=>s=Zf Zg/\wx=((((w.alloc (Ze (Zd (M ⟨bn,on,J⟩) l1 y1 a2 l2 y2 a3 l3 y3 a4 l4 y4 (M ⟨b,o,J⟩) l5 y5 c.now) 29)).alloc (Ze (Zd J 0 0 J 0 0 J 0 0 J 0 0 J 0 0 0) 29)).alloc (Ze (pov p va vl vc) 102)).alloc (Ze #[I n.n,I n.z,V O n.c,V O n.s,V O n.u,Zf Zg,U ua ul uc] 81)));case first=>
  by_cases ZO:p.z=⟨#[]⟩
  ·have η:=cw ZO;clear ZO;go_wp2_with fail;go_meet;exact⟨rfl,rfl⟩
  ·have η:=aU ZO;have ZP:=aP (Classical.byContradiction (λh=>HZO.out ⟨ZO,h⟩));clear ZO;go_wp2_with fail;go_meet;exact⟨rfl,rfl⟩
 case rest=>
  obtain⟨rfl,rfl⟩:=hcut;clear hZ hu hpb;have HL8:Hid (c.ps.length<=8):=by have h:=HT.2.1.2.2.2.2.1;show _<=_;omega
  have hU:=yj n.n HPC.out;have hl8:=HL8.out;have hu0:=hU.1;have hu1:cpuOf n.n c.ps<=8000000:=by have:=hU.2;omega
  have hnc:=(HT.2.1.1.2.1 _ _ HN.out).2.2.1;have aw1:=hnc.1;have aw2:=hnc.2;clear hU hnc;by_cases hCP:n.c - cpuOf n.n c.ps<p.c
  ·have hcp:decide (n.c - cpuOf n.n c.ps<p.c)=Zi:=by simpa using hCP
   have as0:=@G _ @Mv;exact uo
  have hcp:decide (n.c - cpuOf n.n c.ps<p.c)=Zg:=by simpa using hCP
  have HCP:Hid (¬ahn c p n):=hCP;have as0:=@G _ @Mw;exact uo):p:=h
theorem ab7(h:p:=by
 obtain⟨HR,hl1⟩:=lr;have hm1:l1<=9223372036854775807:=Yo hr.n.2.1 hr.n.2.2.1;obtain⟨hl5,hm5⟩:=lK;clear hr;have HT:=G hT;have HP:=G hp;have H0:=G h0;have HPC:=G (λ(j:Nat) p (hp:c.ps[j]?=M p)=>(hT.2.1.2.2.2.2.2.1 j p hp).2.1);have HL8:Hid (c.ps.length<=8):=by have h:=hT.2.1.2.2.2.2.1;show _<=_;omega
 have HPP:Hid (0<=p.c):=(HPC.out i p hp).1;clear hT hp h0;go_enter Tryz.func177,Tryz.ntmps177;go_wp2_with fail;go_loopw [5,6,7] (λbq mq iq wr=> ∃(k:Nat) (bs ms:Int),k<=l1/\bq=V O bs/\mq=V O ms/\iq=V O k/\Hid (fm c i p k bs ms)/\Hid (Below w.heap.size w wr)/\Hid (wr.heap[w.heap.size]?=M (Ze (Zd a1 l1 y1 a2 l2 y2 a3 l3 y3 a4 l4 y4 a5 l5 y5 c.now) 29 (0,0)))) (λ_ _ iq _=>l1 - (intOf iq).toNat);case atStart=>exact⟨0,-1,-1,by omega,rfl,rfl,rfl,fm.zero,aj _ _,heap_alloc_new _ _⟩
 case round=>
  obtain⟨k,bs,ms,hk,rfl,rfl,rfl,HK,HB,Bk⟩:=hrel;by_cases Zo:k<l1
  ·have aob:(k:Int)<(l1:Int):=af
   have ao3:=@G _ @UC;exact gn
  ·obtain rfl:l1=k:=af
   have aob:¬(l1:Int)<(l1:Int):=af
   have k0:=ck0 Bk;have ap6:=HK.out;rw[<-hl1] at ap6;have HD:=G ap6.done;clear ap6;go_wp2;go_ret;exact⟨⟨bs,rfl,HD.out⟩,HB.out⟩):p:=h
theorem abN(h:p:=by
 have hv8:(wx.setCell ⟨b,2,J⟩ (U q3 m3 z3)).heap[w5.heap.size]?=M (Ze #[I (aC++x.n),V O x.z,I kc.z,I x.k,Zf x.x,I x.n,Zf Zg,U J 0 0] 37 (0,0)):=(Ya _ _ _ _ (show w5.heap.size≠b by omega)).trans Bv7.out;exact amq):p:=h
theorem abM(h:p:=by
 have hv8:(wx.setCell ⟨b,2,J⟩ (U q3 m3 z3)).heap[w5.heap.size]?=M (Ze #[I (aC++x.n),V O x.z,I t,I x.k,Zf x.x,I x.n,Zf Zg,U J 0 0] 37 (0,0)):=(Ya _ _ _ _ (show w5.heap.size≠b by omega)).trans Bv7.out;exact amq):p:=h
theorem zQ(h:p:=by
 refine Grow.done ?_;intro q wx hW hf;simp only[YL] at hf;obtain⟨aye,ayf,ayg,ayh,ayi,ayj,ayk,ayl,aym,-⟩:=hf;obtain⟨q3,m3,z3,aw3,ho7⟩:=ayg;have HO7:=G ho7;have HWX:=upB HB6 hW;have Bc7:=upK Bc6 hW;have Bv7:=upK Bv6 hW;obtain⟨k0,k1,k2,k3,k4,k5⟩:=cs6 Bc7;have hfz:=ak Bc7.out 2;clear ho7 hW;intro K hK;rw[if_pos cF];simp only[aL,YQ,Y0,Yr,Yx,Yy,aye,ayf,ayh,ayi,ayj,ayk,ayl,aym,aw3];have apz:=@G _ @NH;exact j8):p:=h
theorem abx(h:p:=by
 obtain⟨HB,Bg,Bn⟩:=AS;clear hne0 g0 g1 g2 g3 g4 g5 xk kx c2 d1 hbk Z3;obtain⟨n0,n1,n2,n3,n4,n5,n6⟩:=cs7 Bn;go_wp2_with fail;refine (rT c i x j k n.z S b a1 l1 y1 (M ⟨bk,ok,J⟩) l2 y2 a3 l3 y3 (M ⟨bx,ox,J⟩) l4 y4 a5 l5 y5 q1.w Bg.out (HO.below HB.out) (λk s=>⟨Yl (HS.out k s).1 HB.size,(HS.out k s).2⟩) HT.out HX.1 HK.1 HK.2 HXV.out (Zk HNZ.out)).mono ?_;rintro e w4 hA;rcases hA with ⟨j1,u,h1,h2,rfl,h3,h4,h5⟩|⟨h1,⟨p9,Ξ,hp,rfl,hb⟩|⟨h2,h3,h4,rfl,q3,m3,z3,h5,h6,h7⟩⟩
 ·have H1:=G (Yb h1 h2);have H3:=G h3;have H4:=G h4;have H5:=G h5;clear h1 h2 h3 h4 h5;go_wp2;go_ret;exact⟨dM c i j1 x u,0,rfl,⟨i,x,HX.1,HX.2,Zk ⟨HXV.out,j,k,⟨dM c i j1 x u,u.n,0⟩,HK.1,HK.2,Zl ⟨j1,u,H1.1,H1.2,rfl⟩,rfl,Zk ⟨HKX.out,rfl⟩⟩⟩,Zk ⟨rfl,a3,l3,y3,H3.out,⟨H4.n.bC (λ_ _ s=>Zl s),H4.k.bC (λ_ _ s=>Zl s),H4.v.bC (λ_ _ s=>Zl s),H4.x.bC (λ_ _ s=>Zl s),H4.p.bC (λ_ _ s=>Zl s)⟩,(aJ.dW HB.out).trans (H5.mono (λ_ s=>Zl s))⟩⟩
 ·have H1:=G h1;have HP0:=G Ξ;have HPP:=G hp;have HB4:=upB HB hb;clear h1 Ξ hp hb;go_wp2;go_ret;refine⟨(co0 p9).c,p9,rfl,⟨i,x,HX.1,HX.2,Zk ⟨HXV.out,j,k,co0 p9,HK.1,HK.2,Zk ⟨H1.out,?_⟩,rfl,Zk ⟨HKX.out,rfl⟩⟩⟩,Zl ⟨HP0.out,HB4.out⟩⟩;rcases HPP.out with ⟨h2,rfl⟩|⟨h2,h3,rfl⟩|⟨h2,h3,h4,rfl⟩
  ·exact Zl ⟨h2,rfl⟩
  ·exact Zk ⟨h2,Zl ⟨h3,rfl⟩⟩
  ·exact Zk ⟨h2,Zk ⟨h3,Zl ⟨h4,rfl⟩⟩⟩
 ·have H1:=G (Yb h1 (Yb h2 (Yb h3 h4)));have H5:=G h5;have H6:=G h6;have H7:=G h7;clear h1 h2 h3 h4 h5 h6 h7;go_wp2;go_ret;exact⟨dd c i x (aT n.z k.z),0,rfl,⟨i,x,HX.1,HX.2,Zk ⟨HXV.out,j,k,⟨dd c i x (aT n.z k.z),aC++x.n,0⟩,HK.1,HK.2,Zk ⟨H1.1,Zk ⟨H1.2.1,Zk ⟨H1.2.2.1,Zk ⟨H1.2.2.2,rfl⟩⟩⟩⟩,rfl,Zk ⟨HKX.out,rfl⟩⟩⟩,Zk ⟨rfl,q3,m3,z3,H5.out,⟨H6.n.bC (λ_ _ s=>s.imp id (λq=>Yo HB.size q)),H6.k.bC (λ_ _ s=>s.imp id (λq=>Yo HB.size q)),H6.v.bC (λ_ _ s=>s.imp id (λq=>Yo HB.size q)),H6.x.bC (λ_ _ s=>s.imp id (λq=>Yo HB.size q)),H6.p.bC (λ_ _ s=>s.imp id (λq=>Yo HB.size q))⟩,(aJ.dW HB.out).trans H7.out⟩⟩):p:=h
theorem abw(h:p:=by
 obtain⟨HB,Bg,Bn⟩:=AS;clear hne0 g0 g1 g2 g3 g4 g5 xk kx c2 d1 hbk Z3;go_wp2;go_ret;obtain⟨oo,hoo⟩:=alu c i x k n.z;exact⟨oo.c,11,rfl,⟨i,x,HX.1,HX.2,Zk ⟨HXV.out,j,k,oo,HK.1,HK.2,hoo,rfl,Zl ⟨HKX.out,rfl⟩⟩⟩,Zl ⟨by decide,HB.out⟩⟩):p:=h
theorem abl(h:p:=by
 generalize ((((wy.setCell ⟨b9,0,J⟩ (I kc.n)).setCell ⟨b9,1,J⟩ (Zf kc.x)).setCell ⟨b9,2,J⟩ (Zf kc.y)).setCell ⟨b9,3,J⟩ (I kc.z))=X3 at Bn HWX ⊢;clear t0 t1 t2 t3 f0 f1 f2 f3;have Z7:=G (ZX.trans (HWX.mono ZX.size));have Bc3:=upK Bc2 HWX.out;have Bx3:=upK Bx2 HWX.out;clear hW HWX;by_cases hte:t=⟨#[]⟩
 ·have hq:=cw hte;have HZO:Hid (aT t kc.z=kc.z):=by show aT _ _=_;unfold aT;rw[if_pos hte]
  clear hte;have hzn:¬kc.z=⟨#[]⟩->aN kc.z:=λh=>((HT.2.1.2.1.2.1 jk kc HK.1).2.resolve_left h);obtain⟨x0,x1,x2,x3,x4⟩:=cs5 Bx3;obtain⟨n0,n1,n2,n3⟩:=cs4 Bn;go_wp2_with fail;clear x0 x1 x2 x3 x4 n0 n1 n2 n3;by_cases hm:kD x.n x.k x.v kc.n kc.z kc.z;rotate_left
  ·refine (CY x.n x.z x.k x.x x.v kc.n kc.x kc.y kc.z kc.z _ HZX.1 hm).mono ?_;exact Pk
  refine (yF x.n x.z x.k x.x x.v kc.n kc.x kc.y kc.z kc.z _ hm).mono ?_;rintro e w5 ⟨rfl,hb⟩;have HM:=G hm;have Ρ:=upB Z7 hb;have Bc5:=upK Bc3 hb;clear hb hm Bn;by_cases hz:kc.z=⟨#[]⟩
  ·have HNM:Hid (¬fG x kc t):=λh=>h.1 (by rw[HZO.out];exact hz);have Τ:=cw hz;clear hz;exact xg
  have HMV:Hid (fG x kc t):=⟨by rw[HZO.out];exact hz,by rw[HZO.out];exact HM.out⟩;have as1:=hzn hz;have HZN:=G as1;have Τ:=aU hz;clear hz as1 hzn;go_wp2_with fail;clear Τ;obtain⟨W,θ⟩:∃W,W=w5.alloc (Ze #[I (aC++x.n),V O x.z,I kc.z,I x.k,Zf x.x,I x.n,Zf Zg,U J 0 0] 37):=⟨_,rfl⟩;have BcW:=G ((Yj w5 (Ze #[I (aC++x.n),V O x.z,I kc.z,I x.k,Zf x.x,I x.n,Zf Zg,U J 0 0] 37) _ (ae Bc5.out)).trans Bc5.out);have BvW:=G (heap_alloc_new w5 (Ze #[I (aC++x.n),V O x.z,I kc.z,I x.k,Zf x.x,I x.n,Zf Zg,U J 0 0] 37));have ZH:=G (Ρ.trans ((aj w5 (Ze #[I (aC++x.n),V O x.z,I kc.z,I x.k,Zf x.x,I x.n,Zf Zg,U J 0 0] 37)).mono Ρ.size));have hw5:w.heap.size<=w5.heap.size:=Ρ.size;rw[<-θ] at BcW BvW ZH ⊢;have avj:=@G _ @Vt;exact y_
 ·have hq:=aU hte;have HZO:Hid (aT t kc.z=t):=by show aT _ _=_;unfold aT;rw[if_neg hte]
  clear hte;have hzn:¬t=⟨#[]⟩->aN t:=λh=>HTZ.resolve_left h;obtain⟨x0,x1,x2,x3,x4⟩:=cs5 Bx3;obtain⟨n0,n1,n2,n3⟩:=cs4 Bn;go_wp2_with fail;clear x0 x1 x2 x3 x4 n0 n1 n2 n3;by_cases hm:kD x.n x.k x.v kc.n kc.z t;rotate_left
  ·refine (CY x.n x.z x.k x.x x.v kc.n kc.x kc.y kc.z t _ HZX.1 hm).mono ?_;exact Pk
  refine (yF x.n x.z x.k x.x x.v kc.n kc.x kc.y kc.z t _ hm).mono ?_;rintro e w5 ⟨rfl,hb⟩;have HM:=G hm;have Ρ:=upB Z7 hb;have Bc5:=upK Bc3 hb;clear hb hm Bn;by_cases hz:t=⟨#[]⟩
  ·have HNM:Hid (¬fG x kc t):=λh=>h.1 (by rw[HZO.out];exact hz);clear hq;have Τ:=cw hz;clear hz;exact xg
  have HMV:Hid (fG x kc t):=⟨by rw[HZO.out];exact hz,by rw[HZO.out];exact HM.out⟩;have as1:=hzn hz;have HZN:=G as1;clear hq;have Τ:=aU hz;clear hz as1 hzn;go_wp2_with fail;clear Τ;obtain⟨W,θ⟩:∃W,W=w5.alloc (Ze #[I (aC++x.n),V O x.z,I t,I x.k,Zf x.x,I x.n,Zf Zg,U J 0 0] 37):=⟨_,rfl⟩;have BcW:=G ((Yj w5 (Ze #[I (aC++x.n),V O x.z,I t,I x.k,Zf x.x,I x.n,Zf Zg,U J 0 0] 37) _ (ae Bc5.out)).trans Bc5.out);have BvW:=G (heap_alloc_new w5 (Ze #[I (aC++x.n),V O x.z,I t,I x.k,Zf x.x,I x.n,Zf Zg,U J 0 0] 37));have ZH:=G (Ρ.trans ((aj w5 (Ze #[I (aC++x.n),V O x.z,I t,I x.k,Zf x.x,I x.n,Zf Zg,U J 0 0] 37)).mono Ρ.size));have hw5:w.heap.size<=w5.heap.size:=Ρ.size;rw[<-θ] at BcW BvW ZH ⊢;have avj:=@G _ @Vs;exact y_):p:=h
theorem abk(h:p:=by
 replace Bk:=upK Bk ZG;replace HL2:=G (HL2.below ZG);replace HB:=upB HB ZG;clear ZG;clear hW;have HTX:=G (Yb htx (Yb aue asW));have hxz:=HTx.1;clear htx aue asW;obtain⟨k0,k1,k2,k3,k4,k5⟩:=cs6 Bk;go_wp2;refine⟨⟨k+1,sa,sl,sc,zs2,by omega,by go_num,rfl,⟨HTX.1,HTX.2.1,λs=>?_,by omega⟩,HL.trans (HL2.out.mono (by have h8:=HL.size;rw[cW] at h8;exact h8))⟩,by simp[intOf];omega⟩;rw[HTX.2.2,HQ.2.2.1,PBs.yes HXx.out HHE.out]):p:=h
theorem abj(h:p:=by
 have hX6:=av.aiY HF5.2.2.1 HWX.out HIR.out (i:=4) rfl u.n huz;have f1:=av.bN (i:=i*5+4) (v:=I u.n) HF5.1 HWX.out HX5.out ag ag;have f2:=av.bN (i:=i*5+4) (v:=I u.n) HF5.2.1 HWX.out HX5.out ag ag;have f3:=av.bN (i:=i*5+4) (v:=I u.n) HV5.out HWX.out HX5.out ag ag;have f5:=av.bN (i:=i*5+4) (v:=I u.n) HF5.2.2.2 HWX.out HX5.out ag ag;have hK6:aJ S w (wx.setCell ⟨gx,i*5+4,J⟩ (I u.n)):=(HK5.below HWX.out).set HGS.out;have hB6:(wx.setCell ⟨gx,i*5+4,J⟩ (I u.n)).heap[b]?=_:=(Ya _ _ _ _ (show b≠gx from λe=>Δ e.symm)).trans Bc6.out;have hc6:(wx.setCell ⟨gx,i*5+4,J⟩ (I u.n)).cell? ⟨gv,j*8,J⟩=M (I u.n):=by
  have h9:=(ah HWX.out (ae awg.out)).trans aw0.out;have ZE:¬gv=gx:=λe=>by have h1:=HX5.out;have h2:=awg.out;rw[<-e,h2] at h1;simp at h1
  have e9:(wx.setCell ⟨gx,i*5+4,J⟩ (I u.n)).heap[gv]?=wx.heap[gv]?:=Ya _ _ _ _ ZE;simp only[YX,e9] at h9 ⊢;exact h9
 clear hcz hfz;obtain⟨W6,hW6⟩:∃W6,W6=wx.setCell ⟨gx,i*5+4,J⟩ (I u.n):=⟨_,rfl⟩;rw[<-hW6] at hX6 f1 f2 f3 f5 hK6 hB6 hc6 ⊢;have HA6:Hid (dw W6 ⟨a1,l1,y1,a2,l2,y2,M ⟨gv,0,J⟩,l3,y3,M ⟨gx,0,J⟩,l4,y4,a5,l5,y5⟩ (dM c i j x u).raw S):=⟨f1,f2,by show av _ _ _ _ _ _ ((c.vs.set j (bdV u x.n)).map vdF) _;rw[List.map_set];exact f3,by show av _ _ _ _ _ _ ((c.xs.set i (bdX x u.n)).map xdF) _;rw[List.map_set];exact hX6,f5⟩;have HK6:=G hK6;have HB6:=G hB6;clear hW6 hX6 f1 f2 f3 f5 hK6;obtain⟨k0,k1,k2,k3,k4,k5⟩:=cs6 hB6;clear hB6;go_wp2;exact bodyPost_ret (v:=Zn #[I u.n,V O 0]) (by simp[results,Tryz.results36,go_sem, *]) rfl (Zl ⟨j,u,HSO.out,HJU.out,rfl,HB6.out,HA6.out,HK6.out⟩)):p:=h
theorem aaS(h:p:=by
 refine Grow.step (λv _=>v=V O (j9:Nat)) rfl (Fact.dq _) ?_ ?_
 ·have asS:=@G _ @MV;exact uy
 refine' Grow.stepC (Zf Zi) rfl ?_ ?_
 ·exact wZ
 iterate 3 refine Grow.aK ?_
 refine Grow.aO BcW.out ?_;refine' Grow.stepC (V O l3) rfl ?_ ?_
 ·exact w_
 refine Grow.step (λv _=>v=V O 7) rfl (Fact.dq _) ?_ ?_
 ·have asR:=@G _ @S3;exact pW
 have aqW:=@G _ @afc;exact me):p:=h
theorem aaR(h:p:=by
 refine Grow.step (λv _=>v=V O (-1)) rfl (Fact.dq _) ?_ ?_
 ·exact Pn
 refine' Grow.stepC (Zf Zg) rfl ?_ ?_
 ·exact wZ
 iterate 3 refine Grow.aK ?_
 refine Grow.aO BcW.out ?_;refine' Grow.stepC (V O l3) rfl ?_ ?_
 ·exact w_
 refine Grow.step (λv _=>v=V O 9) rfl (Fact.dq _) ?_ ?_
 ·have asR:=@G _ @S2;exact pW
 have aqW:=@G _ @afb;exact me):p:=h
theorem zO(h:p:=by
 have as2:=@G _ @Jl;exact tE):p:=h
theorem aat(h:p:=by
 have HA:Hid (lF c i p n c' e0):=hA.elim (λh=>absurd H0.out h.1) (λh=>h.2);clear hA;have aw4:=ae Bk.out;by_cases he:e0=0
 ·subst he;obtain⟨k0,k1,k2,k3,k4,k5⟩:=cs6 Bk;go_wp2;refine⟨⟨k+1,k,frN c n,by omega,rfl,by first|rfl|(congr 1;go_num),by go_num,HK.take HXn.out (by have h:=HF.out;omega) ⟨_,HA.out⟩,HB.alloc HB.size _,(Yj _ _ _ aw4).trans Bk.out⟩,by simp[intOf];omega⟩
 have he2:(e0==0)=Zg:=by simpa using he
 have HE0:=G he;clear he;obtain⟨k0,k1,k2,k3,k4,k5⟩:=cs6 Bk;go_wp2;refine⟨⟨k+1,bs,ms,by omega,rfl,rfl,by go_num,HK.no HXn.out (λ⟨_,h⟩=>HE0.out (HA.same HT.out HNZ.out h).1),HB.alloc HB.size _,(Yj _ _ _ aw4).trans Bk.out⟩,by simp[intOf];omega⟩):p:=h
theorem aas(h:p:=by
 rcases hf with ⟨i,x,hx,hn,rfl⟩|⟨ε,rfl⟩;rotate_left
 ·have HV:=G (gD ε);clear ε;obtain⟨k0,k1,k2,k3,k4,k5⟩:=cs6 Bk;go_wp2;exact bodyPost_ret (v:=Zn #[V O 0,V O 0,V O 6]) uR rfl ⟨⟨_,_,_,rfl,Zl ⟨by decide,2,⟨HLL.out,HT.out,HV.out⟩,rfl⟩⟩,HB.out⟩
 have as3:=@G _ @LP;exact tZ):p:=h
theorem aal(h:p:=by
 have aqq:=@G _ @L5;exact nv):p:=h
theorem aak(h:p:=by
 have aqq:=@G _ @L4;exact nv):p:=h
theorem aaj(h:p:=by
 clear hne0 g0 g1 g2 g3 g4 g5 n0 n1 n2 n3 n4 n5 n6 v4 v7 zc aoq c0 c1 c2 c3 c4 c5 c6 c7 hbv hq hcz hbz hqz;go_wp2;go_ret;exact⟨c,0,rfl,⟨i,x,HX.1,HX.2,Zl ⟨j1,v,HV.1,HV.2,rfl,Zk (Zk ⟨HZ.out,λh=>h.2.elim (λ⟨j9,t9,h1,h2⟩=>(by have h9:=(Yc.1 h1).1;obtain rfl:j9=0:=af;rw[HZ0.out] at h1;cases h1;exact h2 HZN.out)) (λ⟨j9,p9,h1,h2,h3,h4⟩=>HEL.out ⟨j9,p9,h1,h2,h3,by rw[<-HM.out];exact h4⟩),rfl⟩)⟩⟩,Zk ⟨rfl,M ⟨bv,ov,J⟩,l3,y3,Bg.out,⟨(HO.below HB.out).n.bC (λ_ _ s=>Zl s),(HO.below HB.out).k.bC (λ_ _ s=>Zl s),(HO.below HB.out).v.bC (λ_ _ s=>Zl s),(HO.below HB.out).x.bC (λ_ _ s=>Zl s),(HO.below HB.out).p.bC (λ_ _ s=>Zl s)⟩,aJ.dW HB.out⟩⟩):p:=h
theorem qt(h:p:=by
 have as4:=@G _ @E9;exact sF):p:=h
theorem X6(h:p:=by
 go_wp2_with fail;refine (oJ ca cl cc ys v.n _ (HQ.1.below HL2.out) af ZO).mono ?_;rintro e w2 ⟨sa,sl,sc,zs2,rfl,htx,ao8,ZG⟩;clear k0 k1 k2 k3 k4 k5 p0 p1 p2 p3 p4 p5;replace Bk:=upK Bk ZG;replace Bp:=upK Bp ZG;replace HL2:=G (HL2.below ZG);replace HB:=upB HB ZG;clear ZG;have HTX:=G htx;have HPU:=G ao8;clear htx ao8 hc0 ZO Zy;have aoz:=@G _ @Jg;exact fQ):p:=h
theorem X5(h:p:=by
 go_wp2;refine⟨⟨k+1,ca,cl,cc,ys,by omega,by go_num,rfl,⟨HQ.1.below HL2.out,HQ.2.1,λs=>?_,by omega⟩,HL.trans (HL2.out.mono HL.size)⟩,by simp[intOf];omega⟩;rw[HQ.2.2.1,YM,HX.out,Option.toList_some];exact ahb HNO.out):p:=h
theorem X4(h:p:=by
 go_wp2_with fail;clear k0 k1 k2 k3 k4 k5 p0 p1 p2 p3 p4 p5;go_loopw [11] (λvi wr=> ∃(k:Nat) (c1:Cl) (q3:Option Addr) (g3 z3:Nat),k<=vl/\vi=V O k/\Hid (er c n p.zs k c1)/\Hid (wr.heap[w3.heap.size]?=M (Ze (Zd x1 m1 f1 x2 m2 f2 q3 g3 z3 x4 m4 f4 x5 m5 f5 c1.now) 29 (0,0)))/\Hid (dw wr ⟨x1,m1,f1,x2,m2,f2,q3,g3,z3,x4,m4,f4,x5,m5,f5⟩ c1.raw (λk=>q1.w.heap.size<=k/\¬k=w3.heap.size/\k<wr.heap.size))/\Hid (Below q1.w.heap.size q1.w wr)) (λvi _=>vl - (intOf vi).toNat);case atStart=>exact⟨0,c,x3,m3,f3,by omega,rfl,rfl,heap_alloc_new w3 (Ze (Zd x1 m1 f1 x2 m2 f2 x3 m3 f3 x4 m4 f4 x5 m5 f5 c.now) 29),HOV.out,HV0.out⟩
 case round=>
  obtain⟨k,c1,q3,g3,z3,hk,rfl,HRD,HOB,HOF,HQB⟩:=hrel;replace HB:=G (HBQ.trans (HQB.mono HBQ.size));have hRR:=er.right HT.out HNZ.out k c1 HRD.out;have HT1:=G hRR.1;have HR1:=G hRR.2;clear hRR HV0 HOV;replace Bk:=G ((HQB.block _ (ae Qk.out)).trans Qk.out);replace Br:=G ((HQB.block _ (ae Qr.out)).trans Qr.out);replace Bp:=G ((HQB.block _ (ae Qp.out)).trans Qp.out);replace Bn:=G ((HQB.block _ (ae Qn.out)).trans Qn.out);have Bo:=HOB;by_cases Zo:k<vl
  ·have Ο:(k:Int)<vl:=af
   obtain⟨bz,oz,t,rfl,hbz,hx,hcz,-⟩:=(σ.below HB.out).at Zo;have HX:=G hx;have HHT:=G (HR1.2.2.2.2 t ((HT.2.2.2.1.1 _ _ HP.out).1 k t hx));clear hx;have apn:=@G _ @X0;exact iL
  have Ο:¬(k:Int)<vl:=af
  obtain rfl:vl=k:=af
  obtain⟨p0,p1,p2,p3,p4,p5⟩:=cs6 Bp;go_wp2_with fail;clear p0 p1 p2 p3 p4 p5;have HP1:Hid (c1.ps[i]?=M p):=by show _=_;rw[HR1.2.2.1];exact HP.out
  have HPD:Hid (¬p.d=n.n):=by
   have h:=(HT.2.1.2.2.2.2.2.1 _ _ HP.out).2.2.2.2;rw[HPH.out] at h;show¬_;rw[(fZ _).1 h];exact λe=>mf (HT.2.1.1.2.1 _ _ HN.out).1 e.symm
  have HV8:Hid (c1.vs.length<=8):=by have h:=HT1.2.1.2.2.1.1;show _<=_;omega
  have HV3:Hid (vl<=3):=by have h:=(HT.2.1.2.2.2.2.2.1 _ _ HP.out).2.2.2.1.1;show _<=_;omega
  have aw5:Hid (Sp c n p.zs c1 0):=Zl ⟨by rw[hpl];exact HRD.out,rfl⟩;obtain⟨L,hL⟩:∃L:Nat,L=(oA (plC c1 i p n.n) n.n c1.vs).length:=⟨_,rfl⟩;have HLL:=G hL;clear hL;have aqr:=@G _ @Ir;exact ng):p:=h
theorem X0(h:p:=by
 obtain⟨n0,n1,n2,n3,n4,n5,n6⟩:=cs7 Bn;go_wp2_with fail;clear k0 k1 k2 k3 k4 k5 p0 p1 p2 p3 p4 p5 n0 n1 n2 n3 n4 n5 n6;rename_i K0 hK0;refine Gu.wi aW rfl rfl rfl aW ?_;refine' Gu.Grow.stepC _ rfl ?_ ?_;rotate_left 1
 ·refine Obl.plain rfl ?_;intro ac wg K Zq hW hf hK;clear Zq;have e8:=hf 8 ag;simp[slotFact,Yg] at e8;clear hf;exact dE
 refine' Gu.Grow.stepC _ rfl ?_ ?_;rotate_left 1
 ·refine Obl.plain rfl ?_;intro ac wg K Zq hW hf hK;clear Zq;have e72:=hf 72 ag;simp[slotFact,Yg] at e72;clear hf;obtain⟨p0,p1,p2,p3,p4,p5⟩:=cs6 ((hW.block _ (ae Bp.out)).trans Bp.out);exact dE
 refine' Gu.Grow.stepC _ rfl ?_ ?_;rotate_left 1
 ·refine Obl.plain rfl ?_;intro ac wg K Zq hW hf hK;clear Zq;have e11:=hf 11 ag;simp[slotFact,Yg] at e11;clear hf;exact dE
 refine' Gu.Grow.stepC _ rfl ?_ ?_;rotate_left 1
 ·refine Obl.plain rfl ?_;intro ac wg K Zq hW hf hK;clear Zq;have e73:=hf 73 ag;simp[slotFact,Yg] at e73;have e74:=hf 74 ag;simp[slotFact,Yg] at e74;clear hf;exact dE
 refine' Gu.Grow.stepC _ rfl ?_ ?_;rotate_left 1
 ·refine Obl.plain rfl ?_;intro ac wg K Zq hW hf hK;clear Zq;have e75:=hf 75 ag;simp[slotFact,Yg] at e75;clear hf;have c0:wg.cell? ⟨bz,oz+k,J⟩=M (I t):=(hW.cell hbz).trans hcz;exact dE
 refine' Gu.Grow.stepC _ rfl ?_ ?_;rotate_left 1
 ·refine Obl.plain rfl ?_;intro ac wg K Zq hW hf hK;clear Zq;have e9:=hf 9 ag;simp[slotFact,Yg] at e9;clear hf;obtain⟨n0,n1,n2,n3,n4,n5,n6⟩:=cs7 ((hW.block _ (ae Bn.out)).trans Bn.out);exact dE
 refine Gu.Grow.done ?_;intro q wz hW hf;simp only[YL] at hf;obtain⟨h77,h76,h75,h74,h73,h72,-⟩:=hf;have HBZ:=G hW;have Bo6:=upK Bo hW;have ayn:=G (HOF.below hW);clear hW;intro K hK;rw[if_pos cF];simp only[aL,YQ,Y0,Yr,Yx,Yy,h77,h76,h75,h74,h73,h72];go_simp;have hC:=C8 c1 t n ua ul uc (λk=>q1.w.heap.size<=k/\¬k=w3.heap.size/\k<wr.heap.size) w3.heap.size x1 m1 f1 x2 m2 f2 q3 g3 z3 x4 m4 f4 x5 m5 f5 wz Bo6.out ayn.out (λk s=>⟨Yl s.2.2 HBZ.size,s.2.1⟩) HT1.out HHT.out HNZ.out;rw[HND.out] at hC;refine hC.mono ?_;clear hC;rintro e w5 ⟨c2,e0,rfl,hN,hA⟩;rcases hA with ⟨he0,hb⟩|⟨rfl,q4,g4,z4,hbo,hof,hkp⟩
 ·have HV:Hid (lF c i p n c e0):=Zk ⟨HAW.out,Zk ⟨HZO.out,Zk ⟨HCP.out,c2,e0,Zk ⟨k,c1,t,HRD.out,HX.out,hN,he0⟩,Zl ⟨he0,rfl⟩⟩⟩⟩;have hq:=HBZ.trans (hb.mono HBZ.size);have heb:(e0==0)=Zg:=by simpa using he0
  have HE0:=G he0;have Ρ:=upB HB hq;have Bk5:=upK Bk hq;have Br5:=upK Br hq;clear hN hb hq he0;have HB:=Ρ;have Bk:=Bk5;have Br:=Br5;refine hK _ _ ?_;clear hK K;intro K hK;rw[if_pos cF];go_simp;refine hK _ _ ?_;clear hK K;refine hK0 _ _ ?_;clear hK0 K0;have aqs:=@G _ @JI;exact nj
 have hnw:c2.now=c1.now:=(hN.right HT1.out HNZ.out).2.2.2.2.1;have hol:=ae Bo6.out;have Τ:=ν.size;have ayo:Hid (er c n p.zs (k+1) c2):=⟨c1,t,HRD.out,HX.out,hN⟩;have aw6:=G hbo;rw[<-hnw] at aw6;have ayp:=G ((HQB.trans (HBZ.mono HQB.size)).trans (hkp.low (X:=q1.w.heap.size) af (λk s=>by rcases s with s|s;exact s.1;omega)));have into:∀{a l cp m T rs},av w5 a l cp m T rs (λk=>(λk=>q1.w.heap.size<=k/\¬k=w3.heap.size/\k<wr.heap.size) k\/wz.heap.size<=k)->av w5 a l cp m T rs (λk=>q1.w.heap.size<=k/\¬k=w3.heap.size/\k<w5.heap.size):=λh=>h.bC (λk hk s=>by rcases s with s|s;exact⟨s.1,s.2.1,hk⟩;exact⟨by omega,by omega,hk⟩);have ayq:Hid (dw w5 ⟨x1,m1,f1,x2,m2,f2,q4,g4,z4,x4,m4,f4,x5,m5,f5⟩ c2.raw (λk=>q1.w.heap.size<=k/\¬k=w3.heap.size/\k<w5.heap.size)):=⟨into hof.n,into hof.k,into hof.v,into hof.x,into hof.p⟩;clear into hof hbo hkp hN hnw;refine hK _ _ ?_;clear hK K;intro K hK;rw[if_pos cF];go_simp;refine hK _ _ ?_;clear hK K;refine hK0 _ _ ?_;clear hK0 K0;go_wp2;exact⟨⟨k+1,c2,q4,g4,z4,by omega,by go_num,ayo.out,aw6.out,ayq.out,ayp.out⟩,by simp[intOf];omega⟩):p:=h
theorem W_(h:p:=by
 exact⟨⟨i+1,_,by omega,rfl,by go_num,HA.no HV.out HS.out,(q.b.block _ ZM).trans HG.out,HB.trans (q.b.mono HB.size)⟩,by simp[intOf];omega⟩):p:=h
theorem W7(h:p:=by
 exact⟨⟨i+1,_,by omega,rfl,by go_num,dA.first HN.out HV.out HS.out,(q.b.block _ ZM).trans HG.out,HB.trans (q.b.mono HB.size)⟩,by simp[intOf];omega⟩):p:=h
theorem W0(h:p:=by
 exact⟨⟨i+1,_,by omega,rfl,by go_num,dA.old HU.out HBU.out HV.out HX.out,(q.b.block _ ZM).trans HG.out,HB.trans (q.b.mono HB.size)⟩,by simp[intOf];omega⟩):p:=h
theorem WZ(h:p:=by
 exact⟨⟨i+1,_,by omega,rfl,by go_num,dA.new HBU.out HV.out HS.out HX.out,(q.b.block _ ZM).trans HG.out,HB.trans (q.b.mono HB.size)⟩,by simp[intOf];omega⟩):p:=h
theorem lS(h:p:=by
 repeat (go_big_quiet_step (first|(go_at_call 116;exact Calls.wide (HF.out _))|fail))
 refine wpQuiet_nil ?_;rintro _ ⟨q,rfl⟩;go_wp2_with fail;exact aqU):p:=h
theorem We(h:p:=by
 have ZZ:¬cap=k:=af
 all_goals (
  go_wp2_with (first|(at_builtin;refine aE rfl _ _ 35 rfl w.heap.size 9 i0 (I ⟨#[]⟩) 1 16 Tryz.underlying35 Y_.1 Y_.2.1 Y_.2.2.1 Y_.2.2.2 rfl ag _ _ _ rfl (ρ.out) _ k _ ((zs.take k).map Yn) rfl oY (λj u hu=>by rw[List.map_take] at hu;obtain⟨g9,o9,e,ZM,h3⟩:=HC.out j u (fJ hu);cases e <;> exact⟨_,rfl,by simp only[Ym];exact (ah (aj w _) ZM).trans h3⟩) (HON.out _) br af aF ?_))
  intro v5 w5 aa ZF
  replace aa:w5.ownsRow w.heap.size 9 1 v5 k ((zs.take k).map Yn):=eg
  have ZI:=(aj w (Ze #[] 9)).grown ZF aF (λg hg=>by simp[YK] at hg;omega);obtain⟨s1,s2,s3,rfl⟩:=az aa;have Β:=G aa;have H5:=G ZI;have hs5:=ZI.size;clear aa ZF ZI
  go_wp2_with (first|(at_builtin;refine aE rfl _ _ 35 rfl w.heap.size 9 i0 (I ⟨#[]⟩) 1 16 Tryz.underlying35 Y_.1 Y_.2.1 Y_.2.2.1 Y_.2.2.2 rfl ag _ _ _ rfl (Β.alloc _) _ 1 _ [I t] rfl rfl (λj u hu=>⟨_,rfl,by rw[Ym,Yp,al (heap_alloc_new w5 _)];simpa using hu⟩) dx br af bg ?_))
  intro v6 w6 Zt ZJ;have ZA:=(H5.alloc H5.size _).grown ZJ bg (λg hg=>(Β.lt g hg).1);obtain⟨r1,r2,r3,rfl⟩:=az Zt;have Η:=G Zt;have H6:=G ZA;have hs6:=ZA.size;clear Zt ZJ ZA
  go_wp2_with (first|(at_builtin;refine aE rfl _ _ 35 rfl w.heap.size 9 i0 (I ⟨#[]⟩) 1 16 Tryz.underlying35 Y_.1 Y_.2.1 Y_.2.2.1 Y_.2.2.2 rfl ag _ _ _ rfl (Η.out) _ (len - k) _ ((zs.drop k).map Yn) rfl oX (λj u hu=>by first|(rw[Yw af] at hu;simp at hu;done)|(rw[List.map_drop,YN] at hu;obtain⟨g9,o9,e,ZM,h3⟩:=HC.out _ u hu;cases e <;> exact⟨_,rfl,by simp only[Ym,Nat.add_assoc];exact (ah H6.out ZM).trans h3⟩)) (HON.out _) br af af ?_))
  intro v7 w7 Zb ZK;have Z0:=H6.grown ZK af (λg hg=>(Η.lt g hg).1)
  replace Zb:w7.ownsRow w.heap.size 9 1 v7 (len+1) ((zs.take k++[t]++zs.drop k).map Yn):=by
   have e9:k+1+(len - k)=len+1:=af
   try rw[e9] at Zb
   simpa using Zb
  obtain⟨a',p',rfl,hT⟩:=bG.fh Zb (HZS.out k);have HT7:=G hT;have HB7:=G Z0;clear Zb ZK Z0 hT hik Γ
  go_wp2
  go_ret
  exact⟨_,_,_,_,rfl,HT7.row,HP.out,HB7.out⟩)):p:=h
theorem VE(h:p:=by
 by_cases e:j=k
 ·subst e;rw[HX.out] at hz;obtain rfl:=Yd hz;exact λh=>h.1 H0.out
 ·exact HE.out j z af hz):p:=h
theorem VD(h:p:=by
 by_cases e:j=k
 ·subst e;rw[HX.out] at hz;obtain rfl:=Yd hz;exact λh=>h.2.1 H1.out
 ·exact HE.out j z af hz):p:=h
theorem zd(h:p:=by
 go_wp2;refine⟨⟨k+1,by omega,by go_num,λj z hj hz=>?_,HB.alloc HB.size _,(Yj _ _ _ ltk).trans Bk.out⟩,by simp[intOf];omega⟩;exact avk):p:=h
theorem Vt(h:p:=by
 have aqW:=@G _ @afe;exact me):p:=h
theorem Vs(h:p:=by
 have aqW:=@G _ @afd;exact me):p:=h
theorem y_(h:p:=by
 clear θ;cases hh:hit Vd.n c.vs (aC++x.n);rotate_left
 ·exact akV
 have HH:=G hh;clear hh;by_cases h8:l3<8;rotate_left
 ·exact akU
 have as2:=@G _ @Jk;exact tE):p:=h
theorem UC(h:p:=by
 clear Zc hx z0 z1 Zx;have hU:=yj n.n HPC.out;have hl8:=HL8.out;have hu0:=hU.1;have hu1:cpuOf n.n c.ps<=8000000:=by have:=hU.2;omega
 have hnc:=(HT.2.1.1.2.1 _ _ HXn.out).2.2.1;have aw1:=hnc.1;have aw2:=hnc.2;have HNZ:=G (HT.2.1.1.2.1 _ _ HXn.out).2.1;clear hU hnc;have k0:=al Bk.out 0;clear k0;have k0:=ck0 Bk;go_wp2_with fail;clear k0;have Gk:=Bk;have HW:=HB;obtain⟨k0,k1,k2,k3,k4,k5⟩:=sl6 Gk;have e0:=λq:Wd wr=>(q.cell hb).trans c0;have e2:=λq:Wd wr=>(q.cell hb).trans c2;have hne0:=Wd.ne wr;have Zv:=G (λq:Wd wr=>kI ⟨(M ⟨b,o,J⟩),l1,y1,a2,l2,y2,a3,l3,y3,a4,l4,y4,a5,l5,y5⟩ c.now c.ps n.n q.w (HR.p.below (HW.trans (q.b.mono HW.size))) HL8.out HPC.out);have Zw:=@G _ @agK;exact aB):p:=h
theorem Ut(h:p:=by
 obtain⟨aoq,Gg,Gn,Gv,HW⟩:=ah3;have apc:=@G _ @Ey;exact hE):p:=h
theorem Us(h:p:=by
 have aoq:(w1.alloc (Ze #[I v.n,V O v.c,I v.z,I v.k,Zf Zg,I v.m,Zf v.y,U va vl vc] 37)).heap.size=w1.heap.size+1:=aF
 have Gg:Hid ((w1.alloc (Ze #[I v.n,V O v.c,I v.z,I v.k,Zf Zg,I v.m,Zf v.y,U va vl vc] 37)).heap[b]?=M (Ze (Zd a1 l1 y1 a2 l2 y2 (M ⟨bv,ov,J⟩) l3 y3 a4 l4 y4 a5 l5 y5 c.now) 29 (0,0))):=(Yj _ _ _ (ae Bg.out)).trans (Bg.out);have Gn:Hid ((w1.alloc (Ze #[I v.n,V O v.c,I v.z,I v.k,Zf Zg,I v.m,Zf v.y,U va vl vc] 37)).heap[w.heap.size]?=M (Ze (nov n na nl nc) 81 (0,0))):=(Yj _ _ _ (ae Bn.out)).trans (Bn.out);have Gv:Hid ((w1.alloc (Ze #[I v.n,V O v.c,I v.z,I v.k,Zf Zg,I v.m,Zf v.y,U va vl vc] 37)).heap[w1.heap.size]?=M (Ze #[I v.n,V O v.c,I v.z,I v.k,Zf Zg,I v.m,Zf v.y,U va vl vc] 37 (0,0))):=Yf;have HW:Hid (Below w.heap.size w (w1.alloc (Ze #[I v.n,V O v.c,I v.z,I v.k,Zf Zg,I v.m,Zf v.y,U va vl vc] 37))):=(HB.trans ((aj _ _).mono HB.size));have apc:=@G _ @Ew;exact hE):p:=h
theorem Ur(h:p:=by
 have aoq:(w1.alloc (Ze #[I v.n,V O v.c,I v.z,I v.k,Zf Zi,I v.m,Zf v.y,U va vl vc] 37)).heap.size=w1.heap.size+1:=aF
 have Gg:Hid ((w1.alloc (Ze #[I v.n,V O v.c,I v.z,I v.k,Zf Zi,I v.m,Zf v.y,U va vl vc] 37)).heap[b]?=M (Ze (Zd a1 l1 y1 a2 l2 y2 (M ⟨bv,ov,J⟩) l3 y3 a4 l4 y4 a5 l5 y5 c.now) 29 (0,0))):=(Yj _ _ _ (ae Bg.out)).trans (Bg.out);have Gn:Hid ((w1.alloc (Ze #[I v.n,V O v.c,I v.z,I v.k,Zf Zi,I v.m,Zf v.y,U va vl vc] 37)).heap[w.heap.size]?=M (Ze (nov n na nl nc) 81 (0,0))):=(Yj _ _ _ (ae Bn.out)).trans (Bn.out);have Gv:Hid ((w1.alloc (Ze #[I v.n,V O v.c,I v.z,I v.k,Zf Zi,I v.m,Zf v.y,U va vl vc] 37)).heap[w1.heap.size]?=M (Ze #[I v.n,V O v.c,I v.z,I v.k,Zf Zi,I v.m,Zf v.y,U va vl vc] 37 (0,0))):=Yf;have HW:Hid (Below w.heap.size w (w1.alloc (Ze #[I v.n,V O v.c,I v.z,I v.k,Zf Zi,I v.m,Zf v.y,U va vl vc] 37))):=(HB.trans ((aj _ _).mono HB.size));have apc:=@G _ @Ev;exact hE):p:=h
theorem Uq(h:p:=by
 have aoq:(w1.alloc (Ze #[I v.n,V O v.c,I v.z,I v.k,Zf Zi,I v.m,Zf v.y,U va 0 vc] 37)).heap.size=w1.heap.size+1:=aF
 have Gg:Hid ((w1.alloc (Ze #[I v.n,V O v.c,I v.z,I v.k,Zf Zi,I v.m,Zf v.y,U va 0 vc] 37)).heap[b]?=M (Ze (Zd a1 l1 y1 a2 l2 y2 (M ⟨bv,ov,J⟩) l3 y3 a4 l4 y4 a5 l5 y5 c.now) 29 (0,0))):=(Yj _ _ _ (ae Bg.out)).trans (Bg.out);have Gn:Hid ((w1.alloc (Ze #[I v.n,V O v.c,I v.z,I v.k,Zf Zi,I v.m,Zf v.y,U va 0 vc] 37)).heap[w.heap.size]?=M (Ze (nov n na nl nc) 81 (0,0))):=(Yj _ _ _ (ae Bn.out)).trans (Bn.out);have Gv:Hid ((w1.alloc (Ze #[I v.n,V O v.c,I v.z,I v.k,Zf Zi,I v.m,Zf v.y,U va 0 vc] 37)).heap[w1.heap.size]?=M (Ze #[I v.n,V O v.c,I v.z,I v.k,Zf Zi,I v.m,Zf v.y,U va 0 vc] 37 (0,0))):=Yf;have HW:Hid (Below w.heap.size w (w1.alloc (Ze #[I v.n,V O v.c,I v.z,I v.k,Zf Zi,I v.m,Zf v.y,U va 0 vc] 37))):=(HB.trans ((aj _ _).mono HB.size));have apc:=@G _ @Eu;exact hE):p:=h
theorem Up(h:p:=by
 obtain⟨aoq,Gg,Gn,Gv,HW⟩:=ah3;have apc:=@G _ @Et;exact hE):p:=h
theorem jM(h:p:=by
 obtain⟨g0,g1,g2,g3,g4,g5⟩:=cs6 Bg;obtain⟨n0,n1,n2,n3,n4,n5,n6⟩:=cs7 Bn;have aoh:=ae Bn.out;go_wp2_with fail;clear g0 g1 g2 g3 g4 g5 n0 n1 n2 n3 n4 n5 n6 aoh;exact apT):p:=h
theorem S8(h:p:=by
 obtain⟨HB,Bk⟩:=fB;have Bp:=upK Gp q1.b;have HL2:=G ((HL2.out).below q1.b);clear hne0 k0 k1 k2 k3 k4 k5 p0 p1 p2 p3 p4 p5 tc hb hc;have hv:=HVJ.out;have hj3:j<l3:=by have:=(Yc.1 hv).1;omega
 have hj1:(0:Int)<=j:=af
 have hj2:(j:Int)<l3:=af
 obtain⟨b3,o3,y,rfl,Zy,hy,Zc⟩:=bY (HR.v.below HB.out) hj3;rw[hv] at hy;obtain rfl:=Yd hy;obtain⟨ya,yl,yc,-,ZO,-,-,-,hc0,-,-,-,-,-,-,-⟩:=bm Zc;clear hv hy Zc;have apn:=@G _ @X6;exact iL):p:=h
theorem S7(h:p:=by
 obtain⟨HB,Bk⟩:=fB;have Bp:=upK Gp q1.b;have HL2:=G ((HL2.out).below q1.b);clear hne0 k0 k1 k2 k3 k4 k5 p0 p1 p2 p3 p4 p5 tc hb hc;have apn:=@G _ @X5;exact iL):p:=h
theorem S4(h:p:=by
 refine (jG l3 8 h8 _).mono ?_;rintro e w6 ⟨rfl,ZA⟩;exact hK _ _ ZA rfl):p:=h
theorem S3(h:p:=by
 refine (fq l3 8 _).mono ?_;rintro e w6 ⟨rfl,ZA⟩;exact hK _ _ ZA rfl):p:=h
theorem S2(h:p:=by
 refine (f_ l3 8 af _).mono ?_;rintro e w6 ⟨rfl,ZA⟩;exact hK _ _ ZA rfl):p:=h
theorem pW(h:p:=by
 refine Obl.plain rfl ?_;intro ac wg K Zq hW hf hK;clear Zq;have e97:=hf 97 ag;simp[slotFact,Yg] at e97;have as5:=hf 102 ag;simp[slotFact,Yg] at as5;clear hf;go_simp;exact asR):p:=h
theorem SP(h:p:=by
 clear Zc hx z0 z2 z3 z5 Zx;have δ:=hb;clear hb;have hk3:(m2:Int)<l3:=af
 have HL2:Hid (Bw wr wr):=Bw.refl _;obtain⟨k0,k1,k2,k3,k4,k5⟩:=cs6 Bk;go_wp2_with fail;refine (bZ va vl vc x.zs t _ HTx.out).mono ?_;rintro e w1 ⟨r,rfl,hh,ZG⟩;have hc0:=(ah ZG δ).trans c0;clear c0 c1 c2 c3 c4 c5 c6 c7 δ;clear k0 k1 k2 k3 k4 k5;replace Bk:=upK Bk ZG;replace HL2:=G (HL2.below ZG);replace HB:=upB HB ZG;clear ZG;cases r
 ·have HHN:Hid (¬InL x.zs t):=λh=>(by have h9:=hh.2 h;cases h9);clear hh;obtain⟨k0,k1,k2,k3,k4,k5⟩:=cs6 Bk;go_wp2;refine⟨⟨m2+1,ca,cl,cc,ys,by omega,by go_num,rfl,⟨HQ.1.below HL2.out,HQ.2.1,λs=>?_,by omega⟩,HL.trans (HL2.out.mono HL.size)⟩,by simp[intOf];omega⟩;rw[HQ.2.2.1,VBs.no HXx.out HHN.out]
 have HHN:Hid (InL x.zs t):=hh.1 bU;clear hh;obtain⟨k0,k1,k2,k3,k4,k5⟩:=cs6 Bk;go_wp2_with fail;refine (oJ ca cl cc ys x.n _ (HQ.1.below HL2.out) af anh.out).mono ?_;rintro e w2 ⟨sa,sl,sc,zs2,rfl,htx,ao8,ZG⟩;clear k0 k1 k2 k3 k4 k5;replace Bk:=upK Bk ZG;replace HL2:=G (HL2.below ZG);replace HB:=upB HB ZG;clear ZG;have HTX:=G htx;have HPU:=G ao8;clear htx ao8 hc0;obtain⟨k0,k1,k2,k3,k4,k5⟩:=cs6 Bk;go_wp2;refine⟨⟨m2+1,sa,sl,sc,zs2,by omega,by go_num,rfl,⟨HTX.out,HPU.ris HQ.2.1,λs=>?_,by have h9:=HPU.len;omega⟩,HL.trans (HL2.out.mono HL.size)⟩,by simp[intOf];omega⟩;rw[HPU.mem,HQ.2.2.1,VBs.yes HXx.out HHN.out,or_assoc]):p:=h
theorem SI(h:p:=by
 obtain⟨h9,h27,h26,h25,h24,h23,h22,h21,-⟩:=hf;obtain⟨r,hv9,aw7⟩:=h9;obtain⟨r2,ayr,-⟩:=h27;have HWZ:=G hW;clear hW;refine hK0 _ _ ?_;simp only[aL,YQ,Y0,Yr,Yx,Yy,h26,h25,h24,h23,h22,h21,hv9,ayr];clear hK0;have Bc2:=upK BcW HWZ.out;have Bx2:=upK BxW HWZ.out;have ZX:=G (ZH.trans (HWZ.mono ZH.size));have hw2:w.heap.size+1<=wz.heap.size:=by have:=HWZ.size;omega
 rcases aw7 with ⟨rfl,as6⟩|⟨j,u,rfl,hjl,hju,as7⟩;rotate_left
 ·rw[List.take_length] at as7;have HJU:=G hju;have HSO:=G as7;have hj3:(j:Int)<l3:=af
  have hj0:¬(j:Int)<0:=af
  have hjr:(c.vs.map vdF)[j]?=M (vdF u):=by rw[Yt,hju];rfl
  have hir:(c.xs.map xdF)[i]?=M (xdF x):=by rw[Yt,HX.out];rfl
  have HJR:=G hjr;have HIR:=G hir;obtain⟨gv,azg,hgv,awj,azh,aw8⟩:=av.inn HO.v hjr;have as8:a3=M ⟨gv,0,J⟩:=hgv;subst as8;obtain⟨gx2,awc,awk,-,-,as9⟩:=av.inn HO.x hir;cases awk;have HVB:=G aw8;have HXB:=G as9;have hvb:¬gv=b:=(HS.out gv awj).2;have HVS:=G awj;have hxz:x.n.size<=9223372036854775807:=HZX.1;have huz:u.n.size<=9223372036854775807:=by have h1:=(HT.2.1.2.2.1.2.1 j u hju).1.2.1;omega
  clear hju as7 hjr hir hgv awj aw8 as9;go_wp2_with fail;rename_i K0 hK0;refine Gt.bS aW rfl rfl aW ?_;iterate 3 refine Grow.aK ?_
  refine Grow.aO Bc2.out ?_;iterate 2 refine Grow.aK ?_
  refine Grow.aO Bx2.out ?_;iterate 2 refine Grow.aK ?_
  have aom:=@G _ @DY;exact fc
 rw[List.take_length] at as6;have HNO:=G as6;have hkr:(c.ks.map kdF)[jk]?=M (kdF kc):=by rw[Yt,HK.1];rfl
 have hir:(c.xs.map xdF)[i]?=M (xdF x):=by rw[Yt,HX.out];rfl
 have HIR:=G hir;have hjk:jk<l2:=by have:=(Yc.1 HK.1).1;omega
 have hj2:(jk:Int)<l2:=af
 have hj0:¬(jk:Int)<0:=af
 obtain⟨gk,azi,hgk,-,ays,-⟩:=av.inn HO.k hkr;have ayt:a2=M ⟨gk,0,J⟩:=hgk;subst ayt;obtain⟨gx2,awc,awk,-,-,as9⟩:=av.inn HO.x hir;cases awk;have HXB:=G as9;obtain⟨b2,o2,y',e2,ZG,hx2,Zc⟩:=gR HO.k.row hjk;cases e2;rw[HK.1] at hx2;obtain rfl:=Yd hx2;obtain⟨zk0,zk3,d0,d1,d2,d3⟩:=dh Zc;rw[Yp] at d0 d1 d2 d3;have HKC:=G (Yb d0 (Yb d1 (Yb d2 d3)));have HRK:=G HO.k.row;have HGK:=G ays;clear as6 hkr hir hgk as9 Zc hx2 ZG zk0 zk3 d0 d1 d2 d3;go_wp2_with fail;rename_i K0 hK0;refine bS aW rfl rfl aW ?_;iterate 3 refine Grow.aK ?_
 refine Grow.aO Bc2.out ?_;iterate 2 refine Grow.aK ?_
 refine Grow.aO Bc2.out ?_;refine Grow.aK ?_;refine Grow.aO Bx2.out ?_;refine Grow.step (λv _=>v=V O jk) rfl (Fact.dq _) ?_ ?_
 ·refine Obl.plain rfl ?_;intro ac wg K Zq hW hf hK;clear Zq;have e68:=hf 68 ag;simp[slotFact,Yg] at e68;have e70:=hf 70 ag;simp[slotFact,Yg] at e70;clear hf;go_simp;refine (eB ⟨a1,l1,y1,M ⟨gk,0,J⟩,l2,y2,a3,l3,y3,M ⟨gx,0,J⟩,l4,y4,a5,l5,y5⟩ c.now c.ks x.k _ (HRK.below (ZX.trans (hW.mono ZX.size))) HT.2.1.2.1.2.2 HK.1 HK.2).mono ?_;rintro e w6 ⟨rfl,ZA⟩;exact hK _ _ ZA rfl
 refine Grow.aK ?_;refine' Grow.stepC _ rfl ?_ ?_;rotate_left 1
 ·refine Obl.plain rfl ?_;intro ac wg K Zq hW hf hK;clear Zq;have e72:=hf 72 ag;simp[slotFact,Yg] at e72;clear hf;obtain⟨d0,d1,d2,d3⟩:=HKC.out;have hbg:=ZX.trans (hW.mono ZX.size);replace d0:=(ah hbg HGK.out).trans d0;replace d1:=(ah hbg HGK.out).trans d1;replace d2:=(ah hbg HGK.out).trans d2;replace d3:=(ah hbg HGK.out).trans d3;exact dE
 refine Grow.step (ahr wz.heap.size) rfl (ahr.mono _) ?_ ?_
 ·exact lx
 have aom:=@G _ @DZ;exact fc):p:=h
theorem SH(h:p:=by
 obtain⟨h93,-⟩:=hf;have hb:=hW;refine hK0 _ _ ?_;simp only[aL,YQ,Y0,Yr,Yx,Yy,h93];clear hK0;have apF:=G (HOF.below hb);replace Bk:=upK Bk hb;replace Br:=upK Br hb;replace Bp:=upK Bp hb;replace Bn:=upK Bn hb;replace Bo:=upK Bo hb;replace HB:=upB HB hb;clear hb;by_cases hs:n.s<(L:Int)
 ·have hsb:decide (n.s<(L:Int))=Zi:=by simpa using hs
  have HSH:Hid (rq c1 i p n):=by show n.s<_;rw[<-HLL.out];exact hs
  have aqs:=@G _ @JH;exact nj
 have hsb:decide (n.s<(L:Int))=Zg:=by simpa using hs
 have HSH:Hid (¬rq c1 i p n):=by show¬n.s<_;rw[<-HLL.out];exact hs
 obtain⟨g,hga,hS⟩:=apF.p.st (aJ.refl _ wz) (i:=i) (r:=pdF p) (show (c1.ps.map pdF)[i]?=M (pdF p) by rw[Yt,HP1.out];rfl);have aqt:x5=M ⟨g,0,J⟩:=hga;subst aqt;have hgS:=(by obtain⟨⟨cur,H,h1,_⟩,_⟩:=hS;exact⟨h1.inS,ae h1.blk⟩:(λk=>q1.w.heap.size<=k/\¬k=w3.heap.size/\k<wr.heap.size) g/\g<wz.heap.size);obtain⟨⟨hg1,hg2,-⟩,hg3⟩:=hgS;obtain⟨v4,hv4⟩:=hS.cell (i:=4) rfl;obtain⟨v5,hv5⟩:=hS.cell (i:=5) rfl;have hf4:=hS.oy (i*6+4);have hf5:=hS.oy (i*6+5);have hi6:(i:Int)<m5:=by have h6:(c1.ps.map pdF).length=m5:=apF.p.1;rw[Yq] at h6;have h7:=(Yc.1 HP1.out).1;omega
 have HST:=G hS;have hqn:=ae Qn.out;have hqo:=ν.size;have av1:¬w3.heap.size=g:=λe=>hg2 e.symm;have ayu:¬g=w.heap.size+1:=af
 have ayv:¬w.heap.size+1=g:=af
 obtain⟨auc,aud⟩:=OL;have azj:¬w.heap.size+1+1+1=g:=af
 clear hS hga;obtain⟨r0,r1,r2,r3,r4,r5⟩:=cs6 Br;obtain⟨n0,n1,n2,n3,n4,n5,n6⟩:=cs7 Bn;obtain⟨o0,o1,o2,o3,o4,o5⟩:=cs6 Bo;obtain⟨ZR,ZS,ZT,ZU,ZV⟩:=nM;have ZY:=ak Br.out 5;go_wp2;refine bodyPost_ret (v:=Zn #[Zj #[U x1 m1 f1,U x2 m2 f2,U q3 g3 z3,U x4 m4 f4,U (M ⟨g,0,J⟩) m5 f5,V O c1.now],V O 0]) ln rfl ⟨⟨x1,m1,f1,x2,m2,f2,q3,g3,z3,x4,m4,f4,(M ⟨g,0,J⟩),m5,f5⟩,plC c1 i p n.n,0,rfl,Zk ⟨HPH.out,Zk ⟨HAW.out,Zk ⟨HZO.out,Zk ⟨HCP.out,c1,0,aw5.out,Zk ⟨rfl,Zk ⟨HSH.out,rfl,rfl⟩⟩⟩⟩⟩⟩,λ_=>?_,sb1 (sb1 (sb1 (sb1 (sb1 (sb1 (ai (show w.heap.size<=g by omega) (ai (show w.heap.size<=g by omega) HB.out)))))))⟩;have hk2:∀k,q1.w.heap.size<=k->((((((((wz.setCell ⟨g,i*6+4,J⟩ (I n.n)).setCell ⟨g,i*6+5,J⟩ (V O 1)).setCell ⟨w.heap.size+1,0,J⟩ (U x1 m1 f1)).setCell ⟨w.heap.size+1,1,J⟩ (U x2 m2 f2)).setCell ⟨w.heap.size+1,2,J⟩ (U q3 g3 z3)).setCell ⟨w.heap.size+1,3,J⟩ (U x4 m4 f4)).setCell ⟨w.heap.size+1,4,J⟩ (U (M ⟨g,0,J⟩) m5 f5)).setCell ⟨w.heap.size+1,5,J⟩ (V O c1.now)).heap[k]?=((wz.setCell ⟨g,i*6+4,J⟩ (I n.n)).setCell ⟨g,i*6+5,J⟩ (V O 1)).heap[k]?:=λk h1=>by rw[Ya _ _ _ _ (show k≠w.heap.size+1 by omega),Ya _ _ _ _ (show k≠w.heap.size+1 by omega),Ya _ _ _ _ (show k≠w.heap.size+1 by omega),Ya _ _ _ _ (show k≠w.heap.size+1 by omega),Ya _ _ _ _ (show k≠w.heap.size+1 by omega),Ya _ _ _ _ (show k≠w.heap.size+1 by omega)]
 have hk3:∀k,q1.w.heap.size<=k->¬k=g->((((((((wz.setCell ⟨g,i*6+4,J⟩ (I n.n)).setCell ⟨g,i*6+5,J⟩ (V O 1)).setCell ⟨w.heap.size+1,0,J⟩ (U x1 m1 f1)).setCell ⟨w.heap.size+1,1,J⟩ (U x2 m2 f2)).setCell ⟨w.heap.size+1,2,J⟩ (U q3 g3 z3)).setCell ⟨w.heap.size+1,3,J⟩ (U x4 m4 f4)).setCell ⟨w.heap.size+1,4,J⟩ (U (M ⟨g,0,J⟩) m5 f5)).setCell ⟨w.heap.size+1,5,J⟩ (V O c1.now)).heap[k]?=wz.heap[k]?:=λk h1 h3=>by rw[hk2 k h1,Ya _ _ _ _ h3,Ya _ _ _ _ h3]
 obtain⟨⟨cur,H,hbk,_⟩,_⟩:=HST.out;have h2:=(HST.SC (i:=4) rfl n.n (by have h9:=(HT.2.1.1.2.1 _ _ HN.out).1.2.1;omega)).BP (i:=5) rfl 1;obtain⟨⟨aod,H2,h3,_⟩,_,_⟩:=h2;have hps:(plC c1 i p n.n).raw.p=(c1.ps.map pdF).set i (pdF (onP p n.n)):=by
  show (c1.ps.set i (onP p n.n)).map pdF=_;rw[List.map_set]
 refine⟨?_,?_,?_,?_,?_⟩
 ·exact (apF.n.dZ hbk.blk ag ag).ay (w':=((((((((wz.setCell ⟨g,i*6+4,J⟩ (I n.n)).setCell ⟨g,i*6+5,J⟩ (V O 1)).setCell ⟨w.heap.size+1,0,J⟩ (U x1 m1 f1)).setCell ⟨w.heap.size+1,1,J⟩ (U x2 m2 f2)).setCell ⟨w.heap.size+1,2,J⟩ (U q3 g3 z3)).setCell ⟨w.heap.size+1,3,J⟩ (U x4 m4 f4)).setCell ⟨w.heap.size+1,4,J⟩ (U (M ⟨g,0,J⟩) m5 f5)).setCell ⟨w.heap.size+1,5,J⟩ (V O c1.now))) (S':=λk=>w.heap.size<=k) (λk hk s=>hk3 k s.1.1 s.2) (λk _ s=>by have s1:=s.1.1;show w.heap.size<=k;omega)
 ·exact (apF.k.dZ hbk.blk ag ag).ay (w':=((((((((wz.setCell ⟨g,i*6+4,J⟩ (I n.n)).setCell ⟨g,i*6+5,J⟩ (V O 1)).setCell ⟨w.heap.size+1,0,J⟩ (U x1 m1 f1)).setCell ⟨w.heap.size+1,1,J⟩ (U x2 m2 f2)).setCell ⟨w.heap.size+1,2,J⟩ (U q3 g3 z3)).setCell ⟨w.heap.size+1,3,J⟩ (U x4 m4 f4)).setCell ⟨w.heap.size+1,4,J⟩ (U (M ⟨g,0,J⟩) m5 f5)).setCell ⟨w.heap.size+1,5,J⟩ (V O c1.now))) (S':=λk=>w.heap.size<=k) (λk hk s=>hk3 k s.1.1 s.2) (λk _ s=>by have s1:=s.1.1;show w.heap.size<=k;omega)
 ·exact (apF.v.dZ hbk.blk ag ag).ay (w':=((((((((wz.setCell ⟨g,i*6+4,J⟩ (I n.n)).setCell ⟨g,i*6+5,J⟩ (V O 1)).setCell ⟨w.heap.size+1,0,J⟩ (U x1 m1 f1)).setCell ⟨w.heap.size+1,1,J⟩ (U x2 m2 f2)).setCell ⟨w.heap.size+1,2,J⟩ (U q3 g3 z3)).setCell ⟨w.heap.size+1,3,J⟩ (U x4 m4 f4)).setCell ⟨w.heap.size+1,4,J⟩ (U (M ⟨g,0,J⟩) m5 f5)).setCell ⟨w.heap.size+1,5,J⟩ (V O c1.now))) (S':=λk=>w.heap.size<=k) (λk hk s=>hk3 k s.1.1 s.2) (λk _ s=>by have s1:=s.1.1;show w.heap.size<=k;omega)
 ·exact (apF.x.dZ hbk.blk ag ag).ay (w':=((((((((wz.setCell ⟨g,i*6+4,J⟩ (I n.n)).setCell ⟨g,i*6+5,J⟩ (V O 1)).setCell ⟨w.heap.size+1,0,J⟩ (U x1 m1 f1)).setCell ⟨w.heap.size+1,1,J⟩ (U x2 m2 f2)).setCell ⟨w.heap.size+1,2,J⟩ (U q3 g3 z3)).setCell ⟨w.heap.size+1,3,J⟩ (U x4 m4 f4)).setCell ⟨w.heap.size+1,4,J⟩ (U (M ⟨g,0,J⟩) m5 f5)).setCell ⟨w.heap.size+1,5,J⟩ (V O c1.now))) (S':=λk=>w.heap.size<=k) (λk hk s=>hk3 k s.1.1 s.2) (λk _ s=>by have s1:=s.1.1;show w.heap.size<=k;omega)
 ·have hR:av ((wz.setCell ⟨g,i*6+4,J⟩ (I n.n)).setCell ⟨g,i*6+5,J⟩ (V O 1)) (M ⟨g,0,J⟩) m5 f5 6 102 (plC c1 i p n.n).raw.p (λk=>q1.w.heap.size<=k/\¬k=w3.heap.size/\k<wr.heap.size):=by
   rw[hps];exact⟨by rw[List.length_set];exact apF.p.1,apF.p.2.1,apF.p.2.2.1,Zk ⟨g,aod,H2,rfl,h3⟩⟩
  exact hR.ay (w':=((((((((wz.setCell ⟨g,i*6+4,J⟩ (I n.n)).setCell ⟨g,i*6+5,J⟩ (V O 1)).setCell ⟨w.heap.size+1,0,J⟩ (U x1 m1 f1)).setCell ⟨w.heap.size+1,1,J⟩ (U x2 m2 f2)).setCell ⟨w.heap.size+1,2,J⟩ (U q3 g3 z3)).setCell ⟨w.heap.size+1,3,J⟩ (U x4 m4 f4)).setCell ⟨w.heap.size+1,4,J⟩ (U (M ⟨g,0,J⟩) m5 f5)).setCell ⟨w.heap.size+1,5,J⟩ (V O c1.now))) (S':=λk=>w.heap.size<=k) (λk hk s=>hk2 k s.1) (λk _ s=>by have s1:=s.1;show w.heap.size<=k;omega)):p:=h
theorem Om(h:p:=by
 clear hCP hcp aw1 aw2 hu0 hu1;obtain⟨k0,k1,k2,k3,k4,k5⟩:=cs6 Bk;go_wp2_with fail;have Qk:=Bk;have Qr:=Br;have Qp:=Bp;have Qn:=Bn;have HBQ:=HB;have as_:=@G _ @IJ;exact tm):p:=h
theorem Ol(h:p:=by
 have aqs:=@G _ @JG;exact nj):p:=h
theorem uM(h:p:=by
 have asV:=@G _ @Ib;exact sZ):p:=h
theorem Oj(h:p:=by
 have Zv:=G (λq:Wd wr=>oO ⟨a1,l1,y1,a2,l2,y2,a3,l3,y3,a4,l4,y4,a5,l5,y5⟩ c t q.w (HR.below (HW.trans (q.b.mono HW.size))) HT.out HVJ.out HBD.out);have Zw:=@G _ @ajc;exact aB):p:=h
theorem Oi(h:p:=by
 have Zv:=G (λq:Wd wr=>rY ⟨a1,l1,y1,a2,l2,y2,a3,l3,y3,a4,l4,y4,a5,l5,y5⟩ c t q.w (HR.below (HW.trans (q.b.mono HW.size))) HT.out HNO.out);have Zw:=@G _ @ajb;exact aB):p:=h
theorem uL(h:p:=by
 have aoz:=@G _ @Jf;exact fQ):p:=h
theorem N8(h:p:=by
 have Ξ:(¬p=0/\∃i,we c t i/\p=aZ i)\/(p=0/\¬8000<t.size/\au c):=by
  exact QJ
 clear hp;rcases Ξ with ⟨Ξ,hV⟩|⟨rfl,hl,hT⟩
 ·have hp1:(p==0)=Zg:=iZ
  have HV:=G hV;clear hV;obtain⟨k0,k1,k2,k3,k4,k5⟩:=cs6 Bk;go_wp2;exact bodyPost_ret (v:=Zn #[V O 0,V O 0,V O p]) uR rfl ⟨⟨_,_,_,rfl,Zl ⟨Ξ,HV.out⟩⟩,HB.out⟩
 have HT:=G hT;have HLL:=G hl;clear hT hl;obtain⟨k0,k1,k2,k3,k4,k5⟩:=cs6 Bk;go_wp2_with fail;have aqu:=@G _ @FY;exact mV):p:=h
theorem N1(h:p:=by
 have anh:=G z0;clear Zc hx z0 z2 z4 Zx;have δ:=hb;clear hb;have Ο:(k:Int)<l5:=af
 have HL2:Hid (Bw wr wr):=Bw.refl _;by_cases he:x.d=t
 ·have hq:=aP he;have HHE:=G he;clear he;obtain⟨k0,k1,k2,k3,k4,k5⟩:=cs6 Bk;go_wp2_with fail;have hv3:vl<=3:=by have h9:(x.zs.length:Int)<=3:=(HT.2.1.2.2.2.2.2.1 k x HXx.out).2.2.2.1.1;have h8:x.zs.length=vl:=HTx.1;omega
  have HCS:=G (Yb c0 (Yb c1 (Yb c2 (Yb c3 (Yb c4 c5)))));have ZH:=G δ;clear c0 c1 c2 c3 c4 c5 δ;clear k0 k1 k2 k3 k4 k5;have ang:=@G _ @Ko;exact dC
 have hq:=bu he;have HHE:=G he;clear he;obtain⟨k0,k1,k2,k3,k4,k5⟩:=cs6 Bk;go_wp2;refine⟨⟨k+1,ca,cl,cc,ys,by omega,by go_num,rfl,⟨HQ.1,HQ.2.1,λs=>?_,by omega⟩,HL.out⟩,by simp[intOf];omega⟩;rw[HQ.2.2.1,PBs.no HXx.out HHE.out]):p:=h
theorem NH(h:p:=by
 clear k0 k1 k2 k3 k4 k5 hfz;have hnb:∀k,(S k\/w.heap.size<=k)->¬k=b:=λk h=>by
  rcases h with h|h
  ·exact (HS.out k h).2
  ·omega
 obtain⟨kp,f1,f2,f4,f5,f3,hB8⟩:=amg;exact avl):p:=h
theorem Np(h:p:=by
 have hZ3:kc.z.size<=9223372036854775807:=by have h1:=HZN.2.1;omega
 have ata:=@G _ @Fk;exact sJ):p:=h
theorem No(h:p:=by
 have hZ3:t.size<=9223372036854775807:=by have h1:=HZN.2.1;omega
 have ata:=@G _ @Fj;exact sJ):p:=h
theorem uC(h:p:=by
 have Bc6:=upK BcW HWY.out;have Bv6:=upK BvW HWY.out;have HB6:=G (ZH.trans (HWY.mono ZH.size));have hw6:w5.heap.size<wy.heap.size:=ae Bv6.out;go_wp2_with fail;obtain⟨hxo,hZ1,hZ2,hZ0⟩:=al6;exact asX):p:=h
theorem MW(h:p:=by
 refine (iD ⟨a1,l1,y1,M ⟨gk,0,J⟩,l2,y2,a3,l3,y3,M ⟨gx,0,J⟩,l4,y4,a5,l5,y5⟩ c.now c.vs (aC++x.n) _ (HO.v.row.below (ZH.trans (hW.mono ZH.size))) (λj9 v9 h9 e9=>by have h7:=(bj HT.2.1.2.2.1.2.2 h9 e9).2;rw[HH.out] at h7;cases h7)).mono ?_;rintro e w6 ⟨rfl,ZA⟩;exact hK _ _ ZA rfl):p:=h
theorem MV(h:p:=by
 refine (eA ⟨a1,l1,y1,M ⟨gk,0,J⟩,l2,y2,a3,l3,y3,M ⟨gx,0,J⟩,l4,y4,a5,l5,y5⟩ c.now c.vs (aC++x.n) _ (HO.v.row.below (ZH.trans (hW.mono ZH.size))) HT.2.1.2.2.1.2.2 HU.1 HU.2).mono ?_;rintro e w6 ⟨rfl,ZA⟩;exact hK _ _ ZA rfl):p:=h
theorem uy(h:p:=by
 refine Obl.plain rfl ?_;intro ac wg K Zq hW hf hK;clear Zq;have e93:=hf 93 ag;simp[slotFact,Yg] at e93;have e95:=hf 95 ag;simp[slotFact,Yg] at e95;clear hf;go_simp;exact asS):p:=h
theorem Mw(h:p:=by
 have Zw:=@G _ @ai7;exact aB):p:=h
theorem Mv(h:p:=by
 have Zw:=@G _ @ai6;exact aB):p:=h
theorem uo(h:p:=by
 obtain⟨Gk,Gr,Gp,Gn,HW⟩:=anx;obtain⟨k0,k1,k2,k3,k4,k5⟩:=sl6 Gk;obtain⟨p0,p1,p2,p3,p4,p5⟩:=sl6 Gp;obtain⟨n0,n1,n2,n3,n4,n5,n6⟩:=sl7 Gn;obtain⟨hne0,Zv⟩:=aml;exact as0):p:=h
theorem L6(h:p:=by
 exact⟨c,0,rfl,⟨i,x,HX.1,HX.2,Zl ⟨j1,v,HV.1,HV.2,rfl,Zk (Zk ⟨HZ.out,(λh=>by have h9:=h.1;rw[HVX.out] at h9;cases h9),rfl⟩)⟩⟩,Zk ⟨rfl,M ⟨bv,ov,J⟩,l3,y3,Bg.out,⟨(HO.below HB.out).n.bC (λ_ _ s=>Zl s),(HO.below HB.out).k.bC (λ_ _ s=>Zl s),(HO.below HB.out).v.bC (λ_ _ s=>Zl s),(HO.below HB.out).x.bC (λ_ _ s=>Zl s),(HO.below HB.out).p.bC (λ_ _ s=>Zl s)⟩,aJ.dW HB.out⟩⟩):p:=h
theorem L5(h:p:=by
 exact⟨c,10,rfl,⟨i,x,HX.1,HX.2,Zl ⟨j1,v,HV.1,HV.2,rfl,Zk (Zl ⟨HZ.out,⟨HVX.out,Zk (by obtain⟨j9,p9,h1,h2,h3,h4⟩:=HEL.out;exact⟨j9,p9,h1,h2,h3,by rw[HM.out];exact h4⟩)⟩,rfl⟩)⟩⟩,Zl ⟨by decide,HB.out⟩⟩):p:=h
theorem L4(h:p:=by
 exact⟨c,0,rfl,⟨i,x,HX.1,HX.2,Zl ⟨j1,v,HV.1,HV.2,rfl,Zk (Zk ⟨HZ.out,λh=>h.2.elim (λ⟨j9,t9,h1,h2⟩=>(by have h9:=(Yc.1 h1).1;omega)) (λ⟨j9,p9,h1,h2,h3,h4⟩=>HEL.out ⟨j9,p9,h1,h2,h3,by rw[<-HM.out];exact h4⟩),rfl⟩)⟩⟩,Zk ⟨rfl,M ⟨bv,ov,J⟩,l3,y3,Bg.out,⟨(HO.below HB.out).n.bC (λ_ _ s=>Zl s),(HO.below HB.out).k.bC (λ_ _ s=>Zl s),(HO.below HB.out).v.bC (λ_ _ s=>Zl s),(HO.below HB.out).x.bC (λ_ _ s=>Zl s),(HO.below HB.out).p.bC (λ_ _ s=>Zl s)⟩,aJ.dW HB.out⟩⟩):p:=h
theorem nv(h:p:=by
 clear hne0 g0 g1 g2 g3 g4 g5 n0 n1 n2 n3 n4 n5 n6 v4 v7 aoq c0 c1 c2 c3 c4 c5 c6 c7 hbv hq;go_wp2;go_ret;exact aqq):p:=h
theorem LP(h:p:=by
 clear Zc Zx z0 z2 z4 hy hx c0 c1 c2 c3 c4;by_cases hp:x.p=0;rotate_left
 ·have hpb:(x.p==0)=Zg:=iY
  have HPH:=G hp;obtain⟨k0,k1,k2,k3,k4,k5⟩:=cs6 Bk;go_wp2;exact bodyPost_ret (v:=Zn #[V O 0,V O 0,V O 10]) uR rfl ⟨⟨_,_,_,rfl,Zl ⟨by decide,8,⟨HLL.out,HT.out,x,HXX.1,HXX.2,HPH.out⟩,rfl⟩⟩,HB.out⟩
 have hpb:(x.p==0)=Zi:=iY
 have HPH:=G hp;clear hp;obtain⟨k0,k1,k2,k3,k4,k5⟩:=cs6 Bk;go_wp2_with fail;clear c5;refine (wL ⟨a1,l1,y1,a2,l2,y2,a3,l3,y3,a4,l4,y4,(M ⟨b,o,J⟩),l5,y5⟩ c i x _ (HR.below HB.out) HT.out HXI.out HPH.out).mono ?_;rintro e w3 ⟨⟨r,rfl,hf⟩,hb⟩;have an1:=@G _ @Hl;exact dR):p:=h
theorem tZ(h:p:=by
 have hri:=HT.2.1.2.2.2.2.2.2;have hpl:=(bj hri hx hn).1;have HXX:Hid (c.ps[pl Pd.n c.ps t]?=M x/\x.n=t):=⟨by rw[hpl];exact hx,hn⟩;have HXI:=G hx;have HPL:=G hpl;clear hpl hri hn;have hi5:i<l5:=by have:=(Yc.1 hx).1;omega
 have hi0:¬(i:Int)<0:=af
 obtain⟨b,o,y,rfl,Z3,hy,Zc⟩:=db (HR.p.below HB.out) hi5;rw[HXI.out] at hy;obtain rfl:=Yd hy;obtain⟨va,vl,vc,Zx,z0,z2,z4,c0,c1,c2,c3,c4,c5⟩:=bK Zc;exact as3):p:=h
theorem K_(h:p:=by
 have aoD:=@G _ @abx;exact fx):p:=h
theorem K9(h:p:=by
 have as4:=@G _ @E8;exact sF):p:=h
theorem Ko(h:p:=by
 refine Grow.aO Bk.out ?_;iterate 2 refine Grow.aK ?_
 refine Grow.aO Bk.out ?_;refine Grow.aK ?_;refine' Grow.stepC _ rfl ?_ ?_;rotate_left 1
 ·refine Obl.plain rfl ?_;intro ac wg K Zq hW hf hK;clear Zq;have e27:=hf 27 ag;simp[slotFact,Yg] at e27;have e28:=hf 28 ag;simp[slotFact,Yg] at e28;clear hf;have Ο:(k:Int)<l5:=af
  exact dE
 refine' Grow.stepC _ rfl ?_ ?_;rotate_left 1
 ·refine Obl.plain rfl ?_;intro ac wg K Zq hW hf hK;clear Zq;have e29:=hf 29 ag;simp[slotFact,Yg] at e29;clear hf;obtain⟨d0,d1,d2,d3,d4,d5⟩:=HCS.out;replace d0:=(ah hW ZH.out).trans d0;replace d1:=(ah hW ZH.out).trans d1;replace d2:=(ah hW ZH.out).trans d2;replace d3:=(ah hW ZH.out).trans d3;replace d4:=(ah hW ZH.out).trans d4;replace d5:=(ah hW ZH.out).trans d5;exact dE
 refine Grow.step (AdF c ys x.zs) rfl (AdF.mono) ?_ ?_
 ·have atb:=@G _ @Fh;exact sI
 refine Grow.done ?_;intro q w1 hW hf;simp only[YL] at hf;obtain⟨⟨sa,sl,sc,zs2,h31,htx,aue,asW,hl2⟩,-⟩:=hf;have ZG:=hW;intro K hK;rw[if_pos cF];simp only[aL,YQ,Y0,Yr,Yx,Yy,h31];have amW:=@G _ @abk;exact cQ):p:=h
theorem JI(h:p:=by
 exact bodyPost_ret (v:=Zn #[Zj #[U (M ⟨bn,on,J⟩) l1 y1,U a2 l2 y2,U a3 l3 y3,U a4 l4 y4,U (M ⟨b,o,J⟩) l5 y5,V O c.now],V O e0]) ln rfl ⟨⟨(M ⟨bn,on,J⟩),l1,y1,a2,l2,y2,a3,l3,y3,a4,l4,y4,(M ⟨b,o,J⟩),l5,y5⟩,c,e0,rfl,Zk ⟨HPH.out,HV.out⟩,λh=>absurd h HE0.out,sb1 (sb1 (sb1 (sb1 (sb1 (sb1 (HB.out))))))⟩):p:=h
theorem JH(h:p:=by
 exact bodyPost_ret (v:=Zn #[Zj #[U (M ⟨bn,on,J⟩) l1 y1,U a2 l2 y2,U a3 l3 y3,U a4 l4 y4,U (M ⟨b,o,J⟩) l5 y5,V O c.now],V O 9]) ln rfl ⟨⟨(M ⟨bn,on,J⟩),l1,y1,a2,l2,y2,a3,l3,y3,a4,l4,y4,(M ⟨b,o,J⟩),l5,y5⟩,c,9,rfl,Zk ⟨HPH.out,Zk ⟨HAW.out,Zk ⟨HZO.out,Zk ⟨HCP.out,c1,0,aw5.out,Zk ⟨rfl,Zl ⟨HSH.out,rfl⟩⟩⟩⟩⟩⟩,λh=>absurd h ag,sb1 (sb1 (sb1 (sb1 (sb1 (sb1 (HB.out))))))⟩):p:=h
theorem JG(h:p:=by
 exact bodyPost_ret (v:=Zn #[Zj #[U (M ⟨bn,on,J⟩) l1 y1,U a2 l2 y2,U a3 l3 y3,U a4 l4 y4,U (M ⟨b,o,J⟩) l5 y5,V O c.now],V O 9]) ln rfl ⟨⟨(M ⟨bn,on,J⟩),l1,y1,a2,l2,y2,a3,l3,y3,a4,l4,y4,(M ⟨b,o,J⟩),l5,y5⟩,c,9,rfl,Zk ⟨HPH.out,Zk ⟨HAW.out,Zk ⟨HZO.out,Zl ⟨hCP,rfl⟩⟩⟩⟩,λh=>absurd h ag,sb1 (sb1 (sb1 (sb1 (sb1 (sb1 (HB.out))))))⟩):p:=h
theorem nj(h:p:=by
 obtain⟨k0,k1,k2,k3,k4,k5⟩:=cs6 Bk;obtain⟨r0,r1,r2,r3,r4,r5⟩:=cs6 Br;obtain⟨ZR,ZS,ZT,ZU,ZV⟩:=nM;have ZY:=ak Br.out 5;go_wp2;exact aqs):p:=h
theorem Jl(h:p:=by
 exact avh):p:=h
theorem Jk(h:p:=by
 refine Grow.step (λv _=>v=V O (-1)) rfl (Fact.dq _) ?_ ?_
 ·exact akT
 refine' Grow.stepC (Zf Zg) rfl ?_ ?_
 ·exact akR
 iterate 3 refine Grow.aK ?_
 refine Grow.aO BcW.out ?_;refine' Grow.stepC (V O l3) rfl ?_ ?_
 ·exact akS
 refine Grow.step (λv _=>v=V O 0) rfl (Fact.dq _) ?_ ?_
 ·exact akP
 exact avj):p:=h
theorem tE(h:p:=by
 rename_i K0 hK0;refine cB (back:=J) aW (List.append_nil _).symm aW ?_;iterate 2 refine Grow.aK ?_
 refine Grow.aO BcW.out ?_;refine Grow.aK ?_;refine Grow.aO BvW.out ?_;exact as2):p:=h
theorem Jh(h:p:=by
 go_wp2;go_ret;exact⟨_,_,_,ys,rfl,ν.1,ν.2.1,ν.2.2.1,by have:=ν.2.2.2;omega,HB.out⟩):p:=h
theorem Jg(h:p:=by
 go_wp2;refine⟨⟨k+1,sa,sl,sc,zs2,by omega,by go_num,rfl,⟨HTX.out,HPU.ris HQ.2.1,λs=>?_,by have h9:=HPU.len;omega⟩,HL.trans (HL2.out.mono HL.size)⟩,by simp[intOf];omega⟩;rw[HPU.mem,HQ.2.2.1,YM,HX.out,Option.toList_some];exact RY HT.2.1.2.2.2.1.2.2 HBD.out):p:=h
theorem Jf(h:p:=by
 go_wp2_with fail;clear k0 k1 k2 k3 k4 k5 p0 p1 p2 p3 p4 p5;have Gk:=Bk;have Gp:=Bp;have HW:=HB;obtain⟨k0,k1,k2,k3,k4,k5⟩:=sl6 Gk;obtain⟨p0,p1,p2,p3,p4,p5⟩:=sl6 Gp;have tc:=λq:Wd wr=>(q.cell hb).trans hc;have hne0:=Wd.ne wr;exact asZ):p:=h
theorem Jd(h:p:=by
 refine (mB a3 l3 y3 c.vs (mkV x kc.z) J 0 0 0 S (λ_=>False) _ (HO.v.below (HB6.trans (hW.mono HB6.size))) af (λq f hf=>?_) (λ_ _ h=>h)).mono ?_
 ·exact PR
 exact Pm):p:=h
theorem Jc(h:p:=by
 refine (mB a3 l3 y3 c.vs (mkV x t) J 0 0 0 S (λ_=>False) _ (HO.v.below (HB6.trans (hW.mono HB6.size))) af (λq f hf=>?_) (λ_ _ h=>h)).mono ?_
 ·exact PR
 exact Pm):p:=h
theorem tD(h:p:=by
 refine Obl.plain rfl ?_;intro ac wg K Zq hW hf hK;clear Zq;have awl:=hf 111 ag;simp[slotFact,Yg] at awl;have atc:=hf 112 ag;simp[slotFact,Yg] at atc;clear hf;go_simp;exact atd):p:=h
theorem IJ(h:p:=by
 have ν:=G hb;clear k0 k1 k2 k3 k4 k5;replace Bk:=upK Bk hb;replace Br:=upK Br hb;replace Bp:=upK Bp hb;replace Bn:=upK Bn hb;replace HB:=upB HB hb;clear hb;obtain⟨x1,m1,f1,x2,m2,f2,x3,m3,f3,x4,m4,f4,x5,m5,f5⟩:=d';have into:∀{a l cp m T rs},av w3 a l cp m T rs (λk=>q1.w.heap.size<=k)->av (w3.alloc (Ze (Zd x1 m1 f1 x2 m2 f2 x3 m3 f3 x4 m4 f4 x5 m5 f5 c.now) 29)) a l cp m T rs (λk=>q1.w.heap.size<=k/\¬k=w3.heap.size/\k<(w3.alloc (Ze (Zd x1 m1 f1 x2 m2 f2 x3 m3 f3 x4 m4 f4 x5 m5 f5 c.now) 29)).heap.size):=λh=>(h.bC (S':=(λk=>q1.w.heap.size<=k/\¬k=w3.heap.size/\k<(w3.alloc (Ze (Zd x1 m1 f1 x2 m2 f2 x3 m3 f3 x4 m4 f4 x5 m5 f5 c.now) 29)).heap.size)) (λk hk s=>⟨s,Nat.ne_of_lt hk,by rw[cW];omega⟩)).below (aj w3 (Ze (Zd x1 m1 f1 x2 m2 f2 x3 m3 f3 x4 m4 f4 x5 m5 f5 c.now) 29));have HOV:Hid (dw (w3.alloc (Ze (Zd x1 m1 f1 x2 m2 f2 x3 m3 f3 x4 m4 f4 x5 m5 f5 c.now) 29)) ⟨x1,m1,f1,x2,m2,f2,x3,m3,f3,x4,m4,f4,x5,m5,f5⟩ c.raw (λk=>q1.w.heap.size<=k/\¬k=w3.heap.size/\k<(w3.alloc (Ze (Zd x1 m1 f1 x2 m2 f2 x3 m3 f3 x4 m4 f4 x5 m5 f5 c.now) 29)).heap.size)):=⟨into ho.n,into ho.k,into ho.v,into ho.x,into ho.p⟩;have HV0:Hid (Below q1.w.heap.size q1.w (w3.alloc (Ze (Zd x1 m1 f1 x2 m2 f2 x3 m3 f3 x4 m4 f4 x5 m5 f5 c.now) 29))):=ν.trans ((aj w3 (Ze (Zd x1 m1 f1 x2 m2 f2 x3 m3 f3 x4 m4 f4 x5 m5 f5 c.now) 29)).mono ν.size);clear ho into;have apn:=@G _ @X4;exact iL):p:=h
theorem tm(h:p:=by
 refine (cZ ⟨(M ⟨bn,on,J⟩),l1,y1,a2,l2,y2,a3,l3,y3,a4,l4,y4,(M ⟨b,o,J⟩),l5,y5⟩ c _ (HR.below HB.out) HT.sm).mono ?_;rintro e w3 ⟨d',rfl,ho,hb⟩;exact as_):p:=h
theorem IB(h:p:=by
 have HV:=G Zx;have k4:=ck4 Bk;clear Zc hx Zx z0 z2 z4;by_cases h0:p.d=⟨#[]⟩
 ·have hq:=cw h0;have H0:=G h0;clear h0;have avk:=@G _ @VE;exact zd
 have hq0:=aU h0;have H0:=G h0;clear h0;by_cases h1:p.d=s
 ·have hq:=aP h1;have H1:=G h1;clear h1;have avk:=@G _ @VD;exact zd
 have hq:=bu h1;have H1:=G h1;clear h1;go_wp2_with fail;refine (bZ va vl vc p.zs m _ (HV.below (aj _ _))).mono ?_;rintro e w1 ⟨r,rfl,hi,ZN⟩;obtain⟨ZD,Zr⟩:=aY ZN;have HI:=G hi;have ZW:=upB HB Zr;have Bk1:=G ((Zr.block _ ltk).trans Bk.out);clear hi ZN Zr ZD c0 c1 c2 c3 c4 c5 k4;cases r
 ·go_wp2;refine⟨⟨k+1,by omega,by go_num,λj z hj hz=>?_,ZW.out,Bk1.out⟩,by simp[intOf];omega⟩;by_cases e:j=k
  ·subst e;rw[HX.out] at hz;obtain rfl:=Yd hz;exact λh=>by have:=HI.2 h.2.2;cases this
  ·exact HE.out j z af hz
 ·go_wp2;go_ret;exact ar.t ⟨k,p,HX.out,H0.out,H1.out,HI.1 bU⟩ ZW.out):p:=h
theorem Ir(h:p:=by
 refine Grow.aO Bo.out ?_;refine Grow.aO Bo.out ?_;refine Grow.aK ?_;refine Grow.aO Bn.out ?_;refine Grow.step (DiF c1 n.n) rfl (DiF.mono _ _) ?_ ?_
 ·refine Obl.plain rfl ?_;intro ac wg K Zq hW hf hK;clear Zq;have e84:=hf 84 ag;simp[slotFact,Yg] at e84;have e86:=hf 86 ag;simp[slotFact,Yg] at e86;clear hf;go_simp;refine (BR ⟨x1,m1,f1,x2,m2,f2,q3,g3,z3,x4,m4,f4,x5,m5,f5⟩ c1 n.n wg (HOF.row.below hW) HT1.out).mono ?_;rintro e w6 ⟨a6,l6,c6,ys,rfl,h1,h2,h3,ZA⟩;exact hK _ _ ZA ⟨a6,l6,c6,ys,rfl,h1,h2,h3⟩
 refine Grow.aO Bp.out ?_;refine Grow.step (LeF L) rfl (LeF.mono _) ?_ ?_
 ·refine Obl.plain rfl ?_;intro ac wg K Zq hW hf hK;clear Zq;have e83:=hf 83 ag;simp[slotFact,Yg] at e83;have e87:=hf 87 ag;simp[slotFact,Yg] at e87;have e88:=hf 88 ag;simp[slotFact,Yg] at e88;clear hf;obtain⟨a6,l6,c6,ys,e87,h1,h2,h3⟩:=e87;have hys:=RR HT1.out h2 h3;have hl6:l6+vl<=60:=by
   have h4:ys.length=l6:=h1.1;have h5:ys.length<=c1.vs.length:=by rw[hys];unfold oA;rw[Yq];exact List.length_filter_le _ _
   have h6:=HV8.out;have h7:=HV3.out;omega
  clear hys;go_simp;refine (oP ⟨x1,m1,f1,x2,m2,f2,q3,g3,z3,x4,m4,f4,x5,m5,f5⟩ c1 a6 l6 c6 ys p va vl vc wg (HOF.row.below hW) HT1.out h1 h2 (σ.below (HB.trans (hW.mono HB.size))) hl6).mono ?_;rintro e w6 ⟨a7,l7,c7,ys2,rfl,k1,k2,k3,-,ZA⟩;obtain rfl:l7=L:=by
   have h8:=Ca HT1.out HP1.out HPD.out k2 (λt=>by rw[k3,h3]);have h9:ys2.length=l7:=k1.1;rw[h8] at h9;rw[<-h9];exact HLL.symm
  exact hK _ _ ZA ⟨a7,c7,rfl⟩
 refine Grow.step (λv _=>v=V O L) rfl (Fact.dq _) ?_ ?_
 ·refine Obl.plain rfl ?_;intro ac wg K Zq hW hf hK;clear Zq;have e89:=hf 89 ag;simp[slotFact,Yg] at e89;clear hf;obtain⟨a7,c7,e89⟩:=e89;go_simp;exact hK _ _ (Yh _ _) rfl
 refine Grow.aK ?_;refine Grow.aO Bn.out ?_;refine Grow.aK ?_;have apm:=@G _ @SH;exact iG):p:=h
theorem ng(h:p:=by
 rename_i K0 hK0;refine cB (back:=J) aW (List.append_nil _).symm aW ?_;exact aqr):p:=h
theorem Ic(h:p:=by
 clear hne0 k0 k1 k2 k3 k4 k5 e0 e2 c0 c1 c2 c3 c4 c5 c6;by_cases hf:n.c - cpuOf n.n c.ps<=ms
 ·have hfd:decide (n.c - cpuOf n.n c.ps<=ms)=Zi:=by simpa using hf
  obtain⟨k0,k1,k2,k3,k4,k5⟩:=cs6 Bk;go_wp2;refine⟨⟨k+1,bs,ms,by omega,rfl,rfl,by go_num,HK.pass HXn.out HPP.out hf,HB.out,Bk.out⟩,by simp[intOf];omega⟩
 have hfd:decide (n.c - cpuOf n.n c.ps<=ms)=Zg:=by simpa using hf
 have HF:Hid (¬frN c n<=ms):=hf;clear hf;obtain⟨k0,k1,k2,k3,k4,k5⟩:=cs6 Bk;go_wp2_with fail;refine (rS ⟨(M ⟨b,o,J⟩),l1,y1,a2,l2,y2,a3,l3,y3,a4,l4,y4,a5,l5,y5⟩ c i k p n _ (HR.below HB.out) HT.out HP.out HXn.out).mono ?_;rintro e w4 ⟨d',c',e0,rfl,hA,-,hb⟩;have apj:=@G _ @aat;exact iM):p:=h
theorem Ib(h:p:=by
 have Br:=upK Gr q1.b;have Bp:=upK Gp q1.b;have Bn:=upK Gn q1.b;clear hne0 k0 k1 k2 k3 k4 k5 p0 p1 p2 p3 p4 p5 n0 n1 n2 n3 n4 n5 n6 c0 c1 c2 c3 c4 c5 d0 d1 d2 d3 d4 d5 d6;exact asU):p:=h
theorem sZ(h:p:=by
 repeat (go_big_quiet_step (first|(go_at_call 112;exact Calls.wide (Zv.out _))|fail))
 refine wpQuiet_nil ?_;rintro _ ⟨q1,rfl⟩;obtain⟨HB,Bk⟩:=fB;exact asV):p:=h
theorem Hl(h:p:=by
 rcases hf with ⟨rfl,hf⟩|⟨bb,nn,rfl,hf⟩
 ·have HNB:=G hf;clear hf;obtain⟨k0,k1,k2,k3,k4,k5⟩:=cs6 Bk;go_wp2;exact bodyPost_ret (v:=Zn #[V O 0,V O 0,V O 11]) uR rfl ⟨⟨_,_,_,rfl,Zl ⟨by decide,7,⟨HLL.out,HT.out,x,HXX.1,HXX.2,HPH.out,by rw[HPL.out];exact HNB.out⟩,rfl⟩⟩,HB.out⟩
 have HNB:=G hf;clear hf;obtain⟨k0,k1,k2,k3,k4,k5⟩:=cs6 Bk;go_wp2;exact bodyPost_ret (v:=Zn #[V O i,V O bb,V O 0]) uR rfl ⟨⟨_,_,_,rfl,Zk ⟨rfl,HLL.out,HT.out,x,bb,nn,by rw[HPL.out],rfl,HXX.1,HXX.2,HPH.out,by rw[HPL.out];exact HNB.out⟩⟩,HB.out⟩):p:=h
theorem F_(h:p:=by
 have σ:=G Zx;clear Zc hy z0 z2 z3 z5 Zx;by_cases hz:v.z=n.z;rotate_left
 ·have hq:=bu hz;have HZ:=G hz;clear hz;obtain⟨g0,g1,g2,g3,g4,g5⟩:=cs6 Bg;obtain⟨n0,n1,n2,n3,n4,n5,n6⟩:=cs7 Bn;have aoh:=ae Bn.out;go_wp2;go_ret;exact⟨c,8,rfl,⟨i,x,HX.1,HX.2,Zl ⟨j1,v,HV.1,HV.2,rfl,Zl ⟨HZ.out,rfl⟩⟩⟩,Zl ⟨by decide,HB.trans ((aj _ _).mono HB.size)⟩⟩
 have hq:=aP hz;have HZ:=G hz;clear hz;cases hvx:v.x
 ·have HVX:=G hvx;rw[hvx] at c4;clear hvx;have apT:=@G _ @Us;exact jM
 have HVX:=G hvx;rw[hvx] at c4;clear hvx;by_cases hel:∃(j:Nat) (p:Pd),c.ps[j]?=M p/\OtP p n.n t
 ·have HEL:=G hel;clear hel;have apT:=@G _ @Ur;exact jM
 have HEL:=G hel;clear hel;have hvl:v.zs.length=vl:=σ.1;have hv1:vl<=1:=by have h9:=HZS.out;rw[HVX.out] at h9;simp at h9;omega
 by_cases hv0:vl=0
 ·subst hv0;have apT:=@G _ @Uq;exact jM
 obtain rfl:vl=1:=af
 obtain⟨bz,oz,z,rfl,hbz,hz,aw9,-⟩:=σ.at (show 0<1 by omega);have hcz:w1.cell? ⟨bz,oz,J⟩=M (I z):=by simpa using aw9
 clear aw9;have HZ0:=G hz;clear hz;by_cases hzn:z=n.n
 ·have hqz:=aP hzn;have HZN:=G hzn;clear hzn;have apT:=@G _ @Up;exact jM
 have hqz:=bu hzn;have HZN:=G hzn;clear hzn;have apT:=@G _ @Ut;exact jM):p:=h
theorem FY(h:p:=by
 have apj:=@G _ @aas;exact iM):p:=h
theorem mV(h:p:=by
 refine (mx ⟨a1,l1,y1,a2,l2,y2,a3,l3,y3,a4,l4,y4,a5,l5,y5⟩ c.now c.ps t _ (HR.p.below HB.out)).mono ?_;rintro e w2 ⟨hb,hf⟩;exact aqu):p:=h
theorem Fk(h:p:=by
 refine Grow.step (CD w S (dd c i x kc.z).vs) rfl (CD.mono _ _ _) ?_ ?_
 ·have atd:=@G _ @Jd;exact tD
 iterate 2 refine Grow.aK ?_
 have avl:=@G _ @abN;exact zQ):p:=h
theorem Fj(h:p:=by
 refine Grow.step (CD w S (dd c i x t).vs) rfl (CD.mono _ _ _) ?_ ?_
 ·have atd:=@G _ @Jc;exact tD
 iterate 2 refine Grow.aK ?_
 have avl:=@G _ @abM;exact zQ):p:=h
theorem sJ(h:p:=by
 clear hxo;rename_i K0 hK0;refine Gt.bS aW rfl rfl aW ?_;iterate 4 refine Grow.aK ?_
 refine Grow.aO Bc6.out ?_;refine Grow.aO Bv6.out ?_;exact ata):p:=h
theorem Fi(h:p:=by
 have e26:=hf 26 ag;simp[slotFact,Yg] at e26;clear hf;go_simp;refine (wK a3 l3 y3 c.vs x.n x.z x.k x.x x.v t _ (ahu (HO.v.row.below (ZH.trans (hW.mono ZH.size))))).mono ?_;rintro e w6 ⟨r,rfl,hr6,ZA⟩;exact hK _ _ ZA ⟨r,rfl,by rw[hl3];exact hr6⟩):p:=h
theorem Fh(h:p:=by
 have e30:=hf 30 ag;simp[slotFact,Yg] at e30;clear hf;go_simp;refine (oP ⟨a1,l1,y1,a2,l2,y2,a3,l3,y3,a4,l4,y4,(M ⟨b,o,J⟩),l5,y5⟩ c ca cl cc ys x va vl vc _ (HR.below (HB.trans (hW.mono HB.size))) HT.out (HQ.1.below hW) HQ.2.1 (HTx.below hW) af).mono ?_;rintro e w6 ⟨sa,sl,sc,zs2,rfl,htx,aue,asW,hl2,ZA⟩;exact hK _ _ ZA ⟨sa,sl,sc,zs2,rfl,htx,aue,asW,hl2⟩):p:=h
theorem sI(h:p:=by
 refine Obl.plain rfl ?_;intro ac wg K Zq hW hf hK;clear Zq;have e24:=hf 24 ag;simp[slotFact,Yg] at e24;have e25:=hf 25 ag;simp[slotFact,Yg] at e25;exact atb):p:=h
theorem E9(h:p:=by
 exact asT):p:=h
theorem E8(h:p:=by
 clear hne0 g0 g1 g2 g3 g4 g5 n0 n1 n2 n3 n4 n5 n6 v4 v7 zc aoq c0 c1 c2 c3 c4 c5 c6 c7 hbv hq hcz hbz hqz;go_wp2;go_ret;exact⟨c,10,rfl,⟨i,x,HX.1,HX.2,Zl ⟨j1,v,HV.1,HV.2,rfl,Zk (Zl ⟨HZ.out,⟨HVX.out,Zl ⟨0,z,HZ0.out,HZN.out⟩⟩,rfl⟩)⟩⟩,Zl ⟨by decide,HB.out⟩⟩):p:=h
theorem sF(h:p:=by
 repeat (go_big_quiet_step (first|(go_at_call 195;exact Calls.wide (Zv.out _))|fail))
 refine wpQuiet_nil ?_;rintro _ ⟨q1,rfl⟩;obtain⟨HB,Bg,Bn⟩:=AS;have Cv:=upK Gv q1.b;exact as4):p:=h
theorem Ey(h:p:=by
 obtain⟨v4,v7,zc,hne0,Zv⟩:=ah1;have ο:=@G _ @K9;exact b_):p:=h
theorem Ew(h:p:=by
 have v4:=λq:Wd (w1.alloc (Ze #[I v.n,V O v.c,I v.z,I v.k,Zf Zg,I v.m,Zf v.y,U va vl vc] 37))=>q.slot (o:=4) Gv.out rfl;have v7:=λq:Wd (w1.alloc (Ze #[I v.n,V O v.c,I v.z,I v.k,Zf Zg,I v.m,Zf v.y,U va vl vc] 37))=>q.slot (o:=7) Gv.out rfl;have hne0:=Wd.ne (w1.alloc (Ze #[I v.n,V O v.c,I v.z,I v.k,Zf Zg,I v.m,Zf v.y,U va vl vc] 37));have z1z:=@G _ @akg;exact bF):p:=h
theorem Ev(h:p:=by
 have v4:=λq:Wd (w1.alloc (Ze #[I v.n,V O v.c,I v.z,I v.k,Zf Zi,I v.m,Zf v.y,U va vl vc] 37))=>q.slot (o:=4) Gv.out rfl;have v7:=λq:Wd (w1.alloc (Ze #[I v.n,V O v.c,I v.z,I v.k,Zf Zi,I v.m,Zf v.y,U va vl vc] 37))=>q.slot (o:=7) Gv.out rfl;have hne0:=Wd.ne (w1.alloc (Ze #[I v.n,V O v.c,I v.z,I v.k,Zf Zi,I v.m,Zf v.y,U va vl vc] 37));have Zv:=G (λq:Wd (w1.alloc (Ze #[I v.n,V O v.c,I v.z,I v.k,Zf Zi,I v.m,Zf v.y,U va vl vc] 37))=>(kL ⟨a1,l1,y1,a2,l2,y2,(M ⟨bv,ov,J⟩),l3,y3,a4,l4,y4,a5,l5,y5⟩ c t n.n q.w (HR.below (HW.trans (q.b.mono HW.size)))).mono (λ_ _ h=>ar.yes h HEL.out));have Zw:=@G _ @aja;exact aB):p:=h
theorem Eu(h:p:=by
 have v4:=λq:Wd (w1.alloc (Ze #[I v.n,V O v.c,I v.z,I v.k,Zf Zi,I v.m,Zf v.y,U va 0 vc] 37))=>q.slot (o:=4) Gv.out rfl;have v7:=λq:Wd (w1.alloc (Ze #[I v.n,V O v.c,I v.z,I v.k,Zf Zi,I v.m,Zf v.y,U va 0 vc] 37))=>q.slot (o:=7) Gv.out rfl;have hne0:=Wd.ne (w1.alloc (Ze #[I v.n,V O v.c,I v.z,I v.k,Zf Zi,I v.m,Zf v.y,U va 0 vc] 37));have Zv:=G (λq:Wd (w1.alloc (Ze #[I v.n,V O v.c,I v.z,I v.k,Zf Zi,I v.m,Zf v.y,U va 0 vc] 37))=>(kL ⟨a1,l1,y1,a2,l2,y2,(M ⟨bv,ov,J⟩),l3,y3,a4,l4,y4,a5,l5,y5⟩ c t n.n q.w (HR.below (HW.trans (q.b.mono HW.size)))).mono (λ_ _ h=>ar.no h HEL.out));have Zw:=@G _ @ai_;exact aB):p:=h
theorem Et(h:p:=by
 obtain⟨v4,v7,zc,hne0,Zv⟩:=ah1;have Zw:=@G _ @ai9;exact aB):p:=h
theorem hE(h:p:=by
 obtain⟨g0,g1,g2,g3,g4,g5⟩:=sl6 Gg;obtain⟨n0,n1,n2,n3,n4,n5,n6⟩:=sl7 Gn;exact apc):p:=h
theorem D0(h:p:=by
 obtain⟨h13,ayw,ayx,ayy,ayz,h99,h98,h97,h96,h95,h94,h93,h92,h91,-⟩:=hf;have HWY:=G hW;clear hW;refine hK0 _ _ ?_;simp only[aL,YQ,Y0,Yr,Yx,Yy,h13,ayw,ayx,ayy,ayz,h99,h98,h97,h96,h95,h94,h93,h92,h91];clear hK0;exact aqW):p:=h
theorem DZ(h:p:=by
 obtain⟨⟨b9,h10,hb9,hg9⟩,h73,h72,h71,h70,h69,h68,h67,h66,h65,h64,h63,h62,-⟩:=hf;have g0:=hg9;have g1:(wy.setCell ⟨b9,0,J⟩ (I kc.n)).heap[b9]?=M (Ze #[I kc.n,Zf Zg,Zf Zg,I ⟨#[]⟩] 72 (0,0)):=an g0 _;have g2:((wy.setCell ⟨b9,0,J⟩ (I kc.n)).setCell ⟨b9,1,J⟩ (Zf kc.x)).heap[b9]?=M (Ze #[I kc.n,Zf kc.x,Zf Zg,I ⟨#[]⟩] 72 (0,0)):=an g1 _;have g3:(((wy.setCell ⟨b9,0,J⟩ (I kc.n)).setCell ⟨b9,1,J⟩ (Zf kc.x)).setCell ⟨b9,2,J⟩ (Zf kc.y)).heap[b9]?=M (Ze #[I kc.n,Zf kc.x,Zf kc.y,I ⟨#[]⟩] 72 (0,0)):=an g2 _;have g4:((((wy.setCell ⟨b9,0,J⟩ (I kc.n)).setCell ⟨b9,1,J⟩ (Zf kc.x)).setCell ⟨b9,2,J⟩ (Zf kc.y)).setCell ⟨b9,3,J⟩ (I kc.z)).heap[b9]?=M (Ze #[I kc.n,Zf kc.x,Zf kc.y,I kc.z] 72 (0,0)):=an g3 _;obtain⟨t0,t1,t2,t3⟩:=cs4 hg9;have f0:=ak hg9 0;have f1:=ak hg9 1;have f2:=ak hg9 2;have f3:=ak hg9 3;have Bn:=G g4;have HWX:Hid (Below wz.heap.size wz ((((wy.setCell ⟨b9,0,J⟩ (I kc.n)).setCell ⟨b9,1,J⟩ (Zf kc.x)).setCell ⟨b9,2,J⟩ (Zf kc.y)).setCell ⟨b9,3,J⟩ (I kc.z))):=ai hb9 (ai hb9 (ai hb9 (ai hb9 (hW))));clear g0 g1 g2 g3 g4 hg9;intro K hK;rw[if_pos cF];simp only[aL,YQ,Y0,Yr,Yx,Yy,h10,h73,h72,h71,h70,h69,h68,h67,h66,h65,h64,h63,h62];have amW:=@G _ @abl;exact cQ):p:=h
theorem DY(h:p:=by
 obtain⟨h38,h37,h36,h35,h34,h33,h32,h31,h30,-⟩:=hf;have HWY:=upB ZX hW;have Bc3:=upK Bc2 hW;obtain⟨⟨v9,hcz⟩,hfz⟩:=av.atT HO.v HWY.out HJR.out (i:=5) rfl;intro K hK;rw[if_pos cF];simp only[aL,YQ,Y0,Yr,Yx,Yy,h38,h37,h36,h35,h34,h33,h32,h31,h30];have aqP:=@G _ @aeW;exact l_):p:=h
theorem Dw(h:p:=by
 have HB:=G (Yh w.heap.size w);clear hO hS hT hnz ht hx hn hkj Γ;have Bg:=G (hb);clear hb;rcases ω with hv0|hBd;rotate_left
 ·obtain⟨i1,j1,x1,v,b1,b2,b3,b4,b5,b6,-⟩:=hBd;have HV:=G (Yb b3 b4);have HM:Hid (v.m=t):=b6.trans HX.2;have HZS:=G ((HT.2.1.2.2.1.2.1 j1 v b3).2.2.2.2.2.2.1);have hj3:j1<l3:=by have:=(Yc.1 b3).1;omega
  have azk:(j1:Int)<l3:=af
  have azl:¬(j1:Int)<0:=af
  clear b1 b2 b3 b4 b5 b6;go_enter Tryz.func178,Tryz.ntmps178;obtain⟨g0,g1,g2,g3,g4,g5⟩:=cs6 Bg;have ate:=ae Bg.out;go_wp2_with fail;refine (oO ⟨a1,l1,y1,a2,l2,y2,a3,l3,y3,a4,l4,y4,a5,l5,y5⟩ c t _ (HR.below (HB.trans ((aj _ _).mono HB.size))) HT.out HV.1 ⟨i,j1,x,HX.1,HX.2,HV.1,HV.2⟩).mono ?_;rintro e w1 ⟨rfl,hb⟩;clear g0 g1 g2 g3 g4 g5 ate;obtain⟨ZD,Zr⟩:=aY hb;replace Bg:=upK Bg Zr;have Bn:=G ZD;replace HB:=upB HB Zr;clear hb Zr ZD;obtain⟨bv,ov,y,rfl,hbv,hy,Zc⟩:=bY (HR.v.below HB.out) hj3;rw[HV.1] at hy;obtain rfl:=Yd hy;have aoj:=@G _ @F_;exact fe
 have HXV:=G hv0;clear hv0;go_enter Tryz.func178,Tryz.ntmps178;obtain⟨g0,g1,g2,g3,g4,g5⟩:=cs6 Bg;have ate:=ae Bg.out;go_wp2_with fail;refine (rY ⟨a1,l1,y1,a2,l2,y2,a3,l3,y3,a4,l4,y4,a5,l5,y5⟩ c t _ (HR.below (HB.trans ((aj _ _).mono HB.size))) HT.out (λv h=>nV HT.out HX.1 HXV.out h HX.2.symm)).mono ?_;rintro e w1 ⟨rfl,hb⟩;clear g0 g1 g2 g3 g4 g5 ate;obtain⟨ZD,Zr⟩:=aY hb;replace Bg:=upK Bg Zr;have Bn:=G ZD;replace HB:=upB HB Zr;clear hb Zr ZD;obtain⟨g0,g1,g2,g3,g4,g5⟩:=cs6 Bg;go_wp2_with fail;refine (eZ ⟨a1,l1,y1,a2,l2,y2,a3,l3,y3,a4,l4,y4,a5,l5,y5⟩ c.now c.xs t _ (HR.x.below HB.out) HT.2.1.2.2.2.1.2.2 HX.1 HX.2).mono ?_;rintro e w2 ⟨rfl,hb⟩;clear g0 g1 g2 g3 g4 g5;replace Bg:=upK Bg hb;replace Bn:=upK Bn hb;replace HB:=upB HB hb;clear hb;obtain⟨bx,ox,y,rfl,Z3,hy,Zc⟩:=dB (HR.x.below HB.out) hi4;rw[HX.1] at hy;obtain rfl:=Yd hy;obtain⟨-,-,-,-,-,c2,-,-⟩:=bD Zc;clear Zc hy;obtain⟨bk,ok,y,rfl,hbk,hy,Zc⟩:=gR (HR.k.below HB.out) hj2;rw[HK.1] at hy;obtain rfl:=Yd hy;obtain⟨-,-,d0,d1,d2,d3⟩:=dh Zc;clear Zc hy d0 d2 d3;obtain⟨g0,g1,g2,g3,g4,g5⟩:=cs6 Bg;go_wp2_with fail;clear g0 g1 g2 g3 g4 g5;cases hkx:k.x
 ·have HKX:=G hkx;rw[hkx] at d1;clear hkx;have Gg:=Bg;have Gn:=Bn;have HW:=HB;have g0:=λq:Wd w2=>q.slot (o:=0) Gg.out rfl;have g1:=λq:Wd w2=>q.slot (o:=1) Gg.out rfl;have g2:=λq:Wd w2=>q.slot (o:=2) Gg.out rfl;have g3:=λq:Wd w2=>q.slot (o:=3) Gg.out rfl;have g4:=λq:Wd w2=>q.slot (o:=4) Gg.out rfl;have g5:=λq:Wd w2=>q.slot (o:=5) Gg.out rfl;obtain⟨xk,kx,hne0,Zv⟩:=ahM;have Zw:=@G _ @ai8;exact aB
 have HKX:=G hkx;rw[hkx] at d1;clear hkx;have Gg:=Bg;have Gn:=Bn;have HW:=HB;obtain⟨g0,g1,g2,g3,g4,g5⟩:=sl6 Gg;obtain⟨xk,kx,hne0,Zv⟩:=ahM;have ο:=@G _ @K_;exact b_):p:=h
theorem sk(h:p:=by
 have HK:=G (Yb hkj Γ);have hj2:j<l2:=by have:=(Yc.1 hkj).1;omega
 have hjj:(j:Int)<l2:=af
 have hj0:¬(j:Int)<0:=af
 exact atf):p:=h
theorem cs4 {b:Nat} {v0 v1 v2 v3:Value} (h:w.heap[b]?=M (Ze #[v0,v1,v2,v3] T (0,0))):w.cell? ⟨b,0,J⟩=M v0/\w.cell? ⟨b,1,J⟩=M v1/\w.cell? ⟨b,2,J⟩=M v2/\w.cell? ⟨b,3,J⟩=M v3:=⟨al h 0,al h 1,al h 2,al h 3⟩
namespace Rc
def Fv.fit:Fv->Prop
 | .s t=>t.size<=9223372036854775807
 | _=>True
theorem aJ.below {a b c:World} (h:aJ S a b) (k:Below b.heap.size b c):aJ S a c:=h.trans (aJ.dW k)
theorem aJ.mono {S':Nat->Prop} (h:aJ S w w') (hs:∀k,S k->S' k):aJ S' w w':=⟨h.os,h.tape,h.output,h.size,λk hk hn=>h.block k hk (λx=>hn (hs k x))⟩
theorem Fv.Own.ali {h:Nat} {f:Fv} {v:Value} (hv:f.val=M v) (hf:f.fit):f.Own w h S g v:=by
 cases f with
 | s t=>cases hv;exact⟨rfl,hf⟩
 | i n=>cases hv;exact rfl
 | b x=>cases hv;exact rfl
 | l zs=>cases hv
def NoH(N:Nat->Prop) (rs:List (List Fv)) (H:Nat->Nat->Nat):Prop:=∀(j:Nat) r (i:Nat) zs,rs[j]?=M r->r[i]?=M (.l zs)->zs≠[]->¬N (H j i)
structure StJ (g m:Nat) (T:TypeId) (S N:Nat->Prop) (w wr:World) (rs:List (List Fv)) (j:Nat) (r:List Fv):Prop where
 own:∃cur H,eI wr g m T (rs.set j r) S cur H/\NoH N (rs.set j r) H
 kept:aJ S w wr
 lt:j<rs.length
section
variable {g m:Nat} {T:TypeId} {S N:Nat->Prop} {w wr w2:World} {rs:List (List Fv)} {j:Nat} {r:List Fv}
theorem StJ.get(h:StJ g m T S N w wr rs j r):(rs.set j r)[j]?=M r:=by rw[ew h.lt,if_pos rfl]
theorem StJ.cell(h:StJ g m T S N w wr rs j r) {i:Nat} {f:Fv} (hi:r[i]?=M f):∃v,wr.cell? ⟨g,j*m+i,J⟩=M v:=by
 obtain⟨⟨cur,H,h1,hN⟩,h2,h3⟩:=h;obtain⟨v,h4,h5⟩:=h1.cell j r (by rw[ew h3,if_pos rfl]) i f hi;exact⟨v,(al h1.blk _).trans h4⟩
theorem StJ.oy(h:StJ g m T S N w wr rs j r) (i:Nat):wr.frozen? ⟨g,i,J⟩=Zg:=by
 obtain⟨⟨cur,H,h1,hN⟩,h2,h3⟩:=h;exact ak h1.blk i
theorem lN(Zo:j<rs.length) {f:Fv} {i:Nat} (hl:∀(j':Nat) r',(rs.set j r)[j']?=M r'->r'.length=m):∀(j':Nat) r',(rs.set j (r.set i f))[j']?=M r'->r'.length=m:=by
 intro j' r' Λ;rw[ew Zo] at Λ;split at Λ
 ·cases Λ;rw[List.length_set];exact hl j r (by rw[ew Zo,if_pos rfl])
 ·exact hl j' r' (by rw[ew Zo,if_neg (by assumption)];exact Λ)
theorem StJ.set(h:StJ g m T S N w wr rs j r) {i:Nat} {old:Fv} (hi:r[i]?=M old) (f:Fv) {v:Value} (hv:f.val=M v) (hf:f.fit):StJ g m T S N w (wr.setCell ⟨g,j*m+i,J⟩ v) rs j (r.set i f):=by
 have aqV:=@G _ @ael;exact lZ
end
theorem StJ.SC {N:Nat->Prop} {rs:List (List Fv)} {r:List Fv} (h:StJ g m T S N w wr rs j r) {i:Nat} {old:Fv} (hi:r[i]?=M old) (t:ByteArray) (hf:t.size<=9223372036854775807):StJ g m T S N w (wr.setCell ⟨g,j*m+i,J⟩ (I t)) rs j (r.set i (.s t)):=h.set hi (.s t) rfl hf
theorem StJ.BP {N:Nat->Prop} {rs:List (List Fv)} {r:List Fv} (h:StJ g m T S N w wr rs j r) {i:Nat} {old:Fv} (hi:r[i]?=M old) (t:Int):StJ g m T S N w (wr.setCell ⟨g,j*m+i,J⟩ (V O t)) rs j (r.set i (.i t)):=h.set hi (.i t) rfl trivial
theorem av.st {len cap:Nat} {rs:List (List Fv)} (h:av wr a len cap m T rs S) (hk:aJ S w wr) {i:Nat} {r:List Fv} (hi:rs[i]?=M r):∃g,a=M ⟨g,0,J⟩/\StJ g m T S (λ_=>False) w wr rs i r:=by
 obtain⟨h1,h2,h3,h4⟩:=h;rcases h4 with h4|⟨g,cur,H,h5,h6⟩
 ·subst h4;simp at hi
 ·refine⟨g,h5,⟨cur,H,?_,λ_ _ _ _ _ _ _ q=>q⟩,hk,(Yc.1 hi).1⟩;rw[rV hi];exact h6
section
variable {α:Type} {nm:α->ByteArray} {xs:List α} {t:ByteArray}
theorem gD(h:∀(j:Nat) x,xs[j]?=M x->¬nm x=t):hit nm xs t=Zg:=by
 unfold hit;split
 ·next x hx=>exact bu (h _ x hx)
 ·rfl
end
def anJ(xs:List Pd) (t:ByteArray) (w:World) (e:Ending) (w':World):Prop:=
 Below w.heap.size w w'/\((∃(j:Nat) (x:Pd),xs[j]?=M x/\x.n=t/\e=Zh (V O j))\/((∀(j:Nat) x,xs[j]?=M x->¬x.n=t)/\e=Zh (V O (-1))))
theorem mx(d:Ad) (now:Int) (xs:List Pd) (t:ByteArray) (w:World) (hr:aV w d.a5 d.l5 d.c5 6 (xs.map pdF)):
  Calls Tryz.prog 136 #[Zj (Zs d now),I t] w (anJ xs t w):=by
 unfold Zs;have HR:=G hr;have Z4:xs.length=d.l5:=ef
 have hlc:=Yo hr.2.1 hr.2.2.1;clear hr;go_enter Tryz.func136,Tryz.ntmps136;go_wp2;go_loopw [5] (λi wr=> ∃k:Nat,k<=d.l5/\i=V O k/\wr=w.alloc (Ze #[U d.a1 d.l1 d.c1,U d.a2 d.l2 d.c2,U d.a3 d.l3 d.c3,U d.a4 d.l4 d.c4,U d.a5 d.l5 d.c5,V O now] 29)/\Hid (∀(j:Nat) z,j<k->xs[j]?=M z->¬z.n=t)) (λi _=>d.l5 - (intOf i).toNat);case atStart=>exact⟨0,by omega,rfl,rfl,λ_ _ h=>absurd h af⟩
 case round=>
  obtain⟨k,hk,rfl,rfl,HE⟩:=hrel;by_cases Zo:k<d.l5
  ·obtain⟨b,o,x,ha,hb,hx,Zc⟩:=db HR.out Zo;obtain⟨va,vl,vc,Zx,-,-,-,c0,-,-,-,-,-⟩:=bK Zc;have HX:=G hx;clear Zc hx Zx;exact vn
  ·obtain rfl:k=d.l5:=af
   exact vd
def anb(c:Cl) (t:ByteArray) (p:Int):Prop:=(8000<t.size/\p=2)\/(¬8000<t.size/\¬au c/\p=1)\/(¬8000<t.size/\au c/\p=0)
theorem mE(d:Ad) (c:Cl) (t:ByteArray) (w:World) (hr:aA w d c.raw):
  Calls Tryz.prog 31 #[Zj (Zs d c.now),I t] w λe w'=> ∃p:Int,e=Zh (V O p)/\anb c t p/\Below w.heap.size w w':=by
 unfold Zs;obtain⟨HR,HB⟩:=lp;clear hr;by_cases hl:8000<t.size
 ·go_enter Tryz.func31,Tryz.ntmps31;go_wp2;go_ret;exact⟨2,rfl,Zl ⟨hl,rfl⟩,aj _ _⟩
 go_enter Tryz.func31,Tryz.ntmps31;go_wp2_with fail;refine (cI d c _ (HR.below (HB.trans ((aj _ _).mono HB.size)))).mono ?_;rintro e w1 ⟨r,rfl,hi,hb⟩;obtain⟨ZD,Zr⟩:=aY hb;replace HB:=upB HB Zr;clear hb Zr ZD;have HI:=G hi;clear hi;cases r
 ·go_wp2;go_ret;exact⟨1,rfl,Zk (Zl ⟨hl,λh=>AF,rfl⟩),HB.out⟩
 ·go_wp2;go_ret;exact⟨0,rfl,Zk (Zk ⟨hl,HI.1 bU,rfl⟩),HB.out⟩
theorem dw.row {c:Cr} (h:dw w d c S):aA w d c:=⟨h.n.row,h.k.row,h.v.row,h.x.row,h.p.row⟩
theorem loq(h:p:=by first|omega|(obtain⟨s,_⟩:=s;omega)|(rcases s with s|s <;> omega)|(rcases s with (s|s)|s <;> omega)):p:=h
theorem dw.rl {c:Cr} {B:Nat} (h:dw w d c S) (hS:∀k,S k->B<=k):kF B w d c:=⟨h.n.rl hS,h.k.rl hS,h.v.rl hS,h.x.rl hS,h.p.rl hS⟩
end Rc
theorem Sz(n:ByteArray) (c:Int) (z:ByteArray) (k:ByteArray) (x:Bool) (m:ByteArray) (y:Bool) (a:Option Addr) (len cap:Nat) (n':ByteArray) (c':Int) (k':ByteArray) (x':Bool) (v':ByteArray) (t:ByteArray) (w:World):
  Calls Tryz.prog 116 #[Zj #[I n,V O c,I z,I k,Zf x,I m,Zf y,U a len cap],Zj #[I n',V O c',I k',Zf x',I v'],I t] w λe w'=>e=Zh (Zf (svB c z k x m y c' k' x' t))/\Below w.heap.size w w':=by
 have HB:=G (aM w (Ze #[I n,V O c,I z,I k,Zf x,I m,Zf y,U a len cap] 37) (Ze #[I n',V O c',I k',Zf x',I v'] 47));unfold svB;cases h0:(k.toList==k'.toList)
 ·exact pb
 cases h1:(x==x')
 ·exact pb
 cases y;case true=>
  exact pb
 cases h2:m.toList.isEmpty
 ·exact pb
 by_cases h3:c'<=c;case neg=>
  have h3':decide (c'<=c)=Zg:=by simpa using h3
  rw[h3'];exact pb
 have h3':decide (c'<=c)=Zi:=by simpa using h3
 rw[h3'];cases h4:t.toList.isEmpty
 ·cases h5:(z.toList==t.toList);all_goals (
   go_enter Tryz.func116,Tryz.ntmps116
   go_wp2_with fail;go_ret
   exact⟨rfl,HB.out⟩)
 ·exact pb
theorem gJ(h:vs[i]?=M v):dG sv (vs.take (i+1))=stepB sv (dG sv (vs.take i)) v:=by
 unfold dG;rw[YM,h];simp
def dA(sv:Vd->Bool) (vs:List Vd) (i:Nat) (r:Int):Prop:=
 (r= -1/\dG sv (vs.take i)=J)\/∃(j:Nat) (u:Vd),r=j/\j<vs.length/\vs[j]?=M u/\dG sv (vs.take i)=M u
theorem dA.no {r:Int} (h:dA sv vs i r) (hv:vs[i]?=M v) (hs:sv v=Zg):dA sv vs (i+1) r:=by
 unfold dA;rw[gJ hv];simp only[stepB,hs,Bool.false_and,Bool.false_eq_true,if_false];exact h
theorem dA.first(h:dG sv (vs.take i)=J) (hv:vs[i]?=M v) (hs:sv v=Zi):dA sv vs (i+1) i:=by
 refine Zk ⟨i,v,rfl,(Yc.1 hv).1,hv,?_⟩;rw[gJ hv,h];simp[stepB,hs]
theorem dA.new {u:Vd} (h:dG sv (vs.take i)=M u) (hv:vs[i]?=M v) (hs:sv v=Zi) (hb:gW v u=Zi):dA sv vs (i+1) i:=by
 refine Zk ⟨i,v,rfl,(Yc.1 hv).1,hv,?_⟩;rw[gJ hv,h];simp[stepB,hs,hb]
theorem dA.old {u:Vd} (hj:vs[j]?=M u) (h:dG sv (vs.take i)=M u) (hv:vs[i]?=M v) (hb:gW v u=Zg):dA sv vs (i+1) j:=by
 refine Zk ⟨j,u,rfl,(Yc.1 hj).1,hj,?_⟩;rw[gJ hv,h];simp[stepB,hb]
theorem CT(v:Vd) (va:Option Addr) (vl vc:Nat) (n':ByteArray) (c':Int) (k':ByteArray) (x':Bool) (v':ByteArray) (t:ByteArray) (w:World) {b:Bool} (h:svV c' k' x' t v=b):
  Calls Tryz.prog 116 #[Zj #[I v.n,V O v.c,I v.z,I v.k,Zf v.x,I v.m,Zf v.y,U va vl vc],Zj #[I n',V O c',I k',Zf x',I v'],I t] w λe w'=>e=Zh (Zf b)/\Below w.heap.size w w':=by
 subst h;exact Sz v.n v.c v.z v.k v.x v.m v.y va vl vc n' c' k' x' v' t w
theorem wK(a:Option Addr) (len cap:Nat) (vs:List Vd) (n':ByteArray) (c':Int) (k':ByteArray) (x':Bool) (v':ByteArray) (t:ByteArray) (w:World) (hr:fY w a len cap vs):
  Calls Tryz.prog 61 #[U a len cap,Zj #[I n',V O c',I k',Zf x',I v'],I t] w λe w'=> ∃r:Int,e=Zh (V O r)/\dA (svV c' k' x' t) vs len r/\Below w.heap.size w w':=by
 have HR:=G hr;have hvl:=hr.1;have hlc:=Yo hr.2.1 hr.2.2.1;clear hr;go_enter Tryz.func61,Tryz.ntmps61;go_wp2;go_loopw [7,8] (λvk vi wr=> ∃(i:Nat) (r:Int),i<=len/\vk=V O r/\vi=V O i/\Hid (dA (svV c' k' x' t) vs i r)/\Hid (wr.heap[w.heap.size]?=M (Ze #[I n',V O c',I k',Zf x',I v'] 47 (0,0)))/\Hid (Below w.heap.size w wr)) (λ_ vi _=>len - (intOf vi).toNat);case atStart=>exact⟨0,-1,by omega,rfl,rfl,Zl ⟨rfl,rfl⟩,Yf,aj _ _⟩
 case round=>
  obtain⟨i,r,hi,rfl,rfl,HA,HG,HB⟩:=hrel;by_cases Zo:i<len;case neg=>
   obtain rfl:i=len:=af
   go_wp2;go_ret;exact⟨r,rfl,HA.out,HB.out⟩
  obtain⟨b,o,v,rfl,hb,hv,-,va,vl,vc,-,p0,p1,p2,p3,p4,p5,p6,p7⟩:=(HR.below HB.out).at Zo;have ZM:=ae HG.out;have HV:=G hv;have ZE:=Wd.ne wr;have e0:∀q:Wd wr,q.w.cell? ⟨b,o+i*8,J⟩=M (I v.n):=λq=>(q.cell hb).trans p0;have e1:∀q:Wd wr,q.w.cell? ⟨b,o+i*8+1,J⟩=M (V O v.c):=λq=>(q.cell hb).trans p1;have e2:∀q:Wd wr,q.w.cell? ⟨b,o+i*8+2,J⟩=M (I v.z):=λq=>(q.cell hb).trans p2;have e3:∀q:Wd wr,q.w.cell? ⟨b,o+i*8+3,J⟩=M (I v.k):=λq=>(q.cell hb).trans p3;have e4:∀q:Wd wr,q.w.cell? ⟨b,o+i*8+4,J⟩=M (Zf v.x):=λq=>(q.cell hb).trans p4;have e5:∀q:Wd wr,q.w.cell? ⟨b,o+i*8+5,J⟩=M (I v.m):=λq=>(q.cell hb).trans p5;have e6:∀q:Wd wr,q.w.cell? ⟨b,o+i*8+6,J⟩=M (Zf v.y):=λq=>(q.cell hb).trans p6;have e7:∀q:Wd wr,q.w.cell? ⟨b,o+i*8+7,J⟩=M (U va vl vc):=λq=>(q.cell hb).trans p7;have d0:∀q:Wd wr,q.w.cell? ⟨w.heap.size,0,J⟩=M (I n'):=λq=>q.slot HG.out rfl;have d1:∀q:Wd wr,q.w.cell? ⟨w.heap.size,1,J⟩=M (V O c'):=λq=>q.slot HG.out rfl;have d2:∀q:Wd wr,q.w.cell? ⟨w.heap.size,2,J⟩=M (I k'):=λq=>q.slot HG.out rfl;have d3:∀q:Wd wr,q.w.cell? ⟨w.heap.size,3,J⟩=M (Zf x'):=λq=>q.slot HG.out rfl;have d4:∀q:Wd wr,q.w.cell? ⟨w.heap.size,4,J⟩=M (I v'):=λq=>q.slot HG.out rfl;clear hv p2 p3 p4 p5 p6 p7;cases hs:svV c' k' x' t v
  ·have HF:=G (λq:Wd wr=>CT v va vl vc n' c' k' x' v' t q.w hs);have HS:=G hs;clear hs p0 p1;have Zw:=@G _ @aje;exact aB
  have HF:=G (λq:Wd wr=>CT v va vl vc n' c' k' x' v' t q.w hs);have HS:=G hs;clear hs;rcases HA.out with ⟨rfl,hn⟩|⟨j,u,rfl,hj,hu,hbu⟩
  ·have HN:=G hn;clear hn p0 p1;have Zw:=@G _ @ajd;exact aB
  obtain⟨b2,o2,u2,e2,ZG,hu2,-,ua,ul,uc,-,s0,s1,-,-,-,-,-,-⟩:=(HR.below HB.out).at (j:=j) af;rw[hu] at hu2;obtain rfl:=Yd hu2;cases e2;have g0:∀q:Wd wr,q.w.cell? ⟨b,o+j*8,J⟩=M (I u.n):=λq=>(q.cell hb).trans s0;have g1:∀q:Wd wr,q.w.cell? ⟨b,o+j*8+1,J⟩=M (V O u.c):=λq=>(q.cell hb).trans s1;have HBU:=G hbu;have HU:=G hu;have hj0:¬(j:Int)<0:=af
  have hj1:decide ((j:Int)<0)=Zg:=aF
  have hjl:(j:Int)<len:=af
  clear hu hu2 hbu s0 s1 p0 p1 ZG;by_cases h1:v.c<u.c
  ·have q1:decide (v.c<u.c)=Zi:=by simpa using h1
   have HX:=G (show gW v u=Zi by simp[gW,h1]);exact aie
  have q1:decide (v.c<u.c)=Zg:=by simpa using h1
  by_cases h2:v.c=u.c;case neg=>
   have q2:(v.c==u.c)=Zg:=by simpa using h2
   have HX:=G (show gW v u=Zg by simp[gW,h1,h2]);exact aif
  have q2:(v.c==u.c)=Zi:=by simpa using h2
  cases q3:Yk v.n.toList u.n.toList
  ·have HX:=G (show gW v u=Zg by simp[gW,h1,q3]);exact aif
  ·have HX:=G (show gW v u=Zi by simp[gW,h2,q3]);clear h2;exact aie
theorem Ry {n':ByteArray} (h:n'.size<=18):(⟨#[118,95]⟩:ByteArray).size+n'.size<=9223372036854775807:=by rw[show (⟨#[118,95]⟩:ByteArray).size=2 from rfl];omega
theorem CY(n':ByteArray) (c':Int) (k':ByteArray) (x':Bool) (v':ByteArray) (n:ByteArray) (x:Bool) (y:Bool) (z:ByteArray) (t:ByteArray) (w:World) (hn':n'.size<=9223372036854775807) (hm:¬kD n' k' v' n z t):
  Calls Tryz.prog 62 #[Zj #[I n',V O c',I k',Zf x',I v'],Zj #[I n,Zf x,Zf y,I z],I t] w λe w'=>e=Zh (Zn #[Zj #[I ⟨#[]⟩,V O 0,I ⟨#[]⟩,I ⟨#[]⟩,Zf Zg,I ⟨#[]⟩,Zf Zg,U J 0 0],Zf Zg])/\Below w.heap.size w w':=by
 have HM:=G hm;clear hm;by_cases h0:k'=n;case neg=>
  have q0:=bu h0;clear h0;exact pf
 have q0:=aP h0;have H0:=G h0;clear h0;by_cases h1:v'=⟨#[]⟩;case neg=>
  have q1:=aU h1;clear h1;exact pf
 have q1:=(eP v').2 h1;have H1:=G h1;clear h1;by_cases h3:18<n'.size
 ·by_cases h2:z=⟨#[]⟩
  ·have q2:=(eP z).2 h2;clear h2;exact pf
  ·have q2:=aU h2;by_cases h4:z=t
   ·have q4:=aP h4;clear h4 h2;exact pf
   ·have q4:=bu h4;clear h4 h2;exact pf
 by_cases h2:z=⟨#[]⟩
 ·exact absurd ⟨H0.out,H1.out,Zl h2,by omega⟩ HM.out
 have q2:=aU h2;by_cases h4:z=t
 ·exact absurd ⟨H0.out,H1.out,Zk h4,by omega⟩ HM.out
 have q4:=bu h4;clear h4 h2;exact pf
theorem yF(n':ByteArray) (c':Int) (k':ByteArray) (x':Bool) (v':ByteArray) (n:ByteArray) (x:Bool) (y:Bool) (z:ByteArray) (t:ByteArray) (w:World) (hm:kD n' k' v' n z t):
  Calls Tryz.prog 62 #[Zj #[I n',V O c',I k',Zf x',I v'],Zj #[I n,Zf x,Zf y,I z],I t] w λe w'=>e=Zh (Zn #[Zj #[I (aC++n'),V O c',I t,I k',Zf x',I n',Zf Zg,U J 0 0],Zf Zi])/\Below w.heap.size w w':=by
 obtain⟨h0,h1,h2,h3⟩:=hm;have q0:=aP h0;have q1:=(eP v').2 h1;have q5:=Ry h3;clear h0 h1;by_cases h4:z=⟨#[]⟩
 ·have q2:=(eP z).2 h4;exact Rh
 ·have q2:=aU h4;have q4:=aP (h2.resolve_left h4);exact Rh
namespace Rc
theorem eM.same {x:Xd} {k:Kd} {o':Co} (hr:au c) (h:eM c i x k t o) (h':eM c i x k t o'):o=o':=by
 rcases h with ⟨j,u,a1,a2,rfl⟩|⟨a1,a⟩ <;> rcases h' with ⟨j',u',b1,b2,rfl⟩|⟨b1,b⟩
 ·rw[a1] at b1;obtain rfl:=Yd b1;obtain⟨rfl,-⟩:=hr.2.1.2.2.1.2.2.inj a2 b2 rfl;rfl
 ·rw[a1] at b1;cases b1
 ·rw[a1] at b1;cases b1
 ·rcases a with ⟨a2,rfl⟩|⟨a2,a⟩ <;> rcases b with ⟨b2,rfl⟩|⟨b2,b⟩
  ·rfl
  ·exact absurd b2 a2
  ·exact absurd a2 b2
  ·rcases a with ⟨a3,rfl⟩|⟨a3,a⟩ <;> rcases b with ⟨b3,rfl⟩|⟨b3,b⟩
   ·rfl
   ·rw[a3] at b3;cases b3
   ·rw[a3] at b3;cases b3
   ·rcases a with ⟨a4,rfl⟩|⟨a4,rfl⟩ <;> rcases b with ⟨b4,rfl⟩|⟨b4,rfl⟩
    ·rfl
    ·exact absurd b4 a4
    ·exact absurd a4 b4
    ·rfl
theorem cX {u z:α} (_hu:xs[j]?=M u) (h:(xs.set j y)[k]?=M z):(k=j/\z=y)\/(¬k=j/\xs[k]?=M z):=by
 rw[Y9] at h;by_cases e:j=k
 ·rw[if_pos e] at h;split at h
  ·exact Zl ⟨e.symm,(Yd h).symm⟩
  ·cases h
 ·rw[if_neg e] at h;exact Zk ⟨λq=>e q.symm,h⟩
theorem fp {u:α} (hu:xs[j]?=M u):(xs.set j y)[j]?=M y:=by
 rw[Y9,if_pos rfl,if_pos (Yc.1 hu).1]
theorem dj {z:α} (hk:¬k=j) (h:xs[k]?=M z):(xs.set j y)[k]?=M z:=by
 rw[Y9,if_neg (λe=>hk e.symm)];exact h
theorem jJ {x:α} (h:aH nm xs) (hx:xs[k]?=M x) (e:nm y=nm x):aH nm (xs.set k y):=by
 intro j a b ha hb;have hn:∀(q:Nat) z,(xs.set k y)[q]?=M z->∃z',xs[q]?=M z'/\nm z=nm z':=λq z hz=>by
  rcases cX hx hz with ⟨rfl,rfl⟩|⟨_,hz⟩
  ·exact⟨x,hx,e⟩
  ·exact⟨z,hz,rfl⟩
 obtain⟨a',ha',ea⟩:=hn _ _ ha;obtain⟨b',χ,eb⟩:=hn _ _ hb;rw[ea,eb];exact h j a' b' ha' χ
theorem mm {x:α} (h:aH nm xs) (hx:xs[k]?=M x) (e:nm y=nm x) (hh:hit nm xs t=Zi):hit nm (xs.set k y) t=Zi:=by
 obtain⟨z,hz,hn⟩:=cy hh;generalize pl nm xs t=q at hz;by_cases hq:q=k
 ·subst hq;rw[hx] at hz;obtain rfl:=Yd hz;exact (bj (jJ h hx e) (fp hx) (e.trans hn)).2
 ·exact (bj (jJ h hx e) (dj hq hz) hn).2
theorem vB(t:ByteArray):∀(vs:List Vd) (j:Nat) (u y:Vd),vs[j]?=M u->y.zs=u.zs->onOf t (vs.set j y)=onOf t vs
 | [],_,_,_,h,_=>by simp at h
 | v ::vs,0,u,y,h,e=>by
  obtain rfl:v=u:=j_
  rw[Yx];unfold onOf;rw[e]
 | v ::vs,j+1,u,y,h,e=>by
  have h':vs[j]?=M u:=j_
  simp[onOf,vB t vs j u y h' e]
theorem mi {p:Nat} {x:α} (h:(aQ p x xs)[j]?=M y):y=x\/∃i:Nat,xs[i]?=M y:=by
 have h1:=Yv h;unfold aQ at h1;simp only[List.mem_append,List.mem_singleton] at h1;rcases h1 with (h1|h1)|h1
 ·exact Zk (YG (List.mem_of_mem_take h1))
 ·exact Zl h1
 ·exact Zk (YG (List.mem_of_mem_drop h1))
theorem RK(p:Nat) (x:α) (xs:List α):∃j:Nat,(aQ p x xs)[j]?=M x:=YG (by unfold aQ;simp)
theorem ob(p:Nat) (x:α) {j:Nat} {y:α} {xs:List α} (h:xs[j]?=M y):∃i:Nat,(aQ p x xs)[i]?=M y:=by
 refine YG ?_;have h1:=Yv h;rw[<-List.take_append_drop p xs,List.mem_append] at h1;unfold aQ;simp only[List.mem_append,List.mem_singleton];exact h1.elim (λh=>Zl (Zl h)) Zk
theorem agU(t:ByteArray) (p:Nat) (y:Vd) (vs:List Vd) (e:y.zs=[]):onOf t (aQ p y vs)=onOf t vs:=by
 have h0:¬InL y.zs t:=λ⟨k,hk⟩=>by rw[e] at hk;simp at hk
 have h1:onOf t [y]=0:=by
  unfold onOf;rw[if_neg h0];simp[onOf]
 have h2:=eF t (vs.take p) (vs.drop p);rw[List.take_append_drop] at h2;unfold aQ;rw[eF,eF,h1,h2];omega
theorem B9(h:Yk x.toList t.toList=Zg) (hn:¬x=t):Yk t.toList x.toList=Zi:=by
 exact Qe
theorem vD(b:Bool):ed [] (if b=Zi then 1 else 6):=⟨by cases b <;> decide,λi x h=>by simp at h⟩
theorem ai3(h:aH nm xs) (hn:nm y=t) (hh:hit nm xs t=Zg):aH nm (aQ (pl nm xs t) y xs):=by
 have hp:pl nm xs t<=xs.length:=List.findIdx_le_length;have lo:∀(q:Nat) z,q<pl nm xs t->xs[q]?=M z->Yk (nm z).toList t.toList=Zi:=λq z hq hz=>by
  have h1:=List.not_of_lt_findIdx (p:=λx=> !Yk (nm x).toList t.toList) (xs:=xs) hq;obtain⟨h2,rfl⟩:=Yc.1 hz;simpa using h1
 have hi:∀(q:Nat) z,pl nm xs t<=q->xs[q]?=M z->Yk t.toList (nm z).toList=Zi:=λq z hq hz=>by
  have hl:=(Yc.1 hz).1;have h1:=List.findIdx_getElem (p:=λx=> !Yk (nm x).toList t.toList) (xs:=xs) (w:=Nat.lt_of_le_of_lt hq hl);have h2:xs[pl nm xs t]?=M (xs[pl nm xs t]'(Nat.lt_of_le_of_lt hq hl)):=Yi _;have h3:Yk (nm (xs[pl nm xs t]'(Nat.lt_of_le_of_lt hq hl))).toList t.toList=Zg:=by simpa[pl] using h1
  have h4:=B9 h3 (λe=>by
   have:=(bj h h2 e).2;rw[hh] at this
   cases this)
  rcases Nat.lt_or_eq_of_le hq with k|k
  ·exact cK _ _ _ h4 (h.lt k h2 hz)
  ·rw[<-k,h2] at hz;obtain rfl:=Yd hz;exact h4
 intro j a b ha hb;have ja:j+1<xs.length+1:=by
  have:=(Yc.1 ha).1;rw[di hp] at this;exact this
 rw[mj hp _ ja] at ha;rw[mj hp _ af] at hb;generalize pl nm xs t=p at*;rcases Nat.lt_trichotomy (j+1) p with k|k|k
 ·rw[if_pos k,Yu af] at ha;rw[if_pos af,Yu af] at hb;exact h j a b ha hb
 ·rw[if_neg af,if_pos k] at ha;rw[if_pos af,Yu af] at hb;obtain rfl:y=a:=by simpa using ha
  rw[hn];exact lo j b af hb
 ·rw[if_neg af,if_neg af,Nat.add_sub_cancel,Yu af] at ha;rw[if_neg af] at hb;by_cases e:j=p
  ·rw[if_pos e] at hb;obtain rfl:y=b:=by simpa using hb
   rw[hn];exact hi j a af ha
  ·rw[if_neg e,Yu af] at hb;obtain⟨q,rfl⟩:∃q,j=q+1:=⟨j - 1,by omega⟩;exact h q a b ha hb
section
variable {c:Cl} {i j:Nat} {x:Xd} {u:Vd}
theorem pK(hT:au c) (hx:c.xs[i]?=M x) (hxv:x.v=⟨#[]⟩) (hu:c.vs[j]?=M u) (hum:u.m=⟨#[]⟩) {t s:ByteArray} (h:oE c t s):oE (dM c i j x u) t s:=by
 obtain⟨i1,j1,x1,v1,a1,a2,a3,a4,a5,a6,a7⟩:=h;refine⟨i1,j1,x1,v1,dj (λe=>?_) a1,a2,dj (λe=>?_) a3,a4,a5,a6,a7⟩
 ·exact Qb
 ·subst e;rw[hu] at a3;obtain rfl:=Yd a3;have h1:=(hT.2.1.2.2.2.1.2.1 _ _ a1).1.1;rw[a2,<-a6,hum] at h1;exact absurd h1 ag
theorem Ch(hT:au c) (hx:c.xs[i]?=M x) (hxv:x.v=⟨#[]⟩) (hu:c.vs[j]?=M u) (hum:u.m=⟨#[]⟩) {t:ByteArray} {v:Vd} (h:aX c t v):aX (dM c i j x u) t v:=by
 have hb:=h;obtain⟨i1,j1,x1,a1,a2,a3,a4⟩:=h;have h0:¬x1.v=⟨#[]⟩:=λe=>cP.ne hT.2.1 _ _ a3 (a4.trans e);have hB:=((hT.2.2.1.2 _ _ a1).2.resolve_left h0);obtain⟨i2,j2,x2,v2,c1,c2,c3,c4,c5,c6,-⟩:=hB;obtain⟨rfl,rfl⟩:=hT.2.1.2.2.1.2.2.inj a3 c3 (a4.trans c4.symm);refine⟨i1,j1,x1,dj (λe=>?_) a1,a2,dj (λe=>?_) a3,a4⟩
 ·subst e;rw[hx] at a1;obtain rfl:=Yd a1;exact h0 hxv
 ·subst e;rw[hu] at a3;obtain rfl:=Yd a3;have h1:=(hT.2.1.2.2.2.1.2.1 _ _ a1).1.1;rw[<-c6,hum] at h1;exact absurd h1 ag
theorem nV {t:ByteArray} {v:Vd} (hT:au c) (hx:c.xs[i]?=M x) (hxv:x.v=⟨#[]⟩) (h:aX c t v):¬t=x.n:=λe=>by
 obtain⟨i1,j1,x1,a1,a2,a3,a4⟩:=h;obtain⟨-,rfl⟩:=hT.2.1.2.2.2.1.2.2.inj a1 hx (a2.trans e);exact cP.ne hT.2.1 _ _ a3 (a4.trans hxv)
theorem Cz(hx:c.xs[i]?=M x) (hu:c.vs[j]?=M u) (hz:x.z<=u.c) (hk:u.k=x.k) (hxx:u.x=x.x):oE (dM c i j x u) x.n u.n:=
 ⟨i,j,bdX x u.n,bdV u x.n,fp hx,rfl,fp hu,rfl,rfl,rfl,hz,hk,hxx⟩
theorem ym(hT:au c) (hx:c.xs[i]?=M x) (hxv:x.v=⟨#[]⟩) (hu:c.vs[j]?=M u) (hum:u.m=⟨#[]⟩) (huy:u.y=Zg) (hz:x.z<=u.c) (hk:u.k=x.k) (hxx:u.x=x.x):au (dM c i j x u):=by
 have hV:=hT.2.1.2.2.1;have hX:=hT.2.1.2.2.2.1;have hux:=hV.2.1 _ _ hu;have hxo:=hX.2.1 _ _ hx;have hB:=Cz hx hu hz hk hxx;refine⟨hT.1,⟨hT.2.1.1,hT.2.1.2.1,⟨?_,?_,jJ hV.2.2 hu rfl⟩,⟨?_,?_,jJ hX.2.2 hx rfl⟩,hT.2.1.2.2.2.2⟩,⟨?_,?_⟩,⟨?_,hT.2.2.2.1.2.1,?_⟩,⟨?_,?_⟩,?_,?_⟩
 ·rw[show (dM c i j x u).vs=c.vs.set j (bdV u x.n) from rfl,List.length_set];exact hV.1
 ·intro k v hv;rcases cX hu hv with ⟨-,rfl⟩|⟨-,hv⟩
  ·exact⟨hux.1,hux.2.1,hux.2.2.1,hux.2.2.2.1,Zk hxo.1,λe=>absurd (show u.y=Zi from e) (by rw[huy];exact Bool.noConfusion),hux.2.2.2.2.2.2⟩
  ·exact hV.2.1 _ _ hv
 ·rw[show (dM c i j x u).xs=c.xs.set i (bdX x u.n) from rfl,List.length_set];exact hX.1
 ·intro k v hv;rcases cX hx hv with ⟨-,rfl⟩|⟨-,hv⟩
  ·exact⟨hxo.1,hxo.2.1,hxo.2.2.1,Zk hux.1⟩
  ·exact hX.2.1 _ _ hv
 ·intro k v hv;rcases cX hu hv with ⟨-,rfl⟩|⟨-,hv⟩
  ·exact⟨(hT.2.2.1.1 _ _ hu).1,Zk hB⟩
  ·exact⟨(hT.2.2.1.1 _ _ hv).1,(hT.2.2.1.1 _ _ hv).2.imp id (pK hT hx hxv hu hum)⟩
 ·intro k v hv;rcases cX hx hv with ⟨-,rfl⟩|⟨-,hv⟩
  ·exact⟨(hT.2.2.1.2 _ _ hx).1,Zk hB⟩
  ·exact⟨(hT.2.2.1.2 _ _ hv).1,(hT.2.2.1.2 _ _ hv).2.imp id (pK hT hx hxv hu hum)⟩
 ·intro k p hp;have h1:=hT.2.2.2.1.1 k p hp;refine⟨λq t ht=>mm hX.2.2 hx rfl (h1.1 q t ht),h1.2.imp id ?_⟩;rintro⟨i1,n,b1,b2,b3,b4⟩;exact Qi
 ·intro k v hv;rcases cX hu hv with ⟨-,rfl⟩|⟨-,hv⟩
  ·exact QS
  ·exact hT.2.2.2.1.2.2 _ _ hv
 ·intro k v hv;rcases cX hu hv with ⟨-,rfl⟩|⟨-,hv⟩
  ·exact (hT.2.2.2.2.1.1 j u hu:AQ1 c u)
  ·exact hT.2.2.2.2.1.1 _ _ hv
 ·intro k n hn;have h1:onOf n.n c.vs<=n.s:=hT.2.2.2.2.1.2 k n hn;show onOf n.n (c.vs.set j (bdV u x.n))<=n.s;rw[vB n.n c.vs j u (bdV u x.n) hu rfl];exact h1
 ·intro k n hn q t ht;obtain⟨i1,v,b1,b2,b3⟩:=hT.2.2.2.2.2.1 k n hn q t ht;by_cases e:i1=j
  ·subst e;rw[hu] at b1;obtain rfl:=Yd b1;exact⟨i1,bdV u x.n,fp hu,b2,b3⟩
  ·exact⟨i1,v,dj e b1,b2,b3⟩
 ·intro k p hp h2;obtain⟨i1,n,b1,b2,b3,b4⟩:=hT.2.2.2.2.2.2 k p hp h2;exact Qi
end
section
variable {c:Cl} {i:Nat} {x:Xd} {t:ByteArray}
theorem pJ(hT:au c) (hx:c.xs[i]?=M x) (hxv:x.v=⟨#[]⟩) {r s:ByteArray} (h:oE c r s):oE (dd c i x t) r s:=by
 obtain⟨i1,j1,x1,v1,a1,a2,a3,a4,a5,a6,a7⟩:=h;obtain⟨j2,a3'⟩:=ob (pl Vd.n c.vs (aC++x.n)) (mkV x t) a3;refine⟨i1,j2,x1,v1,dj (λe=>?_) a1,a2,a3',a4,a5,a6,a7⟩;exact Qb
theorem Cg(hT:au c) (hx:c.xs[i]?=M x) (hxv:x.v=⟨#[]⟩) {r:ByteArray} {v:Vd} (h:aX c r v):aX (dd c i x t) r v:=by
 obtain⟨i1,j1,x1,a1,a2,a3,a4⟩:=h;obtain⟨j2,a3'⟩:=ob (pl Vd.n c.vs (aC++x.n)) (mkV x t) a3;refine⟨i1,j2,x1,dj (λe=>?_) a1,a2,a3',a4⟩;subst e;rw[hx] at a1;obtain rfl:=Yd a1;exact cP.ne hT.2.1 _ _ a3 (a4.trans hxv)
theorem B7(hx:c.xs[i]?=M x):oE (dd c i x t) x.n (aC++x.n):=by
 obtain⟨j,hj⟩:=RK (pl Vd.n c.vs (aC++x.n)) (mkV x t) c.vs;exact⟨i,j,bdX x (aC++x.n),mkV x t,fp hx,rfl,hj,rfl,rfl,rfl,Int.le_refl _,rfl,rfl⟩
theorem xL(hT:au c) (hx:c.xs[i]?=M x) (hxv:x.v=⟨#[]⟩) (hh:hit Vd.n c.vs (aC++x.n)=Zg) (hl:c.vs.length<8) (hnm:aN (aC++x.n)) (ht:aN t):au (dd c i x t):=by
 have hV:=hT.2.1.2.2.1;have hX:=hT.2.1.2.2.2.1;have hxo:=hX.2.1 _ _ hx;have hB:oE (dd c i x t) x.n (aC++x.n):=B7 hx;refine⟨hT.1,⟨hT.2.1.1,hT.2.1.2.1,⟨?_,?_,ai3 hV.2.2 rfl hh⟩,⟨?_,?_,jJ hX.2.2 hx rfl⟩,hT.2.1.2.2.2.2⟩,⟨?_,?_⟩,⟨?_,hT.2.2.2.1.2.1,?_⟩,⟨?_,?_⟩,?_,?_⟩
 ·rw[show (dd c i x t).vs=aQ (pl Vd.n c.vs (aC++x.n)) (mkV x t) c.vs from rfl,di (show pl Vd.n c.vs (aC++x.n)<=c.vs.length from List.findIdx_le_length)];omega
 ·intro k v hv;rcases mi hv with rfl|⟨k1,hv⟩
  ·exact⟨hnm,hxo.2.1,ht,hxo.2.2.1,Zk hxo.1,λe=>absurd (show Zg=Zi from e) Bool.noConfusion,vD x.x⟩
  ·exact hV.2.1 _ _ hv
 ·rw[show (dd c i x t).xs=c.xs.set i (bdX x (aC++x.n)) from rfl,List.length_set];exact hX.1
 ·intro k v hv;rcases cX hx hv with ⟨-,rfl⟩|⟨-,hv⟩
  ·exact⟨hxo.1,hxo.2.1,hxo.2.2.1,Zk hnm⟩
  ·exact hX.2.1 _ _ hv
 ·intro k v hv;rcases mi hv with rfl|⟨k1,hv⟩
  ·exact⟨(hT.2.2.1.2 _ _ hx).1,Zk hB⟩
  ·exact⟨(hT.2.2.1.1 _ _ hv).1,(hT.2.2.1.1 _ _ hv).2.imp id (pJ hT hx hxv)⟩
 ·intro k v hv;rcases cX hx hv with ⟨-,rfl⟩|⟨-,hv⟩
  ·exact⟨(hT.2.2.1.2 _ _ hx).1,Zk hB⟩
  ·exact⟨(hT.2.2.1.2 _ _ hv).1,(hT.2.2.1.2 _ _ hv).2.imp id (pJ hT hx hxv)⟩
 ·intro k p hp;have h1:=hT.2.2.2.1.1 k p hp;refine⟨λq r hr=>mm hX.2.2 hx rfl (h1.1 q r hr),h1.2.imp id ?_⟩;rintro⟨i1,n,b1,b2,b3,b4⟩;exact Qc
 ·intro k v hv;rcases mi hv with rfl|⟨k1,hv⟩
  ·exact QS
  ·exact hT.2.2.2.1.2.2 _ _ hv
 ·intro k v hv;rcases mi hv with rfl|⟨k1,hv⟩
  ·intro q r hr;simp[mkV] at hr
  ·exact hT.2.2.2.2.1.1 _ _ hv
 ·intro k n hn;have h1:onOf n.n c.vs<=n.s:=hT.2.2.2.2.1.2 k n hn;show onOf n.n (aQ (pl Vd.n c.vs (aC++x.n)) (mkV x t) c.vs)<=n.s;rw[agU _ _ _ _ rfl];exact h1
 ·intro k n hn q r hr;obtain⟨i1,v,b1,b2,b3⟩:=hT.2.2.2.2.2.1 k n hn q r hr;obtain⟨i2,b1'⟩:=ob (pl Vd.n c.vs (aC++x.n)) (mkV x t) b1;exact⟨i2,v,b1',b2,b3⟩
 ·intro k p hp h2;obtain⟨i1,n,b1,b2,b3,b4⟩:=hT.2.2.2.2.2.2 k p hp h2;exact Qc
end
theorem xM(s:ByteArray):(aC++s).size=2+s.size:=by rw[ByteArray.size_append];rfl
theorem nZ(h:aN s) (hs:s.size<=18):aN (aC++s):=by
 obtain⟨h1,-,h3⟩:=h;have hz:=xM s;refine⟨by omega,by omega,λi hi=>?_⟩;by_cases h2:i<2
 ·have e:(aC++s)[i]'hi=aC[i]'(by exact h2):=ByteArray.getElem_append_left h2;rw[e];match i,h2 with
  | 0,_=>rfl
  | 1,_=>rfl
 ·have e:(aC++s)[i]'hi=s[i - 2]'(by omega):=ByteArray.getElem_append_right (by show 2<=i;omega);rw[e];have:=h3 (i - 2) af;revert this;generalize (s[i - 2]'(by omega)).toNat=b;intro h;have hi0:¬i=0:=af
  unfold okB at h ⊢;rw[if_neg hi0];by_cases h4:i - 2=0
  ·rw[if_pos h4] at h;simp[nbB,h]
  ·rw[if_neg h4] at h;exact h
theorem Sx(sv:Vd->Bool) (acc:Option Vd) (v:Vd):stepB sv acc v=acc\/(stepB sv acc v=M v/\sv v=Zi):=by
 unfold stepB;exact (Decidable.em _).elim (λh=>Zk ⟨if_pos h,(Bool.and_eq_true_iff.1 h).1⟩) (λh=>Zl (if_neg h))
theorem Bl(sv:Vd->Bool) {u:Vd} :∀(vs:List Vd) (acc:Option Vd),vs.foldl (stepB sv) acc=M u->acc=M u\/sv u=Zi
 | [],_,h=>Zl h
 | v ::vs,acc,h=>by
  rcases Bl sv vs (stepB sv acc v) h with h1|h1
  ·rcases Sx sv acc v with h2|⟨h2,h3⟩
   ·rw[h2] at h1;exact Zl h1
   ·rw[h2] at h1;obtain rfl:=Yd h1;exact Zk h3
  ·exact Zk h1
theorem BB {z:ByteArray} (ht:dz t) (hz:dz z) (h:¬aT t z=⟨#[]⟩):aN (aT t z):=by
 unfold aT at h ⊢;by_cases e:t=⟨#[]⟩
 ·rw[if_pos e] at h ⊢;exact hz.resolve_left h
 ·rw[if_neg e];exact ht.resolve_left e
theorem pL {x:Xd} {k:Kd} (hT:au c) (hx:c.xs[i]?=M x) (hxv:x.v=⟨#[]⟩) (hk:c.ks[j]?=M k) (ht:dz t) (h:eM c i x k t o) (h0:o.p=0):au o.c:=by
 rcases h with ⟨j1,u,a1,a2,rfl⟩|⟨-,⟨-,rfl⟩|⟨a2,⟨-,rfl⟩|⟨a3,⟨-,rfl⟩|⟨a4,rfl⟩⟩⟩⟩
 ·have h1:=(Bl _ _ _ a1).resolve_left (λe=>by cases e);unfold svV svB at h1;simp only[Bool.and_eq_true_iff] at h1;obtain⟨⟨⟨⟨⟨b1,b2⟩,b3⟩,b4⟩,b5⟩,-⟩:=h1;exact ym hT hx hxv a2 ((eP _).1 b4) (by simpa using b3) (of_decide_eq_true b5) (dy b1) (eq_of_beq b2)
 ·exact absurd h0 ag
 ·exact absurd h0 ag
 ·exact absurd h0 ag
 ·exact xL hT hx hxv a3 a4 (nZ (hT.2.1.2.2.2.1.2.1 _ _ hx).1 a2.2.2.2.2) (BB ht (hT.2.1.2.1.2.1 _ _ hk).2 a2.1)
def R_(c:Cl) (v:Vd) (s:ByteArray):Prop:=v.x=Zi/\((∃(j:Nat) (t:ByteArray),v.zs[j]?=M t/\¬t=s)\/∃(j:Nat) (p:Pd),c.ps[j]?=M p/\¬p.d=⟨#[]⟩/\¬p.d=s/\InL p.zs v.m)
def gN(c:Cl) (n:Nd) (t:ByteArray) (c':Cl) (e:Int):Prop:=∃(i:Nat) (x:Xd),c.xs[i]?=M x/\x.n=t/\
 ((∃(j:Nat) (v:Vd),c.vs[j]?=M v/\v.n=x.v/\c'=c/\((¬v.z=n.z/\e=8)\/(v.z=n.z/\R_ c v n.n/\e=10)\/(v.z=n.z/\¬R_ c v n.n/\e=0)))\/
  (x.v=⟨#[]⟩/\∃(j:Nat) (k:Kd) (o:Co),c.ks[j]?=M k/\k.n=x.k/\eM c i x k n.z o/\c'=o.c/\((k.x=Zg/\e=11)\/(k.x=Zi/\e=o.p))))
theorem gN.same(hT:au c) (h:gN c n t c1 e1) (h':gN c n t c2 e2):c1=c2/\e1=e2:=by
 obtain⟨i,x,a1,a2,a⟩:=h;obtain⟨i',x',b1,b2,b⟩:=h';obtain⟨rfl,rfl⟩:=hT.2.1.2.2.2.1.2.2.inj a1 b1 (a2.trans b2.symm);rcases a with ⟨j,v,a3,a4,rfl,a⟩|⟨a3,j,k,o,a4,a5,a6,rfl,a⟩ <;> rcases b with ⟨j',v',b3,b4,rfl,b⟩|⟨b3,j',k',o',b4,b5,b6,rfl,b⟩
 ·obtain⟨-,rfl⟩:=hT.2.1.2.2.1.2.2.inj a3 b3 (a4.trans b4.symm);refine⟨rfl,?_⟩;rcases a with ⟨p1,rfl⟩|⟨p1,p2,rfl⟩|⟨p1,p2,rfl⟩ <;> rcases b with ⟨q1,rfl⟩|⟨q1,q2,rfl⟩|⟨q1,q2,rfl⟩ <;> first|rfl|exact absurd q1 p1|exact absurd p1 q1|exact absurd q2 p2|exact absurd p2 q2
 ·exact absurd (a4.trans b3) (cP.ne hT.2.1 _ _ a3)
 ·exact absurd (b4.trans a3) (cP.ne hT.2.1 _ _ b3)
 ·obtain⟨-,rfl⟩:=hT.2.1.2.1.2.2.inj a4 b4 (a5.trans b5.symm);obtain rfl:=a6.same hT b6;refine⟨rfl,?_⟩;rcases a with ⟨p1,rfl⟩|⟨p1,rfl⟩ <;> rcases b with ⟨q1,rfl⟩|⟨q1,rfl⟩
  ·rfl
  ·rw[p1] at q1;cases q1
  ·rw[p1] at q1;cases q1
  ·rfl
theorem eM.keeps {x:Xd} {k:Kd} (hT:au c) (hx:c.xs[i]?=M x) (h:eM c i x k t o) (h0:o.p=0):o.c.ns=c.ns/\o.c.ks=c.ks/\o.c.ps=c.ps/\o.c.now=c.now/\∀s,hit Xd.n c.xs s=Zi->hit Xd.n o.c.xs s=Zi:=by
 rcases h with ⟨j1,u,-,-,rfl⟩|⟨-,⟨-,rfl⟩|⟨-,⟨-,rfl⟩|⟨-,⟨-,rfl⟩|⟨-,rfl⟩⟩⟩⟩
 ·exact⟨rfl,rfl,rfl,rfl,λs hs=>mm hT.2.1.2.2.2.1.2.2 hx rfl hs⟩
 ·exact absurd h0 ag
 ·exact absurd h0 ag
 ·exact absurd h0 ag
 ·exact⟨rfl,rfl,rfl,rfl,λs hs=>mm hT.2.1.2.2.2.1.2.2 hx rfl hs⟩
theorem gN.right {c':Cl} (hT:au c) (hn:aN n.z) (h:gN c n t c' 0):au c'/\c'.ns=c.ns/\c'.ks=c.ks/\c'.ps=c.ps/\c'.now=c.now/\∀s,hit Xd.n c.xs s=Zi->hit Xd.n c'.xs s=Zi:=by
 obtain⟨i,x,a1,-,a⟩:=h;rcases a with ⟨j,v,-,-,rfl,-⟩|⟨a3,j,k,o,a4,-,a6,rfl,a⟩
 ·exact⟨hT,rfl,rfl,rfl,rfl,λ_ h=>h⟩
 ·rcases a with ⟨-,e⟩|⟨-,e⟩
  ·exact absurd e ag
  ·exact⟨pL hT a1 a3 a4 (Zk hn) a6 e.symm,a6.keeps hT a1 e.symm⟩
def er(c:Cl) (n:Nd) (ts:List ByteArray):Nat->Cl->Prop
 | 0,c'=>c'=c
 | k+1,c'=> ∃(c1:Cl) (t:ByteArray),er c n ts k c1/\ts[k]?=M t/\gN c1 n t c' 0
theorem er.right(hT:au c) (hn:aN n.z):∀(k:Nat) (c':Cl),er c n ts k c'->au c'/\c'.ns=c.ns/\c'.ks=c.ks/\c'.ps=c.ps/\c'.now=c.now/\∀s,hit Xd.n c.xs s=Zi->hit Xd.n c'.xs s=Zi
 | 0,c',h=>by
  obtain rfl:c'=c:=h;exact⟨hT,rfl,rfl,rfl,rfl,λ_ h=>h⟩
 | k+1,c',h=>by
  obtain⟨c1,t,h1,-,h3⟩:=h;obtain⟨r1,r2,r3,r4,r5,r6⟩:=er.right hT hn k c1 h1;obtain⟨q1,q2,q3,q4,q5,q6⟩:=h3.right r1 hn;exact⟨q1,q2.trans r2,q3.trans r3,q4.trans r4,q5.trans r5,λs hs=>q6 s (r6 s hs)⟩
theorem er.same(hT:au c) (hn:aN n.z):∀(k:Nat) (c1 c2:Cl),er c n ts k c1->er c n ts k c2->c1=c2
 | 0,_,_,h,h'=>Eq.trans h (Eq.symm h')
 | k+1,c1,c2,h,h'=>by
  obtain⟨d1,t,h1,h2,h3⟩:=h;obtain⟨d2,t',g1,g2,g3⟩:=h';obtain rfl:=er.same hT hn k d1 d2 h1 g1;rw[h2] at g2;obtain rfl:=Yd g2;exact (h3.same (er.right hT hn k _ h1).1 g3).1
theorem er.less:∀(k j:Nat) (c':Cl),j<=k->er c n ts k c'->∃c1,er c n ts j c1
 | 0,j,c',h,r=>by
  obtain rfl:j=0:=af
  exact⟨c',r⟩
 | k+1,j,c',h,r=>by
  by_cases e:j=k+1
  ·subst e;exact⟨c',r⟩
  ·obtain⟨c1,t,r1,-,-⟩:=r;exact er.less k j c1 af r1
def Sp(c:Cl) (n:Nd) (ts:List ByteArray) (c':Cl) (e:Int):Prop:=(er c n ts ts.length c'/\e=0)\/∃(k:Nat) (c1:Cl) (t:ByteArray),er c n ts k c1/\ts[k]?=M t/\gN c1 n t c' e/\¬e=0
theorem Sp.same(hT:au c) (hn:aN n.z) (h:Sp c n ts c1 e1) (h':Sp c n ts c2 e2):c1=c2/\e1=e2:=by
 have gen:∀{k k':Nat} {d d' d1:Cl} {t:ByteArray} {e:Int},er c n ts k d->ts[k]?=M t->gN d n t d1 e->¬e=0->er c n ts k' d'->k'<=k:=fun {k k' d d' d1 t e} r ht hd he r'=>by
  rcases Nat.lt_or_ge k k' with hk|hk
  ·obtain⟨f,r2⟩:=er.less k' (k+1) d' hk r';obtain⟨g,t',r3,ht',hd'⟩:=r2;obtain rfl:=er.same hT hn k _ _ r r3;rw[ht] at ht';obtain rfl:=Yd ht';exact absurd (hd.same (er.right hT hn k _ r).1 hd').2 he
  ·exact hk
 rcases h with ⟨a1,rfl⟩|⟨k,d,t,a1,a2,a3,a4⟩ <;> rcases h' with ⟨b1,rfl⟩|⟨k',d',t',b1,b2,b3,b4⟩
 ·exact⟨er.same hT hn _ _ _ a1 b1,rfl⟩
 ·have h1:=gen b1 b2 b3 b4 a1;have h2:=(Yc.1 b2).1;omega
 ·have h1:=gen a1 a2 a3 a4 b1;have h2:=(Yc.1 a2).1;omega
 ·have h1:=gen b1 b2 b3 b4 a1;have h2:=gen a1 a2 a3 a4 b1;obtain rfl:k=k':=af
  obtain rfl:=er.same hT hn k _ _ a1 b1;rw[a2] at b2;obtain rfl:=Yd b2;exact a3.same (er.right hT hn k _ a1).1 b3
def inB(zs:List ByteArray) (t:ByteArray):Bool:=zs.any λz=>z.toList==t.toList
theorem eR:inB zs t=Zi↔InL zs t:=by
 unfold inB;rw[List.any_eq_true];constructor
 ·rintro⟨z,hz,he⟩;obtain⟨j,hj⟩:=YG hz;exact⟨j,by rw[hj,dy he]⟩
 ·rintro⟨j,hj⟩;exact⟨t,Yv hj,aP rfl⟩
def yB(c:Cl) (t m:ByteArray):Bool:=c.ps.any λp=>(p.d.toList==t.toList) && inB p.zs m
theorem eh {m:ByteArray} :yB c t m=Zi↔∃(j:Nat) (p:Pd),c.ps[j]?=M p/\R9 p t m:=by
 unfold yB;rw[List.any_eq_true];constructor
 ·rintro⟨p,hp,he⟩;obtain⟨j,hj⟩:=YG hp;rw[YI] at he;exact⟨j,p,hj,dy he.1,eR.1 he.2⟩
 ·rintro⟨j,p,hj,h1,h2⟩;exact⟨p,Yv hj,by rw[YI];exact⟨aP h1,eR.2 h2⟩⟩
def onB(c:Cl) (t:ByteArray) (v:Vd):Bool:=inB v.zs t || yB c t v.m
def oA(c:Cl) (t:ByteArray) (vs:List Vd):List ByteArray:=(vs.filter (onB c t)).map Vd.n
def RT(zs:List ByteArray):Prop:=zs.Pairwise λa b=>Yk a.toList b.toList=Zi
theorem Put.mem(h:Put t zs ZB) (s:ByteArray):s∈ZB↔s∈zs\/s=t:=by
 exact aii
theorem Put.len(h:Put t zs ZB):ZB.length<=zs.length+1:=by
 exact QC
theorem Put.ris(h:Put t zs ZB) (hr:RT zs):RT ZB:=by
 rcases h with ⟨_,rfl⟩|⟨k,hk,rfl,Zo,hgt⟩
 ·exact hr
 ·have h1:RT (zs.take k++zs.drop k):=by rw[List.take_append_drop];exact hr
  obtain⟨h2,h3,h4⟩:=Y6.1 h1;have h5:∀a∈zs.take k,Yk a.toList t.toList=Zi:=λa ha=>by
   exact Qw
  have h6:∀a∈zs.drop k,Yk t.toList a.toList=Zi:=λa ha=>by
   cases hd:zs.drop k with
   | nil=>rw[hd] at ha;cases ha
   | cons b r=>
    have hb:zs[k]?=M b:=by rw[<-Nat.add_zero k,<-YN,hd];rfl
    have h7:=hgt b hb;rw[hd] at ha h3
    rcases YT.1 ha with rfl|ha
    ·exact h7
    ·exact cK _ _ _ h7 ((List.pairwise_cons.1 h3).1 a ha)
  refine Y6.2 ⟨Y6.2 ⟨h2,List.pairwise_singleton _ _,λa ha b hb=>?_⟩,h3,λa ha b hb=>?_⟩
  ·rw[List.mem_singleton.1 hb];exact h5 a ha
  ·rcases List.mem_append.1 ha with ha|ha
   ·exact cK _ _ _ (h5 a ha) (h6 b hb)
   ·rw[List.mem_singleton.1 ha];exact h6 b hb
def aly(t:ByteArray) (zs:List ByteArray) (w:World) (e:Ending) (w':World):Prop:=∃a' l' c' ZB,e=Zh (U a' l' c')/\aw w' a' l' c' ZB/\Put t zs ZB/\Below w.heap.size w w'
theorem RT.ext:∀{xs ys:List ByteArray},RT xs->RT ys->(∀s,s∈xs↔s∈ys)->xs=ys
 | [],[],_,_,_=>rfl
 | [],b ::ys,_,_,h=>by have:=(h b).2 (Y5 ..);cases this
 | a ::xs,[],_,_,h=>by have:=(h a).1 (Y5 ..);cases this
 | a ::xs,b ::ys,hx,hy,h=>by
  obtain⟨x1,x2⟩:=List.pairwise_cons.1 hx;obtain⟨y1,y2⟩:=List.pairwise_cons.1 hy;have hab:a=b:=by
   rcases YT.1 ((h a).1 (Y5 ..)) with e|ha
   ·exact e
   ·rcases YT.1 ((h b).2 (Y5 ..)) with e|hb
    ·exact e.symm
    ·have h9:=cK _ _ _ (y1 a ha) (x1 b hb);rw[eG] at h9;cases h9
  subst hab;have ne:∀{l:List ByteArray},(∀s∈l,Yk a.toList s.toList=Zi)->∀s∈l,¬s=a:=λhl s hs e=>by
   have h9:=hl s hs;rw[e,eG] at h9;cases h9
  rw[RT.ext x2 y2 (λs=>⟨λhs=>(YT.1 ((h s).1 (List.mem_cons_of_mem _ hs))).resolve_left (ne x1 s hs),λhs=>(YT.1 ((h s).2 (List.mem_cons_of_mem _ hs))).resolve_left (ne y1 s hs)⟩)]
theorem oJ(a:Option Addr) (len cap:Nat) (zs:List ByteArray) (t:ByteArray) (w:World) (hr:aw w a len cap zs) (hl:len<=64) (ht:t.size<=9223372036854775807):
  Calls Tryz.prog 146 #[U a len cap,I t] w (aly t zs w):=by
 have HR:=G hr;have hlc:=hr.2.1;have hcm:=hr.2.2.1;have hzl:=hr.1;have auM:=@G _ @aeH;exact Ay
def iX(c:Cl) (zs:List ByteArray) (s:ByteArray):Prop:=∃(j:Nat) (t:ByteArray) (v:Vd),zs[j]?=M t/\aX c t v/\v.n=s
theorem aX.name {v':Vd} (hx:aH Xd.n c.xs) (h:aX c t v) (h':aX c t v'):v.n=v'.n:=by
 exact Qy
theorem iX.snoc:iX c (cs++[t]) s↔iX c cs s\/∃v,aX c t v/\v.n=s:=by
 constructor
 ·rintro⟨j,t',v,h1,h2,h3⟩;rw[List.getElem?_append] at h1;split at h1
  ·exact Zl ⟨j,t',v,h1,h2,h3⟩
  ·have h4:=Yv h1;rw[List.mem_singleton] at h4;subst h4;exact Zk ⟨v,h2,h3⟩
 ·rintro (⟨j,t',v,h1,h2,h3⟩|⟨v,h2,h3⟩)
  ·exact⟨j,t',v,by rw[Yu (Yc.1 h1).1];exact h1,h2,h3⟩
  ·exact⟨cs.length,t,v,by simp,h2,h3⟩
theorem RY(hx:aH Xd.n c.xs) (hb:aX c t v):((s∈zs\/iX c cs s)\/s=v.n)↔(s∈zs\/iX c (cs++[t]) s):=by
 rw[iX.snoc];constructor
 ·rintro ((h|h)|rfl)
  ·exact Zl h
  ·exact Zk (Zl h)
  ·exact Zk (Zk ⟨v,hb,rfl⟩)
 ·rintro (h|h|⟨v',h1,rfl⟩)
  ·exact Zl (Zl h)
  ·exact Zl (Zk h)
  ·exact Zk (h1.name hx hb)
theorem ahb(hb:∀v,¬aX c t v):(s∈zs\/iX c cs s)↔(s∈zs\/iX c (cs++[t]) s):=by
 rw[iX.snoc];constructor
 ·rintro (h|h)
  ·exact Zl h
  ·exact Zk (Zl h)
 ·rintro (h|h|⟨v',h1,_⟩)
  ·exact Zl h
  ·exact Zk h
  ·exact absurd h1 (hb v')
theorem oO(d:Ad) (c:Cl) (t:ByteArray) (w:World) (hr:aA w d c.raw) (hT:au c) {j:Nat} {v:Vd} (hv:c.vs[j]?=M v) (hb:aX c t v):
  Calls Tryz.prog 37 #[Zj (Zs d c.now),I t] w λe w'=>e=Zh (V O j)/\Below w.heap.size w w':=by
 have arI:=@G _ @adI;exact qE
theorem rY(d:Ad) (c:Cl) (t:ByteArray) (w:World) (hr:aA w d c.raw) (hT:au c) (ε:∀v,¬aX c t v):
  Calls Tryz.prog 37 #[Zj (Zs d c.now),I t] w λe w'=>e=Zh (V O (-1))/\Below w.heap.size w w':=by
 have arI:=@G _ @adH;exact qE
def alG(c:Cl) (zs cs:List ByteArray) (w:World) (e:Ending) (w':World):Prop:=∃a' l' c' ZB,e=Zh (U a' l' c')/\aw w' a' l' c' ZB/\RT ZB/\(∀s,s∈ZB↔s∈zs\/iX c cs s)/\ZB.length<=zs.length+cs.length/\Below w.heap.size w w'
theorem oP(d:Ad) (c:Cl) (a:Option Addr) (len cap:Nat) (zs:List ByteArray) (p:Pd) (va:Option Addr) (vl vc:Nat) (w:World) (hr:aA w d c.raw) (hT:au c) (hz:aw w a len cap zs) (hri:RT zs) (hp:aw w va vl vc p.zs) (hl:len+vl<=60):
  Calls Tryz.prog 179 #[Zj (Zs d c.now),U a len cap,Zj #[I p.n,V O p.c,I p.z,U va vl vc,I p.d,V O p.p]] w (alG c zs p.zs w):=by
 have υ:=@G _ @ab9;exact bQ
def PBs(c:Cl) (t:ByteArray) (k:Nat) (s:ByteArray):Prop:=∃(j:Nat) (p:Pd),j<k/\c.ps[j]?=M p/\p.d=t/\iX c p.zs s
def VBs(c:Cl) (t:ByteArray) (k:Nat) (s:ByteArray):Prop:=∃(j:Nat) (v:Vd),j<k/\c.vs[j]?=M v/\InL v.zs t/\v.n=s
theorem PBs.yes {p:Pd} (hp:c.ps[k]?=M p) (hd:p.d=t):PBs c t (k+1) s↔PBs c t k s\/iX c p.zs s:=by
 constructor
 ·rintro⟨j,q,h1,h2,h3,h4⟩;by_cases e:j=k
  ·subst e;rw[hp] at h2;obtain rfl:=Yd h2;exact Zk h4
  ·exact Zl ⟨j,q,by omega,h2,h3,h4⟩
 ·rintro (⟨j,q,h1,h2,h3,h4⟩|h)
  ·exact⟨j,q,by omega,h2,h3,h4⟩
  ·exact⟨k,p,by omega,hp,hd,h⟩
theorem PBs.no {p:Pd} (hp:c.ps[k]?=M p) (hd:¬p.d=t):PBs c t (k+1) s↔PBs c t k s:=by
 exact Q6
theorem VBs.yes(hp:c.vs[k]?=M v) (hd:InL v.zs t):VBs c t (k+1) s↔VBs c t k s\/s=v.n:=by
 constructor
 ·rintro⟨j,q,h1,h2,h3,h4⟩;by_cases e:j=k
  ·subst e;rw[hp] at h2;obtain rfl:=Yd h2;exact Zk h4.symm
  ·exact Zl ⟨j,q,by omega,h2,h3,h4⟩
 ·rintro (⟨j,q,h1,h2,h3,h4⟩|h)
  ·exact⟨j,q,by omega,h2,h3,h4⟩
  ·exact⟨k,v,by omega,hp,hd,h.symm⟩
theorem VBs.no(hp:c.vs[k]?=M v) (hd:¬InL v.zs t):VBs c t (k+1) s↔VBs c t k s:=by
 exact Q6
def AdF(c:Cl) (zs cs:List ByteArray):Fact:=λv w=> ∃a' l' c' ZB,v=U a' l' c'/\aw w a' l' c' ZB/\RT ZB/\(∀s,s∈ZB↔s∈zs\/iX c cs s)/\ZB.length<=zs.length+cs.length
theorem AdF.mono:Fact.bT (AdF c zs cs):=by
 rintro v w w' ⟨a',l',c',ZB,h1,h2,h3⟩ hb;exact⟨a',l',c',ZB,h1,h2.below hb,h3⟩
def alF(c:Cl) (t:ByteArray) (w:World) (e:Ending) (w':World):Prop:=∃a' l' c' ZB,e=Zh (U a' l' c')/\aw w' a' l' c' ZB/\RT ZB/\(∀s,s∈ZB↔PBs c t c.ps.length s\/VBs c t c.vs.length s)/\Below w.heap.size w w'
theorem BR(d:Ad) (c:Cl) (t:ByteArray) (w:World) (hr:aA w d c.raw) (hT:au c):
  Calls Tryz.prog 180 #[Zj (Zs d c.now),I t] w (alF c t w):=by
 have anV:=@G _ @afP;exact dn
theorem aH.rt(h:aH nm xs):RT (xs.map nm):=by
 exact QO
theorem oA.rt(h:aH Vd.n c.vs):RT (oA c t c.vs):=List.Pairwise.sublist (List.filter_sublist.map _) h.rt
theorem mf(h:aN x):¬x=⟨#[]⟩:=λe=>by
 rw[e] at h;have h8:=h.1;revert h8;decide
theorem RR(hT:au c) (hr:RT zs) (hm:∀s,s∈zs↔PBs c t c.ps.length s\/VBs c t c.vs.length s):zs=oA c t c.vs:=by
 have hv:=hT.2.1.2.2.1.2.2;refine hr.ext (oA.rt hv) (λs=>?_);rw[hm];unfold oA;rw[List.mem_map];constructor
 ·rintro (⟨j,p,_,hp,hd,k,cl,v,hk,hb,rfl⟩|⟨j,v,_,h2,h3,rfl⟩)
  ·obtain⟨i,jv,x,h1,h2,h3,h4⟩:=hb;have avi:=@G _ @adb;exact Ae
  ·exact Qq
 ·have asY:=@G _ @acD;exact qy
def onP(p:Pd) (s:ByteArray):Pd:=⟨p.n,p.c,p.z,p.zs,s,1⟩
def plC(c:Cl) (i:Nat) (p:Pd) (s:ByteArray):Cl:=⟨c.ns,c.ks,c.vs,c.xs,c.ps.set i (onP p s),c.now⟩
theorem og(hT:au c) (hz:∀(k:Nat) z,zs[k]?=M z->aN z):iX c zs s↔∃(j:Nat) (v:Vd),c.vs[j]?=M v/\v.n=s/\InL zs v.m:=by
 have hv:=hT.2.1.2.2.1.2.2;constructor
 ·rintro⟨k,cl,v,hk,⟨i,jv,x,h1,h2,h3,h4⟩,rfl⟩;have avi:=@G _ @ada;exact Ae
 ·rintro⟨jv,v,hj,rfl,k,hk⟩;have ZE:=mf (hz k v.m hk);obtain⟨i',j',x',v',k1,k2,k3,k4,k5,k6,_⟩:=(hT.2.2.1.1 jv v hj).2.resolve_left ZE;exact⟨k,v.m,v,hk,⟨i',jv,x',k1,k2,hj,k5.symm⟩,rfl⟩
theorem agQ(hT:au c):PBs c t c.ps.length s↔∃(j:Nat) (v:Vd),c.vs[j]?=M v/\v.n=s/\∃(k:Nat) (p:Pd),c.ps[k]?=M p/\R9 p t v.m:=by
 constructor
 ·rintro⟨j,p,_,hp,hd,hb⟩;obtain⟨jv,v,h1,h2,h3⟩:=(og hT (λk z hk=>((hT.2.1.2.2.2.2.2.1 j p hp).2.2.2.1.2 k z hk).1)).1 hb;exact⟨jv,v,h1,h2,j,p,hp,hd,h3⟩
 ·rintro⟨jv,v,h1,h2,j,p,hp,hd,h3⟩;exact⟨j,p,(Yc.1 hp).1,hp,hd,(og hT (λk z hk=>((hT.2.1.2.2.2.2.2.1 j p hp).2.2.2.1.2 k z hk).1)).2 ⟨jv,v,h1,h2,h3⟩⟩
theorem Ca {p:Pd} (hT:au c) (hp:c.ps[i]?=M p) (hd:¬p.d=s) (hr:RT zs) (hm:∀t,t∈zs↔(PBs c s c.ps.length t\/VBs c s c.vs.length t)\/iX c p.zs t):zs=oA (plC c i p s) s c.vs:=by
 have hv:=hT.2.1.2.2.1.2.2;refine hr.ext (List.Pairwise.sublist (List.filter_sublist.map _) hv.rt) (λt=>?_);rw[hm,agQ hT,og hT (λk z hk=>((hT.2.1.2.2.2.2.2.1 i p hp).2.2.2.1.2 k z hk).1)];unfold oA;rw[List.mem_map];constructor
 ·rintro ((⟨j,v,h1,rfl,k,q,hq,hw⟩|⟨j,v,_,h2,h3,rfl⟩)|⟨j,v,h1,rfl,h3⟩)
  ·refine⟨v,List.mem_filter.2 ⟨Yv h1,?_⟩,rfl⟩;unfold onB;rw[Bool.or_eq_true];refine Zk (eh.2 ⟨k,q,dj (λe=>?_) hq,hw⟩);subst e;rw[hp] at hq;obtain rfl:=Yd hq;exact hd hw.1
  ·exact Qq
  ·refine⟨v,List.mem_filter.2 ⟨Yv h1,?_⟩,rfl⟩;unfold onB;rw[Bool.or_eq_true];exact Zk (eh.2 ⟨i,onP p s,fp hp,rfl,h3⟩)
 ·have asY:=@G _ @acC;exact qy
def So(c:Cl) (n:Nd):Prop:=n.d=Zi\/n.u<=c.now
def R8(p:Pd) (n:Nd):Prop:=¬p.z=⟨#[]⟩/\¬p.z=n.z
def ahn(c:Cl) (p:Pd) (n:Nd):Prop:=n.c - cpuOf n.n c.ps<p.c
def rq(c:Cl) (i:Nat) (p:Pd) (n:Nd):Prop:=n.s<((oA (plC c i p n.n) n.n c.vs).length:Int)
def lF(c:Cl) (i:Nat) (p:Pd) (n:Nd) (c':Cl) (e:Int):Prop:=
 (So c n/\e=11)\/(¬So c n/\((R8 p n/\e=8)\/(¬R8 p n/\((ahn c p n/\e=9)\/(¬ahn c p n/\∃c1 e1,Sp c n p.zs c1 e1/\
  ((¬e1=0/\e=e1)\/(e1=0/\((rq c1 i p n/\e=9)\/(¬rq c1 i p n/\e=0/\c'=plC c1 i p n.n)))))))))
theorem lF.same {p:Pd} (hT:au c) (hn:aN n.z) (h:lF c i p n c1 e1) (h':lF c i p n c2 e2):e1=e2/\(e1=0->c1=c2):=by
 rcases h with ⟨a1,rfl⟩|⟨a1,⟨a2,rfl⟩|⟨a2,⟨a3,rfl⟩|⟨a3,d1,f1,a4,a5⟩⟩⟩ <;> rcases h' with ⟨b1,rfl⟩|⟨b1,⟨b2,rfl⟩|⟨b2,⟨b3,rfl⟩|⟨b3,d2,f2,b4,b5⟩⟩⟩
 all_goals first
  | exact⟨rfl,λe=>absurd e ag⟩
  | exact absurd a1 b1
  | exact absurd b1 a1
  | exact absurd a2 b2
  | exact absurd b2 a2
  | exact absurd a3 b3
  | exact absurd b3 a3
  | skip
 obtain⟨rfl,rfl⟩:=a4.same hT hn b4;rcases a5 with ⟨a5,rfl⟩|⟨a5,⟨a6,rfl⟩|⟨a6,rfl,rfl⟩⟩ <;> rcases b5 with ⟨b5,rfl⟩|⟨b5,⟨b6,rfl⟩|⟨b6,rfl,rfl⟩⟩
 all_goals first
  | exact⟨rfl,λe=>absurd e a5⟩
  | exact absurd a5 b5
  | exact absurd b5 a5
  | exact⟨rfl,λe=>absurd e ag⟩
  | exact absurd a6 b6
  | exact absurd b6 a6
  | exact⟨rfl,λ_=>rfl⟩
def frN(c:Cl) (n:Nd):Int:=n.c - cpuOf n.n c.ps
def oD(c:Cl) (i:Nat) (p:Pd) (n:Nd):Prop:=∃c',lF c i p n c' 0
def rA(c:Cl) (i:Nat) (p:Pd):Prop:=∀(j:Nat) n,c.ns[j]?=M n->¬oD c i p n
def ahs(c:Cl) (i:Nat) (p:Pd) (b:Nat) (n:Nd):Prop:=c.ns[b]?=M n/\oD c i p n/\∀(j:Nat) m,c.ns[j]?=M m->oD c i p m->frN c m<frN c n\/(frN c m=frN c n/\b<=j)
theorem oD.cpu {p:Pd} (h:oD c i p n):p.c<=frN c n:=by
 obtain⟨c',h⟩:=h;rcases h with ⟨_,h⟩|⟨_,⟨_,h⟩|⟨_,⟨_,h⟩|⟨h,_⟩⟩⟩
 ·exact absurd h ag
 ·exact absurd h ag
 ·exact absurd h ag
 ·unfold ahn at h;unfold frN;omega
def fm(c:Cl) (i:Nat) (p:Pd) (k:Nat) (apb Zu:Int):Prop:=
 (apb= -1/\Zu= -1/\∀(j:Nat) n,j<k->c.ns[j]?=M n->¬oD c i p n)\/
 ∃(b:Nat) (n:Nd),apb=b/\b<k/\Zu=frN c n/\c.ns[b]?=M n/\oD c i p n/\∀(j:Nat) m,j<k->c.ns[j]?=M m->oD c i p m->frN c m<frN c n\/(frN c m=frN c n/\b<=j)
theorem fm.zero {p:Pd} :fm c i p 0 (-1) (-1):=Zl ⟨rfl,rfl,λ_ _ h=>absurd h (by omega)⟩
theorem fm.pass {p:Pd} (h:fm c i p k apb Zu) (hn:c.ns[k]?=M n) (hp:0<=p.c) (hf:frN c n<=Zu):fm c i p (k+1) apb Zu:=by
 rcases h with ⟨h1,h2,h3⟩|⟨b,m,h1,h2,h3,h4,h5,h6⟩
 ·refine Zl ⟨h1,h2,λj x hj hx hF=>?_⟩;by_cases e:j=k
  ·subst e;rw[hn] at hx;obtain rfl:=Yd hx;have:=hF.cpu;omega
  ·exact h3 j x af hx hF
 ·refine Zk ⟨b,m,h1,by omega,h3,h4,h5,λj x hj hx hF=>?_⟩;by_cases e:j=k
  ·subst e;rw[hn] at hx;obtain rfl:=Yd hx;omega
  ·exact h6 j x af hx hF
theorem fm.no {p:Pd} (h:fm c i p k apb Zu) (hn:c.ns[k]?=M n) (hf:¬oD c i p n):fm c i p (k+1) apb Zu:=by
 rcases h with ⟨h1,h2,h3⟩|⟨b,m,h1,h2,h3,h4,h5,h6⟩
 ·refine Zl ⟨h1,h2,λj x hj hx hF=>?_⟩;by_cases e:j=k
  ·subst e;rw[hn] at hx;obtain rfl:=Yd hx;exact hf hF
  ·exact h3 j x af hx hF
 ·refine Zk ⟨b,m,h1,by omega,h3,h4,h5,λj x hj hx hF=>?_⟩;by_cases e:j=k
  ·subst e;rw[hn] at hx;obtain rfl:=Yd hx;exact absurd hF hf
  ·exact h6 j x af hx hF
theorem fm.take {p:Pd} (h:fm c i p k apb Zu) (hn:c.ns[k]?=M n) (hf:¬frN c n<=Zu) (hF:oD c i p n):fm c i p (k+1) k (frN c n):=by
 refine Zk ⟨k,n,rfl,by omega,rfl,hn,hF,λj x hj hx hG=>?_⟩;by_cases e:j=k
 ·subst e;rw[hn] at hx;obtain rfl:=Yd hx;exact Zk ⟨rfl,by omega⟩
 ·rcases h with ⟨_,_,h3⟩|⟨b,m,_,h2,h3,h4,h5,h6⟩
  ·exact absurd hG (h3 j x af hx)
  ·have:=h6 j x af hx hG;exact Zl af
theorem fm.done {p:Pd} (h:fm c i p c.ns.length apb Zu):(apb= -1/\rA c i p)\/∃(b:Nat) (n:Nd),apb=b/\ahs c i p b n:=by
 rcases h with ⟨h1,_,h3⟩|⟨b,n,h1,_,_,h4,h5,h6⟩
 ·exact Zl ⟨h1,λj n hn=>h3 j n (Yc.1 hn).1 hn⟩
 ·exact Zk ⟨b,n,h1,h4,h5,λj m hm=>h6 j m (Yc.1 hm).1 hm⟩
def we(c:Cl) (t:ByteArray):Nat->Prop
 | 0=>8000<t.size
 | 1=>¬8000<t.size/\¬au c
 | 2=>¬8000<t.size/\au c/\hit Pd.n c.ps t=Zg
 | 7=>¬8000<t.size/\au c/\∃x,c.ps[pl Pd.n c.ps t]?=M x/\x.n=t/\x.p=0/\rA c (pl Pd.n c.ps t) x
 | 8=>¬8000<t.size/\au c/\∃x,c.ps[pl Pd.n c.ps t]?=M x/\x.n=t/\¬x.p=0
 | _=>False
def anP(R:Cl->Nat->Pd->Nd->Cl->Prop) (c:Cl) (t:ByteArray) (o:Co):Prop:=(∃i,we c t i/\o=co0 (aZ i))\/(¬8000<t.size/\au c/\∃x b n c',c.ps[pl Pd.n c.ps t]?=M x/\x.n=t/\x.p=0/\ahs c (pl Pd.n c.ps t) x b n/\R c (pl Pd.n c.ps t) x n c'/\o=⟨c',n.n,0⟩)
def gM:Cl->ByteArray->Co->Prop:=anP λc i p n c'=>lF c i p n c' 0
theorem fq(many Zu:Nat) (w:World):Calls Tryz.prog 63 #[Zf Zi,V O many,V O Zu] w λe w'=>e=Zh (V O 7)/\Below w.heap.size w w':=by
 exact xq
theorem f_(many Zu:Nat) (hm:Zu<=many) (w:World):Calls Tryz.prog 63 #[Zf Zg,V O many,V O Zu] w λe w'=>e=Zh (V O 9)/\Below w.heap.size w w':=by
 exact xq
theorem jG(many Zu:Nat) (hm:many<Zu) (w:World):Calls Tryz.prog 63 #[Zf Zg,V O many,V O Zu] w λe w'=>e=Zh (V O 0)/\Below w.heap.size w w':=by
 exact xq
theorem dw.below {c:Cr} (h:dw w d c S) (hb:Below w.heap.size w w'):dw w' d c S:=⟨h.n.below hb,h.k.below hb,h.v.below hb,h.x.below hb,h.p.below hb⟩
theorem dw.bN {c:Cr} (h:dw w d c S) {b:Nat} {cs:Array Value} (hb:w.heap[b]?=M (Ze cs 33 (0,0))) (hk:∀k,¬k=b->w'.heap[k]?=w.heap[k]?):dw w' d c S:=
 ⟨(h.n.dZ hb ag ag).ay (λk _ s=>hk k s.2) (λ_ _ s=>s.1),(h.k.dZ hb ag ag).ay (λk _ s=>hk k s.2) (λ_ _ s=>s.1),(h.v.dZ hb ag ag).ay (λk _ s=>hk k s.2) (λ_ _ s=>s.1),(h.x.dZ hb ag ag).ay (λk _ s=>hk k s.2) (λ_ _ s=>s.1),(h.p.dZ hb ag ag).ay (λk _ s=>hk k s.2) (λ_ _ s=>s.1)⟩
theorem aiV {w4:World} {v4:Value} {base n hh:Nat} {xs:List Vd} {x:Vd} {va:Option Addr} {vl vc:Nat} {vss:List (List Value)} {H:Nat->Nat->Nat} {Q Q2:Nat->Prop} (hV:aR w Q 8 (xs.map vdF) vss H) (Z4:xs.length=n) (hj:j=pl Vd.n xs x.n) (hbs:w.heap.size<=base) (hB4:Below w.heap.size w w4)
  (hxf:∀(i:Nat) f,(vdF x)[i]?=M f->∃v,[I x.n,V O x.c,I x.z,I x.k,Zf x.x,I x.m,Zf x.y,U va vl vc][i]?=M v/\f.Fr w hh Q2 v) (hq:∀k,Q k->Q2 k->False) (ho4:w4.ownsRow base 37 8 v4 (n+1) (aQ j [I x.n,V O x.c,I x.z,I x.k,Zf x.x,I x.m,Zf x.y,U va vl vc] vss).flatten):
  ∃a' c',v4=U a' (n+1) c'/\av w4 a' (n+1) c' 8 37 ((aQ (pl Vd.n xs x.n) x xs).map vdF) (λk=>(Q k\/Q2 k)\/w.heap.size<=k):=by
 obtain⟨hjn,hV4⟩:=O2;obtain⟨H4,hV5⟩:=hV4.ins (p:=j) (r:=vdF x) (vs:=[I x.n,V O x.c,I x.z,I x.k,Zf x.x,I x.m,Zf x.y,U va vl vc]) (hh:=λ_=>hh) rfl rfl (λi f hf=>by
   obtain⟨v,h1,h2⟩:=hxf i f hf
   exact⟨v,h1,h2.ay (λcu _ q=>hB4.block _ (ae q)) (λ_ s=>Zl (Zk s))⟩) (λi zs h hz k r i2 zs2 hr2 ZP ZE e=>by
  obtain⟨v,_,h2⟩:=hxf i _ h;obtain⟨_,_,_,_,_,_,_,_,h3⟩:=h2
  have hkv:k<vss.length:=by rw[hV.len];exact (Yc.1 hr2).1
  obtain⟨v',_,h5⟩:=hV.cell k r _ hr2 (Yi hkv) i2 _ ZP;obtain⟨_,_,_,_,_,_,_,_,h6⟩:=h5
  rcases h3 with h3|⟨_,h3,_⟩
  ·exact hz h3
  ·rcases h6 with h6|⟨_,h6,_⟩
   ·exact ZE h6
   ·rw[e] at h6
    exact hq _ h6 h3) (λi i2 zs zs2 h _ h2 _=>by
  rcases i with _|_|_|_|_|_|_|_|i <;> simp[vdF] at h <;> rcases i2 with _|_|_|_|_|_|_|_|i2 <;> simp[vdF] at h2 <;> rfl) oT
 exact ail
theorem mB(g:Option Addr) (l n:Nat) (vs:List Vd) (x:Vd) (va:Option Addr) (vl vc hh:Nat) (Q Q2:Nat->Prop) (w:World) (ho:av w g l n 8 37 (vs.map vdF) Q) (hl8:l<=8) (hxf:∀(i:Nat) f,(vdF x)[i]?=M f->∃v,[I x.n,V O x.c,I x.z,I x.k,Zf x.x,I x.m,Zf x.y,U va vl vc][i]?=M v/\f.Fr w hh Q2 v) (hq:∀k,Q k->Q2 k->False):
  Calls Tryz.prog 65 #[U g l n,Zj #[I x.n,V O x.c,I x.z,I x.k,Zf x.x,I x.m,Zf x.y,U va vl vc]] w λe w'=> ∃a' c',e=Zh (U a' (l+1) c')/\av w' a' (l+1) c' 8 37 ((aQ (pl Vd.n vs x.n) x vs).map vdF) (λk=>(Q k\/Q2 k)\/w.heap.size<=k)/\Below w.heap.size w w':=by
 have hll:vs.length=l:=oQ
 have hln:=ho.2.1;have hnm:=ho.2.2.1;have HR:=G ho.row;obtain⟨vss,H,hV,hcell⟩:=ho.jK;have hvl:vss.length=l:=by rw[hV.len,Yq,hll]
 have HC:Hid (∀(j:Nat) u,vss.flatten[j]?=M u->∃b,g=M ⟨b,0,J⟩/\w.cell? ⟨b,j,J⟩=M u):=λj u hj=>by
  obtain⟨b,e,_,h3⟩:=hcell j u hj;exact⟨b,e,h3⟩
 have HVA:=G hV.all;have HV1:=G hV.one;have aoc:Hid (∀(w4:World) v4 base k,k=pl Vd.n vs x.n->w.heap.size<=base->Below w.heap.size w w4->w4.ownsRow base 37 8 v4 (l+1) (aQ k [I x.n,V O x.c,I x.z,I x.k,Zf x.x,I x.m,Zf x.y,U va vl vc] vss).flatten->∃a' c',v4=U a' (l+1) c'/\av w4 a' (l+1) c' 8 37 ((aQ (pl Vd.n vs x.n) x vs).map vdF) (λk=>(Q k\/Q2 k)\/w.heap.size<=k)):=λw4 v4 base k hk hbs hB4 ho4=>aiV hV hll hk hbs hB4 hxf hq ho4;obtain⟨i5,anX,ZO,η,ZP⟩:=info_parts jm;have Y_:=G (Yb anX (Yb ZO (Yb η ZP)));clear anX ZO η ZP hV hcell ho hxf hq;go_enter Tryz.func65,Tryz.ntmps65;go_wp2;go_loopw [5] (λvi wr=> ∃k:Nat,k<=l/\vi=V O k/\Hid (∀(j:Nat) y,j<k->vs[j]?=M y->Yk y.n.toList x.n.toList=Zi)/\Hid (Below (w.heap.size+1) (w.alloc (Ze #[I x.n,V O x.c,I x.z,I x.k,Zf x.x,I x.m,Zf x.y,U va vl vc] 37)) wr)) (λvi _=>l - (intOf vi).toNat);case atStart=>exact⟨0,by omega,rfl,λj y hj=>by omega,Yh _ _⟩
 case round=>
  obtain⟨k,hk,rfl,HE,HL⟩:=hrel;have hLs:w.heap.size+1<=wr.heap.size:=by have:=HL.size;simpa using this
  have HB:=G ((aj w (Ze (vov x va vl vc) 37)).trans (HL.mono af));have Bx:=G ((HL.block w.heap.size af).trans (heap_alloc_new w (Ze (vov x va vl vc) 37)));by_cases Zo:k<l
  ·obtain⟨b,o,y,rfl,hb,hx,Zc⟩:=bY (HR.below HB.out) Zo;obtain⟨ya,yl,yc,-,-,-,-,-,hc0,-,-,-,-,-,-,-⟩:=bm Zc;have HXy:=G hx;have δ:=hb;have Ο:(k:Int)<l:=af
   have hk2:decide ((k:Int)<l)=Zi:=by simp;omega
   clear hb Zc hx;cases Zz:Yk y.n.toList x.n.toList
   ·have Gx:Hid (wr.heap[w.heap.size]?=M (Ze (vov x va vl vc) 37 (0,0))):=Bx.out;have HW:=HB;obtain⟨x0,yn,hne0⟩:=AV;have z1z:=@G _ @akj;exact bF
   ·have Gx:Hid (wr.heap[w.heap.size]?=M (Ze (vov x va vl vc) 37 (0,0))):=Bx.out;have HW:=HB;obtain⟨x0,yn,hne0⟩:=AV;have z1z:=@G _ @aki;exact bF
  ·have Ο:¬(k:Int)<l:=af
   have hk2:decide ((k:Int)<l)=Zg:=by simp;omega
   have Gx:=Bx;have HW:=HB;have x0:=λq:Wd wr=>q.slot (o:=0) Gx.out rfl;have hne0:=Wd.ne wr;have z1z:=@G _ @akh;exact bF
def CF(sv:Vd->Bool) (vs:List Vd):Fact:=λv _=> ∃r:Int,v=V O r/\dA sv vs vs.length r
theorem CF.mono(sv:Vd->Bool) (vs:List Vd):Fact.bT (CF sv vs):=λ_ _ _ h _=>h
theorem av.aiY {l:Nat} {rs:List (List Fv)} {r:List Fv} {old:Fv} (hO:av wr (M ⟨g,0,J⟩) l cp m T rs S) (hb:Below wr.heap.size wr wz) (hj:rs[j]?=M r) (hi:r[i]?=M old) (t:ByteArray) (ht:t.size<=9223372036854775807):av (wz.setCell ⟨g,j*m+i,J⟩ (I t)) (M ⟨g,0,J⟩) l cp m T (rs.set j (r.set i (.s t))) S:=by
 obtain⟨g',e,hS⟩:=(hO.below hb).st (aJ.refl S wz) hj;cases e;obtain⟨⟨aod,H2,h3,_⟩,_,_⟩:=hS.SC hi t ht;exact⟨by rw[List.length_set];exact hO.1,hO.2.1,hO.2.2.1,Zk ⟨g,aod,H2,rfl,h3⟩⟩
theorem av.atT {l:Nat} {rs:List (List Fv)} {r:List Fv} {old:Fv} (hO:av wr (M ⟨g,0,J⟩) l cp m T rs S) (hb:Below wr.heap.size wr wz) (hj:rs[j]?=M r) (hi:r[i]?=M old):(∃v,wz.cell? ⟨g,j*m+i,J⟩=M v)/\wz.frozen? ⟨g,j*m+i,J⟩=Zg:=by
 obtain⟨g',e,hS⟩:=(hO.below hb).st (aJ.refl S wz) hj;cases e;exact⟨hS.cell hi,hS.oy _⟩
theorem av.inn {l:Nat} {rs:List (List Fv)} {r:List Fv} (hO:av w a l cp m T rs S) (hj:rs[j]?=M r):∃g cur,a=M ⟨g,0,J⟩/\S g/\g<w.heap.size/\w.heap[g]?=M (Ze cur T (0,0)):=by
 obtain⟨g',e,hS⟩:=hO.st (aJ.refl S w) hj;obtain⟨⟨cur,H,h1,_⟩,_⟩:=hS;exact⟨g',cur,e,h1.inS,ae h1.blk,h1.blk⟩
theorem av.bN {l:Nat} {T':TypeId} {rs:List (List Fv)} {cur:Array Value} {v:Value} (h:av w a l cp m T rs S) (hb:Below w.heap.size w wz) (hg:w.heap[g]?=M (Ze cur T' (0,0))) (h1:¬T'=T) (h2:¬T'=9):av (wz.setCell ⟨g,i,J⟩ v) a l cp m T rs S:=
 (h.dZ hg h1 h2).ay (λk hk s=>(Ya _ _ _ _ s.2).trans (hb.block k hk)) (λ_ _ s=>s.1)
def ahr(B:Nat):Fact:=λv w=> ∃b,v=Zm (M ⟨b,0,J⟩)/\B<=b/\w.heap[b]?=M (Ze #[I ⟨#[]⟩,Zf Zg,Zf Zg,I ⟨#[]⟩] 72 (0,0))
theorem ahr.mono(B:Nat):Fact.bT (ahr B):=by
 exact pd
def CD(W:World) (S:Nat->Prop) (vs:List Vd):Fact:=λv w=> ∃a l cp,v=U a l cp/\av w a l cp 8 37 (vs.map vdF) (λk=>S k\/W.heap.size<=k)
theorem CD.mono(W:World) (S:Nat->Prop) (vs:List Vd):Fact.bT (CD W S vs):=by
 rintro v w w' ⟨a,l,cp,h1,h2⟩ hb;exact⟨a,l,cp,h1,h2.below hb⟩
def am2(c:Cl) (i:Nat) (x:Xd) (kc:Kd) (t:ByteArray) (S:Nat->Prop) (b:Nat) (a1:Option Addr) (l1 y1:Nat) (a2:Option Addr) (l2 y2:Nat) (a3:Option Addr) (l3 y3:Nat) (a4:Option Addr) (l4 y4:Nat) (a5:Option Addr) (l5 y5:Nat) (w:World) (e:Ending) (w':World):Prop:=
 (∃(j:Nat) (u:Vd),dG (svV x.z x.k x.x t) c.vs=M u/\c.vs[j]?=M u/\e=Zh (Zn #[I u.n,V O 0])/\w'.heap[b]?=M (Ze (Zd a1 l1 y1 a2 l2 y2 a3 l3 y3 a4 l4 y4 a5 l5 y5 c.now) 29 (0,0))/\dw w' ⟨a1,l1,y1,a2,l2,y2,a3,l3,y3,a4,l4,y4,a5,l5,y5⟩ (dM c i j x u).raw S/\aJ S w w')\/
 (dG (svV x.z x.k x.x t) c.vs=J/\((∃p:Int,¬p=0/\((¬fG x kc t/\p=6)\/(fG x kc t/\hit Vd.n c.vs (aC++x.n)=Zi/\p=7)\/(fG x kc t/\hit Vd.n c.vs (aC++x.n)=Zg/\¬c.vs.length<8/\p=9))/\e=Zh (Zn #[I ⟨#[]⟩,V O p])/\Below w.heap.size w w')\/
  (fG x kc t/\hit Vd.n c.vs (aC++x.n)=Zg/\c.vs.length<8/\e=Zh (Zn #[I (aC++x.n),V O 0])/\∃(q3:Option Addr) (m3 z3:Nat),w'.heap[b]?=M (Ze (Zd a1 l1 y1 a2 l2 y2 q3 m3 z3 a4 l4 y4 a5 l5 y5 c.now) 29 (0,0))/\dw w' ⟨a1,l1,y1,a2,l2,y2,q3,m3,z3,a4,l4,y4,a5,l5,y5⟩ (dd c i x (aT t kc.z)).raw (λk=>S k\/w.heap.size<=k)/\aJ (λk=>S k\/k=b) w w')))
set_option linter.unusedVariables false in
theorem rT(c:Cl) (i:Nat) (x:Xd) (jk:Nat) (kc:Kd) (t:ByteArray) (S:Nat->Prop) (b:Nat) (a1:Option Addr) (l1 y1:Nat) (a2:Option Addr) (l2 y2:Nat) (a3:Option Addr) (l3 y3:Nat) (a4:Option Addr) (l4 y4:Nat) (a5:Option Addr) (l5 y5:Nat) (w:World) (hb:w.heap[b]?=M (Ze #[U a1 l1 y1,U a2 l2 y2,U a3 l3 y3,U a4 l4 y4,U a5 l5 y5,V O c.now] 29 (0,0))) (hO:dw w ⟨a1,l1,y1,a2,l2,y2,a3,l3,y3,a4,l4,y4,a5,l5,y5⟩ c.raw S) (hS:∀k,S k->k<w.heap.size/\¬k=b) (hT:au c) (hx:c.xs[i]?=M x) (hk:c.ks[jk]?=M kc) (Γ:kc.n=x.k) (hxv:x.v=⟨#[]⟩) (ht:t=⟨#[]⟩\/aN t):
  Calls Tryz.prog 36 #[Zm (M ⟨b,0,J⟩),V O i,I t] w (am2 c i x kc t S b a1 l1 y1 a2 l2 y2 a3 l3 y3 a4 l4 y4 a5 l5 y5 w):=by
 have HO:=G hO;have HS:=G hS;have HT:=G hT;have HX:=G hx;have HK:=G (Yb hk Γ);have HTZ:=G ht;have Bc:=G hb;have hl4:c.xs.length=l4:=by have h6:(c.xs.map xdF).length=l4:=hO.x.1;rw[Yq] at h6;exact h6
 have hl3:c.vs.length=l3:=by have h6:(c.vs.map vdF).length=l3:=hO.v.1;rw[Yq] at h6;exact h6
 have hl2:c.ks.length=l2:=by have h6:(c.ks.map kdF).length=l2:=hO.k.1;rw[Yq] at h6;exact h6
 obtain⟨hi4,hii,hi0⟩:=OJ;obtain⟨gx,hgx,hSx⟩:=hO.x.st (aJ.refl S w) (i:=i) (r:=xdF x) (show (c.xs.map xdF)[i]?=M (xdF x) by rw[Yt,hx];rfl);have ayA:a4=M ⟨gx,0,J⟩:=hgx;subst ayA;have auf:S gx/\gx<w.heap.size:=by obtain⟨⟨cur,H,h1,_⟩,_⟩:=hSx;exact⟨h1.inS,ae h1.blk⟩
 obtain⟨b4,o4,x',e4,π,hx4,Zc⟩:=dB hO.x.row hi4;cases e4;rw[hx] at hx4;obtain rfl:=Yd hx4;obtain⟨zx0,zx2,zx4,c0,c1,c2,c3,c4⟩:=bD Zc;rw[Yp] at c0 c1 c2 c3 c4;have HZX:=G (Yb zx0 (Yb zx2 zx4));have Δ:¬gx=b:=(hS gx auf.1).2;have HGS:=G auf.1;have ZM:gx<w.heap.size:=auf.2;have Z3:b<w.heap.size:=ae hb;obtain⟨k0,k1,k2,k3,k4,k5⟩:=cs6 hb;clear hO hS hT hx hk Γ hxv ht hSx hgx auf Zc hx4 π zx0 zx2 zx4;go_enter Tryz.func36,Tryz.ntmps36;go_wp2_with fail;clear k0 k1 k2 k3 k4 k5 c0 c1 c2 c3 c4;obtain⟨W,θ⟩:∃W,W=(w.alloc (Ze (xov x) 47)):=⟨_,rfl⟩;have BcW:=G ((Yj w (Ze (xov x) 47) _ Z3).trans hb);have BxW:=G (heap_alloc_new w (Ze (xov x) 47));have ZH:=G (aj w (Ze (xov x) 47));have hws:W.heap.size=w.heap.size+1:=by rw[θ];exact cW _ _
 rw[<-θ] at BcW BxW ZH ⊢;clear θ hb;rename_i K0 hK0;refine cB (back:=J) aW (List.append_nil _).symm aW ?_;iterate 3 refine Grow.aK ?_
 refine Grow.aO BcW.out ?_;refine Grow.aO BxW.out ?_;refine Grow.aK ?_;refine Grow.step (CF (svV x.z x.k x.x t) c.vs) rfl (CF.mono _ _) ?_ ?_
 ·have atb:=@G _ @Fi;exact sI
 refine Grow.step (CF (svV x.z x.k x.x t) c.vs) rfl (CF.mono _ _) ?_ ?_
 ·refine Obl.plain rfl ?_;intro ac wg K Zq hW hf hK;clear Zq;have e27:=hf 27 ag;simp[slotFact,Yg] at e27;obtain⟨r,e27,hr6⟩:=e27;clear hf;go_simp;exact hK _ _ (Yh _ _) ⟨r,rfl,hr6⟩
 have apm:=@G _ @SI;exact iG
def OtP(p:Pd) (t m:ByteArray):Prop:=¬p.d=⟨#[]⟩/\¬p.d=t/\InL p.zs m
theorem kL(d:Ad) (c:Cl) (m s:ByteArray) (w:World) (hr:aA w d c.raw):
  Calls Tryz.prog 195 #[Zj (Zs d c.now),I m,I s] w (ar (∃(j:Nat) (p:Pd),c.ps[j]?=M p/\OtP p s m) w):=by
 have anV:=@G _ @afO;exact dn
theorem alu(c:Cl) (i:Nat) (x:Xd) (k:Kd) (t:ByteArray):∃o,eM c i x k t o:=by
 cases h:dG (svV x.z x.k x.x t) c.vs with
 | some u=>
  obtain⟨j,hj⟩:=wb h;exact⟨_,Zl ⟨j,u,h,hj,rfl⟩⟩
 | none=>
  by_cases h1:fG x k t
  ·cases h2:hit Vd.n c.vs (aC++x.n)
   ·by_cases h3:c.vs.length<8
    ·exact⟨_,Zk ⟨h,Zk ⟨h1,Zk ⟨h2,Zk ⟨h3,rfl⟩⟩⟩⟩⟩
    ·exact⟨_,Zk ⟨h,Zk ⟨h1,Zk ⟨h2,Zl ⟨h3,rfl⟩⟩⟩⟩⟩
   ·exact⟨_,Zk ⟨h,Zk ⟨h1,Zl ⟨h2,rfl⟩⟩⟩⟩
  ·exact⟨_,Zk ⟨h,Zl ⟨h1,rfl⟩⟩⟩
def anM(c:Cl) (t:ByteArray) (n:Nd) (S:Nat->Prop) (b:Nat) (a1:Option Addr) (l1 y1:Nat) (a2:Option Addr) (l2 y2:Nat) (_a3:Option Addr) (_l3 _y3:Nat) (a4:Option Addr) (l4 y4:Nat) (a5:Option Addr) (l5 y5:Nat) (w:World) (e:Ending) (w':World):Prop:=
 ∃(c':Cl) (e0:Int),e=Zh (V O e0)/\gN c n t c' e0/\((¬e0=0/\Below w.heap.size w w')\/(e0=0/\∃(q3:Option Addr) (m3 z3:Nat),w'.heap[b]?=M (Ze (Zd a1 l1 y1 a2 l2 y2 q3 m3 z3 a4 l4 y4 a5 l5 y5 c.now) 29 (0,0))/\dw w' ⟨a1,l1,y1,a2,l2,y2,q3,m3,z3,a4,l4,y4,a5,l5,y5⟩ c'.raw (λk=>S k\/w.heap.size<=k)/\aJ (λk=>S k\/k=b) w w'))
theorem C8(c:Cl) (t:ByteArray) (n:Nd) (na:Option Addr) (nl nc:Nat) (S:Nat->Prop) (b:Nat) (a1:Option Addr) (l1 y1:Nat) (a2:Option Addr) (l2 y2:Nat) (a3:Option Addr) (l3 y3:Nat) (a4:Option Addr) (l4 y4:Nat) (a5:Option Addr) (l5 y5:Nat) (w:World) (hb:w.heap[b]?=M (Ze #[U a1 l1 y1,U a2 l2 y2,U a3 l3 y3,U a4 l4 y4,U a5 l5 y5,V O c.now] 29 (0,0))) (hO:dw w ⟨a1,l1,y1,a2,l2,y2,a3,l3,y3,a4,l4,y4,a5,l5,y5⟩ c.raw S) (hS:∀k,S k->k<w.heap.size/\¬k=b) (hT:au c) (ht:hit Xd.n c.xs t=Zi) (hnz:aN n.z):
  Calls Tryz.prog 178 #[Zm (M ⟨b,0,J⟩),I t,Zj #[I n.n,I n.z,V O n.c,V O n.s,V O n.u,Zf n.d,U na nl nc]] w (anM c t n S b a1 l1 y1 a2 l2 y2 a3 l3 y3 a4 l4 y4 a5 l5 y5 w):=by
 have HO:=G hO;have HR:=G hO.row;have HS:=G hS;have HT:=G hT;have HNZ:=G hnz;have hl2:c.ks.length=l2:=by simpa using (show (c.ks.map kdF).length=l2 from hO.row.k.1)
 have hl3:c.vs.length=l3:=by simpa using (show (c.vs.map vdF).length=l3 from hO.row.v.1)
 have hl4:c.xs.length=l4:=by simpa using (show (c.xs.map xdF).length=l4 from hO.row.x.1)
 obtain⟨x,hx,hn⟩:=cy ht;generalize Rc.pl Xd.n c.xs t=i at hx;have HX:=G (Yb hx hn);have ω:=(hT.2.2.1.2 _ x hx).2;obtain⟨hi4,hii,hi0⟩:=OJ;obtain⟨j,k,hkj,Γ⟩:∃(j:Nat) (k:Kd),c.ks[j]?=M k/\k.n=x.k:=by obtain⟨k,h1,h2⟩:=cy (hT.2.2.1.2 _ x hx).1;exact⟨_,k,h1,h2⟩
 have atf:=@G _ @Dw;exact sk
theorem yj(t:ByteArray):∀{ps:List Pd},(∀(j:Nat) p,ps[j]?=M p->0<=p.c/\p.c<=1000000)->0<=cpuOf t ps/\cpuOf t ps<=ps.length*1000000
 | [],_=>by simp[cpuOf]
 | p ::ps,h=>by
  have h1:=h 0 p rfl;have h2:=yj t (ps:=ps) (λj q hq=>h (j+1) q (by simpa using hq));simp only[cpuOf,List.length_cons];split <;> omega
theorem ag5(w:World) (o p q r:Obj):((((w.alloc o).alloc p).alloc q).alloc r).heap[w.heap.size+1+1+1]?=M r:=by
 have h:=Yf (xs:=(((w.alloc o).alloc p).alloc q).heap) (x:=r);rwa [show (((w.alloc o).alloc p).alloc q).heap.size=w.heap.size+1+1+1 by simp] at h
theorem ag6(w:World) (o p q r:Obj):((((w.alloc o).alloc p).alloc q).alloc r).heap[w.heap.size+1+1]?=M q:=(Yj _ _ _ (by simp)).trans (km w o p q)
theorem ag7(w:World) (o p q r:Obj):((((w.alloc o).alloc p).alloc q).alloc r).heap[w.heap.size+1]?=M p:=(Yj _ _ _ (by simp <;> omega)).trans (ko w o p q)
theorem ag8(w:World) (o p q r:Obj):((((w.alloc o).alloc p).alloc q).alloc r).heap[w.heap.size]?=M o:=(Yj _ _ _ (by simp <;> omega)).trans (mo w o p q)
def DiF(c:Cl) (t:ByteArray):Fact:=λv w=> ∃a l q zs,v=U a l q/\aw w a l q zs/\RT zs/\∀s,s∈zs↔PBs c t c.ps.length s\/VBs c t c.vs.length s
theorem DiF.mono(c:Cl) (t:ByteArray):Fact.bT (DiF c t):=by
 rintro v w w' ⟨a,l,q,zs,h1,h2,h3⟩ hb;exact⟨a,l,q,zs,h1,h2.below hb,h3⟩
def LeF(m:Nat):Fact:=λv _=> ∃a q,v=U a m q
theorem LeF.mono(m:Nat):Fact.bT (LeF m):=λ_ _ _ h _=>h
def am1(c:Cl) (i:Nat) (p:Pd) (n:Nd) (w:World) (e:Ending) (w':World):Prop:=
 ∃(d':Ad) (c':Cl) (e0:Int),e=Zh (Zn #[Zj #[U d'.a1 d'.l1 d'.c1,U d'.a2 d'.l2 d'.c2,U d'.a3 d'.l3 d'.c3,U d'.a4 d'.l4 d'.c4,U d'.a5 d'.l5 d'.c5,V O c'.now],V O e0])/\((¬p.p=0/\e0=10)\/(p.p=0/\lF c i p n c' e0))/\(e0=0->dw w' d' c'.raw (λk=>w.heap.size<=k))/\Below w.heap.size w w'
theorem rS(d:Ad) (c:Cl) (i j:Nat) (p:Pd) (n:Nd) (w:World) (hr:aA w d c.raw) (hT:au c) (hp:c.ps[i]?=M p) (hn:c.ns[j]?=M n):
  Calls Tryz.prog 141 #[Zj (Zs d c.now),V O i,V O j] w (am1 c i p n w):=by
 have υ:=@G _ @ab8;exact bQ
def anO(c:Cl) (i:Nat) (p:Pd) (w:World) (e:Ending) (w':World):Prop:=(∃r:Int,e=Zh (V O r)/\((r= -1/\rA c i p)\/∃(b:Nat) (n:Nd),r=b/\ahs c i p b n))/\Below w.heap.size w w'
def alD(c:Cl) (t:ByteArray) (p b e:Int):Prop:=(¬e=0/\∃i,we c t i/\e=aZ i)\/(e=0/\¬8000<t.size/\au c/\∃(x:Pd) (b':Nat) (n:Nd),p=(pl Pd.n c.ps t:Nat)/\b=b'/\c.ps[pl Pd.n c.ps t]?=M x/\x.n=t/\x.p=0/\ahs c (pl Pd.n c.ps t) x b' n)
theorem wL(d:Ad) (c:Cl) (i:Nat) (p:Pd) (w:World) (hr:aA w d c.raw) (hT:au c) (hp:c.ps[i]?=M p) (h0:p.p=0):
  Calls Tryz.prog 177 #[Zj (Zs d c.now),V O i] w (anO c i p w):=by
 have υ:=@G _ @ab7;exact bQ
theorem BM(d:Ad) (c:Cl) (t:ByteArray) (w:World) (hr:aA w d c.raw):
  Calls Tryz.prog 140 #[Zj (Zs d c.now),I t] w λe w'=>(∃p b e0:Int,e=Zh (Zn #[V O p,V O b,V O e0])/\alD c t p b e0)/\Below w.heap.size w w':=by
 have anV:=@G _ @afN;exact dn
end Rc
end Go.Proofs.YtcnmlpiffcldkaaGreatDoor

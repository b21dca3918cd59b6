import Derived.Test.YtcnmlpiffcldkaaGreatDoorN5
/-
 The best node for a pod, and the pod on it, as the specification tells it.
-/
set_option maxRecDepth 100000
set_option maxHeartbeats 12800000
open Bool renaming false→Zg,true→Zi
open Go.Ending renaming returned→Zh
open Go.IntKind renaming i64→O
open Go.Obj renaming cells→Ze
open Go.Value renaming string→I,slice→U,int→V,bool→Zf,agg→Zj,pointer→Zm,tuple→Zn
open Option renaming none→J,some→M
open Or renaming inr→Zk,inl→Zl
open And renaming intro→Yb
open Array renaming getElem?_push_size→Yf, getD_eq_getD_getElem?→Ys, getElem?_eq_some_iff→YA, getElem?_setIfInBounds→YH
open Bool renaming and_eq_true→YI
open Go.Act renaming put→Y0
open Go.Addr renaming add_lit→Ym
open Go.Builtin renaming append_→YY
open Go.Calls renaming quiet_of_same→YD
open Go.Op renaming bytesLess→Yk
open Go.Region renaming ready→YU
open Go.RowKit.Below renaming heap_setCell→Ya, refl→Yh, heap_alloc→Yj
open Go.Value renaming string→Yn, ownBlock→YK
open Go.World renaming setCell→YV, cell?→YX
open List renaming getElem?_eq_some_iff→Yc, lookup→Yg, getElem?_eq_getElem→Yi, length_map→Yq, setIfInBounds_toArray→Yr, getElem?_map→Yt, getElem?_append_left→Yu, mem_of_getElem?→Yv, drop_eq_nil_of_le→Yw, set_cons_zero→Yx, set_cons_succ→Yy, take_of_length_le→YB, getElem?_take→YC, length_take→YF, getElem?_of_mem→YG, forall_mem_cons→YL, take_add_one→YM, getElem?_drop→YN, length_append→YP, foldr→YQ, mem_cons→YT
open Nat renaming le_refl→Ye, lt_of_lt_of_le→Yl, le_trans→Yo, zero_add→Yp, le_succ→Yz, zero_le→YJ
open Option renaming map_eq_some_iff→YE
open Option.some renaming inj→Yd, injEq→YZ
namespace Go.Proofs.YtcnmlpiffcldkaaGreatDoor
variable {p:Prop}
namespace Mk
end Mk
open Go.RowKit Mk
theorem agi(h:p:=by
 have aoK:=@G _ @XC;exact fv):p:=h
theorem acq(h:p:=by
 have hs:=hA.elim (λh=>absurd HX.2.2 h.1) (λh=>h.2);have he:e0=0:=by obtain⟨c2,h2⟩:=HBE.2.1;exact (hs.same HT.out (HT.2.1.1.2.1 _ _ HBE.1).2.1 h2).1
 subst he;have HFR:=G (hfr rfl);have HIS:Hid (gM c t ⟨c',n.n,0⟩):=Zk ⟨HLL.out,HT.out,x,b',n,c',HX.1,HX.2.1,HX.2.2,HBE.out,hs,rfl⟩;clear hA hfr hs;have aol:=@G _ @KB;exact ff):p:=h
theorem XC(h:p:=by
 go_wp2;exact bodyPost_ret (v:=Zj #[U J 0 0,U J 0 0,U J 0 0,U J 0 0,U J 0 0,V O 0,I ⟨#[]⟩,V O e0]) (by simp[results,Tryz.results85,go_sem, *]) rfl ⟨ad0,co0 e0,rfl,HV.out,(rl0 _ _),sb1 (sb1 (sb1 (sb1 (sb1 (sb1 (sb1 (sb1 (HB.out))))))))⟩):p:=h
theorem Tr(h:p:=by
 rcases hf with ⟨he,i,hw,hc⟩|⟨rfl,hl,hT,x,b',n,rfl,rfl,hx,hn,hp,hB⟩
 ·have HV:Hid (gM c t (co0 e0)):=Zl ⟨i,hw,by rw[hc]⟩;clear hw hc;have hp1:(e0==0)=Zg:=by simpa using he
  obtain⟨k0,k1,k2,k3,k4,k5⟩:=cs6 Bk;go_wp2_with fail;refine (aI e0 _).mono ?_;rintro e w2 ⟨rfl,hb⟩;clear k0 k1 k2 k3 k4 k5;replace Bk:=upK Bk hb;have κ:=@G _ @agi;exact bI
 have HT:=G hT;have HLL:=G hl;have HX:=G (Yb hx (Yb hn hp));have HBE:=G hB;clear hT hl hx hn hp hB;have ZN:b'<l1:=by have:=(Yc.1 HBE.1).1;omega
 have hb0:¬(b':Int)<0:=af
 obtain⟨b,o,y,rfl,Z3,hy,Zc⟩:=dF (HR.n.below HB.out) ZN;rw[HBE.1] at hy;obtain rfl:=Yd hy;obtain⟨va,vl,vc,Zx,z0,z1,c0,c1,c2,c3,c4,c5,c6⟩:=bo Zc;clear Zc Zx z0 z1 hy c1 c2 c3 c4 c5 c6;obtain⟨k0,k1,k2,k3,k4,k5⟩:=cs6 Bk;go_wp2_with fail;have HLO:=G HB.size;refine (rS ⟨(M ⟨b,o,J⟩),l1,y1,a2,l2,y2,a3,l3,y3,a4,l4,y4,a5,l5,y5⟩ c (pl Pd.n c.ps t) b' x n _ (HR.below HB.out) HT.out HX.1 HBE.1).mono ?_;rintro e w2 ⟨d',c',e0,rfl,hA,hfr,hb⟩;have HC2:=G ((ah hb Z3).trans c0);have apd:=Yl Z3 hb.size;clear c0;have apk:=@G _ @acq;exact iO):p:=h
theorem KB(h:p:=by
 have c2:=HC2.out;obtain⟨r0,r1,r2,r3,r4,r5,r6,r7⟩:=cs8 Br;have aog:=ae Br.out;obtain⟨ZR,ZS,ZT,ZU,ZV,ZY,Z1,Z2⟩:=dD;go_region;go_wp2;have hlo:=HLO.out;exact bodyPost_ret (v:=Zj #[U d'.a1 d'.l1 d'.c1,U d'.a2 d'.l2 d'.c2,U d'.a3 d'.l3 d'.c3,U d'.a4 d'.l4 d'.c4,U d'.a5 d'.l5 d'.c5,V O c'.now,I n.n,V O 0]) (by simp[results,Tryz.results85,go_sem, *]) rfl ⟨d',⟨c',n.n,0⟩,rfl,HIS.out,((dw.bN HFR.out Br.out (λk hk=>((heap_setCell_other _ _ _ _ hk).trans ((heap_setCell_other _ _ _ _ hk).trans ((heap_setCell_other _ _ _ _ hk).trans ((heap_setCell_other _ _ _ _ hk).trans ((heap_setCell_other _ _ _ _ hk).trans ((heap_setCell_other _ _ _ _ hk).trans ((heap_setCell_other _ _ _ _ hk).trans (heap_setCell_other _ _ _ _ hk)))))))))).below (Below.gT (aj _ _))).rl (λk s=>loq),RW (sb1 (sb1 (sb1 (sb1 (sb1 (sb1 (sb1 (sb1 (HB.out)))))))))⟩):p:=h
namespace Rc
theorem RW {w w1:World} {o:Obj} (h:Below w.heap.size w w1):Below w.heap.size w (w1.alloc o).drew:=Below.gT (h.trans ((aj _ _).mono h.size))
theorem BJ (d:Ad) (c:Cl) (t:ByteArray) (w:World) (hr:aA w d c.raw):
  Calls Tryz.prog 85 #[Zj (Zs d c.now),I t] w (jw (gM c t) w):=by
 unfold Zs;obtain⟨a1,l1,y1,a2,l2,y2,a3,l3,y3,a4,l4,y4,a5,l5,y5⟩:=d;dsimp only;obtain⟨HR,hl1⟩:=lr;clear hr;have HB:=G (Yh w.heap.size w);go_enter Tryz.func85,Tryz.ntmps85;go_wp2_with fail;refine (BM ⟨a1,l1,y1,a2,l2,y2,a3,l3,y3,a4,l4,y4,a5,l5,y5⟩ c t _ (HR.below (HB.trans ((aM _ _ _).mono HB.size)))).mono ?_;rintro e w1 ⟨⟨p,b0,e0,rfl,hf⟩,hb⟩;have apl:=@G _ @Tr;exact iH
end Rc
end Go.Proofs.YtcnmlpiffcldkaaGreatDoor

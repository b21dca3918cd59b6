import Derived.Test.YtiplhgedmjoliaaGreatDoorV4
import Derived.Lib.Overlaps
import Derived.Lib.SliceRun
import Derived.Lib.AppendZerosOnto
import Derived.Deep.RegionLaw
import Derived.Shelf.RegionOpenPlain
set_option maxRecDepth 100000
set_option maxHeartbeats 12800000
open Bool renaming false→Y8,true→Y_
open Go.Ending renaming returned→Y9
open Go.IntKind renaming i64→Y5
open Go.Obj renaming cells→Y6
open Go.Value renaming string→I,slice→J,int→Y4,bool→Y7,agg→Za,pointer→Zd,tuple→Ze
open Option renaming none→U,some→Y3
open Or renaming inr→Zb,inl→Zc
open And renaming intro→Yb
open Array renaming getElem?_push_size→Yg, getD_eq_getD_getElem?→Yp, getElem?_eq_some_iff→Yw
open Bool renaming and_eq_true→YE
open Go.Addr renaming add_lit→Yo
open Go.Calls renaming quiet_of_same→YC
open Go.Op renaming bytesLess→Yk
open Go.Region renaming wanted→YM, ready→YR
open Go.RowKit.Below renaming heap_setCell→Ya, refl→Yh, heap_alloc→Ym
open Go.Value renaming string→Yn, ownBlock→YJ
open Go.World renaming setCell→YO
open List renaming getElem?_eq_some_iff→Yc, lookup→Yf, getElem?_eq_getElem→Yi, length_map→Yr, setIfInBounds_toArray→Ys, getElem?_map→Yt, mem_of_getElem?→Yu, getElem?_append_left→Yv, drop_eq_nil_of_le→Yx, set_cons_zero→YA, set_cons_succ→YB, getElem?_take→YD, getElem?_of_mem→YF, length_take→YG, take_of_length_le→YH, length_set→YK, take_add_one→YL, foldr→YQ
open Nat renaming le_refl→Ye, lt_of_lt_of_le→Yj, le_trans→Yl, zero_add→Yq, le_succ→Yy, zero_le→YI
open Option renaming map_eq_some_iff→Yz
open Option.some renaming inj→Yd
namespace Go.Proofs.YtiplhgedmjoliaaGreatDoor
variable {p:Prop}
namespace Mk
end Mk
open Go.RowKit Mk
variable {α:Type} {c:Cl} {i k:Nat} {t:ByteArray} {x:Pd} {nm:α->ByteArray}
theorem zK(h:p:=by simp[results,Tryz.results16,go_sem, *]):p:=h
theorem zF(h:p:=by simp[Act.eval,Act.put]):p:=h
theorem zE(h:p:=by first|decide|omega):p:=h
theorem aga(h:p:=by simp only[List.length_append,YG,List.length_drop];omega):p:=h
theorem Nz(h:p:=by
 go_wp2;exact bodyPost_ret (v:=Za #[J U 0 0,J U 0 0,J U 0 0,J U 0 0,J U 0 0,Y4 Y5 0,I ⟨#[]⟩,Y4 Y5 cc]) (by simp[results,Tryz.results5,go_sem, *]) rfl ⟨ad0,co0 cc,rfl,HV.out,als _ _,sb1 (sb1 (sb1 (sb1 (sb1 (sb1 (sb1 (sb1 (HB.out))))))))⟩):p:=h
theorem ag3(h:p:=by
 go_enter Tryz.func86,Tryz.ntmps86;go_wp2_with (first|(at_builtin;refine dE rfl _ _ 82 27 rfl base 40 40 i0 (Za #[I ⟨#[]⟩,Y4 Y5 0,I ⟨#[]⟩,J U 0 0,I ⟨#[]⟩,Y4 Y5 0]) 6 88 Tryz.underlying82 Tryz.underlying27 HI0.1 HI0.2.1 HI0.2.2.1 HI0.2.2.2 rfl ag _ _ _ rfl HO.out ⟨vb,0,U⟩ 1 1 ys rfl af HYN.out HY1.out bo af hbs ?_));intro v' w' h1 h2;have H1:=aa h1;have H2:=aa h2;clear h1 h2;go_wp2;go_ret;exact⟨v',rfl,H1.out,H2.out⟩):p:=h
theorem agX(h:p:=by
 have h45:aQ w4 (λk=>(Q k\/Q2 k)\/w.heap.size<=k) 6 ((aM j x xs).map pdF) (aM j [I x.n,Y4 Y5 x.c,I x.z,J va vl vc,I x.d,Y4 Y5 x.p] vss) H4:=by rw[fH];exact hV5
 have hle:((aM j x xs).map pdF).length=n+1:=by rw[Yr,ct af,hxl]
 exact Ok):p:=h
theorem PT(h:p:=by
 have h4:ps.take k++ps.drop (k+1)=ps.take k:=by rw[Yx af,List.append_nil]
 rw[h4];rw[h4] at hlt;have h1:(ps.take k).length=k:=by rw[YG];omega
 rw[fU (λj z hz=>hlt j z dD hz),h1]):p:=h
theorem Pq(h:p:=by
 have h1:(ps.take k).length=k:=by rw[YG];omega
 rw[Yv af,YD,if_pos hj] at hz;have:=hr.lt hj hz hx;rw[hn] at this;exact this):p:=h
theorem ajE(h:p:=by
 rw[List.getElem?_append_right af,h1,Nat.sub_self,List.getElem?_drop];exact Yi he):p:=h
theorem Oy(h:p:=by
 replace HB:=upB HB hbx;clear hb hbx HA0;clear hcc;have z160z:=@aa _ @Nz;exact zD):p:=h
theorem On(h:p:=by
 rw[hpl,hw];unfold aM;have h1:(ps.take k).length=k:=by rw[YG];omega
 rw[List.take_left' h1,List.drop_left' h1,List.set_eq_take_append_cons_drop,if_pos hk];simp):p:=h
theorem zD(h:p:=by
 have z1541z:=@aa _ @EN;exact mm):p:=h
theorem ad8(h:p:=by
 go_wp2_with fail;refine (j6 d c.now c.ns x.d w _ HR.n (HB.trans ((ak _ _).mono HB.size))).mono ?_;rintro e w2 ⟨hb,hf⟩;clear k0 k1 k2 k3 k4 k5 ltk_1;obtain⟨HA0,hbx⟩:=bB hb;replace Bk:=upK Bk hbx;replace Br:=upK Br hbx;have Bp:=aa HA0;replace HY:=aa (HY.below hbx);replace HB:=upB HB hbx;clear hb hbx HA0;rcases hf with ⟨hh,n,ua,ul,uc,hnx,hnn,rfl,zz0,zz1,hur⟩|⟨hh,rfl⟩;rotate_left
 ·obtain⟨j,n,h1,h2,_⟩:=HT.node HX.1 hp;have h3:=(a_ HT.2.1.1.2.2 h1 h2).2;rw[hh] at h3;cases h3
 have HN:=aa (Yb hnx hnn);obtain⟨hu0,hu1⟩:=(HT.2.1.1.2.1 _ n hnx).2.2.2.2.1;clear hh hnx hnn zz0 zz1 hur;cases hd:n.d
 ·have z828z:=@aa _ @Ts;exact cB
 have z828z:=@aa _ @Tt;exact cB):p:=h
theorem ad7(h:p:=by
 have HV:Hid (bg c t (co0 (bu i))):=Zc ⟨i,hwhy.ev,rfl⟩;obtain⟨cc,hcc⟩:∃cc,cc=bu i:=⟨_,rfl⟩;rw[<-hcc] at HV;go_wp2_with fail;refine (eZ E i cc hcc _ (HE.below (HB.trans ((ak _ _).mono HB.size))) zE).mono ?_;rintro e w2 ⟨rfl,hb⟩;have z695z:=@aa _ @U_;exact ib):p:=h
theorem ad6(h:p:=by
 have HV:Hid (bg c t (co0 (bu 8))):=Zc ⟨8,⟨hl,HT.out,x,HX.1,HX.2,hp⟩,rfl⟩;obtain⟨cc,hcc⟩:∃cc,cc=bu 8:=⟨_,rfl⟩;rw[<-hcc] at HV;have ev:=(HE.below HB.out).v8;have evl:=bf ev;go_wp2_with fail;refine (eZ E 8 cc hcc _ (HE.below (HB.trans ((ak _ _).mono HB.size))) zE).mono ?_;rintro e w2 ⟨rfl,hb⟩;have z695z:=@aa _ @U9;exact ib):p:=h
theorem acq(h:p:=by
 obtain⟨j,hj⟩:∃j,j=pl Pd.n xs x.n:=⟨_,rfl⟩;have hjn:j<=n:=by rw[hj,<-hxl];exact List.findIdx_le_length
 have HJ:=aa hj;have HFIN:Hid (∀(w4:World) v4 base,w.heap.size<=base->Below w.heap.size w w4->w4.ownsRow base 40 6 v4 (n+1) (vss.flatten.take (j*6)++[I x.n,Y4 Y5 x.c,I x.z,J va vl vc,I x.d,Y4 Y5 x.p]++vss.flatten.drop (j*6))->∃a' c',v4=J a' (n+1) c'/\aw w4 a' (n+1) c' 6 40 ((aM (pl Pd.n xs x.n) x xs).map pdF) (λk=>(Q k\/Q2 k)\/w.heap.size<=k)):=λw4 v4 base hbs hB4 ho4=>by
  rw[<-Bj HV.all af] at ho4;have hV4:=(HV.below hB4).az (w':=w4) (S':=λk=>(Q k\/Q2 k)\/w.heap.size<=k) (λ_ _ _ _=>rfl) (λ_ _ s=>Zc (Zc s));obtain⟨H4,hV5⟩:=hV4.ins (p:=j) (r:=pdF x) (vs:=[I x.n,Y4 Y5 x.c,I x.z,J va vl vc,I x.d,Y4 Y5 x.p]) (hh:=λ_=>hh) rfl rfl (λi f hf=>by
   obtain⟨v,h1,h2⟩:=HF.out i f hf
   exact⟨v,h1,h2.az (λcu _ q=>hB4.block _ (ae q)) (λ_ s=>Zc (Zb s))⟩) (λi zs h hz k r i2 zs2 hr2 hz2 hne e=>by
  obtain⟨v,_,h2⟩:=HF.out i _ h;obtain⟨_,_,_,_,_,_,_,_,h3⟩:=h2;have hkv:k<vss.length:=by rw[HV.len];exact (Yc.1 hr2).1
  obtain⟨v',_,h5⟩:=HV.cell k r _ hr2 (Yi hkv) i2 _ hz2;obtain⟨_,_,_,_,_,_,_,_,h6⟩:=h5;rcases h3 with h3|⟨_,h3,_⟩
  ·exact hz h3
  ·rcases h6 with h6|⟨_,h6,_⟩
   ·exact hne h6
   ·rw[e] at h6;exact HQ.out _ h6 h3) (λi i2 zs zs2 h _ h2 _=>by
  rcases i with _|_|_|_|_|_|i <;> simp[pdF] at h <;> rcases i2 with _|_|_|_|_|_|i2 <;> simp[pdF] at h2 <;> rfl) tx
  exact agX
 have HCL:Hid (∀W,Below w.heap.size w W->∀(k:Nat) u,vss.flatten[k]?=Y3 u->∃g,a=Y3 ⟨g,0,U⟩/\W.cell? ⟨g,k,U⟩=Y3 u):=λW hW k u hu=>by
  obtain⟨g,h1,_,h3⟩:=HC.out k u hu;exact⟨g,h1,(ai hW (bf h3)).trans h3⟩
 have HV1:=aa HV.one;clear HV HC HF HQ hj;go_enter Tryz.func44,Tryz.ntmps44;go_wp2_with fail;refine (eB x va vl vc _).mono ?_;rintro e w1 ⟨rfl,hb1⟩;obtain⟨hn1,hbx⟩:=bB hb1;have HN1:=aa hn1;have HB1:=aa hbx;clear hb1 hn1 hbx;go_wp2_with fail;refine (kM a n cap xs x.n _ (HR.below HB1.out)).mono ?_;rintro e w2 ⟨rfl,hb2⟩;have HN2:=aa ((hb2.block w.heap.size (ae HN1.out)).trans HN1.out);have HB2:=upB HB1 hb2;clear hb2 HN1 HB1;rw[<-HJ.out];generalize hit Pd.n xs x.n=bb;have hs2:=ae HN2.out;have HBD:Hid (Below w.heap.size w w2.drew):=Below.kR HB2.out;obtain⟨n0,n1,n2,n3,n4,n5⟩:=cs6 (show w2.drew.heap[w.heap.size]?=_ from HN2.out);have hcl1:Calls Tryz.prog 87 #[J a n cap] w2.drew λe w3=> ∃a3 c3,e=Y9 (J a3 n c3)/\Hid (w3.ownsRow w2.heap.size 40 6 (J a3 n c3) n vss.flatten)/\Hid (Below w.heap.size w w3)/\w2.heap.size<=w3.heap.size/\w.heap.size<w3.heap.size/\w3.heap[w.heap.size]?=Y3 (Y6 (pov x va vl vc) 40 (0,0)):=by
  refine (kT a n cap vss.flatten w2.drew hn hfl HV1.out (HCL.out _ HBD.out)).mono ?_;rintro e w3 ⟨a3,c3,rfl,ho3,hb3⟩;have hs3:w2.heap.size<=w3.heap.size:=hb3.size;exact⟨a3,c3,rfl,ho3,HBD.trans (hb3.mono HBD.size),hs3,by omega,(hb3.block w.heap.size hs2).trans (show w2.drew.heap[w.heap.size]?=_ from HN2.out)⟩
 have hcl2:Calls Tryz.prog 87 #[J a n cap] (w2.alloc (Y6 (pov x va vl vc) 40)).drew λe w3=> ∃a3 c3,e=Y9 (J a3 n c3)/\Hid (w3.ownsRow (w2.heap.size+1) 40 6 (J a3 n c3) n vss.flatten)/\Hid (Below w.heap.size w w3)/\w2.heap.size+1<=w3.heap.size/\Hid (w3.heap[w2.heap.size]?=Y3 (Y6 (pov x va vl vc) 40 (0,0))):=by
  have hbl:=Below.kR (HB2.alloc HB2.size (Y6 (pov x va vl vc) 40));have hsz:(w2.alloc (Y6 (pov x va vl vc) 40)).drew.heap.size=w2.heap.size+1:=aF
  refine (kT a n cap vss.flatten _ hn hfl HV1.out (HCL.out _ hbl)).mono ?_;rintro e w3 ⟨a3,c3,rfl,ho3,hb3⟩;have hs3:=hb3.size;rw[hsz] at ho3 hs3;exact⟨a3,c3,rfl,ho3,hbl.trans (hb3.mono hbl.size),hs3,(hb3.block w2.heap.size (by rw[hsz];omega)).trans (show (w2.alloc (Y6 (pov x va vl vc) 40)).drew.heap[w2.heap.size]?=_ from heap_alloc_new w2 _)⟩
 have hin1:∀(w3:World) a3 c3,w3.ownsRow w2.heap.size 40 6 (J a3 n c3) n vss.flatten->Below w.heap.size w w3->w2.heap.size<=w3.heap.size->Calls Tryz.prog 86 #[J a3 n c3,Y4 Y5 j,J (Y3 ⟨w3.heap.size,0,U⟩) 1 1] (w3.alloc (Y6 (pov x va vl vc) 40)) λe w4=> ∃a' c',e=Y9 (J a' (n+1) c')/\Hid (aw w4 a' (n+1) c' 6 40 ((aM (pl Pd.n xs x.n) x xs).map pdF) (λk=>(Q k\/Q2 k)\/w.heap.size<=k))/\Hid (Below w.heap.size w w4):=λw3 a3 c3 ho3 hB3 hs3=>by
  refine (oL a3 n c3 j w2.heap.size w3.heap.size vss.flatten [I x.n,Y4 Y5 x.c,I x.z,J va vl vc,I x.d,Y4 Y5 x.p] (w3.alloc (Y6 (pov x va vl vc) 40)) (ho3.alloc _) hn hjn bJ (heap_alloc_new w3 _) rfl dC HV1.out (λg hg e=>by
   have h9:=(ho3.lt g (by rw[hg];rfl)).2
   omega)).mono ?_
  rintro e w4 ⟨v4,rfl,ho4,hg4⟩;have hB5:=(hB3.alloc hB3.size (Y6 (pov x va vl vc) 40)).grown hg4 bJ (λg hg=>by
   have h9:=(ho3.lt g hg).1
   omega)
  obtain⟨a',c',rfl,hR⟩:=HFIN.out w4 v4 _ af hB5 ho4;exact⟨a',c',rfl,hR,hB5⟩
 have hin2:∀(w3:World) a3 c3,w3.ownsRow (w2.heap.size+1) 40 6 (J a3 n c3) n vss.flatten->Below w.heap.size w w3->w2.heap.size+1<=w3.heap.size->w3.heap[w2.heap.size]?=Y3 (Y6 (pov x va vl vc) 40 (0,0))->Calls Tryz.prog 86 #[J a3 n c3,Y4 Y5 j,J (Y3 ⟨w2.heap.size,0,U⟩) 1 1] w3 λe w4=> ∃a' c',e=Y9 (J a' (n+1) c')/\Hid (aw w4 a' (n+1) c' 6 40 ((aM (pl Pd.n xs x.n) x xs).map pdF) (λk=>(Q k\/Q2 k)\/w.heap.size<=k))/\Hid (Below w.heap.size w w4):=λw3 a3 c3 ho3 hB3 hs3 hy3=>by
  refine (oL a3 n c3 j (w2.heap.size+1) w2.heap.size vss.flatten [I x.n,Y4 Y5 x.c,I x.z,J va vl vc,I x.d,Y4 Y5 x.p] w3 ho3 hn hjn hs3 hy3 rfl dC HV1.out (λg hg e=>by
   have h9:=(ho3.lt g (by rw[hg];rfl)).1
   omega)).mono ?_
  rintro e w4 ⟨v4,rfl,ho4,hg4⟩;have hB5:=hB3.grown hg4 af (λg hg=>by
   have h9:=(ho3.lt g hg).1
   omega)
  obtain⟨a',c',rfl,hR⟩:=HFIN.out w4 v4 _ af hB5 ho4;exact⟨a',c',rfl,hR,hB5⟩
 have C1:=aa hcl1;have C2:=aa hcl2;have I1:=aa hin1;have I2:=aa hin2;clear hcl1 hcl2 hin1 hin2 HFIN HCL HR HJ HBD HB2;have mixed:Tryz.prog.follows .mixedOrders=Y_:=ba
 go_wp2;go_region_with (first
  | (go_at_call 87;refine C1.mono ?_;rintro e w3 ⟨a3,c3,rfl,HO3,HB3,hs3,hw3l,hx3⟩;obtain⟨m0,m1,m2,m3,m4,m5⟩:=cs6 hx3;clear hx3)
  | (go_at_call 87;refine C2.mono ?_;rintro e w3 ⟨a3,c3,rfl,HO3,HB3,hs3,HY3⟩)
  | (go_at_call 86;refine (I1.out w3 a3 c3 HO3.out HB3.out hs3).mono ?_;rintro e w4 ⟨a',c',rfl,HR5,HB5⟩)
  | (go_at_call 86;refine (I2.out w3 a3 c3 HO3.out HB3.out hs3 HY3.out).mono ?_;rintro e w4 ⟨a',c',rfl,HR5,HB5⟩))
 all_goals (
  go_wp2
  go_ret
  exact⟨a',_,c',rfl,HR5.out,HB5.out⟩)):p:=h
theorem abC(h:p:=by
 cases h9:Yk (nm ps[k+1]).toList t.toList
 ·rfl
 ·have h8:=b8 _ _ _ h3 h9;rw[dw] at h8;cases h8):p:=h
theorem abB(h:p:=by
 cases h9:Yk ps[k+1].n.toList t.toList
 ·rfl
 ·have h8:=b8 _ _ _ h3 h9;rw[dw] at h8;cases h8):p:=h
theorem ze(h:p:=by
 have h1:(ps.take k).length=k:=by rw[YG];omega
 have h2:(ps.take k++ps.drop (k+1))[k]?=Y3 ps[k+1]:=by
  exact ajE
 refine oG hlt h2 ?_;have h3:=hr.lt (Nat.lt_succ_self k) hx (Yi he);rw[hn] at h3;exact z375z):p:=h
theorem abg(h:p:=by
 have hin:i<=cap:=af
 have htn:((i:Int)+1).toNat=i+1:=af
 have hb3:(i:Int)<=(cap:Int):=af
 have HF:=aa (Yb hrow hfin);clear hN hrow hfin hW3o hW3 hW2 hR3 hg2 hgN2 hR2l hR2 hv1 hg1 hgN hRt hRs hW1 hROW hG hcell hdl hie hg htk hcs HO;go_enter Tryz.func86,Tryz.ntmps86;go_wp2_with (first
  | (at_builtin;refine Lib.wpList_append_run _ rfl _ _ _ _ rfl _ _ rfl rfl _ _ (hrz _) ?_)
  | (at_builtin;refine gn _ rfl _ _ 82 27 rfl _ _ rfl rfl (hcpA _ _) ?_))):p:=h
theorem abf(h:p:=by
 have hin:i<=n:=af
 have htn:((i:Int)+1).toNat=i+1:=af
 have hb3:(i:Int)<=(n:Int)+1:=af
 have HG1:=aa hg1;have HW1:=aa hW1;have HC1:=aa hcur1;have HTK:=aa htk;clear hg hg1 hW1 hcur1 htk hv1 hcell hdl hie;go_enter Tryz.func86,Tryz.ntmps86;go_wp2_with (simp only[hov]);go_region_law_o (refine iu rfl _ _ 82 82 rfl _ _ zF zF (hcp1 (3) (cap - (i+1)) (cap - i)) ?_);go_wp2_with (at_builtin;refine gn _ rfl _ _ 82 27 rfl _ _ rfl rfl (hcp2 _ _) ?_);go_ret;refine⟨_,rfl,⟨?_,Or.inr ⟨g,cap,(cur1.take (i*6)++(ys++cur1.drop (i*6+6))).toArray,rfl,hbg,setRow_heap W1 g _ _ _ _ HG1.out,hroom,by unfold maxLen;omega,?_,?_⟩⟩,?_⟩
 ·simp only[List.length_append,YG,List.length_drop];omega
 ·simp only[List.size_toArray,List.length_append,YG,List.length_drop,hc1l];omega
 ·have e:=Qf (a:=i*6) (b:=n*6) (c:=cap*6) (m:=6) (c1:=cur1) HTK.out (by rw[Array.length_toList,hcs]) af af hyl (by rw[HC1.out,show (i+1)*6=i*6+6 by omega]);rw[show (n+1)*6=n*6+6 by omega];simpa using e
 ·have h1:w.grownBy w.drew (Y3 g):=⟨rfl,rfl,rfl,Ye _,λ_ _ _=>rfl⟩;have h2:w.drew.grownBy W1 (Y3 g):=by rw[HW1.out];exact jQ w.drew g _
  exact (h1.trans h2).trans (jQ W1 g _)):p:=h
theorem yY(h:p:=by
 have mixed:Tryz.prog.follows .mixedOrders=Y_:=ba
 have hw1:IntKind.i64.wrap ((i:Int)+1)=(i:Int)+1:=by rw[IntKind.wrap_i64];omega
 have hb1:(0:Int)<=(i:Int)+1:=af
 exact z405z):p:=h
theorem aaV(h:p:=by
 go_wp2;exact bodyPost_ret (v:=Ze #[Za #[I x.n,Y4 Y5 x.c,I x.z,J va vl vc,I x.d,Y4 Y5 x.p],.nilIface]) zK rfl ⟨Below.alloc (sb1 (sb1 (sb1 (sb1 (sb1 (sb1 (HB.out))))))) (by simp[YO];have:=HB.size;omega) _,Zb ⟨hl,HT.out,x,va,vl,vc,HX.1,HX.2.1,rfl,HX.2.2⟩⟩):p:=h
theorem aaU(h:p:=by
 have ev:=(HE.below HB.out).v2;have evl:=bf HE.v2;have evl2:=bf ev;go_wp2;go_region;go_wp2;exact bodyPost_ret (v:=Ze #[Za #[I ⟨#[]⟩,Y4 Y5 0,I ⟨#[]⟩,J U 0 0,I ⟨#[]⟩,Y4 Y5 0],.iface 193 (Zd (Y3 (E 2)))]) zK rfl ⟨Below.kR (Below.alloc (sb1 (sb1 (sb1 (sb1 (sb1 (sb1 (HB.out))))))) (by simp[YO];have:=HB.size;omega) _),Zc ⟨2,by decide,⟨hl,HT.out,HH.out⟩,rfl⟩⟩):p:=h
theorem yR(h:p:=by
 have z1707z:=@aa _ @CH;exact gE):p:=h
theorem fa(h:p:=by
 have ltr_3:=ae Br.out;have z1050z:=@aa _ @Mj;exact mO):p:=h
theorem U_(h:p:=by
 replace Br:=upK Br hbx;have Bp:=aa HA0;exact Oy):p:=h
theorem U9(h:p:=by
 replace Br:=upK Br hbx;have Bp:=aa HA0;replace HY:=aa (HY.below hbx);exact Oy):p:=h
theorem U6(h:p:=by
 have hXl:=ho.1;have hnc:n<=cap/\cap<=9223372036854775807:=by
  rcases ho.2 with ⟨h1,h2⟩|⟨g,cp,cur,h1,_,_,h4,h5,_⟩
  ·cases h1;omega
  ·cases h1;unfold maxLen at h5;omega
 have hyn:∀(j:Nat) u,ys[j]?=Y3 u->w.cell? ((⟨vb,0,U⟩:Addr).add j)=Y3 u:=λj u hu=>by
  rw[Yo,an hy,Yq];simpa using hu
 have HYN:=aa hyn;have HO:=aa ho;have HY:=aa hy;have hvl:=ae hy;have HX1:=aa hX1;have HY1:=aa hy1;clear hyn ho hy hX1 hy1;by_cases hie:i=n
 ·subst hie;have e1:X.take (i*6)++ys++X.drop (i*6)=X++ys:=by rw[YH af,List.drop_of_length_le af,List.append_nil]
  rw[e1];clear e1;have hc0:=hnc.1;have hq:cap=i\/¬cap=i:=Classical.em _;rcases hq with rfl|hcap
  ·exact ag3
  ·exact ag3
 have hil:i<n:=af
 obtain⟨g,cur,rfl,hbg,hg,hcs,htk⟩:∃g cur,a=Y3 ⟨g,0,U⟩/\base<=g/\w.heap[g]?=Y3 (Y6 cur 40 (0,0))/\cur.size=cap*6/\cur.toList.take (n*6)=X:=by
  rcases HO.2 with ⟨h1,h2⟩|⟨g,cp,cur,h1,h2,h3,h4,h5,h6,h7⟩
  ·cases h1;omega
  ·cases h1;exact⟨g,cur,rfl,h2,h3,h6,h7⟩
 have hvg:=hne g rfl;clear hne;have hcell:∀(j:Nat) u,X[j]?=Y3 u->w.cell? ⟨g,j,U⟩=Y3 u:=λj u hj=>by
  rw[an hg];rw[<-htk,YD] at hj;split at hj
  ·simpa using hj
  ·cases hj
 have hdl:(X.drop (i*6)).length=(n - i)*6:=by rw[List.length_drop,hXl,Nat.sub_mul]
 have hgl:=ae hg;by_cases hroom:n+1<=cap
 ·have hcp1:∀ty dc sc,(Builtin.copy_ #[82,82] ty #[J (Y3 ⟨g,(i+1)*6,U⟩) (n - i) dc,J (Y3 ⟨g,i*6,U⟩) (n+1 - i) sc]).run Tryz.prog w.drew=.ok (goInt (Nat.min (n+1 - i) (n - i))) (w.drew.setRow g (cur.toList.take ((i+1)*6)++X.drop (i*6)++cur.toList.drop ((i+1)*6+(X.drop (i*6)).length)).toArray):=λty dc sc=>
   eu w.drew 82 82 ty 40 g ((i+1)*6) (n - i) dc ⟨g,i*6,U⟩ (n+1 - i) sc 6 cur 40 (X.drop (i*6)) i0 Tryz.underlying82 HI0.1 HI0.2.2.1 hg (by rw[hdl];simp only[Nat.min_def];split <;> omega) (λj u hj=>by
    rw[List.getElem?_drop] at hj;rw[Yo]
    exact hcell _ u hj) (by rw[hdl,hcs];omega) (λu hu=>HX1.out u (List.mem_of_mem_drop hu))
  obtain⟨cur1,hcur1⟩:∃c1:List Value,c1=cur.toList.take ((i+1)*6)++X.drop (i*6)++cur.toList.drop ((i+1)*6+(X.drop (i*6)).length):=⟨_,rfl⟩;rw[<-hcur1] at hcp1;have hc1l:cur1.length=cap*6:=by rw[hcur1];simp only[List.length_append,YG,List.length_drop,hXl,Array.length_toList,hcs];omega
  obtain⟨W1,hW1⟩:∃W1,W1=w.drew.setRow g cur1.toArray:=⟨_,rfl⟩;rw[<-hW1] at hcp1;have hg1:W1.heap[g]?=Y3 (Y6 cur1.toArray 40 (0,0)):=by rw[hW1];exact setRow_heap w.drew g _ _ 40 _ hg
  have hv1:W1.heap[vb]?=w.heap[vb]?:=by rw[hW1];exact setRow_other w.drew g vb _ hvg
  have hcp2:∀ty dc,(Builtin.copy_ #[82,27] ty #[J (Y3 ⟨g,i*6,U⟩) (n+1 - i) dc,J (Y3 ⟨vb,0,U⟩) 1 1]).run Tryz.prog W1=.ok (goInt (Nat.min 1 (n+1 - i))) (W1.setRow g (cur1.take (i*6)++ys++cur1.drop (i*6+ys.length)).toArray):=λty dc=>by
   have:=eu W1 82 27 ty 40 g (i*6) (n+1 - i) dc ⟨vb,0,U⟩ 1 1 6 cur1.toArray 40 ys i0 Tryz.underlying82 HI0.1 HI0.2.2.1 hg1 (by rw[hyl];simp only[Nat.min_def];split <;> omega) (λj u hj=>by
    rw[Yo,an (hv1.trans HY.out),Yq]
    simpa using hj) (by simp only[List.size_toArray];rw[hc1l,hyl];omega) HY1.out
   simpa using this
  have hov:∀lb cb,(callFunc 135 #[J (Y3 ⟨vb,0,U⟩) 1 1,J (Y3 ⟨g,(i+1)*6,U⟩) lb cb]).run Tryz.prog w=.ok (.value (Y7 Y8)) w:=λlb cb=>by
   rw[run_callFunc_extern Tryz.func135 ba ba ba (e:=Extern.SlicesOverlaps.overlaps #[27,27] #[4]) ba,
    Lib.run_overlaps_apart w 27 4 40 Tryz.underlying27 6 (λw=>by kernel_rfl) ⟨vb,0,U⟩ ⟨g,(i+1)*6,U⟩ 1 1 lb cb hvg 40 40 ys.toArray.size cur.size (by simp[World.shape?,HY.out]) (by simp[World.shape?,hg]) (Nat.ne_of_gt (by rw[hcs];omega)) (al HY.out _) (al HY.out _)]
   rfl
  have hb2:¬cap=i+1:=af
  have hb4:¬cap=i:=af
  have hb6:¬((cap:Int)<(n:Int)+1):=af
  have z405z:=@aa _ @abf;exact yY
 have hcn:cap=n:=af
 subst hcn;obtain⟨N,hN⟩:∃N,N=w.heap.size:=⟨_,rfl⟩;obtain⟨G,hG⟩:∃G,G=grownCap w (cap+1) cap 40:=⟨_,rfl⟩;obtain⟨ROW,hROW⟩:∃R:Array Value,R=(X.take (i*6)).toArray++Builtin.zeroCells (Za #[I ⟨#[]⟩,Y4 Y5 0,I ⟨#[]⟩,J U 0 0,I ⟨#[]⟩,Y4 Y5 0]:Value).cells (cap+1 - i)++Builtin.zeroCells (Za #[I ⟨#[]⟩,Y4 Y5 0,I ⟨#[]⟩,J U 0 0,I ⟨#[]⟩,Y4 Y5 0]:Value).cells (G - (cap+1)):=⟨_,rfl⟩;obtain⟨W1,hW1⟩:∃W1,W1=w.drew.alloc (Y6 ROW 40):=⟨_,rfl⟩;have hGn:cap+1<=G:=by rw[hG];exact grownCap_ge w _ _ _
 have hG63:G<=9223372036854775807:=by
  have:=grownCap_le_maxLen w (cap+1) cap 40 bo;rw[<-hG] at this;unfold maxLen at this;omega
 have hRs:ROW.size=G*6:=by
  rw[hROW];simp only[Array.size_append,List.size_toArray,YG,size_zeroCells,hXl];rw[show (Za #[I ⟨#[]⟩,Y4 Y5 0,I ⟨#[]⟩,J U 0 0,I ⟨#[]⟩,Y4 Y5 0]:Value).cells.size=6 from rfl];omega
 have hRt:ROW.toList.take (i*6)=X.take (i*6):=by
  rw[hROW,Array.toList_append,Array.toList_append,List.append_assoc];exact List.take_left' tA
 have hrz:∀ty,(Builtin.append_ #[82,3] ty #[J (Y3 ⟨g,0,U⟩) i cap,Y4 Y5 ((cap:Int)+1 - (i:Int))]).run Tryz.prog w=.ok (J (Y3 ⟨N,0,U⟩) (cap+1) G) W1:=λty=>by
  have hold:(Builtin.firstCells i0.size i (J (Y3 ⟨g,0,U⟩) i cap)).run Tryz.prog w.drew=.ok (X.take (i*6)).toArray w.drew:=by
   rw[HI0.2.2.1];exact run_firstCells_some w.drew 6 i ⟨g,0,U⟩ i cap (X.take (i*6)) tA (λj v hj=>by
    rw[Yo,Yq];rw[YD] at hj
    split at hj
    ·exact hcell j v hj
    ·cases hj)
  have h:=Lib.run_append_grow_zeros w 82 3 ty 40 i0 _ Y5 Y5 Tryz.underlying82 Tryz.underlying3 HI0.1 HI0.2.1 (Y3 ⟨g,0,U⟩) i cap (X.take (i*6)) hold (cap+1 - i) af (by rw[HI0.2.2.1];decide) af af (by rw[HI0.2.2.2];omega) (by rw[HI0.2.2.2];exact growslice_fits af af);rw[show i+(cap+1 - i)=cap+1 by omega,<-hG,<-hROW,<-hW1,<-hN] at h;rw[show (cap:Int)+1 - (i:Int)=((cap+1 - i:Nat):Int) by omega];exact h
 have hgN:W1.heap[N]?=Y3 (Y6 ROW 40 (0,0)):=by rw[hW1,hN];exact Go.heap_alloc_new w.drew _
 have hg1:W1.heap[g]?=w.heap[g]?:=by rw[hW1];exact Go.heap_alloc_old w.drew _ hgl
 have hv1:W1.heap[vb]?=w.heap[vb]?:=by rw[hW1];exact Go.heap_alloc_old w.drew _ hvl
 obtain⟨R2,hR2⟩:∃R2:List Value,R2=ROW.toList.take (i*6)++ys++ROW.toList.drop (i*6+ys.length):=⟨_,rfl⟩;obtain⟨W2,hW2⟩:∃W2,W2=W1.setRow N R2.toArray:=⟨_,rfl⟩;have hcpA:∀ty dc,(Builtin.copy_ #[82,27] ty #[J (Y3 ⟨N,i*6,U⟩) (cap+1 - i) dc,J (Y3 ⟨vb,0,U⟩) 1 1]).run Tryz.prog W1=.ok (goInt (Nat.min 1 (cap+1 - i))) W2:=λty dc=>by
  rw[hW2,hR2];exact eu W1 82 27 ty 40 N (i*6) (cap+1 - i) dc ⟨vb,0,U⟩ 1 1 6 ROW 40 ys i0 Tryz.underlying82 HI0.1 HI0.2.2.1 hgN (by rw[hyl];simp only[Nat.min_def];split <;> omega) (λj u hj=>by
   rw[Yo,an (hv1.trans HY.out),Yq]
   simpa using hj) (by rw[hRs,hyl];omega) HY1.out
 have hR2l:R2.length=G*6:=by
  rw[hR2];simp only[List.length_append,YG,List.length_drop,Array.length_toList,hRs,hyl];omega
 have hgN2:W2.heap[N]?=Y3 (Y6 R2.toArray 40 (0,0)):=by rw[hW2];exact setRow_heap W1 N _ _ 40 _ hgN
 have hgn:¬g=N:=af
 have hg2:W2.heap[g]?=w.heap[g]?:=by rw[hW2,setRow_other W1 N g _ hgn];exact hg1
 obtain⟨R3,hR3⟩:∃R3:List Value,R3=R2.take ((i+1)*6)++X.drop (i*6)++R2.drop ((i+1)*6+(X.drop (i*6)).length):=⟨_,rfl⟩;obtain⟨W3,hW3⟩:∃W3,W3=W2.drew.setRow N R3.toArray:=⟨_,rfl⟩;have hcpB:∀ty dc sc,(Builtin.copy_ #[82,82] ty #[J (Y3 ⟨N,(i+1)*6,U⟩) (cap - i) dc,J (Y3 ⟨g,i*6,U⟩) (cap - i) sc]).run Tryz.prog W2.drew=.ok (goInt (Nat.min (cap - i) (cap - i))) W3:=λty dc sc=>by
  have:=eu W2.drew 82 82 ty 40 N ((i+1)*6) (cap - i) dc ⟨g,i*6,U⟩ (cap - i) sc 6 R2.toArray 40 (X.drop (i*6)) i0 Tryz.underlying82 HI0.1 HI0.2.2.1 hgN2 (by rw[hdl];simp only[Nat.min_def];split <;> omega) (λj u hj=>by
   rw[List.getElem?_drop] at hj;have hc:=hcell _ u hj;rw[Yo];rw[<-hc]
   exact World.cell?_of_block (w:=w) (w':=W2.drew) hg2) (by rw[hdl,List.size_toArray,hR2l];omega) (λu hu=>HX1.out u (List.mem_of_mem_drop hu))
  rw[hW3,hR3];simpa only[List.toList_toArray] using this
 have hW3o:∀k,¬k=N->W3.heap[k]?=W1.heap[k]?:=λk hk=>by rw[hW3,setRow_other W2.drew N k _ hk];exact (congrArg (λz:World=>z.heap[k]?) hW2).trans (setRow_other W1 N k _ hk)
 have hfin:w.grownBy W3 (Y3 g):=by
  have h0:w.grownBy w.drew (Y3 g):=⟨rfl,rfl,rfl,Ye _,λ_ _ _=>rfl⟩;have h1:w.grownBy W1 (Y3 g):=by rw[hW1];exact h0.trans (World.grownBy_alloc w.drew _ _)
  refine⟨?_,?_,?_,?_,λk hk hkg=>(hW3o k af).trans (h1.block k hk hkg)⟩
  ·rw[hW3,hW2];exact h1.os
  ·rw[hW3,hW2];exact h1.tape
  ·rw[hW3,hW2];exact h1.output
  ·rw[hW3,hW2];exact Yl h1.size (by simp[World.setRow])
 have hrow:W3.ownsRow base 40 6 (J (Y3 ⟨N,0,U⟩) (cap+1) G) (cap+1) (X.take (i*6)++ys++X.drop (i*6)):=by
  refine⟨?_,Or.inr ⟨N,G,R3.toArray,rfl,by omega,by rw[hW3];exact setRow_heap W2.drew N _ _ 40 _ hgN2,hGn,by unfold maxLen;omega,?_,?_⟩⟩
  ·simp only[List.length_append,YG,List.length_drop];omega
  ·rw[hR3];simp only[List.size_toArray,List.length_append,YG,List.length_drop,hR2l];omega
  ·have e:=Bm (a:=i*6) (b:=cap*6) (m:=6) (R2:=R2) hRt hXl af hyl hR2 (R2.drop ((i+1)*6+(X.drop (i*6)).length));rw[hR3,show (cap+1)*6=cap*6+6 by omega,show (i+1)*6=i*6+6 by omega];rw[show (i+1)*6=i*6+6 by omega] at e;simpa using e
 have hGi:¬G=i:=af
 have hGim:¬G=i+1:=af
 have hci:¬cap=i:=af
 have hz2:¬((i:Int)=(cap:Int)):=af
 have hz3:(cap:Int)<(cap:Int)+1:=af
 have z405z:=@aa _ @abg;exact yY):p:=h
theorem U5(h:p:=by
 have HX1:=aa hX1;have HXC:=aa hXc;have heq:=λw=>Lib.run_eql_slice_nil w 82 40 a n cap 0 0 Tryz.underlying82;clear hX1 hXc;cases a with
 | none=>
  obtain rfl:X=[]:=by
   rcases X with _|⟨u,X⟩
   ·rfl
   ·obtain⟨g,e,_⟩:=HXC.out 0 u rfl
    cases e
  obtain rfl:n=0:=by simp at hXl;omega
  go_enter Tryz.func87,Tryz.ntmps87
  go_wp2
  go_ret;exact⟨U,0,rfl,World.ownsRow_nil _ _ _ _,Yh _ _⟩
 | some ad=>
  obtain⟨ab,ao,asp⟩:=ad
  have hnew:∀(j:Nat) u,X[j]?=Y3 u->(w.alloc (Y6 #[] 40)).cell? ((⟨ab,ao,asp⟩:Addr).add j)=Y3 u:=λj u hu=>by
   obtain⟨g,e,hc⟩:=HXC.out j u hu
   cases e
   rw[Yo,Yq];have hlt:=bf hc;rw[<-hc];exact World.cell?_of_block (heap_alloc_old w _ hlt)
  have HN:=aa hnew;have HO:Hid ((w.alloc (Y6 #[] 40)).ownsRow w.heap.size 40 6 (J (Y3 ⟨w.heap.size,0,U⟩) 0 0) 0 []):=World.ownsRow_made w #[] 0 (Ye _) (YI _) aF;clear hnew HXC
  go_enter Tryz.func87,Tryz.ntmps87
  go_wp2_with (at_builtin;refine dE rfl _ _ 82 82 rfl w.heap.size 40 40 i0 (Za #[I ⟨#[]⟩,Y4 Y5 0,I ⟨#[]⟩,J U 0 0,I ⟨#[]⟩,Y4 Y5 0]) 6 88 Tryz.underlying82 Tryz.underlying82 HI0.1 HI0.2.1 HI0.2.2.1 HI0.2.2.2 rfl ag _ _ _ rfl HO.out ⟨ab,ao,asp⟩ n cap X rfl hXl HN.out HX1.out bo af aF ?_)
  intro v' w' h1 h2
  obtain⟨a',c',rfl⟩:∃a' c',v'=J a' n c':=by
   rcases h1.2 with ⟨rfl,h0⟩|⟨g,cp,cu,rfl,_⟩
   ·exact⟨U,0,by rw[h0]⟩
   ·exact⟨_,_,rfl⟩
  have H1:=aa h1;have H2:=aa h2;clear h1 h2
  go_wp2
  go_ret;refine⟨a',c',rfl,H1.out,((ak w (Y6 #[] 40)).grown H2.out aF (λg hg=>?_))⟩
  simp[YJ] at hg
  omega):p:=h
theorem Tt(h:p:=by
 obtain⟨p0,p1,p2,p3,p4,p5⟩:=cs6 Bp;have ltp_2:=ae Bp.out;go_wp2_with fail;refine (wD d c.now n.n n.z n.c n.s n.u Y_ ua ul uc _).mono ?_;have z1479z:=@aa _ @FD;exact rW):p:=h
theorem Ts(h:p:=by
 obtain⟨p0,p1,p2,p3,p4,p5⟩:=cs6 Bp;have ltp_2:=ae Bp.out;have HV:Hid (bg c t (co0 (bu 7))):=Zc ⟨7,⟨hl,HT.out,x,HX.1,HX.2,hp,λh=>(by obtain⟨m,h1,_,h3,h4⟩:=h;rw[HN.1] at h1;obtain rfl:=Yd h1;rw[hd] at h3;cases h3)⟩,rfl⟩;obtain⟨cc,hcc⟩:∃cc,cc=bu 7:=⟨_,rfl⟩;rw[<-hcc] at HV;have ev:=(HE.below HB.out).v7;have evl:=bf ev;go_wp2_with fail;refine (eZ E 7 cc hcc _ (HE.below (HB.trans ((ak _ _).mono HB.size))) zE).mono ?_;have z1479z:=@aa _ @FC;exact rW):p:=h
theorem Mj(h:p:=by
 exact z535z):p:=h
theorem mO(h:p:=by
 obtain⟨fr0,fr1,fr2,fr3,fr4,fr5,fr6,fr7⟩:=kY;have hrl:w.heap.size+1<w3.heap.size:=ae Br.out;exact z1050z):p:=h
theorem Kx(h:p:=by
 have HI:=aa hi;clear hi;cases r
 ·have z1707z:=@aa _ @CG;exact gE
 have HT:=aa (HI.1 bX);clear HI;obtain⟨k0,k1,k2,k3,k4,k5⟩:=cs6 Bk;go_wp2_with fail;refine (wN d.a5 d.l5 d.c5 c.ps t w _ HR.p HB.out).mono ?_;rintro e w2 ⟨hb,hf⟩;clear k0 k1 k2 k3 k4 k5;have z1388z:=@aa _ @Hm;exact bj):p:=h
theorem Kw(h:p:=by
 rcases hf with ⟨i,hi8,hwhy,rfl⟩|⟨hl,hT,x,va,vl,vc,hx,hn,rfl,hvr⟩
 ·have z177z:=@aa _ @ad7;exact dx
 have HQ1:Hid (w.heap.size+1<w1.heap.size):=ae Br.out;have HT:=aa hT;have HX:=aa (Yb hx hn);have HVR:=aa (hvr.below HBW.out);have HY:=aa (Bw.refl w1);clear hT hx hn hvr HBW;by_cases hp:x.p=0
 ·have hpb:(x.p==0)=Y_:=eN
  have z177z:=@aa _ @ad6;exact dx
 have hpb:(x.p==0)=Y8:=eN
 have z177z:=@aa _ @ad8;exact dx):p:=h
theorem Kr(h:p:=by
 obtain⟨p0,p1,p2,p3,p4,p5⟩:=cs6 Bp;have ltp_4:=ae Bp.out;have fp0:=al Bp.out 0;have fp1:=al Bp.out 1;have fp2:=al Bp.out 2;have fp3:=al Bp.out 3;have fp4:=al Bp.out 4;have fp5:=al Bp.out 5;have hq1:=HQ1.out;have hne:¬w.heap.size=w1.heap.size:=af
 have hne2:¬w1.heap.size=w.heap.size:=af
 have hne3:¬w1.heap.size=w.heap.size+1:=af
 have hne4:¬w.heap.size+1=w1.heap.size:=af
 go_wp2_with fail;have hpo:=HT.2.1.2.2.2.2.2.1 _ x HX.1;have z0:(idle x).n.size<=9223372036854775807:=by have h1:=hpo.1.2.1;show x.n.size<=_;omega
 have z2:(idle x).z.size<=9223372036854775807:=by
  show x.z.size<=_;rcases hpo.2.2.1 with h1|h1
  ·rw[h1];decide
  ·have h2:=h1.2.1;omega
 have hvl:vl<=8001:=by have h1:=HVR.1;have h2:=hpo.2.2.2.1.1;omega
 have hbs:Below w.heap.size w ((w4.setCell ⟨w1.heap.size,4,U⟩ (I ⟨#[]⟩)).setCell ⟨w1.heap.size,5,U⟩ (Y4 Y5 0)):=ah af (ah af HB.out);have hby:Below w1.heap.size w1 ((w4.setCell ⟨w1.heap.size,4,U⟩ (I ⟨#[]⟩)).setCell ⟨w1.heap.size,5,U⟩ (Y4 Y5 0)):=ah (Ye _) (ah (Ye _) HY.out);refine (wm d c (idle x) va vl vc _ (HR.below hbs) HT.sm (HVR.below hby) hvl z0 z2 (by show (0:Nat)<=_;omega)).mono ?_;rintro e w5 ⟨d',rfl,ho,hb⟩;rw[afK HT.out HX.1 HX.2] at ho;have HO:=aa ho;have hs5:=hb.size;have hs45:((w4.setCell ⟨w1.heap.size,4,U⟩ (I ⟨#[]⟩)).setCell ⟨w1.heap.size,5,U⟩ (Y4 Y5 0)).heap.size=w4.heap.size:=aF
 have hw4:w1.heap.size<w4.heap.size:=ae Bp.out;have Br5:=aa ((hb.block (w.heap.size+1) (by rw[hs45];omega)).trans ((Ya _ _ _ _ hne4).trans ((Ya _ _ _ _ hne4).trans Br.out)));have HB5:=aa (hbs.trans (hb.mono hbs.size));clear hb ho hby hbs;clear k0 k1 k2 k3 k4 k5 ltk_4 p0 p1 p2 p3 p4 p5 ltp_4;obtain⟨r0,r1,r2,r3,r4,r5,r6,r7⟩:=cs8 Br5;have z1545z:=@aa _ @EK;exact rQ):p:=h
theorem Kq(h:p:=by
 obtain⟨p0,p1,p2,p3,p4,p5⟩:=cs6 Bp;have ltp_4:=ae Bp.out;have HV:Hid (bg c t (co0 (bu 7))):=Zc ⟨7,⟨hl,HT.out,x,HX.1,HX.2,hp,λh=>(by obtain⟨m,h1,_,h3,h4⟩:=h;rw[HN.1] at h1;obtain rfl:=Yd h1;exact hg h4)⟩,rfl⟩;obtain⟨cc,hcc⟩:∃cc,cc=bu 7:=⟨_,rfl⟩;rw[<-hcc] at HV;have ev:=(HE.below HB.out).v7;have evl:=bf ev;go_wp2_with fail;refine (eZ E 7 cc hcc _ (HE.below HB.out) zE).mono ?_;rintro e w5 ⟨rfl,hb⟩;clear k0 k1 k2 k3 k4 k5 ltk_4 p0 p1 p2 p3 p4 p5 ltp_4;replace Bk:=upK Bk hb;replace Br:=upK Br hb;replace Bp:=upK Bp hb;replace Bn:=upK Bn hb;replace HY:=aa (HY.below hb);replace HB:=upB HB hb;clear hb;clear hcc;have z1713z:=@aa _ @CF;exact fx):p:=h
theorem Hm(h:p:=by
 rcases hf with ⟨hh,x,va,vl,vc,hx,hn,rfl,z0,z2,z4,hvr⟩|⟨hh,rfl⟩
 ·have HX:=aa (Yb hx (Yb hn hvr));clear hx hn z0 z2 z4 hh hvr;have z438z:=@aa _ @aaV;exact yR
 ·have HH:=aa hh;clear hh;have z438z:=@aa _ @aaU;exact yR):p:=h
theorem FD(h:p:=by
 go_wp2_with fail;refine (Qc n.u c.now _ hu0 hu1).mono ?_;rintro e w4 ⟨rfl,hb⟩;replace Bk:=upK Bk hb;replace Br:=upK Br hb;replace Bp:=upK Bp hb;replace Bn:=upK Bn hb;replace HY:=aa (HY.below hb);replace HB:=upB HB hb;clear hb;by_cases hg:n.u+5<c.now;rotate_left
 ·have hgb:decide (n.u+5<c.now)=Y8:=by simpa using hg
  have z1193z:=@aa _ @Kq;exact ee
 have hgb:decide (n.u+5<c.now)=Y_:=by simpa using hg
 have HV:Hid (bg c t ⟨evC c t x,⟨#[]⟩,0⟩):=Zb ⟨hl,HT.out,x,HX.1,HX.2,hp,⟨n,HN.1,HN.2,hd,hg⟩,rfl⟩;have z1193z:=@aa _ @Kr;exact ee):p:=h
theorem FC(h:p:=by
 clear hcc;obtain⟨r0,r1,r2,r3,r4,r5,r6,r7⟩:=cs8 Br;have z535z:=@aa _ @Nz;exact fa):p:=h
theorem rW(h:p:=by
 rintro e w3 ⟨rfl,hb⟩;clear k0 k1 k2 k3 k4 k5 ltk_2 p0 p1 p2 p3 p4 p5 ltp_2;obtain⟨HA0,hbx⟩:=bB hb;replace Bk:=upK Bk hbx;replace Br:=upK Br hbx;replace Bp:=upK Bp hbx;have Bn:=aa HA0;replace HY:=aa (HY.below hbx);replace HB:=upB HB hbx;clear hb hbx HA0;exact z1479z):p:=h
theorem mu(h:p:=by
 obtain⟨fr0,fr1,fr2,fr3,fr4,fr5,fr6,fr7⟩:=kY;have hrl:w.heap.size+1<w5.heap.size:=ae Br.out;exact z1524z):p:=h
theorem EN(h:p:=by
 have hrl:w.heap.size+1<w2.heap.size:=ae Br.out;exact z160z):p:=h
theorem EK(h:p:=by
 have hrl:=ae Br5.out;go_wp2;refine bodyPost_ret (v:=Za #[J d'.a1 d'.l1 d'.c1,J d'.a2 d'.l2 d'.c2,J d'.a3 d'.l3 d'.c3,J d'.a4 d'.l4 d'.c4,J d'.a5 d'.l5 d'.c5,Y4 Y5 c.now,I ⟨#[]⟩,Y4 Y5 0]) (by simp[results,Tryz.results5,go_sem, *]) rfl ⟨d',⟨evC c t x,⟨#[]⟩,0⟩,rfl,HV.out,?_,sb1 (sb1 (sb1 (sb1 (sb1 (sb1 (sb1 (sb1 (HB5.out))))))))⟩;obtain⟨P,hP⟩:=HO.out;exact⟨P,hP.az (w':=((((((((w5.setCell ⟨w.heap.size+1,0,U⟩ (J d'.a1 d'.l1 d'.c1)).setCell ⟨w.heap.size+1,1,U⟩ (J d'.a2 d'.l2 d'.c2)).setCell ⟨w.heap.size+1,2,U⟩ (J d'.a3 d'.l3 d'.c3)).setCell ⟨w.heap.size+1,3,U⟩ (J d'.a4 d'.l4 d'.c4)).setCell ⟨w.heap.size+1,4,U⟩ (J d'.a5 d'.l5 d'.c5)).setCell ⟨w.heap.size+1,5,U⟩ (Y4 Y5 c.now)).setCell ⟨w.heap.size+1,6,U⟩ (I ⟨#[]⟩)).setCell ⟨w.heap.size+1,7,U⟩ (Y4 Y5 0))) (λk hk s=>by have s1:((w4.setCell ⟨w1.heap.size,4,U⟩ (I ⟨#[]⟩)).setCell ⟨w1.heap.size,5,U⟩ (Y4 Y5 0)).heap.size<=k:=s;rw[hs45] at s1;rw[Ya _ _ _ _ (show k≠w.heap.size+1 by omega),Ya _ _ _ _ (show k≠w.heap.size+1 by omega),Ya _ _ _ _ (show k≠w.heap.size+1 by omega),Ya _ _ _ _ (show k≠w.heap.size+1 by omega),Ya _ _ _ _ (show k≠w.heap.size+1 by omega),Ya _ _ _ _ (show k≠w.heap.size+1 by omega),Ya _ _ _ _ (show k≠w.heap.size+1 by omega),Ya _ _ _ _ (show k≠w.heap.size+1 by omega)]) (λk _ s=>by have s1:((w4.setCell ⟨w1.heap.size,4,U⟩ (I ⟨#[]⟩)).setCell ⟨w1.heap.size,5,U⟩ (Y4 Y5 0)).heap.size<=k:=s;rw[hs45] at s1;show w.heap.size<=k;omega)⟩):p:=h
theorem rQ(h:p:=by
 have fr0:=al Br5.out 0;have fr1:=al Br5.out 1;have fr2:=al Br5.out 2;have fr3:=al Br5.out 3;have fr4:=al Br5.out 4;have fr5:=al Br5.out 5;have fr6:=al Br5.out 6;have fr7:=al Br5.out 7;exact z1545z):p:=h
theorem CH(h:p:=by
 have ltr_2:=ae Br.out;obtain⟨fr0,fr1,fr2,fr3,fr4,fr5⟩:=kJ;exact z438z):p:=h
theorem CG(h:p:=by
 obtain⟨fr0,fr1,fr2,fr3,fr4,fr5⟩:=kJ;have ev:=(HE.below HB.out).v1;have evl:=bf HE.v1;go_wp2;go_region;go_wp2;exact bodyPost_ret (v:=Ze #[Za #[I ⟨#[]⟩,Y4 Y5 0,I ⟨#[]⟩,J U 0 0,I ⟨#[]⟩,Y4 Y5 0],.iface 193 (Zd (Y3 (E 1)))]) zK rfl ⟨Below.kR (sb1 (sb1 (sb1 (sb1 (sb1 (sb1 (HB.out))))))),Zc ⟨1,by decide,⟨hl,λh=>(by have:=HI.2 h;cases this)⟩,rfl⟩⟩):p:=h
theorem CF(h:p:=by
 have z1524z:=@aa _ @Nz;exact mu):p:=h
namespace Rc
theorem eu(w:World) (dT sT ty elem:TypeId) (g o dLen dCap:Nat) (a:Addr) (sLen sCap m:Nat) (cur:Array Value) (t:TypeId) (cs:List Value) (i:TypeInfo)
  (hu:Tryz.prog.underlying dT=Y3 (J elem)) (hi:Tryz.prog.info? elem=Y3 i) (hs:i.size=m)
  (hg:w.heap[g]?=Y3 (Y6 cur t (0,0))) (hn:cs.length=Nat.min sLen dLen*m)
  (hsrc:∀j v,cs[j]?=Y3 v->w.cell? (a.add j)=Y3 v) (hfit:o+cs.length<=cur.size) (h1:∀v∈cs,v.oneCell'=Y_):
  (Builtin.copy_ #[dT,sT] ty #[J (Y3 ⟨g,o,U⟩) dLen dCap,J (Y3 a) sLen sCap]).run Tryz.prog w=
   .ok (goInt (Nat.min sLen dLen)) (w.setRow g (cur.toList.take o++cs++cur.toList.drop (o+cs.length)).toArray):=by
 have hl:=run_loadCells_list (P:=Tryz.prog) w a cs hsrc;have hst:=run_storeCells_at Tryz.prog g o t cs 0 cur w hg (by simpa using hfit) h1;rw[hn] at hl;simp[Builtin.copy_,run_underlying hu,Builtin.lenOf,Builtin.firstCells,sizeOf,typeInfo,hi,hs,hl,hst]
theorem Qf {a b c m:Nat} {X ys cur c1:List Value} (hX:cur.take b=X) (hc:cur.length=c) (h1:a+m<=b) (h2:b+m<=c) (hy:ys.length=m) (h:c1=cur.take (a+m)++X.drop a++cur.drop (a+m+(X.drop a).length)):(c1.take a++(ys++c1.drop (a+m))).take (b+m)=X.take a++ys++X.drop a:=by
 have hXl:X.length=b:=by rw[<-hX,YG];omega
 have e1:c1.take a=X.take a:=by
  rw[h,List.append_assoc,List.take_append_of_le_length tA,List.take_take,<-hX,List.take_take];congr 1;omega
 have e2:c1.drop (a+m)=X.drop a++cur.drop (a+m+(X.drop a).length):=by
  rw[h,List.append_assoc];exact List.drop_left' tA
 rw[e1,e2,<-List.append_assoc,<-List.append_assoc];exact List.take_left' aga
theorem Bm {a b m:Nat} {X ys R R2 S:List Value} (hX:R.take a=X.take a) (hXl:X.length=b) (h1:a<=b) (hy:ys.length=m) (h:R2=R.take a++ys++S) (T:List Value):(R2.take (a+m)++X.drop a++T).take (b+m)=X.take a++ys++X.drop a:=by
 have e1:R2.take (a+m)=X.take a++ys:=by
  rw[h,hX];exact List.take_left' (by simp only[List.length_append,YG];omega)
 rw[e1];exact List.take_left' aga
theorem jQ(w:World) (g:Nat) (cs:Array Value):w.grownBy (w.setRow g cs) (Y3 g):=⟨rfl,rfl,rfl,by simp[World.setRow],λk _ h=>setRow_other w g k cs (λe=>h (by rw[e]))⟩
theorem iu {ops:Array Oper} {o:Oper} {a:Act} {w:World} {K:Act->World->Prop} {Q:Exit->Act->World->Prop} {E:Prop}
  (hg:o.guard=U) (d x:Operand) (dT sT:TypeId) (hop:o.op=Op.call { callee:=Callee.builtin Builtin.copy,args:=#[d,x],argTypes:=#[dT,sT] })
  (v u:Value) (hd:a.eval d=v) (hx:a.eval x=u) {v':Value} {w':World} (hr:(Builtin.copy_ #[dT,sT] o.type #[v,u]).run Tryz.prog w=.ok v' w') (hK:K (a.put o.dst v') w'):
  if YM o (yielded ops a.tmps)=Y_ then Oper.wp Tryz.prog o a w K Q else E:=by
 have hw:YM o (yielded ops a.tmps)=Y_:=by simp[YM,hg]
 rw[if_pos hw];unfold Oper.wp;simp[execOp,hop,resolve,invoke,builtin,hd,hx,hr,Result.andThen];exact hK
theorem Bj {m p:Nat} {vss:List (List α)} (h:∀(j:Nat) vs,vss[j]?=Y3 vs->vs.length=m) (hp:p<=vss.length) (vs:List α):(aM p vs vss).flatten=vss.flatten.take (p*m)++vs++vss.flatten.drop (p*m):=by
 have hl:((vss.take p).flatten).length=p*m:=by
  rw[eR (m:=m) (λj v hv=>by
   rw[YD] at hv
   split at hv
   ·exact h j v hv
   ·cases hv),YG,Nat.min_eq_left hp]
 have e:vss.flatten=(vss.take p).flatten++(vss.drop p).flatten:=zN
 have e1:vss.flatten.take (p*m)=(vss.take p).flatten:=by rw[e];exact List.take_left' hl
 have e2:vss.flatten.drop (p*m)=(vss.drop p).flatten:=by rw[e];exact List.drop_left' hl
 rw[e1,e2];simp[aM]
theorem oL(a:Option Addr) (n cap i base vb:Nat) (X ys:List Value) (w:World) (ho:w.ownsRow base 40 6 (J a n cap) n X) (hn:n<=8) (hin:i<=n) (hbs:base<=w.heap.size) (hy:w.heap[vb]?=Y3 (Y6 ys.toArray 40 (0,0))) (hyl:ys.length=6) (hy1:∀u∈ys,u.oneCell'=Y_) (hX1:∀u∈X,u.oneCell'=Y_) (hne:∀g,a=Y3 ⟨g,0,U⟩->¬vb=g):
  Calls Tryz.prog 86 #[J a n cap,Y4 Y5 i,J (Y3 ⟨vb,0,U⟩) 1 1] w λe w'=> ∃v',e=Y9 v'/\w'.ownsRow base 40 6 v' (n+1) (X.take (i*6)++ys++X.drop (i*6))/\w.grownBy w' ((J a n cap:Value).ownBlock):=by
 have z702z:=@aa _ @U6;exact lh
 go_region_law_o (refine iu rfl _ _ 82 82 rfl _ _ zF zF (hcpB 3 (G - (i+1)) (cap - i)) ?_)
 go_wp2
 go_ret;exact⟨_,rfl,HF.1,HF.2⟩
theorem kT(a:Option Addr) (n cap:Nat) (X:List Value) (w:World) (hn:n<=8) (hXl:X.length=n*6) (hX1:∀u∈X,u.oneCell'=Y_) (hXc:∀(j:Nat) u,X[j]?=Y3 u->∃g,a=Y3 ⟨g,0,U⟩/\w.cell? ⟨g,j,U⟩=Y3 u):
  Calls Tryz.prog 87 #[J a n cap] w λe w'=> ∃a' c',e=Y9 (J a' n c')/\w'.ownsRow w.heap.size 40 6 (J a' n c') n X/\Below w.heap.size w w':=by
 have z702z:=@aa _ @U5;exact lh
theorem uL(a:Option Addr) (n cap:Nat) (xs:List Pd) (x:Pd) (va:Option Addr) (vl vc hh:Nat) (Q Q2:Nat->Prop) (w:World) (ho:aw w a n cap 6 40 (xs.map pdF) Q) (hn:n<=8) (hxf:∀(i:Nat) f,(pdF x)[i]?=Y3 f->∃v,[I x.n,Y4 Y5 x.c,I x.z,J va vl vc,I x.d,Y4 Y5 x.p][i]?=Y3 v/\f.Fr w hh Q2 v) (hq:∀k,Q k->Q2 k->False):
  Calls Tryz.prog 44 #[J a n cap,Za #[I x.n,Y4 Y5 x.c,I x.z,J va vl vc,I x.d,Y4 Y5 x.p]] w λe w'=> ∃a' l' c',e=Y9 (J a' l' c')/\aw w' a' l' c' 6 40 ((aM (pl Pd.n xs x.n) x xs).map pdF) (λk=>(Q k\/Q2 k)\/w.heap.size<=k)/\Below w.heap.size w w':=by
 have HR:=aa ho.row;have hxl:xs.length=n:=og
 obtain⟨vss,H,hV,hcell⟩:=ho.i_;have hvl:vss.length=n:=by rw[hV.len,Yr,hxl]
 have hfl:vss.flatten.length=n*6:=by rw[eR hV.all,hvl]
 have HV:=aa hV;have HC:=aa hcell;have HF:=aa hxf;have HQ:=aa hq;clear ho hV hcell hxf hq;have z306z:=@aa _ @acq;exact pL
theorem gC {xs:List α} {x:α} (hr:aH nm xs) (hx:xs[k]?=Y3 x) (hn:nm x=t):wo nm t xs=xs.take k++xs.drop (k+1):=by
 have hk:k<xs.length:=(Yc.1 hx).1;have e:xs=xs.take k++x ::xs.drop (k+1):=by
  have h1:xs.drop k=x ::xs.drop (k+1):=by rw[List.drop_eq_getElem_cons hk];congr 1;exact (Yc.1 hx).2
  rw[<-h1,List.take_append_drop]
 have hno:∀(j:Nat) y,xs[j]?=Y3 y->¬j=k->(!((nm y).toList==t.toList))=Y_:=λj y hj hne=>by
  have:¬nm y=t:=λq=>hne (hr.inj hj hx (q.trans hn.symm)).1;simp[bA this]
 have h1:(xs.take k).filter (λx=> !((nm x).toList==t.toList))=xs.take k:=List.filter_eq_self.2 λy hy=>by
  obtain⟨j,hj⟩:=YF hy;rw[YD] at hj;split at hj
  ·exact hno j y hj af
  ·cases hj
 have h2:(xs.drop (k+1)).filter (λx=> !((nm x).toList==t.toList))=xs.drop (k+1):=List.filter_eq_self.2 λy hy=>by
  obtain⟨j,hj⟩:=YF hy;rw[List.getElem?_drop] at hj;exact hno _ y hj af
 unfold wo;conv=>lhs;rw[e]
 rw[List.filter_append,List.filter_cons,h1,h2,aP hn];rfl
theorem afn {ps:List α} {x y:α} (hr:aH nm ps) (hx:ps[k]?=Y3 x) (hn:nm x=t):aM (pl nm (wo nm t ps) t) y (wo nm t ps)=ps.set k y:=by
 have hk:k<ps.length:=(Yc.1 hx).1;have hw:=gC hr hx hn;have hpl:pl nm (wo nm t ps) t=k:=by
  rw[hw];have hlt:∀(j:Nat) z,j<k->(ps.take k++ps.drop (k+1))[j]?=Y3 z->Yk (nm z).toList t.toList=Y_:=λj z hj hz=>by
   exact Pq
  by_cases he:k+1<ps.length
  ·have z375z:=@aa _ @abC;exact ze
  ·exact PT
 exact On
def qB(c:Cl) (t:ByteArray):Nat->Prop
 | 0=>8000<t.size
 | 1=>¬8000<t.size/\¬av c
 | 2=>¬8000<t.size/\av c/\hit Pd.n c.ps t=Y8
 | _=>False
def alY(c:Cl) (t:ByteArray) (E:Nat->Addr) (w:World) (e:Ending) (w':World):Prop:=
 Below w.heap.size w w'/\((∃i,i<9/\qB c t i/\e=Y9 (Ze #[Za #[I ⟨#[]⟩,Y4 Y5 0,I ⟨#[]⟩,J U 0 0,I ⟨#[]⟩,Y4 Y5 0],.iface 193 (Zd (Y3 (E i)))]))\/
  (¬8000<t.size/\av c/\∃(x:Pd) (va:Option Addr) (vl vc:Nat),c.ps[pl Pd.n c.ps t]?=Y3 x/\x.n=t/\e=Y9 (Ze #[Za #[I x.n,Y4 Y5 x.c,I x.z,J va vl vc,I x.d,Y4 Y5 x.p],.nilIface])/\ay w va vl vc x.zs))
theorem Bl(d:Ad) (c:Cl) (t:ByteArray) (E:Nat->Addr) (w:World) (hr:aB w d c.raw) (hG:Ers w E):
  Calls Tryz.prog 16 #[Za #[J d.a1 d.l1 d.c1,J d.a2 d.l2 d.c2,J d.a3 d.l3 d.c3,J d.a4 d.l4 d.c4,J d.a5 d.l5 d.c5,Y4 Y5 c.now],I t] w (alY c t E w):=by
 have HR:=aa hr;have HE:=aa hG;have HB:=aa (Yh w.heap.size w);clear hr hG;by_cases hl:8000<t.size
 ·have ev:=(HE.below (aR w (Y6 (clv d c.now) 29) (Y6 #[I ⟨#[]⟩,Y4 Y5 0,I ⟨#[]⟩,J U 0 0,I ⟨#[]⟩,Y4 Y5 0] 40))).v0;go_enter Tryz.func16,Tryz.ntmps16;go_wp2_with fail;refine (P4 t _ hl).mono ?_;rintro e w1 ⟨rfl,rfl⟩;go_wp2;go_region;go_wp2;exact bodyPost_ret (v:=Ze #[Za #[I ⟨#[]⟩,Y4 Y5 0,I ⟨#[]⟩,J U 0 0,I ⟨#[]⟩,Y4 Y5 0],.iface 193 (Zd (Y3 (E 0)))]) zK rfl ⟨Below.kR (aR _ _ _),Zc ⟨0,by decide,hl,rfl⟩⟩
 go_enter Tryz.func16,Tryz.ntmps16;go_wp2_with fail;refine (afA t _ hl).mono ?_;rintro e w1 ⟨rfl,rfl⟩;go_wp2_with fail;refine (wA d c _ (HR.below (HB.trans ((aR _ _ _).mono HB.size))) (HE.below (HB.trans ((aR _ _ _).mono HB.size))).ens).mono ?_;rintro e w1 ⟨r,rfl,hi,hb⟩;have z1186z:=@aa _ @Kx;exact fA
def af1(c:Cl) (x:Pd):Prop:=∃n:Nd,c.ns[pl Nd.n c.ns x.d]?=Y3 n/\n.n=x.d/\n.d=Y_/\n.u+5<c.now
def idle(x:Pd):Pd:=⟨x.n,x.c,x.z,x.zs,⟨#[]⟩,0⟩
def evC(c:Cl) (t:ByteArray) (x:Pd):Cl:=⟨c.ns,c.ks,c.vs,c.xs,c.ps.set (pl Pd.n c.ps t) (idle x),c.now⟩
def afo(c:Cl) (x:Pd):Cl:=⟨c.ns,c.ks,c.vs,c.xs,aM (pl Pd.n (wo Pd.n x.n c.ps) x.n) x (wo Pd.n x.n c.ps),c.now⟩
def EvWhy(c:Cl) (t:ByteArray):Nat->Prop
 | 0=>8000<t.size
 | 1=>¬8000<t.size/\¬av c
 | 2=>¬8000<t.size/\av c/\hit Pd.n c.ps t=Y8
 | 8=>¬8000<t.size/\av c/\∃x,c.ps[pl Pd.n c.ps t]?=Y3 x/\x.n=t/\x.p=0
 | 7=>¬8000<t.size/\av c/\∃x,c.ps[pl Pd.n c.ps t]?=Y3 x/\x.n=t/\¬x.p=0/\¬af1 c x
 | _=>False
def bg(c:Cl) (t:ByteArray) (o:Co):Prop:=(∃i,EvWhy c t i/\o=co0 (bu i))\/(¬8000<t.size/\av c/\∃x,c.ps[pl Pd.n c.ps t]?=Y3 x/\x.n=t/\¬x.p=0/\af1 c x/\o=⟨evC c t x,⟨#[]⟩,0⟩)
theorem av.node(h:av c) (hx:c.ps[i]?=Y3 x) (hp:¬x.p=0):∃(j:Nat) (n:Nd),c.ns[j]?=Y3 n/\n.n=x.d/\Inn n.u 0 1000000:=by
 have h1:=h.2.1.2.2.2.2.2.1 i x hx;have h2:=(h.2.2.2.1.1 i x hx).2;have hd:¬x.d=⟨#[]⟩:=λe=>by
  have h3:=h1.2.2.2.2;rw[e] at h3;rcases h3 with ⟨h3,_⟩|⟨_,h3⟩
  ·exact hp h3
  ·have h5:=h3.1;revert h5;decide
 obtain⟨j,n,h3,h4,_⟩:=h2.resolve_left hd;exact⟨j,n,h3,h4,(h.2.1.1.2.1 j n h3).2.2.2.2.1⟩
theorem afm {ps:List Pd} {y:Pd} (hr:aH Pd.n ps) (hx:ps[k]?=Y3 x) (hn:x.n=t):aM (pl Pd.n (wo Pd.n t ps) t) y (wo Pd.n t ps)=ps.set k y:=by
 have hk:k<ps.length:=(Yc.1 hx).1;have hw:=gC hr hx hn;have hpl:pl Pd.n (wo Pd.n t ps) t=k:=by
  rw[hw];have hlt:∀(j:Nat) z,j<k->(ps.take k++ps.drop (k+1))[j]?=Y3 z->Yk z.n.toList t.toList=Y_:=λj z hj hz=>by
   exact Pq
  by_cases he:k+1<ps.length
  ·have z375z:=@aa _ @abB;exact ze
  ·exact PT
 exact On
theorem wD(d:Ad) (now:Int) (n z:ByteArray) (p s u:Int) (y:Bool) (va:Option Addr) (vl vc:Nat) (w:World)  :
  Calls Tryz.prog 19 #[Za #[J d.a1 d.l1 d.c1,J d.a2 d.l2 d.c2,J d.a3 d.l3 d.c3,J d.a4 d.l4 d.c4,J d.a5 d.l5 d.c5,Y4 Y5 now],Za #[I n,I z,Y4 Y5 p,Y4 Y5 s,Y4 Y5 u,Y7 y,J va vl vc]] w λe w'=>e=Y9 (Za #[Y4 Y5 u,Y4 Y5 now])/\Below w.heap.size w w':=by
 go_enter Tryz.func19,Tryz.ntmps19;go_wp2;exact bodyPost_ret (v:=Za #[Y4 Y5 u,Y4 Y5 now]) (by simp[results,Tryz.results19,go_sem]) rfl ⟨rfl,dj _ _ _ _⟩
theorem Qc(u now:Int) (w:World) (h0:0<=u) (h1:u<=1000000):
  Calls Tryz.prog 20 #[Za #[Y4 Y5 u,Y4 Y5 now]] w λe w'=>e=Y9 (Y7 (decide (u+5<now)))/\Below w.heap.size w w':=by
 go_enter Tryz.func20,Tryz.ntmps20;go_wp2;go_ret;exact⟨rfl,ak _ _⟩
theorem wm(d:Ad) (c:Cl) (x:Pd) (va:Option Addr) (vl vc:Nat) (w:World) (hr:aB w d c.raw) (hs:Sm c) (hx:ay w va vl vc x.zs) (hvl:vl<=8001) (z0:x.n.size<=9223372036854775807) (z2:x.z.size<=9223372036854775807) (z4:x.d.size<=9223372036854775807):
  Calls Tryz.prog 21 #[Za #[J d.a1 d.l1 d.c1,J d.a2 d.l2 d.c2,J d.a3 d.l3 d.c3,J d.a4 d.l4 d.c4,J d.a5 d.l5 d.c5,Y4 Y5 c.now],Za #[I x.n,Y4 Y5 x.c,I x.z,J va vl vc,I x.d,Y4 Y5 x.p]] w λe w'=> ∃d',e=Y9 (Za #[J d'.a1 d'.l1 d'.c1,J d'.a2 d'.l2 d'.c2,J d'.a3 d'.l3 d'.c3,J d'.a4 d'.l4 d'.c4,J d'.a5 d'.l5 d'.c5,Y4 Y5 c.now])/\cX w' d' (afo c x).raw (λk=>w.heap.size<=k)/\Below w.heap.size w w':=by
 have HR:=aa hr;have HS:=aa hs;have HX:=aa hx;have HB:=aa (Yh w.heap.size w);clear hr hs hx;go_enter Tryz.func21,Tryz.ntmps21;go_wp2_with fail;refine (Be d c _ (HR.below (HB.trans ((dj _ _ _ _).mono HB.size))) HS.out).mono ?_;rintro e w1 ⟨d',rfl,ho,hb⟩;have HQ2:=aa hb.size;simp only[db] at HQ2 ho;obtain⟨HA0,HA1,HA2,hbx⟩:=uP hb;have Bk:=aa HA0;have Bp:=aa HA1;have Br:=aa HA2;replace HB:=upB HB hbx;clear hb hbx HA0 HA1 HA2;obtain⟨P,hP⟩:=ho;have HP:=aa hP;have hq2:w.heap.size+1+1+1<=w1.heap.size:=HQ2.out;clear hP;obtain⟨p0,p1,p2,p3,p4,p5⟩:=cs6 Bp;have ltp_1:=ae Bp.out;have h5:=(HP.p.bl (S':=(λk=>(w.heap.size+1+1+1<=k/\P k=5)/\k<w1.heap.size)) (λk hk s=>⟨s,hk⟩)).below (ak w1 (Y6 (clv d' c.now) 29));have hlen:d'.l5<=8:=by have h6:=HP.p.1;have h7:(c.ps.map pdF).length=d'.l5:=h6;rw[Yr] at h7;have:=HS.p;omega
 have hbo:Below w1.heap.size w1 (w1.alloc (Y6 (clv d' c.now) 29)):=ak w1 (Y6 (clv d' c.now) 29);have hpk:=ae Bp.out;have hc1:Calls Tryz.prog 43 #[J d'.a5 d'.l5 d'.c5,I x.n] (w1.alloc (Y6 (clv d' c.now) 29)).drew λe W=> ∃a2 l2 c2,e=Y9 (J a2 l2 c2)/\Hid (aw W a2 l2 c2 6 40 ((wo Pd.n x.n c.ps).map pdF) (λk=>(λk=>(w.heap.size+1+1+1<=k/\P k=5)/\k<w1.heap.size) k\/w1.heap.size+1<=k))/\Hid (Below (w1.alloc (Y6 (clv d' c.now) 29)).heap.size (w1.alloc (Y6 (clv d' c.now) 29)) W)/\Hid (W.heap[w.heap.size+1]?=Y3 (Y6 (pov x va vl vc) 40 (0,0)))/\Hid (W.heap[w1.heap.size]?=Y3 (Y6 (clv d' c.now) 29 (0,0)))/\Hid (W.heap[w.heap.size+1+1]?=Y3 (Y6 (clo6 U 0 0 U 0 0 U 0 0 U 0 0 U 0 0 0) 29 (0,0))):=by
  refine (A7 d'.a5 d'.l5 d'.c5 c.ps x.n (λk=>(w.heap.size+1+1+1<=k/\P k=5)/\k<w1.heap.size) (w1.alloc (Y6 (clv d' c.now) 29)).drew (h5.az (λ_ _ _=>rfl) (λ_ _ s=>s)) hlen).mono ?_;rintro e W ⟨a2,l2,c2,rfl,hN,hb⟩;have hb':Below (w1.alloc (Y6 (clv d' c.now) 29)).heap.size (w1.alloc (Y6 (clv d' c.now) 29)) W:=⟨hb.os,hb.tape,hb.output,hb.size,hb.block⟩;have hN':=hN.bl (S':=λk=>(λk=>(w.heap.size+1+1+1<=k/\P k=5)/\k<w1.heap.size) k\/w1.heap.size+1<=k) (λk _ s=>s.imp id (λq=>by have q1:(w1.alloc (Y6 (clv d' c.now) 29)).drew.heap.size<=k:=q;simpa using q1));exact⟨a2,l2,c2,rfl,hN',hb',(hb'.block _ bJ).trans ((hbo.block _ hpk).trans Bp.out),(hb'.block _ aF).trans (heap_alloc_new w1 (Y6 (clv d' c.now) 29)),(hb'.block _ bJ).trans ((hbo.block _ af).trans Br.out)⟩
 have hc2:∀W,Below (w1.alloc (Y6 (clv d' c.now) 29)).heap.size (w1.alloc (Y6 (clv d' c.now) 29)) W->Hid (W.heap[w.heap.size+1]?=Y3 (Y6 (pov x va vl vc) 40 (0,0)))/\Hid (W.heap[w1.heap.size]?=Y3 (Y6 (clv d' c.now) 29 (0,0)))/\Hid (W.heap[w.heap.size+1+1]?=Y3 (Y6 (clo6 U 0 0 U 0 0 U 0 0 U 0 0 U 0 0 0) 29 (0,0)))->Calls Tryz.prog 45 #[Za #[I x.n,Y4 Y5 x.c,I x.z,J va vl vc,I x.d,Y4 Y5 x.p]] W λe W3=> ∃a3 l3 c3,e=Y9 (Za #[I x.n,Y4 Y5 x.c,I x.z,J a3 l3 c3,I x.d,Y4 Y5 x.p])/\Hid (bN W3 a3 l3 c3 x.zs (λk=>W.heap.size<=k))/\Hid (Below W.heap.size W W3)/\Hid (W3.heap[w.heap.size+1]?=Y3 (Y6 (pov x va vl vc) 40 (0,0)))/\Hid (W3.heap[w1.heap.size]?=Y3 (Y6 (clv d' c.now) 29 (0,0)))/\Hid (W3.heap[w.heap.size+1+1]?=Y3 (Y6 (clo6 U 0 0 U 0 0 U 0 0 U 0 0 U 0 0 0) 29 (0,0))):=λW hb hkp=>by
  refine (nu x va vl vc W (HX.below (HB.trans ((hbo.trans (hb.mono aF)).mono HB.size))) hvl).mono ?_;rintro e W3 ⟨a3,l3,c3,rfl,hO,hb3⟩;exact⟨a3,l3,c3,rfl,hO,hb3,(hb3.block _ (ae hkp.1.out)).trans hkp.1.out,(hb3.block _ (ae hkp.2.1.out)).trans hkp.2.1.out,(hb3.block _ (ae hkp.2.2.out)).trans hkp.2.2.out⟩
 have hc3:∀(W W3:World) a2 l2 c2 a3 l3 c3,Below (w1.alloc (Y6 (clv d' c.now) 29)).heap.size (w1.alloc (Y6 (clv d' c.now) 29)) W->aw W a2 l2 c2 6 40 ((wo Pd.n x.n c.ps).map pdF) (λk=>(λk=>(w.heap.size+1+1+1<=k/\P k=5)/\k<w1.heap.size) k\/w1.heap.size+1<=k)->Below W.heap.size W W3->bN W3 a3 l3 c3 x.zs (λk=>W.heap.size<=k)->Hid (W3.heap[w.heap.size+1]?=Y3 (Y6 (pov x va vl vc) 40 (0,0)))/\Hid (W3.heap[w1.heap.size]?=Y3 (Y6 (clv d' c.now) 29 (0,0)))/\Hid (W3.heap[w.heap.size+1+1]?=Y3 (Y6 (clo6 U 0 0 U 0 0 U 0 0 U 0 0 U 0 0 0) 29 (0,0)))->Calls Tryz.prog 44 #[J a2 l2 c2,Za #[I x.n,Y4 Y5 x.c,I x.z,J a3 l3 c3,I x.d,Y4 Y5 x.p]] W3 λe W4=> ∃a4 l4 c4,e=Y9 (J a4 l4 c4)/\Hid (aw W4 a4 l4 c4 6 40 ((afo c x).ps.map pdF) (λk=>(λk=>(w.heap.size+1+1+1<=k/\P k=5)/\k<w1.heap.size) k\/w1.heap.size+1<=k))/\Hid (Below w1.heap.size w1 W4)/\Hid (W4.heap[w.heap.size+1]?=Y3 (Y6 (pov x va vl vc) 40 (0,0)))/\Hid (W4.heap[w1.heap.size]?=Y3 (Y6 (clv d' c.now) 29 (0,0)))/\Hid (W4.heap[w.heap.size+1+1]?=Y3 (Y6 (clo6 U 0 0 U 0 0 U 0 0 U 0 0 U 0 0 0) 29 (0,0))):=λW W3 a2 l2 c2 a3 l3 c3 hb hO2 hb3 hO3 hkp=>by
  obtain⟨g,hg⟩:=hO3.fr;have hr2:=(hO2.bl (S':=λk=>((λk=>(w.heap.size+1+1+1<=k/\P k=5)/\k<w1.heap.size) k\/w1.heap.size+1<=k)/\k<W.heap.size) (λk hk s=>⟨s,hk⟩)).below hb3;have hl2:l2<=8:=by have h6:=hO2.1;rw[Yr] at h6;have h7:=nU Pd.n x.n c.ps;have:=HS.p;omega
  have hs1:=hb.size;simp only[db] at hs1;refine (uL a2 l2 c2 (wo Pd.n x.n c.ps) x a3 l3 c3 g _ (λk=>W.heap.size<=k) W3 hr2 hl2 (λi f hf=>by rcases i with _|_|_|_|_|_|i <;> simp[pdF] at hf <;> subst hf;exact⟨_,rfl,rfl,z0⟩;exact⟨_,rfl,rfl⟩;exact⟨_,rfl,rfl,z2⟩;exact⟨_,rfl,hg⟩;exact⟨_,rfl,rfl,z4⟩;exact⟨_,rfl,rfl⟩) (λk q1 q2=>by have q3:=q1.2;have q4:W.heap.size<=k:=q2;omega)).mono ?_;rintro e W4 ⟨a4,l4,c4,rfl,hN,hb4⟩;have hs3:=hb3.size;have hb14:Below w1.heap.size w1 W4:=(hbo.trans (hb.mono aF)).trans ((hb3.mono af).trans (hb4.mono af));have hN':=hN.bl (S':=λk=>(λk=>(w.heap.size+1+1+1<=k/\P k=5)/\k<w1.heap.size) k\/w1.heap.size+1<=k) (λk _ s=>by
   rcases s with (s|s)|s
   ·exact s.1
   ·have s1:W.heap.size<=k:=s;exact Zb af
   ·have s1:W3.heap.size<=k:=s;exact Zb af)
  exact⟨a4,l4,c4,rfl,hN',hb14,(hb4.block _ (ae hkp.1.out)).trans hkp.1.out,(hb4.block _ (ae hkp.2.1.out)).trans hkp.2.1.out,(hb4.block _ (ae hkp.2.2.out)).trans hkp.2.2.out⟩
 have C1:=aa hc1;have C2:=aa hc2;have C3:=aa hc3;clear hc1 hc2 hc3 h5 HX;have mixed:Tryz.prog.follows .mixedOrders=Y_:=ba
 go_wp2;go_region_with (first
  | (go_at_call 43;refine C1.mono ?_;rintro e w2 ⟨a2,l2,c2,rfl,HO2,HB2,HKP2⟩;obtain⟨p0,p1,p2,p3,p4,p5⟩:=cs6 HKP2.1.out)
  | (go_at_call 45;refine (C2.out w2 HB2.out HKP2).mono ?_;rintro e w3 ⟨a3,l3,c3,rfl,HO3,HB3,HKP3⟩)
  | (go_at_call 44;refine (C3.out w2 w3 a2 l2 c2 a3 l3 c3 HB2.out HO2.out HB3.out HO3.out HKP3).mono ?_;rintro e w4 ⟨a4,l4,c4,rfl,HO4,HB4,HKP4⟩;obtain⟨o0,o1,o2,o3,o4,o5⟩:=cs6 HKP4.2.1.out;have hol:=ae HKP4.2.1.out;have fo4:=al HKP4.2.1.out 4))
 all_goals (
  obtain⟨r0,r1,r2,r3,r4,r5⟩:=cs6 HKP4.2.2.out;have fr0:=al HKP4.2.2.out 0;have fr1:=al HKP4.2.2.out 1;have fr2:=al HKP4.2.2.out 2;have fr3:=al HKP4.2.2.out 3;have fr4:=al HKP4.2.2.out 4;have fr5:=al HKP4.2.2.out 5;have hrl:=ae HKP4.2.2.out
  have hne:¬w.heap.size+1+1=w1.heap.size:=af
  have hne2:¬w1.heap.size=w.heap.size+1+1:=af
  go_wp2
  refine bodyPost_ret (v:=Za #[J d'.a1 d'.l1 d'.c1,J d'.a2 d'.l2 d'.c2,J d'.a3 d'.l3 d'.c3,J d'.a4 d'.l4 d'.c4,J a4 l4 c4,Y4 Y5 c.now]) (by simp[results,Tryz.results21,go_sem, *]) rfl ⟨⟨d'.a1,d'.l1,d'.c1,d'.a2,d'.l2,d'.c2,d'.a3,d'.l3,d'.c3,d'.a4,d'.l4,d'.c4,a4,l4,c4⟩,rfl,?_,sb2 (sb2 (sb2 (sb2 (sb2 (sb2 (ah (show w.heap.size<=w1.heap.size by omega) (HB.trans (HB4.mono HB.size))))))))⟩;have h9:=HP.amn hq2 HO4.out HB4.out (w4:=(((((((w4.setCell ⟨w1.heap.size,4,U⟩ (J a4 l4 c4)).setCell ⟨w.heap.size+1+1,0,U⟩ (J d'.a1 d'.l1 d'.c1)).setCell ⟨w.heap.size+1+1,1,U⟩ (J d'.a2 d'.l2 d'.c2)).setCell ⟨w.heap.size+1+1,2,U⟩ (J d'.a3 d'.l3 d'.c3)).setCell ⟨w.heap.size+1+1,3,U⟩ (J d'.a4 d'.l4 d'.c4)).setCell ⟨w.heap.size+1+1,4,U⟩ (J a4 l4 c4)).setCell ⟨w.heap.size+1+1,5,U⟩ (Y4 Y5 c.now))) (λk h1 h2=>by rw[Ya _ _ _ _ (show k≠w.heap.size+1+1 by omega),Ya _ _ _ _ (show k≠w.heap.size+1+1 by omega),Ya _ _ _ _ (show k≠w.heap.size+1+1 by omega),Ya _ _ _ _ (show k≠w.heap.size+1+1 by omega),Ya _ _ _ _ (show k≠w.heap.size+1+1 by omega),Ya _ _ _ _ (show k≠w.heap.size+1+1 by omega),Ya _ _ _ _ (show k≠w1.heap.size by omega)])
  exact h9.bl (λk _ s=>by have s1:w.heap.size+1+1+1<=k:=s;show w.heap.size<=k;omega))
theorem qB.ev(h:qB c t i):EvWhy c t i:=by
 rcases i with _|_|_|i <;> first|exact h|exact h.elim
theorem afK(hr:av c) (hx:c.ps[pl Pd.n c.ps t]?=Y3 x) (hn:x.n=t):afo c (idle x)=evC c t x:=by
 unfold afo evC;have h:=afm (y:=idle x) hr.2.1.2.2.2.2.2.2 hx hn;rw[<-hn] at h ⊢;rw[show (idle x).n=x.n from rfl,h]
theorem wF(d:Ad) (c:Cl) (t:ByteArray) (E:Nat->Addr) (w:World) (hr:aB w d c.raw) (hG:Ers w E):
  Calls Tryz.prog 5 #[Za #[J d.a1 d.l1 d.c1,J d.a2 d.l2 d.c2,J d.a3 d.l3 d.c3,J d.a4 d.l4 d.c4,J d.a5 d.l5 d.c5,Y4 Y5 c.now],I t] w (amy (bg c t) w):=by
 have HR:=aa hr;have HE:=aa hG;have HB:=aa (Yh w.heap.size w);clear hr hG;go_enter Tryz.func5,Tryz.ntmps5;go_wp2_with fail;refine (Bl d c t E _ (HR.below (HB.trans ((aR _ _ _).mono HB.size))) (HE.below (HB.trans ((aR _ _ _).mono HB.size)))).mono ?_;rintro e w1 ⟨hb,hf⟩;have HBW:=aa hb;have z1186z:=@aa _ @Kw;exact fA
end Rc
end Go.Proofs.YtiplhgedmjoliaaGreatDoor

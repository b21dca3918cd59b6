import Derived.Test.YtiplhgedmjoliaaGreatDoorV9
import Derived.Deep.CutRange
set_option maxRecDepth 100000
set_option maxHeartbeats 12800000
open Bool renaming false→Y8,true→Y_
open Go.Ending renaming returned→Y9
open Go.IntKind renaming i64→Y5
open Go.Obj renaming cells→Y6
open Go.Value renaming string→I,slice→J,int→Y4,bool→Y7,agg→Za,pointer→Zd,tuple→Ze
open Option renaming none→U,some→Y3
open Or renaming inr→Zb,inl→Zc
open And renaming intro→Yb
open Array renaming getElem?_push_size→Yg, getD_eq_getD_getElem?→Yp, getElem?_eq_some_iff→Yw
open Bool renaming and_eq_true→YE
open Go.Addr renaming add_lit→Yo
open Go.Calls renaming quiet_of_same→YC
open Go.Op renaming bytesLess→Yk
open Go.Region renaming ready→YR
open Go.RowKit.Below renaming heap_setCell→Ya, refl→Yh, heap_alloc→Ym
open Go.Value renaming string→Yn, ownBlock→YJ
open Go.World renaming setCell→YO
open List renaming getElem?_eq_some_iff→Yc, lookup→Yf, getElem?_eq_getElem→Yi, length_map→Yr, setIfInBounds_toArray→Ys, getElem?_map→Yt, mem_of_getElem?→Yu, getElem?_append_left→Yv, drop_eq_nil_of_le→Yx, set_cons_zero→YA, set_cons_succ→YB, getElem?_take→YD, getElem?_of_mem→YF, length_take→YG, take_of_length_le→YH, length_set→YK, take_add_one→YL, foldr→YQ
open Nat renaming le_refl→Ye, lt_of_lt_of_le→Yj, le_trans→Yl, zero_add→Yq, le_succ→Yy, zero_le→YI
open Option renaming map_eq_some_iff→Yz
open Option.some renaming inj→Yd
namespace Go.Proofs.YtiplhgedmjoliaaGreatDoor
variable {p:Prop}
namespace Mk
end Mk
open Go.RowKit Mk
variable {S:Nat->Prop} {a:Act} {front rest:List Oper} {j:Nat} {known:List (Tmp×Fact)} {listed:Array Bool} {o:Oper} {t:Tmp} {v:Vd} {vs:List Vd} {w:World} {φs:List Fact}
theorem kH(h:p:=by simp[results,Tryz.results58,go_sem, *]):p:=h
theorem mW(h:p:=by simp[results,Tryz.results60,go_sem, *]):p:=h
theorem mV(h:p:=by simp[results,Tryz.results62,go_sem, *]):p:=h
theorem gq(h:p:=by have:=s.2;omega):p:=h
theorem oj(h:p:=by rcases s with (s|s)|s <;> omega):p:=h
theorem oi(h:p:=by simp only[db];omega):p:=h
theorem zI(h:p:=by simp[results,Tryz.results65,go_sem, *]):p:=h
theorem zH(h:p:=by simp[results,Tryz.results66,go_sem, *]):p:=h
theorem alo(h:p:=by
 have hb5:Below wc.heap.size w10 w11:=(Yh wc.heap.size w10).grown hgr5 af (λg hg=>(HO4.lt g hg).1);obtain⟨t1,t2,t3,rfl⟩:=aA hown5;have H35:=aa (HB4.trans hb5);have HB5:=aa (HB9.trans (H35.mono HB9.size));have Bo5:=upK HBO H35.out;have Br5:=upK HBR H35.out;have hsel:=Sel.erase (xs:=c.xs) (vss:=vss) af (k:=i) af;rw[<-HW.out] at hsel;have hrec:=(hsel.i_ (HVR.below H35.out)).az (w':=w11) (S':=λk=>(λk=>wr.heap.size<=k/\¬k=w7.heap.size) k\/wc.heap.size<=k) (λ_ _ _ _=>rfl) (λk _ s=>Zc s);have z247z:=@aa _ @ade;exact zx):p:=h
theorem Pj(h:p:=by
 have z828z:=@aa _ @Tg;exact cB):p:=h
theorem aha(h:p:=by
 obtain⟨b,o,p,rfl,hb,hxn,hat⟩:=cq (HR.p.below HB.out) hlt;have z1011z:=@aa _ @MG;exact dv):p:=h
theorem ag9(h:p:=by
 have z828z:=@aa _ @Tf;exact cB):p:=h
theorem ag8(h:p:=by
 have hk1:(k:Int)<vl:=af
 have z1138z:=@aa _ @Lh;exact ef):p:=h
theorem ag7(h:p:=by
 have hb5:Below w.heap.size w4 w5:=(Yh w.heap.size w4).grown hgr5 HB4.size (λg hg=>(HO4.lt g hg).1);obtain⟨t1,t2,t3,rfl⟩:=aA hown5;have H5:=aa (HB4.trans hb5);have hsel:=Sel.erase (xs:=xs) (vss:=vss) af (k:=i) af;rw[<-HW.out] at hsel;have hrec:=(hsel.i_ (HVR.below H5.out)).az (w':=w5) (S':=λk=>Q k\/w.heap.size<=k) (λ_ _ _ _=>rfl) (λk _ s=>Zc s);have z247z:=@aa _ @adb;exact zx):p:=h
theorem ag2(h:p:=by
 have z1524z:=@aa _ @E1;exact mu):p:=h
theorem ag1(h:p:=by
 have z1050z:=@aa _ @Mi;exact mO):p:=h
theorem alb(h:p:=by
 have h1:Below w7.heap.size w7 q1.w:=(ak w7 (Y6 (clv d' c.now) 29)).trans (HQB.mono aF);exact⟨HO.n.az (λk hk _=>h1.block k hk) (λk hk s=>⟨s,by omega⟩),HO.k.az (λk hk _=>h1.block k hk) (λk hk s=>⟨s,by omega⟩),HO.v.az (λk hk _=>h1.block k hk) (λk hk s=>⟨s,by omega⟩),HO.x.az (λk hk _=>h1.block k hk) (λk hk s=>⟨s,by omega⟩),HO.p.az (λk hk _=>h1.block k hk) (λk hk s=>⟨s,by omega⟩)⟩):p:=h
theorem agJ(h:p:=by
 go_wp2;exact bodyPost_ret (v:=Za #[J U 0 0,J U 0 0,J U 0 0,J U 0 0,J U 0 0,Y4 Y5 0,I ⟨#[]⟩,Y4 Y5 1]) kH rfl ⟨ad0,co0 1,rfl,HV.out,iM _ _,ep (show w.heap.size<=w.heap.size+1+1 by omega) (HB.out)⟩):p:=h
theorem ajP(h:p:=by
 rw[Yt,Yz] at hu;obtain⟨z,hz,rfl⟩:=hu;obtain⟨b,o,x,rfl,hb,hx,hc,hsz⟩:=HXQ.at (k:=j) dD;rw[hz] at hx;cases hx;exact⟨_,rfl,by rw[Yo];exact (ai hW hb).trans hc⟩):p:=h
theorem PL(h:p:=by
 have h1:vss[0]?=Y3 (vss[0]'(by omega)):=Yi _;have h2:0<(vss[0]'(by omega)).length:=by rw[HVR.all 0 _ h1];decide
 obtain⟨g,e,_⟩:=HCQ.out _ _ (fY HVR.all h1 (Yi h2));cases e):p:=h
theorem ajK(h:p:=by
 obtain⟨g,e,h3⟩:=HC.out j u hj;exact⟨g,e,Yj (bf h3) H4.size,(ai H4.out (bf h3)).trans h3⟩):p:=h
theorem ajG(h:p:=by
 intro j u hu;rw[Yo,Yq];exact (ai (ak wc _) hbS).trans (HC.out _ _ (cI hu))):p:=h
theorem OH(h:p:=by
 obtain⟨hs10,HRX⟩:=hcut;subst hs10;obtain⟨sa,sl,sc,vs,hds,hbo,hbr,hn9,hk9,hv9,hx9,hp9,hb9⟩:=HRX.out;clear HRX;have HV:Hid (cm c t ⟨Aj c t vs,⟨#[]⟩,0⟩):=Zb ⟨HL.out,HT.out,HOK.out,vs,hds,rfl⟩;have HW:=aa (gC HRI.out HX.out HN.out);have hxl:d'.l4=l4:=by have h6:(c.xs.map xdF).length=d'.l4:=hx9.1;rw[Yr] at h6;omega
 have hmn:l4<=d'.c4:=by rw[<-hxl];exact hx9.2.1
 have hmx:d'.c4<=9223372036854775807:=hx9.2.2.1;have hq9:w7.heap.size<wc.heap.size:=ae hbo;have hqr9:w.heap.size+1<wc.heap.size:=ae hbr;obtain⟨vss,H,hV,hcell⟩:=hx9.i_;have hvl:vss.length=l4:=by have h6:vss.length=(c.xs.map xdF).length:=hV.len;rw[Yr] at h6;omega
 obtain⟨b,hxa,hbS⟩:∃b,d'.a4=Y3 ⟨b,0,U⟩/\b<wc.heap.size:=by
  exact Ny
 have HC:Hid (∀(j:Nat) u,vss.flatten[j]?=Y3 u->wc.cell? ⟨b,j,U⟩=Y3 u):=λj u hj=>by
  obtain⟨g,e,_,h3⟩:=hcell j u hj;rw[hxa] at e;cases e;exact h3
 have HVR:=aa hV;obtain⟨i5,hi5',hz0,hz1,hz2⟩:=info_parts qh;have HI0:=aa (Yb hi5' (Yb hz0 (Yb hz1 hz2)));have hown0:World.ownsRow (wc.alloc (Y6 #[] 97)) wc.heap.size 97 5 (J (Y3 ⟨wc.heap.size,0,U⟩) 0 0) 0 []:=⟨by simp,Zb ⟨wc.heap.size,0,#[],rfl,Ye _,Yg,Ye _,by unfold maxLen;omega,by simp,by simp⟩⟩;have HOW:=aa hown0;have hik:(i:Int)<=d'.c4:=af
 have HN9:=aa hn9;have HK9:=aa hk9;have HV9:=aa hv9;have HP9:=aa hp9;have HB9:=aa hb9;have HBO:=aa hbo;have HBR:=aa hbr;obtain⟨o0,o1,o2,o3,o4,o5⟩:=cs6 hbo;rw[hxa] at o3;rw[hxl] at o3;clear hV hcell hx9 hi5' hz0 hz1 hz2 hown0 hn9 hk9 hv9 hp9 hb9 hbo hbr hds HX HN HRI;go_wp2_with (first|(at_builtin;refine wpList_append_own _ rfl _ _ 26 rfl wc.heap.size 97 i5 (Za #[I ⟨#[]⟩,Y4 Y5 0,I ⟨#[]⟩,Y7 Y8,I ⟨#[]⟩]) 5 64 Tryz.underlying26 HI0.1 HI0.2.1 HI0.2.2.1 HI0.2.2.2 rfl ag _ 0 [] rfl (HOW.out) ⟨b,0,U⟩ i d'.c4 (vss.take i).flatten rfl ?c1 ?c2 ?c3 ?c4 ?c5 ?c6 ?_));case c1=>exact bm HVR.all af
 case c2=>
  exact ajG
 case c3=>exact (aD HVR.one i).1
 case c4=>unfold maxLen;omega
 case c5=>omega
 case c6=>simp
 rintro v1 w10 hown4 hgr4 -;replace hown4:w10.ownsRow wc.heap.size 97 5 v1 i (vss.take i).flatten:=by simpa using hown4
 have hb4:Below wc.heap.size wc w10:=((Yh wc.heap.size _).alloc (Ye _) _).grown hgr4 aF (λg hg=>by simp[YJ] at hg;omega);obtain⟨s1,s2,s3,rfl⟩:=aA hown4;have HB4:=aa hb4;have HO4:=aa hown4;have hs4:=hb4.size;have Bo4:=upK HBO hb4;clear hown4 hgr4 hb4 HOW o0 o1 o2 o3 o4 o5;obtain⟨o0,o1,o2,o3,o4,o5⟩:=cs6 Bo4;rw[hxa] at o3;rw[hxl] at o3;have hol:=ae Bo4.out;have hik1:((i:Int)+1)<=l4:=af
 by_cases hcap:d'.c4=i+1
 ·have hmi:l4=i+1:=af
  have hvd:vss.drop (i+1)=[]:=Yx af;rw[hcap,hmi] at o3;go_wp2_with (first|(at_builtin;refine wpList_append_own _ rfl _ _ 26 rfl wc.heap.size 97 i5 (Za #[I ⟨#[]⟩,Y4 Y5 0,I ⟨#[]⟩,Y7 Y8,I ⟨#[]⟩]) 5 64 Tryz.underlying26 HI0.1 HI0.2.1 HI0.2.2.1 HI0.2.2.2 rfl ag _ _ _ rfl (HO4.out) ⟨b,0,U⟩ 0 0 [] rfl ?c1 ?c2 ?c3 ?c4 ?c5 ?c6 ?_));case c1=>rfl
  case c2=>intro j u hu;simp at hu
  case c3=>intro u hu;simp at hu
  case c4=>unfold maxLen;omega
  case c5=>omega
  case c6=>omega
  rintro v2 w11 hown5 hgr5 -;have hlen5:(wo Xd.n t c.xs).length=l4 - 1:=by rw[HW.out];simp;omega
  replace hown5:w11.ownsRow wc.heap.size 97 5 v2 (wo Xd.n t c.xs).length (vss.take i++vss.drop (i+1)).flatten:=by
   rw[hlen5,List.flatten_append];rw[hvd,hmi];simpa using hown5
  exact alo
 ·go_wp2_with (first|(at_builtin;refine wpList_append_own _ rfl _ _ 26 rfl wc.heap.size 97 i5 (Za #[I ⟨#[]⟩,Y4 Y5 0,I ⟨#[]⟩,Y7 Y8,I ⟨#[]⟩]) 5 64 Tryz.underlying26 HI0.1 HI0.2.1 HI0.2.2.1 HI0.2.2.2 rfl ag _ _ _ rfl (HO4.out) ⟨b,(i+1)*5,U⟩ (l4 - (i+1)) (d'.c4 - (i+1)) (vss.drop (i+1)).flatten rfl ?c1 ?c2 ?c3 ?c4 ?c5 ?c6 ?_));case c1=>rw[dW HVR.all,hvl]
  case c2=>
   exact NJ
  case c3=>exact (aD HVR.one (i+1)).2
  case c4=>unfold maxLen;omega
  case c5=>omega
  case c6=>omega
  rintro v2 w11 hown5 hgr5 -;have hlen5:(wo Xd.n t c.xs).length=l4 - 1:=by rw[HW.out];simp;omega
  replace hown5:w11.ownsRow wc.heap.size 97 5 v2 (wo Xd.n t c.xs).length (vss.take i++vss.drop (i+1)).flatten:=by
   rw[hlen5,List.flatten_append];have e9:l4 - 1=i+(l4 - (i+1)):=af
   rw[e9];exact hown5
  exact alo):p:=h
theorem OE(h:p:=by
 have z475z:=@aa _ @aac;exact cC):p:=h
theorem Ow(h:p:=by
 go_wp2;exact bodyPost_ret (v:=Za #[J U 0 0,J U 0 0,J U 0 0,J U 0 0,J U 0 0,Y4 Y5 0,I ⟨#[]⟩,Y4 Y5 1]) mW rfl ⟨ad0,co0 1,rfl,HV.out,iM _ _,sb2 (sb2 (sb2 (sb2 (sb2 (sb2 (sb2 (sb2 (HB.out))))))))⟩):p:=h
theorem Oa(h:p:=by
 have z1006z:=@aa _ @agZ;exact gM):p:=h
theorem NU(h:p:=by
 go_wp2;exact bodyPost_ret (v:=Za #[J U 0 0,J U 0 0,J U 0 0,J U 0 0,J U 0 0,Y4 Y5 0,I ⟨#[]⟩,Y4 Y5 1]) mV rfl ⟨ad0,co0 1,rfl,HV.out,iM _ _,ep (show w.heap.size<=w.heap.size+1+1 by omega) (HB.out)⟩):p:=h
theorem NJ(h:p:=by
 intro j u hu;rw[Yo];exact (ai HB4.out hbS).trans (HC.out _ _ (cW HVR.all af hu))):p:=h
theorem amf(h:p:=by
 have hxl9:=ae Bx9.out;have fx9:=al Bx9.out 3;have hol9:=ae Bo9.out;have HU0:Hid (Below w.heap.size w (w9.setCell ⟨w.heap.size+1,3,U⟩ (J sa vl sc))):=ah af (HB.trans (H9.mono HB.size));have hku:∀k9,¬k9=w.heap.size+1->(w9.setCell ⟨w.heap.size+1,3,U⟩ (J sa vl sc)).heap[k9]?=w9.heap[k9]?:=λk9 h=>Ya _ _ _ _ h;have hsu:(w9.setCell ⟨w.heap.size+1,3,U⟩ (J sa vl sc)).heap.size=w9.heap.size:=oh
 have BxU:Hid ((w9.setCell ⟨w.heap.size+1,3,U⟩ (J sa vl sc)).heap[w.heap.size+1]?=Y3 (Y6 #[I xn,Y4 Y5 xc,I xz,J sa vl sc,I xd,Y4 Y5 0] 40 (0,0))):=ahy Bx9.out;have BoU:=aa ((hku w4.heap.size af).trans Bo9.out);have BrU:=aa ((hku (w.heap.size+1+1) af).trans Br9.out);have hTU:bN (w9.setCell ⟨w.heap.size+1,3,U⟩ (J sa vl sc)) sa vl sc zs (λk=>q2.w.heap.size<=k):=HT9.az (λk hk s=>hku k (by have s1:q2.w.heap.size<=k:=s;omega)) (λ_ _ s=>s);have hkf:∀k9,k9<q2.w.heap.size->wr3<=k9/\k9<w4.heap.size->(w9.setCell ⟨w.heap.size+1,3,U⟩ (J sa vl sc)).heap[k9]?=q2.w.heap[k9]?:=λk9 h s=>(hku k9 af).trans (H9.block k9 h);have HFU:Hid (cZ (w9.setCell ⟨w.heap.size+1,3,U⟩ (J sa vl sc)) ⟨g1,m1,n1,g2,m2,n2,g3,m3,n3,g4,m4,n4,g5,l5,n5⟩ c.raw (λk=>wr3<=k/\k<w4.heap.size)):=⟨HQF.n.az hkf (λ_ _ s=>s),HQF.k.az hkf (λ_ _ s=>s),HQF.v.az hkf (λ_ _ s=>s),HQF.x.az hkf (λ_ _ s=>s),HQF.p.az hkf (λ_ _ s=>s)⟩;exact Yb hxl9 (Yb fx9 (Yb hol9 (Yb HU0 (Yb hku (Yb hsu (Yb BxU (Yb BoU (Yb BrU (Yb hTU (Yb hkf HFU))))))))))):p:=h
theorem ak1(h:p:=by
 have HFIN:Hid (∀(W:World) v4 k,k=pl Pd.n c.ps xn->Below (w9.setCell ⟨w.heap.size+1,3,U⟩ (J sa vl sc)).heap.size (w9.setCell ⟨w.heap.size+1,3,U⟩ (J sa vl sc)) W->W.ownsRow w9.heap.size 40 6 v4 (l5+1) (aM k [I xn,Y4 Y5 xc,I xz,J sa vl sc,I xd,Y4 Y5 0] vss).flatten->∃a' c',v4=J a' (l5+1) c'/\aw W a' (l5+1) c' 6 40 ((aM (pl Pd.n c.ps xn) (⟨xn,xc,xz,zs,xd,0⟩:Pd) c.ps).map pdF) (λk=>((wr3<=k/\k<w4.heap.size)\/q2.w.heap.size<=k)\/(w9.setCell ⟨w.heap.size+1,3,U⟩ (J sa vl sc)).heap.size<=k)):=λW v4 k hk hB4 ho4=>ajV (x:=(⟨xn,xc,xz,zs,xd,0⟩:Pd)) (hh:=gh) hV hlc hk af hB4 (λi f hf=>by rcases i with _|_|_|_|_|_|i <;> simp[pdF] at hf <;> subst hf;exact⟨_,rfl,rfl,z0⟩;exact⟨_,rfl,rfl⟩;exact⟨_,rfl,rfl,z2⟩;exact⟨_,rfl,hg⟩;exact⟨_,rfl,rfl,z4⟩;exact⟨_,rfl,rfl⟩) (λk e1 e2=>by have e3:=e1.2;have e4:q2.w.heap.size<=k:=e2;omega) ho4;have HOW:Hid (((w9.setCell ⟨w.heap.size+1,3,U⟩ (J sa vl sc)).alloc (Y6 #[] 40)).ownsRow w9.heap.size 40 6 (J (Y3 ⟨w9.heap.size,0,U⟩) 0 0) 0 []):=by have h9:=World.ownsRow_made (e:=40) (size:=6) (w9.setCell ⟨w.heap.size+1,3,U⟩ (J sa vl sc)) #[] 0 (Ye _) (YI _) aF;rw[hsu] at h9;exact h9
 exact Yb HFIN HOW):p:=h
theorem agw(h:p:=by
 have Gr:Hid ((w7.alloc (Y6 (clv d' c.now) 29)).heap[w.heap.size+1]?=Y3 (Y6 #[J U 0 0,J U 0 0,J U 0 0,J U 0 0,J U 0 0,Y4 Y5 0,I ⟨#[]⟩,Y4 Y5 0] 33 (0,0))):=(Ym _ _ _ (ae Br.out)).trans (Br.out);have Go:Hid ((w7.alloc (Y6 (clv d' c.now) 29)).heap[w7.heap.size]?=Y3 (Y6 (clv d' c.now) 29 (0,0))):=Yg;have HW:Hid (Below w.heap.size w (w7.alloc (Y6 (clv d' c.now) 29))):=(HB.trans ((ak _ _).mono HB.size));exact Yb Gr (Yb Go HW)):p:=h
theorem akV(h:p:=by
 have hq1:=HQ1.out;have hq2:=HQ2.out;have hs4:=HB4.size;have hs5:wr.heap.size<=q2.w.heap.size:=q2.b.size;have h4Q:Below w4.heap.size w4 q2.w:=HB4.trans (q2.b.mono HB4.size);have HQF:Hid (cZ q2.w ⟨g1,m1,n1,g2,m2,n2,g3,m3,n3,g4,m4,n4,g5,l5,n5⟩ c.raw (λk=>wr3<=k/\k<w4.heap.size)):=⟨(HFR.n.bl (λk hk s=>⟨s,hk⟩)).below h4Q,(HFR.k.bl (λk hk s=>⟨s,hk⟩)).below h4Q,(HFR.v.bl (λk hk s=>⟨s,hk⟩)).below h4Q,(HFR.x.bl (λk hk s=>⟨s,hk⟩)).below h4Q,(HFR.p.bl (λk hk s=>⟨s,hk⟩)).below h4Q⟩;exact Yb hq1 (Yb hq2 (Yb hs4 (Yb hs5 (Yb h4Q HQF))))):p:=h
theorem Na(h:p:=by
 have HB3:=upB HW q1.b;have Ck:=upK Gk q1.b;have Cx:=upK Gx q1.b;have Cr:=upK Gr q1.b;exact Yb HB3 (Yb Ck (Yb Cx Cr))):p:=h
theorem oy(h:p:=by
 have HB6:=upB HW q2.b;have Ck:=upK Gk q2.b;have Cx:=upK Gx q2.b;have Cr:=upK Gr q2.b;have Co:=upK Go q2.b;exact Yb HB6 (Yb Ck (Yb Cx (Yb Cr Co)))):p:=h
theorem M_(h:p:=by
 have mz:=λq:Wd wr=>(q.cell hb).trans c6;have mn:∀q:Wd wr,q.w.cell? ⟨b3,o3+k*8,U⟩=Y3 (I x.n):=λq=>(q.cell (hb3')).trans (g0);have hne0:=Wd.ne wr;exact Yb mz (Yb mn hne0)):p:=h
theorem akM(h:p:=by
 have hq1:=HQ1.out;have hq2:=HQ2.out;have hs5:=H4.size;have hok:=ae Bo.out;have HOW:Hid ((q2.w.alloc (Y6 #[] 97)).ownsRow q2.w.heap.size 97 5 (J (Y3 ⟨q2.w.heap.size,0,U⟩) 0 0) 0 []):=World.ownsRow_made q2.w #[] 0 (Ye _) (YI _) aF;have hik:(k:Int)<=n4:=af
 have hkn:k<=n4:=af
 exact Yb hq1 (Yb hq2 (Yb hs5 (Yb hok (Yb HOW (Yb hik hkn)))))):p:=h
theorem jJ(h:p:=by
 have Gk:=Bk;have Gx:=Bx;have Gr:=Br;have HW:=HB;exact Yb Gk (Yb Gx (Yb Gr HW))):p:=h
theorem akE(h:p:=by
 have HOW0:Hid ((q2.w.alloc (Y6 #[] 9)).ownsRow q2.w.heap.size 9 1 (J (Y3 ⟨q2.w.heap.size,0,U⟩) 0 0) 0 []):=World.ownsRow_made q2.w #[] 0 (Ye _) (YI _) aF;have HXQ:=aa (HX.below HB.out);exact Yb HOW0 HXQ):p:=h
theorem Nk(h:p:=by
 have hne0:=Wd.ne w2;have HC0:=aa (λq:Wd w2=>eG ⟨a1,l1,y1,a2,l2,y2,a3,l3,y3,a4,l4,y4,a5,l5,y5⟩ c.now c.xs x.n q.w (HR.x.below (HW.trans (q.b.mono HW.size))) HMS.out);exact Yb hne0 HC0):p:=h
theorem Nj(h:p:=by
 have hne0:=Wd.ne w2;have HC0:=aa (λq:Wd w2=>AE ⟨a1,l1,y1,a2,l2,y2,a3,l3,y3,a4,l4,y4,a5,l5,y5⟩ c.now c.ps xn q.w (HR.p.below (HW.trans (q.b.mono HW.size))) HMS.out);exact Yb hne0 HC0):p:=h
theorem aiH(h:p:=by
 rintro _ ⟨q2,rfl⟩;obtain⟨HB6,Ck,Cx,Cr,Co⟩:=oy;clear hne0 HW HB k3 x0 yn Gk Gx Gr Go Bk Bx Br Bo hc0 hbw;have z1006z:=@aa _ @MT;exact gM):p:=h
theorem aiG(h:p:=by
 rintro _ ⟨q2,rfl⟩;obtain⟨HB6,Ck,Cx,Cr,Co⟩:=oy;clear hne0 HW HB k3 x0 yn Gk Gx Gr Go Bk Bx Br Bo hc0 hbw;exact Oa):p:=h
theorem aiF(h:p:=by
 rintro _ ⟨q2,rfl⟩;obtain⟨HB6,Ck,Cx,Cr,Co⟩:=oy;clear hne0 HW HB k3 x0 Gk Gx Gr Go Bk Bx Br Bo;have z1006z:=@aa _ @MS;exact gM):p:=h
theorem aiE(h:p:=by
 have z737z:=@aa _ @UH;exact yp):p:=h
theorem aiD(h:p:=by
 rintro _ ⟨q2,rfl⟩;obtain⟨HB6,Ck,Cx,Cr,Co⟩:=oy;clear hne0 HW HB k4 x0 yn Gk Gx Gr Go Bk Bx Br Bo hc0 hbw;have z1006z:=@aa _ @MR;exact gM):p:=h
theorem aiC(h:p:=by
 rintro _ ⟨q2,rfl⟩;obtain⟨HB6,Ck,Cx,Cr,Co⟩:=oy;clear hne0 HW HB k4 x0 yn Gk Gx Gr Go Bk Bx Br Bo hc0 hbw;exact Oa):p:=h
theorem aiB(h:p:=by
 rintro _ ⟨q2,rfl⟩;obtain⟨HB6,Ck,Cx,Cr,Co⟩:=oy;clear hne0 HW HB k4 x0 Gk Gx Gr Go Bk Bx Br Bo;have z1006z:=@aa _ @MQ;exact gM):p:=h
theorem aiA(h:p:=by
 rintro _ ⟨q1,rfl⟩;obtain⟨HB1,Ck⟩:=iz;clear hne0 HW HB k0 k1 k2 k3 k4 k5 mz mn Gk Bk g0;have HB:=HB1;clear HB1;have Bk:=Ck;clear Ck;go_wp2;refine⟨⟨j+1,Y_,by omega,rfl,by go_num,show _↔_ from ⟨λ_=>(HS.1 bX).elim Zc (λ⟨i,m,h1,h2⟩=>Zb ⟨i,m,by omega,h2⟩),λ_=>rfl⟩,HB.out,Bk.out⟩,by simp[intOf];omega⟩):p:=h
theorem aiz(h:p:=by
 rintro _ ⟨q1,rfl⟩;have HB6:=upB HW q1.b;obtain⟨Ck,Cr⟩:=er;have Co:=upK Go q1.b;clear hne0 HW HB k0 k1 k2 k3 k4 k5 Gk Gr Go Bk Br hszv6;have HB:=HB6;clear HB6;have z930z:=@aa _ @R0;exact xO):p:=h
theorem aiy(h:p:=by
 have z737z:=@aa _ @UG;exact yp):p:=h
theorem aip(h:p:=by
 go_wp2;exact bodyPost_ret (v:=Za #[J U 0 0,J U 0 0,J U 0 0,J U 0 0,J U 0 0,Y4 Y5 0,I ⟨#[]⟩,Y4 Y5 p]) zI rfl ⟨ad0,co0 p,rfl,HV.out,(rl0 _ _),sb1 (sb1 (sb1 (sb1 (sb1 (sb1 (sb1 (sb1 (HB.out))))))))⟩):p:=h
theorem aio(h:p:=by
 go_wp2;exact bodyPost_ret (v:=Za #[J U 0 0,J U 0 0,J U 0 0,J U 0 0,J U 0 0,Y4 Y5 0,I ⟨#[]⟩,Y4 Y5 p]) zH rfl ⟨ad0,co0 p,rfl,HV.out,(rl0 _ _),sb1 (sb1 (sb1 (sb1 (sb1 (sb1 (sb1 (sb1 (HB.out))))))))⟩):p:=h
theorem ae1(h:p:=by
 have z468z:=@aa _ @aaw;exact pz):p:=h
theorem ae0(h:p:=by
 have z468z:=@aa _ @aav;exact pz):p:=h
theorem aeZ(h:p:=by
 have z468z:=@aa _ @aau;exact pz):p:=h
theorem aeY(h:p:=by
 have z472z:=@aa _ @aat;exact yO):p:=h
theorem aeX(h:p:=by
 have z472z:=@aa _ @aas;exact yO):p:=h
theorem aeW(h:p:=by
 have z464z:=@aa _ @aay;exact pA):p:=h
theorem aeV(h:p:=by
 have z464z:=@aa _ @aax;exact pA):p:=h
theorem aeU(h:p:=by
 have z727z:=@aa _ @UO;exact yr):p:=h
theorem aeT(h:p:=by
 have z727z:=@aa _ @UN;exact yr):p:=h
theorem aeS(h:p:=by
 have z505z:=@aa _ @XS;exact fb):p:=h
theorem aeJ(h:p:=by
 have ltr_2:=ae Br.out;obtain⟨fr0,fr1,fr2,fr3,fr4,fr5,fr6,fr7⟩:=kY;have hrl:w.heap.size+1+1<w2.heap.size:=ae Br.out;exact Ow):p:=h
theorem aeI(h:p:=by
 have ltr_5:=ae Br.out;obtain⟨fr0,fr1,fr2,fr3,fr4,fr5,fr6,fr7⟩:=kY;have hrl:w.heap.size+1+1<w4.heap.size:=ae Br.out;go_wp2;exact bodyPost_ret (v:=Za #[J U 0 0,J U 0 0,J U 0 0,J U 0 0,J U 0 0,Y4 Y5 0,I ⟨#[]⟩,Y4 Y5 6]) mW rfl ⟨ad0,co0 6,rfl,HV.out,iM _ _,sb2 (sb2 (sb2 (sb2 (sb2 (sb2 (sb2 (sb2 (HB.out))))))))⟩):p:=h
theorem aeH(h:p:=by
 have ltr_5:=ae Br.out;have z1219z:=@aa _ @J3;exact jF):p:=h
theorem aeG(h:p:=by
 have z535z:=@aa _ @Xx;exact fa):p:=h
theorem aeF(h:p:=by
 have z535z:=@aa _ @Xw;exact fa):p:=h
theorem aeE(h:p:=by
 have ltr_4:=ae Br.out;exact ag1):p:=h
theorem aeD(h:p:=by
 have ltr_3:=ae Br.out;exact ag1):p:=h
theorem aeC(h:p:=by
 have ltr_3:=ae Br.out;obtain⟨fr0,fr1,fr2,fr3,fr4,fr5,fr6,fr7⟩:=jR Br.out;have hrl:w.heap.size+1+1<w3.heap.size:=ae Br.out;exact NU):p:=h
theorem aeB(h:p:=by
 have ltr_3:=ae Br.out;obtain⟨fr0,fr1,fr2,fr3,fr4,fr5,fr6,fr7⟩:=kY;have hrl:w.heap.size+1+1<w3.heap.size:=ae Br.out;exact Ow):p:=h
theorem aeA(h:p:=by
 have ltr_2:=ae Br.out;obtain⟨fr0,fr1,fr2,fr3,fr4,fr5,fr6,fr7⟩:=jR Br.out;have hrl:w.heap.size+1+1<w2.heap.size:=ae Br.out;exact NU):p:=h
theorem ad1(h:p:=by
 obtain⟨x0,x1,x2,x3,x4,x5⟩:=cs6 Bx;have ltx_1:=ae Bx.out;go_wp2_with fail;refine (iU x.n x.c x.z va vl vc x.zs x.d x.p _ z0 z2 z4 (HX.below HB.out)).mono ?_;rintro e w2 ⟨r,rfl,-,hb⟩;clear k0 k1 k2 k3 k4 k5 ltk_1 x0 x1 x2 x3 x4 x5 ltx_1;have z804z:=@aa _ @TQ;exact cJ):p:=h
theorem ade(h:p:=by
 have HT2:=aa ht2;have HR5:=aa hR;have hs5:=hb5.size;clear o0 o1 o2 o3 o4 o5;have z1120z:=@aa _ @Lu;exact sU):p:=h
theorem adb(h:p:=by
 have HR5:=aa hR;clear hown5 hgr5 hb5 hsel hrec hR ht2 hlen5;go_wp2;go_ret;exact⟨_,_,_,rfl,HR5.out,H5.out⟩):p:=h
theorem zx(h:p:=by
 have z749z:=@aa _ @Ux;exact yj):p:=h
theorem aaT(h:p:=by
 have z896z:=@aa _ @Sv;exact xV):p:=h
theorem aaS(h:p:=by
 have z896z:=@aa _ @Su;exact xV):p:=h
theorem yP(h:p:=by
 have HI0:=aa (Yb hi5' (Yb hz0' (Yb hz1' hz2')));clear hi0' hz0 hz1 hz2 hi5' hz0' hz1' hz2' h4Q;obtain⟨HOW0,HXQ⟩:=akE;have HBX:Hid (∀(W:World),Below q2.w.heap.size q2.w W->∀(j:Nat) u,(zs.map Yn)[j]?=Y3 u->∃ad:Addr,va=Y3 ad/\W.cell? (ad.add j)=Y3 u):=λW hW j u hu=>by
  exact ajP
 obtain⟨x0,x1,x2,x3,x4,x5⟩:=cs6 Bx;have ltx_6:=ae Bx.out;have fx3:=al Bx.out 3;go_wp2_with (first|(at_builtin;refine aq rfl _ _ 36 rfl q2.w.heap.size 9 i0 (I ⟨#[]⟩) 1 16 Tryz.underlying36 HIS.1 HIS.2.1 HIS.2.2.1 HIS.2.2.2 rfl ag _ _ _ rfl (HOW0.out) _ vl _ (zs.map Yn) rfl tx (λj u hu=>HBX.out _ (ak _ _) j u hu) (by intro u hu;obtain⟨z,_,rfl⟩:=List.mem_map.1 hu;rfl) bo af aF ?_));intro v9 w9 hown9 hgr9;replace hown9:w9.ownsRow q2.w.heap.size 9 1 v9 vl (zs.map Yn):=by simpa using hown9
 have hb9:Below q2.w.heap.size q2.w w9:=(ak q2.w (Y6 #[] 9)).grown hgr9 aF (λg hg=>by simp[YJ] at hg;omega);obtain⟨sa,sc,rfl,hT9⟩:=bN.fk hown9 (λj y hy=>HX.2.2.2.1 j y hy);have HT9:=aa hT9;have H9:=aa hb9;have hs9:=hb9.size;clear hown9 hgr9 hT9 HOW0;clear x0 x1 x2 x3 x4 x5 ltx_6;have Bx9:=upK Bx hb9;have Bo9:=upK Bo hb9;have Br9:=upK Br hb9;clear hb9;obtain⟨hxl9,fx9,hol9,HU0,hku,hsu,BxU,BoU,BrU,hTU,hkf,HFU⟩:=amf;obtain⟨vss,H,hV,hcell⟩:=HFU.p.i_;have hvl:vss.length=l5:=by have h6:vss.length=(c.ps.map pdF).length:=hV.len;rw[Yr] at h6;omega
 have HCQ:Hid (∀(j:Nat) u,vss.flatten[j]?=Y3 u->∃b9,g5=Y3 ⟨b9,0,U⟩/\b9<(w9.setCell ⟨w.heap.size+1,3,U⟩ (J sa vl sc)).heap.size/\(w9.setCell ⟨w.heap.size+1,3,U⟩ (J sa vl sc)).cell? ⟨b9,j,U⟩=Y3 u):=λj u hj=>by
  obtain⟨b9,e,_,h3⟩:=hcell j u hj;exact⟨b9,e,bf h3,h3⟩
 exact z442z):p:=h
theorem aaG(h:p:=by
 have HB:=aa (Yh w.heap.size w);go_enter Tryz.func60,Tryz.ntmps60;have z1426z:=@aa _ @GC;exact rZ):p:=h
theorem aaF(h:p:=by
 have HX:=aa hx;have hk3:k<l3:=by have:=(Yc.1 hx).1;omega
 have hk3i:(k:Int)<l3:=af
 clear hx;obtain⟨b3,o3,x',rfl,hb3,hx',hat⟩:=cj HR.v hk3;obtain rfl:x=x':=Yd (HX.symm.trans hx');have HAT:=aa hat;obtain⟨ea,el,ec,hvr,z0,z2,z3,z5,c0,c1,c2,c3,c4,c5,c6,c7⟩:=bh hat;have HV:=aa hvr;have HE:Hid (0<el↔¬x.zs=[]):=by
  have h1:x.zs.length=el:=hvr.1;show _↔_;rw[<-h1,List.length_pos_iff]
 clear hat hvr z0 z2 z3 z5 hx';go_enter Tryz.func110,Tryz.ntmps110;go_wp2;go_loopw [5,6] (λq i wr=> ∃(j:Nat) (r:Bool),j<=l1/\q=Y7 r/\i=Y4 Y5 j/\Hid (r=Y_↔(¬x.zs=[]\/∃(i:Nat) (n:Nd),i<j/\c.ns[i]?=Y3 n/\InL n.zs x.n))/\Hid (Below w.heap.size w wr)/\Hid (wr.heap[w.heap.size]?=Y3 (Y6 (clo6 a1 l1 y1 a2 l2 y2 (Y3 ⟨b3,o3,U⟩) l3 y3 a4 l4 y4 a5 l5 y5 c.now) 29 (0,0)))) (λ_ i _=>l1 - (intOf i).toNat);case atStart=>exact⟨0,decide (0<el),by omega,by simp,rfl,show _↔_ by rw[decide_eq_true_iff,HE.out];exact⟨Zc,λh=>h.elim id (λ⟨i,n,h,_⟩=>by omega)⟩,ak _ _,Yg⟩
 case round=>
  obtain⟨j,r,hj,rfl,rfl,HS,HB,Bk⟩:=hrel;clear c0 c1 c2 c3 c4 c5 c6 c7;obtain⟨k0,k1,k2,k3,k4,k5⟩:=cs6 Bk;have ltk:=ae Bk.out;by_cases hlt:j<l1
  ·obtain⟨b,o,n,rfl,hb,hxn,hat⟩:=dn (HR.n.below HB.out) hlt;obtain⟨va,vl,vc,hvr,z0,z1,c0,c1,c2,c3,c4,c5,c6⟩:=aZ hat;have HN:=aa hxn;have HT:=aa hvr;have g0:=(ai HB.out hb3).trans (bh HAT.out).choose_spec.choose_spec.choose_spec.2.2.2.2.2.1;have hj3:(j:Int)<l1:=af
   have hb3':b3<wr.heap.size:=Yj hb3 HB.size;clear hat hxn z0 z1 hvr;cases r
   ·by_cases hin:InL n.zs x.n
    ·have HIN:=aa hin;clear hin;have Gk:=Bk;obtain⟨HW,k0,k1,k2,k3,k4,k5⟩:=zU;obtain⟨mz,mn,hne0⟩:=M_;have HC0:=aa (λq:Wd wr=>(bW va vl vc n.zs x.n q.w (HT.below (q.b))).mono (λ_ _ h=>ar.yes h HIN.out));have z53z:=@aa _ @aeU;exact aC
    ·have HIN:=aa hin;clear hin;have Gk:=Bk;obtain⟨HW,k0,k1,k2,k3,k4,k5⟩:=zU;obtain⟨mz,mn,hne0⟩:=M_;have HC0:=aa (λq:Wd wr=>(bW va vl vc n.zs x.n q.w (HT.below (q.b))).mono (λ_ _ h=>ar.no h HIN.out));have z53z:=@aa _ @aeT;exact aC
   ·skip;have Gk:=Bk;have HW:=HB;obtain⟨k0,k1,k2,k3,k4,k5⟩:=sl6 Gk;obtain⟨mz,mn,hne0⟩:=M_;have z1z:=@aa _ @aiA;exact bC
  ·obtain rfl:l1=j:=af
   go_wp2;go_ret;refine⟨r,rfl,?_,HB.out⟩;rw[HS.out];exact⟨λh=>h.elim Zc (λ⟨i,n,_,h1,h2⟩=>Zb ⟨i,n,h1,h2⟩),λh=>h.elim Zc (λ⟨i,n,h1,h2⟩=>Zb ⟨i,n,by have:=(Yc.1 h1).1;omega,h1,h2⟩)⟩):p:=h
theorem aaE(h:p:=by
 have HB:=aa (Yh w.heap.size w);go_enter Tryz.func65,Tryz.ntmps65;have z798z:=@aa _ @TX;exact je):p:=h
theorem aaD(h:p:=by
 have HB:=aa (Yh w.heap.size w);go_enter Tryz.func66,Tryz.ntmps66;have z798z:=@aa _ @TW;exact je):p:=h
theorem aaz(h:p:=by
 go_loopw [5,6] (λvk vi wr=> ∃(k:Nat),k<=vl/\vi=Y4 Y5 k/\((vk=Y4 Y5 0/\Hid (∀(j:Nat) t,j<k->zs[j]?=Y3 t->hit Xd.n c.xs t=Y_))\/(vk=Y4 Y5 6/\Hid (¬(∀(j:Nat) t,zs[j]?=Y3 t->hit Xd.n c.xs t=Y_))))/\Hid (Below q1.w.heap.size q1.w wr)) (λ_ vi _=>vl - (intOf vi).toNat);case atStart=>exact⟨0,by omega,rfl,Zc ⟨rfl,λj t h=>by omega⟩,Yh _ _⟩
 case round=>
  obtain⟨k,hk,rfl,hcd,HL⟩:=hrel;have hb:=HL.out;have z804z:=@aa _ @TO;exact cJ):p:=h
theorem aay(h:p:=by
 go_loopw [5,6] (λvk vi wr=> ∃k:Nat,k<=vl/\vk=Y4 Y5 7/\vi=Y4 Y5 k/\Hid (Below q1.w.heap.size q1.w wr)) (λ_ vi _=>vl - (intOf vi).toNat);case atStart=>exact⟨0,by omega,rfl,rfl,Yh _ _⟩
 case round=>
  obtain⟨k,hk,rfl,rfl,HL⟩:=hrel;have hb:=HL.out;have z804z:=@aa _ @TN;exact cJ):p:=h
theorem aax(h:p:=by
 go_loopw [5,6] (λvk vi wr=> ∃k:Nat,k<=vl/\vk=Y4 Y5 9/\vi=Y4 Y5 k/\Hid (Below q1.w.heap.size q1.w wr)) (λ_ vi _=>vl - (intOf vi).toNat);case atStart=>exact⟨0,by omega,rfl,rfl,Yh _ _⟩
 case round=>
  obtain⟨k,hk,rfl,rfl,HL⟩:=hrel;have hb:=HL.out;have z804z:=@aa _ @TM;exact cJ):p:=h
theorem pA(h:p:=by
 repeat (go_big_quiet_step (first|(go_at_call 26;exact Calls.wide (HC0.out _))|(go_at_call 104;exact Calls.wide (HC1.out _))|fail))
 refine wpQuiet_nil ?_;rintro _ ⟨q1,rfl⟩;obtain⟨HB3,Ck,Cx,Cr⟩:=Na;clear hne0 HW HB HC0 HC1 k0 k1 k2 k3 k4 k5 x0 x1 x2 x3 x4 x5 Gk Gx Gr Bk Bx Br;have z952z:=@aa _ @RI;exact o8):p:=h
theorem aaw(h:p:=by
 refine (iR d c.now c.ks xk _ (HR.k.below HB.out)).mono ?_;rintro e w3 ⟨hb,hf⟩;clear k0 k1 k2 k3 k4 k5 ltk_3 x0 x1 x2 x3 x4 x5 x6 x7 ltx_3;have z804z:=@aa _ @TL;exact cJ):p:=h
theorem aav(h:p:=by
 refine (aK 7 _).mono ?_;rintro e w4 ⟨rfl,hb⟩;clear k0 k1 k2 k3 k4 k5 ltk_3 x0 x1 x2 x3 x4 x5 x6 x7 ltx_3;have z804z:=@aa _ @TJ;exact cJ):p:=h
theorem aau(h:p:=by
 refine (aK 9 _).mono ?_;rintro e w4 ⟨rfl,hb⟩;clear k0 k1 k2 k3 k4 k5 ltk_3 x0 x1 x2 x3 x4 x5 x6 x7 ltx_3;have z804z:=@aa _ @TI;exact cJ):p:=h
theorem pz(h:p:=by
 repeat (go_big_quiet_step (first|(go_at_call 97;exact Calls.wide (HC0.out _))|(go_at_call 104;exact Calls.wide (HC1.out _))|fail))
 refine wpQuiet_nil ?_;rintro _ ⟨q1,rfl⟩;obtain⟨HB3,Ck,Cx,Cr⟩:=Na;clear hne0 HW HB HC0 HC1 k0 k1 k2 k3 k4 k5 x0 x1 x2 x3 x4 x5 x6 x7 Gk Gx Gr Bk Bx Br;have z952z:=@aa _ @RH;exact o8):p:=h
theorem aat(h:p:=by
 refine (aK 7 _).mono ?_;rintro e w4 ⟨rfl,hb⟩;clear k0 k1 k2 k3 k4 k5 ltk_3 x0 x1 x2 x3 x4 ltx_3;have z804z:=@aa _ @TH;exact cJ):p:=h
theorem aas(h:p:=by
 refine (aK 9 _).mono ?_;rintro e w4 ⟨rfl,hb⟩;clear k0 k1 k2 k3 k4 k5 ltk_3 x0 x1 x2 x3 x4 ltx_3;have z804z:=@aa _ @TG;exact cJ):p:=h
theorem yO(h:p:=by
 have z1653z:=@aa _ @Dw;exact rq):p:=h
theorem aae(h:p:=by
 obtain⟨x0,x1,x2,x3,x4,x5,x6,x7⟩:=cs8 Bx;have ltx_1:=ae Bx.out;go_wp2_with fail;refine (iS xn xc xz xk xs ⟨#[]⟩ Y8 va 0 vc [] _ z0 z2 z3 ag (HX.below HB.out)).mono ?_;rintro e w2 ⟨r,rfl,hi,hb⟩;clear k0 k1 k2 k3 k4 k5 ltk_1 x0 x1 x2 x3 x4 x5 x6 x7 ltx_1;have z804z:=@aa _ @TF;exact cJ):p:=h
theorem aad(h:p:=by
 obtain⟨x0,x1,x2,x3,x4,x5,x6,x7⟩:=cs8 Bx;have ltx_1:=ae Bx.out;go_wp2_with fail;refine (aK 1 _).mono ?_;rintro e w2 ⟨rfl,hb⟩;clear k0 k1 k2 k3 k4 k5 ltk_1 x0 x1 x2 x3 x4 x5 x6 x7 ltx_1;have z804z:=@aa _ @TD;exact cJ):p:=h
theorem aac(h:p:=by
 obtain⟨x0,x1,x2,x3,x4,x5⟩:=cs6 Bx;have ltx_1:=ae Bx.out;go_wp2_with fail;refine (aK 1 _).mono ?_;rintro e w2 ⟨rfl,hb⟩;clear k0 k1 k2 k3 k4 k5 ltk_1 x0 x1 x2 x3 x4 x5 ltx_1;replace Bk:=upK Bk hb;replace Bx:=upK Bx hb;have z138z:=@aa _ @aeA;exact cL):p:=h
theorem XS(h:p:=by
 have HB7:=upB HW q1.b;obtain⟨Ck,Cr⟩:=er;have Co:=upK Go q1.b;clear hne0 HW HB HC0 k0 k1 k2 k3 k4 k5 mv mk Gk Gr Go Bk Br hszv7 cv3 ck2 cv3' ck2';have HB:=HB7;clear HB7;have z930z:=@aa _ @RZ;exact xO):p:=h
theorem Xx(h:p:=by
 go_wp2;exact bodyPost_ret (v:=Za #[J U 0 0,J U 0 0,J U 0 0,J U 0 0,J U 0 0,Y4 Y5 0,I ⟨#[]⟩,Y4 Y5 6]) zI rfl ⟨ad0,co0 6,rfl,HV.out,(rl0 _ _),sb1 (sb1 (sb1 (sb1 (sb1 (sb1 (sb1 (sb1 (HB.out))))))))⟩):p:=h
theorem Xw(h:p:=by
 go_wp2;exact bodyPost_ret (v:=Za #[J U 0 0,J U 0 0,J U 0 0,J U 0 0,J U 0 0,Y4 Y5 0,I ⟨#[]⟩,Y4 Y5 6]) zH rfl ⟨ad0,co0 6,rfl,HV.out,(rl0 _ _),sb1 (sb1 (sb1 (sb1 (sb1 (sb1 (sb1 (sb1 (HB.out))))))))⟩):p:=h
theorem Vq(h:p:=by
 rcases g4 with _|⟨b2,f2,sp⟩
 ·have hl0:l4=0:=Classical.byContradiction λhne0=>by
   exact PL
  omega
 have hcap:¬n4=k:=af
 all_goals (
  go_wp2_with (first|(at_builtin;refine aq rfl _ _ 26 rfl q2.w.heap.size 97 i5 (Za #[I ⟨#[]⟩,Y4 Y5 0,I ⟨#[]⟩,Y7 Y8,I ⟨#[]⟩]) 5 64 Tryz.underlying26 HI0.1 HI0.2.1 HI0.2.2.1 HI0.2.2.2 rfl ag _ _ _ rfl (HOW.out) _ k _ (vss.take k).flatten rfl (bm HVR.all af) (λj u hu=>by obtain⟨g,e,hgl,h3⟩:=HCQ.out _ _ (cI hu);cases e <;> exact⟨_,rfl,by simp only[Yo,Yq];exact (ai (ak q2.w _) hgl).trans h3⟩) (aD HVR.one k).1 bo af aF ?_))
  intro v5 w5 hown5 hgr5
  replace hown5:w5.ownsRow q2.w.heap.size 97 5 v5 k (vss.take k).flatten:=dQ
  have hb5:Below q2.w.heap.size q2.w w5:=(ak q2.w (Y6 #[] 97)).grown hgr5 aF (λg hg=>by simp[YJ] at hg;omega);obtain⟨s1,s2,s3,rfl⟩:=aA hown5;have HO5:=aa hown5;have H5:=aa hb5;have hs6:=hb5.size;have Bx5:=upK Bx hb5;obtain⟨x0,x1,x2,x3,x4⟩:=cs5 Bx5;have hxl:=ae Bx5.out;clear hown5 hgr5 hb5 o0 o1 o2 o3 o4 o5 HOW
  go_wp2_with (first|(at_builtin;refine aq rfl _ _ 26 rfl q2.w.heap.size 97 i5 (Za #[I ⟨#[]⟩,Y4 Y5 0,I ⟨#[]⟩,Y7 Y8,I ⟨#[]⟩]) 5 64 Tryz.underlying26 HI0.1 HI0.2.1 HI0.2.2.1 HI0.2.2.2 rfl ag _ _ _ rfl (HO5.alloc _) _ 1 _ [I x.n,Y4 Y5 x.z,I x.k,Y7 x.x,I x.v] rfl rfl (λj u hu=>⟨_,rfl,by rw[Yo,Yq,an (heap_alloc_new w5 _)];simpa using hu⟩) dC bo af bJ ?_))
  intro v6 w6 hown6 hgr6;have hb6:Below q2.w.heap.size q2.w w6:=(H5.alloc H5.size _).grown hgr6 bJ (λg hg=>(HO5.lt g hg).1);obtain⟨r1,r2,r3,rfl⟩:=aA hown6;have HO6:=aa hown6;have H6:=aa hb6;have hs7:=hb6.size;have Bo6:=upK Bo hb6;obtain⟨o0,o1,o2,o3,o4,o5⟩:=cs6 Bo6;have hol:=ae Bo6.out;clear hown6 hgr6 hb6 x0 x1 x2 x3 x4 hxl
  go_wp2_with (first|(at_builtin;refine aq rfl _ _ 26 rfl q2.w.heap.size 97 i5 (Za #[I ⟨#[]⟩,Y4 Y5 0,I ⟨#[]⟩,Y7 Y8,I ⟨#[]⟩]) 5 64 Tryz.underlying26 HI0.1 HI0.2.1 HI0.2.2.1 HI0.2.2.2 rfl ag _ _ _ rfl (HO6.out) _ (l4 - k) _ (vss.drop k).flatten rfl (by rw[dW HVR.all,hvl]) (λj u hu=>by first|(rw[Yx af] at hu;simp at hu;done)|(obtain⟨g,e,hgl,h3⟩:=HCQ.out _ _ (cW HVR.all af hu);cases e <;> exact⟨_,rfl,by simp only[Yo,Yq];exact (ai H6.out hgl).trans h3⟩)) (aD HVR.one k).2 bo af af ?_))
  intro v7 w7 hown7 hgr7;have hb7:Below q2.w.heap.size q2.w w7:=H6.grown hgr7 af (λg hg=>(HO6.lt g hg).1)
  replace hown7:w7.ownsRow q2.w.heap.size 97 5 v7 (l4+1) (aM k [I x.n,Y4 Y5 x.z,I x.k,Y7 x.x,I x.v] vss).flatten:=by
   have e9:k+1+(l4 - k)=l4+1:=af
   try rw[e9] at hown7
   simpa[aM] using hown7
  obtain⟨t1,t2,t3,rfl⟩:=aA hown7;have H7:=aa hb7;have H47:=upB H4 hb7;have HB7:=upB HB hb7
  obtain⟨H9,hV9⟩:=((HVR.below H47.out).az (w':=w7) (S':=λk=>(w3.heap.size<=k/\k<w4.heap.size)\/q2.w.heap.size<=k) (λ_ _ _ _=>rfl) (λ_ _ s=>Zc s)).ins (p:=k) (r:=xdF x) (vs:=[I x.n,Y4 Y5 x.z,I x.k,Y7 x.x,I x.v]) (hh:=λ_=>0) rfl rfl (λi f hf=>by rcases i with _|_|_|_|_|i <;> simp[xdF] at hf <;> subst hf;exact⟨_,rfl,rfl,z0⟩;exact⟨_,rfl,rfl⟩;exact⟨_,rfl,rfl,z2⟩;exact⟨_,rfl,rfl⟩;exact⟨_,rfl,rfl,z4⟩) (λi zs h _=>by rcases i with _|_|_|_|_|i <;> simp[xdF] at h) (λi i2 zs zs2 h _ _ _=>by rcases i with _|_|_|_|_|i <;> simp[xdF] at h) (show k<=(c.xs.map xdF).length by rw[Yr];omega)
  have h45:aQ w7 (λk=>(w3.heap.size<=k/\k<w4.heap.size)\/q2.w.heap.size<=k) 5 ((aM k x c.xs).map xdF) (aM k [I x.n,Y4 Y5 x.z,I x.k,Y7 x.x,I x.v] vss) H9:=by rw[fH];exact hV9
  have hle:((aM k x c.xs).map xdF).length=l4+1:=by rw[Yr,ct af];omega
  obtain⟨u1,u2,hq,hR⟩:=h45.own hown7 hle.symm ag (λg hg=>Zb (hown7.lt g hg).1);rw[hle] at hq hR;simp only[Value.slice.injEq] at hq;obtain⟨rfl,rfl,rfl⟩:=hq;rw[HPL.out] at hR;have HR7:=aa hR;have hs8:=hb7.size;have Bo7:=upK Bo hb7;have Br7:=upK Br hb7;clear o0 o1 o2 o3 o4 o5;obtain⟨o0,o1,o2,o3,o4,o5⟩:=cs6 Bo7;obtain⟨r0,r1,r2,r3,r4,r5,r6,r7⟩:=cs8 Br7;have fo0:=al Bo7.out 0;have fo1:=al Bo7.out 1;have fo2:=al Bo7.out 2;have fo3:=al Bo7.out 3;have fo4:=al Bo7.out 4;have fo5:=al Bo7.out 5;have fr0:=al Br7.out 0;have fr1:=al Br7.out 1;have fr2:=al Br7.out 2;have fr3:=al Br7.out 3;have fr4:=al Br7.out 4;have fr5:=al Br7.out 5;have fr6:=al Br7.out 6;have fr7:=al Br7.out 7
  have hne:¬w.heap.size+1+1=w4.heap.size:=af
  have hne2:¬w4.heap.size=w.heap.size+1+1:=af
  have hol7:=ae Bo7.out;have hrl7:=ae Br7.out;clear hown7 hgr7 hb7 hR hV9 h45 hle hik hkn hcap
  go_wp2
  refine bodyPost_ret (v:=Za #[J g1 m1 n1,J g2 m2 n2,J g3 m3 n3,J t1 (l4+1) t3,J g5 m5 n5,Y4 Y5 c.now,I ⟨#[]⟩,Y4 Y5 0]) mW rfl ⟨⟨g1,m1,n1,g2,m2,n2,g3,m3,n3,t1,l4+1,t3,g5,m5,n5⟩,⟨BB c x,⟨#[]⟩,0⟩,rfl,HV.out,?_,sb2 (sb2 (sb2 (sb2 (sb2 (sb2 (sb2 (sb2 (ah (show w.heap.size<=w4.heap.size by omega) (HB7.out)))))))))⟩
  have hkeep:∀k9,w3.heap.size<=k9->¬k9=w4.heap.size->(((((((((w7.setCell ⟨w4.heap.size,3,U⟩ (J t1 (l4+1) t3)).setCell ⟨w.heap.size+1+1,0,U⟩ (J g1 m1 n1)).setCell ⟨w.heap.size+1+1,1,U⟩ (J g2 m2 n2)).setCell ⟨w.heap.size+1+1,2,U⟩ (J g3 m3 n3)).setCell ⟨w.heap.size+1+1,3,U⟩ (J t1 (l4+1) t3)).setCell ⟨w.heap.size+1+1,4,U⟩ (J g5 m5 n5)).setCell ⟨w.heap.size+1+1,5,U⟩ (Y4 Y5 c.now)).setCell ⟨w.heap.size+1+1,6,U⟩ (I ⟨#[]⟩)).setCell ⟨w.heap.size+1+1,7,U⟩ (Y4 Y5 0)).heap[k9]?=w7.heap[k9]?:=λk9 h1 h2=>by rw[Ya _ _ _ _ (show k9≠w.heap.size+1+1 by omega),Ya _ _ _ _ (show k9≠w.heap.size+1+1 by omega),Ya _ _ _ _ (show k9≠w.heap.size+1+1 by omega),Ya _ _ _ _ (show k9≠w.heap.size+1+1 by omega),Ya _ _ _ _ (show k9≠w.heap.size+1+1 by omega),Ya _ _ _ _ (show k9≠w.heap.size+1+1 by omega),Ya _ _ _ _ (show k9≠w.heap.size+1+1 by omega),Ya _ _ _ _ (show k9≠w.heap.size+1+1 by omega),Ya _ _ _ _ (show k9≠w4.heap.size by omega)]
  have hlo:=HLO.out
  refine⟨(HFR.n.az (w':=(((((((((w7.setCell ⟨w4.heap.size,3,U⟩ (J t1 (l4+1) t3)).setCell ⟨w.heap.size+1+1,0,U⟩ (J g1 m1 n1)).setCell ⟨w.heap.size+1+1,1,U⟩ (J g2 m2 n2)).setCell ⟨w.heap.size+1+1,2,U⟩ (J g3 m3 n3)).setCell ⟨w.heap.size+1+1,3,U⟩ (J t1 (l4+1) t3)).setCell ⟨w.heap.size+1+1,4,U⟩ (J g5 m5 n5)).setCell ⟨w.heap.size+1+1,5,U⟩ (Y4 Y5 c.now)).setCell ⟨w.heap.size+1+1,6,U⟩ (I ⟨#[]⟩)).setCell ⟨w.heap.size+1+1,7,U⟩ (Y4 Y5 0))) (S':=λk=>w.heap.size<=k) (λk hk s=>(hkeep k s af).trans (H47.block k hk)) (λ_ _ s=>loq)),(HFR.k.az (w':=(((((((((w7.setCell ⟨w4.heap.size,3,U⟩ (J t1 (l4+1) t3)).setCell ⟨w.heap.size+1+1,0,U⟩ (J g1 m1 n1)).setCell ⟨w.heap.size+1+1,1,U⟩ (J g2 m2 n2)).setCell ⟨w.heap.size+1+1,2,U⟩ (J g3 m3 n3)).setCell ⟨w.heap.size+1+1,3,U⟩ (J t1 (l4+1) t3)).setCell ⟨w.heap.size+1+1,4,U⟩ (J g5 m5 n5)).setCell ⟨w.heap.size+1+1,5,U⟩ (Y4 Y5 c.now)).setCell ⟨w.heap.size+1+1,6,U⟩ (I ⟨#[]⟩)).setCell ⟨w.heap.size+1+1,7,U⟩ (Y4 Y5 0))) (S':=λk=>w.heap.size<=k) (λk hk s=>(hkeep k s af).trans (H47.block k hk)) (λ_ _ s=>loq)),(HFR.v.az (w':=(((((((((w7.setCell ⟨w4.heap.size,3,U⟩ (J t1 (l4+1) t3)).setCell ⟨w.heap.size+1+1,0,U⟩ (J g1 m1 n1)).setCell ⟨w.heap.size+1+1,1,U⟩ (J g2 m2 n2)).setCell ⟨w.heap.size+1+1,2,U⟩ (J g3 m3 n3)).setCell ⟨w.heap.size+1+1,3,U⟩ (J t1 (l4+1) t3)).setCell ⟨w.heap.size+1+1,4,U⟩ (J g5 m5 n5)).setCell ⟨w.heap.size+1+1,5,U⟩ (Y4 Y5 c.now)).setCell ⟨w.heap.size+1+1,6,U⟩ (I ⟨#[]⟩)).setCell ⟨w.heap.size+1+1,7,U⟩ (Y4 Y5 0))) (S':=λk=>w.heap.size<=k) (λk hk s=>(hkeep k s af).trans (H47.block k hk)) (λ_ _ s=>loq)),(HR7.az (w':=(((((((((w7.setCell ⟨w4.heap.size,3,U⟩ (J t1 (l4+1) t3)).setCell ⟨w.heap.size+1+1,0,U⟩ (J g1 m1 n1)).setCell ⟨w.heap.size+1+1,1,U⟩ (J g2 m2 n2)).setCell ⟨w.heap.size+1+1,2,U⟩ (J g3 m3 n3)).setCell ⟨w.heap.size+1+1,3,U⟩ (J t1 (l4+1) t3)).setCell ⟨w.heap.size+1+1,4,U⟩ (J g5 m5 n5)).setCell ⟨w.heap.size+1+1,5,U⟩ (Y4 Y5 c.now)).setCell ⟨w.heap.size+1+1,6,U⟩ (I ⟨#[]⟩)).setCell ⟨w.heap.size+1+1,7,U⟩ (Y4 Y5 0))) (S':=λk=>w.heap.size<=k) (λk hk s=>hkeep k fD fD) (λ_ _ s=>loq)),(HFR.p.az (w':=(((((((((w7.setCell ⟨w4.heap.size,3,U⟩ (J t1 (l4+1) t3)).setCell ⟨w.heap.size+1+1,0,U⟩ (J g1 m1 n1)).setCell ⟨w.heap.size+1+1,1,U⟩ (J g2 m2 n2)).setCell ⟨w.heap.size+1+1,2,U⟩ (J g3 m3 n3)).setCell ⟨w.heap.size+1+1,3,U⟩ (J t1 (l4+1) t3)).setCell ⟨w.heap.size+1+1,4,U⟩ (J g5 m5 n5)).setCell ⟨w.heap.size+1+1,5,U⟩ (Y4 Y5 c.now)).setCell ⟨w.heap.size+1+1,6,U⟩ (I ⟨#[]⟩)).setCell ⟨w.heap.size+1+1,7,U⟩ (Y4 Y5 0))) (S':=λk=>w.heap.size<=k) (λk hk s=>(hkeep k s af).trans (H47.block k hk)) (λ_ _ s=>loq))⟩)):p:=h
theorem Vp(h:p:=by
 rcases g4 with _|⟨b2,f2,sp⟩
 ·have hl0:l4=0:=Classical.byContradiction λhne0=>by
   exact PL
  obtain rfl:k=0:=af
  subst hl0;by_cases hcap:n4=0;all_goals (
   go_wp2_with (first|(at_builtin;refine aq rfl _ _ 26 rfl q2.w.heap.size 97 i5 (Za #[I ⟨#[]⟩,Y4 Y5 0,I ⟨#[]⟩,Y7 Y8,I ⟨#[]⟩]) 5 64 Tryz.underlying26 HI0.1 HI0.2.1 HI0.2.2.1 HI0.2.2.2 rfl ag _ _ _ rfl (HOW.out) _ 0 _ (vss.take 0).flatten rfl (bm HVR.all af) (λj u hu=>by obtain⟨g,e,hgl,h3⟩:=HCQ.out _ _ (cI hu);cases e <;> exact⟨_,rfl,by simp only[Yo,Yq];exact (ai (ak q2.w _) hgl).trans h3⟩) (aD HVR.one 0).1 bo af aF ?_))
   intro v5 w5 hown5 hgr5
   replace hown5:w5.ownsRow q2.w.heap.size 97 5 v5 0 (vss.take 0).flatten:=dQ
   have hb5:Below q2.w.heap.size q2.w w5:=(ak q2.w (Y6 #[] 97)).grown hgr5 aF (λg hg=>by simp[YJ] at hg;omega);obtain⟨s1,s2,s3,rfl⟩:=aA hown5;have HO5:=aa hown5;have H5:=aa hb5;have hs6:=hb5.size;have Bx5:=upK Bx hb5;obtain⟨x0,x1,x2,x3,x4⟩:=cs5 Bx5;have hxl:=ae Bx5.out;clear hown5 hgr5 hb5 o0 o1 o2 o3 o4 o5 HOW
   go_wp2_with (first|(at_builtin;refine aq rfl _ _ 26 rfl q2.w.heap.size 97 i5 (Za #[I ⟨#[]⟩,Y4 Y5 0,I ⟨#[]⟩,Y7 Y8,I ⟨#[]⟩]) 5 64 Tryz.underlying26 HI0.1 HI0.2.1 HI0.2.2.1 HI0.2.2.2 rfl ag _ _ _ rfl (HO5.alloc _) _ 1 _ [I x.n,Y4 Y5 x.z,I x.k,Y7 x.x,I x.v] rfl rfl (λj u hu=>⟨_,rfl,by rw[Yo,Yq,an (heap_alloc_new w5 _)];simpa using hu⟩) dC bo af bJ ?_))
   intro v6 w6 hown6 hgr6;have hb6:Below q2.w.heap.size q2.w w6:=(H5.alloc H5.size _).grown hgr6 bJ (λg hg=>(HO5.lt g hg).1);obtain⟨r1,r2,r3,rfl⟩:=aA hown6;have HO6:=aa hown6;have H6:=aa hb6;have hs7:=hb6.size;have Bo6:=upK Bo hb6;obtain⟨o0,o1,o2,o3,o4,o5⟩:=cs6 Bo6;have hol:=ae Bo6.out;clear hown6 hgr6 hb6 x0 x1 x2 x3 x4 hxl
   go_wp2_with (first|(at_builtin;refine aq rfl _ _ 26 rfl q2.w.heap.size 97 i5 (Za #[I ⟨#[]⟩,Y4 Y5 0,I ⟨#[]⟩,Y7 Y8,I ⟨#[]⟩]) 5 64 Tryz.underlying26 HI0.1 HI0.2.1 HI0.2.2.1 HI0.2.2.2 rfl ag _ _ _ rfl (HO6.out) _ (0 - 0) _ (vss.drop 0).flatten rfl (by rw[dW HVR.all,hvl]) (λj u hu=>by first|(rw[Yx af] at hu;simp at hu;done)|(obtain⟨g,e,hgl,h3⟩:=HCQ.out _ _ (cW HVR.all af hu);cases e <;> exact⟨_,rfl,by simp only[Yo,Yq];exact (ai H6.out hgl).trans h3⟩)) (aD HVR.one 0).2 bo af af ?_))
   intro v7 w7 hown7 hgr7;have hb7:Below q2.w.heap.size q2.w w7:=H6.grown hgr7 af (λg hg=>(HO6.lt g hg).1)
   replace hown7:w7.ownsRow q2.w.heap.size 97 5 v7 (1) (aM 0 [I x.n,Y4 Y5 x.z,I x.k,Y7 x.x,I x.v] vss).flatten:=by
    have e9:0+1+(0 - 0)=1:=af
    try rw[e9] at hown7
    simpa[aM] using hown7
   obtain⟨t1,t2,t3,rfl⟩:=aA hown7;have H7:=aa hb7;have H47:=upB H4 hb7;have HB7:=upB HB hb7
   obtain⟨H9,hV9⟩:=((HVR.below H47.out).az (w':=w7) (S':=λk=>(w3.heap.size<=k/\k<w4.heap.size)\/q2.w.heap.size<=k) (λ_ _ _ _=>rfl) (λ_ _ s=>Zc s)).ins (p:=0) (r:=xdF x) (vs:=[I x.n,Y4 Y5 x.z,I x.k,Y7 x.x,I x.v]) (hh:=λ_=>0) rfl rfl (λi f hf=>by rcases i with _|_|_|_|_|i <;> simp[xdF] at hf <;> subst hf;exact⟨_,rfl,rfl,z0⟩;exact⟨_,rfl,rfl⟩;exact⟨_,rfl,rfl,z2⟩;exact⟨_,rfl,rfl⟩;exact⟨_,rfl,rfl,z4⟩) (λi zs h _=>by rcases i with _|_|_|_|_|i <;> simp[xdF] at h) (λi i2 zs zs2 h _ _ _=>by rcases i with _|_|_|_|_|i <;> simp[xdF] at h) (show 0<=(c.xs.map xdF).length by rw[Yr];omega)
   have h45:aQ w7 (λk=>(w3.heap.size<=k/\k<w4.heap.size)\/q2.w.heap.size<=k) 5 ((aM 0 x c.xs).map xdF) (aM 0 [I x.n,Y4 Y5 x.z,I x.k,Y7 x.x,I x.v] vss) H9:=by rw[fH];exact hV9
   have hle:((aM 0 x c.xs).map xdF).length=1:=by rw[Yr,ct af];omega
   obtain⟨u1,u2,hq,hR⟩:=h45.own hown7 hle.symm ag (λg hg=>Zb (hown7.lt g hg).1);rw[hle] at hq hR;simp only[Value.slice.injEq] at hq;obtain⟨rfl,rfl,rfl⟩:=hq;rw[HPL.out] at hR;have HR7:=aa hR;have hs8:=hb7.size;have Bo7:=upK Bo hb7;have Br7:=upK Br hb7;clear o0 o1 o2 o3 o4 o5;obtain⟨o0,o1,o2,o3,o4,o5⟩:=cs6 Bo7;obtain⟨r0,r1,r2,r3,r4,r5,r6,r7⟩:=cs8 Br7;have fo0:=al Bo7.out 0;have fo1:=al Bo7.out 1;have fo2:=al Bo7.out 2;have fo3:=al Bo7.out 3;have fo4:=al Bo7.out 4;have fo5:=al Bo7.out 5;have fr0:=al Br7.out 0;have fr1:=al Br7.out 1;have fr2:=al Br7.out 2;have fr3:=al Br7.out 3;have fr4:=al Br7.out 4;have fr5:=al Br7.out 5;have fr6:=al Br7.out 6;have fr7:=al Br7.out 7
   have hne:¬w.heap.size+1+1=w4.heap.size:=af
   have hne2:¬w4.heap.size=w.heap.size+1+1:=af
   have hol7:=ae Bo7.out;have hrl7:=ae Br7.out;clear hown7 hgr7 hb7 hR hV9 h45 hle hik hkn hcap
   go_wp2
   refine bodyPost_ret (v:=Za #[J g1 m1 n1,J g2 m2 n2,J g3 m3 n3,J t1 (1) t3,J g5 m5 n5,Y4 Y5 c.now,I ⟨#[]⟩,Y4 Y5 0]) mW rfl ⟨⟨g1,m1,n1,g2,m2,n2,g3,m3,n3,t1,1,t3,g5,m5,n5⟩,⟨BB c x,⟨#[]⟩,0⟩,rfl,HV.out,?_,sb2 (sb2 (sb2 (sb2 (sb2 (sb2 (sb2 (sb2 (ah (show w.heap.size<=w4.heap.size by omega) (HB7.out)))))))))⟩
   have hkeep:∀k9,w3.heap.size<=k9->¬k9=w4.heap.size->(((((((((w7.setCell ⟨w4.heap.size,3,U⟩ (J t1 (1) t3)).setCell ⟨w.heap.size+1+1,0,U⟩ (J g1 m1 n1)).setCell ⟨w.heap.size+1+1,1,U⟩ (J g2 m2 n2)).setCell ⟨w.heap.size+1+1,2,U⟩ (J g3 m3 n3)).setCell ⟨w.heap.size+1+1,3,U⟩ (J t1 (1) t3)).setCell ⟨w.heap.size+1+1,4,U⟩ (J g5 m5 n5)).setCell ⟨w.heap.size+1+1,5,U⟩ (Y4 Y5 c.now)).setCell ⟨w.heap.size+1+1,6,U⟩ (I ⟨#[]⟩)).setCell ⟨w.heap.size+1+1,7,U⟩ (Y4 Y5 0)).heap[k9]?=w7.heap[k9]?:=λk9 h1 h2=>by rw[Ya _ _ _ _ (show k9≠w.heap.size+1+1 by omega),Ya _ _ _ _ (show k9≠w.heap.size+1+1 by omega),Ya _ _ _ _ (show k9≠w.heap.size+1+1 by omega),Ya _ _ _ _ (show k9≠w.heap.size+1+1 by omega),Ya _ _ _ _ (show k9≠w.heap.size+1+1 by omega),Ya _ _ _ _ (show k9≠w.heap.size+1+1 by omega),Ya _ _ _ _ (show k9≠w.heap.size+1+1 by omega),Ya _ _ _ _ (show k9≠w.heap.size+1+1 by omega),Ya _ _ _ _ (show k9≠w4.heap.size by omega)]
   have hlo:=HLO.out
   refine⟨(HFR.n.az (w':=(((((((((w7.setCell ⟨w4.heap.size,3,U⟩ (J t1 (1) t3)).setCell ⟨w.heap.size+1+1,0,U⟩ (J g1 m1 n1)).setCell ⟨w.heap.size+1+1,1,U⟩ (J g2 m2 n2)).setCell ⟨w.heap.size+1+1,2,U⟩ (J g3 m3 n3)).setCell ⟨w.heap.size+1+1,3,U⟩ (J t1 (1) t3)).setCell ⟨w.heap.size+1+1,4,U⟩ (J g5 m5 n5)).setCell ⟨w.heap.size+1+1,5,U⟩ (Y4 Y5 c.now)).setCell ⟨w.heap.size+1+1,6,U⟩ (I ⟨#[]⟩)).setCell ⟨w.heap.size+1+1,7,U⟩ (Y4 Y5 0))) (S':=λk=>w.heap.size<=k) (λk hk s=>(hkeep k s af).trans (H47.block k hk)) (λ_ _ s=>loq)),(HFR.k.az (w':=(((((((((w7.setCell ⟨w4.heap.size,3,U⟩ (J t1 (1) t3)).setCell ⟨w.heap.size+1+1,0,U⟩ (J g1 m1 n1)).setCell ⟨w.heap.size+1+1,1,U⟩ (J g2 m2 n2)).setCell ⟨w.heap.size+1+1,2,U⟩ (J g3 m3 n3)).setCell ⟨w.heap.size+1+1,3,U⟩ (J t1 (1) t3)).setCell ⟨w.heap.size+1+1,4,U⟩ (J g5 m5 n5)).setCell ⟨w.heap.size+1+1,5,U⟩ (Y4 Y5 c.now)).setCell ⟨w.heap.size+1+1,6,U⟩ (I ⟨#[]⟩)).setCell ⟨w.heap.size+1+1,7,U⟩ (Y4 Y5 0))) (S':=λk=>w.heap.size<=k) (λk hk s=>(hkeep k s af).trans (H47.block k hk)) (λ_ _ s=>loq)),(HFR.v.az (w':=(((((((((w7.setCell ⟨w4.heap.size,3,U⟩ (J t1 (1) t3)).setCell ⟨w.heap.size+1+1,0,U⟩ (J g1 m1 n1)).setCell ⟨w.heap.size+1+1,1,U⟩ (J g2 m2 n2)).setCell ⟨w.heap.size+1+1,2,U⟩ (J g3 m3 n3)).setCell ⟨w.heap.size+1+1,3,U⟩ (J t1 (1) t3)).setCell ⟨w.heap.size+1+1,4,U⟩ (J g5 m5 n5)).setCell ⟨w.heap.size+1+1,5,U⟩ (Y4 Y5 c.now)).setCell ⟨w.heap.size+1+1,6,U⟩ (I ⟨#[]⟩)).setCell ⟨w.heap.size+1+1,7,U⟩ (Y4 Y5 0))) (S':=λk=>w.heap.size<=k) (λk hk s=>(hkeep k s af).trans (H47.block k hk)) (λ_ _ s=>loq)),(HR7.az (w':=(((((((((w7.setCell ⟨w4.heap.size,3,U⟩ (J t1 (1) t3)).setCell ⟨w.heap.size+1+1,0,U⟩ (J g1 m1 n1)).setCell ⟨w.heap.size+1+1,1,U⟩ (J g2 m2 n2)).setCell ⟨w.heap.size+1+1,2,U⟩ (J g3 m3 n3)).setCell ⟨w.heap.size+1+1,3,U⟩ (J t1 (1) t3)).setCell ⟨w.heap.size+1+1,4,U⟩ (J g5 m5 n5)).setCell ⟨w.heap.size+1+1,5,U⟩ (Y4 Y5 c.now)).setCell ⟨w.heap.size+1+1,6,U⟩ (I ⟨#[]⟩)).setCell ⟨w.heap.size+1+1,7,U⟩ (Y4 Y5 0))) (S':=λk=>w.heap.size<=k) (λk hk s=>hkeep k fD fD) (λ_ _ s=>loq)),(HFR.p.az (w':=(((((((((w7.setCell ⟨w4.heap.size,3,U⟩ (J t1 (1) t3)).setCell ⟨w.heap.size+1+1,0,U⟩ (J g1 m1 n1)).setCell ⟨w.heap.size+1+1,1,U⟩ (J g2 m2 n2)).setCell ⟨w.heap.size+1+1,2,U⟩ (J g3 m3 n3)).setCell ⟨w.heap.size+1+1,3,U⟩ (J t1 (1) t3)).setCell ⟨w.heap.size+1+1,4,U⟩ (J g5 m5 n5)).setCell ⟨w.heap.size+1+1,5,U⟩ (Y4 Y5 c.now)).setCell ⟨w.heap.size+1+1,6,U⟩ (I ⟨#[]⟩)).setCell ⟨w.heap.size+1+1,7,U⟩ (Y4 Y5 0))) (S':=λk=>w.heap.size<=k) (λk hk s=>(hkeep k s af).trans (H47.block k hk)) (λ_ _ s=>loq))⟩)
 by_cases hcap:n4=k;all_goals (
  go_wp2_with (first|(at_builtin;refine aq rfl _ _ 26 rfl q2.w.heap.size 97 i5 (Za #[I ⟨#[]⟩,Y4 Y5 0,I ⟨#[]⟩,Y7 Y8,I ⟨#[]⟩]) 5 64 Tryz.underlying26 HI0.1 HI0.2.1 HI0.2.2.1 HI0.2.2.2 rfl ag _ _ _ rfl (HOW.out) _ k _ (vss.take k).flatten rfl (bm HVR.all af) (λj u hu=>by obtain⟨g,e,hgl,h3⟩:=HCQ.out _ _ (cI hu);cases e <;> exact⟨_,rfl,by simp only[Yo,Yq];exact (ai (ak q2.w _) hgl).trans h3⟩) (aD HVR.one k).1 bo af aF ?_))
  intro v5 w5 hown5 hgr5
  replace hown5:w5.ownsRow q2.w.heap.size 97 5 v5 k (vss.take k).flatten:=dQ
  have hb5:Below q2.w.heap.size q2.w w5:=(ak q2.w (Y6 #[] 97)).grown hgr5 aF (λg hg=>by simp[YJ] at hg;omega);obtain⟨s1,s2,s3,rfl⟩:=aA hown5;have HO5:=aa hown5;have H5:=aa hb5;have hs6:=hb5.size;have Bx5:=upK Bx hb5;obtain⟨x0,x1,x2,x3,x4⟩:=cs5 Bx5;have hxl:=ae Bx5.out;clear hown5 hgr5 hb5 o0 o1 o2 o3 o4 o5 HOW
  go_wp2_with (first|(at_builtin;refine aq rfl _ _ 26 rfl q2.w.heap.size 97 i5 (Za #[I ⟨#[]⟩,Y4 Y5 0,I ⟨#[]⟩,Y7 Y8,I ⟨#[]⟩]) 5 64 Tryz.underlying26 HI0.1 HI0.2.1 HI0.2.2.1 HI0.2.2.2 rfl ag _ _ _ rfl (HO5.alloc _) _ 1 _ [I x.n,Y4 Y5 x.z,I x.k,Y7 x.x,I x.v] rfl rfl (λj u hu=>⟨_,rfl,by rw[Yo,Yq,an (heap_alloc_new w5 _)];simpa using hu⟩) dC bo af bJ ?_))
  intro v6 w6 hown6 hgr6;have hb6:Below q2.w.heap.size q2.w w6:=(H5.alloc H5.size _).grown hgr6 bJ (λg hg=>(HO5.lt g hg).1);obtain⟨r1,r2,r3,rfl⟩:=aA hown6;have HO6:=aa hown6;have H6:=aa hb6;have hs7:=hb6.size;have Bo6:=upK Bo hb6;obtain⟨o0,o1,o2,o3,o4,o5⟩:=cs6 Bo6;have hol:=ae Bo6.out;clear hown6 hgr6 hb6 x0 x1 x2 x3 x4 hxl
  go_wp2_with (first|(at_builtin;refine aq rfl _ _ 26 rfl q2.w.heap.size 97 i5 (Za #[I ⟨#[]⟩,Y4 Y5 0,I ⟨#[]⟩,Y7 Y8,I ⟨#[]⟩]) 5 64 Tryz.underlying26 HI0.1 HI0.2.1 HI0.2.2.1 HI0.2.2.2 rfl ag _ _ _ rfl (HO6.out) _ (l4 - k) _ (vss.drop k).flatten rfl (by rw[dW HVR.all,hvl]) (λj u hu=>by first|(rw[Yx af] at hu;simp at hu;done)|(obtain⟨g,e,hgl,h3⟩:=HCQ.out _ _ (cW HVR.all af hu);cases e <;> exact⟨_,rfl,by simp only[Yo,Yq];exact (ai H6.out hgl).trans h3⟩)) (aD HVR.one k).2 bo af af ?_))
  intro v7 w7 hown7 hgr7;have hb7:Below q2.w.heap.size q2.w w7:=H6.grown hgr7 af (λg hg=>(HO6.lt g hg).1)
  replace hown7:w7.ownsRow q2.w.heap.size 97 5 v7 (l4+1) (aM k [I x.n,Y4 Y5 x.z,I x.k,Y7 x.x,I x.v] vss).flatten:=by
   have e9:k+1+(l4 - k)=l4+1:=af
   try rw[e9] at hown7
   simpa[aM] using hown7
  obtain⟨t1,t2,t3,rfl⟩:=aA hown7;have H7:=aa hb7;have H47:=upB H4 hb7;have HB7:=upB HB hb7
  obtain⟨H9,hV9⟩:=((HVR.below H47.out).az (w':=w7) (S':=λk=>(w3.heap.size<=k/\k<w4.heap.size)\/q2.w.heap.size<=k) (λ_ _ _ _=>rfl) (λ_ _ s=>Zc s)).ins (p:=k) (r:=xdF x) (vs:=[I x.n,Y4 Y5 x.z,I x.k,Y7 x.x,I x.v]) (hh:=λ_=>0) rfl rfl (λi f hf=>by rcases i with _|_|_|_|_|i <;> simp[xdF] at hf <;> subst hf;exact⟨_,rfl,rfl,z0⟩;exact⟨_,rfl,rfl⟩;exact⟨_,rfl,rfl,z2⟩;exact⟨_,rfl,rfl⟩;exact⟨_,rfl,rfl,z4⟩) (λi zs h _=>by rcases i with _|_|_|_|_|i <;> simp[xdF] at h) (λi i2 zs zs2 h _ _ _=>by rcases i with _|_|_|_|_|i <;> simp[xdF] at h) (show k<=(c.xs.map xdF).length by rw[Yr];omega)
  have h45:aQ w7 (λk=>(w3.heap.size<=k/\k<w4.heap.size)\/q2.w.heap.size<=k) 5 ((aM k x c.xs).map xdF) (aM k [I x.n,Y4 Y5 x.z,I x.k,Y7 x.x,I x.v] vss) H9:=by rw[fH];exact hV9
  have hle:((aM k x c.xs).map xdF).length=l4+1:=by rw[Yr,ct af];omega
  obtain⟨u1,u2,hq,hR⟩:=h45.own hown7 hle.symm ag (λg hg=>Zb (hown7.lt g hg).1);rw[hle] at hq hR;simp only[Value.slice.injEq] at hq;obtain⟨rfl,rfl,rfl⟩:=hq;rw[HPL.out] at hR;have HR7:=aa hR;have hs8:=hb7.size;have Bo7:=upK Bo hb7;have Br7:=upK Br hb7;clear o0 o1 o2 o3 o4 o5;obtain⟨o0,o1,o2,o3,o4,o5⟩:=cs6 Bo7;obtain⟨r0,r1,r2,r3,r4,r5,r6,r7⟩:=cs8 Br7;have fo0:=al Bo7.out 0;have fo1:=al Bo7.out 1;have fo2:=al Bo7.out 2;have fo3:=al Bo7.out 3;have fo4:=al Bo7.out 4;have fo5:=al Bo7.out 5;have fr0:=al Br7.out 0;have fr1:=al Br7.out 1;have fr2:=al Br7.out 2;have fr3:=al Br7.out 3;have fr4:=al Br7.out 4;have fr5:=al Br7.out 5;have fr6:=al Br7.out 6;have fr7:=al Br7.out 7
  have hne:¬w.heap.size+1+1=w4.heap.size:=af
  have hne2:¬w4.heap.size=w.heap.size+1+1:=af
  have hol7:=ae Bo7.out;have hrl7:=ae Br7.out;clear hown7 hgr7 hb7 hR hV9 h45 hle hik hkn hcap
  go_wp2
  refine bodyPost_ret (v:=Za #[J g1 m1 n1,J g2 m2 n2,J g3 m3 n3,J t1 (l4+1) t3,J g5 m5 n5,Y4 Y5 c.now,I ⟨#[]⟩,Y4 Y5 0]) mW rfl ⟨⟨g1,m1,n1,g2,m2,n2,g3,m3,n3,t1,l4+1,t3,g5,m5,n5⟩,⟨BB c x,⟨#[]⟩,0⟩,rfl,HV.out,?_,sb2 (sb2 (sb2 (sb2 (sb2 (sb2 (sb2 (sb2 (ah (show w.heap.size<=w4.heap.size by omega) (HB7.out)))))))))⟩
  have hkeep:∀k9,w3.heap.size<=k9->¬k9=w4.heap.size->(((((((((w7.setCell ⟨w4.heap.size,3,U⟩ (J t1 (l4+1) t3)).setCell ⟨w.heap.size+1+1,0,U⟩ (J g1 m1 n1)).setCell ⟨w.heap.size+1+1,1,U⟩ (J g2 m2 n2)).setCell ⟨w.heap.size+1+1,2,U⟩ (J g3 m3 n3)).setCell ⟨w.heap.size+1+1,3,U⟩ (J t1 (l4+1) t3)).setCell ⟨w.heap.size+1+1,4,U⟩ (J g5 m5 n5)).setCell ⟨w.heap.size+1+1,5,U⟩ (Y4 Y5 c.now)).setCell ⟨w.heap.size+1+1,6,U⟩ (I ⟨#[]⟩)).setCell ⟨w.heap.size+1+1,7,U⟩ (Y4 Y5 0)).heap[k9]?=w7.heap[k9]?:=λk9 h1 h2=>by rw[Ya _ _ _ _ (show k9≠w.heap.size+1+1 by omega),Ya _ _ _ _ (show k9≠w.heap.size+1+1 by omega),Ya _ _ _ _ (show k9≠w.heap.size+1+1 by omega),Ya _ _ _ _ (show k9≠w.heap.size+1+1 by omega),Ya _ _ _ _ (show k9≠w.heap.size+1+1 by omega),Ya _ _ _ _ (show k9≠w.heap.size+1+1 by omega),Ya _ _ _ _ (show k9≠w.heap.size+1+1 by omega),Ya _ _ _ _ (show k9≠w.heap.size+1+1 by omega),Ya _ _ _ _ (show k9≠w4.heap.size by omega)]
  have hlo:=HLO.out
  refine⟨(HFR.n.az (w':=(((((((((w7.setCell ⟨w4.heap.size,3,U⟩ (J t1 (l4+1) t3)).setCell ⟨w.heap.size+1+1,0,U⟩ (J g1 m1 n1)).setCell ⟨w.heap.size+1+1,1,U⟩ (J g2 m2 n2)).setCell ⟨w.heap.size+1+1,2,U⟩ (J g3 m3 n3)).setCell ⟨w.heap.size+1+1,3,U⟩ (J t1 (l4+1) t3)).setCell ⟨w.heap.size+1+1,4,U⟩ (J g5 m5 n5)).setCell ⟨w.heap.size+1+1,5,U⟩ (Y4 Y5 c.now)).setCell ⟨w.heap.size+1+1,6,U⟩ (I ⟨#[]⟩)).setCell ⟨w.heap.size+1+1,7,U⟩ (Y4 Y5 0))) (S':=λk=>w.heap.size<=k) (λk hk s=>(hkeep k s af).trans (H47.block k hk)) (λ_ _ s=>loq)),(HFR.k.az (w':=(((((((((w7.setCell ⟨w4.heap.size,3,U⟩ (J t1 (l4+1) t3)).setCell ⟨w.heap.size+1+1,0,U⟩ (J g1 m1 n1)).setCell ⟨w.heap.size+1+1,1,U⟩ (J g2 m2 n2)).setCell ⟨w.heap.size+1+1,2,U⟩ (J g3 m3 n3)).setCell ⟨w.heap.size+1+1,3,U⟩ (J t1 (l4+1) t3)).setCell ⟨w.heap.size+1+1,4,U⟩ (J g5 m5 n5)).setCell ⟨w.heap.size+1+1,5,U⟩ (Y4 Y5 c.now)).setCell ⟨w.heap.size+1+1,6,U⟩ (I ⟨#[]⟩)).setCell ⟨w.heap.size+1+1,7,U⟩ (Y4 Y5 0))) (S':=λk=>w.heap.size<=k) (λk hk s=>(hkeep k s af).trans (H47.block k hk)) (λ_ _ s=>loq)),(HFR.v.az (w':=(((((((((w7.setCell ⟨w4.heap.size,3,U⟩ (J t1 (l4+1) t3)).setCell ⟨w.heap.size+1+1,0,U⟩ (J g1 m1 n1)).setCell ⟨w.heap.size+1+1,1,U⟩ (J g2 m2 n2)).setCell ⟨w.heap.size+1+1,2,U⟩ (J g3 m3 n3)).setCell ⟨w.heap.size+1+1,3,U⟩ (J t1 (l4+1) t3)).setCell ⟨w.heap.size+1+1,4,U⟩ (J g5 m5 n5)).setCell ⟨w.heap.size+1+1,5,U⟩ (Y4 Y5 c.now)).setCell ⟨w.heap.size+1+1,6,U⟩ (I ⟨#[]⟩)).setCell ⟨w.heap.size+1+1,7,U⟩ (Y4 Y5 0))) (S':=λk=>w.heap.size<=k) (λk hk s=>(hkeep k s af).trans (H47.block k hk)) (λ_ _ s=>loq)),(HR7.az (w':=(((((((((w7.setCell ⟨w4.heap.size,3,U⟩ (J t1 (l4+1) t3)).setCell ⟨w.heap.size+1+1,0,U⟩ (J g1 m1 n1)).setCell ⟨w.heap.size+1+1,1,U⟩ (J g2 m2 n2)).setCell ⟨w.heap.size+1+1,2,U⟩ (J g3 m3 n3)).setCell ⟨w.heap.size+1+1,3,U⟩ (J t1 (l4+1) t3)).setCell ⟨w.heap.size+1+1,4,U⟩ (J g5 m5 n5)).setCell ⟨w.heap.size+1+1,5,U⟩ (Y4 Y5 c.now)).setCell ⟨w.heap.size+1+1,6,U⟩ (I ⟨#[]⟩)).setCell ⟨w.heap.size+1+1,7,U⟩ (Y4 Y5 0))) (S':=λk=>w.heap.size<=k) (λk hk s=>hkeep k fD fD) (λ_ _ s=>loq)),(HFR.p.az (w':=(((((((((w7.setCell ⟨w4.heap.size,3,U⟩ (J t1 (l4+1) t3)).setCell ⟨w.heap.size+1+1,0,U⟩ (J g1 m1 n1)).setCell ⟨w.heap.size+1+1,1,U⟩ (J g2 m2 n2)).setCell ⟨w.heap.size+1+1,2,U⟩ (J g3 m3 n3)).setCell ⟨w.heap.size+1+1,3,U⟩ (J t1 (l4+1) t3)).setCell ⟨w.heap.size+1+1,4,U⟩ (J g5 m5 n5)).setCell ⟨w.heap.size+1+1,5,U⟩ (Y4 Y5 c.now)).setCell ⟨w.heap.size+1+1,6,U⟩ (I ⟨#[]⟩)).setCell ⟨w.heap.size+1+1,7,U⟩ (Y4 Y5 0))) (S':=λk=>w.heap.size<=k) (λk hk s=>(hkeep k s af).trans (H47.block k hk)) (λ_ _ s=>loq))⟩)):p:=h
theorem yz(h:p:=by
 have HPL:=aa hpl;clear hpl;have H4:=upB HB4 q2.b;have HCQ:Hid (∀(j:Nat) u,vss.flatten[j]?=Y3 u->∃g,g4=Y3 ⟨g,0,U⟩/\g<q2.w.heap.size/\q2.w.cell? ⟨g,j,U⟩=Y3 u):=λj u hj=>by
  exact ajK
 obtain⟨hq1,hq2,hs5,hok,HOW,hik,hkn⟩:=akM;obtain⟨o0,o1,o2,o3,o4,o5⟩:=cs6 Bo;exact z680z):p:=h
theorem UO(h:p:=by
 refine⟨⟨j+1,Y_,by omega,rfl,by go_num,show _↔_ from ⟨λ_=>Zb ⟨j,n,by omega,HN.out,HIN.out⟩,λ_=>rfl⟩,HB.out,Bk.out⟩,by simp[intOf];omega⟩):p:=h
theorem UN(h:p:=by
 refine⟨⟨j+1,Y8,by omega,rfl,by go_num,show _↔_ from ⟨λh=>bY,λh=>HS.2 (h.elim Zc (λ⟨i,m,h1,h2,h3⟩=>Zb ⟨i,m,by by_cases e:i=j;subst e;rw[HN.out] at h2;cases h2;exact absurd h3 HIN.out;omega,h2,h3⟩))⟩,HB.out,Bk.out⟩,by simp[intOf];omega⟩):p:=h
theorem yr(h:p:=by
 repeat (go_big_quiet_step (first|(go_at_call 102;exact Calls.wide (HC0.out _))|fail))
 refine wpQuiet_nil ?_;rintro _ ⟨q1,rfl⟩;obtain⟨HB1,Ck⟩:=iz;clear hne0 HW HB HC0 k0 k1 k2 k3 k4 k5 mz mn Gk Bk g0;have HB:=HB1;clear HB1;have Bk:=Ck;clear Ck;go_wp2;exact z727z):p:=h
theorem UH(h:p:=by
 exact⟨⟨k+1,by omega,by go_num,Zb ⟨rfl,HQ⟩,HL.trans (q3.b.mono HL.size)⟩,by simp[intOf];omega⟩):p:=h
theorem UG(h:p:=by
 exact⟨⟨k+1,by omega,rfl,by go_num,HL.trans (q3.b.mono HL.size)⟩,by simp[intOf];omega⟩):p:=h
theorem yp(h:p:=by
 rintro _ ⟨q3,rfl⟩;have HB5:=upB HW q3.b;have Ck:=upK Gk q3.b;have Cx:=upK Gx q3.b;have Cr:=upK Gr q3.b;clear hne0 HW HB Gk Gx Gr Bk Bx Br;have HB:=HB5;clear HB5;have Bk:=Ck;clear Ck;have Bx:=Cx;clear Cx;have Br:=Cr;clear Cr;go_wp2;exact z737z):p:=h
theorem Ux(h:p:=by
 exact z247z):p:=h
theorem TX(h:p:=by
 have hp0:(¬p=0/\cm c t (co0 p))\/(p=0/\¬8000<t.size/\av c):=by
  exact zZ
 clear hp;rcases hp0 with ⟨hp0,hV⟩|⟨rfl,hl,hT⟩
 ·have z1166z:=@aa _ @KO;exact sQ
 have HT:=aa hT;clear hT;obtain⟨k0,k1,k2,k3,k4,k5⟩:=cs6 Bk;have ltk_1:=ae Bk.out;go_wp2_with fail;refine (ft ⟨a1,l1,y1,a2,l2,y2,a3,l3,y3,a4,l4,y4,a5,l5,y5⟩ c.now c.xs t _ (HR.x.below HB.out)).mono ?_;rintro e w2 ⟨hb,hf⟩;clear k0 k1 k2 k3 k4 k5 ltk_1;have z1388z:=@aa _ @Hg;exact bj):p:=h
theorem TW(h:p:=by
 have hp0:(¬p=0/\ck c t (co0 p))\/(p=0/\¬8000<t.size/\av c):=by
  exact zZ
 clear hp;rcases hp0 with ⟨hp0,hV⟩|⟨rfl,hl,hT⟩
 ·have z1166z:=@aa _ @KN;exact sQ
 have HT:=aa hT;clear hT;obtain⟨k0,k1,k2,k3,k4,k5⟩:=cs6 Bk;have ltk_1:=ae Bk.out;go_wp2_with fail;refine (iP ⟨a1,l1,y1,a2,l2,y2,a3,l3,y3,a4,l4,y4,a5,l5,y5⟩ c.now c.vs t _ (HR.v.below HB.out)).mono ?_;rintro e w2 ⟨hb,hf⟩;clear k0 k1 k2 k3 k4 k5 ltk_1;have z1388z:=@aa _ @Hf;exact bj):p:=h
theorem TR(h:p:=by
 have HI:=aa hi;clear hi;cases r
 ·have HV:Hid (bR c (⟨xn,xc,xz,zs,xd,0⟩:Pd) (co0 1)):=Zc ⟨1,λh=>(by have:=HI.2 h.2.1;cases this),rfl⟩;exact Pj
 have HO:Hid (fp c (⟨xn,xc,xz,zs,xd,0⟩:Pd)):=⟨HT.out,HI.1 bX,rfl⟩;have hv3:vl<=3:=by have h9:(zs.length:Int)<=3:=HO.2.1.2.2.2.1.1;omega
 clear HI;obtain⟨k0,k1,k2,k3,k4,k5⟩:=cs6 Bk;have ltk_2:=ae Bk.out;obtain⟨x0,x1,x2,x3,x4,x5⟩:=cs6 Bx;have ltx_2:=ae Bx.out;go_wp2_with fail;clear k0 k1 k2 k3 k4 k5 ltk_2 x0 x1 x2 x3 x4 x5 ltx_2;have HRI:Hid (aH Pd.n c.ps):=HT.2.1.2.2.2.2.2.2;cases hh:hit Pd.n c.ps xn;rotate_left
 ·obtain⟨y,hy,hyn⟩:=cv hh;have HY:=aa hy;have HYN:=aa hyn;have HV:Hid (bR c (⟨xn,xc,xz,zs,xd,0⟩:Pd) (co0 7)):=Zc ⟨3,⟨HO.out,hh⟩,rfl⟩;clear hy hyn hh;obtain⟨j,hj⟩:∃j,j=pl Pd.n c.ps xn:=⟨_,rfl⟩;rw[<-hj] at HY;clear hj;have hj0:¬(j:Int)<0:=af
  have z1475z:=@aa _ @FF;exact mx
 have HMS:Hid (∀(j:Nat) y,c.ps[j]?=Y3 y->¬y.n=xn):=λj y h1 h2=>by rw[(a_ HRI.out h1 h2).2] at hh;cases hh
 by_cases hfull:8<=l5
 ·have HV:Hid (bR c (⟨xn,xc,xz,zs,xd,0⟩:Pd) (co0 9)):=Zc ⟨4,⟨HO.out,hh,by omega⟩,rfl⟩;clear hh;have z1475z:=@aa _ @FE;exact mx
 have HNO:=aa hh;have hfull2:l5<8:=af
 clear hh hfull;have z1475z:=@aa _ @FG;exact mx):p:=h
theorem TQ(h:p:=by
 cases r
 ·exact Pj
 exact Pj):p:=h
theorem TP(h:p:=by
 have HI:=aa hi;clear hi;cases r
 ·have HV:Hid (bF c x (co0 1)):=Zc ⟨1,λh=>(by have:=HI.2 h.2.1;cases this),rfl⟩;exact ag9
 have HI2:=aa (HI.1 bX);clear HI;by_cases he:x.v=⟨#[]⟩;rotate_left
 ·have hq:=aX he;have HV:Hid (bF c x (co0 1)):=Zc ⟨1,λh=>he h.2.2,rfl⟩;exact ag9
 have hq:=cN he;have HO:Hid (av c/\gB x/\x.v=⟨#[]⟩):=⟨HT.out,HI2.out,he⟩;clear HI2 he;obtain⟨k0,k1,k2,k3,k4,k5⟩:=cs6 Bk;have ltk_2:=ae Bk.out;obtain⟨x0,x1,x2,x3,x4⟩:=cs5 Bx;have ltx_2:=ae Bx.out;go_wp2_with fail;clear k0 k1 k2 k3 k4 k5 ltk_2 x0 x1 x2 x3 x4 ltx_2;clear hq;have hri:aH Xd.n c.xs:=HT.2.1.2.2.2.1.2.2;have HRI:=aa hri;clear hri;have hlen2:c.xs.length=l4:=hl4;cases hh:hit Xd.n c.xs x.n;rotate_left
 ·obtain⟨y,hy,hyn⟩:=cv hh;have HY:=aa hy;have HYN:=aa hyn;have HV:Hid (bF c x (co0 7)):=Zc ⟨3,⟨HO.out,hh⟩,rfl⟩;clear hy hyn hh;obtain⟨j,hj⟩:∃j,j=pl Xd.n c.xs x.n:=⟨_,rfl⟩;rw[<-hj] at HY;clear hj;have hj0:¬(j:Int)<0:=af
  obtain⟨Gk,Gx,Gr,HW⟩:=jJ;obtain⟨k0,k1,k2,k3,k4,k5⟩:=sl6 Gk;obtain⟨x0,x1,x2,x3,x4⟩:=sl5 Gx;have hne0:=Wd.ne w2;have HC0:=aa (λq:Wd w2=>eJ ⟨a1,l1,y1,a2,l2,y2,a3,l3,y3,a4,l4,y4,a5,l5,y5⟩ c.now c.xs x.n q.w (HR.x.below (HW.trans (q.b.mono HW.size))) HRI.out HY.out HYN.out);have HC1:=aa (λq:Wd w2=>eY l4 8 q.w);have z53z:=@aa _ @aeY;exact aC
 have HMS:Hid (∀(j:Nat) y,c.xs[j]?=Y3 y->¬y.n=x.n):=λj y h1 h2=>by rw[(a_ HRI.out h1 h2).2] at hh;cases hh
 by_cases hfull:8<=l4
 ·have HV:Hid (bF c x (co0 9)):=Zc ⟨4,⟨HO.out,hh,by omega⟩,rfl⟩;clear hh;obtain⟨Gk,Gx,Gr,HW⟩:=jJ;obtain⟨k0,k1,k2,k3,k4,k5⟩:=sl6 Gk;obtain⟨x0,x1,x2,x3,x4⟩:=sl5 Gx;obtain⟨hne0,HC0⟩:=Nk;have HC1:=aa (λq:Wd w2=>fJ l4 8 hfull q.w);have z53z:=@aa _ @aeX;exact aC
 have HNO:=aa hh;have hfull2:l4<8:=af
 clear hh hfull;obtain⟨Gk,Gx,Gr,HW⟩:=jJ;obtain⟨k0,k1,k2,k3,k4,k5⟩:=sl6 Gk;obtain⟨x0,x1,x2,x3,x4⟩:=sl5 Gx;obtain⟨hne0,HC0⟩:=Nk;have HC1:=aa (λq:Wd w2=>iW l4 8 hfull2 q.w);go_wp2_with fail;refine bV ba ba ?_;have z1653z:=@aa _ @Dv;exact rq):p:=h
theorem TO(h:p:=by
 by_cases hlt:k<vl
 ·have hk1:(k:Int)<vl:=af
  obtain⟨b,o,t,rfl,hb,hx,hc,hsz⟩:=(HX.below HB.out).at hlt;have HXT:=aa hx;clear hx hsz;rcases hcd with ⟨rfl,HQ⟩|⟨rfl,HQ⟩
  ·cases hh:hit Xd.n c.xs t;rotate_left
   ·obtain⟨y,hy,hyn⟩:=cv hh;have HY:=aa hy;have HYN:=aa hyn;have HHT:=aa hh;clear hy hyn hh;obtain⟨j,hj⟩:∃j,j=pl Xd.n c.xs t:=⟨_,rfl⟩;rw[<-hj] at HY;clear hj;have hj0:¬(j:Int)<0:=af
    have hj1:decide ((j:Int)<0)=Y8:=aF
    have z1138z:=@aa _ @Lc;exact ef
   have HMS2:Hid (∀(j:Nat) y,c.xs[j]?=Y3 y->¬y.n=t):=λj y h1 h2=>by rw[(a_ HT.2.1.2.2.2.1.2.2 h1 h2).2] at hh;cases hh
   have HHT:Hid (¬(∀(j:Nat) t,zs[j]?=Y3 t->hit Xd.n c.xs t=Y_)):=λh=>(by have h1:=h k t HXT.out;rw[hh] at h1;cases h1);clear hh;have z1138z:=@aa _ @Le;exact ef
  have z1138z:=@aa _ @Lf;exact ef
 have hk1:¬(k:Int)<vl:=af
 rcases hcd with ⟨rfl,HQ⟩|⟨rfl,HQ⟩;rotate_left
 ·have HV:Hid (bR c (⟨xn,xc,xz,zs,xd,0⟩:Pd) (co0 6)):=Zc ⟨2,⟨HO.out,HNO.out,by omega,HQ.out⟩,rfl⟩;have z1138z:=@aa _ @Lb;exact ef
 have HV:Hid (bR c (⟨xn,xc,xz,zs,xd,0⟩:Pd) ⟨BC c (⟨xn,xc,xz,zs,xd,0⟩:Pd),⟨#[]⟩,0⟩):=Zb ⟨HO.out,HNO.out,by omega,λj t ht=>HQ.out j t (by have h9:j<zs.length:=(Yc.1 ht).1;omega) ht,rfl⟩;clear HQ HNO;have HQ1:Hid (w.heap.size+1+1<wr.heap.size):=ae Br.out;have z1138z:=@aa _ @Lg;exact ef):p:=h
theorem TN(h:p:=by
 by_cases hlt:k<vl
 ·exact ag8
 have hk1:¬(k:Int)<vl:=af
 have z1138z:=@aa _ @La;exact ef):p:=h
theorem TM(h:p:=by
 by_cases hlt:k<vl
 ·exact ag8
 have hk1:¬(k:Int)<vl:=af
 have z1138z:=@aa _ @K_;exact ef):p:=h
theorem TL(h:p:=by
 rcases hf with ⟨i,y,hy,hyn,rfl⟩|⟨hno,rfl⟩;rotate_left
 ·have HV:Hid (aW c (⟨xn,xc,xz,xk,xs,⟨#[]⟩,Y8,[]⟩:Vd) (co0 6)):=Zc ⟨2,⟨HO.out,HNO.out,by omega,λh=>by rw[fW hno] at h;cases h⟩,rfl⟩;clear hno;have z1193z:=@aa _ @Kl;exact ee
 have HV:Hid (aW c (⟨xn,xc,xz,xk,xs,⟨#[]⟩,Y8,[]⟩:Vd) ⟨afQ c (⟨xn,xc,xz,xk,xs,⟨#[]⟩,Y8,[]⟩:Vd),⟨#[]⟩,0⟩):=Zb ⟨HO.out,HNO.out,by omega,(a_ HT.2.1.2.1.2.2 hy hyn).2,rfl⟩;have hi0:¬(i:Int)<0:=af
 clear hy hyn HNO;have HQ1:Hid (w.heap.size+1+1<w3.heap.size):=ae Br.out;have z1193z:=@aa _ @Km;exact ee):p:=h
theorem TK(h:p:=by
 have z1713z:=@aa _ @CD;exact fx):p:=h
theorem TJ(h:p:=by
 obtain⟨r0,r1,r2,r3,r4,r5,r6,r7⟩:=cs8 Br;have ltr_4:=ae Br.out;have z1219z:=@aa _ @JY;exact jF):p:=h
theorem TI(h:p:=by
 obtain⟨r0,r1,r2,r3,r4,r5,r6,r7⟩:=cs8 Br;have ltr_4:=ae Br.out;have z1219z:=@aa _ @JX;exact jF):p:=h
theorem TH(h:p:=by
 have z1347z:=@aa _ @Ip;exact sw):p:=h
theorem TG(h:p:=by
 have z1347z:=@aa _ @Io;exact sw):p:=h
theorem TF(h:p:=by
 have HI:=aa hi;clear hi;cases r
 ·have HV:Hid (aW c (⟨xn,xc,xz,xk,xs,⟨#[]⟩,Y8,[]⟩:Vd) (co0 1)):=Zc ⟨1,λh=>(by have:=HI.2 h.2.1;cases this),rfl⟩;have z1600z:=@aa _ @D7;exact rH
 have HO:Hid (fo c (⟨xn,xc,xz,xk,xs,⟨#[]⟩,Y8,[]⟩:Vd)):=⟨HT.out,HI.1 bX,rfl,rfl,rfl⟩;clear HI;have z1600z:=@aa _ @D8;exact rH):p:=h
theorem TE(h:p:=by
 obtain⟨r0,r1,r2,r3,r4,r5,r6,r7⟩:=cs8 Br;have ltr_3:=ae Br.out;obtain⟨fr0,fr1,fr2,fr3,fr4,fr5,fr6,fr7⟩:=jR Br.out;have hrl:w.heap.size+1+1<w3.heap.size:=ae Br.out;exact agJ):p:=h
theorem TD(h:p:=by
 obtain⟨r0,r1,r2,r3,r4,r5,r6,r7⟩:=cs8 Br;have ltr_2:=ae Br.out;obtain⟨fr0,fr1,fr2,fr3,fr4,fr5,fr6,fr7⟩:=jR Br.out;have hrl:w.heap.size+1+1<w2.heap.size:=ae Br.out;exact agJ):p:=h
theorem cJ(h:p:=by
 have z1459z:=@aa _ @FT;exact jy):p:=h
theorem Tg(h:p:=by
 obtain⟨x0,x1,x2,x3,x4,x5⟩:=cs6 Bx;have ltx_2:=ae Bx.out;go_wp2_with fail;refine (aK 1 _).mono ?_;rintro e w3 ⟨rfl,hb⟩;clear k0 k1 k2 k3 k4 k5 ltk_2 x0 x1 x2 x3 x4 x5 ltx_2;replace Bk:=upK Bk hb;replace Bx:=upK Bx hb;have z138z:=@aa _ @aeC;exact cL):p:=h
theorem Tf(h:p:=by
 obtain⟨x0,x1,x2,x3,x4⟩:=cs5 Bx;have ltx_2:=ae Bx.out;go_wp2_with fail;refine (aK 1 _).mono ?_;rintro e w3 ⟨rfl,hb⟩;clear k0 k1 k2 k3 k4 k5 ltk_2 x0 x1 x2 x3 x4 ltx_2;replace Bk:=upK Bk hb;replace Bx:=upK Bx hb;have z138z:=@aa _ @aeB;exact cL):p:=h
theorem Sv(h:p:=by
 have hcap:¬n5=k:=af
 rcases g5 with _|⟨b2,f2,sp⟩
 ·exact z8
 all_goals (
  go_wp2_with (first|(at_builtin;refine aq rfl _ _ 27 rfl w9.heap.size 40 i5 (Za #[I ⟨#[]⟩,Y4 Y5 0,I ⟨#[]⟩,J U 0 0,I ⟨#[]⟩,Y4 Y5 0]) 6 88 Tryz.underlying27 HI0.1 HI0.2.1 HI0.2.2.1 HI0.2.2.2 rfl ag _ _ _ rfl (HOW.out) _ k _ (vss.take k).flatten rfl (bm HVA.out af) (λj u hu=>by obtain⟨g,e,hgl,h3⟩:=HCQ.out _ _ (cI hu);cases e <;> exact⟨_,rfl,by simp only[Yo,Yq];exact (ai (ak (w9.setCell ⟨w.heap.size+1,3,U⟩ (J sa vl sc)) _) hgl).trans h3⟩) (aD HV1.out k).1 bo af oi ?_))
  intro v5 w5 hown5 hgr5
  replace hown5:w5.ownsRow w9.heap.size 40 6 v5 k (vss.take k).flatten:=dQ
  have hb5:Below (w9.setCell ⟨w.heap.size+1,3,U⟩ (J sa vl sc)).heap.size (w9.setCell ⟨w.heap.size+1,3,U⟩ (J sa vl sc)) w5:=(ak (w9.setCell ⟨w.heap.size+1,3,U⟩ (J sa vl sc)) (Y6 #[] 40)).grown hgr5 aF (λg hg=>by simp only[YJ,Option.some.injEq] at hg;omega);obtain⟨s1,s2,s3,rfl⟩:=aA hown5;have HO5:=aa hown5;have H5:=aa hb5;have hs6:=hb5.size;have Bx5:=upK BxU hb5;clear x0 x1 x2 x3 x4 x5;obtain⟨x0,x1,x2,x3,x4,x5⟩:=cs6 Bx5;have hxl:=ae Bx5.out;clear hown5 hgr5 hb5 HOW o0 o1 o2 o3 o4 o5
  go_wp2_with (first|(at_builtin;refine aq rfl _ _ 27 rfl w9.heap.size 40 i5 (Za #[I ⟨#[]⟩,Y4 Y5 0,I ⟨#[]⟩,J U 0 0,I ⟨#[]⟩,Y4 Y5 0]) 6 88 Tryz.underlying27 HI0.1 HI0.2.1 HI0.2.2.1 HI0.2.2.2 rfl ag _ _ _ rfl (HO5.alloc _) _ 1 _ [I xn,Y4 Y5 xc,I xz,J sa vl sc,I xd,Y4 Y5 0] rfl rfl (λj u hu=>⟨_,rfl,by rw[Yo,Yq,an (heap_alloc_new w5 _)];simpa using hu⟩) dC bo af bJ ?_))
  intro v6 w6 hown6 hgr6;have hb6:Below (w9.setCell ⟨w.heap.size+1,3,U⟩ (J sa vl sc)).heap.size (w9.setCell ⟨w.heap.size+1,3,U⟩ (J sa vl sc)) w6:=(H5.alloc H5.size _).grown hgr6 oi (λg hg=>by have:=(HO5.lt g hg).1;omega);obtain⟨r1,r2,r3,rfl⟩:=aA hown6;have HO6:=aa hown6;have H6:=aa hb6;have hs7:=hb6.size;have Bo6:=upK BoU hb6;obtain⟨o0,o1,o2,o3,o4,o5⟩:=cs6 Bo6;have hol:=ae Bo6.out;clear hown6 hgr6 hb6 x0 x1 x2 x3 x4 x5 hxl
  go_wp2_with (first|(at_builtin;refine aq rfl _ _ 27 rfl w9.heap.size 40 i5 (Za #[I ⟨#[]⟩,Y4 Y5 0,I ⟨#[]⟩,J U 0 0,I ⟨#[]⟩,Y4 Y5 0]) 6 88 Tryz.underlying27 HI0.1 HI0.2.1 HI0.2.2.1 HI0.2.2.2 rfl ag _ _ _ rfl (HO6.out) _ (l5 - k) _ (vss.drop k).flatten rfl jH (λj u hu=>by first|(rw[Yx af] at hu;simp at hu;done)|(obtain⟨g,e,hgl,h3⟩:=HCQ.out _ _ (cW HVA.out af hu);cases e <;> exact⟨_,rfl,by simp only[Yo,Yq];exact (ai H6.out hgl).trans h3⟩)) (aD HV1.out k).2 bo af af ?_))
  intro v7 w7 hown7 hgr7;have hb7:Below (w9.setCell ⟨w.heap.size+1,3,U⟩ (J sa vl sc)).heap.size (w9.setCell ⟨w.heap.size+1,3,U⟩ (J sa vl sc)) w7:=H6.grown hgr7 af (λg hg=>by have:=(HO6.lt g hg).1;omega)
  replace hown7:w7.ownsRow w9.heap.size 40 6 v7 (l5+1) (aM k [I xn,Y4 Y5 xc,I xz,J sa vl sc,I xd,Y4 Y5 0] vss).flatten:=by
   have e9:k+1+(l5 - k)=l5+1:=af
   try rw[e9] at hown7
   simpa[aM] using hown7
  have HU7:=aa hb7;have HB7:=upB HU0 hb7;obtain⟨t1,t3,rfl,hR⟩:=HFIN.out w7 v7 k HPL.out hb7 hown7;have HR7:=aa hR;have hs8:=hb7.size;have Bo7:=upK BoU hb7;have Br7:=upK BrU hb7;clear o0 o1 o2 o3 o4 o5;obtain⟨o0,o1,o2,o3,o4,o5⟩:=cs6 Bo7;obtain⟨r0,r1,r2,r3,r4,r5,r6,r7⟩:=cs8 Br7;have fo0:=al Bo7.out 0;have fo1:=al Bo7.out 1;have fo2:=al Bo7.out 2;have fo3:=al Bo7.out 3;have fo4:=al Bo7.out 4;have fo5:=al Bo7.out 5;obtain⟨fr0,fr1,fr2,fr3,fr4,fr5,fr6,fr7⟩:=jR Br7.out
  have hne1:¬w.heap.size+1+1=w4.heap.size:=af
  have hne2:¬w4.heap.size=w.heap.size+1+1:=af
  have hol7:=ae Bo7.out;have hrl7:=ae Br7.out;clear hown7 hgr7 hb7 hR hik hkn hcap
  go_wp2
  refine bodyPost_ret (v:=Za #[J g1 m1 n1,J g2 m2 n2,J g3 m3 n3,J g4 m4 n4,J t1 (l5+1) t3,Y4 Y5 c.now,I ⟨#[]⟩,Y4 Y5 0]) mV rfl ⟨⟨g1,m1,n1,g2,m2,n2,g3,m3,n3,g4,m4,n4,t1,l5+1,t3⟩,⟨BC c (⟨xn,xc,xz,zs,xd,0⟩:Pd),⟨#[]⟩,0⟩,rfl,HV.out,?_,ep (show w.heap.size<=w.heap.size+1+1 by omega) (ah (show w.heap.size<=w4.heap.size by omega) (HB7.out))⟩
  have hkeep:∀k9,wr3<=k9->¬k9=w4.heap.size->(((((((((w7.setCell ⟨w4.heap.size,4,U⟩ (J t1 (l5+1) t3)).setCell ⟨w.heap.size+1+1,0,U⟩ (J g1 m1 n1)).setCell ⟨w.heap.size+1+1,1,U⟩ (J g2 m2 n2)).setCell ⟨w.heap.size+1+1,2,U⟩ (J g3 m3 n3)).setCell ⟨w.heap.size+1+1,3,U⟩ (J g4 m4 n4)).setCell ⟨w.heap.size+1+1,4,U⟩ (J t1 (l5+1) t3)).setCell ⟨w.heap.size+1+1,5,U⟩ (Y4 Y5 c.now)).setCell ⟨w.heap.size+1+1,6,U⟩ (I ⟨#[]⟩)).setCell ⟨w.heap.size+1+1,7,U⟩ (Y4 Y5 0)).heap[k9]?=w7.heap[k9]?:=λk9 h1 h2=>by rw[Ya _ _ _ _ (show k9≠w.heap.size+1+1 by omega),Ya _ _ _ _ (show k9≠w.heap.size+1+1 by omega),Ya _ _ _ _ (show k9≠w.heap.size+1+1 by omega),Ya _ _ _ _ (show k9≠w.heap.size+1+1 by omega),Ya _ _ _ _ (show k9≠w.heap.size+1+1 by omega),Ya _ _ _ _ (show k9≠w.heap.size+1+1 by omega),Ya _ _ _ _ (show k9≠w.heap.size+1+1 by omega),Ya _ _ _ _ (show k9≠w.heap.size+1+1 by omega),Ya _ _ _ _ (show k9≠w4.heap.size by omega)]
  have hlo:=HLO.out
  refine⟨(HFU.n.az (S':=λk=>w.heap.size<=k) (λk hk s=>(hkeep k s.1 gq).trans (HU7.block k hk)) (λ_ _ s=>loq)),(HFU.k.az (S':=λk=>w.heap.size<=k) (λk hk s=>(hkeep k s.1 gq).trans (HU7.block k hk)) (λ_ _ s=>loq)),(HFU.v.az (S':=λk=>w.heap.size<=k) (λk hk s=>(hkeep k s.1 gq).trans (HU7.block k hk)) (λ_ _ s=>loq)),(HFU.x.az (S':=λk=>w.heap.size<=k) (λk hk s=>(hkeep k s.1 gq).trans (HU7.block k hk)) (λ_ _ s=>loq)),(HR7.az (S':=λk=>w.heap.size<=k) (λk hk s=>hkeep k oj oj) (λ_ _ s=>loq))⟩)):p:=h
theorem Su(h:p:=by
 rcases g5 with _|⟨b2,f2,sp⟩
 ·have hl0:l5=0:=Classical.byContradiction λhne0=>by
   exact z8
  obtain rfl:k=0:=af
  subst hl0;by_cases hcap:n5=0;all_goals (
   go_wp2_with (first|(at_builtin;refine aq rfl _ _ 27 rfl w9.heap.size 40 i5 (Za #[I ⟨#[]⟩,Y4 Y5 0,I ⟨#[]⟩,J U 0 0,I ⟨#[]⟩,Y4 Y5 0]) 6 88 Tryz.underlying27 HI0.1 HI0.2.1 HI0.2.2.1 HI0.2.2.2 rfl ag _ _ _ rfl (HOW.out) _ 0 _ (vss.take 0).flatten rfl (bm HVA.out af) (λj u hu=>by obtain⟨g,e,hgl,h3⟩:=HCQ.out _ _ (cI hu);cases e <;> exact⟨_,rfl,by simp only[Yo,Yq];exact (ai (ak (w9.setCell ⟨w.heap.size+1,3,U⟩ (J sa vl sc)) _) hgl).trans h3⟩) (aD HV1.out 0).1 bo af oi ?_))
   intro v5 w5 hown5 hgr5
   replace hown5:w5.ownsRow w9.heap.size 40 6 v5 0 (vss.take 0).flatten:=dQ
   have hb5:Below (w9.setCell ⟨w.heap.size+1,3,U⟩ (J sa vl sc)).heap.size (w9.setCell ⟨w.heap.size+1,3,U⟩ (J sa vl sc)) w5:=(ak (w9.setCell ⟨w.heap.size+1,3,U⟩ (J sa vl sc)) (Y6 #[] 40)).grown hgr5 aF (λg hg=>by simp only[YJ,Option.some.injEq] at hg;omega);obtain⟨s1,s2,s3,rfl⟩:=aA hown5;have HO5:=aa hown5;have H5:=aa hb5;have hs6:=hb5.size;have Bx5:=upK BxU hb5;clear x0 x1 x2 x3 x4 x5;obtain⟨x0,x1,x2,x3,x4,x5⟩:=cs6 Bx5;have hxl:=ae Bx5.out;clear hown5 hgr5 hb5 HOW o0 o1 o2 o3 o4 o5
   go_wp2_with (first|(at_builtin;refine aq rfl _ _ 27 rfl w9.heap.size 40 i5 (Za #[I ⟨#[]⟩,Y4 Y5 0,I ⟨#[]⟩,J U 0 0,I ⟨#[]⟩,Y4 Y5 0]) 6 88 Tryz.underlying27 HI0.1 HI0.2.1 HI0.2.2.1 HI0.2.2.2 rfl ag _ _ _ rfl (HO5.alloc _) _ 1 _ [I xn,Y4 Y5 xc,I xz,J sa vl sc,I xd,Y4 Y5 0] rfl rfl (λj u hu=>⟨_,rfl,by rw[Yo,Yq,an (heap_alloc_new w5 _)];simpa using hu⟩) dC bo af bJ ?_))
   intro v6 w6 hown6 hgr6;have hb6:Below (w9.setCell ⟨w.heap.size+1,3,U⟩ (J sa vl sc)).heap.size (w9.setCell ⟨w.heap.size+1,3,U⟩ (J sa vl sc)) w6:=(H5.alloc H5.size _).grown hgr6 oi (λg hg=>by have:=(HO5.lt g hg).1;omega);obtain⟨r1,r2,r3,rfl⟩:=aA hown6;have HO6:=aa hown6;have H6:=aa hb6;have hs7:=hb6.size;have Bo6:=upK BoU hb6;obtain⟨o0,o1,o2,o3,o4,o5⟩:=cs6 Bo6;have hol:=ae Bo6.out;clear hown6 hgr6 hb6 x0 x1 x2 x3 x4 x5 hxl
   go_wp2_with (first|(at_builtin;refine aq rfl _ _ 27 rfl w9.heap.size 40 i5 (Za #[I ⟨#[]⟩,Y4 Y5 0,I ⟨#[]⟩,J U 0 0,I ⟨#[]⟩,Y4 Y5 0]) 6 88 Tryz.underlying27 HI0.1 HI0.2.1 HI0.2.2.1 HI0.2.2.2 rfl ag _ _ _ rfl (HO6.out) _ (0 - 0) _ (vss.drop 0).flatten rfl jH (λj u hu=>by first|(rw[Yx af] at hu;simp at hu;done)|(obtain⟨g,e,hgl,h3⟩:=HCQ.out _ _ (cW HVA.out af hu);cases e <;> exact⟨_,rfl,by simp only[Yo,Yq];exact (ai H6.out hgl).trans h3⟩)) (aD HV1.out 0).2 bo af af ?_))
   intro v7 w7 hown7 hgr7;have hb7:Below (w9.setCell ⟨w.heap.size+1,3,U⟩ (J sa vl sc)).heap.size (w9.setCell ⟨w.heap.size+1,3,U⟩ (J sa vl sc)) w7:=H6.grown hgr7 af (λg hg=>by have:=(HO6.lt g hg).1;omega)
   replace hown7:w7.ownsRow w9.heap.size 40 6 v7 (1) (aM 0 [I xn,Y4 Y5 xc,I xz,J sa vl sc,I xd,Y4 Y5 0] vss).flatten:=by
    have e9:0+1+(0 - 0)=1:=af
    try rw[e9] at hown7
    simpa[aM] using hown7
   have HU7:=aa hb7;have HB7:=upB HU0 hb7;obtain⟨t1,t3,rfl,hR⟩:=HFIN.out w7 v7 0 HPL.out hb7 hown7;have HR7:=aa hR;have hs8:=hb7.size;have Bo7:=upK BoU hb7;have Br7:=upK BrU hb7;clear o0 o1 o2 o3 o4 o5;obtain⟨o0,o1,o2,o3,o4,o5⟩:=cs6 Bo7;obtain⟨r0,r1,r2,r3,r4,r5,r6,r7⟩:=cs8 Br7;have fo0:=al Bo7.out 0;have fo1:=al Bo7.out 1;have fo2:=al Bo7.out 2;have fo3:=al Bo7.out 3;have fo4:=al Bo7.out 4;have fo5:=al Bo7.out 5;obtain⟨fr0,fr1,fr2,fr3,fr4,fr5,fr6,fr7⟩:=jR Br7.out
   have hne1:¬w.heap.size+1+1=w4.heap.size:=af
   have hne2:¬w4.heap.size=w.heap.size+1+1:=af
   have hol7:=ae Bo7.out;have hrl7:=ae Br7.out;clear hown7 hgr7 hb7 hR hik hkn hcap
   go_wp2
   refine bodyPost_ret (v:=Za #[J g1 m1 n1,J g2 m2 n2,J g3 m3 n3,J g4 m4 n4,J t1 (1) t3,Y4 Y5 c.now,I ⟨#[]⟩,Y4 Y5 0]) mV rfl ⟨⟨g1,m1,n1,g2,m2,n2,g3,m3,n3,g4,m4,n4,t1,1,t3⟩,⟨BC c (⟨xn,xc,xz,zs,xd,0⟩:Pd),⟨#[]⟩,0⟩,rfl,HV.out,?_,ep (show w.heap.size<=w.heap.size+1+1 by omega) (ah (show w.heap.size<=w4.heap.size by omega) (HB7.out))⟩
   have hkeep:∀k9,wr3<=k9->¬k9=w4.heap.size->(((((((((w7.setCell ⟨w4.heap.size,4,U⟩ (J t1 (1) t3)).setCell ⟨w.heap.size+1+1,0,U⟩ (J g1 m1 n1)).setCell ⟨w.heap.size+1+1,1,U⟩ (J g2 m2 n2)).setCell ⟨w.heap.size+1+1,2,U⟩ (J g3 m3 n3)).setCell ⟨w.heap.size+1+1,3,U⟩ (J g4 m4 n4)).setCell ⟨w.heap.size+1+1,4,U⟩ (J t1 (1) t3)).setCell ⟨w.heap.size+1+1,5,U⟩ (Y4 Y5 c.now)).setCell ⟨w.heap.size+1+1,6,U⟩ (I ⟨#[]⟩)).setCell ⟨w.heap.size+1+1,7,U⟩ (Y4 Y5 0)).heap[k9]?=w7.heap[k9]?:=λk9 h1 h2=>by rw[Ya _ _ _ _ (show k9≠w.heap.size+1+1 by omega),Ya _ _ _ _ (show k9≠w.heap.size+1+1 by omega),Ya _ _ _ _ (show k9≠w.heap.size+1+1 by omega),Ya _ _ _ _ (show k9≠w.heap.size+1+1 by omega),Ya _ _ _ _ (show k9≠w.heap.size+1+1 by omega),Ya _ _ _ _ (show k9≠w.heap.size+1+1 by omega),Ya _ _ _ _ (show k9≠w.heap.size+1+1 by omega),Ya _ _ _ _ (show k9≠w.heap.size+1+1 by omega),Ya _ _ _ _ (show k9≠w4.heap.size by omega)]
   have hlo:=HLO.out
   refine⟨(HFU.n.az (S':=λk=>w.heap.size<=k) (λk hk s=>(hkeep k s.1 gq).trans (HU7.block k hk)) (λ_ _ s=>loq)),(HFU.k.az (S':=λk=>w.heap.size<=k) (λk hk s=>(hkeep k s.1 gq).trans (HU7.block k hk)) (λ_ _ s=>loq)),(HFU.v.az (S':=λk=>w.heap.size<=k) (λk hk s=>(hkeep k s.1 gq).trans (HU7.block k hk)) (λ_ _ s=>loq)),(HFU.x.az (S':=λk=>w.heap.size<=k) (λk hk s=>(hkeep k s.1 gq).trans (HU7.block k hk)) (λ_ _ s=>loq)),(HR7.az (S':=λk=>w.heap.size<=k) (λk hk s=>hkeep k oj oj) (λ_ _ s=>loq))⟩)
 by_cases hcap:n5=k;all_goals (
  go_wp2_with (first|(at_builtin;refine aq rfl _ _ 27 rfl w9.heap.size 40 i5 (Za #[I ⟨#[]⟩,Y4 Y5 0,I ⟨#[]⟩,J U 0 0,I ⟨#[]⟩,Y4 Y5 0]) 6 88 Tryz.underlying27 HI0.1 HI0.2.1 HI0.2.2.1 HI0.2.2.2 rfl ag _ _ _ rfl (HOW.out) _ k _ (vss.take k).flatten rfl (bm HVA.out af) (λj u hu=>by obtain⟨g,e,hgl,h3⟩:=HCQ.out _ _ (cI hu);cases e <;> exact⟨_,rfl,by simp only[Yo,Yq];exact (ai (ak (w9.setCell ⟨w.heap.size+1,3,U⟩ (J sa vl sc)) _) hgl).trans h3⟩) (aD HV1.out k).1 bo af oi ?_))
  intro v5 w5 hown5 hgr5
  replace hown5:w5.ownsRow w9.heap.size 40 6 v5 k (vss.take k).flatten:=dQ
  have hb5:Below (w9.setCell ⟨w.heap.size+1,3,U⟩ (J sa vl sc)).heap.size (w9.setCell ⟨w.heap.size+1,3,U⟩ (J sa vl sc)) w5:=(ak (w9.setCell ⟨w.heap.size+1,3,U⟩ (J sa vl sc)) (Y6 #[] 40)).grown hgr5 aF (λg hg=>by simp only[YJ,Option.some.injEq] at hg;omega);obtain⟨s1,s2,s3,rfl⟩:=aA hown5;have HO5:=aa hown5;have H5:=aa hb5;have hs6:=hb5.size;have Bx5:=upK BxU hb5;clear x0 x1 x2 x3 x4 x5;obtain⟨x0,x1,x2,x3,x4,x5⟩:=cs6 Bx5;have hxl:=ae Bx5.out;clear hown5 hgr5 hb5 HOW o0 o1 o2 o3 o4 o5
  go_wp2_with (first|(at_builtin;refine aq rfl _ _ 27 rfl w9.heap.size 40 i5 (Za #[I ⟨#[]⟩,Y4 Y5 0,I ⟨#[]⟩,J U 0 0,I ⟨#[]⟩,Y4 Y5 0]) 6 88 Tryz.underlying27 HI0.1 HI0.2.1 HI0.2.2.1 HI0.2.2.2 rfl ag _ _ _ rfl (HO5.alloc _) _ 1 _ [I xn,Y4 Y5 xc,I xz,J sa vl sc,I xd,Y4 Y5 0] rfl rfl (λj u hu=>⟨_,rfl,by rw[Yo,Yq,an (heap_alloc_new w5 _)];simpa using hu⟩) dC bo af bJ ?_))
  intro v6 w6 hown6 hgr6;have hb6:Below (w9.setCell ⟨w.heap.size+1,3,U⟩ (J sa vl sc)).heap.size (w9.setCell ⟨w.heap.size+1,3,U⟩ (J sa vl sc)) w6:=(H5.alloc H5.size _).grown hgr6 oi (λg hg=>by have:=(HO5.lt g hg).1;omega);obtain⟨r1,r2,r3,rfl⟩:=aA hown6;have HO6:=aa hown6;have H6:=aa hb6;have hs7:=hb6.size;have Bo6:=upK BoU hb6;obtain⟨o0,o1,o2,o3,o4,o5⟩:=cs6 Bo6;have hol:=ae Bo6.out;clear hown6 hgr6 hb6 x0 x1 x2 x3 x4 x5 hxl
  go_wp2_with (first|(at_builtin;refine aq rfl _ _ 27 rfl w9.heap.size 40 i5 (Za #[I ⟨#[]⟩,Y4 Y5 0,I ⟨#[]⟩,J U 0 0,I ⟨#[]⟩,Y4 Y5 0]) 6 88 Tryz.underlying27 HI0.1 HI0.2.1 HI0.2.2.1 HI0.2.2.2 rfl ag _ _ _ rfl (HO6.out) _ (l5 - k) _ (vss.drop k).flatten rfl jH (λj u hu=>by first|(rw[Yx af] at hu;simp at hu;done)|(obtain⟨g,e,hgl,h3⟩:=HCQ.out _ _ (cW HVA.out af hu);cases e <;> exact⟨_,rfl,by simp only[Yo,Yq];exact (ai H6.out hgl).trans h3⟩)) (aD HV1.out k).2 bo af af ?_))
  intro v7 w7 hown7 hgr7;have hb7:Below (w9.setCell ⟨w.heap.size+1,3,U⟩ (J sa vl sc)).heap.size (w9.setCell ⟨w.heap.size+1,3,U⟩ (J sa vl sc)) w7:=H6.grown hgr7 af (λg hg=>by have:=(HO6.lt g hg).1;omega)
  replace hown7:w7.ownsRow w9.heap.size 40 6 v7 (l5+1) (aM k [I xn,Y4 Y5 xc,I xz,J sa vl sc,I xd,Y4 Y5 0] vss).flatten:=by
   have e9:k+1+(l5 - k)=l5+1:=af
   try rw[e9] at hown7
   simpa[aM] using hown7
  have HU7:=aa hb7;have HB7:=upB HU0 hb7;obtain⟨t1,t3,rfl,hR⟩:=HFIN.out w7 v7 k HPL.out hb7 hown7;have HR7:=aa hR;have hs8:=hb7.size;have Bo7:=upK BoU hb7;have Br7:=upK BrU hb7;clear o0 o1 o2 o3 o4 o5;obtain⟨o0,o1,o2,o3,o4,o5⟩:=cs6 Bo7;obtain⟨r0,r1,r2,r3,r4,r5,r6,r7⟩:=cs8 Br7;have fo0:=al Bo7.out 0;have fo1:=al Bo7.out 1;have fo2:=al Bo7.out 2;have fo3:=al Bo7.out 3;have fo4:=al Bo7.out 4;have fo5:=al Bo7.out 5;obtain⟨fr0,fr1,fr2,fr3,fr4,fr5,fr6,fr7⟩:=jR Br7.out
  have hne1:¬w.heap.size+1+1=w4.heap.size:=af
  have hne2:¬w4.heap.size=w.heap.size+1+1:=af
  have hol7:=ae Bo7.out;have hrl7:=ae Br7.out;clear hown7 hgr7 hb7 hR hik hkn hcap
  go_wp2
  refine bodyPost_ret (v:=Za #[J g1 m1 n1,J g2 m2 n2,J g3 m3 n3,J g4 m4 n4,J t1 (l5+1) t3,Y4 Y5 c.now,I ⟨#[]⟩,Y4 Y5 0]) mV rfl ⟨⟨g1,m1,n1,g2,m2,n2,g3,m3,n3,g4,m4,n4,t1,l5+1,t3⟩,⟨BC c (⟨xn,xc,xz,zs,xd,0⟩:Pd),⟨#[]⟩,0⟩,rfl,HV.out,?_,ep (show w.heap.size<=w.heap.size+1+1 by omega) (ah (show w.heap.size<=w4.heap.size by omega) (HB7.out))⟩
  have hkeep:∀k9,wr3<=k9->¬k9=w4.heap.size->(((((((((w7.setCell ⟨w4.heap.size,4,U⟩ (J t1 (l5+1) t3)).setCell ⟨w.heap.size+1+1,0,U⟩ (J g1 m1 n1)).setCell ⟨w.heap.size+1+1,1,U⟩ (J g2 m2 n2)).setCell ⟨w.heap.size+1+1,2,U⟩ (J g3 m3 n3)).setCell ⟨w.heap.size+1+1,3,U⟩ (J g4 m4 n4)).setCell ⟨w.heap.size+1+1,4,U⟩ (J t1 (l5+1) t3)).setCell ⟨w.heap.size+1+1,5,U⟩ (Y4 Y5 c.now)).setCell ⟨w.heap.size+1+1,6,U⟩ (I ⟨#[]⟩)).setCell ⟨w.heap.size+1+1,7,U⟩ (Y4 Y5 0)).heap[k9]?=w7.heap[k9]?:=λk9 h1 h2=>by rw[Ya _ _ _ _ (show k9≠w.heap.size+1+1 by omega),Ya _ _ _ _ (show k9≠w.heap.size+1+1 by omega),Ya _ _ _ _ (show k9≠w.heap.size+1+1 by omega),Ya _ _ _ _ (show k9≠w.heap.size+1+1 by omega),Ya _ _ _ _ (show k9≠w.heap.size+1+1 by omega),Ya _ _ _ _ (show k9≠w.heap.size+1+1 by omega),Ya _ _ _ _ (show k9≠w.heap.size+1+1 by omega),Ya _ _ _ _ (show k9≠w.heap.size+1+1 by omega),Ya _ _ _ _ (show k9≠w4.heap.size by omega)]
  have hlo:=HLO.out
  refine⟨(HFU.n.az (S':=λk=>w.heap.size<=k) (λk hk s=>(hkeep k s.1 gq).trans (HU7.block k hk)) (λ_ _ s=>loq)),(HFU.k.az (S':=λk=>w.heap.size<=k) (λk hk s=>(hkeep k s.1 gq).trans (HU7.block k hk)) (λ_ _ s=>loq)),(HFU.v.az (S':=λk=>w.heap.size<=k) (λk hk s=>(hkeep k s.1 gq).trans (HU7.block k hk)) (λ_ _ s=>loq)),(HFU.x.az (S':=λk=>w.heap.size<=k) (λk hk s=>(hkeep k s.1 gq).trans (HU7.block k hk)) (λ_ _ s=>loq)),(HR7.az (S':=λk=>w.heap.size<=k) (λk hk s=>hkeep k oj oj) (λ_ _ s=>loq))⟩)):p:=h
theorem xV(h:p:=by
 have HVA:=aa hV.all;have HV1:=aa hV.one;obtain⟨gh,hg⟩:=hTU.fr;obtain⟨HFIN,HOW⟩:=ak1;clear hV hcell hTU hg hkf hku HQF;obtain⟨o0,o1,o2,o3,o4,o5⟩:=cs6 Bo9;obtain⟨x0,x1,x2,x3,x4,x5⟩:=cs6 Bx9;have hne:¬w4.heap.size=w.heap.size+1:=af
 have hne':¬w.heap.size+1=w4.heap.size:=af
 have hik:(k:Int)<=n5:=af
 have hkn:k<=n5:=af
 obtain⟨UU,hUU⟩:∃UU,UU=(w9.setCell ⟨w.heap.size+1,3,U⟩ (J sa vl sc)):=⟨_,rfl⟩;exact z896z):p:=h
theorem R0(h:p:=by
 have ltr_6:=ae Br.out;obtain⟨o0,o1,o2,o3,o4,o5⟩:=cs6 Bo;have lto_6:=ae Bo.out;go_upto_if 73 with fail;go_cut [10] from 57 to 90 (λs wx=>s=Zd (Y3 ⟨w7.heap.size,0,U⟩)/\Hid (∃sa sl sc vs,lG c t vs/\wx.heap[w7.heap.size]?=Y3 (Y6 (clo6 d'.a1 d'.l1 d'.c1 d'.a2 d'.l2 d'.c2 sa sl sc d'.a4 d'.l4 d'.c4 d'.a5 d'.l5 d'.c5 c.now) 29 (0,0))/\wx.heap[w.heap.size+1]?=Y3 (Y6 #[J U 0 0,J U 0 0,J U 0 0,J U 0 0,J U 0 0,Y4 Y5 0,I ⟨#[]⟩,Y4 Y5 0] 33 (0,0))/\aw wx d'.a1 d'.l1 d'.c1 7 38 (c.ns.map ndF) (λk=>wr.heap.size<=k/\¬k=w7.heap.size)/\aw wx d'.a2 d'.l2 d'.c2 4 92 (c.ks.map kdF) (λk=>wr.heap.size<=k/\¬k=w7.heap.size)/\aw wx sa sl sc 8 95 (vs.map vdF) (λk=>wr.heap.size<=k/\¬k=w7.heap.size)/\aw wx d'.a4 d'.l4 d'.c4 5 97 (c.xs.map xdF) (λk=>wr.heap.size<=k/\¬k=w7.heap.size)/\aw wx d'.a5 d'.l5 d'.c5 6 40 (c.ps.map pdF) (λk=>wr.heap.size<=k/\¬k=w7.heap.size)/\Below w.heap.size w wx));case first=>
  go_wp2_with fail;go_meet;exact⟨rfl,_,_,_,c.vs,Zb ⟨HNO.out,rfl⟩,Bo.out,Br.out,HOQ.n,HOQ.k,HOQ.v,HOQ.x,HOQ.p,HB.out⟩
 case rest=>
  exact OH):p:=h
theorem RZ(h:p:=by
 have ltr_7:=ae Br.out;obtain⟨o0,o1,o2,o3,o4,o5⟩:=cs6 Bo;have lto_7:=ae Bo.out;go_upto_if 73 with fail;go_cut [10] from 57 to 90 (λs wx=>s=Zd (Y3 ⟨w7.heap.size,0,U⟩)/\Hid (∃sa sl sc vs,lG c t vs/\wx.heap[w7.heap.size]?=Y3 (Y6 (clo6 d'.a1 d'.l1 d'.c1 d'.a2 d'.l2 d'.c2 sa sl sc d'.a4 d'.l4 d'.c4 d'.a5 d'.l5 d'.c5 c.now) 29 (0,0))/\wx.heap[w.heap.size+1]?=Y3 (Y6 #[J U 0 0,J U 0 0,J U 0 0,J U 0 0,J U 0 0,Y4 Y5 0,I ⟨#[]⟩,Y4 Y5 0] 33 (0,0))/\aw wx d'.a1 d'.l1 d'.c1 7 38 (c.ns.map ndF) (λk=>wr.heap.size<=k/\¬k=w7.heap.size)/\aw wx d'.a2 d'.l2 d'.c2 4 92 (c.ks.map kdF) (λk=>wr.heap.size<=k/\¬k=w7.heap.size)/\aw wx sa sl sc 8 95 (vs.map vdF) (λk=>wr.heap.size<=k/\¬k=w7.heap.size)/\aw wx d'.a4 d'.l4 d'.c4 5 97 (c.xs.map xdF) (λk=>wr.heap.size<=k/\¬k=w7.heap.size)/\aw wx d'.a5 d'.l5 d'.c5 6 40 (c.ps.map pdF) (λk=>wr.heap.size<=k/\¬k=w7.heap.size)/\Below w.heap.size w wx));case first=>
  cases hky:kc.y
  ·have HKP:Hid (¬Kept c v):=λ⟨j9,k9,h1,h2,h3⟩=>by
    obtain⟨-,rfl⟩:=HT.2.1.2.1.2.2.inj h1 HKC.out (h2.trans HKN.symm);rw[hky] at h3;cases h3
   go_wp2_with fail;refine (qT d'.a3 d'.l3 d'.c3 c.vs v.n j v _ _ HOQ.v (by have h6:=HOQ.v.1;have h7:(c.vs.map vdF).length=d'.l3:=h6;rw[Yr] at h7;omega) HT.2.1.2.2.1.2.2 HJ.out rfl).mono ?_;rintro e w8 ⟨a8,l8,c8,rfl,hN8,hb8⟩;have hs8:=hb8.size;have HN8:=aa hN8;have HB8:=aa hb8;have Bo8:=upK Bo hb8;have Br8:=upK Br hb8;clear hN8 hb8;obtain⟨s0,s1,s2,s3,s4,s5⟩:=cs6 Bo8;have fs2:=al Bo8.out 2;have hol:=ae Bo8.out;go_wp2_with fail;go_meet;exact⟨rfl,a8,l8,c8,_,Zc ⟨j,v,HJ.out,HBD.out,Zb ⟨HKP.out,rfl⟩⟩,au Bo8.out _,(Ya _ _ _ _ (show w.heap.size+1≠w7.heap.size by omega)).trans Br8.out,((HOQ.n.below HB8.out).az (λk hk s=>Ya _ _ _ _ s.2) (λ_ _ s=>s)),((HOQ.k.below HB8.out).az (λk hk s=>Ya _ _ _ _ s.2) (λ_ _ s=>s)),HN8.az (λk hk s=>Ya _ _ _ _ (show k≠w7.heap.size by rcases s with s|s;exact s.2;omega)) (λk _ s=>by rcases s with s|s;exact s;exact⟨by omega,by omega⟩),((HOQ.x.below HB8.out).az (λk hk s=>Ya _ _ _ _ s.2) (λ_ _ s=>s)),((HOQ.p.below HB8.out).az (λk hk s=>Ya _ _ _ _ s.2) (λ_ _ s=>s)),ah af (HB.trans (HB8.mono HB.size))⟩
  ·have HKP:Hid (Kept c v):=⟨jk,kc,HKC.out,HKN.out,hky⟩;have hjr:(c.vs.map vdF)[j]?=Y3 (vdF v):=by rw[Yt,HJ.out];rfl
   obtain⟨gv,cur,hgv,hgS,hgl,hgb⟩:=aw.inn HOQ.v hjr;have hgv':d'.a3=Y3 ⟨gv,0,U⟩:=hgv;have hOV:=HOQ.v;rw[hgv'] at hOV;obtain⟨⟨u5,c5⟩,f5,⟨u6,c6⟩,f6⟩:=aw.afP hOV HJ.out;have HOV:=aa hOV;have HGB:=aa hgb;have hlv:(j:Int)<d'.l3:=by have h6:=HOQ.v.1;have h7:(c.vs.map vdF).length=d'.l3:=h6;rw[Yr] at h7;omega
   have hgS1:wr.heap.size<=gv:=hgS.1;have hgS2:¬gv=w7.heap.size:=hgS.2;have hgS3:¬w7.heap.size=gv:=λe=>hgS2 e.symm;clear hOV hgb hjr hgS hgv;rw[hgv'] at o2;go_wp2_with fail;go_meet;exact⟨rfl,Y3 ⟨gv,0,U⟩,d'.l3,d'.c3,_,Zc ⟨j,v,HJ.out,HBD.out,Zc ⟨HKP.out,rfl⟩⟩,(Ya _ _ _ _ hgS3).trans ((Ya _ _ _ _ hgS3).trans (by rw[<-hgv'];exact Bo.out)),(Ya _ _ _ _ (show w.heap.size+1≠gv by omega)).trans ((Ya _ _ _ _ (show w.heap.size+1≠gv by omega)).trans Br.out),aw.bP (aw.bP HOQ.n (Yh _ _) HGB.out ag ag) (Yh _ _) (au HGB.out _) ag ag,aw.bP (aw.bP HOQ.k (Yh _ _) HGB.out ag ag) (Yh _ _) (au HGB.out _) ag ag,aw.B0 HOV.out HJ.out,aw.bP (aw.bP HOQ.x (Yh _ _) HGB.out ag ag) (Yh _ _) (au HGB.out _) ag ag,aw.bP (aw.bP HOQ.p (Yh _ _) HGB.out ag ag) (Yh _ _) (au HGB.out _) ag ag,ah af (ah af HB.out)⟩
 case rest=>
  exact OH):p:=h
theorem xO(h:p:=by
 have Bk:=Ck;clear Ck;have Br:=Cr;clear Cr;have Bo:=Co;clear Co;have HQB:Hid (Below (w7.alloc (Y6 (clv d' c.now) 29)).heap.size (w7.alloc (Y6 (clv d' c.now) 29)) q1.w):=q1.b;have hq8:w7.heap.size<q1.w.heap.size:=ae Bo.out;have HOQ:Hid (cZ q1.w d' c.raw (λk=>wr.heap.size<=k/\¬k=w7.heap.size)):=by
  exact alb
 clear HO HQB;generalize q1.w=wq at*;obtain⟨r0,r1,r2,r3,r4,r5,r6,r7⟩:=cs8 Br;exact z930z):p:=h
theorem RI(h:p:=by
 obtain⟨x0,x1,x2,x3,x4,x5⟩:=cs6 Bx;have ltx_3:=ae Bx.out;go_wp2;clear k0 k1 k2 k3 k4 k5 ltk_3 x0 x1 x2 x3 x4 x5 ltx_3;exact z464z):p:=h
theorem RH(h:p:=by
 obtain⟨x0,x1,x2,x3,x4,x5,x6,x7⟩:=cs8 Bx;have ltx_3:=ae Bx.out;go_wp2_with fail;exact z468z):p:=h
theorem RG(h:p:=by
 obtain⟨x0,x1,x2,x3,x4⟩:=cs5 Bx;have ltx_3:=ae Bx.out;go_wp2_with fail;exact z472z):p:=h
theorem o8(h:p:=by
 have HB:=HB3;clear HB3;have Bk:=Ck;clear Ck;have Bx:=Cx;clear Cx;have Br:=Cr;clear Cr;have z1429z:=@aa _ @Gf;exact dH):p:=h
theorem MT(h:p:=by
 have hpl:k=pl Xd.n c.xs x.n:=(oG HE.out HXy.out hless).symm;have z680z:=@aa _ @Vq;exact yz):p:=h
theorem MS(h:p:=by
 have hpl:k=pl Xd.n c.xs x.n:=by rw[fU (nm:=Xd.n) (xs:=c.xs) (t:=x.n) (λj y hy=>HE.out j y jI hy)];omega
 have z680z:=@aa _ @Vp;exact yz):p:=h
theorem MR(h:p:=by
 have hpl:k=pl Pd.n c.ps xn:=(oG HE.out HXy.out hless).symm;have z1312z:=@aa _ @IQ;exact sD):p:=h
theorem MQ(h:p:=by
 have hpl:k=pl Pd.n c.ps xn:=by rw[fU (nm:=Pd.n) (xs:=c.ps) (t:=xn) (λj y hy=>HE.out j y jI hy)];omega
 have z1312z:=@aa _ @IP;exact sD):p:=h
theorem gM(h:p:=by
 have HB:=HB6;clear HB6;have Bk:=Ck;clear Ck;have Bx:=Cx;clear Cx;have Br:=Cr;clear Cr;have Bo:=Co;clear Co;exact z1006z):p:=h
theorem MG(h:p:=by
 have HP:=aa hxn;have HTP:=aa hvr;have hk3:(k:Int)<l5:=af
 clear hat hxn z0 z2 z4 hvr;cases r
 ·go_wp2_with fail;refine (bW va vl vc p.zs t _ HTP.out).mono ?_;rintro e w6 ⟨r2,rfl,hi,hb6⟩;have HI6:=aa hi;have HL6:=upB HL4 hb6;clear hi;replace Bk:=upK Bk hb6;replace Br:=upK Br hb6;replace HB:=upB HB hb6;clear hb6;clear k0 k1 k2 k3 k4 k5 ltk c0 c1 c2 c3 c4 c5 hb;go_wp2;refine⟨⟨k+1,r2,by omega,rfl,by go_num,show _↔_ from ?_,HL6.out⟩,by simp[intOf];omega⟩;constructor
  ·exact λh=>Zb ⟨k,p,by omega,HP.out,HI6.1 h⟩
  ·rintro (h|⟨i,m,h1,h2,h3⟩)
   ·exact absurd (HS.2 (Zc h)) ag
   ·by_cases e:i=k
    ·subst e;rw[HP.out] at h2;cases h2;exact HI6.2 h3
    ·exact absurd (HS.2 (Zb ⟨i,m,by omega,h2,h3⟩)) ag
 ·go_wp2;refine⟨⟨k+1,Y_,by omega,rfl,by go_num,show _↔_ from ⟨λ_=>(HS.1 bX).elim Zc (λ⟨i,m,h1,h2⟩=>Zb ⟨i,m,by omega,h2⟩),λ_=>rfl⟩,HL4.out⟩,by simp[intOf];omega⟩):p:=h
theorem Mi(h:p:=by
 go_wp2;exact bodyPost_ret (v:=Za #[J U 0 0,J U 0 0,J U 0 0,J U 0 0,J U 0 0,Y4 Y5 0,I ⟨#[]⟩,Y4 Y5 11]) zH rfl ⟨ad0,co0 11,rfl,HV.out,(rl0 _ _),sb1 (sb1 (sb1 (sb1 (sb1 (sb1 (sb1 (sb1 (HB.out))))))))⟩):p:=h
theorem Lu(h:p:=by
 have hne:¬w.heap.size+1=w7.heap.size:=af
 have hne2:¬w7.heap.size=w.heap.size+1:=af
 have hol5:=ae Bo5.out;have hrl5:=ae Br5.out;clear hown5 hgr5 hb5 hsel hrec hR ht2 hlen5 hik hik1 hxa hxl;go_wp2;have hlo:=HLO.out;refine bodyPost_ret (v:=Za #[J d'.a1 d'.l1 d'.c1,J d'.a2 d'.l2 d'.c2,J sa sl sc,J t1 t2 t3,J d'.a5 d'.l5 d'.c5,Y4 Y5 c.now,I ⟨#[]⟩,Y4 Y5 0]) zI rfl ⟨⟨d'.a1,d'.l1,d'.c1,d'.a2,d'.l2,d'.c2,sa,sl,sc,t1,t2,t3,d'.a5,d'.l5,d'.c5⟩,⟨Aj c t vs,⟨#[]⟩,0⟩,rfl,HV.out,?_,sb1 (sb1 (sb1 (sb1 (sb1 (sb1 (sb1 (sb1 (ah (show w.heap.size<=w7.heap.size by omega) (HB5.out)))))))))⟩;have hkeep:∀k,wr.heap.size<=k->¬k=w7.heap.size->(((((((((w11.setCell ⟨w7.heap.size,3,U⟩ (J t1 t2 t3)).setCell ⟨w.heap.size+1,0,U⟩ (J d'.a1 d'.l1 d'.c1)).setCell ⟨w.heap.size+1,1,U⟩ (J d'.a2 d'.l2 d'.c2)).setCell ⟨w.heap.size+1,2,U⟩ (J sa sl sc)).setCell ⟨w.heap.size+1,3,U⟩ (J t1 t2 t3)).setCell ⟨w.heap.size+1,4,U⟩ (J d'.a5 d'.l5 d'.c5)).setCell ⟨w.heap.size+1,5,U⟩ (Y4 Y5 c.now)).setCell ⟨w.heap.size+1,6,U⟩ (I ⟨#[]⟩)).setCell ⟨w.heap.size+1,7,U⟩ (Y4 Y5 0)).heap[k]?=w11.heap[k]?:=λk h1 h2=>by rw[Ya _ _ _ _ (show k≠w.heap.size+1 by omega),Ya _ _ _ _ (show k≠w.heap.size+1 by omega),Ya _ _ _ _ (show k≠w.heap.size+1 by omega),Ya _ _ _ _ (show k≠w.heap.size+1 by omega),Ya _ _ _ _ (show k≠w.heap.size+1 by omega),Ya _ _ _ _ (show k≠w.heap.size+1 by omega),Ya _ _ _ _ (show k≠w.heap.size+1 by omega),Ya _ _ _ _ (show k≠w.heap.size+1 by omega),Ya _ _ _ _ (show k≠w7.heap.size by omega)]
 refine⟨?_,?_,?_,?_,?_⟩
 ·exact (HN9.az (w':=(((((((((w11.setCell ⟨w7.heap.size,3,U⟩ (J t1 t2 t3)).setCell ⟨w.heap.size+1,0,U⟩ (J d'.a1 d'.l1 d'.c1)).setCell ⟨w.heap.size+1,1,U⟩ (J d'.a2 d'.l2 d'.c2)).setCell ⟨w.heap.size+1,2,U⟩ (J sa sl sc)).setCell ⟨w.heap.size+1,3,U⟩ (J t1 t2 t3)).setCell ⟨w.heap.size+1,4,U⟩ (J d'.a5 d'.l5 d'.c5)).setCell ⟨w.heap.size+1,5,U⟩ (Y4 Y5 c.now)).setCell ⟨w.heap.size+1,6,U⟩ (I ⟨#[]⟩)).setCell ⟨w.heap.size+1,7,U⟩ (Y4 Y5 0))) (λk hk s=>(hkeep k s.1 s.2).trans (H35.block k hk)) (λ_ _ s=>s)).rl (λk s=>loq)
 ·exact (HK9.az (w':=(((((((((w11.setCell ⟨w7.heap.size,3,U⟩ (J t1 t2 t3)).setCell ⟨w.heap.size+1,0,U⟩ (J d'.a1 d'.l1 d'.c1)).setCell ⟨w.heap.size+1,1,U⟩ (J d'.a2 d'.l2 d'.c2)).setCell ⟨w.heap.size+1,2,U⟩ (J sa sl sc)).setCell ⟨w.heap.size+1,3,U⟩ (J t1 t2 t3)).setCell ⟨w.heap.size+1,4,U⟩ (J d'.a5 d'.l5 d'.c5)).setCell ⟨w.heap.size+1,5,U⟩ (Y4 Y5 c.now)).setCell ⟨w.heap.size+1,6,U⟩ (I ⟨#[]⟩)).setCell ⟨w.heap.size+1,7,U⟩ (Y4 Y5 0))) (λk hk s=>(hkeep k s.1 s.2).trans (H35.block k hk)) (λ_ _ s=>s)).rl (λk s=>loq)
 ·exact (HV9.az (w':=(((((((((w11.setCell ⟨w7.heap.size,3,U⟩ (J t1 t2 t3)).setCell ⟨w.heap.size+1,0,U⟩ (J d'.a1 d'.l1 d'.c1)).setCell ⟨w.heap.size+1,1,U⟩ (J d'.a2 d'.l2 d'.c2)).setCell ⟨w.heap.size+1,2,U⟩ (J sa sl sc)).setCell ⟨w.heap.size+1,3,U⟩ (J t1 t2 t3)).setCell ⟨w.heap.size+1,4,U⟩ (J d'.a5 d'.l5 d'.c5)).setCell ⟨w.heap.size+1,5,U⟩ (Y4 Y5 c.now)).setCell ⟨w.heap.size+1,6,U⟩ (I ⟨#[]⟩)).setCell ⟨w.heap.size+1,7,U⟩ (Y4 Y5 0))) (λk hk s=>(hkeep k s.1 s.2).trans (H35.block k hk)) (λ_ _ s=>s)).rl (λk s=>loq)
 ·exact (HR5.az (w':=(((((((((w11.setCell ⟨w7.heap.size,3,U⟩ (J t1 t2 t3)).setCell ⟨w.heap.size+1,0,U⟩ (J d'.a1 d'.l1 d'.c1)).setCell ⟨w.heap.size+1,1,U⟩ (J d'.a2 d'.l2 d'.c2)).setCell ⟨w.heap.size+1,2,U⟩ (J sa sl sc)).setCell ⟨w.heap.size+1,3,U⟩ (J t1 t2 t3)).setCell ⟨w.heap.size+1,4,U⟩ (J d'.a5 d'.l5 d'.c5)).setCell ⟨w.heap.size+1,5,U⟩ (Y4 Y5 c.now)).setCell ⟨w.heap.size+1,6,U⟩ (I ⟨#[]⟩)).setCell ⟨w.heap.size+1,7,U⟩ (Y4 Y5 0))) (λk hk s=>hkeep k (by rcases s with s|s;exact s.1;omega) (by rcases s with s|s;exact s.2;omega)) (λ_ _ s=>s)).rl (λk s=>loq)
 ·exact (HP9.az (w':=(((((((((w11.setCell ⟨w7.heap.size,3,U⟩ (J t1 t2 t3)).setCell ⟨w.heap.size+1,0,U⟩ (J d'.a1 d'.l1 d'.c1)).setCell ⟨w.heap.size+1,1,U⟩ (J d'.a2 d'.l2 d'.c2)).setCell ⟨w.heap.size+1,2,U⟩ (J sa sl sc)).setCell ⟨w.heap.size+1,3,U⟩ (J t1 t2 t3)).setCell ⟨w.heap.size+1,4,U⟩ (J d'.a5 d'.l5 d'.c5)).setCell ⟨w.heap.size+1,5,U⟩ (Y4 Y5 c.now)).setCell ⟨w.heap.size+1,6,U⟩ (I ⟨#[]⟩)).setCell ⟨w.heap.size+1,7,U⟩ (Y4 Y5 0))) (λk hk s=>(hkeep k s.1 s.2).trans (H35.block k hk)) (λ_ _ s=>s)).rl (λk s=>loq)):p:=h
theorem Lh(h:p:=by
 clear k0 k1 k2 k3 k4 k5 ltk_4 x0 x1 x2 x3 x4 x5 ltx_4;obtain⟨Gk,Gx,Gr,HW⟩:=jJ;have hne0:=Wd.ne wr;have z1z:=@aa _ @aiy;exact bC):p:=h
theorem Lg(h:p:=by
 have z1624z:=@aa _ @DQ;exact fy):p:=h
theorem Lf(h:p:=by
 clear k0 k1 k2 k3 k4 k5 ltk_4 x0 x1 x2 x3 x4 x5 ltx_4;obtain⟨Gk,Gx,Gr,HW⟩:=jJ;have hne0:=Wd.ne wr;have z1z:=@aa _ @aiE;exact bC):p:=h
theorem Le(h:p:=by
 have z1682z:=@aa _ @C7;exact rj):p:=h
theorem Lc(h:p:=by
 have z1682z:=@aa _ @C6;exact rj):p:=h
theorem Lb(h:p:=by
 refine (aK 6 _).mono ?_;rintro e w4 ⟨rfl,hb⟩;clear k0 k1 k2 k3 k4 k5 ltk_4 x0 x1 x2 x3 x4 x5 ltx_4;replace Bk:=upK Bk hb;replace Bx:=upK Bx hb;have z138z:=@aa _ @aeH;exact cL):p:=h
theorem La(h:p:=by
 refine (aK 7 _).mono ?_;have z1416z:=@aa _ @GM;exact sb):p:=h
theorem K_(h:p:=by
 refine (aK 9 _).mono ?_;have z1416z:=@aa _ @GL;exact sb):p:=h
theorem ef(h:p:=by
 obtain⟨k0,k1,k2,k3,k4,k5⟩:=cs6 Bk;have ltk_4:=ae Bk.out;obtain⟨x0,x1,x2,x3,x4,x5⟩:=cs6 Bx;have ltx_4:=ae Bx.out;go_wp2_with fail;exact z1138z):p:=h
theorem K4(h:p:=by
 have z1485z:=@aa _ @Fy;exact gF):p:=h
theorem K3(h:p:=by
 refine (fv ⟨a1,l1,y1,a2,l2,y2,a3,l3,y3,a4,l4,y4,a5,l5,y5⟩ c t _ (HR.below HB.out) HT.2.1.2.2.2.1.2.2 HT.2.1.2.2.1.2.2 (cM.ne HT.2.1) HJ.out HBD.out).mono ?_;rintro e w3 ⟨rfl,hb⟩;clear k0 k1 k2 k3 k4 k5 ltk_2;have z1388z:=@aa _ @He;exact bj):p:=h
theorem K2(h:p:=by
 refine (fL ⟨a1,l1,y1,a2,l2,y2,a3,l3,y3,a4,l4,y4,a5,l5,y5⟩ c t _ (HR.below HB.out) HT.2.1.2.2.2.1.2.2 HT.2.1.2.2.1.2.2 (cM.ne HT.2.1) HNO.out).mono ?_;rintro e w4 ⟨rfl,hb⟩;clear k0 k1 k2 k3 k4 k5 ltk_2;have z1388z:=@aa _ @Hb;exact bj):p:=h
theorem K1(h:p:=by
 have z1485z:=@aa _ @Fx;exact gF):p:=h
theorem KZ(h:p:=by
 refine ((ka ⟨a1,l1,y1,a2,l2,y2,(Y3 ⟨b3,o3,U⟩),l3,y3,a4,l4,y4,a5,l5,y5⟩ c i x _ (HR.below HB.out) HX.out).mono (λ_ _ h=>ar.yes h HIN.out)).mono ?_;rintro e w5 ⟨rfl,hb⟩;clear k0 k1 k2 k3 k4 k5 ltk_2;have z1388z:=@aa _ @G8;exact bj):p:=h
theorem KY(h:p:=by
 refine ((ka ⟨a1,l1,y1,a2,l2,y2,(Y3 ⟨b3,o3,U⟩),l3,y3,a4,l4,y4,a5,l5,y5⟩ c i x _ (HR.below HB.out) HX.out).mono (λ_ _ h=>ar.no h HIN.out)).mono ?_;rintro e w5 ⟨rfl,hb⟩;clear k0 k1 k2 k3 k4 k5 ltk_2;have z1388z:=@aa _ @G7;exact bj):p:=h
theorem KX(h:p:=by
 refine (aK 11 _).mono ?_;rintro e w3 ⟨rfl,hb⟩;clear k0 k1 k2 k3 k4 k5 ltk_2;replace Bk:=upK Bk hb;have z138z:=@aa _ @aeD;exact cL):p:=h
theorem KO(h:p:=by
 have z41z:=@aa _ @aip;exact ei):p:=h
theorem KN(h:p:=by
 have z41z:=@aa _ @aio;exact ei):p:=h
theorem sQ(h:p:=by
 have z1631z:=@aa _ @DL;exact jq):p:=h
theorem KA(h:p:=by
 obtain⟨x0,x1,x2,x3,x4,x5⟩:=cs6 Bx;have ltx_1:=ae Bx.out;go_wp2_with fail;refine (iU xn xc xz va vl vc zs xd 0 _ z0 z2 z4 (HX.below HB.out)).mono ?_;rintro e w2 ⟨r,rfl,hi,hb⟩;clear k0 k1 k2 k3 k4 k5 ltk_1 x0 x1 x2 x3 x4 x5 ltx_1;have z804z:=@aa _ @TR;exact cJ):p:=h
theorem Kz(h:p:=by
 obtain⟨x0,x1,x2,x3,x4⟩:=cs5 Bx;have ltx_1:=ae Bx.out;go_wp2_with fail;refine (fK x.n x.z x.k x.x x.v _ z0 z2 z4).mono ?_;rintro e w2 ⟨r,rfl,hi,hb⟩;clear k0 k1 k2 k3 k4 k5 ltk_1 x0 x1 x2 x3 x4 ltx_1;have z804z:=@aa _ @TP;exact cJ):p:=h
theorem Ky(h:p:=by
 obtain⟨x0,x1,x2,x3,x4⟩:=cs5 Bx;have ltx_1:=ae Bx.out;go_wp2_with fail;refine (aK 1 _).mono ?_;rintro e w2 ⟨rfl,hb⟩;clear k0 k1 k2 k3 k4 k5 ltk_1 x0 x1 x2 x3 x4 ltx_1;replace Bk:=upK Bk hb;replace Bx:=upK Bx hb;have z138z:=@aa _ @aeJ;exact cL):p:=h
theorem Ko(h:p:=by
 obtain⟨x0,x1,x2,x3,x4⟩:=cs5 Bx;have ltx_4:=ae Bx.out;go_wp2_with fail;have z1624z:=@aa _ @DP;exact fy):p:=h
theorem Kn(h:p:=by
 obtain⟨x0,x1,x2,x3,x4⟩:=cs5 Bx;have ltx_4:=ae Bx.out;go_wp2_with fail;refine (aK 6 _).mono ?_;rintro e w4 ⟨rfl,hb⟩;clear k0 k1 k2 k3 k4 k5 ltk_4 x0 x1 x2 x3 x4 ltx_4;replace Bk:=upK Bk hb;replace Bx:=upK Bx hb;have z138z:=@aa _ @aeI;exact cL):p:=h
theorem Km(h:p:=by
 obtain⟨x0,x1,x2,x3,x4,x5,x6,x7⟩:=cs8 Bx;have ltx_4:=ae Bx.out;go_wp2_with fail;have HLO:=aa HB.size;refine (dd d c _ (HR.below HB.out) HT.sm).mono ?_;rintro e w4 ⟨d',rfl,ho,hb⟩;have HQ2:=aa hb.size;clear k0 k1 k2 k3 k4 k5 ltk_4 x0 x1 x2 x3 x4 x5 x6 x7 ltx_4;have z1459z:=@aa _ @FP;exact jy):p:=h
theorem Kl(h:p:=by
 obtain⟨x0,x1,x2,x3,x4,x5,x6,x7⟩:=cs8 Bx;have ltx_4:=ae Bx.out;go_wp2_with fail;refine (aK 6 _).mono ?_;rintro e w4 ⟨rfl,hb⟩;clear k0 k1 k2 k3 k4 k5 ltk_4 x0 x1 x2 x3 x4 x5 x6 x7 ltx_4;have z804z:=@aa _ @TK;exact cJ):p:=h
theorem J5(h:p:=by
 have z464z:=@aa _ @aaz;exact pA):p:=h
theorem J3(h:p:=by
 exact bodyPost_ret (v:=Za #[J U 0 0,J U 0 0,J U 0 0,J U 0 0,J U 0 0,Y4 Y5 0,I ⟨#[]⟩,Y4 Y5 6]) mV rfl ⟨ad0,co0 6,rfl,HV.out,iM _ _,ep (show w.heap.size<=w.heap.size+1+1 by omega) (HB.out)⟩):p:=h
theorem JZ(h:p:=by
 exact bodyPost_ret (v:=Za #[J U 0 0,J U 0 0,J U 0 0,J U 0 0,J U 0 0,Y4 Y5 0,I ⟨#[]⟩,Y4 Y5 6]) kH rfl ⟨ad0,co0 6,rfl,HV.out,iM _ _,ep (show w.heap.size<=w.heap.size+1+1 by omega) (HB.out)⟩):p:=h
theorem JY(h:p:=by
 exact bodyPost_ret (v:=Za #[J U 0 0,J U 0 0,J U 0 0,J U 0 0,J U 0 0,Y4 Y5 0,I ⟨#[]⟩,Y4 Y5 7]) kH rfl ⟨ad0,co0 7,rfl,HV.out,iM _ _,ep (show w.heap.size<=w.heap.size+1+1 by omega) (HB.out)⟩):p:=h
theorem JX(h:p:=by
 exact bodyPost_ret (v:=Za #[J U 0 0,J U 0 0,J U 0 0,J U 0 0,J U 0 0,Y4 Y5 0,I ⟨#[]⟩,Y4 Y5 9]) kH rfl ⟨ad0,co0 9,rfl,HV.out,iM _ _,ep (show w.heap.size<=w.heap.size+1+1 by omega) (HB.out)⟩):p:=h
theorem jF(h:p:=by
 obtain⟨fr0,fr1,fr2,fr3,fr4,fr5,fr6,fr7⟩:=jR Br.out;have hrl:w.heap.size+1+1<w4.heap.size:=ae Br.out;go_wp2;exact z1219z):p:=h
theorem IV(h:p:=by
 have HC1:=aa (λq:Wd w2=>iW d.l3 8 hfull2 q.w);have z53z:=@aa _ @ae1;exact aC):p:=h
theorem IU(h:p:=by
 have HC1:=aa (λq:Wd w2=>fJ d.l3 8 hfull q.w);have z53z:=@aa _ @aeZ;exact aC):p:=h
theorem sF(h:p:=by
 obtain⟨Gk,Gx,Gr,HW⟩:=jJ;obtain⟨k0,k1,k2,k3,k4,k5⟩:=sl6 Gk;obtain⟨x0,x1,x2,x3,x4,x5,x6,x7⟩:=sl8 Gx;have hne0:=Wd.ne w2;have HC0:=aa (λq:Wd w2=>g_ d c.now c.vs xn q.w (HR.v.below (HW.trans (q.b.mono HW.size))) HMS.out);exact z1306z):p:=h
theorem IQ(h:p:=by
 have z442z:=@aa _ @aaT;exact yP):p:=h
theorem IP(h:p:=by
 have z442z:=@aa _ @aaS;exact yP):p:=h
theorem sD(h:p:=by
 have HPL:=aa hpl;clear hpl;obtain⟨hq1,hq2,hs4,hs5,h4Q,HQF⟩:=akV;obtain⟨i0,hi0',hz0,hz1,hz2⟩:=info_parts ig;have HIS:=aa (Yb hi0' (Yb hz0 (Yb hz1 hz2)));obtain⟨i5,hi5',hz0',hz1',hz2'⟩:=info_parts qj;exact z1312z):p:=h
theorem Ip(h:p:=by
 exact bodyPost_ret (v:=Za #[J U 0 0,J U 0 0,J U 0 0,J U 0 0,J U 0 0,Y4 Y5 0,I ⟨#[]⟩,Y4 Y5 7]) mW rfl ⟨ad0,co0 7,rfl,HV.out,iM _ _,sb2 (sb2 (sb2 (sb2 (sb2 (sb2 (sb2 (sb2 (HB.out))))))))⟩):p:=h
theorem Io(h:p:=by
 exact bodyPost_ret (v:=Za #[J U 0 0,J U 0 0,J U 0 0,J U 0 0,J U 0 0,Y4 Y5 0,I ⟨#[]⟩,Y4 Y5 9]) mW rfl ⟨ad0,co0 9,rfl,HV.out,iM _ _,sb2 (sb2 (sb2 (sb2 (sb2 (sb2 (sb2 (sb2 (HB.out))))))))⟩):p:=h
theorem sw(h:p:=by
 obtain⟨r0,r1,r2,r3,r4,r5,r6,r7⟩:=cs8 Br;have ltr_4:=ae Br.out;obtain⟨fr0,fr1,fr2,fr3,fr4,fr5,fr6,fr7⟩:=kY;have hrl:w.heap.size+1+1<w4.heap.size:=ae Br.out;go_wp2;exact z1347z):p:=h
theorem Hg(h:p:=by
 rcases hf with ⟨i,x,hx,hn,rfl⟩|⟨hno,rfl⟩;rotate_left
 ·have HV:Hid (cm c t (co0 6)):=Zc ⟨2,⟨hl,HT.out,Zc ⟨rfl,fW hno⟩⟩,rfl⟩;clear hno;have z1147z:=@aa _ @K4;exact bI
 have hri:=HT.2.1.2.2.2.1.2.2;have HHit:=aa (a_ hri hx hn).2;have HRI:=aa hri;have HX:=aa hx;have HN:=aa hn;have HL:Hid (¬8000<t.size):=hl;have hi4:i<l4:=by have:=(Yc.1 hx).1;omega
 have hi0:¬(i:Int)<0:=af
 have h48:l4<=8:=by have:=HT.sm.x;omega
 have h58:l5<=8:=by have:=HT.sm.p;omega
 have h38:l3<=8:=by have:=HT.sm.v;omega
 clear hri hx hn hl;have hbb:(∃(j:Nat) (v:Vd),c.vs[j]?=Y3 v/\aY c t v)\/(∀v,¬aY c t v):=Classical.byCases (λh:∃v,aY c t v=>Zc (by obtain⟨v,hv⟩:=h;obtain⟨j,hj⟩:=hv.at;exact⟨j,v,hj,hv⟩)) (λh=>Zb (λv hv=>h ⟨v,hv⟩));rcases hbb with ⟨j,v,hj,hbd⟩|hno
 ·have HJ:=aa hj;have HBD:=aa hbd;have hj3:j<l3:=by have:=(Yc.1 hj).1;omega
  have hj0:¬(j:Int)<0:=af
  have hj0':(0:Int)<=(j:Int):=af
  clear hj hbd;have z1147z:=@aa _ @K3;exact bI
 ·have HNO:=aa hno;clear hno;have z1147z:=@aa _ @K2;exact bI):p:=h
theorem Hf(h:p:=by
 rcases hf with ⟨i,x,hx,hn,rfl⟩|⟨hno,rfl⟩;rotate_left
 ·have HV:Hid (ck c t (co0 6)):=Zc ⟨2,⟨hl,HT.out,Zc ⟨rfl,fW hno⟩⟩,rfl⟩;clear hno;have z1147z:=@aa _ @K1;exact bI
 have hri:=HT.2.1.2.2.1.2.2;have HHit:=aa (a_ hri hx hn).2;have HRI:=aa hri;have HX:=aa hx;have HN:=aa hn;have hi3:i<l3:=by have:=(Yc.1 hx).1;omega
 have hi0:¬(i:Int)<0:=af
 have hi3i:(i:Int)<l3:=af
 have h38:l3<=8:=by have:=HT.sm.v;omega
 clear hri hx hn;obtain⟨b3,o3,x',rfl,hb3,hx',hat⟩:=cj (HR.v.below HB.out) hi3;obtain rfl:x=x':=Yd (HX.symm.trans hx');obtain⟨ea,el,ec,hvr,z0,z2,z3,z5,c0,c1,c2,c3,c4,c5,c6,c7⟩:=bh hat;clear hat hvr z0 z2 z3 z5 hx' c0 c1 c2 c3 c4 c6 c7;by_cases hm:x.m=⟨#[]⟩
 ·have hm1:=cN hm;by_cases hin:QP c x
  ·have HIN:=aa hin;clear hin;have HV:Hid (ck c t (co0 11)):=Zc ⟨5,⟨hl,HT.out,Zb ⟨rfl,HHit.out,i,x,HX.out,HN.out,Zb HIN.out⟩⟩,rfl⟩;have z1147z:=@aa _ @KZ;exact bI
  ·have HIN:=aa hin;clear hin;have HV:Hid (ck c t ⟨uy c t,⟨#[]⟩,0⟩):=Zb ⟨hl,HT.out,⟨HHit.out,λj y hj hy=>by
    obtain⟨-,rfl⟩:=HRI.inj hj HX.out (hy.trans HN.symm)
    exact λh=>h.elim (λh=>h hm) HIN.out⟩,rfl⟩
   have z1147z:=@aa _ @KY;exact bI
 ·have hm1:=aX hm;have HV:Hid (ck c t (co0 11)):=Zc ⟨5,⟨hl,HT.out,Zb ⟨rfl,HHit.out,i,x,HX.out,HN.out,Zc hm⟩⟩,rfl⟩;have z1147z:=@aa _ @KX;exact bI):p:=h
theorem He(h:p:=by
 obtain⟨k0,k1,k2,k3,k4,k5⟩:=cs6 Bk;have ltk_3:=ae Bk.out;go_wp2_with fail;refine (ka ⟨a1,l1,y1,a2,l2,y2,a3,l3,y3,a4,l4,y4,a5,l5,y5⟩ c j v _ (HR.below HB.out) HJ.out).mono ?_;rintro e w4 ⟨rb,rfl,hi,hb⟩;clear k0 k1 k2 k3 k4 k5 ltk_3;replace Bk:=upK Bk hb;replace Br:=upK Br hb;replace HB:=upB HB hb;clear hb;have HI:=aa hi;clear hi;obtain⟨k0,k1,k2,k3,k4,k5⟩:=cs6 Bk;have ltk_4:=ae Bk.out;obtain⟨r0,r1,r2,r3,r4,r5,r6,r7⟩:=cs8 Br;have ltr_4:=ae Br.out;go_wp2;go_loopw [8,9] (λq iv wr=> ∃(k:Nat) (r:Bool),k<=l5/\q=Y7 r/\iv=Y4 Y5 k/\Hid (r=Y_↔(QP c v\/∃(i:Nat) (p:Pd),i<k/\c.ps[i]?=Y3 p/\InL p.zs t))/\Hid (Below w4.heap.size w4 wr)) (λ_ iv _=>l5 - (intOf iv).toNat);case atStart=>exact⟨0,rb,by omega,rfl,rfl,show _↔_ by rw[HI.out];exact⟨Zc,λh=>h.elim id (λ⟨i,p,h,_⟩=>by omega)⟩,Yh _ _⟩
 case round=>
  clear k0 k1 k2 k3 k4 k5 ltk_4 r0 r1 r2 r3 r4 r5 r6 r7 ltr_4;obtain⟨k,r,hk,rfl,rfl,HS,HL4⟩:=hrel;have hb4:=HL4.out;replace Bk:=upK Bk hb4;replace Br:=upK Br hb4;replace HB:=upB HB hb4;clear hb4;obtain⟨k0,k1,k2,k3,k4,k5⟩:=cs6 Bk;have ltk:=ae Bk.out;by_cases hlt:k<l5
  ·exact aha
  obtain rfl:l5=k:=af
  have hgo:r=Y_↔Ar c t:=by
   rw[HS.out];constructor
   ·rintro (h|⟨i,p,-,h1,h2⟩)
    ·exact Zc ⟨v,HBD.out,h⟩
    ·exact Zb ⟨i,p,h1,h2⟩
   ·rintro (⟨u,hu,hb⟩|⟨i,p,h1,h2⟩)
    ·exact Zc (by obtain rfl:=aY.inj HT.2.1.2.2.2.1.2.2 HT.2.1.2.2.1.2.2 hu HBD.out;exact hb)
    ·exact Zb ⟨i,p,by have:=(Yc.1 h1).1;omega,h1,h2⟩
  clear HS;cases r;rotate_left
  ·have HV:Hid (cm c t (co0 11)):=Zc ⟨5,⟨HL.out,HT.out,Zb ⟨rfl,HHit.out,hgo.1 bX⟩⟩,rfl⟩;clear hgo;obtain⟨k0,k1,k2,k3,k4,k5⟩:=cs6 Bk;have ltk_5:=ae Bk.out;go_wp2_with fail;refine (aK 11 _).mono ?_;rintro e w5 ⟨rfl,hb⟩;clear k0 k1 k2 k3 k4 k5 ltk_5;have z1388z:=@aa _ @Hc;exact bj
  have HQR:Hid (w.heap.size+1<wr.heap.size):=ae Br.out;have HOK:Hid (Am c t):=⟨HHit.out,λh=>by have h9:=hgo.2 h;cases h9⟩;clear hgo;obtain⟨k0,k1,k2,k3,k4,k5⟩:=cs6 Bk;have ltk_5:=ae Bk.out;go_wp2_with fail;have z1624z:=@aa _ @DO;exact fy):p:=h
theorem Hd(h:p:=by
 have hq7:=HQ7.out;have hqr:w.heap.size+1<wr.heap.size:=HQR.out;obtain⟨kc,hkc,hkn⟩:=cv (HT.2.2.1.1 j v HJ.out).1;generalize pl Kd.n c.ks v.k=jk at hkc;have HKC:=aa hkc;have HKN:=aa hkn;have hjk:jk<l2:=by have:=(Yc.1 hkc).1;omega
 have hjk1:(jk:Int)<l2:=af
 have hj31:(j:Int)<l3:=af
 clear hkc hkn;obtain⟨b3,o3,v',rfl,hb3,hv',hat⟩:=cj (HR.v.below HB.out) hj3;obtain rfl:v=v':=Yd (HJ.symm.trans hv');obtain⟨ea,el,ec,-,-,-,-,-,-,-,-,cv3,-,-,-,-⟩:=bh hat;clear hat hv';obtain⟨b2,o2,kc',rfl,hb2,hkc',hat⟩:=gu (HR.k.below HB.out) hjk;obtain rfl:kc=kc':=Yd (HKC.symm.trans hkc');obtain⟨-,-,-,-,ck2,-⟩:=dh hat;clear hat hkc';have cv3':=(ai (ak w7 (Y6 (clv d' c.now) 29)) hb3).trans cv3;have ck2':=(ai (ak w7 (Y6 (clv d' c.now) 29)) hb2).trans ck2;have hb3':b3<(w7.alloc (Y6 (clv d' c.now) 29)).heap.size:=Yj hb3 (ak w7 (Y6 (clv d' c.now) 29)).size;have hb2':b2<(w7.alloc (Y6 (clv d' c.now) 29)).heap.size:=Yj hb2 (ak w7 (Y6 (clv d' c.now) 29)).size;have hszv7:(w7.alloc (Y6 (clv d' c.now) 29)).heap.size=w7.heap.size+1:=aF
 have Gk:Hid ((w7.alloc (Y6 (clv d' c.now) 29)).heap[w.heap.size]?=Y3 (Y6 (clo6 a1 l1 y1 (Y3 ⟨b2,o2,U⟩) l2 y2 (Y3 ⟨b3,o3,U⟩) l3 y3 a4 l4 y4 a5 l5 y5 c.now) 29 (0,0))):=(Ym _ _ _ (ae Bk.out)).trans (Bk.out);obtain⟨Gr,Go,HW⟩:=agw;obtain⟨k0,k1,k2,k3,k4,k5⟩:=sl6 Gk;have mv:∀q:Wd (w7.alloc (Y6 (clv d' c.now) 29)),q.w.cell? ⟨b3,o3+j*8+3,U⟩=Y3 (I v.k):=λq=>(q.cell (hb3')).trans (cv3');have mk:∀q:Wd (w7.alloc (Y6 (clv d' c.now) 29)),q.w.cell? ⟨b2,o2+jk*4+2,U⟩=Y3 (Y7 kc.y):=λq=>(q.cell (hb2')).trans (ck2');have hne0:=Wd.ne (w7.alloc (Y6 (clv d' c.now) 29));have HC0:=aa (λq:Wd (w7.alloc (Y6 (clv d' c.now) 29))=>dF ⟨a1,l1,y1,(Y3 ⟨b2,o2,U⟩),l2,y2,(Y3 ⟨b3,o3,U⟩),l3,y3,a4,l4,y4,a5,l5,y5⟩ c.now c.ks v.k q.w (HR.k.below (HW.trans (q.b.mono HW.size))) HT.2.1.2.1.2.2 HKC.out HKN.out);have z53z:=@aa _ @aeS;exact aC):p:=h
theorem Hc(h:p:=by
 obtain⟨r0,r1,r2,r3,r4,r5,r6,r7⟩:=cs8 Br;have ltr_6:=ae Br.out;exact ag2):p:=h
theorem Hb(h:p:=by
 have HI:Hid (Y8=Y_↔False):=⟨λh=>bY,False.elim⟩;obtain⟨k0,k1,k2,k3,k4,k5⟩:=cs6 Bk;have ltk_3:=ae Bk.out;obtain⟨r0,r1,r2,r3,r4,r5,r6,r7⟩:=cs8 Br;have ltr_3:=ae Br.out;go_wp2;go_loopw [8,9] (λq iv wr=> ∃(k:Nat) (r:Bool),k<=l5/\q=Y7 r/\iv=Y4 Y5 k/\Hid (r=Y_↔(False\/∃(i:Nat) (p:Pd),i<k/\c.ps[i]?=Y3 p/\InL p.zs t))/\Hid (Below w4.heap.size w4 wr)) (λ_ iv _=>l5 - (intOf iv).toNat);case atStart=>exact⟨0,Y8,by omega,rfl,rfl,show _↔_ by rw[HI.out];exact⟨Zc,λh=>h.elim id (λ⟨i,p,h,_⟩=>by omega)⟩,Yh _ _⟩
 case round=>
  clear k0 k1 k2 k3 k4 k5 ltk_3 r0 r1 r2 r3 r4 r5 r6 r7 ltr_3;obtain⟨k,r,hk,rfl,rfl,HS,HL4⟩:=hrel;have hb4:=HL4.out;replace Bk:=upK Bk hb4;replace Br:=upK Br hb4;replace HB:=upB HB hb4;clear hb4;obtain⟨k0,k1,k2,k3,k4,k5⟩:=cs6 Bk;have ltk:=ae Bk.out;by_cases hlt:k<l5
  ·exact aha
  obtain rfl:l5=k:=af
  have hgo:r=Y_↔Ar c t:=by
   rw[HS.out];constructor
   ·rintro (h|⟨i,p,-,h1,h2⟩)
    ·exact h.elim
    ·exact Zb ⟨i,p,h1,h2⟩
   ·rintro (⟨u,hu,hb⟩|⟨i,p,h1,h2⟩)
    ·exact absurd hu (HNO.out u)
    ·exact Zb ⟨i,p,by have:=(Yc.1 h1).1;omega,h1,h2⟩
  clear HS;cases r;rotate_left
  ·have HV:Hid (cm c t (co0 11)):=Zc ⟨5,⟨HL.out,HT.out,Zb ⟨rfl,HHit.out,hgo.1 bX⟩⟩,rfl⟩;clear hgo;obtain⟨k0,k1,k2,k3,k4,k5⟩:=cs6 Bk;have ltk_4:=ae Bk.out;go_wp2_with fail;refine (aK 11 _).mono ?_;rintro e w5 ⟨rfl,hb⟩;clear k0 k1 k2 k3 k4 k5 ltk_4;have z1388z:=@aa _ @G_;exact bj
  have HQR:Hid (w.heap.size+1<wr.heap.size):=ae Br.out;have HOK:Hid (Am c t):=⟨HHit.out,λh=>by have h9:=hgo.2 h;cases h9⟩;clear hgo;obtain⟨k0,k1,k2,k3,k4,k5⟩:=cs6 Bk;have ltk_4:=ae Bk.out;go_wp2_with fail;have z1624z:=@aa _ @DN;exact fy):p:=h
theorem Ha(h:p:=by
 have hq7:=HQ7.out;have hqr:w.heap.size+1<wr.heap.size:=HQR.out;have hszv6:(w7.alloc (Y6 (clv d' c.now) 29)).heap.size=w7.heap.size+1:=aF
 have Gk:Hid ((w7.alloc (Y6 (clv d' c.now) 29)).heap[w.heap.size]?=Y3 (Y6 (clo6 a1 l1 y1 a2 l2 y2 a3 l3 y3 a4 l4 y4 a5 l5 y5 c.now) 29 (0,0))):=(Ym _ _ _ (ae Bk.out)).trans (Bk.out);obtain⟨Gr,Go,HW⟩:=agw;obtain⟨k0,k1,k2,k3,k4,k5⟩:=sl6 Gk;have hne0:=Wd.ne (w7.alloc (Y6 (clv d' c.now) 29));have z1z:=@aa _ @aiz;exact bC):p:=h
theorem G_(h:p:=by
 have z1713z:=@aa _ @ag2;exact fx):p:=h
theorem G8(h:p:=by
 obtain⟨k0,k1,k2,k3,k4,k5⟩:=cs6 Bk;have ltk_3:=ae Bk.out;go_wp2_with fail;refine (aK 11 _).mono ?_;rintro e w3 ⟨rfl,hb⟩;clear k0 k1 k2 k3 k4 k5 ltk_3;replace Bk:=upK Bk hb;have z138z:=@aa _ @aeE;exact cL):p:=h
theorem G7(h:p:=by
 have HQ20:Hid (w.heap.size+1<w5.heap.size):=ae Br.out;obtain⟨k0,k1,k2,k3,k4,k5⟩:=cs6 Bk;have ltk_3:=ae Bk.out;go_wp2_with fail;have HLO:=aa HB.size;refine (dd ⟨a1,l1,y1,a2,l2,y2,(Y3 ⟨b3,o3,U⟩),l3,y3,a4,l4,y4,a5,l5,y5⟩ c _ (HR.below HB.out) HT.sm).mono ?_;rintro e w3 ⟨d',rfl,ho,hb⟩;have HQ3:=aa hb.size;clear k0 k1 k2 k3 k4 k5 ltk_3;replace Bk:=upK Bk hb;replace Br:=upK Br hb;replace HB:=upB HB hb;clear hb;have HO:=aa ho;have hq2:=HQ20.out;have hq3:=HQ3.out;clear ho;obtain⟨r0,r1,r2,r3,r4,r5,r6,r7⟩:=cs8 Br;have ltr_4:=ae Br.out;go_wp2_with fail;have h5:=(HO.v.bl (S':=λk=>w5.heap.size<=k/\k<w3.heap.size) (λk hk s=>⟨s,hk⟩)).below (ak w3 (Y6 (clv d' c.now) 29));refine (qT d'.a3 d'.l3 d'.c3 c.vs t i x _ _ h5 (by have h6:=HO.v.1;have h7:(c.vs.map vdF).length=d'.l3:=h6;rw[Yr] at h7;have:=HT.sm.v;omega) HRI.out HX.out HN.out).mono ?_;rintro e w4 ⟨a',l',c',rfl,hN,hb⟩;rw[db] at hN;have hbw34:=(bB hb).2;have HNR:=aa hN;clear hN h5;clear r0 r1 r2 r3 r4 r5 r6 r7 ltr_4;obtain⟨HA0,hbx⟩:=bB hb;replace Bk:=upK Bk hbx;replace Br:=upK Br hbx;have Bo:=aa HA0;replace HB:=upB HB hbx;clear hb hbx HA0;have hq4:w3.heap.size<w4.heap.size:=ae Bo.out;have H34:=aa hbw34;clear hbw34;have z1713z:=@aa _ @CC;exact fx):p:=h
theorem GU(h:p:=by
 exact⟨⟨k+1,by omega,by go_num,Zb ⟨rfl,HHT⟩,HL.trans (q3.b.mono HL.size)⟩,by simp[intOf];omega⟩):p:=h
theorem GS(h:p:=by
 refine⟨⟨k+1,by omega,by go_num,Zc ⟨rfl,λj z hj hz=>?_⟩,HL.trans (q3.b.mono HL.size)⟩,by simp[intOf];omega⟩;by_cases e:j=k
 ·subst e;rw[HXT.out] at hz;obtain rfl:=Yd hz;exact HHT.out
 ·exact HQ.out j z af hz):p:=h
theorem se(h:p:=by
 go_wp2_with fail;refine bV ba ba ?_;repeat (go_big_quiet_step (first|(go_at_call 95;exact Calls.wide (HC0.out _))|fail))
 refine wpQuiet_nil ?_;rintro _ ⟨q3,rfl⟩;have HB5:=upB HW q3.b;have Ck:=upK Gk q3.b;have Cx:=upK Gx q3.b;have Cr:=upK Gr q3.b;clear hne0 HW HB HC0 k0 k1 k2 k3 k4 k5 x0 x1 x2 x3 x4 x5 tc Gk Gx Gr Bk Bx Br hc hb;have HB:=HB5;clear HB5;have Bk:=Ck;clear Ck;have Bx:=Cx;clear Cx;have Br:=Cr;clear Cr;go_wp2;exact z1410z):p:=h
theorem GM(h:p:=by
 exact bodyPost_ret (v:=Za #[J U 0 0,J U 0 0,J U 0 0,J U 0 0,J U 0 0,Y4 Y5 0,I ⟨#[]⟩,Y4 Y5 7]) mV rfl ⟨ad0,co0 7,rfl,HV.out,iM _ _,ep (show w.heap.size<=w.heap.size+1+1 by omega) (HB.out)⟩):p:=h
theorem GL(h:p:=by
 exact bodyPost_ret (v:=Za #[J U 0 0,J U 0 0,J U 0 0,J U 0 0,J U 0 0,Y4 Y5 0,I ⟨#[]⟩,Y4 Y5 9]) mV rfl ⟨ad0,co0 9,rfl,HV.out,iM _ _,ep (show w.heap.size<=w.heap.size+1+1 by omega) (HB.out)⟩):p:=h
theorem sb(h:p:=by
 rintro e w4 ⟨rfl,hb⟩;clear k0 k1 k2 k3 k4 k5 ltk_4 x0 x1 x2 x3 x4 x5 ltx_4;replace Bk:=upK Bk hb;replace Bx:=upK Bx hb;replace Br:=upK Br hb;replace HB:=upB HB hb;clear hb;have z1713z:=@aa _ @CB;exact fx):p:=h
theorem GD(h:p:=by
 cases r
 ·have HV:Hid (bR c (⟨xn,xc,xz,zs,xd,0⟩:Pd) (co0 1)):=Zc ⟨1,λh=>(by have:=HI.2 h.1;cases this),rfl⟩;exact OE
 have HT:=aa (HI.1 bX);clear HI;have z1176z:=@aa _ @KA;exact dI):p:=h
theorem GC(h:p:=by
 cases r
 ·have HV:Hid (bF c x (co0 1)):=Zc ⟨1,λh=>(by have:=HI.2 h.1;cases this),rfl⟩;have z1176z:=@aa _ @Ky;exact dI
 have HT:=aa (HI.1 bX);clear HI;have z1176z:=@aa _ @Kz;exact dI):p:=h
theorem rZ(h:p:=by
 go_wp2_with fail;refine (dz ⟨a1,l1,y1,a2,l2,y2,a3,l3,y3,a4,l4,y4,a5,l5,y5⟩ c _ (HR.below (HB.trans ((dj _ _ _ _).mono HB.size)))).mono ?_;rintro e w1 ⟨r,rfl,hi,hb⟩;have z1678z:=@aa _ @C8;exact lW):p:=h
theorem Gh(h:p:=by
 obtain⟨x0,x1,x2,x3,x4⟩:=cs5 Bx;have ltx_3:=ae Bx.out;go_wp2_with fail;refine (iR ⟨a1,l1,y1,a2,l2,y2,a3,l3,y3,a4,l4,y4,a5,l5,y5⟩ c.now c.ks x.k _ (HR.k.below HB.out)).mono ?_;rintro e w3 ⟨hb,hf⟩;clear k0 k1 k2 k3 k4 k5 ltk_3 x0 x1 x2 x3 x4 ltx_3;replace Bk:=upK Bk hb;replace Bx:=upK Bx hb;replace Br:=upK Br hb;replace HB:=upB HB hb;clear hb;rcases hf with ⟨i,y,hy,hyn,rfl⟩|⟨hno,rfl⟩;rotate_left
 ·have HV:Hid (bF c x (co0 6)):=Zc ⟨2,⟨HO.out,HNO.out,by omega,fW hno⟩,rfl⟩;clear hno;have z1193z:=@aa _ @Kn;exact ee
 have HV:Hid (bF c x ⟨BB c x,⟨#[]⟩,0⟩):=Zb ⟨HO.out,HNO.out,by omega,(a_ HT.2.1.2.1.2.2 hy hyn).2,rfl⟩;have hi0:¬(i:Int)<0:=af
 clear hy hyn HNO;have HQ1:Hid (w.heap.size+1+1<w3.heap.size):=ae Br.out;have z1193z:=@aa _ @Ko;exact ee):p:=h
theorem Gf(h:p:=by
 exact z952z):p:=h
theorem FT(h:p:=by
 exact z804z):p:=h
theorem FR(h:p:=by
 obtain⟨g1,m1,n1,g2,m2,n2,g3,m3,n3,g4,m4,n4,g5,m5,n5⟩:=d';have hm5:l5=m5:=by have h6:(c.ps.map pdF).length=m5:=ho.p.1;rw[Yr] at h6;omega
 subst hm5;have hmn:l5<=n5:=ho.p.2.1;have hmx:n5<=9223372036854775807:=ho.p.2.2.1;have HFR:=aa ho;clear ho;obtain⟨wr3,hwr3⟩:∃n:Nat,n=wr.heap.size:=⟨_,rfl⟩;rw[<-hwr3] at HQ1 HQ2 HFR;clear hwr3 HL hk1 hlt hk;obtain⟨k0,k1,k2,k3,k4,k5⟩:=cs6 Bk;have ltk_5:=ae Bk.out;obtain⟨x0,x1,x2,x3,x4,x5⟩:=cs6 Bx;have ltx_5:=ae Bx.out;go_wp2;clear k0 k1 k2 k3 k4 k5 ltk_5 x0 x1 x2 x3 x4 x5 ltx_5;go_loopw [8] (λvi wr=> ∃k:Nat,k<=l5/\vi=Y4 Y5 k/\Hid (∀(j:Nat) y,j<k->c.ps[j]?=Y3 y->Yk y.n.toList xn.toList=Y_)/\Hid (Below (w4.heap.size+1) (w4.alloc (Y6 #[J g1 m1 n1,J g2 m2 n2,J g3 m3 n3,J g4 m4 n4,J g5 l5 n5,Y4 Y5 c.now] 29)) wr)) (λvi _=>l5 - (intOf vi).toNat);case atStart=>exact⟨0,by omega,rfl,λj y hj=>by omega,Yh _ _⟩
 case round=>
  obtain⟨k,hk,rfl,HE,HL⟩:=hrel;have hLs:w4.heap.size+1<=wr.heap.size:=by have:=HL.size;simpa using this
  have hb4:Below w4.heap.size w4 wr:=(ak w4 (Y6 (clo6 g1 m1 n1 g2 m2 n2 g3 m3 n3 g4 m4 n4 g5 l5 n5 c.now) 29)).trans (HL.mono af);replace HB:=upB HB hb4;replace Bk:=upK Bk hb4;replace Bx:=upK Bx hb4;replace Br:=upK Br hb4;have Bo:=aa ((HL.block w4.heap.size af).trans (heap_alloc_new w4 (Y6 (clo6 g1 m1 n1 g2 m2 n2 g3 m3 n3 g4 m4 n4 g5 l5 n5 c.now) 29)));have HB4:=aa hb4;clear hb4;by_cases hlt:k<l5
  ·obtain⟨b,o,y,rfl,hb,hx,hat⟩:=cq (HR.p.below HB.out) hlt;obtain⟨ya,yl,yc,-,-,-,-,hc0,-,-,-,-,-⟩:=bD hat;have HXy:=aa hx;have hbw:b<wr.heap.size:=hb;have hk1:(k:Int)<l5:=af
   have hk2:decide ((k:Int)<l5)=Y_:=by simp;omega
   clear hb hat hx;cases hless:Yk y.n.toList xn.toList
   ·have z1675z:=@aa _ @Db;exact rk
   ·have z1675z:=@aa _ @Da;exact rk
  ·have hk1:¬(k:Int)<l5:=af
   have hk2:decide ((k:Int)<l5)=Y8:=by simp;omega
   have Gk:=Bk;have Gx:=Bx;have Gr:=Br;have Go:=Bo;obtain⟨HW,k4⟩:=M8;have x0:=λq:Wd wr=>q.slot (o:=0) Gx.out rfl;have hne0:=Wd.ne wr;have z1z:=@aa _ @aiB;exact bC):p:=h
theorem FQ(h:p:=by
 obtain⟨g1,m1,n1,g2,m2,n2,g3,m3,n3,g4,m4,n4,g5,m5,n5⟩:=d';have hm4:l4=m4:=by have h6:(c.xs.map xdF).length=m4:=ho.x.1;rw[Yr] at h6;omega
 subst hm4;have hmn:l4<=n4:=ho.x.2.1;have hmx:n4<=9223372036854775807:=ho.x.2.2.1;obtain⟨vss,H,hV,hcell⟩:=(ho.x.bl (S':=λk=>w3.heap.size<=k/\k<w4.heap.size) (λk hk s=>⟨s,hk⟩)).i_;have hvl:vss.length=l4:=by have h6:vss.length=(c.xs.map xdF).length:=hV.len;rw[Yr] at h6;omega
 have HC:Hid (∀(j:Nat) u,vss.flatten[j]?=Y3 u->∃g,g4=Y3 ⟨g,0,U⟩/\w4.cell? ⟨g,j,U⟩=Y3 u):=λj u hj=>by
  obtain⟨g,e,_,h3⟩:=hcell j u hj;exact⟨g,e,h3⟩
 have HVR:=aa hV;have HFR:=aa ho;clear hV hcell ho;obtain⟨i5,hi5',hz0,hz1,hz2⟩:=info_parts qh;have HI0:=aa (Yb hi5' (Yb hz0 (Yb hz1 hz2)));clear hi5' hz0 hz1 hz2;obtain⟨k0,k1,k2,k3,k4,k5⟩:=cs6 Bk;have ltk_5:=ae Bk.out;obtain⟨x0,x1,x2,x3,x4⟩:=cs5 Bx;have ltx_5:=ae Bx.out;go_wp2;clear k0 k1 k2 k3 k4 k5 ltk_5 x0 x1 x2 x3 x4 ltx_5;go_loopw [7] (λvi wr=> ∃k:Nat,k<=l4/\vi=Y4 Y5 k/\Hid (∀(j:Nat) y,j<k->c.xs[j]?=Y3 y->Yk y.n.toList x.n.toList=Y_)/\Hid (Below (w4.heap.size+1) (w4.alloc (Y6 #[J g1 m1 n1,J g2 m2 n2,J g3 m3 n3,J g4 l4 n4,J g5 m5 n5,Y4 Y5 c.now] 29)) wr)) (λvi _=>l4 - (intOf vi).toNat);case atStart=>exact⟨0,by omega,rfl,λj y hj=>by omega,Yh _ _⟩
 case round=>
  obtain⟨k,hk,rfl,HE,HL⟩:=hrel;have hLs:w4.heap.size+1<=wr.heap.size:=by have:=HL.size;simpa using this
  have hb4:Below w4.heap.size w4 wr:=(ak w4 (Y6 (clo6 g1 m1 n1 g2 m2 n2 g3 m3 n3 g4 l4 n4 g5 m5 n5 c.now) 29)).trans (HL.mono af);replace HB:=upB HB hb4;replace Bk:=upK Bk hb4;replace Bx:=upK Bx hb4;replace Br:=upK Br hb4;have Bo:=aa ((HL.block w4.heap.size af).trans (heap_alloc_new w4 (Y6 (clo6 g1 m1 n1 g2 m2 n2 g3 m3 n3 g4 l4 n4 g5 m5 n5 c.now) 29)));have HB4:=aa hb4;clear hb4;by_cases hlt:k<l4
  ·obtain⟨b,o,y,rfl,hb,hx,hat⟩:=eI (HR.x.below HB.out) hlt;obtain⟨z0,z2,z4,c0,c1,c2,c3,c4⟩:=cn hat;have HXy:=aa hx;have HZy0:=aa z0;have HZy2:=aa z2;have HZy4:=aa z4;clear hat hx z0 z2 z4;have hbw:b<wr.heap.size:=hb;have hc0:=c0;have hk1:(k:Int)<l4:=af
   have hk2:decide ((k:Int)<l4)=Y_:=by simp;omega
   clear hb c0 c1 c2 c3 c4;cases hless:Yk y.n.toList x.n.toList
   ·have z1672z:=@aa _ @Dd;exact rm
   ·have z1672z:=@aa _ @Dc;exact rm
  ·have hk1:¬(k:Int)<l4:=af
   have hk2:decide ((k:Int)<l4)=Y8:=by simp;omega
   have Gk:=Bk;have Gx:=Bx;have Gr:=Br;have Go:=Bo;obtain⟨HW,k3⟩:=tJ;have x0:=λq:Wd wr=>q.slot (o:=0) Gx.out rfl;have hne0:=Wd.ne wr;have z1z:=@aa _ @aiF;exact bC):p:=h
theorem FP(h:p:=by
 obtain⟨x0,x1,x2,x3,x4,x5,x6,x7⟩:=cs8 Bx;have ltx_5:=ae Bx.out;have hq1:w.heap.size+1+1<w3.heap.size:=HQ1.out;have hq2:w3.heap.size<=w4.heap.size:=HQ2.out;have h5:=(ho.v.bl (S':=(λk=>w3.heap.size<=k/\k<w4.heap.size)) (λk hk s=>⟨s,hk⟩)).below (ak w4 (Y6 (clv d' c.now) 29));have hlen:d'.l3<=8:=by have h6:=ho.v.1;have h7:(c.vs.map vdF).length=d'.l3:=h6;rw[Yr] at h7;omega
 have HFR:=aa ho;clear ho;have hbo:Below w4.heap.size w4 (w4.alloc (Y6 (clv d' c.now) 29)):=ak w4 (Y6 (clv d' c.now) 29);have hxk:=ae Bx.out;have hc2:Calls Tryz.prog 55 #[Za #[I xn,Y4 Y5 xc,I xz,I xk,Y7 xs,I ⟨#[]⟩,Y7 Y8,J va 0 vc]] (w4.alloc (Y6 (clv d' c.now) 29)).drew λe W3=> ∃a3 l3 c3,e=Y9 (Za #[I xn,Y4 Y5 xc,I xz,I xk,Y7 xs,I ⟨#[]⟩,Y7 Y8,J a3 l3 c3])/\Hid (bN W3 a3 l3 c3 [] (λk=>w4.heap.size+1<=k))/\Hid (Below (w4.alloc (Y6 (clv d' c.now) 29)).heap.size (w4.alloc (Y6 (clv d' c.now) 29)) W3)/\Hid (W3.heap[w.heap.size+1]?=Y3 (Y6 #[I xn,Y4 Y5 xc,I xz,I xk,Y7 xs,I ⟨#[]⟩,Y7 Y8,J va 0 vc] 95 (0,0)))/\Hid (W3.heap[w4.heap.size]?=Y3 (Y6 (clv d' c.now) 29 (0,0)))/\Hid (W3.heap[w.heap.size+1+1]?=Y3 (Y6 #[J U 0 0,J U 0 0,J U 0 0,J U 0 0,J U 0 0,Y4 Y5 0,I ⟨#[]⟩,Y4 Y5 0] 33 (0,0))):=by
  refine (Ap.akk xn xc xz xk xs ⟨#[]⟩ Y8 va 0 vc [] (w4.alloc (Y6 (clv d' c.now) 29)).drew (show ay _ _ _ _ _ from (HX.below ((HB.trans ((hbo.mono HB.size))).trans ⟨rfl,rfl,rfl,Ye _,λ_ _=>rfl⟩))) af).mono ?_;rintro e W3 ⟨a3,l3,c3,rfl,h1,h2,hb3⟩;have hO:bN W3 a3 l3 c3 [] (λk=>(w4.alloc (Y6 (clv d' c.now) 29)).drew.heap.size<=k):=⟨h1,h2⟩;have hb':Below (w4.alloc (Y6 (clv d' c.now) 29)).heap.size (w4.alloc (Y6 (clv d' c.now) 29)) W3:=⟨hb3.os,hb3.tape,hb3.output,hb3.size,hb3.block⟩;exact⟨a3,l3,c3,rfl,hO.bl (λk _ s=>by have s1:(w4.alloc (Y6 (clv d' c.now) 29)).drew.heap.size<=k:=s;simpa using s1),hb',(hb'.block _ bJ).trans ((hbo.block _ hxk).trans Bx.out),(hb'.block _ aF).trans (heap_alloc_new w4 (Y6 (clv d' c.now) 29)),(hb'.block _ bJ).trans ((hbo.block _ af).trans Br.out)⟩
 have hc3:∀(W3:World) a3 l3 c3,Below (w4.alloc (Y6 (clv d' c.now) 29)).heap.size (w4.alloc (Y6 (clv d' c.now) 29)) W3->bN W3 a3 l3 c3 [] (λk=>w4.heap.size+1<=k)->Hid (W3.heap[w.heap.size+1]?=Y3 (Y6 #[I xn,Y4 Y5 xc,I xz,I xk,Y7 xs,I ⟨#[]⟩,Y7 Y8,J va 0 vc] 95 (0,0)))/\Hid (W3.heap[w4.heap.size]?=Y3 (Y6 (clv d' c.now) 29 (0,0)))/\Hid (W3.heap[w.heap.size+1+1]?=Y3 (Y6 #[J U 0 0,J U 0 0,J U 0 0,J U 0 0,J U 0 0,Y4 Y5 0,I ⟨#[]⟩,Y4 Y5 0] 33 (0,0)))->Calls Tryz.prog 105 #[J d'.a3 d'.l3 d'.c3,Za #[I xn,Y4 Y5 xc,I xz,I xk,Y7 xs,I ⟨#[]⟩,Y7 Y8,J a3 l3 c3]] W3 λe W4=> ∃a' c',e=Y9 (J a' (d'.l3+1) c')/\Hid (aw W4 a' (d'.l3+1) c' 8 95 ((aM (pl Vd.n c.vs xn) (⟨xn,xc,xz,xk,xs,⟨#[]⟩,Y8,[]⟩:Vd) c.vs).map vdF) (λk=>(λk=>w3.heap.size<=k/\k<w4.heap.size) k\/w4.heap.size+1<=k))/\Hid (Below w4.heap.size w4 W4)/\Hid (W4.heap[w.heap.size+1]?=Y3 (Y6 #[I xn,Y4 Y5 xc,I xz,I xk,Y7 xs,I ⟨#[]⟩,Y7 Y8,J va 0 vc] 95 (0,0)))/\Hid (W4.heap[w4.heap.size]?=Y3 (Y6 (clv d' c.now) 29 (0,0)))/\Hid (W4.heap[w.heap.size+1+1]?=Y3 (Y6 #[J U 0 0,J U 0 0,J U 0 0,J U 0 0,J U 0 0,Y4 Y5 0,I ⟨#[]⟩,Y4 Y5 0] 33 (0,0))):=λW3 a3 l3 c3 hb3 hO3 hkp=>by
  obtain⟨g,hg⟩:=hO3.fr;have hs3:=hb3.size;simp only[db] at hs3;refine (lM d'.a3 d'.l3 d'.c3 c.vs (⟨xn,xc,xz,xk,xs,⟨#[]⟩,Y8,[]⟩:Vd) a3 l3 c3 g _ (λk=>w4.heap.size+1<=k) W3 (h5.below hb3) hlen (λi f hf=>by rcases i with _|_|_|_|_|_|_|_|i <;> simp[vdF] at hf <;> subst hf;exact⟨_,rfl,rfl,z0⟩;exact⟨_,rfl,rfl⟩;exact⟨_,rfl,rfl,z2⟩;exact⟨_,rfl,rfl,z3⟩;exact⟨_,rfl,rfl⟩;exact⟨_,rfl,rfl,by decide⟩;exact⟨_,rfl,rfl⟩;exact⟨_,rfl,hg⟩) (λk q1 q2=>by have q3:=q1.2;have q4:w4.heap.size+1<=k:=q2;omega)).mono ?_;rintro e W4 ⟨a',c',rfl,hN,hb4⟩;have hb14:Below w4.heap.size w4 W4:=(hbo.trans (hb3.mono aF)).trans (hb4.mono af);have hN':=hN.bl (S':=λk=>(λk=>w3.heap.size<=k/\k<w4.heap.size) k\/w4.heap.size+1<=k) (λk _ s=>by
   rcases s with (s|s)|s
   ·exact Zc s
   ·exact Zb s
   ·have s1:W3.heap.size<=k:=s;exact Zb af)
  exact⟨a',c',rfl,hN',hb14,(hb4.block _ (ae hkp.1.out)).trans hkp.1.out,(hb4.block _ (ae hkp.2.1.out)).trans hkp.2.1.out,(hb4.block _ (ae hkp.2.2.out)).trans hkp.2.2.out⟩
 have C2:=aa hc2;have C3:=aa hc3;clear hc2 hc3 h5 HX;have mixed:Tryz.prog.follows .mixedOrders=Y_:=ba
 go_wp2;go_region_with (first
  | (go_at_call 55;refine C2.mono ?_;rintro e w3' ⟨a3,l3,c3,rfl,HO3,HB3,HKP3⟩;obtain⟨o0,o1,o2,o3,o4,o5⟩:=cs6 HKP3.2.1.out;have hol3:=ae HKP3.2.1.out)
  | (go_at_call 105;refine (C3.out w3' a3 l3 c3 HB3.out HO3.out HKP3).mono ?_;rintro e w5 ⟨a',c',rfl,HO5,HB5,HKP5⟩;obtain⟨p0,p1,p2,p3,p4,p5⟩:=cs6 HKP5.2.1.out;have hol:=ae HKP5.2.1.out;have fo2:=al HKP5.2.1.out 2))
 all_goals (
  obtain⟨r0,r1,r2,r3,r4,r5,r6,r7⟩:=cs8 HKP5.2.2.out;obtain⟨fr0,fr1,fr2,fr3,fr4,fr5,fr6,fr7⟩:=jR HKP5.2.2.out;have hrl:=ae HKP5.2.2.out
  have hne:¬w.heap.size+1+1=w4.heap.size:=af
  have hne2:¬w4.heap.size=w.heap.size+1+1:=af
  go_wp2
  refine bodyPost_ret (v:=Za #[J d'.a1 d'.l1 d'.c1,J d'.a2 d'.l2 d'.c2,J a' (d'.l3+1) c',J d'.a4 d'.l4 d'.c4,J d'.a5 d'.l5 d'.c5,Y4 Y5 c.now,I ⟨#[]⟩,Y4 Y5 0]) kH rfl ⟨⟨d'.a1,d'.l1,d'.c1,d'.a2,d'.l2,d'.c2,a',d'.l3+1,c',d'.a4,d'.l4,d'.c4,d'.a5,d'.l5,d'.c5⟩,⟨afQ c (⟨xn,xc,xz,xk,xs,⟨#[]⟩,Y8,[]⟩:Vd),⟨#[]⟩,0⟩,rfl,HV.out,?_,ep (show w.heap.size<=w.heap.size+1+1 by omega) (ah (show w.heap.size<=w4.heap.size by omega) (HB.trans (HB5.mono HB.size)))⟩
  have hkeep:∀k,w3.heap.size<=k->¬k=w4.heap.size->(((((((((w5.setCell ⟨w4.heap.size,2,U⟩ (J a' (d'.l3+1) c')).setCell ⟨w.heap.size+1+1,0,U⟩ (J d'.a1 d'.l1 d'.c1)).setCell ⟨w.heap.size+1+1,1,U⟩ (J d'.a2 d'.l2 d'.c2)).setCell ⟨w.heap.size+1+1,2,U⟩ (J a' (d'.l3+1) c')).setCell ⟨w.heap.size+1+1,3,U⟩ (J d'.a4 d'.l4 d'.c4)).setCell ⟨w.heap.size+1+1,4,U⟩ (J d'.a5 d'.l5 d'.c5)).setCell ⟨w.heap.size+1+1,5,U⟩ (Y4 Y5 c.now)).setCell ⟨w.heap.size+1+1,6,U⟩ (I ⟨#[]⟩)).setCell ⟨w.heap.size+1+1,7,U⟩ (Y4 Y5 0)).heap[k]?=w5.heap[k]?:=λk h1 h2=>by rw[Ya _ _ _ _ (show k≠w.heap.size+1+1 by omega),Ya _ _ _ _ (show k≠w.heap.size+1+1 by omega),Ya _ _ _ _ (show k≠w.heap.size+1+1 by omega),Ya _ _ _ _ (show k≠w.heap.size+1+1 by omega),Ya _ _ _ _ (show k≠w.heap.size+1+1 by omega),Ya _ _ _ _ (show k≠w.heap.size+1+1 by omega),Ya _ _ _ _ (show k≠w.heap.size+1+1 by omega),Ya _ _ _ _ (show k≠w.heap.size+1+1 by omega),Ya _ _ _ _ (show k≠w4.heap.size by omega)]
  have hlo:=HLO.out
  exact⟨(HFR.n.az (w':=(((((((((w5.setCell ⟨w4.heap.size,2,U⟩ (J a' (d'.l3+1) c')).setCell ⟨w.heap.size+1+1,0,U⟩ (J d'.a1 d'.l1 d'.c1)).setCell ⟨w.heap.size+1+1,1,U⟩ (J d'.a2 d'.l2 d'.c2)).setCell ⟨w.heap.size+1+1,2,U⟩ (J a' (d'.l3+1) c')).setCell ⟨w.heap.size+1+1,3,U⟩ (J d'.a4 d'.l4 d'.c4)).setCell ⟨w.heap.size+1+1,4,U⟩ (J d'.a5 d'.l5 d'.c5)).setCell ⟨w.heap.size+1+1,5,U⟩ (Y4 Y5 c.now)).setCell ⟨w.heap.size+1+1,6,U⟩ (I ⟨#[]⟩)).setCell ⟨w.heap.size+1+1,7,U⟩ (Y4 Y5 0))) (S':=λk=>w.heap.size<=k) (λk hk s=>(hkeep k s af).trans (HB5.block k hk)) (λ_ _ s=>loq)),(HFR.k.az (w':=(((((((((w5.setCell ⟨w4.heap.size,2,U⟩ (J a' (d'.l3+1) c')).setCell ⟨w.heap.size+1+1,0,U⟩ (J d'.a1 d'.l1 d'.c1)).setCell ⟨w.heap.size+1+1,1,U⟩ (J d'.a2 d'.l2 d'.c2)).setCell ⟨w.heap.size+1+1,2,U⟩ (J a' (d'.l3+1) c')).setCell ⟨w.heap.size+1+1,3,U⟩ (J d'.a4 d'.l4 d'.c4)).setCell ⟨w.heap.size+1+1,4,U⟩ (J d'.a5 d'.l5 d'.c5)).setCell ⟨w.heap.size+1+1,5,U⟩ (Y4 Y5 c.now)).setCell ⟨w.heap.size+1+1,6,U⟩ (I ⟨#[]⟩)).setCell ⟨w.heap.size+1+1,7,U⟩ (Y4 Y5 0))) (S':=λk=>w.heap.size<=k) (λk hk s=>(hkeep k s af).trans (HB5.block k hk)) (λ_ _ s=>loq)),(HO5.az (w':=(((((((((w5.setCell ⟨w4.heap.size,2,U⟩ (J a' (d'.l3+1) c')).setCell ⟨w.heap.size+1+1,0,U⟩ (J d'.a1 d'.l1 d'.c1)).setCell ⟨w.heap.size+1+1,1,U⟩ (J d'.a2 d'.l2 d'.c2)).setCell ⟨w.heap.size+1+1,2,U⟩ (J a' (d'.l3+1) c')).setCell ⟨w.heap.size+1+1,3,U⟩ (J d'.a4 d'.l4 d'.c4)).setCell ⟨w.heap.size+1+1,4,U⟩ (J d'.a5 d'.l5 d'.c5)).setCell ⟨w.heap.size+1+1,5,U⟩ (Y4 Y5 c.now)).setCell ⟨w.heap.size+1+1,6,U⟩ (I ⟨#[]⟩)).setCell ⟨w.heap.size+1+1,7,U⟩ (Y4 Y5 0))) (S':=λk=>w.heap.size<=k) (λk hk s=>hkeep k fD fD) (λ_ _ s=>loq)),(HFR.x.az (w':=(((((((((w5.setCell ⟨w4.heap.size,2,U⟩ (J a' (d'.l3+1) c')).setCell ⟨w.heap.size+1+1,0,U⟩ (J d'.a1 d'.l1 d'.c1)).setCell ⟨w.heap.size+1+1,1,U⟩ (J d'.a2 d'.l2 d'.c2)).setCell ⟨w.heap.size+1+1,2,U⟩ (J a' (d'.l3+1) c')).setCell ⟨w.heap.size+1+1,3,U⟩ (J d'.a4 d'.l4 d'.c4)).setCell ⟨w.heap.size+1+1,4,U⟩ (J d'.a5 d'.l5 d'.c5)).setCell ⟨w.heap.size+1+1,5,U⟩ (Y4 Y5 c.now)).setCell ⟨w.heap.size+1+1,6,U⟩ (I ⟨#[]⟩)).setCell ⟨w.heap.size+1+1,7,U⟩ (Y4 Y5 0))) (S':=λk=>w.heap.size<=k) (λk hk s=>(hkeep k s af).trans (HB5.block k hk)) (λ_ _ s=>loq)),(HFR.p.az (w':=(((((((((w5.setCell ⟨w4.heap.size,2,U⟩ (J a' (d'.l3+1) c')).setCell ⟨w.heap.size+1+1,0,U⟩ (J d'.a1 d'.l1 d'.c1)).setCell ⟨w.heap.size+1+1,1,U⟩ (J d'.a2 d'.l2 d'.c2)).setCell ⟨w.heap.size+1+1,2,U⟩ (J a' (d'.l3+1) c')).setCell ⟨w.heap.size+1+1,3,U⟩ (J d'.a4 d'.l4 d'.c4)).setCell ⟨w.heap.size+1+1,4,U⟩ (J d'.a5 d'.l5 d'.c5)).setCell ⟨w.heap.size+1+1,5,U⟩ (Y4 Y5 c.now)).setCell ⟨w.heap.size+1+1,6,U⟩ (I ⟨#[]⟩)).setCell ⟨w.heap.size+1+1,7,U⟩ (Y4 Y5 0))) (S':=λk=>w.heap.size<=k) (λk hk s=>(hkeep k s af).trans (HB5.block k hk)) (λ_ _ s=>loq))⟩)):p:=h
theorem jy(h:p:=by
 replace Bk:=upK Bk hb;replace Bx:=upK Bx hb;replace Br:=upK Br hb;replace HB:=upB HB hb;clear hb;exact z1459z):p:=h
theorem FG(h:p:=by
 obtain⟨hne0,HC0⟩:=Nj;have HC1:=aa (λq:Wd w2=>iW l5 8 hfull2 q.w);have z1202z:=@aa _ @J5;exact bQ):p:=h
theorem FF(h:p:=by
 have hne0:=Wd.ne w2;have HC0:=aa (λq:Wd w2=>BJ ⟨a1,l1,y1,a2,l2,y2,a3,l3,y3,a4,l4,y4,a5,l5,y5⟩ c.now c.ps xn q.w (HR.p.below (HW.trans (q.b.mono HW.size))) HRI.out HY.out HYN.out);have HC1:=aa (λq:Wd w2=>eY l5 8 q.w);have z53z:=@aa _ @aeW;exact aC):p:=h
theorem FE(h:p:=by
 obtain⟨hne0,HC0⟩:=Nj;have HC1:=aa (λq:Wd w2=>fJ l5 8 hfull q.w);have z53z:=@aa _ @aeV;exact aC):p:=h
theorem mx(h:p:=by
 obtain⟨Gk,Gx,Gr,HW⟩:=jJ;obtain⟨k0,k1,k2,k3,k4,k5⟩:=sl6 Gk;obtain⟨x0,x1,x2,x3,x4,x5⟩:=sl6 Gx;exact z1475z):p:=h
theorem Fy(h:p:=by
 have z138z:=@aa _ @aeG;exact cL):p:=h
theorem Fx(h:p:=by
 have z138z:=@aa _ @aeF;exact cL):p:=h
theorem E1(h:p:=by
 go_wp2;exact bodyPost_ret (v:=Za #[J U 0 0,J U 0 0,J U 0 0,J U 0 0,J U 0 0,Y4 Y5 0,I ⟨#[]⟩,Y4 Y5 11]) zI rfl ⟨ad0,co0 11,rfl,HV.out,(rl0 _ _),sb1 (sb1 (sb1 (sb1 (sb1 (sb1 (sb1 (sb1 (HB.out))))))))⟩):p:=h
theorem D8(h:p:=by
 clear k0 k1 k2 k3 k4 k5 ltk_2 x0 x1 x2 x3 x4 x5 x6 x7 ltx_2;have HRI:Hid (aH Vd.n c.vs):=HT.2.1.2.2.1.2.2;cases hh:hit Vd.n c.vs xn;rotate_left
 ·obtain⟨y,hy,hyn⟩:=cv hh;have HY:=aa hy;have HYN:=aa hyn;have HV:Hid (aW c (⟨xn,xc,xz,xk,xs,⟨#[]⟩,Y8,[]⟩:Vd) (co0 7)):=Zc ⟨3,⟨HO.out,hh⟩,rfl⟩;clear hy hyn hh;obtain⟨j,hj⟩:∃j,j=pl Vd.n c.vs xn:=⟨_,rfl⟩;rw[<-hj] at HY;clear hj;have hj0:¬(j:Int)<0:=af
  obtain⟨Gk,Gx,Gr,HW⟩:=jJ;obtain⟨k0,k1,k2,k3,k4,k5⟩:=sl6 Gk;obtain⟨x0,x1,x2,x3,x4,x5,x6,x7⟩:=sl8 Gx;have hne0:=Wd.ne w2;have HC0:=aa (λq:Wd w2=>ed d c.now c.vs xn q.w (HR.v.below (HW.trans (q.b.mono HW.size))) HRI.out HY.out HYN.out);have HC1:=aa (λq:Wd w2=>eY d.l3 8 q.w);have z53z:=@aa _ @ae0;exact aC
 have HMS:Hid (∀(j:Nat) y,c.vs[j]?=Y3 y->¬y.n=xn):=λj y h1 h2=>by rw[(a_ HRI.out h1 h2).2] at hh;cases hh
 by_cases hfull:8<=d.l3
 ·have HV:Hid (aW c (⟨xn,xc,xz,xk,xs,⟨#[]⟩,Y8,[]⟩:Vd) (co0 9)):=Zc ⟨4,⟨HO.out,hh,by omega⟩,rfl⟩;clear hh;have z1306z:=@aa _ @IU;exact sF
 have HNO:=aa hh;have hfull2:d.l3<8:=af
 clear hh hfull;have z1306z:=@aa _ @IV;exact sF):p:=h
theorem D7(h:p:=by
 refine (aK 1 _).mono ?_;rintro e w3 ⟨rfl,hb⟩;clear k0 k1 k2 k3 k4 k5 ltk_2 x0 x1 x2 x3 x4 x5 x6 x7 ltx_2;have z804z:=@aa _ @TE;exact cJ):p:=h
theorem rH(h:p:=by
 obtain⟨k0,k1,k2,k3,k4,k5⟩:=cs6 Bk;have ltk_2:=ae Bk.out;obtain⟨x0,x1,x2,x3,x4,x5,x6,x7⟩:=cs8 Bx;have ltx_2:=ae Bx.out;go_wp2_with fail;exact z1600z):p:=h
theorem DQ(h:p:=by
 rintro e w4 ⟨d',rfl,ho,hb⟩;have HQ2:=aa hb.size;clear k0 k1 k2 k3 k4 k5 ltk_4 x0 x1 x2 x3 x4 x5 ltx_4;have z1459z:=@aa _ @FR;exact jy):p:=h
theorem DP(h:p:=by
 rintro e w4 ⟨d',rfl,ho,hb⟩;have HQ2:=aa hb.size;clear k0 k1 k2 k3 k4 k5 ltk_4 x0 x1 x2 x3 x4 ltx_4;have z1459z:=@aa _ @FQ;exact jy):p:=h
theorem DO(h:p:=by
 rintro e w7 ⟨d',rfl,ho,hb⟩;have HQ7:=aa hb.size;have HO:=aa ho;clear ho;clear k0 k1 k2 k3 k4 k5 ltk_5;have z1388z:=@aa _ @Hd;exact bj):p:=h
theorem DN(h:p:=by
 rintro e w7 ⟨d',rfl,ho,hb⟩;have HQ7:=aa hb.size;have HO:=aa ho;clear ho;clear k0 k1 k2 k3 k4 k5 ltk_4;have z1388z:=@aa _ @Ha;exact bj):p:=h
theorem DL(h:p:=by
 exact z1166z):p:=h
theorem Dw(h:p:=by
 have z952z:=@aa _ @RG;exact o8):p:=h
theorem Dv(h:p:=by
 have HB:=HB3;clear HB3;have Bk:=Ck;clear Ck;have Bx:=Cx;clear Cx;have Br:=Cr;clear Cr;have z1429z:=@aa _ @Gh;exact dH):p:=h
theorem rq(h:p:=by
 repeat (go_big_quiet_step (first|(go_at_call 95;exact Calls.wide (HC0.out _))|(go_at_call 104;exact Calls.wide (HC1.out _))|fail))
 refine wpQuiet_nil ?_;rintro _ ⟨q1,rfl⟩;obtain⟨HB3,Ck,Cx,Cr⟩:=Na;clear hne0 HW HB HC0 HC1 k0 k1 k2 k3 k4 k5 x0 x1 x2 x3 x4 Gk Gx Gr Bk Bx Br;exact z1653z):p:=h
theorem Dd(h:p:=by
 have z1z:=@aa _ @aiH;exact bC):p:=h
theorem Dc(h:p:=by
 have z1z:=@aa _ @aiG;exact bC):p:=h
theorem rm(h:p:=by
 have Gk:Hid (wr.heap[w.heap.size]?=Y3 (Y6 (clo6 a1 l1 y1 a2 l2 y2 a3 l3 y3 (Y3 ⟨b,o,U⟩) l4 y4 a5 l5 y5 c.now) 29 (0,0))):=Bk.out;have Gx:=Bx;have Gr:=Br;have Go:=Bo;obtain⟨HW,k3⟩:=tJ;obtain⟨x0,yn,hne0⟩:=zS;exact z1672z):p:=h
theorem Db(h:p:=by
 have z1z:=@aa _ @aiD;exact bC):p:=h
theorem Da(h:p:=by
 have z1z:=@aa _ @aiC;exact bC):p:=h
theorem rk(h:p:=by
 have Gk:Hid (wr.heap[w.heap.size]?=Y3 (Y6 (clo6 a1 l1 y1 a2 l2 y2 a3 l3 y3 a4 l4 y4 (Y3 ⟨b,o,U⟩) l5 y5 c.now) 29 (0,0))):=Bk.out;have Gx:=Bx;have Gr:=Br;have Go:=Bo;obtain⟨HW,k4⟩:=M8;obtain⟨x0,yn,hne0⟩:=zS;exact z1675z):p:=h
theorem C_(h:p:=by
 have HI:=aa hi;clear hi;cases r
 ·have HV:Hid (aW c (⟨xn,xc,xz,xk,xs,⟨#[]⟩,Y8,[]⟩:Vd) (co0 1)):=Zc ⟨1,λh=>(by have:=HI.2 h.1;cases this),rfl⟩;have z475z:=@aa _ @aad;exact cC
 have HT:=aa (HI.1 bX);clear HI;have z475z:=@aa _ @aae;exact cC):p:=h
theorem C9(h:p:=by
 cases r
 ·exact OE
 have z177z:=@aa _ @ad1;exact dx):p:=h
theorem C8(h:p:=by
 have HI:=aa hi;clear hi;exact z1426z):p:=h
theorem lW(h:p:=by
 obtain⟨HA0,HA1,HA2,hbx⟩:=uP hb;have Bk:=aa HA0;have Bx:=aa HA1;have Br:=aa HA2;replace HB:=upB HB hbx;clear hb hbx HA0 HA1 HA2;exact z1678z):p:=h
theorem C7(h:p:=by
 have HC0:=aa (λq:Wd wr=>eG ⟨a1,l1,y1,a2,l2,y2,a3,l3,y3,a4,l4,y4,a5,l5,y5⟩ c.now c.xs t q.w (HR.x.below (HW.trans (q.b.mono HW.size))) HMS2.out);have z1410z:=@aa _ @GU;exact se):p:=h
theorem C6(h:p:=by
 have HC0:=aa (λq:Wd wr=>eJ ⟨a1,l1,y1,a2,l2,y2,a3,l3,y3,a4,l4,y4,a5,l5,y5⟩ c.now c.xs t q.w (HR.x.below (HW.trans (q.b.mono HW.size))) HT.2.1.2.2.2.1.2.2 HY.out HYN.out);have z1410z:=@aa _ @GS;exact se):p:=h
theorem rj(h:p:=by
 clear k0 k1 k2 k3 k4 k5 ltk_4 x0 x1 x2 x3 x4 x5 ltx_4;obtain⟨Gk,Gx,Gr,HW⟩:=jJ;obtain⟨k0,k1,k2,k3,k4,k5⟩:=sl6 Gk;obtain⟨x0,x1,x2,x3,x4,x5⟩:=sl6 Gx;have tc:=λq:Wd wr=>(q.cell hb).trans hc;have hne0:=Wd.ne wr;exact z1682z):p:=h
theorem CD(h:p:=by
 have z1219z:=@aa _ @JZ;exact jF):p:=h
theorem CC(h:p:=by
 obtain⟨o0,o1,o2,o3,o4,o5⟩:=cs6 Bo;have lto_5:=ae Bo.out;obtain⟨fr0,fr1,fr2,fr3,fr4,fr5,fr6,fr7⟩:=kY;have fo0:=al Bo.out 0;have fo1:=al Bo.out 1;have fo2:=al Bo.out 2;have fo3:=al Bo.out 3;have fo4:=al Bo.out 4;have fo5:=al Bo.out 5;have hrl:w.heap.size+1<w4.heap.size:=af
 obtain⟨hne,hne2⟩:=Nl;go_wp2;have hlo:=HLO.out;refine bodyPost_ret (v:=Za #[J d'.a1 d'.l1 d'.c1,J d'.a2 d'.l2 d'.c2,J a' l' c',J d'.a4 d'.l4 d'.c4,J d'.a5 d'.l5 d'.c5,Y4 Y5 c.now,I ⟨#[]⟩,Y4 Y5 0]) zH rfl ⟨⟨d'.a1,d'.l1,d'.c1,d'.a2,d'.l2,d'.c2,a',l',c',d'.a4,d'.l4,d'.c4,d'.a5,d'.l5,d'.c5⟩,⟨uy c t,⟨#[]⟩,0⟩,rfl,HV.out,?_,sb1 (sb1 (sb1 (sb1 (sb1 (sb1 (sb1 (sb1 (ah (show w.heap.size<=w3.heap.size by omega) (HB.out)))))))))⟩;have hkeep:∀k,w5.heap.size<=k->¬k=w3.heap.size->(((((((((w4.setCell ⟨w3.heap.size,2,U⟩ (J a' l' c')).setCell ⟨w.heap.size+1,0,U⟩ (J d'.a1 d'.l1 d'.c1)).setCell ⟨w.heap.size+1,1,U⟩ (J d'.a2 d'.l2 d'.c2)).setCell ⟨w.heap.size+1,2,U⟩ (J a' l' c')).setCell ⟨w.heap.size+1,3,U⟩ (J d'.a4 d'.l4 d'.c4)).setCell ⟨w.heap.size+1,4,U⟩ (J d'.a5 d'.l5 d'.c5)).setCell ⟨w.heap.size+1,5,U⟩ (Y4 Y5 c.now)).setCell ⟨w.heap.size+1,6,U⟩ (I ⟨#[]⟩)).setCell ⟨w.heap.size+1,7,U⟩ (Y4 Y5 0)).heap[k]?=w4.heap[k]?:=λk h1 h2=>by rw[Ya _ _ _ _ (show k≠w.heap.size+1 by omega),Ya _ _ _ _ (show k≠w.heap.size+1 by omega),Ya _ _ _ _ (show k≠w.heap.size+1 by omega),Ya _ _ _ _ (show k≠w.heap.size+1 by omega),Ya _ _ _ _ (show k≠w.heap.size+1 by omega),Ya _ _ _ _ (show k≠w.heap.size+1 by omega),Ya _ _ _ _ (show k≠w.heap.size+1 by omega),Ya _ _ _ _ (show k≠w.heap.size+1 by omega),Ya _ _ _ _ (show k≠w3.heap.size by omega)]
 refine⟨?_,?_,?_,?_,?_⟩
 ·exact (HO.n.az (w':=(((((((((w4.setCell ⟨w3.heap.size,2,U⟩ (J a' l' c')).setCell ⟨w.heap.size+1,0,U⟩ (J d'.a1 d'.l1 d'.c1)).setCell ⟨w.heap.size+1,1,U⟩ (J d'.a2 d'.l2 d'.c2)).setCell ⟨w.heap.size+1,2,U⟩ (J a' l' c')).setCell ⟨w.heap.size+1,3,U⟩ (J d'.a4 d'.l4 d'.c4)).setCell ⟨w.heap.size+1,4,U⟩ (J d'.a5 d'.l5 d'.c5)).setCell ⟨w.heap.size+1,5,U⟩ (Y4 Y5 c.now)).setCell ⟨w.heap.size+1,6,U⟩ (I ⟨#[]⟩)).setCell ⟨w.heap.size+1,7,U⟩ (Y4 Y5 0))) (λk hk s=>(hkeep k s af).trans (H34.block k hk)) (λ_ _ s=>s)).rl (λk s=>loq)
 ·exact (HO.k.az (w':=(((((((((w4.setCell ⟨w3.heap.size,2,U⟩ (J a' l' c')).setCell ⟨w.heap.size+1,0,U⟩ (J d'.a1 d'.l1 d'.c1)).setCell ⟨w.heap.size+1,1,U⟩ (J d'.a2 d'.l2 d'.c2)).setCell ⟨w.heap.size+1,2,U⟩ (J a' l' c')).setCell ⟨w.heap.size+1,3,U⟩ (J d'.a4 d'.l4 d'.c4)).setCell ⟨w.heap.size+1,4,U⟩ (J d'.a5 d'.l5 d'.c5)).setCell ⟨w.heap.size+1,5,U⟩ (Y4 Y5 c.now)).setCell ⟨w.heap.size+1,6,U⟩ (I ⟨#[]⟩)).setCell ⟨w.heap.size+1,7,U⟩ (Y4 Y5 0))) (λk hk s=>(hkeep k s af).trans (H34.block k hk)) (λ_ _ s=>s)).rl (λk s=>loq)
 ·exact (HNR.az (w':=(((((((((w4.setCell ⟨w3.heap.size,2,U⟩ (J a' l' c')).setCell ⟨w.heap.size+1,0,U⟩ (J d'.a1 d'.l1 d'.c1)).setCell ⟨w.heap.size+1,1,U⟩ (J d'.a2 d'.l2 d'.c2)).setCell ⟨w.heap.size+1,2,U⟩ (J a' l' c')).setCell ⟨w.heap.size+1,3,U⟩ (J d'.a4 d'.l4 d'.c4)).setCell ⟨w.heap.size+1,4,U⟩ (J d'.a5 d'.l5 d'.c5)).setCell ⟨w.heap.size+1,5,U⟩ (Y4 Y5 c.now)).setCell ⟨w.heap.size+1,6,U⟩ (I ⟨#[]⟩)).setCell ⟨w.heap.size+1,7,U⟩ (Y4 Y5 0))) (λk hk s=>hkeep k fD fD) (λ_ _ s=>s)).rl (λk s=>loq)
 ·exact (HO.x.az (w':=(((((((((w4.setCell ⟨w3.heap.size,2,U⟩ (J a' l' c')).setCell ⟨w.heap.size+1,0,U⟩ (J d'.a1 d'.l1 d'.c1)).setCell ⟨w.heap.size+1,1,U⟩ (J d'.a2 d'.l2 d'.c2)).setCell ⟨w.heap.size+1,2,U⟩ (J a' l' c')).setCell ⟨w.heap.size+1,3,U⟩ (J d'.a4 d'.l4 d'.c4)).setCell ⟨w.heap.size+1,4,U⟩ (J d'.a5 d'.l5 d'.c5)).setCell ⟨w.heap.size+1,5,U⟩ (Y4 Y5 c.now)).setCell ⟨w.heap.size+1,6,U⟩ (I ⟨#[]⟩)).setCell ⟨w.heap.size+1,7,U⟩ (Y4 Y5 0))) (λk hk s=>(hkeep k s af).trans (H34.block k hk)) (λ_ _ s=>s)).rl (λk s=>loq)
 ·exact (HO.p.az (w':=(((((((((w4.setCell ⟨w3.heap.size,2,U⟩ (J a' l' c')).setCell ⟨w.heap.size+1,0,U⟩ (J d'.a1 d'.l1 d'.c1)).setCell ⟨w.heap.size+1,1,U⟩ (J d'.a2 d'.l2 d'.c2)).setCell ⟨w.heap.size+1,2,U⟩ (J a' l' c')).setCell ⟨w.heap.size+1,3,U⟩ (J d'.a4 d'.l4 d'.c4)).setCell ⟨w.heap.size+1,4,U⟩ (J d'.a5 d'.l5 d'.c5)).setCell ⟨w.heap.size+1,5,U⟩ (Y4 Y5 c.now)).setCell ⟨w.heap.size+1,6,U⟩ (I ⟨#[]⟩)).setCell ⟨w.heap.size+1,7,U⟩ (Y4 Y5 0))) (λk hk s=>(hkeep k s af).trans (H34.block k hk)) (λ_ _ s=>s)).rl (λk s=>loq)):p:=h
theorem CB(h:p:=by
 obtain⟨fr0,fr1,fr2,fr3,fr4,fr5,fr6,fr7⟩:=jR Br.out;have hrl:w.heap.size+1+1<w4.heap.size:=ae Br.out;go_wp2;exact z1416z):p:=h
namespace Rc
theorem AU(d:Ad) (c:Cl) (x:Vd) (va:Option Addr) (vl vc:Nat) (w:World) (hr:aB w d c.raw) (hx:ay w va vl vc x.zs) (z0:x.n.size<=9223372036854775807) (z2:x.z.size<=9223372036854775807) (z3:x.k.size<=9223372036854775807) (z5:x.m.size<=9223372036854775807) (hn:¬(x.m=⟨#[]⟩/\x.y=Y8/\x.zs=[])):
  Calls Tryz.prog 58 #[Za #[J d.a1 d.l1 d.c1,J d.a2 d.l2 d.c2,J d.a3 d.l3 d.c3,J d.a4 d.l4 d.c4,J d.a5 d.l5 d.c5,Y4 Y5 c.now],Za #[I x.n,Y4 Y5 x.c,I x.z,I x.k,Y7 x.x,I x.m,Y7 x.y,J va vl vc]] w (nD (aW c x) w):=by
 have HR:=aa hr;have HX:=aa hx;have hxl:x.zs.length=vl:=hx.1;have HB:=aa (Yh w.heap.size w);have HV:Hid (aW c x (co0 1)):=Zc ⟨1,λh=>hn h.2.2,rfl⟩;have HZ:=aa (show x.n.size<=9223372036854775807/\x.z.size<=9223372036854775807/\x.k.size<=9223372036854775807/\x.m.size<=9223372036854775807 from ⟨z0,z2,z3,z5⟩);clear hr hx z0 z2 z3 z5;obtain⟨xn,xc,xz,xk,xs,xm,xy,zs⟩:=x;dsimp only at hn hxl HZ HX ⊢;obtain⟨Is,hIs⟩:∃Is,Is=aW c ⟨xn,xc,xz,xk,xs,xm,xy,zs⟩:=⟨_,rfl⟩;rw[<-hIs] at HV ⊢;clear hIs;have hw:(¬xm=⟨#[]⟩)\/(xm=⟨#[]⟩/\xy=Y_)\/(xm=⟨#[]⟩/\xy=Y8/\¬vl=0):=by
  by_cases h1:xm=⟨#[]⟩
  ·cases xy
   ·exact Zb (Zb ⟨h1,rfl,λh=>hn ⟨h1,rfl,List.eq_nil_of_length_eq_zero (hxl.trans h)⟩⟩)
   ·exact Zb (Zc ⟨h1,rfl⟩)
  ·exact Zc h1
 clear hn hxl;rcases hw with hm|⟨rfl,rfl⟩|⟨rfl,rfl,hv⟩;rotate_left;rotate_left;have hv1:(0:Int)<(vl:Int):=af
 have hv2:0<vl:=af
 clear hv;rotate_left;have hq:=aX hm;clear hm;all_goals (
  go_enter Tryz.func58,Tryz.ntmps58
  go_wp2_with fail;refine (dz d c _ (HR.below (HB.trans ((dj _ _ _ _).mono HB.size)))).mono ?_;rintro e w1 ⟨r,rfl,-,hb⟩;obtain⟨HA0,HA1,HA2,hbx⟩:=uP hb;have Bk:=aa HA0;have Bx:=aa HA1;have Br:=aa HA2;replace HB:=upB HB hbx;clear hb hbx HA0 HA1 HA2
  cases r
  ·obtain⟨k0,k1,k2,k3,k4,k5⟩:=cs6 Bk;have ltk_1:=ae Bk.out;obtain⟨x0,x1,x2,x3,x4,x5,x6,x7⟩:=cs8 Bx;have ltx_1:=ae Bx.out;go_wp2_with fail;refine (aK 1 _).mono ?_;rintro e w2 ⟨rfl,hb⟩;clear k0 k1 k2 k3 k4 k5 ltk_1 x0 x1 x2 x3 x4 x5 x6 x7 ltx_1;replace Bk:=upK Bk hb;replace Bx:=upK Bx hb;replace Br:=upK Br hb;replace HB:=upB HB hb;clear hb;obtain⟨r0,r1,r2,r3,r4,r5,r6,r7⟩:=cs8 Br;have ltr_2:=ae Br.out;obtain⟨fr0,fr1,fr2,fr3,fr4,fr5,fr6,fr7⟩:=jR Br.out;have hrl:w.heap.size+1+1<w2.heap.size:=ae Br.out
   go_wp2
   exact bodyPost_ret (v:=Za #[J U 0 0,J U 0 0,J U 0 0,J U 0 0,J U 0 0,Y4 Y5 0,I ⟨#[]⟩,Y4 Y5 1]) kH rfl ⟨ad0,co0 1,rfl,HV.out,iM _ _,ep (show w.heap.size<=w.heap.size+1+1 by omega) (HB.out)⟩
  obtain⟨k0,k1,k2,k3,k4,k5⟩:=cs6 Bk;have ltk_1:=ae Bk.out;obtain⟨x0,x1,x2,x3,x4,x5,x6,x7⟩:=cs8 Bx;have ltx_1:=ae Bx.out;go_wp2_with fail;refine (iS xn xc xz xk xs _ _ va vl vc zs _ HZ.1 HZ.2.1 HZ.2.2.1 HZ.2.2.2 (HX.below HB.out)).mono ?_;rintro e w2 ⟨r,rfl,-,hb⟩;clear k0 k1 k2 k3 k4 k5 ltk_1 x0 x1 x2 x3 x4 x5 x6 x7 ltx_1;replace Bk:=upK Bk hb;replace Bx:=upK Bx hb;replace Br:=upK Br hb;replace HB:=upB HB hb;clear hb
  cases r
  ·obtain⟨k0,k1,k2,k3,k4,k5⟩:=cs6 Bk;have ltk_2:=ae Bk.out;obtain⟨x0,x1,x2,x3,x4,x5,x6,x7⟩:=cs8 Bx;have ltx_2:=ae Bx.out;go_wp2_with fail;refine (aK 1 _).mono ?_;rintro e w3 ⟨rfl,hb⟩;clear k0 k1 k2 k3 k4 k5 ltk_2 x0 x1 x2 x3 x4 x5 x6 x7 ltx_2;replace Bk:=upK Bk hb;replace Bx:=upK Bx hb;replace Br:=upK Br hb;replace HB:=upB HB hb;clear hb;obtain⟨r0,r1,r2,r3,r4,r5,r6,r7⟩:=cs8 Br;have ltr_3:=ae Br.out;obtain⟨fr0,fr1,fr2,fr3,fr4,fr5,fr6,fr7⟩:=jR Br.out;have hrl:w.heap.size+1+1<w3.heap.size:=ae Br.out
   go_wp2
   exact bodyPost_ret (v:=Za #[J U 0 0,J U 0 0,J U 0 0,J U 0 0,J U 0 0,Y4 Y5 0,I ⟨#[]⟩,Y4 Y5 1]) kH rfl ⟨ad0,co0 1,rfl,HV.out,iM _ _,ep (show w.heap.size<=w.heap.size+1+1 by omega) (HB.out)⟩
  obtain⟨k0,k1,k2,k3,k4,k5⟩:=cs6 Bk;have ltk_2:=ae Bk.out;obtain⟨x0,x1,x2,x3,x4,x5,x6,x7⟩:=cs8 Bx;have ltx_2:=ae Bx.out;go_wp2_with fail;refine (aK 1 _).mono ?_;rintro e w3 ⟨rfl,hb⟩;clear k0 k1 k2 k3 k4 k5 ltk_2 x0 x1 x2 x3 x4 x5 x6 x7 ltx_2;replace Bk:=upK Bk hb;replace Bx:=upK Bx hb;replace Br:=upK Br hb;replace HB:=upB HB hb;clear hb;obtain⟨r0,r1,r2,r3,r4,r5,r6,r7⟩:=cs8 Br;have ltr_3:=ae Br.out;obtain⟨fr0,fr1,fr2,fr3,fr4,fr5,fr6,fr7⟩:=jR Br.out;have hrl:w.heap.size+1+1<w3.heap.size:=ae Br.out
  go_wp2
  exact bodyPost_ret (v:=Za #[J U 0 0,J U 0 0,J U 0 0,J U 0 0,J U 0 0,Y4 Y5 0,I ⟨#[]⟩,Y4 Y5 1]) kH rfl ⟨ad0,co0 1,rfl,HV.out,iM _ _,ep (show w.heap.size<=w.heap.size+1+1 by omega) (HB.out)⟩)
theorem uY(d:Ad) (c:Cl) (xn:ByteArray) (xc:Int) (xz xk:ByteArray) (xs:Bool) (va:Option Addr) (vc:Nat) (w:World) (hr:aB w d c.raw) (hx:ay w va 0 vc []) (z0:xn.size<=9223372036854775807) (z2:xz.size<=9223372036854775807) (z3:xk.size<=9223372036854775807):
  Calls Tryz.prog 58 #[Za #[J d.a1 d.l1 d.c1,J d.a2 d.l2 d.c2,J d.a3 d.l3 d.c3,J d.a4 d.l4 d.c4,J d.a5 d.l5 d.c5,Y4 Y5 c.now],Za #[I xn,Y4 Y5 xc,I xz,I xk,Y7 xs,I ⟨#[]⟩,Y7 Y8,J va 0 vc]] w (nD (aW c (⟨xn,xc,xz,xk,xs,⟨#[]⟩,Y8,[]⟩:Vd)) w):=by
 have HR:=aa hr;have HX:=aa hx;have hlc:c.vs.length=d.l3:=by simpa using (show (c.vs.map vdF).length=d.l3 from hr.v.1)
 have hlm:d.l3<=9223372036854775807:=Yl hr.v.2.1 hr.v.2.2.1;have HB:=aa (Yh w.heap.size w);clear hr hx;go_enter Tryz.func58,Tryz.ntmps58;go_wp2_with fail;refine (dz d c _ (HR.below (HB.trans ((dj _ _ _ _).mono HB.size)))).mono ?_;rintro e w1 ⟨r,rfl,hi,hb⟩;have z1678z:=@aa _ @C_;exact lW
theorem B4(d:Ad) (c:Cl) (x:Vd) (va:Option Addr) (vl vc:Nat) (w:World) (hr:aB w d c.raw) (hx:ay w va vl vc x.zs) (z0:x.n.size<=9223372036854775807) (z2:x.z.size<=9223372036854775807) (z3:x.k.size<=9223372036854775807) (z5:x.m.size<=9223372036854775807):
  Calls Tryz.prog 58 #[Za #[J d.a1 d.l1 d.c1,J d.a2 d.l2 d.c2,J d.a3 d.l3 d.c3,J d.a4 d.l4 d.c4,J d.a5 d.l5 d.c5,Y4 Y5 c.now],Za #[I x.n,Y4 Y5 x.c,I x.z,I x.k,Y7 x.x,I x.m,Y7 x.y,J va vl vc]] w (nD (aW c x) w):=by
 by_cases hn:x.m=⟨#[]⟩/\x.y=Y8/\x.zs=[]
 ·obtain⟨xn,xc,xz,xk,xs,xm,xy,zs⟩:=x;obtain⟨rfl,rfl,rfl⟩:xm=⟨#[]⟩/\xy=Y8/\zs=[]:=hn;obtain rfl:vl=0:=hx.1.symm;exact uY d c xn xc xz xk xs va vc w hr hx z0 z2 z3
 ·exact AU d c x va vl vc w hr hx z0 z2 z3 z5 hn
theorem B3(d:Ad) (c:Cl) (x:Xd) (w:World) (hr:aB w d c.raw) (z0:x.n.size<=9223372036854775807) (z2:x.k.size<=9223372036854775807) (z4:x.v.size<=9223372036854775807):
  Calls Tryz.prog 60 #[Za #[J d.a1 d.l1 d.c1,J d.a2 d.l2 d.c2,J d.a3 d.l3 d.c3,J d.a4 d.l4 d.c4,J d.a5 d.l5 d.c5,Y4 Y5 c.now],Za #[I x.n,Y4 Y5 x.z,I x.k,Y7 x.x,I x.v]] w (nD (bF c x) w):=by
 have z445z:=@aa _ @aaG;exact cf
theorem BJ(d:Ad) (now:Int) (xs:List Pd) (t:ByteArray) (w:World) (hr:aT w d.a5 d.l5 d.c5 6 (xs.map pdF)) (hs:aH Pd.n xs) {j:Nat} {x:Pd} (hx:xs[j]?=Y3 x) (hn:x.n=t):
  Calls Tryz.prog 26 #[Za #[J d.a1 d.l1 d.c1,J d.a2 d.l2 d.c2,J d.a3 d.l3 d.c3,J d.a4 d.l4 d.c4,J d.a5 d.l5 d.c5,Y4 Y5 now],I t] w λe w'=>e=Y9 (Y4 Y5 j)/\Below w.heap.size w w':=by
 refine (gD d now xs t w hr).mono ?_;exact tQ
theorem AE(d:Ad) (now:Int) (xs:List Pd) (t:ByteArray) (w:World) (hr:aT w d.a5 d.l5 d.c5 6 (xs.map pdF)) (hn:∀(j:Nat) x,xs[j]?=Y3 x->¬x.n=t):
  Calls Tryz.prog 26 #[Za #[J d.a1 d.l1 d.c1,J d.a2 d.l2 d.c2,J d.a3 d.l3 d.c3,J d.a4 d.l4 d.c4,J d.a5 d.l5 d.c5,Y4 Y5 now],I t] w λe w'=>e=Y9 (Y4 Y5 (-1))/\Below w.heap.size w w':=by
 refine (gD d now xs t w hr).mono ?_;exact tN
theorem ahy {b:Nat} {a0 a1 a2 a3 a4 a5 v:Value} {T:TypeId} (h:w.heap[b]?=Y3 (Y6 #[a0,a1,a2,a3,a4,a5] T (0,0))):Hid ((w.setCell ⟨b,3,U⟩ v).heap[b]?=Y3 (Y6 #[a0,a1,a2,v,a4,a5] T (0,0))):=by
 exact au h v
theorem ajV {w4:World} {v4:Value} {base n hh:Nat} {xs:List Pd} {x:Pd} {va:Option Addr} {vl vc:Nat} {vss:List (List Value)} {H:Nat->Nat->Nat} {Q Q2:Nat->Prop} (hV:aQ w Q 6 (xs.map pdF) vss H) (hxl:xs.length=n) (hj:j=pl Pd.n xs x.n) (hbs:w.heap.size<=base) (hB4:Below w.heap.size w w4)
  (hxf:∀(i:Nat) f,(pdF x)[i]?=Y3 f->∃v,[I x.n,Y4 Y5 x.c,I x.z,J va vl vc,I x.d,Y4 Y5 x.p][i]?=Y3 v/\f.Fr w hh Q2 v) (hq:∀k,Q k->Q2 k->False) (ho4:w4.ownsRow base 40 6 v4 (n+1) (aM j [I x.n,Y4 Y5 x.c,I x.z,J va vl vc,I x.d,Y4 Y5 x.p] vss).flatten):
  ∃a' c',v4=J a' (n+1) c'/\aw w4 a' (n+1) c' 6 40 ((aM (pl Pd.n xs x.n) x xs).map pdF) (λk=>(Q k\/Q2 k)\/w.heap.size<=k):=by
 obtain⟨hjn,hV4⟩:=Nq;obtain⟨H4,hV5⟩:=hV4.ins (p:=j) (r:=pdF x) (vs:=[I x.n,Y4 Y5 x.c,I x.z,J va vl vc,I x.d,Y4 Y5 x.p]) (hh:=λ_=>hh) rfl rfl (λi f hf=>by
   obtain⟨v,h1,h2⟩:=hxf i f hf
   exact⟨v,h1,h2.az (λcu _ q=>hB4.block _ (ae q)) (λ_ s=>Zc (Zb s))⟩) (λi zs h hz k r i2 zs2 hr2 hz2 hne e=>by
  obtain⟨v,_,h2⟩:=hxf i _ h;obtain⟨_,_,_,_,_,_,_,_,h3⟩:=h2
  have hkv:k<vss.length:=by rw[hV.len];exact (Yc.1 hr2).1
  obtain⟨v',_,h5⟩:=hV.cell k r _ hr2 (Yi hkv) i2 _ hz2;obtain⟨_,_,_,_,_,_,_,_,h6⟩:=h5
  rcases h3 with h3|⟨_,h3,_⟩
  ·exact hz h3
  ·rcases h6 with h6|⟨_,h6,_⟩
   ·exact hne h6
   ·rw[e] at h6
    exact hq _ h6 h3) (λi i2 zs zs2 h _ h2 _=>by
  rcases i with _|_|_|_|_|_|i <;> simp[pdF] at h <;> rcases i2 with _|_|_|_|_|_|i2 <;> simp[pdF] at h2 <;> rfl) tx
 exact agX
theorem AV(d:Ad) (c:Cl) (x:Pd) (va:Option Addr) (vl vc:Nat) (w:World) (hr:aB w d c.raw) (hx:ay w va vl vc x.zs) (z0:x.n.size<=9223372036854775807) (z2:x.z.size<=9223372036854775807) (z4:x.d.size<=9223372036854775807) (hn:¬(x.p=0)):
  Calls Tryz.prog 62 #[Za #[J d.a1 d.l1 d.c1,J d.a2 d.l2 d.c2,J d.a3 d.l3 d.c3,J d.a4 d.l4 d.c4,J d.a5 d.l5 d.c5,Y4 Y5 c.now],Za #[I x.n,Y4 Y5 x.c,I x.z,J va vl vc,I x.d,Y4 Y5 x.p]] w (nD (bR c x) w):=by
 have HR:=aa hr;have HX:=aa hx;have HB:=aa (Yh w.heap.size w);have HV:Hid (bR c x (co0 1)):=Zc ⟨1,λh=>hn h.2.2,rfl⟩;have hv1:(x.p==0)=Y8:=by simpa using hn
 clear hr hx hn;go_enter Tryz.func62,Tryz.ntmps62;go_wp2_with fail;refine (dz d c _ (HR.below (HB.trans ((dj _ _ _ _).mono HB.size)))).mono ?_;rintro e w1 ⟨r,rfl,-,hb⟩;have z1678z:=@aa _ @C9;exact lW
theorem uZ(d:Ad) (c:Cl) (xn:ByteArray) (xc:Int) (xz:ByteArray) (zs:List ByteArray) (xd:ByteArray) (va:Option Addr) (vl vc:Nat) (w:World) (hr:aB w d c.raw) (hx:ay w va vl vc zs) (z0:xn.size<=9223372036854775807) (z2:xz.size<=9223372036854775807) (z4:xd.size<=9223372036854775807):
  Calls Tryz.prog 62 #[Za #[J d.a1 d.l1 d.c1,J d.a2 d.l2 d.c2,J d.a3 d.l3 d.c3,J d.a4 d.l4 d.c4,J d.a5 d.l5 d.c5,Y4 Y5 c.now],Za #[I xn,Y4 Y5 xc,I xz,J va vl vc,I xd,Y4 Y5 0]] w (nD (bR c (⟨xn,xc,xz,zs,xd,0⟩:Pd)) w):=by
 obtain⟨a1,l1,y1,a2,l2,y2,a3,l3,y3,a4,l4,y4,a5,l5,y5⟩:=d;dsimp only;have HR:=aa hr;have HX:=aa hx;have hvm:vl<=9223372036854775807:=Yl hx.2.1 hx.2.2.1;have hxl:zs.length=vl:=hx.1;have hlc:c.ps.length=l5:=by simpa using (show (c.ps.map pdF).length=l5 from hr.p.1)
 have hlm:l5<=9223372036854775807:=Yl hr.p.2.1 hr.p.2.2.1;have HB:=aa (Yh w.heap.size w);clear hr hx;go_enter Tryz.func62,Tryz.ntmps62;have z1426z:=@aa _ @GD;exact rZ
theorem B5(d:Ad) (c:Cl) (x:Pd) (va:Option Addr) (vl vc:Nat) (w:World) (hr:aB w d c.raw) (hx:ay w va vl vc x.zs) (z0:x.n.size<=9223372036854775807) (z2:x.z.size<=9223372036854775807) (z4:x.d.size<=9223372036854775807):
  Calls Tryz.prog 62 #[Za #[J d.a1 d.l1 d.c1,J d.a2 d.l2 d.c2,J d.a3 d.l3 d.c3,J d.a4 d.l4 d.c4,J d.a5 d.l5 d.c5,Y4 Y5 c.now],Za #[I x.n,Y4 Y5 x.c,I x.z,J va vl vc,I x.d,Y4 Y5 x.p]] w (nD (bR c x) w):=by
 by_cases hn:x.p=0
 ·obtain⟨xn,xc,xz,zs,xd,xp⟩:=x;obtain rfl:xp=0:=hn;exact uZ d c xn xc xz zs xd va vl vc w hr hx z0 z2 z4
 ·exact AV d c x va vl vc w hr hx z0 z2 z4 hn
theorem ka(d:Ad) (c:Cl) (k:Nat) (x:Vd) (w:World) (hr:aB w d c.raw) (hx:c.vs[k]?=Y3 x):
  Calls Tryz.prog 110 #[Za #[J d.a1 d.l1 d.c1,J d.a2 d.l2 d.c2,J d.a3 d.l3 d.c3,J d.a4 d.l4 d.c4,J d.a5 d.l5 d.c5,Y4 Y5 c.now],Y4 Y5 k] w (ar (QP c x) w):=by
 have z445z:=@aa _ @aaF;exact cf
theorem qT(a:Option Addr) (len cap:Nat) (xs:List Vd) (t:ByteArray) (i:Nat) (x:Vd) (Q:Nat->Prop) (w:World) (ho:aw w a len cap 8 95 (xs.map vdF) Q) (hl:len<=8) (hri:aH Vd.n xs) (hx:xs[i]?=Y3 x) (hn:x.n=t):
  Calls Tryz.prog 111 #[J a len cap,Y4 Y5 i] w λe w'=> ∃a' l' c',e=Y9 (J a' l' c')/\aw w' a' l' c' 8 95 ((wo Vd.n t xs).map vdF) (λk=>Q k\/w.heap.size<=k)/\Below w.heap.size w w':=by
 have HW:=aa (gC hri hx hn);have hxl:xs.length=len:=by have h6:(xs.map vdF).length=len:=ho.1;rw[Yr] at h6;exact h6
 have hi5:i<len:=by have:=(Yc.1 hx).1;omega
 have hmn:len<=cap:=ho.2.1;have hmx:cap<=9223372036854775807:=ho.2.2.1;obtain⟨vss,H,hV,hcell⟩:=ho.i_;have hvl:vss.length=len:=by have h6:vss.length=(xs.map vdF).length:=hV.len;rw[Yr] at h6;omega
 obtain⟨b,hxa,hbS⟩:∃b,a=Y3 ⟨b,0,U⟩/\b<w.heap.size:=by
  exact Ny
 subst hxa;have HC:Hid (∀(j:Nat) u,vss.flatten[j]?=Y3 u->w.cell? ⟨b,j,U⟩=Y3 u):=λj u hj=>by
  obtain⟨g,e,_,h3⟩:=hcell j u hj;cases e;exact h3
 have HVR:=aa hV;obtain⟨i5,hi5',hz0,hz1,hz2⟩:=info_parts qi;have HI0:=aa (Yb hi5' (Yb hz0 (Yb hz1 hz2)));have hown0:World.ownsRow (w.alloc (Y6 #[] 95)) w.heap.size 95 8 (J (Y3 ⟨w.heap.size,0,U⟩) 0 0) 0 []:=⟨by simp,Zb ⟨w.heap.size,0,#[],rfl,Ye _,Yg,Ye _,by unfold maxLen;omega,by simp,by simp⟩⟩;have HOW:=aa hown0;have hik:(i:Int)<=cap:=af
 clear hV hcell ho hri hx hn hi5' hz0 hz1 hz2 hown0;go_enter Tryz.func111,Tryz.ntmps111;go_wp2_with (first|(at_builtin;refine wpList_append_own _ rfl _ _ 25 rfl w.heap.size 95 i5 (Za #[I ⟨#[]⟩,Y4 Y5 0,I ⟨#[]⟩,I ⟨#[]⟩,Y7 Y8,I ⟨#[]⟩,Y7 Y8,J U 0 0]) 8 112 Tryz.underlying25 HI0.1 HI0.2.1 HI0.2.2.1 HI0.2.2.2 rfl ag _ 0 [] rfl (HOW.out) ⟨b,0,U⟩ i cap (vss.take i).flatten rfl ?c1 ?c2 ?c3 ?c4 ?c5 ?c6 ?_));case c1=>exact bm HVR.all af
 case c2=>
  intro j u hu;rw[Yo,Yq];exact (ai (ak w _) hbS).trans (HC.out _ _ (cI hu))
 case c3=>exact (aD HVR.one i).1
 case c4=>unfold maxLen;omega
 case c5=>omega
 case c6=>simp
 rintro v1 w4 hown4 hgr4 -;replace hown4:w4.ownsRow w.heap.size 95 8 v1 i (vss.take i).flatten:=by simpa using hown4
 have hb4:Below w.heap.size w w4:=((Yh w.heap.size _).alloc (Ye _) _).grown hgr4 aF (λg hg=>by simp[YJ] at hg;omega);obtain⟨s1,s2,s3,rfl⟩:=aA hown4;have HB4:=aa hb4;have HO4:=aa hown4;have hs4:=hb4.size;clear hown4 hgr4 hb4 HOW;have hik1:((i:Int)+1)<=len:=af
 by_cases hcap:cap=i+1
 ·subst hcap;have hmi:len=i+1:=af
  subst hmi;have hvd:vss.drop (i+1)=[]:=Yx af;go_wp2_with (first|(at_builtin;refine wpList_append_own _ rfl _ _ 25 rfl w.heap.size 95 i5 (Za #[I ⟨#[]⟩,Y4 Y5 0,I ⟨#[]⟩,I ⟨#[]⟩,Y7 Y8,I ⟨#[]⟩,Y7 Y8,J U 0 0]) 8 112 Tryz.underlying25 HI0.1 HI0.2.1 HI0.2.2.1 HI0.2.2.2 rfl ag _ _ _ rfl (HO4.out) ⟨b,0,U⟩ 0 0 [] rfl ?c1 ?c2 ?c3 ?c4 ?c5 ?c6 ?_));case c1=>rfl
  case c2=>intro j u hu;simp at hu
  case c3=>intro u hu;simp at hu
  case c4=>unfold maxLen;omega
  case c5=>omega
  case c6=>omega
  rintro v2 w5 hown5 hgr5 -;have hlen5:(wo Vd.n t xs).length=(i+1) - 1:=by rw[HW.out];simp;omega
  replace hown5:w5.ownsRow w.heap.size 95 8 v2 (wo Vd.n t xs).length (vss.take i++vss.drop (i+1)).flatten:=by
   rw[hlen5,List.flatten_append];rw[hvd];simpa using hown5
  exact ag7
 ·go_wp2_with (first|(at_builtin;refine wpList_append_own _ rfl _ _ 25 rfl w.heap.size 95 i5 (Za #[I ⟨#[]⟩,Y4 Y5 0,I ⟨#[]⟩,I ⟨#[]⟩,Y7 Y8,I ⟨#[]⟩,Y7 Y8,J U 0 0]) 8 112 Tryz.underlying25 HI0.1 HI0.2.1 HI0.2.2.1 HI0.2.2.2 rfl ag _ _ _ rfl (HO4.out) ⟨b,(i+1)*8,U⟩ (len - (i+1)) (cap - (i+1)) (vss.drop (i+1)).flatten rfl ?c1 ?c2 ?c3 ?c4 ?c5 ?c6 ?_));case c1=>rw[dW HVR.all,hvl]
  case c2=>
   exact NJ
  case c3=>exact (aD HVR.one (i+1)).2
  case c4=>unfold maxLen;omega
  case c5=>omega
  case c6=>omega
  rintro v2 w5 hown5 hgr5 -;have hlen5:(wo Vd.n t xs).length=len - 1:=by rw[HW.out];simp;omega
  replace hown5:w5.ownsRow w.heap.size 95 8 v2 (wo Vd.n t xs).length (vss.take i++vss.drop (i+1)).flatten:=by
   rw[hlen5,List.flatten_append];have e9:len - 1=i+(len - (i+1)):=af
   rw[e9];exact hown5
  exact ag7
end Rc
namespace Gs
section
variable {SR:World->World->Prop} {t4:Tmp} {Ψ:Fact} {P:Program} {ops:Array Oper} {Q:Exit->Act->World->Prop} {W:World} {a0:Act} {back:Option Oper}
theorem Grow.step(φ:Fact) (hd:o.dst=Y3 t) (hφ:uF SR φ) (ho:Obl P ops Q W a0 known o φ)
  (h:Grow SR t4 Ψ P ops Q W a0 back rest ((t,φ) ::known)):Grow SR t4 Ψ P ops Q W a0 back (o ::rest) known:=⟨φ,hφ,λ_=>ho,λe=>(by rw[hd] at e;cases e),(by rw[hd];exact h)⟩
theorem Grow.stepC(c:Value) (hd:o.dst=Y3 t) (ho:Obl P ops Q W a0 known o (λv _=>v=c))
  (h:Grow SR t4 Ψ P ops Q W a0 back rest ((t,λv _=>v=c) ::known)):Grow SR t4 Ψ P ops Q W a0 back (o ::rest) known:=Grow.step _ hd (Qj SR c) ho h
theorem Grow.done(h:Fin t4 Ψ P ops Q W a0 back known):Grow SR t4 Ψ P ops Q W a0 back [] known:=h
theorem At.step {w':World} {φ:Fact} {v:Value} (hΨ:Ψ.bH) (h:At t4 Ψ front φs W a0 listed a w)
  (hn:(front.filterMap (·.dst)).Nodup) (hin:∀o∈front,∀t,o.dst=Y3 t->t<a0.tmps.size) (hmono:∀(i:Nat) (o:Oper) (φ:Fact),front[i]?=Y3 o->φs[i]?=Y3 φ->uF SR φ)
  (ho:front[j]?=Y3 o) (hφ:φs[j]?=Y3 φ) (hj:j<listed.size) (hun:listed.getD j Y8=Y8) (hd:¬o.dst=U) (hb:Below w.heap.size w w') (hv:φ v w'):At t4 Ψ front φs W a0 (listed.setIfInBounds j Y_) (a.put o.dst v) w':=by
 refine⟨h.old.step hn hin (λi o φ h1 h2=>(hmono i o φ h1 h2).1) ho hφ hj hb hv,λi p hp hpd hl=>?_⟩;have hij:¬j=i:=λe=>by subst e;obtain rfl:=Yd (ho.symm.trans hp);exact hd hpd
 obtain⟨h1,h2⟩:=h.sto i p hp hpd (AM hij hl);refine⟨?_,λi' p' hp' hd'=>BZ (h2 i' p' hp' hd')⟩;cases ht:o.dst with
 | none=>exact absurd ht hd
 | some d=>
  rw[gT,if_neg (λhx=>?_)]
  ·exact hΨ _ _ _ h1 hb
  ·have h3:=h2 j o ho (ht.trans (by rw[hx.1]));rw[hun] at h3
   cases h3
theorem Fin.last(hf:Fin t4 Ψ P ops Q W a0 back (knAll [] front φs)) (hlen:φs.length=front.length) (hin:∀o∈front,∀t,o.dst=Y3 t->t<a0.tmps.size) (hst:∃(i:Nat) (o:Oper),front[i]?=Y3 o/\o.dst=U)
  (h:At t4 Ψ front φs W a0 listed a w) (hall:∀i,i<front.length->listed.getD i Y8=Y_):fG P ops Q back a w:=by
 obtain⟨i,o,hi,hd⟩:=hst;have hΨ:=(h.sto i o hi hd (hall i (Yc.1 hi).1)).1;have h9:∃x,a=aJ a0 (knAll [] front φs) x/\∀p∈knAll [] front φs,p.2 (x p.1) w:=Go.Proofs.YtiplhgedmjoliaaGreatDoor.Fin.last (P:=P) (ops:=ops) (Q:=λ_ a' w'=> ∃x,a'=aJ a0 (knAll [] front φs) x/\∀p∈knAll [] front φs,p.2 (x p.1) w') (back:=U) (λx _ _ h2=>⟨x,rfl,h2⟩) hlen hin h.old hall;obtain⟨x,e,h2⟩:=h9;have h3:=hf x w h.old.below h2 (by rw[<-e];exact hΨ);rw[<-e] at h3;exact h3
end
theorem alO.mono(W:World) (m:Nat) (T:TypeId):uF (Form W) (alO W m T):=by
 refine⟨?_,?_⟩
 ·rintro v w w' ⟨g,cs,h1,h2,h3,h4⟩ hb;exact⟨g,cs,h1,h2,h3,(hb.block g (Yw.1 h4).1).trans h4⟩
 ·rintro v w w' ⟨g,cs,h1,h2,h3,h4⟩ hb;obtain⟨cs',h5,h6⟩:=hb.form g cs T h4;exact⟨g,cs',h1,h2,h5.trans h3,h6⟩
theorem ahl.mono(W:World) (cs:Array Value) (T:TypeId):(ahl W cs T).bH:=by
 rintro v w w' ⟨g,h1,h2,h4⟩ hb;exact⟨g,h1,h2,(hb.block g (Yw.1 h4).1).trans h4⟩
end Gs
namespace Rc
theorem aw.B0 {g l cp:Nat} (hO:aw w (Y3 ⟨g,0,U⟩) l cp 8 95 (vs.map vdF) S) (hj:vs[j]?=Y3 v):aw ((w.setCell ⟨g,j*8+5,U⟩ (I ⟨#[]⟩)).setCell ⟨g,j*8+6,U⟩ (Y7 Y_)) (Y3 ⟨g,0,U⟩) l cp 8 95 ((vs.set j (BQ v)).map vdF) S:=by
 have hjr:(vs.map vdF)[j]?=Y3 (vdF v):=by rw[Yt,hj];rfl
 obtain⟨g',e,hS⟩:=hO.st (aG.refl S w) hjr;cases e;obtain⟨⟨cur2,H2,h3,_⟩,_,_⟩:=(hS.Q5 (i:=5) rfl ⟨#[]⟩ ag).ahz (i:=6) rfl Y_;refine⟨by rw[Yr,YK];have:=hO.1;rwa [Yr] at this,hO.2.1,hO.2.2.1,Zb ⟨g,cur2,H2,rfl,?_⟩⟩;rw[List.map_set];exact h3
theorem aw.afP {g l cp:Nat} (hO:aw w (Y3 ⟨g,0,U⟩) l cp 8 95 (vs.map vdF) S) (hj:vs[j]?=Y3 v):(∃u,w.cell? ⟨g,j*8+5,U⟩=Y3 u)/\w.frozen? ⟨g,j*8+5,U⟩=Y8/\(∃u,w.cell? ⟨g,j*8+6,U⟩=Y3 u)/\w.frozen? ⟨g,j*8+6,U⟩=Y8:=by
 have hjr:(vs.map vdF)[j]?=Y3 (vdF v):=by rw[Yt,hj];rfl
 obtain⟨a1,a2⟩:=aw.atT hO (Yh _ _) hjr (i:=5) rfl;obtain⟨b1,b2⟩:=aw.atT hO (Yh _ _) hjr (i:=6) rfl;exact⟨a1,a2,b1,b2⟩
theorem AQ(d:Ad) (c:Cl) (t:ByteArray) (w:World) (hr:aB w d c.raw):
  Calls Tryz.prog 65 #[Za #[J d.a1 d.l1 d.c1,J d.a2 d.l2 d.c2,J d.a3 d.l3 d.c3,J d.a4 d.l4 d.c4,J d.a5 d.l5 d.c5,Y4 Y5 c.now],I t] w (im (cm c t) w):=by
 have z445z:=@aa _ @aaE;exact cf
theorem AR(d:Ad) (c:Cl) (t:ByteArray) (w:World) (hr:aB w d c.raw):
  Calls Tryz.prog 66 #[Za #[J d.a1 d.l1 d.c1,J d.a2 d.l2 d.c2,J d.a3 d.l3 d.c3,J d.a4 d.l4 d.c4,J d.a5 d.l5 d.c5,Y4 Y5 c.now],I t] w (im (ck c t) w):=by
 have z445z:=@aa _ @aaD;exact cf
theorem dB.marks {c:Cl} {t:ByteArray} {o:Co} (h:dB c t o) (hf:bM c):eV 1 o.c.raw<=1152921504606846976:=by
 rcases h with ⟨n,_,_,rfl⟩|⟨_,_,i,x,j,k,_,_,_,_,⟨_,rfl⟩|⟨_,⟨_,rfl⟩|⟨_,h⟩⟩⟩
 ·exact aV _
 ·exact aV _
 ·exact aV _
 ·rcases h with ⟨j9,u,_,h2,rfl⟩|⟨_,⟨_,rfl⟩|⟨_,⟨_,rfl⟩|⟨_,⟨_,rfl⟩|⟨h8,rfl⟩⟩⟩⟩
  ·exact uC hf h2
  ·exact aV _
  ·exact aV _
  ·exact aV _
  ·exact um hf h8
end Rc
end Go.Proofs.YtiplhgedmjoliaaGreatDoor

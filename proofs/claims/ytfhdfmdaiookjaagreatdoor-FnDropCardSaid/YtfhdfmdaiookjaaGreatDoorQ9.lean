import Derived.Test.YtfhdfmdaiookjaaGreatDoorQ8
import Derived.Deep.CutRange
/-
 A Volume more, as the specification adds it.
-/
set_option maxRecDepth 100000
set_option maxHeartbeats 12800000
open Bool renaming false→Y_,true→Zb
open Go.Ending renaming returned→Za
open Go.IntKind renaming i64→Y6
open Go.Obj renaming cells→Y8
open Go.Value renaming string→I,slice→J,int→Y7,bool→Y9,agg→Zc,pointer→Zf,tuple→Zg
open Option renaming none→U,some→Y5
open Or renaming inr→Zd,inl→Ze
open And renaming intro→Yb
open Array renaming getElem?_push_size→Yg, getD_eq_getD_getElem?→Yr, getElem?_eq_some_iff→Yw
open Bool renaming and_eq_true→YG
open Classical renaming byContradiction→YH
open Go.Addr renaming add_lit→Yn
open Go.Calls renaming quiet_of_same→Yz
open Go.Op renaming bytesLess→Yk
open Go.Region renaming ready→YQ
open Go.RowKit.Below renaming heap_setCell→Ya, refl→Yh, heap_alloc→Yl
open Go.Value renaming string→Ym, ownBlock→YL
open List renaming getElem?_eq_some_iff→Yc, lookup→Yf, getElem?_eq_getElem→Yi, length_map→Yo, mem_of_getElem?→Ys, setIfInBounds_toArray→Yt, getElem?_append_left→Yu, getElem?_map→Yv, drop_eq_nil_of_le→Yx, getElem?_take→YA, set_cons_zero→YC, getElem?_of_mem→YD, set_cons_succ→YE, length_take→YF, forall_mem_cons→YI, take_of_length_le→YJ, take_add_one→YN, mem_cons→YO, foldr→YT
open Nat renaming le_refl→Ye, lt_of_lt_of_le→Yj, le_trans→Yp, zero_add→Yq, le_succ→Yy, zero_le→YK
open Option renaming map_eq_some_iff→YB
open Option.some renaming inj→Yd
namespace Go.Proofs.YtfhdfmdaiookjaaGreatDoor
variable {p:Prop}
namespace Mk
end Mk
open Go.RowKit Mk
variable {S:Nat->Prop} {v:Vd} {vs:List Vd} {w:World}
theorem kT(h:p:=by simp[results,Tryz.results78,go_sem, *]):p:=h
theorem nr(h:p:=by simp[results,Tryz.results80,go_sem, *]):p:=h
theorem nq(h:p:=by simp[results,Tryz.results82,go_sem, *]):p:=h
theorem gG(h:p:=by have:=s.2;omega):p:=h
theorem oK(h:p:=by rcases s with (s|s)|s <;> omega):p:=h
theorem oJ(h:p:=by simp only[cw];omega):p:=h
theorem Ae(h:p:=by simp[results,Tryz.results10,go_sem, *]):p:=h
theorem Ab(h:p:=by simp[results,Tryz.results11,go_sem, *]):p:=h
theorem ami(h:p:=by
 have hb5:Below wc.heap.size w10 w11:=(Yh wc.heap.size w10).grown hgr5 af (λg hg=>(HO4.lt g hg).1);obtain⟨t1,t2,t3,rfl⟩:=aA hown5;have H35:=aa (HB4.trans hb5);have HB5:=aa (HB9.trans (H35.mono HB9.size));have Bo5:=upK HBO H35.out;have Br5:=upK HBR H35.out;have hsel:=Sel.erase (xs:=c.xs) (vss:=vss) af (k:=i) af;rw[<-HW.out] at hsel;have hrec:=(hsel.ju (HVR.below H35.out)).ay (w':=w11) (S':=λk=>(λk=>wr.heap.size<=k/\¬k=w7.heap.size) k\/wc.heap.size<=k) (λ_ _ _ _=>rfl) (λk _ s=>Ze s);have z254z:=@aa _ @ad6;exact zV):p:=h
theorem P9(h:p:=by
 have z864z:=@aa _ @TD;exact cr):p:=h
theorem ah2(h:p:=by
 obtain⟨b,o,p,rfl,hb,hxn,hat⟩:=cg (HR.p.below HB.out) hlt;have z1042z:=@aa _ @M3;exact cK):p:=h
theorem ah0(h:p:=by
 have z864z:=@aa _ @TB;exact cr):p:=h
theorem ahY(h:p:=by
 have hk1:(k:Int)<vl:=af
 have z1185z:=@aa _ @Lt;exact eg):p:=h
theorem ahX(h:p:=by
 have hb5:Below w.heap.size w4 w5:=(Yh w.heap.size w4).grown hgr5 HB4.size (λg hg=>(HO4.lt g hg).1);obtain⟨t1,t2,t3,rfl⟩:=aA hown5;have H5:=aa (HB4.trans hb5);have hsel:=Sel.erase (xs:=xs) (vss:=vss) af (k:=i) af;rw[<-HW.out] at hsel;have hrec:=(hsel.ju (HVR.below H5.out)).ay (w':=w5) (S':=λk=>Q k\/w.heap.size<=k) (λ_ _ _ _=>rfl) (λk _ s=>Ze s);have z254z:=@aa _ @ad5;exact zV):p:=h
theorem ahT(h:p:=by
 have z557z:=@aa _ @aac;exact e_):p:=h
theorem ahS(h:p:=by
 obtain⟨fr0,fr1,fr2,fr3,fr4,fr5,fr6,fr7⟩:=gJ;have hrl:w.heap.size+1<w5.heap.size:=ae Br.out;go_wp2;exact bodyPost_ret (v:=Zc #[J U 0 0,J U 0 0,J U 0 0,J U 0 0,J U 0 0,Y7 Y6 0,I ⟨#[]⟩,Y7 Y6 11]) Ae rfl ⟨ad0,co0 11,rfl,HV.out,(rl0 _ _),sb1 (sb1 (sb1 (sb1 (sb1 (sb1 (sb1 (sb1 (HB.out))))))))⟩):p:=h
theorem al_(h:p:=by
 have h1:Below w7.heap.size w7 q1.w:=(ak w7 (Y8 (clv d' c.now) 29)).trans (HQB.mono aG);exact⟨HO.n.ay (λk hk _=>h1.block k hk) (λk hk s=>⟨s,by omega⟩),HO.k.ay (λk hk _=>h1.block k hk) (λk hk s=>⟨s,by omega⟩),HO.v.ay (λk hk _=>h1.block k hk) (λk hk s=>⟨s,by omega⟩),HO.x.ay (λk hk _=>h1.block k hk) (λk hk s=>⟨s,by omega⟩),HO.p.ay (λk hk _=>h1.block k hk) (λk hk s=>⟨s,by omega⟩)⟩):p:=h
theorem ahC(h:p:=by
 go_wp2;exact bodyPost_ret (v:=Zc #[J U 0 0,J U 0 0,J U 0 0,J U 0 0,J U 0 0,Y7 Y6 0,I ⟨#[]⟩,Y7 Y6 1]) kT rfl ⟨ad0,co0 1,rfl,HV.out,i_ _ _,et (show w.heap.size<=w.heap.size+1+1 by omega) (HB.out)⟩):p:=h
theorem akA(h:p:=by
 rw[Yv,YB] at hu;obtain⟨z,hz,rfl⟩:=hu;obtain⟨b,o,x,rfl,hb,hx,hc,hsz⟩:=HXQ.at (k:=j) dz;rw[hz] at hx;cases hx;exact⟨_,rfl,by rw[Yn];exact (ai hW hb).trans hc⟩):p:=h
theorem QC(h:p:=by
 have h1:vss[0]?=Y5 (vss[0]'(by omega)):=Yi _;have h2:0<(vss[0]'(by omega)).length:=by rw[HVR.all 0 _ h1];decide
 obtain⟨g,e,_⟩:=HCQ.out _ _ (gi HVR.all h1 (Yi h2));cases e):p:=h
theorem akv(h:p:=by
 obtain⟨g,e,h3⟩:=HC.out j u hj;exact⟨g,e,Yj (bG h3) H4.size,(ai H4.out (bG h3)).trans h3⟩):p:=h
theorem akr(h:p:=by
 intro j u hu;rw[Yn,Yq];exact (ai (ak wc _) hbS).trans (HC.out _ _ (cD hu))):p:=h
theorem Pw(h:p:=by
 obtain⟨hs10,HRX⟩:=hcut;subst hs10;obtain⟨sa,sl,sc,vs,hds,hbo,hbr,hn9,hk9,hv9,hx9,hp9,hb9⟩:=HRX.out;clear HRX;have HV:Hid (a_ c t ⟨fJ c t vs,⟨#[]⟩,0⟩):=Zd ⟨HL.out,HT.out,HOK.out,vs,hds,rfl⟩;have HW:=aa (jd HRI.out HX.out HN.out);have hxl:d'.l4=l4:=by have h6:(c.xs.map xdF).length=d'.l4:=hx9.1;rw[Yo] at h6;omega
 have hmn:l4<=d'.c4:=by rw[<-hxl];exact hx9.2.1
 have hmx:d'.c4<=9223372036854775807:=hx9.2.2.1;have hq9:w7.heap.size<wc.heap.size:=ae hbo;have hqr9:w.heap.size+1<wc.heap.size:=ae hbr;obtain⟨vss,H,hV,hcell⟩:=hx9.ju;have hvl:vss.length=l4:=by have h6:vss.length=(c.xs.map xdF).length:=hV.len;rw[Yo] at h6;omega
 obtain⟨b,hxa,hbS⟩:∃b,d'.a4=Y5 ⟨b,0,U⟩/\b<wc.heap.size:=by
  exact Ox
 have HC:Hid (∀(j:Nat) u,vss.flatten[j]?=Y5 u->wc.cell? ⟨b,j,U⟩=Y5 u):=λj u hj=>by
  obtain⟨g,e,_,h3⟩:=hcell j u hj;rw[hxa] at e;cases e;exact h3
 have HVR:=aa hV;obtain⟨i5,hi5',hz0,hz1,hz2⟩:=info_parts nL;have HI0:=aa (Yb hi5' (Yb hz0 (Yb hz1 hz2)));have hown0:World.ownsRow (wc.alloc (Y8 #[] 50)) wc.heap.size 50 5 (J (Y5 ⟨wc.heap.size,0,U⟩) 0 0) 0 []:=⟨by simp,Zd ⟨wc.heap.size,0,#[],rfl,Ye _,Yg,Ye _,by unfold maxLen;omega,by simp,by simp⟩⟩;have HOW:=aa hown0;have hik:(i:Int)<=d'.c4:=af
 have HN9:=aa hn9;have HK9:=aa hk9;have HV9:=aa hv9;have HP9:=aa hp9;have HB9:=aa hb9;have HBO:=aa hbo;have HBR:=aa hbr;obtain⟨o0,o1,o2,o3,o4,o5⟩:=cs6 hbo;rw[hxa] at o3;rw[hxl] at o3;clear hV hcell hx9 hi5' hz0 hz1 hz2 hown0 hn9 hk9 hv9 hp9 hb9 hbo hbr hds HX HN HRI;go_wp2_with (first|(at_builtin;refine wpList_append_own _ rfl _ _ 26 rfl wc.heap.size 50 i5 (Zc #[I ⟨#[]⟩,Y7 Y6 0,I ⟨#[]⟩,Y9 Y_,I ⟨#[]⟩]) 5 64 Tryz.underlying26 HI0.1 HI0.2.1 HI0.2.2.1 HI0.2.2.2 rfl ag _ 0 [] rfl (HOW.out) ⟨b,0,U⟩ i d'.c4 (vss.take i).flatten rfl ?c1 ?c2 ?c3 ?c4 ?c5 ?c6 ?_));case c1=>exact bw HVR.all af
 case c2=>
  exact akr
 case c3=>exact (aD HVR.one i).1
 case c4=>unfold maxLen;omega
 case c5=>omega
 case c6=>simp
 rintro v1 w10 hown4 hgr4 -;replace hown4:w10.ownsRow wc.heap.size 50 5 v1 i (vss.take i).flatten:=by simpa using hown4
 have hb4:Below wc.heap.size wc w10:=((Yh wc.heap.size _).alloc (Ye _) _).grown hgr4 aG (λg hg=>by simp[YL] at hg;omega);obtain⟨s1,s2,s3,rfl⟩:=aA hown4;have HB4:=aa hb4;have HO4:=aa hown4;have hs4:=hb4.size;have Bo4:=upK HBO hb4;clear hown4 hgr4 hb4 HOW o0 o1 o2 o3 o4 o5;obtain⟨o0,o1,o2,o3,o4,o5⟩:=cs6 Bo4;rw[hxa] at o3;rw[hxl] at o3;have hol:=ae Bo4.out;have hik1:((i:Int)+1)<=l4:=af
 by_cases hcap:d'.c4=i+1
 ·have hmi:l4=i+1:=af
  have hvd:vss.drop (i+1)=[]:=Yx af;rw[hcap,hmi] at o3;go_wp2_with (first|(at_builtin;refine wpList_append_own _ rfl _ _ 26 rfl wc.heap.size 50 i5 (Zc #[I ⟨#[]⟩,Y7 Y6 0,I ⟨#[]⟩,Y9 Y_,I ⟨#[]⟩]) 5 64 Tryz.underlying26 HI0.1 HI0.2.1 HI0.2.2.1 HI0.2.2.2 rfl ag _ _ _ rfl (HO4.out) ⟨b,0,U⟩ 0 0 [] rfl ?c1 ?c2 ?c3 ?c4 ?c5 ?c6 ?_));case c1=>rfl
  case c2=>intro j u hu;simp at hu
  case c3=>intro u hu;simp at hu
  case c4=>unfold maxLen;omega
  case c5=>omega
  case c6=>omega
  rintro v2 w11 hown5 hgr5 -;have hlen5:(wo Xd.n t c.xs).length=l4 - 1:=by rw[HW.out];simp;omega
  replace hown5:w11.ownsRow wc.heap.size 50 5 v2 (wo Xd.n t c.xs).length (vss.take i++vss.drop (i+1)).flatten:=by
   rw[hlen5,List.flatten_append];rw[hvd,hmi];simpa using hown5
  exact ami
 ·go_wp2_with (first|(at_builtin;refine wpList_append_own _ rfl _ _ 26 rfl wc.heap.size 50 i5 (Zc #[I ⟨#[]⟩,Y7 Y6 0,I ⟨#[]⟩,Y9 Y_,I ⟨#[]⟩]) 5 64 Tryz.underlying26 HI0.1 HI0.2.1 HI0.2.2.1 HI0.2.2.2 rfl ag _ _ _ rfl (HO4.out) ⟨b,(i+1)*5,U⟩ (l4 - (i+1)) (d'.c4 - (i+1)) (vss.drop (i+1)).flatten rfl ?c1 ?c2 ?c3 ?c4 ?c5 ?c6 ?_));case c1=>rw[dS HVR.all,hvl]
  case c2=>
   exact OG
  case c3=>exact (aD HVR.one (i+1)).2
  case c4=>unfold maxLen;omega
  case c5=>omega
  case c6=>omega
  rintro v2 w11 hown5 hgr5 -;have hlen5:(wo Xd.n t c.xs).length=l4 - 1:=by rw[HW.out];simp;omega
  replace hown5:w11.ownsRow wc.heap.size 50 5 v2 (wo Xd.n t c.xs).length (vss.take i++vss.drop (i+1)).flatten:=by
   rw[hlen5,List.flatten_append];have e9:l4 - 1=i+(l4 - (i+1)):=af
   rw[e9];exact hown5
  exact ami):p:=h
theorem Pu(h:p:=by
 have z483z:=@aa _ @aa0;exact cQ):p:=h
theorem Pm(h:p:=by
 go_wp2;exact bodyPost_ret (v:=Zc #[J U 0 0,J U 0 0,J U 0 0,J U 0 0,J U 0 0,Y7 Y6 0,I ⟨#[]⟩,Y7 Y6 1]) nr rfl ⟨ad0,co0 1,rfl,HV.out,i_ _ _,sb2 (sb2 (sb2 (sb2 (sb2 (sb2 (sb2 (sb2 (HB.out))))))))⟩):p:=h
theorem O4(h:p:=by
 have z1061z:=@aa _ @ahP;exact gW):p:=h
theorem OP(h:p:=by
 go_wp2;exact bodyPost_ret (v:=Zc #[J U 0 0,J U 0 0,J U 0 0,J U 0 0,J U 0 0,Y7 Y6 0,I ⟨#[]⟩,Y7 Y6 1]) nq rfl ⟨ad0,co0 1,rfl,HV.out,i_ _ _,et (show w.heap.size<=w.heap.size+1+1 by omega) (HB.out)⟩):p:=h
theorem OG(h:p:=by
 intro j u hu;rw[Yn];exact (ai HB4.out hbS).trans (HC.out _ _ (cV HVR.all af hu))):p:=h
theorem am5(h:p:=by
 have hxl9:=ae Bx9.out;have fx9:=al Bx9.out 3;have hol9:=ae Bo9.out;have HU0:Hid (Below w.heap.size w (w9.setCell ⟨w.heap.size+1,3,U⟩ (J sa vl sc))):=ah af (HB.trans (H9.mono HB.size));have hku:∀k9,¬k9=w.heap.size+1->(w9.setCell ⟨w.heap.size+1,3,U⟩ (J sa vl sc)).heap[k9]?=w9.heap[k9]?:=λk9 h=>Ya _ _ _ _ h;have hsu:(w9.setCell ⟨w.heap.size+1,3,U⟩ (J sa vl sc)).heap.size=w9.heap.size:=kS
 have BxU:Hid ((w9.setCell ⟨w.heap.size+1,3,U⟩ (J sa vl sc)).heap[w.heap.size+1]?=Y5 (Y8 #[I xn,Y7 Y6 xc,I xz,J sa vl sc,I xd,Y7 Y6 0] 40 (0,0))):=ais Bx9.out;have BoU:=aa ((hku w4.heap.size af).trans Bo9.out);have BrU:=aa ((hku (w.heap.size+1+1) af).trans Br9.out);have hTU:bS (w9.setCell ⟨w.heap.size+1,3,U⟩ (J sa vl sc)) sa vl sc zs (λk=>q2.w.heap.size<=k):=HT9.ay (λk hk s=>hku k (by have s1:q2.w.heap.size<=k:=s;omega)) (λ_ _ s=>s);have hkf:∀k9,k9<q2.w.heap.size->wr3<=k9/\k9<w4.heap.size->(w9.setCell ⟨w.heap.size+1,3,U⟩ (J sa vl sc)).heap[k9]?=q2.w.heap[k9]?:=λk9 h s=>(hku k9 af).trans (H9.block k9 h);have HFU:Hid (df (w9.setCell ⟨w.heap.size+1,3,U⟩ (J sa vl sc)) ⟨g1,m1,n1,g2,m2,n2,g3,m3,n3,g4,m4,n4,g5,l5,n5⟩ c.raw (λk=>wr3<=k/\k<w4.heap.size)):=⟨HQF.n.ay hkf (λ_ _ s=>s),HQF.k.ay hkf (λ_ _ s=>s),HQF.v.ay hkf (λ_ _ s=>s),HQF.x.ay hkf (λ_ _ s=>s),HQF.p.ay hkf (λ_ _ s=>s)⟩;exact Yb hxl9 (Yb fx9 (Yb hol9 (Yb HU0 (Yb hku (Yb hsu (Yb BxU (Yb BoU (Yb BrU (Yb hTU (Yb hkf HFU))))))))))):p:=h
theorem al0(h:p:=by
 have HFIN:Hid (∀(W:World) v4 k,k=pl Pd.n c.ps xn->Below (w9.setCell ⟨w.heap.size+1,3,U⟩ (J sa vl sc)).heap.size (w9.setCell ⟨w.heap.size+1,3,U⟩ (J sa vl sc)) W->W.ownsRow w9.heap.size 40 6 v4 (l5+1) (aR k [I xn,Y7 Y6 xc,I xz,J sa vl sc,I xd,Y7 Y6 0] vss).flatten->∃a' c',v4=J a' (l5+1) c'/\aw W a' (l5+1) c' 6 40 ((aR (pl Pd.n c.ps xn) (⟨xn,xc,xz,zs,xd,0⟩:Pd) c.ps).map pdF) (λk=>((wr3<=k/\k<w4.heap.size)\/q2.w.heap.size<=k)\/(w9.setCell ⟨w.heap.size+1,3,U⟩ (J sa vl sc)).heap.size<=k)):=λW v4 k hk hB4 ho4=>akH (x:=(⟨xn,xc,xz,zs,xd,0⟩:Pd)) (hh:=gh) hV hlc hk af hB4 (λi f hf=>by rcases i with _|_|_|_|_|_|i <;> simp[pdF] at hf <;> subst hf;exact⟨_,rfl,rfl,z0⟩;exact⟨_,rfl,rfl⟩;exact⟨_,rfl,rfl,z2⟩;exact⟨_,rfl,hg⟩;exact⟨_,rfl,rfl,z4⟩;exact⟨_,rfl,rfl⟩) (λk e1 e2=>by have e3:=e1.2;have e4:q2.w.heap.size<=k:=e2;omega) ho4;have HOW:Hid (((w9.setCell ⟨w.heap.size+1,3,U⟩ (J sa vl sc)).alloc (Y8 #[] 40)).ownsRow w9.heap.size 40 6 (J (Y5 ⟨w9.heap.size,0,U⟩) 0 0) 0 []):=by have h9:=World.ownsRow_made (e:=40) (size:=6) (w9.setCell ⟨w.heap.size+1,3,U⟩ (J sa vl sc)) #[] 0 (Ye _) (YK _) aG;rw[hsu] at h9;exact h9
 exact Yb HFIN HOW):p:=h
theorem aho(h:p:=by
 have Gr:Hid ((w7.alloc (Y8 (clv d' c.now) 29)).heap[w.heap.size+1]?=Y5 (Y8 #[J U 0 0,J U 0 0,J U 0 0,J U 0 0,J U 0 0,Y7 Y6 0,I ⟨#[]⟩,Y7 Y6 0] 33 (0,0))):=(Yl _ _ _ (ae Br.out)).trans (Br.out);have Go:Hid ((w7.alloc (Y8 (clv d' c.now) 29)).heap[w7.heap.size]?=Y5 (Y8 (clv d' c.now) 29 (0,0))):=Yg;have HW:Hid (Below w.heap.size w (w7.alloc (Y8 (clv d' c.now) 29))):=(HB.trans ((ak _ _).mono HB.size));exact Yb Gr (Yb Go HW)):p:=h
theorem alT(h:p:=by
 have hq1:=HQ1.out;have hq2:=HQ2.out;have hs4:=HB4.size;have hs5:wr.heap.size<=q2.w.heap.size:=q2.b.size;have h4Q:Below w4.heap.size w4 q2.w:=HB4.trans (q2.b.mono HB4.size);have HQF:Hid (df q2.w ⟨g1,m1,n1,g2,m2,n2,g3,m3,n3,g4,m4,n4,g5,l5,n5⟩ c.raw (λk=>wr3<=k/\k<w4.heap.size)):=⟨(HFR.n.bm (λk hk s=>⟨s,hk⟩)).below h4Q,(HFR.k.bm (λk hk s=>⟨s,hk⟩)).below h4Q,(HFR.v.bm (λk hk s=>⟨s,hk⟩)).below h4Q,(HFR.x.bm (λk hk s=>⟨s,hk⟩)).below h4Q,(HFR.p.bm (λk hk s=>⟨s,hk⟩)).below h4Q⟩;exact Yb hq1 (Yb hq2 (Yb hs4 (Yb hs5 (Yb h4Q HQF))))):p:=h
theorem Am(h:p:=by
 have HB3:=upB HW q1.b;have Ck:=upK Gk q1.b;have Cx:=upK Gx q1.b;have Cr:=upK Gr q1.b;exact Yb HB3 (Yb Ck (Yb Cx Cr))):p:=h
theorem oQ(h:p:=by
 have HB6:=upB HW q2.b;have Ck:=upK Gk q2.b;have Cx:=upK Gx q2.b;have Cr:=upK Gr q2.b;have Co:=upK Go q2.b;exact Yb HB6 (Yb Ck (Yb Cx (Yb Cr Co)))):p:=h
theorem N5(h:p:=by
 have mz:=λq:Wd wr=>(q.cell hb).trans c6;have mn:∀q:Wd wr,q.w.cell? ⟨b3,o3+k*8,U⟩=Y5 (I x.n):=λq=>(q.cell (hb3')).trans (g0);have hne0:=Wd.ne wr;exact Yb mz (Yb mn hne0)):p:=h
theorem alK(h:p:=by
 have hq1:=HQ1.out;have hq2:=HQ2.out;have hs5:=H4.size;have hok:=ae Bo.out;have HOW:Hid ((q2.w.alloc (Y8 #[] 50)).ownsRow q2.w.heap.size 50 5 (J (Y5 ⟨q2.w.heap.size,0,U⟩) 0 0) 0 []):=World.ownsRow_made q2.w #[] 0 (Ye _) (YK _) aG;have hik:(k:Int)<=n4:=af
 have hkn:k<=n4:=af
 exact Yb hq1 (Yb hq2 (Yb hs5 (Yb hok (Yb HOW (Yb hik hkn)))))):p:=h
theorem kW(h:p:=by
 have Gk:=Bk;have Gx:=Bx;have Gr:=Br;have HW:=HB;exact Yb Gk (Yb Gx (Yb Gr HW))):p:=h
theorem alB(h:p:=by
 have HOW0:Hid ((q2.w.alloc (Y8 #[] 9)).ownsRow q2.w.heap.size 9 1 (J (Y5 ⟨q2.w.heap.size,0,U⟩) 0 0) 0 []):=World.ownsRow_made q2.w #[] 0 (Ye _) (YK _) aG;have HXQ:=aa (HX.below HB.out);exact Yb HOW0 HXQ):p:=h
theorem Od(h:p:=by
 have hne0:=Wd.ne w2;have HC0:=aa (λq:Wd w2=>eL ⟨a1,l1,y1,a2,l2,y2,a3,l3,y3,a4,l4,y4,a5,l5,y5⟩ c.now c.xs x.n q.w (HR.x.below (HW.trans (q.b.mono HW.size))) HMS.out);exact Yb hne0 HC0):p:=h
theorem Oc(h:p:=by
 have hne0:=Wd.ne w2;have HC0:=aa (λq:Wd w2=>AQ ⟨a1,l1,y1,a2,l2,y2,a3,l3,y3,a4,l4,y4,a5,l5,y5⟩ c.now c.ps xn q.w (HR.p.below (HW.trans (q.b.mono HW.size))) HMS.out);exact Yb hne0 HC0):p:=h
theorem ajT(h:p:=by
 go_wp2;exact bodyPost_ret (v:=Zc #[J U 0 0,J U 0 0,J U 0 0,J U 0 0,J U 0 0,Y7 Y6 0,I ⟨#[]⟩,Y7 Y6 p]) Ae rfl ⟨ad0,co0 p,rfl,HV.out,(rl0 _ _),sb1 (sb1 (sb1 (sb1 (sb1 (sb1 (sb1 (sb1 (HB.out))))))))⟩):p:=h
theorem ajS(h:p:=by
 go_wp2;exact bodyPost_ret (v:=Zc #[J U 0 0,J U 0 0,J U 0 0,J U 0 0,J U 0 0,Y7 Y6 0,I ⟨#[]⟩,Y7 Y6 p]) Ab rfl ⟨ad0,co0 p,rfl,HV.out,(rl0 _ _),sb1 (sb1 (sb1 (sb1 (sb1 (sb1 (sb1 (sb1 (HB.out))))))))⟩):p:=h
theorem ajn(h:p:=by
 rintro _ ⟨q2,rfl⟩;obtain⟨HB6,Ck,Cx,Cr,Co⟩:=oQ;clear hne0 HW HB k3 x0 yn Gk Gx Gr Go Bk Bx Br Bo hc0 hbw;have z1061z:=@aa _ @MX;exact gW):p:=h
theorem ajm(h:p:=by
 rintro _ ⟨q2,rfl⟩;obtain⟨HB6,Ck,Cx,Cr,Co⟩:=oQ;clear hne0 HW HB k3 x0 yn Gk Gx Gr Go Bk Bx Br Bo hc0 hbw;exact O4):p:=h
theorem ajl(h:p:=by
 rintro _ ⟨q2,rfl⟩;obtain⟨HB6,Ck,Cx,Cr,Co⟩:=oQ;clear hne0 HW HB k3 x0 Gk Gx Gr Go Bk Bx Br Bo;have z1061z:=@aa _ @MW;exact gW):p:=h
theorem ajk(h:p:=by
 have z767z:=@aa _ @Vb;exact yQ):p:=h
theorem ajj(h:p:=by
 rintro _ ⟨q2,rfl⟩;obtain⟨HB6,Ck,Cx,Cr,Co⟩:=oQ;clear hne0 HW HB k4 x0 yn Gk Gx Gr Go Bk Bx Br Bo hc0 hbw;have z1061z:=@aa _ @MV;exact gW):p:=h
theorem aji(h:p:=by
 rintro _ ⟨q2,rfl⟩;obtain⟨HB6,Ck,Cx,Cr,Co⟩:=oQ;clear hne0 HW HB k4 x0 yn Gk Gx Gr Go Bk Bx Br Bo hc0 hbw;exact O4):p:=h
theorem ajh(h:p:=by
 rintro _ ⟨q2,rfl⟩;obtain⟨HB6,Ck,Cx,Cr,Co⟩:=oQ;clear hne0 HW HB k4 x0 Gk Gx Gr Go Bk Bx Br Bo;have z1061z:=@aa _ @MU;exact gW):p:=h
theorem ajg(h:p:=by
 rintro _ ⟨q1,rfl⟩;obtain⟨HB1,Ck⟩:=iL;clear hne0 HW HB k0 k1 k2 k3 k4 k5 mz mn Gk Bk g0;have HB:=HB1;clear HB1;have Bk:=Ck;clear Ck;go_wp2;refine⟨⟨j+1,Zb,by omega,rfl,by go_num,show _↔_ from ⟨λ_=>(HS.1 bM).elim Ze (λ⟨i,m,h1,h2⟩=>Zd ⟨i,m,by omega,h2⟩),λ_=>rfl⟩,HB.out,Bk.out⟩,by simp[intOf];omega⟩):p:=h
theorem ajf(h:p:=by
 rintro _ ⟨q1,rfl⟩;have HB6:=upB HW q1.b;obtain⟨Ck,Cr⟩:=eu;have Co:=upK Go q1.b;clear hne0 HW HB k0 k1 k2 k3 k4 k5 Gk Gr Go Bk Br hszv6;have HB:=HB6;clear HB6;have z976z:=@aa _ @Sh;exact yv):p:=h
theorem aje(h:p:=by
 have z767z:=@aa _ @Va;exact yQ):p:=h
theorem afV(h:p:=by
 have z501z:=@aa _ @aaX;exact pV):p:=h
theorem afU(h:p:=by
 have z501z:=@aa _ @aaW;exact pV):p:=h
theorem afT(h:p:=by
 have z501z:=@aa _ @aaV;exact pV):p:=h
theorem afS(h:p:=by
 have z505z:=@aa _ @aaU;exact zn):p:=h
theorem afR(h:p:=by
 have z505z:=@aa _ @aaT;exact zn):p:=h
theorem afQ(h:p:=by
 have z498z:=@aa _ @aaZ;exact zo):p:=h
theorem afP(h:p:=by
 have z498z:=@aa _ @aaY;exact zo):p:=h
theorem afO(h:p:=by
 have z757z:=@aa _ @Vj;exact yS):p:=h
theorem afN(h:p:=by
 have z757z:=@aa _ @Vi;exact yS):p:=h
theorem afM(h:p:=by
 have z521z:=@aa _ @aaB;exact fa):p:=h
theorem afr(h:p:=by
 have ltr_2:=ae Br.out;obtain⟨fr0,fr1,fr2,fr3,fr4,fr5,fr6,fr7⟩:=gJ;have hrl:w.heap.size+1+1<w2.heap.size:=ae Br.out;exact Pm):p:=h
theorem afq(h:p:=by
 have ltr_5:=ae Br.out;obtain⟨fr0,fr1,fr2,fr3,fr4,fr5,fr6,fr7⟩:=gJ;have hrl:w.heap.size+1+1<w4.heap.size:=ae Br.out;go_wp2;exact bodyPost_ret (v:=Zc #[J U 0 0,J U 0 0,J U 0 0,J U 0 0,J U 0 0,Y7 Y6 0,I ⟨#[]⟩,Y7 Y6 6]) nr rfl ⟨ad0,co0 6,rfl,HV.out,i_ _ _,sb2 (sb2 (sb2 (sb2 (sb2 (sb2 (sb2 (sb2 (HB.out))))))))⟩):p:=h
theorem afp(h:p:=by
 have ltr_5:=ae Br.out;have z1272z:=@aa _ @J_;exact jO):p:=h
theorem afo(h:p:=by
 have ltr_3:=ae Br.out;have z557z:=@aa _ @aab;exact e_):p:=h
theorem afn(h:p:=by
 have ltr_3:=ae Br.out;have z557z:=@aa _ @aaa;exact e_):p:=h
theorem afm(h:p:=by
 have ltr_4:=ae Br.out;exact ahT):p:=h
theorem afl(h:p:=by
 have ltr_3:=ae Br.out;exact ahT):p:=h
theorem afk(h:p:=by
 have ltr_3:=ae Br.out;obtain⟨fr0,fr1,fr2,fr3,fr4,fr5,fr6,fr7⟩:=j6 Br.out;have hrl:w.heap.size+1+1<w3.heap.size:=ae Br.out;exact OP):p:=h
theorem afj(h:p:=by
 have ltr_3:=ae Br.out;obtain⟨fr0,fr1,fr2,fr3,fr4,fr5,fr6,fr7⟩:=gJ;have hrl:w.heap.size+1+1<w3.heap.size:=ae Br.out;exact Pm):p:=h
theorem afi(h:p:=by
 have ltr_2:=ae Br.out;obtain⟨fr0,fr1,fr2,fr3,fr4,fr5,fr6,fr7⟩:=j6 Br.out;have hrl:w.heap.size+1+1<w2.heap.size:=ae Br.out;exact OP):p:=h
theorem aeX(h:p:=by
 obtain⟨x0,x1,x2,x3,x4,x5⟩:=cs6 Bx;have ltx_1:=ae Bx.out;go_wp2_with fail;refine (jl x.n x.c x.z va vl vc x.zs x.d x.p _ z0 z2 z4 (HX.below HB.out)).mono ?_;rintro e w2 ⟨r,rfl,-,hb⟩;clear k0 k1 k2 k3 k4 k5 ltk_1 x0 x1 x2 x3 x4 x5 ltx_1;have z830z:=@aa _ @Uo;exact cF):p:=h
theorem ad6(h:p:=by
 have HT2:=aa ht2;have HR5:=aa hR;have hs5:=hb5.size;clear o0 o1 o2 o3 o4 o5;have z1168z:=@aa _ @LF;exact tC):p:=h
theorem ad5(h:p:=by
 have HR5:=aa hR;clear hown5 hgr5 hb5 hsel hrec hR ht2 hlen5;go_wp2;go_ret;exact⟨_,_,_,rfl,HR5.out,H5.out⟩):p:=h
theorem zV(h:p:=by
 have z786z:=@aa _ @UX;exact yM):p:=h
theorem acw(h:p:=by
 have hrl:w.heap.size+1<w4.heap.size:=af
 obtain⟨hne,hne2⟩:=N2;go_wp2;have hlo:=HLO.out;refine bodyPost_ret (v:=Zc #[J d'.a1 d'.l1 d'.c1,J d'.a2 d'.l2 d'.c2,J a' l' c',J d'.a4 d'.l4 d'.c4,J d'.a5 d'.l5 d'.c5,Y7 Y6 c.now,I ⟨#[]⟩,Y7 Y6 0]) Ab rfl ⟨⟨d'.a1,d'.l1,d'.c1,d'.a2,d'.l2,d'.c2,a',l',c',d'.a4,d'.l4,d'.c4,d'.a5,d'.l5,d'.c5⟩,⟨iO c t,⟨#[]⟩,0⟩,rfl,HV.out,?_,sb1 (sb1 (sb1 (sb1 (sb1 (sb1 (sb1 (sb1 (ah (show w.heap.size<=w3.heap.size by omega) (HB.out)))))))))⟩;have hkeep:∀k,w5.heap.size<=k->¬k=w3.heap.size->(((((((((w4.setCell ⟨w3.heap.size,2,U⟩ (J a' l' c')).setCell ⟨w.heap.size+1,0,U⟩ (J d'.a1 d'.l1 d'.c1)).setCell ⟨w.heap.size+1,1,U⟩ (J d'.a2 d'.l2 d'.c2)).setCell ⟨w.heap.size+1,2,U⟩ (J a' l' c')).setCell ⟨w.heap.size+1,3,U⟩ (J d'.a4 d'.l4 d'.c4)).setCell ⟨w.heap.size+1,4,U⟩ (J d'.a5 d'.l5 d'.c5)).setCell ⟨w.heap.size+1,5,U⟩ (Y7 Y6 c.now)).setCell ⟨w.heap.size+1,6,U⟩ (I ⟨#[]⟩)).setCell ⟨w.heap.size+1,7,U⟩ (Y7 Y6 0)).heap[k]?=w4.heap[k]?:=λk h1 h2=>by rw[Ya _ _ _ _ (show k≠w.heap.size+1 by omega),Ya _ _ _ _ (show k≠w.heap.size+1 by omega),Ya _ _ _ _ (show k≠w.heap.size+1 by omega),Ya _ _ _ _ (show k≠w.heap.size+1 by omega),Ya _ _ _ _ (show k≠w.heap.size+1 by omega),Ya _ _ _ _ (show k≠w.heap.size+1 by omega),Ya _ _ _ _ (show k≠w.heap.size+1 by omega),Ya _ _ _ _ (show k≠w.heap.size+1 by omega),Ya _ _ _ _ (show k≠w3.heap.size by omega)]
 refine⟨?_,?_,?_,?_,?_⟩
 ·exact (HO.n.ay (w':=(((((((((w4.setCell ⟨w3.heap.size,2,U⟩ (J a' l' c')).setCell ⟨w.heap.size+1,0,U⟩ (J d'.a1 d'.l1 d'.c1)).setCell ⟨w.heap.size+1,1,U⟩ (J d'.a2 d'.l2 d'.c2)).setCell ⟨w.heap.size+1,2,U⟩ (J a' l' c')).setCell ⟨w.heap.size+1,3,U⟩ (J d'.a4 d'.l4 d'.c4)).setCell ⟨w.heap.size+1,4,U⟩ (J d'.a5 d'.l5 d'.c5)).setCell ⟨w.heap.size+1,5,U⟩ (Y7 Y6 c.now)).setCell ⟨w.heap.size+1,6,U⟩ (I ⟨#[]⟩)).setCell ⟨w.heap.size+1,7,U⟩ (Y7 Y6 0))) (λk hk s=>(hkeep k s af).trans (H34.block k hk)) (λ_ _ s=>s)).rl (λk s=>loq)
 ·exact (HO.k.ay (w':=(((((((((w4.setCell ⟨w3.heap.size,2,U⟩ (J a' l' c')).setCell ⟨w.heap.size+1,0,U⟩ (J d'.a1 d'.l1 d'.c1)).setCell ⟨w.heap.size+1,1,U⟩ (J d'.a2 d'.l2 d'.c2)).setCell ⟨w.heap.size+1,2,U⟩ (J a' l' c')).setCell ⟨w.heap.size+1,3,U⟩ (J d'.a4 d'.l4 d'.c4)).setCell ⟨w.heap.size+1,4,U⟩ (J d'.a5 d'.l5 d'.c5)).setCell ⟨w.heap.size+1,5,U⟩ (Y7 Y6 c.now)).setCell ⟨w.heap.size+1,6,U⟩ (I ⟨#[]⟩)).setCell ⟨w.heap.size+1,7,U⟩ (Y7 Y6 0))) (λk hk s=>(hkeep k s af).trans (H34.block k hk)) (λ_ _ s=>s)).rl (λk s=>loq)
 ·exact (HNR.ay (w':=(((((((((w4.setCell ⟨w3.heap.size,2,U⟩ (J a' l' c')).setCell ⟨w.heap.size+1,0,U⟩ (J d'.a1 d'.l1 d'.c1)).setCell ⟨w.heap.size+1,1,U⟩ (J d'.a2 d'.l2 d'.c2)).setCell ⟨w.heap.size+1,2,U⟩ (J a' l' c')).setCell ⟨w.heap.size+1,3,U⟩ (J d'.a4 d'.l4 d'.c4)).setCell ⟨w.heap.size+1,4,U⟩ (J d'.a5 d'.l5 d'.c5)).setCell ⟨w.heap.size+1,5,U⟩ (Y7 Y6 c.now)).setCell ⟨w.heap.size+1,6,U⟩ (I ⟨#[]⟩)).setCell ⟨w.heap.size+1,7,U⟩ (Y7 Y6 0))) (λk hk s=>hkeep k fD fD) (λ_ _ s=>s)).rl (λk s=>loq)
 ·exact (HO.x.ay (w':=(((((((((w4.setCell ⟨w3.heap.size,2,U⟩ (J a' l' c')).setCell ⟨w.heap.size+1,0,U⟩ (J d'.a1 d'.l1 d'.c1)).setCell ⟨w.heap.size+1,1,U⟩ (J d'.a2 d'.l2 d'.c2)).setCell ⟨w.heap.size+1,2,U⟩ (J a' l' c')).setCell ⟨w.heap.size+1,3,U⟩ (J d'.a4 d'.l4 d'.c4)).setCell ⟨w.heap.size+1,4,U⟩ (J d'.a5 d'.l5 d'.c5)).setCell ⟨w.heap.size+1,5,U⟩ (Y7 Y6 c.now)).setCell ⟨w.heap.size+1,6,U⟩ (I ⟨#[]⟩)).setCell ⟨w.heap.size+1,7,U⟩ (Y7 Y6 0))) (λk hk s=>(hkeep k s af).trans (H34.block k hk)) (λ_ _ s=>s)).rl (λk s=>loq)
 ·exact (HO.p.ay (w':=(((((((((w4.setCell ⟨w3.heap.size,2,U⟩ (J a' l' c')).setCell ⟨w.heap.size+1,0,U⟩ (J d'.a1 d'.l1 d'.c1)).setCell ⟨w.heap.size+1,1,U⟩ (J d'.a2 d'.l2 d'.c2)).setCell ⟨w.heap.size+1,2,U⟩ (J a' l' c')).setCell ⟨w.heap.size+1,3,U⟩ (J d'.a4 d'.l4 d'.c4)).setCell ⟨w.heap.size+1,4,U⟩ (J d'.a5 d'.l5 d'.c5)).setCell ⟨w.heap.size+1,5,U⟩ (Y7 Y6 c.now)).setCell ⟨w.heap.size+1,6,U⟩ (I ⟨#[]⟩)).setCell ⟨w.heap.size+1,7,U⟩ (Y7 Y6 0))) (λk hk s=>(hkeep k s af).trans (H34.block k hk)) (λ_ _ s=>s)).rl (λk s=>loq)):p:=h
theorem abM(h:p:=by
 have z934z:=@aa _ @SQ;exact yB):p:=h
theorem abL(h:p:=by
 have z934z:=@aa _ @SP;exact yB):p:=h
theorem zp(h:p:=by
 have HI0:=aa (Yb hi5' (Yb hz0' (Yb hz1' hz2')));clear hi0' hz0 hz1 hz2 hi5' hz0' hz1' hz2' h4Q;obtain⟨HOW0,HXQ⟩:=alB;have HBX:Hid (∀(W:World),Below q2.w.heap.size q2.w W->∀(j:Nat) u,(zs.map Ym)[j]?=Y5 u->∃ad:Addr,va=Y5 ad/\W.cell? (ad.add j)=Y5 u):=λW hW j u hu=>by
  exact akA
 obtain⟨x0,x1,x2,x3,x4,x5⟩:=cs6 Bx;have ltx_6:=ae Bx.out;have fx3:=al Bx.out 3;go_wp2_with (first|(at_builtin;refine ar rfl _ _ 36 rfl q2.w.heap.size 9 i0 (I ⟨#[]⟩) 1 16 Tryz.underlying36 HIS.1 HIS.2.1 HIS.2.2.1 HIS.2.2.2 rfl ag _ _ _ rfl (HOW0.out) _ vl _ (zs.map Ym) rfl ug (λj u hu=>HBX.out _ (ak _ _) j u hu) (by intro u hu;obtain⟨z,_,rfl⟩:=List.mem_map.1 hu;rfl) bj af aG ?_));intro v9 w9 hown9 hgr9;replace hown9:w9.ownsRow q2.w.heap.size 9 1 v9 vl (zs.map Ym):=by simpa using hown9
 have hb9:Below q2.w.heap.size q2.w w9:=(ak q2.w (Y8 #[] 9)).grown hgr9 aG (λg hg=>by simp[YL] at hg;omega);obtain⟨sa,sc,rfl,hT9⟩:=bS.fo hown9 (λj y hy=>HX.2.2.2.1 j y hy);have HT9:=aa hT9;have H9:=aa hb9;have hs9:=hb9.size;clear hown9 hgr9 hT9 HOW0;clear x0 x1 x2 x3 x4 x5 ltx_6;have Bx9:=upK Bx hb9;have Bo9:=upK Bo hb9;have Br9:=upK Br hb9;clear hb9;obtain⟨hxl9,fx9,hol9,HU0,hku,hsu,BxU,BoU,BrU,hTU,hkf,HFU⟩:=am5;obtain⟨vss,H,hV,hcell⟩:=HFU.p.ju;have hvl:vss.length=l5:=by have h6:vss.length=(c.ps.map pdF).length:=hV.len;rw[Yo] at h6;omega
 have HCQ:Hid (∀(j:Nat) u,vss.flatten[j]?=Y5 u->∃b9,g5=Y5 ⟨b9,0,U⟩/\b9<(w9.setCell ⟨w.heap.size+1,3,U⟩ (J sa vl sc)).heap.size/\(w9.setCell ⟨w.heap.size+1,3,U⟩ (J sa vl sc)).cell? ⟨b9,j,U⟩=Y5 u):=λj u hj=>by
  obtain⟨b9,e,_,h3⟩:=hcell j u hj;exact⟨b9,e,bG h3,h3⟩
 exact z445z):p:=h
theorem abz(h:p:=by
 have HB:=aa (Yh w.heap.size w);go_enter Tryz.func80,Tryz.ntmps80;have z1785z:=@aa _ @Cq;exact rO):p:=h
theorem aby(h:p:=by
 have HX:=aa hx;have hk3:k<l3:=by have:=(Yc.1 hx).1;omega
 have hk3i:(k:Int)<l3:=af
 clear hx;obtain⟨b3,o3,x',rfl,hb3,hx',hat⟩:=bK HR.v hk3;obtain rfl:x=x':=Yd (HX.symm.trans hx');have HAT:=aa hat;obtain⟨ea,el,ec,hvr,z0,z2,z3,z5,c0,c1,c2,c3,c4,c5,c6,c7⟩:=aW hat;have HV:=aa hvr;have HE:Hid (0<el↔¬x.zs=[]):=by
  have h1:x.zs.length=el:=hvr.1;show _↔_;rw[<-h1,List.length_pos_iff]
 clear hat hvr z0 z2 z3 z5 hx';go_enter Tryz.func35,Tryz.ntmps35;go_wp2;go_loopw [5,6] (λq i wr=> ∃(j:Nat) (r:Bool),j<=l1/\q=Y9 r/\i=Y7 Y6 j/\Hid (r=Zb↔(¬x.zs=[]\/∃(i:Nat) (n:Nd),i<j/\c.ns[i]?=Y5 n/\InL n.zs x.n))/\Hid (Below w.heap.size w wr)/\Hid (wr.heap[w.heap.size]?=Y5 (Y8 (clo6 a1 l1 y1 a2 l2 y2 (Y5 ⟨b3,o3,U⟩) l3 y3 a4 l4 y4 a5 l5 y5 c.now) 29 (0,0)))) (λ_ i _=>l1 - (intOf i).toNat);case atStart=>exact⟨0,decide (0<el),by omega,by simp,rfl,show _↔_ by rw[decide_eq_true_iff,HE.out];exact⟨Ze,λh=>h.elim id (λ⟨i,n,h,_⟩=>by omega)⟩,ak _ _,Yg⟩
 case round=>
  obtain⟨j,r,hj,rfl,rfl,HS,HB,Bk⟩:=hrel;clear c0 c1 c2 c3 c4 c5 c6 c7;obtain⟨k0,k1,k2,k3,k4,k5⟩:=cs6 Bk;have ltk:=ae Bk.out;by_cases hlt:j<l1
  ·obtain⟨b,o,n,rfl,hb,hxn,hat⟩:=dh (HR.n.below HB.out) hlt;obtain⟨va,vl,vc,hvr,z0,z1,c0,c1,c2,c3,c4,c5,c6⟩:=bg hat;have HN:=aa hxn;have HT:=aa hvr;have g0:=(ai HB.out hb3).trans (aW HAT.out).choose_spec.choose_spec.choose_spec.2.2.2.2.2.1;have hj3:(j:Int)<l1:=af
   have hb3':b3<wr.heap.size:=Yj hb3 HB.size;clear hat hxn z0 z1 hvr;cases r
   ·by_cases hin:InL n.zs x.n
    ·have HIN:=aa hin;clear hin;have Gk:=Bk;obtain⟨HW,k0,k1,k2,k3,k4,k5⟩:=Ao;obtain⟨mz,mn,hne0⟩:=N5;have HC0:=aa (λq:Wd wr=>(bX va vl vc n.zs x.n q.w (HT.below (q.b))).mono (λ_ _ h=>au.yes h HIN.out));have z55z:=@aa _ @afO;exact aC
    ·have HIN:=aa hin;clear hin;have Gk:=Bk;obtain⟨HW,k0,k1,k2,k3,k4,k5⟩:=Ao;obtain⟨mz,mn,hne0⟩:=N5;have HC0:=aa (λq:Wd wr=>(bX va vl vc n.zs x.n q.w (HT.below (q.b))).mono (λ_ _ h=>au.no h HIN.out));have z55z:=@aa _ @afN;exact aC
   ·skip;have Gk:=Bk;have HW:=HB;obtain⟨k0,k1,k2,k3,k4,k5⟩:=sl6 Gk;obtain⟨mz,mn,hne0⟩:=N5;have z15z:=@aa _ @ajg;exact aX
  ·obtain rfl:l1=j:=af
   go_wp2;go_ret;refine⟨r,rfl,?_,HB.out⟩;rw[HS.out];exact⟨λh=>h.elim Ze (λ⟨i,n,_,h1,h2⟩=>Zd ⟨i,n,h1,h2⟩),λh=>h.elim Ze (λ⟨i,n,h1,h2⟩=>Zd ⟨i,n,by have:=(Yc.1 h1).1;omega,h1,h2⟩)⟩):p:=h
theorem abx(h:p:=by
 have HB:=aa (Yh w.heap.size w);go_enter Tryz.func10,Tryz.ntmps10;have z820z:=@aa _ @Uv;exact iw):p:=h
theorem abw(h:p:=by
 have HB:=aa (Yh w.heap.size w);go_enter Tryz.func11,Tryz.ntmps11;have z820z:=@aa _ @Uu;exact iw):p:=h
theorem aa3(h:p:=by
 obtain⟨x0,x1,x2,x3,x4,x5,x6,x7⟩:=cs8 Bx;have ltx_1:=ae Bx.out;go_wp2_with fail;refine (jh xn xc xz xk xs ⟨#[]⟩ Y_ va 0 vc [] _ z0 z2 z3 ag (HX.below HB.out)).mono ?_;rintro e w2 ⟨r,rfl,hi,hb⟩;clear k0 k1 k2 k3 k4 k5 ltk_1 x0 x1 x2 x3 x4 x5 x6 x7 ltx_1;have z830z:=@aa _ @Ul;exact cF):p:=h
theorem aa2(h:p:=by
 obtain⟨x0,x1,x2,x3,x4,x5,x6,x7⟩:=cs8 Bx;have ltx_1:=ae Bx.out;go_wp2_with fail;refine (aJ 1 _).mono ?_;rintro e w2 ⟨rfl,hb⟩;clear k0 k1 k2 k3 k4 k5 ltk_1 x0 x1 x2 x3 x4 x5 x6 x7 ltx_1;have z830z:=@aa _ @Uj;exact cF):p:=h
theorem aa1(h:p:=by
 obtain⟨x0,x1,x2,x3,x4,x5⟩:=cs6 Bx;have ltx_1:=ae Bx.out;go_wp2_with fail;refine (jl xn xc xz va vl vc zs xd 0 _ z0 z2 z4 (HX.below HB.out)).mono ?_;rintro e w2 ⟨r,rfl,hi,hb⟩;clear k0 k1 k2 k3 k4 k5 ltk_1 x0 x1 x2 x3 x4 x5 ltx_1;have z830z:=@aa _ @Ui;exact cF):p:=h
theorem aa0(h:p:=by
 obtain⟨x0,x1,x2,x3,x4,x5⟩:=cs6 Bx;have ltx_1:=ae Bx.out;go_wp2_with fail;refine (aJ 1 _).mono ?_;rintro e w2 ⟨rfl,hb⟩;clear k0 k1 k2 k3 k4 k5 ltk_1 x0 x1 x2 x3 x4 x5 ltx_1;replace Bk:=upK Bk hb;replace Bx:=upK Bx hb;have z154z:=@aa _ @afi;exact cH):p:=h
theorem aaZ(h:p:=by
 go_loopw [5,6] (λvk vi wr=> ∃k:Nat,k<=vl/\vk=Y7 Y6 7/\vi=Y7 Y6 k/\Hid (Below q1.w.heap.size q1.w wr)) (λ_ vi _=>vl - (intOf vi).toNat);case atStart=>exact⟨0,by omega,rfl,rfl,Yh _ _⟩
 case round=>
  obtain⟨k,hk,rfl,rfl,HL⟩:=hrel;have hb:=HL.out;have z830z:=@aa _ @Ug;exact cF):p:=h
theorem aaY(h:p:=by
 go_loopw [5,6] (λvk vi wr=> ∃k:Nat,k<=vl/\vk=Y7 Y6 9/\vi=Y7 Y6 k/\Hid (Below q1.w.heap.size q1.w wr)) (λ_ vi _=>vl - (intOf vi).toNat);case atStart=>exact⟨0,by omega,rfl,rfl,Yh _ _⟩
 case round=>
  obtain⟨k,hk,rfl,rfl,HL⟩:=hrel;have hb:=HL.out;have z830z:=@aa _ @Uf;exact cF):p:=h
theorem zo(h:p:=by
 have z1509z:=@aa _ @F8;exact sC):p:=h
theorem aaX(h:p:=by
 refine (jg d c.now c.ks xk _ (HR.k.below HB.out)).mono ?_;rintro e w3 ⟨hb,hf⟩;clear k0 k1 k2 k3 k4 k5 ltk_3 x0 x1 x2 x3 x4 x5 x6 x7 ltx_3;have z830z:=@aa _ @Ue;exact cF):p:=h
theorem aaW(h:p:=by
 refine (aJ 7 _).mono ?_;rintro e w4 ⟨rfl,hb⟩;clear k0 k1 k2 k3 k4 k5 ltk_3 x0 x1 x2 x3 x4 x5 x6 x7 ltx_3;have z830z:=@aa _ @Uc;exact cF):p:=h
theorem aaV(h:p:=by
 refine (aJ 9 _).mono ?_;rintro e w4 ⟨rfl,hb⟩;clear k0 k1 k2 k3 k4 k5 ltk_3 x0 x1 x2 x3 x4 x5 x6 x7 ltx_3;have z830z:=@aa _ @Ub;exact cF):p:=h
theorem pV(h:p:=by
 repeat (go_big_quiet_step (first|(go_at_call 40;exact Calls.wide (HC0.out _))|(go_at_call 120;exact Calls.wide (HC1.out _))|fail))
 refine wpQuiet_nil ?_;rintro _ ⟨q1,rfl⟩;obtain⟨HB3,Ck,Cx,Cr⟩:=Am;clear hne0 HW HB HC0 HC1 k0 k1 k2 k3 k4 k5 x0 x1 x2 x3 x4 x5 x6 x7 Gk Gx Gr Bk Bx Br;have z937z:=@aa _ @SN;exact pH):p:=h
theorem aaU(h:p:=by
 refine (aJ 7 _).mono ?_;rintro e w4 ⟨rfl,hb⟩;clear k0 k1 k2 k3 k4 k5 ltk_3 x0 x1 x2 x3 x4 ltx_3;have z830z:=@aa _ @Ua;exact cF):p:=h
theorem aaT(h:p:=by
 refine (aJ 9 _).mono ?_;rintro e w4 ⟨rfl,hb⟩;clear k0 k1 k2 k3 k4 k5 ltk_3 x0 x1 x2 x3 x4 ltx_3;have z830z:=@aa _ @T_;exact cF):p:=h
theorem zn(h:p:=by
 repeat (go_big_quiet_step (first|(go_at_call 33;exact Calls.wide (HC0.out _))|(go_at_call 120;exact Calls.wide (HC1.out _))|fail))
 refine wpQuiet_nil ?_;rintro _ ⟨q1,rfl⟩;obtain⟨HB3,Ck,Cx,Cr⟩:=Am;clear hne0 HW HB HC0 HC1 k0 k1 k2 k3 k4 k5 x0 x1 x2 x3 x4 Gk Gx Gr Bk Bx Br;have z937z:=@aa _ @SM;exact pH):p:=h
theorem aaB(h:p:=by
 have HB7:=upB HW q1.b;obtain⟨Ck,Cr⟩:=eu;have Co:=upK Go q1.b;clear hne0 HW HB HC0 k0 k1 k2 k3 k4 k5 mv mk Gk Gr Go Bk Br hszv7 cv3 ck2 cv3' ck2';have HB:=HB7;clear HB7;have z976z:=@aa _ @Sg;exact yv):p:=h
theorem aac(h:p:=by
 exact bodyPost_ret (v:=Zc #[J U 0 0,J U 0 0,J U 0 0,J U 0 0,J U 0 0,Y7 Y6 0,I ⟨#[]⟩,Y7 Y6 11]) Ab rfl ⟨ad0,co0 11,rfl,HV.out,(rl0 _ _),sb1 (sb1 (sb1 (sb1 (sb1 (sb1 (sb1 (sb1 (HB.out))))))))⟩):p:=h
theorem aab(h:p:=by
 exact bodyPost_ret (v:=Zc #[J U 0 0,J U 0 0,J U 0 0,J U 0 0,J U 0 0,Y7 Y6 0,I ⟨#[]⟩,Y7 Y6 6]) Ae rfl ⟨ad0,co0 6,rfl,HV.out,(rl0 _ _),sb1 (sb1 (sb1 (sb1 (sb1 (sb1 (sb1 (sb1 (HB.out))))))))⟩):p:=h
theorem aaa(h:p:=by
 exact bodyPost_ret (v:=Zc #[J U 0 0,J U 0 0,J U 0 0,J U 0 0,J U 0 0,Y7 Y6 0,I ⟨#[]⟩,Y7 Y6 6]) Ab rfl ⟨ad0,co0 6,rfl,HV.out,(rl0 _ _),sb1 (sb1 (sb1 (sb1 (sb1 (sb1 (sb1 (sb1 (HB.out))))))))⟩):p:=h
theorem VT(h:p:=by
 rcases g4 with _|⟨b2,f2,sp⟩
 ·have hl0:l4=0:=YH λhne0=>by
   exact QC
  omega
 have hcap:¬n4=k:=af
 all_goals (
  go_wp2_with (first|(at_builtin;refine ar rfl _ _ 26 rfl q2.w.heap.size 50 i5 (Zc #[I ⟨#[]⟩,Y7 Y6 0,I ⟨#[]⟩,Y9 Y_,I ⟨#[]⟩]) 5 64 Tryz.underlying26 HI0.1 HI0.2.1 HI0.2.2.1 HI0.2.2.2 rfl ag _ _ _ rfl (HOW.out) _ k _ (vss.take k).flatten rfl (bw HVR.all af) (λj u hu=>by obtain⟨g,e,hgl,h3⟩:=HCQ.out _ _ (cD hu);cases e <;> exact⟨_,rfl,by simp only[Yn,Yq];exact (ai (ak q2.w _) hgl).trans h3⟩) (aD HVR.one k).1 bj af aG ?_))
  intro v5 w5 hown5 hgr5
  replace hown5:w5.ownsRow q2.w.heap.size 50 5 v5 k (vss.take k).flatten:=dN
  have hb5:Below q2.w.heap.size q2.w w5:=(ak q2.w (Y8 #[] 50)).grown hgr5 aG (λg hg=>by simp[YL] at hg;omega);obtain⟨s1,s2,s3,rfl⟩:=aA hown5;have HO5:=aa hown5;have H5:=aa hb5;have hs6:=hb5.size;have Bx5:=upK Bx hb5;obtain⟨x0,x1,x2,x3,x4⟩:=cs5 Bx5;have hxl:=ae Bx5.out;clear hown5 hgr5 hb5 o0 o1 o2 o3 o4 o5 HOW
  go_wp2_with (first|(at_builtin;refine ar rfl _ _ 26 rfl q2.w.heap.size 50 i5 (Zc #[I ⟨#[]⟩,Y7 Y6 0,I ⟨#[]⟩,Y9 Y_,I ⟨#[]⟩]) 5 64 Tryz.underlying26 HI0.1 HI0.2.1 HI0.2.2.1 HI0.2.2.2 rfl ag _ _ _ rfl (HO5.alloc _) _ 1 _ [I x.n,Y7 Y6 x.z,I x.k,Y9 x.x,I x.v] rfl rfl (λj u hu=>⟨_,rfl,by rw[Yn,Yq,an (heap_alloc_new w5 _)];simpa using hu⟩) dx bj af bL ?_))
  intro v6 w6 hown6 hgr6;have hb6:Below q2.w.heap.size q2.w w6:=(H5.alloc H5.size _).grown hgr6 bL (λg hg=>(HO5.lt g hg).1);obtain⟨r1,r2,r3,rfl⟩:=aA hown6;have HO6:=aa hown6;have H6:=aa hb6;have hs7:=hb6.size;have Bo6:=upK Bo hb6;obtain⟨o0,o1,o2,o3,o4,o5⟩:=cs6 Bo6;have hol:=ae Bo6.out;clear hown6 hgr6 hb6 x0 x1 x2 x3 x4 hxl
  go_wp2_with (first|(at_builtin;refine ar rfl _ _ 26 rfl q2.w.heap.size 50 i5 (Zc #[I ⟨#[]⟩,Y7 Y6 0,I ⟨#[]⟩,Y9 Y_,I ⟨#[]⟩]) 5 64 Tryz.underlying26 HI0.1 HI0.2.1 HI0.2.2.1 HI0.2.2.2 rfl ag _ _ _ rfl (HO6.out) _ (l4 - k) _ (vss.drop k).flatten rfl (by rw[dS HVR.all,hvl]) (λj u hu=>by first|(rw[Yx af] at hu;simp at hu;done)|(obtain⟨g,e,hgl,h3⟩:=HCQ.out _ _ (cV HVR.all af hu);cases e <;> exact⟨_,rfl,by simp only[Yn,Yq];exact (ai H6.out hgl).trans h3⟩)) (aD HVR.one k).2 bj af af ?_))
  intro v7 w7 hown7 hgr7;have hb7:Below q2.w.heap.size q2.w w7:=H6.grown hgr7 af (λg hg=>(HO6.lt g hg).1)
  replace hown7:w7.ownsRow q2.w.heap.size 50 5 v7 (l4+1) (aR k [I x.n,Y7 Y6 x.z,I x.k,Y9 x.x,I x.v] vss).flatten:=by
   have e9:k+1+(l4 - k)=l4+1:=af
   try rw[e9] at hown7
   simpa[aR] using hown7
  obtain⟨t1,t2,t3,rfl⟩:=aA hown7;have H7:=aa hb7;have H47:=upB H4 hb7;have HB7:=upB HB hb7
  obtain⟨H9,hV9⟩:=((HVR.below H47.out).ay (w':=w7) (S':=λk=>(w3.heap.size<=k/\k<w4.heap.size)\/q2.w.heap.size<=k) (λ_ _ _ _=>rfl) (λ_ _ s=>Ze s)).ins (p:=k) (r:=xdF x) (vs:=[I x.n,Y7 Y6 x.z,I x.k,Y9 x.x,I x.v]) (hh:=λ_=>0) rfl rfl (λi f hf=>by rcases i with _|_|_|_|_|i <;> simp[xdF] at hf <;> subst hf;exact⟨_,rfl,rfl,z0⟩;exact⟨_,rfl,rfl⟩;exact⟨_,rfl,rfl,z2⟩;exact⟨_,rfl,rfl⟩;exact⟨_,rfl,rfl,z4⟩) (λi zs h _=>by rcases i with _|_|_|_|_|i <;> simp[xdF] at h) (λi i2 zs zs2 h _ _ _=>by rcases i with _|_|_|_|_|i <;> simp[xdF] at h) (show k<=(c.xs.map xdF).length by rw[Yo];omega)
  have h45:aQ w7 (λk=>(w3.heap.size<=k/\k<w4.heap.size)\/q2.w.heap.size<=k) 5 ((aR k x c.xs).map xdF) (aR k [I x.n,Y7 Y6 x.z,I x.k,Y9 x.x,I x.v] vss) H9:=by rw[fI];exact hV9
  have hle:((aR k x c.xs).map xdF).length=l4+1:=by rw[Yo,dq af];omega
  obtain⟨u1,u2,hq,hR⟩:=h45.own hown7 hle.symm ag (λg hg=>Zd (hown7.lt g hg).1);rw[hle] at hq hR;simp only[Value.slice.injEq] at hq;obtain⟨rfl,rfl,rfl⟩:=hq;rw[HPL.out] at hR;have HR7:=aa hR;have hs8:=hb7.size;have Bo7:=upK Bo hb7;have Br7:=upK Br hb7;clear o0 o1 o2 o3 o4 o5;obtain⟨o0,o1,o2,o3,o4,o5⟩:=cs6 Bo7;obtain⟨r0,r1,r2,r3,r4,r5,r6,r7⟩:=cs8 Br7;have fo0:=al Bo7.out 0;have fo1:=al Bo7.out 1;have fo2:=al Bo7.out 2;have fo3:=al Bo7.out 3;have fo4:=al Bo7.out 4;have fo5:=al Bo7.out 5;have fr0:=al Br7.out 0;have fr1:=al Br7.out 1;have fr2:=al Br7.out 2;have fr3:=al Br7.out 3;have fr4:=al Br7.out 4;have fr5:=al Br7.out 5;have fr6:=al Br7.out 6;have fr7:=al Br7.out 7
  have hne:¬w.heap.size+1+1=w4.heap.size:=af
  have hne2:¬w4.heap.size=w.heap.size+1+1:=af
  have hol7:=ae Bo7.out;have hrl7:=ae Br7.out;clear hown7 hgr7 hb7 hR hV9 h45 hle hik hkn hcap
  go_wp2
  refine bodyPost_ret (v:=Zc #[J g1 m1 n1,J g2 m2 n2,J g3 m3 n3,J t1 (l4+1) t3,J g5 m5 n5,Y7 Y6 c.now,I ⟨#[]⟩,Y7 Y6 0]) nr rfl ⟨⟨g1,m1,n1,g2,m2,n2,g3,m3,n3,t1,l4+1,t3,g5,m5,n5⟩,⟨Rr c x,⟨#[]⟩,0⟩,rfl,HV.out,?_,sb2 (sb2 (sb2 (sb2 (sb2 (sb2 (sb2 (sb2 (ah (show w.heap.size<=w4.heap.size by omega) (HB7.out)))))))))⟩
  have hkeep:∀k9,w3.heap.size<=k9->¬k9=w4.heap.size->(((((((((w7.setCell ⟨w4.heap.size,3,U⟩ (J t1 (l4+1) t3)).setCell ⟨w.heap.size+1+1,0,U⟩ (J g1 m1 n1)).setCell ⟨w.heap.size+1+1,1,U⟩ (J g2 m2 n2)).setCell ⟨w.heap.size+1+1,2,U⟩ (J g3 m3 n3)).setCell ⟨w.heap.size+1+1,3,U⟩ (J t1 (l4+1) t3)).setCell ⟨w.heap.size+1+1,4,U⟩ (J g5 m5 n5)).setCell ⟨w.heap.size+1+1,5,U⟩ (Y7 Y6 c.now)).setCell ⟨w.heap.size+1+1,6,U⟩ (I ⟨#[]⟩)).setCell ⟨w.heap.size+1+1,7,U⟩ (Y7 Y6 0)).heap[k9]?=w7.heap[k9]?:=λk9 h1 h2=>by rw[Ya _ _ _ _ (show k9≠w.heap.size+1+1 by omega),Ya _ _ _ _ (show k9≠w.heap.size+1+1 by omega),Ya _ _ _ _ (show k9≠w.heap.size+1+1 by omega),Ya _ _ _ _ (show k9≠w.heap.size+1+1 by omega),Ya _ _ _ _ (show k9≠w.heap.size+1+1 by omega),Ya _ _ _ _ (show k9≠w.heap.size+1+1 by omega),Ya _ _ _ _ (show k9≠w.heap.size+1+1 by omega),Ya _ _ _ _ (show k9≠w.heap.size+1+1 by omega),Ya _ _ _ _ (show k9≠w4.heap.size by omega)]
  have hlo:=HLO.out
  refine⟨(HFR.n.ay (w':=(((((((((w7.setCell ⟨w4.heap.size,3,U⟩ (J t1 (l4+1) t3)).setCell ⟨w.heap.size+1+1,0,U⟩ (J g1 m1 n1)).setCell ⟨w.heap.size+1+1,1,U⟩ (J g2 m2 n2)).setCell ⟨w.heap.size+1+1,2,U⟩ (J g3 m3 n3)).setCell ⟨w.heap.size+1+1,3,U⟩ (J t1 (l4+1) t3)).setCell ⟨w.heap.size+1+1,4,U⟩ (J g5 m5 n5)).setCell ⟨w.heap.size+1+1,5,U⟩ (Y7 Y6 c.now)).setCell ⟨w.heap.size+1+1,6,U⟩ (I ⟨#[]⟩)).setCell ⟨w.heap.size+1+1,7,U⟩ (Y7 Y6 0))) (S':=λk=>w.heap.size<=k) (λk hk s=>(hkeep k s af).trans (H47.block k hk)) (λ_ _ s=>loq)),(HFR.k.ay (w':=(((((((((w7.setCell ⟨w4.heap.size,3,U⟩ (J t1 (l4+1) t3)).setCell ⟨w.heap.size+1+1,0,U⟩ (J g1 m1 n1)).setCell ⟨w.heap.size+1+1,1,U⟩ (J g2 m2 n2)).setCell ⟨w.heap.size+1+1,2,U⟩ (J g3 m3 n3)).setCell ⟨w.heap.size+1+1,3,U⟩ (J t1 (l4+1) t3)).setCell ⟨w.heap.size+1+1,4,U⟩ (J g5 m5 n5)).setCell ⟨w.heap.size+1+1,5,U⟩ (Y7 Y6 c.now)).setCell ⟨w.heap.size+1+1,6,U⟩ (I ⟨#[]⟩)).setCell ⟨w.heap.size+1+1,7,U⟩ (Y7 Y6 0))) (S':=λk=>w.heap.size<=k) (λk hk s=>(hkeep k s af).trans (H47.block k hk)) (λ_ _ s=>loq)),(HFR.v.ay (w':=(((((((((w7.setCell ⟨w4.heap.size,3,U⟩ (J t1 (l4+1) t3)).setCell ⟨w.heap.size+1+1,0,U⟩ (J g1 m1 n1)).setCell ⟨w.heap.size+1+1,1,U⟩ (J g2 m2 n2)).setCell ⟨w.heap.size+1+1,2,U⟩ (J g3 m3 n3)).setCell ⟨w.heap.size+1+1,3,U⟩ (J t1 (l4+1) t3)).setCell ⟨w.heap.size+1+1,4,U⟩ (J g5 m5 n5)).setCell ⟨w.heap.size+1+1,5,U⟩ (Y7 Y6 c.now)).setCell ⟨w.heap.size+1+1,6,U⟩ (I ⟨#[]⟩)).setCell ⟨w.heap.size+1+1,7,U⟩ (Y7 Y6 0))) (S':=λk=>w.heap.size<=k) (λk hk s=>(hkeep k s af).trans (H47.block k hk)) (λ_ _ s=>loq)),(HR7.ay (w':=(((((((((w7.setCell ⟨w4.heap.size,3,U⟩ (J t1 (l4+1) t3)).setCell ⟨w.heap.size+1+1,0,U⟩ (J g1 m1 n1)).setCell ⟨w.heap.size+1+1,1,U⟩ (J g2 m2 n2)).setCell ⟨w.heap.size+1+1,2,U⟩ (J g3 m3 n3)).setCell ⟨w.heap.size+1+1,3,U⟩ (J t1 (l4+1) t3)).setCell ⟨w.heap.size+1+1,4,U⟩ (J g5 m5 n5)).setCell ⟨w.heap.size+1+1,5,U⟩ (Y7 Y6 c.now)).setCell ⟨w.heap.size+1+1,6,U⟩ (I ⟨#[]⟩)).setCell ⟨w.heap.size+1+1,7,U⟩ (Y7 Y6 0))) (S':=λk=>w.heap.size<=k) (λk hk s=>hkeep k fD fD) (λ_ _ s=>loq)),(HFR.p.ay (w':=(((((((((w7.setCell ⟨w4.heap.size,3,U⟩ (J t1 (l4+1) t3)).setCell ⟨w.heap.size+1+1,0,U⟩ (J g1 m1 n1)).setCell ⟨w.heap.size+1+1,1,U⟩ (J g2 m2 n2)).setCell ⟨w.heap.size+1+1,2,U⟩ (J g3 m3 n3)).setCell ⟨w.heap.size+1+1,3,U⟩ (J t1 (l4+1) t3)).setCell ⟨w.heap.size+1+1,4,U⟩ (J g5 m5 n5)).setCell ⟨w.heap.size+1+1,5,U⟩ (Y7 Y6 c.now)).setCell ⟨w.heap.size+1+1,6,U⟩ (I ⟨#[]⟩)).setCell ⟨w.heap.size+1+1,7,U⟩ (Y7 Y6 0))) (S':=λk=>w.heap.size<=k) (λk hk s=>(hkeep k s af).trans (H47.block k hk)) (λ_ _ s=>loq))⟩)):p:=h
theorem VS(h:p:=by
 rcases g4 with _|⟨b2,f2,sp⟩
 ·have hl0:l4=0:=YH λhne0=>by
   exact QC
  obtain rfl:k=0:=af
  subst hl0;by_cases hcap:n4=0;all_goals (
   go_wp2_with (first|(at_builtin;refine ar rfl _ _ 26 rfl q2.w.heap.size 50 i5 (Zc #[I ⟨#[]⟩,Y7 Y6 0,I ⟨#[]⟩,Y9 Y_,I ⟨#[]⟩]) 5 64 Tryz.underlying26 HI0.1 HI0.2.1 HI0.2.2.1 HI0.2.2.2 rfl ag _ _ _ rfl (HOW.out) _ 0 _ (vss.take 0).flatten rfl (bw HVR.all af) (λj u hu=>by obtain⟨g,e,hgl,h3⟩:=HCQ.out _ _ (cD hu);cases e <;> exact⟨_,rfl,by simp only[Yn,Yq];exact (ai (ak q2.w _) hgl).trans h3⟩) (aD HVR.one 0).1 bj af aG ?_))
   intro v5 w5 hown5 hgr5
   replace hown5:w5.ownsRow q2.w.heap.size 50 5 v5 0 (vss.take 0).flatten:=dN
   have hb5:Below q2.w.heap.size q2.w w5:=(ak q2.w (Y8 #[] 50)).grown hgr5 aG (λg hg=>by simp[YL] at hg;omega);obtain⟨s1,s2,s3,rfl⟩:=aA hown5;have HO5:=aa hown5;have H5:=aa hb5;have hs6:=hb5.size;have Bx5:=upK Bx hb5;obtain⟨x0,x1,x2,x3,x4⟩:=cs5 Bx5;have hxl:=ae Bx5.out;clear hown5 hgr5 hb5 o0 o1 o2 o3 o4 o5 HOW
   go_wp2_with (first|(at_builtin;refine ar rfl _ _ 26 rfl q2.w.heap.size 50 i5 (Zc #[I ⟨#[]⟩,Y7 Y6 0,I ⟨#[]⟩,Y9 Y_,I ⟨#[]⟩]) 5 64 Tryz.underlying26 HI0.1 HI0.2.1 HI0.2.2.1 HI0.2.2.2 rfl ag _ _ _ rfl (HO5.alloc _) _ 1 _ [I x.n,Y7 Y6 x.z,I x.k,Y9 x.x,I x.v] rfl rfl (λj u hu=>⟨_,rfl,by rw[Yn,Yq,an (heap_alloc_new w5 _)];simpa using hu⟩) dx bj af bL ?_))
   intro v6 w6 hown6 hgr6;have hb6:Below q2.w.heap.size q2.w w6:=(H5.alloc H5.size _).grown hgr6 bL (λg hg=>(HO5.lt g hg).1);obtain⟨r1,r2,r3,rfl⟩:=aA hown6;have HO6:=aa hown6;have H6:=aa hb6;have hs7:=hb6.size;have Bo6:=upK Bo hb6;obtain⟨o0,o1,o2,o3,o4,o5⟩:=cs6 Bo6;have hol:=ae Bo6.out;clear hown6 hgr6 hb6 x0 x1 x2 x3 x4 hxl
   go_wp2_with (first|(at_builtin;refine ar rfl _ _ 26 rfl q2.w.heap.size 50 i5 (Zc #[I ⟨#[]⟩,Y7 Y6 0,I ⟨#[]⟩,Y9 Y_,I ⟨#[]⟩]) 5 64 Tryz.underlying26 HI0.1 HI0.2.1 HI0.2.2.1 HI0.2.2.2 rfl ag _ _ _ rfl (HO6.out) _ (0 - 0) _ (vss.drop 0).flatten rfl (by rw[dS HVR.all,hvl]) (λj u hu=>by first|(rw[Yx af] at hu;simp at hu;done)|(obtain⟨g,e,hgl,h3⟩:=HCQ.out _ _ (cV HVR.all af hu);cases e <;> exact⟨_,rfl,by simp only[Yn,Yq];exact (ai H6.out hgl).trans h3⟩)) (aD HVR.one 0).2 bj af af ?_))
   intro v7 w7 hown7 hgr7;have hb7:Below q2.w.heap.size q2.w w7:=H6.grown hgr7 af (λg hg=>(HO6.lt g hg).1)
   replace hown7:w7.ownsRow q2.w.heap.size 50 5 v7 (1) (aR 0 [I x.n,Y7 Y6 x.z,I x.k,Y9 x.x,I x.v] vss).flatten:=by
    have e9:0+1+(0 - 0)=1:=af
    try rw[e9] at hown7
    simpa[aR] using hown7
   obtain⟨t1,t2,t3,rfl⟩:=aA hown7;have H7:=aa hb7;have H47:=upB H4 hb7;have HB7:=upB HB hb7
   obtain⟨H9,hV9⟩:=((HVR.below H47.out).ay (w':=w7) (S':=λk=>(w3.heap.size<=k/\k<w4.heap.size)\/q2.w.heap.size<=k) (λ_ _ _ _=>rfl) (λ_ _ s=>Ze s)).ins (p:=0) (r:=xdF x) (vs:=[I x.n,Y7 Y6 x.z,I x.k,Y9 x.x,I x.v]) (hh:=λ_=>0) rfl rfl (λi f hf=>by rcases i with _|_|_|_|_|i <;> simp[xdF] at hf <;> subst hf;exact⟨_,rfl,rfl,z0⟩;exact⟨_,rfl,rfl⟩;exact⟨_,rfl,rfl,z2⟩;exact⟨_,rfl,rfl⟩;exact⟨_,rfl,rfl,z4⟩) (λi zs h _=>by rcases i with _|_|_|_|_|i <;> simp[xdF] at h) (λi i2 zs zs2 h _ _ _=>by rcases i with _|_|_|_|_|i <;> simp[xdF] at h) (show 0<=(c.xs.map xdF).length by rw[Yo];omega)
   have h45:aQ w7 (λk=>(w3.heap.size<=k/\k<w4.heap.size)\/q2.w.heap.size<=k) 5 ((aR 0 x c.xs).map xdF) (aR 0 [I x.n,Y7 Y6 x.z,I x.k,Y9 x.x,I x.v] vss) H9:=by rw[fI];exact hV9
   have hle:((aR 0 x c.xs).map xdF).length=1:=by rw[Yo,dq af];omega
   obtain⟨u1,u2,hq,hR⟩:=h45.own hown7 hle.symm ag (λg hg=>Zd (hown7.lt g hg).1);rw[hle] at hq hR;simp only[Value.slice.injEq] at hq;obtain⟨rfl,rfl,rfl⟩:=hq;rw[HPL.out] at hR;have HR7:=aa hR;have hs8:=hb7.size;have Bo7:=upK Bo hb7;have Br7:=upK Br hb7;clear o0 o1 o2 o3 o4 o5;obtain⟨o0,o1,o2,o3,o4,o5⟩:=cs6 Bo7;obtain⟨r0,r1,r2,r3,r4,r5,r6,r7⟩:=cs8 Br7;have fo0:=al Bo7.out 0;have fo1:=al Bo7.out 1;have fo2:=al Bo7.out 2;have fo3:=al Bo7.out 3;have fo4:=al Bo7.out 4;have fo5:=al Bo7.out 5;have fr0:=al Br7.out 0;have fr1:=al Br7.out 1;have fr2:=al Br7.out 2;have fr3:=al Br7.out 3;have fr4:=al Br7.out 4;have fr5:=al Br7.out 5;have fr6:=al Br7.out 6;have fr7:=al Br7.out 7
   have hne:¬w.heap.size+1+1=w4.heap.size:=af
   have hne2:¬w4.heap.size=w.heap.size+1+1:=af
   have hol7:=ae Bo7.out;have hrl7:=ae Br7.out;clear hown7 hgr7 hb7 hR hV9 h45 hle hik hkn hcap
   go_wp2
   refine bodyPost_ret (v:=Zc #[J g1 m1 n1,J g2 m2 n2,J g3 m3 n3,J t1 (1) t3,J g5 m5 n5,Y7 Y6 c.now,I ⟨#[]⟩,Y7 Y6 0]) nr rfl ⟨⟨g1,m1,n1,g2,m2,n2,g3,m3,n3,t1,1,t3,g5,m5,n5⟩,⟨Rr c x,⟨#[]⟩,0⟩,rfl,HV.out,?_,sb2 (sb2 (sb2 (sb2 (sb2 (sb2 (sb2 (sb2 (ah (show w.heap.size<=w4.heap.size by omega) (HB7.out)))))))))⟩
   have hkeep:∀k9,w3.heap.size<=k9->¬k9=w4.heap.size->(((((((((w7.setCell ⟨w4.heap.size,3,U⟩ (J t1 (1) t3)).setCell ⟨w.heap.size+1+1,0,U⟩ (J g1 m1 n1)).setCell ⟨w.heap.size+1+1,1,U⟩ (J g2 m2 n2)).setCell ⟨w.heap.size+1+1,2,U⟩ (J g3 m3 n3)).setCell ⟨w.heap.size+1+1,3,U⟩ (J t1 (1) t3)).setCell ⟨w.heap.size+1+1,4,U⟩ (J g5 m5 n5)).setCell ⟨w.heap.size+1+1,5,U⟩ (Y7 Y6 c.now)).setCell ⟨w.heap.size+1+1,6,U⟩ (I ⟨#[]⟩)).setCell ⟨w.heap.size+1+1,7,U⟩ (Y7 Y6 0)).heap[k9]?=w7.heap[k9]?:=λk9 h1 h2=>by rw[Ya _ _ _ _ (show k9≠w.heap.size+1+1 by omega),Ya _ _ _ _ (show k9≠w.heap.size+1+1 by omega),Ya _ _ _ _ (show k9≠w.heap.size+1+1 by omega),Ya _ _ _ _ (show k9≠w.heap.size+1+1 by omega),Ya _ _ _ _ (show k9≠w.heap.size+1+1 by omega),Ya _ _ _ _ (show k9≠w.heap.size+1+1 by omega),Ya _ _ _ _ (show k9≠w.heap.size+1+1 by omega),Ya _ _ _ _ (show k9≠w.heap.size+1+1 by omega),Ya _ _ _ _ (show k9≠w4.heap.size by omega)]
   have hlo:=HLO.out
   refine⟨(HFR.n.ay (w':=(((((((((w7.setCell ⟨w4.heap.size,3,U⟩ (J t1 (1) t3)).setCell ⟨w.heap.size+1+1,0,U⟩ (J g1 m1 n1)).setCell ⟨w.heap.size+1+1,1,U⟩ (J g2 m2 n2)).setCell ⟨w.heap.size+1+1,2,U⟩ (J g3 m3 n3)).setCell ⟨w.heap.size+1+1,3,U⟩ (J t1 (1) t3)).setCell ⟨w.heap.size+1+1,4,U⟩ (J g5 m5 n5)).setCell ⟨w.heap.size+1+1,5,U⟩ (Y7 Y6 c.now)).setCell ⟨w.heap.size+1+1,6,U⟩ (I ⟨#[]⟩)).setCell ⟨w.heap.size+1+1,7,U⟩ (Y7 Y6 0))) (S':=λk=>w.heap.size<=k) (λk hk s=>(hkeep k s af).trans (H47.block k hk)) (λ_ _ s=>loq)),(HFR.k.ay (w':=(((((((((w7.setCell ⟨w4.heap.size,3,U⟩ (J t1 (1) t3)).setCell ⟨w.heap.size+1+1,0,U⟩ (J g1 m1 n1)).setCell ⟨w.heap.size+1+1,1,U⟩ (J g2 m2 n2)).setCell ⟨w.heap.size+1+1,2,U⟩ (J g3 m3 n3)).setCell ⟨w.heap.size+1+1,3,U⟩ (J t1 (1) t3)).setCell ⟨w.heap.size+1+1,4,U⟩ (J g5 m5 n5)).setCell ⟨w.heap.size+1+1,5,U⟩ (Y7 Y6 c.now)).setCell ⟨w.heap.size+1+1,6,U⟩ (I ⟨#[]⟩)).setCell ⟨w.heap.size+1+1,7,U⟩ (Y7 Y6 0))) (S':=λk=>w.heap.size<=k) (λk hk s=>(hkeep k s af).trans (H47.block k hk)) (λ_ _ s=>loq)),(HFR.v.ay (w':=(((((((((w7.setCell ⟨w4.heap.size,3,U⟩ (J t1 (1) t3)).setCell ⟨w.heap.size+1+1,0,U⟩ (J g1 m1 n1)).setCell ⟨w.heap.size+1+1,1,U⟩ (J g2 m2 n2)).setCell ⟨w.heap.size+1+1,2,U⟩ (J g3 m3 n3)).setCell ⟨w.heap.size+1+1,3,U⟩ (J t1 (1) t3)).setCell ⟨w.heap.size+1+1,4,U⟩ (J g5 m5 n5)).setCell ⟨w.heap.size+1+1,5,U⟩ (Y7 Y6 c.now)).setCell ⟨w.heap.size+1+1,6,U⟩ (I ⟨#[]⟩)).setCell ⟨w.heap.size+1+1,7,U⟩ (Y7 Y6 0))) (S':=λk=>w.heap.size<=k) (λk hk s=>(hkeep k s af).trans (H47.block k hk)) (λ_ _ s=>loq)),(HR7.ay (w':=(((((((((w7.setCell ⟨w4.heap.size,3,U⟩ (J t1 (1) t3)).setCell ⟨w.heap.size+1+1,0,U⟩ (J g1 m1 n1)).setCell ⟨w.heap.size+1+1,1,U⟩ (J g2 m2 n2)).setCell ⟨w.heap.size+1+1,2,U⟩ (J g3 m3 n3)).setCell ⟨w.heap.size+1+1,3,U⟩ (J t1 (1) t3)).setCell ⟨w.heap.size+1+1,4,U⟩ (J g5 m5 n5)).setCell ⟨w.heap.size+1+1,5,U⟩ (Y7 Y6 c.now)).setCell ⟨w.heap.size+1+1,6,U⟩ (I ⟨#[]⟩)).setCell ⟨w.heap.size+1+1,7,U⟩ (Y7 Y6 0))) (S':=λk=>w.heap.size<=k) (λk hk s=>hkeep k fD fD) (λ_ _ s=>loq)),(HFR.p.ay (w':=(((((((((w7.setCell ⟨w4.heap.size,3,U⟩ (J t1 (1) t3)).setCell ⟨w.heap.size+1+1,0,U⟩ (J g1 m1 n1)).setCell ⟨w.heap.size+1+1,1,U⟩ (J g2 m2 n2)).setCell ⟨w.heap.size+1+1,2,U⟩ (J g3 m3 n3)).setCell ⟨w.heap.size+1+1,3,U⟩ (J t1 (1) t3)).setCell ⟨w.heap.size+1+1,4,U⟩ (J g5 m5 n5)).setCell ⟨w.heap.size+1+1,5,U⟩ (Y7 Y6 c.now)).setCell ⟨w.heap.size+1+1,6,U⟩ (I ⟨#[]⟩)).setCell ⟨w.heap.size+1+1,7,U⟩ (Y7 Y6 0))) (S':=λk=>w.heap.size<=k) (λk hk s=>(hkeep k s af).trans (H47.block k hk)) (λ_ _ s=>loq))⟩)
 by_cases hcap:n4=k;all_goals (
  go_wp2_with (first|(at_builtin;refine ar rfl _ _ 26 rfl q2.w.heap.size 50 i5 (Zc #[I ⟨#[]⟩,Y7 Y6 0,I ⟨#[]⟩,Y9 Y_,I ⟨#[]⟩]) 5 64 Tryz.underlying26 HI0.1 HI0.2.1 HI0.2.2.1 HI0.2.2.2 rfl ag _ _ _ rfl (HOW.out) _ k _ (vss.take k).flatten rfl (bw HVR.all af) (λj u hu=>by obtain⟨g,e,hgl,h3⟩:=HCQ.out _ _ (cD hu);cases e <;> exact⟨_,rfl,by simp only[Yn,Yq];exact (ai (ak q2.w _) hgl).trans h3⟩) (aD HVR.one k).1 bj af aG ?_))
  intro v5 w5 hown5 hgr5
  replace hown5:w5.ownsRow q2.w.heap.size 50 5 v5 k (vss.take k).flatten:=dN
  have hb5:Below q2.w.heap.size q2.w w5:=(ak q2.w (Y8 #[] 50)).grown hgr5 aG (λg hg=>by simp[YL] at hg;omega);obtain⟨s1,s2,s3,rfl⟩:=aA hown5;have HO5:=aa hown5;have H5:=aa hb5;have hs6:=hb5.size;have Bx5:=upK Bx hb5;obtain⟨x0,x1,x2,x3,x4⟩:=cs5 Bx5;have hxl:=ae Bx5.out;clear hown5 hgr5 hb5 o0 o1 o2 o3 o4 o5 HOW
  go_wp2_with (first|(at_builtin;refine ar rfl _ _ 26 rfl q2.w.heap.size 50 i5 (Zc #[I ⟨#[]⟩,Y7 Y6 0,I ⟨#[]⟩,Y9 Y_,I ⟨#[]⟩]) 5 64 Tryz.underlying26 HI0.1 HI0.2.1 HI0.2.2.1 HI0.2.2.2 rfl ag _ _ _ rfl (HO5.alloc _) _ 1 _ [I x.n,Y7 Y6 x.z,I x.k,Y9 x.x,I x.v] rfl rfl (λj u hu=>⟨_,rfl,by rw[Yn,Yq,an (heap_alloc_new w5 _)];simpa using hu⟩) dx bj af bL ?_))
  intro v6 w6 hown6 hgr6;have hb6:Below q2.w.heap.size q2.w w6:=(H5.alloc H5.size _).grown hgr6 bL (λg hg=>(HO5.lt g hg).1);obtain⟨r1,r2,r3,rfl⟩:=aA hown6;have HO6:=aa hown6;have H6:=aa hb6;have hs7:=hb6.size;have Bo6:=upK Bo hb6;obtain⟨o0,o1,o2,o3,o4,o5⟩:=cs6 Bo6;have hol:=ae Bo6.out;clear hown6 hgr6 hb6 x0 x1 x2 x3 x4 hxl
  go_wp2_with (first|(at_builtin;refine ar rfl _ _ 26 rfl q2.w.heap.size 50 i5 (Zc #[I ⟨#[]⟩,Y7 Y6 0,I ⟨#[]⟩,Y9 Y_,I ⟨#[]⟩]) 5 64 Tryz.underlying26 HI0.1 HI0.2.1 HI0.2.2.1 HI0.2.2.2 rfl ag _ _ _ rfl (HO6.out) _ (l4 - k) _ (vss.drop k).flatten rfl (by rw[dS HVR.all,hvl]) (λj u hu=>by first|(rw[Yx af] at hu;simp at hu;done)|(obtain⟨g,e,hgl,h3⟩:=HCQ.out _ _ (cV HVR.all af hu);cases e <;> exact⟨_,rfl,by simp only[Yn,Yq];exact (ai H6.out hgl).trans h3⟩)) (aD HVR.one k).2 bj af af ?_))
  intro v7 w7 hown7 hgr7;have hb7:Below q2.w.heap.size q2.w w7:=H6.grown hgr7 af (λg hg=>(HO6.lt g hg).1)
  replace hown7:w7.ownsRow q2.w.heap.size 50 5 v7 (l4+1) (aR k [I x.n,Y7 Y6 x.z,I x.k,Y9 x.x,I x.v] vss).flatten:=by
   have e9:k+1+(l4 - k)=l4+1:=af
   try rw[e9] at hown7
   simpa[aR] using hown7
  obtain⟨t1,t2,t3,rfl⟩:=aA hown7;have H7:=aa hb7;have H47:=upB H4 hb7;have HB7:=upB HB hb7
  obtain⟨H9,hV9⟩:=((HVR.below H47.out).ay (w':=w7) (S':=λk=>(w3.heap.size<=k/\k<w4.heap.size)\/q2.w.heap.size<=k) (λ_ _ _ _=>rfl) (λ_ _ s=>Ze s)).ins (p:=k) (r:=xdF x) (vs:=[I x.n,Y7 Y6 x.z,I x.k,Y9 x.x,I x.v]) (hh:=λ_=>0) rfl rfl (λi f hf=>by rcases i with _|_|_|_|_|i <;> simp[xdF] at hf <;> subst hf;exact⟨_,rfl,rfl,z0⟩;exact⟨_,rfl,rfl⟩;exact⟨_,rfl,rfl,z2⟩;exact⟨_,rfl,rfl⟩;exact⟨_,rfl,rfl,z4⟩) (λi zs h _=>by rcases i with _|_|_|_|_|i <;> simp[xdF] at h) (λi i2 zs zs2 h _ _ _=>by rcases i with _|_|_|_|_|i <;> simp[xdF] at h) (show k<=(c.xs.map xdF).length by rw[Yo];omega)
  have h45:aQ w7 (λk=>(w3.heap.size<=k/\k<w4.heap.size)\/q2.w.heap.size<=k) 5 ((aR k x c.xs).map xdF) (aR k [I x.n,Y7 Y6 x.z,I x.k,Y9 x.x,I x.v] vss) H9:=by rw[fI];exact hV9
  have hle:((aR k x c.xs).map xdF).length=l4+1:=by rw[Yo,dq af];omega
  obtain⟨u1,u2,hq,hR⟩:=h45.own hown7 hle.symm ag (λg hg=>Zd (hown7.lt g hg).1);rw[hle] at hq hR;simp only[Value.slice.injEq] at hq;obtain⟨rfl,rfl,rfl⟩:=hq;rw[HPL.out] at hR;have HR7:=aa hR;have hs8:=hb7.size;have Bo7:=upK Bo hb7;have Br7:=upK Br hb7;clear o0 o1 o2 o3 o4 o5;obtain⟨o0,o1,o2,o3,o4,o5⟩:=cs6 Bo7;obtain⟨r0,r1,r2,r3,r4,r5,r6,r7⟩:=cs8 Br7;have fo0:=al Bo7.out 0;have fo1:=al Bo7.out 1;have fo2:=al Bo7.out 2;have fo3:=al Bo7.out 3;have fo4:=al Bo7.out 4;have fo5:=al Bo7.out 5;have fr0:=al Br7.out 0;have fr1:=al Br7.out 1;have fr2:=al Br7.out 2;have fr3:=al Br7.out 3;have fr4:=al Br7.out 4;have fr5:=al Br7.out 5;have fr6:=al Br7.out 6;have fr7:=al Br7.out 7
  have hne:¬w.heap.size+1+1=w4.heap.size:=af
  have hne2:¬w4.heap.size=w.heap.size+1+1:=af
  have hol7:=ae Bo7.out;have hrl7:=ae Br7.out;clear hown7 hgr7 hb7 hR hV9 h45 hle hik hkn hcap
  go_wp2
  refine bodyPost_ret (v:=Zc #[J g1 m1 n1,J g2 m2 n2,J g3 m3 n3,J t1 (l4+1) t3,J g5 m5 n5,Y7 Y6 c.now,I ⟨#[]⟩,Y7 Y6 0]) nr rfl ⟨⟨g1,m1,n1,g2,m2,n2,g3,m3,n3,t1,l4+1,t3,g5,m5,n5⟩,⟨Rr c x,⟨#[]⟩,0⟩,rfl,HV.out,?_,sb2 (sb2 (sb2 (sb2 (sb2 (sb2 (sb2 (sb2 (ah (show w.heap.size<=w4.heap.size by omega) (HB7.out)))))))))⟩
  have hkeep:∀k9,w3.heap.size<=k9->¬k9=w4.heap.size->(((((((((w7.setCell ⟨w4.heap.size,3,U⟩ (J t1 (l4+1) t3)).setCell ⟨w.heap.size+1+1,0,U⟩ (J g1 m1 n1)).setCell ⟨w.heap.size+1+1,1,U⟩ (J g2 m2 n2)).setCell ⟨w.heap.size+1+1,2,U⟩ (J g3 m3 n3)).setCell ⟨w.heap.size+1+1,3,U⟩ (J t1 (l4+1) t3)).setCell ⟨w.heap.size+1+1,4,U⟩ (J g5 m5 n5)).setCell ⟨w.heap.size+1+1,5,U⟩ (Y7 Y6 c.now)).setCell ⟨w.heap.size+1+1,6,U⟩ (I ⟨#[]⟩)).setCell ⟨w.heap.size+1+1,7,U⟩ (Y7 Y6 0)).heap[k9]?=w7.heap[k9]?:=λk9 h1 h2=>by rw[Ya _ _ _ _ (show k9≠w.heap.size+1+1 by omega),Ya _ _ _ _ (show k9≠w.heap.size+1+1 by omega),Ya _ _ _ _ (show k9≠w.heap.size+1+1 by omega),Ya _ _ _ _ (show k9≠w.heap.size+1+1 by omega),Ya _ _ _ _ (show k9≠w.heap.size+1+1 by omega),Ya _ _ _ _ (show k9≠w.heap.size+1+1 by omega),Ya _ _ _ _ (show k9≠w.heap.size+1+1 by omega),Ya _ _ _ _ (show k9≠w.heap.size+1+1 by omega),Ya _ _ _ _ (show k9≠w4.heap.size by omega)]
  have hlo:=HLO.out
  refine⟨(HFR.n.ay (w':=(((((((((w7.setCell ⟨w4.heap.size,3,U⟩ (J t1 (l4+1) t3)).setCell ⟨w.heap.size+1+1,0,U⟩ (J g1 m1 n1)).setCell ⟨w.heap.size+1+1,1,U⟩ (J g2 m2 n2)).setCell ⟨w.heap.size+1+1,2,U⟩ (J g3 m3 n3)).setCell ⟨w.heap.size+1+1,3,U⟩ (J t1 (l4+1) t3)).setCell ⟨w.heap.size+1+1,4,U⟩ (J g5 m5 n5)).setCell ⟨w.heap.size+1+1,5,U⟩ (Y7 Y6 c.now)).setCell ⟨w.heap.size+1+1,6,U⟩ (I ⟨#[]⟩)).setCell ⟨w.heap.size+1+1,7,U⟩ (Y7 Y6 0))) (S':=λk=>w.heap.size<=k) (λk hk s=>(hkeep k s af).trans (H47.block k hk)) (λ_ _ s=>loq)),(HFR.k.ay (w':=(((((((((w7.setCell ⟨w4.heap.size,3,U⟩ (J t1 (l4+1) t3)).setCell ⟨w.heap.size+1+1,0,U⟩ (J g1 m1 n1)).setCell ⟨w.heap.size+1+1,1,U⟩ (J g2 m2 n2)).setCell ⟨w.heap.size+1+1,2,U⟩ (J g3 m3 n3)).setCell ⟨w.heap.size+1+1,3,U⟩ (J t1 (l4+1) t3)).setCell ⟨w.heap.size+1+1,4,U⟩ (J g5 m5 n5)).setCell ⟨w.heap.size+1+1,5,U⟩ (Y7 Y6 c.now)).setCell ⟨w.heap.size+1+1,6,U⟩ (I ⟨#[]⟩)).setCell ⟨w.heap.size+1+1,7,U⟩ (Y7 Y6 0))) (S':=λk=>w.heap.size<=k) (λk hk s=>(hkeep k s af).trans (H47.block k hk)) (λ_ _ s=>loq)),(HFR.v.ay (w':=(((((((((w7.setCell ⟨w4.heap.size,3,U⟩ (J t1 (l4+1) t3)).setCell ⟨w.heap.size+1+1,0,U⟩ (J g1 m1 n1)).setCell ⟨w.heap.size+1+1,1,U⟩ (J g2 m2 n2)).setCell ⟨w.heap.size+1+1,2,U⟩ (J g3 m3 n3)).setCell ⟨w.heap.size+1+1,3,U⟩ (J t1 (l4+1) t3)).setCell ⟨w.heap.size+1+1,4,U⟩ (J g5 m5 n5)).setCell ⟨w.heap.size+1+1,5,U⟩ (Y7 Y6 c.now)).setCell ⟨w.heap.size+1+1,6,U⟩ (I ⟨#[]⟩)).setCell ⟨w.heap.size+1+1,7,U⟩ (Y7 Y6 0))) (S':=λk=>w.heap.size<=k) (λk hk s=>(hkeep k s af).trans (H47.block k hk)) (λ_ _ s=>loq)),(HR7.ay (w':=(((((((((w7.setCell ⟨w4.heap.size,3,U⟩ (J t1 (l4+1) t3)).setCell ⟨w.heap.size+1+1,0,U⟩ (J g1 m1 n1)).setCell ⟨w.heap.size+1+1,1,U⟩ (J g2 m2 n2)).setCell ⟨w.heap.size+1+1,2,U⟩ (J g3 m3 n3)).setCell ⟨w.heap.size+1+1,3,U⟩ (J t1 (l4+1) t3)).setCell ⟨w.heap.size+1+1,4,U⟩ (J g5 m5 n5)).setCell ⟨w.heap.size+1+1,5,U⟩ (Y7 Y6 c.now)).setCell ⟨w.heap.size+1+1,6,U⟩ (I ⟨#[]⟩)).setCell ⟨w.heap.size+1+1,7,U⟩ (Y7 Y6 0))) (S':=λk=>w.heap.size<=k) (λk hk s=>hkeep k fD fD) (λ_ _ s=>loq)),(HFR.p.ay (w':=(((((((((w7.setCell ⟨w4.heap.size,3,U⟩ (J t1 (l4+1) t3)).setCell ⟨w.heap.size+1+1,0,U⟩ (J g1 m1 n1)).setCell ⟨w.heap.size+1+1,1,U⟩ (J g2 m2 n2)).setCell ⟨w.heap.size+1+1,2,U⟩ (J g3 m3 n3)).setCell ⟨w.heap.size+1+1,3,U⟩ (J t1 (l4+1) t3)).setCell ⟨w.heap.size+1+1,4,U⟩ (J g5 m5 n5)).setCell ⟨w.heap.size+1+1,5,U⟩ (Y7 Y6 c.now)).setCell ⟨w.heap.size+1+1,6,U⟩ (I ⟨#[]⟩)).setCell ⟨w.heap.size+1+1,7,U⟩ (Y7 Y6 0))) (S':=λk=>w.heap.size<=k) (λk hk s=>(hkeep k s af).trans (H47.block k hk)) (λ_ _ s=>loq))⟩)):p:=h
theorem yY(h:p:=by
 have HPL:=aa hpl;clear hpl;have H4:=upB HB4 q2.b;have HCQ:Hid (∀(j:Nat) u,vss.flatten[j]?=Y5 u->∃g,g4=Y5 ⟨g,0,U⟩/\g<q2.w.heap.size/\q2.w.cell? ⟨g,j,U⟩=Y5 u):=λj u hj=>by
  exact akv
 obtain⟨hq1,hq2,hs5,hok,HOW,hik,hkn⟩:=alK;obtain⟨o0,o1,o2,o3,o4,o5⟩:=cs6 Bo;exact z713z):p:=h
theorem Vj(h:p:=by
 refine⟨⟨j+1,Zb,by omega,rfl,by go_num,show _↔_ from ⟨λ_=>Zd ⟨j,n,by omega,HN.out,HIN.out⟩,λ_=>rfl⟩,HB.out,Bk.out⟩,by simp[intOf];omega⟩):p:=h
theorem Vi(h:p:=by
 refine⟨⟨j+1,Y_,by omega,rfl,by go_num,show _↔_ from ⟨λh=>bU,λh=>HS.2 (h.elim Ze (λ⟨i,m,h1,h2,h3⟩=>Zd ⟨i,m,by by_cases e:i=j;subst e;rw[HN.out] at h2;cases h2;exact absurd h3 HIN.out;omega,h2,h3⟩))⟩,HB.out,Bk.out⟩,by simp[intOf];omega⟩):p:=h
theorem yS(h:p:=by
 repeat (go_big_quiet_step (first|(go_at_call 36;exact Calls.wide (HC0.out _))|fail))
 refine wpQuiet_nil ?_;rintro _ ⟨q1,rfl⟩;obtain⟨HB1,Ck⟩:=iL;clear hne0 HW HB HC0 k0 k1 k2 k3 k4 k5 mz mn Gk Bk g0;have HB:=HB1;clear HB1;have Bk:=Ck;clear Ck;go_wp2;exact z757z):p:=h
theorem Vb(h:p:=by
 exact⟨⟨k+1,by omega,by go_num,Zd ⟨rfl,HQ⟩,HL.trans (q3.b.mono HL.size)⟩,by simp[intOf];omega⟩):p:=h
theorem Va(h:p:=by
 exact⟨⟨k+1,by omega,rfl,by go_num,HL.trans (q3.b.mono HL.size)⟩,by simp[intOf];omega⟩):p:=h
theorem yQ(h:p:=by
 rintro _ ⟨q3,rfl⟩;have HB5:=upB HW q3.b;have Ck:=upK Gk q3.b;have Cx:=upK Gx q3.b;have Cr:=upK Gr q3.b;clear hne0 HW HB Gk Gx Gr Bk Bx Br;have HB:=HB5;clear HB5;have Bk:=Ck;clear Ck;have Bx:=Cx;clear Cx;have Br:=Cr;clear Cr;go_wp2;exact z767z):p:=h
theorem UX(h:p:=by
 exact z254z):p:=h
theorem Uv(h:p:=by
 have hp0:(¬p=0/\a_ c t (co0 p))\/(p=0/\¬8000<t.size/\aq c):=by
  exact uD
 clear hp;rcases hp0 with ⟨hp0,hV⟩|⟨rfl,hl,hT⟩
 ·have z1217z:=@aa _ @KY;exact tu
 have HT:=aa hT;clear hT;obtain⟨k0,k1,k2,k3,k4,k5⟩:=cs6 Bk;have ltk_1:=ae Bk.out;go_wp2_with fail;refine (eN ⟨a1,l1,y1,a2,l2,y2,a3,l3,y3,a4,l4,y4,a5,l5,y5⟩ c.now c.xs t _ (HR.x.below HB.out)).mono ?_;rintro e w2 ⟨hb,hf⟩;clear k0 k1 k2 k3 k4 k5 ltk_1;have z1444z:=@aa _ @Hj;exact ba):p:=h
theorem Uu(h:p:=by
 have hp0:(¬p=0/\aZ c t (co0 p))\/(p=0/\¬8000<t.size/\aq c):=by
  exact uD
 clear hp;rcases hp0 with ⟨hp0,hV⟩|⟨rfl,hl,hT⟩
 ·have z1217z:=@aa _ @KX;exact tu
 have HT:=aa hT;clear hT;obtain⟨k0,k1,k2,k3,k4,k5⟩:=cs6 Bk;have ltk_1:=ae Bk.out;go_wp2_with fail;refine (je ⟨a1,l1,y1,a2,l2,y2,a3,l3,y3,a4,l4,y4,a5,l5,y5⟩ c.now c.vs t _ (HR.v.below HB.out)).mono ?_;rintro e w2 ⟨hb,hf⟩;clear k0 k1 k2 k3 k4 k5 ltk_1;have z1444z:=@aa _ @Hi;exact ba):p:=h
theorem Uo(h:p:=by
 cases r
 ·exact P9
 exact P9):p:=h
theorem Un(h:p:=by
 have HI:=aa hi;clear hi;cases r
 ·have HV:Hid (bP c x (co0 1)):=Ze ⟨1,λh=>(by have:=HI.2 h.2.1;cases this),rfl⟩;exact ah0
 have HI2:=aa (HI.1 bM);clear HI;by_cases he:x.v=⟨#[]⟩;rotate_left
 ·have hq:=aY he;have HV:Hid (bP c x (co0 1)):=Ze ⟨1,λh=>he h.2.2,rfl⟩;exact ah0
 have hq:=cC he;have HO:Hid (aq c/\gK x/\x.v=⟨#[]⟩):=⟨HT.out,HI2.out,he⟩;clear HI2 he;have z1227z:=@aa _ @KK;exact ef):p:=h
theorem Ul(h:p:=by
 have HI:=aa hi;clear hi;cases r
 ·have HV:Hid (bh c (⟨xn,xc,xz,xk,xs,⟨#[]⟩,Y_,[]⟩:Vd) (co0 1)):=Ze ⟨1,λh=>(by have:=HI.2 h.2.1;cases this),rfl⟩;have z1227z:=@aa _ @KI;exact ef
 have HO:Hid (fp c (⟨xn,xc,xz,xk,xs,⟨#[]⟩,Y_,[]⟩:Vd)):=⟨HT.out,HI.1 bM,rfl,rfl,rfl⟩;clear HI;have z1227z:=@aa _ @KJ;exact ef):p:=h
theorem Uk(h:p:=by
 obtain⟨r0,r1,r2,r3,r4,r5,r6,r7⟩:=cs8 Br;have ltr_3:=ae Br.out;obtain⟨fr0,fr1,fr2,fr3,fr4,fr5,fr6,fr7⟩:=j6 Br.out;have hrl:w.heap.size+1+1<w3.heap.size:=ae Br.out;exact ahC):p:=h
theorem Uj(h:p:=by
 obtain⟨r0,r1,r2,r3,r4,r5,r6,r7⟩:=cs8 Br;have ltr_2:=ae Br.out;obtain⟨fr0,fr1,fr2,fr3,fr4,fr5,fr6,fr7⟩:=j6 Br.out;have hrl:w.heap.size+1+1<w2.heap.size:=ae Br.out;exact ahC):p:=h
theorem Ui(h:p:=by
 have HI:=aa hi;clear hi;cases r
 ·have HV:Hid (ck c (⟨xn,xc,xz,zs,xd,0⟩:Pd) (co0 1)):=Ze ⟨1,λh=>(by have:=HI.2 h.2.1;cases this),rfl⟩;exact P9
 have HO:Hid (fq c (⟨xn,xc,xz,zs,xd,0⟩:Pd)):=⟨HT.out,HI.1 bM,rfl⟩;have hv3:vl<=3:=by have h9:(zs.length:Int)<=3:=HO.2.1.2.2.2.1.1;omega
 clear HI;have z1227z:=@aa _ @KH;exact ef):p:=h
theorem Uh(h:p:=by
 by_cases hlt:k<vl
 ·have hk1:(k:Int)<vl:=af
  obtain⟨b,o,t,rfl,hb,hx,hc,hsz⟩:=(HX.below HB.out).at hlt;have HXT:=aa hx;clear hx hsz;rcases hcd with ⟨rfl,HQ⟩|⟨rfl,HQ⟩
  ·cases hh:hit Xd.n c.xs t;rotate_left
   ·obtain⟨y,hy,hyn⟩:=cf hh;have HY:=aa hy;have HYN:=aa hyn;have HHT:=aa hh;clear hy hyn hh;obtain⟨j,hj⟩:∃j,j=pl Xd.n c.xs t:=⟨_,rfl⟩;rw[<-hj] at HY;clear hj;have hj0:¬(j:Int)<0:=af
    have hj1:decide ((j:Int)<0)=Y_:=aG
    have z1185z:=@aa _ @Lo;exact eg
   have HMS2:Hid (∀(j:Nat) y,c.xs[j]?=Y5 y->¬y.n=t):=λj y h1 h2=>by rw[(bo HT.2.1.2.2.2.1.2.2 h1 h2).2] at hh;cases hh
   have HHT:Hid (¬(∀(j:Nat) t,zs[j]?=Y5 t->hit Xd.n c.xs t=Zb)):=λh=>(by have h1:=h k t HXT.out;rw[hh] at h1;cases h1);clear hh;have z1185z:=@aa _ @Lp;exact eg
  have z1185z:=@aa _ @Lr;exact eg
 have hk1:¬(k:Int)<vl:=af
 rcases hcd with ⟨rfl,HQ⟩|⟨rfl,HQ⟩;rotate_left
 ·have HV:Hid (ck c (⟨xn,xc,xz,zs,xd,0⟩:Pd) (co0 6)):=Ze ⟨2,⟨HO.out,HNO.out,by omega,HQ.out⟩,rfl⟩;have z1185z:=@aa _ @Ln;exact eg
 have HV:Hid (ck c (⟨xn,xc,xz,zs,xd,0⟩:Pd) ⟨Rt c (⟨xn,xc,xz,zs,xd,0⟩:Pd),⟨#[]⟩,0⟩):=Zd ⟨HO.out,HNO.out,by omega,λj t ht=>HQ.out j t (by have h9:j<zs.length:=(Yc.1 ht).1;omega) ht,rfl⟩;clear HQ HNO;have HQ1:Hid (w.heap.size+1+1<wr.heap.size):=ae Br.out;have z1185z:=@aa _ @Ls;exact eg):p:=h
theorem Ug(h:p:=by
 by_cases hlt:k<vl
 ·exact ahY
 have hk1:¬(k:Int)<vl:=af
 have z1185z:=@aa _ @Lm;exact eg):p:=h
theorem Uf(h:p:=by
 by_cases hlt:k<vl
 ·exact ahY
 have hk1:¬(k:Int)<vl:=af
 have z1185z:=@aa _ @Ll;exact eg):p:=h
theorem Ue(h:p:=by
 rcases hf with ⟨i,y,hy,hyn,rfl⟩|⟨hno,rfl⟩;rotate_left
 ·have HV:Hid (bh c (⟨xn,xc,xz,xk,xs,⟨#[]⟩,Y_,[]⟩:Vd) (co0 6)):=Ze ⟨2,⟨HO.out,HNO.out,by omega,λh=>by rw[f_ hno] at h;cases h⟩,rfl⟩;clear hno;have z1419z:=@aa _ @Ig;exact sQ
 have HV:Hid (bh c (⟨xn,xc,xz,xk,xs,⟨#[]⟩,Y_,[]⟩:Vd) ⟨ak0 c (⟨xn,xc,xz,xk,xs,⟨#[]⟩,Y_,[]⟩:Vd),⟨#[]⟩,0⟩):=Zd ⟨HO.out,HNO.out,by omega,(bo HT.2.1.2.1.2.2 hy hyn).2,rfl⟩;have hi0:¬(i:Int)<0:=af
 clear hy hyn HNO;have HQ1:Hid (w.heap.size+1+1<w3.heap.size):=ae Br.out;have z1419z:=@aa _ @Ih;exact sQ):p:=h
theorem Ud(h:p:=by
 obtain⟨r0,r1,r2,r3,r4,r5,r6,r7⟩:=cs8 Br;have ltr_5:=ae Br.out;have z1272z:=@aa _ @J9;exact jO):p:=h
theorem Uc(h:p:=by
 obtain⟨r0,r1,r2,r3,r4,r5,r6,r7⟩:=cs8 Br;have ltr_4:=ae Br.out;have z1272z:=@aa _ @J8;exact jO):p:=h
theorem Ub(h:p:=by
 obtain⟨r0,r1,r2,r3,r4,r5,r6,r7⟩:=cs8 Br;have ltr_4:=ae Br.out;have z1272z:=@aa _ @J7;exact jO):p:=h
theorem Ua(h:p:=by
 have z1400z:=@aa _ @Iw;exact sW):p:=h
theorem T_(h:p:=by
 have z1400z:=@aa _ @Iv;exact sW):p:=h
theorem cF(h:p:=by
 have z1497z:=@aa _ @Gj;exact jI):p:=h
theorem TD(h:p:=by
 obtain⟨x0,x1,x2,x3,x4,x5⟩:=cs6 Bx;have ltx_2:=ae Bx.out;go_wp2_with fail;refine (aJ 1 _).mono ?_;rintro e w3 ⟨rfl,hb⟩;clear k0 k1 k2 k3 k4 k5 ltk_2 x0 x1 x2 x3 x4 x5 ltx_2;replace Bk:=upK Bk hb;replace Bx:=upK Bx hb;have z154z:=@aa _ @afk;exact cH):p:=h
theorem TB(h:p:=by
 obtain⟨x0,x1,x2,x3,x4⟩:=cs5 Bx;have ltx_2:=ae Bx.out;go_wp2_with fail;refine (aJ 1 _).mono ?_;rintro e w3 ⟨rfl,hb⟩;clear k0 k1 k2 k3 k4 k5 ltk_2 x0 x1 x2 x3 x4 ltx_2;replace Bk:=upK Bk hb;replace Bx:=upK Bx hb;have z154z:=@aa _ @afj;exact cH):p:=h
theorem SQ(h:p:=by
 have hcap:¬n5=k:=af
 rcases g5 with _|⟨b2,f2,sp⟩
 ·exact Av
 all_goals (
  go_wp2_with (first|(at_builtin;refine ar rfl _ _ 27 rfl w9.heap.size 40 i5 (Zc #[I ⟨#[]⟩,Y7 Y6 0,I ⟨#[]⟩,J U 0 0,I ⟨#[]⟩,Y7 Y6 0]) 6 88 Tryz.underlying27 HI0.1 HI0.2.1 HI0.2.2.1 HI0.2.2.2 rfl ag _ _ _ rfl (HOW.out) _ k _ (vss.take k).flatten rfl (bw HVA.out af) (λj u hu=>by obtain⟨g,e,hgl,h3⟩:=HCQ.out _ _ (cD hu);cases e <;> exact⟨_,rfl,by simp only[Yn,Yq];exact (ai (ak (w9.setCell ⟨w.heap.size+1,3,U⟩ (J sa vl sc)) _) hgl).trans h3⟩) (aD HV1.out k).1 bj af oJ ?_))
  intro v5 w5 hown5 hgr5
  replace hown5:w5.ownsRow w9.heap.size 40 6 v5 k (vss.take k).flatten:=dN
  have hb5:Below (w9.setCell ⟨w.heap.size+1,3,U⟩ (J sa vl sc)).heap.size (w9.setCell ⟨w.heap.size+1,3,U⟩ (J sa vl sc)) w5:=(ak (w9.setCell ⟨w.heap.size+1,3,U⟩ (J sa vl sc)) (Y8 #[] 40)).grown hgr5 aG (λg hg=>by simp only[YL,Option.some.injEq] at hg;omega);obtain⟨s1,s2,s3,rfl⟩:=aA hown5;have HO5:=aa hown5;have H5:=aa hb5;have hs6:=hb5.size;have Bx5:=upK BxU hb5;clear x0 x1 x2 x3 x4 x5;obtain⟨x0,x1,x2,x3,x4,x5⟩:=cs6 Bx5;have hxl:=ae Bx5.out;clear hown5 hgr5 hb5 HOW o0 o1 o2 o3 o4 o5
  go_wp2_with (first|(at_builtin;refine ar rfl _ _ 27 rfl w9.heap.size 40 i5 (Zc #[I ⟨#[]⟩,Y7 Y6 0,I ⟨#[]⟩,J U 0 0,I ⟨#[]⟩,Y7 Y6 0]) 6 88 Tryz.underlying27 HI0.1 HI0.2.1 HI0.2.2.1 HI0.2.2.2 rfl ag _ _ _ rfl (HO5.alloc _) _ 1 _ [I xn,Y7 Y6 xc,I xz,J sa vl sc,I xd,Y7 Y6 0] rfl rfl (λj u hu=>⟨_,rfl,by rw[Yn,Yq,an (heap_alloc_new w5 _)];simpa using hu⟩) dx bj af bL ?_))
  intro v6 w6 hown6 hgr6;have hb6:Below (w9.setCell ⟨w.heap.size+1,3,U⟩ (J sa vl sc)).heap.size (w9.setCell ⟨w.heap.size+1,3,U⟩ (J sa vl sc)) w6:=(H5.alloc H5.size _).grown hgr6 oJ (λg hg=>by have:=(HO5.lt g hg).1;omega);obtain⟨r1,r2,r3,rfl⟩:=aA hown6;have HO6:=aa hown6;have H6:=aa hb6;have hs7:=hb6.size;have Bo6:=upK BoU hb6;obtain⟨o0,o1,o2,o3,o4,o5⟩:=cs6 Bo6;have hol:=ae Bo6.out;clear hown6 hgr6 hb6 x0 x1 x2 x3 x4 x5 hxl
  go_wp2_with (first|(at_builtin;refine ar rfl _ _ 27 rfl w9.heap.size 40 i5 (Zc #[I ⟨#[]⟩,Y7 Y6 0,I ⟨#[]⟩,J U 0 0,I ⟨#[]⟩,Y7 Y6 0]) 6 88 Tryz.underlying27 HI0.1 HI0.2.1 HI0.2.2.1 HI0.2.2.2 rfl ag _ _ _ rfl (HO6.out) _ (l5 - k) _ (vss.drop k).flatten rfl jP (λj u hu=>by first|(rw[Yx af] at hu;simp at hu;done)|(obtain⟨g,e,hgl,h3⟩:=HCQ.out _ _ (cV HVA.out af hu);cases e <;> exact⟨_,rfl,by simp only[Yn,Yq];exact (ai H6.out hgl).trans h3⟩)) (aD HV1.out k).2 bj af af ?_))
  intro v7 w7 hown7 hgr7;have hb7:Below (w9.setCell ⟨w.heap.size+1,3,U⟩ (J sa vl sc)).heap.size (w9.setCell ⟨w.heap.size+1,3,U⟩ (J sa vl sc)) w7:=H6.grown hgr7 af (λg hg=>by have:=(HO6.lt g hg).1;omega)
  replace hown7:w7.ownsRow w9.heap.size 40 6 v7 (l5+1) (aR k [I xn,Y7 Y6 xc,I xz,J sa vl sc,I xd,Y7 Y6 0] vss).flatten:=by
   have e9:k+1+(l5 - k)=l5+1:=af
   try rw[e9] at hown7
   simpa[aR] using hown7
  have HU7:=aa hb7;have HB7:=upB HU0 hb7;obtain⟨t1,t3,rfl,hR⟩:=HFIN.out w7 v7 k HPL.out hb7 hown7;have HR7:=aa hR;have hs8:=hb7.size;have Bo7:=upK BoU hb7;have Br7:=upK BrU hb7;clear o0 o1 o2 o3 o4 o5;obtain⟨o0,o1,o2,o3,o4,o5⟩:=cs6 Bo7;obtain⟨r0,r1,r2,r3,r4,r5,r6,r7⟩:=cs8 Br7;have fo0:=al Bo7.out 0;have fo1:=al Bo7.out 1;have fo2:=al Bo7.out 2;have fo3:=al Bo7.out 3;have fo4:=al Bo7.out 4;have fo5:=al Bo7.out 5;obtain⟨fr0,fr1,fr2,fr3,fr4,fr5,fr6,fr7⟩:=j6 Br7.out
  have hne1:¬w.heap.size+1+1=w4.heap.size:=af
  have hne2:¬w4.heap.size=w.heap.size+1+1:=af
  have hol7:=ae Bo7.out;have hrl7:=ae Br7.out;clear hown7 hgr7 hb7 hR hik hkn hcap
  go_wp2
  refine bodyPost_ret (v:=Zc #[J g1 m1 n1,J g2 m2 n2,J g3 m3 n3,J g4 m4 n4,J t1 (l5+1) t3,Y7 Y6 c.now,I ⟨#[]⟩,Y7 Y6 0]) nq rfl ⟨⟨g1,m1,n1,g2,m2,n2,g3,m3,n3,g4,m4,n4,t1,l5+1,t3⟩,⟨Rt c (⟨xn,xc,xz,zs,xd,0⟩:Pd),⟨#[]⟩,0⟩,rfl,HV.out,?_,et (show w.heap.size<=w.heap.size+1+1 by omega) (ah (show w.heap.size<=w4.heap.size by omega) (HB7.out))⟩
  have hkeep:∀k9,wr3<=k9->¬k9=w4.heap.size->(((((((((w7.setCell ⟨w4.heap.size,4,U⟩ (J t1 (l5+1) t3)).setCell ⟨w.heap.size+1+1,0,U⟩ (J g1 m1 n1)).setCell ⟨w.heap.size+1+1,1,U⟩ (J g2 m2 n2)).setCell ⟨w.heap.size+1+1,2,U⟩ (J g3 m3 n3)).setCell ⟨w.heap.size+1+1,3,U⟩ (J g4 m4 n4)).setCell ⟨w.heap.size+1+1,4,U⟩ (J t1 (l5+1) t3)).setCell ⟨w.heap.size+1+1,5,U⟩ (Y7 Y6 c.now)).setCell ⟨w.heap.size+1+1,6,U⟩ (I ⟨#[]⟩)).setCell ⟨w.heap.size+1+1,7,U⟩ (Y7 Y6 0)).heap[k9]?=w7.heap[k9]?:=λk9 h1 h2=>by rw[Ya _ _ _ _ (show k9≠w.heap.size+1+1 by omega),Ya _ _ _ _ (show k9≠w.heap.size+1+1 by omega),Ya _ _ _ _ (show k9≠w.heap.size+1+1 by omega),Ya _ _ _ _ (show k9≠w.heap.size+1+1 by omega),Ya _ _ _ _ (show k9≠w.heap.size+1+1 by omega),Ya _ _ _ _ (show k9≠w.heap.size+1+1 by omega),Ya _ _ _ _ (show k9≠w.heap.size+1+1 by omega),Ya _ _ _ _ (show k9≠w.heap.size+1+1 by omega),Ya _ _ _ _ (show k9≠w4.heap.size by omega)]
  have hlo:=HLO.out
  refine⟨(HFU.n.ay (S':=λk=>w.heap.size<=k) (λk hk s=>(hkeep k s.1 gG).trans (HU7.block k hk)) (λ_ _ s=>loq)),(HFU.k.ay (S':=λk=>w.heap.size<=k) (λk hk s=>(hkeep k s.1 gG).trans (HU7.block k hk)) (λ_ _ s=>loq)),(HFU.v.ay (S':=λk=>w.heap.size<=k) (λk hk s=>(hkeep k s.1 gG).trans (HU7.block k hk)) (λ_ _ s=>loq)),(HFU.x.ay (S':=λk=>w.heap.size<=k) (λk hk s=>(hkeep k s.1 gG).trans (HU7.block k hk)) (λ_ _ s=>loq)),(HR7.ay (S':=λk=>w.heap.size<=k) (λk hk s=>hkeep k oK oK) (λ_ _ s=>loq))⟩)):p:=h
theorem SP(h:p:=by
 rcases g5 with _|⟨b2,f2,sp⟩
 ·have hl0:l5=0:=YH λhne0=>by
   exact Av
  obtain rfl:k=0:=af
  subst hl0;by_cases hcap:n5=0;all_goals (
   go_wp2_with (first|(at_builtin;refine ar rfl _ _ 27 rfl w9.heap.size 40 i5 (Zc #[I ⟨#[]⟩,Y7 Y6 0,I ⟨#[]⟩,J U 0 0,I ⟨#[]⟩,Y7 Y6 0]) 6 88 Tryz.underlying27 HI0.1 HI0.2.1 HI0.2.2.1 HI0.2.2.2 rfl ag _ _ _ rfl (HOW.out) _ 0 _ (vss.take 0).flatten rfl (bw HVA.out af) (λj u hu=>by obtain⟨g,e,hgl,h3⟩:=HCQ.out _ _ (cD hu);cases e <;> exact⟨_,rfl,by simp only[Yn,Yq];exact (ai (ak (w9.setCell ⟨w.heap.size+1,3,U⟩ (J sa vl sc)) _) hgl).trans h3⟩) (aD HV1.out 0).1 bj af oJ ?_))
   intro v5 w5 hown5 hgr5
   replace hown5:w5.ownsRow w9.heap.size 40 6 v5 0 (vss.take 0).flatten:=dN
   have hb5:Below (w9.setCell ⟨w.heap.size+1,3,U⟩ (J sa vl sc)).heap.size (w9.setCell ⟨w.heap.size+1,3,U⟩ (J sa vl sc)) w5:=(ak (w9.setCell ⟨w.heap.size+1,3,U⟩ (J sa vl sc)) (Y8 #[] 40)).grown hgr5 aG (λg hg=>by simp only[YL,Option.some.injEq] at hg;omega);obtain⟨s1,s2,s3,rfl⟩:=aA hown5;have HO5:=aa hown5;have H5:=aa hb5;have hs6:=hb5.size;have Bx5:=upK BxU hb5;clear x0 x1 x2 x3 x4 x5;obtain⟨x0,x1,x2,x3,x4,x5⟩:=cs6 Bx5;have hxl:=ae Bx5.out;clear hown5 hgr5 hb5 HOW o0 o1 o2 o3 o4 o5
   go_wp2_with (first|(at_builtin;refine ar rfl _ _ 27 rfl w9.heap.size 40 i5 (Zc #[I ⟨#[]⟩,Y7 Y6 0,I ⟨#[]⟩,J U 0 0,I ⟨#[]⟩,Y7 Y6 0]) 6 88 Tryz.underlying27 HI0.1 HI0.2.1 HI0.2.2.1 HI0.2.2.2 rfl ag _ _ _ rfl (HO5.alloc _) _ 1 _ [I xn,Y7 Y6 xc,I xz,J sa vl sc,I xd,Y7 Y6 0] rfl rfl (λj u hu=>⟨_,rfl,by rw[Yn,Yq,an (heap_alloc_new w5 _)];simpa using hu⟩) dx bj af bL ?_))
   intro v6 w6 hown6 hgr6;have hb6:Below (w9.setCell ⟨w.heap.size+1,3,U⟩ (J sa vl sc)).heap.size (w9.setCell ⟨w.heap.size+1,3,U⟩ (J sa vl sc)) w6:=(H5.alloc H5.size _).grown hgr6 oJ (λg hg=>by have:=(HO5.lt g hg).1;omega);obtain⟨r1,r2,r3,rfl⟩:=aA hown6;have HO6:=aa hown6;have H6:=aa hb6;have hs7:=hb6.size;have Bo6:=upK BoU hb6;obtain⟨o0,o1,o2,o3,o4,o5⟩:=cs6 Bo6;have hol:=ae Bo6.out;clear hown6 hgr6 hb6 x0 x1 x2 x3 x4 x5 hxl
   go_wp2_with (first|(at_builtin;refine ar rfl _ _ 27 rfl w9.heap.size 40 i5 (Zc #[I ⟨#[]⟩,Y7 Y6 0,I ⟨#[]⟩,J U 0 0,I ⟨#[]⟩,Y7 Y6 0]) 6 88 Tryz.underlying27 HI0.1 HI0.2.1 HI0.2.2.1 HI0.2.2.2 rfl ag _ _ _ rfl (HO6.out) _ (0 - 0) _ (vss.drop 0).flatten rfl jP (λj u hu=>by first|(rw[Yx af] at hu;simp at hu;done)|(obtain⟨g,e,hgl,h3⟩:=HCQ.out _ _ (cV HVA.out af hu);cases e <;> exact⟨_,rfl,by simp only[Yn,Yq];exact (ai H6.out hgl).trans h3⟩)) (aD HV1.out 0).2 bj af af ?_))
   intro v7 w7 hown7 hgr7;have hb7:Below (w9.setCell ⟨w.heap.size+1,3,U⟩ (J sa vl sc)).heap.size (w9.setCell ⟨w.heap.size+1,3,U⟩ (J sa vl sc)) w7:=H6.grown hgr7 af (λg hg=>by have:=(HO6.lt g hg).1;omega)
   replace hown7:w7.ownsRow w9.heap.size 40 6 v7 (1) (aR 0 [I xn,Y7 Y6 xc,I xz,J sa vl sc,I xd,Y7 Y6 0] vss).flatten:=by
    have e9:0+1+(0 - 0)=1:=af
    try rw[e9] at hown7
    simpa[aR] using hown7
   have HU7:=aa hb7;have HB7:=upB HU0 hb7;obtain⟨t1,t3,rfl,hR⟩:=HFIN.out w7 v7 0 HPL.out hb7 hown7;have HR7:=aa hR;have hs8:=hb7.size;have Bo7:=upK BoU hb7;have Br7:=upK BrU hb7;clear o0 o1 o2 o3 o4 o5;obtain⟨o0,o1,o2,o3,o4,o5⟩:=cs6 Bo7;obtain⟨r0,r1,r2,r3,r4,r5,r6,r7⟩:=cs8 Br7;have fo0:=al Bo7.out 0;have fo1:=al Bo7.out 1;have fo2:=al Bo7.out 2;have fo3:=al Bo7.out 3;have fo4:=al Bo7.out 4;have fo5:=al Bo7.out 5;obtain⟨fr0,fr1,fr2,fr3,fr4,fr5,fr6,fr7⟩:=j6 Br7.out
   have hne1:¬w.heap.size+1+1=w4.heap.size:=af
   have hne2:¬w4.heap.size=w.heap.size+1+1:=af
   have hol7:=ae Bo7.out;have hrl7:=ae Br7.out;clear hown7 hgr7 hb7 hR hik hkn hcap
   go_wp2
   refine bodyPost_ret (v:=Zc #[J g1 m1 n1,J g2 m2 n2,J g3 m3 n3,J g4 m4 n4,J t1 (1) t3,Y7 Y6 c.now,I ⟨#[]⟩,Y7 Y6 0]) nq rfl ⟨⟨g1,m1,n1,g2,m2,n2,g3,m3,n3,g4,m4,n4,t1,1,t3⟩,⟨Rt c (⟨xn,xc,xz,zs,xd,0⟩:Pd),⟨#[]⟩,0⟩,rfl,HV.out,?_,et (show w.heap.size<=w.heap.size+1+1 by omega) (ah (show w.heap.size<=w4.heap.size by omega) (HB7.out))⟩
   have hkeep:∀k9,wr3<=k9->¬k9=w4.heap.size->(((((((((w7.setCell ⟨w4.heap.size,4,U⟩ (J t1 (1) t3)).setCell ⟨w.heap.size+1+1,0,U⟩ (J g1 m1 n1)).setCell ⟨w.heap.size+1+1,1,U⟩ (J g2 m2 n2)).setCell ⟨w.heap.size+1+1,2,U⟩ (J g3 m3 n3)).setCell ⟨w.heap.size+1+1,3,U⟩ (J g4 m4 n4)).setCell ⟨w.heap.size+1+1,4,U⟩ (J t1 (1) t3)).setCell ⟨w.heap.size+1+1,5,U⟩ (Y7 Y6 c.now)).setCell ⟨w.heap.size+1+1,6,U⟩ (I ⟨#[]⟩)).setCell ⟨w.heap.size+1+1,7,U⟩ (Y7 Y6 0)).heap[k9]?=w7.heap[k9]?:=λk9 h1 h2=>by rw[Ya _ _ _ _ (show k9≠w.heap.size+1+1 by omega),Ya _ _ _ _ (show k9≠w.heap.size+1+1 by omega),Ya _ _ _ _ (show k9≠w.heap.size+1+1 by omega),Ya _ _ _ _ (show k9≠w.heap.size+1+1 by omega),Ya _ _ _ _ (show k9≠w.heap.size+1+1 by omega),Ya _ _ _ _ (show k9≠w.heap.size+1+1 by omega),Ya _ _ _ _ (show k9≠w.heap.size+1+1 by omega),Ya _ _ _ _ (show k9≠w.heap.size+1+1 by omega),Ya _ _ _ _ (show k9≠w4.heap.size by omega)]
   have hlo:=HLO.out
   refine⟨(HFU.n.ay (S':=λk=>w.heap.size<=k) (λk hk s=>(hkeep k s.1 gG).trans (HU7.block k hk)) (λ_ _ s=>loq)),(HFU.k.ay (S':=λk=>w.heap.size<=k) (λk hk s=>(hkeep k s.1 gG).trans (HU7.block k hk)) (λ_ _ s=>loq)),(HFU.v.ay (S':=λk=>w.heap.size<=k) (λk hk s=>(hkeep k s.1 gG).trans (HU7.block k hk)) (λ_ _ s=>loq)),(HFU.x.ay (S':=λk=>w.heap.size<=k) (λk hk s=>(hkeep k s.1 gG).trans (HU7.block k hk)) (λ_ _ s=>loq)),(HR7.ay (S':=λk=>w.heap.size<=k) (λk hk s=>hkeep k oK oK) (λ_ _ s=>loq))⟩)
 by_cases hcap:n5=k;all_goals (
  go_wp2_with (first|(at_builtin;refine ar rfl _ _ 27 rfl w9.heap.size 40 i5 (Zc #[I ⟨#[]⟩,Y7 Y6 0,I ⟨#[]⟩,J U 0 0,I ⟨#[]⟩,Y7 Y6 0]) 6 88 Tryz.underlying27 HI0.1 HI0.2.1 HI0.2.2.1 HI0.2.2.2 rfl ag _ _ _ rfl (HOW.out) _ k _ (vss.take k).flatten rfl (bw HVA.out af) (λj u hu=>by obtain⟨g,e,hgl,h3⟩:=HCQ.out _ _ (cD hu);cases e <;> exact⟨_,rfl,by simp only[Yn,Yq];exact (ai (ak (w9.setCell ⟨w.heap.size+1,3,U⟩ (J sa vl sc)) _) hgl).trans h3⟩) (aD HV1.out k).1 bj af oJ ?_))
  intro v5 w5 hown5 hgr5
  replace hown5:w5.ownsRow w9.heap.size 40 6 v5 k (vss.take k).flatten:=dN
  have hb5:Below (w9.setCell ⟨w.heap.size+1,3,U⟩ (J sa vl sc)).heap.size (w9.setCell ⟨w.heap.size+1,3,U⟩ (J sa vl sc)) w5:=(ak (w9.setCell ⟨w.heap.size+1,3,U⟩ (J sa vl sc)) (Y8 #[] 40)).grown hgr5 aG (λg hg=>by simp only[YL,Option.some.injEq] at hg;omega);obtain⟨s1,s2,s3,rfl⟩:=aA hown5;have HO5:=aa hown5;have H5:=aa hb5;have hs6:=hb5.size;have Bx5:=upK BxU hb5;clear x0 x1 x2 x3 x4 x5;obtain⟨x0,x1,x2,x3,x4,x5⟩:=cs6 Bx5;have hxl:=ae Bx5.out;clear hown5 hgr5 hb5 HOW o0 o1 o2 o3 o4 o5
  go_wp2_with (first|(at_builtin;refine ar rfl _ _ 27 rfl w9.heap.size 40 i5 (Zc #[I ⟨#[]⟩,Y7 Y6 0,I ⟨#[]⟩,J U 0 0,I ⟨#[]⟩,Y7 Y6 0]) 6 88 Tryz.underlying27 HI0.1 HI0.2.1 HI0.2.2.1 HI0.2.2.2 rfl ag _ _ _ rfl (HO5.alloc _) _ 1 _ [I xn,Y7 Y6 xc,I xz,J sa vl sc,I xd,Y7 Y6 0] rfl rfl (λj u hu=>⟨_,rfl,by rw[Yn,Yq,an (heap_alloc_new w5 _)];simpa using hu⟩) dx bj af bL ?_))
  intro v6 w6 hown6 hgr6;have hb6:Below (w9.setCell ⟨w.heap.size+1,3,U⟩ (J sa vl sc)).heap.size (w9.setCell ⟨w.heap.size+1,3,U⟩ (J sa vl sc)) w6:=(H5.alloc H5.size _).grown hgr6 oJ (λg hg=>by have:=(HO5.lt g hg).1;omega);obtain⟨r1,r2,r3,rfl⟩:=aA hown6;have HO6:=aa hown6;have H6:=aa hb6;have hs7:=hb6.size;have Bo6:=upK BoU hb6;obtain⟨o0,o1,o2,o3,o4,o5⟩:=cs6 Bo6;have hol:=ae Bo6.out;clear hown6 hgr6 hb6 x0 x1 x2 x3 x4 x5 hxl
  go_wp2_with (first|(at_builtin;refine ar rfl _ _ 27 rfl w9.heap.size 40 i5 (Zc #[I ⟨#[]⟩,Y7 Y6 0,I ⟨#[]⟩,J U 0 0,I ⟨#[]⟩,Y7 Y6 0]) 6 88 Tryz.underlying27 HI0.1 HI0.2.1 HI0.2.2.1 HI0.2.2.2 rfl ag _ _ _ rfl (HO6.out) _ (l5 - k) _ (vss.drop k).flatten rfl jP (λj u hu=>by first|(rw[Yx af] at hu;simp at hu;done)|(obtain⟨g,e,hgl,h3⟩:=HCQ.out _ _ (cV HVA.out af hu);cases e <;> exact⟨_,rfl,by simp only[Yn,Yq];exact (ai H6.out hgl).trans h3⟩)) (aD HV1.out k).2 bj af af ?_))
  intro v7 w7 hown7 hgr7;have hb7:Below (w9.setCell ⟨w.heap.size+1,3,U⟩ (J sa vl sc)).heap.size (w9.setCell ⟨w.heap.size+1,3,U⟩ (J sa vl sc)) w7:=H6.grown hgr7 af (λg hg=>by have:=(HO6.lt g hg).1;omega)
  replace hown7:w7.ownsRow w9.heap.size 40 6 v7 (l5+1) (aR k [I xn,Y7 Y6 xc,I xz,J sa vl sc,I xd,Y7 Y6 0] vss).flatten:=by
   have e9:k+1+(l5 - k)=l5+1:=af
   try rw[e9] at hown7
   simpa[aR] using hown7
  have HU7:=aa hb7;have HB7:=upB HU0 hb7;obtain⟨t1,t3,rfl,hR⟩:=HFIN.out w7 v7 k HPL.out hb7 hown7;have HR7:=aa hR;have hs8:=hb7.size;have Bo7:=upK BoU hb7;have Br7:=upK BrU hb7;clear o0 o1 o2 o3 o4 o5;obtain⟨o0,o1,o2,o3,o4,o5⟩:=cs6 Bo7;obtain⟨r0,r1,r2,r3,r4,r5,r6,r7⟩:=cs8 Br7;have fo0:=al Bo7.out 0;have fo1:=al Bo7.out 1;have fo2:=al Bo7.out 2;have fo3:=al Bo7.out 3;have fo4:=al Bo7.out 4;have fo5:=al Bo7.out 5;obtain⟨fr0,fr1,fr2,fr3,fr4,fr5,fr6,fr7⟩:=j6 Br7.out
  have hne1:¬w.heap.size+1+1=w4.heap.size:=af
  have hne2:¬w4.heap.size=w.heap.size+1+1:=af
  have hol7:=ae Bo7.out;have hrl7:=ae Br7.out;clear hown7 hgr7 hb7 hR hik hkn hcap
  go_wp2
  refine bodyPost_ret (v:=Zc #[J g1 m1 n1,J g2 m2 n2,J g3 m3 n3,J g4 m4 n4,J t1 (l5+1) t3,Y7 Y6 c.now,I ⟨#[]⟩,Y7 Y6 0]) nq rfl ⟨⟨g1,m1,n1,g2,m2,n2,g3,m3,n3,g4,m4,n4,t1,l5+1,t3⟩,⟨Rt c (⟨xn,xc,xz,zs,xd,0⟩:Pd),⟨#[]⟩,0⟩,rfl,HV.out,?_,et (show w.heap.size<=w.heap.size+1+1 by omega) (ah (show w.heap.size<=w4.heap.size by omega) (HB7.out))⟩
  have hkeep:∀k9,wr3<=k9->¬k9=w4.heap.size->(((((((((w7.setCell ⟨w4.heap.size,4,U⟩ (J t1 (l5+1) t3)).setCell ⟨w.heap.size+1+1,0,U⟩ (J g1 m1 n1)).setCell ⟨w.heap.size+1+1,1,U⟩ (J g2 m2 n2)).setCell ⟨w.heap.size+1+1,2,U⟩ (J g3 m3 n3)).setCell ⟨w.heap.size+1+1,3,U⟩ (J g4 m4 n4)).setCell ⟨w.heap.size+1+1,4,U⟩ (J t1 (l5+1) t3)).setCell ⟨w.heap.size+1+1,5,U⟩ (Y7 Y6 c.now)).setCell ⟨w.heap.size+1+1,6,U⟩ (I ⟨#[]⟩)).setCell ⟨w.heap.size+1+1,7,U⟩ (Y7 Y6 0)).heap[k9]?=w7.heap[k9]?:=λk9 h1 h2=>by rw[Ya _ _ _ _ (show k9≠w.heap.size+1+1 by omega),Ya _ _ _ _ (show k9≠w.heap.size+1+1 by omega),Ya _ _ _ _ (show k9≠w.heap.size+1+1 by omega),Ya _ _ _ _ (show k9≠w.heap.size+1+1 by omega),Ya _ _ _ _ (show k9≠w.heap.size+1+1 by omega),Ya _ _ _ _ (show k9≠w.heap.size+1+1 by omega),Ya _ _ _ _ (show k9≠w.heap.size+1+1 by omega),Ya _ _ _ _ (show k9≠w.heap.size+1+1 by omega),Ya _ _ _ _ (show k9≠w4.heap.size by omega)]
  have hlo:=HLO.out
  refine⟨(HFU.n.ay (S':=λk=>w.heap.size<=k) (λk hk s=>(hkeep k s.1 gG).trans (HU7.block k hk)) (λ_ _ s=>loq)),(HFU.k.ay (S':=λk=>w.heap.size<=k) (λk hk s=>(hkeep k s.1 gG).trans (HU7.block k hk)) (λ_ _ s=>loq)),(HFU.v.ay (S':=λk=>w.heap.size<=k) (λk hk s=>(hkeep k s.1 gG).trans (HU7.block k hk)) (λ_ _ s=>loq)),(HFU.x.ay (S':=λk=>w.heap.size<=k) (λk hk s=>(hkeep k s.1 gG).trans (HU7.block k hk)) (λ_ _ s=>loq)),(HR7.ay (S':=λk=>w.heap.size<=k) (λk hk s=>hkeep k oK oK) (λ_ _ s=>loq))⟩)):p:=h
theorem yB(h:p:=by
 have HVA:=aa hV.all;have HV1:=aa hV.one;obtain⟨gh,hg⟩:=hTU.fr;obtain⟨HFIN,HOW⟩:=al0;clear hV hcell hTU hg hkf hku HQF;obtain⟨o0,o1,o2,o3,o4,o5⟩:=cs6 Bo9;obtain⟨x0,x1,x2,x3,x4,x5⟩:=cs6 Bx9;have hne:¬w4.heap.size=w.heap.size+1:=af
 have hne':¬w.heap.size+1=w4.heap.size:=af
 have hik:(k:Int)<=n5:=af
 have hkn:k<=n5:=af
 obtain⟨UU,hUU⟩:∃UU,UU=(w9.setCell ⟨w.heap.size+1,3,U⟩ (J sa vl sc)):=⟨_,rfl⟩;exact z934z):p:=h
theorem SO(h:p:=by
 obtain⟨x0,x1,x2,x3,x4,x5⟩:=cs6 Bx;have ltx_3:=ae Bx.out;go_wp2;clear k0 k1 k2 k3 k4 k5 ltk_3 x0 x1 x2 x3 x4 x5 ltx_3;exact z498z):p:=h
theorem SN(h:p:=by
 obtain⟨x0,x1,x2,x3,x4,x5,x6,x7⟩:=cs8 Bx;have ltx_3:=ae Bx.out;go_wp2_with fail;exact z501z):p:=h
theorem SM(h:p:=by
 obtain⟨x0,x1,x2,x3,x4⟩:=cs5 Bx;have ltx_3:=ae Bx.out;go_wp2_with fail;exact z505z):p:=h
theorem pH(h:p:=by
 have HB:=HB3;clear HB3;have Bk:=Ck;clear Ck;have Bx:=Cx;clear Cx;have Br:=Cr;clear Cr;have z1263z:=@aa _ @Kc;exact ee):p:=h
theorem Sh(h:p:=by
 have ltr_6:=ae Br.out;obtain⟨o0,o1,o2,o3,o4,o5⟩:=cs6 Bo;have lto_6:=ae Bo.out;go_upto_if 73 with fail;go_cut [10] from 57 to 90 (λs wx=>s=Zf (Y5 ⟨w7.heap.size,0,U⟩)/\Hid (∃sa sl sc vs,de c t vs/\wx.heap[w7.heap.size]?=Y5 (Y8 (clo6 d'.a1 d'.l1 d'.c1 d'.a2 d'.l2 d'.c2 sa sl sc d'.a4 d'.l4 d'.c4 d'.a5 d'.l5 d'.c5 c.now) 29 (0,0))/\wx.heap[w.heap.size+1]?=Y5 (Y8 #[J U 0 0,J U 0 0,J U 0 0,J U 0 0,J U 0 0,Y7 Y6 0,I ⟨#[]⟩,Y7 Y6 0] 33 (0,0))/\aw wx d'.a1 d'.l1 d'.c1 7 83 (c.ns.map ndF) (λk=>wr.heap.size<=k/\¬k=w7.heap.size)/\aw wx d'.a2 d'.l2 d'.c2 4 74 (c.ks.map kdF) (λk=>wr.heap.size<=k/\¬k=w7.heap.size)/\aw wx sa sl sc 8 38 (vs.map vdF) (λk=>wr.heap.size<=k/\¬k=w7.heap.size)/\aw wx d'.a4 d'.l4 d'.c4 5 50 (c.xs.map xdF) (λk=>wr.heap.size<=k/\¬k=w7.heap.size)/\aw wx d'.a5 d'.l5 d'.c5 6 40 (c.ps.map pdF) (λk=>wr.heap.size<=k/\¬k=w7.heap.size)/\Below w.heap.size w wx));case first=>
  go_wp2_with fail;go_meet;exact⟨rfl,_,_,_,c.vs,Zd ⟨HNO.out,rfl⟩,Bo.out,Br.out,HOQ.n,HOQ.k,HOQ.v,HOQ.x,HOQ.p,HB.out⟩
 case rest=>
  exact Pw):p:=h
theorem Sg(h:p:=by
 have ltr_7:=ae Br.out;obtain⟨o0,o1,o2,o3,o4,o5⟩:=cs6 Bo;have lto_7:=ae Bo.out;go_upto_if 73 with fail;go_cut [10] from 57 to 90 (λs wx=>s=Zf (Y5 ⟨w7.heap.size,0,U⟩)/\Hid (∃sa sl sc vs,de c t vs/\wx.heap[w7.heap.size]?=Y5 (Y8 (clo6 d'.a1 d'.l1 d'.c1 d'.a2 d'.l2 d'.c2 sa sl sc d'.a4 d'.l4 d'.c4 d'.a5 d'.l5 d'.c5 c.now) 29 (0,0))/\wx.heap[w.heap.size+1]?=Y5 (Y8 #[J U 0 0,J U 0 0,J U 0 0,J U 0 0,J U 0 0,Y7 Y6 0,I ⟨#[]⟩,Y7 Y6 0] 33 (0,0))/\aw wx d'.a1 d'.l1 d'.c1 7 83 (c.ns.map ndF) (λk=>wr.heap.size<=k/\¬k=w7.heap.size)/\aw wx d'.a2 d'.l2 d'.c2 4 74 (c.ks.map kdF) (λk=>wr.heap.size<=k/\¬k=w7.heap.size)/\aw wx sa sl sc 8 38 (vs.map vdF) (λk=>wr.heap.size<=k/\¬k=w7.heap.size)/\aw wx d'.a4 d'.l4 d'.c4 5 50 (c.xs.map xdF) (λk=>wr.heap.size<=k/\¬k=w7.heap.size)/\aw wx d'.a5 d'.l5 d'.c5 6 40 (c.ps.map pdF) (λk=>wr.heap.size<=k/\¬k=w7.heap.size)/\Below w.heap.size w wx));case first=>
  cases hky:kc.y
  ·have HKP:Hid (¬Kept c v):=λ⟨j9,k9,h1,h2,h3⟩=>by
    obtain⟨-,rfl⟩:=HT.2.1.2.1.2.2.inj h1 HKC.out (h2.trans HKN.symm);rw[hky] at h3;cases h3
   go_wp2_with fail;refine (rF d'.a3 d'.l3 d'.c3 c.vs v.n j v _ _ HOQ.v (by have h6:=HOQ.v.1;have h7:(c.vs.map vdF).length=d'.l3:=h6;rw[Yo] at h7;omega) HT.2.1.2.2.1.2.2 HJ.out rfl).mono ?_;rintro e w8 ⟨a8,l8,c8,rfl,hN8,hb8⟩;have hs8:=hb8.size;have HN8:=aa hN8;have HB8:=aa hb8;have Bo8:=upK Bo hb8;have Br8:=upK Br hb8;clear hN8 hb8;obtain⟨s0,s1,s2,s3,s4,s5⟩:=cs6 Bo8;have fs2:=al Bo8.out 2;have hol:=ae Bo8.out;go_wp2_with fail;go_meet;exact⟨rfl,a8,l8,c8,_,Ze ⟨j,v,HJ.out,HBD.out,Zd ⟨HKP.out,rfl⟩⟩,av Bo8.out _,(Ya _ _ _ _ (show w.heap.size+1≠w7.heap.size by omega)).trans Br8.out,((HOQ.n.below HB8.out).ay (λk hk s=>Ya _ _ _ _ s.2) (λ_ _ s=>s)),((HOQ.k.below HB8.out).ay (λk hk s=>Ya _ _ _ _ s.2) (λ_ _ s=>s)),HN8.ay (λk hk s=>Ya _ _ _ _ (show k≠w7.heap.size by rcases s with s|s;exact s.2;omega)) (λk _ s=>by rcases s with s|s;exact s;exact⟨by omega,by omega⟩),((HOQ.x.below HB8.out).ay (λk hk s=>Ya _ _ _ _ s.2) (λ_ _ s=>s)),((HOQ.p.below HB8.out).ay (λk hk s=>Ya _ _ _ _ s.2) (λ_ _ s=>s)),ah af (HB.trans (HB8.mono HB.size))⟩
  ·have HKP:Hid (Kept c v):=⟨jk,kc,HKC.out,HKN.out,hky⟩;have hjr:(c.vs.map vdF)[j]?=Y5 (vdF v):=by rw[Yv,HJ.out];rfl
   obtain⟨gv,cur,hgv,hgS,hgl,hgb⟩:=aw.inn HOQ.v hjr;have hgv':d'.a3=Y5 ⟨gv,0,U⟩:=hgv;have hOV:=HOQ.v;rw[hgv'] at hOV;obtain⟨⟨u5,c5⟩,f5,⟨u6,c6⟩,f6⟩:=aw.agL hOV HJ.out;have HOV:=aa hOV;have HGB:=aa hgb;have hlv:(j:Int)<d'.l3:=by have h6:=HOQ.v.1;have h7:(c.vs.map vdF).length=d'.l3:=h6;rw[Yo] at h7;omega
   have hgS1:wr.heap.size<=gv:=hgS.1;have hgS2:¬gv=w7.heap.size:=hgS.2;have hgS3:¬w7.heap.size=gv:=λe=>hgS2 e.symm;clear hOV hgb hjr hgS hgv;rw[hgv'] at o2;go_wp2_with fail;go_meet;exact⟨rfl,Y5 ⟨gv,0,U⟩,d'.l3,d'.c3,_,Ze ⟨j,v,HJ.out,HBD.out,Ze ⟨HKP.out,rfl⟩⟩,(Ya _ _ _ _ hgS3).trans ((Ya _ _ _ _ hgS3).trans (by rw[<-hgv'];exact Bo.out)),(Ya _ _ _ _ (show w.heap.size+1≠gv by omega)).trans ((Ya _ _ _ _ (show w.heap.size+1≠gv by omega)).trans Br.out),aw.bR (aw.bR HOQ.n (Yh _ _) HGB.out ag ag) (Yh _ _) (av HGB.out _) ag ag,aw.bR (aw.bR HOQ.k (Yh _ _) HGB.out ag ag) (Yh _ _) (av HGB.out _) ag ag,aw.Ce HOV.out HJ.out,aw.bR (aw.bR HOQ.x (Yh _ _) HGB.out ag ag) (Yh _ _) (av HGB.out _) ag ag,aw.bR (aw.bR HOQ.p (Yh _ _) HGB.out ag ag) (Yh _ _) (av HGB.out _) ag ag,ah af (ah af HB.out)⟩
 case rest=>
  exact Pw):p:=h
theorem yv(h:p:=by
 have Bk:=Ck;clear Ck;have Br:=Cr;clear Cr;have Bo:=Co;clear Co;have HQB:Hid (Below (w7.alloc (Y8 (clv d' c.now) 29)).heap.size (w7.alloc (Y8 (clv d' c.now) 29)) q1.w):=q1.b;have hq8:w7.heap.size<q1.w.heap.size:=ae Bo.out;have HOQ:Hid (df q1.w d' c.raw (λk=>wr.heap.size<=k/\¬k=w7.heap.size)):=by
  exact al_
 clear HO HQB;generalize q1.w=wq at*;obtain⟨r0,r1,r2,r3,r4,r5,r6,r7⟩:=cs8 Br;exact z976z):p:=h
theorem NH(h:p:=by
 cases r
 ·have HV:Hid (bh c (⟨xn,xc,xz,xk,xs,⟨#[]⟩,Y_,[]⟩:Vd) (co0 1)):=Ze ⟨1,λh=>(by have:=HI.2 h.1;cases this),rfl⟩;have z483z:=@aa _ @aa2;exact cQ
 have HT:=aa (HI.1 bM);clear HI;have z483z:=@aa _ @aa3;exact cQ):p:=h
theorem NG(h:p:=by
 cases r
 ·have HV:Hid (ck c (⟨xn,xc,xz,zs,xd,0⟩:Pd) (co0 1)):=Ze ⟨1,λh=>(by have:=HI.2 h.1;cases this),rfl⟩;exact Pu
 have HT:=aa (HI.1 bM);clear HI;have z483z:=@aa _ @aa1;exact cQ):p:=h
theorem ud(h:p:=by
 rintro e w1 ⟨r,rfl,hi,hb⟩;have z1567z:=@aa _ @Fc;exact mI):p:=h
theorem M3(h:p:=by
 have HP:=aa hxn;have HTP:=aa hvr;have hk3:(k:Int)<l5:=af
 clear hat hxn z0 z2 z4 hvr;cases r
 ·go_wp2_with fail;refine (bX va vl vc p.zs t _ HTP.out).mono ?_;rintro e w6 ⟨r2,rfl,hi,hb6⟩;have HI6:=aa hi;have HL6:=upB HL4 hb6;clear hi;replace Bk:=upK Bk hb6;replace Br:=upK Br hb6;replace HB:=upB HB hb6;clear hb6;clear k0 k1 k2 k3 k4 k5 ltk c0 c1 c2 c3 c4 c5 hb;go_wp2;refine⟨⟨k+1,r2,by omega,rfl,by go_num,show _↔_ from ?_,HL6.out⟩,by simp[intOf];omega⟩;constructor
  ·exact λh=>Zd ⟨k,p,by omega,HP.out,HI6.1 h⟩
  ·rintro (h|⟨i,m,h1,h2,h3⟩)
   ·exact absurd (HS.2 (Ze h)) ag
   ·by_cases e:i=k
    ·subst e;rw[HP.out] at h2;cases h2;exact HI6.2 h3
    ·exact absurd (HS.2 (Zd ⟨i,m,by omega,h2,h3⟩)) ag
 ·go_wp2;refine⟨⟨k+1,Zb,by omega,rfl,by go_num,show _↔_ from ⟨λ_=>(HS.1 bM).elim Ze (λ⟨i,m,h1,h2⟩=>Zd ⟨i,m,by omega,h2⟩),λ_=>rfl⟩,HL4.out⟩,by simp[intOf];omega⟩):p:=h
theorem MX(h:p:=by
 have hpl:k=pl Xd.n c.xs x.n:=(oY HE.out HXy.out hless).symm;have z713z:=@aa _ @VT;exact yY):p:=h
theorem MW(h:p:=by
 have hpl:k=pl Xd.n c.xs x.n:=by rw[fY (nm:=Xd.n) (xs:=c.xs) (t:=x.n) (λj y hy=>HE.out j y kV hy)];omega
 have z713z:=@aa _ @VS;exact yY):p:=h
theorem MV(h:p:=by
 have hpl:k=pl Pd.n c.ps xn:=(oY HE.out HXy.out hless).symm;have z1365z:=@aa _ @IX;exact s_):p:=h
theorem MU(h:p:=by
 have hpl:k=pl Pd.n c.ps xn:=by rw[fY (nm:=Pd.n) (xs:=c.ps) (t:=xn) (λj y hy=>HE.out j y kV hy)];omega
 have z1365z:=@aa _ @IW;exact s_):p:=h
theorem gW(h:p:=by
 have HB:=HB6;clear HB6;have Bk:=Ck;clear Ck;have Bx:=Cx;clear Cx;have Br:=Cr;clear Cr;have Bo:=Co;clear Co;exact z1061z):p:=h
theorem LF(h:p:=by
 have hne:¬w.heap.size+1=w7.heap.size:=af
 have hne2:¬w7.heap.size=w.heap.size+1:=af
 have hol5:=ae Bo5.out;have hrl5:=ae Br5.out;clear hown5 hgr5 hb5 hsel hrec hR ht2 hlen5 hik hik1 hxa hxl;go_wp2;have hlo:=HLO.out;refine bodyPost_ret (v:=Zc #[J d'.a1 d'.l1 d'.c1,J d'.a2 d'.l2 d'.c2,J sa sl sc,J t1 t2 t3,J d'.a5 d'.l5 d'.c5,Y7 Y6 c.now,I ⟨#[]⟩,Y7 Y6 0]) Ae rfl ⟨⟨d'.a1,d'.l1,d'.c1,d'.a2,d'.l2,d'.c2,sa,sl,sc,t1,t2,t3,d'.a5,d'.l5,d'.c5⟩,⟨fJ c t vs,⟨#[]⟩,0⟩,rfl,HV.out,?_,sb1 (sb1 (sb1 (sb1 (sb1 (sb1 (sb1 (sb1 (ah (show w.heap.size<=w7.heap.size by omega) (HB5.out)))))))))⟩;have hkeep:∀k,wr.heap.size<=k->¬k=w7.heap.size->(((((((((w11.setCell ⟨w7.heap.size,3,U⟩ (J t1 t2 t3)).setCell ⟨w.heap.size+1,0,U⟩ (J d'.a1 d'.l1 d'.c1)).setCell ⟨w.heap.size+1,1,U⟩ (J d'.a2 d'.l2 d'.c2)).setCell ⟨w.heap.size+1,2,U⟩ (J sa sl sc)).setCell ⟨w.heap.size+1,3,U⟩ (J t1 t2 t3)).setCell ⟨w.heap.size+1,4,U⟩ (J d'.a5 d'.l5 d'.c5)).setCell ⟨w.heap.size+1,5,U⟩ (Y7 Y6 c.now)).setCell ⟨w.heap.size+1,6,U⟩ (I ⟨#[]⟩)).setCell ⟨w.heap.size+1,7,U⟩ (Y7 Y6 0)).heap[k]?=w11.heap[k]?:=λk h1 h2=>by rw[Ya _ _ _ _ (show k≠w.heap.size+1 by omega),Ya _ _ _ _ (show k≠w.heap.size+1 by omega),Ya _ _ _ _ (show k≠w.heap.size+1 by omega),Ya _ _ _ _ (show k≠w.heap.size+1 by omega),Ya _ _ _ _ (show k≠w.heap.size+1 by omega),Ya _ _ _ _ (show k≠w.heap.size+1 by omega),Ya _ _ _ _ (show k≠w.heap.size+1 by omega),Ya _ _ _ _ (show k≠w.heap.size+1 by omega),Ya _ _ _ _ (show k≠w7.heap.size by omega)]
 refine⟨?_,?_,?_,?_,?_⟩
 ·exact (HN9.ay (w':=(((((((((w11.setCell ⟨w7.heap.size,3,U⟩ (J t1 t2 t3)).setCell ⟨w.heap.size+1,0,U⟩ (J d'.a1 d'.l1 d'.c1)).setCell ⟨w.heap.size+1,1,U⟩ (J d'.a2 d'.l2 d'.c2)).setCell ⟨w.heap.size+1,2,U⟩ (J sa sl sc)).setCell ⟨w.heap.size+1,3,U⟩ (J t1 t2 t3)).setCell ⟨w.heap.size+1,4,U⟩ (J d'.a5 d'.l5 d'.c5)).setCell ⟨w.heap.size+1,5,U⟩ (Y7 Y6 c.now)).setCell ⟨w.heap.size+1,6,U⟩ (I ⟨#[]⟩)).setCell ⟨w.heap.size+1,7,U⟩ (Y7 Y6 0))) (λk hk s=>(hkeep k s.1 s.2).trans (H35.block k hk)) (λ_ _ s=>s)).rl (λk s=>loq)
 ·exact (HK9.ay (w':=(((((((((w11.setCell ⟨w7.heap.size,3,U⟩ (J t1 t2 t3)).setCell ⟨w.heap.size+1,0,U⟩ (J d'.a1 d'.l1 d'.c1)).setCell ⟨w.heap.size+1,1,U⟩ (J d'.a2 d'.l2 d'.c2)).setCell ⟨w.heap.size+1,2,U⟩ (J sa sl sc)).setCell ⟨w.heap.size+1,3,U⟩ (J t1 t2 t3)).setCell ⟨w.heap.size+1,4,U⟩ (J d'.a5 d'.l5 d'.c5)).setCell ⟨w.heap.size+1,5,U⟩ (Y7 Y6 c.now)).setCell ⟨w.heap.size+1,6,U⟩ (I ⟨#[]⟩)).setCell ⟨w.heap.size+1,7,U⟩ (Y7 Y6 0))) (λk hk s=>(hkeep k s.1 s.2).trans (H35.block k hk)) (λ_ _ s=>s)).rl (λk s=>loq)
 ·exact (HV9.ay (w':=(((((((((w11.setCell ⟨w7.heap.size,3,U⟩ (J t1 t2 t3)).setCell ⟨w.heap.size+1,0,U⟩ (J d'.a1 d'.l1 d'.c1)).setCell ⟨w.heap.size+1,1,U⟩ (J d'.a2 d'.l2 d'.c2)).setCell ⟨w.heap.size+1,2,U⟩ (J sa sl sc)).setCell ⟨w.heap.size+1,3,U⟩ (J t1 t2 t3)).setCell ⟨w.heap.size+1,4,U⟩ (J d'.a5 d'.l5 d'.c5)).setCell ⟨w.heap.size+1,5,U⟩ (Y7 Y6 c.now)).setCell ⟨w.heap.size+1,6,U⟩ (I ⟨#[]⟩)).setCell ⟨w.heap.size+1,7,U⟩ (Y7 Y6 0))) (λk hk s=>(hkeep k s.1 s.2).trans (H35.block k hk)) (λ_ _ s=>s)).rl (λk s=>loq)
 ·exact (HR5.ay (w':=(((((((((w11.setCell ⟨w7.heap.size,3,U⟩ (J t1 t2 t3)).setCell ⟨w.heap.size+1,0,U⟩ (J d'.a1 d'.l1 d'.c1)).setCell ⟨w.heap.size+1,1,U⟩ (J d'.a2 d'.l2 d'.c2)).setCell ⟨w.heap.size+1,2,U⟩ (J sa sl sc)).setCell ⟨w.heap.size+1,3,U⟩ (J t1 t2 t3)).setCell ⟨w.heap.size+1,4,U⟩ (J d'.a5 d'.l5 d'.c5)).setCell ⟨w.heap.size+1,5,U⟩ (Y7 Y6 c.now)).setCell ⟨w.heap.size+1,6,U⟩ (I ⟨#[]⟩)).setCell ⟨w.heap.size+1,7,U⟩ (Y7 Y6 0))) (λk hk s=>hkeep k (by rcases s with s|s;exact s.1;omega) (by rcases s with s|s;exact s.2;omega)) (λ_ _ s=>s)).rl (λk s=>loq)
 ·exact (HP9.ay (w':=(((((((((w11.setCell ⟨w7.heap.size,3,U⟩ (J t1 t2 t3)).setCell ⟨w.heap.size+1,0,U⟩ (J d'.a1 d'.l1 d'.c1)).setCell ⟨w.heap.size+1,1,U⟩ (J d'.a2 d'.l2 d'.c2)).setCell ⟨w.heap.size+1,2,U⟩ (J sa sl sc)).setCell ⟨w.heap.size+1,3,U⟩ (J t1 t2 t3)).setCell ⟨w.heap.size+1,4,U⟩ (J d'.a5 d'.l5 d'.c5)).setCell ⟨w.heap.size+1,5,U⟩ (Y7 Y6 c.now)).setCell ⟨w.heap.size+1,6,U⟩ (I ⟨#[]⟩)).setCell ⟨w.heap.size+1,7,U⟩ (Y7 Y6 0))) (λk hk s=>(hkeep k s.1 s.2).trans (H35.block k hk)) (λ_ _ s=>s)).rl (λk s=>loq)):p:=h
theorem Lt(h:p:=by
 clear k0 k1 k2 k3 k4 k5 ltk_4 x0 x1 x2 x3 x4 x5 ltx_4;obtain⟨Gk,Gx,Gr,HW⟩:=kW;have hne0:=Wd.ne wr;have z15z:=@aa _ @aje;exact aX):p:=h
theorem Ls(h:p:=by
 have z1667z:=@aa _ @D4;exact fy):p:=h
theorem Lr(h:p:=by
 clear k0 k1 k2 k3 k4 k5 ltk_4 x0 x1 x2 x3 x4 x5 ltx_4;obtain⟨Gk,Gx,Gr,HW⟩:=kW;have hne0:=Wd.ne wr;have z15z:=@aa _ @ajk;exact aX):p:=h
theorem Lp(h:p:=by
 clear k0 k1 k2 k3 k4 k5 ltk_4 x0 x1 x2 x3 x4 x5 ltx_4;have z1700z:=@aa _ @DF;exact gO):p:=h
theorem Lo(h:p:=by
 clear k0 k1 k2 k3 k4 k5 ltk_4 x0 x1 x2 x3 x4 x5 ltx_4;have z1700z:=@aa _ @DE;exact gO):p:=h
theorem Ln(h:p:=by
 refine (aJ 6 _).mono ?_;rintro e w4 ⟨rfl,hb⟩;clear k0 k1 k2 k3 k4 k5 ltk_4 x0 x1 x2 x3 x4 x5 ltx_4;replace Bk:=upK Bk hb;replace Bx:=upK Bx hb;have z154z:=@aa _ @afp;exact cH):p:=h
theorem Lm(h:p:=by
 refine (aJ 7 _).mono ?_;have z1477z:=@aa _ @GM;exact sG):p:=h
theorem Ll(h:p:=by
 refine (aJ 9 _).mono ?_;have z1477z:=@aa _ @GL;exact sG):p:=h
theorem eg(h:p:=by
 obtain⟨k0,k1,k2,k3,k4,k5⟩:=cs6 Bk;have ltk_4:=ae Bk.out;obtain⟨x0,x1,x2,x3,x4,x5⟩:=cs6 Bx;have ltx_4:=ae Bx.out;go_wp2_with fail;exact z1185z):p:=h
theorem Lf(h:p:=by
 have z1528z:=@aa _ @FN;exact gP):p:=h
theorem Le(h:p:=by
 refine (fv ⟨a1,l1,y1,a2,l2,y2,a3,l3,y3,a4,l4,y4,a5,l5,y5⟩ c t _ (HR.below HB.out) HT.2.1.2.2.2.1.2.2 HT.2.1.2.2.1.2.2 (cq.ne HT.2.1) HJ.out HBD.out).mono ?_;rintro e w3 ⟨rfl,hb⟩;clear k0 k1 k2 k3 k4 k5 ltk_2;have z1444z:=@aa _ @Hh;exact ba):p:=h
theorem Lc(h:p:=by
 refine (fO ⟨a1,l1,y1,a2,l2,y2,a3,l3,y3,a4,l4,y4,a5,l5,y5⟩ c t _ (HR.below HB.out) HT.2.1.2.2.2.1.2.2 HT.2.1.2.2.1.2.2 (cq.ne HT.2.1) HNO.out).mono ?_;rintro e w4 ⟨rfl,hb⟩;clear k0 k1 k2 k3 k4 k5 ltk_2;have z1444z:=@aa _ @He;exact ba):p:=h
theorem Lb(h:p:=by
 have z1528z:=@aa _ @FM;exact gP):p:=h
theorem La(h:p:=by
 refine ((ko ⟨a1,l1,y1,a2,l2,y2,(Y5 ⟨b3,o3,U⟩),l3,y3,a4,l4,y4,a5,l5,y5⟩ c i x _ (HR.below HB.out) HX.out).mono (λ_ _ h=>au.yes h HIN.out)).mono ?_;rintro e w5 ⟨rfl,hb⟩;clear k0 k1 k2 k3 k4 k5 ltk_2;have z1444z:=@aa _ @Hb;exact ba):p:=h
theorem K_(h:p:=by
 refine ((ko ⟨a1,l1,y1,a2,l2,y2,(Y5 ⟨b3,o3,U⟩),l3,y3,a4,l4,y4,a5,l5,y5⟩ c i x _ (HR.below HB.out) HX.out).mono (λ_ _ h=>au.no h HIN.out)).mono ?_;rintro e w5 ⟨rfl,hb⟩;clear k0 k1 k2 k3 k4 k5 ltk_2;have z1444z:=@aa _ @Ha;exact ba):p:=h
theorem K9(h:p:=by
 refine (aJ 11 _).mono ?_;rintro e w3 ⟨rfl,hb⟩;clear k0 k1 k2 k3 k4 k5 ltk_2;replace Bk:=upK Bk hb;have z154z:=@aa _ @afl;exact cH):p:=h
theorem KY(h:p:=by
 have z1z:=@aa _ @ajT;exact ff):p:=h
theorem KX(h:p:=by
 have z1z:=@aa _ @ajS;exact ff):p:=h
theorem tu(h:p:=by
 have z1674z:=@aa _ @DZ;exact jD):p:=h
theorem KK(h:p:=by
 obtain⟨x0,x1,x2,x3,x4⟩:=cs5 Bx;have ltx_2:=ae Bx.out;go_wp2_with fail;clear k0 k1 k2 k3 k4 k5 ltk_2 x0 x1 x2 x3 x4 ltx_2;clear hq;have hri:aF Xd.n c.xs:=HT.2.1.2.2.2.1.2.2;have HRI:=aa hri;clear hri;have hlen2:c.xs.length=l4:=hl4;cases hh:hit Xd.n c.xs x.n;rotate_left
 ·obtain⟨y,hy,hyn⟩:=cf hh;have HY:=aa hy;have HYN:=aa hyn;have HV:Hid (bP c x (co0 7)):=Ze ⟨3,⟨HO.out,hh⟩,rfl⟩;clear hy hyn hh;obtain⟨j,hj⟩:∃j,j=pl Xd.n c.xs x.n:=⟨_,rfl⟩;rw[<-hj] at HY;clear hj;have hj0:¬(j:Int)<0:=af
  obtain⟨Gk,Gx,Gr,HW⟩:=kW;obtain⟨k0,k1,k2,k3,k4,k5⟩:=sl6 Gk;obtain⟨x0,x1,x2,x3,x4⟩:=sl5 Gx;have hne0:=Wd.ne w2;have HC0:=aa (λq:Wd w2=>eM ⟨a1,l1,y1,a2,l2,y2,a3,l3,y3,a4,l4,y4,a5,l5,y5⟩ c.now c.xs x.n q.w (HR.x.below (HW.trans (q.b.mono HW.size))) HRI.out HY.out HYN.out);have HC1:=aa (λq:Wd w2=>eZ l4 8 q.w);have z55z:=@aa _ @afS;exact aC
 have HMS:Hid (∀(j:Nat) y,c.xs[j]?=Y5 y->¬y.n=x.n):=λj y h1 h2=>by rw[(bo HRI.out h1 h2).2] at hh;cases hh
 by_cases hfull:8<=l4
 ·have HV:Hid (bP c x (co0 9)):=Ze ⟨4,⟨HO.out,hh,by omega⟩,rfl⟩;clear hh;obtain⟨Gk,Gx,Gr,HW⟩:=kW;obtain⟨k0,k1,k2,k3,k4,k5⟩:=sl6 Gk;obtain⟨x0,x1,x2,x3,x4⟩:=sl5 Gx;obtain⟨hne0,HC0⟩:=Od;have HC1:=aa (λq:Wd w2=>fM l4 8 hfull q.w);have z55z:=@aa _ @afR;exact aC
 have HNO:=aa hh;have hfull2:l4<8:=af
 clear hh hfull;obtain⟨Gk,Gx,Gr,HW⟩:=kW;obtain⟨k0,k1,k2,k3,k4,k5⟩:=sl6 Gk;obtain⟨x0,x1,x2,x3,x4⟩:=sl5 Gx;obtain⟨hne0,HC0⟩:=Od;have HC1:=aa (λq:Wd w2=>jo l4 8 hfull2 q.w);go_wp2_with fail;refine bN bf bf ?_;repeat (go_big_quiet_step (first|(go_at_call 33;exact Calls.wide (HC0.out _))|(go_at_call 120;exact Calls.wide (HC1.out _))|fail))
 refine wpQuiet_nil ?_;rintro _ ⟨q1,rfl⟩;obtain⟨HB3,Ck,Cx,Cr⟩:=Am;clear hne0 HW HB HC0 HC1 k0 k1 k2 k3 k4 k5 x0 x1 x2 x3 x4 Gk Gx Gr Bk Bx Br;have HB:=HB3;clear HB3;have Bk:=Ck;clear Ck;have Bx:=Cx;clear Cx;have Br:=Cr;clear Cr;have z1689z:=@aa _ @DL;exact dp):p:=h
theorem KJ(h:p:=by
 obtain⟨x0,x1,x2,x3,x4,x5,x6,x7⟩:=cs8 Bx;have ltx_2:=ae Bx.out;go_wp2_with fail;clear k0 k1 k2 k3 k4 k5 ltk_2 x0 x1 x2 x3 x4 x5 x6 x7 ltx_2;have HRI:Hid (aF Vd.n c.vs):=HT.2.1.2.2.1.2.2;cases hh:hit Vd.n c.vs xn;rotate_left
 ·obtain⟨y,hy,hyn⟩:=cf hh;have HY:=aa hy;have HYN:=aa hyn;have HV:Hid (bh c (⟨xn,xc,xz,xk,xs,⟨#[]⟩,Y_,[]⟩:Vd) (co0 7)):=Ze ⟨3,⟨HO.out,hh⟩,rfl⟩;clear hy hyn hh;obtain⟨j,hj⟩:∃j,j=pl Vd.n c.vs xn:=⟨_,rfl⟩;rw[<-hj] at HY;clear hj;have hj0:¬(j:Int)<0:=af
  obtain⟨Gk,Gx,Gr,HW⟩:=kW;obtain⟨k0,k1,k2,k3,k4,k5⟩:=sl6 Gk;obtain⟨x0,x1,x2,x3,x4,x5,x6,x7⟩:=sl8 Gx;have hne0:=Wd.ne w2;have HC0:=aa (λq:Wd w2=>dZ d c.now c.vs xn q.w (HR.v.below (HW.trans (q.b.mono HW.size))) HRI.out HY.out HYN.out);have HC1:=aa (λq:Wd w2=>eZ d.l3 8 q.w);have z55z:=@aa _ @afU;exact aC
 have HMS:Hid (∀(j:Nat) y,c.vs[j]?=Y5 y->¬y.n=xn):=λj y h1 h2=>by rw[(bo HRI.out h1 h2).2] at hh;cases hh
 by_cases hfull:8<=d.l3
 ·have HV:Hid (bh c (⟨xn,xc,xz,xk,xs,⟨#[]⟩,Y_,[]⟩:Vd) (co0 9)):=Ze ⟨4,⟨HO.out,hh,by omega⟩,rfl⟩;clear hh;have z1546z:=@aa _ @Fz;exact sA
 have HNO:=aa hh;have hfull2:d.l3<8:=af
 clear hh hfull;have z1546z:=@aa _ @FA;exact sA):p:=h
theorem KI(h:p:=by
 obtain⟨x0,x1,x2,x3,x4,x5,x6,x7⟩:=cs8 Bx;have ltx_2:=ae Bx.out;go_wp2_with fail;refine (aJ 1 _).mono ?_;rintro e w3 ⟨rfl,hb⟩;clear k0 k1 k2 k3 k4 k5 ltk_2 x0 x1 x2 x3 x4 x5 x6 x7 ltx_2;have z830z:=@aa _ @Uk;exact cF):p:=h
theorem KH(h:p:=by
 obtain⟨x0,x1,x2,x3,x4,x5⟩:=cs6 Bx;have ltx_2:=ae Bx.out;go_wp2_with fail;clear k0 k1 k2 k3 k4 k5 ltk_2 x0 x1 x2 x3 x4 x5 ltx_2;have HRI:Hid (aF Pd.n c.ps):=HT.2.1.2.2.2.2.2.2;cases hh:hit Pd.n c.ps xn;rotate_left
 ·obtain⟨y,hy,hyn⟩:=cf hh;have HY:=aa hy;have HYN:=aa hyn;have HV:Hid (ck c (⟨xn,xc,xz,zs,xd,0⟩:Pd) (co0 7)):=Ze ⟨3,⟨HO.out,hh⟩,rfl⟩;clear hy hyn hh;obtain⟨j,hj⟩:∃j,j=pl Pd.n c.ps xn:=⟨_,rfl⟩;rw[<-hj] at HY;clear hj;have hj0:¬(j:Int)<0:=af
  have z1700z:=@aa _ @DC;exact gO
 have HMS:Hid (∀(j:Nat) y,c.ps[j]?=Y5 y->¬y.n=xn):=λj y h1 h2=>by rw[(bo HRI.out h1 h2).2] at hh;cases hh
 by_cases hfull:8<=l5
 ·have HV:Hid (ck c (⟨xn,xc,xz,zs,xd,0⟩:Pd) (co0 9)):=Ze ⟨4,⟨HO.out,hh,by omega⟩,rfl⟩;clear hh;have z1700z:=@aa _ @DB;exact gO
 have HNO:=aa hh;have hfull2:l5<8:=af
 clear hh hfull;have z1700z:=@aa _ @DD;exact gO):p:=h
theorem KC(h:p:=by
 obtain⟨x0,x1,x2,x3,x4⟩:=cs5 Bx;have ltx_1:=ae Bx.out;go_wp2_with fail;refine (fN x.n x.z x.k x.x x.v _ z0 z2 z4).mono ?_;rintro e w2 ⟨r,rfl,hi,hb⟩;clear k0 k1 k2 k3 k4 k5 ltk_1 x0 x1 x2 x3 x4 ltx_1;have z830z:=@aa _ @Un;exact cF):p:=h
theorem KB(h:p:=by
 obtain⟨x0,x1,x2,x3,x4⟩:=cs5 Bx;have ltx_1:=ae Bx.out;go_wp2_with fail;refine (aJ 1 _).mono ?_;rintro e w2 ⟨rfl,hb⟩;clear k0 k1 k2 k3 k4 k5 ltk_1 x0 x1 x2 x3 x4 ltx_1;replace Bk:=upK Bk hb;replace Bx:=upK Bx hb;have z154z:=@aa _ @afr;exact cH):p:=h
theorem Kc(h:p:=by
 exact z937z):p:=h
theorem J_(h:p:=by
 exact bodyPost_ret (v:=Zc #[J U 0 0,J U 0 0,J U 0 0,J U 0 0,J U 0 0,Y7 Y6 0,I ⟨#[]⟩,Y7 Y6 6]) nq rfl ⟨ad0,co0 6,rfl,HV.out,i_ _ _,et (show w.heap.size<=w.heap.size+1+1 by omega) (HB.out)⟩):p:=h
theorem J9(h:p:=by
 exact bodyPost_ret (v:=Zc #[J U 0 0,J U 0 0,J U 0 0,J U 0 0,J U 0 0,Y7 Y6 0,I ⟨#[]⟩,Y7 Y6 6]) kT rfl ⟨ad0,co0 6,rfl,HV.out,i_ _ _,et (show w.heap.size<=w.heap.size+1+1 by omega) (HB.out)⟩):p:=h
theorem J8(h:p:=by
 exact bodyPost_ret (v:=Zc #[J U 0 0,J U 0 0,J U 0 0,J U 0 0,J U 0 0,Y7 Y6 0,I ⟨#[]⟩,Y7 Y6 7]) kT rfl ⟨ad0,co0 7,rfl,HV.out,i_ _ _,et (show w.heap.size<=w.heap.size+1+1 by omega) (HB.out)⟩):p:=h
theorem J7(h:p:=by
 exact bodyPost_ret (v:=Zc #[J U 0 0,J U 0 0,J U 0 0,J U 0 0,J U 0 0,Y7 Y6 0,I ⟨#[]⟩,Y7 Y6 9]) kT rfl ⟨ad0,co0 9,rfl,HV.out,i_ _ _,et (show w.heap.size<=w.heap.size+1+1 by omega) (HB.out)⟩):p:=h
theorem jO(h:p:=by
 obtain⟨fr0,fr1,fr2,fr3,fr4,fr5,fr6,fr7⟩:=j6 Br.out;have hrl:w.heap.size+1+1<w4.heap.size:=ae Br.out;go_wp2;exact z1272z):p:=h
theorem IX(h:p:=by
 have z445z:=@aa _ @abM;exact zp):p:=h
theorem IW(h:p:=by
 have z445z:=@aa _ @abL;exact zp):p:=h
theorem s_(h:p:=by
 have HPL:=aa hpl;clear hpl;obtain⟨hq1,hq2,hs4,hs5,h4Q,HQF⟩:=alT;obtain⟨i0,hi0',hz0,hz1,hz2⟩:=info_parts fk;have HIS:=aa (Yb hi0' (Yb hz0 (Yb hz1 hz2)));obtain⟨i5,hi5',hz0',hz1',hz2'⟩:=info_parts nM;exact z1365z):p:=h
theorem Iw(h:p:=by
 exact bodyPost_ret (v:=Zc #[J U 0 0,J U 0 0,J U 0 0,J U 0 0,J U 0 0,Y7 Y6 0,I ⟨#[]⟩,Y7 Y6 7]) nr rfl ⟨ad0,co0 7,rfl,HV.out,i_ _ _,sb2 (sb2 (sb2 (sb2 (sb2 (sb2 (sb2 (sb2 (HB.out))))))))⟩):p:=h
theorem Iv(h:p:=by
 exact bodyPost_ret (v:=Zc #[J U 0 0,J U 0 0,J U 0 0,J U 0 0,J U 0 0,Y7 Y6 0,I ⟨#[]⟩,Y7 Y6 9]) nr rfl ⟨ad0,co0 9,rfl,HV.out,i_ _ _,sb2 (sb2 (sb2 (sb2 (sb2 (sb2 (sb2 (sb2 (HB.out))))))))⟩):p:=h
theorem sW(h:p:=by
 obtain⟨r0,r1,r2,r3,r4,r5,r6,r7⟩:=cs8 Br;have ltr_4:=ae Br.out;obtain⟨fr0,fr1,fr2,fr3,fr4,fr5,fr6,fr7⟩:=gJ;have hrl:w.heap.size+1+1<w4.heap.size:=ae Br.out;go_wp2;exact z1400z):p:=h
theorem Ih(h:p:=by
 have HLO:=aa HB.size;refine (cE d c _ (HR.below HB.out) HT.sm).mono ?_;rintro e w4 ⟨d',rfl,ho,hb⟩;have HQ2:=aa hb.size;clear k0 k1 k2 k3 k4 k5 ltk_4 x0 x1 x2 x3 x4 x5 x6 x7 ltx_4;have z1497z:=@aa _ @Ge;exact jI):p:=h
theorem Ig(h:p:=by
 refine (aJ 6 _).mono ?_;rintro e w4 ⟨rfl,hb⟩;clear k0 k1 k2 k3 k4 k5 ltk_4 x0 x1 x2 x3 x4 x5 x6 x7 ltx_4;have z830z:=@aa _ @Ud;exact cF):p:=h
theorem sQ(h:p:=by
 obtain⟨k0,k1,k2,k3,k4,k5⟩:=cs6 Bk;have ltk_4:=ae Bk.out;obtain⟨x0,x1,x2,x3,x4,x5,x6,x7⟩:=cs8 Bx;have ltx_4:=ae Bx.out;go_wp2_with fail;exact z1419z):p:=h
theorem Hj(h:p:=by
 rcases hf with ⟨i,x,hx,hn,rfl⟩|⟨hno,rfl⟩;rotate_left
 ·have HV:Hid (a_ c t (co0 6)):=Ze ⟨2,⟨hl,HT.out,Ze ⟨rfl,f_ hno⟩⟩,rfl⟩;clear hno;have z1194z:=@aa _ @Lf;exact bD
 have hri:=HT.2.1.2.2.2.1.2.2;have HHit:=aa (bo hri hx hn).2;have HRI:=aa hri;have HX:=aa hx;have HN:=aa hn;have HL:Hid (¬8000<t.size):=hl;have hi4:i<l4:=by have:=(Yc.1 hx).1;omega
 have hi0:¬(i:Int)<0:=af
 have h48:l4<=8:=by have:=HT.sm.x;omega
 have h58:l5<=8:=by have:=HT.sm.p;omega
 have h38:l3<=8:=by have:=HT.sm.v;omega
 clear hri hx hn hl;have hbb:(∃(j:Nat) (v:Vd),c.vs[j]?=Y5 v/\aO c t v)\/(∀v,¬aO c t v):=Classical.byCases (λh:∃v,aO c t v=>Ze (by obtain⟨v,hv⟩:=h;obtain⟨j,hj⟩:=hv.at;exact⟨j,v,hj,hv⟩)) (λh=>Zd (λv hv=>h ⟨v,hv⟩));rcases hbb with ⟨j,v,hj,hbd⟩|hno
 ·have HJ:=aa hj;have HBD:=aa hbd;have hj3:j<l3:=by have:=(Yc.1 hj).1;omega
  have hj0:¬(j:Int)<0:=af
  have hj0':(0:Int)<=(j:Int):=af
  clear hj hbd;have z1194z:=@aa _ @Le;exact bD
 ·have HNO:=aa hno;clear hno;have z1194z:=@aa _ @Lc;exact bD):p:=h
theorem Hi(h:p:=by
 rcases hf with ⟨i,x,hx,hn,rfl⟩|⟨hno,rfl⟩;rotate_left
 ·have HV:Hid (aZ c t (co0 6)):=Ze ⟨2,⟨hl,HT.out,Ze ⟨rfl,f_ hno⟩⟩,rfl⟩;clear hno;have z1194z:=@aa _ @Lb;exact bD
 have hri:=HT.2.1.2.2.1.2.2;have HHit:=aa (bo hri hx hn).2;have HRI:=aa hri;have HX:=aa hx;have HN:=aa hn;have hi3:i<l3:=by have:=(Yc.1 hx).1;omega
 have hi0:¬(i:Int)<0:=af
 have hi3i:(i:Int)<l3:=af
 have h38:l3<=8:=by have:=HT.sm.v;omega
 clear hri hx hn;obtain⟨b3,o3,x',rfl,hb3,hx',hat⟩:=bK (HR.v.below HB.out) hi3;obtain rfl:x=x':=Yd (HX.symm.trans hx');obtain⟨ea,el,ec,hvr,z0,z2,z3,z5,c0,c1,c2,c3,c4,c5,c6,c7⟩:=aW hat;clear hat hvr z0 z2 z3 z5 hx' c0 c1 c2 c3 c4 c6 c7;by_cases hm:x.m=⟨#[]⟩
 ·have hm1:=cC hm;by_cases hin:nX c x
  ·have HIN:=aa hin;clear hin;have HV:Hid (aZ c t (co0 11)):=Ze ⟨5,⟨hl,HT.out,Zd ⟨rfl,HHit.out,i,x,HX.out,HN.out,Zd HIN.out⟩⟩,rfl⟩;have z1194z:=@aa _ @La;exact bD
  ·have HIN:=aa hin;clear hin;have HV:Hid (aZ c t ⟨iO c t,⟨#[]⟩,0⟩):=Zd ⟨hl,HT.out,⟨HHit.out,λj y hj hy=>by
    obtain⟨-,rfl⟩:=HRI.inj hj HX.out (hy.trans HN.symm)
    exact λh=>h.elim (λh=>h hm) HIN.out⟩,rfl⟩
   have z1194z:=@aa _ @K_;exact bD
 ·have hm1:=aY hm;have HV:Hid (aZ c t (co0 11)):=Ze ⟨5,⟨hl,HT.out,Zd ⟨rfl,HHit.out,i,x,HX.out,HN.out,Ze hm⟩⟩,rfl⟩;have z1194z:=@aa _ @K9;exact bD):p:=h
theorem Hh(h:p:=by
 obtain⟨k0,k1,k2,k3,k4,k5⟩:=cs6 Bk;have ltk_3:=ae Bk.out;go_wp2_with fail;refine (ko ⟨a1,l1,y1,a2,l2,y2,a3,l3,y3,a4,l4,y4,a5,l5,y5⟩ c j v _ (HR.below HB.out) HJ.out).mono ?_;rintro e w4 ⟨rb,rfl,hi,hb⟩;clear k0 k1 k2 k3 k4 k5 ltk_3;replace Bk:=upK Bk hb;replace Br:=upK Br hb;replace HB:=upB HB hb;clear hb;have HI:=aa hi;clear hi;obtain⟨k0,k1,k2,k3,k4,k5⟩:=cs6 Bk;have ltk_4:=ae Bk.out;obtain⟨r0,r1,r2,r3,r4,r5,r6,r7⟩:=cs8 Br;have ltr_4:=ae Br.out;go_wp2;go_loopw [8,9] (λq iv wr=> ∃(k:Nat) (r:Bool),k<=l5/\q=Y9 r/\iv=Y7 Y6 k/\Hid (r=Zb↔(nX c v\/∃(i:Nat) (p:Pd),i<k/\c.ps[i]?=Y5 p/\InL p.zs t))/\Hid (Below w4.heap.size w4 wr)) (λ_ iv _=>l5 - (intOf iv).toNat);case atStart=>exact⟨0,rb,by omega,rfl,rfl,show _↔_ by rw[HI.out];exact⟨Ze,λh=>h.elim id (λ⟨i,p,h,_⟩=>by omega)⟩,Yh _ _⟩
 case round=>
  clear k0 k1 k2 k3 k4 k5 ltk_4 r0 r1 r2 r3 r4 r5 r6 r7 ltr_4;obtain⟨k,r,hk,rfl,rfl,HS,HL4⟩:=hrel;have hb4:=HL4.out;replace Bk:=upK Bk hb4;replace Br:=upK Br hb4;replace HB:=upB HB hb4;clear hb4;obtain⟨k0,k1,k2,k3,k4,k5⟩:=cs6 Bk;have ltk:=ae Bk.out;by_cases hlt:k<l5
  ·exact ah2
  obtain rfl:l5=k:=af
  have hgo:r=Zb↔po c t:=by
   rw[HS.out];constructor
   ·rintro (h|⟨i,p,-,h1,h2⟩)
    ·exact Ze ⟨v,HBD.out,h⟩
    ·exact Zd ⟨i,p,h1,h2⟩
   ·rintro (⟨u,hu,hb⟩|⟨i,p,h1,h2⟩)
    ·exact Ze (by obtain rfl:=aO.inj HT.2.1.2.2.2.1.2.2 HT.2.1.2.2.1.2.2 hu HBD.out;exact hb)
    ·exact Zd ⟨i,p,by have:=(Yc.1 h1).1;omega,h1,h2⟩
  clear HS;cases r;rotate_left
  ·have HV:Hid (a_ c t (co0 11)):=Ze ⟨5,⟨HL.out,HT.out,Zd ⟨rfl,HHit.out,hgo.1 bM⟩⟩,rfl⟩;clear hgo;obtain⟨k0,k1,k2,k3,k4,k5⟩:=cs6 Bk;have ltk_5:=ae Bk.out;go_wp2_with fail;refine (aJ 11 _).mono ?_;rintro e w5 ⟨rfl,hb⟩;clear k0 k1 k2 k3 k4 k5 ltk_5;have z1444z:=@aa _ @Hf;exact ba
  have HQR:Hid (w.heap.size+1<wr.heap.size):=ae Br.out;have HOK:Hid (h_ c t):=⟨HHit.out,λh=>by have h9:=hgo.2 h;cases h9⟩;clear hgo;obtain⟨k0,k1,k2,k3,k4,k5⟩:=cs6 Bk;have ltk_5:=ae Bk.out;go_wp2_with fail;have z1667z:=@aa _ @D3;exact fy):p:=h
theorem Hg(h:p:=by
 have hq7:=HQ7.out;have hqr:w.heap.size+1<wr.heap.size:=HQR.out;obtain⟨kc,hkc,hkn⟩:=cf (HT.2.2.1.1 j v HJ.out).1;generalize pl Kd.n c.ks v.k=jk at hkc;have HKC:=aa hkc;have HKN:=aa hkn;have hjk:jk<l2:=by have:=(Yc.1 hkc).1;omega
 have hjk1:(jk:Int)<l2:=af
 have hj31:(j:Int)<l3:=af
 clear hkc hkn;obtain⟨b3,o3,v',rfl,hb3,hv',hat⟩:=bK (HR.v.below HB.out) hj3;obtain rfl:v=v':=Yd (HJ.symm.trans hv');obtain⟨ea,el,ec,-,-,-,-,-,-,-,-,cv3,-,-,-,-⟩:=aW hat;clear hat hv';obtain⟨b2,o2,kc',rfl,hb2,hkc',hat⟩:=gH (HR.k.below HB.out) hjk;obtain rfl:kc=kc':=Yd (HKC.symm.trans hkc');obtain⟨-,-,-,-,ck2,-⟩:=da hat;clear hat hkc';have cv3':=(ai (ak w7 (Y8 (clv d' c.now) 29)) hb3).trans cv3;have ck2':=(ai (ak w7 (Y8 (clv d' c.now) 29)) hb2).trans ck2;have hb3':b3<(w7.alloc (Y8 (clv d' c.now) 29)).heap.size:=Yj hb3 (ak w7 (Y8 (clv d' c.now) 29)).size;have hb2':b2<(w7.alloc (Y8 (clv d' c.now) 29)).heap.size:=Yj hb2 (ak w7 (Y8 (clv d' c.now) 29)).size;have hszv7:(w7.alloc (Y8 (clv d' c.now) 29)).heap.size=w7.heap.size+1:=aG
 have Gk:Hid ((w7.alloc (Y8 (clv d' c.now) 29)).heap[w.heap.size]?=Y5 (Y8 (clo6 a1 l1 y1 (Y5 ⟨b2,o2,U⟩) l2 y2 (Y5 ⟨b3,o3,U⟩) l3 y3 a4 l4 y4 a5 l5 y5 c.now) 29 (0,0))):=(Yl _ _ _ (ae Bk.out)).trans (Bk.out);obtain⟨Gr,Go,HW⟩:=aho;obtain⟨k0,k1,k2,k3,k4,k5⟩:=sl6 Gk;have mv:∀q:Wd (w7.alloc (Y8 (clv d' c.now) 29)),q.w.cell? ⟨b3,o3+j*8+3,U⟩=Y5 (I v.k):=λq=>(q.cell (hb3')).trans (cv3');have mk:∀q:Wd (w7.alloc (Y8 (clv d' c.now) 29)),q.w.cell? ⟨b2,o2+jk*4+2,U⟩=Y5 (Y9 kc.y):=λq=>(q.cell (hb2')).trans (ck2');have hne0:=Wd.ne (w7.alloc (Y8 (clv d' c.now) 29));have HC0:=aa (λq:Wd (w7.alloc (Y8 (clv d' c.now) 29))=>d_ ⟨a1,l1,y1,(Y5 ⟨b2,o2,U⟩),l2,y2,(Y5 ⟨b3,o3,U⟩),l3,y3,a4,l4,y4,a5,l5,y5⟩ c.now c.ks v.k q.w (HR.k.below (HW.trans (q.b.mono HW.size))) HT.2.1.2.1.2.2 HKC.out HKN.out);have z55z:=@aa _ @afM;exact aC):p:=h
theorem Hf(h:p:=by
 obtain⟨r0,r1,r2,r3,r4,r5,r6,r7⟩:=cs8 Br;have ltr_6:=ae Br.out;exact ahS):p:=h
theorem He(h:p:=by
 have HI:Hid (Y_=Zb↔False):=⟨λh=>bU,False.elim⟩;obtain⟨k0,k1,k2,k3,k4,k5⟩:=cs6 Bk;have ltk_3:=ae Bk.out;obtain⟨r0,r1,r2,r3,r4,r5,r6,r7⟩:=cs8 Br;have ltr_3:=ae Br.out;go_wp2;go_loopw [8,9] (λq iv wr=> ∃(k:Nat) (r:Bool),k<=l5/\q=Y9 r/\iv=Y7 Y6 k/\Hid (r=Zb↔(False\/∃(i:Nat) (p:Pd),i<k/\c.ps[i]?=Y5 p/\InL p.zs t))/\Hid (Below w4.heap.size w4 wr)) (λ_ iv _=>l5 - (intOf iv).toNat);case atStart=>exact⟨0,Y_,by omega,rfl,rfl,show _↔_ by rw[HI.out];exact⟨Ze,λh=>h.elim id (λ⟨i,p,h,_⟩=>by omega)⟩,Yh _ _⟩
 case round=>
  clear k0 k1 k2 k3 k4 k5 ltk_3 r0 r1 r2 r3 r4 r5 r6 r7 ltr_3;obtain⟨k,r,hk,rfl,rfl,HS,HL4⟩:=hrel;have hb4:=HL4.out;replace Bk:=upK Bk hb4;replace Br:=upK Br hb4;replace HB:=upB HB hb4;clear hb4;obtain⟨k0,k1,k2,k3,k4,k5⟩:=cs6 Bk;have ltk:=ae Bk.out;by_cases hlt:k<l5
  ·exact ah2
  obtain rfl:l5=k:=af
  have hgo:r=Zb↔po c t:=by
   rw[HS.out];constructor
   ·rintro (h|⟨i,p,-,h1,h2⟩)
    ·exact h.elim
    ·exact Zd ⟨i,p,h1,h2⟩
   ·rintro (⟨u,hu,hb⟩|⟨i,p,h1,h2⟩)
    ·exact absurd hu (HNO.out u)
    ·exact Zd ⟨i,p,by have:=(Yc.1 h1).1;omega,h1,h2⟩
  clear HS;cases r;rotate_left
  ·have HV:Hid (a_ c t (co0 11)):=Ze ⟨5,⟨HL.out,HT.out,Zd ⟨rfl,HHit.out,hgo.1 bM⟩⟩,rfl⟩;clear hgo;obtain⟨k0,k1,k2,k3,k4,k5⟩:=cs6 Bk;have ltk_4:=ae Bk.out;go_wp2_with fail;refine (aJ 11 _).mono ?_;rintro e w5 ⟨rfl,hb⟩;clear k0 k1 k2 k3 k4 k5 ltk_4;have z1444z:=@aa _ @Hc;exact ba
  have HQR:Hid (w.heap.size+1<wr.heap.size):=ae Br.out;have HOK:Hid (h_ c t):=⟨HHit.out,λh=>by have h9:=hgo.2 h;cases h9⟩;clear hgo;obtain⟨k0,k1,k2,k3,k4,k5⟩:=cs6 Bk;have ltk_4:=ae Bk.out;go_wp2_with fail;have z1667z:=@aa _ @D2;exact fy):p:=h
theorem Hd(h:p:=by
 have hq7:=HQ7.out;have hqr:w.heap.size+1<wr.heap.size:=HQR.out;have hszv6:(w7.alloc (Y8 (clv d' c.now) 29)).heap.size=w7.heap.size+1:=aG
 have Gk:Hid ((w7.alloc (Y8 (clv d' c.now) 29)).heap[w.heap.size]?=Y5 (Y8 (clo6 a1 l1 y1 a2 l2 y2 a3 l3 y3 a4 l4 y4 a5 l5 y5 c.now) 29 (0,0))):=(Yl _ _ _ (ae Bk.out)).trans (Bk.out);obtain⟨Gr,Go,HW⟩:=aho;obtain⟨k0,k1,k2,k3,k4,k5⟩:=sl6 Gk;have hne0:=Wd.ne (w7.alloc (Y8 (clv d' c.now) 29));have z15z:=@aa _ @ajf;exact aX):p:=h
theorem Hc(h:p:=by
 obtain⟨r0,r1,r2,r3,r4,r5,r6,r7⟩:=cs8 Br;have ltr_5:=ae Br.out;exact ahS):p:=h
theorem Hb(h:p:=by
 have z1689z:=@aa _ @DK;exact dp):p:=h
theorem Ha(h:p:=by
 have HQ20:Hid (w.heap.size+1<w5.heap.size):=ae Br.out;have z1689z:=@aa _ @DJ;exact dp):p:=h
theorem GX(h:p:=by
 exact⟨⟨k+1,by omega,by go_num,Zd ⟨rfl,HHT⟩,HL.trans (q3.b.mono HL.size)⟩,by simp[intOf];omega⟩):p:=h
theorem GW(h:p:=by
 refine⟨⟨k+1,by omega,by go_num,Ze ⟨rfl,λj z hj hz=>?_⟩,HL.trans (q3.b.mono HL.size)⟩,by simp[intOf];omega⟩;by_cases e:j=k
 ·subst e;rw[HXT.out] at hz;obtain rfl:=Yd hz;exact HHT.out
 ·exact HQ.out j z af hz):p:=h
theorem sJ(h:p:=by
 go_wp2_with fail;refine bN bf bf ?_;repeat (go_big_quiet_step (first|(go_at_call 33;exact Calls.wide (HC0.out _))|fail))
 refine wpQuiet_nil ?_;rintro _ ⟨q3,rfl⟩;have HB5:=upB HW q3.b;have Ck:=upK Gk q3.b;have Cx:=upK Gx q3.b;have Cr:=upK Gr q3.b;clear hne0 HW HB HC0 k0 k1 k2 k3 k4 k5 x0 x1 x2 x3 x4 x5 tc Gk Gx Gr Bk Bx Br hc hb;have HB:=HB5;clear HB5;have Bk:=Ck;clear Ck;have Bx:=Cx;clear Cx;have Br:=Cr;clear Cr;go_wp2;exact z1468z):p:=h
theorem GM(h:p:=by
 exact bodyPost_ret (v:=Zc #[J U 0 0,J U 0 0,J U 0 0,J U 0 0,J U 0 0,Y7 Y6 0,I ⟨#[]⟩,Y7 Y6 7]) nq rfl ⟨ad0,co0 7,rfl,HV.out,i_ _ _,et (show w.heap.size<=w.heap.size+1+1 by omega) (HB.out)⟩):p:=h
theorem GL(h:p:=by
 exact bodyPost_ret (v:=Zc #[J U 0 0,J U 0 0,J U 0 0,J U 0 0,J U 0 0,Y7 Y6 0,I ⟨#[]⟩,Y7 Y6 9]) nq rfl ⟨ad0,co0 9,rfl,HV.out,i_ _ _,et (show w.heap.size<=w.heap.size+1+1 by omega) (HB.out)⟩):p:=h
theorem sG(h:p:=by
 rintro e w4 ⟨rfl,hb⟩;clear k0 k1 k2 k3 k4 k5 ltk_4 x0 x1 x2 x3 x4 x5 ltx_4;replace Bk:=upK Bk hb;replace Bx:=upK Bx hb;replace Br:=upK Br hb;replace HB:=upB HB hb;clear hb;obtain⟨r0,r1,r2,r3,r4,r5,r6,r7⟩:=cs8 Br;have ltr_5:=ae Br.out;obtain⟨fr0,fr1,fr2,fr3,fr4,fr5,fr6,fr7⟩:=j6 Br.out;have hrl:w.heap.size+1+1<w4.heap.size:=ae Br.out;go_wp2;exact z1477z):p:=h
theorem Gj(h:p:=by
 exact z830z):p:=h
theorem Gh(h:p:=by
 obtain⟨g1,m1,n1,g2,m2,n2,g3,m3,n3,g4,m4,n4,g5,m5,n5⟩:=d';have hm5:l5=m5:=by have h6:(c.ps.map pdF).length=m5:=ho.p.1;rw[Yo] at h6;omega
 subst hm5;have hmn:l5<=n5:=ho.p.2.1;have hmx:n5<=9223372036854775807:=ho.p.2.2.1;have HFR:=aa ho;clear ho;obtain⟨wr3,hwr3⟩:∃n:Nat,n=wr.heap.size:=⟨_,rfl⟩;rw[<-hwr3] at HQ1 HQ2 HFR;clear hwr3 HL hk1 hlt hk;obtain⟨k0,k1,k2,k3,k4,k5⟩:=cs6 Bk;have ltk_5:=ae Bk.out;obtain⟨x0,x1,x2,x3,x4,x5⟩:=cs6 Bx;have ltx_5:=ae Bx.out;go_wp2;clear k0 k1 k2 k3 k4 k5 ltk_5 x0 x1 x2 x3 x4 x5 ltx_5;go_loopw [8] (λvi wr=> ∃k:Nat,k<=l5/\vi=Y7 Y6 k/\Hid (∀(j:Nat) y,j<k->c.ps[j]?=Y5 y->Yk y.n.toList xn.toList=Zb)/\Hid (Below (w4.heap.size+1) (w4.alloc (Y8 #[J g1 m1 n1,J g2 m2 n2,J g3 m3 n3,J g4 m4 n4,J g5 l5 n5,Y7 Y6 c.now] 29)) wr)) (λvi _=>l5 - (intOf vi).toNat);case atStart=>exact⟨0,by omega,rfl,λj y hj=>by omega,Yh _ _⟩
 case round=>
  obtain⟨k,hk,rfl,HE,HL⟩:=hrel;have hLs:w4.heap.size+1<=wr.heap.size:=by have:=HL.size;simpa using this
  have hb4:Below w4.heap.size w4 wr:=(ak w4 (Y8 (clo6 g1 m1 n1 g2 m2 n2 g3 m3 n3 g4 m4 n4 g5 l5 n5 c.now) 29)).trans (HL.mono af);replace HB:=upB HB hb4;replace Bk:=upK Bk hb4;replace Bx:=upK Bx hb4;replace Br:=upK Br hb4;have Bo:=aa ((HL.block w4.heap.size af).trans (heap_alloc_new w4 (Y8 (clo6 g1 m1 n1 g2 m2 n2 g3 m3 n3 g4 m4 n4 g5 l5 n5 c.now) 29)));have HB4:=aa hb4;clear hb4;by_cases hlt:k<l5
  ·obtain⟨b,o,y,rfl,hb,hx,hat⟩:=cg (HR.p.below HB.out) hlt;obtain⟨ya,yl,yc,-,-,-,-,hc0,-,-,-,-,-⟩:=bH hat;have HXy:=aa hx;have hbw:b<wr.heap.size:=hb;have hk1:(k:Int)<l5:=af
   have hk2:decide ((k:Int)<l5)=Zb:=by simp;omega
   clear hb hat hx;cases hless:Yk y.n.toList xn.toList
   ·have z1728z:=@aa _ @Df;exact rV
   ·have z1728z:=@aa _ @De;exact rV
  ·have hk1:¬(k:Int)<l5:=af
   have hk2:decide ((k:Int)<l5)=Y_:=by simp;omega
   have Gk:=Bk;have Gx:=Bx;have Gr:=Br;have Go:=Bo;obtain⟨HW,k4⟩:=N1;have x0:=λq:Wd wr=>q.slot (o:=0) Gx.out rfl;have hne0:=Wd.ne wr;have z15z:=@aa _ @ajh;exact aX):p:=h
theorem Gf(h:p:=by
 rcases hf with ⟨i,y,hy,hyn,rfl⟩|⟨hno,rfl⟩;rotate_left
 ·have HV:Hid (bP c x (co0 6)):=Ze ⟨2,⟨HO.out,HNO.out,by omega,f_ hno⟩,rfl⟩;clear hno;obtain⟨k0,k1,k2,k3,k4,k5⟩:=cs6 Bk;have ltk_4:=ae Bk.out;obtain⟨x0,x1,x2,x3,x4⟩:=cs5 Bx;have ltx_4:=ae Bx.out;go_wp2_with fail;refine (aJ 6 _).mono ?_;rintro e w4 ⟨rfl,hb⟩;clear k0 k1 k2 k3 k4 k5 ltk_4 x0 x1 x2 x3 x4 ltx_4;replace Bk:=upK Bk hb;replace Bx:=upK Bx hb;have z154z:=@aa _ @afq;exact cH
 have HV:Hid (bP c x ⟨Rr c x,⟨#[]⟩,0⟩):=Zd ⟨HO.out,HNO.out,by omega,(bo HT.2.1.2.1.2.2 hy hyn).2,rfl⟩;have hi0:¬(i:Int)<0:=af
 clear hy hyn HNO;have HQ1:Hid (w.heap.size+1+1<w3.heap.size):=ae Br.out;obtain⟨k0,k1,k2,k3,k4,k5⟩:=cs6 Bk;have ltk_4:=ae Bk.out;obtain⟨x0,x1,x2,x3,x4⟩:=cs5 Bx;have ltx_4:=ae Bx.out;go_wp2_with fail;have z1667z:=@aa _ @D1;exact fy):p:=h
theorem Ge(h:p:=by
 obtain⟨x0,x1,x2,x3,x4,x5,x6,x7⟩:=cs8 Bx;have ltx_5:=ae Bx.out;have hq1:w.heap.size+1+1<w3.heap.size:=HQ1.out;have hq2:w3.heap.size<=w4.heap.size:=HQ2.out;have h5:=(ho.v.bm (S':=(λk=>w3.heap.size<=k/\k<w4.heap.size)) (λk hk s=>⟨s,hk⟩)).below (ak w4 (Y8 (clv d' c.now) 29));have hlen:d'.l3<=8:=by have h6:=ho.v.1;have h7:(c.vs.map vdF).length=d'.l3:=h6;rw[Yo] at h7;omega
 have HFR:=aa ho;clear ho;have hbo:Below w4.heap.size w4 (w4.alloc (Y8 (clv d' c.now) 29)):=ak w4 (Y8 (clv d' c.now) 29);have hxk:=ae Bx.out;have hc2:Calls Tryz.prog 44 #[Zc #[I xn,Y7 Y6 xc,I xz,I xk,Y9 xs,I ⟨#[]⟩,Y9 Y_,J va 0 vc]] (w4.alloc (Y8 (clv d' c.now) 29)).drew λe W3=> ∃a3 l3 c3,e=Za (Zc #[I xn,Y7 Y6 xc,I xz,I xk,Y9 xs,I ⟨#[]⟩,Y9 Y_,J a3 l3 c3])/\Hid (bS W3 a3 l3 c3 [] (λk=>w4.heap.size+1<=k))/\Hid (Below (w4.alloc (Y8 (clv d' c.now) 29)).heap.size (w4.alloc (Y8 (clv d' c.now) 29)) W3)/\Hid (W3.heap[w.heap.size+1]?=Y5 (Y8 #[I xn,Y7 Y6 xc,I xz,I xk,Y9 xs,I ⟨#[]⟩,Y9 Y_,J va 0 vc] 38 (0,0)))/\Hid (W3.heap[w4.heap.size]?=Y5 (Y8 (clv d' c.now) 29 (0,0)))/\Hid (W3.heap[w.heap.size+1+1]?=Y5 (Y8 #[J U 0 0,J U 0 0,J U 0 0,J U 0 0,J U 0 0,Y7 Y6 0,I ⟨#[]⟩,Y7 Y6 0] 33 (0,0))):=by
  refine (Ap.ald xn xc xz xk xs ⟨#[]⟩ Y_ va 0 vc [] (w4.alloc (Y8 (clv d' c.now) 29)).drew (show az _ _ _ _ _ from (HX.below ((HB.trans ((hbo.mono HB.size))).trans ⟨rfl,rfl,rfl,Ye _,λ_ _=>rfl⟩))) af).mono ?_;rintro e W3 ⟨a3,l3,c3,rfl,h1,h2,hb3⟩;have hO:bS W3 a3 l3 c3 [] (λk=>(w4.alloc (Y8 (clv d' c.now) 29)).drew.heap.size<=k):=⟨h1,h2⟩;have hb':Below (w4.alloc (Y8 (clv d' c.now) 29)).heap.size (w4.alloc (Y8 (clv d' c.now) 29)) W3:=⟨hb3.os,hb3.tape,hb3.output,hb3.size,hb3.block⟩;exact⟨a3,l3,c3,rfl,hO.bm (λk _ s=>by have s1:(w4.alloc (Y8 (clv d' c.now) 29)).drew.heap.size<=k:=s;simpa using s1),hb',(hb'.block _ bL).trans ((hbo.block _ hxk).trans Bx.out),(hb'.block _ aG).trans (heap_alloc_new w4 (Y8 (clv d' c.now) 29)),(hb'.block _ bL).trans ((hbo.block _ af).trans Br.out)⟩
 have hc3:∀(W3:World) a3 l3 c3,Below (w4.alloc (Y8 (clv d' c.now) 29)).heap.size (w4.alloc (Y8 (clv d' c.now) 29)) W3->bS W3 a3 l3 c3 [] (λk=>w4.heap.size+1<=k)->Hid (W3.heap[w.heap.size+1]?=Y5 (Y8 #[I xn,Y7 Y6 xc,I xz,I xk,Y9 xs,I ⟨#[]⟩,Y9 Y_,J va 0 vc] 38 (0,0)))/\Hid (W3.heap[w4.heap.size]?=Y5 (Y8 (clv d' c.now) 29 (0,0)))/\Hid (W3.heap[w.heap.size+1+1]?=Y5 (Y8 #[J U 0 0,J U 0 0,J U 0 0,J U 0 0,J U 0 0,Y7 Y6 0,I ⟨#[]⟩,Y7 Y6 0] 33 (0,0)))->Calls Tryz.prog 121 #[J d'.a3 d'.l3 d'.c3,Zc #[I xn,Y7 Y6 xc,I xz,I xk,Y9 xs,I ⟨#[]⟩,Y9 Y_,J a3 l3 c3]] W3 λe W4=> ∃a' c',e=Za (J a' (d'.l3+1) c')/\Hid (aw W4 a' (d'.l3+1) c' 8 38 ((aR (pl Vd.n c.vs xn) (⟨xn,xc,xz,xk,xs,⟨#[]⟩,Y_,[]⟩:Vd) c.vs).map vdF) (λk=>(λk=>w3.heap.size<=k/\k<w4.heap.size) k\/w4.heap.size+1<=k))/\Hid (Below w4.heap.size w4 W4)/\Hid (W4.heap[w.heap.size+1]?=Y5 (Y8 #[I xn,Y7 Y6 xc,I xz,I xk,Y9 xs,I ⟨#[]⟩,Y9 Y_,J va 0 vc] 38 (0,0)))/\Hid (W4.heap[w4.heap.size]?=Y5 (Y8 (clv d' c.now) 29 (0,0)))/\Hid (W4.heap[w.heap.size+1+1]?=Y5 (Y8 #[J U 0 0,J U 0 0,J U 0 0,J U 0 0,J U 0 0,Y7 Y6 0,I ⟨#[]⟩,Y7 Y6 0] 33 (0,0))):=λW3 a3 l3 c3 hb3 hO3 hkp=>by
  obtain⟨g,hg⟩:=hO3.fr;have hs3:=hb3.size;simp only[cw] at hs3;refine (lY d'.a3 d'.l3 d'.c3 c.vs (⟨xn,xc,xz,xk,xs,⟨#[]⟩,Y_,[]⟩:Vd) a3 l3 c3 g _ (λk=>w4.heap.size+1<=k) W3 (h5.below hb3) hlen (λi f hf=>by rcases i with _|_|_|_|_|_|_|_|i <;> simp[vdF] at hf <;> subst hf;exact⟨_,rfl,rfl,z0⟩;exact⟨_,rfl,rfl⟩;exact⟨_,rfl,rfl,z2⟩;exact⟨_,rfl,rfl,z3⟩;exact⟨_,rfl,rfl⟩;exact⟨_,rfl,rfl,by decide⟩;exact⟨_,rfl,rfl⟩;exact⟨_,rfl,hg⟩) (λk q1 q2=>by have q3:=q1.2;have q4:w4.heap.size+1<=k:=q2;omega)).mono ?_;rintro e W4 ⟨a',c',rfl,hN,hb4⟩;have hb14:Below w4.heap.size w4 W4:=(hbo.trans (hb3.mono aG)).trans (hb4.mono af);have hN':=hN.bm (S':=λk=>(λk=>w3.heap.size<=k/\k<w4.heap.size) k\/w4.heap.size+1<=k) (λk _ s=>by
   rcases s with (s|s)|s
   ·exact Ze s
   ·exact Zd s
   ·have s1:W3.heap.size<=k:=s;exact Zd af)
  exact⟨a',c',rfl,hN',hb14,(hb4.block _ (ae hkp.1.out)).trans hkp.1.out,(hb4.block _ (ae hkp.2.1.out)).trans hkp.2.1.out,(hb4.block _ (ae hkp.2.2.out)).trans hkp.2.2.out⟩
 have C2:=aa hc2;have C3:=aa hc3;clear hc2 hc3 h5 HX;have mixed:Tryz.prog.follows .mixedOrders=Zb:=bf
 go_wp2;go_region_with (first
  | (go_at_call 44;refine C2.mono ?_;rintro e w3' ⟨a3,l3,c3,rfl,HO3,HB3,HKP3⟩;obtain⟨o0,o1,o2,o3,o4,o5⟩:=cs6 HKP3.2.1.out;have hol3:=ae HKP3.2.1.out)
  | (go_at_call 121;refine (C3.out w3' a3 l3 c3 HB3.out HO3.out HKP3).mono ?_;rintro e w5 ⟨a',c',rfl,HO5,HB5,HKP5⟩;obtain⟨p0,p1,p2,p3,p4,p5⟩:=cs6 HKP5.2.1.out;have hol:=ae HKP5.2.1.out;have fo2:=al HKP5.2.1.out 2))
 all_goals (
  obtain⟨r0,r1,r2,r3,r4,r5,r6,r7⟩:=cs8 HKP5.2.2.out;obtain⟨fr0,fr1,fr2,fr3,fr4,fr5,fr6,fr7⟩:=j6 HKP5.2.2.out;have hrl:=ae HKP5.2.2.out
  have hne:¬w.heap.size+1+1=w4.heap.size:=af
  have hne2:¬w4.heap.size=w.heap.size+1+1:=af
  go_wp2
  refine bodyPost_ret (v:=Zc #[J d'.a1 d'.l1 d'.c1,J d'.a2 d'.l2 d'.c2,J a' (d'.l3+1) c',J d'.a4 d'.l4 d'.c4,J d'.a5 d'.l5 d'.c5,Y7 Y6 c.now,I ⟨#[]⟩,Y7 Y6 0]) kT rfl ⟨⟨d'.a1,d'.l1,d'.c1,d'.a2,d'.l2,d'.c2,a',d'.l3+1,c',d'.a4,d'.l4,d'.c4,d'.a5,d'.l5,d'.c5⟩,⟨ak0 c (⟨xn,xc,xz,xk,xs,⟨#[]⟩,Y_,[]⟩:Vd),⟨#[]⟩,0⟩,rfl,HV.out,?_,et (show w.heap.size<=w.heap.size+1+1 by omega) (ah (show w.heap.size<=w4.heap.size by omega) (HB.trans (HB5.mono HB.size)))⟩
  have hkeep:∀k,w3.heap.size<=k->¬k=w4.heap.size->(((((((((w5.setCell ⟨w4.heap.size,2,U⟩ (J a' (d'.l3+1) c')).setCell ⟨w.heap.size+1+1,0,U⟩ (J d'.a1 d'.l1 d'.c1)).setCell ⟨w.heap.size+1+1,1,U⟩ (J d'.a2 d'.l2 d'.c2)).setCell ⟨w.heap.size+1+1,2,U⟩ (J a' (d'.l3+1) c')).setCell ⟨w.heap.size+1+1,3,U⟩ (J d'.a4 d'.l4 d'.c4)).setCell ⟨w.heap.size+1+1,4,U⟩ (J d'.a5 d'.l5 d'.c5)).setCell ⟨w.heap.size+1+1,5,U⟩ (Y7 Y6 c.now)).setCell ⟨w.heap.size+1+1,6,U⟩ (I ⟨#[]⟩)).setCell ⟨w.heap.size+1+1,7,U⟩ (Y7 Y6 0)).heap[k]?=w5.heap[k]?:=λk h1 h2=>by rw[Ya _ _ _ _ (show k≠w.heap.size+1+1 by omega),Ya _ _ _ _ (show k≠w.heap.size+1+1 by omega),Ya _ _ _ _ (show k≠w.heap.size+1+1 by omega),Ya _ _ _ _ (show k≠w.heap.size+1+1 by omega),Ya _ _ _ _ (show k≠w.heap.size+1+1 by omega),Ya _ _ _ _ (show k≠w.heap.size+1+1 by omega),Ya _ _ _ _ (show k≠w.heap.size+1+1 by omega),Ya _ _ _ _ (show k≠w.heap.size+1+1 by omega),Ya _ _ _ _ (show k≠w4.heap.size by omega)]
  have hlo:=HLO.out
  exact⟨(HFR.n.ay (w':=(((((((((w5.setCell ⟨w4.heap.size,2,U⟩ (J a' (d'.l3+1) c')).setCell ⟨w.heap.size+1+1,0,U⟩ (J d'.a1 d'.l1 d'.c1)).setCell ⟨w.heap.size+1+1,1,U⟩ (J d'.a2 d'.l2 d'.c2)).setCell ⟨w.heap.size+1+1,2,U⟩ (J a' (d'.l3+1) c')).setCell ⟨w.heap.size+1+1,3,U⟩ (J d'.a4 d'.l4 d'.c4)).setCell ⟨w.heap.size+1+1,4,U⟩ (J d'.a5 d'.l5 d'.c5)).setCell ⟨w.heap.size+1+1,5,U⟩ (Y7 Y6 c.now)).setCell ⟨w.heap.size+1+1,6,U⟩ (I ⟨#[]⟩)).setCell ⟨w.heap.size+1+1,7,U⟩ (Y7 Y6 0))) (S':=λk=>w.heap.size<=k) (λk hk s=>(hkeep k s af).trans (HB5.block k hk)) (λ_ _ s=>loq)),(HFR.k.ay (w':=(((((((((w5.setCell ⟨w4.heap.size,2,U⟩ (J a' (d'.l3+1) c')).setCell ⟨w.heap.size+1+1,0,U⟩ (J d'.a1 d'.l1 d'.c1)).setCell ⟨w.heap.size+1+1,1,U⟩ (J d'.a2 d'.l2 d'.c2)).setCell ⟨w.heap.size+1+1,2,U⟩ (J a' (d'.l3+1) c')).setCell ⟨w.heap.size+1+1,3,U⟩ (J d'.a4 d'.l4 d'.c4)).setCell ⟨w.heap.size+1+1,4,U⟩ (J d'.a5 d'.l5 d'.c5)).setCell ⟨w.heap.size+1+1,5,U⟩ (Y7 Y6 c.now)).setCell ⟨w.heap.size+1+1,6,U⟩ (I ⟨#[]⟩)).setCell ⟨w.heap.size+1+1,7,U⟩ (Y7 Y6 0))) (S':=λk=>w.heap.size<=k) (λk hk s=>(hkeep k s af).trans (HB5.block k hk)) (λ_ _ s=>loq)),(HO5.ay (w':=(((((((((w5.setCell ⟨w4.heap.size,2,U⟩ (J a' (d'.l3+1) c')).setCell ⟨w.heap.size+1+1,0,U⟩ (J d'.a1 d'.l1 d'.c1)).setCell ⟨w.heap.size+1+1,1,U⟩ (J d'.a2 d'.l2 d'.c2)).setCell ⟨w.heap.size+1+1,2,U⟩ (J a' (d'.l3+1) c')).setCell ⟨w.heap.size+1+1,3,U⟩ (J d'.a4 d'.l4 d'.c4)).setCell ⟨w.heap.size+1+1,4,U⟩ (J d'.a5 d'.l5 d'.c5)).setCell ⟨w.heap.size+1+1,5,U⟩ (Y7 Y6 c.now)).setCell ⟨w.heap.size+1+1,6,U⟩ (I ⟨#[]⟩)).setCell ⟨w.heap.size+1+1,7,U⟩ (Y7 Y6 0))) (S':=λk=>w.heap.size<=k) (λk hk s=>hkeep k fD fD) (λ_ _ s=>loq)),(HFR.x.ay (w':=(((((((((w5.setCell ⟨w4.heap.size,2,U⟩ (J a' (d'.l3+1) c')).setCell ⟨w.heap.size+1+1,0,U⟩ (J d'.a1 d'.l1 d'.c1)).setCell ⟨w.heap.size+1+1,1,U⟩ (J d'.a2 d'.l2 d'.c2)).setCell ⟨w.heap.size+1+1,2,U⟩ (J a' (d'.l3+1) c')).setCell ⟨w.heap.size+1+1,3,U⟩ (J d'.a4 d'.l4 d'.c4)).setCell ⟨w.heap.size+1+1,4,U⟩ (J d'.a5 d'.l5 d'.c5)).setCell ⟨w.heap.size+1+1,5,U⟩ (Y7 Y6 c.now)).setCell ⟨w.heap.size+1+1,6,U⟩ (I ⟨#[]⟩)).setCell ⟨w.heap.size+1+1,7,U⟩ (Y7 Y6 0))) (S':=λk=>w.heap.size<=k) (λk hk s=>(hkeep k s af).trans (HB5.block k hk)) (λ_ _ s=>loq)),(HFR.p.ay (w':=(((((((((w5.setCell ⟨w4.heap.size,2,U⟩ (J a' (d'.l3+1) c')).setCell ⟨w.heap.size+1+1,0,U⟩ (J d'.a1 d'.l1 d'.c1)).setCell ⟨w.heap.size+1+1,1,U⟩ (J d'.a2 d'.l2 d'.c2)).setCell ⟨w.heap.size+1+1,2,U⟩ (J a' (d'.l3+1) c')).setCell ⟨w.heap.size+1+1,3,U⟩ (J d'.a4 d'.l4 d'.c4)).setCell ⟨w.heap.size+1+1,4,U⟩ (J d'.a5 d'.l5 d'.c5)).setCell ⟨w.heap.size+1+1,5,U⟩ (Y7 Y6 c.now)).setCell ⟨w.heap.size+1+1,6,U⟩ (I ⟨#[]⟩)).setCell ⟨w.heap.size+1+1,7,U⟩ (Y7 Y6 0))) (S':=λk=>w.heap.size<=k) (λk hk s=>(hkeep k s af).trans (HB5.block k hk)) (λ_ _ s=>loq))⟩)):p:=h
theorem jI(h:p:=by
 replace Bk:=upK Bk hb;replace Bx:=upK Bx hb;replace Br:=upK Br hb;replace HB:=upB HB hb;clear hb;exact z1497z):p:=h
theorem F8(h:p:=by
 have z937z:=@aa _ @SO;exact pH):p:=h
theorem F7(h:p:=by
 have HB:=HB3;clear HB3;have Bk:=Ck;clear Ck;have Bx:=Cx;clear Cx;have Br:=Cr;clear Cr;have z1689z:=@aa _ @DI;exact dp):p:=h
theorem sC(h:p:=by
 repeat (go_big_quiet_step (first|(go_at_call 43;exact Calls.wide (HC0.out _))|(go_at_call 120;exact Calls.wide (HC1.out _))|fail))
 refine wpQuiet_nil ?_;rintro _ ⟨q1,rfl⟩;obtain⟨HB3,Ck,Cx,Cr⟩:=Am;clear hne0 HW HB HC0 HC1 k0 k1 k2 k3 k4 k5 x0 x1 x2 x3 x4 x5 Gk Gx Gr Bk Bx Br;exact z1509z):p:=h
theorem FN(h:p:=by
 have z154z:=@aa _ @afo;exact cH):p:=h
theorem FM(h:p:=by
 have z154z:=@aa _ @afn;exact cH):p:=h
theorem FA(h:p:=by
 have HC1:=aa (λq:Wd w2=>jo d.l3 8 hfull2 q.w);have z55z:=@aa _ @afV;exact aC):p:=h
theorem Fz(h:p:=by
 have HC1:=aa (λq:Wd w2=>fM d.l3 8 hfull q.w);have z55z:=@aa _ @afT;exact aC):p:=h
theorem sA(h:p:=by
 obtain⟨Gk,Gx,Gr,HW⟩:=kW;obtain⟨k0,k1,k2,k3,k4,k5⟩:=sl6 Gk;obtain⟨x0,x1,x2,x3,x4,x5,x6,x7⟩:=sl8 Gx;have hne0:=Wd.ne w2;have HC0:=aa (λq:Wd w2=>ij d c.now c.vs xn q.w (HR.v.below (HW.trans (q.b.mono HW.size))) HMS.out);exact z1546z):p:=h
theorem Ff(h:p:=by
 cases r
 ·exact Pu
 have z182z:=@aa _ @aeX;exact fc):p:=h
theorem Fe(h:p:=by
 have HI:=aa hi;clear hi;cases r
 ·have HV:Hid (bP c x (co0 1)):=Ze ⟨1,λh=>(by have:=HI.2 h.1;cases this),rfl⟩;have z1236z:=@aa _ @KB;exact eR
 have HT:=aa (HI.1 bM);clear HI;have z1236z:=@aa _ @KC;exact eR):p:=h
theorem Fc(h:p:=by
 have HI:=aa hi;clear hi;exact z1008z):p:=h
theorem mI(h:p:=by
 obtain⟨HA0,HA1,HA2,hbx⟩:=B_ hb;have Bk:=aa HA0;have Bx:=aa HA1;have Br:=aa HA2;replace HB:=upB HB hbx;clear hb hbx HA0 HA1 HA2;exact z1567z):p:=h
theorem D4(h:p:=by
 rintro e w4 ⟨d',rfl,ho,hb⟩;have HQ2:=aa hb.size;clear k0 k1 k2 k3 k4 k5 ltk_4 x0 x1 x2 x3 x4 x5 ltx_4;have z1497z:=@aa _ @Gh;exact jI):p:=h
theorem D3(h:p:=by
 rintro e w7 ⟨d',rfl,ho,hb⟩;have HQ7:=aa hb.size;have HO:=aa ho;clear ho;clear k0 k1 k2 k3 k4 k5 ltk_5;have z1444z:=@aa _ @Hg;exact ba):p:=h
theorem D2(h:p:=by
 rintro e w7 ⟨d',rfl,ho,hb⟩;have HQ7:=aa hb.size;have HO:=aa ho;clear ho;clear k0 k1 k2 k3 k4 k5 ltk_4;have z1444z:=@aa _ @Hd;exact ba):p:=h
theorem D1(h:p:=by
 rintro e w4 ⟨d',rfl,ho,hb⟩;have HQ2:=aa hb.size;clear k0 k1 k2 k3 k4 k5 ltk_4 x0 x1 x2 x3 x4 ltx_4;replace Bk:=upK Bk hb;replace Bx:=upK Bx hb;replace Br:=upK Br hb;replace HB:=upB HB hb;clear hb;obtain⟨g1,m1,n1,g2,m2,n2,g3,m3,n3,g4,m4,n4,g5,m5,n5⟩:=d';have hm4:l4=m4:=by have h6:(c.xs.map xdF).length=m4:=ho.x.1;rw[Yo] at h6;omega
 subst hm4;have hmn:l4<=n4:=ho.x.2.1;have hmx:n4<=9223372036854775807:=ho.x.2.2.1;obtain⟨vss,H,hV,hcell⟩:=(ho.x.bm (S':=λk=>w3.heap.size<=k/\k<w4.heap.size) (λk hk s=>⟨s,hk⟩)).ju;have hvl:vss.length=l4:=by have h6:vss.length=(c.xs.map xdF).length:=hV.len;rw[Yo] at h6;omega
 have HC:Hid (∀(j:Nat) u,vss.flatten[j]?=Y5 u->∃g,g4=Y5 ⟨g,0,U⟩/\w4.cell? ⟨g,j,U⟩=Y5 u):=λj u hj=>by
  obtain⟨g,e,_,h3⟩:=hcell j u hj;exact⟨g,e,h3⟩
 have HVR:=aa hV;have HFR:=aa ho;clear hV hcell ho;obtain⟨i5,hi5',hz0,hz1,hz2⟩:=info_parts nL;have HI0:=aa (Yb hi5' (Yb hz0 (Yb hz1 hz2)));clear hi5' hz0 hz1 hz2;obtain⟨k0,k1,k2,k3,k4,k5⟩:=cs6 Bk;have ltk_5:=ae Bk.out;obtain⟨x0,x1,x2,x3,x4⟩:=cs5 Bx;have ltx_5:=ae Bx.out;go_wp2;clear k0 k1 k2 k3 k4 k5 ltk_5 x0 x1 x2 x3 x4 ltx_5;go_loopw [7] (λvi wr=> ∃k:Nat,k<=l4/\vi=Y7 Y6 k/\Hid (∀(j:Nat) y,j<k->c.xs[j]?=Y5 y->Yk y.n.toList x.n.toList=Zb)/\Hid (Below (w4.heap.size+1) (w4.alloc (Y8 #[J g1 m1 n1,J g2 m2 n2,J g3 m3 n3,J g4 l4 n4,J g5 m5 n5,Y7 Y6 c.now] 29)) wr)) (λvi _=>l4 - (intOf vi).toNat);case atStart=>exact⟨0,by omega,rfl,λj y hj=>by omega,Yh _ _⟩
 case round=>
  obtain⟨k,hk,rfl,HE,HL⟩:=hrel;have hLs:w4.heap.size+1<=wr.heap.size:=by have:=HL.size;simpa using this
  have hb4:Below w4.heap.size w4 wr:=(ak w4 (Y8 (clo6 g1 m1 n1 g2 m2 n2 g3 m3 n3 g4 l4 n4 g5 m5 n5 c.now) 29)).trans (HL.mono af);replace HB:=upB HB hb4;replace Bk:=upK Bk hb4;replace Bx:=upK Bx hb4;replace Br:=upK Br hb4;have Bo:=aa ((HL.block w4.heap.size af).trans (heap_alloc_new w4 (Y8 (clo6 g1 m1 n1 g2 m2 n2 g3 m3 n3 g4 l4 n4 g5 m5 n5 c.now) 29)));have HB4:=aa hb4;clear hb4;by_cases hlt:k<l4
  ·obtain⟨b,o,y,rfl,hb,hx,hat⟩:=dL (HR.x.below HB.out) hlt;obtain⟨z0,z2,z4,c0,c1,c2,c3,c4⟩:=bQ hat;have HXy:=aa hx;have HZy0:=aa z0;have HZy2:=aa z2;have HZy4:=aa z4;clear hat hx z0 z2 z4;have hbw:b<wr.heap.size:=hb;have hc0:=c0;have hk1:(k:Int)<l4:=af
   have hk2:decide ((k:Int)<l4)=Zb:=by simp;omega
   clear hb c0 c1 c2 c3 c4;cases hless:Yk y.n.toList x.n.toList
   ·have Gk:Hid (wr.heap[w.heap.size]?=Y5 (Y8 (clo6 a1 l1 y1 a2 l2 y2 a3 l3 y3 (Y5 ⟨b,o,U⟩) l4 y4 a5 l5 y5 c.now) 29 (0,0))):=Bk.out;have Gx:=Bx;have Gr:=Br;have Go:=Bo;obtain⟨HW,k3⟩:=oO;obtain⟨x0,yn,hne0⟩:=uw;have z15z:=@aa _ @ajn;exact aX
   ·have Gk:Hid (wr.heap[w.heap.size]?=Y5 (Y8 (clo6 a1 l1 y1 a2 l2 y2 a3 l3 y3 (Y5 ⟨b,o,U⟩) l4 y4 a5 l5 y5 c.now) 29 (0,0))):=Bk.out;have Gx:=Bx;have Gr:=Br;have Go:=Bo;obtain⟨HW,k3⟩:=oO;obtain⟨x0,yn,hne0⟩:=uw;have z15z:=@aa _ @ajm;exact aX
  ·have hk1:¬(k:Int)<l4:=af
   have hk2:decide ((k:Int)<l4)=Y_:=by simp;omega
   have Gk:=Bk;have Gx:=Bx;have Gr:=Br;have Go:=Bo;obtain⟨HW,k3⟩:=oO;have x0:=λq:Wd wr=>q.slot (o:=0) Gx.out rfl;have hne0:=Wd.ne wr;have z15z:=@aa _ @ajl;exact aX):p:=h
theorem DZ(h:p:=by
 exact z1217z):p:=h
theorem DL(h:p:=by
 obtain⟨x0,x1,x2,x3,x4⟩:=cs5 Bx;have ltx_3:=ae Bx.out;go_wp2_with fail;refine (jg ⟨a1,l1,y1,a2,l2,y2,a3,l3,y3,a4,l4,y4,a5,l5,y5⟩ c.now c.ks x.k _ (HR.k.below HB.out)).mono ?_;rintro e w3 ⟨hb,hf⟩;clear k0 k1 k2 k3 k4 k5 ltk_3 x0 x1 x2 x3 x4 ltx_3;have z1497z:=@aa _ @Gf;exact jI):p:=h
theorem DK(h:p:=by
 go_wp2_with fail;refine (aJ 11 _).mono ?_;rintro e w3 ⟨rfl,hb⟩;clear k0 k1 k2 k3 k4 k5 ltk_3;replace Bk:=upK Bk hb;have z154z:=@aa _ @afm;exact cH):p:=h
theorem DJ(h:p:=by
 go_wp2_with fail;have HLO:=aa HB.size;refine (cE ⟨a1,l1,y1,a2,l2,y2,(Y5 ⟨b3,o3,U⟩),l3,y3,a4,l4,y4,a5,l5,y5⟩ c _ (HR.below HB.out) HT.sm).mono ?_;rintro e w3 ⟨d',rfl,ho,hb⟩;have HQ3:=aa hb.size;clear k0 k1 k2 k3 k4 k5 ltk_3;replace Bk:=upK Bk hb;replace Br:=upK Br hb;replace HB:=upB HB hb;clear hb;have HO:=aa ho;have hq2:=HQ20.out;have hq3:=HQ3.out;clear ho;obtain⟨r0,r1,r2,r3,r4,r5,r6,r7⟩:=cs8 Br;have ltr_4:=ae Br.out;go_wp2_with fail;have h5:=(HO.v.bm (S':=λk=>w5.heap.size<=k/\k<w3.heap.size) (λk hk s=>⟨s,hk⟩)).below (ak w3 (Y8 (clv d' c.now) 29));refine (rF d'.a3 d'.l3 d'.c3 c.vs t i x _ _ h5 (by have h6:=HO.v.1;have h7:(c.vs.map vdF).length=d'.l3:=h6;rw[Yo] at h7;have:=HT.sm.v;omega) HRI.out HX.out HN.out).mono ?_;rintro e w4 ⟨a',l',c',rfl,hN,hb⟩;rw[cw] at hN;have hbw34:=(aV hb).2;have HNR:=aa hN;clear hN h5;clear r0 r1 r2 r3 r4 r5 r6 r7 ltr_4;obtain⟨HA0,hbx⟩:=aV hb;replace Bk:=upK Bk hbx;replace Br:=upK Br hbx;have Bo:=aa HA0;replace HB:=upB HB hbx;clear hb hbx HA0;have hq4:w3.heap.size<w4.heap.size:=ae Bo.out;have H34:=aa hbw34;clear hbw34;have z379z:=@aa _ @acw;exact zH):p:=h
theorem DI(h:p:=by
 obtain⟨x0,x1,x2,x3,x4,x5⟩:=cs6 Bx;have ltx_3:=ae Bx.out;go_wp2;clear k0 k1 k2 k3 k4 k5 ltk_3 x0 x1 x2 x3 x4 x5 ltx_3;go_loopw [5,6] (λvk vi wr=> ∃(k:Nat),k<=vl/\vi=Y7 Y6 k/\((vk=Y7 Y6 0/\Hid (∀(j:Nat) t,j<k->zs[j]?=Y5 t->hit Xd.n c.xs t=Zb))\/(vk=Y7 Y6 6/\Hid (¬(∀(j:Nat) t,zs[j]?=Y5 t->hit Xd.n c.xs t=Zb))))/\Hid (Below q1.w.heap.size q1.w wr)) (λ_ vi _=>vl - (intOf vi).toNat);case atStart=>exact⟨0,by omega,rfl,Ze ⟨rfl,λj t h=>by omega⟩,Yh _ _⟩
 case round=>
  obtain⟨k,hk,rfl,hcd,HL⟩:=hrel;have hb:=HL.out;have z830z:=@aa _ @Uh;exact cF):p:=h
theorem DF(h:p:=by
 have tc:=λq:Wd wr=>(q.cell hb).trans hc;have hne0:=Wd.ne wr;have HC0:=aa (λq:Wd wr=>eL ⟨a1,l1,y1,a2,l2,y2,a3,l3,y3,a4,l4,y4,a5,l5,y5⟩ c.now c.xs t q.w (HR.x.below (HW.trans (q.b.mono HW.size))) HMS2.out);have z1468z:=@aa _ @GX;exact sJ):p:=h
theorem DE(h:p:=by
 have tc:=λq:Wd wr=>(q.cell hb).trans hc;have hne0:=Wd.ne wr;have HC0:=aa (λq:Wd wr=>eM ⟨a1,l1,y1,a2,l2,y2,a3,l3,y3,a4,l4,y4,a5,l5,y5⟩ c.now c.xs t q.w (HR.x.below (HW.trans (q.b.mono HW.size))) HT.2.1.2.2.2.1.2.2 HY.out HYN.out);have z1468z:=@aa _ @GW;exact sJ):p:=h
theorem DD(h:p:=by
 obtain⟨hne0,HC0⟩:=Oc;have HC1:=aa (λq:Wd w2=>jo l5 8 hfull2 q.w);go_wp2_with fail;refine bN bf bf ?_;have z1509z:=@aa _ @F7;exact sC):p:=h
theorem DC(h:p:=by
 have hne0:=Wd.ne w2;have HC0:=aa (λq:Wd w2=>BY ⟨a1,l1,y1,a2,l2,y2,a3,l3,y3,a4,l4,y4,a5,l5,y5⟩ c.now c.ps xn q.w (HR.p.below (HW.trans (q.b.mono HW.size))) HRI.out HY.out HYN.out);have HC1:=aa (λq:Wd w2=>eZ l5 8 q.w);have z55z:=@aa _ @afQ;exact aC):p:=h
theorem DB(h:p:=by
 obtain⟨hne0,HC0⟩:=Oc;have HC1:=aa (λq:Wd w2=>fM l5 8 hfull q.w);have z55z:=@aa _ @afP;exact aC):p:=h
theorem gO(h:p:=by
 obtain⟨Gk,Gx,Gr,HW⟩:=kW;obtain⟨k0,k1,k2,k3,k4,k5⟩:=sl6 Gk;obtain⟨x0,x1,x2,x3,x4,x5⟩:=sl6 Gx;exact z1700z):p:=h
theorem Df(h:p:=by
 have z15z:=@aa _ @ajj;exact aX):p:=h
theorem De(h:p:=by
 have z15z:=@aa _ @aji;exact aX):p:=h
theorem rV(h:p:=by
 have Gk:Hid (wr.heap[w.heap.size]?=Y5 (Y8 (clo6 a1 l1 y1 a2 l2 y2 a3 l3 y3 a4 l4 y4 (Y5 ⟨b,o,U⟩) l5 y5 c.now) 29 (0,0))):=Bk.out;have Gx:=Bx;have Gr:=Br;have Go:=Bo;obtain⟨HW,k4⟩:=N1;obtain⟨x0,yn,hne0⟩:=uw;exact z1728z):p:=h
theorem Cs(h:p:=by
 have z1008z:=@aa _ @NG;exact ud):p:=h
theorem Cq(h:p:=by
 rintro e w1 ⟨r,rfl,hi,hb⟩;have z1567z:=@aa _ @Fe;exact mI):p:=h
theorem rO(h:p:=by
 go_wp2_with fail;refine (cY ⟨a1,l1,y1,a2,l2,y2,a3,l3,y3,a4,l4,y4,a5,l5,y5⟩ c _ (HR.below (HB.trans ((dj _ _ _ _).mono HB.size)))).mono ?_;exact z1785z):p:=h
namespace Rc
theorem A3(d:Ad) (c:Cl) (x:Vd) (va:Option Addr) (vl vc:Nat) (w:World) (hr:aB w d c.raw) (hx:az w va vl vc x.zs) (z0:x.n.size<=9223372036854775807) (z2:x.z.size<=9223372036854775807) (z3:x.k.size<=9223372036854775807) (z5:x.m.size<=9223372036854775807) (hn:¬(x.m=⟨#[]⟩/\x.y=Y_/\x.zs=[])):
  Calls Tryz.prog 78 #[Zc #[J d.a1 d.l1 d.c1,J d.a2 d.l2 d.c2,J d.a3 d.l3 d.c3,J d.a4 d.l4 d.c4,J d.a5 d.l5 d.c5,Y7 Y6 c.now],Zc #[I x.n,Y7 Y6 x.c,I x.z,I x.k,Y9 x.x,I x.m,Y9 x.y,J va vl vc]] w (qU (bh c x) w):=by
 have HR:=aa hr;have HX:=aa hx;have hxl:x.zs.length=vl:=hx.1;have HB:=aa (Yh w.heap.size w);have HV:Hid (bh c x (co0 1)):=Ze ⟨1,λh=>hn h.2.2,rfl⟩;have HZ:=aa (show x.n.size<=9223372036854775807/\x.z.size<=9223372036854775807/\x.k.size<=9223372036854775807/\x.m.size<=9223372036854775807 from ⟨z0,z2,z3,z5⟩);clear hr hx z0 z2 z3 z5;obtain⟨xn,xc,xz,xk,xs,xm,xy,zs⟩:=x;dsimp only at hn hxl HZ HX ⊢;obtain⟨Is,hIs⟩:∃Is,Is=bh c ⟨xn,xc,xz,xk,xs,xm,xy,zs⟩:=⟨_,rfl⟩;rw[<-hIs] at HV ⊢;clear hIs;have hw:(¬xm=⟨#[]⟩)\/(xm=⟨#[]⟩/\xy=Zb)\/(xm=⟨#[]⟩/\xy=Y_/\¬vl=0):=by
  by_cases h1:xm=⟨#[]⟩
  ·cases xy
   ·exact Zd (Zd ⟨h1,rfl,λh=>hn ⟨h1,rfl,List.eq_nil_of_length_eq_zero (hxl.trans h)⟩⟩)
   ·exact Zd (Ze ⟨h1,rfl⟩)
  ·exact Ze h1
 clear hn hxl;rcases hw with hm|⟨rfl,rfl⟩|⟨rfl,rfl,hv⟩;rotate_left;rotate_left;have hv1:(0:Int)<(vl:Int):=af
 have hv2:0<vl:=af
 clear hv;rotate_left;have hq:=aY hm;clear hm;all_goals (
  go_enter Tryz.func78,Tryz.ntmps78
  go_wp2_with fail;refine (cY d c _ (HR.below (HB.trans ((dj _ _ _ _).mono HB.size)))).mono ?_;rintro e w1 ⟨r,rfl,-,hb⟩;obtain⟨HA0,HA1,HA2,hbx⟩:=B_ hb;have Bk:=aa HA0;have Bx:=aa HA1;have Br:=aa HA2;replace HB:=upB HB hbx;clear hb hbx HA0 HA1 HA2
  cases r
  ·obtain⟨k0,k1,k2,k3,k4,k5⟩:=cs6 Bk;have ltk_1:=ae Bk.out;obtain⟨x0,x1,x2,x3,x4,x5,x6,x7⟩:=cs8 Bx;have ltx_1:=ae Bx.out;go_wp2_with fail;refine (aJ 1 _).mono ?_;rintro e w2 ⟨rfl,hb⟩;clear k0 k1 k2 k3 k4 k5 ltk_1 x0 x1 x2 x3 x4 x5 x6 x7 ltx_1;replace Bk:=upK Bk hb;replace Bx:=upK Bx hb;replace Br:=upK Br hb;replace HB:=upB HB hb;clear hb;obtain⟨r0,r1,r2,r3,r4,r5,r6,r7⟩:=cs8 Br;have ltr_2:=ae Br.out;obtain⟨fr0,fr1,fr2,fr3,fr4,fr5,fr6,fr7⟩:=j6 Br.out;have hrl:w.heap.size+1+1<w2.heap.size:=ae Br.out
   go_wp2
   exact bodyPost_ret (v:=Zc #[J U 0 0,J U 0 0,J U 0 0,J U 0 0,J U 0 0,Y7 Y6 0,I ⟨#[]⟩,Y7 Y6 1]) kT rfl ⟨ad0,co0 1,rfl,HV.out,i_ _ _,et (show w.heap.size<=w.heap.size+1+1 by omega) (HB.out)⟩
  obtain⟨k0,k1,k2,k3,k4,k5⟩:=cs6 Bk;have ltk_1:=ae Bk.out;obtain⟨x0,x1,x2,x3,x4,x5,x6,x7⟩:=cs8 Bx;have ltx_1:=ae Bx.out;go_wp2_with fail;refine (jh xn xc xz xk xs _ _ va vl vc zs _ HZ.1 HZ.2.1 HZ.2.2.1 HZ.2.2.2 (HX.below HB.out)).mono ?_;rintro e w2 ⟨r,rfl,-,hb⟩;clear k0 k1 k2 k3 k4 k5 ltk_1 x0 x1 x2 x3 x4 x5 x6 x7 ltx_1;replace Bk:=upK Bk hb;replace Bx:=upK Bx hb;replace Br:=upK Br hb;replace HB:=upB HB hb;clear hb
  cases r
  ·obtain⟨k0,k1,k2,k3,k4,k5⟩:=cs6 Bk;have ltk_2:=ae Bk.out;obtain⟨x0,x1,x2,x3,x4,x5,x6,x7⟩:=cs8 Bx;have ltx_2:=ae Bx.out;go_wp2_with fail;refine (aJ 1 _).mono ?_;rintro e w3 ⟨rfl,hb⟩;clear k0 k1 k2 k3 k4 k5 ltk_2 x0 x1 x2 x3 x4 x5 x6 x7 ltx_2;replace Bk:=upK Bk hb;replace Bx:=upK Bx hb;replace Br:=upK Br hb;replace HB:=upB HB hb;clear hb;obtain⟨r0,r1,r2,r3,r4,r5,r6,r7⟩:=cs8 Br;have ltr_3:=ae Br.out;obtain⟨fr0,fr1,fr2,fr3,fr4,fr5,fr6,fr7⟩:=j6 Br.out;have hrl:w.heap.size+1+1<w3.heap.size:=ae Br.out
   go_wp2
   exact bodyPost_ret (v:=Zc #[J U 0 0,J U 0 0,J U 0 0,J U 0 0,J U 0 0,Y7 Y6 0,I ⟨#[]⟩,Y7 Y6 1]) kT rfl ⟨ad0,co0 1,rfl,HV.out,i_ _ _,et (show w.heap.size<=w.heap.size+1+1 by omega) (HB.out)⟩
  obtain⟨k0,k1,k2,k3,k4,k5⟩:=cs6 Bk;have ltk_2:=ae Bk.out;obtain⟨x0,x1,x2,x3,x4,x5,x6,x7⟩:=cs8 Bx;have ltx_2:=ae Bx.out;go_wp2_with fail;refine (aJ 1 _).mono ?_;rintro e w3 ⟨rfl,hb⟩;clear k0 k1 k2 k3 k4 k5 ltk_2 x0 x1 x2 x3 x4 x5 x6 x7 ltx_2;replace Bk:=upK Bk hb;replace Bx:=upK Bx hb;replace Br:=upK Br hb;replace HB:=upB HB hb;clear hb;obtain⟨r0,r1,r2,r3,r4,r5,r6,r7⟩:=cs8 Br;have ltr_3:=ae Br.out;obtain⟨fr0,fr1,fr2,fr3,fr4,fr5,fr6,fr7⟩:=j6 Br.out;have hrl:w.heap.size+1+1<w3.heap.size:=ae Br.out
  go_wp2
  exact bodyPost_ret (v:=Zc #[J U 0 0,J U 0 0,J U 0 0,J U 0 0,J U 0 0,Y7 Y6 0,I ⟨#[]⟩,Y7 Y6 1]) kT rfl ⟨ad0,co0 1,rfl,HV.out,i_ _ _,et (show w.heap.size<=w.heap.size+1+1 by omega) (HB.out)⟩)
theorem vO(d:Ad) (c:Cl) (xn:ByteArray) (xc:Int) (xz xk:ByteArray) (xs:Bool) (va:Option Addr) (vc:Nat) (w:World) (hr:aB w d c.raw) (hx:az w va 0 vc []) (z0:xn.size<=9223372036854775807) (z2:xz.size<=9223372036854775807) (z3:xk.size<=9223372036854775807):
  Calls Tryz.prog 78 #[Zc #[J d.a1 d.l1 d.c1,J d.a2 d.l2 d.c2,J d.a3 d.l3 d.c3,J d.a4 d.l4 d.c4,J d.a5 d.l5 d.c5,Y7 Y6 c.now],Zc #[I xn,Y7 Y6 xc,I xz,I xk,Y9 xs,I ⟨#[]⟩,Y9 Y_,J va 0 vc]] w (qU (bh c (⟨xn,xc,xz,xk,xs,⟨#[]⟩,Y_,[]⟩:Vd)) w):=by
 have HR:=aa hr;have HX:=aa hx;have hlc:c.vs.length=d.l3:=by simpa using (show (c.vs.map vdF).length=d.l3 from hr.v.1)
 have hlm:d.l3<=9223372036854775807:=Yp hr.v.2.1 hr.v.2.2.1;have HB:=aa (Yh w.heap.size w);clear hr hx;go_enter Tryz.func78,Tryz.ntmps78;go_wp2_with fail;refine (cY d c _ (HR.below (HB.trans ((dj _ _ _ _).mono HB.size)))).mono ?_;have z1008z:=@aa _ @NH;exact ud
theorem Cj(d:Ad) (c:Cl) (x:Vd) (va:Option Addr) (vl vc:Nat) (w:World) (hr:aB w d c.raw) (hx:az w va vl vc x.zs) (z0:x.n.size<=9223372036854775807) (z2:x.z.size<=9223372036854775807) (z3:x.k.size<=9223372036854775807) (z5:x.m.size<=9223372036854775807):
  Calls Tryz.prog 78 #[Zc #[J d.a1 d.l1 d.c1,J d.a2 d.l2 d.c2,J d.a3 d.l3 d.c3,J d.a4 d.l4 d.c4,J d.a5 d.l5 d.c5,Y7 Y6 c.now],Zc #[I x.n,Y7 Y6 x.c,I x.z,I x.k,Y9 x.x,I x.m,Y9 x.y,J va vl vc]] w (qU (bh c x) w):=by
 by_cases hn:x.m=⟨#[]⟩/\x.y=Y_/\x.zs=[]
 ·obtain⟨xn,xc,xz,xk,xs,xm,xy,zs⟩:=x;obtain⟨rfl,rfl,rfl⟩:xm=⟨#[]⟩/\xy=Y_/\zs=[]:=hn;obtain rfl:vl=0:=hx.1.symm;exact vO d c xn xc xz xk xs va vc w hr hx z0 z2 z3
 ·exact A3 d c x va vl vc w hr hx z0 z2 z3 z5 hn
theorem Ci(d:Ad) (c:Cl) (x:Xd) (w:World) (hr:aB w d c.raw) (z0:x.n.size<=9223372036854775807) (z2:x.k.size<=9223372036854775807) (z4:x.v.size<=9223372036854775807):
  Calls Tryz.prog 80 #[Zc #[J d.a1 d.l1 d.c1,J d.a2 d.l2 d.c2,J d.a3 d.l3 d.c3,J d.a4 d.l4 d.c4,J d.a5 d.l5 d.c5,Y7 Y6 c.now],Zc #[I x.n,Y7 Y6 x.z,I x.k,Y9 x.x,I x.v]] w (qU (bP c x) w):=by
 have z448z:=@aa _ @abz;exact b_
theorem BY(d:Ad) (now:Int) (xs:List Pd) (t:ByteArray) (w:World) (hr:aT w d.a5 d.l5 d.c5 6 (xs.map pdF)) (hs:aF Pd.n xs) {j:Nat} {x:Pd} (hx:xs[j]?=Y5 x) (hn:x.n=t):
  Calls Tryz.prog 43 #[Zc #[J d.a1 d.l1 d.c1,J d.a2 d.l2 d.c2,J d.a3 d.l3 d.c3,J d.a4 d.l4 d.c4,J d.a5 d.l5 d.c5,Y7 Y6 now],I t] w λe w'=>e=Za (Y7 Y6 j)/\Below w.heap.size w w':=by
 refine (gL d now xs t w hr).mono ?_;exact uC
theorem AQ(d:Ad) (now:Int) (xs:List Pd) (t:ByteArray) (w:World) (hr:aT w d.a5 d.l5 d.c5 6 (xs.map pdF)) (hn:∀(j:Nat) x,xs[j]?=Y5 x->¬x.n=t):
  Calls Tryz.prog 43 #[Zc #[J d.a1 d.l1 d.c1,J d.a2 d.l2 d.c2,J d.a3 d.l3 d.c3,J d.a4 d.l4 d.c4,J d.a5 d.l5 d.c5,Y7 Y6 now],I t] w λe w'=>e=Za (Y7 Y6 (-1))/\Below w.heap.size w w':=by
 refine (gL d now xs t w hr).mono ?_;exact uz
theorem ais {b:Nat} {a0 a1 a2 a3 a4 a5 v:Value} {T:TypeId} (h:w.heap[b]?=Y5 (Y8 #[a0,a1,a2,a3,a4,a5] T (0,0))):Hid ((w.setCell ⟨b,3,U⟩ v).heap[b]?=Y5 (Y8 #[a0,a1,a2,v,a4,a5] T (0,0))):=by
 exact av h v
theorem akH {w4:World} {v4:Value} {base n j hh:Nat} {xs:List Pd} {x:Pd} {va:Option Addr} {vl vc:Nat} {vss:List (List Value)} {H:Nat->Nat->Nat} {Q Q2:Nat->Prop} (hV:aQ w Q 6 (xs.map pdF) vss H) (hxl:xs.length=n) (hj:j=pl Pd.n xs x.n) (hbs:w.heap.size<=base) (hB4:Below w.heap.size w w4)
  (hxf:∀(i:Nat) f,(pdF x)[i]?=Y5 f->∃v,[I x.n,Y7 Y6 x.c,I x.z,J va vl vc,I x.d,Y7 Y6 x.p][i]?=Y5 v/\f.Fr w hh Q2 v) (hq:∀k,Q k->Q2 k->False) (ho4:w4.ownsRow base 40 6 v4 (n+1) (aR j [I x.n,Y7 Y6 x.c,I x.z,J va vl vc,I x.d,Y7 Y6 x.p] vss).flatten):
  ∃a' c',v4=J a' (n+1) c'/\aw w4 a' (n+1) c' 6 40 ((aR (pl Pd.n xs x.n) x xs).map pdF) (λk=>(Q k\/Q2 k)\/w.heap.size<=k):=by
 obtain⟨hjn,hV4⟩:=Oi;obtain⟨H4,hV5⟩:=hV4.ins (p:=j) (r:=pdF x) (vs:=[I x.n,Y7 Y6 x.c,I x.z,J va vl vc,I x.d,Y7 Y6 x.p]) (hh:=λ_=>hh) rfl rfl (λi f hf=>by
   obtain⟨v,h1,h2⟩:=hxf i f hf
   exact⟨v,h1,h2.ay (λcu _ q=>hB4.block _ (ae q)) (λ_ s=>Ze (Zd s))⟩) (λi zs h hz k r i2 zs2 hr2 hz2 hne e=>by
  obtain⟨v,_,h2⟩:=hxf i _ h;obtain⟨_,_,_,_,_,_,_,_,h3⟩:=h2
  have hkv:k<vss.length:=by rw[hV.len];exact (Yc.1 hr2).1
  obtain⟨v',_,h5⟩:=hV.cell k r _ hr2 (Yi hkv) i2 _ hz2;obtain⟨_,_,_,_,_,_,_,_,h6⟩:=h5
  rcases h3 with h3|⟨_,h3,_⟩
  ·exact hz h3
  ·rcases h6 with h6|⟨_,h6,_⟩
   ·exact hne h6
   ·rw[e] at h6
    exact hq _ h6 h3) (λi i2 zs zs2 h _ h2 _=>by
  rcases i with _|_|_|_|_|_|i <;> simp[pdF] at h <;> rcases i2 with _|_|_|_|_|_|i2 <;> simp[pdF] at h2 <;> rfl) ug
 have h45:aQ w4 (λk=>(Q k\/Q2 k)\/w.heap.size<=k) 6 ((aR j x xs).map pdF) (aR j [I x.n,Y7 Y6 x.c,I x.z,J va vl vc,I x.d,Y7 Y6 x.p] vss) H4:=by rw[fI];exact hV5
 have hle:((aR j x xs).map pdF).length=n+1:=by rw[Yo,dq af,hxl]
 exact Pf
theorem A4(d:Ad) (c:Cl) (x:Pd) (va:Option Addr) (vl vc:Nat) (w:World) (hr:aB w d c.raw) (hx:az w va vl vc x.zs) (z0:x.n.size<=9223372036854775807) (z2:x.z.size<=9223372036854775807) (z4:x.d.size<=9223372036854775807) (hn:¬(x.p=0)):
  Calls Tryz.prog 82 #[Zc #[J d.a1 d.l1 d.c1,J d.a2 d.l2 d.c2,J d.a3 d.l3 d.c3,J d.a4 d.l4 d.c4,J d.a5 d.l5 d.c5,Y7 Y6 c.now],Zc #[I x.n,Y7 Y6 x.c,I x.z,J va vl vc,I x.d,Y7 Y6 x.p]] w (qU (ck c x) w):=by
 have HR:=aa hr;have HX:=aa hx;have HB:=aa (Yh w.heap.size w);have HV:Hid (ck c x (co0 1)):=Ze ⟨1,λh=>hn h.2.2,rfl⟩;have hv1:(x.p==0)=Y_:=by simpa using hn
 clear hr hx hn;go_enter Tryz.func82,Tryz.ntmps82;go_wp2_with fail;refine (cY d c _ (HR.below (HB.trans ((dj _ _ _ _).mono HB.size)))).mono ?_;rintro e w1 ⟨r,rfl,-,hb⟩;have z1567z:=@aa _ @Ff;exact mI
theorem vP(d:Ad) (c:Cl) (xn:ByteArray) (xc:Int) (xz:ByteArray) (zs:List ByteArray) (xd:ByteArray) (va:Option Addr) (vl vc:Nat) (w:World) (hr:aB w d c.raw) (hx:az w va vl vc zs) (z0:xn.size<=9223372036854775807) (z2:xz.size<=9223372036854775807) (z4:xd.size<=9223372036854775807):
  Calls Tryz.prog 82 #[Zc #[J d.a1 d.l1 d.c1,J d.a2 d.l2 d.c2,J d.a3 d.l3 d.c3,J d.a4 d.l4 d.c4,J d.a5 d.l5 d.c5,Y7 Y6 c.now],Zc #[I xn,Y7 Y6 xc,I xz,J va vl vc,I xd,Y7 Y6 0]] w (qU (ck c (⟨xn,xc,xz,zs,xd,0⟩:Pd)) w):=by
 obtain⟨a1,l1,y1,a2,l2,y2,a3,l3,y3,a4,l4,y4,a5,l5,y5⟩:=d;dsimp only;have HR:=aa hr;have HX:=aa hx;have hvm:vl<=9223372036854775807:=Yp hx.2.1 hx.2.2.1;have hxl:zs.length=vl:=hx.1;have hlc:c.ps.length=l5:=by simpa using (show (c.ps.map pdF).length=l5 from hr.p.1)
 have hlm:l5<=9223372036854775807:=Yp hr.p.2.1 hr.p.2.2.1;have HB:=aa (Yh w.heap.size w);clear hr hx;go_enter Tryz.func82,Tryz.ntmps82;have z1785z:=@aa _ @Cs;exact rO
theorem Cm(d:Ad) (c:Cl) (x:Pd) (va:Option Addr) (vl vc:Nat) (w:World) (hr:aB w d c.raw) (hx:az w va vl vc x.zs) (z0:x.n.size<=9223372036854775807) (z2:x.z.size<=9223372036854775807) (z4:x.d.size<=9223372036854775807):
  Calls Tryz.prog 82 #[Zc #[J d.a1 d.l1 d.c1,J d.a2 d.l2 d.c2,J d.a3 d.l3 d.c3,J d.a4 d.l4 d.c4,J d.a5 d.l5 d.c5,Y7 Y6 c.now],Zc #[I x.n,Y7 Y6 x.c,I x.z,J va vl vc,I x.d,Y7 Y6 x.p]] w (qU (ck c x) w):=by
 by_cases hn:x.p=0
 ·obtain⟨xn,xc,xz,zs,xd,xp⟩:=x;obtain rfl:xp=0:=hn;exact vP d c xn xc xz zs xd va vl vc w hr hx z0 z2 z4
 ·exact A4 d c x va vl vc w hr hx z0 z2 z4 hn
theorem ko(d:Ad) (c:Cl) (k:Nat) (x:Vd) (w:World) (hr:aB w d c.raw) (hx:c.vs[k]?=Y5 x):
  Calls Tryz.prog 35 #[Zc #[J d.a1 d.l1 d.c1,J d.a2 d.l2 d.c2,J d.a3 d.l3 d.c3,J d.a4 d.l4 d.c4,J d.a5 d.l5 d.c5,Y7 Y6 c.now],Y7 Y6 k] w (au (nX c x) w):=by
 have z448z:=@aa _ @aby;exact b_
theorem rF(a:Option Addr) (len cap:Nat) (xs:List Vd) (t:ByteArray) (i:Nat) (x:Vd) (Q:Nat->Prop) (w:World) (ho:aw w a len cap 8 38 (xs.map vdF) Q) (hl:len<=8) (hri:aF Vd.n xs) (hx:xs[i]?=Y5 x) (hn:x.n=t):
  Calls Tryz.prog 39 #[J a len cap,Y7 Y6 i] w λe w'=> ∃a' l' c',e=Za (J a' l' c')/\aw w' a' l' c' 8 38 ((wo Vd.n t xs).map vdF) (λk=>Q k\/w.heap.size<=k)/\Below w.heap.size w w':=by
 have HW:=aa (jd hri hx hn);have hxl:xs.length=len:=by have h6:(xs.map vdF).length=len:=ho.1;rw[Yo] at h6;exact h6
 have hi5:i<len:=by have:=(Yc.1 hx).1;omega
 have hmn:len<=cap:=ho.2.1;have hmx:cap<=9223372036854775807:=ho.2.2.1;obtain⟨vss,H,hV,hcell⟩:=ho.ju;have hvl:vss.length=len:=by have h6:vss.length=(xs.map vdF).length:=hV.len;rw[Yo] at h6;omega
 obtain⟨b,hxa,hbS⟩:∃b,a=Y5 ⟨b,0,U⟩/\b<w.heap.size:=by
  exact Ox
 subst hxa;have HC:Hid (∀(j:Nat) u,vss.flatten[j]?=Y5 u->w.cell? ⟨b,j,U⟩=Y5 u):=λj u hj=>by
  obtain⟨g,e,_,h3⟩:=hcell j u hj;cases e;exact h3
 have HVR:=aa hV;obtain⟨i5,hi5',hz0,hz1,hz2⟩:=info_parts iY;have HI0:=aa (Yb hi5' (Yb hz0 (Yb hz1 hz2)));have hown0:World.ownsRow (w.alloc (Y8 #[] 38)) w.heap.size 38 8 (J (Y5 ⟨w.heap.size,0,U⟩) 0 0) 0 []:=⟨by simp,Zd ⟨w.heap.size,0,#[],rfl,Ye _,Yg,Ye _,by unfold maxLen;omega,by simp,by simp⟩⟩;have HOW:=aa hown0;have hik:(i:Int)<=cap:=af
 clear hV hcell ho hri hx hn hi5' hz0 hz1 hz2 hown0;go_enter Tryz.func39,Tryz.ntmps39;go_wp2_with (first|(at_builtin;refine wpList_append_own _ rfl _ _ 25 rfl w.heap.size 38 i5 (Zc #[I ⟨#[]⟩,Y7 Y6 0,I ⟨#[]⟩,I ⟨#[]⟩,Y9 Y_,I ⟨#[]⟩,Y9 Y_,J U 0 0]) 8 112 Tryz.underlying25 HI0.1 HI0.2.1 HI0.2.2.1 HI0.2.2.2 rfl ag _ 0 [] rfl (HOW.out) ⟨b,0,U⟩ i cap (vss.take i).flatten rfl ?c1 ?c2 ?c3 ?c4 ?c5 ?c6 ?_));case c1=>exact bw HVR.all af
 case c2=>
  intro j u hu;rw[Yn,Yq];exact (ai (ak w _) hbS).trans (HC.out _ _ (cD hu))
 case c3=>exact (aD HVR.one i).1
 case c4=>unfold maxLen;omega
 case c5=>omega
 case c6=>simp
 rintro v1 w4 hown4 hgr4 -;replace hown4:w4.ownsRow w.heap.size 38 8 v1 i (vss.take i).flatten:=by simpa using hown4
 have hb4:Below w.heap.size w w4:=((Yh w.heap.size _).alloc (Ye _) _).grown hgr4 aG (λg hg=>by simp[YL] at hg;omega);obtain⟨s1,s2,s3,rfl⟩:=aA hown4;have HB4:=aa hb4;have HO4:=aa hown4;have hs4:=hb4.size;clear hown4 hgr4 hb4 HOW;have hik1:((i:Int)+1)<=len:=af
 by_cases hcap:cap=i+1
 ·subst hcap;have hmi:len=i+1:=af
  subst hmi;have hvd:vss.drop (i+1)=[]:=Yx af;go_wp2_with (first|(at_builtin;refine wpList_append_own _ rfl _ _ 25 rfl w.heap.size 38 i5 (Zc #[I ⟨#[]⟩,Y7 Y6 0,I ⟨#[]⟩,I ⟨#[]⟩,Y9 Y_,I ⟨#[]⟩,Y9 Y_,J U 0 0]) 8 112 Tryz.underlying25 HI0.1 HI0.2.1 HI0.2.2.1 HI0.2.2.2 rfl ag _ _ _ rfl (HO4.out) ⟨b,0,U⟩ 0 0 [] rfl ?c1 ?c2 ?c3 ?c4 ?c5 ?c6 ?_));case c1=>rfl
  case c2=>intro j u hu;simp at hu
  case c3=>intro u hu;simp at hu
  case c4=>unfold maxLen;omega
  case c5=>omega
  case c6=>omega
  rintro v2 w5 hown5 hgr5 -;have hlen5:(wo Vd.n t xs).length=(i+1) - 1:=by rw[HW.out];simp;omega
  replace hown5:w5.ownsRow w.heap.size 38 8 v2 (wo Vd.n t xs).length (vss.take i++vss.drop (i+1)).flatten:=by
   rw[hlen5,List.flatten_append];rw[hvd];simpa using hown5
  exact ahX
 ·go_wp2_with (first|(at_builtin;refine wpList_append_own _ rfl _ _ 25 rfl w.heap.size 38 i5 (Zc #[I ⟨#[]⟩,Y7 Y6 0,I ⟨#[]⟩,I ⟨#[]⟩,Y9 Y_,I ⟨#[]⟩,Y9 Y_,J U 0 0]) 8 112 Tryz.underlying25 HI0.1 HI0.2.1 HI0.2.2.1 HI0.2.2.2 rfl ag _ _ _ rfl (HO4.out) ⟨b,(i+1)*8,U⟩ (len - (i+1)) (cap - (i+1)) (vss.drop (i+1)).flatten rfl ?c1 ?c2 ?c3 ?c4 ?c5 ?c6 ?_));case c1=>rw[dS HVR.all,hvl]
  case c2=>
   exact OG
  case c3=>exact (aD HVR.one (i+1)).2
  case c4=>unfold maxLen;omega
  case c5=>omega
  case c6=>omega
  rintro v2 w5 hown5 hgr5 -;have hlen5:(wo Vd.n t xs).length=len - 1:=by rw[HW.out];simp;omega
  replace hown5:w5.ownsRow w.heap.size 38 8 v2 (wo Vd.n t xs).length (vss.take i++vss.drop (i+1)).flatten:=by
   rw[hlen5,List.flatten_append];have e9:len - 1=i+(len - (i+1)):=af
   rw[e9];exact hown5
  exact ahX
theorem aw.Ce {g l cp j:Nat} (hO:aw w (Y5 ⟨g,0,U⟩) l cp 8 38 (vs.map vdF) S) (hj:vs[j]?=Y5 v):aw ((w.setCell ⟨g,j*8+5,U⟩ (I ⟨#[]⟩)).setCell ⟨g,j*8+6,U⟩ (Y9 Zb)) (Y5 ⟨g,0,U⟩) l cp 8 38 ((vs.set j (gF v)).map vdF) S:=by
 have hjr:(vs.map vdF)[j]?=Y5 (vdF v):=by rw[Yv,hj];rfl
 obtain⟨g',e,hS⟩:=hO.st (aI.refl S w) hjr;cases e;obtain⟨⟨cur2,H2,h3,_⟩,_,_⟩:=(hS.RX (i:=5) rfl ⟨#[]⟩ ag).ait (i:=6) rfl Zb;refine⟨by rw[Yo,List.length_set];have:=hO.1;rwa [Yo] at this,hO.2.1,hO.2.2.1,Zd ⟨g,cur2,H2,rfl,?_⟩⟩;rw[List.map_set];exact h3
theorem aw.agL {g l cp j:Nat} (hO:aw w (Y5 ⟨g,0,U⟩) l cp 8 38 (vs.map vdF) S) (hj:vs[j]?=Y5 v):(∃u,w.cell? ⟨g,j*8+5,U⟩=Y5 u)/\w.frozen? ⟨g,j*8+5,U⟩=Y_/\(∃u,w.cell? ⟨g,j*8+6,U⟩=Y5 u)/\w.frozen? ⟨g,j*8+6,U⟩=Y_:=by
 have hjr:(vs.map vdF)[j]?=Y5 (vdF v):=by rw[Yv,hj];rfl
 obtain⟨a1,a2⟩:=aw.atT hO (Yh _ _) hjr (i:=5) rfl;obtain⟨b1,b2⟩:=aw.atT hO (Yh _ _) hjr (i:=6) rfl;exact⟨a1,a2,b1,b2⟩
theorem oC(d:Ad) (c:Cl) (t:ByteArray) (w:World) (hr:aB w d c.raw):
  Calls Tryz.prog 10 #[Zc #[J d.a1 d.l1 d.c1,J d.a2 d.l2 d.c2,J d.a3 d.l3 d.c3,J d.a4 d.l4 d.c4,J d.a5 d.l5 d.c5,Y7 Y6 c.now],I t] w (jc (a_ c t) w):=by
 have z448z:=@aa _ @abx;exact b_
theorem vH(d:Ad) (c:Cl) (t:ByteArray) (w:World) (hr:aB w d c.raw):
  Calls Tryz.prog 10 #[Zc #[J d.a1 d.l1 d.c1,J d.a2 d.l2 d.c2,J d.a3 d.l3 d.c3,J d.a4 d.l4 d.c4,J d.a5 d.l5 d.c5,Y7 Y6 c.now],I t] w (agT (a_ c t) w):=(oC d c t w hr).mono λ_ _ h=>h.s
theorem oD(d:Ad) (c:Cl) (t:ByteArray) (w:World) (hr:aB w d c.raw):
  Calls Tryz.prog 11 #[Zc #[J d.a1 d.l1 d.c1,J d.a2 d.l2 d.c2,J d.a3 d.l3 d.c3,J d.a4 d.l4 d.c4,J d.a5 d.l5 d.c5,Y7 Y6 c.now],I t] w (jc (aZ c t) w):=by
 have z448z:=@aa _ @abw;exact b_
theorem vI(d:Ad) (c:Cl) (t:ByteArray) (w:World) (hr:aB w d c.raw):
  Calls Tryz.prog 11 #[Zc #[J d.a1 d.l1 d.c1,J d.a2 d.l2 d.c2,J d.a3 d.l3 d.c3,J d.a4 d.l4 d.c4,J d.a5 d.l5 d.c5,Y7 Y6 c.now],I t] w (agT (aZ c t) w):=(oD d c t w hr).mono λ_ _ h=>h.s
end Rc
end Go.Proofs.YtfhdfmdaiookjaaGreatDoor

import Derived.Test.YtcnmlpiffcldkaaGreatDoorN8
import Derived.Deep.CutRange
/-
 A Claim more, as the specification adds it.
-/
set_option maxRecDepth 100000
set_option maxHeartbeats 12800000
open Bool renaming false→Zg,true→Zi
open Go.Ending renaming returned→Zh
open Go.IntKind renaming i64→O
open Go.Obj renaming cells→Ze
open Go.Value renaming string→I,slice→U,int→V,bool→Zf,agg→Zj,pointer→Zm,tuple→Zn
open Option renaming none→J,some→M
open Or renaming inr→Zk,inl→Zl
open And renaming intro→Yb
open Array renaming getElem?_push_size→Yf, getD_eq_getD_getElem?→Ys, getElem?_eq_some_iff→YA, getElem?_setIfInBounds→YH
open Bool renaming and_eq_true→YI
open Go.Act renaming put→Y0
open Go.Addr renaming add_lit→Ym
open Go.Builtin renaming append_→YY
open Go.Calls renaming quiet_of_same→YD
open Go.Op renaming bytesLess→Yk
open Go.Region renaming ready→YU
open Go.RowKit.Below renaming heap_setCell→Ya, refl→Yh, heap_alloc→Yj
open Go.Value renaming string→Yn, ownBlock→YK
open Go.World renaming setCell→YV, cell?→YX
open List renaming getElem?_eq_some_iff→Yc, lookup→Yg, getElem?_eq_getElem→Yi, length_map→Yq, setIfInBounds_toArray→Yr, getElem?_map→Yt, getElem?_append_left→Yu, mem_of_getElem?→Yv, drop_eq_nil_of_le→Yw, set_cons_zero→Yx, set_cons_succ→Yy, take_of_length_le→YB, getElem?_take→YC, length_take→YF, getElem?_of_mem→YG, forall_mem_cons→YL, take_add_one→YM, getElem?_drop→YN, length_append→YP, foldr→YQ, mem_cons→YT
open Nat renaming le_refl→Ye, lt_of_lt_of_le→Yl, le_trans→Yo, zero_add→Yp, le_succ→Yz, zero_le→YJ
open Option renaming map_eq_some_iff→YE
open Option.some renaming inj→Yd, injEq→YZ
namespace Go.Proofs.YtcnmlpiffcldkaaGreatDoor
variable {p:Prop}
namespace Mk
end Mk
open Go.RowKit Mk
variable {S:Nat->Prop} {c:Rc.Cl} {k:Nat} {q x:Rc.Qd} {t:ByteArray} {v:Vd} {vs:List Vd} {w:World} {xs:List Rc.Qd}
theorem nI(h:p:=by simp[results,Tryz.results78,go_sem, *]):p:=h
theorem nH(h:p:=by simp[results,Tryz.results80,go_sem, *]):p:=h
theorem oW(h:p:=by simp[results,Tryz.results10,go_sem, *]):p:=h
theorem gP(h:p:=by have:=s.2;omega):p:=h
theorem oV(h:p:=by rcases s with (s|s)|s <;> omega):p:=h
theorem uO(h:p:=by simp[results,Tryz.results86,go_sem, *]):p:=h
theorem oS(h:p:=by simp only[cW];omega):p:=h
theorem AJ(h:p:=by simp[results,Tryz.results83,go_sem, *]):p:=h
theorem AI(h:p:=by simp[results,Tryz.results84,go_sem, *]):p:=h
theorem amF(h:p:=by
 have ZI:=(Yh wc.heap.size w10).grown ZF af (λg hg=>(HO4.lt g hg).1);obtain⟨t1,t2,t3,rfl⟩:=az aa;have H35:=G (HB4.trans ZI);have Ρ:=G (HB9.trans (H35.mono HB9.size));have Bo5:=upK HBO H35.out;have Br5:=upK HBR H35.out;have aos:=Sel.erase (xs:=c.xs) (vss:=vss) af (k:=i) af;rw[<-HW.out] at aos;have aqw:=(aos.jK (σ.below H35.out)).ay (w':=w11) (S':=λk=>(λk=>wr.heap.size<=k/\¬k=w7.heap.size) k\/wc.heap.size<=k) (λ_ _ _ _=>rfl) (λk _ s=>Zl s);have avB:=@G _ @aeD;exact Aw):p:=h
theorem aiD(h:p:=by
 clear k0 k1 k2 k3 k4 k5 x0 x1 x2 x3 x4 x5;replace Bk:=upK Bk hb;replace Bx:=upK Bx hb;have κ:=@G _ @af1;exact bI):p:=h
theorem aiB(h:p:=by
 clear k0 k1 k2 k3 k4 k5 x0 x1 x2 x3 x4;replace Bk:=upK Bk hb;replace Bx:=upK Bx hb;have κ:=@G _ @af0;exact bI):p:=h
theorem amD(h:p:=by
 obtain⟨b,o,p,rfl,hb,hxn,Zc⟩:=db (HR.p.below HB.out) Zo;obtain⟨va,vl,vc,Zx,z0,z2,z4,c0,c1,c2,c3,c4,c5⟩:=bK Zc;have HP:=G hxn;have HTP:=G Zx;have hk3:(k:Int)<l5:=af
 clear Zc hxn z0 z2 z4 Zx;cases r
 ·go_wp2_with fail;refine (bZ va vl vc p.zs t _ HTP.out).mono ?_;rintro e w6 ⟨r2,rfl,hi,ZA⟩;have HI6:=G hi;have HL6:=upB HL4 ZA;clear hi;replace Bk:=upK Bk ZA;replace Br:=upK Br ZA;replace HB:=upB HB ZA;clear ZA;clear k0 k1 k2 k3 k4 k5 c0 c1 c2 c3 c4 c5 hb;go_wp2;refine⟨⟨k+1,r2,by omega,rfl,by go_num,show _↔_ from ?_,HL6.out⟩,by simp[intOf];omega⟩;constructor
  ·exact λh=>Zk ⟨k,p,by omega,HP.out,HI6.1 h⟩
  ·rintro (h|⟨i,m,h1,h2,h3⟩)
   ·exact absurd (HS.2 (Zl h)) ag
   ·by_cases e:i=k
    ·subst e;rw[HP.out] at h2;cases h2;exact HI6.2 h3
    ·exact absurd (HS.2 (Zk ⟨i,m,by omega,h2,h3⟩)) ag
 ·go_wp2;refine⟨⟨k+1,Zi,by omega,rfl,by go_num,show _↔_ from ⟨λ_=>(HS.1 bU).elim Zl (λ⟨i,m,h1,h2⟩=>Zk ⟨i,m,by omega,h2⟩),λ_=>rfl⟩,HL4.out⟩,by simp[intOf];omega⟩):p:=h
theorem amC(h:p:=by
 have HV:Hid (dv c t (co0 11)):=Zl ⟨5,⟨HL.out,HT.out,Zk ⟨rfl,aq7.out,hgo.1 bU⟩⟩,rfl⟩;clear hgo;obtain⟨k0,k1,k2,k3,k4,k5⟩:=cs6 Bk;go_wp2_with fail;refine (aI 11 _).mono ?_;rintro e w5 ⟨rfl,hb⟩;clear k0 k1 k2 k3 k4 k5;replace Bk:=upK Bk hb;have κ:=@G _ @afZ;exact bI):p:=h
theorem aiv(h:p:=by
 obtain⟨k0,k1,k2,k3,k4,k5⟩:=cs6 Bk;go_wp2_with fail;refine (aI 11 _).mono ?_;rintro e w3 ⟨rfl,hb⟩;clear k0 k1 k2 k3 k4 k5;replace Bk:=upK Bk hb;have κ:=@G _ @afY;exact bI):p:=h
theorem aiu(h:p:=by
 have ZI:=(Yh w.heap.size w4).grown ZF HB4.size (λg hg=>(HO4.lt g hg).1);obtain⟨t1,t2,t3,rfl⟩:=az aa;have H5:=G (HB4.trans ZI);have aos:=Sel.erase (xs:=xs) (vss:=vss) af (k:=i) af;rw[<-HW.out] at aos;have aqw:=(aos.jK (σ.below H5.out)).ay (w':=w5) (S':=λk=>Q k\/w.heap.size<=k) (λ_ _ _ _=>rfl) (λk _ s=>Zl s);have avB:=@G _ @aeC;exact Aw):p:=h
theorem ais(h:p:=by
 have Ο:(k:Int)<vl:=af
 have an4:=@G _ @U2;exact dH):p:=h
theorem amt(h:p:=by
 have h1:=(aj w7 (Ze (Zs d' c.now) 29)).trans (HQB.mono aF);exact⟨HO.n.ay (λk hk _=>h1.block k hk) (λk hk s=>⟨s,by omega⟩),HO.k.ay (λk hk _=>h1.block k hk) (λk hk s=>⟨s,by omega⟩),HO.v.ay (λk hk _=>h1.block k hk) (λk hk s=>⟨s,by omega⟩),HO.x.ay (λk hk _=>h1.block k hk) (λk hk s=>⟨s,by omega⟩),HO.p.ay (λk hk _=>h1.block k hk) (λk hk s=>⟨s,by omega⟩)⟩):p:=h
theorem Rk(h:p:=by
 go_wp2;exact bodyPost_ret (v:=Zj #[U J 0 0,U J 0 0,U J 0 0,U J 0 0,U J 0 0,V O 0,I ⟨#[]⟩,V O p]) oW rfl ⟨ad0,co0 p,rfl,HV.out,(rl0 _ _),sb1 (sb1 (sb1 (sb1 (sb1 (sb1 (sb1 (sb1 (HB.out))))))))⟩):p:=h
theorem ak8(h:p:=by
 rw[Yt,YE] at hu;obtain⟨z,hz,rfl⟩:=hu;obtain⟨b,o,x,rfl,hb,hx,hc,Zq⟩:=HXQ.at (k:=j) dO;rw[hz] at hx;cases hx;exact⟨_,rfl,by rw[Ym];exact (ah hW hb).trans hc⟩):p:=h
theorem Q9(h:p:=by
 have h1:vss[0]?=M (vss[0]'(by omega)):=Yi _;have h2:0<(vss[0]'(by omega)).length:=by rw[σ.all 0 _ h1];decide
 obtain⟨g,e,_⟩:=HCQ.out _ _ (gF σ.all h1 (Yi h2));cases e):p:=h
theorem QL(h:p:=by
 have HO3:=G (cv HO.out q1.b);rw[<-amK HY0.out HON.out] at HO3;go_wp2;exact⟨⟨k+1,m9,by omega,by omega,by go_num,HO3,HL.trans (q1.b.mono hLs)⟩,by simp[intOf];omega⟩):p:=h
theorem qQ(h:p:=by
 rw[YM,h,List.filter_append,List.map_append];simp[hv]):p:=h
theorem ak3(h:p:=by
 obtain⟨g,e,h3⟩:=HC.out j u hj;exact⟨g,e,Yl (a_ h3) H4.size,(ah H4.out (a_ h3)).trans h3⟩):p:=h
theorem akX(h:p:=by
 intro j u hu;rw[Ym,Yp];exact (ah (aj wc _) hbS).trans (HC.out _ _ (cH hu))):p:=h
theorem PY(h:p:=by
 obtain⟨ayL,HRX⟩:=hcut;subst ayL;obtain⟨sa,sl,sc,vs,hds,hbo,hbr,hn9,hk9,hv9,hx9,hp9,hb9⟩:=HRX.out;have HV:Hid (dv c t ⟨RU c t vs,⟨#[]⟩,0⟩):=Zk ⟨HL.out,HT.out,ZQ.out,vs,hds,rfl⟩;have HW:=G (jx HRI.out HX.out HN.out);have Z4:d'.l4=l4:=by have h6:(c.xs.map xdF).length=d'.l4:=hx9.1;rw[Yq] at h6;omega
 have hmn:l4<=d'.c4:=by rw[<-Z4];exact hx9.2.1
 have hmx:=hx9.2.2.1;have hq9:=ae hbo;obtain⟨vss,H,hV,hcell⟩:=hx9.jK;have hvl:vss.length=l4:=by have h6:vss.length=(c.xs.map xdF).length:=hV.len;rw[Yq] at h6;omega
 obtain⟨b,hxa,hbS⟩:∃b,d'.a4=M ⟨b,0,J⟩/\b<wc.heap.size:=by
  exact Pf
 have HC:Hid (∀(j:Nat) u,vss.flatten[j]?=M u->wc.cell? ⟨b,j,J⟩=M u):=λj u hj=>by
  obtain⟨g,e,_,h3⟩:=hcell j u hj;rw[hxa] at e;cases e;exact h3
 have σ:=G hV;obtain⟨i5,anX,ZO,η,ZP⟩:=info_parts jl;have Y_:=G (Yb anX (Yb ZO (Yb η ZP)));have aoN:World.ownsRow (wc.alloc (Ze #[] 47)) wc.heap.size 47 5 (U (M ⟨wc.heap.size,0,J⟩) 0 0) 0 []:=⟨by simp,Zk ⟨wc.heap.size,0,#[],rfl,Ye _,Yf,Ye _,by unfold maxLen;omega,by simp,by simp⟩⟩;have ρ:=G aoN;have hik:(i:Int)<=d'.c4:=af
 have HN9:=G hn9;have HK9:=G hk9;have HV9:=G hv9;have HP9:=G hp9;have HB9:=G hb9;have HBO:=G hbo;have HBR:=G hbr;obtain⟨o0,o1,o2,o3,o4,o5⟩:=cs6 hbo;rw[hxa] at o3;rw[Z4] at o3;clear hV hcell hx9 anX ZO η ZP aoN hn9 hk9 hv9 hp9 hb9 hbo hbr hds;go_wp2_with (first|(at_builtin;refine wpList_append_own _ rfl _ _ 26 rfl wc.heap.size 47 i5 (Zj #[I ⟨#[]⟩,V O 0,I ⟨#[]⟩,Zf Zg,I ⟨#[]⟩]) 5 64 Tryz.underlying26 Y_.1 Y_.2.1 Y_.2.2.1 Y_.2.2.2 rfl ag _ 0 [] rfl (ρ.out) ⟨b,0,J⟩ i d'.c4 (vss.take i).flatten rfl ?c1 ?c2 ?c3 ?c4 ?c5 ?c6 ?_));case c1=>exact bA σ.all af
 case c2=>
  exact akX
 case c3=>exact (aD σ.one i).1
 case c4=>unfold maxLen;omega
 case c5=>omega
 case c6=>simp
 rintro v1 w10 Θ apV -;replace Θ:w10.ownsRow wc.heap.size 47 5 v1 i (vss.take i).flatten:=by simpa using Θ
 have π:=((Yh wc.heap.size _).alloc (Ye _) _).grown apV aF (λg hg=>by simp[YK] at hg;omega);obtain⟨s1,s2,s3,rfl⟩:=az Θ;have HB4:=G π;have HO4:=G Θ;have hs4:=π.size;have Bo4:=upK HBO π;clear Θ apV π o0 o1 o2 o3 o4 o5;obtain⟨o0,o1,o2,o3,o4,o5⟩:=cs6 Bo4;rw[hxa] at o3;rw[Z4] at o3;by_cases ZZ:d'.c4=i+1
 ·have hmi:l4=i+1:=af
  have hvd:vss.drop (i+1)=[]:=Yw af;rw[ZZ,hmi] at o3;go_wp2_with (first|(at_builtin;refine wpList_append_own _ rfl _ _ 26 rfl wc.heap.size 47 i5 (Zj #[I ⟨#[]⟩,V O 0,I ⟨#[]⟩,Zf Zg,I ⟨#[]⟩]) 5 64 Tryz.underlying26 Y_.1 Y_.2.1 Y_.2.2.1 Y_.2.2.2 rfl ag _ _ _ rfl (HO4.out) ⟨b,0,J⟩ 0 0 [] rfl ?c1 ?c2 ?c3 ?c4 ?c5 ?c6 ?_));case c1=>rfl
  case c2=>intro j u hu;simp at hu
  case c3=>intro u hu;simp at hu
  case c4=>unfold maxLen;omega
  case c5=>omega
  case c6=>omega
  rintro v2 w11 aa ZF -;have alR:(wo Xd.n t c.xs).length=l4 - 1:=by rw[HW.out];simp;omega
  replace aa:w11.ownsRow wc.heap.size 47 5 v2 (wo Xd.n t c.xs).length (vss.take i++vss.drop (i+1)).flatten:=by
   rw[alR,List.flatten_append];rw[hvd,hmi];simpa using aa
  exact amF
 ·go_wp2_with (first|(at_builtin;refine wpList_append_own _ rfl _ _ 26 rfl wc.heap.size 47 i5 (Zj #[I ⟨#[]⟩,V O 0,I ⟨#[]⟩,Zf Zg,I ⟨#[]⟩]) 5 64 Tryz.underlying26 Y_.1 Y_.2.1 Y_.2.2.1 Y_.2.2.2 rfl ag _ _ _ rfl (HO4.out) ⟨b,(i+1)*5,J⟩ (l4 - (i+1)) (d'.c4 - (i+1)) (vss.drop (i+1)).flatten rfl ?c1 ?c2 ?c3 ?c4 ?c5 ?c6 ?_));case c1=>rw[ep σ.all,hvl]
  case c2=>
   exact Ph
  case c3=>exact (aD σ.one (i+1)).2
  case c4=>unfold maxLen;omega
  case c5=>omega
  case c6=>omega
  rintro v2 w11 aa ZF -;have alR:(wo Xd.n t c.xs).length=l4 - 1:=by rw[HW.out];simp;omega
  replace aa:w11.ownsRow wc.heap.size 47 5 v2 (wo Xd.n t c.xs).length (vss.take i++vss.drop (i+1)).flatten:=by
   rw[alR,List.flatten_append];have e9:l4 - 1=i+(l4 - (i+1)):=af
   rw[e9];exact aa
  exact amF):p:=h
theorem xf(h:p:=by
 have an4:=@G _ @U1;exact dH):p:=h
theorem PM(h:p:=by
 exact⟨(HOF.n.ay hk4 (λ_ _ s=>s)).rl (λk s=>loq),(HOF.k.ay hk4 (λ_ _ s=>s)).rl (λk s=>loq),(HOF.v.ay hk4 (λ_ _ s=>s)).rl (λk s=>loq),(HOF.x.ay hk4 (λ_ _ s=>s)).rl (λk s=>loq),(HOF.p.ay hk4 (λ_ _ s=>s)).rl (λk s=>loq)⟩):p:=h
theorem PH(h:p:=by
 have aon:=@G _ @KZ;exact fg):p:=h
theorem Pl(h:p:=by
 have an4:=@G _ @U0;exact dH):p:=h
theorem Ph(h:p:=by
 intro j u hu;rw[Ym];exact (ah HB4.out hbS).trans (HC.out _ _ (cS σ.all af hu))):p:=h
theorem anv(h:p:=by
 have fx9:=ak Bx9.out 3;have axi:=ae Bo9.out;have HU0:Hid (Below w.heap.size w (w9.setCell ⟨w.heap.size+1,3,J⟩ (U sa vl sc))):=ai af (HB.trans (H9.mono HB.size));have hku:∀k9,¬k9=w.heap.size+1->(w9.setCell ⟨w.heap.size+1,3,J⟩ (U sa vl sc)).heap[k9]?=w9.heap[k9]?:=λk9 h=>Ya _ _ _ _ h;have hsu:(w9.setCell ⟨w.heap.size+1,3,J⟩ (U sa vl sc)).heap.size=w9.heap.size:=oR
 have BxU:Hid ((w9.setCell ⟨w.heap.size+1,3,J⟩ (U sa vl sc)).heap[w.heap.size+1]?=M (Ze #[I xn,V O xc,I xz,U sa vl sc,I xd,V O 0] 102 (0,0))):=ai0 Bx9.out;have BoU:=G ((hku w4.heap.size af).trans Bo9.out);have BrU:=G ((hku (w.heap.size+1+1) af).trans Br9.out);have hTU:bG (w9.setCell ⟨w.heap.size+1,3,J⟩ (U sa vl sc)) sa vl sc zs (λk=>q2.w.heap.size<=k):=HT9.ay (λk hk s=>hku k (by have s1:q2.w.heap.size<=k:=s;omega)) (λ_ _ s=>s);have hkf:∀k9,k9<q2.w.heap.size->wr3<=k9/\k9<w4.heap.size->(w9.setCell ⟨w.heap.size+1,3,J⟩ (U sa vl sc)).heap[k9]?=q2.w.heap[k9]?:=λk9 h s=>(hku k9 af).trans (H9.block k9 h);have HFU:Hid (dw (w9.setCell ⟨w.heap.size+1,3,J⟩ (U sa vl sc)) ⟨g1,m1,n1,g2,m2,n2,g3,m3,n3,g4,m4,n4,g5,l5,n5⟩ c.raw (λk=>wr3<=k/\k<w4.heap.size)):=⟨HQF.n.ay hkf (λ_ _ s=>s),HQF.k.ay hkf (λ_ _ s=>s),HQF.v.ay hkf (λ_ _ s=>s),HQF.x.ay hkf (λ_ _ s=>s),HQF.p.ay hkf (λ_ _ s=>s)⟩;exact Yb fx9 (Yb axi (Yb HU0 (Yb hku (Yb hsu (Yb BxU (Yb BoU (Yb BrU (Yb hTU (Yb hkf HFU)))))))))):p:=h
theorem amo(h:p:=by
 have aoc:Hid (∀(W:World) v4 k,k=pl Pd.n c.ps xn->Below (w9.setCell ⟨w.heap.size+1,3,J⟩ (U sa vl sc)).heap.size (w9.setCell ⟨w.heap.size+1,3,J⟩ (U sa vl sc)) W->W.ownsRow w9.heap.size 102 6 v4 (l5+1) (aQ k [I xn,V O xc,I xz,U sa vl sc,I xd,V O 0] vss).flatten->∃a' c',v4=U a' (l5+1) c'/\av W a' (l5+1) c' 6 102 ((aQ (pl Pd.n c.ps xn) (⟨xn,xc,xz,zs,xd,0⟩:Pd) c.ps).map pdF) (λk=>((wr3<=k/\k<w4.heap.size)\/q2.w.heap.size<=k)\/(w9.setCell ⟨w.heap.size+1,3,J⟩ (U sa vl sc)).heap.size<=k)):=λW v4 k hk hB4 ho4=>ald (x:=(⟨xn,xc,xz,zs,xd,0⟩:Pd)) (hh:=gh) hV hlc hk af hB4 (λi f hf=>by rcases i with _|_|_|_|_|_|i <;> simp[pdF] at hf <;> subst hf;exact⟨_,rfl,rfl,z0⟩;exact⟨_,rfl,rfl⟩;exact⟨_,rfl,rfl,z2⟩;exact⟨_,rfl,hg⟩;exact⟨_,rfl,rfl,z4⟩;exact⟨_,rfl,rfl⟩) (λk e1 e2=>by have e3:=e1.2;have e4:q2.w.heap.size<=k:=e2;omega) ho4;have ρ:Hid (((w9.setCell ⟨w.heap.size+1,3,J⟩ (U sa vl sc)).alloc (Ze #[] 102)).ownsRow w9.heap.size 102 6 (U (M ⟨w9.heap.size,0,J⟩) 0 0) 0 []):=by have h9:=World.ownsRow_made (e:=102) (size:=6) (w9.setCell ⟨w.heap.size+1,3,J⟩ (U sa vl sc)) #[] 0 (Ye _) (YJ _) aF;rw[hsu] at h9;exact h9
 exact Yb aoc ρ):p:=h
theorem ahU(h:p:=by
 have pd4:=λq:Wd w2=>(q.cell Z3).trans c4;have e0:=λq:Wd w2=>(q.cell hbn).trans d0;have e1:=λq:Wd w2=>(q.cell hbn).trans d1;have e2:=λq:Wd w2=>(q.cell hbn).trans d2;have e3:=λq:Wd w2=>(q.cell hbn).trans d3;have e4:=λq:Wd w2=>(q.cell hbn).trans d4;have e5:=λq:Wd w2=>(q.cell hbn).trans d5;have e6:=λq:Wd w2=>(q.cell hbn).trans d6;have hne0:=Wd.ne w2;have Zv:=G (λq:Wd w2=>fK ⟨(M ⟨bn,on,J⟩),l1,y1,a2,l2,y2,a3,l3,y3,a4,l4,y4,(M ⟨b,o,J⟩),l5,y5⟩ c.now c.ns x.d q.w (HR.n.below (HW.trans (q.b.mono HW.size))) HRN.out HNJ.out HNN.out);exact Yb pd4 (Yb e0 (Yb e1 (Yb e2 (Yb e3 (Yb e4 (Yb e5 (Yb e6 (Yb hne0 Zv))))))))):p:=h
theorem ahT(h:p:=by
 have Gr:Hid ((w7.alloc (Ze (Zs d' c.now) 29)).heap[w.heap.size+1]?=M (Ze #[U J 0 0,U J 0 0,U J 0 0,U J 0 0,U J 0 0,V O 0,I ⟨#[]⟩,V O 0] 33 (0,0))):=(Yj _ _ _ (ae Br.out)).trans (Br.out);have Go:Hid ((w7.alloc (Ze (Zs d' c.now) 29)).heap[w7.heap.size]?=M (Ze (Zs d' c.now) 29 (0,0))):=Yf;have HW:Hid (Below w.heap.size w (w7.alloc (Ze (Zs d' c.now) 29))):=(HB.trans ((aj _ _).mono HB.size));exact Yb Gr (Yb Go HW)):p:=h
theorem ahR(h:p:=by
 have hq1:=HQ1.out;have Τ:=ν.out;have hs5:=q2.b.size;have h4Q:=HB4.trans (q2.b.mono HB4.size);have HQF:Hid (dw q2.w ⟨g1,m1,n1,g2,m2,n2,g3,m3,n3,g4,m4,n4,g5,l5,n5⟩ c.raw (λk=>wr3<=k/\k<w4.heap.size)):=⟨(HFR.n.bC (λk hk s=>⟨s,hk⟩)).below h4Q,(HFR.k.bC (λk hk s=>⟨s,hk⟩)).below h4Q,(HFR.v.bC (λk hk s=>⟨s,hk⟩)).below h4Q,(HFR.x.bC (λk hk s=>⟨s,hk⟩)).below h4Q,(HFR.p.bC (λk hk s=>⟨s,hk⟩)).below h4Q⟩;exact Yb hq1 (Yb Τ (Yb hs5 (Yb h4Q HQF)))):p:=h
theorem AT(h:p:=by
 have HB6:=upB HW q2.b;have Ck:=upK Gk q2.b;have Cx:=upK Gx q2.b;have Cr:=upK Gr q2.b;have Co:=upK Go q2.b;exact Yb HB6 (Yb Ck (Yb Cx (Yb Cr Co)))):p:=h
theorem ahO(h:p:=by
 have n0:=λq:Wd wr=>q.slot (o:=0) Gn.out rfl;have yd:=λq:Wd wr=>(q.cell Z3).trans hc1;have von:=λq:Wd wr=>(q.cell Zy).trans hc7;have hne0:=Wd.ne wr;have Zv:=G (λq:Wd wr=>eA ⟨a1,l1,y1,a2,l2,y2,(M ⟨b3,o3,J⟩),l3,y3,a4,l4,y4,a5,l5,y5⟩ c.now c.vs y.n q.w (HR.v.below (HW.trans (q.b.mono HW.size))) HT.2.1.2.2.1.2.2 HV.1 HV.2);exact Yb n0 (Yb yd (Yb von (Yb hne0 Zv)))):p:=h
theorem ahL(h:p:=by
 have xk:=λq:Wd w2=>(q.cell Z3).trans c2;have kx:=λq:Wd w2=>(q.cell hbk).trans d1;have hne0:=Wd.ne w2;have Zv:=G (λq:Wd w2=>eB ⟨a1,l1,y1,(M ⟨bk,ok,J⟩),l2,y2,a3,l3,y3,(M ⟨b,o,J⟩),l4,y4,a5,l5,y5⟩ c.now c.ks x.k q.w (HR.k.below (HW.trans (q.b.mono HW.size))) HT.2.1.2.1.2.2 HK.1 HK.2);exact Yb xk (Yb kx (Yb hne0 Zv))):p:=h
theorem OO(h:p:=by
 have mz:=λq:Wd wr=>(q.cell hb).trans c6;have mn:∀q:Wd wr,q.w.cell? ⟨b3,o3+k*8,J⟩=M (I x.n):=λq=>(q.cell (aws)).trans (g0);have hne0:=Wd.ne wr;exact Yb mz (Yb mn hne0)):p:=h
theorem al5(h:p:=by
 have hq1:=HQ1.out;have Τ:=ν.out;have ξ:=ae Bo.out;have ρ:Hid ((q2.w.alloc (Ze #[] 47)).ownsRow q2.w.heap.size 47 5 (U (M ⟨q2.w.heap.size,0,J⟩) 0 0) 0 []):=World.ownsRow_made q2.w #[] 0 (Ye _) (YJ _) aF;have hik:(k:Int)<=n4:=af
 have Γ:k<=n4:=af
 exact Yb hq1 (Yb Τ (Yb ξ (Yb ρ (Yb hik Γ))))):p:=h
theorem akC(h:p:=by
 have atg:Hid ((q2.w.alloc (Ze #[] 9)).ownsRow q2.w.heap.size 9 1 (U (M ⟨q2.w.heap.size,0,J⟩) 0 0) 0 []):=World.ownsRow_made q2.w #[] 0 (Ye _) (YJ _) aF;have HXQ:=G (HX.below HB.out);exact Yb atg HXQ):p:=h
theorem OY(h:p:=by
 have hne0:=Wd.ne w2;have Zv:=G (λq:Wd w2=>eX ⟨a1,l1,y1,a2,l2,y2,a3,l3,y3,a4,l4,y4,a5,l5,y5⟩ c.now c.xs x.n q.w (HR.x.below (HW.trans (q.b.mono HW.size))) HMS.out);exact Yb hne0 Zv):p:=h
theorem OX(h:p:=by
 have hne0:=Wd.ne w2;have Zv:=G (λq:Wd w2=>BE ⟨a1,l1,y1,a2,l2,y2,a3,l3,y3,a4,l4,y4,a5,l5,y5⟩ c.now c.ps xn q.w (HR.p.below (HW.trans (q.b.mono HW.size))) HMS.out);exact Yb hne0 Zv):p:=h
theorem aka(h:p:=by
 have atF:=@G _ @Mj;exact ug):p:=h
theorem aj_(h:p:=by
 have atF:=@G _ @Pa;exact ug):p:=h
theorem aj9(h:p:=by
 rintro _ ⟨q2,rfl⟩;obtain⟨HB6,Ck,Cx,Cr,Co⟩:=AT;clear hne0 HW HB k3 x0 Gk Gx Gr Go Bk Bx Br Bo;have HB:=HB6;obtain⟨Bk,Bx,Br⟩:=ig;have Bo:=Co;have hpl:k=pl Xd.n c.xs x.n:=by rw[ik (nm:=Xd.n) (xs:=c.xs) (t:=x.n) (λj y hy=>HE.out j y nK hy)];omega
 have avC:=@G _ @WR;exact zG):p:=h
theorem aj8(h:p:=by
 rintro _ ⟨q3,rfl⟩;have HB:=upB HW q3.b;have Bk:=upK Gk q3.b;have Bx:=upK Gx q3.b;have Br:=upK Gr q3.b;clear hne0;go_wp2;exact⟨⟨k+1,by omega,by go_num,Zk ⟨rfl,HQ⟩,HL.trans (q3.b.mono HL.size)⟩,by simp[intOf];omega⟩):p:=h
theorem aj7(h:p:=by
 have atG:=@G _ @Mi;exact uf):p:=h
theorem aj6(h:p:=by
 have atG:=@G _ @Pa;exact uf):p:=h
theorem aj5(h:p:=by
 rintro _ ⟨q2,rfl⟩;obtain⟨HB6,Ck,Cx,Cr,Co⟩:=AT;clear hne0 HW HB k4 x0 Gk Gx Gr Go Bk Bx Br Bo;have HB:=HB6;obtain⟨Bk,Bx,Br⟩:=ig;have Bo:=Co;have hpl:k=pl Pd.n c.ps xn:=by rw[ik (nm:=Pd.n) (xs:=c.ps) (t:=xn) (λj y hy=>HE.out j y nK hy)];omega
 have HPL:=G hpl;clear hpl;obtain⟨hq1,Τ,hs5,h4Q,HQF⟩:=ahR;obtain⟨i0,awt,ZO,η,ZP⟩:=info_parts eQ;have avD:=@G _ @acz;exact zT):p:=h
theorem aj4(h:p:=by
 rintro _ ⟨q1,rfl⟩;obtain⟨HB,Bk⟩:=fB;clear hne0 k0 k1 k2 k3 k4 k5 mz mn g0;go_wp2;refine⟨⟨j+1,Zi,by omega,rfl,by go_num,show _↔_ from ⟨λ_=>(HS.1 bU).elim Zl (λ⟨i,m,h1,h2⟩=>Zk ⟨i,m,by omega,h2⟩),λ_=>rfl⟩,HB.out,Bk.out⟩,by simp[intOf];omega⟩):p:=h
theorem aj3(h:p:=by
 rintro _ ⟨q1,rfl⟩;obtain⟨HB,Bk⟩:=fB;have Br:=upK Gr q1.b;have Bo:=upK Go q1.b;clear hne0 k0 k1 k2 k3 k4 k5;have avE:=@G _ @Td;exact yR):p:=h
theorem aj2(h:p:=by
 rintro _ ⟨q1,rfl⟩;obtain⟨HB,Bk⟩:=fB;have Bn:=upK Gn q1.b;clear hne0 k0 k1 k2 k3 k4 k5 n0 yd Z3 hc0 hc1 Zy hc7 hq;exact QL):p:=h
theorem aj1(h:p:=by
 rintro _ ⟨q3,rfl⟩;have HB:=upB HW q3.b;have Bk:=upK Gk q3.b;have Bx:=upK Gx q3.b;have Br:=upK Gr q3.b;clear hne0;go_wp2;exact⟨⟨k+1,by omega,rfl,by go_num,HL.trans (q3.b.mono HL.size)⟩,by simp[intOf];omega⟩):p:=h
theorem agy(h:p:=by
 have atH:=@G _ @Vw;exact qd):p:=h
theorem agx(h:p:=by
 have atH:=@G _ @Vv;exact qd):p:=h
theorem agw(h:p:=by
 have avF:=@G _ @ab0;exact zR):p:=h
theorem agv(h:p:=by
 have avF:=@G _ @abZ;exact zR):p:=h
theorem agu(h:p:=by
 have avG:=@G _ @V4;exact zn):p:=h
theorem agt(h:p:=by
 have avG:=@G _ @V3;exact zn):p:=h
theorem ags(h:p:=by
 have aoD:=@G _ @abv;exact fx):p:=h
theorem agr(h:p:=by
 have aoD:=@G _ @abu;exact fx):p:=h
theorem agq(h:p:=by
 have aoD:=@G _ @abt;exact fx):p:=h
theorem agp(h:p:=by
 have atI:=@G _ @N6;exact uK):p:=h
theorem ago(h:p:=by
 have atI:=@G _ @N5;exact uK):p:=h
theorem agn(h:p:=by
 have atJ:=@G _ @QL;exact sV):p:=h
theorem af7(h:p:=by
 obtain⟨ZR,ZS,ZT,ZU,ZV,ZY,Z1,Z2⟩:=dD;go_wp2;exact bodyPost_ret (v:=Zj #[U J 0 0,U J 0 0,U J 0 0,U J 0 0,U J 0 0,V O 0,I ⟨#[]⟩,V O 6]) nI rfl ⟨ad0,co0 6,rfl,HV.out,jr _ _,sb2 (sb2 (sb2 (sb2 (sb2 (sb2 (sb2 (sb2 (HB.out))))))))⟩):p:=h
theorem af6(h:p:=by
 obtain⟨ZR,ZS,ZT,ZU,ZV,ZY,Z1,Z2⟩:=lL Br.out;go_wp2;exact bodyPost_ret (v:=Zj #[U J 0 0,U J 0 0,U J 0 0,U J 0 0,U J 0 0,V O 0,I ⟨#[]⟩,V O 6]) nH rfl ⟨ad0,co0 6,rfl,HV.out,jr _ _,eJ (show w.heap.size<=w.heap.size+1+1 by omega) (HB.out)⟩):p:=h
theorem af5(h:p:=by
 obtain⟨ZR,ZS,ZT,ZU,ZV,ZY,Z1,Z2⟩:=dD;go_wp2;exact bodyPost_ret (v:=Zj #[U J 0 0,U J 0 0,U J 0 0,U J 0 0,U J 0 0,V O 0,I ⟨#[]⟩,V O p]) AJ rfl ⟨ad0,co0 p,rfl,HV.out,(rl0 _ _),sb1 (sb1 (sb1 (sb1 (sb1 (sb1 (sb1 (sb1 (HB.out))))))))⟩):p:=h
theorem af4(h:p:=by
 obtain⟨ZR,ZS,ZT,ZU,ZV,ZY,Z1,Z2⟩:=dD;go_wp2;exact bodyPost_ret (v:=Zj #[U J 0 0,U J 0 0,U J 0 0,U J 0 0,U J 0 0,V O 0,I ⟨#[]⟩,V O 6]) AJ rfl ⟨ad0,co0 6,rfl,HV.out,(rl0 _ _),sb1 (sb1 (sb1 (sb1 (sb1 (sb1 (sb1 (sb1 (HB.out))))))))⟩):p:=h
theorem af3(h:p:=by
 obtain⟨ZR,ZS,ZT,ZU,ZV,ZY,Z1,Z2⟩:=dD;go_wp2;exact bodyPost_ret (v:=Zj #[U J 0 0,U J 0 0,U J 0 0,U J 0 0,U J 0 0,V O 0,I ⟨#[]⟩,V O p]) AI rfl ⟨ad0,co0 p,rfl,HV.out,(rl0 _ _),sb1 (sb1 (sb1 (sb1 (sb1 (sb1 (sb1 (sb1 (HB.out))))))))⟩):p:=h
theorem af2(h:p:=by
 obtain⟨ZR,ZS,ZT,ZU,ZV,ZY,Z1,Z2⟩:=dD;go_wp2;exact bodyPost_ret (v:=Zj #[U J 0 0,U J 0 0,U J 0 0,U J 0 0,U J 0 0,V O 0,I ⟨#[]⟩,V O 6]) AI rfl ⟨ad0,co0 6,rfl,HV.out,(rl0 _ _),sb1 (sb1 (sb1 (sb1 (sb1 (sb1 (sb1 (sb1 (HB.out))))))))⟩):p:=h
theorem af1(h:p:=by
 obtain⟨ZR,ZS,ZT,ZU,ZV,ZY,Z1,Z2⟩:=lL Br.out;go_wp2;exact bodyPost_ret (v:=Zj #[U J 0 0,U J 0 0,U J 0 0,U J 0 0,U J 0 0,V O 0,I ⟨#[]⟩,V O 1]) nH rfl ⟨ad0,co0 1,rfl,HV.out,jr _ _,eJ (show w.heap.size<=w.heap.size+1+1 by omega) (HB.out)⟩):p:=h
theorem af0(h:p:=by
 obtain⟨ZR,ZS,ZT,ZU,ZV,ZY,Z1,Z2⟩:=dD;go_wp2;exact bodyPost_ret (v:=Zj #[U J 0 0,U J 0 0,U J 0 0,U J 0 0,U J 0 0,V O 0,I ⟨#[]⟩,V O 1]) nI rfl ⟨ad0,co0 1,rfl,HV.out,jr _ _,sb2 (sb2 (sb2 (sb2 (sb2 (sb2 (sb2 (sb2 (HB.out))))))))⟩):p:=h
theorem afZ(h:p:=by
 obtain⟨ZR,ZS,ZT,ZU,ZV,ZY,Z1,Z2⟩:=dD;go_wp2;exact bodyPost_ret (v:=Zj #[U J 0 0,U J 0 0,U J 0 0,U J 0 0,U J 0 0,V O 0,I ⟨#[]⟩,V O 11]) AJ rfl ⟨ad0,co0 11,rfl,HV.out,(rl0 _ _),sb1 (sb1 (sb1 (sb1 (sb1 (sb1 (sb1 (sb1 (HB.out))))))))⟩):p:=h
theorem afY(h:p:=by
 obtain⟨ZR,ZS,ZT,ZU,ZV,ZY,Z1,Z2⟩:=dD;go_wp2;exact bodyPost_ret (v:=Zj #[U J 0 0,U J 0 0,U J 0 0,U J 0 0,U J 0 0,V O 0,I ⟨#[]⟩,V O 11]) AI rfl ⟨ad0,co0 11,rfl,HV.out,(rl0 _ _),sb1 (sb1 (sb1 (sb1 (sb1 (sb1 (sb1 (sb1 (HB.out))))))))⟩):p:=h
theorem aeD(h:p:=by
 have HR5:=G hR;clear o0 o1 o2 o3 o4 o5;obtain⟨o0,o1,o2,o3,o4,o5⟩:=cs6 Bo5;obtain⟨r0,r1,r2,r3,r4,r5,r6,r7⟩:=cs8 Br5;have fo3:=ak Bo5.out 3;have avt:=@G _ @V1;exact zm):p:=h
theorem aeC(h:p:=by
 have HR5:=G hR;clear aa ZF ZI aos aqw hR ht2 alR;go_wp2;go_ret;exact⟨_,_,_,rfl,HR5.out,H5.out⟩):p:=h
theorem Aw(h:p:=by
 have avu:=@G _ @V8;exact zp):p:=h
theorem acV(h:p:=by
 obtain⟨b,o,y,-,-,hy,Zc⟩:=pg h (j:=i) OF;rw[hi] at hy;cases hy;exact (fV Zc).1):p:=h
theorem zY(h:p:=by
 have hm:=Yv hz;obtain⟨x,hx,rfl⟩:=List.mem_map.1 hm;obtain⟨i,hi⟩:=YG ((List.mem_filter.1 hx).1);have hl:xs.length=len:=by simpa using h.1
 exact avH):p:=h
theorem acB(h:p:=by
 unfold alm at h3;rw[YI] at h3;obtain⟨j,p,hp,hd,k,hk⟩:=eh.1 h3.2;have hz:=(hT.2.1.2.2.2.2.2.1 j p hp).2.2.2.1.2;have ZE:=aN.ne (hz k v.m hk).1;obtain⟨i',j',x',v',k1,k2,k3,k4,k5,k6,_⟩:=(hT.2.2.1.1 jv v hj).2.resolve_left ZE;refine⟨⟨v.n,p.d⟩,List.mem_filter.2 ⟨(hm _).2 ⟨j,p,(Yc.1 hp).1,hp,by rw[hd];exact ht,k,v.m,v,hk,⟨i',jv,x',k1,k2,hj,k5.symm⟩,rfl⟩,?_⟩,rfl⟩;exact (xK (q:=⟨v.n,p.d⟩) hv hj rfl hd).2 (eR.1 h3.1)):p:=h
theorem acA(h:p:=by
 have avI:=@G _ @Ti;exact yS):p:=h
theorem acz(h:p:=by
 have avI:=@G _ @Th;exact yS):p:=h
theorem zT(h:p:=by
 have HIS:=G (Yb awt (Yb ZO (Yb η ZP)));obtain⟨i5,anX,axj,axk,axl⟩:=info_parts rf;have Y_:=G (Yb anX (Yb axj (Yb axk axl)));clear awt ZO η ZP anX axj axk axl h4Q;obtain⟨atg,HXQ⟩:=akC;have HBX:Hid (∀(W:World),Below q2.w.heap.size q2.w W->∀(j:Nat) u,(zs.map Yn)[j]?=M u->∃ad:Addr,va=M ad/\W.cell? (ad.add j)=M u):=λW hW j u hu=>by
  exact ak8
 obtain⟨x0,x1,x2,x3,x4,x5⟩:=cs6 Bx;have axm:=ae Bx.out;go_wp2_with (first|(at_builtin;refine aq rfl _ _ 35 rfl q2.w.heap.size 9 i0 (I ⟨#[]⟩) 1 16 Tryz.underlying35 HIS.1 HIS.2.1 HIS.2.2.1 HIS.2.2.2 rfl ag _ _ _ rfl (atg.out) _ vl _ (zs.map Yn) rfl oT (λj u hu=>HBX.out _ (aj _ _) j u hu) (by intro u hu;obtain⟨z,_,rfl⟩:=List.mem_map.1 hu;rfl) br af aF ?_));intro v9 w9 aqY axn;replace aqY:w9.ownsRow q2.w.heap.size 9 1 v9 vl (zs.map Yn):=by simpa using aqY
 have hb9:=(aj q2.w (Ze #[] 9)).grown axn aF (λg hg=>by simp[YK] at hg;omega);obtain⟨sa,sc,rfl,hT9⟩:=bG.fh aqY (λj y hy=>HX.2.2.2.1 j y hy);have HT9:=G hT9;have H9:=G hb9;clear aqY axn hT9;clear x0 x1 x2 x3 x4 x5 axm;have Bx9:=upK Bx hb9;have Bo9:=upK Bo hb9;have Br9:=upK Br hb9;clear hb9;obtain⟨fx9,axi,HU0,hku,hsu,BxU,BoU,BrU,hTU,hkf,HFU⟩:=anv;obtain⟨vss,H,hV,hcell⟩:=HFU.p.jK;have hvl:vss.length=l5:=by have h6:vss.length=(c.ps.map pdF).length:=hV.len;rw[Yq] at h6;omega
 have HCQ:Hid (∀(j:Nat) u,vss.flatten[j]?=M u->∃b9,g5=M ⟨b9,0,J⟩/\b9<(w9.setCell ⟨w.heap.size+1,3,J⟩ (U sa vl sc)).heap.size/\(w9.setCell ⟨w.heap.size+1,3,J⟩ (U sa vl sc)).cell? ⟨b9,j,J⟩=M u):=λj u hj=>by
  obtain⟨b9,e,_,h3⟩:=hcell j u hj;exact⟨b9,e,a_ h3,h3⟩
 exact avD):p:=h
theorem acx(h:p:=by
 have Ξ:(¬p=0/\dv c t (co0 p))\/(p=0/\¬8000<t.size/\au c):=by
  exact vg
 clear hp;rcases Ξ with ⟨Ξ,hV⟩|⟨rfl,hl,hT⟩
 ·have aqF:=@G _ @KO;exact nr
 have HT:=G hT;clear hT;obtain⟨k0,k1,k2,k3,k4,k5⟩:=cs6 Bk;go_wp2_with fail;have aqG:=@G _ @F8;exact mW):p:=h
theorem acw(h:p:=by
 have Ξ:(¬p=0/\cN c t (co0 p))\/(p=0/\¬8000<t.size/\au c):=by
  exact vg
 clear hp;rcases Ξ with ⟨Ξ,hV⟩|⟨rfl,hl,hT⟩
 ·have aqF:=@G _ @KN;exact nr
 have HT:=G hT;clear hT;obtain⟨k0,k1,k2,k3,k4,k5⟩:=cs6 Bk;go_wp2_with fail;refine (jy ⟨a1,l1,y1,a2,l2,y2,a3,l3,y3,a4,l4,y4,a5,l5,y5⟩ c.now c.vs t _ (HR.v.below HB.out)).mono ?_;rintro e w2 ⟨hb,hf⟩;have anS:=@G _ @Vk;exact dm):p:=h
theorem acv(h:p:=by
 have Ξ:(¬p=0/\bH c t (co0 p))\/(p=0/\¬8000<t.size/\au c):=by
  rcases hp with ⟨h1,rfl⟩|⟨h1,h2,rfl⟩|⟨h1,h2,rfl⟩
  ·exact Zl ⟨by decide,Zl ⟨0,by decide,h1,rfl⟩⟩
  ·exact Zl ⟨by decide,Zl ⟨1,by decide,⟨h1,h2⟩,rfl⟩⟩
  ·exact Zk ⟨rfl,h1,h2⟩
 clear hp;rcases Ξ with ⟨Ξ,hV⟩|⟨rfl,hl,hT⟩
 ·have HV:=G hV;clear hV;have hp1:(p==0)=Zg:=iZ
  have Χ:=@G _ @Lo;exact c_
 have HT:=G hT;clear hT;have Χ:=@G _ @Lp;exact c_):p:=h
theorem acu(h:p:=by
 have Ξ:(¬p=0/\ez c t (co0 p))\/(p=0/\¬8000<t.size/\au c):=by
  exact vg
 clear hp;rcases Ξ with ⟨Ξ,hV⟩|⟨rfl,hl,hT⟩
 ·have aqF:=@G _ @KM;exact nr
 have HT:=G hT;clear hT;obtain⟨k0,k1,k2,k3,k4,k5⟩:=cs6 Bk;go_wp2_with fail;have aqu:=@G _ @FW;exact mV):p:=h
theorem acn(h:p:=by
 obtain⟨x1,m1,n1,x2,m2,n2,x3,m3,n3,x4,m4,n4,x5,m5,n5⟩:=d';have hm5:m5=l5:=by have h6:(c.ps.map pdF).length=m5:=ho.p.1;rw[Yq] at h6;omega
 subst hm5;obtain⟨g,hga,hS⟩:=(ho.p.bC (S':=λk=>q1.w.heap.size<=k/\k<w3.heap.size) (λk hk s=>⟨s,hk⟩)).st (aJ.refl _ w3) (i:=i) (r:=pdF x) (show (c.ps.map pdF)[i]?=M (pdF x) by rw[Yt,HXI.out];rfl);have aqt:x5=M ⟨g,0,J⟩:=hga;subst aqt;have hq1:=HQ1.out;have Τ:=ν.out;have hgS:=(by obtain⟨⟨cur,H,h1,_⟩,_⟩:=hS;exact⟨h1.inS,ae h1.blk⟩:(q1.w.heap.size<=g/\g<w3.heap.size)/\g<w3.heap.size);obtain⟨⟨hg1,hg2⟩,-⟩:=hgS;obtain⟨v4,hv4⟩:=hS.cell (i:=4) rfl;obtain⟨v5,hv5⟩:=hS.cell (i:=5) rfl;have hf4:=hS.oy (i*6+4);have hf5:=hS.oy (i*6+5);have HST:=G hS;have HO:=G ho;clear hS ho hga;have apC:=@G _ @Jv;exact jZ):p:=h
theorem acm(h:p:=by
 obtain⟨r0,r1,r2,r3,r4,r5,r6,r7⟩:=cs8 Br;have atK:=ae Br.out;obtain⟨ZR,ZS,ZT,ZU,ZV,ZY,Z1,Z2⟩:=dD;go_wp2;exact bodyPost_ret (v:=Zj #[U J 0 0,U J 0 0,U J 0 0,U J 0 0,U J 0 0,V O 0,I ⟨#[]⟩,V O 11]) uO rfl ⟨ad0,co0 11,rfl,HV.out,(rl0 _ _),sb1 (sb1 (sb1 (sb1 (sb1 (sb1 (sb1 (sb1 (HB.out))))))))⟩):p:=h
theorem ab4(h:p:=by
 have HR:=G hr;obtain⟨hl4,hm4⟩:=uY;clear hr;have HB:=G (Yh w.heap.size w);go_enter Tryz.func78,Tryz.ntmps78;go_wp2_with fail;refine (cI ⟨a1,l1,y1,a2,l2,y2,a3,l3,y3,a4,l4,y4,a5,l5,y5⟩ c _ (HR.below (HB.trans ((cO _ _ _ _).mono HB.size)))).mono ?_;rintro e w1 ⟨r,rfl,hi,hb⟩;have aqD:=@G _ @Eh;exact mM):p:=h
theorem ab3(h:p:=by
 have HR:=G hr;have HX:=G hx;have hvm:=Yo hx.2.1 hx.2.2.1;have Z4:=hx.1;have hlc:c.ps.length=l5:=OG
 have hlm:l5<=9223372036854775807:=Yo hr.p.2.1 hr.p.2.2.1;have HB:=G (Yh w.heap.size w);clear hr hx;go_enter Tryz.func80,Tryz.ntmps80;go_wp2_with fail;refine (cI ⟨a1,l1,y1,a2,l2,y2,a3,l3,y3,a4,l4,y4,a5,l5,y5⟩ c _ (HR.below (HB.trans ((cO _ _ _ _).mono HB.size)))).mono ?_;have atE:=@G _ @Kt;exact tR):p:=h
theorem ab2(h:p:=by
 obtain⟨HR,hl1,hm1,hl3⟩:=AY;clear hr;have HX:=G hx;have hk3:k<l3:=by have:=(Yc.1 hx).1;omega
 have azo:(k:Int)<l3:=af
 clear hx;obtain⟨b3,o3,x',rfl,Zy,hx',Zc⟩:=bY HR.v hk3;obtain rfl:x=x':=Yd (HX.symm.trans hx');have HAT:=G Zc;obtain⟨ea,el,ec,Zx,z0,z2,z3,z5,c0,c1,c2,c3,c4,c5,c6,c7⟩:=bm Zc;have HE:Hid (0<el↔¬x.zs=[]):=by
  have h1:=Zx.1;show _↔_;rw[<-h1,List.length_pos_iff]
 clear Zc Zx z0 z2 z3 z5 hx';go_enter Tryz.func138,Tryz.ntmps138;go_wp2;go_loopw [5,6] (λq i wr=> ∃(j:Nat) (r:Bool),j<=l1/\q=Zf r/\i=V O j/\Hid (r=Zi↔(¬x.zs=[]\/∃(i:Nat) (n:Nd),i<j/\c.ns[i]?=M n/\InL n.zs x.n))/\Hid (Below w.heap.size w wr)/\Hid (wr.heap[w.heap.size]?=M (Ze (Zd a1 l1 y1 a2 l2 y2 (M ⟨b3,o3,J⟩) l3 y3 a4 l4 y4 a5 l5 y5 c.now) 29 (0,0)))) (λ_ i _=>l1 - (intOf i).toNat);case atStart=>exact⟨0,decide (0<el),by omega,by simp,rfl,show _↔_ by rw[decide_eq_true_iff,HE.out];exact⟨Zl,λh=>h.elim id (λ⟨i,n,h,_⟩=>by omega)⟩,aj _ _,Yf⟩
 case round=>
  obtain⟨j,r,hj,rfl,rfl,HS,HB,Bk⟩:=hrel;clear c0 c1 c2 c3 c4 c5 c6 c7;obtain⟨k0,k1,k2,k3,k4,k5⟩:=cs6 Bk;by_cases Zo:j<l1
  ·obtain⟨b,o,n,rfl,hb,hxn,Zc⟩:=dF (HR.n.below HB.out) Zo;obtain⟨va,vl,vc,Zx,z0,z1,c0,c1,c2,c3,c4,c5,c6⟩:=bo Zc;have HN:=G hxn;have HT:=G Zx;have g0:=(ah HB.out Zy).trans (bm HAT.out).choose_spec.choose_spec.choose_spec.2.2.2.2.2.1;have hj3:(j:Int)<l1:=af
   have aws:=Yl Zy HB.size;clear Zc hxn z0 z1 Zx;cases r
   ·by_cases Z6:InL n.zs x.n
    ·have HIN:=G Z6;clear Z6;have Gk:=Bk;obtain⟨HW,k0,k1,k2,k3,k4,k5⟩:=uZ;obtain⟨mz,mn,hne0⟩:=OO;have Zv:=G (λq:Wd wr=>(bZ va vl vc n.zs x.n q.w (HT.below (q.b))).mono (λ_ _ h=>ar.yes h HIN.out));have Zw:=@G _ @agu;exact aB
    ·have HIN:=G Z6;clear Z6;have Gk:=Bk;obtain⟨HW,k0,k1,k2,k3,k4,k5⟩:=uZ;obtain⟨mz,mn,hne0⟩:=OO;have Zv:=G (λq:Wd wr=>(bZ va vl vc n.zs x.n q.w (HT.below (q.b))).mono (λ_ _ h=>ar.no h HIN.out));have Zw:=@G _ @agt;exact aB
   ·skip;have Gk:=Bk;have HW:=HB;obtain⟨k0,k1,k2,k3,k4,k5⟩:=sl6 Gk;obtain⟨mz,mn,hne0⟩:=OO;have z1z:=@G _ @aj4;exact bF
  ·obtain rfl:l1=j:=af
   go_wp2;go_ret;refine⟨r,rfl,?_,HB.out⟩;rw[HS.out];exact⟨λh=>h.elim Zl (λ⟨i,n,_,h1,h2⟩=>Zk ⟨i,n,h1,h2⟩),λh=>h.elim Zl (λ⟨i,n,h1,h2⟩=>Zk ⟨i,n,by have:=(Yc.1 h1).1;omega,h1,h2⟩)⟩):p:=h
theorem ab1(h:p:=by
 obtain⟨HR,hl3⟩:=wU;clear hr;have HT:=G hT;have HNE:=G ht;have HB:=G (Yh w.heap.size w);obtain⟨i0,hi,ZO,η,ZP⟩:=info_parts eQ;have Y_:=G (Yb hi (Yb ZO (Yb η ZP)));clear hi ZO η ZP hT ht;go_enter Tryz.func75,Tryz.ntmps75;go_wp2_with fail;refine (my ⟨a1,l1,y1,a2,l2,y2,a3,l3,y3,a4,l4,y4,a5,l5,y5⟩ c _ (HR.below (HB.trans ((aM _ _ _).mono HB.size))) HT.out).mono ?_;rintro e w1 ⟨wa,wl,wc,ws,rfl,ho,hrq,aoa,hle,hb⟩;obtain⟨ZD,Ν,Zr⟩:=dK hb;have Bk:=G ZD;have Bn:=G Ν;replace HB:=upB HB Zr;clear hb Zr ZD Ν;have HER:=G ho.row;have hwl:ws.length=wl:=by simpa using ho.row.1
 have HES:=G (Yb hrq aoa);have hn1:=ae Bn.out;clear ho hrq aoa;go_wp2;have BeV:=G (heap_alloc_new w1 (Ze #[] 9));have ZW:=HB;have Bk1:=Bk;have Bn1:=Bn;go_loopw [6,7] (λvo vi wr=> ∃k m9:Nat,k<=wl/\m9<=k/\vi=V O k/\Hid (wr.ownsRow (w1.heap.size) 9 1 vo m9 ((mwL c n.n (ws.take k)).map Yn))/\Hid (Below w1.heap.size w1 wr)) (λ_ vi _=>wl - (intOf vi).toNat);case atStart=>exact⟨0,0,by omega,by omega,rfl,⟨rfl,Zk ⟨w1.heap.size,0,#[],rfl,Ye _,BeV.out,Ye _,by unfold maxLen;omega,rfl,rfl⟩⟩,aj _ _⟩
 case round=>
  obtain⟨k,m9,hk,hm9,rfl,HO,HL⟩:=hrel;have hLs:=HL.size;have Bk:=upK Bk1 HL.out;have Bn:=upK Bn1 HL.out;have HB:=G (ZW.trans (HL.mono ZW.size));clear BeV;by_cases Zo:k<wl
  ·have Ο:(k:Int)<wl:=af
   have hk0:¬(k:Int)<0:=af
   obtain⟨b,o,y,rfl,Z3,hy,Zc⟩:=pg (HER.below HL.out) Zo;obtain⟨-,-,hc0,hc1⟩:=fV Zc;have HY0:=G hy;obtain⟨i,v,hv,hvn⟩:=aiT ((HES.2 y).1 (Yv hy));have HV:=G (Yb hv hvn);have hi3:i<l3:=by have:=(Yc.1 hv).1;omega
   have hii:(i:Int)<l3:=af
   have hi0:¬(i:Int)<0:=af
   obtain⟨b3,o3,v',rfl,Zy,hx3,axo⟩:=bY (HR.v.below HB.out) hi3;rw[hv] at hx3;obtain rfl:=Yd hx3;obtain⟨va,vl,vc,Zx,-,-,-,-,-,-,-,-,-,-,-,hc7⟩:=bm axo;have σ:=G Zx;clear Zc hy hv hvn axo hx3 Zx;by_cases he:y.d=n.n;rotate_left
   ·have hq:=bu he;have hon:mwB c n.n y=Zg:=alk he;have HON:=G hon;clear hon;have atL:=@G _ @Tk;exact pY
   have hq:=aP he;have HIF:=G (xK (q:=y) HT.2.1.2.2.1.2.2 HV.1 HV.2 he);clear he;by_cases Z6:InL v.zs n.n;rotate_left
   ·have HIN:=G Z6;clear Z6;have hon:mwB c n.n y=Zg:=by cases h:mwB c n.n y;rfl;exact absurd (HIF.1 h) HIN.out
    have HON:=G hon;clear hon;have atL:=@G _ @Tj;exact pY
   have HON:=G (HIF.2 Z6);have HIN:=G Z6;clear Z6;have atL:=@G _ @Tl;exact pY
  have Ο:¬(k:Int)<wl:=af
  have HO3:=HO;rw[YB af] at HO3;obtain⟨a',p',rfl,hT⟩:=bG.fh HO3.out (agW HER.out);rw[Ru HT.out HNE.out HES.1 HES.2] at hT;have HTO:=G hT;clear hT;go_wp2;go_ret;exact⟨_,_,_,rfl,HTO.bC (λk _ s=>by have s1:w1.heap.size<=k:=s;show w.heap.size<=k;omega),HB.out⟩):p:=h
theorem ab0(h:p:=by
 go_loopw [5,6] (λvk vi wr=> ∃k:Nat,k<=vl/\vk=V O 7/\vi=V O k/\Hid (Below q1.w.heap.size q1.w wr)) (λ_ vi _=>vl - (intOf vi).toNat);case atStart=>exact⟨0,by omega,rfl,rfl,Yh _ _⟩
 case round=>
  obtain⟨k,hk,rfl,rfl,HL⟩:=hrel;have hb:=HL.out;have amM:=@G _ @LY;exact da):p:=h
theorem abZ(h:p:=by
 go_loopw [5,6] (λvk vi wr=> ∃k:Nat,k<=vl/\vk=V O 9/\vi=V O k/\Hid (Below q1.w.heap.size q1.w wr)) (λ_ vi _=>vl - (intOf vi).toNat);case atStart=>exact⟨0,by omega,rfl,rfl,Yh _ _⟩
 case round=>
  obtain⟨k,hk,rfl,rfl,HL⟩:=hrel;have hb:=HL.out;have amM:=@G _ @LX;exact da):p:=h
theorem zR(h:p:=by
 have atM:=@G _ @Ia;exact sY):p:=h
theorem abT(h:p:=by
 cases r
 ·exact xf
 exact xf):p:=h
theorem abS(h:p:=by
 have asr:=@G _ @Tf;exact pX):p:=h
theorem abR(h:p:=by
 have asr:=@G _ @Te;exact pX):p:=h
theorem abv(h:p:=by
 obtain⟨HB,Bk⟩:=fB;have Br:=upK Gr q1.b;have Bo:=upK Go q1.b;clear hne0 k0 k1 k2 k3 k4 k5 mv mk cv3 ck2 axp axq;have avE:=@G _ @Tc;exact yR):p:=h
theorem abu(h:p:=by
 obtain⟨HB,Bk⟩:=fB;have Br:=upK Gr q1.b;clear hne0 k0 k1 k2 k3 k4 k5 xk kx c2 c4 d1 hbk Z3 hq;have HV:Hid (bH c t (co0 11)):=Zk ⟨hl,HT.out,i,x,j,k,HX.1,HX.2,HK.1,HK.2,Zk ⟨HXV.out,Zl ⟨HKX.out,rfl⟩⟩⟩;obtain⟨k0,k1,k2,k3,k4,k5⟩:=cs6 Bk;have aor:=ae Bk.out;go_wp2_with fail;refine (aI 11 _).mono ?_;rintro e w3 ⟨rfl,hb⟩;clear k0 k1 k2 k3 k4 k5 aor;have aot:=@G _ @U6;exact eN):p:=h
theorem abt(h:p:=by
 obtain⟨HB,Bk⟩:=fB;have Br:=upK Gr q1.b;clear hne0 k0 k1 k2 k3 k4 k5 xk kx c2 c4 d1 hbk Z3 hq;have HQ1:Hid (w.heap.size+1<q1.w.heap.size):=ae Br.out;have HBI:∀o,Hid (eM c i x k ⟨#[]⟩ o->bH c t o):=λo h=>Zk ⟨hl,HT.out,i,x,j,k,HX.1,HX.2,HK.1,HK.2,Zk ⟨HXV.out,Zk ⟨HKX.out,h⟩⟩⟩;obtain⟨k0,k1,k2,k3,k4,k5⟩:=cs6 Bk;have aor:=ae Bk.out;go_wp2_with fail;have HLO:=G HB.size;refine (cZ ⟨a1,l1,y1,(M ⟨bk,ok,J⟩),l2,y2,a3,l3,y3,(M ⟨b,o,J⟩),l4,y4,a5,l5,y5⟩ c _ (HR.below HB.out) HT.sm).mono ?_;rintro e w3 ⟨d',rfl,ho,hb⟩;have ν:=G hb.size;clear k0 k1 k2 k3 k4 k5 aor;have aot:=@G _ @U5;exact eN):p:=h
theorem WS(h:p:=by
 rcases g4 with _|⟨b2,f2,sp⟩
 ·have hl0:l4=0:=Classical.byContradiction λhne0=>by
   exact Q9
  omega
 have ZZ:¬n4=k:=af
 all_goals (
  go_wp2_with (first|(at_builtin;refine aq rfl _ _ 26 rfl q2.w.heap.size 47 i5 (Zj #[I ⟨#[]⟩,V O 0,I ⟨#[]⟩,Zf Zg,I ⟨#[]⟩]) 5 64 Tryz.underlying26 Y_.1 Y_.2.1 Y_.2.2.1 Y_.2.2.2 rfl ag _ _ _ rfl (ρ.out) _ k _ (vss.take k).flatten rfl (bA σ.all af) (λj u hu=>by obtain⟨g,e,ZM,h3⟩:=HCQ.out _ _ (cH hu);cases e <;> exact⟨_,rfl,by simp only[Ym,Yp];exact (ah (aj q2.w _) ZM).trans h3⟩) (aD σ.one k).1 br af aF ?_))
  intro v5 w5 aa ZF
  replace aa:w5.ownsRow q2.w.heap.size 47 5 v5 k (vss.take k).flatten:=eg
  have ZI:=(aj q2.w (Ze #[] 47)).grown ZF aF (λg hg=>by simp[YK] at hg;omega);obtain⟨s1,s2,s3,rfl⟩:=az aa;have Β:=G aa;have H5:=G ZI;have hs6:=ZI.size;have Bx5:=upK Bx ZI;obtain⟨x0,x1,x2,x3,x4⟩:=cs5 Bx5;clear aa ZF ZI o0 o1 o2 o3 o4 o5
  go_wp2_with (first|(at_builtin;refine aq rfl _ _ 26 rfl q2.w.heap.size 47 i5 (Zj #[I ⟨#[]⟩,V O 0,I ⟨#[]⟩,Zf Zg,I ⟨#[]⟩]) 5 64 Tryz.underlying26 Y_.1 Y_.2.1 Y_.2.2.1 Y_.2.2.2 rfl ag _ _ _ rfl (Β.alloc _) _ 1 _ [I x.n,V O x.z,I x.k,Zf x.x,I x.v] rfl rfl (λj u hu=>⟨_,rfl,by rw[Ym,Yp,al (heap_alloc_new w5 _)];simpa using hu⟩) dx br af bg ?_))
  intro v6 w6 Zt ZJ;have ZA:=(H5.alloc H5.size _).grown ZJ bg (λg hg=>(Β.lt g hg).1);obtain⟨r1,r2,r3,rfl⟩:=az Zt;have Η:=G Zt;have H6:=G ZA;have hs7:=ZA.size;have Bo6:=upK Bo ZA;obtain⟨o0,o1,o2,o3,o4,o5⟩:=cs6 Bo6;clear Zt ZJ ZA x0 x1 x2 x3 x4
  go_wp2_with (first|(at_builtin;refine aq rfl _ _ 26 rfl q2.w.heap.size 47 i5 (Zj #[I ⟨#[]⟩,V O 0,I ⟨#[]⟩,Zf Zg,I ⟨#[]⟩]) 5 64 Tryz.underlying26 Y_.1 Y_.2.1 Y_.2.2.1 Y_.2.2.2 rfl ag _ _ _ rfl (Η.out) _ (l4 - k) _ (vss.drop k).flatten rfl (by rw[ep σ.all,hvl]) (λj u hu=>by first|(rw[Yw af] at hu;simp at hu;done)|(obtain⟨g,e,ZM,h3⟩:=HCQ.out _ _ (cS σ.all af hu);cases e <;> exact⟨_,rfl,by simp only[Ym,Yp];exact (ah H6.out ZM).trans h3⟩)) (aD σ.one k).2 br af af ?_))
  intro v7 w7 Zb ZK;have Z0:=H6.grown ZK af (λg hg=>(Η.lt g hg).1)
  replace Zb:w7.ownsRow q2.w.heap.size 47 5 v7 (l4+1) (aQ k [I x.n,V O x.z,I x.k,Zf x.x,I x.v] vss).flatten:=by
   have e9:k+1+(l4 - k)=l4+1:=af
   try rw[e9] at Zb
   simpa[aQ] using Zb
  obtain⟨t1,t2,t3,rfl⟩:=az Zb;have H47:=upB H4 Z0;have HB7:=upB HB Z0
  obtain⟨H9,hV9⟩:=((σ.below H47.out).ay (w':=w7) (S':=λk=>(w3.heap.size<=k/\k<w4.heap.size)\/q2.w.heap.size<=k) (λ_ _ _ _=>rfl) (λ_ _ s=>Zl s)).ins (p:=k) (r:=xdF x) (vs:=[I x.n,V O x.z,I x.k,Zf x.x,I x.v]) (hh:=λ_=>0) rfl rfl (λi f hf=>by rcases i with _|_|_|_|_|i <;> simp[xdF] at hf <;> subst hf;exact⟨_,rfl,rfl,z0⟩;exact⟨_,rfl,rfl⟩;exact⟨_,rfl,rfl,z2⟩;exact⟨_,rfl,rfl⟩;exact⟨_,rfl,rfl,z4⟩) (λi zs h _=>by rcases i with _|_|_|_|_|i <;> simp[xdF] at h) (λi i2 zs zs2 h _ _ _=>by rcases i with _|_|_|_|_|i <;> simp[xdF] at h) (show k<=(c.xs.map xdF).length by rw[Yq];omega)
  have h45:aR w7 (λk=>(w3.heap.size<=k/\k<w4.heap.size)\/q2.w.heap.size<=k) 5 ((aQ k x c.xs).map xdF) (aQ k [I x.n,V O x.z,I x.k,Zf x.x,I x.v] vss) H9:=by rw[fj];exact hV9
  have hle:((aQ k x c.xs).map xdF).length=l4+1:=by rw[Yq,di af];omega
  obtain⟨u1,u2,hq,hR⟩:=h45.own Zb hle.symm ag (λg hg=>Zk (Zb.lt g hg).1);rw[hle] at hq hR;simp only[Value.slice.injEq] at hq;obtain⟨rfl,rfl,rfl⟩:=hq;rw[HPL.out] at hR;have HR7:=G hR;have Bo7:=upK Bo Z0;have Μ:=upK Br Z0;clear o0 o1 o2 o3 o4 o5;obtain⟨o0,o1,o2,o3,o4,o5⟩:=cs6 Bo7;obtain⟨r0,r1,r2,r3,r4,r5,r6,r7⟩:=cs8 Μ;have fo3:=ak Bo7.out 3;have ZR:=ak Μ.out 0;have ZS:=ak Μ.out 1;have ZT:=ak Μ.out 2;have ZU:=ak Μ.out 3;have ZV:=ak Μ.out 4;have ZY:=ak Μ.out 5;have Z1:=ak Μ.out 6;have Z2:=ak Μ.out 7;clear Zb ZK Z0 hR hV9 h45 hle hik Γ ZZ
  go_wp2
  refine bodyPost_ret (v:=Zj #[U g1 m1 n1,U g2 m2 n2,U g3 m3 n3,U t1 (l4+1) t3,U g5 m5 n5,V O c.now,I ⟨#[]⟩,V O 0]) nI rfl ⟨⟨g1,m1,n1,g2,m2,n2,g3,m3,n3,t1,l4+1,t3,g5,m5,n5⟩,⟨R6 c x,⟨#[]⟩,0⟩,rfl,HV.out,?_,sb2 (sb2 (sb2 (sb2 (sb2 (sb2 (sb2 (sb2 (ai (show w.heap.size<=w4.heap.size by omega) (HB7.out)))))))))⟩
  have Zp:∀k9,w3.heap.size<=k9->¬k9=w4.heap.size->(((((((((w7.setCell ⟨w4.heap.size,3,J⟩ (U t1 (l4+1) t3)).setCell ⟨w.heap.size+1+1,0,J⟩ (U g1 m1 n1)).setCell ⟨w.heap.size+1+1,1,J⟩ (U g2 m2 n2)).setCell ⟨w.heap.size+1+1,2,J⟩ (U g3 m3 n3)).setCell ⟨w.heap.size+1+1,3,J⟩ (U t1 (l4+1) t3)).setCell ⟨w.heap.size+1+1,4,J⟩ (U g5 m5 n5)).setCell ⟨w.heap.size+1+1,5,J⟩ (V O c.now)).setCell ⟨w.heap.size+1+1,6,J⟩ (I ⟨#[]⟩)).setCell ⟨w.heap.size+1+1,7,J⟩ (V O 0)).heap[k9]?=w7.heap[k9]?:=λk9 h1 h2=>by rw[Ya _ _ _ _ (show k9≠w.heap.size+1+1 by omega),Ya _ _ _ _ (show k9≠w.heap.size+1+1 by omega),Ya _ _ _ _ (show k9≠w.heap.size+1+1 by omega),Ya _ _ _ _ (show k9≠w.heap.size+1+1 by omega),Ya _ _ _ _ (show k9≠w.heap.size+1+1 by omega),Ya _ _ _ _ (show k9≠w.heap.size+1+1 by omega),Ya _ _ _ _ (show k9≠w.heap.size+1+1 by omega),Ya _ _ _ _ (show k9≠w.heap.size+1+1 by omega),Ya _ _ _ _ (show k9≠w4.heap.size by omega)]
  refine⟨(HFR.n.ay (w':=(((((((((w7.setCell ⟨w4.heap.size,3,J⟩ (U t1 (l4+1) t3)).setCell ⟨w.heap.size+1+1,0,J⟩ (U g1 m1 n1)).setCell ⟨w.heap.size+1+1,1,J⟩ (U g2 m2 n2)).setCell ⟨w.heap.size+1+1,2,J⟩ (U g3 m3 n3)).setCell ⟨w.heap.size+1+1,3,J⟩ (U t1 (l4+1) t3)).setCell ⟨w.heap.size+1+1,4,J⟩ (U g5 m5 n5)).setCell ⟨w.heap.size+1+1,5,J⟩ (V O c.now)).setCell ⟨w.heap.size+1+1,6,J⟩ (I ⟨#[]⟩)).setCell ⟨w.heap.size+1+1,7,J⟩ (V O 0))) (S':=λk=>w.heap.size<=k) (λk hk s=>(Zp k s af).trans (H47.block k hk)) (λ_ _ s=>loq)),(HFR.k.ay (w':=(((((((((w7.setCell ⟨w4.heap.size,3,J⟩ (U t1 (l4+1) t3)).setCell ⟨w.heap.size+1+1,0,J⟩ (U g1 m1 n1)).setCell ⟨w.heap.size+1+1,1,J⟩ (U g2 m2 n2)).setCell ⟨w.heap.size+1+1,2,J⟩ (U g3 m3 n3)).setCell ⟨w.heap.size+1+1,3,J⟩ (U t1 (l4+1) t3)).setCell ⟨w.heap.size+1+1,4,J⟩ (U g5 m5 n5)).setCell ⟨w.heap.size+1+1,5,J⟩ (V O c.now)).setCell ⟨w.heap.size+1+1,6,J⟩ (I ⟨#[]⟩)).setCell ⟨w.heap.size+1+1,7,J⟩ (V O 0))) (S':=λk=>w.heap.size<=k) (λk hk s=>(Zp k s af).trans (H47.block k hk)) (λ_ _ s=>loq)),(HFR.v.ay (w':=(((((((((w7.setCell ⟨w4.heap.size,3,J⟩ (U t1 (l4+1) t3)).setCell ⟨w.heap.size+1+1,0,J⟩ (U g1 m1 n1)).setCell ⟨w.heap.size+1+1,1,J⟩ (U g2 m2 n2)).setCell ⟨w.heap.size+1+1,2,J⟩ (U g3 m3 n3)).setCell ⟨w.heap.size+1+1,3,J⟩ (U t1 (l4+1) t3)).setCell ⟨w.heap.size+1+1,4,J⟩ (U g5 m5 n5)).setCell ⟨w.heap.size+1+1,5,J⟩ (V O c.now)).setCell ⟨w.heap.size+1+1,6,J⟩ (I ⟨#[]⟩)).setCell ⟨w.heap.size+1+1,7,J⟩ (V O 0))) (S':=λk=>w.heap.size<=k) (λk hk s=>(Zp k s af).trans (H47.block k hk)) (λ_ _ s=>loq)),(HR7.ay (w':=(((((((((w7.setCell ⟨w4.heap.size,3,J⟩ (U t1 (l4+1) t3)).setCell ⟨w.heap.size+1+1,0,J⟩ (U g1 m1 n1)).setCell ⟨w.heap.size+1+1,1,J⟩ (U g2 m2 n2)).setCell ⟨w.heap.size+1+1,2,J⟩ (U g3 m3 n3)).setCell ⟨w.heap.size+1+1,3,J⟩ (U t1 (l4+1) t3)).setCell ⟨w.heap.size+1+1,4,J⟩ (U g5 m5 n5)).setCell ⟨w.heap.size+1+1,5,J⟩ (V O c.now)).setCell ⟨w.heap.size+1+1,6,J⟩ (I ⟨#[]⟩)).setCell ⟨w.heap.size+1+1,7,J⟩ (V O 0))) (S':=λk=>w.heap.size<=k) (λk hk s=>Zp k gQ gQ) (λ_ _ s=>loq)),(HFR.p.ay (w':=(((((((((w7.setCell ⟨w4.heap.size,3,J⟩ (U t1 (l4+1) t3)).setCell ⟨w.heap.size+1+1,0,J⟩ (U g1 m1 n1)).setCell ⟨w.heap.size+1+1,1,J⟩ (U g2 m2 n2)).setCell ⟨w.heap.size+1+1,2,J⟩ (U g3 m3 n3)).setCell ⟨w.heap.size+1+1,3,J⟩ (U t1 (l4+1) t3)).setCell ⟨w.heap.size+1+1,4,J⟩ (U g5 m5 n5)).setCell ⟨w.heap.size+1+1,5,J⟩ (V O c.now)).setCell ⟨w.heap.size+1+1,6,J⟩ (I ⟨#[]⟩)).setCell ⟨w.heap.size+1+1,7,J⟩ (V O 0))) (S':=λk=>w.heap.size<=k) (λk hk s=>(Zp k s af).trans (H47.block k hk)) (λ_ _ s=>loq))⟩)):p:=h
theorem WR(h:p:=by
 rcases g4 with _|⟨b2,f2,sp⟩
 ·have hl0:l4=0:=Classical.byContradiction λhne0=>by
   exact Q9
  obtain rfl:k=0:=af
  subst hl0;by_cases ZZ:n4=0;all_goals (
   go_wp2_with (first|(at_builtin;refine aq rfl _ _ 26 rfl q2.w.heap.size 47 i5 (Zj #[I ⟨#[]⟩,V O 0,I ⟨#[]⟩,Zf Zg,I ⟨#[]⟩]) 5 64 Tryz.underlying26 Y_.1 Y_.2.1 Y_.2.2.1 Y_.2.2.2 rfl ag _ _ _ rfl (ρ.out) _ 0 _ (vss.take 0).flatten rfl (bA σ.all af) (λj u hu=>by obtain⟨g,e,ZM,h3⟩:=HCQ.out _ _ (cH hu);cases e <;> exact⟨_,rfl,by simp only[Ym,Yp];exact (ah (aj q2.w _) ZM).trans h3⟩) (aD σ.one 0).1 br af aF ?_))
   intro v5 w5 aa ZF
   replace aa:w5.ownsRow q2.w.heap.size 47 5 v5 0 (vss.take 0).flatten:=eg
   have ZI:=(aj q2.w (Ze #[] 47)).grown ZF aF (λg hg=>by simp[YK] at hg;omega);obtain⟨s1,s2,s3,rfl⟩:=az aa;have Β:=G aa;have H5:=G ZI;have hs6:=ZI.size;have Bx5:=upK Bx ZI;obtain⟨x0,x1,x2,x3,x4⟩:=cs5 Bx5;clear aa ZF ZI o0 o1 o2 o3 o4 o5
   go_wp2_with (first|(at_builtin;refine aq rfl _ _ 26 rfl q2.w.heap.size 47 i5 (Zj #[I ⟨#[]⟩,V O 0,I ⟨#[]⟩,Zf Zg,I ⟨#[]⟩]) 5 64 Tryz.underlying26 Y_.1 Y_.2.1 Y_.2.2.1 Y_.2.2.2 rfl ag _ _ _ rfl (Β.alloc _) _ 1 _ [I x.n,V O x.z,I x.k,Zf x.x,I x.v] rfl rfl (λj u hu=>⟨_,rfl,by rw[Ym,Yp,al (heap_alloc_new w5 _)];simpa using hu⟩) dx br af bg ?_))
   intro v6 w6 Zt ZJ;have ZA:=(H5.alloc H5.size _).grown ZJ bg (λg hg=>(Β.lt g hg).1);obtain⟨r1,r2,r3,rfl⟩:=az Zt;have Η:=G Zt;have H6:=G ZA;have hs7:=ZA.size;have Bo6:=upK Bo ZA;obtain⟨o0,o1,o2,o3,o4,o5⟩:=cs6 Bo6;clear Zt ZJ ZA x0 x1 x2 x3 x4
   go_wp2_with (first|(at_builtin;refine aq rfl _ _ 26 rfl q2.w.heap.size 47 i5 (Zj #[I ⟨#[]⟩,V O 0,I ⟨#[]⟩,Zf Zg,I ⟨#[]⟩]) 5 64 Tryz.underlying26 Y_.1 Y_.2.1 Y_.2.2.1 Y_.2.2.2 rfl ag _ _ _ rfl (Η.out) _ (0 - 0) _ (vss.drop 0).flatten rfl (by rw[ep σ.all,hvl]) (λj u hu=>by first|(rw[Yw af] at hu;simp at hu;done)|(obtain⟨g,e,ZM,h3⟩:=HCQ.out _ _ (cS σ.all af hu);cases e <;> exact⟨_,rfl,by simp only[Ym,Yp];exact (ah H6.out ZM).trans h3⟩)) (aD σ.one 0).2 br af af ?_))
   intro v7 w7 Zb ZK;have Z0:=H6.grown ZK af (λg hg=>(Η.lt g hg).1)
   replace Zb:w7.ownsRow q2.w.heap.size 47 5 v7 (1) (aQ 0 [I x.n,V O x.z,I x.k,Zf x.x,I x.v] vss).flatten:=by
    have e9:0+1+(0 - 0)=1:=af
    try rw[e9] at Zb
    simpa[aQ] using Zb
   obtain⟨t1,t2,t3,rfl⟩:=az Zb;have H47:=upB H4 Z0;have HB7:=upB HB Z0
   obtain⟨H9,hV9⟩:=((σ.below H47.out).ay (w':=w7) (S':=λk=>(w3.heap.size<=k/\k<w4.heap.size)\/q2.w.heap.size<=k) (λ_ _ _ _=>rfl) (λ_ _ s=>Zl s)).ins (p:=0) (r:=xdF x) (vs:=[I x.n,V O x.z,I x.k,Zf x.x,I x.v]) (hh:=λ_=>0) rfl rfl (λi f hf=>by rcases i with _|_|_|_|_|i <;> simp[xdF] at hf <;> subst hf;exact⟨_,rfl,rfl,z0⟩;exact⟨_,rfl,rfl⟩;exact⟨_,rfl,rfl,z2⟩;exact⟨_,rfl,rfl⟩;exact⟨_,rfl,rfl,z4⟩) (λi zs h _=>by rcases i with _|_|_|_|_|i <;> simp[xdF] at h) (λi i2 zs zs2 h _ _ _=>by rcases i with _|_|_|_|_|i <;> simp[xdF] at h) (show 0<=(c.xs.map xdF).length by rw[Yq];omega)
   have h45:aR w7 (λk=>(w3.heap.size<=k/\k<w4.heap.size)\/q2.w.heap.size<=k) 5 ((aQ 0 x c.xs).map xdF) (aQ 0 [I x.n,V O x.z,I x.k,Zf x.x,I x.v] vss) H9:=by rw[fj];exact hV9
   have hle:((aQ 0 x c.xs).map xdF).length=1:=by rw[Yq,di af];omega
   obtain⟨u1,u2,hq,hR⟩:=h45.own Zb hle.symm ag (λg hg=>Zk (Zb.lt g hg).1);rw[hle] at hq hR;simp only[Value.slice.injEq] at hq;obtain⟨rfl,rfl,rfl⟩:=hq;rw[HPL.out] at hR;have HR7:=G hR;have Bo7:=upK Bo Z0;have Μ:=upK Br Z0;clear o0 o1 o2 o3 o4 o5;obtain⟨o0,o1,o2,o3,o4,o5⟩:=cs6 Bo7;obtain⟨r0,r1,r2,r3,r4,r5,r6,r7⟩:=cs8 Μ;have fo3:=ak Bo7.out 3;have ZR:=ak Μ.out 0;have ZS:=ak Μ.out 1;have ZT:=ak Μ.out 2;have ZU:=ak Μ.out 3;have ZV:=ak Μ.out 4;have ZY:=ak Μ.out 5;have Z1:=ak Μ.out 6;have Z2:=ak Μ.out 7;clear Zb ZK Z0 hR hV9 h45 hle hik Γ ZZ
   go_wp2
   refine bodyPost_ret (v:=Zj #[U g1 m1 n1,U g2 m2 n2,U g3 m3 n3,U t1 (1) t3,U g5 m5 n5,V O c.now,I ⟨#[]⟩,V O 0]) nI rfl ⟨⟨g1,m1,n1,g2,m2,n2,g3,m3,n3,t1,1,t3,g5,m5,n5⟩,⟨R6 c x,⟨#[]⟩,0⟩,rfl,HV.out,?_,sb2 (sb2 (sb2 (sb2 (sb2 (sb2 (sb2 (sb2 (ai (show w.heap.size<=w4.heap.size by omega) (HB7.out)))))))))⟩
   have Zp:∀k9,w3.heap.size<=k9->¬k9=w4.heap.size->(((((((((w7.setCell ⟨w4.heap.size,3,J⟩ (U t1 (1) t3)).setCell ⟨w.heap.size+1+1,0,J⟩ (U g1 m1 n1)).setCell ⟨w.heap.size+1+1,1,J⟩ (U g2 m2 n2)).setCell ⟨w.heap.size+1+1,2,J⟩ (U g3 m3 n3)).setCell ⟨w.heap.size+1+1,3,J⟩ (U t1 (1) t3)).setCell ⟨w.heap.size+1+1,4,J⟩ (U g5 m5 n5)).setCell ⟨w.heap.size+1+1,5,J⟩ (V O c.now)).setCell ⟨w.heap.size+1+1,6,J⟩ (I ⟨#[]⟩)).setCell ⟨w.heap.size+1+1,7,J⟩ (V O 0)).heap[k9]?=w7.heap[k9]?:=λk9 h1 h2=>by rw[Ya _ _ _ _ (show k9≠w.heap.size+1+1 by omega),Ya _ _ _ _ (show k9≠w.heap.size+1+1 by omega),Ya _ _ _ _ (show k9≠w.heap.size+1+1 by omega),Ya _ _ _ _ (show k9≠w.heap.size+1+1 by omega),Ya _ _ _ _ (show k9≠w.heap.size+1+1 by omega),Ya _ _ _ _ (show k9≠w.heap.size+1+1 by omega),Ya _ _ _ _ (show k9≠w.heap.size+1+1 by omega),Ya _ _ _ _ (show k9≠w.heap.size+1+1 by omega),Ya _ _ _ _ (show k9≠w4.heap.size by omega)]
   refine⟨(HFR.n.ay (w':=(((((((((w7.setCell ⟨w4.heap.size,3,J⟩ (U t1 (1) t3)).setCell ⟨w.heap.size+1+1,0,J⟩ (U g1 m1 n1)).setCell ⟨w.heap.size+1+1,1,J⟩ (U g2 m2 n2)).setCell ⟨w.heap.size+1+1,2,J⟩ (U g3 m3 n3)).setCell ⟨w.heap.size+1+1,3,J⟩ (U t1 (1) t3)).setCell ⟨w.heap.size+1+1,4,J⟩ (U g5 m5 n5)).setCell ⟨w.heap.size+1+1,5,J⟩ (V O c.now)).setCell ⟨w.heap.size+1+1,6,J⟩ (I ⟨#[]⟩)).setCell ⟨w.heap.size+1+1,7,J⟩ (V O 0))) (S':=λk=>w.heap.size<=k) (λk hk s=>(Zp k s af).trans (H47.block k hk)) (λ_ _ s=>loq)),(HFR.k.ay (w':=(((((((((w7.setCell ⟨w4.heap.size,3,J⟩ (U t1 (1) t3)).setCell ⟨w.heap.size+1+1,0,J⟩ (U g1 m1 n1)).setCell ⟨w.heap.size+1+1,1,J⟩ (U g2 m2 n2)).setCell ⟨w.heap.size+1+1,2,J⟩ (U g3 m3 n3)).setCell ⟨w.heap.size+1+1,3,J⟩ (U t1 (1) t3)).setCell ⟨w.heap.size+1+1,4,J⟩ (U g5 m5 n5)).setCell ⟨w.heap.size+1+1,5,J⟩ (V O c.now)).setCell ⟨w.heap.size+1+1,6,J⟩ (I ⟨#[]⟩)).setCell ⟨w.heap.size+1+1,7,J⟩ (V O 0))) (S':=λk=>w.heap.size<=k) (λk hk s=>(Zp k s af).trans (H47.block k hk)) (λ_ _ s=>loq)),(HFR.v.ay (w':=(((((((((w7.setCell ⟨w4.heap.size,3,J⟩ (U t1 (1) t3)).setCell ⟨w.heap.size+1+1,0,J⟩ (U g1 m1 n1)).setCell ⟨w.heap.size+1+1,1,J⟩ (U g2 m2 n2)).setCell ⟨w.heap.size+1+1,2,J⟩ (U g3 m3 n3)).setCell ⟨w.heap.size+1+1,3,J⟩ (U t1 (1) t3)).setCell ⟨w.heap.size+1+1,4,J⟩ (U g5 m5 n5)).setCell ⟨w.heap.size+1+1,5,J⟩ (V O c.now)).setCell ⟨w.heap.size+1+1,6,J⟩ (I ⟨#[]⟩)).setCell ⟨w.heap.size+1+1,7,J⟩ (V O 0))) (S':=λk=>w.heap.size<=k) (λk hk s=>(Zp k s af).trans (H47.block k hk)) (λ_ _ s=>loq)),(HR7.ay (w':=(((((((((w7.setCell ⟨w4.heap.size,3,J⟩ (U t1 (1) t3)).setCell ⟨w.heap.size+1+1,0,J⟩ (U g1 m1 n1)).setCell ⟨w.heap.size+1+1,1,J⟩ (U g2 m2 n2)).setCell ⟨w.heap.size+1+1,2,J⟩ (U g3 m3 n3)).setCell ⟨w.heap.size+1+1,3,J⟩ (U t1 (1) t3)).setCell ⟨w.heap.size+1+1,4,J⟩ (U g5 m5 n5)).setCell ⟨w.heap.size+1+1,5,J⟩ (V O c.now)).setCell ⟨w.heap.size+1+1,6,J⟩ (I ⟨#[]⟩)).setCell ⟨w.heap.size+1+1,7,J⟩ (V O 0))) (S':=λk=>w.heap.size<=k) (λk hk s=>Zp k gQ gQ) (λ_ _ s=>loq)),(HFR.p.ay (w':=(((((((((w7.setCell ⟨w4.heap.size,3,J⟩ (U t1 (1) t3)).setCell ⟨w.heap.size+1+1,0,J⟩ (U g1 m1 n1)).setCell ⟨w.heap.size+1+1,1,J⟩ (U g2 m2 n2)).setCell ⟨w.heap.size+1+1,2,J⟩ (U g3 m3 n3)).setCell ⟨w.heap.size+1+1,3,J⟩ (U t1 (1) t3)).setCell ⟨w.heap.size+1+1,4,J⟩ (U g5 m5 n5)).setCell ⟨w.heap.size+1+1,5,J⟩ (V O c.now)).setCell ⟨w.heap.size+1+1,6,J⟩ (I ⟨#[]⟩)).setCell ⟨w.heap.size+1+1,7,J⟩ (V O 0))) (S':=λk=>w.heap.size<=k) (λk hk s=>(Zp k s af).trans (H47.block k hk)) (λ_ _ s=>loq))⟩)
 by_cases ZZ:n4=k;all_goals (
  go_wp2_with (first|(at_builtin;refine aq rfl _ _ 26 rfl q2.w.heap.size 47 i5 (Zj #[I ⟨#[]⟩,V O 0,I ⟨#[]⟩,Zf Zg,I ⟨#[]⟩]) 5 64 Tryz.underlying26 Y_.1 Y_.2.1 Y_.2.2.1 Y_.2.2.2 rfl ag _ _ _ rfl (ρ.out) _ k _ (vss.take k).flatten rfl (bA σ.all af) (λj u hu=>by obtain⟨g,e,ZM,h3⟩:=HCQ.out _ _ (cH hu);cases e <;> exact⟨_,rfl,by simp only[Ym,Yp];exact (ah (aj q2.w _) ZM).trans h3⟩) (aD σ.one k).1 br af aF ?_))
  intro v5 w5 aa ZF
  replace aa:w5.ownsRow q2.w.heap.size 47 5 v5 k (vss.take k).flatten:=eg
  have ZI:=(aj q2.w (Ze #[] 47)).grown ZF aF (λg hg=>by simp[YK] at hg;omega);obtain⟨s1,s2,s3,rfl⟩:=az aa;have Β:=G aa;have H5:=G ZI;have hs6:=ZI.size;have Bx5:=upK Bx ZI;obtain⟨x0,x1,x2,x3,x4⟩:=cs5 Bx5;clear aa ZF ZI o0 o1 o2 o3 o4 o5
  go_wp2_with (first|(at_builtin;refine aq rfl _ _ 26 rfl q2.w.heap.size 47 i5 (Zj #[I ⟨#[]⟩,V O 0,I ⟨#[]⟩,Zf Zg,I ⟨#[]⟩]) 5 64 Tryz.underlying26 Y_.1 Y_.2.1 Y_.2.2.1 Y_.2.2.2 rfl ag _ _ _ rfl (Β.alloc _) _ 1 _ [I x.n,V O x.z,I x.k,Zf x.x,I x.v] rfl rfl (λj u hu=>⟨_,rfl,by rw[Ym,Yp,al (heap_alloc_new w5 _)];simpa using hu⟩) dx br af bg ?_))
  intro v6 w6 Zt ZJ;have ZA:=(H5.alloc H5.size _).grown ZJ bg (λg hg=>(Β.lt g hg).1);obtain⟨r1,r2,r3,rfl⟩:=az Zt;have Η:=G Zt;have H6:=G ZA;have hs7:=ZA.size;have Bo6:=upK Bo ZA;obtain⟨o0,o1,o2,o3,o4,o5⟩:=cs6 Bo6;clear Zt ZJ ZA x0 x1 x2 x3 x4
  go_wp2_with (first|(at_builtin;refine aq rfl _ _ 26 rfl q2.w.heap.size 47 i5 (Zj #[I ⟨#[]⟩,V O 0,I ⟨#[]⟩,Zf Zg,I ⟨#[]⟩]) 5 64 Tryz.underlying26 Y_.1 Y_.2.1 Y_.2.2.1 Y_.2.2.2 rfl ag _ _ _ rfl (Η.out) _ (l4 - k) _ (vss.drop k).flatten rfl (by rw[ep σ.all,hvl]) (λj u hu=>by first|(rw[Yw af] at hu;simp at hu;done)|(obtain⟨g,e,ZM,h3⟩:=HCQ.out _ _ (cS σ.all af hu);cases e <;> exact⟨_,rfl,by simp only[Ym,Yp];exact (ah H6.out ZM).trans h3⟩)) (aD σ.one k).2 br af af ?_))
  intro v7 w7 Zb ZK;have Z0:=H6.grown ZK af (λg hg=>(Η.lt g hg).1)
  replace Zb:w7.ownsRow q2.w.heap.size 47 5 v7 (l4+1) (aQ k [I x.n,V O x.z,I x.k,Zf x.x,I x.v] vss).flatten:=by
   have e9:k+1+(l4 - k)=l4+1:=af
   try rw[e9] at Zb
   simpa[aQ] using Zb
  obtain⟨t1,t2,t3,rfl⟩:=az Zb;have H47:=upB H4 Z0;have HB7:=upB HB Z0
  obtain⟨H9,hV9⟩:=((σ.below H47.out).ay (w':=w7) (S':=λk=>(w3.heap.size<=k/\k<w4.heap.size)\/q2.w.heap.size<=k) (λ_ _ _ _=>rfl) (λ_ _ s=>Zl s)).ins (p:=k) (r:=xdF x) (vs:=[I x.n,V O x.z,I x.k,Zf x.x,I x.v]) (hh:=λ_=>0) rfl rfl (λi f hf=>by rcases i with _|_|_|_|_|i <;> simp[xdF] at hf <;> subst hf;exact⟨_,rfl,rfl,z0⟩;exact⟨_,rfl,rfl⟩;exact⟨_,rfl,rfl,z2⟩;exact⟨_,rfl,rfl⟩;exact⟨_,rfl,rfl,z4⟩) (λi zs h _=>by rcases i with _|_|_|_|_|i <;> simp[xdF] at h) (λi i2 zs zs2 h _ _ _=>by rcases i with _|_|_|_|_|i <;> simp[xdF] at h) (show k<=(c.xs.map xdF).length by rw[Yq];omega)
  have h45:aR w7 (λk=>(w3.heap.size<=k/\k<w4.heap.size)\/q2.w.heap.size<=k) 5 ((aQ k x c.xs).map xdF) (aQ k [I x.n,V O x.z,I x.k,Zf x.x,I x.v] vss) H9:=by rw[fj];exact hV9
  have hle:((aQ k x c.xs).map xdF).length=l4+1:=by rw[Yq,di af];omega
  obtain⟨u1,u2,hq,hR⟩:=h45.own Zb hle.symm ag (λg hg=>Zk (Zb.lt g hg).1);rw[hle] at hq hR;simp only[Value.slice.injEq] at hq;obtain⟨rfl,rfl,rfl⟩:=hq;rw[HPL.out] at hR;have HR7:=G hR;have Bo7:=upK Bo Z0;have Μ:=upK Br Z0;clear o0 o1 o2 o3 o4 o5;obtain⟨o0,o1,o2,o3,o4,o5⟩:=cs6 Bo7;obtain⟨r0,r1,r2,r3,r4,r5,r6,r7⟩:=cs8 Μ;have fo3:=ak Bo7.out 3;have ZR:=ak Μ.out 0;have ZS:=ak Μ.out 1;have ZT:=ak Μ.out 2;have ZU:=ak Μ.out 3;have ZV:=ak Μ.out 4;have ZY:=ak Μ.out 5;have Z1:=ak Μ.out 6;have Z2:=ak Μ.out 7;clear Zb ZK Z0 hR hV9 h45 hle hik Γ ZZ
  go_wp2
  refine bodyPost_ret (v:=Zj #[U g1 m1 n1,U g2 m2 n2,U g3 m3 n3,U t1 (l4+1) t3,U g5 m5 n5,V O c.now,I ⟨#[]⟩,V O 0]) nI rfl ⟨⟨g1,m1,n1,g2,m2,n2,g3,m3,n3,t1,l4+1,t3,g5,m5,n5⟩,⟨R6 c x,⟨#[]⟩,0⟩,rfl,HV.out,?_,sb2 (sb2 (sb2 (sb2 (sb2 (sb2 (sb2 (sb2 (ai (show w.heap.size<=w4.heap.size by omega) (HB7.out)))))))))⟩
  have Zp:∀k9,w3.heap.size<=k9->¬k9=w4.heap.size->(((((((((w7.setCell ⟨w4.heap.size,3,J⟩ (U t1 (l4+1) t3)).setCell ⟨w.heap.size+1+1,0,J⟩ (U g1 m1 n1)).setCell ⟨w.heap.size+1+1,1,J⟩ (U g2 m2 n2)).setCell ⟨w.heap.size+1+1,2,J⟩ (U g3 m3 n3)).setCell ⟨w.heap.size+1+1,3,J⟩ (U t1 (l4+1) t3)).setCell ⟨w.heap.size+1+1,4,J⟩ (U g5 m5 n5)).setCell ⟨w.heap.size+1+1,5,J⟩ (V O c.now)).setCell ⟨w.heap.size+1+1,6,J⟩ (I ⟨#[]⟩)).setCell ⟨w.heap.size+1+1,7,J⟩ (V O 0)).heap[k9]?=w7.heap[k9]?:=λk9 h1 h2=>by rw[Ya _ _ _ _ (show k9≠w.heap.size+1+1 by omega),Ya _ _ _ _ (show k9≠w.heap.size+1+1 by omega),Ya _ _ _ _ (show k9≠w.heap.size+1+1 by omega),Ya _ _ _ _ (show k9≠w.heap.size+1+1 by omega),Ya _ _ _ _ (show k9≠w.heap.size+1+1 by omega),Ya _ _ _ _ (show k9≠w.heap.size+1+1 by omega),Ya _ _ _ _ (show k9≠w.heap.size+1+1 by omega),Ya _ _ _ _ (show k9≠w.heap.size+1+1 by omega),Ya _ _ _ _ (show k9≠w4.heap.size by omega)]
  refine⟨(HFR.n.ay (w':=(((((((((w7.setCell ⟨w4.heap.size,3,J⟩ (U t1 (l4+1) t3)).setCell ⟨w.heap.size+1+1,0,J⟩ (U g1 m1 n1)).setCell ⟨w.heap.size+1+1,1,J⟩ (U g2 m2 n2)).setCell ⟨w.heap.size+1+1,2,J⟩ (U g3 m3 n3)).setCell ⟨w.heap.size+1+1,3,J⟩ (U t1 (l4+1) t3)).setCell ⟨w.heap.size+1+1,4,J⟩ (U g5 m5 n5)).setCell ⟨w.heap.size+1+1,5,J⟩ (V O c.now)).setCell ⟨w.heap.size+1+1,6,J⟩ (I ⟨#[]⟩)).setCell ⟨w.heap.size+1+1,7,J⟩ (V O 0))) (S':=λk=>w.heap.size<=k) (λk hk s=>(Zp k s af).trans (H47.block k hk)) (λ_ _ s=>loq)),(HFR.k.ay (w':=(((((((((w7.setCell ⟨w4.heap.size,3,J⟩ (U t1 (l4+1) t3)).setCell ⟨w.heap.size+1+1,0,J⟩ (U g1 m1 n1)).setCell ⟨w.heap.size+1+1,1,J⟩ (U g2 m2 n2)).setCell ⟨w.heap.size+1+1,2,J⟩ (U g3 m3 n3)).setCell ⟨w.heap.size+1+1,3,J⟩ (U t1 (l4+1) t3)).setCell ⟨w.heap.size+1+1,4,J⟩ (U g5 m5 n5)).setCell ⟨w.heap.size+1+1,5,J⟩ (V O c.now)).setCell ⟨w.heap.size+1+1,6,J⟩ (I ⟨#[]⟩)).setCell ⟨w.heap.size+1+1,7,J⟩ (V O 0))) (S':=λk=>w.heap.size<=k) (λk hk s=>(Zp k s af).trans (H47.block k hk)) (λ_ _ s=>loq)),(HFR.v.ay (w':=(((((((((w7.setCell ⟨w4.heap.size,3,J⟩ (U t1 (l4+1) t3)).setCell ⟨w.heap.size+1+1,0,J⟩ (U g1 m1 n1)).setCell ⟨w.heap.size+1+1,1,J⟩ (U g2 m2 n2)).setCell ⟨w.heap.size+1+1,2,J⟩ (U g3 m3 n3)).setCell ⟨w.heap.size+1+1,3,J⟩ (U t1 (l4+1) t3)).setCell ⟨w.heap.size+1+1,4,J⟩ (U g5 m5 n5)).setCell ⟨w.heap.size+1+1,5,J⟩ (V O c.now)).setCell ⟨w.heap.size+1+1,6,J⟩ (I ⟨#[]⟩)).setCell ⟨w.heap.size+1+1,7,J⟩ (V O 0))) (S':=λk=>w.heap.size<=k) (λk hk s=>(Zp k s af).trans (H47.block k hk)) (λ_ _ s=>loq)),(HR7.ay (w':=(((((((((w7.setCell ⟨w4.heap.size,3,J⟩ (U t1 (l4+1) t3)).setCell ⟨w.heap.size+1+1,0,J⟩ (U g1 m1 n1)).setCell ⟨w.heap.size+1+1,1,J⟩ (U g2 m2 n2)).setCell ⟨w.heap.size+1+1,2,J⟩ (U g3 m3 n3)).setCell ⟨w.heap.size+1+1,3,J⟩ (U t1 (l4+1) t3)).setCell ⟨w.heap.size+1+1,4,J⟩ (U g5 m5 n5)).setCell ⟨w.heap.size+1+1,5,J⟩ (V O c.now)).setCell ⟨w.heap.size+1+1,6,J⟩ (I ⟨#[]⟩)).setCell ⟨w.heap.size+1+1,7,J⟩ (V O 0))) (S':=λk=>w.heap.size<=k) (λk hk s=>Zp k gQ gQ) (λ_ _ s=>loq)),(HFR.p.ay (w':=(((((((((w7.setCell ⟨w4.heap.size,3,J⟩ (U t1 (l4+1) t3)).setCell ⟨w.heap.size+1+1,0,J⟩ (U g1 m1 n1)).setCell ⟨w.heap.size+1+1,1,J⟩ (U g2 m2 n2)).setCell ⟨w.heap.size+1+1,2,J⟩ (U g3 m3 n3)).setCell ⟨w.heap.size+1+1,3,J⟩ (U t1 (l4+1) t3)).setCell ⟨w.heap.size+1+1,4,J⟩ (U g5 m5 n5)).setCell ⟨w.heap.size+1+1,5,J⟩ (V O c.now)).setCell ⟨w.heap.size+1+1,6,J⟩ (I ⟨#[]⟩)).setCell ⟨w.heap.size+1+1,7,J⟩ (V O 0))) (S':=λk=>w.heap.size<=k) (λk hk s=>(Zp k s af).trans (H47.block k hk)) (λ_ _ s=>loq))⟩)):p:=h
theorem zG(h:p:=by
 have HPL:=G hpl;clear hpl;have H4:=upB HB4 q2.b;have HCQ:Hid (∀(j:Nat) u,vss.flatten[j]?=M u->∃g,g4=M ⟨g,0,J⟩/\g<q2.w.heap.size/\q2.w.cell? ⟨g,j,J⟩=M u):=λj u hj=>by
  exact ak3
 obtain⟨hq1,Τ,ξ,ρ,hik,Γ⟩:=al5;obtain⟨o0,o1,o2,o3,o4,o5⟩:=cs6 Bo;exact avC):p:=h
theorem V8(h:p:=by
 exact avB):p:=h
theorem V4(h:p:=by
 refine⟨⟨j+1,Zi,by omega,rfl,by go_num,show _↔_ from ⟨λ_=>Zk ⟨j,n,by omega,HN.out,HIN.out⟩,λ_=>rfl⟩,HB.out,Bk.out⟩,by simp[intOf];omega⟩):p:=h
theorem V3(h:p:=by
 refine⟨⟨j+1,Zg,by omega,rfl,by go_num,show _↔_ from ⟨λh=>bJ,λh=>HS.2 (h.elim Zl (λ⟨i,m,h1,h2,h3⟩=>Zk ⟨i,m,by by_cases e:i=j;subst e;rw[HN.out] at h2;cases h2;exact absurd h3 HIN.out;omega,h2,h3⟩))⟩,HB.out,Bk.out⟩,by simp[intOf];omega⟩):p:=h
theorem zn(h:p:=by
 have ap1:=@G _ @Md;exact ny):p:=h
theorem V1(h:p:=by
 clear aa ZF ZI aos aqw hR ht2 alR hik hxa Z4;go_wp2;refine bodyPost_ret (v:=Zj #[U d'.a1 d'.l1 d'.c1,U d'.a2 d'.l2 d'.c2,U sa sl sc,U t1 t2 t3,U d'.a5 d'.l5 d'.c5,V O c.now,I ⟨#[]⟩,V O 0]) AJ rfl ⟨⟨d'.a1,d'.l1,d'.c1,d'.a2,d'.l2,d'.c2,sa,sl,sc,t1,t2,t3,d'.a5,d'.l5,d'.c5⟩,⟨RU c t vs,⟨#[]⟩,0⟩,rfl,HV.out,?_,sb1 (sb1 (sb1 (sb1 (sb1 (sb1 (sb1 (sb1 (ai (show w.heap.size<=w7.heap.size by omega) (Ρ.out)))))))))⟩;have Zp:∀k,wr.heap.size<=k->¬k=w7.heap.size->(((((((((w11.setCell ⟨w7.heap.size,3,J⟩ (U t1 t2 t3)).setCell ⟨w.heap.size+1,0,J⟩ (U d'.a1 d'.l1 d'.c1)).setCell ⟨w.heap.size+1,1,J⟩ (U d'.a2 d'.l2 d'.c2)).setCell ⟨w.heap.size+1,2,J⟩ (U sa sl sc)).setCell ⟨w.heap.size+1,3,J⟩ (U t1 t2 t3)).setCell ⟨w.heap.size+1,4,J⟩ (U d'.a5 d'.l5 d'.c5)).setCell ⟨w.heap.size+1,5,J⟩ (V O c.now)).setCell ⟨w.heap.size+1,6,J⟩ (I ⟨#[]⟩)).setCell ⟨w.heap.size+1,7,J⟩ (V O 0)).heap[k]?=w11.heap[k]?:=λk h1 h2=>by rw[Ya _ _ _ _ (show k≠w.heap.size+1 by omega),Ya _ _ _ _ (show k≠w.heap.size+1 by omega),Ya _ _ _ _ (show k≠w.heap.size+1 by omega),Ya _ _ _ _ (show k≠w.heap.size+1 by omega),Ya _ _ _ _ (show k≠w.heap.size+1 by omega),Ya _ _ _ _ (show k≠w.heap.size+1 by omega),Ya _ _ _ _ (show k≠w.heap.size+1 by omega),Ya _ _ _ _ (show k≠w.heap.size+1 by omega),Ya _ _ _ _ (show k≠w7.heap.size by omega)]
 refine⟨?_,?_,?_,?_,?_⟩
 ·exact (HN9.ay (w':=(((((((((w11.setCell ⟨w7.heap.size,3,J⟩ (U t1 t2 t3)).setCell ⟨w.heap.size+1,0,J⟩ (U d'.a1 d'.l1 d'.c1)).setCell ⟨w.heap.size+1,1,J⟩ (U d'.a2 d'.l2 d'.c2)).setCell ⟨w.heap.size+1,2,J⟩ (U sa sl sc)).setCell ⟨w.heap.size+1,3,J⟩ (U t1 t2 t3)).setCell ⟨w.heap.size+1,4,J⟩ (U d'.a5 d'.l5 d'.c5)).setCell ⟨w.heap.size+1,5,J⟩ (V O c.now)).setCell ⟨w.heap.size+1,6,J⟩ (I ⟨#[]⟩)).setCell ⟨w.heap.size+1,7,J⟩ (V O 0))) (λk hk s=>(Zp k s.1 s.2).trans (H35.block k hk)) (λ_ _ s=>s)).rl (λk s=>loq)
 ·exact (HK9.ay (w':=(((((((((w11.setCell ⟨w7.heap.size,3,J⟩ (U t1 t2 t3)).setCell ⟨w.heap.size+1,0,J⟩ (U d'.a1 d'.l1 d'.c1)).setCell ⟨w.heap.size+1,1,J⟩ (U d'.a2 d'.l2 d'.c2)).setCell ⟨w.heap.size+1,2,J⟩ (U sa sl sc)).setCell ⟨w.heap.size+1,3,J⟩ (U t1 t2 t3)).setCell ⟨w.heap.size+1,4,J⟩ (U d'.a5 d'.l5 d'.c5)).setCell ⟨w.heap.size+1,5,J⟩ (V O c.now)).setCell ⟨w.heap.size+1,6,J⟩ (I ⟨#[]⟩)).setCell ⟨w.heap.size+1,7,J⟩ (V O 0))) (λk hk s=>(Zp k s.1 s.2).trans (H35.block k hk)) (λ_ _ s=>s)).rl (λk s=>loq)
 ·exact (HV9.ay (w':=(((((((((w11.setCell ⟨w7.heap.size,3,J⟩ (U t1 t2 t3)).setCell ⟨w.heap.size+1,0,J⟩ (U d'.a1 d'.l1 d'.c1)).setCell ⟨w.heap.size+1,1,J⟩ (U d'.a2 d'.l2 d'.c2)).setCell ⟨w.heap.size+1,2,J⟩ (U sa sl sc)).setCell ⟨w.heap.size+1,3,J⟩ (U t1 t2 t3)).setCell ⟨w.heap.size+1,4,J⟩ (U d'.a5 d'.l5 d'.c5)).setCell ⟨w.heap.size+1,5,J⟩ (V O c.now)).setCell ⟨w.heap.size+1,6,J⟩ (I ⟨#[]⟩)).setCell ⟨w.heap.size+1,7,J⟩ (V O 0))) (λk hk s=>(Zp k s.1 s.2).trans (H35.block k hk)) (λ_ _ s=>s)).rl (λk s=>loq)
 ·exact (HR5.ay (w':=(((((((((w11.setCell ⟨w7.heap.size,3,J⟩ (U t1 t2 t3)).setCell ⟨w.heap.size+1,0,J⟩ (U d'.a1 d'.l1 d'.c1)).setCell ⟨w.heap.size+1,1,J⟩ (U d'.a2 d'.l2 d'.c2)).setCell ⟨w.heap.size+1,2,J⟩ (U sa sl sc)).setCell ⟨w.heap.size+1,3,J⟩ (U t1 t2 t3)).setCell ⟨w.heap.size+1,4,J⟩ (U d'.a5 d'.l5 d'.c5)).setCell ⟨w.heap.size+1,5,J⟩ (V O c.now)).setCell ⟨w.heap.size+1,6,J⟩ (I ⟨#[]⟩)).setCell ⟨w.heap.size+1,7,J⟩ (V O 0))) (λk hk s=>Zp k (by rcases s with s|s;exact s.1;omega) (by rcases s with s|s;exact s.2;omega)) (λ_ _ s=>s)).rl (λk s=>loq)
 ·exact (HP9.ay (w':=(((((((((w11.setCell ⟨w7.heap.size,3,J⟩ (U t1 t2 t3)).setCell ⟨w.heap.size+1,0,J⟩ (U d'.a1 d'.l1 d'.c1)).setCell ⟨w.heap.size+1,1,J⟩ (U d'.a2 d'.l2 d'.c2)).setCell ⟨w.heap.size+1,2,J⟩ (U sa sl sc)).setCell ⟨w.heap.size+1,3,J⟩ (U t1 t2 t3)).setCell ⟨w.heap.size+1,4,J⟩ (U d'.a5 d'.l5 d'.c5)).setCell ⟨w.heap.size+1,5,J⟩ (V O c.now)).setCell ⟨w.heap.size+1,6,J⟩ (I ⟨#[]⟩)).setCell ⟨w.heap.size+1,7,J⟩ (V O 0))) (λk hk s=>(Zp k s.1 s.2).trans (H35.block k hk)) (λ_ _ s=>s)).rl (λk s=>loq)):p:=h
theorem Vw(h:p:=by
 refine (aI 7 _).mono ?_;rintro e w4 ⟨rfl,hb⟩;clear k0 k1 k2 k3 k4 k5 x0 x1 x2 x3 x4;have aoM:=@G _ @abS;exact fy):p:=h
theorem Vv(h:p:=by
 refine (aI 9 _).mono ?_;rintro e w4 ⟨rfl,hb⟩;clear k0 k1 k2 k3 k4 k5 x0 x1 x2 x3 x4;have aoM:=@G _ @abR;exact fy):p:=h
theorem Vu(h:p:=by
 refine (jA ⟨a1,l1,y1,a2,l2,y2,a3,l3,y3,a4,l4,y4,a5,l5,y5⟩ c.now c.ks x.k _ (HR.k.below HB.out)).mono ?_;rintro e w3 ⟨hb,hf⟩;clear k0 k1 k2 k3 k4 k5 x0 x1 x2 x3 x4;have amM:=@G _ @LW;exact da):p:=h
theorem qd(h:p:=by
 repeat (go_big_quiet_step (first|(go_at_call 33;exact Calls.wide (Zv.out _))|(go_at_call 63;exact Calls.wide (μ.out _))|fail))
 refine wpQuiet_nil ?_;rintro _ ⟨q1,rfl⟩;obtain⟨Z7,Ck,Cx,Cr⟩:=OQ;clear hne0 HW HB Zv μ k0 k1 k2 k3 k4 k5 x0 x1 x2 x3 x4 Gk Gx Gr Bk Bx Br;have HB:=Z7;obtain⟨Bk,Bx,Br⟩:=ig;have aon:=@G _ @KY;exact fg):p:=h
theorem Vq(h:p:=by
 rcases hf with ⟨i,x,hx,hn,rfl⟩|⟨ε,rfl⟩;rotate_left
 ·have HV:Hid (dv c t (co0 6)):=Zl ⟨2,⟨hl,HT.out,Zl ⟨rfl,gD ε⟩⟩,rfl⟩;have atN:=@G _ @IA;exact tk
 have hri:=HT.2.1.2.2.2.1.2.2;have aq7:=G (bj hri hx hn).2;have HRI:=G hri;have HX:=G hx;have HN:=G hn;have HL:Hid (¬8000<t.size):=hl;have hi4:i<l4:=by have:=(Yc.1 hx).1;omega
 have hi0:¬(i:Int)<0:=af
 have h48:l4<=8:=by have:=HT.sm.x;omega
 have h58:l5<=8:=by have:=HT.sm.p;omega
 have h38:l3<=8:=by have:=HT.sm.v;omega
 clear hri hx hn hl;have hbb:(∃(j:Nat) (v:Vd),c.vs[j]?=M v/\aX c t v)\/(∀v,¬aX c t v):=Classical.byCases (λh:∃v,aX c t v=>Zl (by obtain⟨v,hv⟩:=h;obtain⟨j,hj⟩:=hv.at;exact⟨j,v,hj,hv⟩)) (λh=>Zk (λv hv=>h ⟨v,hv⟩));rcases hbb with ⟨j,v,hj,ω⟩|ε
 ·have HJ:=G hj;have HBD:=G ω;have hj3:j<l3:=by have:=(Yc.1 hj).1;omega
  have azp:(0:Int)<=(j:Int):=af
  clear hj ω;obtain⟨k0,k1,k2,k3,k4,k5⟩:=cs6 Bk;go_wp2_with fail;refine (fN ⟨a1,l1,y1,a2,l2,y2,a3,l3,y3,a4,l4,y4,a5,l5,y5⟩ c t _ (HR.below HB.out) HT.2.1.2.2.2.1.2.2 HT.2.1.2.2.1.2.2 (cP.ne HT.2.1) HJ.out HBD.out).mono ?_;rintro e w3 ⟨rfl,hb⟩;have anS:=@G _ @Vp;exact dm
 ·have HNO:=G ε;clear ε;obtain⟨k0,k1,k2,k3,k4,k5⟩:=cs6 Bk;go_wp2_with fail;refine (gi ⟨a1,l1,y1,a2,l2,y2,a3,l3,y3,a4,l4,y4,a5,l5,y5⟩ c t _ (HR.below HB.out) HT.2.1.2.2.2.1.2.2 HT.2.1.2.2.1.2.2 (cP.ne HT.2.1) HNO.out).mono ?_;rintro e w4 ⟨rfl,hb⟩;have anS:=@G _ @Vm;exact dm):p:=h
theorem Vp(h:p:=by
 obtain⟨k0,k1,k2,k3,k4,k5⟩:=cs6 Bk;go_wp2_with fail;refine (kM ⟨a1,l1,y1,a2,l2,y2,a3,l3,y3,a4,l4,y4,a5,l5,y5⟩ c j v _ (HR.below HB.out) HJ.out).mono ?_;rintro e w4 ⟨rb,rfl,hi,hb⟩;clear k0 k1 k2 k3 k4 k5;have aok:=@G _ @DQ;exact fa):p:=h
theorem Vn(h:p:=by
 have hq7:=HQ7.out;have hqr:=HQR.out;obtain⟨kc,hkc,Γ⟩:=cy (HT.2.2.1.1 j v HJ.out).1;generalize pl Kd.n c.ks v.k=jk at hkc;have HKC:=G hkc;have HKN:=G Γ;have hjk:jk<l2:=by have:=(Yc.1 hkc).1;omega
 have azq:(jk:Int)<l2:=af
 have awF:(j:Int)<l3:=af
 clear hkc Γ;obtain⟨b3,o3,v',rfl,Zy,hv',Zc⟩:=bY (HR.v.below HB.out) hj3;obtain rfl:v=v':=Yd (HJ.symm.trans hv');obtain⟨ea,el,ec,-,-,-,-,-,-,-,-,cv3,-,-,-,-⟩:=bm Zc;clear Zc hv';obtain⟨b2,o2,kc',rfl,ZG,axr,Zc⟩:=gR (HR.k.below HB.out) hjk;obtain rfl:kc=kc':=Yd (HKC.symm.trans axr);obtain⟨-,-,-,-,ck2,-⟩:=dh Zc;clear Zc axr;have axp:=(ah (aj w7 (Ze (Zs d' c.now) 29)) Zy).trans cv3;have axq:=(ah (aj w7 (Ze (Zs d' c.now) 29)) ZG).trans ck2;have aws:=Yl Zy (aj w7 (Ze (Zs d' c.now) 29)).size;have ayM:=Yl ZG (aj w7 (Ze (Zs d' c.now) 29)).size;have Gk:Hid ((w7.alloc (Ze (Zs d' c.now) 29)).heap[w.heap.size]?=M (Ze (Zd a1 l1 y1 (M ⟨b2,o2,J⟩) l2 y2 (M ⟨b3,o3,J⟩) l3 y3 a4 l4 y4 a5 l5 y5 c.now) 29 (0,0))):=(Yj _ _ _ (ae Bk.out)).trans (Bk.out);obtain⟨Gr,Go,HW⟩:=ahT;obtain⟨k0,k1,k2,k3,k4,k5⟩:=sl6 Gk;have mv:∀q:Wd (w7.alloc (Ze (Zs d' c.now) 29)),q.w.cell? ⟨b3,o3+j*8+3,J⟩=M (I v.k):=λq=>(q.cell (aws)).trans (axp);have mk:∀q:Wd (w7.alloc (Ze (Zs d' c.now) 29)),q.w.cell? ⟨b2,o2+jk*4+2,J⟩=M (Zf kc.y):=λq=>(q.cell (ayM)).trans (axq);have hne0:=Wd.ne (w7.alloc (Ze (Zs d' c.now) 29));have Zv:=G (λq:Wd (w7.alloc (Ze (Zs d' c.now) 29))=>eB ⟨a1,l1,y1,(M ⟨b2,o2,J⟩),l2,y2,(M ⟨b3,o3,J⟩),l3,y3,a4,l4,y4,a5,l5,y5⟩ c.now c.ks v.k q.w (HR.k.below (HW.trans (q.b.mono HW.size))) HT.2.1.2.1.2.2 HKC.out HKN.out);have Zw:=@G _ @ags;exact aB):p:=h
theorem Vm(h:p:=by
 have HI:Hid (Zg=Zi↔False):=⟨λh=>bJ,False.elim⟩;obtain⟨k0,k1,k2,k3,k4,k5⟩:=cs6 Bk;obtain⟨r0,r1,r2,r3,r4,r5,r6,r7⟩:=cs8 Br;go_wp2;go_loopw [8,9] (λq iv wr=> ∃(k:Nat) (r:Bool),k<=l5/\q=Zf r/\iv=V O k/\Hid (r=Zi↔(False\/∃(i:Nat) (p:Pd),i<k/\c.ps[i]?=M p/\InL p.zs t))/\Hid (Below w4.heap.size w4 wr)) (λ_ iv _=>l5 - (intOf iv).toNat);case atStart=>exact⟨0,Zg,by omega,rfl,rfl,show _↔_ by rw[HI.out];exact⟨Zl,λh=>h.elim id (λ⟨i,p,h,_⟩=>by omega)⟩,Yh _ _⟩
 case round=>
  have atO:=@G _ @Hf;exact sX):p:=h
theorem Vl(h:p:=by
 have hq7:=HQ7.out;have hqr:=HQR.out;have Gk:Hid ((w7.alloc (Ze (Zs d' c.now) 29)).heap[w.heap.size]?=M (Ze (Zd a1 l1 y1 a2 l2 y2 a3 l3 y3 a4 l4 y4 a5 l5 y5 c.now) 29 (0,0))):=(Yj _ _ _ (ae Bk.out)).trans (Bk.out);obtain⟨Gr,Go,HW⟩:=ahT;obtain⟨k0,k1,k2,k3,k4,k5⟩:=sl6 Gk;have hne0:=Wd.ne (w7.alloc (Ze (Zs d' c.now) 29));have z1z:=@G _ @aj3;exact bF):p:=h
theorem Vk(h:p:=by
 rcases hf with ⟨i,x,hx,hn,rfl⟩|⟨ε,rfl⟩;rotate_left
 ·have HV:Hid (cN c t (co0 6)):=Zl ⟨2,⟨hl,HT.out,Zl ⟨rfl,gD ε⟩⟩,rfl⟩;have atN:=@G _ @Iz;exact tk
 have hri:=HT.2.1.2.2.1.2.2;have aq7:=G (bj hri hx hn).2;have HRI:=G hri;have HX:=G hx;have HN:=G hn;have hi3:i<l3:=by have:=(Yc.1 hx).1;omega
 have hi0:¬(i:Int)<0:=af
 have azr:(i:Int)<l3:=af
 have h38:l3<=8:=by have:=HT.sm.v;omega
 clear hri hx hn;obtain⟨b3,o3,x',rfl,Zy,hx',Zc⟩:=bY (HR.v.below HB.out) hi3;obtain rfl:x=x':=Yd (HX.symm.trans hx');obtain⟨ea,el,ec,Zx,z0,z2,z3,z5,c0,c1,c2,c3,c4,c5,c6,c7⟩:=bm Zc;clear Zc Zx z0 z2 z3 z5 hx' c0 c1 c2 c3 c4 c6 c7;by_cases hm:x.m=⟨#[]⟩
 ·have hm1:=cw hm;by_cases Z6:Sn c x
  ·have HIN:=G Z6;clear Z6;have HV:Hid (cN c t (co0 11)):=Zl ⟨5,⟨hl,HT.out,Zk ⟨rfl,aq7.out,i,x,HX.out,HN.out,Zk HIN.out⟩⟩,rfl⟩;obtain⟨k0,k1,k2,k3,k4,k5⟩:=cs6 Bk;go_wp2_with fail;refine ((kM ⟨a1,l1,y1,a2,l2,y2,(M ⟨b3,o3,J⟩),l3,y3,a4,l4,y4,a5,l5,y5⟩ c i x _ (HR.below HB.out) HX.out).mono (λ_ _ h=>ar.yes h HIN.out)).mono ?_;rintro e w5 ⟨rfl,hb⟩;have anS:=@G _ @aiv;exact dm
  ·have HIN:=G Z6;clear Z6;have HV:Hid (cN c t ⟨Bd c t,⟨#[]⟩,0⟩):=Zk ⟨hl,HT.out,⟨aq7.out,λj y hj hy=>by
    obtain⟨-,rfl⟩:=HRI.inj hj HX.out (hy.trans HN.symm)
    exact λh=>h.elim (λh=>h hm) HIN.out⟩,rfl⟩
   obtain⟨k0,k1,k2,k3,k4,k5⟩:=cs6 Bk;go_wp2_with fail;refine ((kM ⟨a1,l1,y1,a2,l2,y2,(M ⟨b3,o3,J⟩),l3,y3,a4,l4,y4,a5,l5,y5⟩ c i x _ (HR.below HB.out) HX.out).mono (λ_ _ h=>ar.no h HIN.out)).mono ?_;rintro e w5 ⟨rfl,hb⟩;have anS:=@G _ @Vj;exact dm
 ·have hm1:=aU hm;have HV:Hid (cN c t (co0 11)):=Zl ⟨5,⟨hl,HT.out,Zk ⟨rfl,aq7.out,i,x,HX.out,HN.out,Zl hm⟩⟩,rfl⟩;exact aiv):p:=h
theorem Vj(h:p:=by
 have awq:Hid (w.heap.size+1<w5.heap.size):=ae Br.out;obtain⟨k0,k1,k2,k3,k4,k5⟩:=cs6 Bk;go_wp2_with fail;have HLO:=G HB.size;refine (cZ ⟨a1,l1,y1,a2,l2,y2,(M ⟨b3,o3,J⟩),l3,y3,a4,l4,y4,a5,l5,y5⟩ c _ (HR.below HB.out) HT.sm).mono ?_;rintro e w3 ⟨d',rfl,ho,hb⟩;have HQ3:=G hb.size;clear k0 k1 k2 k3 k4 k5;have aok:=@G _ @DP;exact fa):p:=h
theorem Vi(h:p:=by
 rcases hf with ⟨i,x,hx,hn,rfl⟩|⟨ε,rfl⟩;rotate_left
 ·have HV:Hid (ez c t (co0 6)):=Zl ⟨2,⟨hl,HT.out,gD ε⟩,rfl⟩;clear ε;obtain⟨k0,k1,k2,k3,k4,k5⟩:=cs6 Bk;go_wp2_with fail;refine (aI 6 _).mono ?_;rintro e w3 ⟨rfl,hb⟩;have anS:=@G _ @Vg;exact dm
 have as3:=@G _ @LO;exact tZ):p:=h
theorem Vh(h:p:=by
 have apE:=@G _ @JL;exact j0):p:=h
theorem Vg(h:p:=by
 have apE:=@G _ @JK;exact j0):p:=h
theorem Vf(h:p:=by
 have apE:=@G _ @JJ;exact j0):p:=h
theorem U_(h:p:=by
 rcases hf with ⟨i,x,hx,hn,rfl⟩|⟨ε,rfl⟩;rotate_left
 ·have HV:Hid (bH c t (co0 6)):=Zl ⟨2,by decide,⟨hl,HT.out,oC.no HT.out (gD ε)⟩,rfl⟩;clear ε;have aol:=@G _ @Kx;exact ff
 have HX:=G (Yb hx hn);obtain⟨hi4,hii,hi0⟩:=OJ;obtain⟨j,k,hkj,Γ⟩:∃(j:Nat) (k:Kd),c.ks[j]?=M k/\k.n=x.k:=by obtain⟨k,h1,h2⟩:=cy (HT.2.2.1.2 _ x hx).1;exact⟨_,k,h1,h2⟩
 have atf:=@G _ @Du;exact sk):p:=h
theorem U9(h:p:=by
 have aqE:=@G _ @JS;exact np):p:=h
theorem U8(h:p:=by
 have atQ:=@G _ @IQ;exact tt):p:=h
theorem U7(h:p:=by
 have atQ:=@G _ @IP;exact tt):p:=h
theorem U6(h:p:=by
 obtain⟨r0,r1,r2,r3,r4,r5,r6,r7⟩:=cs8 Br;have atK:=ae Br.out;obtain⟨ZR,ZS,ZT,ZU,ZV,ZY,Z1,Z2⟩:=dD;have hrl:w.heap.size+1<w3.heap.size:=ae Br.out;go_wp2;exact bodyPost_ret (v:=Zj #[U J 0 0,U J 0 0,U J 0 0,U J 0 0,U J 0 0,V O 0,I ⟨#[]⟩,V O 11]) oW rfl ⟨ad0,co0 11,rfl,HV.out,(rl0 _ _),sb1 (sb1 (sb1 (sb1 (sb1 (sb1 (sb1 (sb1 (HB.out))))))))⟩):p:=h
theorem U5(h:p:=by
 obtain⟨x1,m1,n1,x2,m2,n2,x3,m3,n3,x4,m4,n4,x5,m5,n5⟩:=d';have hq1:w.heap.size+1<q1.w.heap.size:=HQ1.out;have Τ:q1.w.heap.size<=w3.heap.size:=ν.out;have into:∀{a l cp m T rs},av w3 a l cp m T rs (λk=>q1.w.heap.size<=k)->av (w3.alloc (Ze (Zd x1 m1 n1 x2 m2 n2 x3 m3 n3 x4 m4 n4 x5 m5 n5 c.now) 29)) a l cp m T rs (λk=>q1.w.heap.size<=k/\k<w3.heap.size):=λh=>(h.bC (S':=(λk=>q1.w.heap.size<=k/\k<w3.heap.size)) (λk hk s=>⟨s,hk⟩)).below (aj w3 (Ze (Zd x1 m1 n1 x2 m2 n2 x3 m3 n3 x4 m4 n4 x5 m5 n5 c.now) 29));have HOV:Hid (dw (w3.alloc (Ze (Zd x1 m1 n1 x2 m2 n2 x3 m3 n3 x4 m4 n4 x5 m5 n5 c.now) 29)) ⟨x1,m1,n1,x2,m2,n2,x3,m3,n3,x4,m4,n4,x5,m5,n5⟩ c.raw (λk=>q1.w.heap.size<=k/\k<w3.heap.size)):=⟨into ho.n,into ho.k,into ho.v,into ho.x,into ho.p⟩;clear ho into;obtain⟨k0,k1,k2,k3,k4,k5⟩:=cs6 Bk;have axs:=ae Bk.out;go_wp2_with fail;clear k0 k1 k2 k3 k4 k5 axs;have BrV:=G ((Yj w3 (Ze (Zd x1 m1 n1 x2 m2 n2 x3 m3 n3 x4 m4 n4 x5 m5 n5 c.now) 29) _ (ae Br.out)).trans Br.out);have HBV:=G (HB.trans ((aj w3 (Ze (Zd x1 m1 n1 x2 m2 n2 x3 m3 n3 x4 m4 n4 x5 m5 n5 c.now) 29)).mono HB.size));refine (rT c i x j k ⟨#[]⟩ (λk=>q1.w.heap.size<=k/\k<w3.heap.size) w3.heap.size x1 m1 n1 x2 m2 n2 x3 m3 n3 x4 m4 n4 x5 m5 n5 _ (heap_alloc_new w3 (Ze (Zd x1 m1 n1 x2 m2 n2 x3 m3 n3 x4 m4 n4 x5 m5 n5 c.now) 29)) HOV.out (λq s=>⟨by rw[cW];omega,by omega⟩) HT.out HX.1 HK.1 HK.2 HXV.out (Zl rfl)).mono ?_;rintro e w4 h4;have hsv:(w3.alloc (Ze (Zd x1 m1 n1 x2 m2 n2 x3 m3 n3 x4 m4 n4 x5 m5 n5 c.now) 29)).heap.size=w3.heap.size+1:=cW _ _;rcases h4 with ⟨j9,u,hbv,hju,rfl,hbb,hof,hkp⟩|⟨hbv,⟨p,Ξ,axt,rfl,hbe⟩|⟨asy,ayN,h8,rfl,q3,m3',z3,hbb,hof,hkp⟩⟩
 ·have HV:Hid (bH c t ⟨dM c i j9 x u,u.n,0⟩):=(HBI _).out (Zl ⟨j9,u,hbv,hju,rfl⟩);have Bo4:=G hbb;have hbr:w4.heap[w.heap.size+1]?=M (Ze #[U J 0 0,U J 0 0,U J 0 0,U J 0 0,U J 0 0,V O 0,I ⟨#[]⟩,V O 0] 33 (0,0)):=(hkp.block _ (ae BrV.out) (by intro s;obtain⟨s1,s2⟩:=s;omega)).trans BrV.out;have Br4:=G hbr;have HOF:=G hof;have HB4:=G (HBV.trans (hkp.low (X:=w.heap.size) HBV.size (λk s=>by obtain⟨s1,s2⟩:=s;omega)));have atS:=@G _ @JV;exact tM
 ·have HV:Hid (bH c t (co0 p)):=(HBI _).out (Zk ⟨hbv,by rcases axt with ⟨h1,rfl⟩|⟨h1,h2,rfl⟩|⟨h1,h2,h3,rfl⟩;exact Zl ⟨h1,rfl⟩;exact Zk ⟨h1,Zl ⟨h2,rfl⟩⟩;exact Zk ⟨h1,Zk ⟨h2,Zl ⟨h3,rfl⟩⟩⟩⟩);have hp1:(p==0)=Zg:=iZ
  replace Br:=G ((hbe.block _ (ae BrV.out)).trans BrV.out);replace HB:=upB HBV hbe;clear hbe axt Ξ;go_wp2_with fail;refine (aI p _).mono ?_;rintro e w5 ⟨rfl,hb⟩;replace Br:=upK Br hb;replace HB:=upB HB hb;clear hb;obtain⟨r0,r1,r2,r3,r4,r5,r6,r7⟩:=cs8 Br;have ayO:=ae Br.out;obtain⟨ZR,ZS,ZT,ZU,ZV,ZY,Z1,Z2⟩:=dD;have hrl:w.heap.size+1<w5.heap.size:=ae Br.out;exact Rk
 have HV:Hid (bH c t ⟨dd c i x (aT ⟨#[]⟩ k.z),(aC++x.n),0⟩):=(HBI _).out (Zk ⟨hbv,Zk ⟨asy,Zk ⟨ayN,Zk ⟨h8,rfl⟩⟩⟩⟩);have Bo4:=G hbb;have hbr:w4.heap[w.heap.size+1]?=M (Ze #[U J 0 0,U J 0 0,U J 0 0,U J 0 0,U J 0 0,V O 0,I ⟨#[]⟩,V O 0] 33 (0,0)):=(hkp.block _ (ae BrV.out) (by intro s;rcases s with ⟨s1,s2⟩|s1 <;> omega)).trans BrV.out;have Br4:=G hbr;have HOF:=G hof;have HB4:=G (HBV.trans (hkp.low (X:=w.heap.size) HBV.size (λk s=>by rcases s with ⟨s1,s2⟩|s1 <;> omega)));have atS:=@G _ @JW;exact tM):p:=h
theorem U3(h:p:=by
 refine (jE x.n x.c x.z va vl vc x.zs x.d x.p _ z0 z2 z4 (HX.below HB.out)).mono ?_;rintro e w2 ⟨r,rfl,-,hb⟩;clear k0 k1 k2 k3 k4 k5 x0 x1 x2 x3 x4 x5;have aoM:=@G _ @abT;exact fy):p:=h
theorem U2(h:p:=by
 clear k0 k1 k2 k3 k4 k5 x0 x1 x2 x3 x4 x5;obtain⟨Gk,Gx,Gr,HW⟩:=o6;have hne0:=Wd.ne wr;have z1z:=@G _ @aj1;exact bF):p:=h
theorem U1(h:p:=by
 refine (aI 1 _).mono ?_;rintro e w3 ⟨rfl,hb⟩;exact aiD):p:=h
theorem U0(h:p:=by
 refine (aI 1 _).mono ?_;rintro e w2 ⟨rfl,hb⟩;exact aiD):p:=h
theorem UZ(h:p:=by
 refine (jE xn xc xz va vl vc zs xd 0 _ z0 z2 z4 (HX.below HB.out)).mono ?_;rintro e w2 ⟨r,rfl,hi,hb⟩;clear k0 k1 k2 k3 k4 k5 x0 x1 x2 x3 x4 x5;have amM:=@G _ @LV;exact da):p:=h
theorem UY(h:p:=by
 have aqv:=@G _ @Ef;exact mL):p:=h
theorem UX(h:p:=by
 clear k0 k1 k2 k3 k4 k5 x0 x1 x2 x3 x4 x5;obtain⟨Gk,Gx,Gr,HW⟩:=o6;have hne0:=Wd.ne wr;have z1z:=@G _ @aj8;exact bF):p:=h
theorem UW(h:p:=by
 have atU:=@G _ @FR;exact sP):p:=h
theorem UT(h:p:=by
 have atU:=@G _ @FQ;exact sP):p:=h
theorem US(h:p:=by
 refine (aI 6 _).mono ?_;rintro e w4 ⟨rfl,hb⟩;clear k0 k1 k2 k3 k4 k5 x0 x1 x2 x3 x4 x5;replace Bk:=upK Bk hb;replace Bx:=upK Bx hb;have κ:=@G _ @af6;exact bI):p:=h
theorem UR(h:p:=by
 refine (aI 7 _).mono ?_;rintro e w4 ⟨rfl,hb⟩;clear k0 k1 k2 k3 k4 k5 x0 x1 x2 x3 x4 x5;have amM:=@G _ @LR;exact da):p:=h
theorem UQ(h:p:=by
 refine (aI 9 _).mono ?_;rintro e w4 ⟨rfl,hb⟩;clear k0 k1 k2 k3 k4 k5 x0 x1 x2 x3 x4 x5;have amM:=@G _ @LQ;exact da):p:=h
theorem dH(h:p:=by
 obtain⟨k0,k1,k2,k3,k4,k5⟩:=cs6 Bk;obtain⟨x0,x1,x2,x3,x4,x5⟩:=cs6 Bx;go_wp2_with fail;exact an4):p:=h
theorem Tl(h:p:=by
 obtain⟨n0,yd,von,hne0,Zv⟩:=ahO;have μ:=G (λq:Wd wr=>yG va vl vc v.zs n.n q.w (σ.below q.b) Zi (⟨λ_=>HIN.out,λ_=>rfl⟩));have ο:=@G _ @K6;exact b_):p:=h
theorem Tk(h:p:=by
 have n0:=λq:Wd wr=>q.slot (o:=0) Gn.out rfl;have yd:=λq:Wd wr=>(q.cell Z3).trans hc1;have hne0:=Wd.ne wr;have z1z:=@G _ @aj2;exact bF):p:=h
theorem Tj(h:p:=by
 obtain⟨n0,yd,von,hne0,Zv⟩:=ahO;have μ:=G (λq:Wd wr=>yG va vl vc v.zs n.n q.w (σ.below q.b) Zg (⟨λh=>bJ,λh=>absurd h HIN.out⟩));have Zw:=@G _ @agn;exact aB):p:=h
theorem pY(h:p:=by
 obtain⟨k0,k1,k2,k3,k4,k5⟩:=cs6 Bk;obtain⟨n0,n1,n2,n3,n4,n5,n6⟩:=cs7 Bn;go_wp2_with fail;clear k0 k1 k2 k3 k4 k5 n0 n1 n2 n3 n4 n5 n6;have Gk:=Bk;have Gn:=Bn;have HW:=HB;obtain⟨k0,k1,k2,k3,k4,k5⟩:=sl6 Gk;exact atL):p:=h
theorem Ti(h:p:=by
 have ZZ:¬n5=k:=af
 rcases g5 with _|⟨b2,f2,sp⟩
 ·exact A3
 all_goals (
  go_wp2_with (first|(at_builtin;refine aq rfl _ _ 27 rfl w9.heap.size 102 i5 (Zj #[I ⟨#[]⟩,V O 0,I ⟨#[]⟩,U J 0 0,I ⟨#[]⟩,V O 0]) 6 88 Tryz.underlying27 Y_.1 Y_.2.1 Y_.2.2.1 Y_.2.2.2 rfl ag _ _ _ rfl (ρ.out) _ k _ (vss.take k).flatten rfl (bA HVA.out af) (λj u hu=>by obtain⟨g,e,ZM,h3⟩:=HCQ.out _ _ (cH hu);cases e <;> exact⟨_,rfl,by simp only[Ym,Yp];exact (ah (aj (w9.setCell ⟨w.heap.size+1,3,J⟩ (U sa vl sc)) _) ZM).trans h3⟩) (aD HV1.out k).1 br af oS ?_))
  intro v5 w5 aa ZF
  replace aa:w5.ownsRow w9.heap.size 102 6 v5 k (vss.take k).flatten:=eg
  have ZI:=(aj (w9.setCell ⟨w.heap.size+1,3,J⟩ (U sa vl sc)) (Ze #[] 102)).grown ZF aF (λg hg=>by simp only[YK,YZ] at hg;omega);obtain⟨s1,s2,s3,rfl⟩:=az aa;have Β:=G aa;have H5:=G ZI;have hs6:=ZI.size;have Bx5:=upK BxU ZI;clear x0 x1 x2 x3 x4 x5;obtain⟨x0,x1,x2,x3,x4,x5⟩:=cs6 Bx5;have Z4:=ae Bx5.out;clear aa ZF ZI o0 o1 o2 o3 o4 o5
  go_wp2_with (first|(at_builtin;refine aq rfl _ _ 27 rfl w9.heap.size 102 i5 (Zj #[I ⟨#[]⟩,V O 0,I ⟨#[]⟩,U J 0 0,I ⟨#[]⟩,V O 0]) 6 88 Tryz.underlying27 Y_.1 Y_.2.1 Y_.2.2.1 Y_.2.2.2 rfl ag _ _ _ rfl (Β.alloc _) _ 1 _ [I xn,V O xc,I xz,U sa vl sc,I xd,V O 0] rfl rfl (λj u hu=>⟨_,rfl,by rw[Ym,Yp,al (heap_alloc_new w5 _)];simpa using hu⟩) dx br af bg ?_))
  intro v6 w6 Zt ZJ;have ZA:Below (w9.setCell ⟨w.heap.size+1,3,J⟩ (U sa vl sc)).heap.size (w9.setCell ⟨w.heap.size+1,3,J⟩ (U sa vl sc)) w6:=(H5.alloc H5.size _).grown ZJ oS (λg hg=>by have:=(Β.lt g hg).1;omega);obtain⟨r1,r2,r3,rfl⟩:=az Zt;have Η:=G Zt;have H6:=G ZA;have hs7:=ZA.size;have Bo6:=upK BoU ZA;obtain⟨o0,o1,o2,o3,o4,o5⟩:=cs6 Bo6;clear Zt ZJ ZA x0 x1 x2 x3 x4 x5 Z4
  go_wp2_with (first|(at_builtin;refine aq rfl _ _ 27 rfl w9.heap.size 102 i5 (Zj #[I ⟨#[]⟩,V O 0,I ⟨#[]⟩,U J 0 0,I ⟨#[]⟩,V O 0]) 6 88 Tryz.underlying27 Y_.1 Y_.2.1 Y_.2.2.1 Y_.2.2.2 rfl ag _ _ _ rfl (Η.out) _ (l5 - k) _ (vss.drop k).flatten rfl ka (λj u hu=>by first|(rw[Yw af] at hu;simp at hu;done)|(obtain⟨g,e,ZM,h3⟩:=HCQ.out _ _ (cS HVA.out af hu);cases e <;> exact⟨_,rfl,by simp only[Ym,Yp];exact (ah H6.out ZM).trans h3⟩)) (aD HV1.out k).2 br af af ?_))
  intro v7 w7 Zb ZK;have Z0:Below (w9.setCell ⟨w.heap.size+1,3,J⟩ (U sa vl sc)).heap.size (w9.setCell ⟨w.heap.size+1,3,J⟩ (U sa vl sc)) w7:=H6.grown ZK af (λg hg=>by have:=(Η.lt g hg).1;omega)
  replace Zb:w7.ownsRow w9.heap.size 102 6 v7 (l5+1) (aQ k [I xn,V O xc,I xz,U sa vl sc,I xd,V O 0] vss).flatten:=by
   have e9:k+1+(l5 - k)=l5+1:=af
   try rw[e9] at Zb
   simpa[aQ] using Zb
  have HU7:=G Z0;have HB7:=upB HU0 Z0;obtain⟨t1,t3,rfl,hR⟩:=aoc.out w7 v7 k HPL.out Z0 Zb;have HR7:=G hR;have Bo7:=upK BoU Z0;have Μ:=upK BrU Z0;clear o0 o1 o2 o3 o4 o5;obtain⟨o0,o1,o2,o3,o4,o5⟩:=cs6 Bo7;obtain⟨r0,r1,r2,r3,r4,r5,r6,r7⟩:=cs8 Μ;have fo4:=ak Bo7.out 4;obtain⟨ZR,ZS,ZT,ZU,ZV,ZY,Z1,Z2⟩:=lL Μ.out;clear Zb ZK Z0 hR hik Γ ZZ
  go_wp2
  refine bodyPost_ret (v:=Zj #[U g1 m1 n1,U g2 m2 n2,U g3 m3 n3,U g4 m4 n4,U t1 (l5+1) t3,V O c.now,I ⟨#[]⟩,V O 0]) nH rfl ⟨⟨g1,m1,n1,g2,m2,n2,g3,m3,n3,g4,m4,n4,t1,l5+1,t3⟩,⟨R7 c (⟨xn,xc,xz,zs,xd,0⟩:Pd),⟨#[]⟩,0⟩,rfl,HV.out,?_,eJ (show w.heap.size<=w.heap.size+1+1 by omega) (ai (show w.heap.size<=w4.heap.size by omega) (HB7.out))⟩
  have Zp:∀k9,wr3<=k9->¬k9=w4.heap.size->(((((((((w7.setCell ⟨w4.heap.size,4,J⟩ (U t1 (l5+1) t3)).setCell ⟨w.heap.size+1+1,0,J⟩ (U g1 m1 n1)).setCell ⟨w.heap.size+1+1,1,J⟩ (U g2 m2 n2)).setCell ⟨w.heap.size+1+1,2,J⟩ (U g3 m3 n3)).setCell ⟨w.heap.size+1+1,3,J⟩ (U g4 m4 n4)).setCell ⟨w.heap.size+1+1,4,J⟩ (U t1 (l5+1) t3)).setCell ⟨w.heap.size+1+1,5,J⟩ (V O c.now)).setCell ⟨w.heap.size+1+1,6,J⟩ (I ⟨#[]⟩)).setCell ⟨w.heap.size+1+1,7,J⟩ (V O 0)).heap[k9]?=w7.heap[k9]?:=λk9 h1 h2=>by rw[Ya _ _ _ _ (show k9≠w.heap.size+1+1 by omega),Ya _ _ _ _ (show k9≠w.heap.size+1+1 by omega),Ya _ _ _ _ (show k9≠w.heap.size+1+1 by omega),Ya _ _ _ _ (show k9≠w.heap.size+1+1 by omega),Ya _ _ _ _ (show k9≠w.heap.size+1+1 by omega),Ya _ _ _ _ (show k9≠w.heap.size+1+1 by omega),Ya _ _ _ _ (show k9≠w.heap.size+1+1 by omega),Ya _ _ _ _ (show k9≠w.heap.size+1+1 by omega),Ya _ _ _ _ (show k9≠w4.heap.size by omega)]
  refine⟨(HFU.n.ay (S':=λk=>w.heap.size<=k) (λk hk s=>(Zp k s.1 gP).trans (HU7.block k hk)) (λ_ _ s=>loq)),(HFU.k.ay (S':=λk=>w.heap.size<=k) (λk hk s=>(Zp k s.1 gP).trans (HU7.block k hk)) (λ_ _ s=>loq)),(HFU.v.ay (S':=λk=>w.heap.size<=k) (λk hk s=>(Zp k s.1 gP).trans (HU7.block k hk)) (λ_ _ s=>loq)),(HFU.x.ay (S':=λk=>w.heap.size<=k) (λk hk s=>(Zp k s.1 gP).trans (HU7.block k hk)) (λ_ _ s=>loq)),(HR7.ay (S':=λk=>w.heap.size<=k) (λk hk s=>Zp k oV oV) (λ_ _ s=>loq))⟩)):p:=h
theorem Th(h:p:=by
 rcases g5 with _|⟨b2,f2,sp⟩
 ·have hl0:l5=0:=Classical.byContradiction λhne0=>by
   exact A3
  obtain rfl:k=0:=af
  subst hl0;by_cases ZZ:n5=0;all_goals (
   go_wp2_with (first|(at_builtin;refine aq rfl _ _ 27 rfl w9.heap.size 102 i5 (Zj #[I ⟨#[]⟩,V O 0,I ⟨#[]⟩,U J 0 0,I ⟨#[]⟩,V O 0]) 6 88 Tryz.underlying27 Y_.1 Y_.2.1 Y_.2.2.1 Y_.2.2.2 rfl ag _ _ _ rfl (ρ.out) _ 0 _ (vss.take 0).flatten rfl (bA HVA.out af) (λj u hu=>by obtain⟨g,e,ZM,h3⟩:=HCQ.out _ _ (cH hu);cases e <;> exact⟨_,rfl,by simp only[Ym,Yp];exact (ah (aj (w9.setCell ⟨w.heap.size+1,3,J⟩ (U sa vl sc)) _) ZM).trans h3⟩) (aD HV1.out 0).1 br af oS ?_))
   intro v5 w5 aa ZF
   replace aa:w5.ownsRow w9.heap.size 102 6 v5 0 (vss.take 0).flatten:=eg
   have ZI:=(aj (w9.setCell ⟨w.heap.size+1,3,J⟩ (U sa vl sc)) (Ze #[] 102)).grown ZF aF (λg hg=>by simp only[YK,YZ] at hg;omega);obtain⟨s1,s2,s3,rfl⟩:=az aa;have Β:=G aa;have H5:=G ZI;have hs6:=ZI.size;have Bx5:=upK BxU ZI;clear x0 x1 x2 x3 x4 x5;obtain⟨x0,x1,x2,x3,x4,x5⟩:=cs6 Bx5;have Z4:=ae Bx5.out;clear aa ZF ZI o0 o1 o2 o3 o4 o5
   go_wp2_with (first|(at_builtin;refine aq rfl _ _ 27 rfl w9.heap.size 102 i5 (Zj #[I ⟨#[]⟩,V O 0,I ⟨#[]⟩,U J 0 0,I ⟨#[]⟩,V O 0]) 6 88 Tryz.underlying27 Y_.1 Y_.2.1 Y_.2.2.1 Y_.2.2.2 rfl ag _ _ _ rfl (Β.alloc _) _ 1 _ [I xn,V O xc,I xz,U sa vl sc,I xd,V O 0] rfl rfl (λj u hu=>⟨_,rfl,by rw[Ym,Yp,al (heap_alloc_new w5 _)];simpa using hu⟩) dx br af bg ?_))
   intro v6 w6 Zt ZJ;have ZA:Below (w9.setCell ⟨w.heap.size+1,3,J⟩ (U sa vl sc)).heap.size (w9.setCell ⟨w.heap.size+1,3,J⟩ (U sa vl sc)) w6:=(H5.alloc H5.size _).grown ZJ oS (λg hg=>by have:=(Β.lt g hg).1;omega);obtain⟨r1,r2,r3,rfl⟩:=az Zt;have Η:=G Zt;have H6:=G ZA;have hs7:=ZA.size;have Bo6:=upK BoU ZA;obtain⟨o0,o1,o2,o3,o4,o5⟩:=cs6 Bo6;clear Zt ZJ ZA x0 x1 x2 x3 x4 x5 Z4
   go_wp2_with (first|(at_builtin;refine aq rfl _ _ 27 rfl w9.heap.size 102 i5 (Zj #[I ⟨#[]⟩,V O 0,I ⟨#[]⟩,U J 0 0,I ⟨#[]⟩,V O 0]) 6 88 Tryz.underlying27 Y_.1 Y_.2.1 Y_.2.2.1 Y_.2.2.2 rfl ag _ _ _ rfl (Η.out) _ (0 - 0) _ (vss.drop 0).flatten rfl ka (λj u hu=>by first|(rw[Yw af] at hu;simp at hu;done)|(obtain⟨g,e,ZM,h3⟩:=HCQ.out _ _ (cS HVA.out af hu);cases e <;> exact⟨_,rfl,by simp only[Ym,Yp];exact (ah H6.out ZM).trans h3⟩)) (aD HV1.out 0).2 br af af ?_))
   intro v7 w7 Zb ZK;have Z0:Below (w9.setCell ⟨w.heap.size+1,3,J⟩ (U sa vl sc)).heap.size (w9.setCell ⟨w.heap.size+1,3,J⟩ (U sa vl sc)) w7:=H6.grown ZK af (λg hg=>by have:=(Η.lt g hg).1;omega)
   replace Zb:w7.ownsRow w9.heap.size 102 6 v7 (1) (aQ 0 [I xn,V O xc,I xz,U sa vl sc,I xd,V O 0] vss).flatten:=by
    have e9:0+1+(0 - 0)=1:=af
    try rw[e9] at Zb
    simpa[aQ] using Zb
   have HU7:=G Z0;have HB7:=upB HU0 Z0;obtain⟨t1,t3,rfl,hR⟩:=aoc.out w7 v7 0 HPL.out Z0 Zb;have HR7:=G hR;have Bo7:=upK BoU Z0;have Μ:=upK BrU Z0;clear o0 o1 o2 o3 o4 o5;obtain⟨o0,o1,o2,o3,o4,o5⟩:=cs6 Bo7;obtain⟨r0,r1,r2,r3,r4,r5,r6,r7⟩:=cs8 Μ;have fo4:=ak Bo7.out 4;obtain⟨ZR,ZS,ZT,ZU,ZV,ZY,Z1,Z2⟩:=lL Μ.out;clear Zb ZK Z0 hR hik Γ ZZ
   go_wp2
   refine bodyPost_ret (v:=Zj #[U g1 m1 n1,U g2 m2 n2,U g3 m3 n3,U g4 m4 n4,U t1 (1) t3,V O c.now,I ⟨#[]⟩,V O 0]) nH rfl ⟨⟨g1,m1,n1,g2,m2,n2,g3,m3,n3,g4,m4,n4,t1,1,t3⟩,⟨R7 c (⟨xn,xc,xz,zs,xd,0⟩:Pd),⟨#[]⟩,0⟩,rfl,HV.out,?_,eJ (show w.heap.size<=w.heap.size+1+1 by omega) (ai (show w.heap.size<=w4.heap.size by omega) (HB7.out))⟩
   have Zp:∀k9,wr3<=k9->¬k9=w4.heap.size->(((((((((w7.setCell ⟨w4.heap.size,4,J⟩ (U t1 (1) t3)).setCell ⟨w.heap.size+1+1,0,J⟩ (U g1 m1 n1)).setCell ⟨w.heap.size+1+1,1,J⟩ (U g2 m2 n2)).setCell ⟨w.heap.size+1+1,2,J⟩ (U g3 m3 n3)).setCell ⟨w.heap.size+1+1,3,J⟩ (U g4 m4 n4)).setCell ⟨w.heap.size+1+1,4,J⟩ (U t1 (1) t3)).setCell ⟨w.heap.size+1+1,5,J⟩ (V O c.now)).setCell ⟨w.heap.size+1+1,6,J⟩ (I ⟨#[]⟩)).setCell ⟨w.heap.size+1+1,7,J⟩ (V O 0)).heap[k9]?=w7.heap[k9]?:=λk9 h1 h2=>by rw[Ya _ _ _ _ (show k9≠w.heap.size+1+1 by omega),Ya _ _ _ _ (show k9≠w.heap.size+1+1 by omega),Ya _ _ _ _ (show k9≠w.heap.size+1+1 by omega),Ya _ _ _ _ (show k9≠w.heap.size+1+1 by omega),Ya _ _ _ _ (show k9≠w.heap.size+1+1 by omega),Ya _ _ _ _ (show k9≠w.heap.size+1+1 by omega),Ya _ _ _ _ (show k9≠w.heap.size+1+1 by omega),Ya _ _ _ _ (show k9≠w.heap.size+1+1 by omega),Ya _ _ _ _ (show k9≠w4.heap.size by omega)]
   refine⟨(HFU.n.ay (S':=λk=>w.heap.size<=k) (λk hk s=>(Zp k s.1 gP).trans (HU7.block k hk)) (λ_ _ s=>loq)),(HFU.k.ay (S':=λk=>w.heap.size<=k) (λk hk s=>(Zp k s.1 gP).trans (HU7.block k hk)) (λ_ _ s=>loq)),(HFU.v.ay (S':=λk=>w.heap.size<=k) (λk hk s=>(Zp k s.1 gP).trans (HU7.block k hk)) (λ_ _ s=>loq)),(HFU.x.ay (S':=λk=>w.heap.size<=k) (λk hk s=>(Zp k s.1 gP).trans (HU7.block k hk)) (λ_ _ s=>loq)),(HR7.ay (S':=λk=>w.heap.size<=k) (λk hk s=>Zp k oV oV) (λ_ _ s=>loq))⟩)
 by_cases ZZ:n5=k;all_goals (
  go_wp2_with (first|(at_builtin;refine aq rfl _ _ 27 rfl w9.heap.size 102 i5 (Zj #[I ⟨#[]⟩,V O 0,I ⟨#[]⟩,U J 0 0,I ⟨#[]⟩,V O 0]) 6 88 Tryz.underlying27 Y_.1 Y_.2.1 Y_.2.2.1 Y_.2.2.2 rfl ag _ _ _ rfl (ρ.out) _ k _ (vss.take k).flatten rfl (bA HVA.out af) (λj u hu=>by obtain⟨g,e,ZM,h3⟩:=HCQ.out _ _ (cH hu);cases e <;> exact⟨_,rfl,by simp only[Ym,Yp];exact (ah (aj (w9.setCell ⟨w.heap.size+1,3,J⟩ (U sa vl sc)) _) ZM).trans h3⟩) (aD HV1.out k).1 br af oS ?_))
  intro v5 w5 aa ZF
  replace aa:w5.ownsRow w9.heap.size 102 6 v5 k (vss.take k).flatten:=eg
  have ZI:=(aj (w9.setCell ⟨w.heap.size+1,3,J⟩ (U sa vl sc)) (Ze #[] 102)).grown ZF aF (λg hg=>by simp only[YK,YZ] at hg;omega);obtain⟨s1,s2,s3,rfl⟩:=az aa;have Β:=G aa;have H5:=G ZI;have hs6:=ZI.size;have Bx5:=upK BxU ZI;clear x0 x1 x2 x3 x4 x5;obtain⟨x0,x1,x2,x3,x4,x5⟩:=cs6 Bx5;have Z4:=ae Bx5.out;clear aa ZF ZI o0 o1 o2 o3 o4 o5
  go_wp2_with (first|(at_builtin;refine aq rfl _ _ 27 rfl w9.heap.size 102 i5 (Zj #[I ⟨#[]⟩,V O 0,I ⟨#[]⟩,U J 0 0,I ⟨#[]⟩,V O 0]) 6 88 Tryz.underlying27 Y_.1 Y_.2.1 Y_.2.2.1 Y_.2.2.2 rfl ag _ _ _ rfl (Β.alloc _) _ 1 _ [I xn,V O xc,I xz,U sa vl sc,I xd,V O 0] rfl rfl (λj u hu=>⟨_,rfl,by rw[Ym,Yp,al (heap_alloc_new w5 _)];simpa using hu⟩) dx br af bg ?_))
  intro v6 w6 Zt ZJ;have ZA:Below (w9.setCell ⟨w.heap.size+1,3,J⟩ (U sa vl sc)).heap.size (w9.setCell ⟨w.heap.size+1,3,J⟩ (U sa vl sc)) w6:=(H5.alloc H5.size _).grown ZJ oS (λg hg=>by have:=(Β.lt g hg).1;omega);obtain⟨r1,r2,r3,rfl⟩:=az Zt;have Η:=G Zt;have H6:=G ZA;have hs7:=ZA.size;have Bo6:=upK BoU ZA;obtain⟨o0,o1,o2,o3,o4,o5⟩:=cs6 Bo6;clear Zt ZJ ZA x0 x1 x2 x3 x4 x5 Z4
  go_wp2_with (first|(at_builtin;refine aq rfl _ _ 27 rfl w9.heap.size 102 i5 (Zj #[I ⟨#[]⟩,V O 0,I ⟨#[]⟩,U J 0 0,I ⟨#[]⟩,V O 0]) 6 88 Tryz.underlying27 Y_.1 Y_.2.1 Y_.2.2.1 Y_.2.2.2 rfl ag _ _ _ rfl (Η.out) _ (l5 - k) _ (vss.drop k).flatten rfl ka (λj u hu=>by first|(rw[Yw af] at hu;simp at hu;done)|(obtain⟨g,e,ZM,h3⟩:=HCQ.out _ _ (cS HVA.out af hu);cases e <;> exact⟨_,rfl,by simp only[Ym,Yp];exact (ah H6.out ZM).trans h3⟩)) (aD HV1.out k).2 br af af ?_))
  intro v7 w7 Zb ZK;have Z0:Below (w9.setCell ⟨w.heap.size+1,3,J⟩ (U sa vl sc)).heap.size (w9.setCell ⟨w.heap.size+1,3,J⟩ (U sa vl sc)) w7:=H6.grown ZK af (λg hg=>by have:=(Η.lt g hg).1;omega)
  replace Zb:w7.ownsRow w9.heap.size 102 6 v7 (l5+1) (aQ k [I xn,V O xc,I xz,U sa vl sc,I xd,V O 0] vss).flatten:=by
   have e9:k+1+(l5 - k)=l5+1:=af
   try rw[e9] at Zb
   simpa[aQ] using Zb
  have HU7:=G Z0;have HB7:=upB HU0 Z0;obtain⟨t1,t3,rfl,hR⟩:=aoc.out w7 v7 k HPL.out Z0 Zb;have HR7:=G hR;have Bo7:=upK BoU Z0;have Μ:=upK BrU Z0;clear o0 o1 o2 o3 o4 o5;obtain⟨o0,o1,o2,o3,o4,o5⟩:=cs6 Bo7;obtain⟨r0,r1,r2,r3,r4,r5,r6,r7⟩:=cs8 Μ;have fo4:=ak Bo7.out 4;obtain⟨ZR,ZS,ZT,ZU,ZV,ZY,Z1,Z2⟩:=lL Μ.out;clear Zb ZK Z0 hR hik Γ ZZ
  go_wp2
  refine bodyPost_ret (v:=Zj #[U g1 m1 n1,U g2 m2 n2,U g3 m3 n3,U g4 m4 n4,U t1 (l5+1) t3,V O c.now,I ⟨#[]⟩,V O 0]) nH rfl ⟨⟨g1,m1,n1,g2,m2,n2,g3,m3,n3,g4,m4,n4,t1,l5+1,t3⟩,⟨R7 c (⟨xn,xc,xz,zs,xd,0⟩:Pd),⟨#[]⟩,0⟩,rfl,HV.out,?_,eJ (show w.heap.size<=w.heap.size+1+1 by omega) (ai (show w.heap.size<=w4.heap.size by omega) (HB7.out))⟩
  have Zp:∀k9,wr3<=k9->¬k9=w4.heap.size->(((((((((w7.setCell ⟨w4.heap.size,4,J⟩ (U t1 (l5+1) t3)).setCell ⟨w.heap.size+1+1,0,J⟩ (U g1 m1 n1)).setCell ⟨w.heap.size+1+1,1,J⟩ (U g2 m2 n2)).setCell ⟨w.heap.size+1+1,2,J⟩ (U g3 m3 n3)).setCell ⟨w.heap.size+1+1,3,J⟩ (U g4 m4 n4)).setCell ⟨w.heap.size+1+1,4,J⟩ (U t1 (l5+1) t3)).setCell ⟨w.heap.size+1+1,5,J⟩ (V O c.now)).setCell ⟨w.heap.size+1+1,6,J⟩ (I ⟨#[]⟩)).setCell ⟨w.heap.size+1+1,7,J⟩ (V O 0)).heap[k9]?=w7.heap[k9]?:=λk9 h1 h2=>by rw[Ya _ _ _ _ (show k9≠w.heap.size+1+1 by omega),Ya _ _ _ _ (show k9≠w.heap.size+1+1 by omega),Ya _ _ _ _ (show k9≠w.heap.size+1+1 by omega),Ya _ _ _ _ (show k9≠w.heap.size+1+1 by omega),Ya _ _ _ _ (show k9≠w.heap.size+1+1 by omega),Ya _ _ _ _ (show k9≠w.heap.size+1+1 by omega),Ya _ _ _ _ (show k9≠w.heap.size+1+1 by omega),Ya _ _ _ _ (show k9≠w.heap.size+1+1 by omega),Ya _ _ _ _ (show k9≠w4.heap.size by omega)]
  refine⟨(HFU.n.ay (S':=λk=>w.heap.size<=k) (λk hk s=>(Zp k s.1 gP).trans (HU7.block k hk)) (λ_ _ s=>loq)),(HFU.k.ay (S':=λk=>w.heap.size<=k) (λk hk s=>(Zp k s.1 gP).trans (HU7.block k hk)) (λ_ _ s=>loq)),(HFU.v.ay (S':=λk=>w.heap.size<=k) (λk hk s=>(Zp k s.1 gP).trans (HU7.block k hk)) (λ_ _ s=>loq)),(HFU.x.ay (S':=λk=>w.heap.size<=k) (λk hk s=>(Zp k s.1 gP).trans (HU7.block k hk)) (λ_ _ s=>loq)),(HR7.ay (S':=λk=>w.heap.size<=k) (λk hk s=>Zp k oV oV) (λ_ _ s=>loq))⟩)):p:=h
theorem yS(h:p:=by
 have HVA:=G hV.all;have HV1:=G hV.one;obtain⟨gh,hg⟩:=hTU.fr;obtain⟨aoc,ρ⟩:=amo;clear hV hcell hTU hg hkf hku;obtain⟨o0,o1,o2,o3,o4,o5⟩:=cs6 Bo9;obtain⟨x0,x1,x2,x3,x4,x5⟩:=cs6 Bx9;have hik:(k:Int)<=n5:=af
 have Γ:k<=n5:=af
 obtain⟨UU,hUU⟩:∃UU,UU=(w9.setCell ⟨w.heap.size+1,3,J⟩ (U sa vl sc)):=⟨_,rfl⟩;exact avI):p:=h
theorem Tf(h:p:=by
 exact bodyPost_ret (v:=Zj #[U J 0 0,U J 0 0,U J 0 0,U J 0 0,U J 0 0,V O 0,I ⟨#[]⟩,V O 7]) nI rfl ⟨ad0,co0 7,rfl,HV.out,jr _ _,sb2 (sb2 (sb2 (sb2 (sb2 (sb2 (sb2 (sb2 (HB.out))))))))⟩):p:=h
theorem Te(h:p:=by
 exact bodyPost_ret (v:=Zj #[U J 0 0,U J 0 0,U J 0 0,U J 0 0,U J 0 0,V O 0,I ⟨#[]⟩,V O 9]) nI rfl ⟨ad0,co0 9,rfl,HV.out,jr _ _,sb2 (sb2 (sb2 (sb2 (sb2 (sb2 (sb2 (sb2 (HB.out))))))))⟩):p:=h
theorem Td(h:p:=by
 go_upto_if 73 with fail;go_cut [10] from 57 to 90 (λs wx=>s=Zm (M ⟨w7.heap.size,0,J⟩)/\Hid (∃sa sl sc vs,rC c t vs/\wx.heap[w7.heap.size]?=M (Ze (Zd d'.a1 d'.l1 d'.c1 d'.a2 d'.l2 d'.c2 sa sl sc d'.a4 d'.l4 d'.c4 d'.a5 d'.l5 d'.c5 c.now) 29 (0,0))/\wx.heap[w.heap.size+1]?=M (Ze #[U J 0 0,U J 0 0,U J 0 0,U J 0 0,U J 0 0,V O 0,I ⟨#[]⟩,V O 0] 33 (0,0))/\av wx d'.a1 d'.l1 d'.c1 7 81 (c.ns.map ndF) (λk=>wr.heap.size<=k/\¬k=w7.heap.size)/\av wx d'.a2 d'.l2 d'.c2 4 72 (c.ks.map kdF) (λk=>wr.heap.size<=k/\¬k=w7.heap.size)/\av wx sa sl sc 8 37 (vs.map vdF) (λk=>wr.heap.size<=k/\¬k=w7.heap.size)/\av wx d'.a4 d'.l4 d'.c4 5 47 (c.xs.map xdF) (λk=>wr.heap.size<=k/\¬k=w7.heap.size)/\av wx d'.a5 d'.l5 d'.c5 6 102 (c.ps.map pdF) (λk=>wr.heap.size<=k/\¬k=w7.heap.size)/\Below w.heap.size w wx));case first=>
  go_wp2_with fail;go_meet;exact⟨rfl,_,_,_,c.vs,Zk ⟨HNO.out,rfl⟩,Bo.out,Br.out,HOQ.n,HOQ.k,HOQ.v,HOQ.x,HOQ.p,HB.out⟩
 case rest=>
  exact PY):p:=h
theorem Tc(h:p:=by
 go_upto_if 73 with fail;go_cut [10] from 57 to 90 (λs wx=>s=Zm (M ⟨w7.heap.size,0,J⟩)/\Hid (∃sa sl sc vs,rC c t vs/\wx.heap[w7.heap.size]?=M (Ze (Zd d'.a1 d'.l1 d'.c1 d'.a2 d'.l2 d'.c2 sa sl sc d'.a4 d'.l4 d'.c4 d'.a5 d'.l5 d'.c5 c.now) 29 (0,0))/\wx.heap[w.heap.size+1]?=M (Ze #[U J 0 0,U J 0 0,U J 0 0,U J 0 0,U J 0 0,V O 0,I ⟨#[]⟩,V O 0] 33 (0,0))/\av wx d'.a1 d'.l1 d'.c1 7 81 (c.ns.map ndF) (λk=>wr.heap.size<=k/\¬k=w7.heap.size)/\av wx d'.a2 d'.l2 d'.c2 4 72 (c.ks.map kdF) (λk=>wr.heap.size<=k/\¬k=w7.heap.size)/\av wx sa sl sc 8 37 (vs.map vdF) (λk=>wr.heap.size<=k/\¬k=w7.heap.size)/\av wx d'.a4 d'.l4 d'.c4 5 47 (c.xs.map xdF) (λk=>wr.heap.size<=k/\¬k=w7.heap.size)/\av wx d'.a5 d'.l5 d'.c5 6 102 (c.ps.map pdF) (λk=>wr.heap.size<=k/\¬k=w7.heap.size)/\Below w.heap.size w wx));case first=>
  cases hky:kc.y
  ·have HKP:Hid (¬Kept c v):=λ⟨j9,k9,h1,h2,h3⟩=>by
    obtain⟨-,rfl⟩:=HT.2.1.2.1.2.2.inj h1 HKC.out (h2.trans HKN.symm);rw[hky] at h3;cases h3
   go_wp2_with fail;refine (rX d'.a3 d'.l3 d'.c3 c.vs v.n j v _ _ HOQ.v (by have h6:=HOQ.v.1;have h7:(c.vs.map vdF).length=d'.l3:=h6;rw[Yq] at h7;omega) HT.2.1.2.2.1.2.2 HJ.out rfl).mono ?_;rintro e w8 ⟨a8,l8,c8,rfl,hN8,hb8⟩;have HN8:=G hN8;have HB8:=G hb8;have Bo8:=upK Bo hb8;have Br8:=upK Br hb8;clear hN8 hb8;obtain⟨s0,s1,s2,s3,s4,s5⟩:=cs6 Bo8;have fs2:=ak Bo8.out 2;go_wp2_with fail;go_meet;exact⟨rfl,a8,l8,c8,_,Zl ⟨j,v,HJ.out,HBD.out,Zk ⟨HKP.out,rfl⟩⟩,an Bo8.out _,(Ya _ _ _ _ (show w.heap.size+1≠w7.heap.size by omega)).trans Br8.out,((HOQ.n.below HB8.out).ay (λk hk s=>Ya _ _ _ _ s.2) (λ_ _ s=>s)),((HOQ.k.below HB8.out).ay (λk hk s=>Ya _ _ _ _ s.2) (λ_ _ s=>s)),HN8.ay (λk hk s=>Ya _ _ _ _ (show k≠w7.heap.size by rcases s with s|s;exact s.2;omega)) (λk _ s=>by rcases s with s|s;exact s;exact⟨by omega,by omega⟩),((HOQ.x.below HB8.out).ay (λk hk s=>Ya _ _ _ _ s.2) (λ_ _ s=>s)),((HOQ.p.below HB8.out).ay (λk hk s=>Ya _ _ _ _ s.2) (λ_ _ s=>s)),ai af (HB.trans (HB8.mono HB.size))⟩
  ·have HKP:Hid (Kept c v):=⟨jk,kc,HKC.out,HKN.out,hky⟩;have hjr:(c.vs.map vdF)[j]?=M (vdF v):=by rw[Yt,HJ.out];rfl
   obtain⟨gv,cur,hgv,hgS,ZM,Δ⟩:=av.inn HOQ.v hjr;have as8:=hgv;have hOV:=HOQ.v;rw[as8] at hOV;obtain⟨⟨u5,c5⟩,f5,⟨u6,c6⟩,f6⟩:=av.ahd hOV HJ.out;have HOV:=G hOV;have HGB:=G Δ;have hlv:(j:Int)<d'.l3:=by have h6:=HOQ.v.1;have h7:(c.vs.map vdF).length=d'.l3:=h6;rw[Yq] at h7;omega
   have azs:=hgS.1;have ayP:=hgS.2;have axu:¬w7.heap.size=gv:=λe=>ayP e.symm;clear hOV Δ hjr hgS hgv;rw[as8] at o2;go_wp2_with fail;go_meet;exact⟨rfl,M ⟨gv,0,J⟩,d'.l3,d'.c3,_,Zl ⟨j,v,HJ.out,HBD.out,Zl ⟨HKP.out,rfl⟩⟩,(Ya _ _ _ _ axu).trans ((Ya _ _ _ _ axu).trans (by rw[<-as8];exact Bo.out)),(Ya _ _ _ _ (show w.heap.size+1≠gv by omega)).trans ((Ya _ _ _ _ (show w.heap.size+1≠gv by omega)).trans Br.out),av.bN (av.bN HOQ.n (Yh _ _) HGB.out ag ag) (Yh _ _) (an HGB.out _) ag ag,av.bN (av.bN HOQ.k (Yh _ _) HGB.out ag ag) (Yh _ _) (an HGB.out _) ag ag,av.C7 HOV.out HJ.out,av.bN (av.bN HOQ.x (Yh _ _) HGB.out ag ag) (Yh _ _) (an HGB.out _) ag ag,av.bN (av.bN HOQ.p (Yh _ _) HGB.out ag ag) (Yh _ _) (an HGB.out _) ag ag,ai af (ai af HB.out)⟩
 case rest=>
  exact PY):p:=h
theorem yR(h:p:=by
 have HQB:Hid (Below (w7.alloc (Ze (Zs d' c.now) 29)).heap.size (w7.alloc (Ze (Zs d' c.now) 29)) q1.w):=q1.b;have hq8:=ae Bo.out;have HOQ:Hid (dw q1.w d' c.raw (λk=>wr.heap.size<=k/\¬k=w7.heap.size)):=by
  exact amt
 generalize q1.w=wq at*;obtain⟨r0,r1,r2,r3,r4,r5,r6,r7⟩:=cs8 Br;obtain⟨o0,o1,o2,o3,o4,o5⟩:=cs6 Bo;exact avE):p:=h
theorem Of(h:p:=by
 have HR:=G hr;have hl2:c.ks.length=l2:=OH
 obtain⟨hl3,hm3⟩:=o_;obtain⟨hl4,hm4⟩:=uY;obtain⟨hl5,hm5⟩:=lK;clear hr;have HB:=G (Yh w.heap.size w);go_enter Tryz.func83,Tryz.ntmps83;have apr:=@G _ @acx;exact iP):p:=h
theorem Oe(h:p:=by
 have HR:=G hr;have hm1:l1<=9223372036854775807:=Yo hr.n.2.1 hr.n.2.2.1;obtain⟨hl3,hm3⟩:=o_;clear hr;have HB:=G (Yh w.heap.size w);go_enter Tryz.func84,Tryz.ntmps84;have apr:=@G _ @acw;exact iP):p:=h
theorem Od(h:p:=by
 have aqB:=@G _ @Jr;exact ni):p:=h
theorem Oc(h:p:=by
 obtain⟨HR,hl1⟩:=lr;obtain⟨hl5,hm5⟩:=lK;clear hr;have HB:=G (Yh w.heap.size w);go_enter Tryz.func86,Tryz.ntmps86;have apr:=@G _ @acu;exact iP):p:=h
theorem N6(h:p:=by
 have HQ1:Hid (w.heap.size+1<q1.w.heap.size):=ae Br.out;obtain⟨k0,k1,k2,k3,k4,k5⟩:=cs6 Bk;go_wp2_with fail;have HLO:=G HB.size;have as_:=@G _ @II;exact tm):p:=h
theorem N5(h:p:=by
 obtain⟨k0,k1,k2,k3,k4,k5⟩:=cs6 Bk;go_wp2_with fail;refine (aI 11 _).mono ?_;rintro e w3 ⟨rfl,hb⟩;have apk:=@G _ @acm;exact iO):p:=h
theorem uK(h:p:=by
 repeat (go_big_quiet_step (first|(go_at_call 110;exact Calls.wide (Zv.out _))|(go_at_call 142;exact Calls.wide (μ.out _))|fail))
 refine wpQuiet_nil ?_;rintro _ ⟨q1,rfl⟩;obtain⟨HB,Bk⟩:=fB;have Br:=upK Gr q1.b;clear hne0 k0 k1 k2 k3 k4 k5 pd4 e0 e1 e2 e3 e4 e5 e6 c4 c5 d0 d1 d2 d3 d4 d5 d6 hbn;exact atI):p:=h
theorem Mj(h:p:=by
 have hpl:=(pj HE.out HXy.out Zz).symm;have avC:=@G _ @WS;exact zG):p:=h
theorem ug(h:p:=by
 rintro _ ⟨q2,rfl⟩;obtain⟨HB6,Ck,Cx,Cr,Co⟩:=AT;clear hne0 HW HB k3 x0 yn Gk Gx Gr Go Bk Bx Br Bo hc0 δ;have HB:=HB6;obtain⟨Bk,Bx,Br⟩:=ig;have Bo:=Co;exact atF):p:=h
theorem Mi(h:p:=by
 have hpl:=(pj HE.out HXy.out Zz).symm;have HPL:=G hpl;clear hpl;obtain⟨hq1,Τ,hs5,h4Q,HQF⟩:=ahR;obtain⟨i0,awt,ZO,η,ZP⟩:=info_parts eQ;have avD:=@G _ @acA;exact zT):p:=h
theorem uf(h:p:=by
 rintro _ ⟨q2,rfl⟩;obtain⟨HB6,Ck,Cx,Cr,Co⟩:=AT;clear hne0 HW HB k4 x0 yn Gk Gx Gr Go Bk Bx Br Bo hc0 δ;have HB:=HB6;obtain⟨Bk,Bx,Br⟩:=ig;have Bo:=Co;exact atG):p:=h
theorem Md(h:p:=by
 rintro _ ⟨q1,rfl⟩;obtain⟨HB,Bk⟩:=fB;clear hne0 k0 k1 k2 k3 k4 k5 mz mn g0;go_wp2;exact avG):p:=h
theorem LZ(h:p:=by
 have HI:=G hi;clear hi;cases r
 ·have HV:Hid (bR c x (co0 1)):=Zl ⟨1,λh=>(by have:=HI.2 h.2.1;cases this),rfl⟩;exact PH
 have HI2:=G (HI.1 bU);by_cases he:x.v=⟨#[]⟩;rotate_left
 ·have hq:=aU he;have HV:Hid (bR c x (co0 1)):=Zl ⟨1,λh=>he h.2.2,rfl⟩;exact PH
 have hq:=cw he;have HO:Hid (au c/\gX x/\x.v=⟨#[]⟩):=⟨HT.out,HI2.out,he⟩;clear he;have apH:=@G _ @Gm;exact jV):p:=h
theorem LY(h:p:=by
 by_cases Zo:k<vl
 ·exact ais
 have Ο:¬(k:Int)<vl:=af
 have an4:=@G _ @UR;exact dH):p:=h
theorem LX(h:p:=by
 by_cases Zo:k<vl
 ·exact ais
 have Ο:¬(k:Int)<vl:=af
 have an4:=@G _ @UQ;exact dH):p:=h
theorem LW(h:p:=by
 rcases hf with ⟨i,y,hy,hyn,rfl⟩|⟨ε,rfl⟩;rotate_left
 ·have HV:Hid (bR c x (co0 6)):=Zl ⟨2,⟨HO.out,HNO.out,by omega,gD ε⟩,rfl⟩;clear ε;have apH:=@G _ @Gl;exact jV
 have HV:Hid (bR c x ⟨R6 c x,⟨#[]⟩,0⟩):=Zk ⟨HO.out,HNO.out,by omega,(bj HT.2.1.2.1.2.2 hy hyn).2,rfl⟩;clear hy hyn;have HQ1:Hid (w.heap.size+1+1<w3.heap.size):=ae Br.out;obtain⟨k0,k1,k2,k3,k4,k5⟩:=cs6 Bk;obtain⟨x0,x1,x2,x3,x4⟩:=cs5 Bx;go_wp2_with fail;have aqv:=@G _ @Ee;exact mL):p:=h
theorem LV(h:p:=by
 have HI:=G hi;clear hi;cases r
 ·have HV:Hid (ct c (⟨xn,xc,xz,zs,xd,0⟩:Pd) (co0 1)):=Zl ⟨1,λh=>(by have:=HI.2 h.2.1;cases this),rfl⟩;exact xf
 have HO:Hid (fI c (⟨xn,xc,xz,zs,xd,0⟩:Pd)):=⟨HT.out,HI.1 bU,rfl⟩;have hv3:vl<=3:=by have h9:(zs.length:Int)<=3:=HO.2.1.2.2.2.1.1;omega
 obtain⟨k0,k1,k2,k3,k4,k5⟩:=cs6 Bk;obtain⟨x0,x1,x2,x3,x4,x5⟩:=cs6 Bx;go_wp2_with fail;clear k0 k1 k2 k3 k4 k5 x0 x1 x2 x3 x4 x5;have HRI:Hid (aH Pd.n c.ps):=HT.2.1.2.2.2.2.2.2;cases hh:hit Pd.n c.ps xn;rotate_left
 ·obtain⟨y,hy,hyn⟩:=cy hh;have HY:=G hy;have HYN:=G hyn;have HV:Hid (ct c (⟨xn,xc,xz,zs,xd,0⟩:Pd) (co0 7)):=Zl ⟨3,⟨HO.out,hh⟩,rfl⟩;clear hy hyn hh;obtain⟨j,hj⟩:∃j,j=pl Pd.n c.ps xn:=⟨_,rfl⟩;rw[<-hj] at HY;clear hj;have hj0:¬(j:Int)<0:=af
  have apI:=@G _ @Ec;exact jU
 have HMS:Hid (∀(j:Nat) y,c.ps[j]?=M y->¬y.n=xn):=λj y h1 h2=>by rw[(bj HRI.out h1 h2).2] at hh;cases hh
 by_cases hfull:8<=l5
 ·have HV:Hid (ct c (⟨xn,xc,xz,zs,xd,0⟩:Pd) (co0 9)):=Zl ⟨4,⟨HO.out,hh,by omega⟩,rfl⟩;clear hh;have apI:=@G _ @Eb;exact jU
 have HNO:=G hh;have ape:l5<8:=af
 clear hh hfull;have apI:=@G _ @Ed;exact jU):p:=h
theorem LU(h:p:=by
 by_cases Zo:k<vl
 ·have Ο:(k:Int)<vl:=af
  obtain⟨b,o,t,rfl,hb,hx,hc,Zq⟩:=(HX.below HB.out).at Zo;have HXT:=G hx;clear hx Zq;rcases hcd with ⟨rfl,HQ⟩|⟨rfl,HQ⟩
  ·cases hh:hit Xd.n c.xs t;rotate_left
   ·obtain⟨y,hy,hyn⟩:=cy hh;have HY:=G hy;have HYN:=G hyn;have HHT:=G hh;clear hy hyn hh;obtain⟨j,hj⟩:∃j,j=pl Xd.n c.xs t:=⟨_,rfl⟩;rw[<-hj] at HY;clear hj;have hj0:¬(j:Int)<0:=af
    have hj1:decide ((j:Int)<0)=Zg:=aF
    have an4:=@G _ @UT;exact dH
   have ayQ:Hid (∀(j:Nat) y,c.xs[j]?=M y->¬y.n=t):=λj y h1 h2=>by rw[(bj HT.2.1.2.2.2.1.2.2 h1 h2).2] at hh;cases hh
   have HHT:Hid (¬(∀(j:Nat) t,zs[j]?=M t->hit Xd.n c.xs t=Zi)):=λh=>(by have h1:=h k t HXT.out;rw[hh] at h1;cases h1);clear hh;have an4:=@G _ @UW;exact dH
  have an4:=@G _ @UX;exact dH
 have Ο:¬(k:Int)<vl:=af
 rcases hcd with ⟨rfl,HQ⟩|⟨rfl,HQ⟩;rotate_left
 ·have HV:Hid (ct c (⟨xn,xc,xz,zs,xd,0⟩:Pd) (co0 6)):=Zl ⟨2,⟨HO.out,HNO.out,by omega,HQ.out⟩,rfl⟩;have an4:=@G _ @US;exact dH
 have HV:Hid (ct c (⟨xn,xc,xz,zs,xd,0⟩:Pd) ⟨R7 c (⟨xn,xc,xz,zs,xd,0⟩:Pd),⟨#[]⟩,0⟩):=Zk ⟨HO.out,HNO.out,by omega,λj t ht=>HQ.out j t (by have h9:j<zs.length:=(Yc.1 ht).1;omega) ht,rfl⟩;clear HQ;have HQ1:Hid (w.heap.size+1+1<wr.heap.size):=ae Br.out;have an4:=@G _ @UY;exact dH):p:=h
theorem LS(h:p:=by
 obtain⟨g1,m1,n1,g2,m2,n2,g3,m3,n3,g4,m4,n4,g5,m5,n5⟩:=d';have hm5:l5=m5:=by have h6:(c.ps.map pdF).length=m5:=ho.p.1;rw[Yq] at h6;omega
 subst hm5;have hmn:l5<=n5:=ho.p.2.1;have hmx:n5<=9223372036854775807:=ho.p.2.2.1;have HFR:=G ho;clear ho;obtain⟨wr3,axv⟩:∃n:Nat,n=wr.heap.size:=⟨_,rfl⟩;rw[<-axv] at HQ1 ν HFR;clear axv Ο Zo hk;obtain⟨k0,k1,k2,k3,k4,k5⟩:=cs6 Bk;obtain⟨x0,x1,x2,x3,x4,x5⟩:=cs6 Bx;go_wp2;clear k0 k1 k2 k3 k4 k5 x0 x1 x2 x3 x4 x5;go_loopw [8] (λvi wr=> ∃k:Nat,k<=l5/\vi=V O k/\Hid (∀(j:Nat) y,j<k->c.ps[j]?=M y->Yk y.n.toList xn.toList=Zi)/\Hid (Below (w4.heap.size+1) (w4.alloc (Ze #[U g1 m1 n1,U g2 m2 n2,U g3 m3 n3,U g4 m4 n4,U g5 l5 n5,V O c.now] 29)) wr)) (λvi _=>l5 - (intOf vi).toNat);case atStart=>exact⟨0,by omega,rfl,λj y hj=>by omega,Yh _ _⟩
 case round=>
  obtain⟨k,hk,rfl,HE,HL⟩:=hrel;have hLs:w4.heap.size+1<=wr.heap.size:=by have:=HL.size;simpa using this
  have π:=(aj w4 (Ze (Zd g1 m1 n1 g2 m2 n2 g3 m3 n3 g4 m4 n4 g5 l5 n5 c.now) 29)).trans (HL.mono af);replace HB:=upB HB π;replace Bk:=upK Bk π;replace Bx:=upK Bx π;replace Br:=upK Br π;have Bo:=G ((HL.block w4.heap.size af).trans (heap_alloc_new w4 (Ze (Zd g1 m1 n1 g2 m2 n2 g3 m3 n3 g4 m4 n4 g5 l5 n5 c.now) 29)));have HB4:=G π;clear π;by_cases Zo:k<l5
  ·obtain⟨b,o,y,rfl,hb,hx,Zc⟩:=db (HR.p.below HB.out) Zo;obtain⟨ya,yl,yc,-,-,-,-,hc0,-,-,-,-,-⟩:=bK Zc;have HXy:=G hx;have δ:=hb;have Ο:(k:Int)<l5:=af
   have hk2:decide ((k:Int)<l5)=Zi:=by simp;omega
   clear hb Zc hx;cases Zz:Yk y.n.toList xn.toList
   ·have atV:=@G _ @GF;exact sU
   ·have atV:=@G _ @GD;exact sU
  ·have Ο:¬(k:Int)<l5:=af
   have hk2:decide ((k:Int)<l5)=Zg:=by simp;omega
   have Gk:=Bk;have Gx:=Bx;have Gr:=Br;have Go:=Bo;obtain⟨HW,k4⟩:=OK;have x0:=λq:Wd wr=>q.slot (o:=0) Gx.out rfl;have hne0:=Wd.ne wr;have z1z:=@G _ @aj5;exact bF):p:=h
theorem LR(h:p:=by
 have aqC:=@G _ @EP;exact mN):p:=h
theorem LQ(h:p:=by
 have aqC:=@G _ @EO;exact mN):p:=h
theorem LO(h:p:=by
 clear Zc Zx z0 z2 z4 hy hx c0 c1 c2 c3;have HC4:=G c4;have HC5:=G c5;clear c4 c5;by_cases hp:x.p=0
 ·have hpb:(x.p==0)=Zi:=iY
  have c5:=HC5.out;have HV:Hid (ez c t (co0 10)):=Zl ⟨8,⟨hl,HT.out,x,HXX.1,HXX.2,hp⟩,rfl⟩;obtain⟨k0,k1,k2,k3,k4,k5⟩:=cs6 Bk;go_wp2_with fail;refine (aI 10 _).mono ?_;rintro e w3 ⟨rfl,hb⟩;have anS:=@G _ @Vf;exact dm
 have hpb:(x.p==0)=Zg:=iY
 obtain⟨jn,n,hnj,hnn,hnu⟩:=HT.node HXI.out hp;have hj1:jn<l1:=by have:=(Yc.1 hnj).1;omega
 have hj0:¬(jn:Int)<0:=af
 obtain⟨bn,on,y,rfl,hbn,hy,Zc⟩:=dF (HR.n.below HB.out) hj1;rw[hnj] at hy;obtain rfl:=Yd hy;obtain⟨ua,ul,uc,hur,u0,u1,d0,d1,d2,d3,d4,d5,d6⟩:=bo Zc;clear Zc hur u0 u1 hy;have HNJ:=G hnj;have HNN:=G hnn;have HNU:=G hnu;have hri:=HT.2.1.1.2.2;have HRN:=G hri;have HPN:=G (bj hri hnj hnn).1;clear hnj hnn hnu hri;have c4:=HC4.out;have c5:=HC5.out;obtain⟨k0,k1,k2,k3,k4,k5⟩:=cs6 Bk;go_wp2_with fail;clear k0 k1 k2 k3 k4 k5;by_cases hg:n.d=Zi/\n.u+5<c.now;rotate_left
 ·have HG:Hid ((n.d && decide (n.u+5<c.now))=Zg):=by
   show (n.d && decide (n.u+5<c.now))=Zg;cases hd:n.d
   ·rfl
   ·simp only[Bool.true_and,decide_eq_false_iff_not];exact λh=>hg ⟨hd,h⟩
  have HV:Hid (ez c t (co0 11)):=Zl ⟨7,⟨hl,HT.out,x,HXX.1,HXX.2,hp,λh=>(by
   obtain⟨m,h1,_,h3,h4⟩:=h;rw[HPN.out,HNJ.out] at h1;obtain rfl:=Yd h1
   exact hg ⟨h3,h4⟩)⟩,rfl⟩
  have an0:=@G _ @ED;exact dP
 have HG:Hid ((n.d && decide (n.u+5<c.now))=Zi):=by
  show (n.d && decide (n.u+5<c.now))=Zi;rw[hg.1];simpa using hg.2
 have HV:Hid (ez c t ⟨evC c t x,⟨#[]⟩,0⟩):=Zk ⟨hl,HT.out,x,HXX.1,HXX.2,hp,⟨n,by rw[HPN.out];exact HNJ.out,HNN.out,hg.1,hg.2⟩,rfl⟩;clear hg;have an0:=@G _ @EE;exact dP):p:=h
theorem LI(h:p:=by
 rintro e w7 ⟨d',rfl,ho,hb⟩;have HQ7:=G hb.size;have HO:=G ho;clear ho;have anS:=@G _ @Vn;exact dm):p:=h
theorem LH(h:p:=by
 rintro e w7 ⟨d',rfl,ho,hb⟩;have HQ7:=G hb.size;have HO:=G ho;clear ho;have anS:=@G _ @Vl;exact dm):p:=h
theorem Lp(h:p:=by
 have aqG:=@G _ @F7;exact mW):p:=h
theorem Lo(h:p:=by
 refine (aI p _).mono ?_;rintro e w2 ⟨rfl,hb⟩;clear k0 k1 k2 k3 k4 k5 Α;have aot:=@G _ @U9;exact eN):p:=h
theorem Lm(h:p:=by
 exact⟨⟨k+1,by omega,by go_num,Zk ⟨rfl,HHT⟩,HL.trans (q3.b.mono HL.size)⟩,by simp[intOf];omega⟩):p:=h
theorem Ll(h:p:=by
 refine⟨⟨k+1,by omega,by go_num,Zl ⟨rfl,λj z hj hz=>?_⟩,HL.trans (q3.b.mono HL.size)⟩,by simp[intOf];omega⟩;by_cases e:j=k
 ·subst e;rw[HXT.out] at hz;obtain rfl:=Yd hz;exact HHT.out
 ·exact HQ.out j z af hz):p:=h
theorem tX(h:p:=by
 go_wp2_with fail;refine cA aW aW ?_;repeat (go_big_quiet_step (first|(go_at_call 33;exact Calls.wide (Zv.out _))|fail))
 refine wpQuiet_nil ?_;rintro _ ⟨q3,rfl⟩;have Ρ:=upB HW q3.b;have Ck:=upK Gk q3.b;have Cx:=upK Gx q3.b;have Cr:=upK Gr q3.b;clear hne0 HW HB Zv k0 k1 k2 k3 k4 k5 x0 x1 x2 x3 x4 x5 tc Gk Gx Gr Bk Bx Br hc hb;have HB:=Ρ;obtain⟨Bk,Bx,Br⟩:=ig;go_wp2;exact atW):p:=h
theorem K6(h:p:=by
 have atJ:=@G _ @Hc;exact sV):p:=h
theorem KZ(h:p:=by
 go_wp2_with fail;refine (aI 1 _).mono ?_;rintro e w3 ⟨rfl,hb⟩;exact aiB):p:=h
theorem KY(h:p:=by
 go_wp2_with fail;exact atH):p:=h
theorem KO(h:p:=by
 have aqA:=@G _ @Fc;exact mP):p:=h
theorem KN(h:p:=by
 have aqA:=@G _ @Fb;exact mP):p:=h
theorem KM(h:p:=by
 go_wp2_with fail;refine (aI p _).mono ?_;rintro e w2 ⟨rfl,hb⟩;have anS:=@G _ @Vh;exact dm):p:=h
theorem nr(h:p:=by
 have HV:=G hV;clear hV;have hp1:(p==0)=Zg:=iZ
 obtain⟨k0,k1,k2,k3,k4,k5⟩:=cs6 Bk;exact aqF):p:=h
theorem Ky(h:p:=by
 clear k0 k1 k2 k3 k4 k5 aoG;have c2:=HC.1;cases hkx:k.x
 ·have HKX:=G hkx;rw[hkx] at d1;clear hkx;have an0:=@G _ @EB;exact dP
 have HKX:=G hkx;rw[hkx] at d1;clear hkx;have an0:=@G _ @EC;exact dP):p:=h
theorem Kx(h:p:=by
 refine (aI 6 _).mono ?_;rintro e w3 ⟨rfl,hb⟩;clear k0 k1 k2 k3 k4 k5 aoG;have aot:=@G _ @U8;exact eN):p:=h
theorem Kw(h:p:=by
 refine (aI 7 _).mono ?_;rintro e w3 ⟨rfl,hb⟩;clear k0 k1 k2 k3 k4 k5 aoG;have aot:=@G _ @U7;exact eN):p:=h
theorem Kt(h:p:=by
 cases r
 ·have HV:Hid (ct c (⟨xn,xc,xz,zs,xd,0⟩:Pd) (co0 1)):=Zl ⟨1,λh=>(by have:=HI.2 h.1;cases this),rfl⟩;exact Pl
 have HT:=G (HI.1 bU);have an4:=@G _ @UZ;exact dH):p:=h
theorem JW(h:p:=by
 refine bodyPost_ret (v:=Zj #[U x1 m1 n1,U x2 m2 n2,U q3 m3' z3,U x4 m4 n4,U x5 m5 n5,V O c.now,I (aC++x.n),V O 0]) oW rfl ⟨⟨x1,m1,n1,x2,m2,n2,q3,m3',z3,x4,m4,n4,x5,m5,n5⟩,⟨dd c i x (aT ⟨#[]⟩ k.z),(aC++x.n),0⟩,rfl,HV.out,?_,sb1 (sb1 (sb1 (sb1 (sb1 (sb1 (sb1 (sb1 (HB4.out))))))))⟩;have hk4:∀k,k<w4.heap.size->(λk=>(λk=>q1.w.heap.size<=k/\k<w3.heap.size) k\/(w3.alloc (Ze (Zd x1 m1 n1 x2 m2 n2 x3 m3 n3 x4 m4 n4 x5 m5 n5 c.now) 29)).heap.size<=k) k->((((((((w4.setCell ⟨w.heap.size+1,0,J⟩ (U x1 m1 n1)).setCell ⟨w.heap.size+1,1,J⟩ (U x2 m2 n2)).setCell ⟨w.heap.size+1,2,J⟩ (U q3 m3' z3)).setCell ⟨w.heap.size+1,3,J⟩ (U x4 m4 n4)).setCell ⟨w.heap.size+1,4,J⟩ (U x5 m5 n5)).setCell ⟨w.heap.size+1,5,J⟩ (V O c.now)).setCell ⟨w.heap.size+1,6,J⟩ (I (aC++x.n))).setCell ⟨w.heap.size+1,7,J⟩ (V O 0)).heap[k]?=w4.heap[k]?:=λk _ h1=>by
  have h0:¬k=w.heap.size+1:=by rcases h1 with ⟨h2,h3⟩|h2;omega;rw[hsv] at h2;omega
  exact A4
 exact PM):p:=h
theorem JV(h:p:=by
 refine bodyPost_ret (v:=Zj #[U x1 m1 n1,U x2 m2 n2,U x3 m3 n3,U x4 m4 n4,U x5 m5 n5,V O c.now,I u.n,V O 0]) oW rfl ⟨⟨x1,m1,n1,x2,m2,n2,x3,m3,n3,x4,m4,n4,x5,m5,n5⟩,⟨dM c i j9 x u,u.n,0⟩,rfl,HV.out,?_,sb1 (sb1 (sb1 (sb1 (sb1 (sb1 (sb1 (sb1 (HB4.out))))))))⟩;have hk4:∀k,k<w4.heap.size->(λk=>q1.w.heap.size<=k/\k<w3.heap.size) k->((((((((w4.setCell ⟨w.heap.size+1,0,J⟩ (U x1 m1 n1)).setCell ⟨w.heap.size+1,1,J⟩ (U x2 m2 n2)).setCell ⟨w.heap.size+1,2,J⟩ (U x3 m3 n3)).setCell ⟨w.heap.size+1,3,J⟩ (U x4 m4 n4)).setCell ⟨w.heap.size+1,4,J⟩ (U x5 m5 n5)).setCell ⟨w.heap.size+1,5,J⟩ (V O c.now)).setCell ⟨w.heap.size+1,6,J⟩ (I u.n)).setCell ⟨w.heap.size+1,7,J⟩ (V O 0)).heap[k]?=w4.heap[k]?:=λk _ h1=>by
  have h0:¬k=w.heap.size+1:=by obtain⟨h2,h3⟩:=h1;omega
  exact A4
 exact PM):p:=h
theorem tM(h:p:=by
 clear hbb hbr hof hkp;obtain⟨o0,o1,o2,o3,o4,o5⟩:=cs6 Bo4;obtain⟨r0,r1,r2,r3,r4,r5,r6,r7⟩:=cs8 Br4;obtain⟨ZR,ZS,ZT,ZU,ZV,ZY,Z1,Z2⟩:=ahG;have hol:=ae Bo4.out;have hrl:=ae Br4.out;obtain⟨auc,aud⟩:=OL;go_wp2;have hlo:=HLO.out;exact atS):p:=h
theorem JS(h:p:=by
 have hrl:w.heap.size+1<w2.heap.size:=ae Br.out;exact Rk):p:=h
theorem JL(h:p:=by
 exact bodyPost_ret (v:=Zj #[U J 0 0,U J 0 0,U J 0 0,U J 0 0,U J 0 0,V O 0,I ⟨#[]⟩,V O p]) uO rfl ⟨ad0,co0 p,rfl,HV.out,(rl0 _ _),sb1 (sb1 (sb1 (sb1 (sb1 (sb1 (sb1 (sb1 (HB.out))))))))⟩):p:=h
theorem JK(h:p:=by
 exact bodyPost_ret (v:=Zj #[U J 0 0,U J 0 0,U J 0 0,U J 0 0,U J 0 0,V O 0,I ⟨#[]⟩,V O 6]) uO rfl ⟨ad0,co0 6,rfl,HV.out,(rl0 _ _),sb1 (sb1 (sb1 (sb1 (sb1 (sb1 (sb1 (sb1 (HB.out))))))))⟩):p:=h
theorem JJ(h:p:=by
 exact bodyPost_ret (v:=Zj #[U J 0 0,U J 0 0,U J 0 0,U J 0 0,U J 0 0,V O 0,I ⟨#[]⟩,V O 10]) uO rfl ⟨ad0,co0 10,rfl,HV.out,(rl0 _ _),sb1 (sb1 (sb1 (sb1 (sb1 (sb1 (sb1 (sb1 (HB.out))))))))⟩):p:=h
theorem Jv(h:p:=by
 have atK:=ae Br.out;obtain⟨ZR,ZS,ZT,ZU,ZV,ZY,Z1,Z2⟩:=dD;go_wp2;refine bodyPost_ret (v:=Zj #[U x1 m1 n1,U x2 m2 n2,U x3 m3 n3,U x4 m4 n4,U (M ⟨g,0,J⟩) m5 n5,V O c.now,I ⟨#[]⟩,V O 0]) uO rfl ⟨⟨x1,m1,n1,x2,m2,n2,x3,m3,n3,x4,m4,n4,M ⟨g,0,J⟩,m5,n5⟩,⟨evC c t x,⟨#[]⟩,0⟩,rfl,HV.out,?_,Below.alloc (sb1 (sb1 (sb1 (sb1 (sb1 (sb1 (sb1 (sb1 (ai (show w.heap.size<=g by omega) (ai (show w.heap.size<=g by omega) HB.out)))))))))) bg _⟩;have hk2:∀k,q1.w.heap.size<=k->k<w3.heap.size->(((((((((((w3.setCell ⟨g,i*6+4,J⟩ (I ⟨#[]⟩)).setCell ⟨g,i*6+5,J⟩ (V O 0)).setCell ⟨w.heap.size+1,0,J⟩ (U x1 m1 n1)).setCell ⟨w.heap.size+1,1,J⟩ (U x2 m2 n2)).setCell ⟨w.heap.size+1,2,J⟩ (U x3 m3 n3)).setCell ⟨w.heap.size+1,3,J⟩ (U x4 m4 n4)).setCell ⟨w.heap.size+1,4,J⟩ (U (M ⟨g,0,J⟩) m5 n5)).setCell ⟨w.heap.size+1,5,J⟩ (V O c.now)).setCell ⟨w.heap.size+1,6,J⟩ (I ⟨#[]⟩)).setCell ⟨w.heap.size+1,7,J⟩ (V O 0)).alloc (Ze (Zd x1 m1 n1 x2 m2 n2 x3 m3 n3 x4 m4 n4 (M ⟨g,0,J⟩) m5 n5 c.now) 29)).heap[k]?=((w3.setCell ⟨g,i*6+4,J⟩ (I ⟨#[]⟩)).setCell ⟨g,i*6+5,J⟩ (V O 0)).heap[k]?:=λk h1 h2=>by
  refine (Yj _ _ _ (by simpa using h2)).trans ?_;exact A4
 have hk3:∀k,q1.w.heap.size<=k->¬k=g->k<w3.heap.size->(((((((((((w3.setCell ⟨g,i*6+4,J⟩ (I ⟨#[]⟩)).setCell ⟨g,i*6+5,J⟩ (V O 0)).setCell ⟨w.heap.size+1,0,J⟩ (U x1 m1 n1)).setCell ⟨w.heap.size+1,1,J⟩ (U x2 m2 n2)).setCell ⟨w.heap.size+1,2,J⟩ (U x3 m3 n3)).setCell ⟨w.heap.size+1,3,J⟩ (U x4 m4 n4)).setCell ⟨w.heap.size+1,4,J⟩ (U (M ⟨g,0,J⟩) m5 n5)).setCell ⟨w.heap.size+1,5,J⟩ (V O c.now)).setCell ⟨w.heap.size+1,6,J⟩ (I ⟨#[]⟩)).setCell ⟨w.heap.size+1,7,J⟩ (V O 0)).alloc (Ze (Zd x1 m1 n1 x2 m2 n2 x3 m3 n3 x4 m4 n4 (M ⟨g,0,J⟩) m5 n5 c.now) 29)).heap[k]?=w3.heap[k]?:=λk h1 h3 h2=>by
  rw[hk2 k h1 h2,Ya _ _ _ _ h3,Ya _ _ _ _ h3]
 obtain⟨⟨cur,H,hbk,_⟩,_⟩:=HST.out;have h2:=(HST.SC (i:=4) rfl ⟨#[]⟩ ag).BP (i:=5) rfl 0;obtain⟨⟨aod,H2,h3,_⟩,_,_⟩:=h2;have hps:(evC c t x).raw.p=(c.ps.map pdF).set i (pdF (idle x)):=by
  show (c.ps.set (pl Pd.n c.ps t) (idle x)).map pdF=_;rw[HPL.out,List.map_set]
 refine⟨?_,?_,?_,?_,?_⟩
 ·exact ((HO.n.dZ hbk.blk ag ag).ay (w':=(((((((((((w3.setCell ⟨g,i*6+4,J⟩ (I ⟨#[]⟩)).setCell ⟨g,i*6+5,J⟩ (V O 0)).setCell ⟨w.heap.size+1,0,J⟩ (U x1 m1 n1)).setCell ⟨w.heap.size+1,1,J⟩ (U x2 m2 n2)).setCell ⟨w.heap.size+1,2,J⟩ (U x3 m3 n3)).setCell ⟨w.heap.size+1,3,J⟩ (U x4 m4 n4)).setCell ⟨w.heap.size+1,4,J⟩ (U (M ⟨g,0,J⟩) m5 n5)).setCell ⟨w.heap.size+1,5,J⟩ (V O c.now)).setCell ⟨w.heap.size+1,6,J⟩ (I ⟨#[]⟩)).setCell ⟨w.heap.size+1,7,J⟩ (V O 0)).alloc (Ze (Zd x1 m1 n1 x2 m2 n2 x3 m3 n3 x4 m4 n4 (M ⟨g,0,J⟩) m5 n5 c.now) 29))) (λk hk s=>hk3 k s.1 s.2 hk) (λ_ _ s=>s)).rl (λk s=>loq)
 ·exact ((HO.k.dZ hbk.blk ag ag).ay (w':=(((((((((((w3.setCell ⟨g,i*6+4,J⟩ (I ⟨#[]⟩)).setCell ⟨g,i*6+5,J⟩ (V O 0)).setCell ⟨w.heap.size+1,0,J⟩ (U x1 m1 n1)).setCell ⟨w.heap.size+1,1,J⟩ (U x2 m2 n2)).setCell ⟨w.heap.size+1,2,J⟩ (U x3 m3 n3)).setCell ⟨w.heap.size+1,3,J⟩ (U x4 m4 n4)).setCell ⟨w.heap.size+1,4,J⟩ (U (M ⟨g,0,J⟩) m5 n5)).setCell ⟨w.heap.size+1,5,J⟩ (V O c.now)).setCell ⟨w.heap.size+1,6,J⟩ (I ⟨#[]⟩)).setCell ⟨w.heap.size+1,7,J⟩ (V O 0)).alloc (Ze (Zd x1 m1 n1 x2 m2 n2 x3 m3 n3 x4 m4 n4 (M ⟨g,0,J⟩) m5 n5 c.now) 29))) (λk hk s=>hk3 k s.1 s.2 hk) (λ_ _ s=>s)).rl (λk s=>loq)
 ·exact ((HO.v.dZ hbk.blk ag ag).ay (w':=(((((((((((w3.setCell ⟨g,i*6+4,J⟩ (I ⟨#[]⟩)).setCell ⟨g,i*6+5,J⟩ (V O 0)).setCell ⟨w.heap.size+1,0,J⟩ (U x1 m1 n1)).setCell ⟨w.heap.size+1,1,J⟩ (U x2 m2 n2)).setCell ⟨w.heap.size+1,2,J⟩ (U x3 m3 n3)).setCell ⟨w.heap.size+1,3,J⟩ (U x4 m4 n4)).setCell ⟨w.heap.size+1,4,J⟩ (U (M ⟨g,0,J⟩) m5 n5)).setCell ⟨w.heap.size+1,5,J⟩ (V O c.now)).setCell ⟨w.heap.size+1,6,J⟩ (I ⟨#[]⟩)).setCell ⟨w.heap.size+1,7,J⟩ (V O 0)).alloc (Ze (Zd x1 m1 n1 x2 m2 n2 x3 m3 n3 x4 m4 n4 (M ⟨g,0,J⟩) m5 n5 c.now) 29))) (λk hk s=>hk3 k s.1 s.2 hk) (λ_ _ s=>s)).rl (λk s=>loq)
 ·exact ((HO.x.dZ hbk.blk ag ag).ay (w':=(((((((((((w3.setCell ⟨g,i*6+4,J⟩ (I ⟨#[]⟩)).setCell ⟨g,i*6+5,J⟩ (V O 0)).setCell ⟨w.heap.size+1,0,J⟩ (U x1 m1 n1)).setCell ⟨w.heap.size+1,1,J⟩ (U x2 m2 n2)).setCell ⟨w.heap.size+1,2,J⟩ (U x3 m3 n3)).setCell ⟨w.heap.size+1,3,J⟩ (U x4 m4 n4)).setCell ⟨w.heap.size+1,4,J⟩ (U (M ⟨g,0,J⟩) m5 n5)).setCell ⟨w.heap.size+1,5,J⟩ (V O c.now)).setCell ⟨w.heap.size+1,6,J⟩ (I ⟨#[]⟩)).setCell ⟨w.heap.size+1,7,J⟩ (V O 0)).alloc (Ze (Zd x1 m1 n1 x2 m2 n2 x3 m3 n3 x4 m4 n4 (M ⟨g,0,J⟩) m5 n5 c.now) 29))) (λk hk s=>hk3 k s.1 s.2 hk) (λ_ _ s=>s)).rl (λk s=>loq)
 ·have hR:av ((w3.setCell ⟨g,i*6+4,J⟩ (I ⟨#[]⟩)).setCell ⟨g,i*6+5,J⟩ (V O 0)) (M ⟨g,0,J⟩) m5 n5 6 102 (evC c t x).raw.p (λk=>q1.w.heap.size<=k/\k<w3.heap.size):=by
   rw[hps];exact⟨by rw[List.length_set];exact HO.p.1,HO.p.2.1,HO.p.2.2.1,Zk ⟨g,aod,H2,rfl,h3⟩⟩
  exact (hR.ay (w':=(((((((((((w3.setCell ⟨g,i*6+4,J⟩ (I ⟨#[]⟩)).setCell ⟨g,i*6+5,J⟩ (V O 0)).setCell ⟨w.heap.size+1,0,J⟩ (U x1 m1 n1)).setCell ⟨w.heap.size+1,1,J⟩ (U x2 m2 n2)).setCell ⟨w.heap.size+1,2,J⟩ (U x3 m3 n3)).setCell ⟨w.heap.size+1,3,J⟩ (U x4 m4 n4)).setCell ⟨w.heap.size+1,4,J⟩ (U (M ⟨g,0,J⟩) m5 n5)).setCell ⟨w.heap.size+1,5,J⟩ (V O c.now)).setCell ⟨w.heap.size+1,6,J⟩ (I ⟨#[]⟩)).setCell ⟨w.heap.size+1,7,J⟩ (V O 0)).alloc (Ze (Zd x1 m1 n1 x2 m2 n2 x3 m3 n3 x4 m4 n4 (M ⟨g,0,J⟩) m5 n5 c.now) 29))) (λk hk s=>hk2 k s.1 s.2) (λ_ _ s=>s)).rl (λk s=>loq)):p:=h
theorem Jr(h:p:=by
 go_enter Tryz.func10,Tryz.ntmps10;have apr:=@G _ @acv;exact iP):p:=h
theorem IQ(h:p:=by
 exact bodyPost_ret (v:=Zj #[U J 0 0,U J 0 0,U J 0 0,U J 0 0,U J 0 0,V O 0,I ⟨#[]⟩,V O 6]) oW rfl ⟨ad0,co0 6,rfl,HV.out,(rl0 _ _),sb1 (sb1 (sb1 (sb1 (sb1 (sb1 (sb1 (sb1 (HB.out))))))))⟩):p:=h
theorem IP(h:p:=by
 exact bodyPost_ret (v:=Zj #[U J 0 0,U J 0 0,U J 0 0,U J 0 0,U J 0 0,V O 0,I ⟨#[]⟩,V O 7]) oW rfl ⟨ad0,co0 7,rfl,HV.out,(rl0 _ _),sb1 (sb1 (sb1 (sb1 (sb1 (sb1 (sb1 (sb1 (HB.out))))))))⟩):p:=h
theorem tt(h:p:=by
 obtain⟨r0,r1,r2,r3,r4,r5,r6,r7⟩:=cs8 Br;have atw:=ae Br.out;obtain⟨ZR,ZS,ZT,ZU,ZV,ZY,Z1,Z2⟩:=dD;have hrl:w.heap.size+1<w3.heap.size:=ae Br.out;go_wp2;exact atQ):p:=h
theorem II(h:p:=by
 have ν:=G hb.size;have apk:=@G _ @acn;exact iO):p:=h
theorem IA(h:p:=by
 have κ:=@G _ @af4;exact bI):p:=h
theorem Iz(h:p:=by
 have κ:=@G _ @af2;exact bI):p:=h
theorem tk(h:p:=by
 clear ε;obtain⟨k0,k1,k2,k3,k4,k5⟩:=cs6 Bk;go_wp2_with fail;refine (aI 6 _).mono ?_;rintro e w3 ⟨rfl,hb⟩;clear k0 k1 k2 k3 k4 k5;replace Bk:=upK Bk hb;exact atN):p:=h
theorem Ia(h:p:=by
 exact avF):p:=h
theorem H_(h:p:=by
 go_loopw [5,6] (λvk vi wr=> ∃(k:Nat),k<=vl/\vi=V O k/\((vk=V O 0/\Hid (∀(j:Nat) t,j<k->zs[j]?=M t->hit Xd.n c.xs t=Zi))\/(vk=V O 6/\Hid (¬(∀(j:Nat) t,zs[j]?=M t->hit Xd.n c.xs t=Zi))))/\Hid (Below q1.w.heap.size q1.w wr)) (λ_ vi _=>vl - (intOf vi).toNat);case atStart=>exact⟨0,by omega,rfl,Zl ⟨rfl,λj t h=>by omega⟩,Yh _ _⟩
 case round=>
  obtain⟨k,hk,rfl,hcd,HL⟩:=hrel;have hb:=HL.out;have amM:=@G _ @LU;exact da):p:=h
theorem sY(h:p:=by
 repeat (go_big_quiet_step (first|(go_at_call 136;exact Calls.wide (Zv.out _))|(go_at_call 63;exact Calls.wide (μ.out _))|fail))
 refine wpQuiet_nil ?_;rintro _ ⟨q1,rfl⟩;obtain⟨Z7,Ck,Cx,Cr⟩:=OQ;clear hne0 HW HB Zv μ k0 k1 k2 k3 k4 k5 x0 x1 x2 x3 x4 x5 Gk Gx Gr Bk Bx Br;have HB:=Z7;obtain⟨Bk,Bx,Br⟩:=ig;obtain⟨k0,k1,k2,k3,k4,k5⟩:=cs6 Bk;obtain⟨x0,x1,x2,x3,x4,x5⟩:=cs6 Bx;go_wp2;clear k0 k1 k2 k3 k4 k5 x0 x1 x2 x3 x4 x5;exact atM):p:=h
theorem Hg(h:p:=by
 have hgo:r=Zi↔Bt c t:=by
  rw[HS.out];constructor
  ·rintro (h|⟨i,p,-,h1,h2⟩)
   ·exact Zl ⟨v,HBD.out,h⟩
   ·exact Zk ⟨i,p,h1,h2⟩
  ·rintro (⟨u,hu,hb⟩|⟨i,p,h1,h2⟩)
   ·exact Zl (by obtain rfl:=aX.inj HT.2.1.2.2.2.1.2.2 HT.2.1.2.2.1.2.2 hu HBD.out;exact hb)
   ·exact Zk ⟨i,p,by have:=(Yc.1 h1).1;omega,h1,h2⟩
 have atX:=@G _ @El;exact sr):p:=h
theorem Hf(h:p:=by
 have hgo:r=Zi↔Bt c t:=by
  rw[HS.out];constructor
  ·rintro (h|⟨i,p,-,h1,h2⟩)
   ·exact h.elim
   ·exact Zk ⟨i,p,h1,h2⟩
  ·rintro (⟨u,hu,hb⟩|⟨i,p,h1,h2⟩)
   ·exact absurd hu (HNO.out u)
   ·exact Zk ⟨i,p,by have:=(Yc.1 h1).1;omega,h1,h2⟩
 have atX:=@G _ @Ek;exact sr):p:=h
theorem sX(h:p:=by
 clear k0 k1 k2 k3 k4 k5 r0 r1 r2 r3 r4 r5 r6 r7;obtain⟨k,r,hk,rfl,rfl,HS,HL4⟩:=hrel;have π:=HL4.out;replace Bk:=upK Bk π;replace Br:=upK Br π;replace HB:=upB HB π;clear π;obtain⟨k0,k1,k2,k3,k4,k5⟩:=cs6 Bk;by_cases Zo:k<l5
 ·exact amD
 obtain rfl:l5=k:=af
 exact atO):p:=h
theorem Hc(h:p:=by
 have HO1:=G (cv HO.out q1.b);have hqs:=q1.b.size;go_wp2_with (first|(at_builtin;refine wpList_append_own _ rfl _ _ 35 rfl (w1.heap.size) 9 i0 (I ⟨#[]⟩) 1 16 Tryz.underlying35 Y_.1 Y_.2.1 Y_.2.2.1 Y_.2.2.2 rfl ag _ _ _ rfl (HO1.alloc _) ⟨q1.w.heap.size,0,J⟩ 1 1 [I y.n] rfl rfl ?c1 ?c2 ?c3 ?c4 ?c5 ?_));case c1=>
  exact O_
 case c2=>intro u hu;rw[List.mem_singleton.1 hu];rfl
 case c3=>unfold maxLen;omega
 case c4=>omega
 case c5=>simp;omega
 rintro v' w4 Z5 ZC -;have HO3:Hid (w4.ownsRow (w1.heap.size) 9 1 v' (m9+1) ((mwL c n.n (ws.take (k+1))).map Yn)):=by
  show World.ownsRow _ _ _ _ _ _ _;rw[alj HY0.out HON.out,List.map_append];exact Z5
 have HL3:=G (((HL.trans (q1.b.mono hLs)).trans ((aj q1.w _).mono (Yo hLs hqs))).grown ZC bg (λg hg=>by have:=(HO1.lt g hg).1;omega));clear Z5 ZC;go_wp2;exact⟨⟨k+1,m9+1,by omega,by omega,by go_num,HO3,HL3⟩,by simp[intOf];omega⟩):p:=h
theorem sV(h:p:=by
 repeat (go_big_quiet_step (first|(go_at_call 64;exact Calls.wide (Zv.out _))|(go_at_call 114;exact Calls.wide (μ.out _))|fail))
 refine wpQuiet_nil ?_;rintro _ ⟨q1,rfl⟩;obtain⟨HB,Bk⟩:=fB;have Bn:=upK Gn q1.b;clear hne0 k0 k1 k2 k3 k4 k5 n0 yd von Z3 hc0 hc1 Zy hc7 hq;exact atJ):p:=h
theorem GF(h:p:=by
 have z1z:=@G _ @aj7;exact bF):p:=h
theorem GD(h:p:=by
 have z1z:=@G _ @aj6;exact bF):p:=h
theorem sU(h:p:=by
 have Gk:Hid (wr.heap[w.heap.size]?=M (Ze (Zd a1 l1 y1 a2 l2 y2 a3 l3 y3 a4 l4 y4 (M ⟨b,o,J⟩) l5 y5 c.now) 29 (0,0))):=Bk.out;have Gx:=Bx;have Gr:=Br;have Go:=Bo;obtain⟨HW,k4⟩:=OK;obtain⟨x0,yn,hne0⟩:=AV;exact atV):p:=h
theorem GC(h:p:=by
 have z1z:=@G _ @aka;exact bF):p:=h
theorem Gz(h:p:=by
 have z1z:=@G _ @aj_;exact bF):p:=h
theorem sS(h:p:=by
 have Gk:Hid (wr.heap[w.heap.size]?=M (Ze (Zd a1 l1 y1 a2 l2 y2 a3 l3 y3 (M ⟨b,o,J⟩) l4 y4 a5 l5 y5 c.now) 29 (0,0))):=Bk.out;have Gx:=Bx;have Gr:=Br;have Go:=Bo;obtain⟨HW,k3⟩:=uV;obtain⟨x0,yn,hne0⟩:=AV;exact atY):p:=h
theorem Gw(h:p:=by
 refine (gg x.n x.z x.k x.x x.v _ z0 z2 z4).mono ?_;rintro e w2 ⟨r,rfl,hi,hb⟩;clear k0 k1 k2 k3 k4 k5 x0 x1 x2 x3 x4;have amM:=@G _ @LZ;exact da):p:=h
theorem Gq(h:p:=by
 refine (aI 1 _).mono ?_;rintro e w2 ⟨rfl,hb⟩;exact aiB):p:=h
theorem Gm(h:p:=by
 clear k0 k1 k2 k3 k4 k5 x0 x1 x2 x3 x4;clear hq;have hri:=HT.2.1.2.2.2.1.2.2;have HRI:=G hri;clear hri;have ay4:=hl4;cases hh:hit Xd.n c.xs x.n;rotate_left
 ·obtain⟨y,hy,hyn⟩:=cy hh;have HY:=G hy;have HYN:=G hyn;have HV:Hid (bR c x (co0 7)):=Zl ⟨3,⟨HO.out,hh⟩,rfl⟩;clear hy hyn hh;obtain⟨j,hj⟩:∃j,j=pl Xd.n c.xs x.n:=⟨_,rfl⟩;rw[<-hj] at HY;clear hj;have hj0:¬(j:Int)<0:=af
  have aqH:=@G _ @Dg;exact mH
 have HMS:Hid (∀(j:Nat) y,c.xs[j]?=M y->¬y.n=x.n):=λj y h1 h2=>by rw[(bj HRI.out h1 h2).2] at hh;cases hh
 by_cases hfull:8<=l4
 ·have HV:Hid (bR c x (co0 9)):=Zl ⟨4,⟨HO.out,hh,by omega⟩,rfl⟩;clear hh;have aqH:=@G _ @Df;exact mH
 have HNO:=G hh;have ape:l4<8:=af
 clear hh hfull;have aqH:=@G _ @Dh;exact mH):p:=h
theorem Gl(h:p:=by
 refine (aI 6 _).mono ?_;rintro e w4 ⟨rfl,hb⟩;clear k0 k1 k2 k3 k4 k5 x0 x1 x2 x3 x4;replace Bk:=upK Bk hb;replace Bx:=upK Bx hb;have κ:=@G _ @af7;exact bI):p:=h
theorem jV(h:p:=by
 obtain⟨k0,k1,k2,k3,k4,k5⟩:=cs6 Bk;obtain⟨x0,x1,x2,x3,x4⟩:=cs5 Bx;go_wp2_with fail;exact apH):p:=h
theorem F8(h:p:=by
 have anS:=@G _ @Vq;exact dm):p:=h
theorem F7(h:p:=by
 clear k0 k1 k2 k3 k4 k5 Α;have aot:=@G _ @U_;exact eN):p:=h
theorem mW(h:p:=by
 refine (gZ ⟨a1,l1,y1,a2,l2,y2,a3,l3,y3,a4,l4,y4,a5,l5,y5⟩ c.now c.xs t _ (HR.x.below HB.out)).mono ?_;rintro e w2 ⟨hb,hf⟩;exact aqG):p:=h
theorem FW(h:p:=by
 have anS:=@G _ @Vi;exact dm):p:=h
theorem FR(h:p:=by
 have Zv:=G (λq:Wd wr=>eX ⟨a1,l1,y1,a2,l2,y2,a3,l3,y3,a4,l4,y4,a5,l5,y5⟩ c.now c.xs t q.w (HR.x.below (HW.trans (q.b.mono HW.size))) ayQ.out);have atW:=@G _ @Lm;exact tX):p:=h
theorem FQ(h:p:=by
 have Zv:=G (λq:Wd wr=>eZ ⟨a1,l1,y1,a2,l2,y2,a3,l3,y3,a4,l4,y4,a5,l5,y5⟩ c.now c.xs t q.w (HR.x.below (HW.trans (q.b.mono HW.size))) HT.2.1.2.2.2.1.2.2 HY.out HYN.out);have atW:=@G _ @Ll;exact tX):p:=h
theorem sP(h:p:=by
 clear k0 k1 k2 k3 k4 k5 x0 x1 x2 x3 x4 x5;have apI:=@G _ @Ea;exact jU):p:=h
theorem Fc(h:p:=by
 have κ:=@G _ @af5;exact bI):p:=h
theorem Fb(h:p:=by
 have κ:=@G _ @af3;exact bI):p:=h
theorem EP(h:p:=by
 exact bodyPost_ret (v:=Zj #[U J 0 0,U J 0 0,U J 0 0,U J 0 0,U J 0 0,V O 0,I ⟨#[]⟩,V O 7]) nH rfl ⟨ad0,co0 7,rfl,HV.out,jr _ _,eJ (show w.heap.size<=w.heap.size+1+1 by omega) (HB.out)⟩):p:=h
theorem EO(h:p:=by
 exact bodyPost_ret (v:=Zj #[U J 0 0,U J 0 0,U J 0 0,U J 0 0,U J 0 0,V O 0,I ⟨#[]⟩,V O 9]) nH rfl ⟨ad0,co0 9,rfl,HV.out,jr _ _,eJ (show w.heap.size<=w.heap.size+1+1 by omega) (HB.out)⟩):p:=h
theorem EE(h:p:=by
 obtain⟨pd4,e0,e1,e2,e3,e4,e5,e6,hne0,Zv⟩:=ahU;have μ:=G (λq:Wd w2=>rU ⟨(M ⟨bn,on,J⟩),l1,y1,a2,l2,y2,a3,l3,y3,a4,l4,y4,(M ⟨b,o,J⟩),l5,y5⟩ c.now n ua ul uc q.w HNU.1 HNU.2 Zi HG.out);have Zw:=@G _ @agp;exact aB):p:=h
theorem ED(h:p:=by
 obtain⟨pd4,e0,e1,e2,e3,e4,e5,e6,hne0,Zv⟩:=ahU;have μ:=G (λq:Wd w2=>rU ⟨(M ⟨bn,on,J⟩),l1,y1,a2,l2,y2,a3,l3,y3,a4,l4,y4,(M ⟨b,o,J⟩),l5,y5⟩ c.now n ua ul uc q.w HNU.1 HNU.2 Zg HG.out);have Zw:=@G _ @ago;exact aB):p:=h
theorem EC(h:p:=by
 obtain⟨xk,kx,hne0,Zv⟩:=ahL;have Zw:=@G _ @agr;exact aB):p:=h
theorem EB(h:p:=by
 obtain⟨xk,kx,hne0,Zv⟩:=ahL;have Zw:=@G _ @agq;exact aB):p:=h
theorem El(h:p:=by
 have apG:=@G _ @LI;exact j6):p:=h
theorem Ek(h:p:=by
 have apG:=@G _ @LH;exact j6):p:=h
theorem sr(h:p:=by
 cases r;rotate_left
 ·exact amC
 have HQR:Hid (w.heap.size+1<wr.heap.size):=ae Br.out;have ZQ:Hid (aiL c t):=⟨aq7.out,λh=>by have h9:=hgo.2 h;cases h9⟩;clear hgo;obtain⟨k0,k1,k2,k3,k4,k5⟩:=cs6 Bk;go_wp2_with fail;exact atX):p:=h
theorem Ei(h:p:=by
 cases r
 ·exact Pl
 have an4:=@G _ @U3;exact dH):p:=h
theorem Eh(h:p:=by
 have HI:=G hi;clear hi;cases r
 ·have HV:Hid (bR c x (co0 1)):=Zl ⟨1,λh=>(by have:=HI.2 h.1;cases this),rfl⟩;have apH:=@G _ @Gq;exact jV
 have HT:=G (HI.1 bU);have apH:=@G _ @Gw;exact jV):p:=h
theorem Ef(h:p:=by
 rintro e w4 ⟨d',rfl,ho,hb⟩;have ν:=G hb.size;clear k0 k1 k2 k3 k4 k5 x0 x1 x2 x3 x4 x5;have amM:=@G _ @LS;exact da):p:=h
theorem Ee(h:p:=by
 rintro e w4 ⟨d',rfl,ho,hb⟩;have ν:=G hb.size;clear k0 k1 k2 k3 k4 k5 x0 x1 x2 x3 x4;replace Bk:=upK Bk hb;replace Bx:=upK Bx hb;replace Br:=upK Br hb;replace HB:=upB HB hb;clear hb;obtain⟨g1,m1,n1,g2,m2,n2,g3,m3,n3,g4,m4,n4,g5,m5,n5⟩:=d';have hm4:l4=m4:=by have h6:(c.xs.map xdF).length=m4:=ho.x.1;rw[Yq] at h6;omega
 subst hm4;have hmn:l4<=n4:=ho.x.2.1;have hmx:n4<=9223372036854775807:=ho.x.2.2.1;obtain⟨vss,H,hV,hcell⟩:=(ho.x.bC (S':=λk=>w3.heap.size<=k/\k<w4.heap.size) (λk hk s=>⟨s,hk⟩)).jK;have hvl:vss.length=l4:=by have h6:vss.length=(c.xs.map xdF).length:=hV.len;rw[Yq] at h6;omega
 have HC:Hid (∀(j:Nat) u,vss.flatten[j]?=M u->∃g,g4=M ⟨g,0,J⟩/\w4.cell? ⟨g,j,J⟩=M u):=λj u hj=>by
  obtain⟨g,e,_,h3⟩:=hcell j u hj;exact⟨g,e,h3⟩
 have σ:=G hV;have HFR:=G ho;clear hV hcell ho;obtain⟨i5,anX,ZO,η,ZP⟩:=info_parts jl;have Y_:=G (Yb anX (Yb ZO (Yb η ZP)));clear anX ZO η ZP;obtain⟨k0,k1,k2,k3,k4,k5⟩:=cs6 Bk;obtain⟨x0,x1,x2,x3,x4⟩:=cs5 Bx;go_wp2;clear k0 k1 k2 k3 k4 k5 x0 x1 x2 x3 x4;go_loopw [7] (λvi wr=> ∃k:Nat,k<=l4/\vi=V O k/\Hid (∀(j:Nat) y,j<k->c.xs[j]?=M y->Yk y.n.toList x.n.toList=Zi)/\Hid (Below (w4.heap.size+1) (w4.alloc (Ze #[U g1 m1 n1,U g2 m2 n2,U g3 m3 n3,U g4 l4 n4,U g5 m5 n5,V O c.now] 29)) wr)) (λvi _=>l4 - (intOf vi).toNat);case atStart=>exact⟨0,by omega,rfl,λj y hj=>by omega,Yh _ _⟩
 case round=>
  obtain⟨k,hk,rfl,HE,HL⟩:=hrel;have hLs:w4.heap.size+1<=wr.heap.size:=by have:=HL.size;simpa using this
  have π:=(aj w4 (Ze (Zd g1 m1 n1 g2 m2 n2 g3 m3 n3 g4 l4 n4 g5 m5 n5 c.now) 29)).trans (HL.mono af);replace HB:=upB HB π;replace Bk:=upK Bk π;replace Bx:=upK Bx π;replace Br:=upK Br π;have Bo:=G ((HL.block w4.heap.size af).trans (heap_alloc_new w4 (Ze (Zd g1 m1 n1 g2 m2 n2 g3 m3 n3 g4 l4 n4 g5 m5 n5 c.now) 29)));have HB4:=G π;clear π;by_cases Zo:k<l4
  ·obtain⟨b,o,y,rfl,hb,hx,Zc⟩:=dB (HR.x.below HB.out) Zo;obtain⟨z0,z2,z4,c0,c1,c2,c3,c4⟩:=bD Zc;have HXy:=G hx;clear Zc hx z0 z2 z4;have δ:=hb;have hc0:=c0;have Ο:(k:Int)<l4:=af
   have hk2:decide ((k:Int)<l4)=Zi:=by simp;omega
   clear hb c0 c1 c2 c3 c4;cases Zz:Yk y.n.toList x.n.toList
   ·have atY:=@G _ @GC;exact sS
   ·have atY:=@G _ @Gz;exact sS
  ·have Ο:¬(k:Int)<l4:=af
   have hk2:decide ((k:Int)<l4)=Zg:=by simp;omega
   have Gk:=Bk;have Gx:=Bx;have Gr:=Br;have Go:=Bo;obtain⟨HW,k3⟩:=uV;have x0:=λq:Wd wr=>q.slot (o:=0) Gx.out rfl;have hne0:=Wd.ne wr;have z1z:=@G _ @aj9;exact bF):p:=h
theorem Ed(h:p:=by
 obtain⟨hne0,Zv⟩:=OX;have μ:=G (λq:Wd w2=>jG l5 8 ape q.w);go_wp2_with fail;refine cA aW aW ?_;have atM:=@G _ @H_;exact sY):p:=h
theorem Ec(h:p:=by
 have hne0:=Wd.ne w2;have Zv:=G (λq:Wd w2=>CN ⟨a1,l1,y1,a2,l2,y2,a3,l3,y3,a4,l4,y4,a5,l5,y5⟩ c.now c.ps xn q.w (HR.p.below (HW.trans (q.b.mono HW.size))) HRI.out HY.out HYN.out);have μ:=G (λq:Wd w2=>fq l5 8 q.w);have Zw:=@G _ @agw;exact aB):p:=h
theorem Eb(h:p:=by
 obtain⟨hne0,Zv⟩:=OX;have μ:=G (λq:Wd w2=>f_ l5 8 hfull q.w);have Zw:=@G _ @agv;exact aB):p:=h
theorem Ea(h:p:=by
 have tc:=λq:Wd wr=>(q.cell hb).trans hc;have hne0:=Wd.ne wr;exact atU):p:=h
theorem jU(h:p:=by
 obtain⟨Gk,Gx,Gr,HW⟩:=o6;obtain⟨k0,k1,k2,k3,k4,k5⟩:=sl6 Gk;obtain⟨x0,x1,x2,x3,x4,x5⟩:=sl6 Gx;exact apI):p:=h
theorem DQ(h:p:=by
 have HI:=G hi;clear hi;obtain⟨k0,k1,k2,k3,k4,k5⟩:=cs6 Bk;obtain⟨r0,r1,r2,r3,r4,r5,r6,r7⟩:=cs8 Br;go_wp2;go_loopw [8,9] (λq iv wr=> ∃(k:Nat) (r:Bool),k<=l5/\q=Zf r/\iv=V O k/\Hid (r=Zi↔(Sn c v\/∃(i:Nat) (p:Pd),i<k/\c.ps[i]?=M p/\InL p.zs t))/\Hid (Below w4.heap.size w4 wr)) (λ_ iv _=>l5 - (intOf iv).toNat);case atStart=>exact⟨0,rb,by omega,rfl,rfl,show _↔_ by rw[HI.out];exact⟨Zl,λh=>h.elim id (λ⟨i,p,h,_⟩=>by omega)⟩,Yh _ _⟩
 case round=>
  have atO:=@G _ @Hg;exact sX):p:=h
theorem DP(h:p:=by
 have HO:=G ho;have Τ:=awq.out;have hq3:=HQ3.out;clear ho;obtain⟨r0,r1,r2,r3,r4,r5,r6,r7⟩:=cs8 Br;go_wp2_with fail;have h5:=(HO.v.bC (S':=λk=>w5.heap.size<=k/\k<w3.heap.size) (λk hk s=>⟨s,hk⟩)).below (aj w3 (Ze (Zs d' c.now) 29));refine (rX d'.a3 d'.l3 d'.c3 c.vs t i x _ _ h5 (by have h6:=HO.v.1;have h7:(c.vs.map vdF).length=d'.l3:=h6;rw[Yq] at h7;have:=HT.sm.v;omega) HRI.out HX.out HN.out).mono ?_;rintro e w4 ⟨a',l',c',rfl,hN,hb⟩;rw[cW] at hN;have avJ:=(aY hb).2;have HNR:=G hN;clear hN h5;clear r0 r1 r2 r3 r4 r5 r6 r7;obtain⟨ZD,Zr⟩:=aY hb;replace Bk:=upK Bk Zr;replace Br:=upK Br Zr;have Bo:=G ZD;replace HB:=upB HB Zr;clear hb Zr ZD;have H34:=G avJ;clear avJ;obtain⟨r0,r1,r2,r3,r4,r5,r6,r7⟩:=cs8 Br;have ay5:=ae Br.out;obtain⟨o0,o1,o2,o3,o4,o5⟩:=cs6 Bo;obtain⟨ZR,ZS,ZT,ZU,ZV,ZY,Z1,Z2⟩:=dD;have fo2:=ak Bo.out 2;go_wp2;refine bodyPost_ret (v:=Zj #[U d'.a1 d'.l1 d'.c1,U d'.a2 d'.l2 d'.c2,U a' l' c',U d'.a4 d'.l4 d'.c4,U d'.a5 d'.l5 d'.c5,V O c.now,I ⟨#[]⟩,V O 0]) AI rfl ⟨⟨d'.a1,d'.l1,d'.c1,d'.a2,d'.l2,d'.c2,a',l',c',d'.a4,d'.l4,d'.c4,d'.a5,d'.l5,d'.c5⟩,⟨Bd c t,⟨#[]⟩,0⟩,rfl,HV.out,?_,sb1 (sb1 (sb1 (sb1 (sb1 (sb1 (sb1 (sb1 (ai (show w.heap.size<=w3.heap.size by omega) (HB.out)))))))))⟩;have Zp:∀k,w5.heap.size<=k->¬k=w3.heap.size->(((((((((w4.setCell ⟨w3.heap.size,2,J⟩ (U a' l' c')).setCell ⟨w.heap.size+1,0,J⟩ (U d'.a1 d'.l1 d'.c1)).setCell ⟨w.heap.size+1,1,J⟩ (U d'.a2 d'.l2 d'.c2)).setCell ⟨w.heap.size+1,2,J⟩ (U a' l' c')).setCell ⟨w.heap.size+1,3,J⟩ (U d'.a4 d'.l4 d'.c4)).setCell ⟨w.heap.size+1,4,J⟩ (U d'.a5 d'.l5 d'.c5)).setCell ⟨w.heap.size+1,5,J⟩ (V O c.now)).setCell ⟨w.heap.size+1,6,J⟩ (I ⟨#[]⟩)).setCell ⟨w.heap.size+1,7,J⟩ (V O 0)).heap[k]?=w4.heap[k]?:=λk h1 h2=>by rw[Ya _ _ _ _ (show k≠w.heap.size+1 by omega),Ya _ _ _ _ (show k≠w.heap.size+1 by omega),Ya _ _ _ _ (show k≠w.heap.size+1 by omega),Ya _ _ _ _ (show k≠w.heap.size+1 by omega),Ya _ _ _ _ (show k≠w.heap.size+1 by omega),Ya _ _ _ _ (show k≠w.heap.size+1 by omega),Ya _ _ _ _ (show k≠w.heap.size+1 by omega),Ya _ _ _ _ (show k≠w.heap.size+1 by omega),Ya _ _ _ _ (show k≠w3.heap.size by omega)]
 refine⟨?_,?_,?_,?_,?_⟩
 ·exact (HO.n.ay (w':=(((((((((w4.setCell ⟨w3.heap.size,2,J⟩ (U a' l' c')).setCell ⟨w.heap.size+1,0,J⟩ (U d'.a1 d'.l1 d'.c1)).setCell ⟨w.heap.size+1,1,J⟩ (U d'.a2 d'.l2 d'.c2)).setCell ⟨w.heap.size+1,2,J⟩ (U a' l' c')).setCell ⟨w.heap.size+1,3,J⟩ (U d'.a4 d'.l4 d'.c4)).setCell ⟨w.heap.size+1,4,J⟩ (U d'.a5 d'.l5 d'.c5)).setCell ⟨w.heap.size+1,5,J⟩ (V O c.now)).setCell ⟨w.heap.size+1,6,J⟩ (I ⟨#[]⟩)).setCell ⟨w.heap.size+1,7,J⟩ (V O 0))) (λk hk s=>(Zp k s af).trans (H34.block k hk)) (λ_ _ s=>s)).rl (λk s=>loq)
 ·exact (HO.k.ay (w':=(((((((((w4.setCell ⟨w3.heap.size,2,J⟩ (U a' l' c')).setCell ⟨w.heap.size+1,0,J⟩ (U d'.a1 d'.l1 d'.c1)).setCell ⟨w.heap.size+1,1,J⟩ (U d'.a2 d'.l2 d'.c2)).setCell ⟨w.heap.size+1,2,J⟩ (U a' l' c')).setCell ⟨w.heap.size+1,3,J⟩ (U d'.a4 d'.l4 d'.c4)).setCell ⟨w.heap.size+1,4,J⟩ (U d'.a5 d'.l5 d'.c5)).setCell ⟨w.heap.size+1,5,J⟩ (V O c.now)).setCell ⟨w.heap.size+1,6,J⟩ (I ⟨#[]⟩)).setCell ⟨w.heap.size+1,7,J⟩ (V O 0))) (λk hk s=>(Zp k s af).trans (H34.block k hk)) (λ_ _ s=>s)).rl (λk s=>loq)
 ·exact (HNR.ay (w':=(((((((((w4.setCell ⟨w3.heap.size,2,J⟩ (U a' l' c')).setCell ⟨w.heap.size+1,0,J⟩ (U d'.a1 d'.l1 d'.c1)).setCell ⟨w.heap.size+1,1,J⟩ (U d'.a2 d'.l2 d'.c2)).setCell ⟨w.heap.size+1,2,J⟩ (U a' l' c')).setCell ⟨w.heap.size+1,3,J⟩ (U d'.a4 d'.l4 d'.c4)).setCell ⟨w.heap.size+1,4,J⟩ (U d'.a5 d'.l5 d'.c5)).setCell ⟨w.heap.size+1,5,J⟩ (V O c.now)).setCell ⟨w.heap.size+1,6,J⟩ (I ⟨#[]⟩)).setCell ⟨w.heap.size+1,7,J⟩ (V O 0))) (λk hk s=>Zp k gQ gQ) (λ_ _ s=>s)).rl (λk s=>loq)
 ·exact (HO.x.ay (w':=(((((((((w4.setCell ⟨w3.heap.size,2,J⟩ (U a' l' c')).setCell ⟨w.heap.size+1,0,J⟩ (U d'.a1 d'.l1 d'.c1)).setCell ⟨w.heap.size+1,1,J⟩ (U d'.a2 d'.l2 d'.c2)).setCell ⟨w.heap.size+1,2,J⟩ (U a' l' c')).setCell ⟨w.heap.size+1,3,J⟩ (U d'.a4 d'.l4 d'.c4)).setCell ⟨w.heap.size+1,4,J⟩ (U d'.a5 d'.l5 d'.c5)).setCell ⟨w.heap.size+1,5,J⟩ (V O c.now)).setCell ⟨w.heap.size+1,6,J⟩ (I ⟨#[]⟩)).setCell ⟨w.heap.size+1,7,J⟩ (V O 0))) (λk hk s=>(Zp k s af).trans (H34.block k hk)) (λ_ _ s=>s)).rl (λk s=>loq)
 ·exact (HO.p.ay (w':=(((((((((w4.setCell ⟨w3.heap.size,2,J⟩ (U a' l' c')).setCell ⟨w.heap.size+1,0,J⟩ (U d'.a1 d'.l1 d'.c1)).setCell ⟨w.heap.size+1,1,J⟩ (U d'.a2 d'.l2 d'.c2)).setCell ⟨w.heap.size+1,2,J⟩ (U a' l' c')).setCell ⟨w.heap.size+1,3,J⟩ (U d'.a4 d'.l4 d'.c4)).setCell ⟨w.heap.size+1,4,J⟩ (U d'.a5 d'.l5 d'.c5)).setCell ⟨w.heap.size+1,5,J⟩ (V O c.now)).setCell ⟨w.heap.size+1,6,J⟩ (I ⟨#[]⟩)).setCell ⟨w.heap.size+1,7,J⟩ (V O 0))) (λk hk s=>(Zp k s af).trans (H34.block k hk)) (λ_ _ s=>s)).rl (λk s=>loq)):p:=h
theorem Du(h:p:=by
 obtain⟨b,o,y,rfl,Z3,hy,Zc⟩:=dB (HR.x.below HB.out) hi4;rw[hx] at hy;obtain rfl:=Yd hy;obtain⟨-,-,-,c0,c1,c2,c3,c4⟩:=bD Zc;clear Zc hy hx hn;have HC:=G (Yb c2 c4);have HBL:=G Z3;clear c0 c1 c2 c3;by_cases hxv:x.v=⟨#[]⟩;rotate_left
 ·have HV:Hid (bH c t (co0 7)):=Zk ⟨hl,HT.out,i,x,j,k,HX.1,HX.2,HK.1,HK.2,Zl ⟨hxv,rfl⟩⟩;have hq:=aU hxv;clear hxv;have aol:=@G _ @Kw;exact ff
 have hq:=cw hxv;have HXV:=G hxv;clear hxv;obtain⟨bk,ok,y,rfl,hbk,hy,Zc⟩:=gR (HR.k.below HB.out) hj2;rw[hkj] at hy;obtain rfl:=Yd hy;obtain⟨-,-,d0,d1,d2,d3⟩:=dh Zc;clear Zc hy hkj Γ d0 d2 d3;have aol:=@G _ @Ky;exact ff):p:=h
theorem Dh(h:p:=by
 obtain⟨hne0,Zv⟩:=OY;have μ:=G (λq:Wd w2=>jG l4 8 ape q.w);go_wp2_with fail;refine cA aW aW ?_;have atH:=@G _ @Vu;exact qd):p:=h
theorem Dg(h:p:=by
 have hne0:=Wd.ne w2;have Zv:=G (λq:Wd w2=>eZ ⟨a1,l1,y1,a2,l2,y2,a3,l3,y3,a4,l4,y4,a5,l5,y5⟩ c.now c.xs x.n q.w (HR.x.below (HW.trans (q.b.mono HW.size))) HRI.out HY.out HYN.out);have μ:=G (λq:Wd w2=>fq l4 8 q.w);have Zw:=@G _ @agy;exact aB):p:=h
theorem Df(h:p:=by
 obtain⟨hne0,Zv⟩:=OY;have μ:=G (λq:Wd w2=>f_ l4 8 hfull q.w);have Zw:=@G _ @agx;exact aB):p:=h
theorem mH(h:p:=by
 obtain⟨Gk,Gx,Gr,HW⟩:=o6;obtain⟨k0,k1,k2,k3,k4,k5⟩:=sl6 Gk;obtain⟨x0,x1,x2,x3,x4⟩:=sl5 Gx;exact aqH):p:=h
namespace Rc
theorem C_(d:Ad) (c:Cl) (x:Xd) (w:World) (hr:aA w d c.raw) (z0:x.n.size<=9223372036854775807) (z2:x.k.size<=9223372036854775807) (z4:x.v.size<=9223372036854775807):
  Calls Tryz.prog 78 #[Zj (Zs d c.now),Zj #[I x.n,V O x.z,I x.k,Zf x.x,I x.v]] w (ry (bR c x) w):=by
 have υ:=@G _ @ab4;exact bQ
theorem CN(d:Ad) (now:Int) (xs:List Pd) (t:ByteArray) (w:World) (hr:aV w d.a5 d.l5 d.c5 6 (xs.map pdF)) (hs:aH Pd.n xs) {j:Nat} {x:Pd} (hx:xs[j]?=M x) (hn:x.n=t):
  Calls Tryz.prog 136 #[Zj (Zs d now),I t] w λe w'=>e=Zh (V O j)/\Below w.heap.size w w':=by
 unfold Zs;refine (mx d now xs t w hr).mono ?_;exact vf
theorem BE(d:Ad) (now:Int) (xs:List Pd) (t:ByteArray) (w:World) (hr:aV w d.a5 d.l5 d.c5 6 (xs.map pdF)) (hn:∀(j:Nat) x,xs[j]?=M x->¬x.n=t):
  Calls Tryz.prog 136 #[Zj (Zs d now),I t] w λe w'=>e=Zh (V O (-1))/\Below w.heap.size w w':=by
 unfold Zs;refine (mx d now xs t w hr).mono ?_;exact u_
theorem ai0 {b:Nat} {a0 a1 a2 a3 a4 a5 v:Value} {T:TypeId} (h:w.heap[b]?=M (Ze #[a0,a1,a2,a3,a4,a5] T (0,0))):Hid ((w.setCell ⟨b,3,J⟩ v).heap[b]?=M (Ze #[a0,a1,a2,v,a4,a5] T (0,0))):=by
 exact an h v
theorem ald {w4:World} {v4:Value} {base n j hh:Nat} {xs:List Pd} {x:Pd} {va:Option Addr} {vl vc:Nat} {vss:List (List Value)} {H:Nat->Nat->Nat} {Q Q2:Nat->Prop} (hV:aR w Q 6 (xs.map pdF) vss H) (Z4:xs.length=n) (hj:j=pl Pd.n xs x.n) (hbs:w.heap.size<=base) (hB4:Below w.heap.size w w4)
  (hxf:∀(i:Nat) f,(pdF x)[i]?=M f->∃v,[I x.n,V O x.c,I x.z,U va vl vc,I x.d,V O x.p][i]?=M v/\f.Fr w hh Q2 v) (hq:∀k,Q k->Q2 k->False) (ho4:w4.ownsRow base 102 6 v4 (n+1) (aQ j [I x.n,V O x.c,I x.z,U va vl vc,I x.d,V O x.p] vss).flatten):
  ∃a' c',v4=U a' (n+1) c'/\av w4 a' (n+1) c' 6 102 ((aQ (pl Pd.n xs x.n) x xs).map pdF) (λk=>(Q k\/Q2 k)\/w.heap.size<=k):=by
 obtain⟨hjn,hV4⟩:=O2;obtain⟨H4,hV5⟩:=hV4.ins (p:=j) (r:=pdF x) (vs:=[I x.n,V O x.c,I x.z,U va vl vc,I x.d,V O x.p]) (hh:=λ_=>hh) rfl rfl (λi f hf=>by
   obtain⟨v,h1,h2⟩:=hxf i f hf
   exact⟨v,h1,h2.ay (λcu _ q=>hB4.block _ (ae q)) (λ_ s=>Zl (Zk s))⟩) (λi zs h hz k r i2 zs2 hr2 ZP ZE e=>by
  obtain⟨v,_,h2⟩:=hxf i _ h;obtain⟨_,_,_,_,_,_,_,_,h3⟩:=h2
  have hkv:k<vss.length:=by rw[hV.len];exact (Yc.1 hr2).1
  obtain⟨v',_,h5⟩:=hV.cell k r _ hr2 (Yi hkv) i2 _ ZP;obtain⟨_,_,_,_,_,_,_,_,h6⟩:=h5
  rcases h3 with h3|⟨_,h3,_⟩
  ·exact hz h3
  ·rcases h6 with h6|⟨_,h6,_⟩
   ·exact ZE h6
   ·rw[e] at h6
    exact hq _ h6 h3) (λi i2 zs zs2 h _ h2 _=>by
  rcases i with _|_|_|_|_|_|i <;> simp[pdF] at h <;> rcases i2 with _|_|_|_|_|_|i2 <;> simp[pdF] at h2 <;> rfl) oT
 have h45:aR w4 (λk=>(Q k\/Q2 k)\/w.heap.size<=k) 6 ((aQ j x xs).map pdF) (aQ j [I x.n,V O x.c,I x.z,U va vl vc,I x.d,V O x.p] vss) H4:=by rw[fj];exact hV5
 have hle:((aQ j x xs).map pdF).length=n+1:=by rw[Yq,di af,Z4]
 exact aij
theorem BZ(d:Ad) (c:Cl) (x:Pd) (va:Option Addr) (vl vc:Nat) (w:World) (hr:aA w d c.raw) (hx:aw w va vl vc x.zs) (z0:x.n.size<=9223372036854775807) (z2:x.z.size<=9223372036854775807) (z4:x.d.size<=9223372036854775807) (hn:¬(x.p=0)):
  Calls Tryz.prog 80 #[Zj (Zs d c.now),Zj #[I x.n,V O x.c,I x.z,U va vl vc,I x.d,V O x.p]] w (ry (ct c x) w):=by
 unfold Zs;have HR:=G hr;have HX:=G hx;have HB:=G (Yh w.heap.size w);have HV:Hid (ct c x (co0 1)):=Zl ⟨1,λh=>hn h.2.2,rfl⟩;have hv1:(x.p==0)=Zg:=by simpa using hn
 clear hr hx hn;go_enter Tryz.func80,Tryz.ntmps80;go_wp2_with fail;refine (cI d c _ (HR.below (HB.trans ((cO _ _ _ _).mono HB.size)))).mono ?_;rintro e w1 ⟨r,rfl,-,hb⟩;have aqD:=@G _ @Ei;exact mM
theorem wN(d:Ad) (c:Cl) (xn:ByteArray) (xc:Int) (xz:ByteArray) (zs:List ByteArray) (xd:ByteArray) (va:Option Addr) (vl vc:Nat) (w:World) (hr:aA w d c.raw) (hx:aw w va vl vc zs) (z0:xn.size<=9223372036854775807) (z2:xz.size<=9223372036854775807) (z4:xd.size<=9223372036854775807):
  Calls Tryz.prog 80 #[Zj (Zs d c.now),Zj #[I xn,V O xc,I xz,U va vl vc,I xd,V O 0]] w (ry (ct c (⟨xn,xc,xz,zs,xd,0⟩:Pd)) w):=by
 have υ:=@G _ @ab3;exact bQ
theorem Db(d:Ad) (c:Cl) (x:Pd) (va:Option Addr) (vl vc:Nat) (w:World) (hr:aA w d c.raw) (hx:aw w va vl vc x.zs) (z0:x.n.size<=9223372036854775807) (z2:x.z.size<=9223372036854775807) (z4:x.d.size<=9223372036854775807):
  Calls Tryz.prog 80 #[Zj (Zs d c.now),Zj #[I x.n,V O x.c,I x.z,U va vl vc,I x.d,V O x.p]] w (ry (ct c x) w):=by
 unfold Zs;by_cases hn:x.p=0
 ·obtain⟨xn,xc,xz,zs,xd,xp⟩:=x;obtain rfl:xp=0:=hn;exact wN d c xn xc xz zs xd va vl vc w hr hx z0 z2 z4
 ·exact BZ d c x va vl vc w hr hx z0 z2 z4 hn
theorem kM(d:Ad) (c:Cl) (k:Nat) (x:Vd) (w:World) (hr:aA w d c.raw) (hx:c.vs[k]?=M x):
  Calls Tryz.prog 138 #[Zj (Zs d c.now),V O k] w (ar (Sn c x) w):=by
 have υ:=@G _ @ab2;exact bQ
theorem rX(a:Option Addr) (len cap:Nat) (xs:List Vd) (t:ByteArray) (i:Nat) (x:Vd) (Q:Nat->Prop) (w:World) (ho:av w a len cap 8 37 (xs.map vdF) Q) (hl:len<=8) (hri:aH Vd.n xs) (hx:xs[i]?=M x) (hn:x.n=t):
  Calls Tryz.prog 139 #[U a len cap,V O i] w λe w'=> ∃a' l' c',e=Zh (U a' l' c')/\av w' a' l' c' 8 37 ((wo Vd.n t xs).map vdF) (λk=>Q k\/w.heap.size<=k)/\Below w.heap.size w w':=by
 have HW:=G (jx hri hx hn);have Z4:xs.length=len:=by have h6:(xs.map vdF).length=len:=ho.1;rw[Yq] at h6;exact h6
 have hi5:i<len:=by have:=(Yc.1 hx).1;omega
 have hmn:=ho.2.1;have hmx:=ho.2.2.1;obtain⟨vss,H,hV,hcell⟩:=ho.jK;have hvl:vss.length=len:=by have h6:vss.length=(xs.map vdF).length:=hV.len;rw[Yq] at h6;omega
 obtain⟨b,hxa,hbS⟩:∃b,a=M ⟨b,0,J⟩/\b<w.heap.size:=by
  exact Pf
 subst hxa;have HC:Hid (∀(j:Nat) u,vss.flatten[j]?=M u->w.cell? ⟨b,j,J⟩=M u):=λj u hj=>by
  obtain⟨g,e,_,h3⟩:=hcell j u hj;cases e;exact h3
 have σ:=G hV;obtain⟨i5,anX,ZO,η,ZP⟩:=info_parts jm;have Y_:=G (Yb anX (Yb ZO (Yb η ZP)));have aoN:World.ownsRow (w.alloc (Ze #[] 37)) w.heap.size 37 8 (U (M ⟨w.heap.size,0,J⟩) 0 0) 0 []:=⟨by simp,Zk ⟨w.heap.size,0,#[],rfl,Ye _,Yf,Ye _,by unfold maxLen;omega,by simp,by simp⟩⟩;have ρ:=G aoN;have hik:(i:Int)<=cap:=af
 clear hV hcell ho hri hx hn anX ZO η ZP aoN;go_enter Tryz.func139,Tryz.ntmps139;go_wp2_with (first|(at_builtin;refine wpList_append_own _ rfl _ _ 25 rfl w.heap.size 37 i5 (Zj #[I ⟨#[]⟩,V O 0,I ⟨#[]⟩,I ⟨#[]⟩,Zf Zg,I ⟨#[]⟩,Zf Zg,U J 0 0]) 8 112 Tryz.underlying25 Y_.1 Y_.2.1 Y_.2.2.1 Y_.2.2.2 rfl ag _ 0 [] rfl (ρ.out) ⟨b,0,J⟩ i cap (vss.take i).flatten rfl ?c1 ?c2 ?c3 ?c4 ?c5 ?c6 ?_));case c1=>exact bA σ.all af
 case c2=>
  intro j u hu;rw[Ym,Yp];exact (ah (aj w _) hbS).trans (HC.out _ _ (cH hu))
 case c3=>exact (aD σ.one i).1
 case c4=>unfold maxLen;omega
 case c5=>omega
 case c6=>simp
 rintro v1 w4 Θ apV -;replace Θ:w4.ownsRow w.heap.size 37 8 v1 i (vss.take i).flatten:=by simpa using Θ
 have π:=((Yh w.heap.size _).alloc (Ye _) _).grown apV aF (λg hg=>by simp[YK] at hg;omega);obtain⟨s1,s2,s3,rfl⟩:=az Θ;have HB4:=G π;have HO4:=G Θ;have hs4:=π.size;clear Θ apV π;have awp:((i:Int)+1)<=len:=af
 by_cases ZZ:cap=i+1
 ·subst ZZ;have hmi:len=i+1:=af
  subst hmi;have hvd:vss.drop (i+1)=[]:=Yw af;go_wp2_with (first|(at_builtin;refine wpList_append_own _ rfl _ _ 25 rfl w.heap.size 37 i5 (Zj #[I ⟨#[]⟩,V O 0,I ⟨#[]⟩,I ⟨#[]⟩,Zf Zg,I ⟨#[]⟩,Zf Zg,U J 0 0]) 8 112 Tryz.underlying25 Y_.1 Y_.2.1 Y_.2.2.1 Y_.2.2.2 rfl ag _ _ _ rfl (HO4.out) ⟨b,0,J⟩ 0 0 [] rfl ?c1 ?c2 ?c3 ?c4 ?c5 ?c6 ?_));case c1=>rfl
  case c2=>intro j u hu;simp at hu
  case c3=>intro u hu;simp at hu
  case c4=>unfold maxLen;omega
  case c5=>omega
  case c6=>omega
  rintro v2 w5 aa ZF -;have alR:(wo Vd.n t xs).length=(i+1) - 1:=by rw[HW.out];simp;omega
  replace aa:w5.ownsRow w.heap.size 37 8 v2 (wo Vd.n t xs).length (vss.take i++vss.drop (i+1)).flatten:=by
   rw[alR,List.flatten_append];rw[hvd];simpa using aa
  exact aiu
 ·go_wp2_with (first|(at_builtin;refine wpList_append_own _ rfl _ _ 25 rfl w.heap.size 37 i5 (Zj #[I ⟨#[]⟩,V O 0,I ⟨#[]⟩,I ⟨#[]⟩,Zf Zg,I ⟨#[]⟩,Zf Zg,U J 0 0]) 8 112 Tryz.underlying25 Y_.1 Y_.2.1 Y_.2.2.1 Y_.2.2.2 rfl ag _ _ _ rfl (HO4.out) ⟨b,(i+1)*8,J⟩ (len - (i+1)) (cap - (i+1)) (vss.drop (i+1)).flatten rfl ?c1 ?c2 ?c3 ?c4 ?c5 ?c6 ?_));case c1=>rw[ep σ.all,hvl]
  case c2=>
   exact Ph
  case c3=>exact (aD σ.one (i+1)).2
  case c4=>unfold maxLen;omega
  case c5=>omega
  case c6=>omega
  rintro v2 w5 aa ZF -;have alR:(wo Vd.n t xs).length=len - 1:=by rw[HW.out];simp;omega
  replace aa:w5.ownsRow w.heap.size 37 8 v2 (wo Vd.n t xs).length (vss.take i++vss.drop (i+1)).flatten:=by
   rw[alR,List.flatten_append];have e9:len - 1=i+(len - (i+1)):=af
   rw[e9];exact aa
  exact aiu
theorem av.C7 {g l cp j:Nat} (hO:av w (M ⟨g,0,J⟩) l cp 8 37 (vs.map vdF) S) (hj:vs[j]?=M v):av ((w.setCell ⟨g,j*8+5,J⟩ (I ⟨#[]⟩)).setCell ⟨g,j*8+6,J⟩ (Zf Zi)) (M ⟨g,0,J⟩) l cp 8 37 ((vs.set j (ahv v)).map vdF) S:=by
 have hjr:(vs.map vdF)[j]?=M (vdF v):=by rw[Yt,hj];rfl
 obtain⟨g',e,hS⟩:=hO.st (aJ.refl S w) hjr;cases e;obtain⟨⟨aod,H2,h3,_⟩,_,_⟩:=(hS.SC (i:=5) rfl ⟨#[]⟩ ag).ai1 (i:=6) rfl Zi;refine⟨by rw[Yq,List.length_set];have:=hO.1;rwa [Yq] at this,hO.2.1,hO.2.2.1,Zk ⟨g,aod,H2,rfl,?_⟩⟩;rw[List.map_set];exact h3
theorem av.ahd {g l cp j:Nat} (hO:av w (M ⟨g,0,J⟩) l cp 8 37 (vs.map vdF) S) (hj:vs[j]?=M v):(∃u,w.cell? ⟨g,j*8+5,J⟩=M u)/\w.frozen? ⟨g,j*8+5,J⟩=Zg/\(∃u,w.cell? ⟨g,j*8+6,J⟩=M u)/\w.frozen? ⟨g,j*8+6,J⟩=Zg:=by
 have hjr:(vs.map vdF)[j]?=M (vdF v):=by rw[Yt,hj];rfl
 obtain⟨a1,a2⟩:=av.atT hO (Yh _ _) hjr (i:=5) rfl;obtain⟨b1,b2⟩:=av.atT hO (Yh _ _) hjr (i:=6) rfl;exact⟨a1,a2,b1,b2⟩
theorem BS(d:Ad) (c:Cl) (t:ByteArray) (w:World) (hr:aA w d c.raw):
  Calls Tryz.prog 83 #[Zj (Zs d c.now),I t] w (jw (dv c t) w):=by
 have aow:=@G _ @Of;exact fU
theorem BT(d:Ad) (c:Cl) (t:ByteArray) (w:World) (hr:aA w d c.raw):
  Calls Tryz.prog 84 #[Zj (Zs d c.now),I t] w (jw (cN c t) w):=by
 have aow:=@G _ @Oe;exact fU
theorem kN(d:Ad) (c:Cl) (t:ByteArray) (w:World) (hr:aA w d c.raw):
  Calls Tryz.prog 10 #[Zj (Zs d c.now),I t] w (jw (bH c t) w):=by
 have aow:=@G _ @Od;exact fU
theorem wJ(d:Ad) (c:Cl) (t:ByteArray) (w:World) (hr:aA w d c.raw):
  Calls Tryz.prog 10 #[Zj (Zs d c.now),I t] w (am5 (bH c t) w):=(kN d c t w hr).mono λ_ _ h=>h.s
theorem BO(d:Ad) (c:Cl) (t:ByteArray) (w:World) (hr:aA w d c.raw):
  Calls Tryz.prog 86 #[Zj (Zs d c.now),I t] w (jw (ez c t) w):=by
 have aow:=@G _ @Oc;exact fU
theorem yG(a:Option Addr) (len cap:Nat) (zs:List ByteArray) (t:ByteArray) (w:World) (hr:aw w a len cap zs) (r:Bool) (h:r=Zi↔InL zs t):
  Calls Tryz.prog 114 #[U a len cap,I t] w λe w'=>e=Zh (Zf r)/\Below w.heap.size w w':=by
 refine (bZ a len cap zs t w hr).mono ?_;exact O8
def mwB(c:Cl) (t:ByteArray) (q:Qd):Bool:=(q.d.toList==t.toList) && c.vs.any λv=>(v.n.toList==q.n.toList) && inB v.zs t
def mwL(c:Cl) (t:ByteArray) (qs:List Qd):List ByteArray:=(qs.filter (mwB c t)).map Qd.n
theorem alj(h:xs[k]?=M x) (hv:mwB c t x=Zi):mwL c t (xs.take (k+1))=mwL c t (xs.take k)++[x.n]:=by
 unfold mwL;exact qQ
theorem amK(h:xs[k]?=M x) (hv:mwB c t x=Zg):mwL c t (xs.take (k+1))=mwL c t (xs.take k):=by
 unfold mwL;exact qQ
theorem agW {a:Option Addr} {len cap:Nat} (h:aV w a len cap 2 (xs.map qdF)) (j:Nat) (z:ByteArray) (hz:(mwL c t xs)[j]?=M z):z.size<=9223372036854775807:=by
 have avH:=@G _ @acV;exact zY
theorem xK {i:Nat} (hv:aH Vd.n c.vs) (hi:c.vs[i]?=M v) (hn:v.n=q.n) (hd:q.d=t):mwB c t q=Zi↔InL v.zs t:=by
 unfold mwB;rw[aP hd,Bool.true_and,List.any_eq_true];constructor
 ·rintro⟨v',hm,he⟩;obtain⟨i',hi'⟩:=YG hm;rw[YI] at he;obtain⟨_,rfl⟩:=hv.inj hi' hi ((dy he.1).trans hn.symm);exact eR.1 he.2
 ·intro h;exact⟨v,Yv hi,by rw[YI];exact⟨aP hn,eR.2 h⟩⟩
theorem alk(hd:¬q.d=t):mwB c t q=Zg:=by unfold mwB;rw[bu hd];rfl
theorem aH.rtM {α:Type} {nm:α->ByteArray} {xs:List α} (h:aH nm xs):RT (xs.map nm):=by
 exact QO
theorem kV.rt(h:aH Vd.n c.vs):RT (kV c t c.vs):=List.Pairwise.sublist (List.filter_sublist.map _) h.rtM
theorem mwL.rt {qs:List Qd} (h:RQ qs):RT (mwL c t qs):=by
 unfold mwL RT;rw[List.pairwise_map];refine List.Pairwise.imp_of_mem ?_ (List.Pairwise.filter _ h);intro a b ha hb hab;have e1:=(List.mem_filter.1 ha).2;have e2:=(List.mem_filter.1 hb).2;unfold mwB at e1 e2;rw[YI] at e1 e2;unfold dY at hab;rw[Bool.or_eq_true,YI] at hab;rcases hab with h1|⟨_,h1⟩
 ·exact h1
 ·rw[dy e1.1,dy e2.1,eG] at h1;cases h1
theorem Ru {ws:List Qd} (hT:au c) (ht:¬t=⟨#[]⟩) (hr:RQ ws) (hm:∀q,q∈ws↔Wn c c.ps.length q):mwL c t ws=kV c t c.vs:=by
 have hv:=hT.2.1.2.2.1.2.2;refine (mwL.rt hr).ext (kV.rt hv) (λs=>?_);unfold mwL kV;rw[List.mem_map,List.mem_map];constructor
 ·rintro⟨q,hq,rfl⟩;obtain⟨hq1,Τ⟩:=List.mem_filter.1 hq;obtain⟨j,p,_,hp,_,k,cl,v,hk,hb,rfl⟩:=(hm q).1 hq1;have hpd:p.d=t:=by unfold mwB at Τ;rw[YI] at Τ;exact dy Τ.1
  obtain⟨i,jv,x,h1,h2,h3,h4⟩:=hb;have hon:=(xK (q:=⟨v.n,p.d⟩) hv h3 rfl hpd).1 Τ;have ZE:¬x.v=⟨#[]⟩:=by rw[<-h4];exact aN.ne (hT.2.1.2.2.1.2.1 jv v h3).1
  obtain⟨i',j',x',v',k1,k2,k3,k4,k5,k6,_⟩:=(hT.2.2.1.2 i x h1).2.resolve_left ZE;obtain⟨_,rfl⟩:=hv.inj k3 h3 (k4.trans h4.symm);refine⟨v',List.mem_filter.2 ⟨Yv h3,?_⟩,rfl⟩;unfold alm;rw[YI];refine⟨eR.2 hon,eh.2 ⟨j,p,hp,hpd,k,?_⟩⟩;rw[hk,k6,h2]
 ·have asY:=@G _ @acB;exact qy
theorem aiT(h:Wn c k q):∃(i:Nat) (v:Vd),c.vs[i]?=M v/\v.n=q.n:=by
 obtain⟨j,p,_,_,_,i,t,v,_,⟨i2,j2,x,_,_,h3,_⟩,rfl⟩:=h;exact⟨j2,v,h3,rfl⟩
theorem CX(d:Ad) (c:Cl) (n:Nd) (na:Option Addr) (nl nc:Nat) (w:World) (hr:aA w d c.raw) (hT:au c) (ht:¬n.n=⟨#[]⟩):
  Calls Tryz.prog 75 #[Zj (Zs d c.now),Zj #[I n.n,I n.z,V O n.c,V O n.s,V O n.u,Zf n.d,U na nl nc]] w λe w'=> ∃a l q,e=Zh (U a l q)/\bG w' a l q (kV c n.n c.vs) (λk=>w.heap.size<=k)/\Below w.heap.size w w':=by
 have υ:=@G _ @ab1;exact bQ
end Rc
end Go.Proofs.YtcnmlpiffcldkaaGreatDoor

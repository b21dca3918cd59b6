import Derived.Test.YtcnmlpiffcldkaaGreatDoorN4
import Derived.Test.YtcnmlpiffcldkaaGreatDoorN6
import Derived.Test.YtcnmlpiffcldkaaGreatDoorN7
import Derived.Test.YtcnmlpiffcldkaaGreatDoorRows
import Derived.WalkKit
import Derived.WalkSpells
import Derived.OwnWalk
import Derived.Outline
import Derived.RegionTactic
import Derived.BigRegion
import Derived.ChangeAlike
import Derived.Deep.QuietTactic
import Derived.BigQuiet
import Derived.Laws.Rows
import Derived.Lib.VarintMem
import Derived.Lib.Hide
import Derived.Lib.Slices
import Derived.Laws.IdiomStrings
import Derived.Deep.RegionWith
import Derived.Laws.AppendOwn
import Derived.Deep.Cut
import Derived.Deep.CutRange
import Derived.Deep.RegionLaw
/-
 What the laws on kinds call besides: measures, copies, comparisons.
-/
set_option maxRecDepth 100000
set_option maxHeartbeats 12800000
open Bool renaming false→Zg,true→Zi
open Go.Ending renaming returned→Zh
open Go.IntKind renaming i64→O
open Go.Obj renaming cells→Ze
open Go.Value renaming string→I,slice→U,int→V,bool→Zf,agg→Zj,pointer→Zm,tuple→Zn
open Option renaming none→J,some→M
open Or renaming inr→Zk,inl→Zl
open And renaming intro→Yb
open Array renaming getElem?_push_size→Yf, getD_eq_getD_getElem?→Ys, getElem?_eq_some_iff→YA, getElem?_setIfInBounds→YH
open Bool renaming and_eq_true→YI
open Go.Act renaming put→Y0
open Go.Addr renaming add_lit→Ym
open Go.Builtin renaming append_→YY
open Go.Calls renaming quiet_of_same→YD
open Go.Op renaming bytesLess→Yk
open Go.Region renaming wanted→YR, ready→YU
open Go.RowKit.Below renaming heap_setCell→Ya, refl→Yh, heap_alloc→Yj
open Go.Value renaming string→Yn, ownBlock→YK
open Go.World renaming setCell→YV, cell?→YX
open List renaming getElem?_eq_some_iff→Yc, lookup→Yg, getElem?_eq_getElem→Yi, length_map→Yq, setIfInBounds_toArray→Yr, getElem?_map→Yt, getElem?_append_left→Yu, mem_of_getElem?→Yv, drop_eq_nil_of_le→Yw, set_cons_zero→Yx, set_cons_succ→Yy, take_of_length_le→YB, getElem?_take→YC, length_take→YF, getElem?_of_mem→YG, forall_mem_cons→YL, take_add_one→YM, getElem?_drop→YN, eq_nil_of_length_eq_zero→YO, length_append→YP, foldr→YQ, mem_cons→YT
open Nat renaming le_refl→Ye, lt_of_lt_of_le→Yl, le_trans→Yo, zero_add→Yp, le_succ→Yz, zero_le→YJ
open Option renaming map_eq_some_iff→YE
open Option.some renaming inj→Yd, injEq→YZ
namespace Go.Proofs.YtcnmlpiffcldkaaGreatDoor
variable {p:Prop}
namespace Mk
end Mk
namespace Dk
end Dk
open Go.RowKit Mk Dk
variable {α:Type} {B b cap g i j k len m:Nat} {E:Prop} {Is:Rc.Co->Prop} {K:Act->World->Prop} {P:Program} {Q:Exit->Act->World->Prop} {S:Nat->Prop} {T:TypeId} {W w w' w0 w1 wa wr:World} {a:Option Addr} {c:Rc.Cl} {cs:Array Value} {d:Rc.Ad} {e:Ending} {f:Rc.Pd->Int} {h:Rc.Pd->Rc.Pd} {lv v v' v0 v1 v2:Value} {o:Rc.Co} {ops:Array Oper} {ps:List Rc.Pd} {sz:Int} {t:ByteArray} {x:Rc.Pd} {xs:List Value} {zs:List ByteArray}
theorem ei(h:p:=by have:=HP.out;omega):p:=h
theorem gQ(h:p:=by rcases s with s|s <;> omega):p:=h
theorem lk(h:p:=by simp[results,Tryz.results76,go_sem, *]):p:=h
theorem uP(h:p:=by simp[results,Tryz.results77,go_sem, *]):p:=h
theorem AK(h:p:=by simp[results,Tryz.results79,go_sem, *]):p:=h
theorem OD(h:p:=by simp[results,Tryz.results82,go_sem, *]):p:=h
theorem OC(h:p:=by simp[results,Tryz.results88,go_sem, *]):p:=h
theorem OB(h:p:=by simp[results,Tryz.results89,go_sem, *]):p:=h
theorem OA(h:p:=by simp[results,Tryz.results90,go_sem, *]):p:=h
theorem Ow(h:p:=by simp[results,Tryz.results72,go_sem]):p:=h
theorem amy(h:p:=by
 go_wp2;have hlo:=HLO.out;refine bodyPost_ret (v:=Zj #[U x1 m1 n1,U x2 m2 n2,U x3 m3 n3,U x4 m4 n4,U t1 t2 t3,V O c.now,I ⟨#[]⟩,V O 0]) OD rfl ⟨⟨x1,m1,n1,x2,m2,n2,x3,m3,n3,x4,m4,n4,t1,t2,t3⟩,⟨Bf c t,⟨#[]⟩,0⟩,rfl,HV.out,?_,sb1 (sb1 (sb1 (sb1 (sb1 (sb1 (sb1 (sb1 (ai (show w.heap.size<=w3.heap.size by omega) (Ρ.out)))))))))⟩;have Zp:∀k,w2.heap.size<=k->¬k=w3.heap.size->(((((((((w5.setCell ⟨w3.heap.size,4,J⟩ (U t1 t2 t3)).setCell ⟨w.heap.size+1,0,J⟩ (U x1 m1 n1)).setCell ⟨w.heap.size+1,1,J⟩ (U x2 m2 n2)).setCell ⟨w.heap.size+1,2,J⟩ (U x3 m3 n3)).setCell ⟨w.heap.size+1,3,J⟩ (U x4 m4 n4)).setCell ⟨w.heap.size+1,4,J⟩ (U t1 t2 t3)).setCell ⟨w.heap.size+1,5,J⟩ (V O c.now)).setCell ⟨w.heap.size+1,6,J⟩ (I ⟨#[]⟩)).setCell ⟨w.heap.size+1,7,J⟩ (V O 0)).heap[k]?=w5.heap[k]?:=λk h1 h2=>by rw[Ya _ _ _ _ (show k≠w.heap.size+1 by omega),Ya _ _ _ _ (show k≠w.heap.size+1 by omega),Ya _ _ _ _ (show k≠w.heap.size+1 by omega),Ya _ _ _ _ (show k≠w.heap.size+1 by omega),Ya _ _ _ _ (show k≠w.heap.size+1 by omega),Ya _ _ _ _ (show k≠w.heap.size+1 by omega),Ya _ _ _ _ (show k≠w.heap.size+1 by omega),Ya _ _ _ _ (show k≠w.heap.size+1 by omega),Ya _ _ _ _ (show k≠w3.heap.size by omega)]
 refine⟨?_,?_,?_,?_,?_⟩
 ·exact (HO.n.ay (w':=(((((((((w5.setCell ⟨w3.heap.size,4,J⟩ (U t1 t2 t3)).setCell ⟨w.heap.size+1,0,J⟩ (U x1 m1 n1)).setCell ⟨w.heap.size+1,1,J⟩ (U x2 m2 n2)).setCell ⟨w.heap.size+1,2,J⟩ (U x3 m3 n3)).setCell ⟨w.heap.size+1,3,J⟩ (U x4 m4 n4)).setCell ⟨w.heap.size+1,4,J⟩ (U t1 t2 t3)).setCell ⟨w.heap.size+1,5,J⟩ (V O c.now)).setCell ⟨w.heap.size+1,6,J⟩ (I ⟨#[]⟩)).setCell ⟨w.heap.size+1,7,J⟩ (V O 0))) (λk hk s=>(Zp k s af).trans (H35.block k hk)) (λ_ _ s=>s)).rl (λk s=>loq)
 ·exact (HO.k.ay (w':=(((((((((w5.setCell ⟨w3.heap.size,4,J⟩ (U t1 t2 t3)).setCell ⟨w.heap.size+1,0,J⟩ (U x1 m1 n1)).setCell ⟨w.heap.size+1,1,J⟩ (U x2 m2 n2)).setCell ⟨w.heap.size+1,2,J⟩ (U x3 m3 n3)).setCell ⟨w.heap.size+1,3,J⟩ (U x4 m4 n4)).setCell ⟨w.heap.size+1,4,J⟩ (U t1 t2 t3)).setCell ⟨w.heap.size+1,5,J⟩ (V O c.now)).setCell ⟨w.heap.size+1,6,J⟩ (I ⟨#[]⟩)).setCell ⟨w.heap.size+1,7,J⟩ (V O 0))) (λk hk s=>(Zp k s af).trans (H35.block k hk)) (λ_ _ s=>s)).rl (λk s=>loq)
 ·exact (HO.v.ay (w':=(((((((((w5.setCell ⟨w3.heap.size,4,J⟩ (U t1 t2 t3)).setCell ⟨w.heap.size+1,0,J⟩ (U x1 m1 n1)).setCell ⟨w.heap.size+1,1,J⟩ (U x2 m2 n2)).setCell ⟨w.heap.size+1,2,J⟩ (U x3 m3 n3)).setCell ⟨w.heap.size+1,3,J⟩ (U x4 m4 n4)).setCell ⟨w.heap.size+1,4,J⟩ (U t1 t2 t3)).setCell ⟨w.heap.size+1,5,J⟩ (V O c.now)).setCell ⟨w.heap.size+1,6,J⟩ (I ⟨#[]⟩)).setCell ⟨w.heap.size+1,7,J⟩ (V O 0))) (λk hk s=>(Zp k s af).trans (H35.block k hk)) (λ_ _ s=>s)).rl (λk s=>loq)
 ·exact (HO.x.ay (w':=(((((((((w5.setCell ⟨w3.heap.size,4,J⟩ (U t1 t2 t3)).setCell ⟨w.heap.size+1,0,J⟩ (U x1 m1 n1)).setCell ⟨w.heap.size+1,1,J⟩ (U x2 m2 n2)).setCell ⟨w.heap.size+1,2,J⟩ (U x3 m3 n3)).setCell ⟨w.heap.size+1,3,J⟩ (U x4 m4 n4)).setCell ⟨w.heap.size+1,4,J⟩ (U t1 t2 t3)).setCell ⟨w.heap.size+1,5,J⟩ (V O c.now)).setCell ⟨w.heap.size+1,6,J⟩ (I ⟨#[]⟩)).setCell ⟨w.heap.size+1,7,J⟩ (V O 0))) (λk hk s=>(Zp k s af).trans (H35.block k hk)) (λ_ _ s=>s)).rl (λk s=>loq)
 ·exact (HR5.ay (w':=(((((((((w5.setCell ⟨w3.heap.size,4,J⟩ (U t1 t2 t3)).setCell ⟨w.heap.size+1,0,J⟩ (U x1 m1 n1)).setCell ⟨w.heap.size+1,1,J⟩ (U x2 m2 n2)).setCell ⟨w.heap.size+1,2,J⟩ (U x3 m3 n3)).setCell ⟨w.heap.size+1,3,J⟩ (U x4 m4 n4)).setCell ⟨w.heap.size+1,4,J⟩ (U t1 t2 t3)).setCell ⟨w.heap.size+1,5,J⟩ (V O c.now)).setCell ⟨w.heap.size+1,6,J⟩ (I ⟨#[]⟩)).setCell ⟨w.heap.size+1,7,J⟩ (V O 0))) (λk hk s=>Zp k gQ gQ) (λ_ _ s=>s)).rl (λk s=>loq)):p:=h
theorem A4(h:p:=by
 rw[Ya _ _ _ _ (show k≠w.heap.size+1 by omega),Ya _ _ _ _ (show k≠w.heap.size+1 by omega),Ya _ _ _ _ (show k≠w.heap.size+1 by omega),Ya _ _ _ _ (show k≠w.heap.size+1 by omega),Ya _ _ _ _ (show k≠w.heap.size+1 by omega),Ya _ _ _ _ (show k≠w.heap.size+1 by omega),Ya _ _ _ _ (show k≠w.heap.size+1 by omega),Ya _ _ _ _ (show k≠w.heap.size+1 by omega)]):p:=h
theorem aiw(h:p:=by
 have apo:=@G _ @UN;exact iK):p:=h
theorem vg(h:p:=by
 rcases hp with ⟨h1,rfl⟩|⟨h1,h2,rfl⟩|⟨h1,h2,rfl⟩
 ·exact Zl ⟨by decide,Zl ⟨0,h1,rfl⟩⟩
 ·exact Zl ⟨by decide,Zl ⟨1,⟨h1,h2⟩,rfl⟩⟩
 ·exact Zk ⟨rfl,h1,h2⟩):p:=h
theorem Pf(h:p:=by
 have h1:vss[i]?=M (vss[i]'(by omega)):=Yi _;have h2:0<(vss[i]'(by omega)).length:=by rw[hV.all i _ h1];decide
 obtain⟨g,e,_,h3⟩:=hcell _ _ (gF hV.all h1 (Yi h2));exact⟨g,e,a_ h3⟩):p:=h
theorem air(h:p:=by
 exact PN):p:=h
theorem aio(h:p:=by
 clear k0 k1 k2 k3 k4 k5 x0 x1 x2 x3 x4 x5 x6 x7;replace Bk:=upK Bk hb;replace Bx:=upK Bx hb;have κ:=@G _ @af8;exact bI):p:=h
theorem ah9(h:p:=by
 obtain⟨ns,l1,rfl⟩:=kW agV c.ns r1 a1 b1;obtain⟨ks,l2,rfl⟩:=kW agZ c.ks r2 a2 b2;obtain⟨vs,l3,rfl⟩:=kW Sv c.vs r3 a3 b3;obtain⟨xs,l4,rfl⟩:=kW Sq c.xs r4 a4 b4;obtain⟨ps,l5,rfl⟩:=kW agP c.ps r5 a5 b5;exact⟨⟨ns,ks,vs,xs,ps,c.now⟩,⟨l1,l2,l3,l4,l5,rfl⟩,⟨e1,e2,e3,e4,e5⟩⟩):p:=h
theorem O9(h:p:=by
 rcases h with h|⟨_,_,_,_,rfl⟩
 ·exact jq (λi hi a=>by rcases a.cases with ⟨rfl,_⟩|⟨rfl,_⟩|⟨rfl,_⟩|⟨rfl,_⟩ <;> omega) h h0
 ·exact⟨rfl,rfl⟩):p:=h
theorem ah5(h:p:=by
 clear hc;by_cases h20:12<(len:Int) / 20
 ·go_wp2;go_ret;exact⟨_,rfl,yD ((HB.ai2 _).ai2 _) ((HX.setCell (Ye _) _).setCell (Ye _) _) HR.out m0 m1 ag ag⟩
 ·go_wp2;go_ret;exact⟨_,rfl,yD (HB.ai2 _) (HX.setCell (Ye _) _) HR.out m0 m1 af af⟩):p:=h
theorem QY(h:p:=by
 rw[YM,Yt,hx,List.set_append_right _ _ af,h1,Nat.sub_self];have h2:ps.drop k=x ::ps.drop (k+1):=by rw[List.drop_eq_getElem_cons hk];rw[(Yc.1 hx).2]
 rw[h2];simp):p:=h
theorem QM(h:p:=by
 rintro e w1 ⟨t,rfl,ht,hs,hg⟩;have HR:Hid (t.size<=100/\Src B w0 p v len w1/\w.grownBy w1 (M p)):=⟨ht,hs,hg⟩;clear ht hs hg;go_wp2_with fail;go_ret;exact⟨t,rfl,HR.out⟩):p:=h
theorem QI(h:p:=by
 obtain⟨r0,b1,b2⟩:=back j' r' i' ZB Λ hi' hz';obtain⟨r3,b3,b4⟩:=back j2 r2 i2 zs2 hj2 hi2 ZP;exact h1.inj j' r0 i' ZB j2 r3 i2 zs2 b1 b2 hz' b3 b4 ZP hH):p:=h
theorem QG(h:p:=by
 rcases h with h|⟨n,_,⟨_,rfl⟩|⟨_,rfl⟩⟩
 ·exact jq Bq h h0
 ·cases h0
 ·exact⟨by show (c.ns.set _ _).length=_;rw[List.length_set],rfl⟩):p:=h
theorem Qv(h:p:=by
 exact jq (λi hi a=>by rcases a.cases with ⟨rfl,_⟩|⟨rfl,_⟩|⟨rfl,_⟩|⟨rfl,_⟩|⟨rfl,_⟩ <;> omega) h h0):p:=h
theorem ak0(h:p:=by
 intro j' r' i' ZB Λ hi' hz;rcases e_ h3 hil Λ hi' with ⟨_,_,e⟩|⟨_,q⟩
 ·cases e;exact absurd rfl hz
 ·exact q):p:=h
theorem Qa(h:p:=by
 rw[hg2.block w1.heap.size aF (λe=>by simp at e;omega)];show (w1.heap.push _)[w1.heap.size]?=_;simp):p:=h
theorem P9(h:p:=by
 exact bodyPost_ret (v:=Zn #[]) (by simp[results,Tryz.results74,go_sem]) rfl ⟨⟨_,rfl⟩,HO2.out,HK.out⟩):p:=h
theorem P3(h:p:=by
 intro j r hj;rw[Yt] at hj;obtain⟨x,_,rfl⟩:=YE.1 hj;exact h x):p:=h
theorem P1(h:p:=by
 rw[List.getElem?_append_right bg];simp[Nat.min_eq_left (show k<=ps.length by omega)]):p:=h
theorem PN(h:p:=by
 exact⟨(HG.1.ay hk4 (λ_ _ s=>s)).rl (λk s=>loq),(HG.2.1.ay hk4 (λ_ _ s=>s)).rl (λk s=>loq),(HG.2.2.1.ay hk4 (λ_ _ s=>s)).rl (λk s=>loq),(HG.2.2.2.1.ay hk4 (λ_ _ s=>s)).rl (λk s=>loq),(HG.2.2.2.2.ay hk4 (λ_ _ s=>s)).rl (λk s=>loq)⟩):p:=h
theorem Pu(h:p:=by
 rw[hns];exact⟨by rw[List.length_set];exact HO.n.1,HO.n.2.1,HO.n.2.2.1,Zk ⟨g,aod,H2,rfl,h3⟩⟩):p:=h
theorem amn(h:p:=by
 have y0:=ck0 q3;have y1:=ck1 q3;have yf1:=ak q3 1;have y2:=ck2 q3;have y3:=ck3 q3;have y4:=ck4 q3;have y5:=ck5 q3;have yf5:=ak q3 5;have y6:=ck6 q3;have yf6:=ak q3 6;have y7:=ck7 q3;have yf7:=ak q3 7;have avs:=@G _ @acT;exact zW):p:=h
theorem ahW(h:p:=by
 have y0:=ck0 q3;have y1:=ck1 q3;have yf1:=ak q3 1;have y2:=ck2 q3;have yf2:=ak q3 2;have y3:=ck3 q3;have y4:=ck4 q3;have yf4:=ak q3 4;have avs:=@G _ @acS;exact zW):p:=h
theorem OQ(h:p:=by
 have Z7:=upB HW q1.b;have Ck:=upK Gk q1.b;have Cx:=upK Gx q1.b;have Cr:=upK Gr q1.b;exact Yb Z7 (Yb Ck (Yb Cx Cr))):p:=h
theorem al_(h:p:=by
 have fo0:=ak Bo5.out 0;have fo1:=ak Bo5.out 1;have fo2:=ak Bo5.out 2;have fo3:=ak Bo5.out 3;have fo4:=ak Bo5.out 4;have fo5:=ak Bo5.out 5;have avt:=@G _ @V2;exact zm):p:=h
theorem al9(h:p:=by
 have HT:Hid (au c):=ZQ.2.1;have hj1:j<l1:=by have:=(Yc.1 HNJ.out).1;omega
 have hj2:(j:Int)<l1:=af
 have hj0:¬(j:Int)<0:=af
 exact Yb HT (Yb hj1 (Yb hj2 hj0))):p:=h
theorem al4(h:p:=by
 have Bo5:=G ((ZI.block w3.heap.size af).trans Bo4.out);have Br5:=G ((ZI.block (w.heap.size+1) af).trans Br4.out);have H35:=G (auh.trans (ZI.mono af));have Ρ:=G (HB.trans (H35.mono af));have aos:=Sel.erase (xs:=c.ps) (vss:=vss) af (k:=i) af;exact Yb Bo5 (Yb Br5 (Yb H35 (Yb Ρ aos)))):p:=h
theorem ahG(h:p:=by
 have ZR:=ak Br4.out 0;have ZS:=ak Br4.out 1;have ZT:=ak Br4.out 2;have ZU:=ak Br4.out 3;have ZV:=ak Br4.out 4;have ZY:=ak Br4.out 5;have Z1:=ak Br4.out 6;have Z2:=ak Br4.out 7;exact Yb ZR (Yb ZS (Yb ZT (Yb ZU (Yb ZV (Yb ZY (Yb Z1 Z2))))))):p:=h
theorem o6(h:p:=by
 have Gk:=Bk;have Gx:=Bx;have Gr:=Br;have HW:=HB;exact Yb Gk (Yb Gx (Yb Gr HW))):p:=h
theorem akw(h:p:=by
 have HD7:=G (HD6.next hs hg);have GA7:=G (gk hg af GA6.out);have GB7:=G (gk hg af GB6.out);exact Yb HD7 (Yb GA7 GB7)):p:=h
theorem wW(h:p:=by
 have HD8:=G (HD7.next hs hg);have GA8:=G (gk hg af GA7.out);have GB8:=G (gk hg af GB7.out);exact Yb HD8 (Yb GA8 GB8)):p:=h
theorem ig(h:p:=by
 have Bk:=Ck;have Bx:=Cx;have Br:=Cr;exact Yb Bk (Yb Bx Br)):p:=h
theorem agB(h:p:=by
 have atv:=@G _ @VA;exact qe):p:=h
theorem agA(h:p:=by
 have atv:=@G _ @Vz;exact qe):p:=h
theorem agz(h:p:=by
 have atv:=@G _ @Vy;exact qe):p:=h
theorem agf(h:p:=by
 have aoK:=@G _ @XB;exact fv):p:=h
theorem age(h:p:=by
 have atw:=ae Br.out;obtain⟨ZR,ZS,ZT,ZU,ZV,ZY,Z1,Z2⟩:=dD;have hrl:=ae Br.out;go_wp2;exact bodyPost_ret (v:=Zj #[U J 0 0,U J 0 0,U J 0 0,U J 0 0,U J 0 0,V O 0,I ⟨#[]⟩,V O 6]) OD rfl ⟨ad0,co0 6,rfl,HV.out,(rl0 _ _),sb1 (sb1 (sb1 (sb1 (sb1 (sb1 (sb1 (sb1 (HB.out))))))))⟩):p:=h
theorem agd(h:p:=by
 obtain⟨ZR,ZS,ZT,ZU,ZV,ZY,Z1,Z2⟩:=dD;go_wp2;exact bodyPost_ret (v:=Zj #[U J 0 0,U J 0 0,U J 0 0,U J 0 0,U J 0 0,V O 0,I ⟨#[]⟩,V O p]) OC rfl ⟨ad0,co0 p,rfl,HV.out,(rl0 _ _),sb1 (sb1 (sb1 (sb1 (sb1 (sb1 (sb1 (sb1 (HB.out))))))))⟩):p:=h
theorem agc(h:p:=by
 obtain⟨ZR,ZS,ZT,ZU,ZV,ZY,Z1,Z2⟩:=dD;go_wp2;exact bodyPost_ret (v:=Zj #[U J 0 0,U J 0 0,U J 0 0,U J 0 0,U J 0 0,V O 0,I ⟨#[]⟩,V O 10]) OC rfl ⟨ad0,co0 10,rfl,HV.out,(rl0 _ _),sb1 (sb1 (sb1 (sb1 (sb1 (sb1 (sb1 (sb1 (HB.out))))))))⟩):p:=h
theorem agb(h:p:=by
 have aoK:=@G _ @XA;exact fv):p:=h
theorem aga(h:p:=by
 have aoK:=@G _ @Xz;exact fv):p:=h
theorem af_(h:p:=by
 have aoK:=@G _ @Xy;exact fv):p:=h
theorem af9(h:p:=by
 have aoK:=@G _ @Xx;exact fv):p:=h
theorem af8(h:p:=by
 obtain⟨ZR,ZS,ZT,ZU,ZV,ZY,Z1,Z2⟩:=lL Br.out;go_wp2;exact bodyPost_ret (v:=Zj #[U J 0 0,U J 0 0,U J 0 0,U J 0 0,U J 0 0,V O 0,I ⟨#[]⟩,V O 1]) lk rfl ⟨ad0,co0 1,rfl,HV.out,jr _ _,eJ (show w.heap.size<=w.heap.size+1+1 by omega) (HB.out)⟩):p:=h
theorem aeU(h:p:=by
 clear aa ZF ZI aos aqw hR ht2 alR hik awp hmi hd0 hvd hmn;exact amy):p:=h
theorem aeT(h:p:=by
 clear aa ZF ZI aos aqw hR ht2 alR hik awp ZZ hmn;exact amy):p:=h
theorem AD(h:p:=by
 have ZI:=(Yh (w3.heap.size+1) w4).grown ZF af (λg hg=>(HO4.lt g hg).1);obtain⟨t1,t2,t3,rfl⟩:=az aa;obtain⟨Bo5,Br5,H35,Ρ,aos⟩:=al4;rw[<-HW.out] at aos;have aqw:=(aos.jK (σ.below H35.out)).ay (w':=w5) (S':=λk=>(w2.heap.size<=k/\k<w3.heap.size)\/w3.heap.size+1<=k) (λ_ _ _ _=>rfl) (λk _ s=>Zl s);have avu:=@G _ @V9;exact zp):p:=h
theorem aek(h:p:=by
 have hH:∀j' i',¬(j'=j/\i'=i)->(if j'=j/\i'=i then b else H j' i')=H j' i':=λj' i' hn=>if_neg hn;refine⟨⟨cur.setIfInBounds (j*m+i) (U (M ⟨b,0,J⟩) len cap),λj' i'=>if j'=j/\i'=i then b else H j' i',⟨an h1.blk _,h1.inS,lN h3 h1.len,λj' r' Λ i' f' hi'=>?_,λj' r' i' ZB j2 r2 i2 zs2 Λ hi' hz' hj2 hi2 ZP hHH=>?_⟩,λj' r' i' ZB Λ hi' hz'=>?_⟩,h2.set h1.inS,h3⟩
 ·rcases e_ h3 hil Λ hi' with ⟨rfl,rfl,rfl⟩|⟨ZE,r0,q1,q2⟩
  ·refine⟨_,by rw[Array.getElem?_setIfInBounds_self_of_lt Z6],?_⟩;rw[if_pos ⟨rfl,rfl⟩];exact Fv.Own.jF (u:=.l zs) hv
  ·obtain⟨v',k1,k2⟩:=h1.cell j' r0 q1 i' f' q2;have awV:i'<r0.length:=(Yc.1 q2).1;have awW:=h1.len j' r0 q1;refine⟨v',?_,?_⟩
   ·exact PD
   ·rw[if_neg ZE];exact k2.jF
 ·try simp only[] at hHH
  rcases e_ h3 hil Λ hi' with ⟨rfl,rfl,e1⟩|⟨ZE,r0,q1,q2⟩
  ·rcases e_ h3 hil hj2 hi2 with ⟨rfl,rfl,e2⟩|⟨aoS,r3,q3,q4⟩
   ·exact⟨rfl,rfl⟩
   ·rw[if_pos ⟨rfl,rfl⟩,if_neg aoS] at hHH;cases e1;exact absurd (hHH ▸ hb hz') (hN _ _ _ _ q3 q4 ZP)
  ·rcases e_ h3 hil hj2 hi2 with ⟨rfl,rfl,e2⟩|⟨aoS,r3,q3,q4⟩
   ·rw[if_neg ZE,if_pos ⟨rfl,rfl⟩] at hHH;cases e2;exact absurd (hHH ▸ hb ZP) (hN _ _ _ _ q1 q2 hz')
   ·rw[if_neg ZE,if_neg aoS] at hHH;exact h1.inj _ _ _ _ _ _ _ _ q1 q2 hz' q3 q4 ZP hHH
 ·try simp only[]
  rcases e_ h3 hil Λ hi' with ⟨rfl,rfl,e1⟩|⟨ZE,r0,q1,q2⟩
  ·rw[if_pos ⟨rfl,rfl⟩];exact λq=>q.2 rfl
  ·rw[if_neg ZE];exact λq=>hN _ _ _ _ q1 q2 hz' q.1):p:=h
theorem aej(h:p:=by
 have avv:=@G _ @Wa;exact zq):p:=h
theorem adV(h:p:=by
 refine bodyPost_ret (v:=Zj #[I t1,V O (1+r2),I t3,I t4,Zf (!x5),I ⟨#[]⟩,Zf Zg,U (M ⟨w8.heap.size,0,J⟩) 2 2]) uP rfl ⟨_,_,_,_,_,_,_,M ⟨w8.heap.size,0,J⟩,2,2,[⟨#[110,49]⟩,t8],rfl,ht1,ht3,ht4,ag,?_,Zk ⟨_,rfl,by omega⟩,HDZ.out⟩;refine aw.copy (T:=9) HLB.out rfl ag ?_;intro j x hx;match j,hx with
 | 0,hx=>cases hx;decide
 | 1,hx=>cases hx;omega
 | j+2,hx=>simp at hx):p:=h
theorem adU(h:p:=by
 exact bodyPost_ret (v:=Zj #[I t1,V O r8,I t3,I t4,Zf (!x5),I ⟨#[]⟩,Zf Zg,U J 0 0]) uP rfl ⟨_,_,_,_,_,_,_,J,0,0,[],rfl,ht1,ht3,ht4,ag,⟨rfl,Ye _,by omega,λj x hx=>by simp at hx,Zl rfl⟩,Zl rfl,(((((((((HD8.set (b:=w5.heap.size) (i:=1) _ (Nat.le_of_lt hA)).set (b:=w.heap.size) (i:=0) _ (Ye _)).set (b:=w.heap.size) (i:=1) _ (Ye _)).set (b:=w.heap.size) (i:=2) _ (Ye _)).set (b:=w.heap.size) (i:=3) _ (Ye _)).set (b:=w.heap.size) (i:=4) _ (Ye _)).set (b:=w.heap.size) (i:=5) _ (Ye _)).set (b:=w.heap.size) (i:=6) _ (Ye _)).set (b:=w.heap.size) (i:=7) _ (Ye _))⟩):p:=h
theorem adT(h:p:=by
 exact bodyPost_ret (v:=Zj #[I t1,V O (1+r2),I t3,I t4,Zf (!x5),I t8,Zf Zg,U J 0 0]) uP rfl ⟨_,_,_,_,_,_,_,J,0,0,[],rfl,ht1,ht3,ht4,ht8,⟨rfl,Ye _,by omega,λj x hx=>by simp at hx,Zl rfl⟩,Zl rfl,(((((((((HD8.set (b:=w5.heap.size) (i:=5) _ (Nat.le_of_lt hA)).set (b:=w.heap.size) (i:=0) _ (Ye _)).set (b:=w.heap.size) (i:=1) _ (Ye _)).set (b:=w.heap.size) (i:=2) _ (Ye _)).set (b:=w.heap.size) (i:=3) _ (Ye _)).set (b:=w.heap.size) (i:=4) _ (Ye _)).set (b:=w.heap.size) (i:=5) _ (Ye _)).set (b:=w.heap.size) (i:=6) _ (Ye _)).set (b:=w.heap.size) (i:=7) _ (Ye _))⟩):p:=h
theorem adS(h:p:=by
 exact bodyPost_ret (v:=Zj #[I t1,V O (1+r2),I t3,I t4,Zf (!x5),I ⟨#[]⟩,Zf Zi,U J 0 0]) uP rfl ⟨_,_,_,_,_,_,_,J,0,0,[],rfl,ht1,ht3,ht4,ag,⟨rfl,Ye _,by omega,λj x hx=>by simp at hx,Zl rfl⟩,Zl rfl,(((((((((HD7.set (b:=w5.heap.size) (i:=6) _ (Nat.le_of_lt hA)).set (b:=w.heap.size) (i:=0) _ (Ye _)).set (b:=w.heap.size) (i:=1) _ (Ye _)).set (b:=w.heap.size) (i:=2) _ (Ye _)).set (b:=w.heap.size) (i:=3) _ (Ye _)).set (b:=w.heap.size) (i:=4) _ (Ye _)).set (b:=w.heap.size) (i:=5) _ (Ye _)).set (b:=w.heap.size) (i:=6) _ (Ye _)).set (b:=w.heap.size) (i:=7) _ (Ye _))⟩):p:=h
theorem adR(h:p:=by
 exact bodyPost_ret (v:=Zj #[I t1,V O (1+r2),I t3,I t4,Zf (!x5),I ⟨#[]⟩,Zf Zg,U J 0 0]) uP rfl ⟨_,_,_,_,_,_,_,J,0,0,[],rfl,ht1,ht3,ht4,ag,⟨rfl,Ye _,by omega,λj x hx=>by simp at hx,Zl rfl⟩,Zl rfl,((((((((HDJ.set (b:=w.heap.size) (i:=0) _ (Ye _)).set (b:=w.heap.size) (i:=1) _ (Ye _)).set (b:=w.heap.size) (i:=2) _ (Ye _)).set (b:=w.heap.size) (i:=3) _ (Ye _)).set (b:=w.heap.size) (i:=4) _ (Ye _)).set (b:=w.heap.size) (i:=5) _ (Ye _)).set (b:=w.heap.size) (i:=6) _ (Ye _)).set (b:=w.heap.size) (i:=7) _ (Ye _))⟩):p:=h
theorem jP(h:p:=by
 obtain⟨y0,y1,yf1,y2,y3,y4,y5,yf5,y6,yf6,y7,yf7,z0,zf0,z1,zf1,z2,zf2,z3,zf3,z4,zf4,z5,zf5,z6,zf6,z7,zf7⟩:=amn;clear q2 q3;go_wp2_with fail;exact apU):p:=h
theorem adL(h:p:=by
 exact bodyPost_ret (v:=Zj #[I t1,V O (1+r2),I t3,Zf (!x4),I t7]) AK rfl ⟨_,_,_,_,_,rfl,ht1,ht3,ht7,((((((HD7.set (b:=w4.heap.size) (i:=4) _ (Nat.le_of_lt hA)).set (b:=w.heap.size) (i:=0) _ (Ye _)).set (b:=w.heap.size) (i:=1) _ (Ye _)).set (b:=w.heap.size) (i:=2) _ (Ye _)).set (b:=w.heap.size) (i:=3) _ (Ye _)).set (b:=w.heap.size) (i:=4) _ (Ye _))⟩):p:=h
theorem adK(h:p:=by
 exact bodyPost_ret (v:=Zj #[I t1,V O r7,I t3,Zf (!x4),I ⟨#[]⟩]) AK rfl ⟨_,_,_,_,_,rfl,ht1,ht3,ag,((((((HD7.set (b:=w4.heap.size) (i:=1) _ (Nat.le_of_lt hA)).set (b:=w.heap.size) (i:=0) _ (Ye _)).set (b:=w.heap.size) (i:=1) _ (Ye _)).set (b:=w.heap.size) (i:=2) _ (Ye _)).set (b:=w.heap.size) (i:=3) _ (Ye _)).set (b:=w.heap.size) (i:=4) _ (Ye _))⟩):p:=h
theorem adJ(h:p:=by
 exact bodyPost_ret (v:=Zj #[I t1,V O (1+r2),I t7,Zf (!x4),I ⟨#[]⟩]) AK rfl ⟨_,_,_,_,_,rfl,ht1,ht7,ag,((((((HD7.set (b:=w4.heap.size) (i:=2) _ (Nat.le_of_lt hA)).set (b:=w.heap.size) (i:=0) _ (Ye _)).set (b:=w.heap.size) (i:=1) _ (Ye _)).set (b:=w.heap.size) (i:=2) _ (Ye _)).set (b:=w.heap.size) (i:=3) _ (Ye _)).set (b:=w.heap.size) (i:=4) _ (Ye _))⟩):p:=h
theorem qF(h:p:=by
 obtain⟨HD7,GA7,GB7⟩:=akw;clear hs hg;have q3:=GA7.out;have q2:=GB7.out;obtain⟨y0,y1,yf1,y2,yf2,y3,y4,yf4,z0,zf0,z1,zf1,z2,zf2,z3,zf3,z4,zf4⟩:=ahW;clear q2 q3;go_wp2_with fail;exact atx):p:=h
theorem ads(h:p:=by
 exact⟨1+r,rfl,by omega,by omega,HS2.out,HG2.out⟩):p:=h
theorem adr(h:p:=by
 exact⟨50*r,rfl,by omega,by omega,HS2.out,HG2.out⟩):p:=h
theorem Ai(h:p:=by
 go_wp2_with fail;refine (HS1.n 90 ag).mono ?_;rintro e w2 ⟨r,rfl,r0,r1,hS2,hg2⟩;have HS2:Hid (Src B w0 p v len w2):=hS2;have HG2:Hid (w.grownBy w2 (M p)):=bV HG1.out hg2;have hr:r<=90:=af
 clear hS2 hg2 r1;go_wp2;go_ret;exact avw):p:=h
theorem ado(h:p:=by
 have hki:(k:Int)<8:=af
 clear hS0 hS2 hg2 aph hx r1 r0;go_wp2;go_ret;exact⟨x,rfl,x0,x1,HS2.out,HG.out⟩):p:=h
theorem adn(h:p:=by
 have hki:(k:Int)<5:=af
 clear hS0 hS2 hg2 aph hx r1 r0;go_wp2;go_ret;exact⟨x,rfl,x0,x1,HS2.out,HG.out⟩):p:=h
theorem Ag(h:p:=by
 have hc:w2.cell? ⟨w1.heap.size,k,J⟩=M (V O x):=by
  simp only[YX,aph];simpa using hx
 have HS2:Hid (Src B w0 p v len w2):=hS2;have HG:Hid (w.grownBy w2 (M p)):=bV HG1.out (bV (cr w1 _ _) hg2);exact avx):p:=h
theorem acT(h:p:=by
 have z5:=ck5 q2;have zf5:=ak q2 5;have z6:=ck6 q2;have zf6:=ak q2 6;have z7:=ck7 q2;have zf7:=ak q2 7;exact Yb y0 (Yb y1 (Yb yf1 (Yb y2 (Yb y3 (Yb y4 (Yb y5 (Yb yf5 (Yb y6 (Yb yf6 (Yb y7 (Yb yf7 (Yb z0 (Yb zf0 (Yb z1 (Yb zf1 (Yb z2 (Yb zf2 (Yb z3 (Yb zf3 (Yb z4 (Yb zf4 (Yb z5 (Yb zf5 (Yb z6 (Yb zf6 (Yb z7 zf7))))))))))))))))))))))))))):p:=h
theorem acS(h:p:=by
 exact Yb y0 (Yb y1 (Yb yf1 (Yb y2 (Yb yf2 (Yb y3 (Yb y4 (Yb yf4 (Yb z0 (Yb zf0 (Yb z1 (Yb zf1 (Yb z2 (Yb zf2 (Yb z3 (Yb zf3 (Yb z4 zf4))))))))))))))))):p:=h
theorem zW(h:p:=by
 have z0:=ck0 q2;have zf0:=ak q2 0;have z1:=ck1 q2;have zf1:=ak q2 1;have z2:=ck2 q2;have zf2:=ak q2 2;have z3:=ck3 q2;have zf3:=ak q2 3;have z4:=ck4 q2;have zf4:=ak q2 4;exact avs):p:=h
theorem acy(h:p:=by
 have Ξ:(¬p=0/\dN c t (co0 p))\/(p=0/\¬8000<t.size/\au c):=by
  exact vg
 clear hp;rcases Ξ with ⟨Ξ,hV⟩|⟨rfl,hl,hT⟩
 ·have HV:=G hV;clear hV;have hp1:(p==0)=Zg:=iZ
  have Χ:=@G _ @Lw;exact c_
 have HT:=G hT;clear hT;have Χ:=@G _ @Lx;exact c_):p:=h
theorem iP(h:p:=by
 go_wp2_with fail;refine (mE ⟨a1,l1,y1,a2,l2,y2,a3,l3,y3,a4,l4,y4,a5,l5,y5⟩ c t _ (HR.below (HB.trans ((aM _ _ _).mono HB.size)))).mono ?_;rintro e w1 ⟨p,rfl,hp,hb⟩;have apl:=@G _ @To;exact iH):p:=h
theorem aco(h:p:=by
 have avy:=@G _ @Ve;exact y9):p:=h
theorem ab5(h:p:=by
 obtain⟨HR,hl1,hm1,hl2,hm2,hl3,hm3,hl4,hm4,hl5,hm5⟩:=B1;clear hr;have HB:=G (Yh w.heap.size w);go_enter Tryz.func89,Tryz.ntmps89;have aqx:=@G _ @Hv;exact m_):p:=h
theorem abY(h:p:=by
 have HI:=G hi;clear hi;cases r
 ·have HV:Hid (bf c (⟨xn,xc,xz,xk,xs,⟨#[]⟩,Zg,[]⟩:Vd) (co0 1)):=Zl ⟨1,λh=>(by have:=HI.2 h.2.1;cases this),rfl⟩;have apq:=@G _ @TO;exact iJ
 have HO:Hid (fH c (⟨xn,xc,xz,xk,xs,⟨#[]⟩,Zg,[]⟩:Vd)):=⟨HT.out,HI.1 bU,rfl,rfl,rfl⟩;have apq:=@G _ @TP;exact iJ):p:=h
theorem abX(h:p:=by
 rcases hf with ⟨i,y,hy,hyn,rfl⟩|⟨ε,rfl⟩;rotate_left
 ·have HV:Hid (bf c (⟨xn,xc,xz,xk,xs,⟨#[]⟩,Zg,[]⟩:Vd) (co0 6)):=Zl ⟨2,⟨HO.out,HNO.out,by omega,λh=>by rw[gD ε] at h;cases h⟩,rfl⟩;clear ε;have apq:=@G _ @TM;exact iJ
 have HV:Hid (bf c (⟨xn,xc,xz,xk,xs,⟨#[]⟩,Zg,[]⟩:Vd) ⟨alw c (⟨xn,xc,xz,xk,xs,⟨#[]⟩,Zg,[]⟩:Vd),⟨#[]⟩,0⟩):=Zk ⟨HO.out,HNO.out,by omega,(bj HT.2.1.2.1.2.2 hy hyn).2,rfl⟩;clear hy hyn;have HQ1:Hid (w.heap.size+1+1<w3.heap.size):=ae Br.out;have apq:=@G _ @TN;exact iJ):p:=h
theorem abW(h:p:=by
 have aqy:=@G _ @N4;exact nF):p:=h
theorem abV(h:p:=by
 have aqy:=@G _ @N3;exact nF):p:=h
theorem abU(h:p:=by
 have aqy:=@G _ @N2;exact nF):p:=h
theorem fy(h:p:=by
 have amM:=@G _ @L1;exact da):p:=h
theorem abP(h:p:=by
 have HI:=G hi;clear hi;cases r
 ·have HV:Hid (gL c n (co0 1)):=Zl ⟨λh=>AF,rfl⟩;have Χ:=@G _ @Lr;exact c_
 have HT:=G (HI.1 bU);have ayJ:=HT.1;obtain⟨hn0,hn1⟩:=ayJ;have Χ:=@G _ @Ls;exact c_):p:=h
theorem aar(h:p:=by
 rcases hf with ⟨j,n,hn,hnn,rfl⟩|⟨ε,rfl⟩
 ·have hj0:¬(j:Int)<0:=af
  have HN:=G (Yb hn hnn);clear hn hnn;obtain⟨k0,k1,k2,k3,k4,k5⟩:=cs6 Bk;go_wp2;exact bodyPost_ret (v:=Zn #[V O j,V O 0]) Ow rfl ⟨HB.out,Zk ⟨j,n,HN.1,⟨hl,HT.out,by rw[(bj HT.2.1.1.2.2 HN.1 HN.2).1];exact HN.1,HN.2⟩,rfl⟩⟩
 have HN:=G ε;clear ε;obtain⟨k0,k1,k2,k3,k4,k5⟩:=cs6 Bk;go_wp2;exact bodyPost_ret (v:=Zn #[V O 0,V O 6]) Ow rfl ⟨HB.out,Zl ⟨2,6,⟨hl,HT.out,gD HN.out⟩,rfl,by decide,rfl⟩⟩):p:=h
theorem XB(h:p:=by
 have hrl:=ae Br.out;go_wp2;exact bodyPost_ret (v:=Zj #[U J 0 0,U J 0 0,U J 0 0,U J 0 0,U J 0 0,V O 0,I ⟨#[]⟩,V O p]) OD rfl ⟨ad0,co0 p,rfl,HV.out,(rl0 _ _),sb1 (sb1 (sb1 (sb1 (sb1 (sb1 (sb1 (sb1 (HB.out))))))))⟩):p:=h
theorem XA(h:p:=by
 have hrl:=ae Br.out;go_wp2;exact bodyPost_ret (v:=Zj #[U J 0 0,U J 0 0,U J 0 0,U J 0 0,U J 0 0,V O 0,I ⟨#[]⟩,V O p]) OB rfl ⟨ad0,co0 p,rfl,HV.out,(rl0 _ _),sb1 (sb1 (sb1 (sb1 (sb1 (sb1 (sb1 (sb1 (HB.out))))))))⟩):p:=h
theorem Xz(h:p:=by
 have hrl:=ae Br.out;go_wp2;exact bodyPost_ret (v:=Zj #[U J 0 0,U J 0 0,U J 0 0,U J 0 0,U J 0 0,V O 0,I ⟨#[]⟩,V O 10]) OB rfl ⟨ad0,co0 10,rfl,HV.out,(rl0 _ _),sb1 (sb1 (sb1 (sb1 (sb1 (sb1 (sb1 (sb1 (HB.out))))))))⟩):p:=h
theorem Xy(h:p:=by
 go_wp2;exact bodyPost_ret (v:=Zj #[U J 0 0,U J 0 0,U J 0 0,U J 0 0,U J 0 0,V O 0,I ⟨#[]⟩,V O 1]) OA rfl ⟨ad0,co0 1,rfl,HV.out,(rl0 _ _),sb1 (sb1 (sb1 (sb1 (sb1 (sb1 (sb1 (sb1 (HB.out))))))))⟩):p:=h
theorem Xx(h:p:=by
 go_wp2;exact bodyPost_ret (v:=Zj #[U J 0 0,U J 0 0,U J 0 0,U J 0 0,U J 0 0,V O 0,I ⟨#[]⟩,V O 8]) OA rfl ⟨ad0,co0 8,rfl,HV.out,(rl0 _ _),sb1 (sb1 (sb1 (sb1 (sb1 (sb1 (sb1 (sb1 (HB.out))))))))⟩):p:=h
theorem Wy(h:p:=by
 rintro _ ⟨q1,rfl⟩;go_wp2;exact⟨⟨k+1,by omega,by go_num,HR2.below q1.b,HK2.below q1.b⟩,by simp[intOf];omega⟩):p:=h
theorem Ww(h:p:=by
 refine (HD1.src.n 12 ag).mono ?_;have aqz:=@G _ @Nu;exact nC):p:=h
theorem Wv(h:p:=by
 refine (HD1.src.n 20 ag).mono ?_;have aqz:=@G _ @Nt;exact nC):p:=h
theorem Wu(h:p:=by
 refine (HD1.src.n 6 ag).mono ?_;have aqz:=@G _ @Ns;exact nC):p:=h
theorem qi(h:p:=by
 rintro e w1 ⟨t1,rfl,ht1,hs,hg⟩;have HD1:=G (HD0.next hs hg);have G1:=G (gk hg ei G0.out);clear hs hg;go_wp2_with fail;exact aty):p:=h
theorem Wa(h:p:=by
 refine⟨⟨cur.setIfInBounds (j*m+i) (U J 0 0),H,⟨an h1.blk _,h1.inS,lN h3 h1.len,λj' r' Λ i' f' hi'=>?_,λj' r' i' ZB j2 r2 i2 zs2 Λ hi' hz' hj2 hi2 ZP hH=>?_⟩,λj' r' i' ZB Λ hi' hz'=>?_⟩,h2.set h1.inS,h3⟩
 ·rcases e_ h3 hil Λ hi' with ⟨rfl,rfl,rfl⟩|⟨ZE,r0,q1,q2⟩
  ·exact⟨_,by rw[Array.getElem?_setIfInBounds_self_of_lt Z6],⟨J,0,0,rfl,rfl,Ye _,by decide,λj x hx=>by simp at hx,Zl rfl⟩⟩
  ·exact Pc
 ·exact QI
 ·obtain⟨r0,b1,b2⟩:=back j' r' i' ZB Λ hi' hz';exact hN j' r0 i' ZB b1 b2 hz'):p:=h
theorem zq(h:p:=by
 have back:∀(j':Nat) r' (i':Nat) ZB,(rs.set j (r.set i (.l [])))[j']?=M r'->r'[i']?=M (.l ZB)->ZB≠[]->∃r0,(rs.set j r)[j']?=M r0/\r0[i']?=M (.l ZB):=by
  exact ak0
 exact avv):p:=h
theorem V9(h:p:=by
 have HT2:=G ht2;have HR5:=G hR;have hs5:=ZI.size;obtain⟨o0,o1,o2,o3,o4,o5⟩:=cs6 Bo5;obtain⟨r0,r1,r2,r3,r4,r5,r6,r7⟩:=cs8 Br5;obtain⟨fo0,fo1,fo2,fo3,fo4,fo5,ZR,ZS,ZT,ZU,ZV,ZY,Z1,Z2,ZE,aoS,axf,axg⟩:=al_;exact avz):p:=h
theorem zp(h:p:=by
 obtain⟨q1,q2,hq,hR⟩:=aqw.own aa aF ag (λg hg=>Zk (aa.lt g hg).1);rw[Yq] at hq hR;simp only[Value.slice.injEq] at hq;obtain⟨rfl,ht2,rfl⟩:=hq;rw[<-ht2] at hR;exact avu):p:=h
theorem V2(h:p:=by
 have ZE:¬w.heap.size+1=w3.heap.size:=af
 have aoS:¬w3.heap.size=w.heap.size+1:=af
 have axf:=ae Bo5.out;have axg:=ae Br5.out;exact Yb fo0 (Yb fo1 (Yb fo2 (Yb fo3 (Yb fo4 (Yb fo5 (Yb ZR (Yb ZS (Yb ZT (Yb ZU (Yb ZV (Yb ZY (Yb Z1 (Yb Z2 (Yb ZE (Yb aoS (Yb axf axg))))))))))))))))):p:=h
theorem zm(h:p:=by
 have ZR:=ak Br5.out 0;have ZS:=ak Br5.out 1;have ZT:=ak Br5.out 2;have ZU:=ak Br5.out 3;have ZV:=ak Br5.out 4;have ZY:=ak Br5.out 5;have Z1:=ak Br5.out 6;have Z2:=ak Br5.out 7;exact avt):p:=h
theorem VL(h:p:=by
 rcases he with rfl|rfl
 ·go_wp2_with fail;have hS0:=HS1.ay (cr w1 (Ze (C5.map (Value.int O)).toArray 2) J) aF (λk hk=>by cases hk);refine (hS0.n 8 ag).mono ?_;rintro e w2 ⟨r,rfl,r0,r1,hS2,hg2⟩;obtain⟨k,rfl⟩:=Int.eq_ofNat_of_zero_le r0;have hk:k<8:=af
  obtain⟨x,hx,x0,x1⟩:=ints_at C5 ag k hk;have hpw:=HS1.vt;have aph:w2.heap[w1.heap.size]?=M (Ze (C5.map (Value.int O)).toArray 2 (0,0)):=by
   exact Qa
  have avx:=@G _ @ado;exact Ag
 ·have avw:=@G _ @ads;exact Ai):p:=h
theorem VK(h:p:=by
 rcases he with rfl|rfl
 ·go_wp2_with fail;have hS0:=HS1.ay (cr w1 (Ze (als.map (Value.int O)).toArray 2) J) aF (λk hk=>by cases hk);refine (hS0.n 5 ag).mono ?_;rintro e w2 ⟨r,rfl,r0,r1,hS2,hg2⟩;obtain⟨k,rfl⟩:=Int.eq_ofNat_of_zero_le r0;have hk:k<5:=af
  obtain⟨x,hx,x0,x1⟩:=ints_at als ag k hk;have hpw:p<w1.heap.size:=HS1.vt;have aph:w2.heap[w1.heap.size]?=M (Ze (als.map (Value.int O)).toArray 2 (0,0)):=by
   exact Qa
  have avx:=@G _ @adn;exact Ag
 ·have avw:=@G _ @adr;exact Ai):p:=h
theorem zg(h:p:=by
 go_wp2_with fail;refine H1.mono ?_;rintro e w1 ⟨he,hS1,hg1⟩;have HS1:Hid (Src B w0 p v len w1):=hS1;have HG1:Hid (w.grownBy w1 (M p)):=hg1;clear hS1 hg1;exact avA):p:=h
theorem VA(h:p:=by
 refine (jA d c.now c.ks xk _ (HR.k.below HB.out)).mono ?_;rintro e w3 ⟨hb,hf⟩;clear k0 k1 k2 k3 k4 k5 x0 x1 x2 x3 x4 x5 x6 x7;have aoM:=@G _ @abX;exact fy):p:=h
theorem Vz(h:p:=by
 refine (aI 7 _).mono ?_;rintro e w4 ⟨rfl,hb⟩;clear k0 k1 k2 k3 k4 k5 x0 x1 x2 x3 x4 x5 x6 x7;have aoM:=@G _ @abV;exact fy):p:=h
theorem Vy(h:p:=by
 refine (aI 9 _).mono ?_;rintro e w4 ⟨rfl,hb⟩;clear k0 k1 k2 k3 k4 k5 x0 x1 x2 x3 x4 x5 x6 x7;have aoM:=@G _ @abU;exact fy):p:=h
theorem qe(h:p:=by
 repeat (go_big_quiet_step (first|(go_at_call 64;exact Calls.wide (Zv.out _))|(go_at_call 63;exact Calls.wide (μ.out _))|fail))
 refine wpQuiet_nil ?_;rintro _ ⟨q1,rfl⟩;obtain⟨Z7,Ck,Cx,Cr⟩:=OQ;clear hne0 HW HB Zv μ k0 k1 k2 k3 k4 k5 x0 x1 x2 x3 x4 x5 x6 x7 Gk Gx Gr Bk Bx Br;have HB:=Z7;obtain⟨Bk,Bx,Br⟩:=ig;obtain⟨k0,k1,k2,k3,k4,k5⟩:=cs6 Bk;obtain⟨x0,x1,x2,x3,x4,x5,x6,x7⟩:=cs8 Bx;go_wp2_with fail;exact atv):p:=h
theorem Ve(h:p:=by
 have hf5:=hS.oy (j*7+5);have HST:=G hS;have HO:=G ho;clear hS ho hga;have aol:=@G _ @Kz;exact ff):p:=h
theorem Vc(h:p:=by
 obtain⟨v6,hv6⟩:=hS.cell (i:=6) rfl;obtain⟨v4,hv4⟩:=hS.cell (i:=4) rfl;have hf5:=hS.oy (j*7+5);have hf6:=hS.oy (j*7+6);have hf4:=hS.oy (j*7+4);have HST:=G hS;have HO:=G ho;have ZE:¬g=w3.heap.size:=af
 have aoS:¬w3.heap.size=g:=af
 have ayu:¬g=w.heap.size+1:=af
 have ayv:¬w.heap.size+1=g:=af
 obtain⟨auc,aud⟩:=OL;clear hS ho hga;have anZ:=@G _ @FK;exact dQ):p:=h
theorem y9(h:p:=by
 obtain⟨x1,m1,n1,x2,m2,n2,x3,m3,n3,x4,m4,n4,x5,m5,n5⟩:=d';have hm1:m1=l1:=by have h6:(c.ns.map ndF).length=m1:=ho.n.1;rw[Yq] at h6;omega
 subst hm1;obtain⟨g,hga,hS⟩:=(ho.n.bC (S':=λk=>w1.heap.size<=k/\k<w3.heap.size) (λk hk s=>⟨s,hk⟩)).st (aJ.refl _ w3) (i:=j) (r:=ndF n) (show (c.ns.map ndF)[j]?=M (ndF n) by rw[Yt,HNJ.out];rfl);have aqt:x1=M ⟨g,0,J⟩:=hga;subst aqt;have hq1:=HQ1.out;have Τ:=ν.out;have hgS:=(by obtain⟨⟨cur,H,h1,_⟩,_⟩:=hS;exact⟨h1.inS,ae h1.blk⟩:(w1.heap.size<=g/\g<w3.heap.size)/\g<w3.heap.size);obtain⟨⟨hg1,hg2⟩,-⟩:=hgS;obtain⟨v5,hv5⟩:=hS.cell (i:=5) rfl;exact avy):p:=h
theorem Vb(h:p:=by
 rcases hf with ⟨i,x,hx,hn,rfl⟩|⟨ε,rfl⟩;rotate_left
 ·have HV:Hid (dN c t (co0 6)):=Zl ⟨2,⟨hl,HT.out,rfl,gD ε⟩,rfl⟩;clear ε;have anZ:=@G _ @FI;exact dQ
 have awq:Hid (w.heap.size+1<w2.heap.size):=ae Br.out;have hri:=HT.2.1.2.2.2.2.2.2;have HW:=G (jx hri hx hn);have HV:Hid (dN c t ⟨Bf c t,⟨#[]⟩,0⟩):=Zk ⟨hl,HT.out,(bj hri hx hn).2,rfl⟩;have hi5:i<l5:=by have:=(Yc.1 hx).1;omega
 have hi0:¬(i:Int)<0:=af
 have h58:l5<=8:=by have:=HT.sm.p;omega
 clear hx hn hri;have anZ:=@G _ @FJ;exact dQ):p:=h
theorem Va(h:p:=by
 have HO:=G ho;have hq1:=HQ1.out;clear ho;have anZ:=@G _ @FH;exact dQ):p:=h
theorem eN(h:p:=by
 have aok:=@G _ @DT;exact fa):p:=h
theorem UN(h:p:=by
 refine (aI 8 _).mono ?_;have aoC:=@G _ @EY;exact fO):p:=h
theorem TR(h:p:=by
 refine (jB xn xc xz xk xs ⟨#[]⟩ Zg va 0 vc [] _ z0 z2 z3 ag (HX.below HB.out)).mono ?_;rintro e w2 ⟨r,rfl,hi,hb⟩;clear k0 k1 k2 k3 k4 k5 x0 x1 x2 x3 x4 x5 x6 x7;have aoM:=@G _ @abY;exact fy):p:=h
theorem TQ(h:p:=by
 refine (aI 1 _).mono ?_;rintro e w2 ⟨rfl,hb⟩;exact aio):p:=h
theorem TP(h:p:=by
 clear k0 k1 k2 k3 k4 k5 x0 x1 x2 x3 x4 x5 x6 x7;have HRI:Hid (aH Vd.n c.vs):=HT.2.1.2.2.1.2.2;cases hh:hit Vd.n c.vs xn;rotate_left
 ·obtain⟨y,hy,hyn⟩:=cy hh;have HY:=G hy;have HYN:=G hyn;have HV:Hid (bf c (⟨xn,xc,xz,xk,xs,⟨#[]⟩,Zg,[]⟩:Vd) (co0 7)):=Zl ⟨3,⟨HO.out,hh⟩,rfl⟩;clear hy hyn hh;obtain⟨j,hj⟩:∃j,j=pl Vd.n c.vs xn:=⟨_,rfl⟩;rw[<-hj] at HY;clear hj;have hj0:¬(j:Int)<0:=af
  obtain⟨Gk,Gx,Gr,HW⟩:=o6;obtain⟨k0,k1,k2,k3,k4,k5⟩:=sl6 Gk;obtain⟨x0,x1,x2,x3,x4,x5,x6,x7⟩:=sl8 Gx;have hne0:=Wd.ne w2;have Zv:=G (λq:Wd w2=>eA d c.now c.vs xn q.w (HR.v.below (HW.trans (q.b.mono HW.size))) HRI.out HY.out HYN.out);have μ:=G (λq:Wd w2=>fq d.l3 8 q.w);have Zw:=@G _ @agA;exact aB
 have HMS:Hid (∀(j:Nat) y,c.vs[j]?=M y->¬y.n=xn):=λj y h1 h2=>by rw[(bj HRI.out h1 h2).2] at hh;cases hh
 by_cases hfull:8<=d.l3
 ·have HV:Hid (bf c (⟨xn,xc,xz,xk,xs,⟨#[]⟩,Zg,[]⟩:Vd) (co0 9)):=Zl ⟨4,⟨HO.out,hh,by omega⟩,rfl⟩;clear hh;have atz:=@G _ @JE;exact tK
 have HNO:=G hh;have ape:d.l3<8:=af
 clear hh hfull;have atz:=@G _ @JF;exact tK):p:=h
theorem TO(h:p:=by
 refine (aI 1 _).mono ?_;rintro e w3 ⟨rfl,hb⟩;exact aio):p:=h
theorem TN(h:p:=by
 have HLO:=G HB.size;refine (cZ d c _ (HR.below HB.out) HT.sm).mono ?_;rintro e w4 ⟨d',rfl,ho,hb⟩;have ν:=G hb.size;clear k0 k1 k2 k3 k4 k5 x0 x1 x2 x3 x4 x5 x6 x7;have amM:=@G _ @L0;exact da):p:=h
theorem TM(h:p:=by
 refine (aI 6 _).mono ?_;rintro e w4 ⟨rfl,hb⟩;clear k0 k1 k2 k3 k4 k5 x0 x1 x2 x3 x4 x5 x6 x7;have aoM:=@G _ @abW;exact fy):p:=h
theorem iJ(h:p:=by
 obtain⟨k0,k1,k2,k3,k4,k5⟩:=cs6 Bk;obtain⟨x0,x1,x2,x3,x4,x5,x6,x7⟩:=cs8 Bx;go_wp2_with fail;exact apq):p:=h
theorem Tp(h:p:=by
 rcases hf with ⟨i,p,hw,hpi,Ξ,rfl⟩|⟨j,n,hn,ξ,rfl⟩
 ·have HV:Hid (iz c t (co0 p)):=Zl ⟨i,hw,by rw[hpi]⟩;have hp1:(p==0)=Zg:=iZ
  clear hw hpi Ξ;obtain⟨k0,k1,k2,k3,k4,k5⟩:=cs6 Bk;have aqA:=@G _ @Fe;exact mP
 have atA:=@G _ @KL;exact tU):p:=h
theorem To(h:p:=by
 exact apr):p:=h
theorem Og(h:p:=by
 have aqB:=@G _ @Js;exact ni):p:=h
theorem N7(h:p:=by
 have Ξ:(¬p=0/\∃i,iU c t i/\p=aZ i)\/(p=0/\¬8000<t.size/\au c):=by
  exact QJ
 clear hp;rcases Ξ with ⟨Ξ,i,hw,hpi⟩|⟨rfl,hl,hT⟩
 ·have HP:=G (Yb hw (Yb hpi Ξ));have hp1:(p==0)=Zg:=iZ
  clear hw hpi Ξ;obtain⟨k0,k1,k2,k3,k4,k5⟩:=cs6 Bk;go_wp2;exact bodyPost_ret (v:=Zn #[V O 0,V O p]) Ow rfl ⟨HB.out,Zl ⟨i,p,HP.1,HP.2.1,HP.2.2,rfl⟩⟩
 have HT:=G hT;clear hT;obtain⟨k0,k1,k2,k3,k4,k5⟩:=cs6 Bk;go_wp2_with fail;refine (jz d c.now c.ns t _ (HR.n.below HB.out)).mono ?_;rintro e w2 ⟨hb,hf⟩;have apj:=@G _ @aar;exact iM):p:=h
theorem N4(h:p:=by
 exact bodyPost_ret (v:=Zj #[U J 0 0,U J 0 0,U J 0 0,U J 0 0,U J 0 0,V O 0,I ⟨#[]⟩,V O 6]) lk rfl ⟨ad0,co0 6,rfl,HV.out,jr _ _,eJ (show w.heap.size<=w.heap.size+1+1 by omega) (HB.out)⟩):p:=h
theorem N3(h:p:=by
 exact bodyPost_ret (v:=Zj #[U J 0 0,U J 0 0,U J 0 0,U J 0 0,U J 0 0,V O 0,I ⟨#[]⟩,V O 7]) lk rfl ⟨ad0,co0 7,rfl,HV.out,jr _ _,eJ (show w.heap.size<=w.heap.size+1+1 by omega) (HB.out)⟩):p:=h
theorem N2(h:p:=by
 exact bodyPost_ret (v:=Zj #[U J 0 0,U J 0 0,U J 0 0,U J 0 0,U J 0 0,V O 0,I ⟨#[]⟩,V O 9]) lk rfl ⟨ad0,co0 9,rfl,HV.out,jr _ _,eJ (show w.heap.size<=w.heap.size+1+1 by omega) (HB.out)⟩):p:=h
theorem nF(h:p:=by
 have aqC:=@G _ @ER;exact mN):p:=h
theorem Nu(h:p:=by
 have rc2:r2<=12:=af
 clear rb2;go_wp2_with fail;refine (cf HD2.src [⟨#[102,97,115,116]⟩,⟨#[115,108,111,119]⟩,⟨#[115,108,111,119]⟩] 3 _ _ aF rfl ag ag ag).mono ?_;rintro e w3 ⟨t3,rfl,ht3,hs,hg⟩;have HD3:=G (HD2.next hs hg);have G3:=G (gk hg ei G2.out);clear hs hg;go_wp2_with fail;refine (cJ HD3.src 4 ag).mono ?_;rintro e w4 ⟨he,hs,hg⟩;obtain⟨x4,rfl⟩:=ey he;clear he;have HD4:=G (HD3.next hs hg);have G4:=G (gk hg ei G3.out);clear hs hg;have HDA:=G (HD4.alloc (Ze #[I t1,V O (1+r2),I t3,Zf (!x4),I ⟨#[]⟩] 47));have hA:=ae G4.out;have GA:Hid ((w4.alloc (Ze #[I t1,V O (1+r2),I t3,Zf (!x4),I ⟨#[]⟩] 47)).heap[w4.heap.size]?=M (Ze #[I t1,V O (1+r2),I t3,Zf (!x4),I ⟨#[]⟩] 47 (0,0))):=Yf;have GB:=G ((Yj w4 (Ze #[I t1,V O (1+r2),I t3,Zf (!x4),I ⟨#[]⟩] 47) _ hA).trans G4.out);go_wp2_with fail;refine (cJ HDA.src 15 ag).mono ?_;rintro e w5 ⟨he,hs,hg⟩;have HDJ:=G (HDA.next hs hg);have hpn:=HP.out;have GA':=G (gk hg af GA.out);have GB':=G (gk hg af GB.out);clear hs hg;rcases he with rfl|rfl
 ·go_wp2_with fail;refine (HDJ.src.n 3 ag).mono ?_;rintro e w6 ⟨r6,rfl,ra6,rb6,hs,hg⟩;have HD6:=G (HDJ.next hs hg);have GA6:=G (gk hg af GA'.out);have GB6:=G (gk hg af GB'.out);clear hs hg rb6;by_cases h0:r6=0
  ·subst h0;go_wp2_with fail;refine (lA HD6.src).mono ?_;rintro e w7 ⟨r7,rfl,ra7,rb7,hs,hg⟩;have atx:=@G _ @adK;exact qF
  have q60:(r6==0)=Zg:=by simp[h0]
  by_cases h1:r6=1
  ·subst h1;go_wp2_with fail;refine (ahc HD6.src).mono ?_;rintro e w7 ⟨t7,rfl,ht7,hs,hg⟩;have atx:=@G _ @adJ;exact qF
  have q61:(r6==1)=Zg:=by simp[h1]
  clear h0 h1;go_wp2_with fail;refine (cf HD6.src [⟨#[100,49]⟩,⟨#[65]⟩] 2 _ _ aF rfl ag ag ag).mono ?_;rintro e w7 ⟨t7,rfl,ht7,hs,hg⟩;have atx:=@G _ @adL;exact qF
 ·skip;have q3:=GA'.out;have q2:=GB'.out;obtain⟨y0,y1,yf1,y2,yf2,y3,y4,yf4,z0,zf0,z1,zf1,z2,zf2,z3,zf3,z4,zf4⟩:=ahW;clear q2 q3;go_wp2_with fail;exact bodyPost_ret (v:=Zj #[I t1,V O (1+r2),I t3,Zf (!x4),I ⟨#[]⟩]) AK rfl ⟨_,_,_,_,_,rfl,ht1,ht3,ag,(((((HDJ.set (b:=w.heap.size) (i:=0) _ (Ye _)).set (b:=w.heap.size) (i:=1) _ (Ye _)).set (b:=w.heap.size) (i:=2) _ (Ye _)).set (b:=w.heap.size) (i:=3) _ (Ye _)).set (b:=w.heap.size) (i:=4) _ (Ye _))⟩):p:=h
theorem Nt(h:p:=by
 have rc2:r2<=20:=af
 clear rb2;go_wp2_with fail;refine (rH HD2.src).mono ?_;rintro e w3 ⟨t3,rfl,ht3,hs,hg⟩;have HD3:=G (HD2.next hs hg);have G3:=G (gk hg ei G2.out);clear hs hg;go_wp2_with fail;refine (cf HD3.src [⟨#[102,97,115,116]⟩,⟨#[115,108,111,119]⟩] 2 _ _ aF rfl ag ag ag).mono ?_;rintro e w4 ⟨t4,rfl,ht4,hs,hg⟩;have HD4:=G (HD3.next hs hg);have G4:=G (gk hg ei G3.out);clear hs hg;go_wp2_with fail;refine (cJ HD4.src 4 ag).mono ?_;rintro e w5 ⟨he,hs,hg⟩;obtain⟨x5,rfl⟩:=ey he;clear he;have HD5:=G (HD4.next hs hg);have G5:=G (gk hg ei G4.out);clear hs hg;have HDA:=G (HD5.alloc (Ze #[I t1,V O (1+r2),I t3,I t4,Zf (!x5),I ⟨#[]⟩,Zf Zg,U J 0 0] 37));have hA:=ae G5.out;have GA:Hid ((w5.alloc (Ze #[I t1,V O (1+r2),I t3,I t4,Zf (!x5),I ⟨#[]⟩,Zf Zg,U J 0 0] 37)).heap[w5.heap.size]?=M (Ze #[I t1,V O (1+r2),I t3,I t4,Zf (!x5),I ⟨#[]⟩,Zf Zg,U J 0 0] 37 (0,0))):=Yf;have GB:=G ((Yj w5 (Ze #[I t1,V O (1+r2),I t3,I t4,Zf (!x5),I ⟨#[]⟩,Zf Zg,U J 0 0] 37) _ hA).trans G5.out);go_wp2_with fail;refine (cJ HDA.src 12 ag).mono ?_;rintro e w6 ⟨he,hs,hg⟩;have HDJ:=G (HDA.next hs hg);have hpn:=HP.out;have GA':=G (gk hg af GA.out);have GB':=G (gk hg af GB.out);clear hs hg;rcases he with rfl|rfl
 ·go_wp2_with fail;refine (HDJ.src.n 4 ag).mono ?_;rintro e w7 ⟨r7,rfl,ra7,rb7,hs,hg⟩;have HD7:=G (HDJ.next hs hg);have GA7:=G (gk hg af GA'.out);have GB7:=G (gk hg af GB'.out);clear hs hg rb7;by_cases h0:r7=0
  ·subst h0;go_wp2_with fail;refine (lA HD7.src).mono ?_;rintro e w8 ⟨r8,rfl,ra8,rb8,hs,hg⟩;obtain⟨HD8,GA8,GB8⟩:=wW;clear hs hg;have q3:=GA8.out;have q2:=GB8.out;have apU:=@G _ @adU;exact jP
  have q70:(r7==0)=Zg:=by simp[h0]
  by_cases h1:r7=1
  ·subst h1;go_wp2_with fail;refine (cf HD7.src [⟨#[99,49]⟩,⟨#[65]⟩] 2 _ _ aF rfl ag ag ag).mono ?_;rintro e w8 ⟨t8,rfl,ht8,hs,hg⟩;obtain⟨HD8,GA8,GB8⟩:=wW;clear hs hg;have q3:=GA8.out;have q2:=GB8.out;have apU:=@G _ @adT;exact jP
  have q71:(r7==1)=Zg:=by simp[h1]
  by_cases h2:r7=2
  ·subst h2;clear h0 h1;have q3:=GA7.out;have q2:=GB7.out;have apU:=@G _ @adS;exact jP
  have q72:(r7==2)=Zg:=by simp[h2]
  clear h0 h1 h2;go_wp2_with fail;refine (cf HD7.src [⟨#[110,50]⟩,⟨#[110,49]⟩] 2 _ _ aF rfl ag ag ag).mono ?_;rintro e w8 ⟨t8,rfl,ht8,hs,hg⟩;obtain⟨HD8,GA8,GB8⟩:=wW;clear hs hg;have h8A:=ae GA8.out;have h8B:=ae GB8.out;have q3:=GA8.out;have q2:=GB8.out;have HDZ:=G ((((((((((HD8.set (b:=w5.heap.size) (i:=7) (U (M ⟨w8.heap.size,0,J⟩) 2 2) (Nat.le_of_lt hA)).set (b:=w.heap.size) (i:=0) (I t1) (Ye _)).set (b:=w.heap.size) (i:=1) (V O (1+r2)) (Ye _)).set (b:=w.heap.size) (i:=2) (I t3) (Ye _)).set (b:=w.heap.size) (i:=3) (I t4) (Ye _)).set (b:=w.heap.size) (i:=4) (Zf (!x5)) (Ye _)).set (b:=w.heap.size) (i:=5) (I ⟨#[]⟩) (Ye _)).set (b:=w.heap.size) (i:=6) (Zf Zg) (Ye _)).set (b:=w.heap.size) (i:=7) (U (M ⟨w8.heap.size,0,J⟩) 2 2) (Ye _)).alloc (Ze #[I ⟨#[110,49]⟩,I t8] 9));have HLB:Hid (((((((((((w8.setCell ⟨w5.heap.size,7,J⟩ (U (M ⟨w8.heap.size,0,J⟩) 2 2)).setCell ⟨w.heap.size,0,J⟩ (I t1)).setCell ⟨w.heap.size,1,J⟩ (V O (1+r2))).setCell ⟨w.heap.size,2,J⟩ (I t3)).setCell ⟨w.heap.size,3,J⟩ (I t4)).setCell ⟨w.heap.size,4,J⟩ (Zf (!x5))).setCell ⟨w.heap.size,5,J⟩ (I ⟨#[]⟩)).setCell ⟨w.heap.size,6,J⟩ (Zf Zg)).setCell ⟨w.heap.size,7,J⟩ (U (M ⟨w8.heap.size,0,J⟩) 2 2)).alloc (Ze #[I ⟨#[110,49]⟩,I t8] 9)).heap[w8.heap.size]?=M (Ze #[I ⟨#[110,49]⟩,I t8] 9 (0,0))):=qU _ _ _ oR;have apU:=@G _ @adV;exact jP
 ·skip;have q3:=GA'.out;have q2:=GB'.out;have apU:=@G _ @adR;exact jP):p:=h
theorem Ns(h:p:=by
 have rc2:r2<=6:=af
 clear rb2;have HP3:Hid (PSt B w0 p v len w w2.heap.size 3 (w2.alloc (Ze #[I t1,V O (250*r2),I ⟨#[]⟩,U J 0 0,I ⟨#[]⟩,V O 0] 102))):=⟨t1,250*r2,⟨#[]⟩,U J 0 0,[],⟨#[]⟩,0,Yf,⟨ht1,by decide,by decide⟩,by simp,λj x hx=>by simp at hx,⟨rfl,Zl ⟨rfl,rfl⟩⟩,HD2.alloc _,(Yj _ _ _ (ae G2.out)).trans G2.out,ae G2.out⟩;go_wp2_with fail;generalize (w2.alloc (Ze #[I t1,V O (250*r2),I ⟨#[]⟩,U J 0 0,I ⟨#[]⟩,V O 0] 102))=W2 at*;generalize w2.heap.size=b at*;refine (cJ HP3.src 3 ag).mono ?_;rintro e w3 ⟨he,hs,hg⟩;obtain⟨x12,rfl⟩:=ey he;have HP4:=G (HP3.next hs hg);clear hs hg he ra2 rc2 ht1;go_upto_if 12 with fail;go_cut [3] from 13 to 15 (λs wx=>s=Zm (M ⟨b,0,J⟩)/\PSt B w0 p v len w b 3 wx);case first=>
  cases x12 with
  | false=>
   go_wp2_with fail
   go_meet
   exact⟨rfl,HP4.out⟩
  | true=>
   go_wp2_with fail;refine (rH HP4.src).mono ?_;rintro e w4 ⟨t,rfl,ht,hs,hg⟩;have HP5:=G (HP4.next hs hg);have HP6:=G (HP5.set.2.1 t ht);obtain⟨n,c,z,lv,zs,d,ph,q,-⟩:=HP5.out;have y0:=ck0 q;have yf0:=ak q 0;have y1:=ck1 q;have yf1:=ak q 1;have y2:=ck2 q;have yf2:=ak q 2;have y3:=ck3 q;have yf3:=ak q 3;have y4:=ck4 q;have yf4:=ak q 4;have y5:=ck5 q;have yf5:=ak q 5;clear q;clear hs hg;go_wp2_with fail
   go_meet
   exact⟨rfl,HP6.out⟩
 case rest=>
  obtain⟨rfl,hP⟩:=hcut;have HP5:=G hP;clear hP;go_wp2_with fail;refine (cJ HP5.src 2 ag).mono ?_;rintro e w5 ⟨he,hs,hg⟩;obtain⟨x17,rfl⟩:=ey he;have HP6:=G (HP5.next hs hg);clear hs hg he;go_upto_if 17 with fail;go_cut [3] from 18 to 29 (λs wx=>s=Zm (M ⟨b,0,J⟩)/\PSt B w0 p v len w b 3 wx);case first=>
   cases x17 with
   | true=>
    go_wp2_with fail;refine (cf HP6.src [⟨#[99,49]⟩,⟨#[99,50]⟩,⟨#[99,51]⟩,⟨#[99,52]⟩] 4 _ _ aF rfl ag ag ag).mono ?_;rintro e w6 ⟨t,rfl,ht,hs,hg⟩;have HP7:=G (HP6.next hs hg);have HP8:=G (HP7.lay [t] aF aF (λx hx=>by simp at hx;rw[hx];exact ht) 1 rfl);have Z3:=HP7.lt;obtain⟨n,c,z,lv,zs,d,ph,q,-⟩:=HP7.out;have y0:=ck0 q;have yf0:=ak q 0;have y1:=ck1 q;have yf1:=ak q 1;have y2:=ck2 q;have yf2:=ak q 2;have y3:=ck3 q;have yf3:=ak q 3;have y4:=ck4 q;have yf4:=ak q 4;have y5:=ck5 q;have yf5:=ak q 5;clear q;clear hs hg;go_wp2_with fail
    go_meet
    exact⟨rfl,HP8.out⟩
   | false=>
    go_wp2_with fail;refine (cJ HP6.src 2 ag).mono ?_;rintro e w6 ⟨he,hs,hg⟩;have HP7:=G (HP6.next hs hg);clear hs hg
    rcases he with rfl|rfl
    ·go_wp2_with fail;refine (cf HP7.src [⟨#[99,50]⟩,⟨#[99,51]⟩] 2 _ _ aF rfl ag ag ag).mono ?_;rintro e w7 ⟨t,rfl,ht,hs,hg⟩;have HP8:=G (HP7.next hs hg)
     have HP9:=G (HP8.lay [⟨#[99,49]⟩,t] aF aF (λx hx=>by simp at hx;rcases hx with rfl|rfl;decide;exact ht) 2 rfl)
     have Z3:=HP8.lt;obtain⟨n,c,z,lv,zs,d,ph,q,-⟩:=HP8.out;have y0:=ck0 q;have yf0:=ak q 0;have y1:=ck1 q;have yf1:=ak q 1;have y2:=ck2 q;have yf2:=ak q 2;have y3:=ck3 q;have yf3:=ak q 3;have y4:=ck4 q;have yf4:=ak q 4;have y5:=ck5 q;have yf5:=ak q 5;clear q;clear hs hg;go_wp2_with fail
     go_meet
     exact⟨rfl,HP9.out⟩
    ·go_wp2_with fail
     go_meet
     exact⟨rfl,HP7.out⟩
  case rest=>
   obtain⟨rfl,hP⟩:=hcut;have HP7:=G hP;clear hP;go_wp2_with fail;refine (cJ HP7.src 15 ag).mono ?_;rintro e w6 ⟨he,hs,hg⟩;obtain⟨x31,rfl⟩:=ey he;have HP8:=G (HP7.next hs hg);clear hs hg he;go_upto_if 31 with fail;go_cut [3] from 32 to 55 (λs wx=>s=Zm (M ⟨b,0,J⟩)/\PSt B w0 p v len w b 4 wx);case first=>
    cases x31 with
    | false=>
     go_wp2_with fail
     go_meet
     exact⟨rfl,HP8.up af⟩
    | true=>
     go_wp2_with fail;refine (HP8.src.n 4 ag).mono ?_;rintro e w7 ⟨r7,rfl,ra7,rb7,hs,hg⟩;have HP9:=G (HP8.next hs hg);clear hs hg rb7
     by_cases h0:r7=0
     ·subst h0;go_wp2_with fail;refine (xR HP9.src).mono ?_;rintro e w8 ⟨r8,rfl,ra8,rb8,hs,hg⟩;have HPA:=G (HP9.next hs hg);have HPB:=G (HPA.set.1 r8);obtain⟨n,c,z,lv,zs,d,ph,q,-⟩:=HPA.out;have y0:=ck0 q;have yf0:=ak q 0;have y1:=ck1 q;have yf1:=ak q 1;have y2:=ck2 q;have yf2:=ak q 2;have y3:=ck3 q;have yf3:=ak q 3;have y4:=ck4 q;have yf4:=ak q 4;have y5:=ck5 q;have yf5:=ak q 5;clear q;clear hs hg;go_wp2_with fail
      go_meet
      exact⟨rfl,HPB.up af⟩
     have q70:(r7==0)=Zg:=by simp[h0]
     by_cases h1:r7=1
     ·subst h1;clear h0;have Z3:=HP9.lt;have hpl:=HP9.src.vt;obtain⟨n,c,z,lv,zs,d,ph,h1,h2,h3,h4,h5,h6,h7,h8⟩:=HP9.out;have HO:=G h5;have H1:=G h1;have H6:=G h6;have H7:=G h7;have y0:=ck0 h1;have yf0:=ak h1 0;have y1:=ck1 h1;have yf1:=ak h1 1;have y2:=ck2 h1;have yf2:=ak h1 2;have y3:=ck3 h1;have yf3:=ak h1 3;have y4:=ck4 h1;have yf4:=ak h1 4;have y5:=ck5 h1;have yf5:=ak h1 5;clear h1 h5 h6 h7;have HPK:=G (eE (Src.drew (H6.alloc (Ze #[I ⟨#[97]⟩,I ⟨#[65]⟩,I ⟨#[122]⟩] 9)).src) w7.heap.size 3 [⟨#[97]⟩,⟨#[65]⟩,⟨#[122]⟩] 9 Yf af rfl ag ag ag)
      have HNX:Hid (∀w8,Src B w0 p v len w8->(w7.alloc (Ze #[I ⟨#[97]⟩,I ⟨#[65]⟩,I ⟨#[122]⟩] 9)).drew.grownBy w8 (M p)->(w8.heap[b]?=M (Ze #[I n,V O c,I z,lv,I d,V O ph] 102 (0,0))/\w8.ownsRow w.heap.size 9 1 lv zs.length (zs.map Yn)/\Dr B w0 p v len w w8/\w8.heap[w.heap.size]?=M (Ze #[I ⟨#[]⟩,V O 0,I ⟨#[]⟩,U J 0 0,I ⟨#[]⟩,V O 0] 102 (0,0)))):=λw8 hs hg=>by
       have hgw:=bV (cr w7 (Ze #[I ⟨#[97]⟩,I ⟨#[65]⟩,I ⟨#[122]⟩] 9) (M p)) ⟨hg.os,hg.tape,hg.output,hg.size,hg.block⟩;have hpp:=H6.lt;exact⟨gk hgw af H1.out,HO.kept hgw (Zk (λe=>by have:=(HO.lt _ e).1;omega)),H6.next hs hgw,gk hgw af H7.out⟩
      obtain⟨i0,hi,ZO,η,ZP⟩:=info_parts eQ;go_wp2_with fail
      go_region_law (first
       | (refine lI rfl _ _ 35 rfl w.heap.size 9 i0 (I ⟨#[]⟩) 1 16 Tryz.underlying35 hi ZO η ZP rfl ag lv zs.length (zs.map Yn) (by simp[Act.eval]) (HO8.alloc _) ⟨w8.heap.size,0,J⟩ 1 1 [I t] (by simp[Act.eval]) rfl (λj u hj=>by have hq:=al (w:=w8.alloc (Ze #[I t] 9)) (b:=w8.heap.size) (qU _ _ _ rfl) j;rw[Ym,Yp,hq];simpa using hj) (λu hu=>by simp at hu;subst hu;rfl) br af bg ?_;intro v2 w9 ζ ZC _;obtain⟨qa,ql,qc,rfl⟩:=alf ζ;have hn8:=nT HO8.out H18.out;have hn9:=nT HO8.out H78.out;have g9:=(ZC.block b (Yl (ae H18.out) aF) (λe=>hn8 e.symm)).trans ((Yj w8 (Ze #[I t] 9) _ (ae H18.out)).trans H18.out);have z9:=(ZC.block w.heap.size (Yl (ae H78.out) aF) (λe=>hn9 e.symm)).trans ((Yj w8 (Ze #[I t] 9) _ (ae H78.out)).trans H78.out);have HW:=G ζ;have HG:=G ZC;have G9:=G g9;have Z9:=G z9;have v0:w9.cell? ⟨b,0,J⟩=M (I n):=al g9 0;have vf0:w9.frozen? ⟨b,0,J⟩=Zg:=ak g9 0;have v1:w9.cell? ⟨b,1,J⟩=M (V O c):=al g9 1;have vf1:w9.frozen? ⟨b,1,J⟩=Zg:=ak g9 1;have v2:w9.cell? ⟨b,2,J⟩=M (I z):=al g9 2;have vf2:w9.frozen? ⟨b,2,J⟩=Zg:=ak g9 2;have v3:w9.cell? ⟨b,3,J⟩=M (lv):=al g9 3;have vf3:w9.frozen? ⟨b,3,J⟩=Zg:=ak g9 3;have v4:w9.cell? ⟨b,4,J⟩=M (I d):=al g9 4;have vf4:w9.frozen? ⟨b,4,J⟩=Zg:=ak g9 4;have v5:w9.cell? ⟨b,5,J⟩=M (V O ph):=al g9 5;have vf5:w9.frozen? ⟨b,5,J⟩=Zg:=ak g9 5;clear ζ ZC hn8 hn9 g9 z9)
       | (refine BG rfl 20 _ _ Tryz.func20 aW rfl rfl _ (by simp[Act.eval]) HPK.out (λe w8 hR=>?_);obtain⟨t,rfl,ht,hs,hg⟩:=hR;refine⟨_,rfl,?_⟩;obtain⟨g1,ho8,hd8,hz8⟩:=HNX.out w8 hs hg;have hl8:=ae g1;have HO8:=G ho8;have H68:=G hd8;have H78:=G hz8;have H18:=G g1;have x0:w8.cell? ⟨b,0,J⟩=M (I n):=al g1 0;have xf0:w8.frozen? ⟨b,0,J⟩=Zg:=ak g1 0;have x1:w8.cell? ⟨b,1,J⟩=M (V O c):=al g1 1;have xf1:w8.frozen? ⟨b,1,J⟩=Zg:=ak g1 1;have x2:w8.cell? ⟨b,2,J⟩=M (I z):=al g1 2;have xf2:w8.frozen? ⟨b,2,J⟩=Zg:=ak g1 2;have x3:w8.cell? ⟨b,3,J⟩=M (lv):=al g1 3;have xf3:w8.frozen? ⟨b,3,J⟩=Zg:=ak g1 3;have x4:w8.cell? ⟨b,4,J⟩=M (I d):=al g1 4;have xf4:w8.frozen? ⟨b,4,J⟩=Zg:=ak g1 4;have x5:w8.cell? ⟨b,5,J⟩=M (V O ph):=al g1 5;have xf5:w8.frozen? ⟨b,5,J⟩=Zg:=ak g1 5;clear g1 hs hg ho8 hd8 hz8))
      all_goals (
       go_wp2_with fail
       go_meet
       refine⟨rfl,n,c,z,U qa ql qc,zs++[t],d,ph,an G9.out _,h2,by simp;omega,λj x hx=>?_,?_,?_,?_,h8⟩
       ·rcases Nat.lt_or_ge j zs.length with hj|hj
        ·rw[Yu hj] at hx;exact h4 j x hx
        ·rw[List.getElem?_append_right hj] at hx;have hx2:=Yv hx
         simp at hx2
         rw[hx2];exact ht
       ·have h9:=HW.kept (bM w9 b 3 (U qa ql qc)) (Zk (nT HW.out G9.out))
        simpa using h9
       ·exact ((H68.alloc _).alq HG.out (λk e=>(HO8.lt _ e).1)).set _ af
       ·exact (Ya _ _ _ _ (show w.heap.size≠b by omega)).trans Z9.out)
     have q71:(r7==1)=Zg:=by simp[h1]
     by_cases h2:r7=2
     ·subst h2;clear h0 h1;go_wp2_with fail;refine (HP9.src.n 5 ag).mono ?_;rintro e w8 ⟨r8,rfl,ra8,rb8,hs,hg⟩;have HPA:=G (HP9.next hs hg);have HPB:=G (HPA.set.2.2.2 (r8 - 1))
      have rc8:r8<=5:=af
      obtain⟨n,c,z,lv,zs,d,ph,q,-⟩:=HPA.out;have y0:=ck0 q;have yf0:=ak q 0;have y1:=ck1 q;have yf1:=ak q 1;have y2:=ck2 q;have yf2:=ak q 2;have y3:=ck3 q;have yf3:=ak q 3;have y4:=ck4 q;have yf4:=ak q 4;have y5:=ck5 q;have yf5:=ak q 5;clear q;clear hs hg rb8;go_wp2_with fail
      go_meet
      exact⟨rfl,HPB.up af⟩
     have q72:(r7==2)=Zg:=by simp[h2]
     clear h0 h1 h2;have HPB:=G (HP9.set.2.2.1 ⟨#[110,49]⟩ ag);obtain⟨n,c,z,lv,zs,d,ph,q,-⟩:=HP9.out;have y0:=ck0 q;have yf0:=ak q 0;have y1:=ck1 q;have yf1:=ak q 1;have y2:=ck2 q;have yf2:=ak q 2;have y3:=ck3 q;have yf3:=ak q 3;have y4:=ck4 q;have yf4:=ak q 4;have y5:=ck5 q;have yf5:=ak q 5;clear q;go_wp2_with fail
     go_meet
     exact⟨rfl,HPB.up af⟩
   case rest=>
    obtain⟨rfl,hP⟩:=hcut;obtain⟨n,c,z,lv,zs,d,ph,h1,h2,h3,h4,h5,h6,h7,h8⟩:=hP;have hbn:¬b=w.heap.size:=af
    have y0:=ck0 h1;have yf0:=ak h1 0;have y1:=ck1 h1;have yf1:=ak h1 1;have y2:=ck2 h1;have yf2:=ak h1 2;have y3:=ck3 h1;have yf3:=ak h1 3;have y4:=ck4 h1;have yf4:=ak h1 4;have y5:=ck5 h1;have yf5:=ak h1 5;have z0:=ck0 h7;have zf0:=ak h7 0;have z1:=ck1 h7;have zf1:=ak h7 1;have z2:=ck2 h7;have zf2:=ak h7 2;have z3:=ck3 h7;have zf3:=ak h7 3;have z4:=ck4 h7;have zf4:=ak h7 4;have z5:=ck5 h7;have zf5:=ak h7 5;have ZE:=nT h5 h7;have k5:=((((((h5.kept (bM _ w.heap.size 0 (I n)) (Zk ZE)).kept (bM _ w.heap.size 1 (V O c)) (Zk ZE)).kept (bM _ w.heap.size 2 (I z)) (Zk ZE)).kept (bM _ w.heap.size 3 (lv)) (Zk ZE)).kept (bM _ w.heap.size 4 (I d)) (Zk ZE)).kept (bM _ w.heap.size 5 (V O ph)) (Zk ZE));have HD:=G (((((((h6.set (b:=w.heap.size) (i:=0) (I n) (Ye _)).set (b:=w.heap.size) (i:=1) (V O c) (Ye _)).set (b:=w.heap.size) (i:=2) (I z) (Ye _)).set (b:=w.heap.size) (i:=3) (lv) (Ye _)).set (b:=w.heap.size) (i:=4) (I d) (Ye _)).set (b:=w.heap.size) (i:=5) (V O ph) (Ye _)));obtain⟨a,l,cp,rfl,hx,hx2,hx3⟩:=agR k5 h4;have HX:=G (Yb hx (Yb hx2 h2));have HX3:=G (Yb hx3 (Yb h3 h4));clear hx hx2 hx3 h2 h1 h7 h5 h6 k5 ZE h3 h4;go_wp2_with fail;exact bodyPost_ret (v:=Zj #[I n,V O c,I z,U a l cp,I d,V O ph]) (by simp[results,Tryz.results81,go_sem, *]) rfl ⟨n,c,z,a,l,cp,zs,d,ph,rfl,HX.2.2.1,HX.2.2.2.1,HX.2.2.2.2,HX.1,HX.2.1,HX3.1,HX3.2.1,HX3.2.2,HD.out⟩):p:=h
theorem nC(h:p:=by
 rintro e w2 ⟨r2,rfl,ra2,rb2,hs,hg⟩;have HD2:=G (HD1.next hs hg);have G2:=G (gk hg ei G1.out);clear hs hg;exact aqz):p:=h
theorem L1(h:p:=by
 exact aoM):p:=h
theorem L0(h:p:=by
 obtain⟨x0,x1,x2,x3,x4,x5,x6,x7⟩:=cs8 Bx;have ay3:=ae Bx.out;have hq1:=HQ1.out;have Τ:=ν.out;have h5:=(ho.v.bC (S':=(λk=>w3.heap.size<=k/\k<w4.heap.size)) (λk hk s=>⟨s,hk⟩)).below (aj w4 (Ze (Zs d' c.now) 29));have hlen:d'.l3<=8:=by have h6:=ho.v.1;have h7:(c.vs.map vdF).length=d'.l3:=h6;rw[Yq] at h7;omega
 have HFR:=G ho;clear ho;have hbo:=aj w4 (Ze (Zs d' c.now) 29);have hxk:=ae Bx.out;have hc2:Calls Tryz.prog 38 #[Zj #[I xn,V O xc,I xz,I xk,Zf xs,I ⟨#[]⟩,Zf Zg,U va 0 vc]] (w4.alloc (Ze (Zs d' c.now) 29)).drew λe W3=> ∃a3 l3 c3,e=Zh (Zj #[I xn,V O xc,I xz,I xk,Zf xs,I ⟨#[]⟩,Zf Zg,U a3 l3 c3])/\Hid (bG W3 a3 l3 c3 [] (λk=>w4.heap.size+1<=k))/\Hid (Below (w4.alloc (Ze (Zs d' c.now) 29)).heap.size (w4.alloc (Ze (Zs d' c.now) 29)) W3)/\Hid (W3.heap[w.heap.size+1]?=M (Ze #[I xn,V O xc,I xz,I xk,Zf xs,I ⟨#[]⟩,Zf Zg,U va 0 vc] 37 (0,0)))/\Hid (W3.heap[w4.heap.size]?=M (Ze (Zs d' c.now) 29 (0,0)))/\Hid (W3.heap[w.heap.size+1+1]?=M (Ze #[U J 0 0,U J 0 0,U J 0 0,U J 0 0,U J 0 0,V O 0,I ⟨#[]⟩,V O 0] 33 (0,0))):=by
  refine (Ap.alI xn xc xz xk xs ⟨#[]⟩ Zg va 0 vc [] (w4.alloc (Ze (Zs d' c.now) 29)).drew (show aw _ _ _ _ _ from (HX.below ((HB.trans ((hbo.mono HB.size))).trans ⟨rfl,rfl,rfl,Ye _,λ_ _=>rfl⟩))) af).mono ?_;rintro e W3 ⟨a3,l3,c3,rfl,h1,h2,Zy⟩;have hO:bG W3 a3 l3 c3 [] (λk=>(w4.alloc (Ze (Zs d' c.now) 29)).drew.heap.size<=k):=⟨h1,h2⟩;have χ:Below (w4.alloc (Ze (Zs d' c.now) 29)).heap.size (w4.alloc (Ze (Zs d' c.now) 29)) W3:=⟨Zy.os,Zy.tape,Zy.output,Zy.size,Zy.block⟩;exact⟨a3,l3,c3,rfl,hO.bC (λk _ s=>by have s1:(w4.alloc (Ze (Zs d' c.now) 29)).drew.heap.size<=k:=s;simpa using s1),χ,(χ.block _ bg).trans ((hbo.block _ hxk).trans Bx.out),(χ.block _ aF).trans (heap_alloc_new w4 (Ze (Zs d' c.now) 29)),(χ.block _ bg).trans ((hbo.block _ af).trans Br.out)⟩
 have hc3:∀(W3:World) a3 l3 c3,Below (w4.alloc (Ze (Zs d' c.now) 29)).heap.size (w4.alloc (Ze (Zs d' c.now) 29)) W3->bG W3 a3 l3 c3 [] (λk=>w4.heap.size+1<=k)->Hid (W3.heap[w.heap.size+1]?=M (Ze #[I xn,V O xc,I xz,I xk,Zf xs,I ⟨#[]⟩,Zf Zg,U va 0 vc] 37 (0,0)))/\Hid (W3.heap[w4.heap.size]?=M (Ze (Zs d' c.now) 29 (0,0)))/\Hid (W3.heap[w.heap.size+1+1]?=M (Ze #[U J 0 0,U J 0 0,U J 0 0,U J 0 0,U J 0 0,V O 0,I ⟨#[]⟩,V O 0] 33 (0,0)))->Calls Tryz.prog 65 #[U d'.a3 d'.l3 d'.c3,Zj #[I xn,V O xc,I xz,I xk,Zf xs,I ⟨#[]⟩,Zf Zg,U a3 l3 c3]] W3 λe W4=> ∃a' c',e=Zh (U a' (d'.l3+1) c')/\Hid (av W4 a' (d'.l3+1) c' 8 37 ((aQ (pl Vd.n c.vs xn) (⟨xn,xc,xz,xk,xs,⟨#[]⟩,Zg,[]⟩:Vd) c.vs).map vdF) (λk=>(λk=>w3.heap.size<=k/\k<w4.heap.size) k\/w4.heap.size+1<=k))/\Hid (Below w4.heap.size w4 W4)/\Hid (W4.heap[w.heap.size+1]?=M (Ze #[I xn,V O xc,I xz,I xk,Zf xs,I ⟨#[]⟩,Zf Zg,U va 0 vc] 37 (0,0)))/\Hid (W4.heap[w4.heap.size]?=M (Ze (Zs d' c.now) 29 (0,0)))/\Hid (W4.heap[w.heap.size+1+1]?=M (Ze #[U J 0 0,U J 0 0,U J 0 0,U J 0 0,U J 0 0,V O 0,I ⟨#[]⟩,V O 0] 33 (0,0))):=λW3 a3 l3 c3 Zy hO3 hkp=>by
  obtain⟨g,hg⟩:=hO3.fr;have hs3:=Zy.size;simp only[cW] at hs3;refine (mB d'.a3 d'.l3 d'.c3 c.vs (⟨xn,xc,xz,xk,xs,⟨#[]⟩,Zg,[]⟩:Vd) a3 l3 c3 g _ (λk=>w4.heap.size+1<=k) W3 (h5.below Zy) hlen (λi f hf=>by rcases i with _|_|_|_|_|_|_|_|i <;> simp[vdF] at hf <;> subst hf;exact⟨_,rfl,rfl,z0⟩;exact⟨_,rfl,rfl⟩;exact⟨_,rfl,rfl,z2⟩;exact⟨_,rfl,rfl,z3⟩;exact⟨_,rfl,rfl⟩;exact⟨_,rfl,rfl,by decide⟩;exact⟨_,rfl,rfl⟩;exact⟨_,rfl,hg⟩) (λk q1 q2=>by have q3:=q1.2;have q4:w4.heap.size+1<=k:=q2;omega)).mono ?_;rintro e W4 ⟨a',c',rfl,hN,π⟩;have ayK:=(hbo.trans (Zy.mono aF)).trans (π.mono af);have hN':=hN.bC (S':=λk=>(λk=>w3.heap.size<=k/\k<w4.heap.size) k\/w4.heap.size+1<=k) (λk _ s=>by
   rcases s with (s|s)|s
   ·exact Zl s
   ·exact Zk s
   ·have s1:W3.heap.size<=k:=s;exact Zk af)
  exact⟨a',c',rfl,hN',ayK,(π.block _ (ae hkp.1.out)).trans hkp.1.out,(π.block _ (ae hkp.2.1.out)).trans hkp.2.1.out,(π.block _ (ae hkp.2.2.out)).trans hkp.2.2.out⟩
 have C2:=G hc2;have C3:=G hc3;clear hc2 hc3 h5;have mixed:Tryz.prog.follows .mixedOrders=Zi:=aW
 go_wp2;go_region_with (first
  | (go_at_call 38;refine C2.mono ?_;rintro e w3' ⟨a3,l3,c3,rfl,HO3,Z7,awr⟩;obtain⟨o0,o1,o2,o3,o4,o5⟩:=cs6 awr.2.1.out;have azn:=ae awr.2.1.out)
  | (go_at_call 65;refine (C3.out w3' a3 l3 c3 Z7.out HO3.out awr).mono ?_;rintro e w5 ⟨a',c',rfl,Β,Ρ,atB⟩;obtain⟨p0,p1,p2,p3,p4,p5⟩:=cs6 atB.2.1.out;have hol:=ae atB.2.1.out;have fo2:=ak atB.2.1.out 2))
 all_goals (
  obtain⟨r0,r1,r2,r3,r4,r5,r6,r7⟩:=cs8 atB.2.2.out;obtain⟨ZR,ZS,ZT,ZU,ZV,ZY,Z1,Z2⟩:=lL atB.2.2.out
  go_wp2
  refine bodyPost_ret (v:=Zj #[U d'.a1 d'.l1 d'.c1,U d'.a2 d'.l2 d'.c2,U a' (d'.l3+1) c',U d'.a4 d'.l4 d'.c4,U d'.a5 d'.l5 d'.c5,V O c.now,I ⟨#[]⟩,V O 0]) lk rfl ⟨⟨d'.a1,d'.l1,d'.c1,d'.a2,d'.l2,d'.c2,a',d'.l3+1,c',d'.a4,d'.l4,d'.c4,d'.a5,d'.l5,d'.c5⟩,⟨alw c (⟨xn,xc,xz,xk,xs,⟨#[]⟩,Zg,[]⟩:Vd),⟨#[]⟩,0⟩,rfl,HV.out,?_,eJ (show w.heap.size<=w.heap.size+1+1 by omega) (ai (show w.heap.size<=w4.heap.size by omega) (HB.trans (Ρ.mono HB.size)))⟩
  have Zp:∀k,w3.heap.size<=k->¬k=w4.heap.size->(((((((((w5.setCell ⟨w4.heap.size,2,J⟩ (U a' (d'.l3+1) c')).setCell ⟨w.heap.size+1+1,0,J⟩ (U d'.a1 d'.l1 d'.c1)).setCell ⟨w.heap.size+1+1,1,J⟩ (U d'.a2 d'.l2 d'.c2)).setCell ⟨w.heap.size+1+1,2,J⟩ (U a' (d'.l3+1) c')).setCell ⟨w.heap.size+1+1,3,J⟩ (U d'.a4 d'.l4 d'.c4)).setCell ⟨w.heap.size+1+1,4,J⟩ (U d'.a5 d'.l5 d'.c5)).setCell ⟨w.heap.size+1+1,5,J⟩ (V O c.now)).setCell ⟨w.heap.size+1+1,6,J⟩ (I ⟨#[]⟩)).setCell ⟨w.heap.size+1+1,7,J⟩ (V O 0)).heap[k]?=w5.heap[k]?:=λk h1 h2=>by rw[Ya _ _ _ _ (show k≠w.heap.size+1+1 by omega),Ya _ _ _ _ (show k≠w.heap.size+1+1 by omega),Ya _ _ _ _ (show k≠w.heap.size+1+1 by omega),Ya _ _ _ _ (show k≠w.heap.size+1+1 by omega),Ya _ _ _ _ (show k≠w.heap.size+1+1 by omega),Ya _ _ _ _ (show k≠w.heap.size+1+1 by omega),Ya _ _ _ _ (show k≠w.heap.size+1+1 by omega),Ya _ _ _ _ (show k≠w.heap.size+1+1 by omega),Ya _ _ _ _ (show k≠w4.heap.size by omega)]
  exact⟨(HFR.n.ay (w':=(((((((((w5.setCell ⟨w4.heap.size,2,J⟩ (U a' (d'.l3+1) c')).setCell ⟨w.heap.size+1+1,0,J⟩ (U d'.a1 d'.l1 d'.c1)).setCell ⟨w.heap.size+1+1,1,J⟩ (U d'.a2 d'.l2 d'.c2)).setCell ⟨w.heap.size+1+1,2,J⟩ (U a' (d'.l3+1) c')).setCell ⟨w.heap.size+1+1,3,J⟩ (U d'.a4 d'.l4 d'.c4)).setCell ⟨w.heap.size+1+1,4,J⟩ (U d'.a5 d'.l5 d'.c5)).setCell ⟨w.heap.size+1+1,5,J⟩ (V O c.now)).setCell ⟨w.heap.size+1+1,6,J⟩ (I ⟨#[]⟩)).setCell ⟨w.heap.size+1+1,7,J⟩ (V O 0))) (S':=λk=>w.heap.size<=k) (λk hk s=>(Zp k s af).trans (Ρ.block k hk)) (λ_ _ s=>loq)),(HFR.k.ay (w':=(((((((((w5.setCell ⟨w4.heap.size,2,J⟩ (U a' (d'.l3+1) c')).setCell ⟨w.heap.size+1+1,0,J⟩ (U d'.a1 d'.l1 d'.c1)).setCell ⟨w.heap.size+1+1,1,J⟩ (U d'.a2 d'.l2 d'.c2)).setCell ⟨w.heap.size+1+1,2,J⟩ (U a' (d'.l3+1) c')).setCell ⟨w.heap.size+1+1,3,J⟩ (U d'.a4 d'.l4 d'.c4)).setCell ⟨w.heap.size+1+1,4,J⟩ (U d'.a5 d'.l5 d'.c5)).setCell ⟨w.heap.size+1+1,5,J⟩ (V O c.now)).setCell ⟨w.heap.size+1+1,6,J⟩ (I ⟨#[]⟩)).setCell ⟨w.heap.size+1+1,7,J⟩ (V O 0))) (S':=λk=>w.heap.size<=k) (λk hk s=>(Zp k s af).trans (Ρ.block k hk)) (λ_ _ s=>loq)),(Β.ay (w':=(((((((((w5.setCell ⟨w4.heap.size,2,J⟩ (U a' (d'.l3+1) c')).setCell ⟨w.heap.size+1+1,0,J⟩ (U d'.a1 d'.l1 d'.c1)).setCell ⟨w.heap.size+1+1,1,J⟩ (U d'.a2 d'.l2 d'.c2)).setCell ⟨w.heap.size+1+1,2,J⟩ (U a' (d'.l3+1) c')).setCell ⟨w.heap.size+1+1,3,J⟩ (U d'.a4 d'.l4 d'.c4)).setCell ⟨w.heap.size+1+1,4,J⟩ (U d'.a5 d'.l5 d'.c5)).setCell ⟨w.heap.size+1+1,5,J⟩ (V O c.now)).setCell ⟨w.heap.size+1+1,6,J⟩ (I ⟨#[]⟩)).setCell ⟨w.heap.size+1+1,7,J⟩ (V O 0))) (S':=λk=>w.heap.size<=k) (λk hk s=>Zp k gQ gQ) (λ_ _ s=>loq)),(HFR.x.ay (w':=(((((((((w5.setCell ⟨w4.heap.size,2,J⟩ (U a' (d'.l3+1) c')).setCell ⟨w.heap.size+1+1,0,J⟩ (U d'.a1 d'.l1 d'.c1)).setCell ⟨w.heap.size+1+1,1,J⟩ (U d'.a2 d'.l2 d'.c2)).setCell ⟨w.heap.size+1+1,2,J⟩ (U a' (d'.l3+1) c')).setCell ⟨w.heap.size+1+1,3,J⟩ (U d'.a4 d'.l4 d'.c4)).setCell ⟨w.heap.size+1+1,4,J⟩ (U d'.a5 d'.l5 d'.c5)).setCell ⟨w.heap.size+1+1,5,J⟩ (V O c.now)).setCell ⟨w.heap.size+1+1,6,J⟩ (I ⟨#[]⟩)).setCell ⟨w.heap.size+1+1,7,J⟩ (V O 0))) (S':=λk=>w.heap.size<=k) (λk hk s=>(Zp k s af).trans (Ρ.block k hk)) (λ_ _ s=>loq)),(HFR.p.ay (w':=(((((((((w5.setCell ⟨w4.heap.size,2,J⟩ (U a' (d'.l3+1) c')).setCell ⟨w.heap.size+1+1,0,J⟩ (U d'.a1 d'.l1 d'.c1)).setCell ⟨w.heap.size+1+1,1,J⟩ (U d'.a2 d'.l2 d'.c2)).setCell ⟨w.heap.size+1+1,2,J⟩ (U a' (d'.l3+1) c')).setCell ⟨w.heap.size+1+1,3,J⟩ (U d'.a4 d'.l4 d'.c4)).setCell ⟨w.heap.size+1+1,4,J⟩ (U d'.a5 d'.l5 d'.c5)).setCell ⟨w.heap.size+1+1,5,J⟩ (V O c.now)).setCell ⟨w.heap.size+1+1,6,J⟩ (I ⟨#[]⟩)).setCell ⟨w.heap.size+1+1,7,J⟩ (V O 0))) (S':=λk=>w.heap.size<=k) (λk hk s=>(Zp k s af).trans (Ρ.block k hk)) (λ_ _ s=>loq))⟩)):p:=h
theorem da(h:p:=by
 replace Bk:=upK Bk hb;replace Bx:=upK Bx hb;replace Br:=upK Br hb;replace HB:=upB HB hb;clear hb;exact amM):p:=h
theorem LJ(h:p:=by
 rintro e w3 ⟨d',rfl,ho,hb⟩;have HQ3:=G hb.size;clear k0 k1 k2 k3 k4 k5 aoG;have aok:=@G _ @DS;exact fa):p:=h
theorem Lx(h:p:=by
 have aqu:=@G _ @FX;exact mV):p:=h
theorem Lw(h:p:=by
 refine (aI p _).mono ?_;have aoC:=@G _ @EX;exact fO):p:=h
theorem Lv(h:p:=by
 have atC:=@G _ @Gj;exact sR):p:=h
theorem Lu(h:p:=by
 refine (aI p _).mono ?_;have aoC:=@G _ @EW;exact fO):p:=h
theorem Lt(h:p:=by
 refine (aI 10 _).mono ?_;have aoC:=@G _ @EV;exact fO):p:=h
theorem Ls(h:p:=by
 refine (mh n 0 1000 _).mono ?_;rintro e w2 ⟨r,rfl,hr,rfl⟩;cases r
 ·have Z6:¬Inn n 0 1000:=λh=>(by have:=hr.2 h;cases this);clear hr;clear k0 k1 k2 k3 k4 k5 Α;have HV:Hid (gL c n (co0 8)):=Zk (Zl ⟨HT.out,λh=>Z6 h.1,rfl⟩);exact aiw
 have Z6:=hr.1 bU;clear hr;obtain⟨hi0,hi1⟩:=Z6;by_cases hlate:1000000<c.now+n
 ·clear k0 k1 k2 k3 k4 k5 Α;have HV:Hid (gL c n (co0 8)):=Zk (Zl ⟨HT.out,λh=>(by have:=h.2;omega),rfl⟩);exact aiw
 clear k0 k1 k2 k3 k4 k5 Α;have HV:Hid (gL c n ⟨later c n,⟨#[]⟩,0⟩):=Zk (Zk ⟨HT.out,⟨⟨hi0,hi1⟩,by omega⟩,rfl⟩);have HS:=G HT.sm;have HQ1:Hid (w.heap.size+1<w1.heap.size):=ae Br.out;obtain⟨k0,k1,k2,k3,k4,k5⟩:=cs6 Bk;have Α:=ae Bk.out;go_wp2_with fail;have HLO:=G HB.size;refine (cZ d c _ (HR.below HB.out) HS.out).mono ?_;rintro e w3 ⟨d',rfl,ho,hb⟩;have ν:=G hb.size;clear k0 k1 k2 k3 k4 k5 Α;have aot:=@G _ @Va;exact eN):p:=h
theorem Lr(h:p:=by
 refine (aI 1 _).mono ?_;have aoC:=@G _ @EU;exact fO):p:=h
theorem KL(h:p:=by
 obtain⟨ua,ul,uc,-,-,-,-,-,-,-,-,hd5,-⟩:=bo Zc;clear Zc hy;cases hd:n.d;rotate_left
 ·have HV:Hid (iz c t (co0 10)):=Zk ⟨n,ZQ.out,Zl ⟨hd,rfl⟩⟩;rw[hd] at hd5;clear hd;obtain⟨k0,k1,k2,k3,k4,k5⟩:=cs6 Bk;go_wp2_with fail;refine (aI 10 _).mono ?_;rintro e w2 ⟨rfl,hb⟩;clear k0 k1 k2 k3 k4 k5;replace Bk:=upK Bk hb;have κ:=@G _ @agc;exact bI
 have HV:Hid (iz c t ⟨px c t n,⟨#[]⟩,0⟩):=Zk ⟨n,ZQ.out,Zk ⟨hd,rfl⟩⟩;rw[hd] at hd5;clear hd;have HQ1:Hid (w.heap.size+1<w1.heap.size):=ae Br.out;obtain⟨k0,k1,k2,k3,k4,k5⟩:=cs6 Bk;go_wp2_with fail;have atC:=@G _ @Gh;exact sR):p:=h
theorem tU(h:p:=by
 have atD:=@G _ @D6;exact so):p:=h
theorem Kz(h:p:=by
 have hsw:(w3.setCell ⟨g,j*7+5,J⟩ (Zf Zi)).heap.size=w3.heap.size:=oR
 obtain⟨⟨cur,H,hbk,_⟩,_⟩:=HST.out;have hvb:((w3.setCell ⟨g,j*7+5,J⟩ (Zf Zi)).alloc (Ze (Zd (M ⟨g,0,J⟩) m1 n1 x2 m2 n2 x3 m3 n3 x4 m4 n4 x5 m5 n5 c.now) 29)).heap[w3.heap.size]?=M (Ze (Zd (M ⟨g,0,J⟩) m1 n1 x2 m2 n2 x3 m3 n3 x4 m4 n4 x5 m5 n5 c.now) 29 (0,0)):=by have h9:=heap_alloc_new (w3.setCell ⟨g,j*7+5,J⟩ (Zf Zi)) (Ze (Zd (M ⟨g,0,J⟩) m1 n1 x2 m2 n2 x3 m3 n3 x4 m4 n4 x5 m5 n5 c.now) 29);rw[hsw] at h9;exact h9
 have hkV:∀k,k<w3.heap.size->¬k=g->((w3.setCell ⟨g,j*7+5,J⟩ (Zf Zi)).alloc (Ze (Zd (M ⟨g,0,J⟩) m1 n1 x2 m2 n2 x3 m3 n3 x4 m4 n4 x5 m5 n5 c.now) 29)).heap[k]?=w3.heap[k]?:=λk h1 h2=>(Yj _ _ _ (by rw[hsw];exact h1)).trans (Ya _ _ _ _ h2);have far:∀{a l cp m T rs},av w3 a l cp m T rs (λk=>w1.heap.size<=k)->¬81=T->av ((w3.setCell ⟨g,j*7+5,J⟩ (Zf Zi)).alloc (Ze (Zd (M ⟨g,0,J⟩) m1 n1 x2 m2 n2 x3 m3 n3 x4 m4 n4 x5 m5 n5 c.now) 29)) a l cp m T rs (λk=>w1.heap.size<=k/\k<w3.heap.size):=λh hT=>(h.dZ hbk.blk hT ag).ay (λk hk s=>hkV k hk s.2) (λk hk s=>⟨s.1,hk⟩);have f2:=far HO.k ag;have f3:=far HO.v ag;have f4:=far HO.x ag;have f5:=far HO.p ag;have h2:=HST.ai1 (i:=5) rfl Zi;obtain⟨⟨aod,H2,h3,_⟩,_,_⟩:=h2;have hns:(px c t n).raw.n=(c.ns.map ndF).set j (ndF (dead n)):=by
  show (c.ns.set (pl Nd.n c.ns t) (dead n)).map ndF=_;rw[(bj HT.2.1.1.2.2 HNJ.out ZQ.2.2.2).1,List.map_set]
 have hR:av (w3.setCell ⟨g,j*7+5,J⟩ (Zf Zi)) (M ⟨g,0,J⟩) m1 n1 7 81 (px c t n).raw.n (λk=>w1.heap.size<=k/\k<w3.heap.size):=by
  exact Pu
 have f1:av ((w3.setCell ⟨g,j*7+5,J⟩ (Zf Zi)).alloc (Ze (Zd (M ⟨g,0,J⟩) m1 n1 x2 m2 n2 x3 m3 n3 x4 m4 n4 x5 m5 n5 c.now) 29)) (M ⟨g,0,J⟩) m1 n1 7 81 (px c t n).raw.n (λk=>w1.heap.size<=k/\k<w3.heap.size):=hR.ay (λk hk s=>Yj _ _ _ hk) (λ_ _ s=>s);have hr2:((w3.setCell ⟨g,j*7+5,J⟩ (Zf Zi)).alloc (Ze (Zd (M ⟨g,0,J⟩) m1 n1 x2 m2 n2 x3 m3 n3 x4 m4 n4 x5 m5 n5 c.now) 29)).heap[w.heap.size+1]?=M (Ze #[U J 0 0,U J 0 0,U J 0 0,U J 0 0,U J 0 0,V O 0,I ⟨#[]⟩,V O 0] 33 (0,0)):=(hkV _ af af).trans Br.out;have HBV:Hid (Below w.heap.size w ((w3.setCell ⟨g,j*7+5,J⟩ (Zf Zi)).alloc (Ze (Zd (M ⟨g,0,J⟩) m1 n1 x2 m2 n2 x3 m3 n3 x4 m4 n4 x5 m5 n5 c.now) 29))):=Below.alloc (ai (show w.heap.size<=g by omega) HB.out) (by rw[hsw];exact HB.size) _;refine (mC w3.heap.size (M ⟨g,0,J⟩) x2 x3 x4 x5 m1 n1 m2 n2 m3 n3 m4 n4 m5 n5 c.now t c.ps (λk=>w1.heap.size<=k/\k<w3.heap.size) _ hvb f5 (λg5 e0 e5 e=>?_)).mono ?_
 ·rcases f5.2.2.2 with h9|⟨g9,c9,H9,e9,h9⟩
  ·have h8:=f5.1;rw[h9] at h8;simp at h8;omega
  ·rw[e5] at e9;cases e9;have:=h9.inS.2;omega
 rintro e w4 ⟨⟨v,rfl⟩,hP,hK⟩;have nb:∀k,¬(w1.heap.size<=k/\k<w3.heap.size)->¬(0<m5/\x5=M ⟨k,0,J⟩):=λk h1 h2=>by
  rcases f5.2.2.2 with h9|⟨g9,c9,H9,e9,h9⟩
  ·have h8:=f5.1;have h7:=h2.1;rw[h9] at h8;simp at h8;omega
  ·have h7:=h2.2;rw[h7] at e9;cases e9;exact h1 h9.inS
 have Bo4:=G ((hK.block _ (ae hvb) (nb _ af)).trans hvb);have Br4:=G ((hK.block _ (ae hr2) (nb _ af)).trans hr2);have g1:=f1.beside f5 hK ag;have g2:=f2.beside f5 hK ag;have g3:=f3.beside f5 hK ag;have g4:=f4.beside f5 hK ag;have HG:=G (Yb g1 (Yb g2 (Yb g3 (Yb g4 hP))));have HB4:Hid (Below w.heap.size w w4):=HBV.trans (hK.low (X:=w.heap.size) HBV.size (λk s=>Classical.byContradiction λhk=>nb k af s));clear f1 f2 f3 f4 f5 g1 g2 g3 g4 hP hK hR h3 hvb hr2 far hkV hns hbk nb hv5 hf5;obtain⟨o0,o1,o2,o3,o4,o5⟩:=cs6 Bo4;obtain⟨r0,r1,r2,r3,r4,r5,r6,r7⟩:=cs8 Br4;obtain⟨ZR,ZS,ZT,ZU,ZV,ZY,Z1,Z2⟩:=ahG;go_wp2;refine bodyPost_ret (v:=Zj #[U (M ⟨g,0,J⟩) m1 n1,U x2 m2 n2,U x3 m3 n3,U x4 m4 n4,U x5 m5 n5,V O c.now,I ⟨#[]⟩,V O 0]) OC rfl ⟨⟨M ⟨g,0,J⟩,m1,n1,x2,m2,n2,x3,m3,n3,x4,m4,n4,x5,m5,n5⟩,⟨px c t n,⟨#[]⟩,0⟩,rfl,HV.out,?_,sb1 (sb1 (sb1 (sb1 (sb1 (sb1 (sb1 (sb1 (HB4.out))))))))⟩;have hk4:∀k,k<w4.heap.size->w1.heap.size<=k/\k<w3.heap.size->((((((((w4.setCell ⟨w.heap.size+1,0,J⟩ (U (M ⟨g,0,J⟩) m1 n1)).setCell ⟨w.heap.size+1,1,J⟩ (U x2 m2 n2)).setCell ⟨w.heap.size+1,2,J⟩ (U x3 m3 n3)).setCell ⟨w.heap.size+1,3,J⟩ (U x4 m4 n4)).setCell ⟨w.heap.size+1,4,J⟩ (U x5 m5 n5)).setCell ⟨w.heap.size+1,5,J⟩ (V O c.now)).setCell ⟨w.heap.size+1,6,J⟩ (I ⟨#[]⟩)).setCell ⟨w.heap.size+1,7,J⟩ (V O 0)).heap[k]?=w4.heap[k]?:=λk _ h1=>by rw[Ya _ _ _ _ (show k≠w.heap.size+1 by omega),Ya _ _ _ _ (show k≠w.heap.size+1 by omega),Ya _ _ _ _ (show k≠w.heap.size+1 by omega),Ya _ _ _ _ (show k≠w.heap.size+1 by omega),Ya _ _ _ _ (show k≠w.heap.size+1 by omega),Ya _ _ _ _ (show k≠w.heap.size+1 by omega),Ya _ _ _ _ (show k≠w.heap.size+1 by omega),Ya _ _ _ _ (show k≠w.heap.size+1 by omega)]
 exact air):p:=h
theorem Ku(h:p:=by
 cases r
 ·have HV:Hid (bf c (⟨xn,xc,xz,xk,xs,⟨#[]⟩,Zg,[]⟩:Vd) (co0 1)):=Zl ⟨1,λh=>(by have:=HI.2 h.1;cases this),rfl⟩;have apq:=@G _ @TQ;exact iJ
 have HT:=G (HI.1 bU);have apq:=@G _ @TR;exact iJ):p:=h
theorem tR(h:p:=by
 rintro e w1 ⟨r,rfl,hi,hb⟩;have aqD:=@G _ @Ej;exact mM):p:=h
theorem JU(h:p:=by
 go_wp2;have hlo:=HLO.out;refine bodyPost_ret (v:=Zj #[U (M ⟨g,0,J⟩) m1 n1,U x2 m2 n2,U x3 m3 n3,U x4 m4 n4,U x5 m5 n5,V O c.now,I ⟨#[]⟩,V O 0]) OB rfl ⟨⟨M ⟨g,0,J⟩,m1,n1,x2,m2,n2,x3,m3,n3,x4,m4,n4,x5,m5,n5⟩,⟨rL c t n,⟨#[]⟩,0⟩,rfl,HV.out,?_,Below.alloc (sb1 (sb1 (sb1 (sb1 (sb1 (sb1 (sb1 (sb1 (ai (show w.heap.size<=g by omega) (ai (show w.heap.size<=g by omega) (ai (show w.heap.size<=g by omega) (HB.out)))))))))))) nG _⟩;have hk2:∀k,w1.heap.size<=k->k<w3.heap.size->((((((((((((w3.setCell ⟨g,j*7+5,J⟩ (Zf Zg)).setCell ⟨g,j*7+6,J⟩ (U J 0 0)).setCell ⟨g,j*7+4,J⟩ (V O 0)).setCell ⟨w.heap.size+1,0,J⟩ (U (M ⟨g,0,J⟩) m1 n1)).setCell ⟨w.heap.size+1,1,J⟩ (U x2 m2 n2)).setCell ⟨w.heap.size+1,2,J⟩ (U x3 m3 n3)).setCell ⟨w.heap.size+1,3,J⟩ (U x4 m4 n4)).setCell ⟨w.heap.size+1,4,J⟩ (U x5 m5 n5)).setCell ⟨w.heap.size+1,5,J⟩ (V O c.now)).setCell ⟨w.heap.size+1,6,J⟩ (I ⟨#[]⟩)).setCell ⟨w.heap.size+1,7,J⟩ (V O 0)).alloc (Ze (Zd (M ⟨g,0,J⟩) m1 n1 x2 m2 n2 x3 m3 n3 x4 m4 n4 x5 m5 n5 c.now) 29)).heap[k]?=(((w3.setCell ⟨g,j*7+5,J⟩ (Zf Zg)).setCell ⟨g,j*7+6,J⟩ (U J 0 0)).setCell ⟨g,j*7+4,J⟩ (V O 0)).heap[k]?:=λk h1 h2=>by
  refine (Yj _ _ _ (by simpa[YV] using h2)).trans ?_;exact A4
 have hk3:∀k,w1.heap.size<=k->¬k=g->k<w3.heap.size->((((((((((((w3.setCell ⟨g,j*7+5,J⟩ (Zf Zg)).setCell ⟨g,j*7+6,J⟩ (U J 0 0)).setCell ⟨g,j*7+4,J⟩ (V O 0)).setCell ⟨w.heap.size+1,0,J⟩ (U (M ⟨g,0,J⟩) m1 n1)).setCell ⟨w.heap.size+1,1,J⟩ (U x2 m2 n2)).setCell ⟨w.heap.size+1,2,J⟩ (U x3 m3 n3)).setCell ⟨w.heap.size+1,3,J⟩ (U x4 m4 n4)).setCell ⟨w.heap.size+1,4,J⟩ (U x5 m5 n5)).setCell ⟨w.heap.size+1,5,J⟩ (V O c.now)).setCell ⟨w.heap.size+1,6,J⟩ (I ⟨#[]⟩)).setCell ⟨w.heap.size+1,7,J⟩ (V O 0)).alloc (Ze (Zd (M ⟨g,0,J⟩) m1 n1 x2 m2 n2 x3 m3 n3 x4 m4 n4 x5 m5 n5 c.now) 29)).heap[k]?=w3.heap[k]?:=λk h1 h3 h2=>by
  rw[hk2 k h1 h2,Ya _ _ _ _ h3,Ya _ _ _ _ h3,Ya _ _ _ _ h3]
 obtain⟨⟨cur,H,hbk,_⟩,_⟩:=HST.out;have h2:=((HST.ai1 (i:=5) rfl Zg).aiZ (i:=6) rfl).BP (i:=4) rfl 0;obtain⟨⟨aod,H2,h3,_⟩,_,_⟩:=h2;have hns:(rL c t n).raw.n=(c.ns.map ndF).set j (ndF (R0 n)):=by
  show (c.ns.set (pl Nd.n c.ns t) (R0 n)).map ndF=_;rw[(bj HT.2.1.1.2.2 HNJ.out ZQ.2.2.2).1,List.map_set]
 have far:∀{a l cp m T rs},av w3 a l cp m T rs (λk=>w1.heap.size<=k)->¬81=T->av ((((((((((((w3.setCell ⟨g,j*7+5,J⟩ (Zf Zg)).setCell ⟨g,j*7+6,J⟩ (U J 0 0)).setCell ⟨g,j*7+4,J⟩ (V O 0)).setCell ⟨w.heap.size+1,0,J⟩ (U (M ⟨g,0,J⟩) m1 n1)).setCell ⟨w.heap.size+1,1,J⟩ (U x2 m2 n2)).setCell ⟨w.heap.size+1,2,J⟩ (U x3 m3 n3)).setCell ⟨w.heap.size+1,3,J⟩ (U x4 m4 n4)).setCell ⟨w.heap.size+1,4,J⟩ (U x5 m5 n5)).setCell ⟨w.heap.size+1,5,J⟩ (V O c.now)).setCell ⟨w.heap.size+1,6,J⟩ (I ⟨#[]⟩)).setCell ⟨w.heap.size+1,7,J⟩ (V O 0)).alloc (Ze (Zd (M ⟨g,0,J⟩) m1 n1 x2 m2 n2 x3 m3 n3 x4 m4 n4 x5 m5 n5 c.now) 29)) a l cp m T rs (λk=>w1.heap.size<=k):=λh hT=>(h.dZ hbk.blk hT ag).ay (λk hk s=>hk3 k s.1 s.2 hk) (λk hk s=>s.1);have hR:av (((w3.setCell ⟨g,j*7+5,J⟩ (Zf Zg)).setCell ⟨g,j*7+6,J⟩ (U J 0 0)).setCell ⟨g,j*7+4,J⟩ (V O 0)) (M ⟨g,0,J⟩) m1 n1 7 81 (rL c t n).raw.n (λk=>w1.heap.size<=k/\k<w3.heap.size):=by
  exact Pu
 exact⟨(hR.ay (w':=((((((((((((w3.setCell ⟨g,j*7+5,J⟩ (Zf Zg)).setCell ⟨g,j*7+6,J⟩ (U J 0 0)).setCell ⟨g,j*7+4,J⟩ (V O 0)).setCell ⟨w.heap.size+1,0,J⟩ (U (M ⟨g,0,J⟩) m1 n1)).setCell ⟨w.heap.size+1,1,J⟩ (U x2 m2 n2)).setCell ⟨w.heap.size+1,2,J⟩ (U x3 m3 n3)).setCell ⟨w.heap.size+1,3,J⟩ (U x4 m4 n4)).setCell ⟨w.heap.size+1,4,J⟩ (U x5 m5 n5)).setCell ⟨w.heap.size+1,5,J⟩ (V O c.now)).setCell ⟨w.heap.size+1,6,J⟩ (I ⟨#[]⟩)).setCell ⟨w.heap.size+1,7,J⟩ (V O 0)).alloc (Ze (Zd (M ⟨g,0,J⟩) m1 n1 x2 m2 n2 x3 m3 n3 x4 m4 n4 x5 m5 n5 c.now) 29))) (λk hk s=>hk2 k s.1 s.2) (λ_ _ s=>s)).rl (λk s=>loq),(far HO.k ag).rl (λk s=>loq),(far HO.v ag).rl (λk s=>loq),(far HO.x ag).rl (λk s=>loq),(far HO.p ag).rl (λk s=>loq)⟩):p:=h
theorem JT(h:p:=by
 go_wp2;refine bodyPost_ret (v:=Zj #[U d'.a1 d'.l1 d'.c1,U d'.a2 d'.l2 d'.c2,U d'.a3 d'.l3 d'.c3,U d'.a4 d'.l4 d'.c4,U d'.a5 d'.l5 d'.c5,V O (c.now+n),I ⟨#[]⟩,V O 0]) OA rfl ⟨d',⟨later c n,⟨#[]⟩,0⟩,rfl,HV.out,?_,Below.alloc (sb1 (sb1 (sb1 (sb1 (sb1 (sb1 (sb1 (sb1 (HB.out))))))))) bg _⟩;have Zp:∀k,w1.heap.size<=k->k<w3.heap.size->(((((((((w3.setCell ⟨w.heap.size+1,0,J⟩ (U d'.a1 d'.l1 d'.c1)).setCell ⟨w.heap.size+1,1,J⟩ (U d'.a2 d'.l2 d'.c2)).setCell ⟨w.heap.size+1,2,J⟩ (U d'.a3 d'.l3 d'.c3)).setCell ⟨w.heap.size+1,3,J⟩ (U d'.a4 d'.l4 d'.c4)).setCell ⟨w.heap.size+1,4,J⟩ (U d'.a5 d'.l5 d'.c5)).setCell ⟨w.heap.size+1,5,J⟩ (V O (c.now+n))).setCell ⟨w.heap.size+1,6,J⟩ (I ⟨#[]⟩)).setCell ⟨w.heap.size+1,7,J⟩ (V O 0)).alloc (Ze (Zs d' (c.now+n)) 29)).heap[k]?=w3.heap[k]?:=λk h1 h2=>by refine (Yj _ _ _ (by simpa using h2)).trans ?_;rw[Ya _ _ _ _ (show k≠w.heap.size+1 by omega),Ya _ _ _ _ (show k≠w.heap.size+1 by omega),Ya _ _ _ _ (show k≠w.heap.size+1 by omega),Ya _ _ _ _ (show k≠w.heap.size+1 by omega),Ya _ _ _ _ (show k≠w.heap.size+1 by omega),Ya _ _ _ _ (show k≠w.heap.size+1 by omega),Ya _ _ _ _ (show k≠w.heap.size+1 by omega),Ya _ _ _ _ (show k≠w.heap.size+1 by omega)]
 refine⟨?_,?_,?_,?_,?_⟩
 ·exact (HO.n.ay (w':=(((((((((w3.setCell ⟨w.heap.size+1,0,J⟩ (U d'.a1 d'.l1 d'.c1)).setCell ⟨w.heap.size+1,1,J⟩ (U d'.a2 d'.l2 d'.c2)).setCell ⟨w.heap.size+1,2,J⟩ (U d'.a3 d'.l3 d'.c3)).setCell ⟨w.heap.size+1,3,J⟩ (U d'.a4 d'.l4 d'.c4)).setCell ⟨w.heap.size+1,4,J⟩ (U d'.a5 d'.l5 d'.c5)).setCell ⟨w.heap.size+1,5,J⟩ (V O (c.now+n))).setCell ⟨w.heap.size+1,6,J⟩ (I ⟨#[]⟩)).setCell ⟨w.heap.size+1,7,J⟩ (V O 0)).alloc (Ze (Zs d' (c.now+n)) 29))) (λk hk s=>Zp k s hk) (λ_ _ s=>s)).rl (λk s=>loq)
 ·exact (HO.k.ay (w':=(((((((((w3.setCell ⟨w.heap.size+1,0,J⟩ (U d'.a1 d'.l1 d'.c1)).setCell ⟨w.heap.size+1,1,J⟩ (U d'.a2 d'.l2 d'.c2)).setCell ⟨w.heap.size+1,2,J⟩ (U d'.a3 d'.l3 d'.c3)).setCell ⟨w.heap.size+1,3,J⟩ (U d'.a4 d'.l4 d'.c4)).setCell ⟨w.heap.size+1,4,J⟩ (U d'.a5 d'.l5 d'.c5)).setCell ⟨w.heap.size+1,5,J⟩ (V O (c.now+n))).setCell ⟨w.heap.size+1,6,J⟩ (I ⟨#[]⟩)).setCell ⟨w.heap.size+1,7,J⟩ (V O 0)).alloc (Ze (Zs d' (c.now+n)) 29))) (λk hk s=>Zp k s hk) (λ_ _ s=>s)).rl (λk s=>loq)
 ·exact (HO.v.ay (w':=(((((((((w3.setCell ⟨w.heap.size+1,0,J⟩ (U d'.a1 d'.l1 d'.c1)).setCell ⟨w.heap.size+1,1,J⟩ (U d'.a2 d'.l2 d'.c2)).setCell ⟨w.heap.size+1,2,J⟩ (U d'.a3 d'.l3 d'.c3)).setCell ⟨w.heap.size+1,3,J⟩ (U d'.a4 d'.l4 d'.c4)).setCell ⟨w.heap.size+1,4,J⟩ (U d'.a5 d'.l5 d'.c5)).setCell ⟨w.heap.size+1,5,J⟩ (V O (c.now+n))).setCell ⟨w.heap.size+1,6,J⟩ (I ⟨#[]⟩)).setCell ⟨w.heap.size+1,7,J⟩ (V O 0)).alloc (Ze (Zs d' (c.now+n)) 29))) (λk hk s=>Zp k s hk) (λ_ _ s=>s)).rl (λk s=>loq)
 ·exact (HO.x.ay (w':=(((((((((w3.setCell ⟨w.heap.size+1,0,J⟩ (U d'.a1 d'.l1 d'.c1)).setCell ⟨w.heap.size+1,1,J⟩ (U d'.a2 d'.l2 d'.c2)).setCell ⟨w.heap.size+1,2,J⟩ (U d'.a3 d'.l3 d'.c3)).setCell ⟨w.heap.size+1,3,J⟩ (U d'.a4 d'.l4 d'.c4)).setCell ⟨w.heap.size+1,4,J⟩ (U d'.a5 d'.l5 d'.c5)).setCell ⟨w.heap.size+1,5,J⟩ (V O (c.now+n))).setCell ⟨w.heap.size+1,6,J⟩ (I ⟨#[]⟩)).setCell ⟨w.heap.size+1,7,J⟩ (V O 0)).alloc (Ze (Zs d' (c.now+n)) 29))) (λk hk s=>Zp k s hk) (λ_ _ s=>s)).rl (λk s=>loq)
 ·exact (HO.p.ay (w':=(((((((((w3.setCell ⟨w.heap.size+1,0,J⟩ (U d'.a1 d'.l1 d'.c1)).setCell ⟨w.heap.size+1,1,J⟩ (U d'.a2 d'.l2 d'.c2)).setCell ⟨w.heap.size+1,2,J⟩ (U d'.a3 d'.l3 d'.c3)).setCell ⟨w.heap.size+1,3,J⟩ (U d'.a4 d'.l4 d'.c4)).setCell ⟨w.heap.size+1,4,J⟩ (U d'.a5 d'.l5 d'.c5)).setCell ⟨w.heap.size+1,5,J⟩ (V O (c.now+n))).setCell ⟨w.heap.size+1,6,J⟩ (I ⟨#[]⟩)).setCell ⟨w.heap.size+1,7,J⟩ (V O 0)).alloc (Ze (Zs d' (c.now+n)) 29))) (λk hk s=>Zp k s hk) (λ_ _ s=>s)).rl (λk s=>loq)):p:=h
theorem np(h:p:=by
 obtain⟨r0,r1,r2,r3,r4,r5,r6,r7⟩:=cs8 Br;have aog:=ae Br.out;obtain⟨ZR,ZS,ZT,ZU,ZV,ZY,Z1,Z2⟩:=dD;exact aqE):p:=h
theorem JF(h:p:=by
 have μ:=G (λq:Wd w2=>jG d.l3 8 ape q.w);have Zw:=@G _ @agB;exact aB):p:=h
theorem JE(h:p:=by
 have μ:=G (λq:Wd w2=>f_ d.l3 8 hfull q.w);have Zw:=@G _ @agz;exact aB):p:=h
theorem tK(h:p:=by
 obtain⟨Gk,Gx,Gr,HW⟩:=o6;obtain⟨k0,k1,k2,k3,k4,k5⟩:=sl6 Gk;obtain⟨x0,x1,x2,x3,x4,x5,x6,x7⟩:=sl8 Gx;have hne0:=Wd.ne w2;have Zv:=G (λq:Wd w2=>iD d c.now c.vs xn q.w (HR.v.below (HW.trans (q.b.mono HW.size))) HMS.out);exact atz):p:=h
theorem Js(h:p:=by
 go_enter Tryz.func82,Tryz.ntmps82;have apr:=@G _ @acy;exact iP):p:=h
theorem ni(h:p:=by
 obtain⟨HR,hl1,hm1,hl2,hm2,hl3,hm3,hl4,hm4,hl5,hm5⟩:=B1;clear hr;have HB:=G (Yh w.heap.size w);exact aqB):p:=h
theorem Hw(h:p:=by
 have apl:=@G _ @Tp;exact iH):p:=h
theorem Hv(h:p:=by
 obtain⟨ZD,Ν,Zr⟩:=dK hb;obtain⟨Bk,Br⟩:=wX;replace HB:=upB HB Zr;clear hb Zr ZD Ν;rcases hf with ⟨i,p,hw,hpi,Ξ,rfl⟩|⟨j,n,hn,ξ,rfl⟩
 ·have HV:Hid (ix c t (co0 p)):=Zl ⟨i,hw,by rw[hpi]⟩;have hp1:(p==0)=Zg:=iZ
  clear hw hpi Ξ;have Χ:=@G _ @Lu;exact c_
 have atD:=@G _ @D5;exact so):p:=h
theorem m_(h:p:=by
 go_wp2_with fail;refine (BX ⟨a1,l1,y1,a2,l2,y2,a3,l3,y3,a4,l4,y4,a5,l5,y5⟩ c t _ (HR.below (HB.trans ((aM _ _ _).mono HB.size)))).mono ?_;rintro e w1 ⟨hb,hf⟩;exact aqx):p:=h
theorem Gj(h:p:=by
 clear k0 k1 k2 k3 k4 k5 Α;have aok:=@G _ @DR;exact fa):p:=h
theorem Gh(h:p:=by
 have apk:=@G _ @aco;exact iO):p:=h
theorem sR(h:p:=by
 have HLO:=G HB.size;refine (cZ ⟨(M ⟨b,o,J⟩),l1,y1,a2,l2,y2,a3,l3,y3,a4,l4,y4,a5,l5,y5⟩ c _ (HR.below HB.out) HT.sm).mono ?_;rintro e w3 ⟨d',rfl,ho,hb⟩;clear hd5 Z3;have ν:=G hb.size;exact atC):p:=h
theorem FX(h:p:=by
 clear k0 k1 k2 k3 k4 k5 Α;have aot:=@G _ @Vb;exact eN):p:=h
theorem FK(h:p:=by
 have aqE:=@G _ @JU;exact np):p:=h
theorem FJ(h:p:=by
 go_wp2_with fail;have apG:=@G _ @LJ;exact j6):p:=h
theorem FI(h:p:=by
 go_wp2_with fail;refine (aI 6 _).mono ?_;rintro e w3 ⟨rfl,hb⟩;clear k0 k1 k2 k3 k4 k5 aoG;replace Bk:=upK Bk hb;have κ:=@G _ @age;exact bI):p:=h
theorem FH(h:p:=by
 have aqE:=@G _ @JT;exact np):p:=h
theorem Fe(h:p:=by
 have κ:=@G _ @agd;exact bI):p:=h
theorem mP(h:p:=by
 go_wp2_with fail;refine (aI p _).mono ?_;rintro e w2 ⟨rfl,hb⟩;clear k0 k1 k2 k3 k4 k5;replace Bk:=upK Bk hb;exact aqA):p:=h
theorem EY(h:p:=by
 have κ:=@G _ @af9;exact bI):p:=h
theorem EX(h:p:=by
 have κ:=@G _ @agf;exact bI):p:=h
theorem EW(h:p:=by
 have κ:=@G _ @agb;exact bI):p:=h
theorem EV(h:p:=by
 have κ:=@G _ @aga;exact bI):p:=h
theorem EU(h:p:=by
 have κ:=@G _ @af_;exact bI):p:=h
theorem fO(h:p:=by
 rintro e w2 ⟨rfl,hb⟩;clear k0 k1 k2 k3 k4 k5 Α;replace Bk:=upK Bk hb;exact aoC):p:=h
theorem ER(h:p:=by
 exact aqy):p:=h
theorem mN(h:p:=by
 obtain⟨r0,r1,r2,r3,r4,r5,r6,r7⟩:=cs8 Br;obtain⟨ZR,ZS,ZT,ZU,ZV,ZY,Z1,Z2⟩:=lL Br.out;go_wp2;exact aqC):p:=h
theorem Ej(h:p:=by
 have HI:=G hi;clear hi;exact atE):p:=h
theorem mM(h:p:=by
 obtain⟨ZD,Ν,HA2,Zr⟩:=wD hb;have Bk:=G ZD;have Bx:=G Ν;have Br:=G HA2;replace HB:=upB HB Zr;clear hb Zr ZD Ν HA2;exact aqD):p:=h
theorem D6(h:p:=by
 exact atA):p:=h
theorem D5(h:p:=by
 obtain⟨ua,ul,uc,-,-,-,-,-,-,-,-,hd5,-⟩:=bo Zc;clear Zc hy;cases hd:n.d
 ·have HV:Hid (ix c t (co0 10)):=Zk ⟨n,ZQ.out,Zl ⟨hd,rfl⟩⟩;rw[hd] at hd5;clear hd;have Χ:=@G _ @Lt;exact c_
 have HV:Hid (ix c t ⟨rL c t n,⟨#[]⟩,0⟩):=Zk ⟨n,ZQ.out,Zk ⟨hd,rfl⟩⟩;rw[hd] at hd5;clear hd;have HQ1:Hid (w.heap.size+1<w1.heap.size):=ae Br.out;have Χ:=@G _ @Lv;exact c_):p:=h
theorem so(h:p:=by
 have HNJ:=G hn;have ZQ:=G ξ;clear hn ξ;obtain⟨HT,hj1,hj2,hj0⟩:=al9;obtain⟨b,o,y,rfl,Z3,hy,Zc⟩:=dF (HR.n.below HB.out) hj1;rw[HNJ.out] at hy;obtain rfl:=Yd hy;exact atD):p:=h
theorem DT(h:p:=by
 exact aot):p:=h
theorem DS(h:p:=by
 obtain⟨x1,m1,n1,x2,m2,n2,x3,m3,n3,x4,m4,n4,x5,m5,n5⟩:=d';have ν:Hid (w.heap.size+1<w2.heap.size):=awq.out;have hm5:m5=l5:=by have h6:(c.ps.map pdF).length=m5:=ho.p.1;rw[Yq] at h6;omega
 subst hm5;have hmn:m5<=n5:=ho.p.2.1;have hmx:n5<=9223372036854775807:=ho.p.2.2.1;obtain⟨vss,H,hV,hcell⟩:=(ho.p.bC (S':=λk=>w2.heap.size<=k/\k<w3.heap.size) (λk hk s=>⟨s,hk⟩)).jK;have hvl:vss.length=m5:=by have h6:vss.length=(c.ps.map pdF).length:=hV.len;rw[Yq] at h6;omega
 obtain⟨b,hx5,hbS⟩:∃b,x5=M ⟨b,0,J⟩/\b<w3.heap.size:=by
  exact Pf
 subst hx5;have HC:Hid (∀(j:Nat) u,vss.flatten[j]?=M u->w3.cell? ⟨b,j,J⟩=M u):=λj u hj=>by
  obtain⟨g,e,_,h3⟩:=hcell j u hj;cases e;exact h3
 have σ:=G hV;have HO:=G ho;clear hV hcell ho;obtain⟨i5,anX,ZO,η,ZP⟩:=info_parts rf;have Y_:=G (Yb anX (Yb ZO (Yb η ZP)));clear anX ZO η ZP;have Τ:=ν.out;have hq3:=HQ3.out;have aoN:World.ownsRow ((w3.alloc (Ze (Zd x1 m1 n1 x2 m2 n2 x3 m3 n3 x4 m4 n4 (M ⟨b,0,J⟩) m5 n5 c.now) 29)).alloc (Ze #[] 102)) (w3.heap.size+1) 102 6 (U (M ⟨w3.heap.size+1,0,J⟩) 0 0) 0 []:=⟨by simp,Zk ⟨w3.heap.size+1,0,#[],rfl,Ye _,cL _ _ _,Ye _,by unfold maxLen;omega,by simp,by simp⟩⟩;have ρ:=G aoN;clear aoN;have hik:(i:Int)<=n5:=af
 go_wp2_with (first|(at_builtin;refine wpList_append_own _ rfl _ _ 27 rfl (w3.heap.size+1) 102 i5 (Zj #[I ⟨#[]⟩,V O 0,I ⟨#[]⟩,U J 0 0,I ⟨#[]⟩,V O 0]) 6 88 Tryz.underlying27 Y_.1 Y_.2.1 Y_.2.2.1 Y_.2.2.2 rfl ag _ 0 [] rfl (ρ.out) ⟨b,0,J⟩ i n5 (vss.take i).flatten rfl ?c1 ?c2 ?c3 ?c4 ?c5 ?c6 ?_));case c1=>exact bA σ.all af
 case c2=>
  intro j u hu;rw[Ym,Yp];exact (ah (aM w3 _ _) hbS).trans (HC.out _ _ (cH hu))
 case c3=>exact (aD σ.one i).1
 case c4=>unfold maxLen;omega
 case c5=>omega
 case c6=>simp
 rintro v1 w4 Θ apV -;replace Θ:w4.ownsRow (w3.heap.size+1) 102 6 v1 i (vss.take i).flatten:=by simpa using Θ
 have π:Below (w3.heap.size+1) (w3.alloc (Ze (Zd x1 m1 n1 x2 m2 n2 x3 m3 n3 x4 m4 n4 (M ⟨b,0,J⟩) m5 n5 c.now) 29)) w4:=((Yh (w3.heap.size+1) _).alloc aF _).grown apV aF (λg hg=>by simp[YK] at hg;omega);obtain⟨s1,s2,s3,rfl⟩:=az Θ;have Bo4:=G ((π.block w3.heap.size af).trans (heap_alloc_new w3 (Ze (Zd x1 m1 n1 x2 m2 n2 x3 m3 n3 x4 m4 n4 (M ⟨b,0,J⟩) m5 n5 c.now) 29)));have auh:=G ((aj w3 (Ze (Zd x1 m1 n1 x2 m2 n2 x3 m3 n3 x4 m4 n4 (M ⟨b,0,J⟩) m5 n5 c.now) 29)).trans (π.mono af));have HO4:=G Θ;have Br4:=upK Br auh.out;have hs4:=auh.size;obtain⟨o0,o1,o2,o3,o4,o5⟩:=cs6 Bo4;have hol:=ae Bo4.out;clear Θ apV π;have awp:((i:Int)+1)<=m5:=af
 by_cases ZZ:n5=i+1
 ·subst ZZ;have hmi:m5=i+1:=af
  have hd0:m5 - (i+1)=0:=af
  have hvd:vss.drop (i+1)=[]:=Yw af;go_wp2_with (first|(at_builtin;refine wpList_append_own _ rfl _ _ 27 rfl (w3.heap.size+1) 102 i5 (Zj #[I ⟨#[]⟩,V O 0,I ⟨#[]⟩,U J 0 0,I ⟨#[]⟩,V O 0]) 6 88 Tryz.underlying27 Y_.1 Y_.2.1 Y_.2.2.1 Y_.2.2.2 rfl ag _ _ _ rfl (HO4.out) ⟨b,0,J⟩ 0 0 [] rfl ?c1 ?c2 ?c3 ?c4 ?c5 ?c6 ?_));case c1=>rfl
  case c2=>intro j u hu;simp at hu
  case c3=>intro u hu;simp at hu
  case c4=>unfold maxLen;omega
  case c5=>omega
  case c6=>omega
  rintro v2 w5 aa ZF -;have alR:(wo Pd.n t c.ps).length=m5 - 1:=by rw[HW.out];simp;omega
  replace aa:w5.ownsRow (w3.heap.size+1) 102 6 v2 (wo Pd.n t c.ps).length (vss.take i++vss.drop (i+1)).flatten:=by
   rw[alR,List.flatten_append];rw[hvd];simpa[hmi] using aa
  have avz:=@G _ @aeU;exact AD
 ·go_wp2_with (first|(at_builtin;refine wpList_append_own _ rfl _ _ 27 rfl (w3.heap.size+1) 102 i5 (Zj #[I ⟨#[]⟩,V O 0,I ⟨#[]⟩,U J 0 0,I ⟨#[]⟩,V O 0]) 6 88 Tryz.underlying27 Y_.1 Y_.2.1 Y_.2.2.1 Y_.2.2.2 rfl ag _ _ _ rfl (HO4.out) ⟨b,(i+1)*6,J⟩ (m5 - (i+1)) (n5 - (i+1)) (vss.drop (i+1)).flatten rfl ?c1 ?c2 ?c3 ?c4 ?c5 ?c6 ?_));case c1=>rw[ep σ.all,hvl]
  case c2=>
   intro j u hu;rw[Ym];exact (ah auh.out hbS).trans (HC.out _ _ (cS σ.all af hu))
  case c3=>exact (aD σ.one (i+1)).2
  case c4=>unfold maxLen;omega
  case c5=>omega
  case c6=>omega
  rintro v2 w5 aa ZF -;have alR:(wo Pd.n t c.ps).length=m5 - 1:=by rw[HW.out];simp;omega
  replace aa:w5.ownsRow (w3.heap.size+1) 102 6 v2 (wo Pd.n t c.ps).length (vss.take i++vss.drop (i+1)).flatten:=by
   rw[alR,List.flatten_append];have e9:m5 - 1=i+(m5 - (i+1)):=af
   rw[e9];exact aa
  have avz:=@G _ @aeT;exact AD):p:=h
theorem DR(h:p:=by
 have avy:=@G _ @Vc;exact y9):p:=h
theorem aw.copy(h:w.heap[b]?=M (Ze (zs.map Yn).toArray T (0,0))) (hl:zs.length=len) (hl2:len<=1048576) (hs:∀(j:Nat) x,zs[j]?=M x->x.size<=9223372036854775807):
  aw w (M ⟨b,0,J⟩) len len zs:=by
 refine⟨hl,Ye _,by omega,hs,?_⟩;by_cases hz:zs=[]
 ·exact Or.inl hz
 refine Or.inr ⟨b,0,rfl,?_,λj x hx=>?_⟩
 ·exact P5
 ·rw[al h];simp[hx]
theorem cs3(h:w.heap[b]?=M (Ze #[v0,v1,v2] T (0,0))):w.cell? ⟨b,0,J⟩=M v0/\w.cell? ⟨b,1,J⟩=M v1/\w.cell? ⟨b,2,J⟩=M v2:=⟨al h 0,al h 1,al h 2⟩
theorem cs9 {v3 v4 v5 v6 v7 v8:Value} (h:w.heap[b]?=M (Ze #[v0,v1,v2,v3,v4,v5,v6,v7,v8] T (0,0))):w.cell? ⟨b,0,J⟩=M v0/\w.cell? ⟨b,1,J⟩=M v1/\w.cell? ⟨b,2,J⟩=M v2/\w.cell? ⟨b,3,J⟩=M v3/\w.cell? ⟨b,4,J⟩=M v4/\w.cell? ⟨b,5,J⟩=M v5/\w.cell? ⟨b,6,J⟩=M v6/\w.cell? ⟨b,7,J⟩=M v7/\w.cell? ⟨b,8,J⟩=M v8:=⟨al h 0,al h 1,al h 2,al h 3,al h 4,al h 5,al h 6,al h 7,al h 8⟩
namespace Rc
theorem aV.nil(a:Option Addr) (cap m:Nat) (h:cap<=9223372036854775807):aV w a 0 cap m []:=⟨rfl,YJ _,h,Zl rfl⟩
section
variable {g m:Nat} {T:TypeId} {S N:Nat->Prop} {w wr w2:World} {rs:List (List Fv)} {j:Nat} {r:List Fv}
theorem StJ.below(h:StJ g m T S N w wr rs j r) (hb:Below wr.heap.size wr w2):StJ g m T S N w w2 rs j r:=by
 obtain⟨⟨cur,H,h1,hN⟩,h2,h3⟩:=h;exact⟨⟨cur,H,h1.ay (λk hk _=>hb.block k hk) (λ_ _ s=>s),hN⟩,h2.below hb,h3⟩
theorem StJ.fresh(h:StJ g m T S N w wr rs j r) (hb:Below wr.heap.size wr w2):StJ g m T S (λk=>wr.heap.size<=k) w w2 rs j r:=by
 obtain⟨⟨cur,H,h1,hN⟩,h2,h3⟩:=h;refine⟨⟨cur,H,h1.ay (λk hk _=>hb.block k hk) (λ_ _ s=>s),λj' r' i' zs hj hi hz hk=>?_⟩,h2.below hb,h3⟩;obtain⟨v,h4,a,len,cap,rfl,h5,h6,h7,h8,h9⟩:=h1.cell j' r' hj i' _ hi;rcases h9 with h9|⟨q1,q2,q3,cu,q4,q5⟩
 ·exact hz h9
 ·have:=ae q4;omega
theorem StJ.ant(h:StJ g m T S N w wr rs j r) {i:Nat} {old:Fv} (hi:r[i]?=M old) {b:Nat} (zs:List ByteArray) {len cap:Nat} (hb:zs≠[]->N b) (hv:CE wr b S g zs (U (M ⟨b,0,J⟩) len cap)):
  StJ g m T S (λk=>N k/\¬k=b) w (wr.setCell ⟨g,j*m+i,J⟩ (U (M ⟨b,0,J⟩) len cap)) rs j (r.set i (.l zs)):=by
 have aqV:=@G _ @aek;exact lZ
end
theorem StJ.ai1 {N:Nat->Prop} {rs:List (List Fv)} {r:List Fv} (h:StJ g m T S N w wr rs j r) {i:Nat} {old:Fv} (hi:r[i]?=M old) (t:Bool):StJ g m T S N w (wr.setCell ⟨g,j*m+i,J⟩ (Zf t)) rs j (r.set i (.b t)):=h.set hi (.b t) rfl trivial
theorem vY(h:¬i=j):(w.setCell ⟨g,i,J⟩ v).cell? ⟨g,j,J⟩=w.cell? ⟨g,j,J⟩:=by
 cases hg:w.heap[g]? with
 | none=>
  have hs:(w.setCell ⟨g,i,J⟩ v).heap[g]?=J:=by
   have h1:=Array.getElem?_eq_none_iff.1 hg;exact Array.getElem?_eq_none_iff.2 (by simpa[YV] using h1)
  simp[YX,hg,hs]
 | some o=>
  cases o with
  | cells cs t fr=>
   have:=an (i:=i) hg v;simp only[YX,hg,this]
   simp[Array.getElem?_setIfInBounds_ne h]
  | _=>simp[YX,YV,Array.getElem?_modify,hg]
def am5(Is:Co->Prop) (w:World) (e:Ending) (w':World):Prop:=∃g o,e=Zh (Zj #[U g.a1 g.l1 g.c1,U g.a2 g.l2 g.c2,U g.a3 g.l3 g.c3,U g.a4 g.l4 g.c4,U g.a5 g.l5 g.c5,V O o.c.now,I o.n,V O o.p])/\Is o/\aA w' g o.c.raw/\Below w.heap.size w w'
def DwWhy(c:Cl) (t:ByteArray) (St:Nat->Prop):Nat->Prop
 | 0=>8000<t.size
 | 1=>¬8000<t.size/\¬au c
 | i+2=>¬8000<t.size/\au c/\St (i+2)
def lg(c:Cl) (t:ByteArray) (St:Nat->Prop) (ok:Prop) (r:Cl) (o:Co):Prop:=(∃i,DwWhy c t St i/\o=co0 (aZ i))\/(¬8000<t.size/\au c/\ok/\o=⟨r,⟨#[]⟩,0⟩)
theorem lL(h:w.heap[b]?=M (Ze cs T (0,0))):w.frozen? ⟨b,0,J⟩=Zg/\w.frozen? ⟨b,1,J⟩=Zg/\w.frozen? ⟨b,2,J⟩=Zg/\w.frozen? ⟨b,3,J⟩=Zg/\w.frozen? ⟨b,4,J⟩=Zg/\w.frozen? ⟨b,5,J⟩=Zg/\w.frozen? ⟨b,6,J⟩=Zg/\w.frozen? ⟨b,7,J⟩=Zg:=⟨ak h 0,ak h 1,ak h 2,ak h 3,ak h 4,ak h 5,ak h 6,ak h 7⟩
theorem eJ {v3 v4 v5 v6 v7:Value} (hb:B<=b) (h:Below B w w1):Below B w ((((((((w1.setCell ⟨b,0,J⟩ v0).setCell ⟨b,1,J⟩ v1).setCell ⟨b,2,J⟩ v2).setCell ⟨b,3,J⟩ v3).setCell ⟨b,4,J⟩ v4).setCell ⟨b,5,J⟩ v5).setCell ⟨b,6,J⟩ v6).setCell ⟨b,7,J⟩ v7):=ai hb (ai hb (ai hb (ai hb (ai hb (ai hb (ai hb (ai hb (h))))))))
def alw(c:Cl) (x:Vd):Cl:=⟨c.ns,c.ks,aQ (pl Vd.n c.vs x.n) x c.vs,c.xs,c.ps,c.now⟩
def fH(c:Cl) (x:Vd):Prop:=(au c/\rM x/\x.m=⟨#[]⟩/\x.y=Zg/\x.zs=[])
def AddVWhy(c:Cl) (x:Vd):Nat->Prop
 | 1=>¬fH c x
 | 3=>fH c x/\hit Vd.n c.vs x.n=Zi
 | 4=>fH c x/\hit Vd.n c.vs x.n=Zg/\8<=c.vs.length
 | 2=>fH c x/\hit Vd.n c.vs x.n=Zg/\c.vs.length<8/\¬(hit Kd.n c.ks x.k=Zi)
 | _=>False
def bf(c:Cl) (x:Vd) (o:Co):Prop:=(∃i,AddVWhy c x i/\o=co0 (aZ i))\/(fH c x/\hit Vd.n c.vs x.n=Zg/\c.vs.length<8/\(hit Kd.n c.ks x.k=Zi)/\o=⟨alw c x,⟨#[]⟩,0⟩)
theorem AddVWhy.cases {x:Vd} (h:AddVWhy c x i):(i=1/\¬fH c x)\/(i=3/\fH c x/\hit Vd.n c.vs x.n=Zi)\/(i=4/\fH c x/\hit Vd.n c.vs x.n=Zg/\8<=c.vs.length)\/(i=2/\fH c x/\hit Vd.n c.vs x.n=Zg/\c.vs.length<8/\¬(hit Kd.n c.ks x.k=Zi)):=by
 rcases i with _|_|_|_|_|i <;> simp only[AddVWhy] at h
 ·exact Zl ⟨rfl,h⟩
 ·exact Zk (Zk (Zk ⟨rfl,h⟩))
 ·exact Zk (Zl ⟨rfl,h⟩)
 ·exact Zk (Zk (Zl ⟨rfl,h⟩))
def R6(c:Cl) (x:Xd):Cl:=⟨c.ns,c.ks,c.vs,aQ (pl Xd.n c.xs x.n) x c.xs,c.ps,c.now⟩
def AddXWhy(c:Cl) (x:Xd):Nat->Prop
 | 1=>¬(au c/\gX x/\x.v=⟨#[]⟩)
 | 3=>(au c/\gX x/\x.v=⟨#[]⟩)/\hit Xd.n c.xs x.n=Zi
 | 4=>(au c/\gX x/\x.v=⟨#[]⟩)/\hit Xd.n c.xs x.n=Zg/\8<=c.xs.length
 | 2=>(au c/\gX x/\x.v=⟨#[]⟩)/\hit Xd.n c.xs x.n=Zg/\c.xs.length<8/\hit Kd.n c.ks x.k=Zg
 | _=>False
def bR(c:Cl) (x:Xd) (o:Co):Prop:=(∃i,AddXWhy c x i/\o=co0 (aZ i))\/((au c/\gX x/\x.v=⟨#[]⟩)/\hit Xd.n c.xs x.n=Zg/\c.xs.length<8/\hit Kd.n c.ks x.k=Zi/\o=⟨R6 c x,⟨#[]⟩,0⟩)
theorem AddXWhy.cases {x:Xd} (h:AddXWhy c x i):(i=1/\¬(au c/\gX x/\x.v=⟨#[]⟩))\/(i=3/\(au c/\gX x/\x.v=⟨#[]⟩)/\hit Xd.n c.xs x.n=Zi)\/(i=4/\(au c/\gX x/\x.v=⟨#[]⟩)/\hit Xd.n c.xs x.n=Zg/\8<=c.xs.length)\/(i=2/\(au c/\gX x/\x.v=⟨#[]⟩)/\hit Xd.n c.xs x.n=Zg/\c.xs.length<8/\hit Kd.n c.ks x.k=Zg):=by
 rcases i with _|_|_|_|_|i <;> simp only[AddXWhy] at h
 ·exact Zl ⟨rfl,h⟩
 ·exact Zk (Zk (Zk ⟨rfl,h⟩))
 ·exact Zk (Zl ⟨rfl,h⟩)
 ·exact Zk (Zk (Zl ⟨rfl,h⟩))
def R7(c:Cl) (x:Pd):Cl:=⟨c.ns,c.ks,c.vs,c.xs,aQ (pl Pd.n c.ps x.n) x c.ps,c.now⟩
def fI(c:Cl) (x:Pd):Prop:=(au c/\vy x/\x.p=0)
def AddPWhy(c:Cl) (x:Pd):Nat->Prop
 | 1=>¬fI c x
 | 3=>fI c x/\hit Pd.n c.ps x.n=Zi
 | 4=>fI c x/\hit Pd.n c.ps x.n=Zg/\8<=c.ps.length
 | 2=>fI c x/\hit Pd.n c.ps x.n=Zg/\c.ps.length<8/\¬(∀(j:Nat) t,x.zs[j]?=M t->hit Xd.n c.xs t=Zi)
 | _=>False
def ct(c:Cl) (x:Pd) (o:Co):Prop:=(∃i,AddPWhy c x i/\o=co0 (aZ i))\/(fI c x/\hit Pd.n c.ps x.n=Zg/\c.ps.length<8/\(∀(j:Nat) t,x.zs[j]?=M t->hit Xd.n c.xs t=Zi)/\o=⟨R7 c x,⟨#[]⟩,0⟩)
theorem AddPWhy.cases(h:AddPWhy c x i):(i=1/\¬fI c x)\/(i=3/\fI c x/\hit Pd.n c.ps x.n=Zi)\/(i=4/\fI c x/\hit Pd.n c.ps x.n=Zg/\8<=c.ps.length)\/(i=2/\fI c x/\hit Pd.n c.ps x.n=Zg/\c.ps.length<8/\¬(∀(j:Nat) t,x.zs[j]?=M t->hit Xd.n c.xs t=Zi)):=by
 rcases i with _|_|_|_|_|i <;> simp only[AddPWhy] at h
 ·exact Zl ⟨rfl,h⟩
 ·exact Zk (Zk (Zk ⟨rfl,h⟩))
 ·exact Zk (Zl ⟨rfl,h⟩)
 ·exact Zk (Zk (Zl ⟨rfl,h⟩))
def amI(c:Cl) (t:ByteArray) (i:Nat):Prop:=i=2/\hit Pd.n c.ps t=Zg
def Bf(c:Cl) (t:ByteArray):Cl:=⟨c.ns,c.ks,c.vs,c.xs,wo Pd.n t c.ps,c.now⟩
def dN(c:Cl) (t:ByteArray) (o:Co):Prop:=lg c t (amI c t) (hit Pd.n c.ps t=Zi) (Bf c t) o
def Sn(c:Cl) (v:Vd):Prop:=¬v.zs=[]\/∃(j:Nat) (n:Nd),c.ns[j]?=M n/\InL n.zs v.n
def aiM(c:Cl) (v:Vd):Prop:=¬v.m=⟨#[]⟩\/Sn c v
def alJ(c:Cl) (t:ByteArray) (i:Nat):Prop:=(i=2/\hit Vd.n c.vs t=Zg)\/(i=5/\hit Vd.n c.vs t=Zi/\∃(j:Nat) (v:Vd),c.vs[j]?=M v/\v.n=t/\aiM c v)
def alK(c:Cl) (t:ByteArray):Prop:=hit Vd.n c.vs t=Zi/\∀(j:Nat) (v:Vd),c.vs[j]?=M v->v.n=t->¬aiM c v
def Bd(c:Cl) (t:ByteArray):Cl:=⟨c.ns,c.ks,wo Vd.n t c.vs,c.xs,c.ps,c.now⟩
def cN(c:Cl) (t:ByteArray) (o:Co):Prop:=lg c t (alJ c t) (alK c t) (Bd c t) o
def Bt(c:Cl) (t:ByteArray):Prop:=(∃v,aX c t v/\Sn c v)\/∃(j:Nat) (p:Pd),c.ps[j]?=M p/\InL p.zs t
def amS(c:Cl) (t:ByteArray) (i:Nat):Prop:=(i=2/\hit Xd.n c.xs t=Zg)\/(i=5/\hit Xd.n c.xs t=Zi/\Bt c t)
def aiL(c:Cl) (t:ByteArray):Prop:=hit Xd.n c.xs t=Zi/\¬Bt c t
theorem UF.below(h:UF w g) (hb:Below w.heap.size w w'):UF w' g:=by
 obtain⟨cs,T,h⟩:=h;exact⟨cs,T,(hb.block _ (ae h)).trans h⟩
theorem UF.set(h:UF w g):UF (w.setCell ⟨b,i,J⟩ v) g:=by
 obtain⟨cs,T,h⟩:=h;by_cases e:g=b
 ·subst e;exact⟨_,T,an h v⟩
 ·exact⟨cs,T,(Ya w ⟨b,i,J⟩ v g e).trans h⟩
theorem UF.row {q:Nat} (h:UF w g):UF (w.setRow q cs) g:=by
 obtain⟨c0,T,h⟩:=h;by_cases e:g=q
 ·subst e;exact⟨_,T,setRow_heap w g c0 cs T _ h⟩
 ·exact⟨c0,T,(setRow_other _ _ _ _ e).trans h⟩
theorem LoA.to {B':Nat} (h:LoA B w a len) (hb:B'<=B) (hu:∀g,UF w g->UF w' g):LoA B' w' a len:=by
 rcases h with h|⟨b,o,h1,h2,h3⟩
 ·exact Zl h
 ·exact Zk ⟨b,o,h1,Yo hb h2,hu b h3⟩
theorem Low.to {B':Nat} (h:Low B w d) (hb:B'<=B) (hu:∀g,UF w g->UF w' g):Low B' w' d:=⟨h.n.to hb hu,h.k.to hb hu,h.v.to hb hu,h.x.to hb hu,h.p.to hb hu⟩
theorem LoA.at(h:LoA B w a len) {b o:Nat} (e:a=M ⟨b,o,J⟩) (hl:0<len):B<=b/\UF w b:=by
 rcases h with h|⟨b',o',h1,h2⟩
 ·omega
 ·rw[h1] at e;cases e;exact h2
theorem eL.lo {c:Cr} (h:eL w d c S) {B:Nat} (hS:∀k,S k->B<=k):Low B w d:=by
 obtain⟨P,h⟩:=h;exact⟨h.n.lo (λk s=>hS k s.1),h.k.lo (λk s=>hS k s.1),h.v.lo (λk s=>hS k s.1),h.x.lo (λk s=>hS k s.1),h.p.lo (λk s=>hS k s.1)⟩
theorem kF.row {c:Cr} (h:kF B w d c):aA w d c:=⟨h.n.1,h.k.1,h.v.1,h.x.1,h.p.1⟩
theorem kF.low {c:Cr} (h:kF B w d c):Low B w d:=⟨h.n.2,h.k.2,h.v.2,h.x.2,h.p.2⟩
theorem jw.s(h:jw Is w e w'):am5 Is w e w':=by
 obtain⟨g,o,h1,h2,h3,h4⟩:=h;exact⟨g,o,h1,h2,h3.row,h4⟩
theorem Sel.erase {β:Type} {xs:List α} {vss:List β} (hl:vss.length=xs.length) {k:Nat} (hk:k<xs.length):Sel xs (xs.take k++xs.drop (k+1)) vss (vss.take k++vss.drop (k+1)) xs.length (λj=>if j<k then j else j+1):=by
 have Zc:∀{γ:Type} {l:List γ} (j:Nat),k<l.length->j<(l.take k++l.drop (k+1)).length->(l.take k++l.drop (k+1))[j]?=l[if j<k then j else j+1]?:=by
  intro γ l j hk hj;have h1:(l.take k).length=k:=by rw[YF];omega
  by_cases e:j<k
  ·rw[Yu af,YC,if_pos e,if_pos e]
  ·rw[List.getElem?_append_right af,YN,if_neg e,h1];congr 1;omega
 refine⟨by simp[hl],λj hj=>Zc j hk hj,λj hj=>Zc j af (by simp[hl] at hj ⊢;omega),λj hj=>?_,λi j hi hj e=>?_⟩
 ·have:(xs.take k++xs.drop (k+1)).length=xs.length - 1:=by simp;omega
  split <;> omega
 ·split at e <;> split at e <;> omega
theorem BU(d:Ad) (c:Cl) (t:ByteArray) (w:World) (hr:aA w d c.raw):
  Calls Tryz.prog 82 #[Zj (Zs d c.now),I t] w (jw (dN c t) w):=by
 have aow:=@G _ @Og;exact fU
theorem AskWhy.only {n:Nat} (h:AskWhy c t n) (h':AskWhy c t m):n=m:=by
 rcases n with _|_|_|n <;> rcases m with _|_|_|m <;> simp only[AskWhy] at h h' <;> first|rfl|exact absurd h h'.1|exact absurd h' h.1|exact absurd h'.2.1 h.2|exact absurd h.2.1 h'.2
theorem AskWhy.not {n:Nat} {x:Xd} (h:AskWhy c t n) (h1:¬8000<t.size) (h2:au c) (hx:c.xs[i]?=M x) (hn:x.n=t):False:=by
 rcases n with _|_|_|n <;> simp only[AskWhy] at h
 ·exact h1 h
 ·exact h.2 h2
 ·exact h.2.2 ⟨i,x,hx,hn⟩
theorem bH.same {o':Co} (h:bH c t o) (h':bH c t o'):o=o':=by
 rcases h with ⟨n,_,a,rfl⟩|⟨a1,a2,i,x,j,k,a3,a4,a5,a6,a⟩ <;> rcases h' with ⟨m,_,b,rfl⟩|⟨b1,b2,i',x',j',k',b3,b4,b5,b6,b⟩
 ·rw[a.only b]
 ·exact (a.not b1 b2 b3 b4).elim
 ·exact (b.not a1 a2 a3 a4).elim
 ·obtain⟨rfl,rfl⟩:=a2.2.1.2.2.2.1.2.2.inj a3 b3 (a4.trans b4.symm);obtain⟨rfl,rfl⟩:=a2.2.1.2.1.2.2.inj a5 b5 (a6.trans b6.symm);rcases a with ⟨a7,rfl⟩|⟨a7,a⟩ <;> rcases b with ⟨b7,rfl⟩|⟨b7,b⟩
  ·rfl
  ·exact absurd b7 a7
  ·exact absurd a7 b7
  ·rcases a with ⟨a8,rfl⟩|⟨a8,a⟩ <;> rcases b with ⟨b8,rfl⟩|⟨b8,b⟩
   ·rfl
   ·rw[a8] at b8;cases b8
   ·rw[a8] at b8;cases b8
   ·exact a.same a2 b
def Kept(c:Cl) (v:Vd):Prop:=∃(j:Nat) (k:Kd),c.ks[j]?=M k/\k.n=v.k/\k.y=Zi
def ahv(v:Vd):Vd:=⟨v.n,v.c,v.z,v.k,v.x,⟨#[]⟩,Zi,v.zs⟩
def rC(c:Cl) (t:ByteArray) (vs:List Vd):Prop:=
 (∃(j:Nat) (v:Vd),c.vs[j]?=M v/\aX c t v/\((Kept c v/\vs=c.vs.set j (ahv v))\/(¬Kept c v/\vs=wo Vd.n v.n c.vs)))\/((∀v,¬aX c t v)/\vs=c.vs)
def RU(c:Cl) (t:ByteArray) (vs:List Vd):Cl:=⟨c.ns,c.ks,vs,wo Xd.n t c.xs,c.ps,c.now⟩
def dv(c:Cl) (t:ByteArray) (o:Co):Prop:=(∃i,DwWhy c t (amS c t) i/\o=co0 (aZ i))\/(¬8000<t.size/\au c/\aiL c t/\∃vs,rC c t vs/\o=⟨RU c t vs,⟨#[]⟩,0⟩)
def alC(c:Cl) (x:Pd):Prop:=∃n:Nd,c.ns[pl Nd.n c.ns x.d]?=M n/\n.n=x.d/\n.d=Zi/\n.u+5<c.now
def idle(x:Pd):Pd:=⟨x.n,x.c,x.z,x.zs,⟨#[]⟩,0⟩
def evC(c:Cl) (t:ByteArray) (x:Pd):Cl:=⟨c.ns,c.ks,c.vs,c.xs,c.ps.set (pl Pd.n c.ps t) (idle x),c.now⟩
def EvWhy(c:Cl) (t:ByteArray):Nat->Prop
 | 0=>8000<t.size
 | 1=>¬8000<t.size/\¬au c
 | 2=>¬8000<t.size/\au c/\hit Pd.n c.ps t=Zg
 | 8=>¬8000<t.size/\au c/\∃x,c.ps[pl Pd.n c.ps t]?=M x/\x.n=t/\x.p=0
 | 7=>¬8000<t.size/\au c/\∃x,c.ps[pl Pd.n c.ps t]?=M x/\x.n=t/\¬x.p=0/\¬alC c x
 | _=>False
def ez(c:Cl) (t:ByteArray) (o:Co):Prop:=(∃i,EvWhy c t i/\o=co0 (aZ i))\/(¬8000<t.size/\au c/\∃x,c.ps[pl Pd.n c.ps t]?=M x/\x.n=t/\¬x.p=0/\alC c x/\o=⟨evC c t x,⟨#[]⟩,0⟩)
theorem EvWhy.cases(h:EvWhy c t i):(i=0/\8000<t.size)\/(i=1/\¬8000<t.size/\¬au c)\/(i=2/\¬8000<t.size/\au c/\hit Pd.n c.ps t=Zg)\/(i=8/\¬8000<t.size/\au c/\∃x,c.ps[pl Pd.n c.ps t]?=M x/\x.n=t/\x.p=0)\/(i=7/\¬8000<t.size/\au c/\∃x,c.ps[pl Pd.n c.ps t]?=M x/\x.n=t/\¬x.p=0/\¬alC c x):=by
 rcases i with _|_|_|_|_|_|_|_|_|i <;> simp only[EvWhy] at h
 ·exact Zl ⟨rfl,h⟩
 ·exact Zk (Zl ⟨rfl,h⟩)
 ·exact Zk (Zk (Zl ⟨rfl,h⟩))
 ·exact Zk (Zk (Zk (Zk ⟨rfl,h⟩)))
 ·exact Zk (Zk (Zk (Zl ⟨rfl,h⟩)))
theorem au.node(h:au c) (hx:c.ps[i]?=M x) (hp:¬x.p=0):∃(j:Nat) (n:Nd),c.ns[j]?=M n/\n.n=x.d/\Inn n.u 0 1000000:=by
 have h1:=h.2.1.2.2.2.2.2.1 i x hx;have h2:=(h.2.2.2.1.1 i x hx).2;have hd:¬x.d=⟨#[]⟩:=λe=>by
  have h3:=h1.2.2.2.2;rw[e] at h3;rcases h3 with ⟨h3,_⟩|⟨_,h3⟩
  ·exact hp h3
  ·have h5:=h3.1;revert h5;decide
 obtain⟨j,n,h3,h4,_⟩:=h2.resolve_left hd;exact⟨j,n,h3,h4,(h.2.1.1.2.1 j n h3).2.2.2.2.1⟩
theorem BL(d:Ad) (now:Int) (n:Nd) (va:Option Addr) (vl vc:Nat) (w:World) (h0:0<=n.u) (h1:n.u<=1000000):
  Calls Tryz.prog 142 #[Zj (Zs d now),Zj #[I n.n,I n.z,V O n.c,V O n.s,V O n.u,Zf n.d,U va vl vc]] w λe w'=>e=Zh (Zf (n.d && decide (n.u+5<now)))/\Below w.heap.size w w':=by
 exact Qt
theorem rU(d:Ad) (now:Int) (n:Nd) (va:Option Addr) (vl vc:Nat) (w:World) (h0:0<=n.u) (h1:n.u<=1000000) (g:Bool) (hg:(n.d && decide (n.u+5<now))=g):
  Calls Tryz.prog 142 #[Zj (Zs d now),Zj #[I n.n,I n.z,V O n.c,V O n.s,V O n.u,Zf n.d,U va vl vc]] w λe w'=>e=Zh (Zf g)/\Below w.heap.size w w':=by
 unfold Zs;rw[<-hg];exact BL d now n va vl vc w h0 h1
theorem we.cases(h:we c t i):(i=0/\8000<t.size)\/(i=1/\¬8000<t.size/\¬au c)\/(i=2/\¬8000<t.size/\au c/\hit Pd.n c.ps t=Zg)\/(i=8/\¬8000<t.size/\au c/\∃x,c.ps[pl Pd.n c.ps t]?=M x/\x.n=t/\¬x.p=0)\/(i=7/\¬8000<t.size/\au c/\∃x,c.ps[pl Pd.n c.ps t]?=M x/\x.n=t/\x.p=0/\rA c (pl Pd.n c.ps t) x):=by
 rcases i with _|_|_|_|_|_|_|_|_|i;all_goals first
  | exact False.elim h
  | exact Zl ⟨rfl,h⟩
  | exact Zk (Zl ⟨rfl,h⟩)
  | exact Zk (Zk (Zl ⟨rfl,h⟩))
  | exact Zk (Zk (Zk (Zl ⟨rfl,h⟩)))
  | exact Zk (Zk (Zk (Zk ⟨rfl,h⟩)))
def dead(n:Nd):Nd:=⟨n.n,n.z,n.c,n.s,n.u,Zi,n.zs⟩
def ph1(t:ByteArray) (p:Pd):Pd:=if p.d.toList==t.toList then ⟨p.n,p.c,p.z,p.zs,p.d,1⟩ else p
theorem agO {p:Pd} (h:p.d=t):ph1 t p=⟨p.n,p.c,p.z,p.zs,p.d,1⟩:=by unfold ph1;rw[aP h];rfl
theorem alc {p:Pd} (h:¬p.d=t):ph1 t p=p:=by unfold ph1;rw[bu h];rfl
def px(c:Cl) (t:ByteArray) (n:Nd):Cl:=⟨c.ns.set (pl Nd.n c.ns t) (dead n),c.ks,c.vs,c.xs,c.ps.map (ph1 t),c.now⟩
def iU(c:Cl) (t:ByteArray):Nat->Prop
 | 0=>8000<t.size
 | 1=>¬8000<t.size/\¬au c
 | 2=>¬8000<t.size/\au c/\hit Nd.n c.ns t=Zg
 | _=>False
def rE(c:Cl) (t:ByteArray) (n:Nd):Prop:=¬8000<t.size/\au c/\c.ns[pl Nd.n c.ns t]?=M n/\n.n=t
def iz(c:Cl) (t:ByteArray) (o:Co):Prop:=(∃i,iU c t i/\o=co0 (aZ i))\/∃n,rE c t n/\((n.d=Zi/\o=co0 (aZ 8))\/(n.d=Zg/\o=⟨px c t n,⟨#[]⟩,0⟩))
def phL(t:ByteArray) (ps:List Pd) (k:Nat):List Pd:=(ps.map (ph1 t)).take k++ps.drop k
theorem xE(h:k<ps.length):(phL t ps k)[k]?=ps[k]?:=by
 unfold phL;exact P1
theorem vx(hx:ps[k]?=M x):phL t ps (k+1)=(phL t ps k).set k (ph1 t x):=by
 have hk:k<ps.length:=(Yc.1 hx).1;unfold phL;have h1:((ps.map (ph1 t)).take k).length=k:=by simp;omega
 exact QY
theorem agM(h:ps.length<=k):phL t ps k=ps.map (ph1 t):=by
 unfold phL;rw[YB j_,Yw h,List.append_nil]
theorem aJ.anr(h:aJ S w w1) (hg:S g):aJ S w (w1.setCell ⟨g,i,J⟩ v):=
 ⟨h.os,h.tape,h.output,by simpa[YV] using h.size,λk hk hn=>(Ya _ _ _ _ (show¬k=g from λe=>hn (by rw[e];exact hg))).trans (h.block k hk hn)⟩
theorem av.beside {a':Option Addr} {l cp l' cp':Nat} {rs rs':List (List Fv)} {S':Nat->Prop} (hn:av w a' l' cp' m T rs' S') (hp:av w a l cp 6 102 rs S) (hk:aJ (λk=>0<l/\a=M ⟨k,0,J⟩) w w') (hT:¬102=T):av w' a' l' cp' m T rs' S':=by
 by_cases h0:0<l
 ·obtain⟨h1,h2,h3,h4⟩:=hp;rcases h4 with h4|⟨g,cur,H,rfl,h6⟩
  ·rw[h4] at h1;simp at h1;omega
  ·exact (hn.dZ h6.blk hT ag).ay (λk hk2 s=>hk.block k hk2 (λq=>s.2 (by have h9:=q.2;cases h9;rfl))) (λ_ _ s=>s.1)
 ·exact hn.ay (λk hk2 s=>hk.block k hk2 (λq=>h0 q.1)) (λ_ _ s=>s)
def am4(a:Option Addr) (l cp:Nat) (t:ByteArray) (ps:List Pd) (S:Nat->Prop) (w:World) (e:Ending) (w':World):Prop:=(∃v,e=Zh v)/\av w' a l cp 6 102 ((ps.map (ph1 t)).map pdF) S/\aJ (λk=>0<l/\a=M ⟨k,0,J⟩) w w'
theorem oN {l:List α} {x:α} (h:l[k]?=M x):l.set k x=l:=by
 obtain⟨hk,rfl⟩:=Yc.1 h;exact List.set_getElem_self hk
theorem mC(b:Nat) (a1 a2 a3 a4 a:Option Addr) (l1 y1 l2 y2 l3 y3 l4 y4 l cp:Nat) (now:Int) (t:ByteArray) (ps:List Pd) (S:Nat->Prop) (w:World) (hb:w.heap[b]?=M (Ze #[U a1 l1 y1,U a2 l2 y2,U a3 l3 y3,U a4 l4 y4,U a l cp,V O now] 29 (0,0))) (ho:av w a l cp 6 102 (ps.map pdF) S) (hS:∀g,0<l->a=M ⟨g,0,J⟩->¬g=b):
  Calls Tryz.prog 74 #[Zm (M ⟨b,0,J⟩),I t,Zf Zg] w (am4 a l cp t ps S w):=by
 have hpl:ps.length=l:=oQ
 have hlm:=Yo ho.2.1 ho.2.2.1;have Bc:=G hb;have HO0:Hid (av w a l cp 6 102 ((phL t ps 0).map pdF) S):=by show av _ _ _ _ _ _ _ _;simpa[phL] using ho
 clear hb ho;go_enter Tryz.func74,Tryz.ntmps74;go_wp2;go_loopw [6] (λvi wr=> ∃k:Nat,k<=l/\vi=V O k/\Hid (av wr a l cp 6 102 ((phL t ps k).map pdF) S)/\Hid (aJ (λk=>0<l/\a=M ⟨k,0,J⟩) w wr)) (λvi _=>l - (intOf vi).toNat);case atStart=>exact⟨0,by omega,rfl,HO0,aJ.refl _ _⟩
 case round=>
  obtain⟨k,hk,rfl,HO,HK⟩:=hrel;clear HO0;replace Bc:=G ((HK.block _ (ae Bc.out) (λh=>hS _ h.1 h.2 rfl)).trans Bc.out);by_cases Zo:k<l
  ·obtain⟨x,hx0⟩:∃x,ps[k]?=M x:=⟨_,Yi af⟩;have HX0:=G hx0;have hLk:((phL t ps k).map pdF)[k]?=M (pdF x):=by rw[Yt,xE af,hx0];rfl
   obtain⟨g,rfl,hS2⟩:=HO.st (aJ.refl S wr) hLk;obtain⟨b2,o2,x2,hae,Z3,hx2,Zc⟩:=db HO.row Zo;cases hae;rw[xE af,hx0] at hx2;obtain rfl:=Yd hx2;obtain⟨va,vl,vc,-,-,-,-,-,-,-,-,c4,c5⟩:=bK Zc;have hf5:=hS2.oy (k*6+5);have HST:=G hS2;have ZE:=hS g af rfl;rw[Yp] at c4 c5;have Ο:(k:Int)<l:=af
   clear Zc hx2 hx0 hS2 hLk;by_cases he:x.d=t
   ·have hq:=aP he;have HHE:=G he;clear he;obtain⟨c0,c1,c2,c3,c4,c5⟩:=cs6 Bc;go_wp2;have h2:=HST.BP (i:=5) rfl 1;obtain⟨⟨aod,H2,h3,_⟩,h4,_⟩:=h2;have hR:av (wr.setCell ⟨g,k*6+5,J⟩ (V O 1)) (M ⟨g,0,J⟩) l cp 6 102 ((phL t ps (k+1)).map pdF) S:=by
     rw[vx HX0.out,List.map_set,agO HHE.out];exact⟨by rw[List.length_set];exact HO.1,HO.2.1,HO.2.2.1,Zk ⟨g,aod,H2,rfl,h3⟩⟩
    have HR2:=G hR;have HK2:=G (HK.anr (i:=k*6+5) (v:=V O 1) (show 0<l/\(M ⟨g,0,J⟩:Option Addr)=M ⟨g,0,J⟩ from ⟨by omega,rfl⟩));clear hR h3 h4;clear c0 c1 c2 c3 c4 c5;obtain⟨W,θ⟩:∃W,W=wr.setCell ⟨g,k*6+5,J⟩ (V O 1):=⟨_,rfl⟩;rw[<-θ] at HR2 HK2 ⊢;clear θ c4 c5 hf5;have hne0:=Wd.ne W;have aqK:=@G _ @Wy;exact lQ
   have hq:=bu he;have HHE:=G he;clear he;obtain⟨c0,c1,c2,c3,c4,c5⟩:=cs6 Bc;go_wp2;refine⟨⟨k+1,by omega,by go_num,?_,HK.out⟩,by simp[intOf];omega⟩;show av _ _ _ _ _ _ _ _;rw[vx HX0.out,alc HHE.out,oN (by rw[xE af];exact HX0.out)];exact HO.out
  have Ο:¬(k:Int)<l:=af
  obtain⟨c0,c1,c2,c3,c4,c5⟩:=cs6 Bc;go_wp2;have HO2:=HO;rw[agM af] at HO2;exact P9
def phF(t:ByteArray) (f:Pd->Int) (p:Pd):Pd:=if p.d.toList==t.toList then ⟨p.n,p.c,p.z,p.zs,p.d,f p⟩ else p
theorem A5 {p:Pd} (h:p.d=t):phF t f p=⟨p.n,p.c,p.z,p.zs,p.d,f p⟩:=by unfold phF;rw[aP h];rfl
theorem alb {p:Pd} (h:¬p.d=t):phF t f p=p:=by unfold phF;rw[bu h];rfl
theorem agN(t:ByteArray):phF t (λ_=>1)=ph1 t:=rfl
def mpL(h:Pd->Pd) (ps:List Pd) (k:Nat):List Pd:=(ps.map h).take k++ps.drop k
theorem Rt(hk:k<ps.length):(mpL h ps k)[k]?=ps[k]?:=by
 unfold mpL;exact P1
theorem nX(hx:ps[k]?=M x):mpL h ps (k+1)=(mpL h ps k).set k (h x):=by
 have hk:k<ps.length:=(Yc.1 hx).1;unfold mpL;have h1:((ps.map h).take k).length=k:=by simp;omega
 exact QY
theorem agX(hk:ps.length<=k):mpL h ps k=ps.map h:=by
 unfold mpL;rw[YB (by simpa using hk),Yw hk,List.append_nil]
theorem Rp(h:Pd->Pd) (ps:List Pd):mpL h ps 0=ps:=by simp[mpL]
theorem Rr(hx:ps[k]?=M x) (e:h x=x):mpL h ps (k+1)=mpL h ps k:=by
 rw[nX hx,e,oN (by rw[Rt (Yc.1 hx).1];exact hx)]
def alm(c:Cl) (t:ByteArray) (v:Vd):Bool:=inB v.zs t && yB c t v.m
def kV(c:Cl) (t:ByteArray) (vs:List Vd):List ByteArray:=(vs.filter (alm c t)).map Vd.n
theorem Rx(c:Cl) (t:ByteArray):(kV c t c.vs).length<=c.vs.length:=by
 unfold kV;rw[Yq];exact List.length_filter_le _ _
def cV(c:Cl):Int:=if c.now+10<1000000 then c.now+10 else 1000000
def Rw(c:Cl) (n:Nd):List ByteArray:=if c.now<n.u then kV c n.n c.vs else []
def fL(c:Cl) (n:Nd):Nd:=⟨n.n,n.z,n.c,n.s,cV c,n.d,Rw c n⟩
def ahj(c:Cl) (n:Nd) (f:Pd->Int):Prop:=∀p,(f p=2/\c.now<n.u/\rG c p (fL c n))\/(f p=1/\¬(c.now<n.u/\rG c p (fL c n)))
theorem ahj.ex(c:Cl) (n:Nd):∃f,ahj c n f:=by
 classical
 refine⟨λp=>if c.now<n.u/\rG c p (fL c n) then 2 else 1,λp=>?_⟩;by_cases h:c.now<n.u/\rG c p (fL c n)
 ·exact Zl ⟨if_pos h,h⟩
 ·exact Zk ⟨if_neg h,h⟩
def jD(c:Cl) (t:ByteArray) (n:Nd) (f:Pd->Int):Cl:=⟨c.ns.set (pl Nd.n c.ns t) (fL c n),c.ks,c.vs,c.xs,c.ps.map (phF t f),c.now⟩
def wh(c:Cl) (t:ByteArray) (o:Co):Prop:=(∃i,iU c t i/\o=co0 (aZ i))\/∃n,rE c t n/\((n.d=Zi/\o=co0 (aZ 8))\/(n.d=Zg/\∃f,ahj c n f/\o=⟨jD c t n f,⟨#[]⟩,0⟩))
theorem au.bds {p:Pd} (h:au c) (hp:c.ps[k]?=M p) (hd:¬p.d=⟨#[]⟩):∀(j:Nat) t,p.zs[j]?=M t->∃v,aX c t v:=by
 have h1:=(jh h.2.1 ((la h.2.1).1 h.2.2.1)).1 h.2.2.2.1;obtain⟨_,b,_⟩:=h1.1 k p hp;intro j t ht;obtain⟨v,_,_,e3,_⟩:=(b j t ht).2.resolve_left hd;exact⟨v,e3⟩
theorem aN.ne {x:ByteArray} (h:aN x):¬x=⟨#[]⟩:=λe=>by
 rw[e] at h;have h8:=h.1;revert h8;decide
def anQ(c:Cl) (t:ByteArray) (w:World) (e:Ending) (w':World):Prop:=Below w.heap.size w w'/\((∃i p,iU c t i/\p=aZ i/\¬p=0/\e=Zh (Zn #[V O 0,V O p]))\/∃(j:Nat) (n:Nd),c.ns[j]?=M n/\rE c t n/\e=Zh (Zn #[V O j,V O 0]))
theorem BX(d:Ad) (c:Cl) (t:ByteArray) (w:World) (hr:aA w d c.raw):
  Calls Tryz.prog 72 #[Zj (Zs d c.now),I t] w (anQ c t w):=by
 unfold Zs;obtain⟨HR,HB⟩:=lp;clear hr;go_enter Tryz.func72,Tryz.ntmps72;go_wp2_with fail;refine (mE d c t _ (HR.below (HB.trans ((aj _ _).mono HB.size)))).mono ?_;rintro e w1 ⟨p,rfl,hp,hb⟩;have aov:=@G _ @N7;exact fT
theorem C4(d:Ad) (c:Cl) (t:ByteArray) (w:World) (hr:aA w d c.raw):
  Calls Tryz.prog 88 #[Zj (Zs d c.now),I t] w (jw (iz c t) w):=by
 unfold Zs;obtain⟨a1,l1,y1,a2,l2,y2,a3,l3,y3,a4,l4,y4,a5,l5,y5⟩:=d;dsimp only;obtain⟨HR,hl1⟩:=lr;have hm1:l1<=9223372036854775807:=Yo hr.n.2.1 hr.n.2.2.1;clear hr;have HB:=G (Yh w.heap.size w);go_enter Tryz.func88,Tryz.ntmps88;have aqx:=@G _ @Hw;exact m_
def R0(n:Nd):Nd:=⟨n.n,n.z,n.c,n.s,0,Zg,[]⟩
def rL(c:Cl) (t:ByteArray) (n:Nd):Cl:=⟨c.ns.set (pl Nd.n c.ns t) (R0 n),c.ks,c.vs,c.xs,c.ps,c.now⟩
def ix(c:Cl) (t:ByteArray) (o:Co):Prop:=(∃i,iU c t i/\o=co0 (aZ i))\/∃n,rE c t n/\((n.d=Zg/\o=co0 (aZ 8))\/(n.d=Zi/\o=⟨rL c t n,⟨#[]⟩,0⟩))
theorem StJ.aiZ {N:Nat->Prop} {rs:List (List Fv)} {r:List Fv} (h:StJ g m T S N w wr rs j r) {i:Nat} {old:Fv} (hi:r[i]?=M old):StJ g m T S N w (wr.setCell ⟨g,j*m+i,J⟩ (U J 0 0)) rs j (r.set i (.l [])):=by
 have aqV:=@G _ @aej;exact lZ
theorem CP(d:Ad) (c:Cl) (t:ByteArray) (w:World) (hr:aA w d c.raw):
  Calls Tryz.prog 89 #[Zj (Zs d c.now),I t] w (jw (ix c t) w):=by
 have υ:=@G _ @ab5;exact bQ
def later(c:Cl) (n:Int):Cl:=⟨c.ns,c.ks,c.vs,c.xs,c.ps,c.now+n⟩
def gL(c:Cl) (n:Int) (o:Co):Prop:=(¬au c/\o=co0 1)\/(au c/\¬(Inn n 0 1000/\c.now+n<=1000000)/\o=co0 8)\/(au c/\(Inn n 0 1000/\c.now+n<=1000000)/\o=⟨later c n,⟨#[]⟩,0⟩)
theorem CR(d:Ad) (c:Cl) (n:Int) (w:World) (hr:aA w d c.raw):
  Calls Tryz.prog 90 #[Zj (Zs d c.now),V O n] w (jw (gL c n) w):=by
 unfold Zs;obtain⟨HR,HB⟩:=lp;clear hr;go_enter Tryz.func90,Tryz.ntmps90;go_wp2_with fail;refine (cI d c _ (HR.below (HB.trans ((aM _ _ _).mono HB.size)))).mono ?_;rintro e w1 ⟨r,rfl,hi,hb⟩;have asB:=@G _ @abP;exact qx
def Gd(c c':Cl):Prop:=c'.ns.length=c.ns.length/\c'.ks.length=c.ks.length
theorem jq {Why:Nat->Prop} (h9:∀i,9<i->¬Why i) {c:Cl} {o:Co} (h:∃i,Why i/\o=co0 (aZ i)) (h0:o.p=0):Gd c o.c:=by
 obtain⟨i,a,rfl⟩:=h;exfalso;revert h0;rcases i with _|_|_|_|_|_|_|_|_|_|i;case succ.succ.succ.succ.succ.succ.succ.succ.succ.succ=>exact λ_=>h9 _ af a
 all_goals exact λh=>by cases h
theorem bf.gd {x:Vd} (h:bf c x o) (h0:o.p=0):Gd c o.c:=by
 exact O9
theorem bR.gd {x:Xd} (h:bR c x o) (h0:o.p=0):Gd c o.c:=by
 exact O9
theorem ct.gd(h:ct c x o) (h0:o.p=0):Gd c o.c:=by
 exact O9
theorem lg.gd {r:Cl} {St:Nat->Prop} {ok:Prop} (h9:∀i,9<i->¬St i) (hr:Gd c r) (h:lg c t St ok r o) (h0:o.p=0):Gd c o.c:=by
 rcases h with h|⟨_,_,_,rfl⟩
 ·refine jq (λi hi a=>?_) h h0;rcases i with _|_|i
  ·omega
  ·omega
  ·exact h9 _ hi a.2.2
 ·exact hr
theorem gM.gd(h:gM c t o) (h0:o.p=0):Gd c o.c:=by
 rcases h with h|⟨_,hT,x,b,n,c',h3,_,_,h4,h5,rfl⟩
 ·exact Qv
 ·have hn:=(hT.2.1.1.2.1 _ _ h4.1).2.1;rcases h5 with ⟨_,e⟩|⟨_,⟨_,e⟩|⟨_,⟨_,e⟩|⟨_,c1,e1,hA,⟨h1,e⟩|⟨rfl,⟨_,e⟩|⟨_,_,rfl⟩⟩⟩⟩⟩
  ·exact absurd e ag
  ·exact absurd e ag
  ·exact absurd e ag
  ·exact absurd e.symm h1
  ·exact absurd e ag
  rcases hA with ⟨hR,_⟩|⟨_,_,_,_,_,_,ZE⟩
  ·obtain⟨_,q2,q3,_,_⟩:=er.right hT hn _ c1 hR;exact⟨by show c1.ns.length=_;rw[q2],by show c1.ks.length=_;rw[q3]⟩
  ·exact absurd rfl ZE
theorem bH.gd(h:bH c t o) (h0:o.p=0):Gd c o.c:=by
 rcases h with ⟨n,_,a,rfl⟩|⟨_,hT,i,x,j,k,hx,_,_,_,⟨_,rfl⟩|⟨_,⟨_,rfl⟩|⟨_,h⟩⟩⟩
 ·exact jq (Why:=AskWhy c t) (λi hi a=>by rcases i with _|_|_|i <;> first|omega|exact a.elim) ⟨n,a,rfl⟩ h0
 ·cases h0
 ·cases h0
 ·have q:=h.keeps hT hx h0;exact⟨by rw[q.1],by rw[q.2.1]⟩
theorem ez.gd(h:ez c t o) (h0:o.p=0):Gd c o.c:=by
 rcases h with h|⟨_,_,x,_,_,_,_,rfl⟩
 ·exact Qv
 ·exact⟨rfl,rfl⟩
theorem kG.gd(h:kG c o) (h0:o.p=0):Gd c o.c:=by
 rcases h with ⟨_,rfl⟩|⟨_,_,_,_,_,_,_,_,_,rfl⟩|⟨_,_,_,_,⟨_,_,_,_,_,_,_,_,rfl⟩|⟨_,rfl⟩⟩
 ·cases h0
 ·exact⟨rfl,rfl⟩
 ·exact⟨rfl,rfl⟩
 ·cases h0
theorem Bq(i:Nat) (hi:9<i):¬iU c t i:=by
 intro a;rcases i with _|_|_|i
 ·omega
 ·omega
 ·omega
 ·exact a
theorem wh.gd(h:wh c t o) (h0:o.p=0):Gd c o.c:=by
 rcases h with h|⟨n,_,⟨_,rfl⟩|⟨_,f,_,rfl⟩⟩
 ·exact jq Bq h h0
 ·cases h0
 ·exact⟨by show (c.ns.set _ _).length=_;rw[List.length_set],rfl⟩
theorem iz.gd(h:iz c t o) (h0:o.p=0):Gd c o.c:=by
 exact QG
theorem ix.gd(h:ix c t o) (h0:o.p=0):Gd c o.c:=by
 exact QG
theorem gL.gd {n:Int} (h:gL c n o) (h0:o.p=0):Gd c o.c:=by
 rcases h with ⟨_,rfl⟩|⟨_,_,rfl⟩|⟨_,_,rfl⟩
 ·cases h0
 ·cases h0
 ·exact⟨rfl,rfl⟩
theorem kG.nm(h:kG c o):o.n.size<=9223372036854775807:=by
 rcases h with ⟨_,rfl⟩|⟨hT,_,_,i,v,_,_,hv,_,rfl⟩|⟨hT,_,_,_,⟨_,i,v,_,_,hv,_,_,rfl⟩|⟨_,rfl⟩⟩
 ·exact YJ _
 ·have h:=(hT.2.1.2.2.1.2.1 i v hv).1.2.1;show (BC++v.n).size<=_;rw[ByteArray.size_append];have:BC.size=4:=rfl;omega
 ·have h:=(hT.2.1.2.2.1.2.1 i v hv).1.2.1;show (wOn++v.n).size<=_;rw[ByteArray.size_append];have:wOn.size=3:=rfl;omega
 ·exact YJ _
theorem gM.nm(h:gM c t o):o.n.size<=9223372036854775807:=by
 rcases h with ⟨i,_,rfl⟩|⟨_,hT,x,b,n,c',h3,_,_,h4,h5,rfl⟩
 ·exact YJ _
 ·have h:=(hT.2.1.1.2.1 b n h4.1).1.2.1;show n.n.size<=_;omega
theorem bH.nm(h:bH c t o):o.n.size<=9223372036854775807:=by
 rcases h with ⟨n,_,a,rfl⟩|⟨_,hT,i,x,j,k,hx,_,_,_,⟨_,rfl⟩|⟨_,⟨_,rfl⟩|⟨_,⟨j2,u,_,hu,rfl⟩|⟨_,⟨_,rfl⟩|⟨_,⟨_,rfl⟩|⟨_,⟨_,rfl⟩|⟨_,rfl⟩⟩⟩⟩⟩⟩⟩
 ·exact YJ _
 ·exact YJ _
 ·exact YJ _
 ·have h:=(hT.2.1.2.2.1.2.1 j2 u hu).1.2.1;show u.n.size<=_;omega
 ·exact YJ _
 ·exact YJ _
 ·exact YJ _
 ·have h:=(hT.2.1.2.2.2.1.2.1 i x hx).1.2.1;show (aC++x.n).size<=_;rw[ByteArray.size_append];have:aC.size=2:=rfl;omega
theorem dN.gd(h:dN c t o) (h0:o.p=0):Gd c o.c:=lg.gd (r:=Bf c t) (λi hi h=>by have:=h.1;omega) ⟨rfl,rfl⟩ h h0
theorem cN.gd(h:cN c t o) (h0:o.p=0):Gd c o.c:=lg.gd (r:=Bd c t) (λi hi h=>by rcases h with ⟨rfl,_⟩|⟨rfl,_⟩ <;> omega) ⟨rfl,rfl⟩ h h0
theorem dv.gd(h:dv c t o) (h0:o.p=0):Gd c o.c:=by
 rcases h with h|⟨_,_,_,vs,_,rfl⟩
 ·refine jq (λi hi a=>?_) h h0;rcases i with _|_|i
  ·omega
  ·omega
  ·rcases a.2.2 with ⟨e,_⟩|⟨e,_⟩ <;> omega
 ·exact⟨rfl,rfl⟩
theorem bf.nm {x:Vd} (h:bf c x o):o.n.size<=9223372036854775807:=by rcases h with ⟨_,_,rfl⟩|⟨_,_,_,_,rfl⟩ <;> exact YJ _
theorem bR.nm {x:Xd} (h:bR c x o):o.n.size<=9223372036854775807:=by rcases h with ⟨_,_,rfl⟩|⟨_,_,_,_,rfl⟩ <;> exact YJ _
theorem ct.nm(h:ct c x o):o.n.size<=9223372036854775807:=by rcases h with ⟨_,_,rfl⟩|⟨_,_,_,_,rfl⟩ <;> exact YJ _
theorem dN.nm(h:dN c t o):o.n.size<=9223372036854775807:=by rcases h with ⟨_,_,rfl⟩|⟨_,_,_,rfl⟩ <;> exact YJ _
theorem cN.nm(h:cN c t o):o.n.size<=9223372036854775807:=by rcases h with ⟨_,_,rfl⟩|⟨_,_,_,rfl⟩ <;> exact YJ _
theorem dv.nm(h:dv c t o):o.n.size<=9223372036854775807:=by rcases h with ⟨_,_,rfl⟩|⟨_,_,_,_,_,rfl⟩ <;> exact YJ _
theorem ez.nm(h:ez c t o):o.n.size<=9223372036854775807:=by rcases h with ⟨_,_,rfl⟩|⟨_,_,_,_,_,_,_,rfl⟩ <;> exact YJ _
theorem wh.nm(h:wh c t o):o.n.size<=9223372036854775807:=by rcases h with ⟨_,_,rfl⟩|⟨_,_,⟨_,rfl⟩|⟨_,_,_,rfl⟩⟩ <;> exact YJ _
theorem iz.nm(h:iz c t o):o.n.size<=9223372036854775807:=by rcases h with ⟨_,_,rfl⟩|⟨_,_,⟨_,rfl⟩|⟨_,rfl⟩⟩ <;> exact YJ _
theorem ix.nm(h:ix c t o):o.n.size<=9223372036854775807:=by rcases h with ⟨_,_,rfl⟩|⟨_,_,⟨_,rfl⟩|⟨_,rfl⟩⟩ <;> exact YJ _
theorem gL.nm {n:Int} (h:gL c n o):o.n.size<=9223372036854775807:=by rcases h with ⟨_,rfl⟩|⟨_,_,rfl⟩|⟨_,_,rfl⟩ <;> exact YJ _
end Rc
theorem eV {c:Code} {a:Act} (F:World->Prop) (hF:F w) (h:∀w2,F w2->c.wp P Q a w2):c.wp P Q a w:=h w hF
theorem bV {a b c:World} {row:Option Nat} (h:a.grownBy b row) (k:b.grownBy c row):a.grownBy c row:=
 ⟨k.os.trans h.os,k.tape.trans h.tape,k.output.trans h.output,Yo h.size k.size,λi hi ZE=>(k.block i (Yl hi h.size) ZE).trans (h.block i hi ZE)⟩
theorem bM(w:World) (p i:Nat) (v:Value):w.grownBy (w.setCell ⟨p,i,J⟩ v) (M p):=
 ⟨rfl,rfl,rfl,by simp[YV],λk _ hk=>Ya _ _ _ _ (λe=>hk (by simp[e]))⟩
theorem yb {a b:World} {row:Option Nat} (h:a.grownBy b row):a.grownBy b.drew row:=⟨h.os,h.tape,h.output,h.size,h.block⟩
theorem pU(x Zu:Int) (h1:1<Zu) (h2:Zu<=9223372036854775807):0<=wrap64 ((IntKind.u64.wrap x).tmod Zu)/\wrap64 ((IntKind.u64.wrap x).tmod Zu)<Zu:=by
 have e:IntKind.u64.wrap x=x % 18446744073709551616:=by simp[IntKind.wrap,IntKind.bits,IntKind.signed]
 have h0:0<=IntKind.u64.wrap x:=by rw[e];omega
 rw[Int.tmod_eq_emod_of_nonneg h0];have b0:=Int.emod_nonneg (IntKind.u64.wrap x) (show Zu≠0 by omega);have b1:=Int.emod_lt_of_pos (IntKind.u64.wrap x) (show 0<Zu by omega);generalize IntKind.u64.wrap x % Zu=y at*;simp only[wrap64];omega
def bB(w:World) (p:Nat) (b:Value) (k:Nat) (m sz:Int):Prop:=w.heap[p]?=M (Ze #[b,V O (k:Int),V .u64 m,V O sz] 79 (0,0))
theorem bB.cells {p:Nat} {b:Value} {m:Int} (h:bB w p b k m sz):
  w.cell? ⟨p,0,J⟩=M b/\w.cell? ⟨p,1,J⟩=M (V O (k:Int))/\w.cell? ⟨p,2,J⟩=M (V .u64 m)/\w.cell? ⟨p,3,J⟩=M (V O sz)/\
  w.frozen? ⟨p,0,J⟩=Zg/\w.frozen? ⟨p,1,J⟩=Zg/\w.frozen? ⟨p,2,J⟩=Zg/\w.frozen? ⟨p,3,J⟩=Zg:=by
 unfold bB at h;refine⟨?_,?_,?_,?_,?_,?_,?_,?_⟩ <;> simp[YX,World.frozen?,h]
theorem bB.anu {p:Nat} {b:Value} {m:Int} (h:bB w p b k m sz) (k':Nat):bB (w.setCell ⟨p,1,J⟩ (V O (k':Int))) p b k' m sz:=Go.heap_setCell_same w p 1 _ _ _ h
theorem bB.alQ {p:Nat} {b:Value} {m:Int} (h:bB w p b k m sz) (m':Int):bB (w.setCell ⟨p,2,J⟩ (V .u64 m')) p b k m' sz:=Go.heap_setCell_same w p 2 _ _ _ h
def fo(w0:World) (p:Nat) (b:Value) (k:Nat) (sz:Int) (w:World):Prop:=∃m:Int,0<=m/\m<=18446744073709551615/\bB w p b k m sz/\w0.grownBy w (M p)
theorem rI(a b:Int):0<=bits .xor .u64 a b/\bits .xor .u64 a b<=18446744073709551615:=by
 have e:∀n:Int,IntKind.u64.wrap n=n % 18446744073709551616:=λn=>by simp[IntKind.wrap,IntKind.bits,IntKind.signed]
 simp only[bits,e];constructor <;> omega
theorem fo.mix {p:Nat} {b:Value} (h:fo w0 p b k sz w) (x y:Int):fo w0 p b k sz (w.setCell ⟨p,2,J⟩ (V .u64 (bits .xor .u64 x y))).drew:=by
 obtain⟨m,_,_,h3,h4⟩:=h;exact⟨_,(rI x y).1,(rI x y).2,h3.alQ _,yb (bV h4 (bM w p 2 _))⟩
theorem fo.refl {p:Nat} {b:Value} {m:Int} (h:bB w p b k m sz) (h0:0<=m) (h1:m<=18446744073709551615) (n:Nat):fo w p b k sz (w.drewN n):=
 ⟨m,h0,h1,h,⟨rfl,rfl,rfl,Ye _,λ_ _ _=>rfl⟩⟩
theorem fo.step {p:Nat} {b:Value} {m:Int} (h:bB w p b k m sz) (h0:0<=m) (h1:m<=18446744073709551615) (n k':Nat) (x:Int) (hx:x=(k':Int)):fo w p b k' sz ((w.drewN n).setCell ⟨p,1,J⟩ (V O x)):=by
 subst hx;exact⟨m,h0,h1,bB.anu (w:=w.drewN n) h k',bV (b:=w.drewN n) ⟨rfl,rfl,rfl,Ye _,λ_ _ _=>rfl⟩ (bM _ p 1 _)⟩
def yq(Zu:Int) (w:World) (p:Nat) (b:Value) (len:Nat) (sz:Int) (e:Ending) (w':World):Prop:=∃(r:Int) (k:Nat),e=Zh (V O r)/\0<=r/\(r<Zu\/r=0)/\k<=len/\fo w p b k sz w'
theorem wA(p:Nat) (a0:Option Addr) (len cap k:Nat) (Zu mix sz:Int) (w:World) (hm:1<Zu) (hm2:Zu<=9223372036854775807) (hb:bB w p (U a0 len cap) k mix sz) (m0:0<=mix) (m1:mix<=18446744073709551615) (Zc:¬(k:Int)<(len:Int)) (hk:k<=len):
  Calls Tryz.prog 19 #[Zm (M ⟨p,0,J⟩),V O Zu] w (yq Zu w p (U a0 len cap) len sz):=by
 obtain⟨c0,c1,c2,c3,f0,f1,f2,f3⟩:=hb.cells;have HB:Hid (bB w p (U a0 len cap) k mix sz):=hb;clear hb;go_enter Tryz.func19,Tryz.ntmps19;go_wp2;go_quiet (fail);go_wp2;refine eV (fo w p (U a0 len cap) k sz) (fo.refl HB.out m0 m1 _) ?_;clear c0 c1 c2 c3 f0 f1 f2 f3 m0 m1 HB mix;rintro w2 hF;have HF:Hid (fo w p (U a0 len cap) k sz w2):=hF;obtain⟨m,m0,m1,hb,-⟩:=hF;obtain⟨c0,c1,c2,c3,f0,f1,f2,f3⟩:=hb.cells;clear hb;go_region;go_wp2;refine eV (fo w p (U a0 len cap) k sz) (HF.mix _ _) ?_;clear c0 c1 c2 c3 f0 f1 f2 f3 m0 m1;clear HF w2;rintro w2 hF;have HF:Hid (fo w p (U a0 len cap) k sz w2):=hF;obtain⟨m,m0,m1,hb,-⟩:=hF;obtain⟨c0,c1,c2,c3,f0,f1,f2,f3⟩:=hb.cells;clear hb;go_region;go_wp2;refine eV (fo w p (U a0 len cap) k sz) (HF.mix _ _) ?_;clear c0 c1 c2 c3 f0 f1 f2 f3 m0 m1;clear HF w2;rintro w2 hF;have HF:Hid (fo w p (U a0 len cap) k sz w2):=hF;obtain⟨m,m0,m1,hb,-⟩:=hF;obtain⟨c0,c1,c2,c3,f0,f1,f2,f3⟩:=hb.cells;clear hb;go_region;go_wp2_with fail;go_ret;exact⟨_,k,rfl,(pU _ Zu hm hm2).1,Zl (pU _ Zu hm hm2).2,hk,HF.mix _ _⟩
theorem CU(p b off:Nat) (len cap k:Nat) (Zu mix sz z:Int) (w:World) (hm:1<Zu) (hm2:Zu<=9223372036854775807) (hb:bB w p (U (M ⟨b,off,J⟩) len cap) k mix sz) (m0:0<=mix) (m1:mix<=18446744073709551615) (Zc:(k:Int)<(len:Int)) (hl:len<=140737488355328) (hz:w.cell? ⟨b,off+k,J⟩=M (V .u8 z)) (z0:0<=z) (z1:z<=255):
  Calls Tryz.prog 19 #[Zm (M ⟨p,0,J⟩),V O Zu] w (yq Zu w p (U (M ⟨b,off,J⟩) len cap) len sz):=by
 obtain⟨c0,c1,c2,c3,f0,f1,f2,f3⟩:=hb.cells;have HB:Hid (bB w p (U (M ⟨b,off,J⟩) len cap) k mix sz):=hb;clear hb;go_enter Tryz.func19,Tryz.ntmps19;go_wp2;go_quiet (fail);go_wp2;go_quiet (fail);go_wp2;refine eV (fo w p (U (M ⟨b,off,J⟩) len cap) (k+1) sz) (fo.step HB.out m0 m1 _ (k+1) _ af) ?_;clear c0 c1 c2 c3 f0 f1 f2 f3 m0 m1 hz;clear HB mix;rintro w2 hF;have HF:Hid (fo w p (U (M ⟨b,off,J⟩) len cap) (k+1) sz w2):=hF;obtain⟨m,m0,m1,hb,-⟩:=hF;obtain⟨c0,c1,c2,c3,f0,f1,f2,f3⟩:=hb.cells;clear hb;go_region;go_wp2;refine eV (fo w p (U (M ⟨b,off,J⟩) len cap) (k+1) sz) (HF.mix _ _) ?_;clear c0 c1 c2 c3 f0 f1 f2 f3 m0 m1;clear HF w2;rintro w2 hF;have HF:Hid (fo w p (U (M ⟨b,off,J⟩) len cap) (k+1) sz w2):=hF;obtain⟨m,m0,m1,hb,-⟩:=hF;obtain⟨c0,c1,c2,c3,f0,f1,f2,f3⟩:=hb.cells;clear hb;go_region;go_wp2;refine eV (fo w p (U (M ⟨b,off,J⟩) len cap) (k+1) sz) (HF.mix _ _) ?_;clear c0 c1 c2 c3 f0 f1 f2 f3 m0 m1;clear HF w2;rintro w2 hF;have HF:Hid (fo w p (U (M ⟨b,off,J⟩) len cap) (k+1) sz w2):=hF;obtain⟨m,m0,m1,hb,-⟩:=hF;obtain⟨c0,c1,c2,c3,f0,f1,f2,f3⟩:=hb.cells;clear hb;go_region;go_wp2_with fail;go_ret;exact⟨_,k+1,rfl,(pU _ Zu hm hm2).1,Zl (pU _ Zu hm hm2).2,by omega,HF.mix _ _⟩
def d_(B:Nat) (w:World) (v:Value) (len:Nat):Prop:=len<=140737488355328/\∃a0 cap,v=U a0 len cap/\∀j,j<len->∃(b off:Nat) (z:Int),a0=M ⟨b,off,J⟩/\b<B/\w.cell? ⟨b,off+j,J⟩=M (V .u8 z)/\0<=z/\z<=255
theorem d_.below(h:d_ B w v len) (hb:Below B w w'):d_ B w' v len:=by
 obtain⟨hl,a0,cap,hv,hc⟩:=h;refine⟨hl,a0,cap,hv,λj hj=>?_⟩;obtain⟨b,off,z,h1,h2,h3,h4⟩:=hc j hj;exact⟨b,off,z,h1,h2,(hb.cell (p:=⟨b,off+j,J⟩) h2).trans h3,h4⟩
theorem vS {p:Nat} (h:w.grownBy w' (M p)) (hB:B<=p) (hw:B<=w.heap.size):Below B w w':=
 ⟨h.os,h.tape,h.output,h.size,λk hk=>h.block k af (λe=>by simp at e;omega)⟩
theorem rQ(p:Nat) (Zu:Int) (w:World) (hm:Zu<=1):
  Calls Tryz.prog 19 #[Zm (M ⟨p,0,J⟩),V O Zu] w λe w'=>e=Zh (V O 0)/\w=w':=by
 go_enter Tryz.func19,Tryz.ntmps19;go_wp2;go_ret;exact⟨rfl,rfl⟩
theorem alM(B p len k:Nat) (v:Value) (Zu mix sz:Int) (w:World) (hm2:Zu<=9223372036854775807) (hb:bB w p v k mix sz) (m0:0<=mix) (m1:mix<=18446744073709551615) (hk:k<=len) (hR:d_ B w v len):
  Calls Tryz.prog 19 #[Zm (M ⟨p,0,J⟩),V O Zu] w (yq Zu w p v len sz):=by
 obtain⟨hl,a0,cap,rfl,hc⟩:=hR;by_cases hm:Zu<=1
 ·refine (rQ p Zu w hm).mono ?_;rintro e w' ⟨rfl,rfl⟩;exact⟨0,k,rfl,Int.le_refl _,Zk rfl,hk,⟨mix,m0,m1,hb,⟨rfl,rfl,rfl,Ye _,λ_ _ _=>rfl⟩⟩⟩
 by_cases Zc:k<len
 ·obtain⟨b,off,z,rfl,_,hz,z0,z1⟩:=hc k Zc;exact CU p b off len cap k Zu mix sz z w af hm2 hb m0 m1 af hl hz z0 z1
 ·exact wA p a0 len cap k Zu mix sz w af hm2 hb m0 m1 af hk
def Src(B:Nat) (w0:World) (p:Nat) (v:Value) (len:Nat) (w:World):Prop:=B<=p/\B<=w0.heap.size/\Below B w0 w/\p<w.heap.size/\d_ B w v len/\∃(k:Nat) (m sz:Int),k<=len/\0<=m/\m<=18446744073709551615/\0<=sz/\sz<=12/\bB w p v k m sz
def ana(B:Nat) (w0:World) (p:Nat) (v:Value) (len:Nat) (w:World) (Zu:Int) (e:Ending) (w':World):Prop:=∃r:Int,e=Zh (V O r)/\0<=r/\(r<Zu\/r=0)/\Src B w0 p v len w'/\w.grownBy w' (M p)
theorem Src.n {p:Nat} (h:Src B w0 p v len w) (Zu:Int) (hm2:Zu<=9223372036854775807):
  Calls Tryz.prog 19 #[Zm (M ⟨p,0,J⟩),V O Zu] w (ana B w0 p v len w Zu):=by
 obtain⟨hB,hB0,apK,hp,hR,k,m,sz,hk,m0,m1,s0,s1,hb⟩:=h;refine (alM B p len k v Zu m sz w hm2 hb m0 m1 hk hR).mono ?_;rintro e w' ⟨r,k',rfl,r0,r1,hk',m',m0',m1',χ,hg⟩;have δ:Below B w w':=vS hg hB (Yo hB0 apK.size);exact⟨r,rfl,r0,r1,⟨hB,hB0,apK.trans δ,Yl hp hg.size,hR.below δ,k',m',sz,hk',m0',m1',s0,s1,χ⟩,hg⟩
def Laid(w:World) (v:Value) (len:Nat) (e:Ending) (w':World):Prop:=∃p,e=Zh (Zm (M ⟨p,0,J⟩))/\Src w.heap.size w p v len w'
theorem bB.ai2 {p:Nat} {b:Value} {m:Int} (h:bB w p b k m sz) (s:Int):bB (w.setCell ⟨p,3,J⟩ (V O s)) p b k m s:=Go.heap_setCell_same w p 3 _ _ _ h
theorem bB.lt {p:Nat} {b:Value} {m:Int} (h:bB w p b k m sz):p<w.heap.size:=by
 unfold bB at h;rcases Nat.lt_or_ge p w.heap.size with h1|h1
 ·exact h1
 ·simp[Array.getElem?_eq_none h1] at h
theorem yD {m:Int} (h:bB wr w.heap.size v 0 m sz) (hb:Below w.heap.size w wr) (hR:d_ w.heap.size w v len) (m0:0<=m) (m1:m<=18446744073709551615) (s0:0<=sz) (s1:sz<=12):Src w.heap.size w w.heap.size v len wr:=
 ⟨Ye _,Ye _,hb,h.lt,hR.below hb,0,m,sz,YJ _,m0,m1,s0,s1,h⟩
theorem mr(x:Int):0<=IntKind.u64.wrap x/\IntKind.u64.wrap x<=18446744073709551615:=by
 have e:IntKind.u64.wrap x=x % 18446744073709551616:=by simp[IntKind.wrap,IntKind.bits,IntKind.signed]
 rw[e];omega
theorem mD(v:Value) (len:Nat) (w:World) (hR:d_ w.heap.size w v len):
  Calls Tryz.prog 16 #[v] w (Laid w v len):=by
 have HR:Hid (d_ w.heap.size w v len):=hR;obtain⟨hl,a0,cap,rfl,hc⟩:=hR;go_enter Tryz.func16,Tryz.ntmps16;go_wp2;go_loopw [4] (λvi wr=> ∃(i:Nat) (m:Int),i<=len/\vi=V O (i:Int)/\0<=m/\m<=18446744073709551615/\bB wr w.heap.size (U a0 len cap) 0 m 0/\Below w.heap.size w wr) (λvi _=>len - (intOf vi).toNat);case atStart=>exact⟨0,88172645463325252,by omega,rfl,by decide,by decide,by unfold bB;show (w.heap.push _)[w.heap.size]?=_;simp,(Yh _ _).alloc (Ye _) _⟩
 case round=>
  obtain⟨i,m,hi,rfl,m0,m1,hb,hnx⟩:=hrel;obtain⟨c0,c1,c2,c3,f0,f1,f2,f3⟩:=hb.cells;have HB:Hid (bB wr w.heap.size (U a0 len cap) 0 m 0):=hb;have HX:Hid (Below w.heap.size w wr):=hnx;clear hb hnx;by_cases Zo:i<len
  ·by_cases h64:i<64
   ·obtain⟨b,off,z,rfl,hbB,hz,z0,z1⟩:=hc i Zo;have hz':wr.cell? ⟨b,off+i,J⟩=M (V .u8 z):=(HX.cell (p:=⟨b,off+i,J⟩) hbB).trans hz;clear hc hz;go_wp2;go_region;go_wp2;go_roundw;case rel=>exact⟨i+1,_,by omega,by go_num,(mr _).1,(mr _).2,HB.alQ _,(HX.setCell (Ye _) _).drew⟩
    case measure=>simp[intOf];omega
   ·exact ah5
  ·exact ah5
def oj(B:Nat) (w0:World) (p:Nat) (v:Value) (len:Nat) (w:World) (e:Ending) (w':World):Prop:=(e=Zh (Zf Zi)\/e=Zh (Zf Zg))/\Src B w0 p v len w'/\w.grownBy w' (M p)
theorem cJ {p:Nat} (h:Src B w0 p v len w) (of:Int) (hm2:of<=9223372036854775807):
  Calls Tryz.prog 18 #[Zm (M ⟨p,0,J⟩),V O of] w (oj B w0 p v len w):=by
 have HN:Hid (Calls Tryz.prog 19 #[Zm (M ⟨p,0,J⟩),V O of] w (ana B w0 p v len w of)):=h.n of hm2;clear h;go_enter Tryz.func18,Tryz.ntmps18;go_wp2_with fail;refine HN.mono ?_;rintro e w1 ⟨r,rfl,r0,r1,hS,hg⟩;have HS:Hid (Src B w0 p v len w1):=hS;have HG:Hid (w.grownBy w1 (M p)):=hg;clear hS hg;cases hr:(r==0);all_goals
  go_wp2
  go_ret
 ·exact⟨Zk rfl,HS.out,HG.out⟩
 ·exact⟨Zl rfl,HS.out,HG.out⟩
theorem cr(w:World) (o:Obj) (row:Option Nat):w.grownBy (w.alloc o) row:=⟨rfl,rfl,rfl,by simp,λk hk _=>Yj _ _ _ hk⟩
theorem pF {w2:World} {p:Nat} {row:Option Nat} (h:w.grownBy w1 (M p)) (hg:w1.grownBy w2 row) (hr:∀k,row=M k->w.heap.size<=k):w.grownBy w2 (M p):=
 ⟨hg.os.trans h.os,hg.tape.trans h.tape,hg.output.trans h.output,Yo h.size hg.size,λk hk ZE=>(hg.block k (Yl hk h.size) (λe=>by have:=hr k e.symm;omega)).trans (h.block k hk ZE)⟩
theorem Src.ay {p:Nat} {row:Option Nat} (h:Src B w0 p v len w) (hg:w.grownBy w' row) (hr:row≠M p) (hB:∀k,row=M k->B<=k):Src B w0 p v len w':=by
 obtain⟨h1,h2,h3,h4,h5,k,m,sz,h6,h7,h8,h9,h10,h11⟩:=h;have hb:Below B w w':=⟨hg.os,hg.tape,hg.output,hg.size,λk hk=>hg.block k (by have:=h3.size;omega) (λe=>by have:=hB k e.symm;omega)⟩;refine⟨h1,h2,h3.trans hb,Yl h4 hg.size,h5.below hb,k,m,sz,h6,h7,h8,h9,h10,?_⟩;unfold bB at h11 ⊢;rw[hg.block p h4 (λe=>hr e.symm)];exact h11
theorem Src.vt {p:Nat} (h:Src B w0 p v len w):p<w.heap.size:=h.2.2.2.1
namespace Dk
def aiP(B:Nat) (w0:World) (p:Nat) (v:Value) (len:Nat) (w:World) (e:Ending) (w':World):Prop:=∃x:Int,e=Zh (V O x)/\ -9223372036854775808<=x/\x<=9223372036854775807/\Src B w0 p v len w'/\w.grownBy w' (M p)
theorem ints_at(l:List Int) (ZL:∀x∈l,-9223372036854775808<=x/\x<=9223372036854775807) (k:Nat) (h:k<l.length):∃x:Int,(l.map (Value.int O))[k]?=M (V O x)/\ -9223372036854775808<=x/\x<=9223372036854775807:=
 ⟨l[k],by simp[h],ZL _ (List.getElem_mem h)⟩
def C5:List Int:=[0,1,1023,1024,2048,1048576,1048577,-1024]
theorem lA {p:Nat} (h:Src B w0 p v len w):
  Calls Tryz.prog 134 #[Zm (M ⟨p,0,J⟩)] w (aiP B w0 p v len w):=by
 have H1:Hid (Calls Tryz.prog 18 #[Zm (M ⟨p,0,J⟩),V O 6] w (oj B w0 p v len w)):=cJ h 6 ag;clear h;go_enter Tryz.func134,Tryz.ntmps134;have avA:=@G _ @VL;exact zg
def BA(B:Nat) (w0:World) (p:Nat) (v:Value) (len:Nat) (w:World) (n:Nat) (e:Ending) (w':World):Prop:=∃t:ByteArray,e=Zh (I t)/\t.size<=n/\Src B w0 p v len w'/\w.grownBy w' (M p)
theorem eE {p:Nat} (h:Src B w0 p v len w) (b n:Nat) (ss:List ByteArray) (T:TypeId) (hb:w.heap[b]?=M (Ze (ss.map Yn).toArray T (0,0))) (hbp:¬b=p) (hn:ss.length=n) (h0:0<n) (h1:n<=100) (hz:∀x∈ss,x.size<=100):
  Calls Tryz.prog 20 #[Zm (M ⟨p,0,J⟩),U (M ⟨b,0,J⟩) n n] w (BA B w0 p v len w 100):=by
 have HS:Hid (Src B w0 p v len w):=h;have HB:Hid (w.heap[b]?=M (Ze (ss.map Yn).toArray T (0,0))):=hb;have HZ:Hid (∀x∈ss,x.size<=100):=hz;clear h hb hz;go_enter Tryz.func20,Tryz.ntmps20;go_wp2_with fail;refine (HS.n n af).mono ?_;rintro e w1 ⟨r,rfl,r0,r1,hS1,hg1⟩;obtain⟨k,rfl⟩:=Int.eq_ofNat_of_zero_le r0;have hk:k<n:=af
 have aph:w1.heap[b]?=M (Ze (ss.map Yn).toArray T (0,0)):=by
  rw[hg1.block b (by
   rcases Nat.lt_or_ge b w.heap.size with h'|h'
   ·exact h'
   ·have:=HB.out;rw[Array.getElem?_eq_none h'] at this;cases this) (λe=>by simp at e;omega)]
  exact HB.out
 have hkl:k<ss.length:=af
 have hc:w1.cell? ⟨b,k,J⟩=M (I ss[k]):=by
  simp[YX,aph,hkl]
 have HX:Hid ((ss[k]).size<=100):=HZ.out _ (List.getElem_mem hkl);have HS1:Hid (Src B w0 p v len w1):=hS1;have HG1:Hid (w.grownBy w1 (M p)):=hg1;clear hS1 hg1 aph r1 r0;generalize ss[k]=x at hc HX;go_wp2;go_ret;exact⟨x,rfl,HX.out,HS1.out,HG1.out⟩
structure Dr (B:Nat) (w0:World) (p:Nat) (v:Value) (len:Nat) (wa w:World):Prop where
 src:Src B w0 p v len w
 gr:wa.grownBy w (M p)
 lt:p<wa.heap.size
theorem Dr.start {p:Nat} (h:Src B w0 p v len w):Dr B w0 p v len w w:=⟨h,⟨rfl,rfl,rfl,Ye _,λ_ _ _=>rfl⟩,h.vt⟩
theorem Dr.size {p:Nat} (h:Dr B w0 p v len wa w):wa.heap.size<=w.heap.size:=h.gr.size
theorem Dr.alloc {p:Nat} (h:Dr B w0 p v len wa w) (o:Obj):Dr B w0 p v len wa (w.alloc o):=
 ⟨h.src.ay (cr w o J) aF (λk hk=>by cases hk),bV h.gr (cr w o _),h.lt⟩
theorem Dr.set {p:Nat} (h:Dr B w0 p v len wa w) {b i:Nat} (x:Value) (hb:wa.heap.size<=b):Dr B w0 p v len wa (w.setCell ⟨b,i,J⟩ x):=by
 have hl:=h.lt;have hB:=h.src.1;refine⟨h.src.ay (bM w b i x) (λe=>by simp at e;omega) (λk hk=>by simp at hk;omega),?_,h.lt⟩;exact pF h.gr (bM w b i x) (λk hk=>by simp at hk;omega)
theorem Dr.next {p:Nat} (h:Dr B w0 p v len wa w) (hs:Src B w0 p v len w') (hg:w.grownBy w' (M p)):Dr B w0 p v len wa w':=⟨hs,bV h.gr hg,h.lt⟩
theorem Dr.below {p:Nat} (h:Dr B w0 p v len wa w) (hb:Below w.heap.size w w'):Dr B w0 p v len wa w':=
 ⟨h.src.ay (row:=J) ⟨hb.os,hb.tape,hb.output,hb.size,λk hk _=>hb.block k hk⟩ aF (λk hk=>by cases hk),bV h.gr ⟨hb.os,hb.tape,hb.output,hb.size,λk hk _=>hb.block k hk⟩,h.lt⟩
theorem gk {p:Nat} {o:Obj} (hg:w.grownBy w' (M p)) (hn:¬k=p) (h:w.heap[k]?=M o):w'.heap[k]?=M o:=
 (hg.block k (ae h) (λe=>hn (by simpa using e))).trans h
theorem cf {p:Nat} (h:Src B w0 p v len w) (ss:List ByteArray) (n b:Nat) (T:TypeId) (hq:b=w.heap.size) (hn:ss.length=n) (h0:0<n) (h1:n<=100) (hz:∀x∈ss,x.size<=100):
  Calls Tryz.prog 20 #[Zm (M ⟨p,0,J⟩),U (M ⟨b,0,J⟩) n n] (w.alloc (Ze (ss.map Yn).toArray T)) (BA B w0 p v len w 100):=by
 subst hq;have h2:Src B w0 p v len (w.alloc (Ze (ss.map Yn).toArray T)):=h.ay (cr w _ J) aF (λk hk=>by cases hk);refine (eE h2 w.heap.size n ss T Yf (by have:=h.vt;omega) hn h0 h1 hz).mono ?_;rintro e w' ⟨t,rfl,ht,hs,hg⟩;exact⟨t,rfl,ht,hs,bV (cr w _ _) hg⟩
theorem rH {p:Nat} (h:Src B w0 p v len w):
  Calls Tryz.prog 133 #[Zm (M ⟨p,0,J⟩)] w (BA B w0 p v len w 100):=by
 have HS:=G h;clear h;go_enter Tryz.func133,Tryz.ntmps133;go_wp2_with fail;refine (cf HS.out [⟨#[101,97,115,116]⟩,⟨#[119,101,115,116]⟩] 2 _ _ rfl rfl ag ag ag).mono ?_;exact QM
theorem ahc {p:Nat} (h:Src B w0 p v len w):
  Calls Tryz.prog 135 #[Zm (M ⟨p,0,J⟩)] w (BA B w0 p v len w 100):=by
 have HS:=G h;clear h;go_enter Tryz.func135,Tryz.ntmps135;go_wp2_with fail;refine (cf HS.out [⟨#[]⟩,⟨#[65]⟩,⟨#[49,50,51]⟩] 3 _ _ rfl rfl ag ag ag).mono ?_;exact QM
def am_(B:Nat) (w0:World) (p:Nat) (v:Value) (len:Nat) (w:World) (e:Ending) (w':World):Prop:=
 ∃n c k x u,e=Zh (Zj #[I n,V O c,I k,Zf x,I u])/\n.size<=100/\k.size<=100/\u.size<=100/\Dr B w0 p v len w w'
def am8(B:Nat) (w0:World) (p:Nat) (v:Value) (len:Nat) (w:World) (e:Ending) (w':World):Prop:=
 ∃n c z k x m y a l cp zs,e=Zh (Zj #[I n,V O c,I z,I k,Zf x,I m,Zf y,U a l cp])/\n.size<=100/\z.size<=100/\k.size<=100/\m.size<=100/\aw w' a l cp zs/\(zs=[]\/∃g,a=M (⟨g,0,J⟩:Addr)/\w.heap.size<=g)/\Dr B w0 p v len w w'
theorem qU(X:World) (o:Obj) (n:Nat) (h:X.heap.size=n):(X.alloc o).heap[n]?=M o:=by
 subst h;exact Yf
theorem ey(h:e=Zh (Zf Zi)\/e=Zh (Zf Zg)):∃b,e=Zh (Zf b):=by
 rcases h with h|h
 ·exact⟨Zi,h⟩
 ·exact⟨Zg,h⟩
theorem Cw {p:Nat} (h:Src B w0 p v len w):
  Calls Tryz.prog 79 #[Zm (M ⟨p,0,J⟩)] w (am_ B w0 p v len w):=by
 have HD0:=G ((Dr.start h).alloc (Ze #[I ⟨#[]⟩,V O 0,I ⟨#[]⟩,Zf Zg,I ⟨#[]⟩] 47));have HP:=G h.vt;have G0:Hid ((w.alloc (Ze #[I ⟨#[]⟩,V O 0,I ⟨#[]⟩,Zf Zg,I ⟨#[]⟩] 47)).heap[w.heap.size]?=M (Ze #[I ⟨#[]⟩,V O 0,I ⟨#[]⟩,Zf Zg,I ⟨#[]⟩] 47 (0,0))):=Yf;clear h;go_enter Tryz.func79,Tryz.ntmps79;go_wp2_with fail;refine (cf HD0.src [⟨#[99,49]⟩,⟨#[99,50]⟩,⟨#[99,51]⟩,⟨#[99,52]⟩] 4 _ _ aF rfl ag ag ag).mono ?_;have aty:=@G _ @Ww;exact qi
theorem Su {p:Nat} (h:Src B w0 p v len w):
  Calls Tryz.prog 77 #[Zm (M ⟨p,0,J⟩)] w (am8 B w0 p v len w):=by
 have HD0:=G ((Dr.start h).alloc (Ze #[I ⟨#[]⟩,V O 0,I ⟨#[]⟩,I ⟨#[]⟩,Zf Zg,I ⟨#[]⟩,Zf Zg,U J 0 0] 37));have HP:=G h.vt;have G0:Hid ((w.alloc (Ze #[I ⟨#[]⟩,V O 0,I ⟨#[]⟩,I ⟨#[]⟩,Zf Zg,I ⟨#[]⟩,Zf Zg,U J 0 0] 37)).heap[w.heap.size]?=M (Ze #[I ⟨#[]⟩,V O 0,I ⟨#[]⟩,I ⟨#[]⟩,Zf Zg,I ⟨#[]⟩,Zf Zg,U J 0 0] 37 (0,0))):=Yf;clear h;go_enter Tryz.func77,Tryz.ntmps77;go_wp2_with fail;refine (cf HD0.src [⟨#[100,49]⟩,⟨#[100,50]⟩,⟨#[100,51]⟩] 3 _ _ aF rfl ag ag ag).mono ?_;have aty:=@G _ @Wv;exact qi
theorem Src.drew {p:Nat} (h:Src B w0 p v len w):Src B w0 p v len w.drew:=
 h.ay (row:=J) ⟨rfl,rfl,rfl,Ye _,λ_ _ _=>rfl⟩ aF (λk hk=>by cases hk)
def als:List Int:=[-1,0,1000,1000000,1000001]
theorem xR {p:Nat} (h:Src B w0 p v len w):
  Calls Tryz.prog 137 #[Zm (M ⟨p,0,J⟩)] w (aiP B w0 p v len w):=by
 have H1:Hid (Calls Tryz.prog 18 #[Zm (M ⟨p,0,J⟩),V O 6] w (oj B w0 p v len w)):=cJ h 6 ag;clear h;go_enter Tryz.func137,Tryz.ntmps137;have avA:=@G _ @VK;exact zg
def PSt(B:Nat) (w0:World) (p:Nat) (v:Value) (len:Nat) (wa:World) (b m:Nat) (W:World):Prop:=
 ∃(n:ByteArray) (c:Int) (z:ByteArray) (lv:Value) (zs:List ByteArray) (d:ByteArray) (ph:Int),W.heap[b]?=M (Ze #[I n,V O c,I z,lv,I d,V O ph] 102 (0,0))/\(n.size<=100/\z.size<=100/\d.size<=100)/\zs.length<=m/\(∀(j:Nat) x,zs[j]?=M x->x.size<=100)/\
  W.ownsRow wa.heap.size 9 1 lv zs.length (zs.map Yn)/\Dr B w0 p v len wa W/\W.heap[wa.heap.size]?=M (Ze #[I ⟨#[]⟩,V O 0,I ⟨#[]⟩,U J 0 0,I ⟨#[]⟩,V O 0] 102 (0,0))/\wa.heap.size<b
theorem nT {lo n:Nat} {cur:Array Value} (h:W.ownsRow lo 9 1 lv n xs) (hb:W.heap[b]?=M (Ze cur 102 (0,0))):lv.ownBlock≠M b:=λe=>by
 rcases h.2 with ⟨rfl,_⟩|⟨g',cap,cu,rfl,_,hg',_⟩
 ·cases e
 ·simp[YK] at e;subst e;rw[hb] at hg';simp at hg'
theorem PSt.next {p:Nat} {W':World} (h:PSt B w0 p v len wa b m W) (hs:Src B w0 p v len W') (hg:W.grownBy W' (M p)):PSt B w0 p v len wa b m W':=by
 obtain⟨n,c,z,lv,zs,d,ph,h1,h2,h3,h4,h5,h6,h7,h8⟩:=h;have hp:=h6.lt;refine⟨n,c,z,lv,zs,d,ph,gk hg af h1,h2,h3,h4,h5.kept hg (Zk (λe=>by have:=(h5.lt _ e).1;omega)),h6.next hs hg,gk hg af h7,h8⟩
theorem PSt.set {p:Nat} (h:PSt B w0 p v len wa b m W):
  (∀x,PSt B w0 p v len wa b m (W.setCell ⟨b,1,J⟩ (V O x)))/\(∀s:ByteArray,s.size<=100->PSt B w0 p v len wa b m (W.setCell ⟨b,2,J⟩ (I s)))/\
  (∀s:ByteArray,s.size<=100->PSt B w0 p v len wa b m (W.setCell ⟨b,4,J⟩ (I s)))/\(∀x,PSt B w0 p v len wa b m (W.setCell ⟨b,5,J⟩ (V O x))):=by
 obtain⟨n,c,z,lv,zs,d,ph,h1,h2,h3,h4,h5,h6,h7,h8⟩:=h;have k5:∀i x,(W.setCell ⟨b,i,J⟩ x).ownsRow wa.heap.size 9 1 lv zs.length (zs.map Yn):=λi x=>h5.kept (bM W b i x) (Zk (nT h5 h1));have k6:∀i x,Dr B w0 p v len wa (W.setCell ⟨b,i,J⟩ x):=λi x=>h6.set x af;have k7:∀i x,(W.setCell ⟨b,i,J⟩ x).heap[wa.heap.size]?=M (Ze #[I ⟨#[]⟩,V O 0,I ⟨#[]⟩,U J 0 0,I ⟨#[]⟩,V O 0] 102 (0,0)):=λi x=>(Ya _ _ _ _ (show wa.heap.size≠b by omega)).trans h7;exact⟨λx=>⟨n,x,z,lv,zs,d,ph,an h1 _,h2,h3,h4,k5 _ _,k6 _ _,k7 _ _,h8⟩,λs hs=>⟨n,c,s,lv,zs,d,ph,an h1 _,⟨h2.1,hs,h2.2.2⟩,h3,h4,k5 _ _,k6 _ _,k7 _ _,h8⟩,
  λs hs=>⟨n,c,z,lv,zs,s,ph,an h1 _,⟨h2.1,h2.2.1,hs⟩,h3,h4,k5 _ _,k6 _ _,k7 _ _,h8⟩,λx=>⟨n,c,z,lv,zs,d,x,an h1 _,h2,h3,h4,k5 _ _,k6 _ _,k7 _ _,h8⟩⟩
theorem PSt.lay {p:Nat} (h:PSt B w0 p v len wa b m W) (ss:List ByteArray) (hl:ss.length<=m) (hl2:ss.length<=2) (hs:∀x∈ss,x.size<=100) (k:Nat) (hk:ss.length=k):
  PSt B w0 p v len wa b m ((W.setCell ⟨b,3,J⟩ (U (M ⟨W.heap.size,0,J⟩) k k)).alloc (Ze (ss.map Yn).toArray 9)):=by
 obtain⟨n,c,z,lv,zs,d,ph,h1,h2,h3,h4,h5,h6,h7,h8⟩:=h;subst hk;have δ:=ae h1;have Zq:(W.setCell ⟨b,3,J⟩ (U (M ⟨W.heap.size,0,J⟩) ss.length ss.length)).heap.size=W.heap.size:=oR
 refine⟨n,c,z,U (M ⟨W.heap.size,0,J⟩) ss.length ss.length,ss,d,ph,(Yj _ _ _ (by rw[Zq];exact δ)).trans (an h1 _),h2,hl,λj x hx=>hs x (Yv hx),?_,(h6.set _ af).alloc _,(Yj _ _ _ (by rw[Zq];omega)).trans ((Ya _ _ _ _ (show wa.heap.size≠b by omega)).trans h7),h8⟩;refine⟨by simp,Zk ⟨W.heap.size,ss.length,(ss.map Yn).toArray,rfl,h6.size,qU _ _ _ Zq,Ye _,by unfold maxLen;omega,by simp,by simp;exact YB aF⟩⟩
theorem PSt.up {p:Nat} {m':Nat} (h:PSt B w0 p v len wa b m W) (hm:m<=m'):PSt B w0 p v len wa b m' W:=by
 obtain⟨n,c,z,lv,zs,d,ph,h1,h2,h3,h⟩:=h;exact⟨n,c,z,lv,zs,d,ph,h1,h2,by omega,h⟩
theorem ale {lo:Nat} (h5:W.ownsRow lo 9 1 lv zs.length (zs.map Yn)) (h4:∀(j:Nat) x,zs[j]?=M x->x.size<=100):∃a l cp,lv=U a l cp/\aw W a l cp zs/\(a=J->cp=0):=by
 rcases h5.2 with ⟨rfl,h0⟩|⟨g,cap,cu,rfl,hb,hg,hn,hc,hs,ht⟩
 ·have:zs=[]:=YO h0;subst this;exact⟨J,0,0,rfl,⟨rfl,Ye _,by omega,λj x hx=>by simp at hx,Zl rfl⟩,λ_=>rfl⟩
 ·refine⟨_,_,_,rfl,⟨by simp,hn,by unfold maxLen at hc;omega,λj x hx=>by have:=h4 j x hx;omega,Zk ⟨g,0,rfl,ae hg,λj x hx=>?_⟩⟩,λe=>by cases e⟩;have hj:j<zs.length:=(Yc.1 hx).1;have e1:(cu.toList.take (zs.length*1))[j]?=(zs.map Yn)[j]?:=by rw[ht]
  rw[YC,if_pos af,Yt,hx] at e1;rw[al hg,Yp,<-Array.getElem?_toList];exact e1
theorem lI {o:Oper} {a:Act} (hgd:o.guard=J) (s x:Operand) (t:TypeId)
  (ho:o.op=.call { callee:=.builtin .append,args:=#[s,x],argTypes:=#[t,t] })
  (base:Nat) (e:TypeId) (i:TypeInfo) (z:Value) (size bytes:Nat) (ht:P.underlying t=M (.slice e)) (hi:P.info? e=M i) (hz:i.zero=M z)
  (Υ:i.size=size) (hby:i.bytes=bytes) (hzs:z.cells.size=size) (Zq:0<size)
  (v:Value) (n:Nat) (xs:List Value) (hs:a.eval s=v) (ζ:w.ownsRow base e size v n xs)
  (ad:Addr) (m c:Nat) (news:List Value) (hx:a.eval x=U (M ad) m c) (hl:news.length=m*size) (Φ:∀j u,news[j]?=M u->w.cell? (ad.add j)=M u) (h1:∀u∈news,u.oneCell'=Zi)
  (h63:n+m<=maxLen) (an6:(n+m)*bytes<=140737488355328) (aoJ:base<=w.heap.size)
  (h:∀v' w',w'.ownsRow base e size v' (n+m) (xs++news)->w.grownBy w' v.ownBlock->(v'=U J 0 0↔v=U J 0 0/\m=0)->K (a.put o.dst v') w'):
  if YR o (yielded ops a.tmps)=Zi then Oper.wp P o a w K Q else E:=by
 have hw:YR o (yielded ops a.tmps)=Zi:=by simp[YR,hgd]
 rw[if_pos hw];exact wp_append_own w s x t ho base e i z size bytes ht hi hz Υ hby hzs Zq v n xs hs ζ ad m c news hx hl Φ h1 h63 an6 aoJ h
theorem alf {lo n:Nat} (h:W.ownsRow lo T m v n xs):∃a l c,v=U a l c:=by
 rcases h.2 with ⟨rfl,_⟩|⟨g,cap,cu,rfl,_⟩
 ·exact⟨_,_,_,rfl⟩
 ·exact⟨_,_,_,rfl⟩
theorem Dr.alq {p:Nat} {row:Option Nat} (h:Dr B w0 p v len wa w) (hg:w.grownBy w' row) (hr:∀k,row=M k->wa.heap.size<=k):Dr B w0 p v len wa w':=by
 have hp:=h.lt;have hB:=h.src.1;refine⟨h.src.ay hg (λe=>by have:=hr p e;omega) (λk e=>by have:=hr k e;omega),⟨hg.os.trans h.gr.os,hg.tape.trans h.gr.tape,hg.output.trans h.gr.output,Yo h.gr.size hg.size,λi hi ZE=>?_⟩,h.lt⟩;exact (hg.block i (Yl hi h.gr.size) (λe=>by have:=hr i e.symm;omega)).trans (h.gr.block i hi ZE)
theorem BG {o:Oper} {a:Act} (hgd:o.guard=J) (f:FuncId) (args:Array Operand) (ts:Array TypeId) {fn:Func} {cd:Code} (hf:P.funcs[f]?=M fn) (axh:(fn.name== "runtime.NumGoroutine")=Zg) (hb:fn.body=M cd)
  (ho:o.op=.call { callee:=.value (.func f),args:=args,argTypes:=ts }) (vs:Array Value) (hv:args.map a.eval=vs) {R:Ending->World->Prop} (h:Calls P f vs w R)
  (hR:∀e w',R e w'->∃v,e=Zh v/\K (a.put o.dst v) w'):
  if YR o (yielded ops a.tmps)=Zi then Oper.wp P o a w K Q else E:=by
 have hw:YR o (yielded ops a.tmps)=Zi:=by simp[YR,hgd]
 rw[if_pos hw];subst hv;unfold Oper.wp;have aoQ:(execOp a.eval o).run P w=.ok (.enter f (args.map a.eval)) w:=by
  have h1:¬fn.name= "runtime.NumGoroutine":=by simpa using axh
  simp[execOp,ho,resolve,invoke,Act.eval,Deferred.ofValue,callFunc,hf,h1,hb,Result.andThen]
 rw[aoQ,Oper.upon_enter];refine h.mono λe w' hr=>?_;obtain⟨v,rfl,hk⟩:=hR e w' hr;exact hk
theorem agR {lo:Nat} (h5:W.ownsRow lo 9 1 lv zs.length (zs.map Yn)) (h4:∀(j:Nat) x,zs[j]?=M x->x.size<=100):∃a l cp,lv=U a l cp/\aw W a l cp zs/\(a=J->cp=0)/\(zs=[]\/∃g,a=M ⟨g,0,J⟩/\lo<=g):=by
 obtain⟨a,l,cp,rfl,h1,h2⟩:=ale h5 h4;refine⟨a,l,cp,rfl,h1,h2,?_⟩;rcases h5.2 with ⟨e,h0⟩|⟨g,cap,cu,e,hb,_⟩
 ·exact Zl (YO h0)
 ·injection e with e1 e2 e3;exact Zk ⟨g,e1,hb⟩
def am9(B:Nat) (w0:World) (p:Nat) (v:Value) (len:Nat) (w:World) (e:Ending) (w':World):Prop:=
 ∃n c z a l cp zs d ph,e=Zh (Zj #[I n,V O c,I z,U a l cp,I d,V O ph])/\n.size<=100/\z.size<=100/\d.size<=100/\aw w' a l cp zs/\(a=J->cp=0)/\(zs=[]\/∃g,a=M ⟨g,0,J⟩/\w.heap.size<=g)/\zs.length<=4/\(∀(j:Nat) x,zs[j]?=M x->x.size<=100)/\Dr B w0 p v len w w'
theorem PSt.src {p:Nat} (h:PSt B w0 p v len wa b m W):Src B w0 p v len W:=by
 obtain⟨_,_,_,_,_,_,_,_,_,_,_,_,h,_⟩:=h;exact h.src
theorem PSt.lt {p:Nat} (h:PSt B w0 p v len wa b m W):b<W.heap.size:=by
 obtain⟨_,_,_,_,_,_,_,h,_⟩:=h;exact ae h
theorem agL {p:Nat} (h:Src B w0 p v len w):
  Calls Tryz.prog 81 #[Zm (M ⟨p,0,J⟩)] w (am9 B w0 p v len w):=by
 have HD0:=G ((Dr.start h).alloc (Ze #[I ⟨#[]⟩,V O 0,I ⟨#[]⟩,U J 0 0,I ⟨#[]⟩,V O 0] 102));have HP:=G h.vt;have G0:Hid ((w.alloc (Ze #[I ⟨#[]⟩,V O 0,I ⟨#[]⟩,U J 0 0,I ⟨#[]⟩,V O 0] 102)).heap[w.heap.size]?=M (Ze #[I ⟨#[]⟩,V O 0,I ⟨#[]⟩,U J 0 0,I ⟨#[]⟩,V O 0] 102 (0,0))):=Yf;clear h;go_enter Tryz.func81,Tryz.ntmps81;go_wp2_with fail;refine (cf HD0.src [⟨#[112,49]⟩,⟨#[112,50]⟩,⟨#[112,51]⟩,⟨#[112,52]⟩] 4 _ _ aF rfl ag ag ag).mono ?_;have aty:=@G _ @Wu;exact qi
end Dk
namespace Rc
def lG(w:World) (p:Nat):Prop:=∀(i:Nat) (t:ByteArray),w.cell? ⟨p,i,J⟩≠M (I t)
theorem cell_kept(hb:aJ S w w') {b o:Nat} (h:b<w.heap.size) (hs:¬S b):w'.cell? ⟨b,o,J⟩=w.cell? ⟨b,o,J⟩:=by
 simp[YX,hb.block b h hs]
theorem aw.bN {p:Nat} (h:aw w a len cap zs) (hn:lG w p) (hb:aJ (λk=>k=p) w w'):aw w' a len cap zs:=by
 obtain⟨h1,h2,h3,h4,h5⟩:=h;refine⟨h1,h2,h3,h4,?_⟩;rcases h5 with h5|⟨b,o,rfl,hl,hc⟩
 ·exact Zl h5
 ·by_cases hz:zs=[]
  ·exact Zl hz
  refine Zk ⟨b,o,rfl,Yl hl hb.size,λj x hx=>?_⟩;have hbp:¬b=p:=λe=>by
   subst e;exact hn _ _ (hc j x hx)
  exact (cell_kept hb hl hbp).trans (hc j x hx)
theorem Fv.Is.bN {p:Nat} {f:Fv} (h:f.Is w v) (hn:lG w p) (hb:aJ (λk=>k=p) w w'):f.Is w' v:=by
 cases f with
 | l zs=>obtain⟨a,len,cap,h1,h2⟩:=h;exact⟨a,len,cap,h1,aw.bN h2 hn hb⟩
 | _=>exact h
def Sc(rs:List (List Fv)):Prop:=∀(j:Nat) r,rs[j]?=M r->∃t,r[0]?=M (.s t)
theorem aV.bN {p:Nat} {rs:List (List Fv)} (h:aV w a len cap m rs) (hr:Sc rs) (hn:lG w p) (hb:aJ (λk=>k=p) w w'):aV w' a len cap m rs:=by
 obtain⟨h1,h2,h3,h5⟩:=h;refine⟨h1,h2,h3,?_⟩;rcases h5 with h5|⟨b,o,rfl,hl,hc⟩
 ·exact Zl h5
 refine Zk ⟨b,o,rfl,Yl hl hb.size,λj r hj=>?_⟩;obtain⟨t,ht⟩:=hr j r hj;have hbp:¬b=p:=λe=>by
  subst e;obtain⟨v,e1,e2⟩:=hc j r hj 0 _ ht;obtain⟨rfl,_⟩:=e2;exact hn _ _ e1
 intro i f hi;obtain⟨v,e1,e2⟩:=hc j r hj i f hi;exact⟨v,(cell_kept hb hl hbp).trans e1,e2.bN hn hb⟩
theorem cD {F:α->List Fv} (h:∀x,∃t,(F x)[0]?=M (.s t)) (xs:List α):Sc (xs.map F):=by
 exact P3
theorem aA.bN {p:Nat} (h:aA w d c.raw) (hn:lG w p) (hb:aJ (λk=>k=p) w w'):aA w' d c.raw:=
 ⟨h.n.bN (cD (λx=>⟨x.n,rfl⟩) c.ns) hn hb,h.k.bN (cD (λx=>⟨x.n,rfl⟩) c.ks) hn hb,h.v.bN (cD (λx=>⟨x.n,rfl⟩) c.vs) hn hb,h.x.bN (cD (λx=>⟨x.n,rfl⟩) c.xs) hn hb,h.p.bN (cD (λx=>⟨x.n,rfl⟩) c.ps) hn hb⟩
def Ak(w:World) (v v':Value):Prop:=v'=v\/((∃t,v=I t)/\∃t:ByteArray,v'=I t/\t.size<=9223372036854775807)\/((∃n,v=V O n)/\∃n,v'=V O n)\/((∃x,v=Zf x)/\∃x,v'=Zf x)\/
 ((∃a l c,v=U a l c)/\∃a l c zs,v'=U a l c/\aw w a l c zs)
structure Kin (w w':World):Prop where
 size:w.heap.size<=w'.heap.size
 cell:∀b i v,b<w.heap.size->w.cell? ⟨b,i,J⟩=M v->∃v',w'.cell? ⟨b,i,J⟩=M v'/\Ak w' v v'
theorem iQ(P:Nat->α->Prop):∀n:Nat,(∀j,j<n->∃x,P j x)->∃l:List α,l.length=n/\∀(j:Nat) x,l[j]?=M x->P j x
 | 0,_=>⟨[],rfl,λj x h=>by cases h⟩
 | n+1,h=>by
  obtain⟨l,h1,h2⟩:=iQ P n (λj hj=>h j af);obtain⟨y,hy⟩:=h n af;refine⟨l++[y],by simp[h1],λj x hj=>?_⟩;by_cases e:j<n
  ·rw[Yu af] at hj;exact h2 j x hj
  ·rw[List.getElem?_append_right af] at hj;have e2:j - l.length=0:=by
    have:=(Yc.1 hj).1;simp at this;omega
   rw[e2] at hj;obtain rfl:y=x:=by simpa using hj
   obtain rfl:j=n:=af
   exact hy
theorem aw.Cc(h:aw w a len cap zs) (hk:Kin w w'):∃ZB,ZB.length=zs.length/\aw w' a len cap ZB:=by
 obtain⟨h1,h2,h3,h4,h5⟩:=h;rcases h5 with rfl|⟨b,o,rfl,hl,hc⟩
 ·exact⟨[],rfl,h1,h2,h3,λj x h=>bJ,Zl rfl⟩
 obtain⟨l,e1,e2⟩:=iQ (λj (t:ByteArray)=>w'.cell? ⟨b,o+j,J⟩=M (I t)/\t.size<=9223372036854775807) zs.length (λj hj=>by
  have hz:zs[j]?=M zs[j]:=Yi hj;obtain⟨v',g1,g2⟩:=hk.cell b (o+j) _ hl (hc j _ hz)
  rcases g2 with rfl|⟨_,t,rfl,ht⟩|⟨⟨_,g⟩,_⟩|⟨⟨_,g⟩,_⟩|⟨⟨_,_,_,g⟩,_⟩
  ·exact⟨_,g1,h4 j _ hz⟩
  ·exact⟨t,g1,ht⟩
  ·cases g
  ·cases g
  ·cases g)
 exact⟨l,e1,e1.trans h1,h2,h3,λj x hj=>(e2 j x hj).2,Zk ⟨b,o,rfl,Yl hl hk.size,λj x hj=>(e2 j x hj).1⟩⟩
def Fv.qW:Fv->Fv->Prop
 | .s _,.s _=>True
 | .i _,.i _=>True
 | .b _,.b _=>True
 | .l _,.l _=>True
 | _,_=>False
theorem Fv.Is.Cc {f:Fv} (h:f.Is w v) (hk:Kin w w') (ha:Ak w' v v'):∃f',Fv.qW f f'/\f'.Is w' v':=by
 cases f with
 | s t=>
  obtain⟨rfl,ht⟩:=h
  rcases ha with rfl|⟨_,t,rfl,ht⟩|⟨⟨_,g⟩,_⟩|⟨⟨_,g⟩,_⟩|⟨⟨_,_,_,g⟩,_⟩
  ·exact⟨.s t,trivial,rfl,ht⟩
  ·exact⟨.s t,trivial,rfl,ht⟩
  all_goals cases g
 | i n=>
  obtain rfl:=h
  rcases ha with rfl|⟨⟨_,g⟩,_⟩|⟨_,n,rfl⟩|⟨⟨_,g⟩,_⟩|⟨⟨_,_,_,g⟩,_⟩
  ·exact⟨.i n,trivial,rfl⟩
  ·cases g
  ·exact⟨.i n,trivial,rfl⟩
  all_goals cases g
 | b x=>
  obtain rfl:=h
  rcases ha with rfl|⟨⟨_,g⟩,_⟩|⟨⟨_,g⟩,_⟩|⟨_,x,rfl⟩|⟨⟨_,_,_,g⟩,_⟩
  ·exact⟨.b x,trivial,rfl⟩
  ·cases g
  ·cases g
  ·exact⟨.b x,trivial,rfl⟩
  ·cases g
 | l zs=>
  obtain⟨a,len,cap,rfl,ht⟩:=h
  rcases ha with rfl|⟨⟨_,g⟩,_⟩|⟨⟨_,g⟩,_⟩|⟨⟨_,g⟩,_⟩|⟨_,a,l,c,zs,rfl,ht⟩
  ·obtain⟨ZB,_,h2⟩:=aw.Cc ht hk;exact⟨.l ZB,trivial,_,_,_,rfl,h2⟩
  ·cases g
  ·cases g
  ·cases g
  ·exact⟨.l zs,trivial,_,_,_,rfl,ht⟩
def gV(r r':List Fv):Prop:=r'.length=r.length/\∀(i:Nat) f f',r[i]?=M f->r'[i]?=M f'->Fv.qW f f'
theorem RAt.Cc {o:Nat} {r:List Fv} (h:RAt w b o r) (hl:b<w.heap.size) (hk:Kin w w'):∃r',gV r r'/\RAt w' b o r':=by
 obtain⟨l,e1,e2⟩:=iQ (λi (f':Fv)=>(∀f,r[i]?=M f->Fv.qW f f')/\∃v',w'.cell? ⟨b,o+i,J⟩=M v'/\f'.Is w' v') r.length (λi hi=>by
  have hr:r[i]?=M r[i]:=Yi hi;obtain⟨v,g1,g2⟩:=h i _ hr;obtain⟨v',g3,g4⟩:=hk.cell b (o+i) _ hl g1;obtain⟨f',g5,g6⟩:=g2.Cc hk g4
  exact⟨f',λf hf=>by rw[hr] at hf;obtain rfl:=Yd hf;exact g5,v',g3,g6⟩)
 exact⟨l,⟨e1,λi f f' hf hf'=>(e2 i f' hf').1 f hf⟩,λi f hi=>(e2 i f hi).2⟩
theorem aV.Cc {rs:List (List Fv)} (h:aV w a len cap m rs) (hk:Kin w w'):∃rs',rs'.length=rs.length/\(∀(j:Nat) r r',rs[j]?=M r->rs'[j]?=M r'->gV r r')/\aV w' a len cap m rs':=by
 obtain⟨h1,h2,h3,h5⟩:=h;rcases h5 with rfl|⟨b,o,rfl,hl,hc⟩
 ·exact⟨[],rfl,λ_ _ _ h=>bJ,h1,h2,h3,Zl rfl⟩
 obtain⟨l,e1,e2⟩:=iQ (λj (r':List Fv)=>(∀r,rs[j]?=M r->gV r r')/\RAt w' b (o+j*m) r') rs.length (λj hj=>by
  have hr:rs[j]?=M rs[j]:=Yi hj;obtain⟨r',g1,g2⟩:=(hc j _ hr).Cc hl hk
  exact⟨r',λr h=>by rw[hr] at h;obtain rfl:=Yd h;exact g1,g2⟩)
 exact⟨l,e1,λj r r' hr hr'=>(e2 j r' hr').1 r hr,e1.trans h1,h2,h3,Zk ⟨b,o,rfl,Yl hl hk.size,λj r hj=>(e2 j r hj).2⟩⟩
theorem kW {F:α->List Fv} (hF:∀x r',gV (F x) r'->∃y,r'=F y):∀(xs:List α) (rs':List (List Fv)),rs'.length=(xs.map F).length->(∀(j:Nat) r r',(xs.map F)[j]?=M r->rs'[j]?=M r'->gV r r')->∃ys:List α,ys.length=xs.length/\rs'=ys.map F
 | [],rs',h,_=>⟨[],rfl,by simpa using h⟩
 | x ::xs,[],h,_=>by simp at h
 | x ::xs,r' ::rs',h,hl=>by
  obtain⟨y,rfl⟩:=hF x r' (hl 0 _ _ rfl rfl);obtain⟨ys,h1,rfl⟩:=kW hF xs rs' j_ (λj r q h1 h2=>hl (j+1) r q h1 h2);exact⟨y ::ys,by simp[h1],rfl⟩
theorem dX {f:Fv} (h:Fv.qW (.s t) f):∃x,f=.s x:=by cases f <;> first|exact⟨_,rfl⟩|exact h.elim
theorem ji {n:Int} {f:Fv} (h:Fv.qW (.i n) f):∃x,f=.i x:=by cases f <;> first|exact⟨_,rfl⟩|exact h.elim
theorem kY {b:Bool} {f:Fv} (h:Fv.qW (.b b) f):∃x,f=.b x:=by cases f <;> first|exact⟨_,rfl⟩|exact h.elim
theorem xP {f:Fv} (h:Fv.qW (.l zs) f):∃x,f=.l x:=by cases f <;> first|exact⟨_,rfl⟩|exact h.elim
theorem agV(x:Nd) (r':List Fv) (h:gV (ndF x) r'):∃y,r'=ndF y:=by
 obtain⟨h1,h2⟩:=h;match r',h1 with
 | [f0,f1,f2,f3,f4,f5,f6],_=>
  obtain⟨a,rfl⟩:=dX (h2 0 _ _ rfl rfl);obtain⟨b,rfl⟩:=dX (h2 1 _ _ rfl rfl);obtain⟨c,rfl⟩:=ji (h2 2 _ _ rfl rfl);obtain⟨d,rfl⟩:=ji (h2 3 _ _ rfl rfl);obtain⟨e,rfl⟩:=ji (h2 4 _ _ rfl rfl);obtain⟨f,rfl⟩:=kY (h2 5 _ _ rfl rfl);obtain⟨g,rfl⟩:=xP (h2 6 _ _ rfl rfl);exact⟨⟨a,b,c,d,e,f,g⟩,rfl⟩
theorem agZ(x:Kd) (r':List Fv) (h:gV (kdF x) r'):∃y,r'=kdF y:=by
 obtain⟨h1,h2⟩:=h;match r',h1 with
 | [f0,f1,f2,f3],_=>
  obtain⟨a,rfl⟩:=dX (h2 0 _ _ rfl rfl);obtain⟨b,rfl⟩:=kY (h2 1 _ _ rfl rfl);obtain⟨c,rfl⟩:=kY (h2 2 _ _ rfl rfl);obtain⟨d,rfl⟩:=dX (h2 3 _ _ rfl rfl);exact⟨⟨a,b,c,d⟩,rfl⟩
theorem Sv(x:Vd) (r':List Fv) (h:gV (vdF x) r'):∃y,r'=vdF y:=by
 obtain⟨h1,h2⟩:=h;match r',h1 with
 | [f0,f1,f2,f3,f4,f5,f6,f7],_=>
  obtain⟨a,rfl⟩:=dX (h2 0 _ _ rfl rfl);obtain⟨b,rfl⟩:=ji (h2 1 _ _ rfl rfl);obtain⟨c,rfl⟩:=dX (h2 2 _ _ rfl rfl);obtain⟨d,rfl⟩:=dX (h2 3 _ _ rfl rfl);obtain⟨e,rfl⟩:=kY (h2 4 _ _ rfl rfl);obtain⟨f,rfl⟩:=dX (h2 5 _ _ rfl rfl);obtain⟨g,rfl⟩:=kY (h2 6 _ _ rfl rfl);obtain⟨i,rfl⟩:=xP (h2 7 _ _ rfl rfl);exact⟨⟨a,b,c,d,e,f,g,i⟩,rfl⟩
theorem Sq(x:Xd) (r':List Fv) (h:gV (xdF x) r'):∃y,r'=xdF y:=by
 obtain⟨h1,h2⟩:=h;match r',h1 with
 | [f0,f1,f2,f3,f4],_=>
  obtain⟨a,rfl⟩:=dX (h2 0 _ _ rfl rfl);obtain⟨b,rfl⟩:=ji (h2 1 _ _ rfl rfl);obtain⟨c,rfl⟩:=dX (h2 2 _ _ rfl rfl);obtain⟨d,rfl⟩:=kY (h2 3 _ _ rfl rfl);obtain⟨e,rfl⟩:=dX (h2 4 _ _ rfl rfl);exact⟨⟨a,b,c,d,e⟩,rfl⟩
theorem agP(x:Pd) (r':List Fv) (h:gV (pdF x) r'):∃y,r'=pdF y:=by
 obtain⟨h1,h2⟩:=h;match r',h1 with
 | [f0,f1,f2,f3,f4,f5],_=>
  obtain⟨a,rfl⟩:=dX (h2 0 _ _ rfl rfl);obtain⟨b,rfl⟩:=ji (h2 1 _ _ rfl rfl);obtain⟨c,rfl⟩:=dX (h2 2 _ _ rfl rfl);obtain⟨d,rfl⟩:=xP (h2 3 _ _ rfl rfl);obtain⟨e,rfl⟩:=dX (h2 4 _ _ rfl rfl);obtain⟨f,rfl⟩:=ji (h2 5 _ _ rfl rfl);exact⟨⟨a,b,c,d,e,f⟩,rfl⟩
def Ld(c c':Cl):Prop:=c'.ns.length=c.ns.length/\c'.ks.length=c.ks.length/\c'.vs.length=c.vs.length/\c'.xs.length=c.xs.length/\c'.ps.length=c.ps.length/\c'.now=c.now
theorem aA.Cc(h:aA w d c.raw) (hk:Kin w w'):∃c':Cl,Ld c c'/\aA w' d c'.raw:=by
 obtain⟨r1,a1,b1,e1⟩:=h.n.Cc hk;obtain⟨r2,a2,b2,e2⟩:=h.k.Cc hk;obtain⟨r3,a3,b3,e3⟩:=h.v.Cc hk;obtain⟨r4,a4,b4,e4⟩:=h.x.Cc hk;obtain⟨r5,a5,b5,e5⟩:=h.p.Cc hk;exact ah9
theorem UF.draw {p:Nat} (h:UF w g) (hs:Src B w0 p v len w') (hg:w.grownBy w' (M p)):UF w' g:=by
 obtain⟨cs,T,h⟩:=h;by_cases e:g=p
 ·subst e;obtain⟨_,_,_,_,_,k,m,sz,_,_,_,_,_,hb⟩:=hs;exact⟨_,_,hb⟩
 ·exact⟨cs,T,gk hg e h⟩
theorem aS {p:Nat} (h:w.grownBy w' (M p)):aJ (λk=>k=p) w w':=⟨h.os,h.tape,h.output,h.size,λk hk hn=>h.block k hk (λe=>hn (Yd e))⟩
theorem bO {p:Nat} (h:Src B w0 p v len w):lG w p:=by
 obtain⟨_,_,_,_,⟨_,a0,cap,rfl,_⟩,k,m,sz,_,_,_,_,_,hb⟩:=h;intro i t e;rw[al hb i] at e;rcases i with _|_|_|_|i <;> simp at e
theorem cE {now:Int} (h:w.heap[b]?=M (Ze #[U d.a1 d.l1 d.c1,U d.a2 d.l2 d.c2,U d.a3 d.l3 d.c3,U d.a4 d.l4 d.c4,U d.a5 d.l5 d.c5,V O now] T (0,0))):lG w b:=by
 intro i t e;rw[al h i] at e;rcases i with _|_|_|_|_|_|i <;> simp at e
theorem v_(h:w.cell? ⟨b,i,J⟩=M v):(w.setCell ⟨b,i,J⟩ v').cell? ⟨b,i,J⟩=M v':=by
 cases hg:w.heap[b]? with
 | none=>simp[YX,hg] at h
 | some o=>
  cases o with
  | cells cs t fr=>
   have:=an (i:=i) hg v'
   simp[YX,hg] at h
   simp only[YX,this];have hi:i<cs.size:=(YA.1 h).1
   simp[hi]
  | _=>simp[YX,hg] at h
theorem gI(h:¬(k=b/\j=i)):(w.setCell ⟨b,i,J⟩ v).cell? ⟨k,j,J⟩=w.cell? ⟨k,j,J⟩:=by
 by_cases e:k=b
 ·subst e;exact vY (λe=>h ⟨rfl,e.symm⟩)
 ·simp[YX,Ya w ⟨b,i,J⟩ v k e]
theorem aw.set(hc:w.cell? ⟨b,i,J⟩=M v) (hv:∀t,v≠I t) {a:Option Addr} {len cap:Nat} {zs:List ByteArray} (h:aw w a len cap zs):aw (w.setCell ⟨b,i,J⟩ v') a len cap zs:=by
 obtain⟨h1,h2,h3,h4,h5⟩:=h;refine⟨h1,h2,h3,h4,?_⟩;rcases h5 with h5|⟨k,o,rfl,hl,hx⟩
 ·exact Zl h5
 refine Zk ⟨k,o,rfl,by simpa[YV] using hl,λj x hj=>(gI (λe=>?_)).trans (hx j x hj)⟩;obtain⟨rfl,e2⟩:=e;have:=hx j x hj;rw[e2,hc] at this;exact hv _ (Yd this)
theorem Kin.set(hc:w.cell? ⟨b,i,J⟩=M v) (ha:Ak (w.setCell ⟨b,i,J⟩ v') v v'):Kin w (w.setCell ⟨b,i,J⟩ v'):=by
 refine⟨by simp[YV],λk j u hk hu=>?_⟩;by_cases e:k=b/\j=i
 ·obtain⟨rfl,rfl⟩:=e;rw[hc] at hu;obtain rfl:=Yd hu;exact⟨v',v_ hc,ha⟩
 ·exact⟨u,(gI e).trans hu,Zl rfl⟩
theorem cC {p:Nat} (h:Src B w0 p v len w):Src B w0 p v len w.drew:=h.ay (row:=J) ⟨rfl,rfl,rfl,Ye _,λ_ _ _=>rfl⟩ (by simp) (λk hk=>by cases hk)
theorem ba(w:World):Below w.heap.size w w.drew:=⟨rfl,rfl,rfl,Ye _,λ_ _=>rfl⟩
theorem ky {p:Nat} (h:Dr B w0 p v len wa w):Dr B w0 p v len wa w.drew:=h.below (ba _)
structure iW (B:Nat) (w0:World) (p:Nat) (v:Value) (len:Nat) (X b:Nat) (c:Cl) (w w':World) (d:Ad) (c':Cl):Prop where
 blk:w'.heap[b]?=M (Ze (Zs d c'.now) 29 (0,0))
 row:aA w' d c'.raw
 low:Low X w' d
 src:Src B w0 p v len w'
 kept:aJ (λk=>k=p\/X<=k) w w'
 ld:c'.ps.length=c.ps.length
section
variable {B:Nat} {w0:World} {p:Nat} {v:Value} {len X b:Nat} {c:Cl} {w w1 w2:World} {d:Ad} {c':Cl}
theorem iW.draw(h:iW B w0 p v len X b c w w1 d c') (hbp:¬b=p) (hs:Src B w0 p v len w2) (hg:w1.grownBy w2 (M p)):iW B w0 p v len X b c w w2 d c':=
 ⟨gk hg hbp h.blk,h.row.bN (bO h.src) (aS hg),h.low.to (Ye _) (λ_ u=>u.draw hs hg),hs,h.kept.trans ((aS hg).mono λ_ e=>Zl e),h.ld⟩
theorem iW.alloc(h:iW B w0 p v len X b c w w1 d c') (o:Obj):iW B w0 p v len X b c w (w1.alloc o) d c':=
 ⟨(Yj _ _ _ (ae h.blk)).trans h.blk,h.row.below (aj _ _),h.low.to (Ye _) (λ_ u=>u.below (aj _ _)),h.src.ay (cr _ _ J) aF aF,h.kept.below (aj _ _),h.ld⟩
theorem iW.set(h:iW B w0 p v len X b c w w1 d c') (hX:B<=X) {g i:Nat} {u u':Value} (hc:w1.cell? ⟨g,i,J⟩=M u) (ha:Ak (w1.setCell ⟨g,i,J⟩ u') u u') (hg:X<=g) (Δ:¬g=b) (hgp:¬g=p):∃c2:Cl,iW B w0 p v len X b c w (w1.setCell ⟨g,i,J⟩ u') d c2:=by
 obtain⟨c2,hl,hr⟩:=h.row.Cc (Kin.set hc ha);refine⟨c2,?_,hr,h.low.to (Ye _) (λ_ q=>q.set),h.src.ay (bM w1 g i u') (λe=>hgp (Yd e)) (λk e=>by have:=Yd e;omega),h.kept.set (Zk hg),hl.2.2.2.2.1.trans h.ld⟩;rw[Ya _ _ _ _ (λe=>Δ e.symm),h.blk];have e:=hl.2.2.2.2.2;rw[e]
end
def anN(w:World) (p:Nat):Prop:=∀(i:Nat) v,w.cell? ⟨p,i,J⟩=M v->i<8/\((∃t,v=I t)->i=6)
structure ahf (p:Nat) (w w':World):Prop where
 kept:aJ (λk=>k=p) w w'
 was:anN w p
 now:∃t:ByteArray,w'.cell? ⟨p,6,J⟩=M (I t)/\t.size<=9223372036854775807
theorem aw.res {p:Nat} (h:aw w a len cap zs) (hk:ahf p w w'):∃ZB,ZB.length=zs.length/\aw w' a len cap ZB:=by
 obtain⟨h1,h2,h3,h4,h5⟩:=h;rcases h5 with rfl|⟨b,o,rfl,hl,hc⟩
 ·exact⟨[],rfl,h1,h2,h3,λj x h=>bJ,Zl rfl⟩
 by_cases hbp:b=p
 ·subst hbp;match zs,h1,h4,hc with
  | [],h1,h4,hc=>exact⟨[],rfl,h1,h2,h3,h4,Zl rfl⟩
  | [x],h1,h4,hc=>
   obtain⟨t,e1,e2⟩:=hk.now;have e6:o+0=6:=(hk.was _ _ (hc 0 x rfl)).2 ⟨x,rfl⟩;refine⟨[t],rfl,h1,h2,h3,λj y hj=>?_,Zk ⟨b,o,rfl,Yl hl hk.kept.size,λj y hj=>?_⟩⟩
   ·rcases j with _|j
    ·cases hj;exact e2
    ·cases hj
   ·rcases j with _|j
    ·cases hj;rw[e6];exact e1
    ·cases hj
  | x ::y ::zs,h1,h4,hc=>
   exfalso
   have e6:o+0=6:=(hk.was _ _ (hc 0 x rfl)).2 ⟨x,rfl⟩;have e7:o+1=6:=(hk.was _ _ (hc 1 y rfl)).2 ⟨y,rfl⟩
   omega
 ·exact⟨zs,rfl,h1,h2,h3,h4,Zk ⟨b,o,rfl,Yl hl hk.kept.size,λj x hj=>(cell_kept hk.kept hl hbp).trans (hc j x hj)⟩⟩
theorem Fv.Is.res {p:Nat} {f:Fv} (h:f.Is w v) (hk:ahf p w w'):∃f',Fv.qW f f'/\f'.Is w' v:=by
 cases f with
 | l zs=>
  obtain⟨a,len,cap,rfl,ht⟩:=h;obtain⟨ZB,_,h2⟩:=aw.res ht hk;exact⟨.l ZB,trivial,_,_,_,rfl,h2⟩
 | s t=>exact⟨.s t,trivial,h⟩
 | i n=>exact⟨.i n,trivial,h⟩
 | b x=>exact⟨.b x,trivial,h⟩
def Sb(rs:List (List Fv)):Prop:=∀(j:Nat) r,rs[j]?=M r->∃t f,r[0]?=M (.s t)/\r[2]?=M f
theorem fi {F:α->List Fv} (h:∀x,∃t f,(F x)[0]?=M (.s t)/\(F x)[2]?=M f) (xs:List α):Sb (xs.map F):=by
 exact P3
theorem aV.res {p:Nat} {rs:List (List Fv)} (h:aV w a len cap m rs) (hn:Sb rs) (hk:ahf p w w'):∃rs',rs'.length=rs.length/\(∀(j:Nat) r r',rs[j]?=M r->rs'[j]?=M r'->gV r r')/\aV w' a len cap m rs':=by
 obtain⟨h1,h2,h3,h5⟩:=h;rcases h5 with rfl|⟨b,o,rfl,hl,hc⟩
 ·exact⟨[],rfl,λ_ _ _ h=>bJ,h1,h2,h3,Zl rfl⟩
 obtain⟨l,e1,e2⟩:=iQ (λj (r':List Fv)=>(∀r,rs[j]?=M r->gV r r')/\RAt w' b (o+j*m) r') rs.length (λj hj=>by
  have hr:rs[j]?=M rs[j]:=Yi hj;have Zc:=hc j _ hr
  have hbp:¬b=p:=λe=>by
   subst e;obtain⟨t,f,g1,g2⟩:=hn j _ hr;obtain⟨v,q1,q2,_⟩:=Zc 0 _ g1;have q6:=(hk.was _ _ q1).2 ⟨t,q2⟩;obtain⟨v2,q3,_⟩:=Zc 2 _ g2;have q8:=(hk.was _ _ q3).1
   omega
  obtain⟨l,d1,d2⟩:=iQ (λi (f':Fv)=>(∀f,rs[j][i]?=M f->Fv.qW f f')/\∃v',w'.cell? ⟨b,o+j*m+i,J⟩=M v'/\f'.Is w' v') rs[j].length (λi hi=>by
   have hf:rs[j][i]?=M rs[j][i]:=Yi hi;obtain⟨v,g1,g2⟩:=Zc i _ hf;obtain⟨f',g5,g6⟩:=g2.res hk
   exact⟨f',λf hf'=>by rw[hf] at hf';obtain rfl:=Yd hf';exact g5,v,(cell_kept hk.kept hl hbp).trans g1,g6⟩)
  exact⟨l,λr h=>by
   rw[hr] at h;obtain rfl:=Yd h
   exact⟨d1,λi f f' hf hf'=>(d2 i f' hf').1 f hf⟩,λi f hi=>(d2 i f hi).2⟩)
 exact⟨l,e1,λj r r' hr hr'=>(e2 j r' hr').1 r hr,e1.trans h1,h2,h3,Zk ⟨b,o,rfl,Yl hl hk.kept.size,λj r hj=>(e2 j r hj).2⟩⟩
theorem aA.res {p:Nat} (h:aA w d c.raw) (hk:ahf p w w'):∃c':Cl,Ld c c'/\aA w' d c'.raw:=by
 obtain⟨r1,a1,b1,e1⟩:=h.n.res (fi (λx=>⟨_,_,rfl,rfl⟩) c.ns) hk;obtain⟨r2,a2,b2,e2⟩:=h.k.res (fi (λx=>⟨_,_,rfl,rfl⟩) c.ks) hk;obtain⟨r3,a3,b3,e3⟩:=h.v.res (fi (λx=>⟨_,_,rfl,rfl⟩) c.vs) hk;obtain⟨r4,a4,b4,e4⟩:=h.x.res (fi (λx=>⟨_,_,rfl,rfl⟩) c.xs) hk;obtain⟨r5,a5,b5,e5⟩:=h.p.res (fi (λx=>⟨_,_,rfl,rfl⟩) c.ps) hk;exact ah9
def ry(Is:Co->Prop) (w:World) (e:Ending) (w':World):Prop:=∃g o,e=Zh (Zj #[U g.a1 g.l1 g.c1,U g.a2 g.l2 g.c2,U g.a3 g.l3 g.c3,U g.a4 g.l4 g.c4,U g.a5 g.l5 g.c5,V O o.c.now,I o.n,V O o.p])/\Is o/\dw w' g o.c.raw (λk=>w.heap.size<=k)/\Below w.heap.size w w'
theorem jr(w:World) (S:Nat->Prop):dw w ad0 cl0.raw S:=⟨av.nil _ _ _ _ _ (by decide),av.nil _ _ _ _ _ (by decide),av.nil _ _ _ _ _ (by decide),av.nil _ _ _ _ _ (by decide),av.nil _ _ _ _ _ (by decide)⟩
theorem ry.l(h:ry Is w e w'):jw Is w e w':=by
 obtain⟨g,o,h1,h2,h3,h4⟩:=h;exact⟨g,o,h1,h2,h3.rl (λ_ s=>s),h4⟩
theorem BY(d:Ad) (c:Cl) (x:Vd) (va:Option Addr) (vl vc:Nat) (w:World) (hr:aA w d c.raw) (hx:aw w va vl vc x.zs) (z0:x.n.size<=9223372036854775807) (z2:x.z.size<=9223372036854775807) (z3:x.k.size<=9223372036854775807) (z5:x.m.size<=9223372036854775807) (hn:¬(x.m=⟨#[]⟩/\x.y=Zg/\x.zs=[])):
  Calls Tryz.prog 76 #[Zj (Zs d c.now),Zj #[I x.n,V O x.c,I x.z,I x.k,Zf x.x,I x.m,Zf x.y,U va vl vc]] w (ry (bf c x) w):=by
 unfold Zs;have HR:=G hr;have HX:=G hx;have Z4:=hx.1;have HB:=G (Yh w.heap.size w);have HV:Hid (bf c x (co0 1)):=Zl ⟨1,λh=>hn h.2.2,rfl⟩;have HZ:=G (show x.n.size<=9223372036854775807/\x.z.size<=9223372036854775807/\x.k.size<=9223372036854775807/\x.m.size<=9223372036854775807 from ⟨z0,z2,z3,z5⟩);clear hr hx z0 z2 z3 z5;obtain⟨xn,xc,xz,xk,xs,xm,xy,zs⟩:=x;dsimp only at hn Z4 HZ HX ⊢;obtain⟨Is,hIs⟩:∃Is,Is=bf c ⟨xn,xc,xz,xk,xs,xm,xy,zs⟩:=⟨_,rfl⟩;rw[<-hIs] at HV ⊢;clear hIs;have hw:(¬xm=⟨#[]⟩)\/(xm=⟨#[]⟩/\xy=Zi)\/(xm=⟨#[]⟩/\xy=Zg/\¬vl=0):=by
  by_cases h1:xm=⟨#[]⟩
  ·cases xy
   ·exact Zk (Zk ⟨h1,rfl,λh=>hn ⟨h1,rfl,YO (Z4.trans h)⟩⟩)
   ·exact Zk (Zl ⟨h1,rfl⟩)
  ·exact Zl h1
 clear hn Z4;rcases hw with hm|⟨rfl,rfl⟩|⟨rfl,rfl,hv⟩;rotate_left;rotate_left;have hv1:(0:Int)<(vl:Int):=af
 have hv2:0<vl:=af
 clear hv;rotate_left;have hq:=aU hm;clear hm;all_goals (
  go_enter Tryz.func76,Tryz.ntmps76
  go_wp2_with fail;refine (cI d c _ (HR.below (HB.trans ((cO _ _ _ _).mono HB.size)))).mono ?_;rintro e w1 ⟨r,rfl,-,hb⟩;obtain⟨ZD,Ν,HA2,Zr⟩:=wD hb;have Bk:=G ZD;have Bx:=G Ν;have Br:=G HA2;replace HB:=upB HB Zr;clear hb Zr ZD Ν HA2
  cases r
  ·obtain⟨k0,k1,k2,k3,k4,k5⟩:=cs6 Bk;obtain⟨x0,x1,x2,x3,x4,x5,x6,x7⟩:=cs8 Bx;go_wp2_with fail;refine (aI 1 _).mono ?_;rintro e w2 ⟨rfl,hb⟩;clear k0 k1 k2 k3 k4 k5 x0 x1 x2 x3 x4 x5 x6 x7;replace Bk:=upK Bk hb;replace Bx:=upK Bx hb;replace Br:=upK Br hb;replace HB:=upB HB hb;clear hb;obtain⟨r0,r1,r2,r3,r4,r5,r6,r7⟩:=cs8 Br;obtain⟨ZR,ZS,ZT,ZU,ZV,ZY,Z1,Z2⟩:=lL Br.out
   go_wp2
   exact bodyPost_ret (v:=Zj #[U J 0 0,U J 0 0,U J 0 0,U J 0 0,U J 0 0,V O 0,I ⟨#[]⟩,V O 1]) lk rfl ⟨ad0,co0 1,rfl,HV.out,jr _ _,eJ (show w.heap.size<=w.heap.size+1+1 by omega) (HB.out)⟩
  obtain⟨k0,k1,k2,k3,k4,k5⟩:=cs6 Bk;obtain⟨x0,x1,x2,x3,x4,x5,x6,x7⟩:=cs8 Bx;go_wp2_with fail;refine (jB xn xc xz xk xs _ _ va vl vc zs _ HZ.1 HZ.2.1 HZ.2.2.1 HZ.2.2.2 (HX.below HB.out)).mono ?_;rintro e w2 ⟨r,rfl,-,hb⟩;clear k0 k1 k2 k3 k4 k5 x0 x1 x2 x3 x4 x5 x6 x7;replace Bk:=upK Bk hb;replace Bx:=upK Bx hb;replace Br:=upK Br hb;replace HB:=upB HB hb;clear hb
  cases r
  ·obtain⟨k0,k1,k2,k3,k4,k5⟩:=cs6 Bk;obtain⟨x0,x1,x2,x3,x4,x5,x6,x7⟩:=cs8 Bx;go_wp2_with fail;refine (aI 1 _).mono ?_;rintro e w3 ⟨rfl,hb⟩;clear k0 k1 k2 k3 k4 k5 x0 x1 x2 x3 x4 x5 x6 x7;replace Bk:=upK Bk hb;replace Bx:=upK Bx hb;replace Br:=upK Br hb;replace HB:=upB HB hb;clear hb;obtain⟨r0,r1,r2,r3,r4,r5,r6,r7⟩:=cs8 Br;obtain⟨ZR,ZS,ZT,ZU,ZV,ZY,Z1,Z2⟩:=lL Br.out
   go_wp2
   exact bodyPost_ret (v:=Zj #[U J 0 0,U J 0 0,U J 0 0,U J 0 0,U J 0 0,V O 0,I ⟨#[]⟩,V O 1]) lk rfl ⟨ad0,co0 1,rfl,HV.out,jr _ _,eJ (show w.heap.size<=w.heap.size+1+1 by omega) (HB.out)⟩
  obtain⟨k0,k1,k2,k3,k4,k5⟩:=cs6 Bk;obtain⟨x0,x1,x2,x3,x4,x5,x6,x7⟩:=cs8 Bx;go_wp2_with fail;refine (aI 1 _).mono ?_;rintro e w3 ⟨rfl,hb⟩;clear k0 k1 k2 k3 k4 k5 x0 x1 x2 x3 x4 x5 x6 x7;replace Bk:=upK Bk hb;replace Bx:=upK Bx hb;replace Br:=upK Br hb;replace HB:=upB HB hb;clear hb;obtain⟨r0,r1,r2,r3,r4,r5,r6,r7⟩:=cs8 Br;obtain⟨ZR,ZS,ZT,ZU,ZV,ZY,Z1,Z2⟩:=lL Br.out
  go_wp2
  exact bodyPost_ret (v:=Zj #[U J 0 0,U J 0 0,U J 0 0,U J 0 0,U J 0 0,V O 0,I ⟨#[]⟩,V O 1]) lk rfl ⟨ad0,co0 1,rfl,HV.out,jr _ _,eJ (show w.heap.size<=w.heap.size+1+1 by omega) (HB.out)⟩)
theorem wM(d:Ad) (c:Cl) (xn:ByteArray) (xc:Int) (xz xk:ByteArray) (xs:Bool) (va:Option Addr) (vc:Nat) (w:World) (hr:aA w d c.raw) (hx:aw w va 0 vc []) (z0:xn.size<=9223372036854775807) (z2:xz.size<=9223372036854775807) (z3:xk.size<=9223372036854775807):
  Calls Tryz.prog 76 #[Zj (Zs d c.now),Zj #[I xn,V O xc,I xz,I xk,Zf xs,I ⟨#[]⟩,Zf Zg,U va 0 vc]] w (ry (bf c (⟨xn,xc,xz,xk,xs,⟨#[]⟩,Zg,[]⟩:Vd)) w):=by
 unfold Zs;have HR:=G hr;have HX:=G hx;have hlc:c.vs.length=d.l3:=by simpa using (show (c.vs.map vdF).length=d.l3 from hr.v.1)
 have hlm:=Yo hr.v.2.1 hr.v.2.2.1;have HB:=G (Yh w.heap.size w);clear hr hx;go_enter Tryz.func76,Tryz.ntmps76;go_wp2_with fail;refine (cI d c _ (HR.below (HB.trans ((cO _ _ _ _).mono HB.size)))).mono ?_;have atE:=@G _ @Ku;exact tR
theorem Da(d:Ad) (c:Cl) (x:Vd) (va:Option Addr) (vl vc:Nat) (w:World) (hr:aA w d c.raw) (hx:aw w va vl vc x.zs) (z0:x.n.size<=9223372036854775807) (z2:x.z.size<=9223372036854775807) (z3:x.k.size<=9223372036854775807) (z5:x.m.size<=9223372036854775807):
  Calls Tryz.prog 76 #[Zj (Zs d c.now),Zj #[I x.n,V O x.c,I x.z,I x.k,Zf x.x,I x.m,Zf x.y,U va vl vc]] w (ry (bf c x) w):=by
 unfold Zs;by_cases hn:x.m=⟨#[]⟩/\x.y=Zg/\x.zs=[]
 ·obtain⟨xn,xc,xz,xk,xs,xm,xy,zs⟩:=x;obtain⟨rfl,rfl,rfl⟩:xm=⟨#[]⟩/\xy=Zg/\zs=[]:=hn;obtain rfl:vl=0:=hx.1.symm;exact wM d c xn xc xz xk xs va vc w hr hx z0 z2 z3
 ·exact BY d c x va vl vc w hr hx z0 z2 z3 z5 hn
end Rc
end Go.Proofs.YtcnmlpiffcldkaaGreatDoor

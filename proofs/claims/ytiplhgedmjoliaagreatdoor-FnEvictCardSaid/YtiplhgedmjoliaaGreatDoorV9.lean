import Derived.Test.YtiplhgedmjoliaaGreatDoorV5
import Derived.Test.YtiplhgedmjoliaaGreatDoorV7
import Derived.Test.YtiplhgedmjoliaaGreatDoorV8
import Derived.Deep.QuietTactic
import Derived.BigQuiet
import Derived.WalkKit
import Derived.WalkSpells
import Derived.OwnWalk
import Derived.Outline
import Derived.Laws.IdiomStrings
import Derived.Laws.AppendOwn
import Derived.RegionTactic
import Derived.Deep.CutRange
import Derived.Lib.Bytealg
import Derived.Test.YtiplhgedmjoliaaGreatDoorRows
import Derived.BigRegion
import Derived.ChangeAlike
import Derived.Laws.Rows
import Derived.Lib.VarintMem
import Derived.Lib.Hide
import Derived.Lib.Slices
import Derived.Deep.RegionWith
import Derived.Deep.Cut
import Derived.Deep.RegionLaw
set_option maxRecDepth 100000
set_option maxHeartbeats 12800000
open Bool renaming false→Y8,true→Y_
open Go.Ending renaming returned→Y9
open Go.IntKind renaming i64→Y5
open Go.Obj renaming cells→Y6
open Go.Value renaming string→I,slice→J,int→Y4,bool→Y7,agg→Za,pointer→Zd,tuple→Ze
open Option renaming none→U,some→Y3
open Or renaming inr→Zb,inl→Zc
open And renaming intro→Yb
open Array renaming getElem?_push_size→Yg, getD_eq_getD_getElem?→Yp, getElem?_eq_some_iff→Yw
open Bool renaming and_eq_true→YE
open Go.Addr renaming add_lit→Yo
open Go.Calls renaming quiet_of_same→YC
open Go.Op renaming bytesLess→Yk
open Go.Region renaming wanted→YM, ready→YR
open Go.RowKit.Below renaming heap_setCell→Ya, refl→Yh, heap_alloc→Ym
open Go.Value renaming string→Yn, ownBlock→YJ
open Go.World renaming setCell→YO, block_lt_of_cell?→Y0
open List renaming getElem?_eq_some_iff→Yc, lookup→Yf, getElem?_eq_getElem→Yi, length_map→Yr, setIfInBounds_toArray→Ys, getElem?_map→Yt, mem_of_getElem?→Yu, getElem?_append_left→Yv, drop_eq_nil_of_le→Yx, set_cons_zero→YA, set_cons_succ→YB, getElem?_take→YD, getElem?_of_mem→YF, length_take→YG, take_of_length_le→YH, length_set→YK, take_add_one→YL, eq_nil_of_length_eq_zero→YN, foldr→YQ
open Nat renaming le_refl→Ye, lt_of_lt_of_le→Yj, le_trans→Yl, zero_add→Yq, le_succ→Yy, zero_le→YI
open Option renaming map_eq_some_iff→Yz
open Option.some renaming inj→Yd
namespace Go.Proofs.YtiplhgedmjoliaaGreatDoor
variable {p:Prop}
namespace Mk
end Mk
namespace Dk
end Dk
open Go.RowKit Mk Dk
variable {α:Type} {B B' b cap g i j k m u:Nat} {E:Nat->Addr} {Is:Co->Prop} {K:Act->World->Prop} {P:Program} {Q:Exit->Act->World->Prop} {S S' Why:Nat->Prop} {T:TypeId} {W W' w w' w0 w1 w2 wa wr:World} {a:Option Addr} {c c':Cl} {cs:Array Value} {d:Ad} {e:Ending} {h:Pd->Pd} {lv v v':Value} {ns:List Nd} {o:Co} {ok:Prop} {ops:Array Oper} {ps:List Pd} {r t:ByteArray} {sp:Tmp} {sz:Int} {ts zs:List ByteArray} {x:Pd} {xs:List Value}
theorem cG(h:p:=by have:=HP.out;omega):p:=h
theorem tC(h:p:=by simp[results,Tryz.results59,go_sem, *]):p:=h
theorem zJ(h:p:=by simp[results,Tryz.results61,go_sem, *]):p:=h
theorem M3(h:p:=by simp[results,Tryz.results64,go_sem, *]):p:=h
theorem M1(h:p:=by simp[results,Tryz.results12,go_sem, *]):p:=h
theorem M0(h:p:=by simp[results,Tryz.results70,go_sem, *]):p:=h
theorem MY(h:p:=by simp[results,Tryz.results34,go_sem]):p:=h
theorem ak9(h:p:=by
 go_wp2;have hlo:=HLO.out;refine bodyPost_ret (v:=Za #[J x1 m1 n1,J x2 m2 n2,J x3 m3 n3,J x4 m4 n4,J t1 t2 t3,Y4 Y5 c.now,I ⟨#[]⟩,Y4 Y5 0]) M3 rfl ⟨⟨x1,m1,n1,x2,m2,n2,x3,m3,n3,x4,m4,n4,t1,t2,t3⟩,⟨uz c t,⟨#[]⟩,0⟩,rfl,HV.out,?_,sb1 (sb1 (sb1 (sb1 (sb1 (sb1 (sb1 (sb1 (ah (show w.heap.size<=w3.heap.size by omega) (HB5.out)))))))))⟩;have hkeep:∀k,w2.heap.size<=k->¬k=w3.heap.size->(((((((((w5.setCell ⟨w3.heap.size,4,U⟩ (J t1 t2 t3)).setCell ⟨w.heap.size+1,0,U⟩ (J x1 m1 n1)).setCell ⟨w.heap.size+1,1,U⟩ (J x2 m2 n2)).setCell ⟨w.heap.size+1,2,U⟩ (J x3 m3 n3)).setCell ⟨w.heap.size+1,3,U⟩ (J x4 m4 n4)).setCell ⟨w.heap.size+1,4,U⟩ (J t1 t2 t3)).setCell ⟨w.heap.size+1,5,U⟩ (Y4 Y5 c.now)).setCell ⟨w.heap.size+1,6,U⟩ (I ⟨#[]⟩)).setCell ⟨w.heap.size+1,7,U⟩ (Y4 Y5 0)).heap[k]?=w5.heap[k]?:=λk h1 h2=>by rw[Ya _ _ _ _ (show k≠w.heap.size+1 by omega),Ya _ _ _ _ (show k≠w.heap.size+1 by omega),Ya _ _ _ _ (show k≠w.heap.size+1 by omega),Ya _ _ _ _ (show k≠w.heap.size+1 by omega),Ya _ _ _ _ (show k≠w.heap.size+1 by omega),Ya _ _ _ _ (show k≠w.heap.size+1 by omega),Ya _ _ _ _ (show k≠w.heap.size+1 by omega),Ya _ _ _ _ (show k≠w.heap.size+1 by omega),Ya _ _ _ _ (show k≠w3.heap.size by omega)]
 refine⟨?_,?_,?_,?_,?_⟩
 ·exact (HO.n.az (w':=(((((((((w5.setCell ⟨w3.heap.size,4,U⟩ (J t1 t2 t3)).setCell ⟨w.heap.size+1,0,U⟩ (J x1 m1 n1)).setCell ⟨w.heap.size+1,1,U⟩ (J x2 m2 n2)).setCell ⟨w.heap.size+1,2,U⟩ (J x3 m3 n3)).setCell ⟨w.heap.size+1,3,U⟩ (J x4 m4 n4)).setCell ⟨w.heap.size+1,4,U⟩ (J t1 t2 t3)).setCell ⟨w.heap.size+1,5,U⟩ (Y4 Y5 c.now)).setCell ⟨w.heap.size+1,6,U⟩ (I ⟨#[]⟩)).setCell ⟨w.heap.size+1,7,U⟩ (Y4 Y5 0))) (λk hk s=>(hkeep k s af).trans (H35.block k hk)) (λ_ _ s=>s)).rl (λk s=>loq)
 ·exact (HO.k.az (w':=(((((((((w5.setCell ⟨w3.heap.size,4,U⟩ (J t1 t2 t3)).setCell ⟨w.heap.size+1,0,U⟩ (J x1 m1 n1)).setCell ⟨w.heap.size+1,1,U⟩ (J x2 m2 n2)).setCell ⟨w.heap.size+1,2,U⟩ (J x3 m3 n3)).setCell ⟨w.heap.size+1,3,U⟩ (J x4 m4 n4)).setCell ⟨w.heap.size+1,4,U⟩ (J t1 t2 t3)).setCell ⟨w.heap.size+1,5,U⟩ (Y4 Y5 c.now)).setCell ⟨w.heap.size+1,6,U⟩ (I ⟨#[]⟩)).setCell ⟨w.heap.size+1,7,U⟩ (Y4 Y5 0))) (λk hk s=>(hkeep k s af).trans (H35.block k hk)) (λ_ _ s=>s)).rl (λk s=>loq)
 ·exact (HO.v.az (w':=(((((((((w5.setCell ⟨w3.heap.size,4,U⟩ (J t1 t2 t3)).setCell ⟨w.heap.size+1,0,U⟩ (J x1 m1 n1)).setCell ⟨w.heap.size+1,1,U⟩ (J x2 m2 n2)).setCell ⟨w.heap.size+1,2,U⟩ (J x3 m3 n3)).setCell ⟨w.heap.size+1,3,U⟩ (J x4 m4 n4)).setCell ⟨w.heap.size+1,4,U⟩ (J t1 t2 t3)).setCell ⟨w.heap.size+1,5,U⟩ (Y4 Y5 c.now)).setCell ⟨w.heap.size+1,6,U⟩ (I ⟨#[]⟩)).setCell ⟨w.heap.size+1,7,U⟩ (Y4 Y5 0))) (λk hk s=>(hkeep k s af).trans (H35.block k hk)) (λ_ _ s=>s)).rl (λk s=>loq)
 ·exact (HO.x.az (w':=(((((((((w5.setCell ⟨w3.heap.size,4,U⟩ (J t1 t2 t3)).setCell ⟨w.heap.size+1,0,U⟩ (J x1 m1 n1)).setCell ⟨w.heap.size+1,1,U⟩ (J x2 m2 n2)).setCell ⟨w.heap.size+1,2,U⟩ (J x3 m3 n3)).setCell ⟨w.heap.size+1,3,U⟩ (J x4 m4 n4)).setCell ⟨w.heap.size+1,4,U⟩ (J t1 t2 t3)).setCell ⟨w.heap.size+1,5,U⟩ (Y4 Y5 c.now)).setCell ⟨w.heap.size+1,6,U⟩ (I ⟨#[]⟩)).setCell ⟨w.heap.size+1,7,U⟩ (Y4 Y5 0))) (λk hk s=>(hkeep k s af).trans (H35.block k hk)) (λ_ _ s=>s)).rl (λk s=>loq)
 ·exact (HR5.az (w':=(((((((((w5.setCell ⟨w3.heap.size,4,U⟩ (J t1 t2 t3)).setCell ⟨w.heap.size+1,0,U⟩ (J x1 m1 n1)).setCell ⟨w.heap.size+1,1,U⟩ (J x2 m2 n2)).setCell ⟨w.heap.size+1,2,U⟩ (J x3 m3 n3)).setCell ⟨w.heap.size+1,3,U⟩ (J x4 m4 n4)).setCell ⟨w.heap.size+1,4,U⟩ (J t1 t2 t3)).setCell ⟨w.heap.size+1,5,U⟩ (Y4 Y5 c.now)).setCell ⟨w.heap.size+1,6,U⟩ (I ⟨#[]⟩)).setCell ⟨w.heap.size+1,7,U⟩ (Y4 Y5 0))) (λk hk s=>hkeep k fD fD) (λ_ _ s=>s)).rl (λk s=>loq)):p:=h
theorem z_(h:p:=by
 rw[Ya _ _ _ _ (show k≠w.heap.size+1 by omega),Ya _ _ _ _ (show k≠w.heap.size+1 by omega),Ya _ _ _ _ (show k≠w.heap.size+1 by omega),Ya _ _ _ _ (show k≠w.heap.size+1 by omega),Ya _ _ _ _ (show k≠w.heap.size+1 by omega),Ya _ _ _ _ (show k≠w.heap.size+1 by omega),Ya _ _ _ _ (show k≠w.heap.size+1 by omega),Ya _ _ _ _ (show k≠w.heap.size+1 by omega)]):p:=h
theorem Ny(h:p:=by
 have h1:vss[i]?=Y3 (vss[i]'(by omega)):=Yi _;have h2:0<(vss[i]'(by omega)).length:=by rw[hV.all i _ h1];decide
 obtain⟨g,e,_,h3⟩:=hcell _ _ (fY hV.all h1 (Yi h2));exact⟨g,e,bf h3⟩):p:=h
theorem ag5(h:p:=by
 exact NV):p:=h
theorem zZ(h:p:=by
 rcases hp with ⟨h1,rfl⟩|⟨h1,h2,rfl⟩|⟨h1,h2,rfl⟩
 ·exact Zc ⟨by decide,Zc ⟨0,h1,rfl⟩⟩
 ·exact Zc ⟨by decide,Zc ⟨1,⟨h1,h2⟩,rfl⟩⟩
 ·exact Zb ⟨rfl,h1,h2⟩):p:=h
theorem agP(h:p:=by
 obtain⟨ns,l1,rfl⟩:=kA afx c.ns r1 a1 b1;obtain⟨ks,l2,rfl⟩:=kA afC c.ks r2 a2 b2;obtain⟨vs,l3,rfl⟩:=kA QY c.vs r3 a3 b3;obtain⟨xs,l4,rfl⟩:=kA QS c.xs r4 a4 b4;obtain⟨ps,l5,rfl⟩:=kA aft c.ps r5 a5 b5;exact⟨⟨ns,ks,vs,xs,ps,c.now⟩,⟨l1,l2,l3,l4,l5,rfl⟩,⟨e1,e2,e3,e4,e5⟩⟩):p:=h
theorem Ns(h:p:=by
 rcases h with h|⟨_,_,_,_,rfl⟩
 ·exact iL (λi hi a=>by rcases a.cases with ⟨rfl,_⟩|⟨rfl,_⟩|⟨rfl,_⟩|⟨rfl,_⟩ <;> omega) h h0
 ·exact⟨rfl,rfl⟩):p:=h
theorem agL(h:p:=by
 clear hc;by_cases h20:12<(len:Int) / 20
 ·go_wp2;go_ret;exact⟨_,rfl,xr ((HB.ahA _).ahA _) ((HX.setCell (Ye _) _).setCell (Ye _) _) HR.out m0 m1 ag ag⟩
 ·go_wp2;go_ret;exact⟨_,rfl,xr (HB.ahA _) (HX.setCell (Ye _) _) HR.out m0 m1 af af⟩):p:=h
theorem PD(h:p:=by
 constructor
 ·rintro⟨i,s,hi,hs,a,e⟩;by_cases hik:i=k
  ·subst hik;rw[h] at hs;obtain rfl:=Yd hs;exact absurd a hy
  ·exact⟨i,s,by omega,hs,a,e⟩
 ·rintro⟨i,s,hi,hs,a,e⟩;exact⟨i,s,by omega,hs,a,e⟩):p:=h
theorem PB(h:p:=by
 rw[YL,Yt,hx,List.set_append_right _ _ af,h1,Nat.sub_self];have h2:ps.drop k=x ::ps.drop (k+1):=by rw[List.drop_eq_getElem_cons hk];rw[(Yc.1 hx).2]
 rw[h2];simp):p:=h
theorem PA(h:p:=by
 obtain⟨i,a,rfl⟩:=h;exfalso;revert h0;rcases i with _|_|_|_|_|_|_|_|_|_|i;case succ.succ.succ.succ.succ.succ.succ.succ.succ.succ=>exact λ_=>h9 _ af a
 all_goals exact λh=>by cases h):p:=h
theorem Pr(h:p:=by
 rintro e w1 ⟨t,rfl,ht,hs,hg⟩;have HR:Hid (t.size<=100/\Src B w0 p v len w1/\w.grownBy w1 (Y3 p)):=⟨ht,hs,hg⟩;clear ht hs hg;go_wp2_with fail;go_ret;exact⟨t,rfl,HR.out⟩):p:=h
theorem Pm(h:p:=by
 obtain⟨r0,b1,b2⟩:=back j' r' i' zs' hj' hi' hz';obtain⟨r3,b3,b4⟩:=back j2 r2 i2 zs2 hj2 hi2 hz2;exact h1.inj j' r0 i' zs' j2 r3 i2 zs2 b1 b2 hz' b3 b4 hz2 hH):p:=h
theorem Pl(h:p:=by
 rcases h with h|⟨n,_,⟨_,rfl⟩|⟨_,rfl⟩⟩
 ·exact iL qp h h0
 ·cases h0
 ·exact⟨by show (c.ns.set _ _).length=_;rw[YK],rfl⟩):p:=h
theorem Ph(h:p:=by
 rintro⟨i,s,hi,hs,a,e⟩;by_cases hik:i=k
 ·subst hik;rw[h] at hs;obtain rfl:=Yd hs;exact Zb e
 ·exact Zc ⟨i,s,by omega,hs,a,e⟩):p:=h
theorem O7(h:p:=by
 exact iL (λi hi a=>by rcases a.cases with ⟨rfl,_⟩|⟨rfl,_⟩|⟨rfl,_⟩|⟨rfl,_⟩|⟨rfl,_⟩ <;> omega) h h0):p:=h
theorem O6(h:p:=by
 have h2:=congrArg List.length h.2;have h3:=afM (u:=u) (k:=18) af;rw[List.length_append] at h2;rw[Lib.size_eq];omega):p:=h
theorem ajI(h:p:=by
 intro j' r' i' zs' hj' hi' hz;rcases eL h3 hil hj' hi' with ⟨_,_,e⟩|⟨_,q⟩
 ·cases e;exact absurd rfl hz
 ·exact q):p:=h
theorem vG(h:p:=by
 show (c.ns.set _ _).length<=_;rw[YK];exact hf.l1):p:=h
theorem OW(h:p:=by
 obtain⟨h1,h2⟩:=h;refine⟨by omega,?_⟩;rw[if_neg hn] at h2;rw[<-h2,<-Qt n af];simp[dgB]):p:=h
theorem OR(h:p:=by
 rw[hg2.block w1.heap.size aF (λe=>by simp at e;omega)];show (w1.heap.push _)[w1.heap.size]?=_;simp):p:=h
theorem OP(h:p:=by
 exact bodyPost_ret (v:=Ze #[]) (by simp[results,Tryz.results35,go_sem]) rfl ⟨⟨_,rfl⟩,HO2.out,HK.out⟩):p:=h
theorem OL(h:p:=by
 intro j r hj;rw[Yt] at hj;obtain⟨x,_,rfl⟩:=Yz.1 hj;exact h x):p:=h
theorem OK(h:p:=by
 rw[List.getElem?_append_right bJ];simp[Nat.min_eq_left (show k<=ps.length by omega)]):p:=h
theorem N6(h:p:=by
 rw[hns];exact⟨by rw[YK];exact HO.n.1,HO.n.2.1,HO.n.2.2.1,Zb ⟨g,cur2,H2,rfl,h3⟩⟩):p:=h
theorem NV(h:p:=by
 exact⟨(HG.1.az hk4 (λ_ _ s=>s)).rl (λk s=>loq),(HG.2.1.az hk4 (λ_ _ s=>s)).rl (λk s=>loq),(HG.2.2.1.az hk4 (λ_ _ s=>s)).rl (λk s=>loq),(HG.2.2.2.1.az hk4 (λ_ _ s=>s)).rl (λk s=>loq),(HG.2.2.2.2.az hk4 (λ_ _ s=>s)).rl (λk s=>loq)⟩):p:=h
theorem amh(h:p:=by
 have yf0:=al q3 0;have y1:w8.cell? ⟨w5.heap.size,1,U⟩=Y3 (Y4 Y5 (1+r2)):=an q3 1;have yf1:=al q3 1;have y2:w8.cell? ⟨w5.heap.size,2,U⟩=Y3 (I t3):=an q3 2;have yf2:=al q3 2;have y3:w8.cell? ⟨w5.heap.size,3,U⟩=Y3 (I t4):=an q3 3;have yf3:=al q3 3;have y4:w8.cell? ⟨w5.heap.size,4,U⟩=Y3 (Y7 (!x5)):=an q3 4;have yf4:=al q3 4;have y5:w8.cell? ⟨w5.heap.size,5,U⟩=Y3 (I ⟨#[]⟩):=an q3 5;have yf5:=al q3 5;have y6:w8.cell? ⟨w5.heap.size,6,U⟩=Y3 (Y7 Y8):=an q3 6;have yf6:=al q3 6;have y7:w8.cell? ⟨w5.heap.size,7,U⟩=Y3 (J U 0 0):=an q3 7;have yf7:=al q3 7;have z0:w8.cell? ⟨w.heap.size,0,U⟩=Y3 (I ⟨#[]⟩):=an q2 0;have zf0:=al q2 0;have z1:w8.cell? ⟨w.heap.size,1,U⟩=Y3 (Y4 Y5 0):=an q2 1;have zf1:=al q2 1;have z2:w8.cell? ⟨w.heap.size,2,U⟩=Y3 (I ⟨#[]⟩):=an q2 2;have zf2:=al q2 2;have z3:w8.cell? ⟨w.heap.size,3,U⟩=Y3 (I ⟨#[]⟩):=an q2 3;have zf3:=al q2 3;have z4:w8.cell? ⟨w.heap.size,4,U⟩=Y3 (Y7 Y8):=an q2 4;have zf4:=al q2 4;have z5:w8.cell? ⟨w.heap.size,5,U⟩=Y3 (I ⟨#[]⟩):=an q2 5;have zf5:=al q2 5;have z6:w8.cell? ⟨w.heap.size,6,U⟩=Y3 (Y7 Y8):=an q2 6;have zf6:=al q2 6;have z7:w8.cell? ⟨w.heap.size,7,U⟩=Y3 (J U 0 0):=an q2 7;exact Yb yf0 (Yb y1 (Yb yf1 (Yb y2 (Yb yf2 (Yb y3 (Yb yf3 (Yb y4 (Yb yf4 (Yb y5 (Yb yf5 (Yb y6 (Yb yf6 (Yb y7 (Yb yf7 (Yb z0 (Yb zf0 (Yb z1 (Yb zf1 (Yb z2 (Yb zf2 (Yb z3 (Yb zf3 (Yb z4 (Yb zf4 (Yb z5 (Yb zf5 (Yb z6 (Yb zf6 z7))))))))))))))))))))))))))))):p:=h
theorem amg(h:p:=by
 have q3:=GA7.out;have q2:=GB7.out;have y0:w7.cell? ⟨w4.heap.size,0,U⟩=Y3 (I t1):=an q3 0;have yf0:=al q3 0;have y1:w7.cell? ⟨w4.heap.size,1,U⟩=Y3 (Y4 Y5 (1+r2)):=an q3 1;have yf1:=al q3 1;have y2:w7.cell? ⟨w4.heap.size,2,U⟩=Y3 (I t3):=an q3 2;have yf2:=al q3 2;have y3:w7.cell? ⟨w4.heap.size,3,U⟩=Y3 (Y7 (!x4)):=an q3 3;have yf3:=al q3 3;have y4:w7.cell? ⟨w4.heap.size,4,U⟩=Y3 (I ⟨#[]⟩):=an q3 4;have yf4:=al q3 4;have z707z:=@aa _ @U3;exact yy):p:=h
theorem akT(h:p:=by
 have fo0:=al Bo5.out 0;have fo1:=al Bo5.out 1;have fo2:=al Bo5.out 2;have fo3:=al Bo5.out 3;have fo4:=al Bo5.out 4;have fo5:=al Bo5.out 5;have z1545z:=@aa _ @EJ;exact rQ):p:=h
theorem akP(h:p:=by
 have fr0:=al Br4.out 0;have fr1:=al Br4.out 1;have fr2:=al Br4.out 2;have fr3:=al Br4.out 3;have fr4:=al Br4.out 4;have fr5:=al Br4.out 5;have fr6:=al Br4.out 6;have fr7:=al Br4.out 7;have hol:=ae Bo4.out;have hrl:=ae Br4.out;exact Yb fr0 (Yb fr1 (Yb fr2 (Yb fr3 (Yb fr4 (Yb fr5 (Yb fr6 (Yb fr7 (Yb hol hrl))))))))):p:=h
theorem akO(h:p:=by
 have HT:Hid (av c):=HOK.2.1;have hj1:j<l1:=by have:=(Yc.1 HNJ.out).1;omega
 have hj2:(j:Int)<l1:=af
 have hj0:¬(j:Int)<0:=af
 exact Yb HT (Yb hj1 (Yb hj2 hj0))):p:=h
theorem akK(h:p:=by
 have Bo5:=aa ((hb5.block w3.heap.size af).trans Bo4.out);have Br5:=aa ((hb5.block (w.heap.size+1) af).trans Br4.out);have H35:=aa (HB34.trans (hb5.mono af));have HB5:=aa (HB.trans (H35.mono af));have hsel:=Sel.erase (xs:=c.ps) (vss:=vss) af (k:=i) af;exact Yb Bo5 (Yb Br5 (Yb H35 (Yb HB5 hsel)))):p:=h
theorem akH(h:p:=by
 have hq1:w.heap.size+1<w1.heap.size:=HQ1.out;have hq2:w1.heap.size<=w3.heap.size:=HQ2.out;have hgS:=(by obtain⟨⟨cur,H,h1,_⟩,_⟩:=hS;exact⟨h1.inS,ae h1.blk⟩:(w1.heap.size<=g/\g<w3.heap.size)/\g<w3.heap.size);exact Yb hq1 (Yb hq2 hgS)):p:=h
theorem ai3(h:p:=by
 have HD7:=aa (HD6.next hs hg);have GA7:=aa (gk hg af GA6.out);have GB7:=aa (gk hg af GB6.out);exact Yb HD7 (Yb GA7 GB7)):p:=h
theorem vm(h:p:=by
 have HD8:=aa (HD7.next hs hg);have GA8:=aa (gk hg af GA7.out);have GB8:=aa (gk hg af GB7.out);exact Yb HD8 (Yb GA8 GB8)):p:=h
theorem Nl(h:p:=by
 have hne:¬w.heap.size+1=w3.heap.size:=af
 have hne2:¬w3.heap.size=w.heap.size+1:=af
 exact Yb hne hne2):p:=h
theorem aiu(h:p:=by
 go_wp2;exact bodyPost_ret (v:=Za #[J U 0 0,J U 0 0,J U 0 0,J U 0 0,J U 0 0,Y4 Y5 0,I ⟨#[]⟩,Y4 Y5 p]) M3 rfl ⟨ad0,co0 p,rfl,HV.out,(rl0 _ _),sb1 (sb1 (sb1 (sb1 (sb1 (sb1 (sb1 (sb1 (HB.out))))))))⟩):p:=h
theorem ait(h:p:=by
 go_wp2;exact bodyPost_ret (v:=Za #[J U 0 0,J U 0 0,J U 0 0,J U 0 0,J U 0 0,Y4 Y5 0,I ⟨#[]⟩,Y4 Y5 p]) M1 rfl ⟨ad0,co0 p,rfl,HV.out,(rl0 _ _),sb1 (sb1 (sb1 (sb1 (sb1 (sb1 (sb1 (sb1 (HB.out))))))))⟩):p:=h
theorem ais(h:p:=by
 go_wp2;exact bodyPost_ret (v:=Za #[J U 0 0,J U 0 0,J U 0 0,J U 0 0,J U 0 0,Y4 Y5 0,I ⟨#[]⟩,Y4 Y5 10]) M1 rfl ⟨ad0,co0 10,rfl,HV.out,(rl0 _ _),sb1 (sb1 (sb1 (sb1 (sb1 (sb1 (sb1 (sb1 (HB.out))))))))⟩):p:=h
theorem air(h:p:=by
 go_wp2;exact bodyPost_ret (v:=Za #[J U 0 0,J U 0 0,J U 0 0,J U 0 0,J U 0 0,Y4 Y5 0,I ⟨#[]⟩,Y4 Y5 p]) M0 rfl ⟨ad0,co0 p,rfl,HV.out,(rl0 _ _),sb1 (sb1 (sb1 (sb1 (sb1 (sb1 (sb1 (sb1 (HB.out))))))))⟩):p:=h
theorem aiq(h:p:=by
 go_wp2;exact bodyPost_ret (v:=Za #[J U 0 0,J U 0 0,J U 0 0,J U 0 0,J U 0 0,Y4 Y5 0,I ⟨#[]⟩,Y4 Y5 10]) M0 rfl ⟨ad0,co0 10,rfl,HV.out,(rl0 _ _),sb1 (sb1 (sb1 (sb1 (sb1 (sb1 (sb1 (sb1 (HB.out))))))))⟩):p:=h
theorem aeK(h:p:=by
 have z535z:=@aa _ @Xy;exact fa):p:=h
theorem cL(h:p:=by
 have z500z:=@aa _ @X5;exact ln):p:=h
theorem ad3(h:p:=by
 go_wp2_with fail;refine (iQ d c.now c.ns t _ (HR.n.below HB.out)).mono ?_;rintro e w2 ⟨hb,hf⟩;clear k0 k1 k2 k3 k4 k5 ltk_1;replace Bk:=upK Bk hb;replace HB:=upB HB hb;clear hb;rcases hf with ⟨j,n,hn,hnn,rfl⟩|⟨hno,rfl⟩
 ·have hj0:¬(j:Int)<0:=af
  have HN:=aa (Yb hn hnn);clear hn hnn;have z828z:=@aa _ @Th;exact cB
 have HN:=aa hno;clear hno;have z828z:=@aa _ @Ti;exact cB):p:=h
theorem ad2(h:p:=by
 go_wp2;exact bodyPost_ret (v:=Ze #[Y4 Y5 0,Y4 Y5 p]) MY rfl ⟨HB.out,Zc ⟨i,p,HP.1,HP.2.1,HP.2.2,rfl⟩⟩):p:=h
theorem ady(h:p:=by
 clear hown5 hgr5 hb5 hsel hrec hR ht2 hlen5 hik hik1 hmi hd0 hvd hmn;exact ak9):p:=h
theorem adx(h:p:=by
 clear hown5 hgr5 hb5 hsel hrec hR ht2 hlen5 hik hik1 hcap hmn;exact ak9):p:=h
theorem zB(h:p:=by
 have hb5:Below (w3.heap.size+1) w4 w5:=(Yh (w3.heap.size+1) w4).grown hgr5 af (λg hg=>(HO4.lt g hg).1);obtain⟨t1,t2,t3,rfl⟩:=aA hown5;obtain⟨Bo5,Br5,H35,HB5,hsel⟩:=akK;rw[<-HW.out] at hsel;have hrec:=(hsel.i_ (HVR.below H35.out)).az (w':=w5) (S':=λk=>(w2.heap.size<=k/\k<w3.heap.size)\/w3.heap.size+1<=k) (λ_ _ _ _=>rfl) (λk _ s=>Zc s);have z749z:=@aa _ @Uy;exact yj):p:=h
theorem acX(h:p:=by
 refine⟨⟨cur.setIfInBounds (j*m+i) (J U 0 0),H,⟨au h1.blk _,h1.inS,la h3 h1.len,λj' r' hj' i' f' hi'=>?_,λj' r' i' zs' j2 r2 i2 zs2 hj' hi' hz' hj2 hi2 hz2 hH=>?_⟩,λj' r' i' zs' hj' hi' hz'=>?_⟩,h2.set h1.inS,h3⟩
 ·rcases eL h3 hil hj' hi' with ⟨rfl,rfl,rfl⟩|⟨hne,r0,q1,q2⟩
  ·exact⟨_,by rw[Array.getElem?_setIfInBounds_self_of_lt hin],⟨U,0,0,rfl,rfl,Ye _,by decide,λj x hx=>by simp at hx,Zc rfl⟩⟩
  ·exact Nu
 ·exact Pm
 ·obtain⟨r0,b1,b2⟩:=back j' r' i' zs' hj' hi' hz';exact hN j' r0 i' zs' b1 b2 hz'):p:=h
theorem zv(h:p:=by
 have hget:=h.get;obtain⟨⟨cur,H,h1,hN⟩,h2,h3⟩:=h;have hil:i<r.length:=(Yc.1 hi).1;have hrm:r.length=m:=h1.len j r hget;obtain⟨v0,hc0,-⟩:=h1.cell j r hget i _ hi;have hin:j*m+i<cur.size:=(Yw.1 hc0).1;have back:∀(j':Nat) r' (i':Nat) zs',(rs.set j (r.set i (.l [])))[j']?=Y3 r'->r'[i']?=Y3 (.l zs')->zs'≠[]->∃r0,(rs.set j r)[j']?=Y3 r0/\r0[i']?=Y3 (.l zs'):=by
  exact ajI
 exact z266z):p:=h
theorem acE(h:p:=by
 clear q2 q3 GA8 GB8;go_wp2_with fail;refine bodyPost_ret (v:=Za #[I t1,Y4 Y5 (1+r2),I t3,I t4,Y7 (!x5),I ⟨#[]⟩,Y7 Y8,J (Y3 ⟨w8.heap.size,0,U⟩) 2 2]) tC rfl ⟨_,_,_,_,_,_,_,Y3 ⟨w8.heap.size,0,U⟩,2,2,[⟨#[110,49]⟩,t8],rfl,ht1,ht3,ht4,ag,?_,Zb ⟨_,rfl,by omega⟩,HDZ.out⟩;refine ay.copy (T:=9) HLB.out rfl ag ?_;intro j x hx;match j,hx with
 | 0,hx=>cases hx;decide
 | 1,hx=>cases hx;omega
 | j+2,hx=>simp at hx):p:=h
theorem acD(h:p:=by
 clear q2 q3;go_wp2_with fail;exact bodyPost_ret (v:=Za #[I t1,Y4 Y5 r8,I t3,I t4,Y7 (!x5),I ⟨#[]⟩,Y7 Y8,J U 0 0]) tC rfl ⟨_,_,_,_,_,_,_,U,0,0,[],rfl,ht1,ht3,ht4,ag,⟨rfl,Ye _,by omega,λj x hx=>by simp at hx,Zc rfl⟩,Zc rfl,(((((((((HD8.set (b:=w5.heap.size) (i:=1) _ (Nat.le_of_lt hA)).set (b:=w.heap.size) (i:=0) _ (Ye _)).set (b:=w.heap.size) (i:=1) _ (Ye _)).set (b:=w.heap.size) (i:=2) _ (Ye _)).set (b:=w.heap.size) (i:=3) _ (Ye _)).set (b:=w.heap.size) (i:=4) _ (Ye _)).set (b:=w.heap.size) (i:=5) _ (Ye _)).set (b:=w.heap.size) (i:=6) _ (Ye _)).set (b:=w.heap.size) (i:=7) _ (Ye _))⟩):p:=h
theorem acC(h:p:=by
 clear q2 q3;go_wp2_with fail;exact bodyPost_ret (v:=Za #[I t1,Y4 Y5 (1+r2),I t3,I t4,Y7 (!x5),I t8,Y7 Y8,J U 0 0]) tC rfl ⟨_,_,_,_,_,_,_,U,0,0,[],rfl,ht1,ht3,ht4,ht8,⟨rfl,Ye _,by omega,λj x hx=>by simp at hx,Zc rfl⟩,Zc rfl,(((((((((HD8.set (b:=w5.heap.size) (i:=5) _ (Nat.le_of_lt hA)).set (b:=w.heap.size) (i:=0) _ (Ye _)).set (b:=w.heap.size) (i:=1) _ (Ye _)).set (b:=w.heap.size) (i:=2) _ (Ye _)).set (b:=w.heap.size) (i:=3) _ (Ye _)).set (b:=w.heap.size) (i:=4) _ (Ye _)).set (b:=w.heap.size) (i:=5) _ (Ye _)).set (b:=w.heap.size) (i:=6) _ (Ye _)).set (b:=w.heap.size) (i:=7) _ (Ye _))⟩):p:=h
theorem pO(h:p:=by
 have y0:w8.cell? ⟨w5.heap.size,0,U⟩=Y3 (I t1):=an q3 0;obtain⟨yf0,y1,yf1,y2,yf2,y3,yf3,y4,yf4,y5,yf5,y6,yf6,y7,yf7,z0,zf0,z1,zf1,z2,zf2,z3,zf3,z4,zf4,z5,zf5,z6,zf6,z7⟩:=amh;have zf7:=al q2 7;exact z291z):p:=h
theorem acf(h:p:=by
 rcases hA with ⟨hR,_⟩|⟨_,_,_,_,_,_,hne⟩
 ·obtain⟨q1,_,_,q4,_⟩:=cF.right hT hn _ c1 hR;have hs:=q1.sm;refine bM.marks (c:=plC c1 (pl Pd.n c.ps t) x n.n) (Sm.fit ⟨hs.n,hs.ns,hs.k,hs.v,hs.vs,hs.x,?_,λj y hy=>?_⟩)
  ·show (c1.ps.set _ _).length<=_;rw[YK];exact hs.p
  ·have hy':(c1.ps.set (pl Pd.n c.ps t) (onP x n.n))[j]?=Y3 y:=hy;have h3:c1.ps[pl Pd.n c.ps t]?=Y3 x:=by rw[q4];exact h3
   rw[ch (Yc.1 h3).1] at hy';split at hy'
   ·obtain rfl:=Yd hy';exact hs.ps _ x h3
   ·exact hs.ps j y hy'
 ·exact absurd rfl hne):p:=h
theorem ace(h:p:=by
 rcases hA with ⟨hR,_⟩|⟨_,_,_,_,_,_,hne⟩
 ·obtain⟨_,q2,q3,_,_⟩:=cF.right hT hn _ c1 hR;exact⟨by show c1.ns.length=_;rw[q2],by show c1.ks.length=_;rw[q3]⟩
 ·exact absurd rfl hne):p:=h
theorem zo(h:p:=by
 have hn:=(hT.2.1.1.2.1 _ _ h4.1).2.1;rcases h5 with ⟨_,e⟩|⟨_,⟨_,e⟩|⟨_,⟨_,e⟩|⟨_,c1,e1,hA,⟨h1,e⟩|⟨rfl,⟨_,e⟩|⟨_,_,rfl⟩⟩⟩⟩⟩
 ·exact absurd e ag
 ·exact absurd e ag
 ·exact absurd e ag
 ·exact absurd e.symm h1
 ·exact absurd e ag
 exact z322z):p:=h
theorem acd(h:p:=by
 exact bodyPost_ret (v:=Za #[I t1,Y4 Y5 (1+r2),I t3,Y7 (!x4),I t7]) zJ rfl ⟨_,_,_,_,_,rfl,ht1,ht3,ht7,((((((HD7.set (b:=w4.heap.size) (i:=4) _ (Nat.le_of_lt hA)).set (b:=w.heap.size) (i:=0) _ (Ye _)).set (b:=w.heap.size) (i:=1) _ (Ye _)).set (b:=w.heap.size) (i:=2) _ (Ye _)).set (b:=w.heap.size) (i:=3) _ (Ye _)).set (b:=w.heap.size) (i:=4) _ (Ye _))⟩):p:=h
theorem acb(h:p:=by
 exact bodyPost_ret (v:=Za #[I t1,Y4 Y5 r7,I t3,Y7 (!x4),I ⟨#[]⟩]) zJ rfl ⟨_,_,_,_,_,rfl,ht1,ht3,ag,((((((HD7.set (b:=w4.heap.size) (i:=1) _ (Nat.le_of_lt hA)).set (b:=w.heap.size) (i:=0) _ (Ye _)).set (b:=w.heap.size) (i:=1) _ (Ye _)).set (b:=w.heap.size) (i:=2) _ (Ye _)).set (b:=w.heap.size) (i:=3) _ (Ye _)).set (b:=w.heap.size) (i:=4) _ (Ye _))⟩):p:=h
theorem aca(h:p:=by
 exact bodyPost_ret (v:=Za #[I t1,Y4 Y5 (1+r2),I t7,Y7 (!x4),I ⟨#[]⟩]) zJ rfl ⟨_,_,_,_,_,rfl,ht1,ht7,ag,((((((HD7.set (b:=w4.heap.size) (i:=2) _ (Nat.le_of_lt hA)).set (b:=w.heap.size) (i:=0) _ (Ye _)).set (b:=w.heap.size) (i:=1) _ (Ye _)).set (b:=w.heap.size) (i:=2) _ (Ye _)).set (b:=w.heap.size) (i:=3) _ (Ye _)).set (b:=w.heap.size) (i:=4) _ (Ye _))⟩):p:=h
theorem pH(h:p:=by
 obtain⟨HD7,GA7,GB7⟩:=ai3;clear hs hg GA6 GB6 HD6;obtain⟨q3,q2,y0,yf0,y1,yf1,y2,yf2,y3,yf3,y4,yf4,z0,zf0,z1,zf1,z2,zf2,z3,zf3,z4,zf4⟩:=amg;clear q2 q3;go_wp2_with fail;exact z325z):p:=h
theorem abS(h:p:=by
 exact⟨1+r,rfl,by omega,by omega,HS2.out,HG2.out⟩):p:=h
theorem abR(h:p:=by
 exact⟨50*r,rfl,by omega,by omega,HS2.out,HG2.out⟩):p:=h
theorem zj(h:p:=by
 go_wp2_with fail;refine (HS1.n 90 ag).mono ?_;rintro e w2 ⟨r,rfl,r0,r1,hS2,hg2⟩;have HS2:Hid (Src B w0 p v len w2):=hS2;have HG2:Hid (w.grownBy w2 (Y3 p)):=bS HG1.out hg2;have hr:r<=90:=af
 clear hS2 hg2 HS1 HG1 r1;go_wp2;go_ret;exact z354z):p:=h
theorem abG(h:p:=by
 have hH:∀j' i',¬(j'=j/\i'=i)->(if j'=j/\i'=i then b else H j' i')=H j' i':=λj' i' hn=>if_neg hn;refine⟨⟨cur.setIfInBounds (j*m+i) (J (Y3 ⟨b,0,U⟩) len cap),λj' i'=>if j'=j/\i'=i then b else H j' i',⟨au h1.blk _,h1.inS,la h3 h1.len,λj' r' hj' i' f' hi'=>?_,λj' r' i' zs' j2 r2 i2 zs2 hj' hi' hz' hj2 hi2 hz2 hHH=>?_⟩,λj' r' i' zs' hj' hi' hz'=>?_⟩,h2.set h1.inS,h3⟩
 ·rcases eL h3 hil hj' hi' with ⟨rfl,rfl,rfl⟩|⟨hne,r0,q1,q2⟩
  ·refine⟨_,by rw[Array.getElem?_setIfInBounds_self_of_lt hin],?_⟩;rw[if_pos ⟨rfl,rfl⟩];exact Fv.Own.iV (u:=.l zs) hv
  ·obtain⟨v',k1,k2⟩:=h1.cell j' r0 q1 i' f' q2;have hil':i'<r0.length:=(Yc.1 q2).1;have hrm':=h1.len j' r0 q1;refine⟨v',?_,?_⟩
   ·exact Oe
   ·rw[if_neg hne];exact k2.iV
 ·try simp only[] at hHH
  rcases eL h3 hil hj' hi' with ⟨rfl,rfl,e1⟩|⟨hne,r0,q1,q2⟩
  ·rcases eL h3 hil hj2 hi2 with ⟨rfl,rfl,e2⟩|⟨hne2,r3,q3,q4⟩
   ·exact⟨rfl,rfl⟩
   ·rw[if_pos ⟨rfl,rfl⟩,if_neg hne2] at hHH;cases e1;exact absurd (hHH ▸ hb hz') (hN _ _ _ _ q3 q4 hz2)
  ·rcases eL h3 hil hj2 hi2 with ⟨rfl,rfl,e2⟩|⟨hne2,r3,q3,q4⟩
   ·rw[if_neg hne,if_pos ⟨rfl,rfl⟩] at hHH;cases e2;exact absurd (hHH ▸ hb hz2) (hN _ _ _ _ q1 q2 hz')
   ·rw[if_neg hne,if_neg hne2] at hHH;exact h1.inj _ _ _ _ _ _ _ _ q1 q2 hz' q3 q4 hz2 hHH
 ·try simp only[]
  rcases eL h3 hil hj' hi' with ⟨rfl,rfl,e1⟩|⟨hne,r0,q1,q2⟩
  ·rw[if_pos ⟨rfl,rfl⟩];exact λq=>q.2 rfl
  ·rw[if_neg hne];exact λq=>hN _ _ _ _ q1 q2 hz' q.1):p:=h
theorem abF(h:p:=by
 have hki:(k:Int)<8:=af
 clear hS0 hS2 hg2 hblk hx HS1 HG1 r1 r0;go_wp2;go_ret;exact⟨x,rfl,x0,x1,HS2.out,HG.out⟩):p:=h
theorem abE(h:p:=by
 have hki:(k:Int)<5:=af
 clear hS0 hS2 hg2 hblk hx HS1 HG1 r1 r0;go_wp2;go_ret;exact⟨x,rfl,x0,x1,HS2.out,HG.out⟩):p:=h
theorem zh(h:p:=by
 have hc:w2.cell? ⟨w1.heap.size,k,U⟩=Y3 (Y4 Y5 x):=by
  simp only[World.cell?,hblk];simpa using hx
 have HS2:Hid (Src B w0 p v len w2):=hS2;have HG:Hid (w.grownBy w2 (Y3 p)):=bS HG1.out (bS (cw w1 _ _) hg2);exact z370z):p:=h
theorem aaJ(h:p:=by
 have HB:=aa (Yh w.heap.size w);go_enter Tryz.func64,Tryz.ntmps64;have z798z:=@aa _ @TY;exact je):p:=h
theorem aaI(h:p:=by
 have HB:=aa (Yh w.heap.size w);go_enter Tryz.func12,Tryz.ntmps12;have z1642z:=@aa _ @DE;exact lY):p:=h
theorem aaH(h:p:=by
 have HB:=aa (Yh w.heap.size w);go_enter Tryz.func70,Tryz.ntmps70;have z1642z:=@aa _ @DD;exact lY):p:=h
theorem X5(h:p:=by
 exact z138z):p:=h
theorem Xy(h:p:=by
 go_wp2;exact bodyPost_ret (v:=Za #[J U 0 0,J U 0 0,J U 0 0,J U 0 0,J U 0 0,Y4 Y5 0,I ⟨#[]⟩,Y4 Y5 6]) M3 rfl ⟨ad0,co0 6,rfl,HV.out,(rl0 _ _),sb1 (sb1 (sb1 (sb1 (sb1 (sb1 (sb1 (sb1 (HB.out))))))))⟩):p:=h
theorem U4(h:p:=by
 have z3:w7.cell? ⟨w.heap.size,3,U⟩=Y3 (I ⟨#[]⟩):=an q2 3;have zf3:=al q2 3;have z4:w7.cell? ⟨w.heap.size,4,U⟩=Y3 (Y7 Y8):=an q2 4;have zf4:=al q2 4;have z5:w7.cell? ⟨w.heap.size,5,U⟩=Y3 (I ⟨#[]⟩):=an q2 5;have zf5:=al q2 5;have z6:w7.cell? ⟨w.heap.size,6,U⟩=Y3 (Y7 Y8):=an q2 6;have zf6:=al q2 6;have z7:w7.cell? ⟨w.heap.size,7,U⟩=Y3 (J U 0 0):=an q2 7;have zf7:=al q2 7;clear q2 q3;go_wp2_with fail;exact bodyPost_ret (v:=Za #[I t1,Y4 Y5 (1+r2),I t3,I t4,Y7 (!x5),I ⟨#[]⟩,Y7 Y_,J U 0 0]) tC rfl ⟨_,_,_,_,_,_,_,U,0,0,[],rfl,ht1,ht3,ht4,ag,⟨rfl,Ye _,by omega,λj x hx=>by simp at hx,Zc rfl⟩,Zc rfl,(((((((((HD7.set (b:=w5.heap.size) (i:=6) _ (Nat.le_of_lt hA)).set (b:=w.heap.size) (i:=0) _ (Ye _)).set (b:=w.heap.size) (i:=1) _ (Ye _)).set (b:=w.heap.size) (i:=2) _ (Ye _)).set (b:=w.heap.size) (i:=3) _ (Ye _)).set (b:=w.heap.size) (i:=4) _ (Ye _)).set (b:=w.heap.size) (i:=5) _ (Ye _)).set (b:=w.heap.size) (i:=6) _ (Ye _)).set (b:=w.heap.size) (i:=7) _ (Ye _))⟩):p:=h
theorem U3(h:p:=by
 have z3:w7.cell? ⟨w.heap.size,3,U⟩=Y3 (Y7 Y8):=an q2 3;have zf3:=al q2 3;have z4:w7.cell? ⟨w.heap.size,4,U⟩=Y3 (I ⟨#[]⟩):=an q2 4;have zf4:=al q2 4;exact Yb q3 (Yb q2 (Yb y0 (Yb yf0 (Yb y1 (Yb yf1 (Yb y2 (Yb yf2 (Yb y3 (Yb yf3 (Yb y4 (Yb yf4 (Yb z0 (Yb zf0 (Yb z1 (Yb zf1 (Yb z2 (Yb zf2 (Yb z3 (Yb zf3 (Yb z4 zf4))))))))))))))))))))):p:=h
theorem yy(h:p:=by
 have z0:w7.cell? ⟨w.heap.size,0,U⟩=Y3 (I ⟨#[]⟩):=an q2 0;have zf0:=al q2 0;have z1:w7.cell? ⟨w.heap.size,1,U⟩=Y3 (Y4 Y5 0):=an q2 1;have zf1:=al q2 1;have z2:w7.cell? ⟨w.heap.size,2,U⟩=Y3 (I ⟨#[]⟩):=an q2 2;have zf2:=al q2 2;exact z707z):p:=h
theorem UT(h:p:=by
 have hp0:(¬p=0/\∃i,gj c t i/\p=bu i)\/(p=0/\¬8000<t.size/\av c):=by
  exact Pn
 clear hp;rcases hp0 with ⟨hp0,i,hw,hpi⟩|⟨rfl,hl,hT⟩
 ·have HP:=aa (Yb hw (Yb hpi hp0));have hp1:(p==0)=Y8:=mU
  clear hw hpi hp0;have z177z:=@aa _ @ad2;exact dx
 have HT:=aa hT;clear hT;have z177z:=@aa _ @ad3;exact dx):p:=h
theorem UM(h:p:=by
 refine (HD1.src.n 12 ag).mono ?_;have z1036z:=@aa _ @Mu;exact mQ):p:=h
theorem UL(h:p:=by
 refine (HD1.src.n 6 ag).mono ?_;have z1036z:=@aa _ @Mt;exact mQ):p:=h
theorem yq(h:p:=by
 have z1382z:=@aa _ @Hp;exact sg):p:=h
theorem Uy(h:p:=by
 have HT2:=aa ht2;have HR5:=aa hR;have hs5:=hb5.size;have z1120z:=@aa _ @Lv;exact sU):p:=h
theorem yj(h:p:=by
 obtain⟨q1,q2,hq,hR⟩:=hrec.own hown5 aF ag (λg hg=>Zb (hown5.lt g hg).1);rw[Yr] at hq hR;simp only[Value.slice.injEq] at hq;obtain⟨rfl,ht2,rfl⟩:=hq;rw[<-ht2] at hR;exact z749z):p:=h
theorem Uo(h:p:=by
 rintro _ ⟨q1,rfl⟩;go_wp2;exact⟨⟨k+1,by omega,by go_num,HR2.below q1.b,HK2.below q1.b⟩,by simp[intOf];omega⟩):p:=h
theorem T_(h:p:=by
 rcases he with rfl|rfl
 ·go_wp2_with fail;have hS0:=HS1.az (cw w1 (Y6 (BX.map (Value.int Y5)).toArray 2) U) aF (λk hk=>by cases hk);refine (hS0.n 8 ag).mono ?_;rintro e w2 ⟨r,rfl,r0,r1,hS2,hg2⟩;obtain⟨k,rfl⟩:=Int.eq_ofNat_of_zero_le r0;have hk:k<8:=af
  obtain⟨x,hx,x0,x1⟩:=ints_at BX ag k hk;have hpw:p<w1.heap.size:=HS1.nJ;have hblk:w2.heap[w1.heap.size]?=Y3 (Y6 (BX.map (Value.int Y5)).toArray 2 (0,0)):=by
   exact OR
  have z370z:=@aa _ @abF;exact zh
 ·have z354z:=@aa _ @abS;exact zj):p:=h
theorem T9(h:p:=by
 rcases he with rfl|rfl
 ·go_wp2_with fail;have hS0:=HS1.az (cw w1 (Y6 (aj_.map (Value.int Y5)).toArray 2) U) aF (λk hk=>by cases hk);refine (hS0.n 5 ag).mono ?_;rintro e w2 ⟨r,rfl,r0,r1,hS2,hg2⟩;obtain⟨k,rfl⟩:=Int.eq_ofNat_of_zero_le r0;have hk:k<5:=af
  obtain⟨x,hx,x0,x1⟩:=ints_at aj_ ag k hk;have hpw:p<w1.heap.size:=HS1.nJ;have hblk:w2.heap[w1.heap.size]?=Y3 (Y6 (aj_.map (Value.int Y5)).toArray 2 (0,0)):=by
   exact OR
  have z370z:=@aa _ @abE;exact zh
 ·have z354z:=@aa _ @abR;exact zj):p:=h
theorem yf(h:p:=by
 go_wp2_with fail;refine H1.mono ?_;rintro e w1 ⟨he,hS1,hg1⟩;have HS1:Hid (Src B w0 p v len w1):=hS1;have HG1:Hid (w.grownBy w1 (Y3 p)):=hg1;clear hS1 hg1 H1;exact z780z):p:=h
theorem T0(h:p:=by
 have hf5:=hS.nN (j*7+5);have HST:=aa hS;have HO:=aa ho;have hne:¬g=w3.heap.size:=af
 have hne2:¬w3.heap.size=g:=af
 clear hS ho hga;have z1147z:=@aa _ @K7;exact bI):p:=h
theorem TZ(h:p:=by
 obtain⟨v6,hv6⟩:=hS.cell (i:=6) rfl;obtain⟨v4,hv4⟩:=hS.cell (i:=4) rfl;have hf5:=hS.nN (j*7+5);have hf6:=hS.nN (j*7+6);have hf4:=hS.nN (j*7+4);have z1650z:=@aa _ @Dy;exact rr):p:=h
theorem xZ(h:p:=by
 rw[hd] at hd5;clear hd;have HQ1:Hid (w.heap.size+1<w1.heap.size):=ae Br.out;have z1169z:=@aa _ @KH;exact fB):p:=h
theorem TY(h:p:=by
 have hp0:(¬p=0/\cQ c t (co0 p))\/(p=0/\¬8000<t.size/\av c):=by
  exact zZ
 clear hp;rcases hp0 with ⟨hp0,hV⟩|⟨rfl,hl,hT⟩
 ·have z1631z:=@aa _ @DM;exact jq
 have HT:=aa hT;clear hT;obtain⟨k0,k1,k2,k3,k4,k5⟩:=cs6 Bk;have ltk_1:=ae Bk.out;go_wp2_with fail;refine (gD ⟨a1,l1,y1,a2,l2,y2,a3,l3,y3,a4,l4,y4,a5,l5,y5⟩ c.now c.ps t _ (HR.p.below HB.out)).mono ?_;rintro e w2 ⟨hb,hf⟩;clear k0 k1 k2 k3 k4 k5 ltk_1;have z1388z:=@aa _ @Hj;exact bj):p:=h
theorem je(h:p:=by
 go_wp2_with fail;refine (lO ⟨a1,l1,y1,a2,l2,y2,a3,l3,y3,a4,l4,y4,a5,l5,y5⟩ c t _ (HR.below (HB.trans ((aR _ _ _).mono HB.size)))).mono ?_;rintro e w1 ⟨p,rfl,hp,hb⟩;have z1186z:=@aa _ @Kt;exact fA):p:=h
theorem Ti(h:p:=by
 go_wp2;exact bodyPost_ret (v:=Ze #[Y4 Y5 0,Y4 Y5 6]) MY rfl ⟨HB.out,Zc ⟨2,6,⟨hl,HT.out,fW HN.out⟩,rfl,by decide,rfl⟩⟩):p:=h
theorem Th(h:p:=by
 go_wp2;exact bodyPost_ret (v:=Ze #[Y4 Y5 j,Y4 Y5 0]) MY rfl ⟨HB.out,Zb ⟨j,n,HN.1,⟨hl,HT.out,by rw[(a_ HT.2.1.1.2.2 HN.1 HN.2).1];exact HN.1,HN.2⟩,rfl⟩⟩):p:=h
theorem Mv(h:p:=by
 have rc2:r2<=20:=af
 clear rb2;go_wp2_with fail;refine (qE HD2.src).mono ?_;have z1379z:=@aa _ @Hs;exact sh):p:=h
theorem Mu(h:p:=by
 have rc2:r2<=12:=af
 clear rb2;go_wp2_with fail;refine (bZ HD2.src [⟨#[102,97,115,116]⟩,⟨#[115,108,111,119]⟩,⟨#[115,108,111,119]⟩] 3 _ _ aF rfl ag ag ag).mono ?_;have z1379z:=@aa _ @Hr;exact sh):p:=h
theorem Mt(h:p:=by
 have rc2:r2<=6:=af
 clear rb2;have HP3:Hid (PSt B w0 p v len w w2.heap.size 3 (w2.alloc (Y6 #[I t1,Y4 Y5 (250*r2),I ⟨#[]⟩,J U 0 0,I ⟨#[]⟩,Y4 Y5 0] 40))):=⟨t1,250*r2,⟨#[]⟩,J U 0 0,[],⟨#[]⟩,0,Yg,⟨ht1,by decide,by decide⟩,by simp,λj x hx=>by simp at hx,⟨rfl,Zc ⟨rfl,rfl⟩⟩,HD2.alloc _,(Ym _ _ _ (ae G2.out)).trans G2.out,ae G2.out⟩;clear HD2 G2;go_wp2_with fail;generalize (w2.alloc (Y6 #[I t1,Y4 Y5 (250*r2),I ⟨#[]⟩,J U 0 0,I ⟨#[]⟩,Y4 Y5 0] 40))=W2 at*;generalize w2.heap.size=b at*;refine (cU HP3.src 3 ag).mono ?_;rintro e w3 ⟨he,hs,hg⟩;obtain⟨x12,rfl⟩:=eC he;have HP4:=aa (HP3.next hs hg);clear hs hg he HP3 ra2 rc2 ht1;go_upto_if 12 with fail;go_cut [3] from 13 to 15 (λs wx=>s=Zd (Y3 ⟨b,0,U⟩)/\PSt B w0 p v len w b 3 wx);case first=>
  cases x12 with
  | false=>
   go_wp2_with fail
   go_meet
   exact⟨rfl,HP4.out⟩
  | true=>
   go_wp2_with fail;refine (qE HP4.src).mono ?_;rintro e w4 ⟨t,rfl,ht,hs,hg⟩;have HP5:=aa (HP4.next hs hg);have HP6:=aa (HP5.set.2.1 t ht);obtain⟨n,c,z,lv,zs,d,ph,q,-⟩:=HP5.out;have y0:w4.cell? ⟨b,0,U⟩=Y3 (I n):=an q 0;have yf0:=al q 0;have y1:w4.cell? ⟨b,1,U⟩=Y3 (Y4 Y5 c):=an q 1;have yf1:=al q 1;have y2:w4.cell? ⟨b,2,U⟩=Y3 (I z):=an q 2;have yf2:=al q 2;have y3:w4.cell? ⟨b,3,U⟩=Y3 (lv):=an q 3;have yf3:=al q 3;have y4:w4.cell? ⟨b,4,U⟩=Y3 (I d):=an q 4;have yf4:=al q 4;have y5:w4.cell? ⟨b,5,U⟩=Y3 (Y4 Y5 ph):=an q 5;have yf5:=al q 5;clear q;clear hs hg HP4 HP5;go_wp2_with fail
   go_meet
   exact⟨rfl,HP6.out⟩
 case rest=>
  obtain⟨rfl,hP⟩:=hcut;have HP5:=aa hP;clear hP HP4;go_wp2_with fail;refine (cU HP5.src 2 ag).mono ?_;rintro e w5 ⟨he,hs,hg⟩;obtain⟨x17,rfl⟩:=eC he;have HP6:=aa (HP5.next hs hg);clear hs hg he HP5;go_upto_if 17 with fail;go_cut [3] from 18 to 29 (λs wx=>s=Zd (Y3 ⟨b,0,U⟩)/\PSt B w0 p v len w b 3 wx);case first=>
   cases x17 with
   | true=>
    go_wp2_with fail;refine (bZ HP6.src [⟨#[99,49]⟩,⟨#[99,50]⟩,⟨#[99,51]⟩,⟨#[99,52]⟩] 4 _ _ aF rfl ag ag ag).mono ?_;rintro e w6 ⟨t,rfl,ht,hs,hg⟩;have HP7:=aa (HP6.next hs hg);have HP8:=aa (HP7.lay [t] aF aF (λx hx=>by simp at hx;rw[hx];exact ht) 1 rfl);have hbl:=HP7.lt;obtain⟨n,c,z,lv,zs,d,ph,q,-⟩:=HP7.out;have y0:w6.cell? ⟨b,0,U⟩=Y3 (I n):=an q 0;have yf0:=al q 0;have y1:w6.cell? ⟨b,1,U⟩=Y3 (Y4 Y5 c):=an q 1;have yf1:=al q 1;have y2:w6.cell? ⟨b,2,U⟩=Y3 (I z):=an q 2;have yf2:=al q 2;have y3:w6.cell? ⟨b,3,U⟩=Y3 (lv):=an q 3;have yf3:=al q 3;have y4:w6.cell? ⟨b,4,U⟩=Y3 (I d):=an q 4;have yf4:=al q 4;have y5:w6.cell? ⟨b,5,U⟩=Y3 (Y4 Y5 ph):=an q 5;have yf5:=al q 5;clear q;clear hs hg HP6 HP7;go_wp2_with fail
    go_meet
    exact⟨rfl,HP8.out⟩
   | false=>
    go_wp2_with fail;refine (cU HP6.src 2 ag).mono ?_;rintro e w6 ⟨he,hs,hg⟩;have HP7:=aa (HP6.next hs hg);clear hs hg HP6
    rcases he with rfl|rfl
    ·go_wp2_with fail;refine (bZ HP7.src [⟨#[99,50]⟩,⟨#[99,51]⟩] 2 _ _ aF rfl ag ag ag).mono ?_;rintro e w7 ⟨t,rfl,ht,hs,hg⟩;have HP8:=aa (HP7.next hs hg)
     have HP9:=aa (HP8.lay [⟨#[99,49]⟩,t] aF aF (λx hx=>by simp at hx;rcases hx with rfl|rfl;decide;exact ht) 2 rfl)
     have hbl:=HP8.lt;obtain⟨n,c,z,lv,zs,d,ph,q,-⟩:=HP8.out;have y0:w7.cell? ⟨b,0,U⟩=Y3 (I n):=an q 0;have yf0:=al q 0;have y1:w7.cell? ⟨b,1,U⟩=Y3 (Y4 Y5 c):=an q 1;have yf1:=al q 1;have y2:w7.cell? ⟨b,2,U⟩=Y3 (I z):=an q 2;have yf2:=al q 2;have y3:w7.cell? ⟨b,3,U⟩=Y3 (lv):=an q 3;have yf3:=al q 3;have y4:w7.cell? ⟨b,4,U⟩=Y3 (I d):=an q 4;have yf4:=al q 4;have y5:w7.cell? ⟨b,5,U⟩=Y3 (Y4 Y5 ph):=an q 5;have yf5:=al q 5;clear q;clear hs hg HP7 HP8;go_wp2_with fail
     go_meet
     exact⟨rfl,HP9.out⟩
    ·go_wp2_with fail
     go_meet
     exact⟨rfl,HP7.out⟩
  case rest=>
   obtain⟨rfl,hP⟩:=hcut;have HP7:=aa hP;clear hP HP6;go_wp2_with fail;refine (cU HP7.src 15 ag).mono ?_;rintro e w6 ⟨he,hs,hg⟩;obtain⟨x31,rfl⟩:=eC he;have HP8:=aa (HP7.next hs hg);clear hs hg he HP7;go_upto_if 31 with fail;go_cut [3] from 32 to 55 (λs wx=>s=Zd (Y3 ⟨b,0,U⟩)/\PSt B w0 p v len w b 4 wx);case first=>
    cases x31 with
    | false=>
     go_wp2_with fail
     go_meet
     exact⟨rfl,HP8.up af⟩
    | true=>
     go_wp2_with fail;refine (HP8.src.n 4 ag).mono ?_;rintro e w7 ⟨r7,rfl,ra7,rb7,hs,hg⟩;have HP9:=aa (HP8.next hs hg);clear hs hg HP8 rb7
     by_cases h0:r7=0
     ·subst h0;go_wp2_with fail;refine (wj HP9.src).mono ?_;rintro e w8 ⟨r8,rfl,ra8,rb8,hs,hg⟩;have HPA:=aa (HP9.next hs hg);have HPB:=aa (HPA.set.1 r8);obtain⟨n,c,z,lv,zs,d,ph,q,-⟩:=HPA.out;have y0:w8.cell? ⟨b,0,U⟩=Y3 (I n):=an q 0;have yf0:=al q 0;have y1:w8.cell? ⟨b,1,U⟩=Y3 (Y4 Y5 c):=an q 1;have yf1:=al q 1;have y2:w8.cell? ⟨b,2,U⟩=Y3 (I z):=an q 2;have yf2:=al q 2;have y3:w8.cell? ⟨b,3,U⟩=Y3 (lv):=an q 3;have yf3:=al q 3;have y4:w8.cell? ⟨b,4,U⟩=Y3 (I d):=an q 4;have yf4:=al q 4;have y5:w8.cell? ⟨b,5,U⟩=Y3 (Y4 Y5 ph):=an q 5;have yf5:=al q 5;clear q;clear hs hg HP9 HPA;go_wp2_with fail
      go_meet
      exact⟨rfl,HPB.up af⟩
     have q70:(r7==0)=Y8:=by simp[h0]
     by_cases h1:r7=1
     ·subst h1;clear h0;have hbl:=HP9.lt;have hpl:=HP9.src.nJ;obtain⟨n,c,z,lv,zs,d,ph,h1,h2,h3,h4,h5,h6,h7,h8⟩:=HP9.out;have HO:=aa h5;have H1:=aa h1;have H6:=aa h6;have H7:=aa h7;have y0:w7.cell? ⟨b,0,U⟩=Y3 (I n):=an h1 0;have yf0:=al h1 0;have y1:w7.cell? ⟨b,1,U⟩=Y3 (Y4 Y5 c):=an h1 1;have yf1:=al h1 1;have y2:w7.cell? ⟨b,2,U⟩=Y3 (I z):=an h1 2;have yf2:=al h1 2;have y3:w7.cell? ⟨b,3,U⟩=Y3 (lv):=an h1 3;have yf3:=al h1 3;have y4:w7.cell? ⟨b,4,U⟩=Y3 (I d):=an h1 4;have yf4:=al h1 4;have y5:w7.cell? ⟨b,5,U⟩=Y3 (Y4 Y5 ph):=an h1 5;have yf5:=al h1 5;clear h1 h5 h6 h7;have HPK:=aa (eO (Src.drew (H6.alloc (Y6 #[I ⟨#[97]⟩,I ⟨#[65]⟩,I ⟨#[122]⟩] 9)).src) w7.heap.size 3 [⟨#[97]⟩,⟨#[65]⟩,⟨#[122]⟩] 9 Yg af rfl ag ag ag)
      have HNX:Hid (∀w8,Src B w0 p v len w8->(w7.alloc (Y6 #[I ⟨#[97]⟩,I ⟨#[65]⟩,I ⟨#[122]⟩] 9)).drew.grownBy w8 (Y3 p)->(w8.heap[b]?=Y3 (Y6 #[I n,Y4 Y5 c,I z,lv,I d,Y4 Y5 ph] 40 (0,0))/\w8.ownsRow w.heap.size 9 1 lv zs.length (zs.map Yn)/\Dr B w0 p v len w w8/\w8.heap[w.heap.size]?=Y3 (Y6 #[I ⟨#[]⟩,Y4 Y5 0,I ⟨#[]⟩,J U 0 0,I ⟨#[]⟩,Y4 Y5 0] 40 (0,0)))):=λw8 hs hg=>by
       have hgw:w7.grownBy w8 (Y3 p):=bS (cw w7 (Y6 #[I ⟨#[97]⟩,I ⟨#[65]⟩,I ⟨#[122]⟩] 9) (Y3 p)) ⟨hg.os,hg.tape,hg.output,hg.size,hg.block⟩;have hpp:=H6.lt;exact⟨gk hgw af H1.out,HO.kept hgw (Zb (λe=>by have:=(HO.lt _ e).1;omega)),H6.next hs hgw,gk hgw af H7.out⟩
      obtain⟨i0,hi,hz0,hz1,hz2⟩:=info_parts ig;go_wp2_with fail
      go_region_law (first
       | (refine kW rfl _ _ 36 rfl w.heap.size 9 i0 (I ⟨#[]⟩) 1 16 Tryz.underlying36 hi hz0 hz1 hz2 rfl ag lv zs.length (zs.map Yn) (by simp[Act.eval]) (HO8.alloc _) ⟨w8.heap.size,0,U⟩ 1 1 [I t] (by simp[Act.eval]) rfl (λj u hj=>by have hq:=an (w:=w8.alloc (Y6 #[I t] 9)) (b:=w8.heap.size) (pW _ _ _ rfl) j;rw[Yo,Yq,hq];simpa using hj) (λu hu=>by simp at hu;subst hu;rfl) bo af bJ ?_;intro v2 w9 hown hgrow _;obtain⟨qa,ql,qc,rfl⟩:=ajX hown;have hn8:=ni HO8.out H18.out;have hn9:=ni HO8.out H78.out;have g9:=(hgrow.block b (Yj (ae H18.out) aF) (λe=>hn8 e.symm)).trans ((Ym w8 (Y6 #[I t] 9) _ (ae H18.out)).trans H18.out);have z9:=(hgrow.block w.heap.size (Yj (ae H78.out) aF) (λe=>hn9 e.symm)).trans ((Ym w8 (Y6 #[I t] 9) _ (ae H78.out)).trans H78.out);have HW:=aa hown;have HG:=aa hgrow;have G9:=aa g9;have Z9:=aa z9;have v0:w9.cell? ⟨b,0,U⟩=Y3 (I n):=an g9 0;have vf0:w9.frozen? ⟨b,0,U⟩=Y8:=al g9 0;have v1:w9.cell? ⟨b,1,U⟩=Y3 (Y4 Y5 c):=an g9 1;have vf1:w9.frozen? ⟨b,1,U⟩=Y8:=al g9 1;have v2:w9.cell? ⟨b,2,U⟩=Y3 (I z):=an g9 2;have vf2:w9.frozen? ⟨b,2,U⟩=Y8:=al g9 2;have v3:w9.cell? ⟨b,3,U⟩=Y3 (lv):=an g9 3;have vf3:w9.frozen? ⟨b,3,U⟩=Y8:=al g9 3;have v4:w9.cell? ⟨b,4,U⟩=Y3 (I d):=an g9 4;have vf4:w9.frozen? ⟨b,4,U⟩=Y8:=al g9 4;have v5:w9.cell? ⟨b,5,U⟩=Y3 (Y4 Y5 ph):=an g9 5;have vf5:w9.frozen? ⟨b,5,U⟩=Y8:=al g9 5;clear hown hgrow hn8 hn9 g9 z9)
       | (refine AG rfl 15 _ _ Tryz.func15 ba rfl rfl _ (by simp[Act.eval]) HPK.out (λe w8 hR=>?_);obtain⟨t,rfl,ht,hs,hg⟩:=hR;refine⟨_,rfl,?_⟩;obtain⟨g1,ho8,hd8,hz8⟩:=HNX.out w8 hs hg;have hl8:=ae g1;have HO8:=aa ho8;have H68:=aa hd8;have H78:=aa hz8;have H18:=aa g1;have x0:w8.cell? ⟨b,0,U⟩=Y3 (I n):=an g1 0;have xf0:w8.frozen? ⟨b,0,U⟩=Y8:=al g1 0;have x1:w8.cell? ⟨b,1,U⟩=Y3 (Y4 Y5 c):=an g1 1;have xf1:w8.frozen? ⟨b,1,U⟩=Y8:=al g1 1;have x2:w8.cell? ⟨b,2,U⟩=Y3 (I z):=an g1 2;have xf2:w8.frozen? ⟨b,2,U⟩=Y8:=al g1 2;have x3:w8.cell? ⟨b,3,U⟩=Y3 (lv):=an g1 3;have xf3:w8.frozen? ⟨b,3,U⟩=Y8:=al g1 3;have x4:w8.cell? ⟨b,4,U⟩=Y3 (I d):=an g1 4;have xf4:w8.frozen? ⟨b,4,U⟩=Y8:=al g1 4;have x5:w8.cell? ⟨b,5,U⟩=Y3 (Y4 Y5 ph):=an g1 5;have xf5:w8.frozen? ⟨b,5,U⟩=Y8:=al g1 5;clear g1 hs hg ho8 hd8 hz8))
      all_goals (
       go_wp2_with fail
       go_meet
       refine⟨rfl,n,c,z,J qa ql qc,zs++[t],d,ph,au G9.out _,h2,by simp;omega,λj x hx=>?_,?_,?_,?_,h8⟩
       ·rcases Nat.lt_or_ge j zs.length with hj|hj
        ·rw[Yv hj] at hx;exact h4 j x hx
        ·rw[List.getElem?_append_right hj] at hx;have hx2:=Yu hx
         simp at hx2
         rw[hx2];exact ht
       ·have h9:=HW.kept (bL w9 b 3 (J qa ql qc)) (Zb (ni HW.out G9.out))
        simpa using h9
       ·exact ((H68.alloc _).aj9 HG.out (λk e=>(HO8.lt _ e).1)).set _ af
       ·exact (Ya _ _ _ _ (show w.heap.size≠b by omega)).trans Z9.out)
     have q71:(r7==1)=Y8:=by simp[h1]
     by_cases h2:r7=2
     ·subst h2;clear h0 h1;go_wp2_with fail;refine (HP9.src.n 5 ag).mono ?_;rintro e w8 ⟨r8,rfl,ra8,rb8,hs,hg⟩;have HPA:=aa (HP9.next hs hg);have HPB:=aa (HPA.set.2.2.2 (r8 - 1))
      have rc8:r8<=5:=af
      obtain⟨n,c,z,lv,zs,d,ph,q,-⟩:=HPA.out;have y0:w8.cell? ⟨b,0,U⟩=Y3 (I n):=an q 0;have yf0:=al q 0;have y1:w8.cell? ⟨b,1,U⟩=Y3 (Y4 Y5 c):=an q 1;have yf1:=al q 1;have y2:w8.cell? ⟨b,2,U⟩=Y3 (I z):=an q 2;have yf2:=al q 2;have y3:w8.cell? ⟨b,3,U⟩=Y3 (lv):=an q 3;have yf3:=al q 3;have y4:w8.cell? ⟨b,4,U⟩=Y3 (I d):=an q 4;have yf4:=al q 4;have y5:w8.cell? ⟨b,5,U⟩=Y3 (Y4 Y5 ph):=an q 5;have yf5:=al q 5;clear q;clear hs hg HP9 HPA rb8;go_wp2_with fail
      go_meet
      exact⟨rfl,HPB.up af⟩
     have q72:(r7==2)=Y8:=by simp[h2]
     clear h0 h1 h2;have HPB:=aa (HP9.set.2.2.1 ⟨#[110,49]⟩ ag);obtain⟨n,c,z,lv,zs,d,ph,q,-⟩:=HP9.out;have y0:w7.cell? ⟨b,0,U⟩=Y3 (I n):=an q 0;have yf0:=al q 0;have y1:w7.cell? ⟨b,1,U⟩=Y3 (Y4 Y5 c):=an q 1;have yf1:=al q 1;have y2:w7.cell? ⟨b,2,U⟩=Y3 (I z):=an q 2;have yf2:=al q 2;have y3:w7.cell? ⟨b,3,U⟩=Y3 (lv):=an q 3;have yf3:=al q 3;have y4:w7.cell? ⟨b,4,U⟩=Y3 (I d):=an q 4;have yf4:=al q 4;have y5:w7.cell? ⟨b,5,U⟩=Y3 (Y4 Y5 ph):=an q 5;have yf5:=al q 5;clear q;clear HP9;go_wp2_with fail
     go_meet
     exact⟨rfl,HPB.up af⟩
   case rest=>
    obtain⟨rfl,hP⟩:=hcut;clear HP8;obtain⟨n,c,z,lv,zs,d,ph,h1,h2,h3,h4,h5,h6,h7,h8⟩:=hP;have hbn:¬b=w.heap.size:=af
    have y0:wc.cell? ⟨b,0,U⟩=Y3 (I n):=an h1 0;have yf0:=al h1 0;have y1:wc.cell? ⟨b,1,U⟩=Y3 (Y4 Y5 c):=an h1 1;have yf1:=al h1 1;have y2:wc.cell? ⟨b,2,U⟩=Y3 (I z):=an h1 2;have yf2:=al h1 2;have y3:wc.cell? ⟨b,3,U⟩=Y3 (lv):=an h1 3;have yf3:=al h1 3;have y4:wc.cell? ⟨b,4,U⟩=Y3 (I d):=an h1 4;have yf4:=al h1 4;have y5:wc.cell? ⟨b,5,U⟩=Y3 (Y4 Y5 ph):=an h1 5;have yf5:=al h1 5;have z0:wc.cell? ⟨w.heap.size,0,U⟩=Y3 (I ⟨#[]⟩):=an h7 0;have zf0:=al h7 0;have z1:wc.cell? ⟨w.heap.size,1,U⟩=Y3 (Y4 Y5 0):=an h7 1;have zf1:=al h7 1;have z2:wc.cell? ⟨w.heap.size,2,U⟩=Y3 (I ⟨#[]⟩):=an h7 2;have zf2:=al h7 2;have z3:wc.cell? ⟨w.heap.size,3,U⟩=Y3 (J U 0 0):=an h7 3;have zf3:=al h7 3;have z4:wc.cell? ⟨w.heap.size,4,U⟩=Y3 (I ⟨#[]⟩):=an h7 4;have zf4:=al h7 4;have z5:wc.cell? ⟨w.heap.size,5,U⟩=Y3 (Y4 Y5 0):=an h7 5;have zf5:=al h7 5;have hne:=ni h5 h7;have k5:=((((((h5.kept (bL _ w.heap.size 0 (I n)) (Zb hne)).kept (bL _ w.heap.size 1 (Y4 Y5 c)) (Zb hne)).kept (bL _ w.heap.size 2 (I z)) (Zb hne)).kept (bL _ w.heap.size 3 (lv)) (Zb hne)).kept (bL _ w.heap.size 4 (I d)) (Zb hne)).kept (bL _ w.heap.size 5 (Y4 Y5 ph)) (Zb hne));have HD:=aa (((((((h6.set (b:=w.heap.size) (i:=0) (I n) (Ye _)).set (b:=w.heap.size) (i:=1) (Y4 Y5 c) (Ye _)).set (b:=w.heap.size) (i:=2) (I z) (Ye _)).set (b:=w.heap.size) (i:=3) (lv) (Ye _)).set (b:=w.heap.size) (i:=4) (I d) (Ye _)).set (b:=w.heap.size) (i:=5) (Y4 Y5 ph) (Ye _)));obtain⟨a,l,cp,rfl,hx,hx2,hx3⟩:=afv k5 h4;have HX:=aa (Yb hx (Yb hx2 h2));have HX3:=aa (Yb hx3 (Yb h3 h4));clear hx hx2 hx3 h2 h1 h7 h5 h6 k5 hne h3 h4;go_wp2_with fail;exact bodyPost_ret (v:=Za #[I n,Y4 Y5 c,I z,J a l cp,I d,Y4 Y5 ph]) (by simp[results,Tryz.results63,go_sem, *]) rfl ⟨n,c,z,a,l,cp,zs,d,ph,rfl,HX.2.2.1,HX.2.2.2.1,HX.2.2.2.2,HX.1,HX.2.1,HX3.1,HX3.2.1,HX3.2.2,HD.out⟩):p:=h
theorem mQ(h:p:=by
 rintro e w2 ⟨r2,rfl,ra2,rb2,hs,hg⟩;have HD2:=aa (HD1.next hs hg);have G2:=aa (gk hg cG G1.out);clear hs hg G1 HD1;exact z1036z):p:=h
theorem Lv(h:p:=by
 obtain⟨hne,hne2⟩:=Nl;have hol5:=ae Bo5.out;have hrl5:=ae Br5.out;exact z221z):p:=h
theorem sU(h:p:=by
 obtain⟨o0,o1,o2,o3,o4,o5⟩:=cs6 Bo5;obtain⟨r0,r1,r2,r3,r4,r5,r6,r7⟩:=cs8 Br5;obtain⟨fo0,fo1,fo2,fo3,fo4,fo5,fr0,fr1,fr2,fr3,fr4,fr5,fr6,fr7⟩:=akT;exact z1120z):p:=h
theorem K7(h:p:=by
 have hsw:(w3.setCell ⟨g,j*7+5,U⟩ (Y7 Y_)).heap.size=w3.heap.size:=oh
 obtain⟨⟨cur,H,hbk,_⟩,_⟩:=HST.out;have hvb:((w3.setCell ⟨g,j*7+5,U⟩ (Y7 Y_)).alloc (Y6 (clo6 (Y3 ⟨g,0,U⟩) m1 n1 x2 m2 n2 x3 m3 n3 x4 m4 n4 x5 m5 n5 c.now) 29)).heap[w3.heap.size]?=Y3 (Y6 (clo6 (Y3 ⟨g,0,U⟩) m1 n1 x2 m2 n2 x3 m3 n3 x4 m4 n4 x5 m5 n5 c.now) 29 (0,0)):=by have h9:=heap_alloc_new (w3.setCell ⟨g,j*7+5,U⟩ (Y7 Y_)) (Y6 (clo6 (Y3 ⟨g,0,U⟩) m1 n1 x2 m2 n2 x3 m3 n3 x4 m4 n4 x5 m5 n5 c.now) 29);rw[hsw] at h9;exact h9
 have hkV:∀k,k<w3.heap.size->¬k=g->((w3.setCell ⟨g,j*7+5,U⟩ (Y7 Y_)).alloc (Y6 (clo6 (Y3 ⟨g,0,U⟩) m1 n1 x2 m2 n2 x3 m3 n3 x4 m4 n4 x5 m5 n5 c.now) 29)).heap[k]?=w3.heap[k]?:=λk h1 h2=>(Ym _ _ _ (by rw[hsw];exact h1)).trans (Ya _ _ _ _ h2);have far:∀{a l cp m T rs},aw w3 a l cp m T rs (λk=>w1.heap.size<=k)->¬38=T->aw ((w3.setCell ⟨g,j*7+5,U⟩ (Y7 Y_)).alloc (Y6 (clo6 (Y3 ⟨g,0,U⟩) m1 n1 x2 m2 n2 x3 m3 n3 x4 m4 n4 x5 m5 n5 c.now) 29)) a l cp m T rs (λk=>w1.heap.size<=k/\k<w3.heap.size):=λh hT=>(h.dN hbk.blk hT ag).az (λk hk s=>hkV k hk s.2) (λk hk s=>⟨s.1,hk⟩);have f2:=far HO.k ag;have f3:=far HO.v ag;have f4:=far HO.x ag;have f5:=far HO.p ag;have h2:=HST.ahz (i:=5) rfl Y_;obtain⟨⟨cur2,H2,h3,_⟩,_,_⟩:=h2;have hns:(kQ c t n).raw.n=(c.ns.map ndF).set j (ndF (dead n)):=by
  show (c.ns.set (pl Nd.n c.ns t) (dead n)).map ndF=_;rw[(a_ HT.2.1.1.2.2 HNJ.out HOK.2.2.2).1,List.map_set]
 have hR:aw (w3.setCell ⟨g,j*7+5,U⟩ (Y7 Y_)) (Y3 ⟨g,0,U⟩) m1 n1 7 38 (kQ c t n).raw.n (λk=>w1.heap.size<=k/\k<w3.heap.size):=by
  exact N6
 have f1:aw ((w3.setCell ⟨g,j*7+5,U⟩ (Y7 Y_)).alloc (Y6 (clo6 (Y3 ⟨g,0,U⟩) m1 n1 x2 m2 n2 x3 m3 n3 x4 m4 n4 x5 m5 n5 c.now) 29)) (Y3 ⟨g,0,U⟩) m1 n1 7 38 (kQ c t n).raw.n (λk=>w1.heap.size<=k/\k<w3.heap.size):=hR.az (λk hk s=>Ym _ _ _ hk) (λ_ _ s=>s);have HF:=aa (Yb f1 (Yb f2 (Yb f3 (Yb f4 f5))));have hr2:((w3.setCell ⟨g,j*7+5,U⟩ (Y7 Y_)).alloc (Y6 (clo6 (Y3 ⟨g,0,U⟩) m1 n1 x2 m2 n2 x3 m3 n3 x4 m4 n4 x5 m5 n5 c.now) 29)).heap[w.heap.size+1]?=Y3 (Y6 #[J U 0 0,J U 0 0,J U 0 0,J U 0 0,J U 0 0,Y4 Y5 0,I ⟨#[]⟩,Y4 Y5 0] 33 (0,0)):=(hkV _ af af).trans Br.out;have HBV:Hid (Below w.heap.size w ((w3.setCell ⟨g,j*7+5,U⟩ (Y7 Y_)).alloc (Y6 (clo6 (Y3 ⟨g,0,U⟩) m1 n1 x2 m2 n2 x3 m3 n3 x4 m4 n4 x5 m5 n5 c.now) 29))):=Below.alloc (ah (show w.heap.size<=g by omega) HB.out) (by rw[hsw];exact HB.size) _;refine (lN w3.heap.size (Y3 ⟨g,0,U⟩) x2 x3 x4 x5 m1 n1 m2 n2 m3 n3 m4 n4 m5 n5 c.now t c.ps (λk=>w1.heap.size<=k/\k<w3.heap.size) _ hvb f5 (λg5 e0 e5 e=>?_)).mono ?_
 ·rcases f5.2.2.2 with h9|⟨g9,c9,H9,e9,h9⟩
  ·have h8:=f5.1;rw[h9] at h8;simp at h8;omega
  ·rw[e5] at e9;cases e9;have:=h9.inS.2;omega
 rintro e w4 ⟨⟨v,rfl⟩,hP,hK⟩;have nb:∀k,¬(w1.heap.size<=k/\k<w3.heap.size)->¬(0<m5/\x5=Y3 ⟨k,0,U⟩):=λk h1 h2=>by
  rcases f5.2.2.2 with h9|⟨g9,c9,H9,e9,h9⟩
  ·have h8:=f5.1;have h7:=h2.1;rw[h9] at h8;simp at h8;omega
  ·have h7:=h2.2;rw[h7] at e9;cases e9;exact h1 h9.inS
 have Bo4:=aa ((hK.block _ (ae hvb) (nb _ af)).trans hvb);have Br4:=aa ((hK.block _ (ae hr2) (nb _ af)).trans hr2);have g1:=f1.beside f5 hK ag;have g2:=f2.beside f5 hK ag;have g3:=f3.beside f5 hK ag;have g4:=f4.beside f5 hK ag;have HG:=aa (Yb g1 (Yb g2 (Yb g3 (Yb g4 hP))));have HB4:Hid (Below w.heap.size w w4):=HBV.trans (hK.low (X:=w.heap.size) HBV.size (λk s=>Classical.byContradiction λhk=>nb k af s));clear f1 f2 f3 f4 f5 g1 g2 g3 g4 hP hK hR h3 hvb hr2 far hkV HF HBV hns hbk HST HO nb hv5 hf5;have z1535z:=@aa _ @ET;exact rS):p:=h
theorem K6(h:p:=by
 have z1624z:=@aa _ @DR;exact fy):p:=h
theorem K5(h:p:=by
 have z1485z:=@aa _ @Fz;exact gF):p:=h
theorem KL(h:p:=by
 refine (aK p _).mono ?_;have z41z:=@aa _ @ait;exact ei):p:=h
theorem KK(h:p:=by
 refine (aK 10 _).mono ?_;have z41z:=@aa _ @ais;exact ei):p:=h
theorem KJ(h:p:=by
 refine (aK p _).mono ?_;have z41z:=@aa _ @air;exact ei):p:=h
theorem KI(h:p:=by
 refine (aK 10 _).mono ?_;have z41z:=@aa _ @aiq;exact ei):p:=h
theorem KH(h:p:=by
 have HLO:=aa HB.size;refine (dd ⟨(Y3 ⟨b,o,U⟩),l1,y1,a2,l2,y2,a3,l3,y3,a4,l4,y4,a5,l5,y5⟩ c _ (HR.below HB.out) HT.sm).mono ?_;rintro e w3 ⟨d',rfl,ho,hb⟩;clear hd5 hbl;have HQ2:=aa hb.size;clear k0 k1 k2 k3 k4 k5 ltk_1;have z1388z:=@aa _ @Hh;exact bj):p:=h
theorem Kt(h:p:=by
 exact z798z):p:=h
theorem Hs(h:p:=by
 refine (bZ HD3.src [⟨#[102,97,115,116]⟩,⟨#[115,108,111,119]⟩] 2 _ _ aF rfl ag ag ag).mono ?_;rintro e w4 ⟨t4,rfl,ht4,hs,hg⟩;have HD4:=aa (HD3.next hs hg);have G4:=aa (gk hg cG G3.out);clear hs hg G3 HD3;go_wp2_with fail;refine (cU HD4.src 4 ag).mono ?_;rintro e w5 ⟨he,hs,hg⟩;obtain⟨x5,rfl⟩:=eC he;clear he;have HD5:=aa (HD4.next hs hg);have G5:=aa (gk hg cG G4.out);clear hs hg G4 HD4;have HDA:=aa (HD5.alloc (Y6 #[I t1,Y4 Y5 (1+r2),I t3,I t4,Y7 (!x5),I ⟨#[]⟩,Y7 Y8,J U 0 0] 95));have hA:w.heap.size<w5.heap.size:=ae G5.out;have GA:Hid ((w5.alloc (Y6 #[I t1,Y4 Y5 (1+r2),I t3,I t4,Y7 (!x5),I ⟨#[]⟩,Y7 Y8,J U 0 0] 95)).heap[w5.heap.size]?=Y3 (Y6 #[I t1,Y4 Y5 (1+r2),I t3,I t4,Y7 (!x5),I ⟨#[]⟩,Y7 Y8,J U 0 0] 95 (0,0))):=Yg;have GB:=aa ((Ym w5 (Y6 #[I t1,Y4 Y5 (1+r2),I t3,I t4,Y7 (!x5),I ⟨#[]⟩,Y7 Y8,J U 0 0] 95) _ hA).trans G5.out);clear HD5 G5;go_wp2_with fail;refine (cU HDA.src 12 ag).mono ?_;rintro e w6 ⟨he,hs,hg⟩;have HDJ:=aa (HDA.next hs hg);have hpn:=HP.out;have GA':=aa (gk hg af GA.out);have GB':=aa (gk hg af GB.out);clear hs hg GA GB HDA;rcases he with rfl|rfl
 ·go_wp2_with fail;refine (HDJ.src.n 4 ag).mono ?_;rintro e w7 ⟨r7,rfl,ra7,rb7,hs,hg⟩;have HD7:=aa (HDJ.next hs hg);have GA7:=aa (gk hg af GA'.out);have GB7:=aa (gk hg af GB'.out);clear hs hg GA' GB' HDJ rb7;by_cases h0:r7=0
  ·subst h0;go_wp2_with fail;refine (kP HD7.src).mono ?_;rintro e w8 ⟨r8,rfl,ra8,rb8,hs,hg⟩;obtain⟨HD8,GA8,GB8⟩:=vm;clear hs hg GA7 GB7 HD7;have q3:=GA8.out;have q2:=GB8.out;have z291z:=@aa _ @acD;exact pO
  have q70:(r7==0)=Y8:=by simp[h0]
  by_cases h1:r7=1
  ·subst h1;go_wp2_with fail;refine (bZ HD7.src [⟨#[99,49]⟩,⟨#[65]⟩] 2 _ _ aF rfl ag ag ag).mono ?_;rintro e w8 ⟨t8,rfl,ht8,hs,hg⟩;obtain⟨HD8,GA8,GB8⟩:=vm;clear hs hg GA7 GB7 HD7;have q3:=GA8.out;have q2:=GB8.out;have z291z:=@aa _ @acC;exact pO
  have q71:(r7==1)=Y8:=by simp[h1]
  by_cases h2:r7=2
  ·subst h2;clear h0 h1;have q3:=GA7.out;have q2:=GB7.out;have y0:w7.cell? ⟨w5.heap.size,0,U⟩=Y3 (I t1):=an q3 0;have yf0:=al q3 0;have y1:w7.cell? ⟨w5.heap.size,1,U⟩=Y3 (Y4 Y5 (1+r2)):=an q3 1;have yf1:=al q3 1;have y2:w7.cell? ⟨w5.heap.size,2,U⟩=Y3 (I t3):=an q3 2;have yf2:=al q3 2;have y3:w7.cell? ⟨w5.heap.size,3,U⟩=Y3 (I t4):=an q3 3;have yf3:=al q3 3;have y4:w7.cell? ⟨w5.heap.size,4,U⟩=Y3 (Y7 (!x5)):=an q3 4;have yf4:=al q3 4;have y5:w7.cell? ⟨w5.heap.size,5,U⟩=Y3 (I ⟨#[]⟩):=an q3 5;have yf5:=al q3 5;have y6:w7.cell? ⟨w5.heap.size,6,U⟩=Y3 (Y7 Y8):=an q3 6;have yf6:=al q3 6;have y7:w7.cell? ⟨w5.heap.size,7,U⟩=Y3 (J U 0 0):=an q3 7;have yf7:=al q3 7;have z707z:=@aa _ @U4;exact yy
  have q72:(r7==2)=Y8:=by simp[h2]
  clear h0 h1 h2;go_wp2_with fail;refine (bZ HD7.src [⟨#[110,50]⟩,⟨#[110,49]⟩] 2 _ _ aF rfl ag ag ag).mono ?_;rintro e w8 ⟨t8,rfl,ht8,hs,hg⟩;obtain⟨HD8,GA8,GB8⟩:=vm;clear hs hg GA7 GB7 HD7;have h8A:=ae GA8.out;have h8B:=ae GB8.out;have q3:=GA8.out;have q2:=GB8.out;have HDZ:=aa ((((((((((HD8.set (b:=w5.heap.size) (i:=7) (J (Y3 ⟨w8.heap.size,0,U⟩) 2 2) (Nat.le_of_lt hA)).set (b:=w.heap.size) (i:=0) (I t1) (Ye _)).set (b:=w.heap.size) (i:=1) (Y4 Y5 (1+r2)) (Ye _)).set (b:=w.heap.size) (i:=2) (I t3) (Ye _)).set (b:=w.heap.size) (i:=3) (I t4) (Ye _)).set (b:=w.heap.size) (i:=4) (Y7 (!x5)) (Ye _)).set (b:=w.heap.size) (i:=5) (I ⟨#[]⟩) (Ye _)).set (b:=w.heap.size) (i:=6) (Y7 Y8) (Ye _)).set (b:=w.heap.size) (i:=7) (J (Y3 ⟨w8.heap.size,0,U⟩) 2 2) (Ye _)).alloc (Y6 #[I ⟨#[110,49]⟩,I t8] 9));have HLB:Hid (((((((((((w8.setCell ⟨w5.heap.size,7,U⟩ (J (Y3 ⟨w8.heap.size,0,U⟩) 2 2)).setCell ⟨w.heap.size,0,U⟩ (I t1)).setCell ⟨w.heap.size,1,U⟩ (Y4 Y5 (1+r2))).setCell ⟨w.heap.size,2,U⟩ (I t3)).setCell ⟨w.heap.size,3,U⟩ (I t4)).setCell ⟨w.heap.size,4,U⟩ (Y7 (!x5))).setCell ⟨w.heap.size,5,U⟩ (I ⟨#[]⟩)).setCell ⟨w.heap.size,6,U⟩ (Y7 Y8)).setCell ⟨w.heap.size,7,U⟩ (J (Y3 ⟨w8.heap.size,0,U⟩) 2 2)).alloc (Y6 #[I ⟨#[110,49]⟩,I t8] 9)).heap[w8.heap.size]?=Y3 (Y6 #[I ⟨#[110,49]⟩,I t8] 9 (0,0))):=pW _ _ _ oh;have z291z:=@aa _ @acE;exact pO
 ·skip;have q3:=GA'.out;have q2:=GB'.out;have y0:w6.cell? ⟨w5.heap.size,0,U⟩=Y3 (I t1):=an q3 0;have yf0:=al q3 0;have y1:w6.cell? ⟨w5.heap.size,1,U⟩=Y3 (Y4 Y5 (1+r2)):=an q3 1;have yf1:=al q3 1;have y2:w6.cell? ⟨w5.heap.size,2,U⟩=Y3 (I t3):=an q3 2;have yf2:=al q3 2;have y3:w6.cell? ⟨w5.heap.size,3,U⟩=Y3 (I t4):=an q3 3;have yf3:=al q3 3;have y4:w6.cell? ⟨w5.heap.size,4,U⟩=Y3 (Y7 (!x5)):=an q3 4;have yf4:=al q3 4;have y5:w6.cell? ⟨w5.heap.size,5,U⟩=Y3 (I ⟨#[]⟩):=an q3 5;have yf5:=al q3 5;have y6:w6.cell? ⟨w5.heap.size,6,U⟩=Y3 (Y7 Y8):=an q3 6;have yf6:=al q3 6;have y7:w6.cell? ⟨w5.heap.size,7,U⟩=Y3 (J U 0 0):=an q3 7;have yf7:=al q3 7;have z0:w6.cell? ⟨w.heap.size,0,U⟩=Y3 (I ⟨#[]⟩):=an q2 0;have zf0:=al q2 0;have z1:w6.cell? ⟨w.heap.size,1,U⟩=Y3 (Y4 Y5 0):=an q2 1;have zf1:=al q2 1;have z2:w6.cell? ⟨w.heap.size,2,U⟩=Y3 (I ⟨#[]⟩):=an q2 2;have zf2:=al q2 2;have z3:w6.cell? ⟨w.heap.size,3,U⟩=Y3 (I ⟨#[]⟩):=an q2 3;have zf3:=al q2 3;have z4:w6.cell? ⟨w.heap.size,4,U⟩=Y3 (Y7 Y8):=an q2 4;have zf4:=al q2 4;have z5:w6.cell? ⟨w.heap.size,5,U⟩=Y3 (I ⟨#[]⟩):=an q2 5;have zf5:=al q2 5;have z6:w6.cell? ⟨w.heap.size,6,U⟩=Y3 (Y7 Y8):=an q2 6;have zf6:=al q2 6;have z7:w6.cell? ⟨w.heap.size,7,U⟩=Y3 (J U 0 0):=an q2 7;have zf7:=al q2 7;clear q2 q3;go_wp2_with fail;exact bodyPost_ret (v:=Za #[I t1,Y4 Y5 (1+r2),I t3,I t4,Y7 (!x5),I ⟨#[]⟩,Y7 Y8,J U 0 0]) tC rfl ⟨_,_,_,_,_,_,_,U,0,0,[],rfl,ht1,ht3,ht4,ag,⟨rfl,Ye _,by omega,λj x hx=>by simp at hx,Zc rfl⟩,Zc rfl,((((((((HDJ.set (b:=w.heap.size) (i:=0) _ (Ye _)).set (b:=w.heap.size) (i:=1) _ (Ye _)).set (b:=w.heap.size) (i:=2) _ (Ye _)).set (b:=w.heap.size) (i:=3) _ (Ye _)).set (b:=w.heap.size) (i:=4) _ (Ye _)).set (b:=w.heap.size) (i:=5) _ (Ye _)).set (b:=w.heap.size) (i:=6) _ (Ye _)).set (b:=w.heap.size) (i:=7) _ (Ye _))⟩):p:=h
theorem Hr(h:p:=by
 refine (cU HD3.src 4 ag).mono ?_;rintro e w4 ⟨he,hs,hg⟩;obtain⟨x4,rfl⟩:=eC he;clear he;have HD4:=aa (HD3.next hs hg);have G4:=aa (gk hg cG G3.out);clear hs hg G3 HD3;have HDA:=aa (HD4.alloc (Y6 #[I t1,Y4 Y5 (1+r2),I t3,Y7 (!x4),I ⟨#[]⟩] 97));have hA:w.heap.size<w4.heap.size:=ae G4.out;have GA:Hid ((w4.alloc (Y6 #[I t1,Y4 Y5 (1+r2),I t3,Y7 (!x4),I ⟨#[]⟩] 97)).heap[w4.heap.size]?=Y3 (Y6 #[I t1,Y4 Y5 (1+r2),I t3,Y7 (!x4),I ⟨#[]⟩] 97 (0,0))):=Yg;have GB:=aa ((Ym w4 (Y6 #[I t1,Y4 Y5 (1+r2),I t3,Y7 (!x4),I ⟨#[]⟩] 97) _ hA).trans G4.out);clear HD4 G4;go_wp2_with fail;refine (cU HDA.src 15 ag).mono ?_;rintro e w5 ⟨he,hs,hg⟩;have HDJ:=aa (HDA.next hs hg);have hpn:=HP.out;have GA':=aa (gk hg af GA.out);have GB':=aa (gk hg af GB.out);clear hs hg GA GB HDA;rcases he with rfl|rfl
 ·go_wp2_with fail;refine (HDJ.src.n 3 ag).mono ?_;rintro e w6 ⟨r6,rfl,ra6,rb6,hs,hg⟩;have HD6:=aa (HDJ.next hs hg);have GA6:=aa (gk hg af GA'.out);have GB6:=aa (gk hg af GB'.out);clear hs hg GA' GB' HDJ rb6;by_cases h0:r6=0
  ·subst h0;go_wp2_with fail;refine (kP HD6.src).mono ?_;rintro e w7 ⟨r7,rfl,ra7,rb7,hs,hg⟩;have z325z:=@aa _ @acb;exact pH
  have q60:(r6==0)=Y8:=by simp[h0]
  by_cases h1:r6=1
  ·subst h1;go_wp2_with fail;refine (afO HD6.src).mono ?_;rintro e w7 ⟨t7,rfl,ht7,hs,hg⟩;have z325z:=@aa _ @aca;exact pH
  have q61:(r6==1)=Y8:=by simp[h1]
  clear h0 h1;go_wp2_with fail;refine (bZ HD6.src [⟨#[100,49]⟩,⟨#[65]⟩] 2 _ _ aF rfl ag ag ag).mono ?_;rintro e w7 ⟨t7,rfl,ht7,hs,hg⟩;have z325z:=@aa _ @acd;exact pH
 ·skip;have q3:=GA'.out;have q2:=GB'.out;have y0:w5.cell? ⟨w4.heap.size,0,U⟩=Y3 (I t1):=an q3 0;have yf0:=al q3 0;have y1:w5.cell? ⟨w4.heap.size,1,U⟩=Y3 (Y4 Y5 (1+r2)):=an q3 1;have yf1:=al q3 1;have y2:w5.cell? ⟨w4.heap.size,2,U⟩=Y3 (I t3):=an q3 2;have yf2:=al q3 2;have y3:w5.cell? ⟨w4.heap.size,3,U⟩=Y3 (Y7 (!x4)):=an q3 3;have yf3:=al q3 3;have y4:w5.cell? ⟨w4.heap.size,4,U⟩=Y3 (I ⟨#[]⟩):=an q3 4;have yf4:=al q3 4;have z0:w5.cell? ⟨w.heap.size,0,U⟩=Y3 (I ⟨#[]⟩):=an q2 0;have zf0:=al q2 0;have z1:w5.cell? ⟨w.heap.size,1,U⟩=Y3 (Y4 Y5 0):=an q2 1;have zf1:=al q2 1;have z2:w5.cell? ⟨w.heap.size,2,U⟩=Y3 (I ⟨#[]⟩):=an q2 2;have zf2:=al q2 2;have z3:w5.cell? ⟨w.heap.size,3,U⟩=Y3 (Y7 Y8):=an q2 3;have zf3:=al q2 3;have z4:w5.cell? ⟨w.heap.size,4,U⟩=Y3 (I ⟨#[]⟩):=an q2 4;have zf4:=al q2 4;clear q2 q3;go_wp2_with fail;exact bodyPost_ret (v:=Za #[I t1,Y4 Y5 (1+r2),I t3,Y7 (!x4),I ⟨#[]⟩]) zJ rfl ⟨_,_,_,_,_,rfl,ht1,ht3,ag,(((((HDJ.set (b:=w.heap.size) (i:=0) _ (Ye _)).set (b:=w.heap.size) (i:=1) _ (Ye _)).set (b:=w.heap.size) (i:=2) _ (Ye _)).set (b:=w.heap.size) (i:=3) _ (Ye _)).set (b:=w.heap.size) (i:=4) _ (Ye _))⟩):p:=h
theorem sh(h:p:=by
 rintro e w3 ⟨t3,rfl,ht3,hs,hg⟩;have HD3:=aa (HD2.next hs hg);have G3:=aa (gk hg cG G2.out);clear hs hg G2 HD2;go_wp2_with fail;exact z1379z):p:=h
theorem Hq(h:p:=by
 refine (HD1.src.n 20 ag).mono ?_;have z1036z:=@aa _ @Mv;exact mQ):p:=h
theorem Hp(h:p:=by
 exact z730z):p:=h
theorem sg(h:p:=by
 rintro e w1 ⟨t1,rfl,ht1,hs,hg⟩;have HD1:=aa (HD0.next hs hg);have G1:=aa (gk hg cG G0.out);clear hs hg G0 HD0;go_wp2_with fail;exact z1382z):p:=h
theorem Hj(h:p:=by
 rcases hf with ⟨i,x,hx,hn,rfl⟩|⟨hno,rfl⟩;rotate_left
 ·have HV:Hid (cQ c t (co0 6)):=Zc ⟨2,⟨hl,HT.out,rfl,fW hno⟩,rfl⟩;clear hno;have z1147z:=@aa _ @K5;exact bI
 have HQ20:Hid (w.heap.size+1<w2.heap.size):=ae Br.out;have hri:=HT.2.1.2.2.2.2.2.2;have HW:=aa (gC hri hx hn);have HV:Hid (cQ c t ⟨uz c t,⟨#[]⟩,0⟩):=Zb ⟨hl,HT.out,(a_ hri hx hn).2,rfl⟩;have hi5:i<l5:=by have:=(Yc.1 hx).1;omega
 have hi0:¬(i:Int)<0:=af
 have h58:l5<=8:=by have:=HT.sm.p;omega
 clear hx hn hri;have z1147z:=@aa _ @K6;exact bI):p:=h
theorem Hi(h:p:=by
 obtain⟨x1,m1,n1,x2,m2,n2,x3,m3,n3,x4,m4,n4,x5,m5,n5⟩:=d';have HQ2:Hid (w.heap.size+1<w2.heap.size):=HQ20.out;have hm5:m5=l5:=by have h6:(c.ps.map pdF).length=m5:=ho.p.1;rw[Yr] at h6;omega
 subst hm5;have hmn:m5<=n5:=ho.p.2.1;have hmx:n5<=9223372036854775807:=ho.p.2.2.1;obtain⟨vss,H,hV,hcell⟩:=(ho.p.bl (S':=λk=>w2.heap.size<=k/\k<w3.heap.size) (λk hk s=>⟨s,hk⟩)).i_;have hvl:vss.length=m5:=by have h6:vss.length=(c.ps.map pdF).length:=hV.len;rw[Yr] at h6;omega
 obtain⟨b,hx5,hbS⟩:∃b,x5=Y3 ⟨b,0,U⟩/\b<w3.heap.size:=by
  exact Ny
 subst hx5;have HC:Hid (∀(j:Nat) u,vss.flatten[j]?=Y3 u->w3.cell? ⟨b,j,U⟩=Y3 u):=λj u hj=>by
  obtain⟨g,e,_,h3⟩:=hcell j u hj;cases e;exact h3
 have HVR:=aa hV;have HO:=aa ho;clear hV hcell ho;obtain⟨i5,hi5',hz0,hz1,hz2⟩:=info_parts qj;have HI0:=aa (Yb hi5' (Yb hz0 (Yb hz1 hz2)));clear hi5' hz0 hz1 hz2;have hq2:=HQ2.out;have hq3:=HQ3.out;have hown0:World.ownsRow ((w3.alloc (Y6 (clo6 x1 m1 n1 x2 m2 n2 x3 m3 n3 x4 m4 n4 (Y3 ⟨b,0,U⟩) m5 n5 c.now) 29)).alloc (Y6 #[] 40)) (w3.heap.size+1) 40 6 (J (Y3 ⟨w3.heap.size+1,0,U⟩) 0 0) 0 []:=⟨by simp,Zb ⟨w3.heap.size+1,0,#[],rfl,Ye _,dZ _ _ _,Ye _,by unfold maxLen;omega,by simp,by simp⟩⟩;have HOW:=aa hown0;clear hown0;have hik:(i:Int)<=n5:=af
 go_wp2_with (first|(at_builtin;refine wpList_append_own _ rfl _ _ 27 rfl (w3.heap.size+1) 40 i5 (Za #[I ⟨#[]⟩,Y4 Y5 0,I ⟨#[]⟩,J U 0 0,I ⟨#[]⟩,Y4 Y5 0]) 6 88 Tryz.underlying27 HI0.1 HI0.2.1 HI0.2.2.1 HI0.2.2.2 rfl ag _ 0 [] rfl (HOW.out) ⟨b,0,U⟩ i n5 (vss.take i).flatten rfl ?c1 ?c2 ?c3 ?c4 ?c5 ?c6 ?_));case c1=>exact bm HVR.all af
 case c2=>
  intro j u hu;rw[Yo,Yq];exact (ai (aR w3 _ _) hbS).trans (HC.out _ _ (cI hu))
 case c3=>exact (aD HVR.one i).1
 case c4=>unfold maxLen;omega
 case c5=>omega
 case c6=>simp
 rintro v1 w4 hown4 hgr4 -;replace hown4:w4.ownsRow (w3.heap.size+1) 40 6 v1 i (vss.take i).flatten:=by simpa using hown4
 have hb4:Below (w3.heap.size+1) (w3.alloc (Y6 (clo6 x1 m1 n1 x2 m2 n2 x3 m3 n3 x4 m4 n4 (Y3 ⟨b,0,U⟩) m5 n5 c.now) 29)) w4:=((Yh (w3.heap.size+1) _).alloc aF _).grown hgr4 aF (λg hg=>by simp[YJ] at hg;omega);obtain⟨s1,s2,s3,rfl⟩:=aA hown4;have Bo4:=aa ((hb4.block w3.heap.size af).trans (heap_alloc_new w3 (Y6 (clo6 x1 m1 n1 x2 m2 n2 x3 m3 n3 x4 m4 n4 (Y3 ⟨b,0,U⟩) m5 n5 c.now) 29)));have HB34:=aa ((ak w3 (Y6 (clo6 x1 m1 n1 x2 m2 n2 x3 m3 n3 x4 m4 n4 (Y3 ⟨b,0,U⟩) m5 n5 c.now) 29)).trans (hb4.mono af));have HO4:=aa hown4;have Br4:=upK Br HB34.out;have hs4:=HB34.size;obtain⟨o0,o1,o2,o3,o4,o5⟩:=cs6 Bo4;have hol:=ae Bo4.out;clear hown4 hgr4 hb4 HOW;have hik1:((i:Int)+1)<=m5:=af
 by_cases hcap:n5=i+1
 ·subst hcap;have hmi:m5=i+1:=af
  have hd0:m5 - (i+1)=0:=af
  have hvd:vss.drop (i+1)=[]:=Yx af;go_wp2_with (first|(at_builtin;refine wpList_append_own _ rfl _ _ 27 rfl (w3.heap.size+1) 40 i5 (Za #[I ⟨#[]⟩,Y4 Y5 0,I ⟨#[]⟩,J U 0 0,I ⟨#[]⟩,Y4 Y5 0]) 6 88 Tryz.underlying27 HI0.1 HI0.2.1 HI0.2.2.1 HI0.2.2.2 rfl ag _ _ _ rfl (HO4.out) ⟨b,0,U⟩ 0 0 [] rfl ?c1 ?c2 ?c3 ?c4 ?c5 ?c6 ?_));case c1=>rfl
  case c2=>intro j u hu;simp at hu
  case c3=>intro u hu;simp at hu
  case c4=>unfold maxLen;omega
  case c5=>omega
  case c6=>omega
  rintro v2 w5 hown5 hgr5 -;have hlen5:(wo Pd.n t c.ps).length=m5 - 1:=by rw[HW.out];simp;omega
  replace hown5:w5.ownsRow (w3.heap.size+1) 40 6 v2 (wo Pd.n t c.ps).length (vss.take i++vss.drop (i+1)).flatten:=by
   rw[hlen5,List.flatten_append];rw[hvd];simpa[hmi] using hown5
  have z221z:=@aa _ @ady;exact zB
 ·go_wp2_with (first|(at_builtin;refine wpList_append_own _ rfl _ _ 27 rfl (w3.heap.size+1) 40 i5 (Za #[I ⟨#[]⟩,Y4 Y5 0,I ⟨#[]⟩,J U 0 0,I ⟨#[]⟩,Y4 Y5 0]) 6 88 Tryz.underlying27 HI0.1 HI0.2.1 HI0.2.2.1 HI0.2.2.2 rfl ag _ _ _ rfl (HO4.out) ⟨b,(i+1)*6,U⟩ (m5 - (i+1)) (n5 - (i+1)) (vss.drop (i+1)).flatten rfl ?c1 ?c2 ?c3 ?c4 ?c5 ?c6 ?_));case c1=>rw[dW HVR.all,hvl]
  case c2=>
   intro j u hu;rw[Yo];exact (ai HB34.out hbS).trans (HC.out _ _ (cW HVR.all af hu))
  case c3=>exact (aD HVR.one (i+1)).2
  case c4=>unfold maxLen;omega
  case c5=>omega
  case c6=>omega
  rintro v2 w5 hown5 hgr5 -;have hlen5:(wo Pd.n t c.ps).length=m5 - 1:=by rw[HW.out];simp;omega
  replace hown5:w5.ownsRow (w3.heap.size+1) 40 6 v2 (wo Pd.n t c.ps).length (vss.take i++vss.drop (i+1)).flatten:=by
   rw[hlen5,List.flatten_append];have e9:m5 - 1=i+(m5 - (i+1)):=af
   rw[e9];exact hown5
  have z221z:=@aa _ @adx;exact zB):p:=h
theorem Hh(h:p:=by
 obtain⟨x1,m1,n1,x2,m2,n2,x3,m3,n3,x4,m4,n4,x5,m5,n5⟩:=d';have hm1:m1=l1:=by have h6:(c.ns.map ndF).length=m1:=ho.n.1;rw[Yr] at h6;omega
 subst hm1;obtain⟨g,hga,hS⟩:=(ho.n.bl (S':=λk=>w1.heap.size<=k/\k<w3.heap.size) (λk hk s=>⟨s,hk⟩)).st (aG.refl _ w3) (i:=j) (r:=ndF n) (show (c.ns.map ndF)[j]?=Y3 (ndF n) by rw[Yt,HNJ.out];rfl);have hga':x1=Y3 ⟨g,0,U⟩:=hga;subst hga';obtain⟨hq1,hq2,hgS⟩:=akH;obtain⟨⟨hg1,hg2⟩,-⟩:=hgS;obtain⟨v5,hv5⟩:=hS.cell (i:=5) rfl;exact z795z):p:=h
theorem Gc(h:p:=by
 obtain⟨ua,ul,uc,-,-,-,-,-,-,-,-,hd5,-⟩:=aZ hat;clear hat hy;cases hd:n.d;rotate_left
 ·have HV:Hid (eo c t (co0 10)):=Zb ⟨n,HOK.out,Zc ⟨hd,rfl⟩⟩;rw[hd] at hd5;clear hd;have z1169z:=@aa _ @KK;exact fB
 have HV:Hid (eo c t ⟨kQ c t n,⟨#[]⟩,0⟩):=Zb ⟨n,HOK.out,Zb ⟨hd,rfl⟩⟩;have z795z:=@aa _ @T0;exact xZ):p:=h
theorem Gb(h:p:=by
 obtain⟨ua,ul,uc,-,-,-,-,-,-,-,-,hd5,-⟩:=aZ hat;clear hat hy;cases hd:n.d
 ·have HV:Hid (fm c t (co0 10)):=Zb ⟨n,HOK.out,Zc ⟨hd,rfl⟩⟩;rw[hd] at hd5;clear hd;have z1169z:=@aa _ @KI;exact fB
 have HV:Hid (fm c t ⟨nV c t n,⟨#[]⟩,0⟩):=Zb ⟨n,HOK.out,Zb ⟨hd,rfl⟩⟩;have z795z:=@aa _ @TZ;exact xZ):p:=h
theorem mB(h:p:=by
 have HNJ:=aa hn;have HOK:=aa hok;clear hn hok;obtain⟨HT,hj1,hj2,hj0⟩:=akO;obtain⟨b,o,y,rfl,hbl,hy,hat⟩:=dn (HR.n.below HB.out) hj1;rw[HNJ.out] at hy;obtain rfl:=Yd hy;exact z1439z):p:=h
theorem Fz(h:p:=by
 have z138z:=@aa _ @aeK;exact cL):p:=h
theorem gF(h:p:=by
 refine (aK 6 _).mono ?_;rintro e w3 ⟨rfl,hb⟩;clear k0 k1 k2 k3 k4 k5 ltk_2;replace Bk:=upK Bk hb;exact z1485z):p:=h
theorem ET(h:p:=by
 refine bodyPost_ret (v:=Za #[J (Y3 ⟨g,0,U⟩) m1 n1,J x2 m2 n2,J x3 m3 n3,J x4 m4 n4,J x5 m5 n5,Y4 Y5 c.now,I ⟨#[]⟩,Y4 Y5 0]) M1 rfl ⟨⟨Y3 ⟨g,0,U⟩,m1,n1,x2,m2,n2,x3,m3,n3,x4,m4,n4,x5,m5,n5⟩,⟨kQ c t n,⟨#[]⟩,0⟩,rfl,HV.out,?_,sb1 (sb1 (sb1 (sb1 (sb1 (sb1 (sb1 (sb1 (HB4.out))))))))⟩;have hk4:∀k,k<w4.heap.size->w1.heap.size<=k/\k<w3.heap.size->((((((((w4.setCell ⟨w.heap.size+1,0,U⟩ (J (Y3 ⟨g,0,U⟩) m1 n1)).setCell ⟨w.heap.size+1,1,U⟩ (J x2 m2 n2)).setCell ⟨w.heap.size+1,2,U⟩ (J x3 m3 n3)).setCell ⟨w.heap.size+1,3,U⟩ (J x4 m4 n4)).setCell ⟨w.heap.size+1,4,U⟩ (J x5 m5 n5)).setCell ⟨w.heap.size+1,5,U⟩ (Y4 Y5 c.now)).setCell ⟨w.heap.size+1,6,U⟩ (I ⟨#[]⟩)).setCell ⟨w.heap.size+1,7,U⟩ (Y4 Y5 0)).heap[k]?=w4.heap[k]?:=λk _ h1=>by rw[Ya _ _ _ _ (show k≠w.heap.size+1 by omega),Ya _ _ _ _ (show k≠w.heap.size+1 by omega),Ya _ _ _ _ (show k≠w.heap.size+1 by omega),Ya _ _ _ _ (show k≠w.heap.size+1 by omega),Ya _ _ _ _ (show k≠w.heap.size+1 by omega),Ya _ _ _ _ (show k≠w.heap.size+1 by omega),Ya _ _ _ _ (show k≠w.heap.size+1 by omega),Ya _ _ _ _ (show k≠w.heap.size+1 by omega)]
 exact ag5):p:=h
theorem rS(h:p:=by
 obtain⟨o0,o1,o2,o3,o4,o5⟩:=cs6 Bo4;obtain⟨r0,r1,r2,r3,r4,r5,r6,r7⟩:=cs8 Br4;obtain⟨fr0,fr1,fr2,fr3,fr4,fr5,fr6,fr7,hol,hrl⟩:=akP;obtain⟨hne5,hne6⟩:=zT;go_wp2;have hlo:=HLO.out;exact z1535z):p:=h
theorem EL(h:p:=by
 go_wp2;have hlo:=HLO.out;refine bodyPost_ret (v:=Za #[J (Y3 ⟨g,0,U⟩) m1 n1,J x2 m2 n2,J x3 m3 n3,J x4 m4 n4,J x5 m5 n5,Y4 Y5 c.now,I ⟨#[]⟩,Y4 Y5 0]) M0 rfl ⟨⟨Y3 ⟨g,0,U⟩,m1,n1,x2,m2,n2,x3,m3,n3,x4,m4,n4,x5,m5,n5⟩,⟨nV c t n,⟨#[]⟩,0⟩,rfl,HV.out,?_,Below.alloc (sb1 (sb1 (sb1 (sb1 (sb1 (sb1 (sb1 (sb1 (ah (show w.heap.size<=g by omega) (ah (show w.heap.size<=g by omega) (ah (show w.heap.size<=g by omega) (HB.out)))))))))))) kG _⟩;have hk2:∀k,w1.heap.size<=k->k<w3.heap.size->((((((((((((w3.setCell ⟨g,j*7+5,U⟩ (Y7 Y8)).setCell ⟨g,j*7+6,U⟩ (J U 0 0)).setCell ⟨g,j*7+4,U⟩ (Y4 Y5 0)).setCell ⟨w.heap.size+1,0,U⟩ (J (Y3 ⟨g,0,U⟩) m1 n1)).setCell ⟨w.heap.size+1,1,U⟩ (J x2 m2 n2)).setCell ⟨w.heap.size+1,2,U⟩ (J x3 m3 n3)).setCell ⟨w.heap.size+1,3,U⟩ (J x4 m4 n4)).setCell ⟨w.heap.size+1,4,U⟩ (J x5 m5 n5)).setCell ⟨w.heap.size+1,5,U⟩ (Y4 Y5 c.now)).setCell ⟨w.heap.size+1,6,U⟩ (I ⟨#[]⟩)).setCell ⟨w.heap.size+1,7,U⟩ (Y4 Y5 0)).alloc (Y6 (clo6 (Y3 ⟨g,0,U⟩) m1 n1 x2 m2 n2 x3 m3 n3 x4 m4 n4 x5 m5 n5 c.now) 29)).heap[k]?=(((w3.setCell ⟨g,j*7+5,U⟩ (Y7 Y8)).setCell ⟨g,j*7+6,U⟩ (J U 0 0)).setCell ⟨g,j*7+4,U⟩ (Y4 Y5 0)).heap[k]?:=λk h1 h2=>by
  refine (Ym _ _ _ (by simpa[YO] using h2)).trans ?_;exact z_
 have hk3:∀k,w1.heap.size<=k->¬k=g->k<w3.heap.size->((((((((((((w3.setCell ⟨g,j*7+5,U⟩ (Y7 Y8)).setCell ⟨g,j*7+6,U⟩ (J U 0 0)).setCell ⟨g,j*7+4,U⟩ (Y4 Y5 0)).setCell ⟨w.heap.size+1,0,U⟩ (J (Y3 ⟨g,0,U⟩) m1 n1)).setCell ⟨w.heap.size+1,1,U⟩ (J x2 m2 n2)).setCell ⟨w.heap.size+1,2,U⟩ (J x3 m3 n3)).setCell ⟨w.heap.size+1,3,U⟩ (J x4 m4 n4)).setCell ⟨w.heap.size+1,4,U⟩ (J x5 m5 n5)).setCell ⟨w.heap.size+1,5,U⟩ (Y4 Y5 c.now)).setCell ⟨w.heap.size+1,6,U⟩ (I ⟨#[]⟩)).setCell ⟨w.heap.size+1,7,U⟩ (Y4 Y5 0)).alloc (Y6 (clo6 (Y3 ⟨g,0,U⟩) m1 n1 x2 m2 n2 x3 m3 n3 x4 m4 n4 x5 m5 n5 c.now) 29)).heap[k]?=w3.heap[k]?:=λk h1 h3 h2=>by
  rw[hk2 k h1 h2,Ya _ _ _ _ h3,Ya _ _ _ _ h3,Ya _ _ _ _ h3]
 obtain⟨⟨cur,H,hbk,_⟩,_⟩:=HST.out;have h2:=((HST.ahz (i:=5) rfl Y8).ahx (i:=6) rfl).AN (i:=4) rfl 0;obtain⟨⟨cur2,H2,h3,_⟩,_,_⟩:=h2;have hns:(nV c t n).raw.n=(c.ns.map ndF).set j (ndF (Aq n)):=by
  show (c.ns.set (pl Nd.n c.ns t) (Aq n)).map ndF=_;rw[(a_ HT.2.1.1.2.2 HNJ.out HOK.2.2.2).1,List.map_set]
 have far:∀{a l cp m T rs},aw w3 a l cp m T rs (λk=>w1.heap.size<=k)->¬38=T->aw ((((((((((((w3.setCell ⟨g,j*7+5,U⟩ (Y7 Y8)).setCell ⟨g,j*7+6,U⟩ (J U 0 0)).setCell ⟨g,j*7+4,U⟩ (Y4 Y5 0)).setCell ⟨w.heap.size+1,0,U⟩ (J (Y3 ⟨g,0,U⟩) m1 n1)).setCell ⟨w.heap.size+1,1,U⟩ (J x2 m2 n2)).setCell ⟨w.heap.size+1,2,U⟩ (J x3 m3 n3)).setCell ⟨w.heap.size+1,3,U⟩ (J x4 m4 n4)).setCell ⟨w.heap.size+1,4,U⟩ (J x5 m5 n5)).setCell ⟨w.heap.size+1,5,U⟩ (Y4 Y5 c.now)).setCell ⟨w.heap.size+1,6,U⟩ (I ⟨#[]⟩)).setCell ⟨w.heap.size+1,7,U⟩ (Y4 Y5 0)).alloc (Y6 (clo6 (Y3 ⟨g,0,U⟩) m1 n1 x2 m2 n2 x3 m3 n3 x4 m4 n4 x5 m5 n5 c.now) 29)) a l cp m T rs (λk=>w1.heap.size<=k):=λh hT=>(h.dN hbk.blk hT ag).az (λk hk s=>hk3 k s.1 s.2 hk) (λk hk s=>s.1);have hR:aw (((w3.setCell ⟨g,j*7+5,U⟩ (Y7 Y8)).setCell ⟨g,j*7+6,U⟩ (J U 0 0)).setCell ⟨g,j*7+4,U⟩ (Y4 Y5 0)) (Y3 ⟨g,0,U⟩) m1 n1 7 38 (nV c t n).raw.n (λk=>w1.heap.size<=k/\k<w3.heap.size):=by
  exact N6
 exact⟨(hR.az (w':=((((((((((((w3.setCell ⟨g,j*7+5,U⟩ (Y7 Y8)).setCell ⟨g,j*7+6,U⟩ (J U 0 0)).setCell ⟨g,j*7+4,U⟩ (Y4 Y5 0)).setCell ⟨w.heap.size+1,0,U⟩ (J (Y3 ⟨g,0,U⟩) m1 n1)).setCell ⟨w.heap.size+1,1,U⟩ (J x2 m2 n2)).setCell ⟨w.heap.size+1,2,U⟩ (J x3 m3 n3)).setCell ⟨w.heap.size+1,3,U⟩ (J x4 m4 n4)).setCell ⟨w.heap.size+1,4,U⟩ (J x5 m5 n5)).setCell ⟨w.heap.size+1,5,U⟩ (Y4 Y5 c.now)).setCell ⟨w.heap.size+1,6,U⟩ (I ⟨#[]⟩)).setCell ⟨w.heap.size+1,7,U⟩ (Y4 Y5 0)).alloc (Y6 (clo6 (Y3 ⟨g,0,U⟩) m1 n1 x2 m2 n2 x3 m3 n3 x4 m4 n4 x5 m5 n5 c.now) 29))) (λk hk s=>hk2 k s.1 s.2) (λ_ _ s=>s)).rl (λk s=>loq),(far HO.k ag).rl (λk s=>loq),(far HO.v ag).rl (λk s=>loq),(far HO.x ag).rl (λk s=>loq),(far HO.p ag).rl (λk s=>loq)⟩):p:=h
theorem EJ(h:p:=by
 exact Yb fo0 (Yb fo1 (Yb fo2 (Yb fo3 (Yb fo4 (Yb fo5 (Yb fr0 (Yb fr1 (Yb fr2 (Yb fr3 (Yb fr4 (Yb fr5 (Yb fr6 fr7))))))))))))):p:=h
theorem DR(h:p:=by
 rintro e w3 ⟨d',rfl,ho,hb⟩;have HQ3:=aa hb.size;clear k0 k1 k2 k3 k4 k5 ltk_2;have z1388z:=@aa _ @Hi;exact bj):p:=h
theorem DM(h:p:=by
 have z41z:=@aa _ @aiu;exact ei):p:=h
theorem jq(h:p:=by
 have HV:=aa hV;clear hV;have hp1:(p==0)=Y8:=mU
 obtain⟨k0,k1,k2,k3,k4,k5⟩:=cs6 Bk;have ltk_1:=ae Bk.out;go_wp2_with fail;refine (aK p _).mono ?_;exact z1631z):p:=h
theorem DE(h:p:=by
 obtain⟨HA0,HA1,hbx⟩:=eh hb;have Bk:=aa HA0;have Br:=aa HA1;replace HB:=upB HB hbx;clear hb hbx HA0 HA1;rcases hf with ⟨i,p,hw,hpi,hp0,rfl⟩|⟨j,n,hn,hok,rfl⟩
 ·have HV:Hid (eo c t (co0 p)):=Zc ⟨i,hw,by rw[hpi]⟩;have hp1:(p==0)=Y8:=mU
  clear hw hpi hp0;have z1169z:=@aa _ @KL;exact fB
 have z1439z:=@aa _ @Gc;exact mB):p:=h
theorem DD(h:p:=by
 obtain⟨HA0,HA1,hbx⟩:=eh hb;have Bk:=aa HA0;have Br:=aa HA1;replace HB:=upB HB hbx;clear hb hbx HA0 HA1;rcases hf with ⟨i,p,hw,hpi,hp0,rfl⟩|⟨j,n,hn,hok,rfl⟩
 ·have HV:Hid (fm c t (co0 p)):=Zc ⟨i,hw,by rw[hpi]⟩;have hp1:(p==0)=Y8:=mU
  clear hw hpi hp0;have z1169z:=@aa _ @KJ;exact fB
 have z1439z:=@aa _ @Gb;exact mB):p:=h
theorem lY(h:p:=by
 go_wp2_with fail;refine (AT ⟨a1,l1,y1,a2,l2,y2,a3,l3,y3,a4,l4,y4,a5,l5,y5⟩ c t _ (HR.below (HB.trans ((aR _ _ _).mono HB.size)))).mono ?_;rintro e w1 ⟨hb,hf⟩;exact z1642z):p:=h
theorem Dy(h:p:=by
 have ltk_2:=ae Bk.out;have z1541z:=@aa _ @EL;exact mm):p:=h
theorem rr(h:p:=by
 have HST:=aa hS;have HO:=aa ho;have hne:¬g=w3.heap.size:=af
 have hne2:¬w3.heap.size=g:=af
 have hne3:¬g=w.heap.size+1:=af
 have hne4:¬w.heap.size+1=g:=af
 obtain⟨hne5,hne6⟩:=zT;clear hS ho hga;obtain⟨k0,k1,k2,k3,k4,k5⟩:=cs6 Bk;exact z1650z):p:=h
theorem ay.copy {len:Nat} (h:w.heap[b]?=Y3 (Y6 (zs.map Yn).toArray T (0,0))) (hl:zs.length=len) (hl2:len<=1048576) (hs:∀(j:Nat) x,zs[j]?=Y3 x->x.size<=9223372036854775807):
  ay w (Y3 ⟨b,0,U⟩) len len zs:=by
 refine⟨hl,Ye _,by omega,hs,?_⟩;by_cases hz:zs=[]
 ·exact Or.inl hz
 refine Or.inr ⟨b,0,rfl,?_,λj x hx=>?_⟩
 ·exact OM
 ·rw[an h];simp[hx]
/-! The cells of a block, at once; what stands behind a callee that came up over new blocks. -/
theorem cs3 {v0 v1 v2:Value} (h:w.heap[b]?=Y3 (Y6 #[v0,v1,v2] T (0,0))):w.cell? ⟨b,0,U⟩=Y3 v0/\w.cell? ⟨b,1,U⟩=Y3 v1/\w.cell? ⟨b,2,U⟩=Y3 v2:=⟨an h 0,an h 1,an h 2⟩
theorem Wd.heap(i:Wd W) {b:Nat} (h:b<W.heap.size):i.w.heap[b]?=W.heap[b]?:=i.b.block b h
namespace Mk
theorem gW.len {n:Nat} (h:gW u n r) (h1:u<=9223372036854775807):r.size<=19:=by
 exact O6
theorem gW.step {n:Nat} (h:gW u n r) (hn:¬n=0):gW u (n / 10) (⟨#[dgB n]⟩++r):=by
 exact OW
theorem Kept.cr(h:Below w.heap.size w w'):Kept g w w':=⟨h.os,h.tape,h.output,h.size,λk hk _=>h.block k hk⟩
theorem Kept.trans {a b c:World} (h:Kept g a b) (k:Kept g b c):Kept g a c:=⟨k.os.trans h.os,k.tape.trans h.tape,k.output.trans h.output,Yl h.size k.size,λi hi hn=>(k.block i (Yj hi h.size) hn).trans (h.block i hi hn)⟩
theorem Kept.set(h:Kept g w w'):Kept g w (w'.setCell ⟨g,i,U⟩ v):=
 ⟨h.os,h.tape,h.output,by simpa[YO] using h.size,λk hk hn=>(Ya _ _ _ _ hn).trans (h.block k hk hn)⟩
theorem Kept.below(h:Kept g w1 w2) (hb:Below B w w1) (hB:B<=w1.heap.size) (hg:B<=g):Below B w w2:=
 ⟨h.os.trans hb.os,h.tape.trans hb.tape,h.output.trans hb.output,Yl hb.size h.size,λk hk=>(h.block k (Yj hk hB) af).trans (hb.block k hk)⟩
end Mk
namespace Rc
theorem aT.nil(a:Option Addr) (cap m:Nat) (h:cap<=9223372036854775807):aT w a 0 cap m []:=⟨rfl,YI _,h,Zc rfl⟩
theorem aG.kept(h:aG S w w1) (h1:S g) (k:Kept g w1 w2):aG S w w2:=
 h.trans ⟨k.os,k.tape,k.output,k.size,λi hi hn=>k.block i hi (λe=>hn (e ▸ h1))⟩
theorem nQ.az {h:Nat} (k:nQ w h S g zs v) (hk:zs≠[]->S h->w'.heap[h]?=w.heap[h]?) (hs:∀k,S k->S' k):nQ w' h S' g zs v:=by
 obtain⟨a',l',c',h1,h2,h3,h4,h5,h6⟩:=k;refine⟨a',l',c',h1,h2,h3,h4,h5,?_⟩;by_cases hz:zs=[]
 ·exact Zc hz
 ·rcases h6 with h6|⟨q1,q2,q3,cu,q4,q5⟩
  ·exact Zc h6
  ·exact Zb ⟨q1,hs _ q2,q3,cu,(hk hz q2).trans q4,q5⟩
theorem Fv.Own.az {h:Nat} {f:Fv} (k:f.Own w h S g v) (hk:(∃zs,f=.l zs/\zs≠[])->S h->w'.heap[h]?=w.heap[h]?) (hs:∀k,S k->S' k):f.Own w' h S' g v:=by
 cases f with
 | l zs=>exact nQ.az k (λhz=>hk ⟨zs,rfl,hz⟩) hs
 | _=>exact k
theorem aw.kept {len:Nat} {rs:List (List Fv)} (h:aw w a len cap m T rs S) (hb:aG S' w w') (hd:∀k,S k->¬S' k):aw w' a len cap m T rs S:=h.az (λk hk s=>hb.block k hk (hd k s)) (λ_ _ s=>s)
section
variable {g m:Nat} {T:TypeId} {S N:Nat->Prop} {w wr w2:World} {rs:List (List Fv)} {j:Nat} {r:List Fv}
theorem StJ.below(h:StJ g m T S N w wr rs j r) (hb:Below wr.heap.size wr w2):StJ g m T S N w w2 rs j r:=by
 obtain⟨⟨cur,H,h1,hN⟩,h2,h3⟩:=h;exact⟨⟨cur,H,h1.az (λk hk _=>hb.block k hk) (λ_ _ s=>s),hN⟩,h2.below hb,h3⟩
theorem StJ.fresh(h:StJ g m T S N w wr rs j r) (hb:Below wr.heap.size wr w2):StJ g m T S (λk=>wr.heap.size<=k) w w2 rs j r:=by
 obtain⟨⟨cur,H,h1,hN⟩,h2,h3⟩:=h;refine⟨⟨cur,H,h1.az (λk hk _=>hb.block k hk) (λ_ _ s=>s),λj' r' i' zs hj hi hz hk=>?_⟩,h2.below hb,h3⟩;obtain⟨v,h4,a,len,cap,rfl,h5,h6,h7,h8,h9⟩:=h1.cell j' r' hj i' _ hi;rcases h9 with h9|⟨q1,q2,q3,cu,q4,q5⟩
 ·exact hz h9
 ·have:=ae q4;omega
theorem StJ.slice(h:StJ g m T S N w wr rs j r) {i:Nat} {zs:List ByteArray} (hi:r[i]?=Y3 (.l zs)):∃a len cap,wr.cell? ⟨g,j*m+i,U⟩=Y3 (J a len cap)/\zs.length=len:=by
 obtain⟨⟨cur,H,h1,hN⟩,h2,h3⟩:=h;obtain⟨v,h4,a,len,cap,rfl,h5,-⟩:=h1.cell j r (by rw[ch h3,if_pos rfl]) i _ hi;exact⟨a,len,cap,(an h1.blk _).trans h4,h5⟩
theorem StJ.amd(h:StJ g m T S N w wr rs j r) {i:Nat} {old:Fv} (hi:r[i]?=Y3 old) {b:Nat} (zs:List ByteArray) {len cap:Nat} (hb:zs≠[]->N b) (hv:nQ wr b S g zs (J (Y3 ⟨b,0,U⟩) len cap)):
  StJ g m T S (λk=>N k/\¬k=b) w (wr.setCell ⟨g,j*m+i,U⟩ (J (Y3 ⟨b,0,U⟩) len cap)) rs j (r.set i (.l zs)):=by
 have z367z:=@aa _ @abG;exact zi
end
theorem StJ.ahz {N:Nat->Prop} {rs:List (List Fv)} {r:List Fv} (h:StJ g m T S N w wr rs j r) {i:Nat} {old:Fv} (hi:r[i]?=Y3 old) (t:Bool):StJ g m T S N w (wr.setCell ⟨g,j*m+i,U⟩ (Y7 t)) rs j (r.set i (.b t)):=h.set hi (.b t) rfl trivial
theorem uA(h:¬i=j):(w.setCell ⟨g,i,U⟩ v).cell? ⟨g,j,U⟩=w.cell? ⟨g,j,U⟩:=by
 cases hg:w.heap[g]? with
 | none=>
  have hs:(w.setCell ⟨g,i,U⟩ v).heap[g]?=U:=by
   have h1:=Array.getElem?_eq_none_iff.1 hg;exact Array.getElem?_eq_none_iff.2 (by simpa[YO] using h1)
  simp[World.cell?,hg,hs]
 | some o=>
  cases o with
  | cells cs t fr=>
   have:=au (i:=i) hg v;simp only[World.cell?,hg,this]
   simp[Array.getElem?_setIfInBounds_ne h]
  | _=>simp[World.cell?,YO,Array.getElem?_modify,hg]
end Rc
theorem QC.below {len X Y:Nat} (h:QC w g len X Y) (hY:Y<=w.heap.size) (hb:Below w.heap.size w w'):QC w' g len X Y:=by
 obtain⟨h1,h2,cur,h3,h4,h5⟩:=h;refine⟨h1,h2,cur,(hb.block _ (Yj h2 hY)).trans h3,h4,λj hj=>?_⟩;obtain⟨a,l,c,h6,h7,h8⟩:=h5 j hj;refine⟨a,l,c,h6,h7,h8.imp id ?_⟩;rintro⟨h,cu,h9,h10,h11,h12,h13,h14⟩;exact⟨h,cu,h9,h10,h11,h12,(hb.block _ (Yj h11 hY)).trans h13,h14⟩
namespace Rc
theorem cX.kept {c:Cr} (h:cX w d c S) (hb:aG S' w w') (hd:∀k,S k->¬S' k):cX w' d c S:=by
 obtain⟨P,h⟩:=h;exact⟨P,h.az (λk hk s=>hb.block k hk (hd k s)) (λ_ _ s=>s)⟩
theorem LFr.row {h:Nat} {len:Nat} (k:LFr w h S zs (J a len cap)):ay w a len cap zs:=by
 obtain⟨a',l',c',h1,h2,h3,h4,h5,h6⟩:=k;cases h1;refine⟨h2,h3,h4,h5,h6.imp id ?_⟩;rintro⟨q1,q2,cu,q4,q5⟩;exact⟨h,0,q1,ae q4,λj x hx=>by rw[Yq,an q4];exact q5 j x hx⟩
section
variable {w w':World} {S S':Nat->Prop} {m:Nat} {rs:List (List Fv)} {vss:List (List Value)} {H:Nat->Nat->Nat}
end
theorem Bw.kept {y:World} (h:Bw y W) (hk:aG S W W') (hs:∀k,S k->y.heap.size<=k):Bw y W':=Below.trans h (hk.low (Below.size h) hs)
theorem bN.kept {l c:Nat} (h:bN w a l c zs S) (hb:aG S' w w') (hd:∀k,S k->¬S' k):bN w' a l c zs S:=h.az (λk hk s=>hb.block k hk (hd k s)) (λ_ _ s=>s)
theorem bM.aj4(h:bM c):eV 1 c.raw<=1000000000000000:=by
 have one:∀{zs zs':List ByteArray},zs.length<=1048576->Y3 (Fv.l zs)=Y3 (.l zs')->zs'.length<=1048576:=λh e=>by cases e;exact h
 have a1:=λk=>gU (F:=ndF) (m:=7) (xs:=c.ns) (λ_=>Ye _) (λj x hx i zs hi=>by
  rcases i with _|_|_|_|_|_|_|i <;> first|(simp[ndF] at hi;done)|exact one (h.f1 j x hx) hi) h.l1 ag k
 have a2:=λk=>gU (F:=kdF) (m:=4) (xs:=c.ks) (λ_=>Ye _) (λj x hx i zs hi=>by
  rcases i with _|_|_|_|i <;> (simp[kdF] at hi)) h.l2 ag k
 have a3:=λk=>gU (F:=vdF) (m:=8) (xs:=c.vs) (λ_=>Ye _) (λj x hx i zs hi=>by
  rcases i with _|_|_|_|_|_|_|_|i <;> first|(simp[vdF] at hi;done)|exact one (h.f3 j x hx) hi) h.l3 ag k
 have a4:=λk=>gU (F:=xdF) (m:=5) (xs:=c.xs) (λ_=>Ye _) (λj x hx i zs hi=>by
  rcases i with _|_|_|_|_|i <;> (simp[xdF] at hi)) h.l4 ag k
 have a5:=λk=>gU (F:=pdF) (m:=6) (xs:=c.ps) (λ_=>Ye _) (λj x hx i zs hi=>by
  rcases i with _|_|_|_|_|_|i <;> first|(simp[pdF] at hi;done)|exact one (h.f5 j x hx) hi) h.l5 ag k
 unfold eV Cl.raw;have b1:=a1 1;have b2:=a2 (fl 1 (c.ns.map ndF));have b3:=a3 (fl (fl 1 (c.ns.map ndF)) (c.ks.map kdF));have b4:=a4 (fl (fl (fl 1 (c.ns.map ndF)) (c.ks.map kdF)) (c.vs.map vdF));have b5:=a5 (fl (fl (fl (fl 1 (c.ns.map ndF)) (c.ks.map kdF)) (c.vs.map vdF)) (c.xs.map xdF));simp only[];omega
theorem bM.marks(h:bM c):eV 1 c.raw<=1152921504606846976:=Int.le_trans h.aj4 (by decide)
def xb(c:Cl) (t:ByteArray):Prop:=∃(i:Nat) (x:Xd),c.xs[i]?=Y3 x/\x.n=t
theorem xb.aj0(h:hit Xd.n c.xs t=Y_):xb c t:=by
 obtain⟨x,h1,h2⟩:=cv h;exact⟨_,x,h1,h2⟩
theorem xb.no(hr:av c) (h:hit Xd.n c.xs t=Y8):¬xb c t:=λ⟨i,x,h1,h2⟩=>by
 have:=(a_ hr.2.1.2.2.2.1.2.2 h1 h2).2;rw[h] at this;cases this
def AskWhy(c:Cl) (t:ByteArray):Nat->Prop
 | 0=>8000<t.size
 | 1=>¬8000<t.size/\¬av c
 | 2=>¬8000<t.size/\av c/\¬xb c t
 | _=>False
def alN(Is:Co->Prop) (w:World) (e:Ending) (w':World):Prop:=∃g o,e=Y9 (Za #[J g.a1 g.l1 g.c1,J g.a2 g.l2 g.c2,J g.a3 g.l3 g.c3,J g.a4 g.l4 g.c4,J g.a5 g.l5 g.c5,Y4 Y5 o.c.now,I o.n,Y4 Y5 o.p])/\Is o/\aB w' g o.c.raw/\Below w.heap.size w w'
def DwWhy(c:Cl) (t:ByteArray) (St:Nat->Prop):Nat->Prop
 | 0=>8000<t.size
 | 1=>¬8000<t.size/\¬av c
 | i+2=>¬8000<t.size/\av c/\St (i+2)
def kE(c:Cl) (t:ByteArray) (St:Nat->Prop) (ok:Prop) (r:Cl) (o:Co):Prop:=(∃i,DwWhy c t St i/\o=co0 (bu i))\/(¬8000<t.size/\av c/\ok/\o=⟨r,⟨#[]⟩,0⟩)
theorem afS.at(h:afS E Why ok w e w') (i:Nat) (hu:∀j,Why j->j=i) (hn:¬ok):e=Y9 (.iface 193 (Zd (Y3 (E i))))/\Below w.heap.size w w':=by
 obtain⟨hb,⟨j,_,hj,rfl⟩|⟨ho,_⟩⟩:=h
 ·rw[hu j hj];exact⟨rfl,hb⟩
 ·exact absurd ho hn
theorem afS.nil(h:afS E Why ok w e w') (hno:∀j,¬Why j):e=Y9 .nilIface/\Below w.heap.size w w':=by
 obtain⟨hb,⟨j,_,hj,rfl⟩|⟨ho,rfl⟩⟩:=h
 ·exact absurd hj (hno j)
 ·exact⟨rfl,hb⟩
theorem WnF.mono:Fact.bH WnF:=λ_ _ _ h _=>h
theorem TwF.mono(P:Value->Value->Prop):Fact.bH (TwF P):=by
 rintro v w w' ⟨b,v0,v1,h1,h2,h3,h4⟩ hb;exact⟨b,v0,v1,h1,h2,(ai hb (bf h3)).trans h3,(ai hb (bf h4)).trans h4⟩
theorem jR(h:w.heap[b]?=Y3 (Y6 cs T (0,0))):w.frozen? ⟨b,0,U⟩=Y8/\w.frozen? ⟨b,1,U⟩=Y8/\w.frozen? ⟨b,2,U⟩=Y8/\w.frozen? ⟨b,3,U⟩=Y8/\w.frozen? ⟨b,4,U⟩=Y8/\w.frozen? ⟨b,5,U⟩=Y8/\w.frozen? ⟨b,6,U⟩=Y8/\w.frozen? ⟨b,7,U⟩=Y8:=⟨al h 0,al h 1,al h 2,al h 3,al h 4,al h 5,al h 6,al h 7⟩
theorem ep {v0 v1 v2 v3 v4 v5 v6 v7:Value} (hb:B<=b) (h:Below B w w1):Below B w ((((((((w1.setCell ⟨b,0,U⟩ v0).setCell ⟨b,1,U⟩ v1).setCell ⟨b,2,U⟩ v2).setCell ⟨b,3,U⟩ v3).setCell ⟨b,4,U⟩ v4).setCell ⟨b,5,U⟩ v5).setCell ⟨b,6,U⟩ v6).setCell ⟨b,7,U⟩ v7):=ah hb (ah hb (ah hb (ah hb (ah hb (ah hb (ah hb (ah hb (h))))))))
def afQ(c:Cl) (x:Vd):Cl:=⟨c.ns,c.ks,aM (pl Vd.n c.vs x.n) x c.vs,c.xs,c.ps,c.now⟩
def fo(c:Cl) (x:Vd):Prop:=(av c/\qJ x/\x.m=⟨#[]⟩/\x.y=Y8/\x.zs=[])
def AddVWhy(c:Cl) (x:Vd):Nat->Prop
 | 1=>¬fo c x
 | 3=>fo c x/\hit Vd.n c.vs x.n=Y_
 | 4=>fo c x/\hit Vd.n c.vs x.n=Y8/\8<=c.vs.length
 | 2=>fo c x/\hit Vd.n c.vs x.n=Y8/\c.vs.length<8/\¬(hit Kd.n c.ks x.k=Y_)
 | _=>False
def aW(c:Cl) (x:Vd) (o:Co):Prop:=(∃i,AddVWhy c x i/\o=co0 (bu i))\/(fo c x/\hit Vd.n c.vs x.n=Y8/\c.vs.length<8/\(hit Kd.n c.ks x.k=Y_)/\o=⟨afQ c x,⟨#[]⟩,0⟩)
theorem AddVWhy.cases {x:Vd} (h:AddVWhy c x i):(i=1/\¬fo c x)\/(i=3/\fo c x/\hit Vd.n c.vs x.n=Y_)\/(i=4/\fo c x/\hit Vd.n c.vs x.n=Y8/\8<=c.vs.length)\/(i=2/\fo c x/\hit Vd.n c.vs x.n=Y8/\c.vs.length<8/\¬(hit Kd.n c.ks x.k=Y_)):=by
 rcases i with _|_|_|_|_|i <;> simp only[AddVWhy] at h
 ·exact Zc ⟨rfl,h⟩
 ·exact Zb (Zb (Zb ⟨rfl,h⟩))
 ·exact Zb (Zc ⟨rfl,h⟩)
 ·exact Zb (Zb (Zc ⟨rfl,h⟩))
theorem aW.marks {x:Vd} (h:aW c x o) (hf:bM c):eV 1 o.c.raw<=1152921504606846976:=by
 rcases h with ⟨i,_,rfl⟩|⟨b1,_,hl,_,rfl⟩
 ·exact aV _
 ·have hlen:(aM (pl Vd.n c.vs x.n) x c.vs).length<=1048576:=by
   rw[ct (show pl Vd.n c.vs x.n<=c.vs.length from List.findIdx_le_length)];omega
  have hz:∀(j:Nat) y,(aM (pl Vd.n c.vs x.n) x c.vs)[j]?=Y3 y->y.zs.length<=1048576:=λj y hy=>by
   rcases nx hy with rfl|⟨i,hi⟩
   ·have h9:=b1.2.2.2.2;rw[h9];exact YI _
   ·exact hf.f3 i y hi
  exact bM.marks (c:=afQ c x) ⟨hf.l1,hf.f1,hf.l2,hlen,hz,hf.l4,hf.l5,hf.f5⟩
def BB(c:Cl) (x:Xd):Cl:=⟨c.ns,c.ks,c.vs,aM (pl Xd.n c.xs x.n) x c.xs,c.ps,c.now⟩
def AddXWhy(c:Cl) (x:Xd):Nat->Prop
 | 1=>¬(av c/\gB x/\x.v=⟨#[]⟩)
 | 3=>(av c/\gB x/\x.v=⟨#[]⟩)/\hit Xd.n c.xs x.n=Y_
 | 4=>(av c/\gB x/\x.v=⟨#[]⟩)/\hit Xd.n c.xs x.n=Y8/\8<=c.xs.length
 | 2=>(av c/\gB x/\x.v=⟨#[]⟩)/\hit Xd.n c.xs x.n=Y8/\c.xs.length<8/\hit Kd.n c.ks x.k=Y8
 | _=>False
def bF(c:Cl) (x:Xd) (o:Co):Prop:=(∃i,AddXWhy c x i/\o=co0 (bu i))\/((av c/\gB x/\x.v=⟨#[]⟩)/\hit Xd.n c.xs x.n=Y8/\c.xs.length<8/\hit Kd.n c.ks x.k=Y_/\o=⟨BB c x,⟨#[]⟩,0⟩)
theorem AddXWhy.cases {x:Xd} (h:AddXWhy c x i):(i=1/\¬(av c/\gB x/\x.v=⟨#[]⟩))\/(i=3/\(av c/\gB x/\x.v=⟨#[]⟩)/\hit Xd.n c.xs x.n=Y_)\/(i=4/\(av c/\gB x/\x.v=⟨#[]⟩)/\hit Xd.n c.xs x.n=Y8/\8<=c.xs.length)\/(i=2/\(av c/\gB x/\x.v=⟨#[]⟩)/\hit Xd.n c.xs x.n=Y8/\c.xs.length<8/\hit Kd.n c.ks x.k=Y8):=by
 rcases i with _|_|_|_|_|i <;> simp only[AddXWhy] at h
 ·exact Zc ⟨rfl,h⟩
 ·exact Zb (Zb (Zb ⟨rfl,h⟩))
 ·exact Zb (Zc ⟨rfl,h⟩)
 ·exact Zb (Zb (Zc ⟨rfl,h⟩))
theorem bF.marks {x:Xd} (h:bF c x o) (hf:bM c):eV 1 o.c.raw<=1152921504606846976:=by
 rcases h with ⟨i,_,rfl⟩|⟨_,_,hl,_,rfl⟩
 ·exact aV _
 ·refine bM.marks (c:=BB c x) ⟨hf.l1,hf.f1,hf.l2,hf.l3,hf.f3,?_,hf.l5,hf.f5⟩;show (aM _ x c.xs).length<=_;rw[ct (show pl Xd.n c.xs x.n<=c.xs.length from List.findIdx_le_length)];omega
theorem jR(h:w.heap[b]?=Y3 (Y6 cs T (0,0))):w.frozen? ⟨b,0,U⟩=Y8/\w.frozen? ⟨b,1,U⟩=Y8/\w.frozen? ⟨b,2,U⟩=Y8/\w.frozen? ⟨b,3,U⟩=Y8/\w.frozen? ⟨b,4,U⟩=Y8/\w.frozen? ⟨b,5,U⟩=Y8/\w.frozen? ⟨b,6,U⟩=Y8/\w.frozen? ⟨b,7,U⟩=Y8:=⟨al h 0,al h 1,al h 2,al h 3,al h 4,al h 5,al h 6,al h 7⟩
theorem ep {v0 v1 v2 v3 v4 v5 v6 v7:Value} (hb:B<=b) (h:Below B w w1):Below B w ((((((((w1.setCell ⟨b,0,U⟩ v0).setCell ⟨b,1,U⟩ v1).setCell ⟨b,2,U⟩ v2).setCell ⟨b,3,U⟩ v3).setCell ⟨b,4,U⟩ v4).setCell ⟨b,5,U⟩ v5).setCell ⟨b,6,U⟩ v6).setCell ⟨b,7,U⟩ v7):=ah hb (ah hb (ah hb (ah hb (ah hb (ah hb (ah hb (ah hb (h))))))))
def BC(c:Cl) (x:Pd):Cl:=⟨c.ns,c.ks,c.vs,c.xs,aM (pl Pd.n c.ps x.n) x c.ps,c.now⟩
def fp(c:Cl) (x:Pd):Prop:=(av c/\uf x/\x.p=0)
def AddPWhy(c:Cl) (x:Pd):Nat->Prop
 | 1=>¬fp c x
 | 3=>fp c x/\hit Pd.n c.ps x.n=Y_
 | 4=>fp c x/\hit Pd.n c.ps x.n=Y8/\8<=c.ps.length
 | 2=>fp c x/\hit Pd.n c.ps x.n=Y8/\c.ps.length<8/\¬(∀(j:Nat) t,x.zs[j]?=Y3 t->hit Xd.n c.xs t=Y_)
 | _=>False
def bR(c:Cl) (x:Pd) (o:Co):Prop:=(∃i,AddPWhy c x i/\o=co0 (bu i))\/(fp c x/\hit Pd.n c.ps x.n=Y8/\c.ps.length<8/\(∀(j:Nat) t,x.zs[j]?=Y3 t->hit Xd.n c.xs t=Y_)/\o=⟨BC c x,⟨#[]⟩,0⟩)
theorem AddPWhy.cases(h:AddPWhy c x i):(i=1/\¬fp c x)\/(i=3/\fp c x/\hit Pd.n c.ps x.n=Y_)\/(i=4/\fp c x/\hit Pd.n c.ps x.n=Y8/\8<=c.ps.length)\/(i=2/\fp c x/\hit Pd.n c.ps x.n=Y8/\c.ps.length<8/\¬(∀(j:Nat) t,x.zs[j]?=Y3 t->hit Xd.n c.xs t=Y_)):=by
 rcases i with _|_|_|_|_|i <;> simp only[AddPWhy] at h
 ·exact Zc ⟨rfl,h⟩
 ·exact Zb (Zb (Zb ⟨rfl,h⟩))
 ·exact Zb (Zc ⟨rfl,h⟩)
 ·exact Zb (Zb (Zc ⟨rfl,h⟩))
theorem bR.marks(h:bR c x o) (hf:bM c):eV 1 o.c.raw<=1152921504606846976:=by
 rcases h with ⟨i,_,rfl⟩|⟨b1,_,hl,_,rfl⟩
 ·exact aV _
 ·have hlen:(aM (pl Pd.n c.ps x.n) x c.ps).length<=1048576:=by
   rw[ct (show pl Pd.n c.ps x.n<=c.ps.length from List.findIdx_le_length)];omega
  have hz:∀(j:Nat) y,(aM (pl Pd.n c.ps x.n) x c.ps)[j]?=Y3 y->y.zs.length<=1048576:=λj y hy=>by
   rcases nx hy with rfl|⟨i,hi⟩
   ·have h9:=b1.2.1.2.2.2.1.1;omega
   ·exact hf.f5 i y hi
  exact bM.marks (c:=BC c x) ⟨hf.l1,hf.f1,hf.l2,hf.l3,hf.f3,hf.l4,hlen,hz⟩
def alr(c:Cl) (t:ByteArray) (i:Nat):Prop:=i=2/\hit Pd.n c.ps t=Y8
def uz(c:Cl) (t:ByteArray):Cl:=⟨c.ns,c.ks,c.vs,c.xs,wo Pd.n t c.ps,c.now⟩
def cQ(c:Cl) (t:ByteArray) (o:Co):Prop:=kE c t (alr c t) (hit Pd.n c.ps t=Y_) (uz c t) o
theorem cQ.marks(h:cQ c t o) (hf:bM c):eV 1 o.c.raw<=1152921504606846976:=by
 rcases h with ⟨i,_,rfl⟩|⟨_,_,_,rfl⟩
 ·exact aV _
 ·refine bM.marks (c:=uz c t) ⟨hf.l1,hf.f1,hf.l2,hf.l3,hf.f3,hf.l4,Yl (nU _ _ _) hf.l5,λj x hx=>?_⟩;obtain⟨i,hi⟩:=uK (show (wo Pd.n t c.ps)[j]?=Y3 x from hx);exact hf.f5 i x hi
theorem OnU.step {l:Lit} (h:zs[k]?=Y3 t):OnU zs (k+1) l↔OnU zs k l\/l=Um.ul 3 t:=by
 constructor
 ·rintro⟨i,s,hi,hs,e⟩;by_cases hik:i=k
  ·subst hik;rw[h] at hs;obtain rfl:=Yd hs;exact Zb e
  ·exact Zc ⟨i,s,by omega,hs,e⟩
 ·rintro (⟨i,s,hi,hs,e⟩|e)
  ·exact⟨i,s,by omega,hs,e⟩
  ·exact⟨k,t,by omega,h,e⟩
theorem MoU.yes {n:Nd} {l:Lit} (h:ns[k]?=Y3 n) (hy:InL n.zs t):MoU ns t (k+1) l↔MoU ns t k l\/l=Um.ul 3 n.n:=by
 constructor
 ·exact Ph
 ·rintro (⟨i,s,hi,hs,a,e⟩|e)
  ·exact⟨i,s,by omega,hs,a,e⟩
  ·exact⟨k,n,by omega,h,hy,e⟩
theorem MoU.no {n:Nd} {l:Lit} (h:ns[k]?=Y3 n) (hy:¬InL n.zs t):MoU ns t (k+1) l↔MoU ns t k l:=by
 exact PD
def QP(c:Cl) (v:Vd):Prop:=¬v.zs=[]\/∃(j:Nat) (n:Nd),c.ns[j]?=Y3 n/\InL n.zs v.n
def ahj(c:Cl) (v:Vd):Prop:=¬v.m=⟨#[]⟩\/QP c v
def akm(c:Cl) (t:ByteArray) (i:Nat):Prop:=(i=2/\hit Vd.n c.vs t=Y8)\/(i=5/\hit Vd.n c.vs t=Y_/\∃(j:Nat) (v:Vd),c.vs[j]?=Y3 v/\v.n=t/\ahj c v)
def akn(c:Cl) (t:ByteArray):Prop:=hit Vd.n c.vs t=Y_/\∀(j:Nat) (v:Vd),c.vs[j]?=Y3 v->v.n=t->¬ahj c v
def uy(c:Cl) (t:ByteArray):Cl:=⟨c.ns,c.ks,wo Vd.n t c.vs,c.xs,c.ps,c.now⟩
def ck(c:Cl) (t:ByteArray) (o:Co):Prop:=kE c t (akm c t) (akn c t) (uy c t) o
theorem ck.marks(h:ck c t o) (hf:bM c):eV 1 o.c.raw<=1152921504606846976:=by
 rcases h with ⟨i,_,rfl⟩|⟨_,_,_,rfl⟩
 ·exact aV _
 ·refine bM.marks (c:=uy c t) ⟨hf.l1,hf.f1,hf.l2,Yl (nU _ _ _) hf.l3,λj x hx=>?_,hf.l4,hf.l5,hf.f5⟩;obtain⟨i,hi⟩:=uK (show (wo Vd.n t c.vs)[j]?=Y3 x from hx);exact hf.f3 i x hi
theorem PoU.yes {p:Pd} {l:Lit} (h:ps[k]?=Y3 p) (hy:InL p.zs t):PoU ps t (k+1) l↔PoU ps t k l\/l=Um.ul 1 p.n:=by
 constructor
 ·exact Ph
 ·rintro (⟨i,s,hi,hs,a,e⟩|e)
  ·exact⟨i,s,by omega,hs,a,e⟩
  ·exact⟨k,p,by omega,h,hy,e⟩
theorem PoU.no {p:Pd} {l:Lit} (h:ps[k]?=Y3 p) (hy:¬InL p.zs t):PoU ps t (k+1) l↔PoU ps t k l:=by
 exact PD
def Ar(c:Cl) (t:ByteArray):Prop:=(∃v,aY c t v/\QP c v)\/∃(j:Nat) (p:Pd),c.ps[j]?=Y3 p/\InL p.zs t
theorem aY.back {v:Vd} (hT:av c) (h:aY c t v):v.m=t:=by
 obtain⟨i,j,x,h1,h2,h3,h4⟩:=h;rcases (hT.2.2.1.2 i x h1).2 with e|⟨i',j',x',v',a1,a2,a3,a4,a5,a6,-⟩
 ·exact absurd (h4.trans e) (cM.ne hT.2.1 j v h3)
 ·obtain⟨-,rfl⟩:=hT.2.1.2.2.1.2.2.inj h3 a3 (h4.trans a4.symm);exact a6.trans h2
def oQ(c:Cl) (t:ByteArray) (i:Nat):Prop:=(i=2/\hit Xd.n c.xs t=Y8)\/(i=5/\hit Xd.n c.xs t=Y_/\Ar c t)
def Am(c:Cl) (t:ByteArray):Prop:=hit Xd.n c.xs t=Y_/\¬Ar c t
theorem Rv.any {vb:Option Nat} {s:Option Tmp} (h:Rv vb sp s w w'):w.grownBy w' vb:=(Rv.rel vb sp).sub s h
theorem UF.below(h:UF w g) (hb:Below w.heap.size w w'):UF w' g:=by
 obtain⟨cs,T,h⟩:=h;exact⟨cs,T,(hb.block _ (ae h)).trans h⟩
theorem UF.set(h:UF w g):UF (w.setCell ⟨b,i,U⟩ v) g:=by
 obtain⟨cs,T,h⟩:=h;by_cases e:g=b
 ·subst e;exact⟨_,T,au h v⟩
 ·exact⟨cs,T,(Ya w ⟨b,i,U⟩ v g e).trans h⟩
theorem UF.row {q:Nat} (h:UF w g):UF (w.setRow q cs) g:=by
 obtain⟨c0,T,h⟩:=h;by_cases e:g=q
 ·subst e;exact⟨_,T,setRow_heap w g c0 cs T _ h⟩
 ·exact⟨c0,T,(setRow_other _ _ _ _ e).trans h⟩
theorem LoA.to {len:Nat} (h:LoA B w a len) (hb:B'<=B) (hu:∀g,UF w g->UF w' g):LoA B' w' a len:=by
 rcases h with h|⟨b,o,h1,h2,h3⟩
 ·exact Zc h
 ·exact Zb ⟨b,o,h1,Yl hb h2,hu b h3⟩
theorem Low.to(h:Low B w d) (hb:B'<=B) (hu:∀g,UF w g->UF w' g):Low B' w' d:=⟨h.n.to hb hu,h.k.to hb hu,h.v.to hb hu,h.x.to hb hu,h.p.to hb hu⟩
theorem LoA.at {len:Nat} (h:LoA B w a len) {b o:Nat} (e:a=Y3 ⟨b,o,U⟩) (hl:0<len):B<=b/\UF w b:=by
 rcases h with h|⟨b',o',h1,h2⟩
 ·omega
 ·rw[h1] at e;cases e;exact h2
theorem cX.lo {c:Cr} (h:cX w d c S) {B:Nat} (hS:∀k,S k->B<=k):Low B w d:=by
 obtain⟨P,h⟩:=h;exact⟨h.n.lo (λk s=>hS k s.1),h.k.lo (λk s=>hS k s.1),h.v.lo (λk s=>hS k s.1),h.x.lo (λk s=>hS k s.1),h.p.lo (λk s=>hS k s.1)⟩
theorem fI.row {c:Cr} (h:fI B w d c):aB w d c:=⟨h.n.1,h.k.1,h.v.1,h.x.1,h.p.1⟩
theorem fI.low {c:Cr} (h:fI B w d c):Low B w d:=⟨h.n.2,h.k.2,h.v.2,h.x.2,h.p.2⟩
theorem im.s(h:im Is w e w'):alN Is w e w':=by
 obtain⟨g,o,h1,h2,h3,h4⟩:=h;exact⟨g,o,h1,h2,h3.row,h4⟩
theorem Sel.erase {β:Type} {xs:List α} {vss:List β} (hl:vss.length=xs.length) {k:Nat} (hk:k<xs.length):Sel xs (xs.take k++xs.drop (k+1)) vss (vss.take k++vss.drop (k+1)) xs.length (λj=>if j<k then j else j+1):=by
 have hat:∀{γ:Type} {l:List γ} (j:Nat),k<l.length->j<(l.take k++l.drop (k+1)).length->(l.take k++l.drop (k+1))[j]?=l[if j<k then j else j+1]?:=by
  intro γ l j hk hj;have h1:(l.take k).length=k:=by rw[YG];omega
  by_cases e:j<k
  ·rw[Yv af,YD,if_pos e,if_pos e]
  ·rw[List.getElem?_append_right af,List.getElem?_drop,if_neg e,h1];congr 1;omega
 refine⟨by simp[hl],λj hj=>hat j hk hj,λj hj=>hat j af (by simp[hl] at hj ⊢;omega),λj hj=>?_,λi j hi hj e=>?_⟩
 ·have:(xs.take k++xs.drop (k+1)).length=xs.length - 1:=by simp;omega
  split <;> omega
 ·split at e <;> split at e <;> omega
theorem AS(d:Ad) (c:Cl) (t:ByteArray) (w:World) (hr:aB w d c.raw):
  Calls Tryz.prog 64 #[Za #[J d.a1 d.l1 d.c1,J d.a2 d.l2 d.c2,J d.a3 d.l3 d.c3,J d.a4 d.l4 d.c4,J d.a5 d.l5 d.c5,Y4 Y5 c.now],I t] w (im (cQ c t) w):=by
 have z445z:=@aa _ @aaJ;exact cf
end Rc
theorem wV.below {cb zb:Nat} {n':ByteArray} {c':Int} {k':ByteArray} {x':Bool} {v':ByteArray} (h:wV w cb zb n' c' k' x' v' t) (hb:Below w.heap.size w w1):wV w1 cb zb n' c' k' x' v' t:=
 ⟨(hb.block _ (ae h.1)).trans h.1,(hb.block _ (ae h.2)).trans h.2⟩
namespace Rc
def dB(c:Cl) (t:ByteArray) (o:Co):Prop:=
 (∃n,n<9/\AskWhy c t n/\o=co0 (bu n))\/
 (¬8000<t.size/\av c/\∃(i:Nat) (x:Xd) (j:Nat) (k:Kd),c.xs[i]?=Y3 x/\x.n=t/\c.ks[j]?=Y3 k/\k.n=x.k/\
  ((¬x.v=⟨#[]⟩/\o=co0 7)\/(x.v=⟨#[]⟩/\((k.x=Y_/\o=co0 11)\/(k.x=Y8/\iD c i x k ⟨#[]⟩ o)))))
theorem AskWhy.only {n:Nat} (h:AskWhy c t n) (h':AskWhy c t m):n=m:=by
 rcases n with _|_|_|n <;> rcases m with _|_|_|m <;> simp only[AskWhy] at h h' <;> first|rfl|exact absurd h h'.1|exact absurd h' h.1|exact absurd h'.2.1 h.2|exact absurd h.2.1 h'.2
theorem AskWhy.not {n:Nat} {x:Xd} (h:AskWhy c t n) (h1:¬8000<t.size) (h2:av c) (hx:c.xs[i]?=Y3 x) (hn:x.n=t):False:=by
 rcases n with _|_|_|n <;> simp only[AskWhy] at h
 ·exact h1 h
 ·exact h.2 h2
 ·exact h.2.2 ⟨i,x,hx,hn⟩
def Kept(c:Cl) (v:Vd):Prop:=∃(j:Nat) (k:Kd),c.ks[j]?=Y3 k/\k.n=v.k/\k.y=Y_
def BQ(v:Vd):Vd:=⟨v.n,v.c,v.z,v.k,v.x,⟨#[]⟩,Y_,v.zs⟩
def QJ(c:Cl) (v:Vd) (vs:List Vd):Prop:=(Kept c v/\vs=aM (pl Vd.n (wo Vd.n v.n c.vs) v.n) (BQ v) (wo Vd.n v.n c.vs))\/(¬Kept c v/\vs=wo Vd.n v.n c.vs)
def lG(c:Cl) (t:ByteArray) (vs:List Vd):Prop:=
 (∃(j:Nat) (v:Vd),c.vs[j]?=Y3 v/\aY c t v/\((Kept c v/\vs=c.vs.set j (BQ v))\/(¬Kept c v/\vs=wo Vd.n v.n c.vs)))\/((∀v,¬aY c t v)/\vs=c.vs)
theorem QJ.amE {v:Vd} {vs:List Vd} (hT:av c) (hb:aY c t v) (h:QJ c v vs):lG c t vs:=by
 obtain⟨j,hj⟩:=hb.at;refine Zc ⟨j,v,hj,hb,?_⟩;rcases h with ⟨a,rfl⟩|⟨a,rfl⟩
 ·exact Zc ⟨a,afn hT.2.1.2.2.1.2.2 hj rfl⟩
 ·exact Zb ⟨a,rfl⟩
def Aj(c:Cl) (t:ByteArray) (vs:List Vd):Cl:=⟨c.ns,c.ks,vs,wo Xd.n t c.xs,c.ps,c.now⟩
def cm(c:Cl) (t:ByteArray) (o:Co):Prop:=(∃i,DwWhy c t (oQ c t) i/\o=co0 (bu i))\/(¬8000<t.size/\av c/\Am c t/\∃vs,lG c t vs/\o=⟨Aj c t vs,⟨#[]⟩,0⟩)
theorem oQ.one(c:Cl) (t:ByteArray) (i j:Nat) (a:oQ c t i) (b:oQ c t j):i=j:=by
 rcases a with ⟨rfl,a⟩|⟨rfl,a,-⟩ <;> rcases b with ⟨rfl,b⟩|⟨rfl,b,-⟩ <;> first|rfl|(rw[a] at b;cases b)
theorem oQ.no(c:Cl) (t:ByteArray) (i:Nat) (a:oQ c t i) (q:Am c t):False:=by
 rcases a with ⟨-,a⟩|⟨-,-,a⟩
 ·rw[q.1] at a;cases a
 ·exact q.2 a
theorem cm.marks(h:cm c t o) (hf:bM c):eV 1 o.c.raw<=1152921504606846976:=by
 rcases h with ⟨i,_,rfl⟩|⟨_,_,_,vs,hv,rfl⟩
 ·exact aV _
 ·have hl:vs.length<=c.vs.length/\∀(j:Nat) x,vs[j]?=Y3 x->∃(i:Nat) (y:Vd),c.vs[i]?=Y3 y/\x.zs=y.zs:=by
   rcases hv with ⟨j,v,hj,-,⟨-,rfl⟩|⟨-,rfl⟩⟩|⟨-,rfl⟩
   ·refine⟨by simp,λi x hx=>?_⟩;rw[List.getElem?_set] at hx;split at hx
    ·split at hx
     ·obtain rfl:=Yd hx;exact⟨j,v,hj,rfl⟩
     ·cases hx
    ·exact⟨i,x,hx,rfl⟩
   ·refine⟨nU _ _ _,λi x hx=>?_⟩;obtain⟨k,hk⟩:=uK hx;exact⟨k,x,hk,rfl⟩
   ·exact⟨Ye _,λi x hx=>⟨i,x,hx,rfl⟩⟩
  refine bM.marks (c:=Aj c t vs) ⟨hf.l1,hf.f1,hf.l2,Yl hl.1 hf.l3,λj x hx=>?_,Yl (nU _ _ _) hf.l4,hf.l5,hf.f5⟩;obtain⟨i,y,hy,e⟩:=hl.2 j x hx;rw[e];exact hf.f3 i y hy
theorem wW.below {nb vb:Nat} {v:Vd} {ua:Option Addr} {ul uc:Nat} (h:wW W nb vb t v ua ul uc) (hb:Below W.heap.size W W'):wW W' nb vb t v ua ul uc:=
 ⟨(hb.block _ (ae h.1)).trans h.1,(hb.block _ (ae h.2)).trans h.2⟩
theorem AY.below(h:AY w g) (hb:Below w.heap.size w w'):AY w' g:=by
 obtain⟨T,v,h⟩:=h;exact⟨T,v,(ai hb (Qv h)).trans h⟩
theorem Es3.below(h:Es3 w) (hb:Below w.heap.size w w'):Es3 w':=⟨h.1.below hb,h.2.1.below hb,h.2.2.below hb⟩
theorem EvWhy.cases(h:EvWhy c t i):(i=0/\8000<t.size)\/(i=1/\¬8000<t.size/\¬av c)\/(i=2/\¬8000<t.size/\av c/\hit Pd.n c.ps t=Y8)\/(i=8/\¬8000<t.size/\av c/\∃x,c.ps[pl Pd.n c.ps t]?=Y3 x/\x.n=t/\x.p=0)\/(i=7/\¬8000<t.size/\av c/\∃x,c.ps[pl Pd.n c.ps t]?=Y3 x/\x.n=t/\¬x.p=0/\¬af1 c x):=by
 rcases i with _|_|_|_|_|_|_|_|_|i <;> simp only[EvWhy] at h
 ·exact Zc ⟨rfl,h⟩
 ·exact Zb (Zc ⟨rfl,h⟩)
 ·exact Zb (Zb (Zc ⟨rfl,h⟩))
 ·exact Zb (Zb (Zb (Zb ⟨rfl,h⟩)))
 ·exact Zb (Zb (Zb (Zc ⟨rfl,h⟩)))
theorem qo(hr:av c) (h:c.ps[pl Pd.n c.ps t]?=Y3 x) (hn:x.n=t):hit Pd.n c.ps t=Y_:=(a_ hr.2.1.2.2.2.2.2.2 h hn).2
theorem bg.same {o':Co} (h:bg c t o) (h':bg c t o'):o=o':=by
 rcases h with ⟨i,a,rfl⟩|⟨a1,a2,x,a3,a4,a5,a6,rfl⟩ <;> rcases h' with ⟨j,b,rfl⟩|⟨b1,b2,y,b3,b4,b5,b6,rfl⟩
 ·rcases a.cases with ⟨rfl,a1⟩|⟨rfl,a1,a2⟩|⟨rfl,a1,a2,a3⟩|⟨rfl,a1,a2,x,a3,a4,a5⟩|⟨rfl,a1,a2,x,a3,a4,a5,a6⟩ <;> rcases b.cases with ⟨rfl,b1⟩|⟨rfl,b1,b2⟩|⟨rfl,b1,b2,b3⟩|⟨rfl,b1,b2,y,b3,b4,b5⟩|⟨rfl,b1,b2,y,b3,b4,b5,b6⟩
  all_goals first
   | rfl
   | exact absurd a1 b1
   | exact absurd b1 a1
   | exact absurd a2 b2
   | exact absurd b2 a2
   | (rw[qo a2 b3 b4] at a3;cases a3;done)
   | (rw[qo a2 a3 a4] at b3;cases b3;done)
   | (rw[a3] at b3;obtain rfl:=Yd b3;exact absurd a5 b5)
   | (rw[a3] at b3;obtain rfl:=Yd b3;exact absurd b5 a5)
 ·rcases a.cases with ⟨rfl,a1⟩|⟨rfl,a1,a2⟩|⟨rfl,a1,a2,a3⟩|⟨rfl,a1,a2,x,a3,a4,a5⟩|⟨rfl,a1,a2,x,a3,a4,a5,a6⟩
  ·exact absurd a1 b1
  ·exact absurd b2 a2
  ·rw[qo a2 b3 b4] at a3;cases a3
  ·rw[a3] at b3;obtain rfl:=Yd b3;exact absurd a5 b5
  ·rw[a3] at b3;obtain rfl:=Yd b3;exact absurd b6 a6
 ·rcases b.cases with ⟨rfl,b1⟩|⟨rfl,b1,b2⟩|⟨rfl,b1,b2,b3⟩|⟨rfl,b1,b2,y,b3,b4,b5⟩|⟨rfl,b1,b2,y,b3,b4,b5,b6⟩
  ·exact absurd b1 a1
  ·exact absurd a2 b2
  ·rw[qo a2 a3 a4] at b3;cases b3
  ·rw[a3] at b3;obtain rfl:=Yd b3;exact absurd b5 a5
  ·rw[a3] at b3;obtain rfl:=Yd b3;exact absurd a6 b6
 ·rw[a3] at b3;obtain rfl:=Yd b3;rfl
theorem bg.marks(h:bg c t o) (hf:bM c):eV 1 o.c.raw<=1152921504606846976:=by
 rcases h with ⟨i,_,rfl⟩|⟨_,_,x,h3,_,_,_,rfl⟩
 ·exact aV _
 ·refine bM.marks (c:=evC c t x) ⟨hf.l1,hf.f1,hf.l2,hf.l3,hf.f3,hf.l4,?_,λj y hy=>?_⟩
  ·show (c.ps.set _ _).length<=_;rw[YK];exact hf.l5
  ·have hy':(c.ps.set (pl Pd.n c.ps t) (idle x))[j]?=Y3 y:=hy;rw[ch (Yc.1 h3).1] at hy';split at hy'
   ·obtain rfl:=Yd hy';exact hf.f5 _ x h3
   ·exact hf.f5 j y hy'
theorem AK(d:Ad) (now:Int) (n:Nd) (va:Option Addr) (vl vc:Nat) (w:World) (h0:0<=n.u) (h1:n.u<=1000000):
  Calls Tryz.prog 27 #[Za #[J d.a1 d.l1 d.c1,J d.a2 d.l2 d.c2,J d.a3 d.l3 d.c3,J d.a4 d.l4 d.c4,J d.a5 d.l5 d.c5,Y4 Y5 now],Za #[I n.n,I n.z,Y4 Y5 n.c,Y4 Y5 n.s,Y4 Y5 n.u,Y7 n.d,J va vl vc]] w λe w'=>e=Y9 (Y7 (n.d && decide (n.u+5<now)))/\Below w.heap.size w w':=by
 exact OV
theorem qR(d:Ad) (now:Int) (n:Nd) (va:Option Addr) (vl vc:Nat) (w:World) (h0:0<=n.u) (h1:n.u<=1000000) (g:Bool) (hg:(n.d && decide (n.u+5<now))=g):
  Calls Tryz.prog 27 #[Za #[J d.a1 d.l1 d.c1,J d.a2 d.l2 d.c2,J d.a3 d.l3 d.c3,J d.a4 d.l4 d.c4,J d.a5 d.l5 d.c5,Y4 Y5 now],Za #[I n.n,I n.z,Y4 Y5 n.c,Y4 Y5 n.s,Y4 Y5 n.u,Y7 n.d,J va vl vc]] w λe w'=>e=Y9 (Y7 g)/\Below w.heap.size w w':=by
 rw[<-hg];exact AK d now n va vl vc w h0 h1
section
variable {α:Type} (f:α->Int) (lt:α->α->Prop)
variable {f lt} {ms ls:List α} {k j:Nat} {x:α}
theorem afT.len(h:afT f lt ms ls k) (hk:k<=ms.length):ls.length=ms.length:=by
 obtain⟨P,rfl,h1,_,_⟩:=h;simp[h1];omega
theorem afU.len(h:afU f lt ms ls k j x):ls.length=ms.length/\j<=k/\k<ms.length:=by
 obtain⟨A,B,rfl,h1,h2,h3,_⟩:=h;have h4:=(Yc.1 h3).1;simp;omega
theorem afU.at(h:afU f lt ms ls k j x):ls[j]?=Y3 x:=by
 obtain⟨A,B,rfl,rfl,_⟩:=h;simp
theorem afT.one(h:1<=ms.length):afT f lt ms ms 1:=by
 cases ms with
 | nil=>simp at h
 | cons a r=>exact⟨[a],rfl,rfl,List.Perm.refl _,List.pairwise_singleton _ _⟩
end
theorem iO.not {p:Pd} {n:Nd} (h:iO c i p) (h':QQ c i p b n):False:=h b n h'.1 h'.2.1
theorem uH.of {n:Nd} (h:dX c n t c' 11):uH c t:=by
 obtain⟨i,x,h1,h2,h⟩:=h;rcases h with ⟨_,_,_,_,_,⟨_,e⟩|⟨_,_,e⟩|⟨_,_,e⟩⟩|⟨h3,j,k,o,h4,h5,h6,_,⟨h7,_⟩|⟨_,e⟩⟩
 ·exact absurd e ag
 ·exact absurd e ag
 ·exact absurd e ag
 ·exact⟨i,j,x,k,h1,h2,h3,h4,h5,h7⟩
 ·rcases h6 with ⟨_,_,_,_,rfl⟩|⟨_,⟨_,rfl⟩|⟨_,⟨_,rfl⟩|⟨_,⟨_,rfl⟩|⟨_,rfl⟩⟩⟩⟩ <;> first|exact absurd (show (11:Int)=0 from e) ag|exact absurd e ag
theorem uH.not {n:Nd} (hT:av c) (h:uH c t) (h':dX c n t c' 0):False:=by
 obtain⟨i,j,x,k,h1,h2,h3,h4,h5,h6⟩:=h;obtain⟨i',x',g1,g2,g⟩:=h';obtain⟨rfl,rfl⟩:=hT.2.1.2.2.2.1.2.2.inj h1 g1 (h2.trans g2.symm);rcases g with ⟨a,v,g3,g4,_⟩|⟨_,a,k',o,g4,g5,_,_,⟨_,e⟩|⟨g7,_⟩⟩
 ·have hn:=(hT.2.1.2.2.1.2.1 a v g3).1;rw[g4,h3] at hn;exact absurd hn.1 ag
 ·exact absurd e ag
 ·obtain⟨rfl,rfl⟩:=hT.2.1.2.1.2.2.inj h4 g4 (h5.trans g5.symm);rw[h6] at g7;cases g7
theorem dX.uu {n:Nd} (h:dX c n t c' 0) {i:Nat} {x:Xd} (hx:c.xs[i]?=Y3 x) (hn:¬x.n=t):c'.xs[i]?=Y3 x:=by
 obtain⟨i',x',g1,g2,g⟩:=h;have hne:¬i'=i:=λe=>by
  subst e;rw[hx] at g1;obtain rfl:=Yd g1;exact hn g2
 rcases g with ⟨_,_,_,_,rfl,_⟩|⟨_,_,_,o,_,_,h6,rfl,⟨_,e⟩|⟨_,e⟩⟩
 ·exact hx
 ·exact absurd e ag
 ·rcases h6 with ⟨_,_,_,_,rfl⟩|⟨_,⟨_,rfl⟩|⟨_,⟨_,rfl⟩|⟨_,⟨_,rfl⟩|⟨_,rfl⟩⟩⟩⟩
  ·exact (List.getElem?_set_ne hne).trans hx
  ·exact absurd e ag
  ·exact absurd e ag
  ·exact absurd e ag
  ·exact (List.getElem?_set_ne hne).trans hx
theorem cF.uu {n:Nd} {x:Xd} (hx:c.xs[i]?=Y3 x):∀(k:Nat) (c':Cl),cF c n ts k c'->(∀(j:Nat) t,j<k->ts[j]?=Y3 t->¬x.n=t)->c'.xs[i]?=Y3 x
 | 0,c',h,_=>by
  obtain rfl:c'=c:=h;exact hx
 | k+1,c',h,hn=>by
  obtain⟨c1,t,h1,h2,h3⟩:=h;exact h3.uu (cF.uu hx k c1 h1 (λj s hj=>hn j s af)) (hn k t af h2)
theorem cF.aln {n:Nd} (hT:av c) (hn:aO n.z) (hz:gi ts) (hr:cF c n ts k c') (ht:ts[m]?=Y3 t) (hk:k<=m) (hh:hit Xd.n c.xs t=Y_):uH c' t↔uH c t:=by
 have hR:=cF.right hT hn k c' hr;have hne:∀{x:Xd},x.n=t->∀(j:Nat) s,j<k->ts[j]?=Y3 s->¬x.n=s:=fun {x} hx j s hj hs e=>by
  have h9:=oe hz m (show j<m by omega) hs ht;rw[<-hx,<-e,dw] at h9;cases h9
 constructor
 ·rintro⟨i,j,x,y,h1,h2,h3,h4,h5,h6⟩;obtain⟨i0,x0,hx0,hn0⟩:=xb.aj0 hh;have h7:=cF.uu hx0 k c' hr (hne hn0);obtain⟨rfl,rfl⟩:=hR.1.2.1.2.2.2.1.2.2.inj h1 h7 (h2.trans hn0.symm);exact⟨i,j,x,y,hx0,h2,h3,by rw[<-hR.2.2.1];exact h4,h5,h6⟩
 ·rintro⟨i,j,x,y,h1,h2,h3,h4,h5,h6⟩;exact⟨i,j,x,y,cF.uu h1 k c' hr (hne h2),h2,h3,by rw[hR.2.2.1];exact h4,h5,h6⟩
theorem Aln.none {p:Pd} (hT:av c) (hp:c.ps[i]?=Y3 p) (h:Aln c p):iO c i p:=by
 obtain⟨m,t,ht,ha⟩:=h;have hz:=(hT.2.1.2.2.2.2.2.1 i p hp).2.2.2.1.2;have hh:=(hT.2.2.2.1.1 _ _ hp).1 m t ht;have hm:=(Yc.1 ht).1;rintro j n hn ⟨c',hs⟩;have hnz:=(hT.2.1.1.2.1 j n hn).2.1;rcases hs with ⟨_,e⟩|⟨_,⟨_,e⟩|⟨_,⟨_,e⟩|⟨_,c1,e1,hA,hE⟩⟩⟩
 ·exact absurd e ag
 ·exact absurd e ag
 ·exact absurd e ag
 have e0:e1=0:=by
  rcases hE with ⟨h1,h2⟩|⟨h1,_⟩
  ·exact h2.symm
  ·exact h1
 subst e0;rcases hA with ⟨hR,_⟩|⟨_,_,_,_,_,_,hne⟩
 ·obtain⟨c2,c3,s,r1,r2,r3⟩:=cF.less p.zs.length (m+1) c1 af hR;rw[ht] at r2;obtain rfl:=Yd r2;exact ((cF.aln hT hnz hz r1 ht (Ye _) hh).2 ha).not (cF.right hT hnz m c3 r1).1 r3
 ·exact hne rfl
theorem Aln.of {p:Pd} {n:Nd} {e:Int} (hT:av c) (hp:c.ps[i]?=Y3 p) (hn:c.ns[j]?=Y3 n) (h:iC c i p n c' e) (he:e=11) (ha:¬Ay c n):Aln c p:=by
 subst he;have hz:=(hT.2.1.2.2.2.2.2.1 i p hp).2.2.2.1.2;have hnz:=(hT.2.1.1.2.1 j n hn).2.1;rcases h with ⟨h,_⟩|⟨_,⟨_,e⟩|⟨_,⟨_,e⟩|⟨_,c1,e1,hA,hE⟩⟩⟩
 ·exact absurd h ha
 ·exact absurd e ag
 ·exact absurd e ag
 have e1:e1=11:=by
  rcases hE with ⟨_,h2⟩|⟨_,⟨_,e⟩|⟨_,e,_⟩⟩
  ·exact h2.symm
  ·exact absurd e ag
  ·exact absurd e ag
 subst e1;rcases hA with ⟨_,e⟩|⟨k,c2,t,h1,h2,h3,_⟩
 ·exact absurd e ag
 ·exact⟨k,t,h2,(cF.aln hT hnz hz h1 h2 (Ye _) ((hT.2.2.2.1.1 _ _ hp).1 k t h2)).1 (uH.of h3)⟩
theorem uG.cases(h:uG c t i):(i=0/\8000<t.size)\/(i=1/\¬8000<t.size/\¬av c)\/(i=2/\¬8000<t.size/\av c/\hit Pd.n c.ps t=Y8)\/(i=8/\¬8000<t.size/\av c/\∃x,c.ps[pl Pd.n c.ps t]?=Y3 x/\x.n=t/\¬x.p=0)\/(i=7/\¬8000<t.size/\av c/\∃x,c.ps[pl Pd.n c.ps t]?=Y3 x/\x.n=t/\x.p=0/\iO c (pl Pd.n c.ps t) x):=by
 rcases i with _|_|_|_|_|_|_|_|_|i;all_goals first
  | exact False.elim h
  | exact Zc ⟨rfl,h⟩
  | exact Zb (Zc ⟨rfl,h⟩)
  | exact Zb (Zb (Zc ⟨rfl,h⟩))
  | exact Zb (Zb (Zb (Zc ⟨rfl,h⟩)))
  | exact Zb (Zb (Zb (Zb ⟨rfl,h⟩)))
theorem Sm.fit(h:Sm c):bM c:=⟨by have:=h.n;omega,λj x hx=>by have:=h.ns j x hx;omega,by have:=h.k;omega,by have:=h.v;omega,λj x hx=>by have:=h.vs j x hx;omega,by have:=h.x;omega,by have:=h.p;omega,λj x hx=>by have:=h.ps j x hx;omega⟩
theorem Ax.marks(h:Ax c t o) (hf:bM c):eV 1 o.c.raw<=1152921504606846976:=by
 rcases h with ⟨i,_,rfl⟩|⟨_,_,x,b,n,c',_,_,_,_,rfl,rfl⟩
 ·exact aV _
 ·exact hf.marks
theorem eD.marks(h:eD c t o):eV 1 o.c.raw<=1152921504606846976:=by
 rcases h with ⟨i,_,rfl⟩|⟨_,hT,x,b,n,c',h3,_,_,h4,h5,rfl⟩
 ·exact aV _
 ·have z322z:=@aa _ @acf;exact zo
theorem TwN.mono(u v:Int):Fact.bH (TwN u v):=by
 rintro x w w' ⟨b,h1,h3,h4⟩ hb;exact⟨b,h1,(ai hb (Y0 _ _ h3)).trans h3,(ai hb (Y0 _ _ h4)).trans h4⟩
theorem Lq.cr(h:Below w.heap.size w w'):Lq B w w':=⟨h.os,h.tape,h.output,h.size,λk hk _=>h.block k hk⟩
theorem Lq.trans {a b c:World} (h:Lq B a b) (k:Lq B b c):Lq B a c:=⟨k.os.trans h.os,k.tape.trans h.tape,k.output.trans h.output,Yl h.size k.size,λi hi hp=>by
 have h1:=h.block i hi hp;exact (k.block i (Yj hi h.size) (hp.imp id (λ⟨cs,T,h2,h3⟩=>⟨cs,T,h1.trans h2,h3⟩))).trans h1⟩
theorem Lq.low(h:Lq w.heap.size w w'):Below w.heap.size w w':=⟨h.os,h.tape,h.output,h.size,λk hk=>h.block k hk (Zc hk)⟩
theorem Rq.below {s:Option Tmp} (h:Rq B sp s w w') (h1:¬s=U) (h2:¬s=Y3 sp):Below w.heap.size w w':=by
 cases s with
 | none=>exact absurd rfl h1
 | some t=>
  simp only[Rq] at h;rw[if_neg (λe=>h2 (by rw[e]))] at h;exact h
theorem Rq.rel(B:Nat) (sp:Tmp):Gi.Rel (Rq B sp) sp:=by
 refine⟨λw=>Lq.cr (Yh _ _),fun {a b c} h k=>Lq.trans h k,λh=>Lq.size h,λw=>Lq.cr (Yh _ _).drew,λs {a b} h=>?_,λs {a b} h1 h2 h=>Rq.below h h1 h2⟩;cases s with
 | none=>exact h
 | some t=>
  show Lq B a b
  simp only[Rq] at h
  split at h
  ·exact h
  ·exact Lq.cr h
theorem Rq.other {t:Tmp} (ht:¬t=sp) (h:Below w.heap.size w w'):Rq B sp (Y3 t) w w':=by
 show (if t=sp then Lq B w w' else Below w.heap.size w w');rw[if_neg ht];exact h
theorem Rq.this(h:Lq B w w'):Rq B sp (Y3 sp) w w':=by
 show (if sp=sp then Lq B w w' else Below w.heap.size w w');rw[if_pos rfl];exact h
theorem B1F.mono {ex:Gi.Ex} {d:Option Tmp} {x:Qd} :Gi.Fact.bH (Rq B sp) ex d (B1F x):=by
 rintro s _ _ _ v w w' l h ⟨b,h1,h2⟩ hb;have hb:Lq B w w':=(Rq.rel B sp).sub s hb;exact⟨b,h1,(hb.block b (ae h2) (Zb ⟨_,_,h2,rfl⟩)).trans h2⟩
theorem OwG.mono {n:Nat} {t:Tmp} {ex:Gi.Ex} (hx:t=sp\/ex t=Y3 sp):Gi.Fact.bH (Rq B sp) ex (Y3 t) (OwG B' n xs):=by
 rintro s h1 h2 h3 v w w' l h ho hb;refine cA ho (Rq.below hb h1 (λe=>?_));rcases hx with rfl|hx
 ·exact h2 e
 ·exact h3 t sp rfl hx e
open Classical in
theorem gY.marks(h:gY c o) (hf:bM c):eV 1 o.c.raw<=1152921504606846976:=by
 rcases h with ⟨_,rfl⟩|⟨a,es,q,i,v,_,_,a3,_,rfl⟩|⟨a,_,zs,_,⟨q,i,v,ys,_,a3,_,a5,rfl⟩|⟨_,rfl⟩⟩
 ·exact aV _
 ·exact lJ hf a3 (Yl (List.length_filter_le _ _) (by have:=(a.on a3).1;omega))
 ·exact lJ hf a3 (by have h1:=a5.len;have:=(a.on a3).1;omega)
 ·exact aV _
def dead(n:Nd):Nd:=⟨n.n,n.z,n.c,n.s,n.u,Y_,n.zs⟩
def ph1(t:ByteArray) (p:Pd):Pd:=if p.d.toList==t.toList then ⟨p.n,p.c,p.z,p.zs,p.d,1⟩ else p
theorem afs {p:Pd} (h:p.d=t):ph1 t p=⟨p.n,p.c,p.z,p.zs,p.d,1⟩:=by unfold ph1;rw[aP h];rfl
theorem ajU {p:Pd} (h:¬p.d=t):ph1 t p=p:=by unfold ph1;rw[bA h];rfl
theorem ajT(t:ByteArray) (p:Pd):(ph1 t p).zs=p.zs:=by unfold ph1;split <;> rfl
def kQ(c:Cl) (t:ByteArray) (n:Nd):Cl:=⟨c.ns.set (pl Nd.n c.ns t) (dead n),c.ks,c.vs,c.xs,c.ps.map (ph1 t),c.now⟩
def gj(c:Cl) (t:ByteArray):Nat->Prop
 | 0=>8000<t.size
 | 1=>¬8000<t.size/\¬av c
 | 2=>¬8000<t.size/\av c/\hit Nd.n c.ns t=Y8
 | _=>False
def kF(c:Cl) (t:ByteArray) (n:Nd):Prop:=¬8000<t.size/\av c/\c.ns[pl Nd.n c.ns t]?=Y3 n/\n.n=t
theorem kF.no {n:Nd} (h:kF c t n) (h':gj c t i):False:=by
 rcases i with _|_|_|i
 ·exact h.1 h'
 ·exact h'.2 h.2.1
 ·have h9:=h'.2.2;rw[(a_ h.2.1.2.1.1.2.2 h.2.2.1 h.2.2.2).2] at h9;cases h9
 ·exact h'
def eo(c:Cl) (t:ByteArray) (o:Co):Prop:=(∃i,gj c t i/\o=co0 (bu i))\/∃n,kF c t n/\((n.d=Y_/\o=co0 (bu 8))\/(n.d=Y8/\o=⟨kQ c t n,⟨#[]⟩,0⟩))
theorem eo.marks(h:eo c t o) (hf:bM c):eV 1 o.c.raw<=1152921504606846976:=by
 rcases h with ⟨i,_,rfl⟩|⟨n,a,⟨_,rfl⟩|⟨_,rfl⟩⟩
 ·exact aV _
 ·exact aV _
 ·refine bM.marks (c:=kQ c t n) ⟨?_,λj y hy=>?_,hf.l2,hf.l3,hf.f3,hf.l4,?_,λj y hy=>?_⟩
  ·exact vG
  ·have hy':(c.ns.set (pl Nd.n c.ns t) (dead n))[j]?=Y3 y:=hy;rw[ch (Yc.1 a.2.2.1).1] at hy';split at hy'
   ·obtain rfl:=Yd hy';exact hf.f1 _ n a.2.2.1
   ·exact hf.f1 j y hy'
  ·show (c.ps.map _).length<=_;rw[Yr];exact hf.l5
  ·have hy':(c.ps.map (ph1 t))[j]?=Y3 y:=hy;rw[Yt,Yz] at hy';obtain⟨p,h1,rfl⟩:=hy';rw[ajT];exact hf.f5 j p h1
def phL(t:ByteArray) (ps:List Pd) (k:Nat):List Pd:=(ps.map (ph1 t)).take k++ps.drop k
theorem vS(h:k<ps.length):(phL t ps k)[k]?=ps[k]?:=by
 unfold phL;exact OK
theorem ue(hx:ps[k]?=Y3 x):phL t ps (k+1)=(phL t ps k).set k (ph1 t x):=by
 have hk:k<ps.length:=(Yc.1 hx).1;unfold phL;have h1:((ps.map (ph1 t)).take k).length=k:=by simp;omega
 exact PB
theorem afq(h:ps.length<=k):phL t ps k=ps.map (ph1 t):=by
 unfold phL;rw[YH iy,Yx h,List.append_nil]
theorem aG.amb(h:aG S w w1) (hg:S g):aG S w (w1.setCell ⟨g,i,U⟩ v):=
 ⟨h.os,h.tape,h.output,by simpa[YO] using h.size,λk hk hn=>(Ya _ _ _ _ (show¬k=g from λe=>hn (by rw[e];exact hg))).trans (h.block k hk hn)⟩
theorem aw.beside {a':Option Addr} {l cp l' cp':Nat} {rs rs':List (List Fv)} (hn:aw w a' l' cp' m T rs' S') (hp:aw w a l cp 6 40 rs S) (hk:aG (λk=>0<l/\a=Y3 ⟨k,0,U⟩) w w') (hT:¬40=T):aw w' a' l' cp' m T rs' S':=by
 by_cases h0:0<l
 ·obtain⟨h1,h2,h3,h4⟩:=hp;rcases h4 with h4|⟨g,cur,H,rfl,h6⟩
  ·rw[h4] at h1;simp at h1;omega
  ·exact (hn.dN h6.blk hT ag).az (λk hk2 s=>hk.block k hk2 (λq=>s.2 (by have h9:=q.2;cases h9;rfl))) (λ_ _ s=>s.1)
 ·exact hn.az (λk hk2 s=>hk.block k hk2 (λq=>h0 q.1)) (λ_ _ s=>s)
def alM(a:Option Addr) (l cp:Nat) (t:ByteArray) (ps:List Pd) (S:Nat->Prop) (w:World) (e:Ending) (w':World):Prop:=(∃v,e=Y9 v)/\aw w' a l cp 6 40 ((ps.map (ph1 t)).map pdF) S/\aG (λk=>0<l/\a=Y3 ⟨k,0,U⟩) w w'
theorem oa {l:List α} {x:α} (h:l[k]?=Y3 x):l.set k x=l:=by
 obtain⟨hk,rfl⟩:=Yc.1 h;exact List.set_getElem_self hk
theorem lN(b:Nat) (a1 a2 a3 a4 a:Option Addr) (l1 y1 l2 y2 l3 y3 l4 y4 l cp:Nat) (now:Int) (t:ByteArray) (ps:List Pd) (S:Nat->Prop) (w:World) (hb:w.heap[b]?=Y3 (Y6 #[J a1 l1 y1,J a2 l2 y2,J a3 l3 y3,J a4 l4 y4,J a l cp,Y4 Y5 now] 29 (0,0))) (ho:aw w a l cp 6 40 (ps.map pdF) S) (hS:∀g,0<l->a=Y3 ⟨g,0,U⟩->¬g=b):
  Calls Tryz.prog 35 #[Zd (Y3 ⟨b,0,U⟩),I t,Y7 Y8] w (alM a l cp t ps S w):=by
 have hpl:ps.length=l:=og
 have hlm:l<=9223372036854775807:=Yl ho.2.1 ho.2.2.1;have Bc:=aa hb;have HO0:Hid (aw w a l cp 6 40 ((phL t ps 0).map pdF) S):=by show aw _ _ _ _ _ _ _ _;simpa[phL] using ho
 clear hb ho;go_enter Tryz.func35,Tryz.ntmps35;go_wp2;go_loopw [6] (λvi wr=> ∃k:Nat,k<=l/\vi=Y4 Y5 k/\Hid (aw wr a l cp 6 40 ((phL t ps k).map pdF) S)/\Hid (aG (λk=>0<l/\a=Y3 ⟨k,0,U⟩) w wr)) (λvi _=>l - (intOf vi).toNat);case atStart=>exact⟨0,by omega,rfl,HO0,aG.refl _ _⟩
 case round=>
  obtain⟨k,hk,rfl,HO,HK⟩:=hrel;clear HO0;replace Bc:=aa ((HK.block _ (ae Bc.out) (λh=>hS _ h.1 h.2 rfl)).trans Bc.out);by_cases hlt:k<l
  ·obtain⟨x,hx0⟩:∃x,ps[k]?=Y3 x:=⟨_,Yi af⟩;have HX0:=aa hx0;have hLk:((phL t ps k).map pdF)[k]?=Y3 (pdF x):=by rw[Yt,vS af,hx0];rfl
   obtain⟨g,rfl,hS2⟩:=HO.st (aG.refl S wr) hLk;obtain⟨b2,o2,x2,hae,hbl,hx2,hat⟩:=cq HO.row hlt;cases hae;rw[vS af,hx0] at hx2;obtain rfl:=Yd hx2;obtain⟨va,vl,vc,-,-,-,-,-,-,-,-,c4,c5⟩:=bD hat;have hf5:=hS2.nN (k*6+5);have HST:=aa hS2;have hne:¬g=b:=hS g af rfl;have hne2:¬b=g:=λe=>hne e.symm;rw[Yq] at c4 c5;have hk1:(k:Int)<l:=af
   clear hat hx2 hx0 hS2 hLk;by_cases he:x.d=t
   ·have hq:=aP he;have HHE:=aa he;clear he;obtain⟨c0,c1,c2,c3,c4,c5⟩:=cs6 Bc;have ltc_0:=ae Bc.out;go_wp2;have h2:=HST.AN (i:=5) rfl 1;obtain⟨⟨cur2,H2,h3,_⟩,h4,_⟩:=h2;have hR:aw (wr.setCell ⟨g,k*6+5,U⟩ (Y4 Y5 1)) (Y3 ⟨g,0,U⟩) l cp 6 40 ((phL t ps (k+1)).map pdF) S:=by
     rw[ue HX0.out,List.map_set,afs HHE.out];exact⟨by rw[YK];exact HO.1,HO.2.1,HO.2.2.1,Zb ⟨g,cur2,H2,rfl,h3⟩⟩
    have HR2:=aa hR;have HK2:=aa (HK.amb (i:=k*6+5) (v:=Y4 Y5 1) (show 0<l/\(Y3 ⟨g,0,U⟩:Option Addr)=Y3 ⟨g,0,U⟩ from ⟨by omega,rfl⟩));clear hR h3 h4;clear c0 c1 c2 c3 c4 c5 ltc_0;obtain⟨W,hW0⟩:∃W,W=wr.setCell ⟨g,k*6+5,U⟩ (Y4 Y5 1):=⟨_,rfl⟩;rw[<-hW0] at HR2 HK2 ⊢;clear hW0 c4 c5 hf5;have hne0:=Wd.ne W;have z761z:=@aa _ @Uo;exact pg
   have hq:=bA he;have HHE:=aa he;clear he;obtain⟨c0,c1,c2,c3,c4,c5⟩:=cs6 Bc;have ltc_0:=ae Bc.out;go_wp2;refine⟨⟨k+1,by omega,by go_num,?_,HK.out⟩,by simp[intOf];omega⟩;show aw _ _ _ _ _ _ _ _;rw[ue HX0.out,ajU HHE.out,oa (by rw[vS af];exact HX0.out)];exact HO.out
  have hk1:¬(k:Int)<l:=af
  obtain⟨c0,c1,c2,c3,c4,c5⟩:=cs6 Bc;have ltc_0:=ae Bc.out;go_wp2;have HO2:=HO;rw[afq af] at HO2;exact OP
def phF(t:ByteArray) (f:Pd->Int) (p:Pd):Pd:=if p.d.toList==t.toList then ⟨p.n,p.c,p.z,p.zs,p.d,f p⟩ else p
theorem Aa {f:Pd->Int} {p:Pd} (h:p.d=t):phF t f p=⟨p.n,p.c,p.z,p.zs,p.d,f p⟩:=by unfold phF;rw[aP h];rfl
theorem ajS {f:Pd->Int} {p:Pd} (h:¬p.d=t):phF t f p=p:=by unfold phF;rw[bA h];rfl
theorem afr(t:ByteArray):phF t (λ_=>1)=ph1 t:=rfl
def mpL(h:Pd->Pd) (ps:List Pd) (k:Nat):List Pd:=(ps.map h).take k++ps.drop k
theorem P0(hk:k<ps.length):(mpL h ps k)[k]?=ps[k]?:=by
 unfold mpL;exact OK
theorem nq(hx:ps[k]?=Y3 x):mpL h ps (k+1)=(mpL h ps k).set k (h x):=by
 have hk:k<ps.length:=(Yc.1 hx).1;unfold mpL;have h1:((ps.map h).take k).length=k:=by simp;omega
 exact PB
theorem afz(hk:ps.length<=k):mpL h ps k=ps.map h:=by
 unfold mpL;rw[YH (by simpa using hk),Yx hk,List.append_nil]
theorem PY(h:Pd->Pd) (ps:List Pd):mpL h ps 0=ps:=by simp[mpL]
theorem PZ(hx:ps[k]?=Y3 x) (e:h x=x):mpL h ps (k+1)=mpL h ps k:=by
 rw[nq hx,e,oa (by rw[P0 (Yc.1 hx).1];exact hx)]
def aj3(c:Cl) (t:ByteArray) (v:Vd):Bool:=inB v.zs t && xq c t v.m
def ky(c:Cl) (t:ByteArray) (vs:List Vd):List ByteArray:=(vs.filter (aj3 c t)).map Vd.n
theorem uk(c:Cl) (t:ByteArray):(ky c t c.vs).length<=c.vs.length:=by
 unfold ky;rw[Yr];exact List.length_filter_le _ _
def da(c:Cl):Int:=if c.now+10<1000000 then c.now+10 else 1000000
def vX(c:Cl) (n:Nd):List ByteArray:=if c.now<n.u then ky c n.n c.vs else []
def eX(c:Cl) (n:Nd):Nd:=⟨n.n,n.z,n.c,n.s,da c,n.d,vX c n⟩
def afY(c:Cl) (n:Nd) (f:Pd->Int):Prop:=∀p,(f p=2/\c.now<n.u/\qD c p (eX c n))\/(f p=1/\¬(c.now<n.u/\qD c p (eX c n)))
theorem afY.ex(c:Cl) (n:Nd):∃f,afY c n f:=by
 classical;refine⟨λp=>if c.now<n.u/\qD c p (eX c n) then 2 else 1,λp=>?_⟩;by_cases h:c.now<n.u/\qD c p (eX c n)
 ·exact Zc ⟨if_pos h,h⟩
 ·exact Zb ⟨if_neg h,h⟩
def iw(c:Cl) (t:ByteArray) (n:Nd) (f:Pd->Int):Cl:=⟨c.ns.set (pl Nd.n c.ns t) (eX c n),c.ks,c.vs,c.xs,c.ps.map (phF t f),c.now⟩
def nT(c:Cl) (t:ByteArray) (o:Co):Prop:=(∃i,gj c t i/\o=co0 (bu i))\/∃n,kF c t n/\((n.d=Y_/\o=co0 (bu 8))\/(n.d=Y8/\∃f,afY c n f/\o=⟨iw c t n f,⟨#[]⟩,0⟩))
theorem ajR(t:ByteArray) (f:Pd->Int) (p:Pd):(phF t f p).zs=p.zs:=by unfold phF;split <;> rfl
theorem nT.marks(h:nT c t o) (hf:bM c):eV 1 o.c.raw<=1152921504606846976:=by
 rcases h with ⟨i,_,rfl⟩|⟨n,a,⟨_,rfl⟩|⟨_,f,_,rfl⟩⟩
 ·exact aV _
 ·exact aV _
 ·refine bM.marks (c:=iw c t n f) ⟨?_,λj y hy=>?_,hf.l2,hf.l3,hf.f3,hf.l4,?_,λj y hy=>?_⟩
  ·exact vG
  ·have hy':(c.ns.set (pl Nd.n c.ns t) (eX c n))[j]?=Y3 y:=hy;rw[ch (Yc.1 a.2.2.1).1] at hy';split at hy'
   ·obtain rfl:=Yd hy';have h8:(c.vs.length:Int)<=8:=a.2.1.2.1.2.2.1.1;have h9:=uk c n.n;show (vX c n).length<=_;unfold vX;split
    ·omega
    ·simp
   ·exact hf.f1 j y hy'
  ·show (c.ps.map _).length<=_;rw[Yr];exact hf.l5
  ·have hy':(c.ps.map (phF t f))[j]?=Y3 y:=hy;rw[Yt,Yz] at hy';obtain⟨p,h1,rfl⟩:=hy';rw[ajR];exact hf.f5 j p h1
theorem av.bds {p:Pd} (h:av c) (hp:c.ps[k]?=Y3 p) (hd:¬p.d=⟨#[]⟩):∀(j:Nat) t,p.zs[j]?=Y3 t->∃v,aY c t v:=by
 have h1:=(iI h.2.1 ((kD h.2.1).1 h.2.2.1)).1 h.2.2.2.1;obtain⟨_,b,_⟩:=h1.1 k p hp;intro j t ht;obtain⟨v,_,_,e3,_⟩:=(b j t ht).2.resolve_left hd;exact⟨v,e3⟩
theorem aO.ne {x:ByteArray} (h:aO x):¬x=⟨#[]⟩:=λe=>by
 rw[e] at h;have h8:=h.1;revert h8;decide
def amB(c:Cl) (t:ByteArray) (w:World) (e:Ending) (w':World):Prop:=Below w.heap.size w w'/\((∃i p,gj c t i/\p=bu i/\¬p=0/\e=Y9 (Ze #[Y4 Y5 0,Y4 Y5 p]))\/∃(j:Nat) (n:Nd),c.ns[j]?=Y3 n/\kF c t n/\e=Y9 (Ze #[Y4 Y5 j,Y4 Y5 0]))
theorem AT(d:Ad) (c:Cl) (t:ByteArray) (w:World) (hr:aB w d c.raw):
  Calls Tryz.prog 34 #[Za #[J d.a1 d.l1 d.c1,J d.a2 d.l2 d.c2,J d.a3 d.l3 d.c3,J d.a4 d.l4 d.c4,J d.a5 d.l5 d.c5,Y4 Y5 c.now],I t] w (amB c t w):=by
 obtain⟨HR,HB⟩:=mX;clear hr;go_enter Tryz.func34,Tryz.ntmps34;go_wp2_with fail;refine (lO d c t _ (HR.below (HB.trans ((ak _ _).mono HB.size)))).mono ?_;rintro e w1 ⟨p,rfl,hp,hb⟩;have z716z:=@aa _ @UT;exact lg
theorem qQ(d:Ad) (c:Cl) (t:ByteArray) (w:World) (hr:aB w d c.raw):
  Calls Tryz.prog 12 #[Za #[J d.a1 d.l1 d.c1,J d.a2 d.l2 d.c2,J d.a3 d.l3 d.c3,J d.a4 d.l4 d.c4,J d.a5 d.l5 d.c5,Y4 Y5 c.now],I t] w (im (eo c t) w):=by
 have z445z:=@aa _ @aaI;exact cf
def Aq(n:Nd):Nd:=⟨n.n,n.z,n.c,n.s,0,Y8,[]⟩
def nV(c:Cl) (t:ByteArray) (n:Nd):Cl:=⟨c.ns.set (pl Nd.n c.ns t) (Aq n),c.ks,c.vs,c.xs,c.ps,c.now⟩
def fm(c:Cl) (t:ByteArray) (o:Co):Prop:=(∃i,gj c t i/\o=co0 (bu i))\/∃n,kF c t n/\((n.d=Y8/\o=co0 (bu 8))\/(n.d=Y_/\o=⟨nV c t n,⟨#[]⟩,0⟩))
theorem fm.marks(h:fm c t o) (hf:bM c):eV 1 o.c.raw<=1152921504606846976:=by
 rcases h with ⟨i,_,rfl⟩|⟨n,a,⟨_,rfl⟩|⟨_,rfl⟩⟩
 ·exact aV _
 ·exact aV _
 ·refine bM.marks (c:=nV c t n) ⟨?_,λj y hy=>?_,hf.l2,hf.l3,hf.f3,hf.l4,hf.l5,hf.f5⟩
  ·exact vG
  ·have hy':(c.ns.set (pl Nd.n c.ns t) (Aq n))[j]?=Y3 y:=hy;rw[ch (Yc.1 a.2.2.1).1] at hy';split at hy'
   ·obtain rfl:=Yd hy';show ([]:List ByteArray).length<=_;exact YI _
   ·exact hf.f1 j y hy'
theorem StJ.ahx {N:Nat->Prop} {rs:List (List Fv)} {r:List Fv} (h:StJ g m T S N w wr rs j r) {i:Nat} {old:Fv} (hi:r[i]?=Y3 old):StJ g m T S N w (wr.setCell ⟨g,j*m+i,U⟩ (J U 0 0)) rs j (r.set i (.l [])):=by
 have z266z:=@aa _ @acX;exact zv
theorem BL(d:Ad) (c:Cl) (t:ByteArray) (w:World) (hr:aB w d c.raw):
  Calls Tryz.prog 70 #[Za #[J d.a1 d.l1 d.c1,J d.a2 d.l2 d.c2,J d.a3 d.l3 d.c3,J d.a4 d.l4 d.c4,J d.a5 d.l5 d.c5,Y4 Y5 c.now],I t] w (im (fm c t) w):=by
 have z445z:=@aa _ @aaH;exact cf
end Rc
theorem iL(h9:∀i,9<i->¬Why i) {c:Cl} {o:Co} (h:∃i,Why i/\o=co0 (bu i)) (h0:o.p=0):Gd c o.c:=by
 exact PA
theorem aW.gd {x:Vd} (h:aW c x o) (h0:o.p=0):Gd c o.c:=by
 exact Ns
theorem bF.gd {x:Xd} (h:bF c x o) (h0:o.p=0):Gd c o.c:=by
 exact Ns
theorem bR.gd(h:bR c x o) (h0:o.p=0):Gd c o.c:=by
 exact Ns
theorem kE.gd {r:Cl} {St:Nat->Prop} (h9:∀i,9<i->¬St i) (hr:Gd c r) (h:kE c t St ok r o) (h0:o.p=0):Gd c o.c:=by
 rcases h with h|⟨_,_,_,rfl⟩
 ·refine iL (λi hi a=>?_) h h0;rcases i with _|_|i
  ·omega
  ·omega
  ·exact h9 _ hi a.2.2
 ·exact hr
theorem eD.gd(h:eD c t o) (h0:o.p=0):Gd c o.c:=by
 rcases h with h|⟨_,hT,x,b,n,c',h3,_,_,h4,h5,rfl⟩
 ·exact O7
 ·have z322z:=@aa _ @ace;exact zo
theorem dB.gd(h:dB c t o) (h0:o.p=0):Gd c o.c:=by
 rcases h with ⟨n,_,a,rfl⟩|⟨_,hT,i,x,j,k,hx,_,_,_,⟨_,rfl⟩|⟨_,⟨_,rfl⟩|⟨_,h⟩⟩⟩
 ·exact iL (Why:=AskWhy c t) (λi hi a=>by rcases i with _|_|_|i <;> first|omega|exact a.elim) ⟨n,a,rfl⟩ h0
 ·cases h0
 ·cases h0
 ·have q:=h.keeps hT hx h0;exact⟨by rw[q.1],by rw[q.2.1]⟩
theorem bg.gd(h:bg c t o) (h0:o.p=0):Gd c o.c:=by
 rcases h with h|⟨_,_,x,_,_,_,_,rfl⟩
 ·exact O7
 ·exact⟨rfl,rfl⟩
theorem gY.gd(h:gY c o) (h0:o.p=0):Gd c o.c:=by
 rcases h with ⟨_,rfl⟩|⟨_,_,_,_,_,_,_,_,_,rfl⟩|⟨_,_,_,_,⟨_,_,_,_,_,_,_,_,rfl⟩|⟨_,rfl⟩⟩
 ·cases h0
 ·exact⟨rfl,rfl⟩
 ·exact⟨rfl,rfl⟩
 ·cases h0
theorem qp(i:Nat) (hi:9<i):¬gj c t i:=by
 intro a;rcases i with _|_|_|i
 ·omega
 ·omega
 ·omega
 ·exact a
theorem nT.gd(h:nT c t o) (h0:o.p=0):Gd c o.c:=by
 rcases h with h|⟨n,_,⟨_,rfl⟩|⟨_,f,_,rfl⟩⟩
 ·exact iL qp h h0
 ·cases h0
 ·exact⟨by show (c.ns.set _ _).length=_;rw[YK],rfl⟩
theorem eo.gd(h:eo c t o) (h0:o.p=0):Gd c o.c:=by
 exact Pl
theorem fm.gd(h:fm c t o) (h0:o.p=0):Gd c o.c:=by
 exact Pl
theorem TickIs.gd {n:Int} (h:TickIs c n o) (h0:o.p=0):Gd c o.c:=by
 rcases h with ⟨_,rfl⟩|⟨_,_,rfl⟩|⟨_,_,rfl⟩
 ·cases h0
 ·cases h0
 ·exact⟨rfl,rfl⟩
theorem gY.nm(h:gY c o):o.n.size<=9223372036854775807:=by
 rcases h with ⟨_,rfl⟩|⟨hT,_,_,i,v,_,_,hv,_,rfl⟩|⟨hT,_,_,_,⟨_,i,v,_,_,hv,_,_,rfl⟩|⟨_,rfl⟩⟩
 ·exact YI _
 ·have h:=(hT.2.1.2.2.1.2.1 i v hv).1.2.1;show (AA++v.n).size<=_;rw[ByteArray.size_append];have:AA.size=4:=rfl;omega
 ·have h:=(hT.2.1.2.2.1.2.1 i v hv).1.2.1;show (wOn++v.n).size<=_;rw[ByteArray.size_append];have:wOn.size=3:=rfl;omega
 ·exact YI _
theorem eD.nm(h:eD c t o):o.n.size<=9223372036854775807:=by
 rcases h with ⟨i,_,rfl⟩|⟨_,hT,x,b,n,c',h3,_,_,h4,h5,rfl⟩
 ·exact YI _
 ·have h:=(hT.2.1.1.2.1 b n h4.1).1.2.1;show n.n.size<=_;omega
theorem dB.nm(h:dB c t o):o.n.size<=9223372036854775807:=by
 rcases h with ⟨n,_,a,rfl⟩|⟨_,hT,i,x,j,k,hx,_,_,_,⟨_,rfl⟩|⟨_,⟨_,rfl⟩|⟨_,⟨j2,u,_,hu,rfl⟩|⟨_,⟨_,rfl⟩|⟨_,⟨_,rfl⟩|⟨_,⟨_,rfl⟩|⟨_,rfl⟩⟩⟩⟩⟩⟩⟩
 ·exact YI _
 ·exact YI _
 ·exact YI _
 ·have h:=(hT.2.1.2.2.1.2.1 j2 u hu).1.2.1;show u.n.size<=_;omega
 ·exact YI _
 ·exact YI _
 ·exact YI _
 ·have h:=(hT.2.1.2.2.2.1.2.1 i x hx).1.2.1;show (aN++x.n).size<=_;rw[ByteArray.size_append];have:aN.size=2:=rfl;omega
theorem cQ.gd(h:cQ c t o) (h0:o.p=0):Gd c o.c:=kE.gd (r:=uz c t) (λi hi h=>by have:=h.1;omega) ⟨rfl,rfl⟩ h h0
theorem ck.gd(h:ck c t o) (h0:o.p=0):Gd c o.c:=kE.gd (r:=uy c t) (λi hi h=>by rcases h with ⟨rfl,_⟩|⟨rfl,_⟩ <;> omega) ⟨rfl,rfl⟩ h h0
theorem cm.gd(h:cm c t o) (h0:o.p=0):Gd c o.c:=by
 rcases h with h|⟨_,_,_,vs,_,rfl⟩
 ·refine iL (λi hi a=>?_) h h0;rcases i with _|_|i
  ·omega
  ·omega
  ·rcases a.2.2 with ⟨e,_⟩|⟨e,_⟩ <;> omega
 ·exact⟨rfl,rfl⟩
theorem aW.nm {x:Vd} (h:aW c x o):o.n.size<=9223372036854775807:=by rcases h with ⟨_,_,rfl⟩|⟨_,_,_,_,rfl⟩ <;> exact YI _
theorem bF.nm {x:Xd} (h:bF c x o):o.n.size<=9223372036854775807:=by rcases h with ⟨_,_,rfl⟩|⟨_,_,_,_,rfl⟩ <;> exact YI _
theorem bR.nm(h:bR c x o):o.n.size<=9223372036854775807:=by rcases h with ⟨_,_,rfl⟩|⟨_,_,_,_,rfl⟩ <;> exact YI _
theorem cQ.nm(h:cQ c t o):o.n.size<=9223372036854775807:=by rcases h with ⟨_,_,rfl⟩|⟨_,_,_,rfl⟩ <;> exact YI _
theorem ck.nm(h:ck c t o):o.n.size<=9223372036854775807:=by rcases h with ⟨_,_,rfl⟩|⟨_,_,_,rfl⟩ <;> exact YI _
theorem cm.nm(h:cm c t o):o.n.size<=9223372036854775807:=by rcases h with ⟨_,_,rfl⟩|⟨_,_,_,_,_,rfl⟩ <;> exact YI _
theorem bg.nm(h:bg c t o):o.n.size<=9223372036854775807:=by rcases h with ⟨_,_,rfl⟩|⟨_,_,_,_,_,_,_,rfl⟩ <;> exact YI _
theorem nT.nm(h:nT c t o):o.n.size<=9223372036854775807:=by rcases h with ⟨_,_,rfl⟩|⟨_,_,⟨_,rfl⟩|⟨_,_,_,rfl⟩⟩ <;> exact YI _
theorem eo.nm(h:eo c t o):o.n.size<=9223372036854775807:=by rcases h with ⟨_,_,rfl⟩|⟨_,_,⟨_,rfl⟩|⟨_,rfl⟩⟩ <;> exact YI _
theorem fm.nm(h:fm c t o):o.n.size<=9223372036854775807:=by rcases h with ⟨_,_,rfl⟩|⟨_,_,⟨_,rfl⟩|⟨_,rfl⟩⟩ <;> exact YI _
theorem TickIs.nm {n:Int} (h:TickIs c n o):o.n.size<=9223372036854775807:=by rcases h with ⟨_,rfl⟩|⟨_,_,rfl⟩|⟨_,_,rfl⟩ <;> exact YI _
end Rc
theorem eF {c:Code} {a:Act} (F:World->Prop) (hF:F w) (h:∀w2,F w2->c.wp P Q a w2):c.wp P Q a w:=h w hF
theorem bS {a b c:World} {row:Option Nat} (h:a.grownBy b row) (k:b.grownBy c row):a.grownBy c row:=
 ⟨k.os.trans h.os,k.tape.trans h.tape,k.output.trans h.output,Yl h.size k.size,λi hi hne=>(k.block i (Yj hi h.size) hne).trans (h.block i hi hne)⟩
theorem bL(w:World) (p i:Nat) (v:Value):w.grownBy (w.setCell ⟨p,i,U⟩ v) (Y3 p):=
 ⟨rfl,rfl,rfl,by simp[YO],λk _ hk=>Ya _ _ _ _ (λe=>hk (by simp[e]))⟩
theorem wJ {a b:World} {row:Option Nat} (h:a.grownBy b row):a.grownBy b.drew row:=⟨h.os,h.tape,h.output,h.size,h.block⟩
theorem oZ(x most:Int) (h1:1<most) (h2:most<=9223372036854775807):0<=wrap64 ((IntKind.u64.wrap x).tmod most)/\wrap64 ((IntKind.u64.wrap x).tmod most)<most:=by
 have e:IntKind.u64.wrap x=x % 18446744073709551616:=by simp[IntKind.wrap,IntKind.bits,IntKind.signed]
 have h0:0<=IntKind.u64.wrap x:=by rw[e];omega
 rw[Int.tmod_eq_emod_of_nonneg h0];have b0:=Int.emod_nonneg (IntKind.u64.wrap x) (show most≠0 by omega);have b1:=Int.emod_lt_of_pos (IntKind.u64.wrap x) (show 0<most by omega);generalize IntKind.u64.wrap x % most=y at*;simp only[wrap64];omega
def bw(w:World) (p:Nat) (b:Value) (k:Nat) (m sz:Int):Prop:=w.heap[p]?=Y3 (Y6 #[b,Y4 Y5 (k:Int),Y4 .u64 m,Y4 Y5 sz] 71 (0,0))
theorem bw.cells {p:Nat} {b:Value} {m:Int} (h:bw w p b k m sz):
  w.cell? ⟨p,0,U⟩=Y3 b/\w.cell? ⟨p,1,U⟩=Y3 (Y4 Y5 (k:Int))/\w.cell? ⟨p,2,U⟩=Y3 (Y4 .u64 m)/\w.cell? ⟨p,3,U⟩=Y3 (Y4 Y5 sz)/\
  w.frozen? ⟨p,0,U⟩=Y8/\w.frozen? ⟨p,1,U⟩=Y8/\w.frozen? ⟨p,2,U⟩=Y8/\w.frozen? ⟨p,3,U⟩=Y8:=by
 unfold bw at h;refine⟨?_,?_,?_,?_,?_,?_,?_,?_⟩ <;> simp[World.cell?,World.frozen?,h]
theorem bw.ame {p:Nat} {b:Value} {m:Int} (h:bw w p b k m sz) (k':Nat):bw (w.setCell ⟨p,1,U⟩ (Y4 Y5 (k':Int))) p b k' m sz:=Go.heap_setCell_same w p 1 _ _ _ h
theorem bw.aks {p:Nat} {b:Value} {m:Int} (h:bw w p b k m sz) (m':Int):bw (w.setCell ⟨p,2,U⟩ (Y4 .u64 m')) p b k m' sz:=Go.heap_setCell_same w p 2 _ _ _ h
def eW(w0:World) (p:Nat) (b:Value) (k:Nat) (sz:Int) (w:World):Prop:=∃m:Int,0<=m/\m<=18446744073709551615/\bw w p b k m sz/\w0.grownBy w (Y3 p)
theorem qF(a b:Int):0<=bits .xor .u64 a b/\bits .xor .u64 a b<=18446744073709551615:=by
 have e:∀n:Int,IntKind.u64.wrap n=n % 18446744073709551616:=λn=>by simp[IntKind.wrap,IntKind.bits,IntKind.signed]
 simp only[bits,e];constructor <;> omega
theorem eW.mix {p:Nat} {b:Value} (h:eW w0 p b k sz w) (x y:Int):eW w0 p b k sz (w.setCell ⟨p,2,U⟩ (Y4 .u64 (bits .xor .u64 x y))).drew:=by
 obtain⟨m,_,_,h3,h4⟩:=h;exact⟨_,(qF x y).1,(qF x y).2,h3.aks _,wJ (bS h4 (bL w p 2 _))⟩
theorem eW.refl {p:Nat} {b:Value} {m:Int} (h:bw w p b k m sz) (h0:0<=m) (h1:m<=18446744073709551615) (n:Nat):eW w p b k sz (w.drewN n):=
 ⟨m,h0,h1,h,⟨rfl,rfl,rfl,Ye _,λ_ _ _=>rfl⟩⟩
theorem eW.step {p:Nat} {b:Value} {m:Int} (h:bw w p b k m sz) (h0:0<=m) (h1:m<=18446744073709551615) (n k':Nat) (x:Int) (hx:x=(k':Int)):eW w p b k' sz ((w.drewN n).setCell ⟨p,1,U⟩ (Y4 Y5 x)):=by
 subst hx;exact⟨m,h0,h1,bw.ame (w:=w.drewN n) h k',bS (b:=w.drewN n) ⟨rfl,rfl,rfl,Ye _,λ_ _ _=>rfl⟩ (bL _ p 1 _)⟩
def wZ(most:Int) (w:World) (p:Nat) (b:Value) (len:Nat) (sz:Int) (e:Ending) (w':World):Prop:=∃(r:Int) (k:Nat),e=Y9 (Y4 Y5 r)/\0<=r/\(r<most\/r=0)/\k<=len/\eW w p b k sz w'
theorem uM(p:Nat) (a0:Option Addr) (len cap k:Nat) (most mix sz:Int) (w:World) (hm:1<most) (hm2:most<=9223372036854775807) (hb:bw w p (J a0 len cap) k mix sz) (m0:0<=mix) (m1:mix<=18446744073709551615) (hat:¬(k:Int)<(len:Int)) (hk:k<=len):
  Calls Tryz.prog 14 #[Zd (Y3 ⟨p,0,U⟩),Y4 Y5 most] w (wZ most w p (J a0 len cap) len sz):=by
 obtain⟨c0,c1,c2,c3,f0,f1,f2,f3⟩:=hb.cells;have HB:Hid (bw w p (J a0 len cap) k mix sz):=hb;clear hb;go_enter Tryz.func14,Tryz.ntmps14;go_wp2;go_quiet (fail);go_wp2;refine eF (eW w p (J a0 len cap) k sz) (eW.refl HB.out m0 m1 _) ?_;clear c0 c1 c2 c3 f0 f1 f2 f3 HB m0 m1 mix;rintro w2 hF;have HF:Hid (eW w p (J a0 len cap) k sz w2):=hF;obtain⟨m,m0,m1,hb,-⟩:=hF;obtain⟨c0,c1,c2,c3,f0,f1,f2,f3⟩:=hb.cells;clear hb;go_region;go_wp2;refine eF (eW w p (J a0 len cap) k sz) (HF.mix _ _) ?_;clear c0 c1 c2 c3 f0 f1 f2 f3 HF m0 m1;clear w2;rintro w2 hF;have HF:Hid (eW w p (J a0 len cap) k sz w2):=hF;obtain⟨m,m0,m1,hb,-⟩:=hF;obtain⟨c0,c1,c2,c3,f0,f1,f2,f3⟩:=hb.cells;clear hb;go_region;go_wp2;refine eF (eW w p (J a0 len cap) k sz) (HF.mix _ _) ?_;clear c0 c1 c2 c3 f0 f1 f2 f3 HF m0 m1;clear w2;rintro w2 hF;have HF:Hid (eW w p (J a0 len cap) k sz w2):=hF;obtain⟨m,m0,m1,hb,-⟩:=hF;obtain⟨c0,c1,c2,c3,f0,f1,f2,f3⟩:=hb.cells;clear hb;go_region;go_wp2_with fail;go_ret;exact⟨_,k,rfl,(oZ _ most hm hm2).1,Zc (oZ _ most hm hm2).2,hk,HF.mix _ _⟩
theorem BO(p b off:Nat) (len cap k:Nat) (most mix sz z:Int) (w:World) (hm:1<most) (hm2:most<=9223372036854775807) (hb:bw w p (J (Y3 ⟨b,off,U⟩) len cap) k mix sz) (m0:0<=mix) (m1:mix<=18446744073709551615) (hat:(k:Int)<(len:Int)) (hl:len<=140737488355328) (hz:w.cell? ⟨b,off+k,U⟩=Y3 (Y4 .u8 z)) (z0:0<=z) (z1:z<=255):
  Calls Tryz.prog 14 #[Zd (Y3 ⟨p,0,U⟩),Y4 Y5 most] w (wZ most w p (J (Y3 ⟨b,off,U⟩) len cap) len sz):=by
 obtain⟨c0,c1,c2,c3,f0,f1,f2,f3⟩:=hb.cells;have HB:Hid (bw w p (J (Y3 ⟨b,off,U⟩) len cap) k mix sz):=hb;have hat':k<len:=af
 clear hb;go_enter Tryz.func14,Tryz.ntmps14;go_wp2;go_quiet (fail);go_wp2;go_quiet (fail);go_wp2;refine eF (eW w p (J (Y3 ⟨b,off,U⟩) len cap) (k+1) sz) (eW.step HB.out m0 m1 _ (k+1) _ af) ?_;clear c0 c1 c2 c3 f0 f1 f2 f3 HB m0 m1 hz;clear mix;rintro w2 hF;have HF:Hid (eW w p (J (Y3 ⟨b,off,U⟩) len cap) (k+1) sz w2):=hF;obtain⟨m,m0,m1,hb,-⟩:=hF;obtain⟨c0,c1,c2,c3,f0,f1,f2,f3⟩:=hb.cells;clear hb;go_region;go_wp2;refine eF (eW w p (J (Y3 ⟨b,off,U⟩) len cap) (k+1) sz) (HF.mix _ _) ?_;clear c0 c1 c2 c3 f0 f1 f2 f3 HF m0 m1;clear w2;rintro w2 hF;have HF:Hid (eW w p (J (Y3 ⟨b,off,U⟩) len cap) (k+1) sz w2):=hF;obtain⟨m,m0,m1,hb,-⟩:=hF;obtain⟨c0,c1,c2,c3,f0,f1,f2,f3⟩:=hb.cells;clear hb;go_region;go_wp2;refine eF (eW w p (J (Y3 ⟨b,off,U⟩) len cap) (k+1) sz) (HF.mix _ _) ?_;clear c0 c1 c2 c3 f0 f1 f2 f3 HF m0 m1;clear w2;rintro w2 hF;have HF:Hid (eW w p (J (Y3 ⟨b,off,U⟩) len cap) (k+1) sz w2):=hF;obtain⟨m,m0,m1,hb,-⟩:=hF;obtain⟨c0,c1,c2,c3,f0,f1,f2,f3⟩:=hb.cells;clear hb;go_region;go_wp2_with fail;go_ret;exact⟨_,k+1,rfl,(oZ _ most hm hm2).1,Zc (oZ _ most hm hm2).2,by omega,HF.mix _ _⟩
def gw(B:Nat) (w:World) (v:Value) (len:Nat):Prop:=len<=140737488355328/\∃a0 cap,v=J a0 len cap/\∀j,j<len->∃(b off:Nat) (z:Int),a0=Y3 ⟨b,off,U⟩/\b<B/\w.cell? ⟨b,off+j,U⟩=Y3 (Y4 .u8 z)/\0<=z/\z<=255
theorem gw.below {len:Nat} (h:gw B w v len) (hb:Below B w w'):gw B w' v len:=by
 obtain⟨hl,a0,cap,hv,hc⟩:=h;refine⟨hl,a0,cap,hv,λj hj=>?_⟩;obtain⟨b,off,z,h1,h2,h3,h4⟩:=hc j hj;exact⟨b,off,z,h1,h2,(hb.cell (p:=⟨b,off+j,U⟩) h2).trans h3,h4⟩
theorem ux {p:Nat} (h:w.grownBy w' (Y3 p)) (hB:B<=p) (hw:B<=w.heap.size):Below B w w':=
 ⟨h.os,h.tape,h.output,h.size,λk hk=>h.block k af (λe=>by simp at e;omega)⟩
theorem qM(p:Nat) (most:Int) (w:World) (hm:most<=1):
  Calls Tryz.prog 14 #[Zd (Y3 ⟨p,0,U⟩),Y4 Y5 most] w λe w'=>e=Y9 (Y4 Y5 0)/\w=w':=by
 go_enter Tryz.func14,Tryz.ntmps14;go_wp2;go_ret;exact⟨rfl,rfl⟩
theorem akp(B p len k:Nat) (v:Value) (most mix sz:Int) (w:World) (hm2:most<=9223372036854775807) (hb:bw w p v k mix sz) (m0:0<=mix) (m1:mix<=18446744073709551615) (hk:k<=len) (hR:gw B w v len):
  Calls Tryz.prog 14 #[Zd (Y3 ⟨p,0,U⟩),Y4 Y5 most] w (wZ most w p v len sz):=by
 obtain⟨hl,a0,cap,rfl,hc⟩:=hR;by_cases hm:most<=1
 ·refine (qM p most w hm).mono ?_;rintro e w' ⟨rfl,rfl⟩;exact⟨0,k,rfl,Int.le_refl _,Zb rfl,hk,⟨mix,m0,m1,hb,⟨rfl,rfl,rfl,Ye _,λ_ _ _=>rfl⟩⟩⟩
 by_cases hat:k<len
 ·obtain⟨b,off,z,rfl,_,hz,z0,z1⟩:=hc k hat;exact BO p b off len cap k most mix sz z w af hm2 hb m0 m1 af hl hz z0 z1
 ·exact uM p a0 len cap k most mix sz w af hm2 hb m0 m1 af hk
def Src(B:Nat) (w0:World) (p:Nat) (v:Value) (len:Nat) (w:World):Prop:=B<=p/\B<=w0.heap.size/\Below B w0 w/\p<w.heap.size/\gw B w v len/\∃(k:Nat) (m sz:Int),k<=len/\0<=m/\m<=18446744073709551615/\0<=sz/\sz<=12/\bw w p v k m sz
def alT(B:Nat) (w0:World) (p:Nat) (v:Value) (len:Nat) (w:World) (most:Int) (e:Ending) (w':World):Prop:=∃r:Int,e=Y9 (Y4 Y5 r)/\0<=r/\(r<most\/r=0)/\Src B w0 p v len w'/\w.grownBy w' (Y3 p)
theorem Src.n {p:Nat} {len:Nat} (h:Src B w0 p v len w) (most:Int) (hm2:most<=9223372036854775807):
  Calls Tryz.prog 14 #[Zd (Y3 ⟨p,0,U⟩),Y4 Y5 most] w (alT B w0 p v len w most):=by
 obtain⟨hB,hB0,hbel,hp,hR,k,m,sz,hk,m0,m1,s0,s1,hb⟩:=h;refine (akp B p len k v most m sz w hm2 hb m0 m1 hk hR).mono ?_;rintro e w' ⟨r,k',rfl,r0,r1,hk',m',m0',m1',hb',hg⟩;have hbw:Below B w w':=ux hg hB (Yl hB0 hbel.size);exact⟨r,rfl,r0,r1,⟨hB,hB0,hbel.trans hbw,Yj hp hg.size,hR.below hbw,k',m',sz,hk',m0',m1',s0,s1,hb'⟩,hg⟩
def Laid(w:World) (v:Value) (len:Nat) (e:Ending) (w':World):Prop:=∃p,e=Y9 (Zd (Y3 ⟨p,0,U⟩))/\Src w.heap.size w p v len w'
theorem bw.ahA {p:Nat} {b:Value} {m:Int} (h:bw w p b k m sz) (s:Int):bw (w.setCell ⟨p,3,U⟩ (Y4 Y5 s)) p b k m s:=Go.heap_setCell_same w p 3 _ _ _ h
theorem bw.lt {p:Nat} {b:Value} {m:Int} (h:bw w p b k m sz):p<w.heap.size:=by
 unfold bw at h;rcases Nat.lt_or_ge p w.heap.size with h1|h1
 ·exact h1
 ·simp[Array.getElem?_eq_none h1] at h
theorem xr {len:Nat} {m:Int} (h:bw wr w.heap.size v 0 m sz) (hb:Below w.heap.size w wr) (hR:gw w.heap.size w v len) (m0:0<=m) (m1:m<=18446744073709551615) (s0:0<=sz) (s1:sz<=12):Src w.heap.size w w.heap.size v len wr:=
 ⟨Ye _,Ye _,hb,h.lt,hR.below hb,0,m,sz,YI _,m0,m1,s0,s1,h⟩
theorem lH(x:Int):0<=IntKind.u64.wrap x/\IntKind.u64.wrap x<=18446744073709551615:=by
 have e:IntKind.u64.wrap x=x % 18446744073709551616:=by simp[IntKind.wrap,IntKind.bits,IntKind.signed]
 rw[e];omega
theorem uO(v:Value) (len:Nat) (w:World) (hR:gw w.heap.size w v len):
  Calls Tryz.prog 9 #[v] w (Laid w v len):=by
 have HR:Hid (gw w.heap.size w v len):=hR;obtain⟨hl,a0,cap,rfl,hc⟩:=hR;go_enter Tryz.func9,Tryz.ntmps9;go_wp2;go_loopw [4] (λvi wr=> ∃(i:Nat) (m:Int),i<=len/\vi=Y4 Y5 (i:Int)/\0<=m/\m<=18446744073709551615/\bw wr w.heap.size (J a0 len cap) 0 m 0/\Below w.heap.size w wr) (λvi _=>len - (intOf vi).toNat);case atStart=>exact⟨0,88172645463325252,by omega,rfl,by decide,by decide,by unfold bw;show (w.heap.push _)[w.heap.size]?=_;simp,(Yh _ _).alloc (Ye _) _⟩
 case round=>
  obtain⟨i,m,hi,rfl,m0,m1,hb,hnx⟩:=hrel;obtain⟨c0,c1,c2,c3,f0,f1,f2,f3⟩:=hb.cells;have HB:Hid (bw wr w.heap.size (J a0 len cap) 0 m 0):=hb;have HX:Hid (Below w.heap.size w wr):=hnx;clear hb hnx;by_cases hlt:i<len
  ·by_cases h64:i<64
   ·obtain⟨b,off,z,rfl,hbB,hz,z0,z1⟩:=hc i hlt;have hz':wr.cell? ⟨b,off+i,U⟩=Y3 (Y4 .u8 z):=(HX.cell (p:=⟨b,off+i,U⟩) hbB).trans hz;have HZ:Hid (∀j,j<len->∃(b' off':Nat) (z:Int),Y3 (⟨b,off,U⟩:Addr)=Y3 ⟨b',off',U⟩/\b'<w.heap.size/\w.cell? ⟨b',off'+j,U⟩=Y3 (Y4 .u8 z)/\0<=z/\z<=255):=hc;clear hc hz;go_wp2;go_region;go_wp2;go_roundw;case rel=>exact⟨i+1,_,by omega,by go_num,(lH _).1,(lH _).2,HB.aks _,(HX.setCell (Ye _) _).drew⟩
    case measure=>simp[intOf];omega
   ·exact agL
  ·exact agL
def nG(B:Nat) (w0:World) (p:Nat) (v:Value) (len:Nat) (w:World) (e:Ending) (w':World):Prop:=(e=Y9 (Y7 Y_)\/e=Y9 (Y7 Y8))/\Src B w0 p v len w'/\w.grownBy w' (Y3 p)
theorem cU {p:Nat} {len:Nat} (h:Src B w0 p v len w) (of:Int) (hm2:of<=9223372036854775807):
  Calls Tryz.prog 11 #[Zd (Y3 ⟨p,0,U⟩),Y4 Y5 of] w (nG B w0 p v len w):=by
 have HN:Hid (Calls Tryz.prog 14 #[Zd (Y3 ⟨p,0,U⟩),Y4 Y5 of] w (alT B w0 p v len w of)):=h.n of hm2;clear h;go_enter Tryz.func11,Tryz.ntmps11;go_wp2_with fail;refine HN.mono ?_;rintro e w1 ⟨r,rfl,r0,r1,hS,hg⟩;have HS:Hid (Src B w0 p v len w1):=hS;have HG:Hid (w.grownBy w1 (Y3 p)):=hg;clear hS hg;cases hr:(r==0);all_goals
  go_wp2
  go_ret
 ·exact⟨Zb rfl,HS.out,HG.out⟩
 ·exact⟨Zc rfl,HS.out,HG.out⟩
theorem cw(w:World) (o:Obj) (row:Option Nat):w.grownBy (w.alloc o) row:=⟨rfl,rfl,rfl,by simp,λk hk _=>Ym _ _ _ hk⟩
theorem oN {p:Nat} {row:Option Nat} (h:w.grownBy w1 (Y3 p)) (hg:w1.grownBy w2 row) (hr:∀k,row=Y3 k->w.heap.size<=k):w.grownBy w2 (Y3 p):=
 ⟨hg.os.trans h.os,hg.tape.trans h.tape,hg.output.trans h.output,Yl h.size hg.size,λk hk hne=>(hg.block k (Yj hk h.size) (λe=>by have:=hr k e.symm;omega)).trans (h.block k hk hne)⟩
theorem Src.az {p:Nat} {len:Nat} {row:Option Nat} (h:Src B w0 p v len w) (hg:w.grownBy w' row) (hr:row≠Y3 p) (hB:∀k,row=Y3 k->B<=k):Src B w0 p v len w':=by
 obtain⟨h1,h2,h3,h4,h5,k,m,sz,h6,h7,h8,h9,h10,h11⟩:=h;have hb:Below B w w':=⟨hg.os,hg.tape,hg.output,hg.size,λk hk=>hg.block k (by have:=h3.size;omega) (λe=>by have:=hB k e.symm;omega)⟩;refine⟨h1,h2,h3.trans hb,Yj h4 hg.size,h5.below hb,k,m,sz,h6,h7,h8,h9,h10,?_⟩;unfold bw at h11 ⊢;rw[hg.block p h4 (λe=>hr e.symm)];exact h11
theorem Src.nJ {p:Nat} {len:Nat} (h:Src B w0 p v len w):p<w.heap.size:=h.2.2.2.1
theorem Src.base {p:Nat} {len:Nat} (h:Src B w0 p v len w):B<=w.heap.size:=Yl h.2.1 h.2.2.1.size
namespace Dk
def aho(B:Nat) (w0:World) (p:Nat) (v:Value) (len:Nat) (w:World) (e:Ending) (w':World):Prop:=∃x:Int,e=Y9 (Y4 Y5 x)/\ -9223372036854775808<=x/\x<=9223372036854775807/\Src B w0 p v len w'/\w.grownBy w' (Y3 p)
theorem ints_at(l:List Int) (hall:∀x∈l,-9223372036854775808<=x/\x<=9223372036854775807) (k:Nat) (h:k<l.length):∃x:Int,(l.map (Value.int Y5))[k]?=Y3 (Y4 Y5 x)/\ -9223372036854775808<=x/\x<=9223372036854775807:=
 ⟨l[k],by simp[h],hall _ (List.getElem_mem h)⟩
def BX:List Int:=[0,1,1023,1024,2048,1048576,1048577,-1024]
theorem kP {p:Nat} {len:Nat} (h:Src B w0 p v len w):
  Calls Tryz.prog 107 #[Zd (Y3 ⟨p,0,U⟩)] w (aho B w0 p v len w):=by
 have H1:Hid (Calls Tryz.prog 11 #[Zd (Y3 ⟨p,0,U⟩),Y4 Y5 6] w (nG B w0 p v len w)):=cU h 6 ag;clear h;go_enter Tryz.func107,Tryz.ntmps107;have z780z:=@aa _ @T_;exact yf
def Aw(B:Nat) (w0:World) (p:Nat) (v:Value) (len:Nat) (w:World) (n:Nat) (e:Ending) (w':World):Prop:=∃t:ByteArray,e=Y9 (I t)/\t.size<=n/\Src B w0 p v len w'/\w.grownBy w' (Y3 p)
theorem eO {p:Nat} {len:Nat} (h:Src B w0 p v len w) (b n:Nat) (ss:List ByteArray) (T:TypeId) (hb:w.heap[b]?=Y3 (Y6 (ss.map Yn).toArray T (0,0))) (hbp:¬b=p) (hn:ss.length=n) (h0:0<n) (h1:n<=100) (hz:∀x∈ss,x.size<=100):
  Calls Tryz.prog 15 #[Zd (Y3 ⟨p,0,U⟩),J (Y3 ⟨b,0,U⟩) n n] w (Aw B w0 p v len w 100):=by
 have HS:Hid (Src B w0 p v len w):=h;have HB:Hid (w.heap[b]?=Y3 (Y6 (ss.map Yn).toArray T (0,0))):=hb;have HZ:Hid (∀x∈ss,x.size<=100):=hz;clear h hb hz;go_enter Tryz.func15,Tryz.ntmps15;go_wp2_with fail;refine (HS.n n af).mono ?_;rintro e w1 ⟨r,rfl,r0,r1,hS1,hg1⟩;obtain⟨k,rfl⟩:=Int.eq_ofNat_of_zero_le r0;have hk:k<n:=af
 have hblk:w1.heap[b]?=Y3 (Y6 (ss.map Yn).toArray T (0,0)):=by
  rw[hg1.block b (by
   rcases Nat.lt_or_ge b w.heap.size with h'|h'
   ·exact h'
   ·have:=HB.out;rw[Array.getElem?_eq_none h'] at this;cases this) (λe=>by simp at e;omega)]
  exact HB.out
 have hkl:k<ss.length:=af
 have hc:w1.cell? ⟨b,k,U⟩=Y3 (I ss[k]):=by
  simp[World.cell?,hblk,hkl]
 have HX:Hid ((ss[k]).size<=100):=HZ.out _ (List.getElem_mem hkl);have HS1:Hid (Src B w0 p v len w1):=hS1;have HG1:Hid (w.grownBy w1 (Y3 p)):=hg1;clear hS1 hg1 hblk HS HB HZ r1 r0;generalize ss[k]=x at hc HX;go_wp2;go_ret;exact⟨x,rfl,HX.out,HS1.out,HG1.out⟩
structure Dr (B:Nat) (w0:World) (p:Nat) (v:Value) (len:Nat) (wa w:World):Prop where
 src:Src B w0 p v len w
 gr:wa.grownBy w (Y3 p)
 lt:p<wa.heap.size
theorem Dr.start {p:Nat} {len:Nat} (h:Src B w0 p v len w):Dr B w0 p v len w w:=⟨h,⟨rfl,rfl,rfl,Ye _,λ_ _ _=>rfl⟩,h.nJ⟩
theorem Dr.size {p:Nat} {len:Nat} (h:Dr B w0 p v len wa w):wa.heap.size<=w.heap.size:=h.gr.size
theorem Dr.alloc {p:Nat} {len:Nat} (h:Dr B w0 p v len wa w) (o:Obj):Dr B w0 p v len wa (w.alloc o):=
 ⟨h.src.az (cw w o U) aF (λk hk=>by cases hk),bS h.gr (cw w o _),h.lt⟩
theorem Dr.set {p:Nat} {len:Nat} (h:Dr B w0 p v len wa w) {b i:Nat} (x:Value) (hb:wa.heap.size<=b):Dr B w0 p v len wa (w.setCell ⟨b,i,U⟩ x):=by
 have hl:=h.lt;have hB:B<=p:=h.src.1;refine⟨h.src.az (bL w b i x) (λe=>by simp at e;omega) (λk hk=>by simp at hk;omega),?_,h.lt⟩;exact oN h.gr (bL w b i x) (λk hk=>by simp at hk;omega)
theorem Dr.next {p:Nat} {len:Nat} (h:Dr B w0 p v len wa w) (hs:Src B w0 p v len w') (hg:w.grownBy w' (Y3 p)):Dr B w0 p v len wa w':=⟨hs,bS h.gr hg,h.lt⟩
theorem Dr.below {p:Nat} {len:Nat} (h:Dr B w0 p v len wa w) (hb:Below w.heap.size w w'):Dr B w0 p v len wa w':=
 ⟨h.src.az (row:=U) ⟨hb.os,hb.tape,hb.output,hb.size,λk hk _=>hb.block k hk⟩ aF (λk hk=>by cases hk),bS h.gr ⟨hb.os,hb.tape,hb.output,hb.size,λk hk _=>hb.block k hk⟩,h.lt⟩
theorem gk {p:Nat} {o:Obj} (hg:w.grownBy w' (Y3 p)) (hn:¬k=p) (h:w.heap[k]?=Y3 o):w'.heap[k]?=Y3 o:=
 (hg.block k (ae h) (λe=>hn (by simpa using e))).trans h
theorem bZ {p:Nat} {len:Nat} (h:Src B w0 p v len w) (ss:List ByteArray) (n b:Nat) (T:TypeId) (hq:b=w.heap.size) (hn:ss.length=n) (h0:0<n) (h1:n<=100) (hz:∀x∈ss,x.size<=100):
  Calls Tryz.prog 15 #[Zd (Y3 ⟨p,0,U⟩),J (Y3 ⟨b,0,U⟩) n n] (w.alloc (Y6 (ss.map Yn).toArray T)) (Aw B w0 p v len w 100):=by
 subst hq;have h2:Src B w0 p v len (w.alloc (Y6 (ss.map Yn).toArray T)):=h.az (cw w _ U) aF (λk hk=>by cases hk);refine (eO h2 w.heap.size n ss T Yg (by have:=h.nJ;omega) hn h0 h1 hz).mono ?_;rintro e w' ⟨t,rfl,ht,hs,hg⟩;exact⟨t,rfl,ht,hs,bS (cw w _ _) hg⟩
theorem qE {p:Nat} {len:Nat} (h:Src B w0 p v len w):
  Calls Tryz.prog 106 #[Zd (Y3 ⟨p,0,U⟩)] w (Aw B w0 p v len w 100):=by
 have HS:=aa h;clear h;go_enter Tryz.func106,Tryz.ntmps106;go_wp2_with fail;refine (bZ HS.out [⟨#[101,97,115,116]⟩,⟨#[119,101,115,116]⟩] 2 _ _ rfl rfl ag ag ag).mono ?_;exact Pr
theorem afO {p:Nat} {len:Nat} (h:Src B w0 p v len w):
  Calls Tryz.prog 108 #[Zd (Y3 ⟨p,0,U⟩)] w (Aw B w0 p v len w 100):=by
 have HS:=aa h;clear h;go_enter Tryz.func108,Tryz.ntmps108;go_wp2_with fail;refine (bZ HS.out [⟨#[]⟩,⟨#[65]⟩,⟨#[49,50,51]⟩] 3 _ _ rfl rfl ag ag ag).mono ?_;exact Pr
def alS(B:Nat) (w0:World) (p:Nat) (v:Value) (len:Nat) (w:World) (e:Ending) (w':World):Prop:=
 ∃n c k x u,e=Y9 (Za #[I n,Y4 Y5 c,I k,Y7 x,I u])/\n.size<=100/\k.size<=100/\u.size<=100/\Dr B w0 p v len w w'
def alQ(B:Nat) (w0:World) (p:Nat) (v:Value) (len:Nat) (w:World) (e:Ending) (w':World):Prop:=
 ∃n c z k x m y a l cp zs,e=Y9 (Za #[I n,Y4 Y5 c,I z,I k,Y7 x,I m,Y7 y,J a l cp])/\n.size<=100/\z.size<=100/\k.size<=100/\m.size<=100/\ay w' a l cp zs/\(zs=[]\/∃g,a=Y3 (⟨g,0,U⟩:Addr)/\w.heap.size<=g)/\Dr B w0 p v len w w'
theorem pW(X:World) (o:Obj) (n:Nat) (h:X.heap.size=n):(X.alloc o).heap[n]?=Y3 o:=by
 subst h;exact Yg
theorem eC(h:e=Y9 (Y7 Y_)\/e=Y9 (Y7 Y8)):∃b,e=Y9 (Y7 b):=by
 rcases h with h|h
 ·exact⟨Y_,h⟩
 ·exact⟨Y8,h⟩
theorem Bu {p:Nat} {len:Nat} (h:Src B w0 p v len w):
  Calls Tryz.prog 61 #[Zd (Y3 ⟨p,0,U⟩)] w (alS B w0 p v len w):=by
 have HD0:=aa ((Dr.start h).alloc (Y6 #[I ⟨#[]⟩,Y4 Y5 0,I ⟨#[]⟩,Y7 Y8,I ⟨#[]⟩] 97));have HP:=aa h.nJ;have G0:Hid ((w.alloc (Y6 #[I ⟨#[]⟩,Y4 Y5 0,I ⟨#[]⟩,Y7 Y8,I ⟨#[]⟩] 97)).heap[w.heap.size]?=Y3 (Y6 #[I ⟨#[]⟩,Y4 Y5 0,I ⟨#[]⟩,Y7 Y8,I ⟨#[]⟩] 97 (0,0))):=Yg;clear h;go_enter Tryz.func61,Tryz.ntmps61;go_wp2_with fail;refine (bZ HD0.src [⟨#[99,49]⟩,⟨#[99,50]⟩,⟨#[99,51]⟩,⟨#[99,52]⟩] 4 _ _ aF rfl ag ag ag).mono ?_;have z730z:=@aa _ @UM;exact yq
theorem QW {p:Nat} {len:Nat} (h:Src B w0 p v len w):
  Calls Tryz.prog 59 #[Zd (Y3 ⟨p,0,U⟩)] w (alQ B w0 p v len w):=by
 have HD0:=aa ((Dr.start h).alloc (Y6 #[I ⟨#[]⟩,Y4 Y5 0,I ⟨#[]⟩,I ⟨#[]⟩,Y7 Y8,I ⟨#[]⟩,Y7 Y8,J U 0 0] 95));have HP:=aa h.nJ;have G0:Hid ((w.alloc (Y6 #[I ⟨#[]⟩,Y4 Y5 0,I ⟨#[]⟩,I ⟨#[]⟩,Y7 Y8,I ⟨#[]⟩,Y7 Y8,J U 0 0] 95)).heap[w.heap.size]?=Y3 (Y6 #[I ⟨#[]⟩,Y4 Y5 0,I ⟨#[]⟩,I ⟨#[]⟩,Y7 Y8,I ⟨#[]⟩,Y7 Y8,J U 0 0] 95 (0,0))):=Yg;clear h;go_enter Tryz.func59,Tryz.ntmps59;go_wp2_with fail;refine (bZ HD0.src [⟨#[100,49]⟩,⟨#[100,50]⟩,⟨#[100,51]⟩] 3 _ _ aF rfl ag ag ag).mono ?_;have z1382z:=@aa _ @Hq;exact sg
end Dk
theorem gW.len {n:Nat} (h:gW u n r) (h1:u<=9223372036854775807):r.size<=19:=by
 exact O6
theorem gW.step {n:Nat} (h:gW u n r) (hn:¬n=0):gW u (n / 10) (⟨#[dgB n]⟩++r):=by
 exact OW
namespace Dk
theorem Src.drew {p:Nat} {len:Nat} (h:Src B w0 p v len w):Src B w0 p v len w.drew:=
 h.az (row:=U) ⟨rfl,rfl,rfl,Ye _,λ_ _ _=>rfl⟩ aF (λk hk=>by cases hk)
def aj_:List Int:=[-1,0,1000,1000000,1000001]
theorem wj {p:Nat} {len:Nat} (h:Src B w0 p v len w):
  Calls Tryz.prog 109 #[Zd (Y3 ⟨p,0,U⟩)] w (aho B w0 p v len w):=by
 have H1:Hid (Calls Tryz.prog 11 #[Zd (Y3 ⟨p,0,U⟩),Y4 Y5 6] w (nG B w0 p v len w)):=cU h 6 ag;clear h;go_enter Tryz.func109,Tryz.ntmps109;have z780z:=@aa _ @T9;exact yf
def PSt(B:Nat) (w0:World) (p:Nat) (v:Value) (len:Nat) (wa:World) (b m:Nat) (W:World):Prop:=
 ∃(n:ByteArray) (c:Int) (z:ByteArray) (lv:Value) (zs:List ByteArray) (d:ByteArray) (ph:Int),W.heap[b]?=Y3 (Y6 #[I n,Y4 Y5 c,I z,lv,I d,Y4 Y5 ph] 40 (0,0))/\(n.size<=100/\z.size<=100/\d.size<=100)/\zs.length<=m/\(∀(j:Nat) x,zs[j]?=Y3 x->x.size<=100)/\
  W.ownsRow wa.heap.size 9 1 lv zs.length (zs.map Yn)/\Dr B w0 p v len wa W/\W.heap[wa.heap.size]?=Y3 (Y6 #[I ⟨#[]⟩,Y4 Y5 0,I ⟨#[]⟩,J U 0 0,I ⟨#[]⟩,Y4 Y5 0] 40 (0,0))/\wa.heap.size<b
theorem ni {lo n:Nat} {cur:Array Value} (h:W.ownsRow lo 9 1 lv n xs) (hb:W.heap[b]?=Y3 (Y6 cur 40 (0,0))):lv.ownBlock≠Y3 b:=λe=>by
 rcases h.2 with ⟨rfl,_⟩|⟨g',cap,cu,rfl,_,hg',_⟩
 ·cases e
 ·simp[YJ] at e;subst e;rw[hb] at hg';simp at hg'
theorem PSt.next {p:Nat} {len:Nat} (h:PSt B w0 p v len wa b m W) (hs:Src B w0 p v len W') (hg:W.grownBy W' (Y3 p)):PSt B w0 p v len wa b m W':=by
 obtain⟨n,c,z,lv,zs,d,ph,h1,h2,h3,h4,h5,h6,h7,h8⟩:=h;have hp:=h6.lt;refine⟨n,c,z,lv,zs,d,ph,gk hg af h1,h2,h3,h4,h5.kept hg (Zb (λe=>by have:=(h5.lt _ e).1;omega)),h6.next hs hg,gk hg af h7,h8⟩
theorem PSt.set {p:Nat} {len:Nat} (h:PSt B w0 p v len wa b m W):
  (∀x,PSt B w0 p v len wa b m (W.setCell ⟨b,1,U⟩ (Y4 Y5 x)))/\(∀s:ByteArray,s.size<=100->PSt B w0 p v len wa b m (W.setCell ⟨b,2,U⟩ (I s)))/\
  (∀s:ByteArray,s.size<=100->PSt B w0 p v len wa b m (W.setCell ⟨b,4,U⟩ (I s)))/\(∀x,PSt B w0 p v len wa b m (W.setCell ⟨b,5,U⟩ (Y4 Y5 x))):=by
 obtain⟨n,c,z,lv,zs,d,ph,h1,h2,h3,h4,h5,h6,h7,h8⟩:=h;have k5:∀i x,(W.setCell ⟨b,i,U⟩ x).ownsRow wa.heap.size 9 1 lv zs.length (zs.map Yn):=λi x=>h5.kept (bL W b i x) (Zb (ni h5 h1));have k6:∀i x,Dr B w0 p v len wa (W.setCell ⟨b,i,U⟩ x):=λi x=>h6.set x af;have k7:∀i x,(W.setCell ⟨b,i,U⟩ x).heap[wa.heap.size]?=Y3 (Y6 #[I ⟨#[]⟩,Y4 Y5 0,I ⟨#[]⟩,J U 0 0,I ⟨#[]⟩,Y4 Y5 0] 40 (0,0)):=λi x=>(Ya _ _ _ _ (show wa.heap.size≠b by omega)).trans h7;exact⟨λx=>⟨n,x,z,lv,zs,d,ph,au h1 _,h2,h3,h4,k5 _ _,k6 _ _,k7 _ _,h8⟩,λs hs=>⟨n,c,s,lv,zs,d,ph,au h1 _,⟨h2.1,hs,h2.2.2⟩,h3,h4,k5 _ _,k6 _ _,k7 _ _,h8⟩,
  λs hs=>⟨n,c,z,lv,zs,s,ph,au h1 _,⟨h2.1,h2.2.1,hs⟩,h3,h4,k5 _ _,k6 _ _,k7 _ _,h8⟩,λx=>⟨n,c,z,lv,zs,d,x,au h1 _,h2,h3,h4,k5 _ _,k6 _ _,k7 _ _,h8⟩⟩
theorem PSt.lay {p:Nat} {len:Nat} (h:PSt B w0 p v len wa b m W) (ss:List ByteArray) (hl:ss.length<=m) (hl2:ss.length<=2) (hs:∀x∈ss,x.size<=100) (k:Nat) (hk:ss.length=k):
  PSt B w0 p v len wa b m ((W.setCell ⟨b,3,U⟩ (J (Y3 ⟨W.heap.size,0,U⟩) k k)).alloc (Y6 (ss.map Yn).toArray 9)):=by
 obtain⟨n,c,z,lv,zs,d,ph,h1,h2,h3,h4,h5,h6,h7,h8⟩:=h;subst hk;have hbw:=ae h1;have hsz:(W.setCell ⟨b,3,U⟩ (J (Y3 ⟨W.heap.size,0,U⟩) ss.length ss.length)).heap.size=W.heap.size:=oh
 refine⟨n,c,z,J (Y3 ⟨W.heap.size,0,U⟩) ss.length ss.length,ss,d,ph,(Ym _ _ _ (by rw[hsz];exact hbw)).trans (au h1 _),h2,hl,λj x hx=>hs x (Yu hx),?_,(h6.set _ af).alloc _,(Ym _ _ _ (by rw[hsz];omega)).trans ((Ya _ _ _ _ (show wa.heap.size≠b by omega)).trans h7),h8⟩;refine⟨by simp,Zb ⟨W.heap.size,ss.length,(ss.map Yn).toArray,rfl,h6.size,pW _ _ _ hsz,Ye _,by unfold maxLen;omega,by simp,by simp;exact YH aF⟩⟩
theorem PSt.up {p:Nat} {len:Nat} {m':Nat} (h:PSt B w0 p v len wa b m W) (hm:m<=m'):PSt B w0 p v len wa b m' W:=by
 obtain⟨n,c,z,lv,zs,d,ph,h1,h2,h3,h⟩:=h;exact⟨n,c,z,lv,zs,d,ph,h1,h2,by omega,h⟩
theorem ajW {lo:Nat} (h5:W.ownsRow lo 9 1 lv zs.length (zs.map Yn)) (h4:∀(j:Nat) x,zs[j]?=Y3 x->x.size<=100):∃a l cp,lv=J a l cp/\ay W a l cp zs/\(a=U->cp=0):=by
 rcases h5.2 with ⟨rfl,h0⟩|⟨g,cap,cu,rfl,hb,hg,hn,hc,hs,ht⟩
 ·have:zs=[]:=YN h0;subst this;exact⟨U,0,0,rfl,⟨rfl,Ye _,by omega,λj x hx=>by simp at hx,Zc rfl⟩,λ_=>rfl⟩
 ·refine⟨_,_,_,rfl,⟨by simp,hn,by unfold maxLen at hc;omega,λj x hx=>by have:=h4 j x hx;omega,Zb ⟨g,0,rfl,ae hg,λj x hx=>?_⟩⟩,λe=>by cases e⟩;have hj:j<zs.length:=(Yc.1 hx).1;have e1:(cu.toList.take (zs.length*1))[j]?=(zs.map Yn)[j]?:=by rw[ht]
  rw[YD,if_pos af,Yt,hx] at e1;rw[an hg,Yq,<-Array.getElem?_toList];exact e1
theorem kW {o:Oper} {a:Act} {E:Prop} (hgd:o.guard=U) (s x:Operand) (t:TypeId)
  (ho:o.op=.call { callee:=.builtin .append,args:=#[s,x],argTypes:=#[t,t] })
  (base:Nat) (e:TypeId) (i:TypeInfo) (z:Value) (size bytes:Nat) (ht:P.underlying t=Y3 (J e)) (hi:P.info? e=Y3 i) (hz:i.zero=Y3 z)
  (hsize:i.size=size) (hby:i.bytes=bytes) (hzs:z.cells.size=size) (hsz:0<size)
  (v:Value) (n:Nat) (xs:List Value) (hs:a.eval s=v) (hown:w.ownsRow base e size v n xs)
  (ad:Addr) (m c:Nat) (news:List Value) (hx:a.eval x=J (Y3 ad) m c) (hl:news.length=m*size) (hnews:∀j u,news[j]?=Y3 u->w.cell? (ad.add j)=Y3 u) (h1:∀u∈news,u.oneCell'=Y_)
  (h63:n+m<=maxLen) (hbytes:(n+m)*bytes<=140737488355328) (hbase:base<=w.heap.size)
  (h:∀v' w',w'.ownsRow base e size v' (n+m) (xs++news)->w.grownBy w' v.ownBlock->(v'=J U 0 0↔v=J U 0 0/\m=0)->K (a.put o.dst v') w'):
  if YM o (yielded ops a.tmps)=Y_ then Oper.wp P o a w K Q else E:=by
 have hw:YM o (yielded ops a.tmps)=Y_:=by simp[YM,hgd]
 rw[if_pos hw];exact wp_append_own w s x t ho base e i z size bytes ht hi hz hsize hby hzs hsz v n xs hs hown ad m c news hx hl hnews h1 h63 hbytes hbase h
theorem ajX {lo n:Nat} (h:W.ownsRow lo T m v n xs):∃a l c,v=J a l c:=by
 rcases h.2 with ⟨rfl,_⟩|⟨g,cap,cu,rfl,_⟩
 ·exact⟨_,_,_,rfl⟩
 ·exact⟨_,_,_,rfl⟩
theorem Dr.aj9 {p:Nat} {len:Nat} {row:Option Nat} (h:Dr B w0 p v len wa w) (hg:w.grownBy w' row) (hr:∀k,row=Y3 k->wa.heap.size<=k):Dr B w0 p v len wa w':=by
 have hp:=h.lt;have hB:B<=p:=h.src.1;refine⟨h.src.az hg (λe=>by have:=hr p e;omega) (λk e=>by have:=hr k e;omega),⟨hg.os.trans h.gr.os,hg.tape.trans h.gr.tape,hg.output.trans h.gr.output,Yl h.gr.size hg.size,λi hi hne=>?_⟩,h.lt⟩;exact (hg.block i (Yj hi h.gr.size) (λe=>by have:=hr i e.symm;omega)).trans (h.gr.block i hi hne)
theorem AG {o:Oper} {a:Act} {E:Prop} (hgd:o.guard=U) (f:FuncId) (args:Array Operand) (ts:Array TypeId) {fn:Func} {cd:Code} (hf:P.funcs[f]?=Y3 fn) (hname:(fn.name== "runtime.NumGoroutine")=Y8) (hb:fn.body=Y3 cd)
  (ho:o.op=.call { callee:=.value (.func f),args:=args,argTypes:=ts }) (vs:Array Value) (hv:args.map a.eval=vs) {R:Ending->World->Prop} (h:Calls P f vs w R)
  (hR:∀e w',R e w'->∃v,e=Y9 v/\K (a.put o.dst v) w'):
  if YM o (yielded ops a.tmps)=Y_ then Oper.wp P o a w K Q else E:=by
 have hw:YM o (yielded ops a.tmps)=Y_:=by simp[YM,hgd]
 rw[if_pos hw];subst hv;unfold Oper.wp;have hrun:(execOp a.eval o).run P w=.ok (.enter f (args.map a.eval)) w:=by
  have h1:¬fn.name= "runtime.NumGoroutine":=by simpa using hname
  simp[execOp,ho,resolve,invoke,Act.eval,Deferred.ofValue,callFunc,hf,h1,hb,Result.andThen]
 rw[hrun,Oper.upon_enter];refine h.mono λe w' hr=>?_;obtain⟨v,rfl,hk⟩:=hR e w' hr;exact hk
theorem afv {lo:Nat} (h5:W.ownsRow lo 9 1 lv zs.length (zs.map Yn)) (h4:∀(j:Nat) x,zs[j]?=Y3 x->x.size<=100):∃a l cp,lv=J a l cp/\ay W a l cp zs/\(a=U->cp=0)/\(zs=[]\/∃g,a=Y3 ⟨g,0,U⟩/\lo<=g):=by
 obtain⟨a,l,cp,rfl,h1,h2⟩:=ajW h5 h4;refine⟨a,l,cp,rfl,h1,h2,?_⟩;rcases h5.2 with ⟨e,h0⟩|⟨g,cap,cu,e,hb,_⟩
 ·exact Zc (YN h0)
 ·injection e with e1 e2 e3;exact Zb ⟨g,e1,hb⟩
def alR(B:Nat) (w0:World) (p:Nat) (v:Value) (len:Nat) (w:World) (e:Ending) (w':World):Prop:=
 ∃n c z a l cp zs d ph,e=Y9 (Za #[I n,Y4 Y5 c,I z,J a l cp,I d,Y4 Y5 ph])/\n.size<=100/\z.size<=100/\d.size<=100/\ay w' a l cp zs/\(a=U->cp=0)/\(zs=[]\/∃g,a=Y3 ⟨g,0,U⟩/\w.heap.size<=g)/\zs.length<=4/\(∀(j:Nat) x,zs[j]?=Y3 x->x.size<=100)/\Dr B w0 p v len w w'
theorem PSt.src {p:Nat} {len:Nat} (h:PSt B w0 p v len wa b m W):Src B w0 p v len W:=by
 obtain⟨_,_,_,_,_,_,_,_,_,_,_,_,h,_⟩:=h;exact h.src
theorem PSt.lt {p:Nat} {len:Nat} (h:PSt B w0 p v len wa b m W):b<W.heap.size:=by
 obtain⟨_,_,_,_,_,_,_,h,_⟩:=h;exact ae h
theorem afp {p:Nat} {len:Nat} (h:Src B w0 p v len w):
  Calls Tryz.prog 63 #[Zd (Y3 ⟨p,0,U⟩)] w (alR B w0 p v len w):=by
 have HD0:=aa ((Dr.start h).alloc (Y6 #[I ⟨#[]⟩,Y4 Y5 0,I ⟨#[]⟩,J U 0 0,I ⟨#[]⟩,Y4 Y5 0] 40));have HP:=aa h.nJ;have G0:Hid ((w.alloc (Y6 #[I ⟨#[]⟩,Y4 Y5 0,I ⟨#[]⟩,J U 0 0,I ⟨#[]⟩,Y4 Y5 0] 40)).heap[w.heap.size]?=Y3 (Y6 #[I ⟨#[]⟩,Y4 Y5 0,I ⟨#[]⟩,J U 0 0,I ⟨#[]⟩,Y4 Y5 0] 40 (0,0))):=Yg;clear h;go_enter Tryz.func63,Tryz.ntmps63;go_wp2_with fail;refine (bZ HD0.src [⟨#[112,49]⟩,⟨#[112,50]⟩,⟨#[112,51]⟩,⟨#[112,52]⟩] 4 _ _ aF rfl ag ag ag).mono ?_;have z730z:=@aa _ @UL;exact yq
end Dk
namespace Rc
def kV(w:World) (p:Nat):Prop:=∀(i:Nat) (t:ByteArray),w.cell? ⟨p,i,U⟩≠Y3 (I t)
theorem cell_kept(hb:aG S w w') {b o:Nat} (h:b<w.heap.size) (hs:¬S b):w'.cell? ⟨b,o,U⟩=w.cell? ⟨b,o,U⟩:=by
 simp[World.cell?,hb.block b h hs]
theorem ay.bP {p:Nat} {len:Nat} (h:ay w a len cap zs) (hn:kV w p) (hb:aG (λk=>k=p) w w'):ay w' a len cap zs:=by
 obtain⟨h1,h2,h3,h4,h5⟩:=h;refine⟨h1,h2,h3,h4,?_⟩;rcases h5 with h5|⟨b,o,rfl,hl,hc⟩
 ·exact Zc h5
 ·by_cases hz:zs=[]
  ·exact Zc hz
  refine Zb ⟨b,o,rfl,Yj hl hb.size,λj x hx=>?_⟩;have hbp:¬b=p:=λe=>by
   subst e;exact hn _ _ (hc j x hx)
  exact (cell_kept hb hl hbp).trans (hc j x hx)
theorem Fv.Is.bP {p:Nat} {f:Fv} (h:f.Is w v) (hn:kV w p) (hb:aG (λk=>k=p) w w'):f.Is w' v:=by
 cases f with
 | l zs=>obtain⟨a,len,cap,h1,h2⟩:=h;exact⟨a,len,cap,h1,ay.bP h2 hn hb⟩
 | _=>exact h
def QH(rs:List (List Fv)):Prop:=∀(j:Nat) r,rs[j]?=Y3 r->∃t,r[0]?=Y3 (.s t)
theorem aT.bP {p:Nat} {len:Nat} {rs:List (List Fv)} (h:aT w a len cap m rs) (hr:QH rs) (hn:kV w p) (hb:aG (λk=>k=p) w w'):aT w' a len cap m rs:=by
 obtain⟨h1,h2,h3,h5⟩:=h;refine⟨h1,h2,h3,?_⟩;rcases h5 with h5|⟨b,o,rfl,hl,hc⟩
 ·exact Zc h5
 refine Zb ⟨b,o,rfl,Yj hl hb.size,λj r hj=>?_⟩;obtain⟨t,ht⟩:=hr j r hj;have hbp:¬b=p:=λe=>by
  subst e;obtain⟨v,e1,e2⟩:=hc j r hj 0 _ ht;obtain⟨rfl,_⟩:=e2;exact hn _ _ e1
 intro i f hi;obtain⟨v,e1,e2⟩:=hc j r hj i f hi;exact⟨v,(cell_kept hb hl hbp).trans e1,e2.bP hn hb⟩
theorem cE {F:α->List Fv} (h:∀x,∃t,(F x)[0]?=Y3 (.s t)) (xs:List α):QH (xs.map F):=by
 exact OL
theorem aB.bP {p:Nat} (h:aB w d c.raw) (hn:kV w p) (hb:aG (λk=>k=p) w w'):aB w' d c.raw:=
 ⟨h.n.bP (cE (λx=>⟨x.n,rfl⟩) c.ns) hn hb,h.k.bP (cE (λx=>⟨x.n,rfl⟩) c.ks) hn hb,h.v.bP (cE (λx=>⟨x.n,rfl⟩) c.vs) hn hb,h.x.bP (cE (λx=>⟨x.n,rfl⟩) c.xs) hn hb,h.p.bP (cE (λx=>⟨x.n,rfl⟩) c.ps) hn hb⟩
def Ak(w:World) (v v':Value):Prop:=v'=v\/((∃t,v=I t)/\∃t:ByteArray,v'=I t/\t.size<=9223372036854775807)\/((∃n,v=Y4 Y5 n)/\∃n,v'=Y4 Y5 n)\/((∃x,v=Y7 x)/\∃x,v'=Y7 x)\/
 ((∃a l c,v=J a l c)/\∃a l c zs,v'=J a l c/\ay w a l c zs)
structure Kin (w w':World):Prop where
 size:w.heap.size<=w'.heap.size
 cell:∀b i v,b<w.heap.size->w.cell? ⟨b,i,U⟩=Y3 v->∃v',w'.cell? ⟨b,i,U⟩=Y3 v'/\Ak w' v v'
theorem ie(P:Nat->α->Prop):∀n:Nat,(∀j,j<n->∃x,P j x)->∃l:List α,l.length=n/\∀(j:Nat) x,l[j]?=Y3 x->P j x
 | 0,_=>⟨[],rfl,λj x h=>by cases h⟩
 | n+1,h=>by
  obtain⟨l,h1,h2⟩:=ie P n (λj hj=>h j af);obtain⟨y,hy⟩:=h n af;refine⟨l++[y],by simp[h1],λj x hj=>?_⟩;by_cases e:j<n
  ·rw[Yv af] at hj;exact h2 j x hj
  ·rw[List.getElem?_append_right af] at hj;have e2:j - l.length=0:=by
    have:=(Yc.1 hj).1;simp at this;omega
   rw[e2] at hj;obtain rfl:y=x:=by simpa using hj
   obtain rfl:j=n:=af
   exact hy
theorem ay.A6 {len:Nat} (h:ay w a len cap zs) (hk:Kin w w'):∃zs',zs'.length=zs.length/\ay w' a len cap zs':=by
 obtain⟨h1,h2,h3,h4,h5⟩:=h;rcases h5 with rfl|⟨b,o,rfl,hl,hc⟩
 ·exact⟨[],rfl,h1,h2,h3,λj x h=>bY,Zc rfl⟩
 obtain⟨l,e1,e2⟩:=ie (λj (t:ByteArray)=>w'.cell? ⟨b,o+j,U⟩=Y3 (I t)/\t.size<=9223372036854775807) zs.length (λj hj=>by
  have hz:zs[j]?=Y3 zs[j]:=Yi hj;obtain⟨v',g1,g2⟩:=hk.cell b (o+j) _ hl (hc j _ hz)
  rcases g2 with rfl|⟨_,t,rfl,ht⟩|⟨⟨_,g⟩,_⟩|⟨⟨_,g⟩,_⟩|⟨⟨_,_,_,g⟩,_⟩
  ·exact⟨_,g1,h4 j _ hz⟩
  ·exact⟨t,g1,ht⟩
  ·cases g
  ·cases g
  ·cases g)
 exact⟨l,e1,e1.trans h1,h2,h3,λj x hj=>(e2 j x hj).2,Zb ⟨b,o,rfl,Yj hl hk.size,λj x hj=>(e2 j x hj).1⟩⟩
def Fv.pZ:Fv->Fv->Prop
 | .s _,.s _=>True
 | .i _,.i _=>True
 | .b _,.b _=>True
 | .l _,.l _=>True
 | _,_=>False
theorem Fv.Is.A6 {f:Fv} (h:f.Is w v) (hk:Kin w w') (ha:Ak w' v v'):∃f',Fv.pZ f f'/\f'.Is w' v':=by
 cases f with
 | s t=>
  obtain⟨rfl,ht⟩:=h
  rcases ha with rfl|⟨_,t,rfl,ht⟩|⟨⟨_,g⟩,_⟩|⟨⟨_,g⟩,_⟩|⟨⟨_,_,_,g⟩,_⟩
  ·exact⟨.s t,trivial,rfl,ht⟩
  ·exact⟨.s t,trivial,rfl,ht⟩
  all_goals cases g
 | i n=>
  obtain rfl:=h
  rcases ha with rfl|⟨⟨_,g⟩,_⟩|⟨_,n,rfl⟩|⟨⟨_,g⟩,_⟩|⟨⟨_,_,_,g⟩,_⟩
  ·exact⟨.i n,trivial,rfl⟩
  ·cases g
  ·exact⟨.i n,trivial,rfl⟩
  all_goals cases g
 | b x=>
  obtain rfl:=h
  rcases ha with rfl|⟨⟨_,g⟩,_⟩|⟨⟨_,g⟩,_⟩|⟨_,x,rfl⟩|⟨⟨_,_,_,g⟩,_⟩
  ·exact⟨.b x,trivial,rfl⟩
  ·cases g
  ·cases g
  ·exact⟨.b x,trivial,rfl⟩
  ·cases g
 | l zs=>
  obtain⟨a,len,cap,rfl,ht⟩:=h
  rcases ha with rfl|⟨⟨_,g⟩,_⟩|⟨⟨_,g⟩,_⟩|⟨⟨_,g⟩,_⟩|⟨_,a,l,c,zs,rfl,ht⟩
  ·obtain⟨zs',_,h2⟩:=ay.A6 ht hk;exact⟨.l zs',trivial,_,_,_,rfl,h2⟩
  ·cases g
  ·cases g
  ·cases g
  ·exact⟨.l zs,trivial,_,_,_,rfl,ht⟩
def gA(r r':List Fv):Prop:=r'.length=r.length/\∀(i:Nat) f f',r[i]?=Y3 f->r'[i]?=Y3 f'->Fv.pZ f f'
theorem RAt.A6 {o:Nat} {r:List Fv} (h:RAt w b o r) (hl:b<w.heap.size) (hk:Kin w w'):∃r',gA r r'/\RAt w' b o r':=by
 obtain⟨l,e1,e2⟩:=ie (λi (f':Fv)=>(∀f,r[i]?=Y3 f->Fv.pZ f f')/\∃v',w'.cell? ⟨b,o+i,U⟩=Y3 v'/\f'.Is w' v') r.length (λi hi=>by
  have hr:r[i]?=Y3 r[i]:=Yi hi;obtain⟨v,g1,g2⟩:=h i _ hr;obtain⟨v',g3,g4⟩:=hk.cell b (o+i) _ hl g1;obtain⟨f',g5,g6⟩:=g2.A6 hk g4
  exact⟨f',λf hf=>by rw[hr] at hf;obtain rfl:=Yd hf;exact g5,v',g3,g6⟩)
 exact⟨l,⟨e1,λi f f' hf hf'=>(e2 i f' hf').1 f hf⟩,λi f hi=>(e2 i f hi).2⟩
theorem aT.A6 {len:Nat} {rs:List (List Fv)} (h:aT w a len cap m rs) (hk:Kin w w'):∃rs',rs'.length=rs.length/\(∀(j:Nat) r r',rs[j]?=Y3 r->rs'[j]?=Y3 r'->gA r r')/\aT w' a len cap m rs':=by
 obtain⟨h1,h2,h3,h5⟩:=h;rcases h5 with rfl|⟨b,o,rfl,hl,hc⟩
 ·exact⟨[],rfl,λ_ _ _ h=>bY,h1,h2,h3,Zc rfl⟩
 obtain⟨l,e1,e2⟩:=ie (λj (r':List Fv)=>(∀r,rs[j]?=Y3 r->gA r r')/\RAt w' b (o+j*m) r') rs.length (λj hj=>by
  have hr:rs[j]?=Y3 rs[j]:=Yi hj;obtain⟨r',g1,g2⟩:=(hc j _ hr).A6 hl hk
  exact⟨r',λr h=>by rw[hr] at h;obtain rfl:=Yd h;exact g1,g2⟩)
 exact⟨l,e1,λj r r' hr hr'=>(e2 j r' hr').1 r hr,e1.trans h1,h2,h3,Zb ⟨b,o,rfl,Yj hl hk.size,λj r hj=>(e2 j r hj).2⟩⟩
theorem kA {F:α->List Fv} (hF:∀x r',gA (F x) r'->∃y,r'=F y):∀(xs:List α) (rs':List (List Fv)),rs'.length=(xs.map F).length->(∀(j:Nat) r r',(xs.map F)[j]?=Y3 r->rs'[j]?=Y3 r'->gA r r')->∃ys:List α,ys.length=xs.length/\rs'=ys.map F
 | [],rs',h,_=>⟨[],rfl,by simpa using h⟩
 | x ::xs,[],h,_=>by simp at h
 | x ::xs,r' ::rs',h,hl=>by
  obtain⟨y,rfl⟩:=hF x r' (hl 0 _ _ rfl rfl);obtain⟨ys,h1,rfl⟩:=kA hF xs rs' iy (λj r q h1 h2=>hl (j+1) r q h1 h2);exact⟨y ::ys,by simp[h1],rfl⟩
theorem dL {f:Fv} (h:Fv.pZ (.s t) f):∃x,f=.s x:=by cases f <;> first|exact⟨_,rfl⟩|exact h.elim
theorem iJ {n:Int} {f:Fv} (h:Fv.pZ (.i n) f):∃x,f=.i x:=by cases f <;> first|exact⟨_,rfl⟩|exact h.elim
theorem kC {b:Bool} {f:Fv} (h:Fv.pZ (.b b) f):∃x,f=.b x:=by cases f <;> first|exact⟨_,rfl⟩|exact h.elim
theorem wh {f:Fv} (h:Fv.pZ (.l zs) f):∃x,f=.l x:=by cases f <;> first|exact⟨_,rfl⟩|exact h.elim
theorem afx(x:Nd) (r':List Fv) (h:gA (ndF x) r'):∃y,r'=ndF y:=by
 obtain⟨h1,h2⟩:=h;match r',h1 with
 | [f0,f1,f2,f3,f4,f5,f6],_=>
  obtain⟨a,rfl⟩:=dL (h2 0 _ _ rfl rfl);obtain⟨b,rfl⟩:=dL (h2 1 _ _ rfl rfl);obtain⟨c,rfl⟩:=iJ (h2 2 _ _ rfl rfl);obtain⟨d,rfl⟩:=iJ (h2 3 _ _ rfl rfl);obtain⟨e,rfl⟩:=iJ (h2 4 _ _ rfl rfl);obtain⟨f,rfl⟩:=kC (h2 5 _ _ rfl rfl);obtain⟨g,rfl⟩:=wh (h2 6 _ _ rfl rfl);exact⟨⟨a,b,c,d,e,f,g⟩,rfl⟩
theorem afC(x:Kd) (r':List Fv) (h:gA (kdF x) r'):∃y,r'=kdF y:=by
 obtain⟨h1,h2⟩:=h;match r',h1 with
 | [f0,f1,f2,f3],_=>
  obtain⟨a,rfl⟩:=dL (h2 0 _ _ rfl rfl);obtain⟨b,rfl⟩:=kC (h2 1 _ _ rfl rfl);obtain⟨c,rfl⟩:=kC (h2 2 _ _ rfl rfl);obtain⟨d,rfl⟩:=dL (h2 3 _ _ rfl rfl);exact⟨⟨a,b,c,d⟩,rfl⟩
theorem QY(x:Vd) (r':List Fv) (h:gA (vdF x) r'):∃y,r'=vdF y:=by
 obtain⟨h1,h2⟩:=h;match r',h1 with
 | [f0,f1,f2,f3,f4,f5,f6,f7],_=>
  obtain⟨a,rfl⟩:=dL (h2 0 _ _ rfl rfl);obtain⟨b,rfl⟩:=iJ (h2 1 _ _ rfl rfl);obtain⟨c,rfl⟩:=dL (h2 2 _ _ rfl rfl);obtain⟨d,rfl⟩:=dL (h2 3 _ _ rfl rfl);obtain⟨e,rfl⟩:=kC (h2 4 _ _ rfl rfl);obtain⟨f,rfl⟩:=dL (h2 5 _ _ rfl rfl);obtain⟨g,rfl⟩:=kC (h2 6 _ _ rfl rfl);obtain⟨i,rfl⟩:=wh (h2 7 _ _ rfl rfl);exact⟨⟨a,b,c,d,e,f,g,i⟩,rfl⟩
theorem QS(x:Xd) (r':List Fv) (h:gA (xdF x) r'):∃y,r'=xdF y:=by
 obtain⟨h1,h2⟩:=h;match r',h1 with
 | [f0,f1,f2,f3,f4],_=>
  obtain⟨a,rfl⟩:=dL (h2 0 _ _ rfl rfl);obtain⟨b,rfl⟩:=iJ (h2 1 _ _ rfl rfl);obtain⟨c,rfl⟩:=dL (h2 2 _ _ rfl rfl);obtain⟨d,rfl⟩:=kC (h2 3 _ _ rfl rfl);obtain⟨e,rfl⟩:=dL (h2 4 _ _ rfl rfl);exact⟨⟨a,b,c,d,e⟩,rfl⟩
theorem aft(x:Pd) (r':List Fv) (h:gA (pdF x) r'):∃y,r'=pdF y:=by
 obtain⟨h1,h2⟩:=h;match r',h1 with
 | [f0,f1,f2,f3,f4,f5],_=>
  obtain⟨a,rfl⟩:=dL (h2 0 _ _ rfl rfl);obtain⟨b,rfl⟩:=iJ (h2 1 _ _ rfl rfl);obtain⟨c,rfl⟩:=dL (h2 2 _ _ rfl rfl);obtain⟨d,rfl⟩:=wh (h2 3 _ _ rfl rfl);obtain⟨e,rfl⟩:=dL (h2 4 _ _ rfl rfl);obtain⟨f,rfl⟩:=iJ (h2 5 _ _ rfl rfl);exact⟨⟨a,b,c,d,e,f⟩,rfl⟩
def Ld(c c':Cl):Prop:=c'.ns.length=c.ns.length/\c'.ks.length=c.ks.length/\c'.vs.length=c.vs.length/\c'.xs.length=c.xs.length/\c'.ps.length=c.ps.length/\c'.now=c.now
theorem aB.A6(h:aB w d c.raw) (hk:Kin w w'):∃c':Cl,Ld c c'/\aB w' d c'.raw:=by
 obtain⟨r1,a1,b1,e1⟩:=h.n.A6 hk;obtain⟨r2,a2,b2,e2⟩:=h.k.A6 hk;obtain⟨r3,a3,b3,e3⟩:=h.v.A6 hk;obtain⟨r4,a4,b4,e4⟩:=h.x.A6 hk;obtain⟨r5,a5,b5,e5⟩:=h.p.A6 hk;exact agP
theorem Kin.refl(w:World):Kin w w:=⟨Ye _,λ_ _ v _ h=>⟨v,h,Zc rfl⟩⟩
theorem Kin.below(h:Kin w w1) (hb:Below w1.heap.size w1 w2):Kin w w2:=by
 refine⟨Yl h.size hb.size,λb i v hl hc=>?_⟩;obtain⟨v',e1,e2⟩:=h.cell b i v hl hc;refine⟨v',(ai hb (Yj hl h.size)).trans e1,?_⟩;rcases e2 with e|e|e|e|⟨e,a,l,c,zs,e3,e4⟩
 ·exact Zc e
 ·exact Zb (Zc e)
 ·exact Zb (Zb (Zc e))
 ·exact Zb (Zb (Zb (Zc e)))
 ·exact Zb (Zb (Zb (Zb ⟨e,a,l,c,zs,e3,e4.below hb⟩)))
theorem UF.draw {p:Nat} {len:Nat} (h:UF w g) (hs:Src B w0 p v len w') (hg:w.grownBy w' (Y3 p)):UF w' g:=by
 obtain⟨cs,T,h⟩:=h;by_cases e:g=p
 ·subst e;obtain⟨_,_,_,_,_,k,m,sz,_,_,_,_,_,hb⟩:=hs;exact⟨_,_,hb⟩
 ·exact⟨cs,T,gk hg e h⟩
theorem aS {p:Nat} (h:w.grownBy w' (Y3 p)):aG (λk=>k=p) w w':=⟨h.os,h.tape,h.output,h.size,λk hk hn=>h.block k hk (λe=>hn (Yd e))⟩
theorem bT {p:Nat} {len:Nat} (h:Src B w0 p v len w):kV w p:=by
 obtain⟨_,_,_,_,⟨_,a0,cap,rfl,_⟩,k,m,sz,_,_,_,_,_,hb⟩:=h;intro i t e;rw[an hb i] at e;rcases i with _|_|_|_|i <;> simp at e
theorem cP {now:Int} (h:w.heap[b]?=Y3 (Y6 #[J d.a1 d.l1 d.c1,J d.a2 d.l2 d.c2,J d.a3 d.l3 d.c3,J d.a4 d.l4 d.c4,J d.a5 d.l5 d.c5,Y4 Y5 now] T (0,0))):kV w b:=by
 intro i t e;rw[an h i] at e;rcases i with _|_|_|_|_|_|i <;> simp at e
theorem uB(h:w.cell? ⟨b,i,U⟩=Y3 v):(w.setCell ⟨b,i,U⟩ v').cell? ⟨b,i,U⟩=Y3 v':=by
 cases hg:w.heap[b]? with
 | none=>simp[World.cell?,hg] at h
 | some o=>
  cases o with
  | cells cs t fr=>
   have:=au (i:=i) hg v'
   simp[World.cell?,hg] at h
   simp only[World.cell?,this];have hi:i<cs.size:=(Yw.1 h).1
   simp[hi]
  | _=>simp[World.cell?,hg] at h
theorem gf(h:¬(k=b/\j=i)):(w.setCell ⟨b,i,U⟩ v).cell? ⟨k,j,U⟩=w.cell? ⟨k,j,U⟩:=by
 by_cases e:k=b
 ·subst e;exact uA (λe=>h ⟨rfl,e.symm⟩)
 ·simp[World.cell?,Ya w ⟨b,i,U⟩ v k e]
theorem ay.set(hc:w.cell? ⟨b,i,U⟩=Y3 v) (hv:∀t,v≠I t) {a:Option Addr} {len cap:Nat} {zs:List ByteArray} (h:ay w a len cap zs):ay (w.setCell ⟨b,i,U⟩ v') a len cap zs:=by
 obtain⟨h1,h2,h3,h4,h5⟩:=h;refine⟨h1,h2,h3,h4,?_⟩;rcases h5 with h5|⟨k,o,rfl,hl,hx⟩
 ·exact Zc h5
 refine Zb ⟨k,o,rfl,by simpa[YO] using hl,λj x hj=>(gf (λe=>?_)).trans (hx j x hj)⟩;obtain⟨rfl,e2⟩:=e;have:=hx j x hj;rw[e2,hc] at this;exact hv _ (Yd this)
theorem Kin.set(hc:w.cell? ⟨b,i,U⟩=Y3 v) (ha:Ak (w.setCell ⟨b,i,U⟩ v') v v'):Kin w (w.setCell ⟨b,i,U⟩ v'):=by
 refine⟨by simp[YO],λk j u hk hu=>?_⟩;by_cases e:k=b/\j=i
 ·obtain⟨rfl,rfl⟩:=e;rw[hc] at hu;obtain rfl:=Yd hu;exact⟨v',uB hc,ha⟩
 ·exact⟨u,(gf e).trans hu,Zc rfl⟩
theorem cD {p:Nat} {len:Nat} (h:Src B w0 p v len w):Src B w0 p v len w.drew:=h.az (row:=U) ⟨rfl,rfl,rfl,Ye _,λ_ _ _=>rfl⟩ (by simp) (λk hk=>by cases hk)
theorem aU(w:World):Below w.heap.size w w.drew:=⟨rfl,rfl,rfl,Ye _,λ_ _=>rfl⟩
theorem jU {p:Nat} {len:Nat} (h:Dr B w0 p v len wa w):Dr B w0 p v len wa w.drew:=h.below (aU _)
structure il (B:Nat) (w0:World) (p:Nat) (v:Value) (len:Nat) (X b:Nat) (c:Cl) (w w':World) (d:Ad) (c':Cl):Prop where
 blk:w'.heap[b]?=Y3 (Y6 (clv d c'.now) 29 (0,0))
 row:aB w' d c'.raw
 low:Low X w' d
 src:Src B w0 p v len w'
 kept:aG (λk=>k=p\/X<=k) w w'
 ld:c'.ps.length=c.ps.length
section
variable {B:Nat} {w0:World} {p:Nat} {v:Value} {len X b:Nat} {c:Cl} {w w1 w2:World} {d:Ad} {c':Cl}
theorem il.draw(h:il B w0 p v len X b c w w1 d c') (hbp:¬b=p) (hs:Src B w0 p v len w2) (hg:w1.grownBy w2 (Y3 p)):il B w0 p v len X b c w w2 d c':=
 ⟨gk hg hbp h.blk,h.row.bP (bT h.src) (aS hg),h.low.to (Ye _) (λ_ u=>u.draw hs hg),hs,h.kept.trans ((aS hg).mono λ_ e=>Zc e),h.ld⟩
theorem il.alloc(h:il B w0 p v len X b c w w1 d c') (o:Obj):il B w0 p v len X b c w (w1.alloc o) d c':=
 ⟨(Ym _ _ _ (ae h.blk)).trans h.blk,h.row.below (ak _ _),h.low.to (Ye _) (λ_ u=>u.below (ak _ _)),h.src.az (cw _ _ U) aF aF,h.kept.below (ak _ _),h.ld⟩
theorem il.set(h:il B w0 p v len X b c w w1 d c') (hX:B<=X) {g i:Nat} {u u':Value} (hc:w1.cell? ⟨g,i,U⟩=Y3 u) (ha:Ak (w1.setCell ⟨g,i,U⟩ u') u u') (hg:X<=g) (hgb:¬g=b) (hgp:¬g=p):∃c2:Cl,il B w0 p v len X b c w (w1.setCell ⟨g,i,U⟩ u') d c2:=by
 obtain⟨c2,hl,hr⟩:=h.row.A6 (Kin.set hc ha);refine⟨c2,?_,hr,h.low.to (Ye _) (λ_ q=>q.set),h.src.az (bL w1 g i u') (λe=>hgp (Yd e)) (λk e=>by have:=Yd e;omega),h.kept.set (Zb hg),hl.2.2.2.2.1.trans h.ld⟩;rw[Ya _ _ _ _ (λe=>hgb e.symm),h.blk];have e:=hl.2.2.2.2.2;rw[e]
end
def amx(w:World) (p:Nat):Prop:=∀(i:Nat) v,w.cell? ⟨p,i,U⟩=Y3 v->i<8/\((∃t,v=I t)->i=6)
structure QF (p:Nat) (w w':World):Prop where
 kept:aG (λk=>k=p) w w'
 was:amx w p
 now:∃t:ByteArray,w'.cell? ⟨p,6,U⟩=Y3 (I t)/\t.size<=9223372036854775807
theorem ay.res {p:Nat} {len:Nat} (h:ay w a len cap zs) (hk:QF p w w'):∃zs',zs'.length=zs.length/\ay w' a len cap zs':=by
 obtain⟨h1,h2,h3,h4,h5⟩:=h;rcases h5 with rfl|⟨b,o,rfl,hl,hc⟩
 ·exact⟨[],rfl,h1,h2,h3,λj x h=>bY,Zc rfl⟩
 by_cases hbp:b=p
 ·subst hbp;match zs,h1,h4,hc with
  | [],h1,h4,hc=>exact⟨[],rfl,h1,h2,h3,h4,Zc rfl⟩
  | [x],h1,h4,hc=>
   obtain⟨t,e1,e2⟩:=hk.now;have e6:o+0=6:=(hk.was _ _ (hc 0 x rfl)).2 ⟨x,rfl⟩;refine⟨[t],rfl,h1,h2,h3,λj y hj=>?_,Zb ⟨b,o,rfl,Yj hl hk.kept.size,λj y hj=>?_⟩⟩
   ·rcases j with _|j
    ·cases hj;exact e2
    ·cases hj
   ·rcases j with _|j
    ·cases hj;rw[e6];exact e1
    ·cases hj
  | x ::y ::zs,h1,h4,hc=>
   exfalso
   have e6:o+0=6:=(hk.was _ _ (hc 0 x rfl)).2 ⟨x,rfl⟩;have e7:o+1=6:=(hk.was _ _ (hc 1 y rfl)).2 ⟨y,rfl⟩
   omega
 ·exact⟨zs,rfl,h1,h2,h3,h4,Zb ⟨b,o,rfl,Yj hl hk.kept.size,λj x hj=>(cell_kept hk.kept hl hbp).trans (hc j x hj)⟩⟩
theorem Fv.Is.res {p:Nat} {f:Fv} (h:f.Is w v) (hk:QF p w w'):∃f',Fv.pZ f f'/\f'.Is w' v:=by
 cases f with
 | l zs=>
  obtain⟨a,len,cap,rfl,ht⟩:=h;obtain⟨zs',_,h2⟩:=ay.res ht hk;exact⟨.l zs',trivial,_,_,_,rfl,h2⟩
 | s t=>exact⟨.s t,trivial,h⟩
 | i n=>exact⟨.i n,trivial,h⟩
 | b x=>exact⟨.b x,trivial,h⟩
def QG(rs:List (List Fv)):Prop:=∀(j:Nat) r,rs[j]?=Y3 r->∃t f,r[0]?=Y3 (.s t)/\r[2]?=Y3 f
theorem eQ {F:α->List Fv} (h:∀x,∃t f,(F x)[0]?=Y3 (.s t)/\(F x)[2]?=Y3 f) (xs:List α):QG (xs.map F):=by
 exact OL
theorem aT.res {p:Nat} {len:Nat} {rs:List (List Fv)} (h:aT w a len cap m rs) (hn:QG rs) (hk:QF p w w'):∃rs',rs'.length=rs.length/\(∀(j:Nat) r r',rs[j]?=Y3 r->rs'[j]?=Y3 r'->gA r r')/\aT w' a len cap m rs':=by
 obtain⟨h1,h2,h3,h5⟩:=h;rcases h5 with rfl|⟨b,o,rfl,hl,hc⟩
 ·exact⟨[],rfl,λ_ _ _ h=>bY,h1,h2,h3,Zc rfl⟩
 obtain⟨l,e1,e2⟩:=ie (λj (r':List Fv)=>(∀r,rs[j]?=Y3 r->gA r r')/\RAt w' b (o+j*m) r') rs.length (λj hj=>by
  have hr:rs[j]?=Y3 rs[j]:=Yi hj;have hat:=hc j _ hr
  have hbp:¬b=p:=λe=>by
   subst e;obtain⟨t,f,g1,g2⟩:=hn j _ hr;obtain⟨v,q1,q2,_⟩:=hat 0 _ g1;have q6:=(hk.was _ _ q1).2 ⟨t,q2⟩;obtain⟨v2,q3,_⟩:=hat 2 _ g2;have q8:=(hk.was _ _ q3).1
   omega
  obtain⟨l,d1,d2⟩:=ie (λi (f':Fv)=>(∀f,rs[j][i]?=Y3 f->Fv.pZ f f')/\∃v',w'.cell? ⟨b,o+j*m+i,U⟩=Y3 v'/\f'.Is w' v') rs[j].length (λi hi=>by
   have hf:rs[j][i]?=Y3 rs[j][i]:=Yi hi;obtain⟨v,g1,g2⟩:=hat i _ hf;obtain⟨f',g5,g6⟩:=g2.res hk
   exact⟨f',λf hf'=>by rw[hf] at hf';obtain rfl:=Yd hf';exact g5,v,(cell_kept hk.kept hl hbp).trans g1,g6⟩)
  exact⟨l,λr h=>by
   rw[hr] at h;obtain rfl:=Yd h
   exact⟨d1,λi f f' hf hf'=>(d2 i f' hf').1 f hf⟩,λi f hi=>(d2 i f hi).2⟩)
 exact⟨l,e1,λj r r' hr hr'=>(e2 j r' hr').1 r hr,e1.trans h1,h2,h3,Zb ⟨b,o,rfl,Yj hl hk.kept.size,λj r hj=>(e2 j r hj).2⟩⟩
theorem aB.res {p:Nat} (h:aB w d c.raw) (hk:QF p w w'):∃c':Cl,Ld c c'/\aB w' d c'.raw:=by
 obtain⟨r1,a1,b1,e1⟩:=h.n.res (eQ (λx=>⟨_,_,rfl,rfl⟩) c.ns) hk;obtain⟨r2,a2,b2,e2⟩:=h.k.res (eQ (λx=>⟨_,_,rfl,rfl⟩) c.ks) hk;obtain⟨r3,a3,b3,e3⟩:=h.v.res (eQ (λx=>⟨_,_,rfl,rfl⟩) c.vs) hk;obtain⟨r4,a4,b4,e4⟩:=h.x.res (eQ (λx=>⟨_,_,rfl,rfl⟩) c.xs) hk;obtain⟨r5,a5,b5,e5⟩:=h.p.res (eQ (λx=>⟨_,_,rfl,rfl⟩) c.ps) hk;exact agP
theorem alV.mono(B:Nat):Fact.bH (alV B):=by
 exact mZ
theorem al0.mono(Is:Co->Prop):Fact.bH (al0 Is):=by
 rintro v w w' ⟨g,o,h1,h2,h3⟩ hb;exact⟨g,o,h1,h2,h3.below hb⟩
theorem OwF.mono(B:Nat) (Is:Co->Prop):Fact.bH (OwF B Is):=by
 rintro v w w' ⟨g,o,h1,h2,h3⟩ hb;exact⟨g,o,h1,h2,h3.below hb⟩
def nD(Is:Co->Prop) (w:World) (e:Ending) (w':World):Prop:=∃g o,e=Y9 (Za #[J g.a1 g.l1 g.c1,J g.a2 g.l2 g.c2,J g.a3 g.l3 g.c3,J g.a4 g.l4 g.c4,J g.a5 g.l5 g.c5,Y4 Y5 o.c.now,I o.n,Y4 Y5 o.p])/\Is o/\cZ w' g o.c.raw (λk=>w.heap.size<=k)/\Below w.heap.size w w'
theorem nD.f(h:nD Is w e w'):amz Is w e w':=by
 obtain⟨g,o,h1,h2,h3,h4⟩:=h;exact⟨g,o,h1,h2,⟨h3.n.bl λ_ _ _=>trivial,h3.k.bl λ_ _ _=>trivial,h3.v.bl λ_ _ _=>trivial,h3.x.bl λ_ _ _=>trivial,h3.p.bl λ_ _ _=>trivial⟩,h4⟩
theorem iM(w:World) (S:Nat->Prop):cZ w ad0 cl0.raw S:=⟨aw.nil _ _ _ _ _ (by decide),aw.nil _ _ _ _ _ (by decide),aw.nil _ _ _ _ _ (by decide),aw.nil _ _ _ _ _ (by decide),aw.nil _ _ _ _ _ (by decide)⟩
theorem nD.l(h:nD Is w e w'):im Is w e w':=by
 obtain⟨g,o,h1,h2,h3,h4⟩:=h;exact⟨g,o,h1,h2,h3.rl (λ_ s=>s),h4⟩
end Rc
end Go.Proofs.YtiplhgedmjoliaaGreatDoor

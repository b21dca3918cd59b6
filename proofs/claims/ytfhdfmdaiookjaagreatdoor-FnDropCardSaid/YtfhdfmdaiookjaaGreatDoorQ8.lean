import Derived.Test.YtfhdfmdaiookjaaGreatDoorQ4
import Derived.Test.YtfhdfmdaiookjaaGreatDoorQ6
import Derived.Test.YtfhdfmdaiookjaaGreatDoorQ7
import Derived.RegionTactic
import Derived.Test.YtfhdfmdaiookjaaGreatDoorRows
import Derived.WalkKit
import Derived.WalkSpells
import Derived.OwnWalk
import Derived.Outline
import Derived.BigRegion
import Derived.ChangeAlike
import Derived.Deep.QuietTactic
import Derived.BigQuiet
import Derived.Laws.Rows
import Derived.Lib.VarintMem
import Derived.Lib.Hide
import Derived.Lib.Slices
import Derived.Laws.IdiomStrings
import Derived.Deep.RegionWith
import Derived.Laws.AppendOwn
import Derived.Deep.Cut
import Derived.Deep.CutRange
import Derived.Deep.RegionLaw
/-
 What the laws on kinds call besides: measures, copies, comparisons.
-/
set_option maxRecDepth 100000
set_option maxHeartbeats 12800000
open Bool renaming false→Y_,true→Zb
open Go.Ending renaming returned→Za
open Go.IntKind renaming i64→Y6
open Go.Obj renaming cells→Y8
open Go.Value renaming string→I,slice→J,int→Y7,bool→Y9,agg→Zc,pointer→Zf,tuple→Zg
open Option renaming none→U,some→Y5
open Or renaming inr→Zd,inl→Ze
open And renaming intro→Yb
open Array renaming getElem?_push_size→Yg, getD_eq_getD_getElem?→Yr, getElem?_eq_some_iff→Yw
open Bool renaming and_eq_true→YG
open Classical renaming byContradiction→YH
open Go.Addr renaming add_lit→Yn
open Go.Calls renaming quiet_of_same→Yz
open Go.Op renaming bytesLess→Yk
open Go.Region renaming wanted→YP, ready→YQ
open Go.RowKit.Below renaming heap_setCell→Ya, refl→Yh, heap_alloc→Yl
open Go.Value renaming string→Ym, ownBlock→YL
open List renaming getElem?_eq_some_iff→Yc, lookup→Yf, getElem?_eq_getElem→Yi, length_map→Yo, mem_of_getElem?→Ys, setIfInBounds_toArray→Yt, getElem?_append_left→Yu, getElem?_map→Yv, drop_eq_nil_of_le→Yx, getElem?_take→YA, set_cons_zero→YC, getElem?_of_mem→YD, set_cons_succ→YE, length_take→YF, forall_mem_cons→YI, take_of_length_le→YJ, eq_nil_of_length_eq_zero→YM, take_add_one→YN, mem_cons→YO, foldr→YT
open Nat renaming le_refl→Ye, lt_of_lt_of_le→Yj, le_trans→Yp, zero_add→Yq, le_succ→Yy, zero_le→YK
open Option renaming map_eq_some_iff→YB
open Option.some renaming inj→Yd
namespace Go.Proofs.YtfhdfmdaiookjaaGreatDoor
variable {p:Prop}
namespace Mk
end Mk
namespace Dk
end Dk
open Go.RowKit Mk Dk
variable {α:Type} {B b cap g i j k len m:Nat} {E ok:Prop} {Is:Rc.Co->Prop} {K:Act->World->Prop} {P:Program} {Q:Exit->Act->World->Prop} {S St:Nat->Prop} {T:TypeId} {W w w' w0 w1 w2 wa wr:World} {a:Option Addr} {c:Rc.Cl} {cs:Array Value} {d:Rc.Ad} {e:Ending} {f:Rc.Pd->Int} {h:Rc.Pd->Rc.Pd} {lv v v' v0 v1 v2:Value} {o o':Rc.Co} {ops:Array Oper} {ps:List Rc.Pd} {sz:Int} {t:ByteArray} {x:Rc.Pd} {xs:List Value} {zs:List ByteArray}
theorem eh(h:p:=by have:=HP.out;omega):p:=h
theorem uj(h:p:=by simp[results,Tryz.results79,go_sem, *]):p:=h
theorem Af(h:p:=by simp[results,Tryz.results81,go_sem, *]):p:=h
theorem NW(h:p:=by simp[results,Tryz.results13,go_sem, *]):p:=h
theorem NV(h:p:=by simp[results,Tryz.results88,go_sem, *]):p:=h
theorem NU(h:p:=by simp[results,Tryz.results89,go_sem, *]):p:=h
theorem NT(h:p:=by simp[results,Tryz.results90,go_sem, *]):p:=h
theorem NO(h:p:=by simp[results,Tryz.results74,go_sem]):p:=h
theorem ama(h:p:=by
 go_wp2;have hlo:=HLO.out;refine bodyPost_ret (v:=Zc #[J x1 m1 n1,J x2 m2 n2,J x3 m3 n3,J x4 m4 n4,J t1 t2 t3,Y7 Y6 c.now,I ⟨#[]⟩,Y7 Y6 0]) NW rfl ⟨⟨x1,m1,n1,x2,m2,n2,x3,m3,n3,x4,m4,n4,t1,t2,t3⟩,⟨lg c t,⟨#[]⟩,0⟩,rfl,HV.out,?_,sb1 (sb1 (sb1 (sb1 (sb1 (sb1 (sb1 (sb1 (ah (show w.heap.size<=w3.heap.size by omega) (HB5.out)))))))))⟩;have hkeep:∀k,w2.heap.size<=k->¬k=w3.heap.size->(((((((((w5.setCell ⟨w3.heap.size,4,U⟩ (J t1 t2 t3)).setCell ⟨w.heap.size+1,0,U⟩ (J x1 m1 n1)).setCell ⟨w.heap.size+1,1,U⟩ (J x2 m2 n2)).setCell ⟨w.heap.size+1,2,U⟩ (J x3 m3 n3)).setCell ⟨w.heap.size+1,3,U⟩ (J x4 m4 n4)).setCell ⟨w.heap.size+1,4,U⟩ (J t1 t2 t3)).setCell ⟨w.heap.size+1,5,U⟩ (Y7 Y6 c.now)).setCell ⟨w.heap.size+1,6,U⟩ (I ⟨#[]⟩)).setCell ⟨w.heap.size+1,7,U⟩ (Y7 Y6 0)).heap[k]?=w5.heap[k]?:=λk h1 h2=>by rw[Ya _ _ _ _ (show k≠w.heap.size+1 by omega),Ya _ _ _ _ (show k≠w.heap.size+1 by omega),Ya _ _ _ _ (show k≠w.heap.size+1 by omega),Ya _ _ _ _ (show k≠w.heap.size+1 by omega),Ya _ _ _ _ (show k≠w.heap.size+1 by omega),Ya _ _ _ _ (show k≠w.heap.size+1 by omega),Ya _ _ _ _ (show k≠w.heap.size+1 by omega),Ya _ _ _ _ (show k≠w.heap.size+1 by omega),Ya _ _ _ _ (show k≠w3.heap.size by omega)]
 refine⟨?_,?_,?_,?_,?_⟩
 ·exact (HO.n.ay (w':=(((((((((w5.setCell ⟨w3.heap.size,4,U⟩ (J t1 t2 t3)).setCell ⟨w.heap.size+1,0,U⟩ (J x1 m1 n1)).setCell ⟨w.heap.size+1,1,U⟩ (J x2 m2 n2)).setCell ⟨w.heap.size+1,2,U⟩ (J x3 m3 n3)).setCell ⟨w.heap.size+1,3,U⟩ (J x4 m4 n4)).setCell ⟨w.heap.size+1,4,U⟩ (J t1 t2 t3)).setCell ⟨w.heap.size+1,5,U⟩ (Y7 Y6 c.now)).setCell ⟨w.heap.size+1,6,U⟩ (I ⟨#[]⟩)).setCell ⟨w.heap.size+1,7,U⟩ (Y7 Y6 0))) (λk hk s=>(hkeep k s af).trans (H35.block k hk)) (λ_ _ s=>s)).rl (λk s=>loq)
 ·exact (HO.k.ay (w':=(((((((((w5.setCell ⟨w3.heap.size,4,U⟩ (J t1 t2 t3)).setCell ⟨w.heap.size+1,0,U⟩ (J x1 m1 n1)).setCell ⟨w.heap.size+1,1,U⟩ (J x2 m2 n2)).setCell ⟨w.heap.size+1,2,U⟩ (J x3 m3 n3)).setCell ⟨w.heap.size+1,3,U⟩ (J x4 m4 n4)).setCell ⟨w.heap.size+1,4,U⟩ (J t1 t2 t3)).setCell ⟨w.heap.size+1,5,U⟩ (Y7 Y6 c.now)).setCell ⟨w.heap.size+1,6,U⟩ (I ⟨#[]⟩)).setCell ⟨w.heap.size+1,7,U⟩ (Y7 Y6 0))) (λk hk s=>(hkeep k s af).trans (H35.block k hk)) (λ_ _ s=>s)).rl (λk s=>loq)
 ·exact (HO.v.ay (w':=(((((((((w5.setCell ⟨w3.heap.size,4,U⟩ (J t1 t2 t3)).setCell ⟨w.heap.size+1,0,U⟩ (J x1 m1 n1)).setCell ⟨w.heap.size+1,1,U⟩ (J x2 m2 n2)).setCell ⟨w.heap.size+1,2,U⟩ (J x3 m3 n3)).setCell ⟨w.heap.size+1,3,U⟩ (J x4 m4 n4)).setCell ⟨w.heap.size+1,4,U⟩ (J t1 t2 t3)).setCell ⟨w.heap.size+1,5,U⟩ (Y7 Y6 c.now)).setCell ⟨w.heap.size+1,6,U⟩ (I ⟨#[]⟩)).setCell ⟨w.heap.size+1,7,U⟩ (Y7 Y6 0))) (λk hk s=>(hkeep k s af).trans (H35.block k hk)) (λ_ _ s=>s)).rl (λk s=>loq)
 ·exact (HO.x.ay (w':=(((((((((w5.setCell ⟨w3.heap.size,4,U⟩ (J t1 t2 t3)).setCell ⟨w.heap.size+1,0,U⟩ (J x1 m1 n1)).setCell ⟨w.heap.size+1,1,U⟩ (J x2 m2 n2)).setCell ⟨w.heap.size+1,2,U⟩ (J x3 m3 n3)).setCell ⟨w.heap.size+1,3,U⟩ (J x4 m4 n4)).setCell ⟨w.heap.size+1,4,U⟩ (J t1 t2 t3)).setCell ⟨w.heap.size+1,5,U⟩ (Y7 Y6 c.now)).setCell ⟨w.heap.size+1,6,U⟩ (I ⟨#[]⟩)).setCell ⟨w.heap.size+1,7,U⟩ (Y7 Y6 0))) (λk hk s=>(hkeep k s af).trans (H35.block k hk)) (λ_ _ s=>s)).rl (λk s=>loq)
 ·exact (HR5.ay (w':=(((((((((w5.setCell ⟨w3.heap.size,4,U⟩ (J t1 t2 t3)).setCell ⟨w.heap.size+1,0,U⟩ (J x1 m1 n1)).setCell ⟨w.heap.size+1,1,U⟩ (J x2 m2 n2)).setCell ⟨w.heap.size+1,2,U⟩ (J x3 m3 n3)).setCell ⟨w.heap.size+1,3,U⟩ (J x4 m4 n4)).setCell ⟨w.heap.size+1,4,U⟩ (J t1 t2 t3)).setCell ⟨w.heap.size+1,5,U⟩ (Y7 Y6 c.now)).setCell ⟨w.heap.size+1,6,U⟩ (I ⟨#[]⟩)).setCell ⟨w.heap.size+1,7,U⟩ (Y7 Y6 0))) (λk hk s=>hkeep k fD fD) (λ_ _ s=>s)).rl (λk s=>loq)):p:=h
theorem Aw(h:p:=by
 rw[Ya _ _ _ _ (show k≠w.heap.size+1 by omega),Ya _ _ _ _ (show k≠w.heap.size+1 by omega),Ya _ _ _ _ (show k≠w.heap.size+1 by omega),Ya _ _ _ _ (show k≠w.heap.size+1 by omega),Ya _ _ _ _ (show k≠w.heap.size+1 by omega),Ya _ _ _ _ (show k≠w.heap.size+1 by omega),Ya _ _ _ _ (show k≠w.heap.size+1 by omega),Ya _ _ _ _ (show k≠w.heap.size+1 by omega)]):p:=h
theorem ahZ(h:p:=by
 have z467z:=@aa _ @abe;exact cG):p:=h
theorem uD(h:p:=by
 rcases hp with ⟨h1,rfl⟩|⟨h1,h2,rfl⟩|⟨h1,h2,rfl⟩
 ·exact Ze ⟨by decide,Ze ⟨0,h1,rfl⟩⟩
 ·exact Ze ⟨by decide,Ze ⟨1,⟨h1,h2⟩,rfl⟩⟩
 ·exact Zd ⟨rfl,h1,h2⟩):p:=h
theorem Ox(h:p:=by
 have h1:vss[i]?=Y5 (vss[i]'(by omega)):=Yi _;have h2:0<(vss[i]'(by omega)).length:=by rw[hV.all i _ h1];decide
 obtain⟨g,e,_,h3⟩:=hcell _ _ (gi hV.all h1 (Yi h2));exact⟨g,e,bG h3⟩):p:=h
theorem ahW(h:p:=by
 exact OQ):p:=h
theorem ahH(h:p:=by
 obtain⟨ns,l1,rfl⟩:=kL agt c.ns r1 a1 b1;obtain⟨ks,l2,rfl⟩:=kL agy c.ks r2 a2 b2;obtain⟨vs,l3,rfl⟩:=kL RP c.vs r3 a3 b3;obtain⟨xs,l4,rfl⟩:=kL RM c.xs r4 a4 b4;obtain⟨ps,l5,rfl⟩:=kL ago c.ps r5 a5 b5;exact⟨⟨ns,ks,vs,xs,ps,c.now⟩,⟨l1,l2,l3,l4,l5,rfl⟩,⟨e1,e2,e3,e4,e5⟩⟩):p:=h
theorem On(h:p:=by
 rcases h with h|⟨_,_,_,_,rfl⟩
 ·exact iZ (λi hi a=>by rcases a.cases with ⟨rfl,_⟩|⟨rfl,_⟩|⟨rfl,_⟩|⟨rfl,_⟩ <;> omega) h h0
 ·exact⟨rfl,rfl⟩):p:=h
theorem ahD(h:p:=by
 clear hc;by_cases h20:12<(len:Int) / 20
 ·go_wp2;go_ret;exact⟨_,rfl,yg ((HB.aiu _).aiu _) ((HX.setCell (Ye _) _).setCell (Ye _) _) HR.out m0 m1 ag ag⟩
 ·go_wp2;go_ret;exact⟨_,rfl,yg (HB.aiu _) (HX.setCell (Ye _) _) HR.out m0 m1 af af⟩):p:=h
theorem Qs(h:p:=by
 rw[YN,Yv,hx,List.set_append_right _ _ af,h1,Nat.sub_self];have h2:ps.drop k=x ::ps.drop (k+1):=by rw[List.drop_eq_getElem_cons hk];rw[(Yc.1 hx).2]
 rw[h2];simp):p:=h
theorem Qg(h:p:=by
 rintro e w1 ⟨t,rfl,ht,hs,hg⟩;have HR:Hid (t.size<=100/\Src B w0 p v len w1/\w.grownBy w1 (Y5 p)):=⟨ht,hs,hg⟩;clear ht hs hg;go_wp2_with fail;go_ret;exact⟨t,rfl,HR.out⟩):p:=h
theorem Qa(h:p:=by
 obtain⟨r0,b1,b2⟩:=back j' r' i' zs' hj' hi' hz';obtain⟨r3,b3,b4⟩:=back j2 r2 i2 zs2 hj2 hi2 hz2;exact h1.inj j' r0 i' zs' j2 r3 i2 zs2 b1 b2 hz' b3 b4 hz2 hH):p:=h
theorem P_(h:p:=by
 rcases h with h|⟨n,_,⟨_,rfl⟩|⟨_,rfl⟩⟩
 ·exact iZ AJ h h0
 ·cases h0
 ·exact⟨by show (c.ns.set _ _).length=_;rw[List.length_set],rfl⟩):p:=h
theorem PX(h:p:=by
 exact iZ (λi hi a=>by rcases a.cases with ⟨rfl,_⟩|⟨rfl,_⟩|⟨rfl,_⟩|⟨rfl,_⟩|⟨rfl,_⟩ <;> omega) h h0):p:=h
theorem akt(h:p:=by
 intro j' r' i' zs' hj' hi' hz;rcases eO h3 hil hj' hi' with ⟨_,_,e⟩|⟨_,q⟩
 ·cases e;exact absurd rfl hz
 ·exact q):p:=h
theorem PG(h:p:=by
 rw[hg2.block w1.heap.size aG (λe=>by simp at e;omega)];show (w1.heap.push _)[w1.heap.size]?=_;simp):p:=h
theorem PE(h:p:=by
 exact bodyPost_ret (v:=Zg #[]) (by simp[results,Tryz.results76,go_sem]) rfl ⟨⟨_,rfl⟩,HO2.out,HK.out⟩):p:=h
theorem PA(h:p:=by
 intro j r hj;rw[Yv] at hj;obtain⟨x,_,rfl⟩:=YB.1 hj;exact h x):p:=h
theorem Pz(h:p:=by
 rw[List.getElem?_append_right bL];simp[Nat.min_eq_left (show k<=ps.length by omega)]):p:=h
theorem OZ(h:p:=by
 rw[hns];exact⟨by rw[List.length_set];exact HO.n.1,HO.n.2.1,HO.n.2.2.1,Zd ⟨g,cur2,H2,rfl,h3⟩⟩):p:=h
theorem OQ(h:p:=by
 exact⟨(HG.1.ay hk4 (λ_ _ s=>s)).rl (λk s=>loq),(HG.2.1.ay hk4 (λ_ _ s=>s)).rl (λk s=>loq),(HG.2.2.1.ay hk4 (λ_ _ s=>s)).rl (λk s=>loq),(HG.2.2.2.1.ay hk4 (λ_ _ s=>s)).rl (λk s=>loq),(HG.2.2.2.2.ay hk4 (λ_ _ s=>s)).rl (λk s=>loq)⟩):p:=h
theorem am7(h:p:=by
 have yf0:=al q3 0;have y1:w8.cell? ⟨w5.heap.size,1,U⟩=Y5 (Y7 Y6 (1+r2)):=an q3 1;have yf1:=al q3 1;have y2:w8.cell? ⟨w5.heap.size,2,U⟩=Y5 (I t3):=an q3 2;have yf2:=al q3 2;have y3:w8.cell? ⟨w5.heap.size,3,U⟩=Y5 (I t4):=an q3 3;have yf3:=al q3 3;have y4:w8.cell? ⟨w5.heap.size,4,U⟩=Y5 (Y9 (!x5)):=an q3 4;have yf4:=al q3 4;have y5:w8.cell? ⟨w5.heap.size,5,U⟩=Y5 (I ⟨#[]⟩):=an q3 5;have yf5:=al q3 5;have y6:w8.cell? ⟨w5.heap.size,6,U⟩=Y5 (Y9 Y_):=an q3 6;have yf6:=al q3 6;have y7:w8.cell? ⟨w5.heap.size,7,U⟩=Y5 (J U 0 0):=an q3 7;have yf7:=al q3 7;have z0:w8.cell? ⟨w.heap.size,0,U⟩=Y5 (I ⟨#[]⟩):=an q2 0;have zf0:=al q2 0;have z1:w8.cell? ⟨w.heap.size,1,U⟩=Y5 (Y7 Y6 0):=an q2 1;have zf1:=al q2 1;have z2:w8.cell? ⟨w.heap.size,2,U⟩=Y5 (I ⟨#[]⟩):=an q2 2;have zf2:=al q2 2;have z3:w8.cell? ⟨w.heap.size,3,U⟩=Y5 (I ⟨#[]⟩):=an q2 3;have zf3:=al q2 3;have z4:w8.cell? ⟨w.heap.size,4,U⟩=Y5 (Y9 Y_):=an q2 4;have zf4:=al q2 4;have z5:w8.cell? ⟨w.heap.size,5,U⟩=Y5 (I ⟨#[]⟩):=an q2 5;have zf5:=al q2 5;have z6:w8.cell? ⟨w.heap.size,6,U⟩=Y5 (Y9 Y_):=an q2 6;have zf6:=al q2 6;have z7:w8.cell? ⟨w.heap.size,7,U⟩=Y5 (J U 0 0):=an q2 7;exact Yb yf0 (Yb y1 (Yb yf1 (Yb y2 (Yb yf2 (Yb y3 (Yb yf3 (Yb y4 (Yb yf4 (Yb y5 (Yb yf5 (Yb y6 (Yb yf6 (Yb y7 (Yb yf7 (Yb z0 (Yb zf0 (Yb z1 (Yb zf1 (Yb z2 (Yb zf2 (Yb z3 (Yb zf3 (Yb z4 (Yb zf4 (Yb z5 (Yb zf5 (Yb z6 (Yb zf6 z7))))))))))))))))))))))))))))):p:=h
theorem am6(h:p:=by
 have q3:=GA7.out;have q2:=GB7.out;have y0:w7.cell? ⟨w4.heap.size,0,U⟩=Y5 (I t1):=an q3 0;have yf0:=al q3 0;have y1:w7.cell? ⟨w4.heap.size,1,U⟩=Y5 (Y7 Y6 (1+r2)):=an q3 1;have yf1:=al q3 1;have y2:w7.cell? ⟨w4.heap.size,2,U⟩=Y5 (I t3):=an q3 2;have yf2:=al q3 2;have y3:w7.cell? ⟨w4.heap.size,3,U⟩=Y5 (Y9 (!x4)):=an q3 3;have yf3:=al q3 3;have y4:w7.cell? ⟨w4.heap.size,4,U⟩=Y5 (I ⟨#[]⟩):=an q3 4;have yf4:=al q3 4;have z742z:=@aa _ @Vt;exact yX):p:=h
theorem alS(h:p:=by
 have fo0:=al Bo5.out 0;have fo1:=al Bo5.out 1;have fo2:=al Bo5.out 2;have fo3:=al Bo5.out 3;have fo4:=al Bo5.out 4;have fo5:=al Bo5.out 5;have fr0:=al Br5.out 0;have fr1:=al Br5.out 1;have fr2:=al Br5.out 2;have fr3:=al Br5.out 3;have fr4:=al Br5.out 4;have fr5:=al Br5.out 5;have fr6:=al Br5.out 6;have fr7:=al Br5.out 7;exact Yb fo0 (Yb fo1 (Yb fo2 (Yb fo3 (Yb fo4 (Yb fo5 (Yb fr0 (Yb fr1 (Yb fr2 (Yb fr3 (Yb fr4 (Yb fr5 (Yb fr6 fr7))))))))))))):p:=h
theorem alN(h:p:=by
 have fr0:=al Br4.out 0;have fr1:=al Br4.out 1;have fr2:=al Br4.out 2;have fr3:=al Br4.out 3;have fr4:=al Br4.out 4;have fr5:=al Br4.out 5;have fr6:=al Br4.out 6;have fr7:=al Br4.out 7;have hol:=ae Bo4.out;have hrl:=ae Br4.out;exact Yb fr0 (Yb fr1 (Yb fr2 (Yb fr3 (Yb fr4 (Yb fr5 (Yb fr6 (Yb fr7 (Yb hol hrl))))))))):p:=h
theorem alM(h:p:=by
 have HT:Hid (aq c):=HOK.2.1;have hj1:j<l1:=by have:=(Yc.1 HNJ.out).1;omega
 have hj2:(j:Int)<l1:=af
 have hj0:¬(j:Int)<0:=af
 exact Yb HT (Yb hj1 (Yb hj2 hj0))):p:=h
theorem alI(h:p:=by
 have Bo5:=aa ((hb5.block w3.heap.size af).trans Bo4.out);have Br5:=aa ((hb5.block (w.heap.size+1) af).trans Br4.out);have H35:=aa (HB34.trans (hb5.mono af));have HB5:=aa (HB.trans (H35.mono af));have hsel:=Sel.erase (xs:=c.ps) (vss:=vss) af (k:=i) af;exact Yb Bo5 (Yb Br5 (Yb H35 (Yb HB5 hsel)))):p:=h
theorem N2(h:p:=by
 have hne:¬w.heap.size+1=w3.heap.size:=af
 have hne2:¬w3.heap.size=w.heap.size+1:=af
 exact Yb hne hne2):p:=h
theorem alD(h:p:=by
 have hq1:w.heap.size+1<w1.heap.size:=HQ1.out;have hq2:w1.heap.size<=w3.heap.size:=HQ2.out;have hgS:=(by obtain⟨⟨cur,H,h1,_⟩,_⟩:=hS;exact⟨h1.inS,ae h1.blk⟩:(w1.heap.size<=g/\g<w3.heap.size)/\g<w3.heap.size);exact Yb hq1 (Yb hq2 hgS)):p:=h
theorem ajW(h:p:=by
 have HD7:=aa (HD6.next hs hg);have GA7:=aa (gk hg af GA6.out);have GB7:=aa (gk hg af GB6.out);exact Yb HD7 (Yb GA7 GB7)):p:=h
theorem vX(h:p:=by
 have HD8:=aa (HD7.next hs hg);have GA8:=aa (gk hg af GA7.out);have GB8:=aa (gk hg af GB7.out);exact Yb HD8 (Yb GA8 GB8)):p:=h
theorem aly(h:p:=by
 go_wp2;exact bodyPost_ret (v:=Zc #[J U 0 0,J U 0 0,J U 0 0,J U 0 0,J U 0 0,Y7 Y6 0,I ⟨#[]⟩,Y7 Y6 p]) NW rfl ⟨ad0,co0 p,rfl,HV.out,(rl0 _ _),sb1 (sb1 (sb1 (sb1 (sb1 (sb1 (sb1 (sb1 (HB.out))))))))⟩):p:=h
theorem alx(h:p:=by
 go_wp2;exact bodyPost_ret (v:=Zc #[J U 0 0,J U 0 0,J U 0 0,J U 0 0,J U 0 0,Y7 Y6 0,I ⟨#[]⟩,Y7 Y6 p]) NV rfl ⟨ad0,co0 p,rfl,HV.out,(rl0 _ _),sb1 (sb1 (sb1 (sb1 (sb1 (sb1 (sb1 (sb1 (HB.out))))))))⟩):p:=h
theorem alw(h:p:=by
 go_wp2;exact bodyPost_ret (v:=Zc #[J U 0 0,J U 0 0,J U 0 0,J U 0 0,J U 0 0,Y7 Y6 0,I ⟨#[]⟩,Y7 Y6 10]) NV rfl ⟨ad0,co0 10,rfl,HV.out,(rl0 _ _),sb1 (sb1 (sb1 (sb1 (sb1 (sb1 (sb1 (sb1 (HB.out))))))))⟩):p:=h
theorem alv(h:p:=by
 go_wp2;exact bodyPost_ret (v:=Zc #[J U 0 0,J U 0 0,J U 0 0,J U 0 0,J U 0 0,Y7 Y6 0,I ⟨#[]⟩,Y7 Y6 p]) NU rfl ⟨ad0,co0 p,rfl,HV.out,(rl0 _ _),sb1 (sb1 (sb1 (sb1 (sb1 (sb1 (sb1 (sb1 (HB.out))))))))⟩):p:=h
theorem alu(h:p:=by
 go_wp2;exact bodyPost_ret (v:=Zc #[J U 0 0,J U 0 0,J U 0 0,J U 0 0,J U 0 0,Y7 Y6 0,I ⟨#[]⟩,Y7 Y6 10]) NU rfl ⟨ad0,co0 10,rfl,HV.out,(rl0 _ _),sb1 (sb1 (sb1 (sb1 (sb1 (sb1 (sb1 (sb1 (HB.out))))))))⟩):p:=h
theorem als(h:p:=by
 go_wp2;exact bodyPost_ret (v:=Zc #[J U 0 0,J U 0 0,J U 0 0,J U 0 0,J U 0 0,Y7 Y6 0,I ⟨#[]⟩,Y7 Y6 1]) NT rfl ⟨ad0,co0 1,rfl,HV.out,(rl0 _ _),sb1 (sb1 (sb1 (sb1 (sb1 (sb1 (sb1 (sb1 (HB.out))))))))⟩):p:=h
theorem ajU(h:p:=by
 go_wp2;exact bodyPost_ret (v:=Zc #[J U 0 0,J U 0 0,J U 0 0,J U 0 0,J U 0 0,Y7 Y6 0,I ⟨#[]⟩,Y7 Y6 8]) NT rfl ⟨ad0,co0 8,rfl,HV.out,(rl0 _ _),sb1 (sb1 (sb1 (sb1 (sb1 (sb1 (sb1 (sb1 (HB.out))))))))⟩):p:=h
theorem afD(h:p:=by
 go_wp2;exact bodyPost_ret (v:=Zc #[J U 0 0,J U 0 0,J U 0 0,J U 0 0,J U 0 0,Y7 Y6 0,I ⟨#[]⟩,Y7 Y6 cc]) (by simp[results,Tryz.results12,go_sem, *]) rfl ⟨ad0,co0 cc,rfl,HV.out,agr _ _,sb1 (sb1 (sb1 (sb1 (sb1 (sb1 (sb1 (sb1 (HB.out))))))))⟩):p:=h
theorem afC(h:p:=by
 go_wp2;exact bodyPost_ret (v:=Zc #[J U 0 0,J U 0 0,J U 0 0,J U 0 0,J U 0 0,Y7 Y6 0,I ⟨#[]⟩,Y7 Y6 cc]) (by simp[results,Tryz.results7,go_sem, *]) rfl ⟨ad0,co0 cc,rfl,HV.out,agr _ _,sb1 (sb1 (sb1 (sb1 (sb1 (sb1 (sb1 (sb1 (HB.out))))))))⟩):p:=h
theorem afs(h:p:=by
 have ltr_3:=ae Br.out;have z557z:=@aa _ @aad;exact e_):p:=h
theorem cH(h:p:=by
 have z516z:=@aa _ @aaL;exact lC):p:=h
theorem ae8(h:p:=by
 refine (jf d c.now c.ns t _ (HR.n.below HB.out)).mono ?_;have z1425z:=@aa _ @H_;exact mN):p:=h
theorem ae0(h:p:=by
 go_wp2;go_ret;exact⟨HB.alloc HB.size _,Zd ⟨HH.out,rfl⟩⟩):p:=h
theorem aeZ(h:p:=by
 have ev:=(HE.below HB.out).v2;have evl:=bG ev;go_wp2;go_ret;exact⟨HB.alloc HB.size _,Ze ⟨2,by decide,⟨by decide,rfl,HH.out⟩,rfl⟩⟩):p:=h
theorem aeY(h:p:=by
 have hv8:vl<=8:=by have h8:v.zs.length=vl:=HV.1;have h9:=(dy (HT.2.1.2.2.1.2.1 _ v HX.out).2.2.2.2.2.2).1;omega
 go_wp2_with fail;refine (AE d c v va vl vc _ (HR.below (HB.trans ((ak _ _).mono HB.size))) HT.out (HV.below (HB.trans ((ak _ _).mono HB.size))) hv8 HZ5.out).mono ?_;rintro e w2 ⟨b,m,rfl,hH,-,-,hb⟩;obtain⟨q,hq,hq0,hq8⟩:=hH.len 3;have HQ:=aa hq0;clear hH hq0;have z735z:=@aa _ @Vv;exact iy):p:=h
theorem aeB(h:p:=by
 clear hown5 hgr5 hb5 hsel hrec hR ht2 hlen5 hik hik1 hmi hd0 hvd hmn;exact ama):p:=h
theorem aeA(h:p:=by
 clear hown5 hgr5 hb5 hsel hrec hR ht2 hlen5 hik hik1 hcap hmn;exact ama):p:=h
theorem zZ(h:p:=by
 have hb5:Below (w3.heap.size+1) w4 w5:=(Yh (w3.heap.size+1) w4).grown hgr5 af (λg hg=>(HO4.lt g hg).1);obtain⟨t1,t2,t3,rfl⟩:=aA hown5;obtain⟨Bo5,Br5,H35,HB5,hsel⟩:=alI;rw[<-HW.out] at hsel;have hrec:=(hsel.ju (HVR.below H35.out)).ay (w':=w5) (S':=λk=>(w2.heap.size<=k/\k<w3.heap.size)\/w3.heap.size+1<=k) (λ_ _ _ _=>rfl) (λk _ s=>Ze s);have z786z:=@aa _ @UY;exact yM):p:=h
theorem adS(h:p:=by
 refine congrArg Y5 (BR (HV.all k _ h1) (bT HV.out hc2 h1 ag (by simpa using c0)) (bT HV.out hc2 h1 ag (by simpa using c1)) (bT HV.out hc2 h1 ag (by simpa using c2)) (bT HV.out hc2 h1 ag (by simpa using c3)) (bT HV.out hc2 h1 ag (by simpa using c4)) (bT HV.out hc2 h1 ag (by simpa using c5)))):p:=h
theorem adM(h:p:=by
 refine⟨⟨cur.setIfInBounds (j*m+i) (J U 0 0),H,⟨av h1.blk _,h1.inS,lr h3 h1.len,λj' r' hj' i' f' hi'=>?_,λj' r' i' zs' j2 r2 i2 zs2 hj' hi' hz' hj2 hi2 hz2 hH=>?_⟩,λj' r' i' zs' hj' hi' hz'=>?_⟩,h2.set h1.inS,h3⟩
 ·rcases eO h3 hil hj' hi' with ⟨rfl,rfl,rfl⟩|⟨hne,r0,q1,q2⟩
  ·exact⟨_,by rw[Array.getElem?_setIfInBounds_self_of_lt hin],⟨U,0,0,rfl,rfl,Ye _,by decide,λj x hx=>by simp at hx,Ze rfl⟩⟩
  ·exact Ot
 ·exact Qa
 ·obtain⟨r0,b1,b2⟩:=back j' r' i' zs' hj' hi' hz';exact hN j' r0 i' zs' b1 b2 hz'):p:=h
theorem zU(h:p:=by
 have hget:=h.get;obtain⟨⟨cur,H,h1,hN⟩,h2,h3⟩:=h;have hil:i<r.length:=(Yc.1 hi).1;have hrm:r.length=m:=h1.len j r hget;obtain⟨v0,hc0,-⟩:=h1.cell j r hget i _ hi;have hin:j*m+i<cur.size:=(Yw.1 hc0).1;have back:∀(j':Nat) r' (i':Nat) zs',(rs.set j (r.set i (.l [])))[j']?=Y5 r'->r'[i']?=Y5 (.l zs')->zs'≠[]->∃r0,(rs.set j r)[j']?=Y5 r0/\r0[i']?=Y5 (.l zs'):=by
  exact akt
 exact z277z):p:=h
theorem adt(h:p:=by
 clear q2 q3 GA8 GB8;go_wp2_with fail;refine bodyPost_ret (v:=Zc #[I t1,Y7 Y6 (1+r2),I t3,I t4,Y9 (!x5),I ⟨#[]⟩,Y9 Y_,J (Y5 ⟨w8.heap.size,0,U⟩) 2 2]) uj rfl ⟨_,_,_,_,_,_,_,Y5 ⟨w8.heap.size,0,U⟩,2,2,[⟨#[110,49]⟩,t8],rfl,ht1,ht3,ht4,ag,?_,Zd ⟨_,rfl,by omega⟩,HDZ.out⟩;refine az.copy (T:=9) HLB.out rfl ag ?_;intro j x hx;match j,hx with
 | 0,hx=>cases hx;decide
 | 1,hx=>cases hx;omega
 | j+2,hx=>simp at hx):p:=h
theorem ads(h:p:=by
 clear q2 q3;go_wp2_with fail;exact bodyPost_ret (v:=Zc #[I t1,Y7 Y6 r8,I t3,I t4,Y9 (!x5),I ⟨#[]⟩,Y9 Y_,J U 0 0]) uj rfl ⟨_,_,_,_,_,_,_,U,0,0,[],rfl,ht1,ht3,ht4,ag,⟨rfl,Ye _,by omega,λj x hx=>by simp at hx,Ze rfl⟩,Ze rfl,(((((((((HD8.set (b:=w5.heap.size) (i:=1) _ (Nat.le_of_lt hA)).set (b:=w.heap.size) (i:=0) _ (Ye _)).set (b:=w.heap.size) (i:=1) _ (Ye _)).set (b:=w.heap.size) (i:=2) _ (Ye _)).set (b:=w.heap.size) (i:=3) _ (Ye _)).set (b:=w.heap.size) (i:=4) _ (Ye _)).set (b:=w.heap.size) (i:=5) _ (Ye _)).set (b:=w.heap.size) (i:=6) _ (Ye _)).set (b:=w.heap.size) (i:=7) _ (Ye _))⟩):p:=h
theorem adr(h:p:=by
 clear q2 q3;go_wp2_with fail;exact bodyPost_ret (v:=Zc #[I t1,Y7 Y6 (1+r2),I t3,I t4,Y9 (!x5),I t8,Y9 Y_,J U 0 0]) uj rfl ⟨_,_,_,_,_,_,_,U,0,0,[],rfl,ht1,ht3,ht4,ht8,⟨rfl,Ye _,by omega,λj x hx=>by simp at hx,Ze rfl⟩,Ze rfl,(((((((((HD8.set (b:=w5.heap.size) (i:=5) _ (Nat.le_of_lt hA)).set (b:=w.heap.size) (i:=0) _ (Ye _)).set (b:=w.heap.size) (i:=1) _ (Ye _)).set (b:=w.heap.size) (i:=2) _ (Ye _)).set (b:=w.heap.size) (i:=3) _ (Ye _)).set (b:=w.heap.size) (i:=4) _ (Ye _)).set (b:=w.heap.size) (i:=5) _ (Ye _)).set (b:=w.heap.size) (i:=6) _ (Ye _)).set (b:=w.heap.size) (i:=7) _ (Ye _))⟩):p:=h
theorem qj(h:p:=by
 have y0:w8.cell? ⟨w5.heap.size,0,U⟩=Y5 (I t1):=an q3 0;obtain⟨yf0,y1,yf1,y2,yf2,y3,yf3,y4,yf4,y5,yf5,y6,yf6,y7,yf7,z0,zf0,z1,zf1,z2,zf2,z3,zf3,z4,zf4,z5,zf5,z6,zf6,z7⟩:=am7;have zf7:=al q2 7;exact z302z):p:=h
theorem adf(h:p:=by
 refine bodyPost_ret (v:=Zg #[Y7 Y6 k,Y9 (x.n.toList==t.toList)]) (by simp[results,Tryz.results118,go_sem]) rfl ⟨?_,HB3.out⟩;unfold hit;rw[hp,HX.out]):p:=h
theorem ac7(h:p:=by
 exact bodyPost_ret (v:=Zc #[I t1,Y7 Y6 (1+r2),I t3,Y9 (!x4),I t7]) Af rfl ⟨_,_,_,_,_,rfl,ht1,ht3,ht7,((((((HD7.set (b:=w4.heap.size) (i:=4) _ (Nat.le_of_lt hA)).set (b:=w.heap.size) (i:=0) _ (Ye _)).set (b:=w.heap.size) (i:=1) _ (Ye _)).set (b:=w.heap.size) (i:=2) _ (Ye _)).set (b:=w.heap.size) (i:=3) _ (Ye _)).set (b:=w.heap.size) (i:=4) _ (Ye _))⟩):p:=h
theorem ac6(h:p:=by
 exact bodyPost_ret (v:=Zc #[I t1,Y7 Y6 r7,I t3,Y9 (!x4),I ⟨#[]⟩]) Af rfl ⟨_,_,_,_,_,rfl,ht1,ht3,ag,((((((HD7.set (b:=w4.heap.size) (i:=1) _ (Nat.le_of_lt hA)).set (b:=w.heap.size) (i:=0) _ (Ye _)).set (b:=w.heap.size) (i:=1) _ (Ye _)).set (b:=w.heap.size) (i:=2) _ (Ye _)).set (b:=w.heap.size) (i:=3) _ (Ye _)).set (b:=w.heap.size) (i:=4) _ (Ye _))⟩):p:=h
theorem ac5(h:p:=by
 exact bodyPost_ret (v:=Zc #[I t1,Y7 Y6 (1+r2),I t7,Y9 (!x4),I ⟨#[]⟩]) Af rfl ⟨_,_,_,_,_,rfl,ht1,ht7,ag,((((((HD7.set (b:=w4.heap.size) (i:=2) _ (Nat.le_of_lt hA)).set (b:=w.heap.size) (i:=0) _ (Ye _)).set (b:=w.heap.size) (i:=1) _ (Ye _)).set (b:=w.heap.size) (i:=2) _ (Ye _)).set (b:=w.heap.size) (i:=3) _ (Ye _)).set (b:=w.heap.size) (i:=4) _ (Ye _))⟩):p:=h
theorem qe(h:p:=by
 obtain⟨HD7,GA7,GB7⟩:=ajW;clear hs hg GA6 GB6 HD6;obtain⟨q3,q2,y0,yf0,y1,yf1,y2,yf2,y3,yf3,y4,yf4,z0,zf0,z1,zf1,z2,zf2,z3,zf3,z4,zf4⟩:=am6;clear q2 q3;go_wp2_with fail;exact z330z):p:=h
theorem acP(h:p:=by
 exact⟨1+r,rfl,by omega,by omega,HS2.out,HG2.out⟩):p:=h
theorem acO(h:p:=by
 exact⟨50*r,rfl,by omega,by omega,HS2.out,HG2.out⟩):p:=h
theorem zL(h:p:=by
 go_wp2_with fail;refine (HS1.n 90 ag).mono ?_;rintro e w2 ⟨r,rfl,r0,r1,hS2,hg2⟩;have HS2:Hid (Src B w0 p v len w2):=hS2;have HG2:Hid (w.grownBy w2 (Y5 p)):=bV HG1.out hg2;have hr:r<=90:=af
 clear hS2 hg2 HS1 HG1 r1;go_wp2;go_ret;exact z355z):p:=h
theorem acB(h:p:=by
 have hH:∀j' i',¬(j'=j/\i'=i)->(if j'=j/\i'=i then b else H j' i')=H j' i':=λj' i' hn=>if_neg hn;refine⟨⟨cur.setIfInBounds (j*m+i) (J (Y5 ⟨b,0,U⟩) len cap),λj' i'=>if j'=j/\i'=i then b else H j' i',⟨av h1.blk _,h1.inS,lr h3 h1.len,λj' r' hj' i' f' hi'=>?_,λj' r' i' zs' j2 r2 i2 zs2 hj' hi' hz' hj2 hi2 hz2 hHH=>?_⟩,λj' r' i' zs' hj' hi' hz'=>?_⟩,h2.set h1.inS,h3⟩
 ·rcases eO h3 hil hj' hi' with ⟨rfl,rfl,rfl⟩|⟨hne,r0,q1,q2⟩
  ·refine⟨_,by rw[Array.getElem?_setIfInBounds_self_of_lt hin],?_⟩;rw[if_pos ⟨rfl,rfl⟩];exact Fv.Own.jm (u:=.l zs) hv
  ·obtain⟨v',k1,k2⟩:=h1.cell j' r0 q1 i' f' q2;have hil':i'<r0.length:=(Yc.1 q2).1;have hrm':=h1.len j' r0 q1;refine⟨v',?_,?_⟩
   ·exact O8
   ·rw[if_neg hne];exact k2.jm
 ·try simp only[] at hHH
  rcases eO h3 hil hj' hi' with ⟨rfl,rfl,e1⟩|⟨hne,r0,q1,q2⟩
  ·rcases eO h3 hil hj2 hi2 with ⟨rfl,rfl,e2⟩|⟨hne2,r3,q3,q4⟩
   ·exact⟨rfl,rfl⟩
   ·rw[if_pos ⟨rfl,rfl⟩,if_neg hne2] at hHH;cases e1;exact absurd (hHH ▸ hb hz') (hN _ _ _ _ q3 q4 hz2)
  ·rcases eO h3 hil hj2 hi2 with ⟨rfl,rfl,e2⟩|⟨hne2,r3,q3,q4⟩
   ·rw[if_neg hne,if_pos ⟨rfl,rfl⟩] at hHH;cases e2;exact absurd (hHH ▸ hb hz2) (hN _ _ _ _ q1 q2 hz')
   ·rw[if_neg hne,if_neg hne2] at hHH;exact h1.inj _ _ _ _ _ _ _ _ q1 q2 hz' q3 q4 hz2 hHH
 ·try simp only[]
  rcases eO h3 hil hj' hi' with ⟨rfl,rfl,e1⟩|⟨hne,r0,q1,q2⟩
  ·rw[if_pos ⟨rfl,rfl⟩];exact λq=>q.2 rfl
  ·rw[if_neg hne];exact λq=>hN _ _ _ _ q1 q2 hz' q.1):p:=h
theorem acA(h:p:=by
 have hki:(k:Int)<8:=af
 clear hS0 hS2 hg2 hblk hx HS1 HG1 r1 r0;go_wp2;go_ret;exact⟨x,rfl,x0,x1,HS2.out,HG.out⟩):p:=h
theorem acz(h:p:=by
 have hki:(k:Int)<5:=af
 clear hS0 hS2 hg2 hblk hx HS1 HG1 r1 r0;go_wp2;go_ret;exact⟨x,rfl,x0,x1,HS2.out,HG.out⟩):p:=h
theorem zJ(h:p:=by
 have hc:w2.cell? ⟨w1.heap.size,k,U⟩=Y5 (Y7 Y6 x):=by
  simp only[World.cell?,hblk];simpa using hx
 have HS2:Hid (Src B w0 p v len w2):=hS2;have HG:Hid (w.grownBy w2 (Y5 p)):=bV HG1.out (bV (cj w1 _ _) hg2);exact z374z):p:=h
theorem aco(h:p:=by
 have d4:=ck4 g1;have f4:=al g1 4;have d5:=ck5 g1;have f5:=al g1 5;have HB:=aa hb1;have hs1:=hb.size;rw[show (w.alloc (Y8 #[I ⟨#[]⟩,Y7 Y6 0,I ⟨#[]⟩,J U 0 0,I ⟨#[]⟩,Y7 Y6 0] 40)).heap.size=w.heap.size+1 from by simp] at hs1;have hlt1:w.heap.size<w1.heap.size:=af
 clear hb g1 HR1 hs1;cases hh:hit Pd.n xs t
 ·generalize pl Pd.n xs t=j;have HH:=aa hh;clear hh hb1 HR hxl;go_wp2;refine bodyPost_ret (v:=Zg #[Zc #[I ⟨#[]⟩,Y7 Y6 0,I ⟨#[]⟩,J U 0 0,I ⟨#[]⟩,Y7 Y6 0],Y9 Y_]) (by simp[results,Tryz.results73,go_sem, *]) rfl ⟨?_,Zd ⟨HH.out,rfl⟩⟩;exact Below.alloc (ah (Ye _) (ah (Ye _) (ah (Ye _) (ah (Ye _) (ah (Ye _) (ah (Ye _) (HB.out))))))) iK _
 ·obtain⟨x,hx,hn⟩:=cf hh;have hj:pl Pd.n xs t<len:=by have:=(Yc.1 hx).1;omega
  obtain⟨b,o,y,rfl,hbl,hy,hat⟩:=cg HR.out hj;rw[hx] at hy;obtain rfl:=Yd hy;have z1042z:=@aa _ @M4;exact cK):p:=h
theorem ab9(h:p:=by
 rcases s with s|s
 ·exact⟨s.1.1,by show (if w2.heap.size+1<=k then 3 else P k)=3;rw[if_neg af];exact s.1.2⟩
 ·exact⟨by show B<=k;omega,if_pos s⟩):p:=h
theorem ab8(h:p:=by
 rcases s with s|s
 ·exact⟨s.1.1,by show (if w2.heap.size+1<=k then 5 else P k)=5;rw[if_neg af];exact s.1.2⟩
 ·exact⟨by show B<=k;omega,if_pos s⟩):p:=h
theorem abC(h:p:=by
 have HB:=aa (Yh w.heap.size w);go_enter Tryz.func13,Tryz.ntmps13;have z820z:=@aa _ @Uw;exact iw):p:=h
theorem abB(h:p:=by
 have HB:=aa (Yh w.heap.size w);go_enter Tryz.func88,Tryz.ntmps88;have z1685z:=@aa _ @DS;exact mr):p:=h
theorem abA(h:p:=by
 have HB:=aa (Yh w.heap.size w);go_enter Tryz.func89,Tryz.ntmps89;have z1685z:=@aa _ @DR;exact mr):p:=h
theorem abk(h:p:=by
 have z1412z:=@aa _ @Il;exact mO):p:=h
theorem abj(h:p:=by
 refine (gN E i cc hcc _ (HE.below HB.out) hi8).mono ?_;rintro e w2 ⟨rfl,hb⟩;have z856z:=@aa _ @TX;exact fS):p:=h
theorem abi(h:p:=by
 have z1412z:=@aa _ @Ik;exact mO):p:=h
theorem abh(h:p:=by
 refine (gN E i cc hcc _ (HE.below HB.out) hi8).mono ?_;rintro e w2 ⟨rfl,hb⟩;have z856z:=@aa _ @TU;exact fS):p:=h
theorem abg(h:p:=by
 refine (lN n 0 1000 _).mono ?_;rintro e w2 ⟨r,rfl,hr,rfl⟩;cases r
 ·have hin:¬Inn n 0 1000:=λh=>(by have:=hr.2 h;cases this);clear hr;clear k0 k1 k2 k3 k4 k5 ltk_1;have HV:Hid (gC c n (co0 8)):=Zd (Ze ⟨HT.out,λh=>hin h.1,rfl⟩);exact ahZ
 have hin:Inn n 0 1000:=hr.1 bM;clear hr;obtain⟨hi0,hi1⟩:=hin;by_cases hlate:1000000<c.now+n
 ·clear k0 k1 k2 k3 k4 k5 ltk_1;have HV:Hid (gC c n (co0 8)):=Zd (Ze ⟨HT.out,λh=>(by have:=h.2;omega),rfl⟩);exact ahZ
 clear k0 k1 k2 k3 k4 k5 ltk_1;have HV:Hid (gC c n ⟨later c n,⟨#[]⟩,0⟩):=Zd (Zd ⟨HT.out,⟨⟨hi0,hi1⟩,by omega⟩,rfl⟩);have HS:=aa HT.sm;have HQ1:Hid (w.heap.size+1<w1.heap.size):=ae Br.out;have z846z:=@aa _ @T4;exact eA):p:=h
theorem abf(h:p:=by
 refine (aJ 1 _).mono ?_;have z1z:=@aa _ @als;exact ff):p:=h
theorem abe(h:p:=by
 refine (aJ 8 _).mono ?_;have z1z:=@aa _ @ajU;exact ff):p:=h
theorem aa4(h:p:=by
 go_wp2;exact bodyPost_ret (v:=Zg #[Y7 Y6 0,Y7 Y6 p]) NO rfl ⟨HB.out,Ze ⟨i,p,HP.1,HP.2.1,HP.2.2,rfl⟩⟩):p:=h
theorem aaL(h:p:=by
 exact z154z):p:=h
theorem aad(h:p:=by
 exact bodyPost_ret (v:=Zc #[J U 0 0,J U 0 0,J U 0 0,J U 0 0,J U 0 0,Y7 Y6 0,I ⟨#[]⟩,Y7 Y6 6]) NW rfl ⟨ad0,co0 6,rfl,HV.out,(rl0 _ _),sb1 (sb1 (sb1 (sb1 (sb1 (sb1 (sb1 (sb1 (HB.out))))))))⟩):p:=h
theorem e_(h:p:=by
 have z1741z:=@aa _ @C7;exact mj):p:=h
theorem W0(h:p:=by
 rcases hf with ⟨hh,x,va,vl,vc,hx,hn,rfl,z0,z2,z4,hvr⟩|⟨hh,rfl⟩
 ·have HH:=aa hh;clear hh hx hn z0 z2 z4 hvr;have z182z:=@aa _ @ae0;exact fc
 ·have HH:=aa hh;clear hh;have z182z:=@aa _ @aeZ;exact fc):p:=h
theorem WZ(h:p:=by
 rcases hf with ⟨hh,v,va,vl,vc,hx,hn,rfl,z0,z2,z3,z5,hvr⟩|⟨hh,rfl⟩;rotate_left
 ·exact QG
 have HH:=aa hh;have HX:=aa hx;have HN:=aa hn;have HV:=aa hvr;have HZ5:=aa z5;clear hh hx hn hvr z0 z2 z3 z5;have z182z:=@aa _ @aeY;exact fc):p:=h
theorem WU(h:p:=by
 replace c5:=(ai HB.out hb).trans c5;clear hat hx hvk hvr z0 z2 z4;have hn8:=rk Pd.n t (xs.take k);have hn9:(wo Pd.n t (xs.take k)).length<=k:=by rw[YF] at hn8;omega
 go_wp2_with fail;refine (gw x va vl vc _).mono ?_;rintro e w1 ⟨rfl,hb1⟩;obtain⟨hn1,hbx⟩:=aV hb1;obtain⟨n0,n1,n2,n3,n4,n5⟩:=cs6 hn1;have z1174z:=@aa _ @Lz;exact mX):p:=h
theorem VN(h:p:=by
 have z1171z:=@aa _ @LC;exact tB):p:=h
theorem Vv(h:p:=by
 have Bv:=aa HA0;replace HB:=upB HB hbx;clear hb hbx HA0;by_cases hz:q=0
 ·have HK:Hid (yb c t):=⟨HH.out,λj x hj hn=>by
   obtain⟨-,rfl⟩:=HT.2.1.2.2.1.2.2.inj hj HX.out (hn.trans HN.symm)
   exact (ye c x).1 (HQ.1 hz)⟩
  subst hz;go_wp2;go_ret;exact⟨HB.out,Zd ⟨HK.out,rfl⟩⟩
 ·have HK:Hid (x_ c t 5):=Zd ⟨rfl,HH.out,_,v,HX.out,HN.out,YH λh=>hz (HQ.2 ((ye c v).2 h))⟩;exact Qb):p:=h
theorem Vu(h:p:=by
 have z3:w7.cell? ⟨w.heap.size,3,U⟩=Y5 (I ⟨#[]⟩):=an q2 3;have zf3:=al q2 3;have z4:w7.cell? ⟨w.heap.size,4,U⟩=Y5 (Y9 Y_):=an q2 4;have zf4:=al q2 4;have z5:w7.cell? ⟨w.heap.size,5,U⟩=Y5 (I ⟨#[]⟩):=an q2 5;have zf5:=al q2 5;have z6:w7.cell? ⟨w.heap.size,6,U⟩=Y5 (Y9 Y_):=an q2 6;have zf6:=al q2 6;have z7:w7.cell? ⟨w.heap.size,7,U⟩=Y5 (J U 0 0):=an q2 7;have zf7:=al q2 7;clear q2 q3;go_wp2_with fail;exact bodyPost_ret (v:=Zc #[I t1,Y7 Y6 (1+r2),I t3,I t4,Y9 (!x5),I ⟨#[]⟩,Y9 Zb,J U 0 0]) uj rfl ⟨_,_,_,_,_,_,_,U,0,0,[],rfl,ht1,ht3,ht4,ag,⟨rfl,Ye _,by omega,λj x hx=>by simp at hx,Ze rfl⟩,Ze rfl,(((((((((HD7.set (b:=w5.heap.size) (i:=6) _ (Nat.le_of_lt hA)).set (b:=w.heap.size) (i:=0) _ (Ye _)).set (b:=w.heap.size) (i:=1) _ (Ye _)).set (b:=w.heap.size) (i:=2) _ (Ye _)).set (b:=w.heap.size) (i:=3) _ (Ye _)).set (b:=w.heap.size) (i:=4) _ (Ye _)).set (b:=w.heap.size) (i:=5) _ (Ye _)).set (b:=w.heap.size) (i:=6) _ (Ye _)).set (b:=w.heap.size) (i:=7) _ (Ye _))⟩):p:=h
theorem Vt(h:p:=by
 have z3:w7.cell? ⟨w.heap.size,3,U⟩=Y5 (Y9 Y_):=an q2 3;have zf3:=al q2 3;have z4:w7.cell? ⟨w.heap.size,4,U⟩=Y5 (I ⟨#[]⟩):=an q2 4;have zf4:=al q2 4;exact Yb q3 (Yb q2 (Yb y0 (Yb yf0 (Yb y1 (Yb yf1 (Yb y2 (Yb yf2 (Yb y3 (Yb yf3 (Yb y4 (Yb yf4 (Yb z0 (Yb zf0 (Yb z1 (Yb zf1 (Yb z2 (Yb zf2 (Yb z3 (Yb zf3 (Yb z4 zf4))))))))))))))))))))):p:=h
theorem yX(h:p:=by
 have z0:w7.cell? ⟨w.heap.size,0,U⟩=Y5 (I ⟨#[]⟩):=an q2 0;have zf0:=al q2 0;have z1:w7.cell? ⟨w.heap.size,1,U⟩=Y5 (Y7 Y6 0):=an q2 1;have zf1:=al q2 1;have z2:w7.cell? ⟨w.heap.size,2,U⟩=Y5 (I ⟨#[]⟩):=an q2 2;have zf2:=al q2 2;exact z742z):p:=h
theorem Vh(h:p:=by
 refine (HD1.src.n 12 ag).mono ?_;have z1091z:=@aa _ @Mz;exact ng):p:=h
theorem Vg(h:p:=by
 refine (HD1.src.n 6 ag).mono ?_;have z1091z:=@aa _ @My;exact ng):p:=h
theorem yR(h:p:=by
 have z1441z:=@aa _ @Hr;exact sK):p:=h
theorem UY(h:p:=by
 have HT2:=aa ht2;have HR5:=aa hR;have hs5:=hb5.size;have z1168z:=@aa _ @LG;exact tC):p:=h
theorem yM(h:p:=by
 obtain⟨q1,q2,hq,hR⟩:=hrec.own hown5 aG ag (λg hg=>Zd (hown5.lt g hg).1);rw[Yo] at hq hR;simp only[Value.slice.injEq] at hq;obtain⟨rfl,ht2,rfl⟩:=hq;rw[<-ht2] at hR;exact z786z):p:=h
theorem UN(h:p:=by
 rintro _ ⟨q1,rfl⟩;go_wp2;exact⟨⟨k+1,by omega,by go_num,HR2.below q1.b,HK2.below q1.b⟩,by simp[intOf];omega⟩):p:=h
theorem UH(h:p:=by
 rcases he with rfl|rfl
 ·go_wp2_with fail;have hS0:=HS1.ay (cj w1 (Y8 (Cb.map (Value.int Y6)).toArray 2) U) aG (λk hk=>by cases hk);refine (hS0.n 8 ag).mono ?_;rintro e w2 ⟨r,rfl,r0,r1,hS2,hg2⟩;obtain⟨k,rfl⟩:=Int.eq_ofNat_of_zero_le r0;have hk:k<8:=af
  obtain⟨x,hx,x0,x1⟩:=ints_at Cb ag k hk;have hpw:p<w1.heap.size:=HS1.uM;have hblk:w2.heap[w1.heap.size]?=Y5 (Y8 (Cb.map (Value.int Y6)).toArray 2 (0,0)):=by
   exact PG
  have z374z:=@aa _ @acA;exact zJ
 ·have z355z:=@aa _ @acP;exact zL):p:=h
theorem UG(h:p:=by
 rcases he with rfl|rfl
 ·go_wp2_with fail;have hS0:=HS1.ay (cj w1 (Y8 (akV.map (Value.int Y6)).toArray 2) U) aG (λk hk=>by cases hk);refine (hS0.n 5 ag).mono ?_;rintro e w2 ⟨r,rfl,r0,r1,hS2,hg2⟩;obtain⟨k,rfl⟩:=Int.eq_ofNat_of_zero_le r0;have hk:k<5:=af
  obtain⟨x,hx,x0,x1⟩:=ints_at akV ag k hk;have hpw:p<w1.heap.size:=HS1.uM;have hblk:w2.heap[w1.heap.size]?=Y5 (Y8 (akV.map (Value.int Y6)).toArray 2 (0,0)):=by
   exact PG
  have z374z:=@aa _ @acz;exact zJ
 ·have z355z:=@aa _ @acO;exact zL):p:=h
theorem yJ(h:p:=by
 go_wp2_with fail;refine H1.mono ?_;rintro e w1 ⟨he,hS1,hg1⟩;have HS1:Hid (Src B w0 p v len w1):=hS1;have HG1:Hid (w.grownBy w1 (Y5 p)):=hg1;clear hS1 hg1 H1;exact z805z):p:=h
theorem Uw(h:p:=by
 have hp0:(¬p=0/\bl c t (co0 p))\/(p=0/\¬8000<t.size/\aq c):=by
  exact uD
 clear hp;rcases hp0 with ⟨hp0,hV⟩|⟨rfl,hl,hT⟩
 ·have z1674z:=@aa _ @D0;exact jD
 have HT:=aa hT;clear hT;obtain⟨k0,k1,k2,k3,k4,k5⟩:=cs6 Bk;have ltk_1:=ae Bk.out;go_wp2_with fail;refine (gL ⟨a1,l1,y1,a2,l2,y2,a3,l3,y3,a4,l4,y4,a5,l5,y5⟩ c.now c.ps t _ (HR.p.below HB.out)).mono ?_;rintro e w2 ⟨hb,hf⟩;clear k0 k1 k2 k3 k4 k5 ltk_1;have z1444z:=@aa _ @Hn;exact ba):p:=h
theorem iw(h:p:=by
 go_wp2_with fail;refine (me ⟨a1,l1,y1,a2,l2,y2,a3,l3,y3,a4,l4,y4,a5,l5,y5⟩ c t _ (HR.below (HB.trans ((aS _ _ _).mono HB.size)))).mono ?_;rintro e w1 ⟨p,rfl,hp,hb⟩;have z1280z:=@aa _ @JY;exact gU):p:=h
theorem Uq(h:p:=by
 have hf5:=hS.ob (j*7+5);have HST:=aa hS;have HO:=aa ho;have hne:¬g=w3.heap.size:=af
 have hne2:¬w3.heap.size=g:=af
 clear hS ho hga;have z1194z:=@aa _ @Lg;exact bD):p:=h
theorem Up(h:p:=by
 obtain⟨v6,hv6⟩:=hS.cell (i:=6) rfl;obtain⟨v4,hv4⟩:=hS.cell (i:=4) rfl;have hf5:=hS.ob (j*7+5);have hf6:=hS.ob (j*7+6);have hf4:=hS.ob (j*7+4);have z1718z:=@aa _ @Dp;exact rW):p:=h
theorem yE(h:p:=by
 rw[hd] at hd5;clear hd;have HQ1:Hid (w.heap.size+1<w1.heap.size):=ae Br.out;have z1220z:=@aa _ @KP;exact fA):p:=h
theorem T4(h:p:=by
 have HLO:=aa HB.size;refine (cE d c _ (HR.below HB.out) HS.out).mono ?_;rintro e w3 ⟨d',rfl,ho,hb⟩;have HQ2:=aa hb.size;clear k0 k1 k2 k3 k4 k5 ltk_1;have z1444z:=@aa _ @Hm;exact ba):p:=h
theorem TY(h:p:=by
 have z1654z:=@aa _ @Ee;exact r_):p:=h
theorem TX(h:p:=by
 clear hcc;have z140z:=@aa _ @afD;exact lL):p:=h
theorem TW(h:p:=by
 have z1654z:=@aa _ @Ed;exact r_):p:=h
theorem TU(h:p:=by
 clear hcc;have z140z:=@aa _ @afC;exact lL):p:=h
theorem TF(h:p:=by
 go_wp2;exact bodyPost_ret (v:=Zg #[Y7 Y6 0,Y7 Y6 6]) NO rfl ⟨HB.out,Ze ⟨2,6,⟨hl,HT.out,f_ HN.out⟩,rfl,by decide,rfl⟩⟩):p:=h
theorem TE(h:p:=by
 go_wp2;exact bodyPost_ret (v:=Zg #[Y7 Y6 j,Y7 Y6 0]) NO rfl ⟨HB.out,Zd ⟨j,n,HN.1,⟨hl,HT.out,by rw[(bo HT.2.1.1.2.2 HN.1 HN.2).1];exact HN.1,HN.2⟩,rfl⟩⟩):p:=h
theorem Tz(h:p:=by
 rcases hf with ⟨i,hi8,hwhy,rfl⟩|⟨⟨hl,hT,hok⟩,rfl⟩
 ·have HV:Hid (bl c t (co0 (bB i))):=Ze ⟨i,hwhy,rfl⟩;clear hwhy;obtain⟨cc,hcc⟩:∃cc,cc=bB i:=⟨_,rfl⟩;rw[<-hcc] at HV;have z467z:=@aa _ @abj;exact cG
 have HQ1:Hid (w.heap.size+1<w1.heap.size):=ae Br.out;have HV:Hid (bl c t ⟨lg c t,⟨#[]⟩,0⟩):=Zd ⟨hl,hT,hok,rfl⟩;have HS:=aa hT.sm;clear hT hok;have z467z:=@aa _ @abk;exact cG):p:=h
theorem Ty(h:p:=by
 rcases hf with ⟨i,hi8,hwhy,rfl⟩|⟨⟨hl,hT,hok⟩,rfl⟩
 ·have HV:Hid (aZ c t (co0 (bB i))):=Ze ⟨i,hwhy,rfl⟩;clear hwhy;obtain⟨cc,hcc⟩:∃cc,cc=bB i:=⟨_,rfl⟩;rw[<-hcc] at HV;have z467z:=@aa _ @abh;exact cG
 have HQ1:Hid (w.heap.size+1<w1.heap.size):=ae Br.out;have HV:Hid (aZ c t ⟨iO c t,⟨#[]⟩,0⟩):=Zd ⟨hl,hT,hok,rfl⟩;have HS:=aa hT.sm;clear hT hok;have z467z:=@aa _ @abi;exact cG):p:=h
theorem Tx(h:p:=by
 have HI:=aa hi;clear hi;cases r
 ·have HV:Hid (gC c n (co0 1)):=Ze ⟨λh=>(by have:=HI.2 h;cases this),rfl⟩;have z467z:=@aa _ @abf;exact cG
 have HT:=aa (HI.1 bM);clear HI;have hnow:=HT.1;obtain⟨hn0,hn1⟩:=hnow;have z467z:=@aa _ @abg;exact cG):p:=h
theorem R9(h:p:=by
 obtain⟨i0,hi,hz0,hz1,hz2⟩:=info_parts nM;have HI0:=aa (Yb hi (Yb hz0 (Yb hz1 hz2)));clear hi hz0 hz1 hz2;have z1368z:=@aa _ @IT;exact mS):p:=h
theorem M5(h:p:=by
 have HX:=aa hx;clear hat hx z0 z2 z4 hvr;have HC:=aa (λv:World=>gw x va vl vc v);have HB1:=aa (HB.alloc HB.size (Y8 (pov x va vl vc) 40));have z716z:=@aa _ @VN;exact jz):p:=h
theorem M4(h:p:=by
 obtain⟨hbw,e0,e1,e2,e3⟩:=uy;obtain⟨e4,e5⟩:=N0;have HI:Hid (aic xs t r w (Za (Zg #[Zc #[I x.n,Y7 Y6 x.c,I x.z,J va vl vc,I x.d,Y7 Y6 x.p],Y9 Zb])) w):=⟨Yh _ _,Ze ⟨hh,x,va,vl,vc,hx,hn,rfl,z0,z2,z4,hvr⟩⟩;clear c0 c1 c2 c3 c4 c5 hat hx hn hy hh z0 z2 z4 hvr HR HRW hb1;obtain⟨j,hjj⟩:∃j,pl Pd.n xs t=j:=⟨_,rfl⟩;rw[hjj] at hj;simp only[hjj] at*;clear hjj;go_wp2;refine bodyPost_ret (v:=Zg #[Zc #[I x.n,Y7 Y6 x.c,I x.z,J va vl vc,I x.d,Y7 Y6 x.p],Y9 Zb]) (by simp[results,Tryz.results73,go_sem, *]) rfl ⟨?_,HI.2⟩;exact ah (Ye _) (ah (Ye _) (ah (Ye _) (ah (Ye _) (ah (Ye _) (ah (Ye _) (HB.out))))))):p:=h
theorem MJ(h:p:=by
 have hp0:(¬p=0/\∃i,iF c t i/\p=bB i)\/(p=0/\¬8000<t.size/\aq c):=by
  exact Qc
 clear hp;rcases hp0 with ⟨hp0,i,hw,hpi⟩|⟨rfl,hl,hT⟩
 ·have HP:=aa (Yb hw (Yb hpi hp0));have hp1:(p==0)=Y_:=kR
  clear hw hpi hp0;have z483z:=@aa _ @aa4;exact cQ
 have HT:=aa hT;clear hT;have z170z:=@aa _ @ae8;exact fW):p:=h
theorem MA(h:p:=by
 have rc2:r2<=20:=af
 clear rb2;go_wp2_with fail;refine (rf HD2.src).mono ?_;have z1438z:=@aa _ @Hu;exact sL):p:=h
theorem Mz(h:p:=by
 have rc2:r2<=12:=af
 clear rb2;go_wp2_with fail;refine (bZ HD2.src [⟨#[102,97,115,116]⟩,⟨#[115,108,111,119]⟩,⟨#[115,108,111,119]⟩] 3 _ _ aG rfl ag ag ag).mono ?_;have z1438z:=@aa _ @Ht;exact sL):p:=h
theorem My(h:p:=by
 have rc2:r2<=6:=af
 clear rb2;have HP3:Hid (PSt B w0 p v len w w2.heap.size 3 (w2.alloc (Y8 #[I t1,Y7 Y6 (250*r2),I ⟨#[]⟩,J U 0 0,I ⟨#[]⟩,Y7 Y6 0] 40))):=⟨t1,250*r2,⟨#[]⟩,J U 0 0,[],⟨#[]⟩,0,Yg,⟨ht1,by decide,by decide⟩,by simp,λj x hx=>by simp at hx,⟨rfl,Ze ⟨rfl,rfl⟩⟩,HD2.alloc _,(Yl _ _ _ (ae G2.out)).trans G2.out,ae G2.out⟩;clear HD2 G2;go_wp2_with fail;generalize (w2.alloc (Y8 #[I t1,Y7 Y6 (250*r2),I ⟨#[]⟩,J U 0 0,I ⟨#[]⟩,Y7 Y6 0] 40))=W2 at*;generalize w2.heap.size=b at*;refine (cS HP3.src 3 ag).mono ?_;rintro e w3 ⟨he,hs,hg⟩;obtain⟨x12,rfl⟩:=eI he;have HP4:=aa (HP3.next hs hg);clear hs hg he HP3 ra2 rc2 ht1;go_upto_if 12 with fail;go_cut [3] from 13 to 15 (λs wx=>s=Zf (Y5 ⟨b,0,U⟩)/\PSt B w0 p v len w b 3 wx);case first=>
  cases x12 with
  | false=>
   go_wp2_with fail
   go_meet
   exact⟨rfl,HP4.out⟩
  | true=>
   go_wp2_with fail;refine (rf HP4.src).mono ?_;rintro e w4 ⟨t,rfl,ht,hs,hg⟩;have HP5:=aa (HP4.next hs hg);have HP6:=aa (HP5.set.2.1 t ht);obtain⟨n,c,z,lv,zs,d,ph,q,-⟩:=HP5.out;have y0:w4.cell? ⟨b,0,U⟩=Y5 (I n):=an q 0;have yf0:=al q 0;have y1:w4.cell? ⟨b,1,U⟩=Y5 (Y7 Y6 c):=an q 1;have yf1:=al q 1;have y2:w4.cell? ⟨b,2,U⟩=Y5 (I z):=an q 2;have yf2:=al q 2;have y3:w4.cell? ⟨b,3,U⟩=Y5 (lv):=an q 3;have yf3:=al q 3;have y4:w4.cell? ⟨b,4,U⟩=Y5 (I d):=an q 4;have yf4:=al q 4;have y5:w4.cell? ⟨b,5,U⟩=Y5 (Y7 Y6 ph):=an q 5;have yf5:=al q 5;clear q;clear hs hg HP4 HP5;go_wp2_with fail
   go_meet
   exact⟨rfl,HP6.out⟩
 case rest=>
  obtain⟨rfl,hP⟩:=hcut;have HP5:=aa hP;clear hP HP4;go_wp2_with fail;refine (cS HP5.src 2 ag).mono ?_;rintro e w5 ⟨he,hs,hg⟩;obtain⟨x17,rfl⟩:=eI he;have HP6:=aa (HP5.next hs hg);clear hs hg he HP5;go_upto_if 17 with fail;go_cut [3] from 18 to 29 (λs wx=>s=Zf (Y5 ⟨b,0,U⟩)/\PSt B w0 p v len w b 3 wx);case first=>
   cases x17 with
   | true=>
    go_wp2_with fail;refine (bZ HP6.src [⟨#[99,49]⟩,⟨#[99,50]⟩,⟨#[99,51]⟩,⟨#[99,52]⟩] 4 _ _ aG rfl ag ag ag).mono ?_;rintro e w6 ⟨t,rfl,ht,hs,hg⟩;have HP7:=aa (HP6.next hs hg);have HP8:=aa (HP7.lay [t] aG aG (λx hx=>by simp at hx;rw[hx];exact ht) 1 rfl);have hbl:=HP7.lt;obtain⟨n,c,z,lv,zs,d,ph,q,-⟩:=HP7.out;have y0:w6.cell? ⟨b,0,U⟩=Y5 (I n):=an q 0;have yf0:=al q 0;have y1:w6.cell? ⟨b,1,U⟩=Y5 (Y7 Y6 c):=an q 1;have yf1:=al q 1;have y2:w6.cell? ⟨b,2,U⟩=Y5 (I z):=an q 2;have yf2:=al q 2;have y3:w6.cell? ⟨b,3,U⟩=Y5 (lv):=an q 3;have yf3:=al q 3;have y4:w6.cell? ⟨b,4,U⟩=Y5 (I d):=an q 4;have yf4:=al q 4;have y5:w6.cell? ⟨b,5,U⟩=Y5 (Y7 Y6 ph):=an q 5;have yf5:=al q 5;clear q;clear hs hg HP6 HP7;go_wp2_with fail
    go_meet
    exact⟨rfl,HP8.out⟩
   | false=>
    go_wp2_with fail;refine (cS HP6.src 2 ag).mono ?_;rintro e w6 ⟨he,hs,hg⟩;have HP7:=aa (HP6.next hs hg);clear hs hg HP6
    rcases he with rfl|rfl
    ·go_wp2_with fail;refine (bZ HP7.src [⟨#[99,50]⟩,⟨#[99,51]⟩] 2 _ _ aG rfl ag ag ag).mono ?_;rintro e w7 ⟨t,rfl,ht,hs,hg⟩;have HP8:=aa (HP7.next hs hg)
     have HP9:=aa (HP8.lay [⟨#[99,49]⟩,t] aG aG (λx hx=>by simp at hx;rcases hx with rfl|rfl;decide;exact ht) 2 rfl)
     have hbl:=HP8.lt;obtain⟨n,c,z,lv,zs,d,ph,q,-⟩:=HP8.out;have y0:w7.cell? ⟨b,0,U⟩=Y5 (I n):=an q 0;have yf0:=al q 0;have y1:w7.cell? ⟨b,1,U⟩=Y5 (Y7 Y6 c):=an q 1;have yf1:=al q 1;have y2:w7.cell? ⟨b,2,U⟩=Y5 (I z):=an q 2;have yf2:=al q 2;have y3:w7.cell? ⟨b,3,U⟩=Y5 (lv):=an q 3;have yf3:=al q 3;have y4:w7.cell? ⟨b,4,U⟩=Y5 (I d):=an q 4;have yf4:=al q 4;have y5:w7.cell? ⟨b,5,U⟩=Y5 (Y7 Y6 ph):=an q 5;have yf5:=al q 5;clear q;clear hs hg HP7 HP8;go_wp2_with fail
     go_meet
     exact⟨rfl,HP9.out⟩
    ·go_wp2_with fail
     go_meet
     exact⟨rfl,HP7.out⟩
  case rest=>
   obtain⟨rfl,hP⟩:=hcut;have HP7:=aa hP;clear hP HP6;go_wp2_with fail;refine (cS HP7.src 15 ag).mono ?_;rintro e w6 ⟨he,hs,hg⟩;obtain⟨x31,rfl⟩:=eI he;have HP8:=aa (HP7.next hs hg);clear hs hg he HP7;go_upto_if 31 with fail;go_cut [3] from 32 to 55 (λs wx=>s=Zf (Y5 ⟨b,0,U⟩)/\PSt B w0 p v len w b 4 wx);case first=>
    cases x31 with
    | false=>
     go_wp2_with fail
     go_meet
     exact⟨rfl,HP8.up af⟩
    | true=>
     go_wp2_with fail;refine (HP8.src.n 4 ag).mono ?_;rintro e w7 ⟨r7,rfl,ra7,rb7,hs,hg⟩;have HP9:=aa (HP8.next hs hg);clear hs hg HP8 rb7
     by_cases h0:r7=0
     ·subst h0;go_wp2_with fail;refine (xh HP9.src).mono ?_;rintro e w8 ⟨r8,rfl,ra8,rb8,hs,hg⟩;have HPA:=aa (HP9.next hs hg);have HPB:=aa (HPA.set.1 r8);obtain⟨n,c,z,lv,zs,d,ph,q,-⟩:=HPA.out;have y0:w8.cell? ⟨b,0,U⟩=Y5 (I n):=an q 0;have yf0:=al q 0;have y1:w8.cell? ⟨b,1,U⟩=Y5 (Y7 Y6 c):=an q 1;have yf1:=al q 1;have y2:w8.cell? ⟨b,2,U⟩=Y5 (I z):=an q 2;have yf2:=al q 2;have y3:w8.cell? ⟨b,3,U⟩=Y5 (lv):=an q 3;have yf3:=al q 3;have y4:w8.cell? ⟨b,4,U⟩=Y5 (I d):=an q 4;have yf4:=al q 4;have y5:w8.cell? ⟨b,5,U⟩=Y5 (Y7 Y6 ph):=an q 5;have yf5:=al q 5;clear q;clear hs hg HP9 HPA;go_wp2_with fail
      go_meet
      exact⟨rfl,HPB.up af⟩
     have q70:(r7==0)=Y_:=by simp[h0]
     by_cases h1:r7=1
     ·subst h1;clear h0;have hbl:=HP9.lt;have hpl:=HP9.src.uM;obtain⟨n,c,z,lv,zs,d,ph,h1,h2,h3,h4,h5,h6,h7,h8⟩:=HP9.out;have HO:=aa h5;have H1:=aa h1;have H6:=aa h6;have H7:=aa h7;have y0:w7.cell? ⟨b,0,U⟩=Y5 (I n):=an h1 0;have yf0:=al h1 0;have y1:w7.cell? ⟨b,1,U⟩=Y5 (Y7 Y6 c):=an h1 1;have yf1:=al h1 1;have y2:w7.cell? ⟨b,2,U⟩=Y5 (I z):=an h1 2;have yf2:=al h1 2;have y3:w7.cell? ⟨b,3,U⟩=Y5 (lv):=an h1 3;have yf3:=al h1 3;have y4:w7.cell? ⟨b,4,U⟩=Y5 (I d):=an h1 4;have yf4:=al h1 4;have y5:w7.cell? ⟨b,5,U⟩=Y5 (Y7 Y6 ph):=an h1 5;have yf5:=al h1 5;clear h1 h5 h6 h7;have HPK:=aa (eS (Src.drew (H6.alloc (Y8 #[I ⟨#[97]⟩,I ⟨#[65]⟩,I ⟨#[122]⟩] 9)).src) w7.heap.size 3 [⟨#[97]⟩,⟨#[65]⟩,⟨#[122]⟩] 9 Yg af rfl ag ag ag)
      have HNX:Hid (∀w8,Src B w0 p v len w8->(w7.alloc (Y8 #[I ⟨#[97]⟩,I ⟨#[65]⟩,I ⟨#[122]⟩] 9)).drew.grownBy w8 (Y5 p)->(w8.heap[b]?=Y5 (Y8 #[I n,Y7 Y6 c,I z,lv,I d,Y7 Y6 ph] 40 (0,0))/\w8.ownsRow w.heap.size 9 1 lv zs.length (zs.map Ym)/\Dr B w0 p v len w w8/\w8.heap[w.heap.size]?=Y5 (Y8 #[I ⟨#[]⟩,Y7 Y6 0,I ⟨#[]⟩,J U 0 0,I ⟨#[]⟩,Y7 Y6 0] 40 (0,0)))):=λw8 hs hg=>by
       have hgw:w7.grownBy w8 (Y5 p):=bV (cj w7 (Y8 #[I ⟨#[97]⟩,I ⟨#[65]⟩,I ⟨#[122]⟩] 9) (Y5 p)) ⟨hg.os,hg.tape,hg.output,hg.size,hg.block⟩;have hpp:=H6.lt;exact⟨gk hgw af H1.out,HO.kept hgw (Zd (λe=>by have:=(HO.lt _ e).1;omega)),H6.next hs hgw,gk hgw af H7.out⟩
      obtain⟨i0,hi,hz0,hz1,hz2⟩:=info_parts fk;go_wp2_with fail
      go_region_law (first
       | (refine ll rfl _ _ 36 rfl w.heap.size 9 i0 (I ⟨#[]⟩) 1 16 Tryz.underlying36 hi hz0 hz1 hz2 rfl ag lv zs.length (zs.map Ym) (by simp[Act.eval]) (HO8.alloc _) ⟨w8.heap.size,0,U⟩ 1 1 [I t] (by simp[Act.eval]) rfl (λj u hj=>by have hq:=an (w:=w8.alloc (Y8 #[I t] 9)) (b:=w8.heap.size) (qB _ _ _ rfl) j;rw[Yn,Yq,hq];simpa using hj) (λu hu=>by simp at hu;subst hu;rfl) bj af bL ?_;intro v2 w9 hown hgrow _;obtain⟨qa,ql,qc,rfl⟩:=akJ hown;have hn8:=nB HO8.out H18.out;have hn9:=nB HO8.out H78.out;have g9:=(hgrow.block b (Yj (ae H18.out) aG) (λe=>hn8 e.symm)).trans ((Yl w8 (Y8 #[I t] 9) _ (ae H18.out)).trans H18.out);have z9:=(hgrow.block w.heap.size (Yj (ae H78.out) aG) (λe=>hn9 e.symm)).trans ((Yl w8 (Y8 #[I t] 9) _ (ae H78.out)).trans H78.out);have HW:=aa hown;have HG:=aa hgrow;have G9:=aa g9;have Z9:=aa z9;have v0:w9.cell? ⟨b,0,U⟩=Y5 (I n):=an g9 0;have vf0:w9.frozen? ⟨b,0,U⟩=Y_:=al g9 0;have v1:w9.cell? ⟨b,1,U⟩=Y5 (Y7 Y6 c):=an g9 1;have vf1:w9.frozen? ⟨b,1,U⟩=Y_:=al g9 1;have v2:w9.cell? ⟨b,2,U⟩=Y5 (I z):=an g9 2;have vf2:w9.frozen? ⟨b,2,U⟩=Y_:=al g9 2;have v3:w9.cell? ⟨b,3,U⟩=Y5 (lv):=an g9 3;have vf3:w9.frozen? ⟨b,3,U⟩=Y_:=al g9 3;have v4:w9.cell? ⟨b,4,U⟩=Y5 (I d):=an g9 4;have vf4:w9.frozen? ⟨b,4,U⟩=Y_:=al g9 4;have v5:w9.cell? ⟨b,5,U⟩=Y5 (Y7 Y6 ph):=an g9 5;have vf5:w9.frozen? ⟨b,5,U⟩=Y_:=al g9 5;clear hown hgrow hn8 hn9 g9 z9)
       | (refine AS rfl 28 _ _ Tryz.func28 bf rfl rfl _ (by simp[Act.eval]) HPK.out (λe w8 hR=>?_);obtain⟨t,rfl,ht,hs,hg⟩:=hR;refine⟨_,rfl,?_⟩;obtain⟨g1,ho8,hd8,hz8⟩:=HNX.out w8 hs hg;have hl8:=ae g1;have HO8:=aa ho8;have H68:=aa hd8;have H78:=aa hz8;have H18:=aa g1;have x0:w8.cell? ⟨b,0,U⟩=Y5 (I n):=an g1 0;have xf0:w8.frozen? ⟨b,0,U⟩=Y_:=al g1 0;have x1:w8.cell? ⟨b,1,U⟩=Y5 (Y7 Y6 c):=an g1 1;have xf1:w8.frozen? ⟨b,1,U⟩=Y_:=al g1 1;have x2:w8.cell? ⟨b,2,U⟩=Y5 (I z):=an g1 2;have xf2:w8.frozen? ⟨b,2,U⟩=Y_:=al g1 2;have x3:w8.cell? ⟨b,3,U⟩=Y5 (lv):=an g1 3;have xf3:w8.frozen? ⟨b,3,U⟩=Y_:=al g1 3;have x4:w8.cell? ⟨b,4,U⟩=Y5 (I d):=an g1 4;have xf4:w8.frozen? ⟨b,4,U⟩=Y_:=al g1 4;have x5:w8.cell? ⟨b,5,U⟩=Y5 (Y7 Y6 ph):=an g1 5;have xf5:w8.frozen? ⟨b,5,U⟩=Y_:=al g1 5;clear g1 hs hg ho8 hd8 hz8))
      all_goals (
       go_wp2_with fail
       go_meet
       refine⟨rfl,n,c,z,J qa ql qc,zs++[t],d,ph,av G9.out _,h2,by simp;omega,λj x hx=>?_,?_,?_,?_,h8⟩
       ·rcases Nat.lt_or_ge j zs.length with hj|hj
        ·rw[Yu hj] at hx;exact h4 j x hx
        ·rw[List.getElem?_append_right hj] at hx;have hx2:=Ys hx
         simp at hx2
         rw[hx2];exact ht
       ·have h9:=HW.kept (bJ w9 b 3 (J qa ql qc)) (Zd (nB HW.out G9.out))
        simpa using h9
       ·exact ((H68.alloc _).akU HG.out (λk e=>(HO8.lt _ e).1)).set _ af
       ·exact (Ya _ _ _ _ (show w.heap.size≠b by omega)).trans Z9.out)
     have q71:(r7==1)=Y_:=by simp[h1]
     by_cases h2:r7=2
     ·subst h2;clear h0 h1;go_wp2_with fail;refine (HP9.src.n 5 ag).mono ?_;rintro e w8 ⟨r8,rfl,ra8,rb8,hs,hg⟩;have HPA:=aa (HP9.next hs hg);have HPB:=aa (HPA.set.2.2.2 (r8 - 1))
      have rc8:r8<=5:=af
      obtain⟨n,c,z,lv,zs,d,ph,q,-⟩:=HPA.out;have y0:w8.cell? ⟨b,0,U⟩=Y5 (I n):=an q 0;have yf0:=al q 0;have y1:w8.cell? ⟨b,1,U⟩=Y5 (Y7 Y6 c):=an q 1;have yf1:=al q 1;have y2:w8.cell? ⟨b,2,U⟩=Y5 (I z):=an q 2;have yf2:=al q 2;have y3:w8.cell? ⟨b,3,U⟩=Y5 (lv):=an q 3;have yf3:=al q 3;have y4:w8.cell? ⟨b,4,U⟩=Y5 (I d):=an q 4;have yf4:=al q 4;have y5:w8.cell? ⟨b,5,U⟩=Y5 (Y7 Y6 ph):=an q 5;have yf5:=al q 5;clear q;clear hs hg HP9 HPA rb8;go_wp2_with fail
      go_meet
      exact⟨rfl,HPB.up af⟩
     have q72:(r7==2)=Y_:=by simp[h2]
     clear h0 h1 h2;have HPB:=aa (HP9.set.2.2.1 ⟨#[110,49]⟩ ag);obtain⟨n,c,z,lv,zs,d,ph,q,-⟩:=HP9.out;have y0:w7.cell? ⟨b,0,U⟩=Y5 (I n):=an q 0;have yf0:=al q 0;have y1:w7.cell? ⟨b,1,U⟩=Y5 (Y7 Y6 c):=an q 1;have yf1:=al q 1;have y2:w7.cell? ⟨b,2,U⟩=Y5 (I z):=an q 2;have yf2:=al q 2;have y3:w7.cell? ⟨b,3,U⟩=Y5 (lv):=an q 3;have yf3:=al q 3;have y4:w7.cell? ⟨b,4,U⟩=Y5 (I d):=an q 4;have yf4:=al q 4;have y5:w7.cell? ⟨b,5,U⟩=Y5 (Y7 Y6 ph):=an q 5;have yf5:=al q 5;clear q;clear HP9;go_wp2_with fail
     go_meet
     exact⟨rfl,HPB.up af⟩
   case rest=>
    obtain⟨rfl,hP⟩:=hcut;clear HP8;obtain⟨n,c,z,lv,zs,d,ph,h1,h2,h3,h4,h5,h6,h7,h8⟩:=hP;have hbn:¬b=w.heap.size:=af
    have y0:wc.cell? ⟨b,0,U⟩=Y5 (I n):=an h1 0;have yf0:=al h1 0;have y1:wc.cell? ⟨b,1,U⟩=Y5 (Y7 Y6 c):=an h1 1;have yf1:=al h1 1;have y2:wc.cell? ⟨b,2,U⟩=Y5 (I z):=an h1 2;have yf2:=al h1 2;have y3:wc.cell? ⟨b,3,U⟩=Y5 (lv):=an h1 3;have yf3:=al h1 3;have y4:wc.cell? ⟨b,4,U⟩=Y5 (I d):=an h1 4;have yf4:=al h1 4;have y5:wc.cell? ⟨b,5,U⟩=Y5 (Y7 Y6 ph):=an h1 5;have yf5:=al h1 5;have z0:wc.cell? ⟨w.heap.size,0,U⟩=Y5 (I ⟨#[]⟩):=an h7 0;have zf0:=al h7 0;have z1:wc.cell? ⟨w.heap.size,1,U⟩=Y5 (Y7 Y6 0):=an h7 1;have zf1:=al h7 1;have z2:wc.cell? ⟨w.heap.size,2,U⟩=Y5 (I ⟨#[]⟩):=an h7 2;have zf2:=al h7 2;have z3:wc.cell? ⟨w.heap.size,3,U⟩=Y5 (J U 0 0):=an h7 3;have zf3:=al h7 3;have z4:wc.cell? ⟨w.heap.size,4,U⟩=Y5 (I ⟨#[]⟩):=an h7 4;have zf4:=al h7 4;have z5:wc.cell? ⟨w.heap.size,5,U⟩=Y5 (Y7 Y6 0):=an h7 5;have zf5:=al h7 5;have hne:=nB h5 h7;have k5:=((((((h5.kept (bJ _ w.heap.size 0 (I n)) (Zd hne)).kept (bJ _ w.heap.size 1 (Y7 Y6 c)) (Zd hne)).kept (bJ _ w.heap.size 2 (I z)) (Zd hne)).kept (bJ _ w.heap.size 3 (lv)) (Zd hne)).kept (bJ _ w.heap.size 4 (I d)) (Zd hne)).kept (bJ _ w.heap.size 5 (Y7 Y6 ph)) (Zd hne));have HD:=aa (((((((h6.set (b:=w.heap.size) (i:=0) (I n) (Ye _)).set (b:=w.heap.size) (i:=1) (Y7 Y6 c) (Ye _)).set (b:=w.heap.size) (i:=2) (I z) (Ye _)).set (b:=w.heap.size) (i:=3) (lv) (Ye _)).set (b:=w.heap.size) (i:=4) (I d) (Ye _)).set (b:=w.heap.size) (i:=5) (Y7 Y6 ph) (Ye _)));obtain⟨a,l,cp,rfl,hx,hx2,hx3⟩:=agq k5 h4;have HX:=aa (Yb hx (Yb hx2 h2));have HX3:=aa (Yb hx3 (Yb h3 h4));clear hx hx2 hx3 h2 h1 h7 h5 h6 k5 hne h3 h4;go_wp2_with fail;exact bodyPost_ret (v:=Zc #[I n,Y7 Y6 c,I z,J a l cp,I d,Y7 Y6 ph]) (by simp[results,Tryz.results83,go_sem, *]) rfl ⟨n,c,z,a,l,cp,zs,d,ph,rfl,HX.2.2.1,HX.2.2.2.1,HX.2.2.2.2,HX.1,HX.2.1,HX3.1,HX3.2.1,HX3.2.2,HD.out⟩):p:=h
theorem ng(h:p:=by
 rintro e w2 ⟨r2,rfl,ra2,rb2,hs,hg⟩;have HD2:=aa (HD1.next hs hg);have G2:=aa (gk hg eh G1.out);clear hs hg G1 HD1;exact z1091z):p:=h
theorem LG(h:p:=by
 obtain⟨hne,hne2⟩:=N2;have hol5:=ae Bo5.out;have hrl5:=ae Br5.out;exact z215z):p:=h
theorem tC(h:p:=by
 obtain⟨o0,o1,o2,o3,o4,o5⟩:=cs6 Bo5;obtain⟨r0,r1,r2,r3,r4,r5,r6,r7⟩:=cs8 Br5;obtain⟨fo0,fo1,fo2,fo3,fo4,fo5,fr0,fr1,fr2,fr3,fr4,fr5,fr6,fr7⟩:=alS;exact z1168z):p:=h
theorem LC(h:p:=by
 clear g1 hb1 c0 c1 c2 c3 c4 c5 HB1;cases hless:Yk x.n.toList t.toList
 ·have z317z:=@aa _ @adf;exact lH
 ·exact uF):p:=h
theorem Lz(h:p:=by
 clear hb1 hbx hn1 c0 c1 c2 c3 c4 c5;cases hq:(x.n.toList==t.toList)
 ·have hq2:(x.n.toList !=t.toList)=Zb:=by simp[bne,hq]
  go_wp2_with (first|(at_builtin;refine wpList_append_own _ rfl _ _ 76 rfl w.heap.size 40 i0 (Zc #[I ⟨#[]⟩,Y7 Y6 0,I ⟨#[]⟩,J U 0 0,I ⟨#[]⟩,Y7 Y6 0]) 6 88 Tryz.underlying76 HI0.1 HI0.2.1 HI0.2.2.1 HI0.2.2.2 rfl ag _ _ _ rfl (HO1.alloc _) ⟨w1.heap.size,0,U⟩ 1 1 [I x.n,Y7 Y6 x.c,I x.z,J va vl vc,I x.d,Y7 Y6 x.p] rfl rfl ?c1 ?c2 ?c3 ?c4 ?c5 ?_));case c1=>exact dv _ _ _
  case c2=>intro u hu;simp only[YO,List.not_mem_nil,or_false] at hu;rcases hu with rfl|rfl|rfl|rfl|rfl|rfl <;> rfl
  case c3=>unfold maxLen;omega
  case c4=>omega
  case c5=>simp;omega
  rintro v' w3 hown3 hgrow -;have HO3:Hid (w3.ownsRow w.heap.size 40 6 v' (wo Pd.n t (xs.take (k+1))).length (ws++([[I x.n,Y7 Y6 x.c,I x.z,J va vl vc,I x.d,Y7 Y6 x.p]]:List (List Value))).flatten):=by
   exact wA
  exact Ov
 ·exact Oo):p:=h
theorem Li(h:p:=by
 have z1667z:=@aa _ @D5;exact fy):p:=h
theorem Lh(h:p:=by
 have z1528z:=@aa _ @FO;exact gP):p:=h
theorem Lg(h:p:=by
 have hsw:(w3.setCell ⟨g,j*7+5,U⟩ (Y9 Zb)).heap.size=w3.heap.size:=kS
 obtain⟨⟨cur,H,hbk,_⟩,_⟩:=HST.out;have hvb:((w3.setCell ⟨g,j*7+5,U⟩ (Y9 Zb)).alloc (Y8 (clo6 (Y5 ⟨g,0,U⟩) m1 n1 x2 m2 n2 x3 m3 n3 x4 m4 n4 x5 m5 n5 c.now) 29)).heap[w3.heap.size]?=Y5 (Y8 (clo6 (Y5 ⟨g,0,U⟩) m1 n1 x2 m2 n2 x3 m3 n3 x4 m4 n4 x5 m5 n5 c.now) 29 (0,0)):=by have h9:=heap_alloc_new (w3.setCell ⟨g,j*7+5,U⟩ (Y9 Zb)) (Y8 (clo6 (Y5 ⟨g,0,U⟩) m1 n1 x2 m2 n2 x3 m3 n3 x4 m4 n4 x5 m5 n5 c.now) 29);rw[hsw] at h9;exact h9
 have hkV:∀k,k<w3.heap.size->¬k=g->((w3.setCell ⟨g,j*7+5,U⟩ (Y9 Zb)).alloc (Y8 (clo6 (Y5 ⟨g,0,U⟩) m1 n1 x2 m2 n2 x3 m3 n3 x4 m4 n4 x5 m5 n5 c.now) 29)).heap[k]?=w3.heap[k]?:=λk h1 h2=>(Yl _ _ _ (by rw[hsw];exact h1)).trans (Ya _ _ _ _ h2);have far:∀{a l cp m T rs},aw w3 a l cp m T rs (λk=>w1.heap.size<=k)->¬83=T->aw ((w3.setCell ⟨g,j*7+5,U⟩ (Y9 Zb)).alloc (Y8 (clo6 (Y5 ⟨g,0,U⟩) m1 n1 x2 m2 n2 x3 m3 n3 x4 m4 n4 x5 m5 n5 c.now) 29)) a l cp m T rs (λk=>w1.heap.size<=k/\k<w3.heap.size):=λh hT=>(h.dH hbk.blk hT ag).ay (λk hk s=>hkV k hk s.2) (λk hk s=>⟨s.1,hk⟩);have f2:=far HO.k ag;have f3:=far HO.v ag;have f4:=far HO.x ag;have f5:=far HO.p ag;have h2:=HST.ait (i:=5) rfl Zb;obtain⟨⟨cur2,H2,h3,_⟩,_,_⟩:=h2;have hns:(o_ c t n).raw.n=(c.ns.map ndF).set j (ndF (dead n)):=by
  show (c.ns.set (pl Nd.n c.ns t) (dead n)).map ndF=_;rw[(bo HT.2.1.1.2.2 HNJ.out HOK.2.2.2).1,List.map_set]
 have hR:aw (w3.setCell ⟨g,j*7+5,U⟩ (Y9 Zb)) (Y5 ⟨g,0,U⟩) m1 n1 7 83 (o_ c t n).raw.n (λk=>w1.heap.size<=k/\k<w3.heap.size):=by
  exact OZ
 have f1:aw ((w3.setCell ⟨g,j*7+5,U⟩ (Y9 Zb)).alloc (Y8 (clo6 (Y5 ⟨g,0,U⟩) m1 n1 x2 m2 n2 x3 m3 n3 x4 m4 n4 x5 m5 n5 c.now) 29)) (Y5 ⟨g,0,U⟩) m1 n1 7 83 (o_ c t n).raw.n (λk=>w1.heap.size<=k/\k<w3.heap.size):=hR.ay (λk hk s=>Yl _ _ _ hk) (λ_ _ s=>s);have HF:=aa (Yb f1 (Yb f2 (Yb f3 (Yb f4 f5))));have hr2:((w3.setCell ⟨g,j*7+5,U⟩ (Y9 Zb)).alloc (Y8 (clo6 (Y5 ⟨g,0,U⟩) m1 n1 x2 m2 n2 x3 m3 n3 x4 m4 n4 x5 m5 n5 c.now) 29)).heap[w.heap.size+1]?=Y5 (Y8 #[J U 0 0,J U 0 0,J U 0 0,J U 0 0,J U 0 0,Y7 Y6 0,I ⟨#[]⟩,Y7 Y6 0] 33 (0,0)):=(hkV _ af af).trans Br.out;have HBV:Hid (Below w.heap.size w ((w3.setCell ⟨g,j*7+5,U⟩ (Y9 Zb)).alloc (Y8 (clo6 (Y5 ⟨g,0,U⟩) m1 n1 x2 m2 n2 x3 m3 n3 x4 m4 n4 x5 m5 n5 c.now) 29))):=Below.alloc (ah (show w.heap.size<=g by omega) HB.out) (by rw[hsw];exact HB.size) _;refine (lZ w3.heap.size (Y5 ⟨g,0,U⟩) x2 x3 x4 x5 m1 n1 m2 n2 m3 n3 m4 n4 m5 n5 c.now t c.ps (λk=>w1.heap.size<=k/\k<w3.heap.size) _ hvb f5 (λg5 e0 e5 e=>?_)).mono ?_
 ·rcases f5.2.2.2 with h9|⟨g9,c9,H9,e9,h9⟩
  ·have h8:=f5.1;rw[h9] at h8;simp at h8;omega
  ·rw[e5] at e9;cases e9;have:=h9.inS.2;omega
 rintro e w4 ⟨⟨v,rfl⟩,hP,hK⟩;have nb:∀k,¬(w1.heap.size<=k/\k<w3.heap.size)->¬(0<m5/\x5=Y5 ⟨k,0,U⟩):=λk h1 h2=>by
  rcases f5.2.2.2 with h9|⟨g9,c9,H9,e9,h9⟩
  ·have h8:=f5.1;have h7:=h2.1;rw[h9] at h8;simp at h8;omega
  ·have h7:=h2.2;rw[h7] at e9;cases e9;exact h1 h9.inS
 have Bo4:=aa ((hK.block _ (ae hvb) (nb _ af)).trans hvb);have Br4:=aa ((hK.block _ (ae hr2) (nb _ af)).trans hr2);have g1:=f1.beside f5 hK ag;have g2:=f2.beside f5 hK ag;have g3:=f3.beside f5 hK ag;have g4:=f4.beside f5 hK ag;have HG:=aa (Yb g1 (Yb g2 (Yb g3 (Yb g4 hP))));have HB4:Hid (Below w.heap.size w w4):=HBV.trans (hK.low (X:=w.heap.size) HBV.size (λk s=>YH λhk=>nb k af s));clear f1 f2 f3 f4 f5 g1 g2 g3 g4 hP hK hR h3 hvb hr2 far hkV HF HBV hns hbk HST HO nb hv5 hf5;have z1584z:=@aa _ @E3;exact su):p:=h
theorem K1(h:p:=by
 refine bodyPost_ret (v:=Zc #[J d'.a1 d'.l1 d'.c1,J d'.a2 d'.l2 d'.c2,J d'.a3 d'.l3 d'.c3,J d'.a4 d'.l4 d'.c4,J a' l' c',Y7 Y6 c.now,I ⟨#[]⟩,Y7 Y6 0]) (by simp[results,Tryz.results12,go_sem, *]) rfl ⟨⟨d'.a1,d'.l1,d'.c1,d'.a2,d'.l2,d'.c2,d'.a3,d'.l3,d'.c3,d'.a4,d'.l4,d'.c4,a',l',c'⟩,⟨lg c t,⟨#[]⟩,0⟩,rfl,HV.out,?_,sb1 (sb1 (sb1 (sb1 (sb1 (sb1 (sb1 (sb1 (ah (show w.heap.size<=w2.heap.size by omega) (HB.out)))))))))⟩;have h9:=HP.anc hq2 HN.out HBX.out (w4:=(((((((((w3.setCell ⟨w2.heap.size,4,U⟩ (J a' l' c')).setCell ⟨w.heap.size+1,0,U⟩ (J d'.a1 d'.l1 d'.c1)).setCell ⟨w.heap.size+1,1,U⟩ (J d'.a2 d'.l2 d'.c2)).setCell ⟨w.heap.size+1,2,U⟩ (J d'.a3 d'.l3 d'.c3)).setCell ⟨w.heap.size+1,3,U⟩ (J d'.a4 d'.l4 d'.c4)).setCell ⟨w.heap.size+1,4,U⟩ (J a' l' c')).setCell ⟨w.heap.size+1,5,U⟩ (Y7 Y6 c.now)).setCell ⟨w.heap.size+1,6,U⟩ (I ⟨#[]⟩)).setCell ⟨w.heap.size+1,7,U⟩ (Y7 Y6 0))) (λk h1 h2=>by rw[Ya _ _ _ _ (show k≠w.heap.size+1 by omega),Ya _ _ _ _ (show k≠w.heap.size+1 by omega),Ya _ _ _ _ (show k≠w.heap.size+1 by omega),Ya _ _ _ _ (show k≠w.heap.size+1 by omega),Ya _ _ _ _ (show k≠w.heap.size+1 by omega),Ya _ _ _ _ (show k≠w.heap.size+1 by omega),Ya _ _ _ _ (show k≠w.heap.size+1 by omega),Ya _ _ _ _ (show k≠w.heap.size+1 by omega),Ya _ _ _ _ (show k≠w2.heap.size by omega)]);exact wL):p:=h
theorem KZ(h:p:=by
 refine bodyPost_ret (v:=Zc #[J d'.a1 d'.l1 d'.c1,J d'.a2 d'.l2 d'.c2,J a' l' c',J d'.a4 d'.l4 d'.c4,J d'.a5 d'.l5 d'.c5,Y7 Y6 c.now,I ⟨#[]⟩,Y7 Y6 0]) (by simp[results,Tryz.results7,go_sem, *]) rfl ⟨⟨d'.a1,d'.l1,d'.c1,d'.a2,d'.l2,d'.c2,a',l',c',d'.a4,d'.l4,d'.c4,d'.a5,d'.l5,d'.c5⟩,⟨iO c t,⟨#[]⟩,0⟩,rfl,HV.out,?_,sb1 (sb1 (sb1 (sb1 (sb1 (sb1 (sb1 (sb1 (ah (show w.heap.size<=w2.heap.size by omega) (HB.out)))))))))⟩;have h9:=HP.ane hq2 HN.out HBX.out (w4:=(((((((((w3.setCell ⟨w2.heap.size,2,U⟩ (J a' l' c')).setCell ⟨w.heap.size+1,0,U⟩ (J d'.a1 d'.l1 d'.c1)).setCell ⟨w.heap.size+1,1,U⟩ (J d'.a2 d'.l2 d'.c2)).setCell ⟨w.heap.size+1,2,U⟩ (J a' l' c')).setCell ⟨w.heap.size+1,3,U⟩ (J d'.a4 d'.l4 d'.c4)).setCell ⟨w.heap.size+1,4,U⟩ (J d'.a5 d'.l5 d'.c5)).setCell ⟨w.heap.size+1,5,U⟩ (Y7 Y6 c.now)).setCell ⟨w.heap.size+1,6,U⟩ (I ⟨#[]⟩)).setCell ⟨w.heap.size+1,7,U⟩ (Y7 Y6 0))) (λk h1 h2=>by rw[Ya _ _ _ _ (show k≠w.heap.size+1 by omega),Ya _ _ _ _ (show k≠w.heap.size+1 by omega),Ya _ _ _ _ (show k≠w.heap.size+1 by omega),Ya _ _ _ _ (show k≠w.heap.size+1 by omega),Ya _ _ _ _ (show k≠w.heap.size+1 by omega),Ya _ _ _ _ (show k≠w.heap.size+1 by omega),Ya _ _ _ _ (show k≠w.heap.size+1 by omega),Ya _ _ _ _ (show k≠w.heap.size+1 by omega),Ya _ _ _ _ (show k≠w2.heap.size by omega)]);exact wL):p:=h
theorem tx(h:p:=by
 rintro e w3 ⟨a',l',c',rfl,hN,hb⟩;rw[cw] at hN;have hbw23:=(aV hb).2;have HN:=aa hN;clear hN h5;clear r0 r1 r2 r3 r4 r5 r6 r7 ltr_2;have z1571z:=@aa _ @Fa;exact sy):p:=h
theorem KU(h:p:=by
 refine (aJ p _).mono ?_;have z1z:=@aa _ @alx;exact ff):p:=h
theorem KT(h:p:=by
 refine (aJ 10 _).mono ?_;have z1z:=@aa _ @alw;exact ff):p:=h
theorem KR(h:p:=by
 refine (aJ p _).mono ?_;have z1z:=@aa _ @alv;exact ff):p:=h
theorem KQ(h:p:=by
 refine (aJ 10 _).mono ?_;have z1z:=@aa _ @alu;exact ff):p:=h
theorem KP(h:p:=by
 have HLO:=aa HB.size;refine (cE ⟨(Y5 ⟨b,o,U⟩),l1,y1,a2,l2,y2,a3,l3,y3,a4,l4,y4,a5,l5,y5⟩ c _ (HR.below HB.out) HT.sm).mono ?_;rintro e w3 ⟨d',rfl,ho,hb⟩;clear hd5 hbl;have HQ2:=aa hb.size;clear k0 k1 k2 k3 k4 k5 ltk_1;have z1444z:=@aa _ @Hk;exact ba):p:=h
theorem KM(h:p:=by
 have z1516z:=@aa _ @FW;exact jH):p:=h
theorem KL(h:p:=by
 have z1516z:=@aa _ @FV;exact jH):p:=h
theorem JY(h:p:=by
 exact z820z):p:=h
theorem IU(h:p:=by
 go_enter Tryz.func118,Tryz.ntmps118;go_wp2;go_loopw [10] (λi wr=> ∃k:Nat,k<=len/\i=Y7 Y6 k/\Hid (∀(j:Nat) y,j<k->xs[j]?=Y5 y->Yk y.n.toList t.toList=Zb)/\Hid (Below w.heap.size w wr)) (λi _=>len - (intOf i).toNat);case atStart=>exact⟨0,by omega,rfl,λj y hj=>by omega,Yh _ _⟩
 case round=>
  obtain⟨k,hk,rfl,HE,HB⟩:=hrel;by_cases hlt:k<len
  ·obtain⟨b,o,x,rfl,hb,hx,hat⟩:=cg (HR.below HB.out) hlt;have z1042z:=@aa _ @M5;exact cK
  ·obtain rfl:k=len:=af
   have hp:pl Pd.n xs t=xs.length:=fY (λj y hy=>HE.out j y kV hy);have hh:hit Pd.n xs t=Y_:=by unfold hit;rw[hp,List.getElem?_eq_none (Ye _)]
   have HP:=aa hp;have HH:=aa hh;clear hp hh;go_wp2;exact bodyPost_ret (v:=Zg #[Y7 Y6 k,Y9 Y_]) (by simp[results,Tryz.results118,go_sem]) rfl ⟨by rw[HP.out,HH.out,hxl],HB.out⟩):p:=h
theorem IT(h:p:=by
 go_enter Tryz.func42,Tryz.ntmps42;go_wp2;go_loopw [5,10] (λvo vi wr=> ∃(k:Nat) (ws:List (List Value)) (f:Nat->Nat),k<=len/\vi=Y7 Y6 k/\Hid (wr.ownsRow w.heap.size 40 6 vo (wo Pd.n t (xs.take k)).length ws.flatten)/\Hid (Sel xs (wo Pd.n t (xs.take k)) vss ws k f)/\Hid (Below w.heap.size w wr)) (λ_ vi _=>len - (intOf vi).toNat);case atStart=>exact⟨0,[],λ_=>0,by omega,rfl,World.ownsRow_nil _ _ _ _,Sel.nil _ _ _ _,Yh _ _⟩
 case round=>
  obtain⟨k,ws,f,hk,rfl,HO,HF,HB⟩:=hrel;have hBs:=HB.size;by_cases hlt:k<len
  ·obtain⟨b,o,x,rfl,hb,hx,hat⟩:=cg HR.out hlt;obtain⟨va,vl,vc,hvr,z0,z2,z4,c0,c1,c2,c3,c4,c5⟩:=bH hat;have hvk:vss[k]?=Y5 [I x.n,Y7 Y6 x.c,I x.z,J va vl vc,I x.d,Y7 Y6 x.p]:=by
    have z267z:=@aa _ @adS;exact qk
   have z637z:=@aa _ @WU;exact pR
  ·exact Oy):p:=h
theorem Il(h:p:=by
 have z856z:=@aa _ @TY;exact fS):p:=h
theorem Ik(h:p:=by
 have z856z:=@aa _ @TW;exact fS):p:=h
theorem H_(h:p:=by
 rcases hf with ⟨j,n,hn,hnn,rfl⟩|⟨hno,rfl⟩
 ·have hj0:¬(j:Int)<0:=af
  have HN:=aa (Yb hn hnn);clear hn hnn;have z864z:=@aa _ @TE;exact cr
 have HN:=aa hno;clear hno;have z864z:=@aa _ @TF;exact cr):p:=h
theorem Hu(h:p:=by
 refine (bZ HD3.src [⟨#[102,97,115,116]⟩,⟨#[115,108,111,119]⟩] 2 _ _ aG rfl ag ag ag).mono ?_;rintro e w4 ⟨t4,rfl,ht4,hs,hg⟩;have HD4:=aa (HD3.next hs hg);have G4:=aa (gk hg eh G3.out);clear hs hg G3 HD3;go_wp2_with fail;refine (cS HD4.src 4 ag).mono ?_;rintro e w5 ⟨he,hs,hg⟩;obtain⟨x5,rfl⟩:=eI he;clear he;have HD5:=aa (HD4.next hs hg);have G5:=aa (gk hg eh G4.out);clear hs hg G4 HD4;have HDA:=aa (HD5.alloc (Y8 #[I t1,Y7 Y6 (1+r2),I t3,I t4,Y9 (!x5),I ⟨#[]⟩,Y9 Y_,J U 0 0] 38));have hA:w.heap.size<w5.heap.size:=ae G5.out;have GA:Hid ((w5.alloc (Y8 #[I t1,Y7 Y6 (1+r2),I t3,I t4,Y9 (!x5),I ⟨#[]⟩,Y9 Y_,J U 0 0] 38)).heap[w5.heap.size]?=Y5 (Y8 #[I t1,Y7 Y6 (1+r2),I t3,I t4,Y9 (!x5),I ⟨#[]⟩,Y9 Y_,J U 0 0] 38 (0,0))):=Yg;have GB:=aa ((Yl w5 (Y8 #[I t1,Y7 Y6 (1+r2),I t3,I t4,Y9 (!x5),I ⟨#[]⟩,Y9 Y_,J U 0 0] 38) _ hA).trans G5.out);clear HD5 G5;go_wp2_with fail;refine (cS HDA.src 12 ag).mono ?_;rintro e w6 ⟨he,hs,hg⟩;have HDJ:=aa (HDA.next hs hg);have hpn:=HP.out;have GA':=aa (gk hg af GA.out);have GB':=aa (gk hg af GB.out);clear hs hg GA GB HDA;rcases he with rfl|rfl
 ·go_wp2_with fail;refine (HDJ.src.n 4 ag).mono ?_;rintro e w7 ⟨r7,rfl,ra7,rb7,hs,hg⟩;have HD7:=aa (HDJ.next hs hg);have GA7:=aa (gk hg af GA'.out);have GB7:=aa (gk hg af GB'.out);clear hs hg GA' GB' HDJ rb7;by_cases h0:r7=0
  ·subst h0;go_wp2_with fail;refine (lf HD7.src).mono ?_;rintro e w8 ⟨r8,rfl,ra8,rb8,hs,hg⟩;obtain⟨HD8,GA8,GB8⟩:=vX;clear hs hg GA7 GB7 HD7;have q3:=GA8.out;have q2:=GB8.out;have z302z:=@aa _ @ads;exact qj
  have q70:(r7==0)=Y_:=by simp[h0]
  by_cases h1:r7=1
  ·subst h1;go_wp2_with fail;refine (bZ HD7.src [⟨#[99,49]⟩,⟨#[65]⟩] 2 _ _ aG rfl ag ag ag).mono ?_;rintro e w8 ⟨t8,rfl,ht8,hs,hg⟩;obtain⟨HD8,GA8,GB8⟩:=vX;clear hs hg GA7 GB7 HD7;have q3:=GA8.out;have q2:=GB8.out;have z302z:=@aa _ @adr;exact qj
  have q71:(r7==1)=Y_:=by simp[h1]
  by_cases h2:r7=2
  ·subst h2;clear h0 h1;have q3:=GA7.out;have q2:=GB7.out;have y0:w7.cell? ⟨w5.heap.size,0,U⟩=Y5 (I t1):=an q3 0;have yf0:=al q3 0;have y1:w7.cell? ⟨w5.heap.size,1,U⟩=Y5 (Y7 Y6 (1+r2)):=an q3 1;have yf1:=al q3 1;have y2:w7.cell? ⟨w5.heap.size,2,U⟩=Y5 (I t3):=an q3 2;have yf2:=al q3 2;have y3:w7.cell? ⟨w5.heap.size,3,U⟩=Y5 (I t4):=an q3 3;have yf3:=al q3 3;have y4:w7.cell? ⟨w5.heap.size,4,U⟩=Y5 (Y9 (!x5)):=an q3 4;have yf4:=al q3 4;have y5:w7.cell? ⟨w5.heap.size,5,U⟩=Y5 (I ⟨#[]⟩):=an q3 5;have yf5:=al q3 5;have y6:w7.cell? ⟨w5.heap.size,6,U⟩=Y5 (Y9 Y_):=an q3 6;have yf6:=al q3 6;have y7:w7.cell? ⟨w5.heap.size,7,U⟩=Y5 (J U 0 0):=an q3 7;have yf7:=al q3 7;have z742z:=@aa _ @Vu;exact yX
  have q72:(r7==2)=Y_:=by simp[h2]
  clear h0 h1 h2;go_wp2_with fail;refine (bZ HD7.src [⟨#[110,50]⟩,⟨#[110,49]⟩] 2 _ _ aG rfl ag ag ag).mono ?_;rintro e w8 ⟨t8,rfl,ht8,hs,hg⟩;obtain⟨HD8,GA8,GB8⟩:=vX;clear hs hg GA7 GB7 HD7;have h8A:=ae GA8.out;have h8B:=ae GB8.out;have q3:=GA8.out;have q2:=GB8.out;have HDZ:=aa ((((((((((HD8.set (b:=w5.heap.size) (i:=7) (J (Y5 ⟨w8.heap.size,0,U⟩) 2 2) (Nat.le_of_lt hA)).set (b:=w.heap.size) (i:=0) (I t1) (Ye _)).set (b:=w.heap.size) (i:=1) (Y7 Y6 (1+r2)) (Ye _)).set (b:=w.heap.size) (i:=2) (I t3) (Ye _)).set (b:=w.heap.size) (i:=3) (I t4) (Ye _)).set (b:=w.heap.size) (i:=4) (Y9 (!x5)) (Ye _)).set (b:=w.heap.size) (i:=5) (I ⟨#[]⟩) (Ye _)).set (b:=w.heap.size) (i:=6) (Y9 Y_) (Ye _)).set (b:=w.heap.size) (i:=7) (J (Y5 ⟨w8.heap.size,0,U⟩) 2 2) (Ye _)).alloc (Y8 #[I ⟨#[110,49]⟩,I t8] 9));have HLB:Hid (((((((((((w8.setCell ⟨w5.heap.size,7,U⟩ (J (Y5 ⟨w8.heap.size,0,U⟩) 2 2)).setCell ⟨w.heap.size,0,U⟩ (I t1)).setCell ⟨w.heap.size,1,U⟩ (Y7 Y6 (1+r2))).setCell ⟨w.heap.size,2,U⟩ (I t3)).setCell ⟨w.heap.size,3,U⟩ (I t4)).setCell ⟨w.heap.size,4,U⟩ (Y9 (!x5))).setCell ⟨w.heap.size,5,U⟩ (I ⟨#[]⟩)).setCell ⟨w.heap.size,6,U⟩ (Y9 Y_)).setCell ⟨w.heap.size,7,U⟩ (J (Y5 ⟨w8.heap.size,0,U⟩) 2 2)).alloc (Y8 #[I ⟨#[110,49]⟩,I t8] 9)).heap[w8.heap.size]?=Y5 (Y8 #[I ⟨#[110,49]⟩,I t8] 9 (0,0))):=qB _ _ _ kS;have z302z:=@aa _ @adt;exact qj
 ·skip;have q3:=GA'.out;have q2:=GB'.out;have y0:w6.cell? ⟨w5.heap.size,0,U⟩=Y5 (I t1):=an q3 0;have yf0:=al q3 0;have y1:w6.cell? ⟨w5.heap.size,1,U⟩=Y5 (Y7 Y6 (1+r2)):=an q3 1;have yf1:=al q3 1;have y2:w6.cell? ⟨w5.heap.size,2,U⟩=Y5 (I t3):=an q3 2;have yf2:=al q3 2;have y3:w6.cell? ⟨w5.heap.size,3,U⟩=Y5 (I t4):=an q3 3;have yf3:=al q3 3;have y4:w6.cell? ⟨w5.heap.size,4,U⟩=Y5 (Y9 (!x5)):=an q3 4;have yf4:=al q3 4;have y5:w6.cell? ⟨w5.heap.size,5,U⟩=Y5 (I ⟨#[]⟩):=an q3 5;have yf5:=al q3 5;have y6:w6.cell? ⟨w5.heap.size,6,U⟩=Y5 (Y9 Y_):=an q3 6;have yf6:=al q3 6;have y7:w6.cell? ⟨w5.heap.size,7,U⟩=Y5 (J U 0 0):=an q3 7;have yf7:=al q3 7;have z0:w6.cell? ⟨w.heap.size,0,U⟩=Y5 (I ⟨#[]⟩):=an q2 0;have zf0:=al q2 0;have z1:w6.cell? ⟨w.heap.size,1,U⟩=Y5 (Y7 Y6 0):=an q2 1;have zf1:=al q2 1;have z2:w6.cell? ⟨w.heap.size,2,U⟩=Y5 (I ⟨#[]⟩):=an q2 2;have zf2:=al q2 2;have z3:w6.cell? ⟨w.heap.size,3,U⟩=Y5 (I ⟨#[]⟩):=an q2 3;have zf3:=al q2 3;have z4:w6.cell? ⟨w.heap.size,4,U⟩=Y5 (Y9 Y_):=an q2 4;have zf4:=al q2 4;have z5:w6.cell? ⟨w.heap.size,5,U⟩=Y5 (I ⟨#[]⟩):=an q2 5;have zf5:=al q2 5;have z6:w6.cell? ⟨w.heap.size,6,U⟩=Y5 (Y9 Y_):=an q2 6;have zf6:=al q2 6;have z7:w6.cell? ⟨w.heap.size,7,U⟩=Y5 (J U 0 0):=an q2 7;have zf7:=al q2 7;clear q2 q3;go_wp2_with fail;exact bodyPost_ret (v:=Zc #[I t1,Y7 Y6 (1+r2),I t3,I t4,Y9 (!x5),I ⟨#[]⟩,Y9 Y_,J U 0 0]) uj rfl ⟨_,_,_,_,_,_,_,U,0,0,[],rfl,ht1,ht3,ht4,ag,⟨rfl,Ye _,by omega,λj x hx=>by simp at hx,Ze rfl⟩,Ze rfl,((((((((HDJ.set (b:=w.heap.size) (i:=0) _ (Ye _)).set (b:=w.heap.size) (i:=1) _ (Ye _)).set (b:=w.heap.size) (i:=2) _ (Ye _)).set (b:=w.heap.size) (i:=3) _ (Ye _)).set (b:=w.heap.size) (i:=4) _ (Ye _)).set (b:=w.heap.size) (i:=5) _ (Ye _)).set (b:=w.heap.size) (i:=6) _ (Ye _)).set (b:=w.heap.size) (i:=7) _ (Ye _))⟩):p:=h
theorem Ht(h:p:=by
 refine (cS HD3.src 4 ag).mono ?_;rintro e w4 ⟨he,hs,hg⟩;obtain⟨x4,rfl⟩:=eI he;clear he;have HD4:=aa (HD3.next hs hg);have G4:=aa (gk hg eh G3.out);clear hs hg G3 HD3;have HDA:=aa (HD4.alloc (Y8 #[I t1,Y7 Y6 (1+r2),I t3,Y9 (!x4),I ⟨#[]⟩] 50));have hA:w.heap.size<w4.heap.size:=ae G4.out;have GA:Hid ((w4.alloc (Y8 #[I t1,Y7 Y6 (1+r2),I t3,Y9 (!x4),I ⟨#[]⟩] 50)).heap[w4.heap.size]?=Y5 (Y8 #[I t1,Y7 Y6 (1+r2),I t3,Y9 (!x4),I ⟨#[]⟩] 50 (0,0))):=Yg;have GB:=aa ((Yl w4 (Y8 #[I t1,Y7 Y6 (1+r2),I t3,Y9 (!x4),I ⟨#[]⟩] 50) _ hA).trans G4.out);clear HD4 G4;go_wp2_with fail;refine (cS HDA.src 15 ag).mono ?_;rintro e w5 ⟨he,hs,hg⟩;have HDJ:=aa (HDA.next hs hg);have hpn:=HP.out;have GA':=aa (gk hg af GA.out);have GB':=aa (gk hg af GB.out);clear hs hg GA GB HDA;rcases he with rfl|rfl
 ·go_wp2_with fail;refine (HDJ.src.n 3 ag).mono ?_;rintro e w6 ⟨r6,rfl,ra6,rb6,hs,hg⟩;have HD6:=aa (HDJ.next hs hg);have GA6:=aa (gk hg af GA'.out);have GB6:=aa (gk hg af GB'.out);clear hs hg GA' GB' HDJ rb6;by_cases h0:r6=0
  ·subst h0;go_wp2_with fail;refine (lf HD6.src).mono ?_;rintro e w7 ⟨r7,rfl,ra7,rb7,hs,hg⟩;have z330z:=@aa _ @ac6;exact qe
  have q60:(r6==0)=Y_:=by simp[h0]
  by_cases h1:r6=1
  ·subst h1;go_wp2_with fail;refine (agK HD6.src).mono ?_;rintro e w7 ⟨t7,rfl,ht7,hs,hg⟩;have z330z:=@aa _ @ac5;exact qe
  have q61:(r6==1)=Y_:=by simp[h1]
  clear h0 h1;go_wp2_with fail;refine (bZ HD6.src [⟨#[100,49]⟩,⟨#[65]⟩] 2 _ _ aG rfl ag ag ag).mono ?_;rintro e w7 ⟨t7,rfl,ht7,hs,hg⟩;have z330z:=@aa _ @ac7;exact qe
 ·skip;have q3:=GA'.out;have q2:=GB'.out;have y0:w5.cell? ⟨w4.heap.size,0,U⟩=Y5 (I t1):=an q3 0;have yf0:=al q3 0;have y1:w5.cell? ⟨w4.heap.size,1,U⟩=Y5 (Y7 Y6 (1+r2)):=an q3 1;have yf1:=al q3 1;have y2:w5.cell? ⟨w4.heap.size,2,U⟩=Y5 (I t3):=an q3 2;have yf2:=al q3 2;have y3:w5.cell? ⟨w4.heap.size,3,U⟩=Y5 (Y9 (!x4)):=an q3 3;have yf3:=al q3 3;have y4:w5.cell? ⟨w4.heap.size,4,U⟩=Y5 (I ⟨#[]⟩):=an q3 4;have yf4:=al q3 4;have z0:w5.cell? ⟨w.heap.size,0,U⟩=Y5 (I ⟨#[]⟩):=an q2 0;have zf0:=al q2 0;have z1:w5.cell? ⟨w.heap.size,1,U⟩=Y5 (Y7 Y6 0):=an q2 1;have zf1:=al q2 1;have z2:w5.cell? ⟨w.heap.size,2,U⟩=Y5 (I ⟨#[]⟩):=an q2 2;have zf2:=al q2 2;have z3:w5.cell? ⟨w.heap.size,3,U⟩=Y5 (Y9 Y_):=an q2 3;have zf3:=al q2 3;have z4:w5.cell? ⟨w.heap.size,4,U⟩=Y5 (I ⟨#[]⟩):=an q2 4;have zf4:=al q2 4;clear q2 q3;go_wp2_with fail;exact bodyPost_ret (v:=Zc #[I t1,Y7 Y6 (1+r2),I t3,Y9 (!x4),I ⟨#[]⟩]) Af rfl ⟨_,_,_,_,_,rfl,ht1,ht3,ag,(((((HDJ.set (b:=w.heap.size) (i:=0) _ (Ye _)).set (b:=w.heap.size) (i:=1) _ (Ye _)).set (b:=w.heap.size) (i:=2) _ (Ye _)).set (b:=w.heap.size) (i:=3) _ (Ye _)).set (b:=w.heap.size) (i:=4) _ (Ye _))⟩):p:=h
theorem sL(h:p:=by
 rintro e w3 ⟨t3,rfl,ht3,hs,hg⟩;have HD3:=aa (HD2.next hs hg);have G3:=aa (gk hg eh G2.out);clear hs hg G2 HD2;go_wp2_with fail;exact z1438z):p:=h
theorem Hs(h:p:=by
 refine (HD1.src.n 20 ag).mono ?_;have z1091z:=@aa _ @MA;exact ng):p:=h
theorem Hr(h:p:=by
 exact z760z):p:=h
theorem sK(h:p:=by
 rintro e w1 ⟨t1,rfl,ht1,hs,hg⟩;have HD1:=aa (HD0.next hs hg);have G1:=aa (gk hg eh G0.out);clear hs hg G0 HD0;go_wp2_with fail;exact z1441z):p:=h
theorem Hn(h:p:=by
 rcases hf with ⟨i,x,hx,hn,rfl⟩|⟨hno,rfl⟩;rotate_left
 ·have HV:Hid (bl c t (co0 6)):=Ze ⟨2,⟨hl,HT.out,rfl,f_ hno⟩,rfl⟩;clear hno;have z1194z:=@aa _ @Lh;exact bD
 have HQ20:Hid (w.heap.size+1<w2.heap.size):=ae Br.out;have hri:=HT.2.1.2.2.2.2.2.2;have HW:=aa (jd hri hx hn);have HV:Hid (bl c t ⟨lg c t,⟨#[]⟩,0⟩):=Zd ⟨hl,HT.out,(bo hri hx hn).2,rfl⟩;have hi5:i<l5:=by have:=(Yc.1 hx).1;omega
 have hi0:¬(i:Int)<0:=af
 have h58:l5<=8:=by have:=HT.sm.p;omega
 clear hx hn hri;have z1194z:=@aa _ @Li;exact bD):p:=h
theorem Hm(h:p:=by
 have HO:=aa ho;have hq1:w.heap.size+1<w1.heap.size:=HQ1.out;have hq2:w1.heap.size<=w3.heap.size:=HQ2.out;clear ho;have z1227z:=@aa _ @KL;exact ef):p:=h
theorem Hl(h:p:=by
 obtain⟨x1,m1,n1,x2,m2,n2,x3,m3,n3,x4,m4,n4,x5,m5,n5⟩:=d';have HQ2:Hid (w.heap.size+1<w2.heap.size):=HQ20.out;have hm5:m5=l5:=by have h6:(c.ps.map pdF).length=m5:=ho.p.1;rw[Yo] at h6;omega
 subst hm5;have hmn:m5<=n5:=ho.p.2.1;have hmx:n5<=9223372036854775807:=ho.p.2.2.1;obtain⟨vss,H,hV,hcell⟩:=(ho.p.bm (S':=λk=>w2.heap.size<=k/\k<w3.heap.size) (λk hk s=>⟨s,hk⟩)).ju;have hvl:vss.length=m5:=by have h6:vss.length=(c.ps.map pdF).length:=hV.len;rw[Yo] at h6;omega
 obtain⟨b,hx5,hbS⟩:∃b,x5=Y5 ⟨b,0,U⟩/\b<w3.heap.size:=by
  exact Ox
 subst hx5;have HC:Hid (∀(j:Nat) u,vss.flatten[j]?=Y5 u->w3.cell? ⟨b,j,U⟩=Y5 u):=λj u hj=>by
  obtain⟨g,e,_,h3⟩:=hcell j u hj;cases e;exact h3
 have HVR:=aa hV;have HO:=aa ho;clear hV hcell ho;obtain⟨i5,hi5',hz0,hz1,hz2⟩:=info_parts nM;have HI0:=aa (Yb hi5' (Yb hz0 (Yb hz1 hz2)));clear hi5' hz0 hz1 hz2;have hq2:=HQ2.out;have hq3:=HQ3.out;have hown0:World.ownsRow ((w3.alloc (Y8 (clo6 x1 m1 n1 x2 m2 n2 x3 m3 n3 x4 m4 n4 (Y5 ⟨b,0,U⟩) m5 n5 c.now) 29)).alloc (Y8 #[] 40)) (w3.heap.size+1) 40 6 (J (Y5 ⟨w3.heap.size+1,0,U⟩) 0 0) 0 []:=⟨by simp,Zd ⟨w3.heap.size+1,0,#[],rfl,Ye _,eF _ _ _,Ye _,by unfold maxLen;omega,by simp,by simp⟩⟩;have HOW:=aa hown0;clear hown0;have hik:(i:Int)<=n5:=af
 go_wp2_with (first|(at_builtin;refine wpList_append_own _ rfl _ _ 27 rfl (w3.heap.size+1) 40 i5 (Zc #[I ⟨#[]⟩,Y7 Y6 0,I ⟨#[]⟩,J U 0 0,I ⟨#[]⟩,Y7 Y6 0]) 6 88 Tryz.underlying27 HI0.1 HI0.2.1 HI0.2.2.1 HI0.2.2.2 rfl ag _ 0 [] rfl (HOW.out) ⟨b,0,U⟩ i n5 (vss.take i).flatten rfl ?c1 ?c2 ?c3 ?c4 ?c5 ?c6 ?_));case c1=>exact bw HVR.all af
 case c2=>
  intro j u hu;rw[Yn,Yq];exact (ai (aS w3 _ _) hbS).trans (HC.out _ _ (cD hu))
 case c3=>exact (aD HVR.one i).1
 case c4=>unfold maxLen;omega
 case c5=>omega
 case c6=>simp
 rintro v1 w4 hown4 hgr4 -;replace hown4:w4.ownsRow (w3.heap.size+1) 40 6 v1 i (vss.take i).flatten:=by simpa using hown4
 have hb4:Below (w3.heap.size+1) (w3.alloc (Y8 (clo6 x1 m1 n1 x2 m2 n2 x3 m3 n3 x4 m4 n4 (Y5 ⟨b,0,U⟩) m5 n5 c.now) 29)) w4:=((Yh (w3.heap.size+1) _).alloc aG _).grown hgr4 aG (λg hg=>by simp[YL] at hg;omega);obtain⟨s1,s2,s3,rfl⟩:=aA hown4;have Bo4:=aa ((hb4.block w3.heap.size af).trans (heap_alloc_new w3 (Y8 (clo6 x1 m1 n1 x2 m2 n2 x3 m3 n3 x4 m4 n4 (Y5 ⟨b,0,U⟩) m5 n5 c.now) 29)));have HB34:=aa ((ak w3 (Y8 (clo6 x1 m1 n1 x2 m2 n2 x3 m3 n3 x4 m4 n4 (Y5 ⟨b,0,U⟩) m5 n5 c.now) 29)).trans (hb4.mono af));have HO4:=aa hown4;have Br4:=upK Br HB34.out;have hs4:=HB34.size;obtain⟨o0,o1,o2,o3,o4,o5⟩:=cs6 Bo4;have hol:=ae Bo4.out;clear hown4 hgr4 hb4 HOW;have hik1:((i:Int)+1)<=m5:=af
 by_cases hcap:n5=i+1
 ·subst hcap;have hmi:m5=i+1:=af
  have hd0:m5 - (i+1)=0:=af
  have hvd:vss.drop (i+1)=[]:=Yx af;go_wp2_with (first|(at_builtin;refine wpList_append_own _ rfl _ _ 27 rfl (w3.heap.size+1) 40 i5 (Zc #[I ⟨#[]⟩,Y7 Y6 0,I ⟨#[]⟩,J U 0 0,I ⟨#[]⟩,Y7 Y6 0]) 6 88 Tryz.underlying27 HI0.1 HI0.2.1 HI0.2.2.1 HI0.2.2.2 rfl ag _ _ _ rfl (HO4.out) ⟨b,0,U⟩ 0 0 [] rfl ?c1 ?c2 ?c3 ?c4 ?c5 ?c6 ?_));case c1=>rfl
  case c2=>intro j u hu;simp at hu
  case c3=>intro u hu;simp at hu
  case c4=>unfold maxLen;omega
  case c5=>omega
  case c6=>omega
  rintro v2 w5 hown5 hgr5 -;have hlen5:(wo Pd.n t c.ps).length=m5 - 1:=by rw[HW.out];simp;omega
  replace hown5:w5.ownsRow (w3.heap.size+1) 40 6 v2 (wo Pd.n t c.ps).length (vss.take i++vss.drop (i+1)).flatten:=by
   rw[hlen5,List.flatten_append];rw[hvd];simpa[hmi] using hown5
  have z215z:=@aa _ @aeB;exact zZ
 ·go_wp2_with (first|(at_builtin;refine wpList_append_own _ rfl _ _ 27 rfl (w3.heap.size+1) 40 i5 (Zc #[I ⟨#[]⟩,Y7 Y6 0,I ⟨#[]⟩,J U 0 0,I ⟨#[]⟩,Y7 Y6 0]) 6 88 Tryz.underlying27 HI0.1 HI0.2.1 HI0.2.2.1 HI0.2.2.2 rfl ag _ _ _ rfl (HO4.out) ⟨b,(i+1)*6,U⟩ (m5 - (i+1)) (n5 - (i+1)) (vss.drop (i+1)).flatten rfl ?c1 ?c2 ?c3 ?c4 ?c5 ?c6 ?_));case c1=>rw[dS HVR.all,hvl]
  case c2=>
   intro j u hu;rw[Yn];exact (ai HB34.out hbS).trans (HC.out _ _ (cV HVR.all af hu))
  case c3=>exact (aD HVR.one (i+1)).2
  case c4=>unfold maxLen;omega
  case c5=>omega
  case c6=>omega
  rintro v2 w5 hown5 hgr5 -;have hlen5:(wo Pd.n t c.ps).length=m5 - 1:=by rw[HW.out];simp;omega
  replace hown5:w5.ownsRow (w3.heap.size+1) 40 6 v2 (wo Pd.n t c.ps).length (vss.take i++vss.drop (i+1)).flatten:=by
   rw[hlen5,List.flatten_append];have e9:m5 - 1=i+(m5 - (i+1)):=af
   rw[e9];exact hown5
  have z215z:=@aa _ @aeA;exact zZ):p:=h
theorem Hk(h:p:=by
 obtain⟨x1,m1,n1,x2,m2,n2,x3,m3,n3,x4,m4,n4,x5,m5,n5⟩:=d';have hm1:m1=l1:=by have h6:(c.ns.map ndF).length=m1:=ho.n.1;rw[Yo] at h6;omega
 subst hm1;obtain⟨g,hga,hS⟩:=(ho.n.bm (S':=λk=>w1.heap.size<=k/\k<w3.heap.size) (λk hk s=>⟨s,hk⟩)).st (aI.refl _ w3) (i:=j) (r:=ndF n) (show (c.ns.map ndF)[j]?=Y5 (ndF n) by rw[Yv,HNJ.out];rfl);have hga':x1=Y5 ⟨g,0,U⟩:=hga;subst hga';obtain⟨hq1,hq2,hgS⟩:=alD;obtain⟨⟨hg1,hg2⟩,-⟩:=hgS;obtain⟨v5,hv5⟩:=hS.cell (i:=5) rfl;exact z827z):p:=h
theorem GI(h:p:=by
 obtain⟨ua,ul,uc,-,-,-,-,-,-,-,-,hd5,-⟩:=bg hat;clear hat hy;cases hd:n.d;rotate_left
 ·have HV:Hid (ib c t (co0 10)):=Zd ⟨n,HOK.out,Ze ⟨hd,rfl⟩⟩;rw[hd] at hd5;clear hd;have z1220z:=@aa _ @KT;exact fA
 have HV:Hid (ib c t ⟨o_ c t n,⟨#[]⟩,0⟩):=Zd ⟨n,HOK.out,Zd ⟨hd,rfl⟩⟩;have z827z:=@aa _ @Uq;exact yE):p:=h
theorem GH(h:p:=by
 obtain⟨ua,ul,uc,-,-,-,-,-,-,-,-,hd5,-⟩:=bg hat;clear hat hy;cases hd:n.d
 ·have HV:Hid (ia c t (co0 10)):=Zd ⟨n,HOK.out,Ze ⟨hd,rfl⟩⟩;rw[hd] at hd5;clear hd;have z1220z:=@aa _ @KQ;exact fA
 have HV:Hid (ia c t ⟨rq c t n,⟨#[]⟩,0⟩):=Zd ⟨n,HOK.out,Zd ⟨hd,rfl⟩⟩;have z827z:=@aa _ @Up;exact yE):p:=h
theorem mM(h:p:=by
 have HNJ:=aa hn;have HOK:=aa hok;clear hn hok;obtain⟨HT,hj1,hj2,hj0⟩:=alM;obtain⟨b,o,y,rfl,hbl,hy,hat⟩:=dh (HR.n.below HB.out) hj1;rw[HNJ.out] at hy;obtain rfl:=Yd hy;exact z1482z):p:=h
theorem FW(h:p:=by
 go_wp2;have hlo:=HLO.out;refine bodyPost_ret (v:=Zc #[J (Y5 ⟨g,0,U⟩) m1 n1,J x2 m2 n2,J x3 m3 n3,J x4 m4 n4,J x5 m5 n5,Y7 Y6 c.now,I ⟨#[]⟩,Y7 Y6 0]) NU rfl ⟨⟨Y5 ⟨g,0,U⟩,m1,n1,x2,m2,n2,x3,m3,n3,x4,m4,n4,x5,m5,n5⟩,⟨rq c t n,⟨#[]⟩,0⟩,rfl,HV.out,?_,Below.alloc (sb1 (sb1 (sb1 (sb1 (sb1 (sb1 (sb1 (sb1 (ah (show w.heap.size<=g by omega) (ah (show w.heap.size<=g by omega) (ah (show w.heap.size<=g by omega) (HB.out)))))))))))) iK _⟩;have hk2:∀k,w1.heap.size<=k->k<w3.heap.size->((((((((((((w3.setCell ⟨g,j*7+5,U⟩ (Y9 Y_)).setCell ⟨g,j*7+6,U⟩ (J U 0 0)).setCell ⟨g,j*7+4,U⟩ (Y7 Y6 0)).setCell ⟨w.heap.size+1,0,U⟩ (J (Y5 ⟨g,0,U⟩) m1 n1)).setCell ⟨w.heap.size+1,1,U⟩ (J x2 m2 n2)).setCell ⟨w.heap.size+1,2,U⟩ (J x3 m3 n3)).setCell ⟨w.heap.size+1,3,U⟩ (J x4 m4 n4)).setCell ⟨w.heap.size+1,4,U⟩ (J x5 m5 n5)).setCell ⟨w.heap.size+1,5,U⟩ (Y7 Y6 c.now)).setCell ⟨w.heap.size+1,6,U⟩ (I ⟨#[]⟩)).setCell ⟨w.heap.size+1,7,U⟩ (Y7 Y6 0)).alloc (Y8 (clo6 (Y5 ⟨g,0,U⟩) m1 n1 x2 m2 n2 x3 m3 n3 x4 m4 n4 x5 m5 n5 c.now) 29)).heap[k]?=(((w3.setCell ⟨g,j*7+5,U⟩ (Y9 Y_)).setCell ⟨g,j*7+6,U⟩ (J U 0 0)).setCell ⟨g,j*7+4,U⟩ (Y7 Y6 0)).heap[k]?:=λk h1 h2=>by
  refine (Yl _ _ _ (by simpa[World.setCell] using h2)).trans ?_;exact Aw
 have hk3:∀k,w1.heap.size<=k->¬k=g->k<w3.heap.size->((((((((((((w3.setCell ⟨g,j*7+5,U⟩ (Y9 Y_)).setCell ⟨g,j*7+6,U⟩ (J U 0 0)).setCell ⟨g,j*7+4,U⟩ (Y7 Y6 0)).setCell ⟨w.heap.size+1,0,U⟩ (J (Y5 ⟨g,0,U⟩) m1 n1)).setCell ⟨w.heap.size+1,1,U⟩ (J x2 m2 n2)).setCell ⟨w.heap.size+1,2,U⟩ (J x3 m3 n3)).setCell ⟨w.heap.size+1,3,U⟩ (J x4 m4 n4)).setCell ⟨w.heap.size+1,4,U⟩ (J x5 m5 n5)).setCell ⟨w.heap.size+1,5,U⟩ (Y7 Y6 c.now)).setCell ⟨w.heap.size+1,6,U⟩ (I ⟨#[]⟩)).setCell ⟨w.heap.size+1,7,U⟩ (Y7 Y6 0)).alloc (Y8 (clo6 (Y5 ⟨g,0,U⟩) m1 n1 x2 m2 n2 x3 m3 n3 x4 m4 n4 x5 m5 n5 c.now) 29)).heap[k]?=w3.heap[k]?:=λk h1 h3 h2=>by
  rw[hk2 k h1 h2,Ya _ _ _ _ h3,Ya _ _ _ _ h3,Ya _ _ _ _ h3]
 obtain⟨⟨cur,H,hbk,_⟩,_⟩:=HST.out;have h2:=((HST.ait (i:=5) rfl Y_).air (i:=6) rfl).AZ (i:=4) rfl 0;obtain⟨⟨cur2,H2,h3,_⟩,_,_⟩:=h2;have hns:(rq c t n).raw.n=(c.ns.map ndF).set j (ndF (Rp n)):=by
  show (c.ns.set (pl Nd.n c.ns t) (Rp n)).map ndF=_;rw[(bo HT.2.1.1.2.2 HNJ.out HOK.2.2.2).1,List.map_set]
 have far:∀{a l cp m T rs},aw w3 a l cp m T rs (λk=>w1.heap.size<=k)->¬83=T->aw ((((((((((((w3.setCell ⟨g,j*7+5,U⟩ (Y9 Y_)).setCell ⟨g,j*7+6,U⟩ (J U 0 0)).setCell ⟨g,j*7+4,U⟩ (Y7 Y6 0)).setCell ⟨w.heap.size+1,0,U⟩ (J (Y5 ⟨g,0,U⟩) m1 n1)).setCell ⟨w.heap.size+1,1,U⟩ (J x2 m2 n2)).setCell ⟨w.heap.size+1,2,U⟩ (J x3 m3 n3)).setCell ⟨w.heap.size+1,3,U⟩ (J x4 m4 n4)).setCell ⟨w.heap.size+1,4,U⟩ (J x5 m5 n5)).setCell ⟨w.heap.size+1,5,U⟩ (Y7 Y6 c.now)).setCell ⟨w.heap.size+1,6,U⟩ (I ⟨#[]⟩)).setCell ⟨w.heap.size+1,7,U⟩ (Y7 Y6 0)).alloc (Y8 (clo6 (Y5 ⟨g,0,U⟩) m1 n1 x2 m2 n2 x3 m3 n3 x4 m4 n4 x5 m5 n5 c.now) 29)) a l cp m T rs (λk=>w1.heap.size<=k):=λh hT=>(h.dH hbk.blk hT ag).ay (λk hk s=>hk3 k s.1 s.2 hk) (λk hk s=>s.1);have hR:aw (((w3.setCell ⟨g,j*7+5,U⟩ (Y9 Y_)).setCell ⟨g,j*7+6,U⟩ (J U 0 0)).setCell ⟨g,j*7+4,U⟩ (Y7 Y6 0)) (Y5 ⟨g,0,U⟩) m1 n1 7 83 (rq c t n).raw.n (λk=>w1.heap.size<=k/\k<w3.heap.size):=by
  exact OZ
 exact⟨(hR.ay (w':=((((((((((((w3.setCell ⟨g,j*7+5,U⟩ (Y9 Y_)).setCell ⟨g,j*7+6,U⟩ (J U 0 0)).setCell ⟨g,j*7+4,U⟩ (Y7 Y6 0)).setCell ⟨w.heap.size+1,0,U⟩ (J (Y5 ⟨g,0,U⟩) m1 n1)).setCell ⟨w.heap.size+1,1,U⟩ (J x2 m2 n2)).setCell ⟨w.heap.size+1,2,U⟩ (J x3 m3 n3)).setCell ⟨w.heap.size+1,3,U⟩ (J x4 m4 n4)).setCell ⟨w.heap.size+1,4,U⟩ (J x5 m5 n5)).setCell ⟨w.heap.size+1,5,U⟩ (Y7 Y6 c.now)).setCell ⟨w.heap.size+1,6,U⟩ (I ⟨#[]⟩)).setCell ⟨w.heap.size+1,7,U⟩ (Y7 Y6 0)).alloc (Y8 (clo6 (Y5 ⟨g,0,U⟩) m1 n1 x2 m2 n2 x3 m3 n3 x4 m4 n4 x5 m5 n5 c.now) 29))) (λk hk s=>hk2 k s.1 s.2) (λ_ _ s=>s)).rl (λk s=>loq),(far HO.k ag).rl (λk s=>loq),(far HO.v ag).rl (λk s=>loq),(far HO.x ag).rl (λk s=>loq),(far HO.p ag).rl (λk s=>loq)⟩):p:=h
theorem FV(h:p:=by
 obtain⟨hne,hne2⟩:=N2;go_wp2;have hlo:=HLO.out;refine bodyPost_ret (v:=Zc #[J d'.a1 d'.l1 d'.c1,J d'.a2 d'.l2 d'.c2,J d'.a3 d'.l3 d'.c3,J d'.a4 d'.l4 d'.c4,J d'.a5 d'.l5 d'.c5,Y7 Y6 (c.now+n),I ⟨#[]⟩,Y7 Y6 0]) NT rfl ⟨d',⟨later c n,⟨#[]⟩,0⟩,rfl,HV.out,?_,Below.alloc (sb1 (sb1 (sb1 (sb1 (sb1 (sb1 (sb1 (sb1 (HB.out))))))))) bL _⟩;have hkeep:∀k,w1.heap.size<=k->k<w3.heap.size->(((((((((w3.setCell ⟨w.heap.size+1,0,U⟩ (J d'.a1 d'.l1 d'.c1)).setCell ⟨w.heap.size+1,1,U⟩ (J d'.a2 d'.l2 d'.c2)).setCell ⟨w.heap.size+1,2,U⟩ (J d'.a3 d'.l3 d'.c3)).setCell ⟨w.heap.size+1,3,U⟩ (J d'.a4 d'.l4 d'.c4)).setCell ⟨w.heap.size+1,4,U⟩ (J d'.a5 d'.l5 d'.c5)).setCell ⟨w.heap.size+1,5,U⟩ (Y7 Y6 (c.now+n))).setCell ⟨w.heap.size+1,6,U⟩ (I ⟨#[]⟩)).setCell ⟨w.heap.size+1,7,U⟩ (Y7 Y6 0)).alloc (Y8 (clv d' (c.now+n)) 29)).heap[k]?=w3.heap[k]?:=λk h1 h2=>by refine (Yl _ _ _ (by simpa using h2)).trans ?_;rw[Ya _ _ _ _ (show k≠w.heap.size+1 by omega),Ya _ _ _ _ (show k≠w.heap.size+1 by omega),Ya _ _ _ _ (show k≠w.heap.size+1 by omega),Ya _ _ _ _ (show k≠w.heap.size+1 by omega),Ya _ _ _ _ (show k≠w.heap.size+1 by omega),Ya _ _ _ _ (show k≠w.heap.size+1 by omega),Ya _ _ _ _ (show k≠w.heap.size+1 by omega),Ya _ _ _ _ (show k≠w.heap.size+1 by omega)]
 refine⟨?_,?_,?_,?_,?_⟩
 ·exact (HO.n.ay (w':=(((((((((w3.setCell ⟨w.heap.size+1,0,U⟩ (J d'.a1 d'.l1 d'.c1)).setCell ⟨w.heap.size+1,1,U⟩ (J d'.a2 d'.l2 d'.c2)).setCell ⟨w.heap.size+1,2,U⟩ (J d'.a3 d'.l3 d'.c3)).setCell ⟨w.heap.size+1,3,U⟩ (J d'.a4 d'.l4 d'.c4)).setCell ⟨w.heap.size+1,4,U⟩ (J d'.a5 d'.l5 d'.c5)).setCell ⟨w.heap.size+1,5,U⟩ (Y7 Y6 (c.now+n))).setCell ⟨w.heap.size+1,6,U⟩ (I ⟨#[]⟩)).setCell ⟨w.heap.size+1,7,U⟩ (Y7 Y6 0)).alloc (Y8 (clv d' (c.now+n)) 29))) (λk hk s=>hkeep k s hk) (λ_ _ s=>s)).rl (λk s=>loq)
 ·exact (HO.k.ay (w':=(((((((((w3.setCell ⟨w.heap.size+1,0,U⟩ (J d'.a1 d'.l1 d'.c1)).setCell ⟨w.heap.size+1,1,U⟩ (J d'.a2 d'.l2 d'.c2)).setCell ⟨w.heap.size+1,2,U⟩ (J d'.a3 d'.l3 d'.c3)).setCell ⟨w.heap.size+1,3,U⟩ (J d'.a4 d'.l4 d'.c4)).setCell ⟨w.heap.size+1,4,U⟩ (J d'.a5 d'.l5 d'.c5)).setCell ⟨w.heap.size+1,5,U⟩ (Y7 Y6 (c.now+n))).setCell ⟨w.heap.size+1,6,U⟩ (I ⟨#[]⟩)).setCell ⟨w.heap.size+1,7,U⟩ (Y7 Y6 0)).alloc (Y8 (clv d' (c.now+n)) 29))) (λk hk s=>hkeep k s hk) (λ_ _ s=>s)).rl (λk s=>loq)
 ·exact (HO.v.ay (w':=(((((((((w3.setCell ⟨w.heap.size+1,0,U⟩ (J d'.a1 d'.l1 d'.c1)).setCell ⟨w.heap.size+1,1,U⟩ (J d'.a2 d'.l2 d'.c2)).setCell ⟨w.heap.size+1,2,U⟩ (J d'.a3 d'.l3 d'.c3)).setCell ⟨w.heap.size+1,3,U⟩ (J d'.a4 d'.l4 d'.c4)).setCell ⟨w.heap.size+1,4,U⟩ (J d'.a5 d'.l5 d'.c5)).setCell ⟨w.heap.size+1,5,U⟩ (Y7 Y6 (c.now+n))).setCell ⟨w.heap.size+1,6,U⟩ (I ⟨#[]⟩)).setCell ⟨w.heap.size+1,7,U⟩ (Y7 Y6 0)).alloc (Y8 (clv d' (c.now+n)) 29))) (λk hk s=>hkeep k s hk) (λ_ _ s=>s)).rl (λk s=>loq)
 ·exact (HO.x.ay (w':=(((((((((w3.setCell ⟨w.heap.size+1,0,U⟩ (J d'.a1 d'.l1 d'.c1)).setCell ⟨w.heap.size+1,1,U⟩ (J d'.a2 d'.l2 d'.c2)).setCell ⟨w.heap.size+1,2,U⟩ (J d'.a3 d'.l3 d'.c3)).setCell ⟨w.heap.size+1,3,U⟩ (J d'.a4 d'.l4 d'.c4)).setCell ⟨w.heap.size+1,4,U⟩ (J d'.a5 d'.l5 d'.c5)).setCell ⟨w.heap.size+1,5,U⟩ (Y7 Y6 (c.now+n))).setCell ⟨w.heap.size+1,6,U⟩ (I ⟨#[]⟩)).setCell ⟨w.heap.size+1,7,U⟩ (Y7 Y6 0)).alloc (Y8 (clv d' (c.now+n)) 29))) (λk hk s=>hkeep k s hk) (λ_ _ s=>s)).rl (λk s=>loq)
 ·exact (HO.p.ay (w':=(((((((((w3.setCell ⟨w.heap.size+1,0,U⟩ (J d'.a1 d'.l1 d'.c1)).setCell ⟨w.heap.size+1,1,U⟩ (J d'.a2 d'.l2 d'.c2)).setCell ⟨w.heap.size+1,2,U⟩ (J d'.a3 d'.l3 d'.c3)).setCell ⟨w.heap.size+1,3,U⟩ (J d'.a4 d'.l4 d'.c4)).setCell ⟨w.heap.size+1,4,U⟩ (J d'.a5 d'.l5 d'.c5)).setCell ⟨w.heap.size+1,5,U⟩ (Y7 Y6 (c.now+n))).setCell ⟨w.heap.size+1,6,U⟩ (I ⟨#[]⟩)).setCell ⟨w.heap.size+1,7,U⟩ (Y7 Y6 0)).alloc (Y8 (clv d' (c.now+n)) 29))) (λk hk s=>hkeep k s hk) (λ_ _ s=>s)).rl (λk s=>loq)):p:=h
theorem FO(h:p:=by
 have z154z:=@aa _ @afs;exact cH):p:=h
theorem gP(h:p:=by
 refine (aJ 6 _).mono ?_;rintro e w3 ⟨rfl,hb⟩;clear k0 k1 k2 k3 k4 k5 ltk_2;replace Bk:=upK Bk hb;exact z1528z):p:=h
theorem Fa(h:p:=by
 obtain⟨r0,r1,r2,r3,r4,r5,r6,r7⟩:=cs8 Br;have ltr_3:=ae Br.out;obtain⟨o0,o1,o2,o3,o4,o5⟩:=cs6 Bo;have lto_3:=ae Bo.out;obtain⟨fr0,fr1,fr2,fr3,fr4,fr5,fr6,fr7⟩:=gJ;obtain⟨fo0,fo1,fo2,fo3,fo4,fo5⟩:=N6;have hrl:w.heap.size+1<w3.heap.size:=af
 obtain⟨hne,hne2⟩:=N3;go_wp2;exact z1214z):p:=h
theorem E3(h:p:=by
 refine bodyPost_ret (v:=Zc #[J (Y5 ⟨g,0,U⟩) m1 n1,J x2 m2 n2,J x3 m3 n3,J x4 m4 n4,J x5 m5 n5,Y7 Y6 c.now,I ⟨#[]⟩,Y7 Y6 0]) NV rfl ⟨⟨Y5 ⟨g,0,U⟩,m1,n1,x2,m2,n2,x3,m3,n3,x4,m4,n4,x5,m5,n5⟩,⟨o_ c t n,⟨#[]⟩,0⟩,rfl,HV.out,?_,sb1 (sb1 (sb1 (sb1 (sb1 (sb1 (sb1 (sb1 (HB4.out))))))))⟩;have hk4:∀k,k<w4.heap.size->w1.heap.size<=k/\k<w3.heap.size->((((((((w4.setCell ⟨w.heap.size+1,0,U⟩ (J (Y5 ⟨g,0,U⟩) m1 n1)).setCell ⟨w.heap.size+1,1,U⟩ (J x2 m2 n2)).setCell ⟨w.heap.size+1,2,U⟩ (J x3 m3 n3)).setCell ⟨w.heap.size+1,3,U⟩ (J x4 m4 n4)).setCell ⟨w.heap.size+1,4,U⟩ (J x5 m5 n5)).setCell ⟨w.heap.size+1,5,U⟩ (Y7 Y6 c.now)).setCell ⟨w.heap.size+1,6,U⟩ (I ⟨#[]⟩)).setCell ⟨w.heap.size+1,7,U⟩ (Y7 Y6 0)).heap[k]?=w4.heap[k]?:=λk _ h1=>by rw[Ya _ _ _ _ (show k≠w.heap.size+1 by omega),Ya _ _ _ _ (show k≠w.heap.size+1 by omega),Ya _ _ _ _ (show k≠w.heap.size+1 by omega),Ya _ _ _ _ (show k≠w.heap.size+1 by omega),Ya _ _ _ _ (show k≠w.heap.size+1 by omega),Ya _ _ _ _ (show k≠w.heap.size+1 by omega),Ya _ _ _ _ (show k≠w.heap.size+1 by omega),Ya _ _ _ _ (show k≠w.heap.size+1 by omega)]
 exact ahW):p:=h
theorem su(h:p:=by
 obtain⟨o0,o1,o2,o3,o4,o5⟩:=cs6 Bo4;obtain⟨r0,r1,r2,r3,r4,r5,r6,r7⟩:=cs8 Br4;obtain⟨fr0,fr1,fr2,fr3,fr4,fr5,fr6,fr7,hol,hrl⟩:=alN;obtain⟨hne5,hne6⟩:=An;go_wp2;have hlo:=HLO.out;exact z1584z):p:=h
theorem Ee(h:p:=by
 have h5:=(HP.p.bm (S':=λk=>(w1.heap.size<=k/\P k=5)/\k<w2.heap.size) (λk hk s=>⟨s,hk⟩)).below (ak w2 (Y8 (clv d' c.now) 29));refine (Bj d'.a5 d'.l5 d'.c5 c.ps t _ _ h5 (by have h6:=HP.p.1;have h7:(c.ps.map pdF).length=d'.l5:=h6;rw[Yo] at h7;have:=HS.p;omega)).mono ?_;have z1214z:=@aa _ @K1;exact tx):p:=h
theorem Ed(h:p:=by
 have h5:=(HP.v.bm (S':=λk=>(w1.heap.size<=k/\P k=3)/\k<w2.heap.size) (λk hk s=>⟨s,hk⟩)).below (ak w2 (Y8 (clv d' c.now) 29));refine (pb d'.a3 d'.l3 d'.c3 c.vs t _ _ h5 (by have h6:=HP.v.1;have h7:(c.vs.map vdF).length=d'.l3:=h6;rw[Yo] at h7;have:=HS.v;omega)).mono ?_;have z1214z:=@aa _ @KZ;exact tx):p:=h
theorem r_(h:p:=by
 obtain⟨P,hP⟩:=ho;obtain⟨HP,hq1,hq2⟩:=Og;clear hP;obtain⟨r0,r1,r2,r3,r4,r5,r6,r7⟩:=cs8 Br;have ltr_2:=ae Br.out;go_wp2_with fail;exact z1654z):p:=h
theorem D5(h:p:=by
 rintro e w3 ⟨d',rfl,ho,hb⟩;have HQ3:=aa hb.size;clear k0 k1 k2 k3 k4 k5 ltk_2;have z1444z:=@aa _ @Hl;exact ba):p:=h
theorem D0(h:p:=by
 have z1z:=@aa _ @aly;exact ff):p:=h
theorem jD(h:p:=by
 have HV:=aa hV;clear hV;have hp1:(p==0)=Y_:=kR
 obtain⟨k0,k1,k2,k3,k4,k5⟩:=cs6 Bk;have ltk_1:=ae Bk.out;go_wp2_with fail;refine (aJ p _).mono ?_;exact z1674z):p:=h
theorem DS(h:p:=by
 obtain⟨HA0,HA1,hbx⟩:=dP hb;obtain⟨Bk,Br⟩:=vY;replace HB:=upB HB hbx;clear hb hbx HA0 HA1;rcases hf with ⟨i,p,hw,hpi,hp0,rfl⟩|⟨j,n,hn,hok,rfl⟩
 ·have HV:Hid (ib c t (co0 p)):=Ze ⟨i,hw,by rw[hpi]⟩;have hp1:(p==0)=Y_:=kR
  clear hw hpi hp0;have z1220z:=@aa _ @KU;exact fA
 have z1482z:=@aa _ @GI;exact mM):p:=h
theorem DR(h:p:=by
 obtain⟨HA0,HA1,hbx⟩:=dP hb;obtain⟨Bk,Br⟩:=vY;replace HB:=upB HB hbx;clear hb hbx HA0 HA1;rcases hf with ⟨i,p,hw,hpi,hp0,rfl⟩|⟨j,n,hn,hok,rfl⟩
 ·have HV:Hid (ia c t (co0 p)):=Ze ⟨i,hw,by rw[hpi]⟩;have hp1:(p==0)=Y_:=kR
  clear hw hpi hp0;have z1220z:=@aa _ @KR;exact fA
 have z1482z:=@aa _ @GH;exact mM):p:=h
theorem mr(h:p:=by
 go_wp2_with fail;refine (A2 ⟨a1,l1,y1,a2,l2,y2,a3,l3,y3,a4,l4,y4,a5,l5,y5⟩ c t _ (HR.below (HB.trans ((aS _ _ _).mono HB.size)))).mono ?_;rintro e w1 ⟨hb,hf⟩;exact z1685z):p:=h
theorem Dp(h:p:=by
 have z1227z:=@aa _ @KM;exact ef):p:=h
theorem rW(h:p:=by
 have HST:=aa hS;have HO:=aa ho;have hne:¬g=w3.heap.size:=af
 have hne2:¬w3.heap.size=g:=af
 have hne3:¬g=w.heap.size+1:=af
 have hne4:¬w.heap.size+1=g:=af
 obtain⟨hne5,hne6⟩:=An;clear hS ho hga;exact z1718z):p:=h
theorem C7(h:p:=by
 exact z557z):p:=h
theorem mj(h:p:=by
 obtain⟨fr0,fr1,fr2,fr3,fr4,fr5,fr6,fr7⟩:=gJ;have hrl:w.heap.size+1<w3.heap.size:=ae Br.out;go_wp2;exact z1741z):p:=h
theorem az.copy(h:w.heap[b]?=Y5 (Y8 (zs.map Ym).toArray T (0,0))) (hl:zs.length=len) (hl2:len<=1048576) (hs:∀(j:Nat) x,zs[j]?=Y5 x->x.size<=9223372036854775807):
  az w (Y5 ⟨b,0,U⟩) len len zs:=by
 refine⟨hl,Ye _,by omega,hs,?_⟩;by_cases hz:zs=[]
 ·exact Or.inl hz
 refine Or.inr ⟨b,0,rfl,?_,λj x hx=>?_⟩
 ·exact PB
 ·rw[an h];simp[hx]
theorem cs3(h:w.heap[b]?=Y5 (Y8 #[v0,v1,v2] T (0,0))):w.cell? ⟨b,0,U⟩=Y5 v0/\w.cell? ⟨b,1,U⟩=Y5 v1/\w.cell? ⟨b,2,U⟩=Y5 v2:=⟨an h 0,an h 1,an h 2⟩
theorem cs9 {v3 v4 v5 v6 v7 v8:Value} (h:w.heap[b]?=Y5 (Y8 #[v0,v1,v2,v3,v4,v5,v6,v7,v8] T (0,0))):w.cell? ⟨b,0,U⟩=Y5 v0/\w.cell? ⟨b,1,U⟩=Y5 v1/\w.cell? ⟨b,2,U⟩=Y5 v2/\w.cell? ⟨b,3,U⟩=Y5 v3/\w.cell? ⟨b,4,U⟩=Y5 v4/\w.cell? ⟨b,5,U⟩=Y5 v5/\w.cell? ⟨b,6,U⟩=Y5 v6/\w.cell? ⟨b,7,U⟩=Y5 v7/\w.cell? ⟨b,8,U⟩=Y5 v8:=⟨an h 0,an h 1,an h 2,an h 3,an h 4,an h 5,an h 6,an h 7,an h 8⟩
theorem B_ {o p q:Obj} (h:Below (((w.alloc o).alloc p).alloc q).heap.size (((w.alloc o).alloc p).alloc q) w'):w'.heap[w.heap.size]?=Y5 o/\w'.heap[w.heap.size+1]?=Y5 p/\w'.heap[w.heap.size+1+1]?=Y5 q/\Below w.heap.size w w':=by
 obtain⟨h1,h2⟩:=aV h;rw[cw,cw] at h1;obtain⟨h3,h4,h5⟩:=dP h2;exact⟨h3,h4,h1,h5⟩
namespace Rc
theorem aT.nil(a:Option Addr) (cap m:Nat) (h:cap<=9223372036854775807):aT w a 0 cap m []:=⟨rfl,YK _,h,Ze rfl⟩
section
variable {g m:Nat} {T:TypeId} {S N:Nat->Prop} {w wr w2:World} {rs:List (List Fv)} {j:Nat} {r:List Fv}
theorem StJ.below(h:StJ g m T S N w wr rs j r) (hb:Below wr.heap.size wr w2):StJ g m T S N w w2 rs j r:=by
 obtain⟨⟨cur,H,h1,hN⟩,h2,h3⟩:=h;exact⟨⟨cur,H,h1.ay (λk hk _=>hb.block k hk) (λ_ _ s=>s),hN⟩,h2.below hb,h3⟩
theorem StJ.fresh(h:StJ g m T S N w wr rs j r) (hb:Below wr.heap.size wr w2):StJ g m T S (λk=>wr.heap.size<=k) w w2 rs j r:=by
 obtain⟨⟨cur,H,h1,hN⟩,h2,h3⟩:=h;refine⟨⟨cur,H,h1.ay (λk hk _=>hb.block k hk) (λ_ _ s=>s),λj' r' i' zs hj hi hz hk=>?_⟩,h2.below hb,h3⟩;obtain⟨v,h4,a,len,cap,rfl,h5,h6,h7,h8,h9⟩:=h1.cell j' r' hj i' _ hi;rcases h9 with h9|⟨q1,q2,q3,cu,q4,q5⟩
 ·exact hz h9
 ·have:=ae q4;omega
theorem StJ.am2(h:StJ g m T S N w wr rs j r) {i:Nat} {old:Fv} (hi:r[i]?=Y5 old) {b:Nat} (zs:List ByteArray) {len cap:Nat} (hb:zs≠[]->N b) (hv:BJ wr b S g zs (J (Y5 ⟨b,0,U⟩) len cap)):
  StJ g m T S (λk=>N k/\¬k=b) w (wr.setCell ⟨g,j*m+i,U⟩ (J (Y5 ⟨b,0,U⟩) len cap)) rs j (r.set i (.l zs)):=by
 have z371z:=@aa _ @acB;exact zK
end
theorem StJ.ait {N:Nat->Prop} {rs:List (List Fv)} {r:List Fv} (h:StJ g m T S N w wr rs j r) {i:Nat} {old:Fv} (hi:r[i]?=Y5 old) (t:Bool):StJ g m T S N w (wr.setCell ⟨g,j*m+i,U⟩ (Y9 t)) rs j (r.set i (.b t)):=h.set hi (.b t) rfl trivial
theorem vn(h:¬i=j):(w.setCell ⟨g,i,U⟩ v).cell? ⟨g,j,U⟩=w.cell? ⟨g,j,U⟩:=by
 cases hg:w.heap[g]? with
 | none=>
  have hs:(w.setCell ⟨g,i,U⟩ v).heap[g]?=U:=by
   have h1:=Array.getElem?_eq_none_iff.1 hg;exact Array.getElem?_eq_none_iff.2 (by simpa[World.setCell] using h1)
  simp[World.cell?,hg,hs]
 | some o=>
  cases o with
  | cells cs t fr=>
   have:=av (i:=i) hg v;simp only[World.cell?,hg,this]
   simp[Array.getElem?_setIfInBounds_ne h]
  | _=>simp[World.cell?,World.setCell,Array.getElem?_modify,hg]
theorem uO(a:Option Addr) (len cap:Nat) (xs:List Pd) (t:ByteArray) (w:World) (hr:aT w a len cap 6 (xs.map pdF)):
  Calls Tryz.prog 118 #[J a len cap,I t] w λe w'=>e=Za (Zg #[Y7 Y6 (pl Pd.n xs t:Nat),Y9 (hit Pd.n xs t)])/\Below w.heap.size w w':=by
 obtain⟨HR,hxl,hlc⟩:=nt;clear hr;have z1368z:=@aa _ @IU;exact mS
def aic(xs:List Pd) (t:ByteArray) (r w:World) (e:Ending) (w':World):Prop:=
 Below w.heap.size w w'/\((hit Pd.n xs t=Zb/\∃(x:Pd) (va:Option Addr) (vl vc:Nat),xs[pl Pd.n xs t]?=Y5 x/\x.n=t/\e=Za (Zg #[Zc #[I x.n,Y7 Y6 x.c,I x.z,J va vl vc,I x.d,Y7 Y6 x.p],Y9 Zb])/\x.n.size<=9223372036854775807/\x.z.size<=9223372036854775807/\x.d.size<=9223372036854775807/\az r va vl vc x.zs)\/(hit Pd.n xs t=Y_/\e=Za (Zg #[Zc #[I ⟨#[]⟩,Y7 Y6 0,I ⟨#[]⟩,J U 0 0,I ⟨#[]⟩,Y7 Y6 0],Y9 Y_])))
theorem xF(a:Option Addr) (len cap:Nat) (xs:List Pd) (t:ByteArray) (r w:World) (hr:aT r a len cap 6 (xs.map pdF)) (hrw:Below r.heap.size r w):
  Calls Tryz.prog 73 #[J a len cap,I t] w (aic xs t r w):=by
 obtain⟨HR,HRW,hxl⟩:=ur;have HR1:=aa ((hr.below hrw).below (ak w (Y8 #[I ⟨#[]⟩,Y7 Y6 0,I ⟨#[]⟩,J U 0 0,I ⟨#[]⟩,Y7 Y6 0] 40)));clear hr hrw;go_enter Tryz.func73,Tryz.ntmps73;go_wp2_with fail;refine (uO a len cap xs t _ HR1.out).mono ?_;have z386z:=@aa _ @aco;exact lE
def BK(c:Cl) (t:ByteArray):Prop:=∃(i:Nat) (x:Xd),c.xs[i]?=Y5 x/\x.n=t
theorem BK.no(hr:aq c) (h:hit Xd.n c.xs t=Y_):¬BK c t:=λ⟨i,x,h1,h2⟩=>by
 have:=(bo hr.2.1.2.2.2.1.2.2 h1 h2).2;rw[h] at this;cases this
def AskWhy(c:Cl) (t:ByteArray):Nat->Prop
 | 0=>8000<t.size
 | 1=>¬8000<t.size/\¬aq c
 | 2=>¬8000<t.size/\aq c/\¬BK c t
 | _=>False
def agT(Is:Co->Prop) (w:World) (e:Ending) (w':World):Prop:=∃g o,e=Za (Zc #[J g.a1 g.l1 g.c1,J g.a2 g.l2 g.c2,J g.a3 g.l3 g.c3,J g.a4 g.l4 g.c4,J g.a5 g.l5 g.c5,Y7 Y6 o.c.now,I o.n,Y7 Y6 o.p])/\Is o/\aB w' g o.c.raw/\Below w.heap.size w w'
theorem BR {vs:List Value} {a0 a1 a2 a3 a4 a5:Value} (hl:vs.length=6) (h0:vs[0]?=Y5 a0) (h1:vs[1]?=Y5 a1) (h2:vs[2]?=Y5 a2) (h3:vs[3]?=Y5 a3) (h4:vs[4]?=Y5 a4) (h5:vs[5]?=Y5 a5):vs=[a0,a1,a2,a3,a4,a5]:=by
 apply List.ext_getElem?;intro i;rcases i with _|_|_|_|_|_|i
 ·exact h0
 ·exact h1
 ·exact h2
 ·exact h3
 ·exact h4
 ·exact h5
 ·exact wG
theorem Bj(a:Option Addr) (len cap:Nat) (xs:List Pd) (t:ByteArray) (Q:Nat->Prop) (w:World) (ho:aw w a len cap 6 40 (xs.map pdF) Q) (hl:len<=8):
  Calls Tryz.prog 42 #[J a len cap,I t] w λe w'=> ∃a' l' c',e=Za (J a' l' c')/\aw w' a' l' c' 6 40 ((wo Pd.n t xs).map pdF) (λk=>Q k\/w.heap.size<=k)/\Below w.heap.size w w':=by
 have z986z:=@aa _ @R9;exact pE
theorem dk.ane {w3 w4:World} {c:Cr} {P:Nat->Nat} (h:dk w2 d c (λk=>B<=k) P) (hB:B<=w2.heap.size) {a:Option Addr} {l cp:Nat} {rs:List (List Fv)} (hN:aw w3 a l cp 8 38 rs (λk=>((B<=k/\P k=3)/\k<w2.heap.size)\/w2.heap.size+1<=k)) (hb:Below w2.heap.size w2 w3) (hk:∀k,B<=k->¬k=w2.heap.size->w4.heap[k]?=w3.heap[k]?):dK w4 ⟨d.a1,d.l1,d.c1,d.a2,d.l2,d.c2,a,l,cp,d.a4,d.l4,d.c4,d.a5,d.l5,d.c5⟩ ⟨c.n,c.k,rs,c.x,c.p⟩ (λk=>B<=k):=by
 refine⟨λk=>if w2.heap.size+1<=k then 3 else P k,?_,?_,?_,?_,?_⟩
 ·exact h.n.ay (λk hl s=>(hk k s.1 af).trans (hb.block k hl)) (λk hl s=>⟨s.1,by show (if w2.heap.size+1<=k then 3 else P k)=1;rw[if_neg af];exact s.2⟩)
 ·exact h.k.ay (λk hl s=>(hk k s.1 af).trans (hb.block k hl)) (λk hl s=>⟨s.1,by show (if w2.heap.size+1<=k then 3 else P k)=2;rw[if_neg af];exact s.2⟩)
 ·have z409z:=@aa _ @ab9;exact p8
 ·exact h.x.ay (λk hl s=>(hk k s.1 af).trans (hb.block k hl)) (λk hl s=>⟨s.1,by show (if w2.heap.size+1<=k then 3 else P k)=4;rw[if_neg af];exact s.2⟩)
 ·exact h.p.ay (λk hl s=>(hk k s.1 af).trans (hb.block k hl)) (λk hl s=>⟨s.1,by show (if w2.heap.size+1<=k then 3 else P k)=5;rw[if_neg af];exact s.2⟩)
theorem dk.anc {w3 w4:World} {c:Cr} {P:Nat->Nat} (h:dk w2 d c (λk=>B<=k) P) (hB:B<=w2.heap.size) {a:Option Addr} {l cp:Nat} {rs:List (List Fv)} (hN:aw w3 a l cp 6 40 rs (λk=>((B<=k/\P k=5)/\k<w2.heap.size)\/w2.heap.size+1<=k)) (hb:Below w2.heap.size w2 w3) (hk:∀k,B<=k->¬k=w2.heap.size->w4.heap[k]?=w3.heap[k]?):dK w4 ⟨d.a1,d.l1,d.c1,d.a2,d.l2,d.c2,d.a3,d.l3,d.c3,d.a4,d.l4,d.c4,a,l,cp⟩ ⟨c.n,c.k,c.v,c.x,rs⟩ (λk=>B<=k):=by
 refine⟨λk=>if w2.heap.size+1<=k then 5 else P k,?_,?_,?_,?_,?_⟩
 ·exact h.n.ay (λk hl s=>(hk k s.1 af).trans (hb.block k hl)) (λk hl s=>⟨s.1,by show (if w2.heap.size+1<=k then 5 else P k)=1;rw[if_neg af];exact s.2⟩)
 ·exact h.k.ay (λk hl s=>(hk k s.1 af).trans (hb.block k hl)) (λk hl s=>⟨s.1,by show (if w2.heap.size+1<=k then 5 else P k)=2;rw[if_neg af];exact s.2⟩)
 ·exact h.v.ay (λk hl s=>(hk k s.1 af).trans (hb.block k hl)) (λk hl s=>⟨s.1,by show (if w2.heap.size+1<=k then 5 else P k)=3;rw[if_neg af];exact s.2⟩)
 ·exact h.x.ay (λk hl s=>(hk k s.1 af).trans (hb.block k hl)) (λk hl s=>⟨s.1,by show (if w2.heap.size+1<=k then 5 else P k)=4;rw[if_neg af];exact s.2⟩)
 ·have z409z:=@aa _ @ab8;exact p8
def dJ(c:Cl) (t:ByteArray) (St:Nat->Prop) (ok:Prop) (r:Cl) (o:Co):Prop:=(∃i,DwWhy c t St i/\o=co0 (bB i))\/(¬8000<t.size/\aq c/\ok/\o=⟨r,⟨#[]⟩,0⟩)
theorem dJ.same {r:Cl} (h1:∀i j,St i->St j->i=j) (h2:∀i,St i->¬ok) {o o':Co} (h:dJ c t St ok r o) (h':dJ c t St ok r o'):o=o':=by
 rcases h with ⟨i,a,rfl⟩|⟨a1,a2,a3,rfl⟩ <;> rcases h' with ⟨j,b,rfl⟩|⟨b1,b2,b3,rfl⟩
 ·have:i=j:=by
   rcases i with _|_|i <;> rcases j with _|_|j <;> simp only[DwWhy] at a b
   ·rfl
   ·exact absurd a b.1
   ·exact absurd a b.1
   ·exact absurd b a.1
   ·rfl
   ·exact absurd b.2.1 a.2
   ·exact absurd b a.1
   ·exact absurd a.2.1 b.2
   ·exact h1 _ _ a.2.2 b.2.2
  rw[this]
 ·rcases i with _|_|i <;> simp only[DwWhy] at a
  ·exact absurd a b1
  ·exact absurd b2 a.2
  ·exact absurd b3 (h2 _ a.2.2)
 ·rcases j with _|_|j <;> simp only[DwWhy] at b
  ·exact absurd b a1
  ·exact absurd a2 b.2
  ·exact absurd a3 (h2 _ b.2.2)
 ·rfl
theorem Rg(d:Ad) (c:Cl) (t:ByteArray) (E:Nat->Addr) (St:Nat->Prop) (ok:Prop) (w:World) (hr:aB w d c.raw) (hG:Ers w E) (hst:∀W,aB W d c.raw->aq c->Ers W E->¬8000<t.size->Calls Tryz.prog 41 #[Zc #[J d.a1 d.l1 d.c1,J d.a2 d.l2 d.c2,J d.a3 d.l3 d.c3,J d.a4 d.l4 d.c4,J d.a5 d.l5 d.c5,Y7 Y6 c.now],I t] W (qQ E (λi=>2<=i/\St i) ok W)):
  Calls Tryz.prog 19 #[Zc #[J d.a1 d.l1 d.c1,J d.a2 d.l2 d.c2,J d.a3 d.l3 d.c3,J d.a4 d.l4 d.c4,J d.a5 d.l5 d.c5,Y7 Y6 c.now],I t,.func (.func 41) #[] #[]] w (qQ E (DwWhy c t St) (ak_ c t ok) w):=by
 exact QJ
theorem Rf(d:Ad) (c:Cl) (t:ByteArray) (E:Nat->Addr) (St:Nat->Prop) (ok:Prop) (w:World) (hr:aB w d c.raw) (hG:Ers w E) (hst:∀W,aB W d c.raw->aq c->Ers W E->¬8000<t.size->Calls Tryz.prog 26 #[Zc #[J d.a1 d.l1 d.c1,J d.a2 d.l2 d.c2,J d.a3 d.l3 d.c3,J d.a4 d.l4 d.c4,J d.a5 d.l5 d.c5,Y7 Y6 c.now],I t] W (qQ E (λi=>2<=i/\St i) ok W)):
  Calls Tryz.prog 19 #[Zc #[J d.a1 d.l1 d.c1,J d.a2 d.l2 d.c2,J d.a3 d.l3 d.c3,J d.a4 d.l4 d.c4,J d.a5 d.l5 d.c5,Y7 Y6 c.now],I t,.func (.func 26) #[] #[]] w (qQ E (DwWhy c t St) (ak_ c t ok) w):=by
 exact QJ
theorem j6(h:w.heap[b]?=Y5 (Y8 cs T (0,0))):w.frozen? ⟨b,0,U⟩=Y_/\w.frozen? ⟨b,1,U⟩=Y_/\w.frozen? ⟨b,2,U⟩=Y_/\w.frozen? ⟨b,3,U⟩=Y_/\w.frozen? ⟨b,4,U⟩=Y_/\w.frozen? ⟨b,5,U⟩=Y_/\w.frozen? ⟨b,6,U⟩=Y_/\w.frozen? ⟨b,7,U⟩=Y_:=⟨al h 0,al h 1,al h 2,al h 3,al h 4,al h 5,al h 6,al h 7⟩
theorem et {v3 v4 v5 v6 v7:Value} (hb:B<=b) (h:Below B w w1):Below B w ((((((((w1.setCell ⟨b,0,U⟩ v0).setCell ⟨b,1,U⟩ v1).setCell ⟨b,2,U⟩ v2).setCell ⟨b,3,U⟩ v3).setCell ⟨b,4,U⟩ v4).setCell ⟨b,5,U⟩ v5).setCell ⟨b,6,U⟩ v6).setCell ⟨b,7,U⟩ v7):=ah hb (ah hb (ah hb (ah hb (ah hb (ah hb (ah hb (ah hb (h))))))))
def ak0(c:Cl) (x:Vd):Cl:=⟨c.ns,c.ks,aR (pl Vd.n c.vs x.n) x c.vs,c.xs,c.ps,c.now⟩
def fp(c:Cl) (x:Vd):Prop:=(aq c/\pA x/\x.m=⟨#[]⟩/\x.y=Y_/\x.zs=[])
def AddVWhy(c:Cl) (x:Vd):Nat->Prop
 | 1=>¬fp c x
 | 3=>fp c x/\hit Vd.n c.vs x.n=Zb
 | 4=>fp c x/\hit Vd.n c.vs x.n=Y_/\8<=c.vs.length
 | 2=>fp c x/\hit Vd.n c.vs x.n=Y_/\c.vs.length<8/\¬(hit Kd.n c.ks x.k=Zb)
 | _=>False
def bh(c:Cl) (x:Vd) (o:Co):Prop:=(∃i,AddVWhy c x i/\o=co0 (bB i))\/(fp c x/\hit Vd.n c.vs x.n=Y_/\c.vs.length<8/\(hit Kd.n c.ks x.k=Zb)/\o=⟨ak0 c x,⟨#[]⟩,0⟩)
theorem AddVWhy.cases {x:Vd} (h:AddVWhy c x i):(i=1/\¬fp c x)\/(i=3/\fp c x/\hit Vd.n c.vs x.n=Zb)\/(i=4/\fp c x/\hit Vd.n c.vs x.n=Y_/\8<=c.vs.length)\/(i=2/\fp c x/\hit Vd.n c.vs x.n=Y_/\c.vs.length<8/\¬(hit Kd.n c.ks x.k=Zb)):=by
 rcases i with _|_|_|_|_|i <;> simp only[AddVWhy] at h
 ·exact Ze ⟨rfl,h⟩
 ·exact Zd (Zd (Zd ⟨rfl,h⟩))
 ·exact Zd (Ze ⟨rfl,h⟩)
 ·exact Zd (Zd (Ze ⟨rfl,h⟩))
def Rr(c:Cl) (x:Xd):Cl:=⟨c.ns,c.ks,c.vs,aR (pl Xd.n c.xs x.n) x c.xs,c.ps,c.now⟩
def AddXWhy(c:Cl) (x:Xd):Nat->Prop
 | 1=>¬(aq c/\gK x/\x.v=⟨#[]⟩)
 | 3=>(aq c/\gK x/\x.v=⟨#[]⟩)/\hit Xd.n c.xs x.n=Zb
 | 4=>(aq c/\gK x/\x.v=⟨#[]⟩)/\hit Xd.n c.xs x.n=Y_/\8<=c.xs.length
 | 2=>(aq c/\gK x/\x.v=⟨#[]⟩)/\hit Xd.n c.xs x.n=Y_/\c.xs.length<8/\hit Kd.n c.ks x.k=Y_
 | _=>False
def bP(c:Cl) (x:Xd) (o:Co):Prop:=(∃i,AddXWhy c x i/\o=co0 (bB i))\/((aq c/\gK x/\x.v=⟨#[]⟩)/\hit Xd.n c.xs x.n=Y_/\c.xs.length<8/\hit Kd.n c.ks x.k=Zb/\o=⟨Rr c x,⟨#[]⟩,0⟩)
theorem AddXWhy.cases {x:Xd} (h:AddXWhy c x i):(i=1/\¬(aq c/\gK x/\x.v=⟨#[]⟩))\/(i=3/\(aq c/\gK x/\x.v=⟨#[]⟩)/\hit Xd.n c.xs x.n=Zb)\/(i=4/\(aq c/\gK x/\x.v=⟨#[]⟩)/\hit Xd.n c.xs x.n=Y_/\8<=c.xs.length)\/(i=2/\(aq c/\gK x/\x.v=⟨#[]⟩)/\hit Xd.n c.xs x.n=Y_/\c.xs.length<8/\hit Kd.n c.ks x.k=Y_):=by
 rcases i with _|_|_|_|_|i <;> simp only[AddXWhy] at h
 ·exact Ze ⟨rfl,h⟩
 ·exact Zd (Zd (Zd ⟨rfl,h⟩))
 ·exact Zd (Ze ⟨rfl,h⟩)
 ·exact Zd (Zd (Ze ⟨rfl,h⟩))
def Rt(c:Cl) (x:Pd):Cl:=⟨c.ns,c.ks,c.vs,c.xs,aR (pl Pd.n c.ps x.n) x c.ps,c.now⟩
def fq(c:Cl) (x:Pd):Prop:=(aq c/\uS x/\x.p=0)
def AddPWhy(c:Cl) (x:Pd):Nat->Prop
 | 1=>¬fq c x
 | 3=>fq c x/\hit Pd.n c.ps x.n=Zb
 | 4=>fq c x/\hit Pd.n c.ps x.n=Y_/\8<=c.ps.length
 | 2=>fq c x/\hit Pd.n c.ps x.n=Y_/\c.ps.length<8/\¬(∀(j:Nat) t,x.zs[j]?=Y5 t->hit Xd.n c.xs t=Zb)
 | _=>False
def ck(c:Cl) (x:Pd) (o:Co):Prop:=(∃i,AddPWhy c x i/\o=co0 (bB i))\/(fq c x/\hit Pd.n c.ps x.n=Y_/\c.ps.length<8/\(∀(j:Nat) t,x.zs[j]?=Y5 t->hit Xd.n c.xs t=Zb)/\o=⟨Rt c x,⟨#[]⟩,0⟩)
theorem AddPWhy.cases(h:AddPWhy c x i):(i=1/\¬fq c x)\/(i=3/\fq c x/\hit Pd.n c.ps x.n=Zb)\/(i=4/\fq c x/\hit Pd.n c.ps x.n=Y_/\8<=c.ps.length)\/(i=2/\fq c x/\hit Pd.n c.ps x.n=Y_/\c.ps.length<8/\¬(∀(j:Nat) t,x.zs[j]?=Y5 t->hit Xd.n c.xs t=Zb)):=by
 rcases i with _|_|_|_|_|i <;> simp only[AddPWhy] at h
 ·exact Ze ⟨rfl,h⟩
 ·exact Zd (Zd (Zd ⟨rfl,h⟩))
 ·exact Zd (Ze ⟨rfl,h⟩)
 ·exact Zd (Zd (Ze ⟨rfl,h⟩))
def QK(c:Cl) (t:ByteArray) (i:Nat):Prop:=i=2/\hit Pd.n c.ps t=Y_
def lg(c:Cl) (t:ByteArray):Cl:=⟨c.ns,c.ks,c.vs,c.xs,wo Pd.n t c.ps,c.now⟩
def bl(c:Cl) (t:ByteArray) (o:Co):Prop:=dJ c t (QK c t) (hit Pd.n c.ps t=Zb) (lg c t) o
theorem bl.same(h:bl c t o) (h':bl c t o'):o=o':=dJ.same (λi j a b=>a.1.trans b.1.symm) (λi a q=>by rw[a.2] at q;cases q) h h'
theorem agz(d:Ad) (c:Cl) (t:ByteArray) (E:Nat->Addr) (w:World) (hr:aB w d c.raw) (hG:Ers w E):
  Calls Tryz.prog 41 #[Zc #[J d.a1 d.l1 d.c1,J d.a2 d.l2 d.c2,J d.a3 d.l3 d.c3,J d.a4 d.l4 d.c4,J d.a5 d.l5 d.c5,Y7 Y6 c.now],I t] w (qQ E (λi=>2<=i/\QK c t i) (hit Pd.n c.ps t=Zb) w):=by
 have HR:=aa hr;obtain⟨HE,HB⟩:=kX;clear hr hG;go_enter Tryz.func41,Tryz.ntmps41;go_wp2_with fail;refine (xF d.a5 d.l5 d.c5 c.ps t w _ HR.p (ak _ _)).mono ?_;rintro e w1 ⟨hb,hf⟩;have z627z:=@aa _ @W0;exact iA
theorem xw(d:Ad) (c:Cl) (t:ByteArray) (E:Nat->Addr) (w:World) (hr:aB w d c.raw) (hG:Ers w E):
  Calls Tryz.prog 12 #[Zc #[J d.a1 d.l1 d.c1,J d.a2 d.l2 d.c2,J d.a3 d.l3 d.c3,J d.a4 d.l4 d.c4,J d.a5 d.l5 d.c5,Y7 Y6 c.now],I t] w (ak6 (bl c t) w):=by
 have HR:=aa hr;obtain⟨HE,HB⟩:=kX;clear hr hG;go_enter Tryz.func12,Tryz.ntmps12;go_wp2_with fail;refine (Rg d c t E (QK c t) (hit Pd.n c.ps t=Zb) _ (HR.below (HB.trans ((aS _ _ _).mono HB.size))) (HE.below (HB.trans ((aS _ _ _).mono HB.size))) (λW h1 h2 h3 _=>agz d c t E W h1 h3)).mono ?_;rintro e w1 ⟨hb,hf⟩;have z881z:=@aa _ @Tz;exact lx
def AK(c:Cl) (v:Vd):Prop:=¬v.m=⟨#[]⟩\/nX c v
theorem ye(c:Cl) (v:Vd):(∀l,¬xN c v l)↔¬AK c v:=by
 constructor
 ·rintro h (hm|hz|⟨j,n,hj,hi⟩)
  ·exact h _ (Ze (Ze ⟨hm,rfl⟩))
  ·rcases hzs:v.zs with _|⟨t,zs⟩
   ·exact hz hzs
   ·exact h _ (Ze (Zd ⟨0,t,by rw[hzs];simp,by rw[hzs];rfl,rfl⟩))
  ·exact h _ (Zd ⟨j,n,(Yc.1 hj).1,hj,hi,rfl⟩)
 ·rintro h l ((⟨hm,-⟩|⟨i,t,-,ht,-⟩)|⟨j,n,-,hj,hi,-⟩)
  ·exact h (Ze hm)
  ·exact h (Zd (Ze (λe=>by rw[e] at ht;cases ht)))
  ·exact h (Zd (Zd ⟨j,n,hj,hi⟩))
def x_(c:Cl) (t:ByteArray) (i:Nat):Prop:=(i=2/\hit Vd.n c.vs t=Y_)\/(i=5/\hit Vd.n c.vs t=Zb/\∃(j:Nat) (v:Vd),c.vs[j]?=Y5 v/\v.n=t/\AK c v)
def yb(c:Cl) (t:ByteArray):Prop:=hit Vd.n c.vs t=Zb/\∀(j:Nat) (v:Vd),c.vs[j]?=Y5 v->v.n=t->¬AK c v
def iO(c:Cl) (t:ByteArray):Cl:=⟨c.ns,c.ks,wo Vd.n t c.vs,c.xs,c.ps,c.now⟩
def aZ(c:Cl) (t:ByteArray) (o:Co):Prop:=dJ c t (x_ c t) (yb c t) (iO c t) o
theorem aZ.same(h:aZ c t o) (h':aZ c t o'):o=o':=
 dJ.same (λi j a b=>by rcases a with ⟨rfl,a⟩|⟨rfl,a,-⟩ <;> rcases b with ⟨rfl,b⟩|⟨rfl,b,-⟩ <;> first|rfl|(rw[a] at b;cases b))
  (λi a q=>by
   rcases a with ⟨-,a⟩|⟨-,-,j,v,hj,hn,hb⟩
   ·rw[q.1] at a;cases a
   ·exact q.2 j v hj hn hb) h h'
theorem Q0(d:Ad) (c:Cl) (t:ByteArray) (E:Nat->Addr) (w:World) (hr:aB w d c.raw) (hT:aq c) (hG:Ers w E):
  Calls Tryz.prog 26 #[Zc #[J d.a1 d.l1 d.c1,J d.a2 d.l2 d.c2,J d.a3 d.l3 d.c3,J d.a4 d.l4 d.c4,J d.a5 d.l5 d.c5,Y7 Y6 c.now],I t] w (qQ E (λi=>2<=i/\x_ c t i) (yb c t) w):=by
 have HR:=aa hr;have HT:=aa hT;obtain⟨HE,HB⟩:=kX;clear hr hG hT;go_enter Tryz.func26,Tryz.ntmps26;go_wp2_with fail;refine (eK d c.now c.vs t w _ HR.v (ak _ _)).mono ?_;rintro e w1 ⟨hb,hf⟩;have z627z:=@aa _ @WZ;exact iA
theorem xv(d:Ad) (c:Cl) (t:ByteArray) (E:Nat->Addr) (w:World) (hr:aB w d c.raw) (hG:Ers w E):
  Calls Tryz.prog 7 #[Zc #[J d.a1 d.l1 d.c1,J d.a2 d.l2 d.c2,J d.a3 d.l3 d.c3,J d.a4 d.l4 d.c4,J d.a5 d.l5 d.c5,Y7 Y6 c.now],I t] w (ak6 (aZ c t) w):=by
 have HR:=aa hr;obtain⟨HE,HB⟩:=kX;clear hr hG;go_enter Tryz.func7,Tryz.ntmps7;go_wp2_with fail;refine (Rf d c t E (x_ c t) (yb c t) _ (HR.below (HB.trans ((aS _ _ _).mono HB.size))) (HE.below (HB.trans ((aS _ _ _).mono HB.size))) (λW h1 h2 h3 _=>Q0 d c t E W h1 h2 h3)).mono ?_;rintro e w1 ⟨hb,hf⟩;have z881z:=@aa _ @Ty;exact lx
theorem UF.below(h:UF w g) (hb:Below w.heap.size w w'):UF w' g:=by
 obtain⟨cs,T,h⟩:=h;exact⟨cs,T,(hb.block _ (ae h)).trans h⟩
theorem UF.set(h:UF w g):UF (w.setCell ⟨b,i,U⟩ v) g:=by
 obtain⟨cs,T,h⟩:=h;by_cases e:g=b
 ·subst e;exact⟨_,T,av h v⟩
 ·exact⟨cs,T,(Ya w ⟨b,i,U⟩ v g e).trans h⟩
theorem UF.row {q:Nat} (h:UF w g):UF (w.setRow q cs) g:=by
 obtain⟨c0,T,h⟩:=h;by_cases e:g=q
 ·subst e;exact⟨_,T,setRow_heap w g c0 cs T _ h⟩
 ·exact⟨c0,T,(setRow_other _ _ _ _ e).trans h⟩
theorem LoA.to {B':Nat} (h:LoA B w a len) (hb:B'<=B) (hu:∀g,UF w g->UF w' g):LoA B' w' a len:=by
 rcases h with h|⟨b,o,h1,h2,h3⟩
 ·exact Ze h
 ·exact Zd ⟨b,o,h1,Yp hb h2,hu b h3⟩
theorem Low.to {B':Nat} (h:Low B w d) (hb:B'<=B) (hu:∀g,UF w g->UF w' g):Low B' w' d:=⟨h.n.to hb hu,h.k.to hb hu,h.v.to hb hu,h.x.to hb hu,h.p.to hb hu⟩
theorem LoA.at(h:LoA B w a len) {b o:Nat} (e:a=Y5 ⟨b,o,U⟩) (hl:0<len):B<=b/\UF w b:=by
 rcases h with h|⟨b',o',h1,h2⟩
 ·omega
 ·rw[h1] at e;cases e;exact h2
theorem dK.lo {c:Cr} (h:dK w d c S) {B:Nat} (hS:∀k,S k->B<=k):Low B w d:=by
 obtain⟨P,h⟩:=h;exact⟨h.n.lo (λk s=>hS k s.1),h.k.lo (λk s=>hS k s.1),h.v.lo (λk s=>hS k s.1),h.x.lo (λk s=>hS k s.1),h.p.lo (λk s=>hS k s.1)⟩
theorem kf.row {c:Cr} (h:kf B w d c):aB w d c:=⟨h.n.1,h.k.1,h.v.1,h.x.1,h.p.1⟩
theorem kf.low {c:Cr} (h:kf B w d c):Low B w d:=⟨h.n.2,h.k.2,h.v.2,h.x.2,h.p.2⟩
theorem jc.s(h:jc Is w e w'):agT Is w e w':=by
 obtain⟨g,o,h1,h2,h3,h4⟩:=h;exact⟨g,o,h1,h2,h3.row,h4⟩
theorem Sel.erase {β:Type} {xs:List α} {vss:List β} (hl:vss.length=xs.length) {k:Nat} (hk:k<xs.length):Sel xs (xs.take k++xs.drop (k+1)) vss (vss.take k++vss.drop (k+1)) xs.length (λj=>if j<k then j else j+1):=by
 have hat:∀{γ:Type} {l:List γ} (j:Nat),k<l.length->j<(l.take k++l.drop (k+1)).length->(l.take k++l.drop (k+1))[j]?=l[if j<k then j else j+1]?:=by
  intro γ l j hk hj;have h1:(l.take k).length=k:=by rw[YF];omega
  by_cases e:j<k
  ·rw[Yu af,YA,if_pos e,if_pos e]
  ·rw[List.getElem?_append_right af,List.getElem?_drop,if_neg e,h1];congr 1;omega
 refine⟨by simp[hl],λj hj=>hat j hk hj,λj hj=>hat j af (by simp[hl] at hj ⊢;omega),λj hj=>?_,λi j hi hj e=>?_⟩
 ·have:(xs.take k++xs.drop (k+1)).length=xs.length - 1:=by simp;omega
  split <;> omega
 ·split at e <;> split at e <;> omega
theorem oE(d:Ad) (c:Cl) (t:ByteArray) (w:World) (hr:aB w d c.raw):
  Calls Tryz.prog 13 #[Zc #[J d.a1 d.l1 d.c1,J d.a2 d.l2 d.c2,J d.a3 d.l3 d.c3,J d.a4 d.l4 d.c4,J d.a5 d.l5 d.c5,Y7 Y6 c.now],I t] w (jc (bl c t) w):=by
 have z448z:=@aa _ @abC;exact b_
theorem vJ(d:Ad) (c:Cl) (t:ByteArray) (w:World) (hr:aB w d c.raw):
  Calls Tryz.prog 13 #[Zc #[J d.a1 d.l1 d.c1,J d.a2 d.l2 d.c2,J d.a3 d.l3 d.c3,J d.a4 d.l4 d.c4,J d.a5 d.l5 d.c5,Y7 Y6 c.now],I t] w (agT (bl c t) w):=(oE d c t w hr).mono λ_ _ h=>h.s
def dV(c:Cl) (t:ByteArray) (o:Co):Prop:=
 (∃n,n<9/\AskWhy c t n/\o=co0 (bB n))\/
 (¬8000<t.size/\aq c/\∃(i:Nat) (x:Xd) (j:Nat) (k:Kd),c.xs[i]?=Y5 x/\x.n=t/\c.ks[j]?=Y5 k/\k.n=x.k/\
  ((¬x.v=⟨#[]⟩/\o=co0 7)\/(x.v=⟨#[]⟩/\((k.x=Zb/\o=co0 11)\/(k.x=Y_/\iP c i x k ⟨#[]⟩ o)))))
theorem de.same {vs vs':List Vd} (hT:aq c) (h:de c t vs) (h':de c t vs'):vs=vs':=by
 rcases h with ⟨j,v,hj,hb,h⟩|⟨hn,rfl⟩ <;> rcases h' with ⟨j',v',hj',hb',h'⟩|⟨hn',rfl⟩
 ·obtain rfl:=aO.inj hT.2.1.2.2.2.1.2.2 hT.2.1.2.2.1.2.2 hb hb';obtain⟨rfl,-⟩:=hT.2.1.2.2.1.2.2.inj hj hj' rfl;rcases h with ⟨a,rfl⟩|⟨a,rfl⟩ <;> rcases h' with ⟨b,rfl⟩|⟨b,rfl⟩
  ·rfl
  ·exact absurd a b
  ·exact absurd b a
  ·rfl
 ·exact absurd hb (hn' v)
 ·exact absurd hb' (hn v')
 ·rfl
theorem eW.one(c:Cl) (t:ByteArray) (i j:Nat) (a:eW c t i) (b:eW c t j):i=j:=by
 rcases a with ⟨rfl,a⟩|⟨rfl,a,-⟩ <;> rcases b with ⟨rfl,b⟩|⟨rfl,b,-⟩ <;> first|rfl|(rw[a] at b;cases b)
theorem eW.no(c:Cl) (t:ByteArray) (i:Nat) (a:eW c t i) (q:h_ c t):False:=by
 rcases a with ⟨-,a⟩|⟨-,-,a⟩
 ·rw[q.1] at a;cases a
 ·exact q.2 a
theorem a_.same(h:a_ c t o) (h':a_ c t o'):o=o':=by
 rcases h with h|⟨a1,a2,a3,vs,hv,rfl⟩ <;> rcases h' with h'|⟨b1,b2,b3,vs',hv',rfl⟩
 ·exact dJ.same (r:=c) (ok:=h_ c t) (eW.one c t) (eW.no c t) (Ze h) (Ze h')
 ·exact dJ.same (r:=fJ c t vs') (ok:=h_ c t) (eW.one c t) (eW.no c t) (Ze h) (Zd ⟨b1,b2,b3,rfl⟩)
 ·exact dJ.same (r:=fJ c t vs) (ok:=h_ c t) (eW.one c t) (eW.no c t) (Zd ⟨a1,a2,a3,rfl⟩) (Ze h')
 ·rw[de.same a2 hv hv']
def ak7(c:Cl) (x:Pd):Prop:=∃n:Nd,c.ns[pl Nd.n c.ns x.d]?=Y5 n/\n.n=x.d/\n.d=Zb/\n.u+5<c.now
def idle(x:Pd):Pd:=⟨x.n,x.c,x.z,x.zs,⟨#[]⟩,0⟩
def evC(c:Cl) (t:ByteArray) (x:Pd):Cl:=⟨c.ns,c.ks,c.vs,c.xs,c.ps.set (pl Pd.n c.ps t) (idle x),c.now⟩
def EvWhy(c:Cl) (t:ByteArray):Nat->Prop
 | 0=>8000<t.size
 | 1=>¬8000<t.size/\¬aq c
 | 2=>¬8000<t.size/\aq c/\hit Pd.n c.ps t=Y_
 | 8=>¬8000<t.size/\aq c/\∃x,c.ps[pl Pd.n c.ps t]?=Y5 x/\x.n=t/\x.p=0
 | 7=>¬8000<t.size/\aq c/\∃x,c.ps[pl Pd.n c.ps t]?=Y5 x/\x.n=t/\¬x.p=0/\¬ak7 c x
 | _=>False
def dY(c:Cl) (t:ByteArray) (o:Co):Prop:=(∃i,EvWhy c t i/\o=co0 (bB i))\/(¬8000<t.size/\aq c/\∃x,c.ps[pl Pd.n c.ps t]?=Y5 x/\x.n=t/\¬x.p=0/\ak7 c x/\o=⟨evC c t x,⟨#[]⟩,0⟩)
theorem EvWhy.cases(h:EvWhy c t i):(i=0/\8000<t.size)\/(i=1/\¬8000<t.size/\¬aq c)\/(i=2/\¬8000<t.size/\aq c/\hit Pd.n c.ps t=Y_)\/(i=8/\¬8000<t.size/\aq c/\∃x,c.ps[pl Pd.n c.ps t]?=Y5 x/\x.n=t/\x.p=0)\/(i=7/\¬8000<t.size/\aq c/\∃x,c.ps[pl Pd.n c.ps t]?=Y5 x/\x.n=t/\¬x.p=0/\¬ak7 c x):=by
 rcases i with _|_|_|_|_|_|_|_|_|i <;> simp only[EvWhy] at h
 ·exact Ze ⟨rfl,h⟩
 ·exact Zd (Ze ⟨rfl,h⟩)
 ·exact Zd (Zd (Ze ⟨rfl,h⟩))
 ·exact Zd (Zd (Zd (Zd ⟨rfl,h⟩)))
 ·exact Zd (Zd (Zd (Ze ⟨rfl,h⟩)))
theorem aq.node(h:aq c) (hx:c.ps[i]?=Y5 x) (hp:¬x.p=0):∃(j:Nat) (n:Nd),c.ns[j]?=Y5 n/\n.n=x.d/\Inn n.u 0 1000000:=by
 have h1:=h.2.1.2.2.2.2.2.1 i x hx;have h2:=(h.2.2.2.1.1 i x hx).2;have hd:¬x.d=⟨#[]⟩:=λe=>by
  have h3:=h1.2.2.2.2;rw[e] at h3;rcases h3 with ⟨h3,_⟩|⟨_,h3⟩
  ·exact hp h3
  ·have h5:=h3.1;revert h5;decide
 obtain⟨j,n,h3,h4,_⟩:=h2.resolve_left hd;exact⟨j,n,h3,h4,(h.2.1.1.2.1 j n h3).2.2.2.2.1⟩
theorem AW(d:Ad) (now:Int) (n:Nd) (va:Option Addr) (vl vc:Nat) (w:World) (h0:0<=n.u) (h1:n.u<=1000000):
  Calls Tryz.prog 129 #[Zc #[J d.a1 d.l1 d.c1,J d.a2 d.l2 d.c2,J d.a3 d.l3 d.c3,J d.a4 d.l4 d.c4,J d.a5 d.l5 d.c5,Y7 Y6 now],Zc #[I n.n,I n.z,Y7 Y6 n.c,Y7 Y6 n.s,Y7 Y6 n.u,Y9 n.d,J va vl vc]] w λe w'=>e=Za (Y9 (n.d && decide (n.u+5<now)))/\Below w.heap.size w w':=by
 exact PL
theorem rD(d:Ad) (now:Int) (n:Nd) (va:Option Addr) (vl vc:Nat) (w:World) (h0:0<=n.u) (h1:n.u<=1000000) (g:Bool) (hg:(n.d && decide (n.u+5<now))=g):
  Calls Tryz.prog 129 #[Zc #[J d.a1 d.l1 d.c1,J d.a2 d.l2 d.c2,J d.a3 d.l3 d.c3,J d.a4 d.l4 d.c4,J d.a5 d.l5 d.c5,Y7 Y6 now],Zc #[I n.n,I n.z,Y7 Y6 n.c,Y7 Y6 n.s,Y7 Y6 n.u,Y9 n.d,J va vl vc]] w λe w'=>e=Za (Y9 g)/\Below w.heap.size w w':=by
 rw[<-hg];exact AW d now n va vl vc w h0 h1
theorem vr.cases(h:vr c t i):(i=0/\8000<t.size)\/(i=1/\¬8000<t.size/\¬aq c)\/(i=2/\¬8000<t.size/\aq c/\hit Pd.n c.ps t=Y_)\/(i=8/\¬8000<t.size/\aq c/\∃x,c.ps[pl Pd.n c.ps t]?=Y5 x/\x.n=t/\¬x.p=0)\/(i=7/\¬8000<t.size/\aq c/\∃x,c.ps[pl Pd.n c.ps t]?=Y5 x/\x.n=t/\x.p=0/\qV c (pl Pd.n c.ps t) x):=by
 rcases i with _|_|_|_|_|_|_|_|_|i;all_goals first
  | exact False.elim h
  | exact Ze ⟨rfl,h⟩
  | exact Zd (Ze ⟨rfl,h⟩)
  | exact Zd (Zd (Ze ⟨rfl,h⟩))
  | exact Zd (Zd (Zd (Ze ⟨rfl,h⟩)))
  | exact Zd (Zd (Zd (Zd ⟨rfl,h⟩)))
def dead(n:Nd):Nd:=⟨n.n,n.z,n.c,n.s,n.u,Zb,n.zs⟩
def ph1(t:ByteArray) (p:Pd):Pd:=if p.d.toList==t.toList then ⟨p.n,p.c,p.z,p.zs,p.d,1⟩ else p
theorem agn {p:Pd} (h:p.d=t):ph1 t p=⟨p.n,p.c,p.z,p.zs,p.d,1⟩:=by unfold ph1;rw[aP h];rfl
theorem akG {p:Pd} (h:¬p.d=t):ph1 t p=p:=by unfold ph1;rw[bu h];rfl
def o_(c:Cl) (t:ByteArray) (n:Nd):Cl:=⟨c.ns.set (pl Nd.n c.ns t) (dead n),c.ks,c.vs,c.xs,c.ps.map (ph1 t),c.now⟩
def iF(c:Cl) (t:ByteArray):Nat->Prop
 | 0=>8000<t.size
 | 1=>¬8000<t.size/\¬aq c
 | 2=>¬8000<t.size/\aq c/\hit Nd.n c.ns t=Y_
 | _=>False
def qZ(c:Cl) (t:ByteArray) (n:Nd):Prop:=¬8000<t.size/\aq c/\c.ns[pl Nd.n c.ns t]?=Y5 n/\n.n=t
def ib(c:Cl) (t:ByteArray) (o:Co):Prop:=(∃i,iF c t i/\o=co0 (bB i))\/∃n,qZ c t n/\((n.d=Zb/\o=co0 (bB 8))\/(n.d=Y_/\o=⟨o_ c t n,⟨#[]⟩,0⟩))
def phL(t:ByteArray) (ps:List Pd) (k:Nat):List Pd:=(ps.map (ph1 t)).take k++ps.drop k
theorem wS(h:k<ps.length):(phL t ps k)[k]?=ps[k]?:=by
 unfold phL;exact Pz
theorem uR(hx:ps[k]?=Y5 x):phL t ps (k+1)=(phL t ps k).set k (ph1 t x):=by
 have hk:k<ps.length:=(Yc.1 hx).1;unfold phL;have h1:((ps.map (ph1 t)).take k).length=k:=by simp;omega
 exact Qs
theorem agl(h:ps.length<=k):phL t ps k=ps.map (ph1 t):=by
 unfold phL;rw[YJ np,Yx h,List.append_nil]
theorem aI.am0(h:aI S w w1) (hg:S g):aI S w (w1.setCell ⟨g,i,U⟩ v):=
 ⟨h.os,h.tape,h.output,by simpa[World.setCell] using h.size,λk hk hn=>(Ya _ _ _ _ (show¬k=g from λe=>hn (by rw[e];exact hg))).trans (h.block k hk hn)⟩
theorem aw.beside {a':Option Addr} {l cp l' cp':Nat} {rs rs':List (List Fv)} {S':Nat->Prop} (hn:aw w a' l' cp' m T rs' S') (hp:aw w a l cp 6 40 rs S) (hk:aI (λk=>0<l/\a=Y5 ⟨k,0,U⟩) w w') (hT:¬40=T):aw w' a' l' cp' m T rs' S':=by
 by_cases h0:0<l
 ·obtain⟨h1,h2,h3,h4⟩:=hp;rcases h4 with h4|⟨g,cur,H,rfl,h6⟩
  ·rw[h4] at h1;simp at h1;omega
  ·exact (hn.dH h6.blk hT ag).ay (λk hk2 s=>hk.block k hk2 (λq=>s.2 (by have h9:=q.2;cases h9;rfl))) (λ_ _ s=>s.1)
 ·exact hn.ay (λk hk2 s=>hk.block k hk2 (λq=>h0 q.1)) (λ_ _ s=>s)
def amH(a:Option Addr) (l cp:Nat) (t:ByteArray) (ps:List Pd) (S:Nat->Prop) (w:World) (e:Ending) (w':World):Prop:=(∃v,e=Za v)/\aw w' a l cp 6 40 ((ps.map (ph1 t)).map pdF) S/\aI (λk=>0<l/\a=Y5 ⟨k,0,U⟩) w w'
theorem oB {l:List α} {x:α} (h:l[k]?=Y5 x):l.set k x=l:=by
 obtain⟨hk,rfl⟩:=Yc.1 h;exact List.set_getElem_self hk
theorem lZ(b:Nat) (a1 a2 a3 a4 a:Option Addr) (l1 y1 l2 y2 l3 y3 l4 y4 l cp:Nat) (now:Int) (t:ByteArray) (ps:List Pd) (S:Nat->Prop) (w:World) (hb:w.heap[b]?=Y5 (Y8 #[J a1 l1 y1,J a2 l2 y2,J a3 l3 y3,J a4 l4 y4,J a l cp,Y7 Y6 now] 29 (0,0))) (ho:aw w a l cp 6 40 (ps.map pdF) S) (hS:∀g,0<l->a=Y5 ⟨g,0,U⟩->¬g=b):
  Calls Tryz.prog 76 #[Zf (Y5 ⟨b,0,U⟩),I t,Y9 Y_] w (amH a l cp t ps S w):=by
 have hpl:ps.length=l:=oI
 have hlm:l<=9223372036854775807:=Yp ho.2.1 ho.2.2.1;have Bc:=aa hb;have HO0:Hid (aw w a l cp 6 40 ((phL t ps 0).map pdF) S):=by show aw _ _ _ _ _ _ _ _;simpa[phL] using ho
 clear hb ho;go_enter Tryz.func76,Tryz.ntmps76;go_wp2;go_loopw [6] (λvi wr=> ∃k:Nat,k<=l/\vi=Y7 Y6 k/\Hid (aw wr a l cp 6 40 ((phL t ps k).map pdF) S)/\Hid (aI (λk=>0<l/\a=Y5 ⟨k,0,U⟩) w wr)) (λvi _=>l - (intOf vi).toNat);case atStart=>exact⟨0,by omega,rfl,HO0,aI.refl _ _⟩
 case round=>
  obtain⟨k,hk,rfl,HO,HK⟩:=hrel;clear HO0;replace Bc:=aa ((HK.block _ (ae Bc.out) (λh=>hS _ h.1 h.2 rfl)).trans Bc.out);by_cases hlt:k<l
  ·obtain⟨x,hx0⟩:∃x,ps[k]?=Y5 x:=⟨_,Yi af⟩;have HX0:=aa hx0;have hLk:((phL t ps k).map pdF)[k]?=Y5 (pdF x):=by rw[Yv,wS af,hx0];rfl
   obtain⟨g,rfl,hS2⟩:=HO.st (aI.refl S wr) hLk;obtain⟨b2,o2,x2,hae,hbl,hx2,hat⟩:=cg HO.row hlt;cases hae;rw[wS af,hx0] at hx2;obtain rfl:=Yd hx2;obtain⟨va,vl,vc,-,-,-,-,-,-,-,-,c4,c5⟩:=bH hat;have hf5:=hS2.ob (k*6+5);have HST:=aa hS2;have hne:¬g=b:=hS g af rfl;have hne2:¬b=g:=λe=>hne e.symm;rw[Yq] at c4 c5;have hk1:(k:Int)<l:=af
   clear hat hx2 hx0 hS2 hLk;by_cases he:x.d=t
   ·have hq:=aP he;have HHE:=aa he;clear he;obtain⟨c0,c1,c2,c3,c4,c5⟩:=cs6 Bc;have ltc_0:=ae Bc.out;go_wp2;have h2:=HST.AZ (i:=5) rfl 1;obtain⟨⟨cur2,H2,h3,_⟩,h4,_⟩:=h2;have hR:aw (wr.setCell ⟨g,k*6+5,U⟩ (Y7 Y6 1)) (Y5 ⟨g,0,U⟩) l cp 6 40 ((phL t ps (k+1)).map pdF) S:=by
     rw[uR HX0.out,List.map_set,agn HHE.out];exact⟨by rw[List.length_set];exact HO.1,HO.2.1,HO.2.2.1,Zd ⟨g,cur2,H2,rfl,h3⟩⟩
    have HR2:=aa hR;have HK2:=aa (HK.am0 (i:=k*6+5) (v:=Y7 Y6 1) (show 0<l/\(Y5 ⟨g,0,U⟩:Option Addr)=Y5 ⟨g,0,U⟩ from ⟨by omega,rfl⟩));clear hR h3 h4;clear c0 c1 c2 c3 c4 c5 ltc_0;obtain⟨W,hW0⟩:∃W,W=wr.setCell ⟨g,k*6+5,U⟩ (Y7 Y6 1):=⟨_,rfl⟩;rw[<-hW0] at HR2 HK2 ⊢;clear hW0 c4 c5 hf5;have hne0:=Wd.ne W;have z795z:=@aa _ @UN;exact pL
   have hq:=bu he;have HHE:=aa he;clear he;obtain⟨c0,c1,c2,c3,c4,c5⟩:=cs6 Bc;have ltc_0:=ae Bc.out;go_wp2;refine⟨⟨k+1,by omega,by go_num,?_,HK.out⟩,by simp[intOf];omega⟩;show aw _ _ _ _ _ _ _ _;rw[uR HX0.out,akG HHE.out,oB (by rw[wS af];exact HX0.out)];exact HO.out
  have hk1:¬(k:Int)<l:=af
  obtain⟨c0,c1,c2,c3,c4,c5⟩:=cs6 Bc;have ltc_0:=ae Bc.out;go_wp2;have HO2:=HO;rw[agl af] at HO2;exact PE
def phF(t:ByteArray) (f:Pd->Int) (p:Pd):Pd:=if p.d.toList==t.toList then ⟨p.n,p.c,p.z,p.zs,p.d,f p⟩ else p
theorem Ax {p:Pd} (h:p.d=t):phF t f p=⟨p.n,p.c,p.z,p.zs,p.d,f p⟩:=by unfold phF;rw[aP h];rfl
theorem akF {p:Pd} (h:¬p.d=t):phF t f p=p:=by unfold phF;rw[bu h];rfl
theorem agm(t:ByteArray):phF t (λ_=>1)=ph1 t:=rfl
def mpL(h:Pd->Pd) (ps:List Pd) (k:Nat):List Pd:=(ps.map h).take k++ps.drop k
theorem QP(hk:k<ps.length):(mpL h ps k)[k]?=ps[k]?:=by
 unfold mpL;exact Pz
theorem nH(hx:ps[k]?=Y5 x):mpL h ps (k+1)=(mpL h ps k).set k (h x):=by
 have hk:k<ps.length:=(Yc.1 hx).1;unfold mpL;have h1:((ps.map h).take k).length=k:=by simp;omega
 exact Qs
theorem agv(hk:ps.length<=k):mpL h ps k=ps.map h:=by
 unfold mpL;rw[YJ (by simpa using hk),Yx hk,List.append_nil]
theorem QN(h:Pd->Pd) (ps:List Pd):mpL h ps 0=ps:=by simp[mpL]
theorem QO(hx:ps[k]?=Y5 x) (e:h x=x):mpL h ps (k+1)=mpL h ps k:=by
 rw[nH hx,e,oB (by rw[QP (Yc.1 hx).1];exact hx)]
def akO(c:Cl) (t:ByteArray) (v:Vd):Bool:=inB v.zs t && x8 c t v.m
def kK(c:Cl) (t:ByteArray) (vs:List Vd):List ByteArray:=(vs.filter (akO c t)).map Vd.n
theorem QS(c:Cl) (t:ByteArray):(kK c t c.vs).length<=c.vs.length:=by
 unfold kK;rw[Yo];exact List.length_filter_le _ _
def cX(c:Cl):Int:=if c.now+10<1000000 then c.now+10 else 1000000
def QR(c:Cl) (n:Nd):List ByteArray:=if c.now<n.u then kK c n.n c.vs else []
def fu(c:Cl) (n:Nd):Nd:=⟨n.n,n.z,n.c,n.s,cX c,n.d,QR c n⟩
def agR(c:Cl) (n:Nd) (f:Pd->Int):Prop:=∀p,(f p=2/\c.now<n.u/\re c p (fu c n))\/(f p=1/\¬(c.now<n.u/\re c p (fu c n)))
theorem agR.ex(c:Cl) (n:Nd):∃f,agR c n f:=by
 classical
 refine⟨λp=>if c.now<n.u/\re c p (fu c n) then 2 else 1,λp=>?_⟩;by_cases h:c.now<n.u/\re c p (fu c n)
 ·exact Ze ⟨if_pos h,h⟩
 ·exact Zd ⟨if_neg h,h⟩
def jj(c:Cl) (t:ByteArray) (n:Nd) (f:Pd->Int):Cl:=⟨c.ns.set (pl Nd.n c.ns t) (fu c n),c.ks,c.vs,c.xs,c.ps.map (phF t f),c.now⟩
def vt(c:Cl) (t:ByteArray) (o:Co):Prop:=(∃i,iF c t i/\o=co0 (bB i))\/∃n,qZ c t n/\((n.d=Zb/\o=co0 (bB 8))\/(n.d=Y_/\∃f,agR c n f/\o=⟨jj c t n f,⟨#[]⟩,0⟩))
theorem aq.bds {p:Pd} (h:aq c) (hp:c.ps[k]?=Y5 p) (hd:¬p.d=⟨#[]⟩):∀(j:Nat) t,p.zs[j]?=Y5 t->∃v,aO c t v:=by
 have h1:=(iV h.2.1 ((kQ h.2.1).1 h.2.2.1)).1 h.2.2.2.1;obtain⟨_,b,_⟩:=h1.1 k p hp;intro j t ht;obtain⟨v,_,_,e3,_⟩:=(b j t ht).2.resolve_left hd;exact⟨v,e3⟩
theorem aL.ne {x:ByteArray} (h:aL x):¬x=⟨#[]⟩:=λe=>by
 rw[e] at h;have h8:=h.1;revert h8;decide
def anq(c:Cl) (t:ByteArray) (w:World) (e:Ending) (w':World):Prop:=Below w.heap.size w w'/\((∃i p,iF c t i/\p=bB i/\¬p=0/\e=Za (Zg #[Y7 Y6 0,Y7 Y6 p]))\/∃(j:Nat) (n:Nd),c.ns[j]?=Y5 n/\qZ c t n/\e=Za (Zg #[Y7 Y6 j,Y7 Y6 0]))
theorem A2(d:Ad) (c:Cl) (t:ByteArray) (w:World) (hr:aB w d c.raw):
  Calls Tryz.prog 74 #[Zc #[J d.a1 d.l1 d.c1,J d.a2 d.l2 d.c2,J d.a3 d.l3 d.c3,J d.a4 d.l4 d.c4,J d.a5 d.l5 d.c5,Y7 Y6 c.now],I t] w (anq c t w):=by
 obtain⟨HR,HB⟩:=kY;clear hr;go_enter Tryz.func74,Tryz.ntmps74;go_wp2_with fail;refine (me d c t _ (HR.below (HB.trans ((ak _ _).mono HB.size)))).mono ?_;rintro e w1 ⟨p,rfl,hp,hb⟩;have z1073z:=@aa _ @MJ;exact fC
theorem Ca(d:Ad) (c:Cl) (t:ByteArray) (w:World) (hr:aB w d c.raw):
  Calls Tryz.prog 88 #[Zc #[J d.a1 d.l1 d.c1,J d.a2 d.l2 d.c2,J d.a3 d.l3 d.c3,J d.a4 d.l4 d.c4,J d.a5 d.l5 d.c5,Y7 Y6 c.now],I t] w (jc (ib c t) w):=by
 have z448z:=@aa _ @abB;exact b_
def Rp(n:Nd):Nd:=⟨n.n,n.z,n.c,n.s,0,Y_,[]⟩
def rq(c:Cl) (t:ByteArray) (n:Nd):Cl:=⟨c.ns.set (pl Nd.n c.ns t) (Rp n),c.ks,c.vs,c.xs,c.ps,c.now⟩
def ia(c:Cl) (t:ByteArray) (o:Co):Prop:=(∃i,iF c t i/\o=co0 (bB i))\/∃n,qZ c t n/\((n.d=Y_/\o=co0 (bB 8))\/(n.d=Zb/\o=⟨rq c t n,⟨#[]⟩,0⟩))
theorem StJ.air {N:Nat->Prop} {rs:List (List Fv)} {r:List Fv} (h:StJ g m T S N w wr rs j r) {i:Nat} {old:Fv} (hi:r[i]?=Y5 old):StJ g m T S N w (wr.setCell ⟨g,j*m+i,U⟩ (J U 0 0)) rs j (r.set i (.l [])):=by
 have z277z:=@aa _ @adM;exact zU
theorem B0(d:Ad) (c:Cl) (t:ByteArray) (w:World) (hr:aB w d c.raw):
  Calls Tryz.prog 89 #[Zc #[J d.a1 d.l1 d.c1,J d.a2 d.l2 d.c2,J d.a3 d.l3 d.c3,J d.a4 d.l4 d.c4,J d.a5 d.l5 d.c5,Y7 Y6 c.now],I t] w (jc (ia c t) w):=by
 have z448z:=@aa _ @abA;exact b_
def later(c:Cl) (n:Int):Cl:=⟨c.ns,c.ks,c.vs,c.xs,c.ps,c.now+n⟩
def gC(c:Cl) (n:Int) (o:Co):Prop:=(¬aq c/\o=co0 1)\/(aq c/\¬(Inn n 0 1000/\c.now+n<=1000000)/\o=co0 8)\/(aq c/\(Inn n 0 1000/\c.now+n<=1000000)/\o=⟨later c n,⟨#[]⟩,0⟩)
theorem B2(d:Ad) (c:Cl) (n:Int) (w:World) (hr:aB w d c.raw):
  Calls Tryz.prog 90 #[Zc #[J d.a1 d.l1 d.c1,J d.a2 d.l2 d.c2,J d.a3 d.l3 d.c3,J d.a4 d.l4 d.c4,J d.a5 d.l5 d.c5,Y7 Y6 c.now],Y7 Y6 n] w (jc (gC c n) w):=by
 obtain⟨HR,HB⟩:=kY;clear hr;go_enter Tryz.func90,Tryz.ntmps90;go_wp2_with fail;refine (cY d c _ (HR.below (HB.trans ((aS _ _ _).mono HB.size)))).mono ?_;rintro e w1 ⟨r,rfl,hi,hb⟩;have z881z:=@aa _ @Tx;exact lx
def Gd(c c':Cl):Prop:=c'.ns.length=c.ns.length/\c'.ks.length=c.ks.length
theorem iZ {Why:Nat->Prop} (h9:∀i,9<i->¬Why i) {c:Cl} {o:Co} (h:∃i,Why i/\o=co0 (bB i)) (h0:o.p=0):Gd c o.c:=by
 obtain⟨i,a,rfl⟩:=h;exfalso;revert h0;rcases i with _|_|_|_|_|_|_|_|_|_|i;case succ.succ.succ.succ.succ.succ.succ.succ.succ.succ=>exact λ_=>h9 _ af a
 all_goals exact λh=>by cases h
theorem bh.gd {x:Vd} (h:bh c x o) (h0:o.p=0):Gd c o.c:=by
 exact On
theorem bP.gd {x:Xd} (h:bP c x o) (h0:o.p=0):Gd c o.c:=by
 exact On
theorem ck.gd(h:ck c x o) (h0:o.p=0):Gd c o.c:=by
 exact On
theorem dJ.gd {r:Cl} (h9:∀i,9<i->¬St i) (hr:Gd c r) (h:dJ c t St ok r o) (h0:o.p=0):Gd c o.c:=by
 rcases h with h|⟨_,_,_,rfl⟩
 ·refine iZ (λi hi a=>?_) h h0;rcases i with _|_|i
  ·omega
  ·omega
  ·exact h9 _ hi a.2.2
 ·exact hr
theorem gD.gd(h:gD c t o) (h0:o.p=0):Gd c o.c:=by
 rcases h with h|⟨_,hT,x,b,n,c',h3,_,_,h4,h5,rfl⟩
 ·exact PX
 ·have hn:=(hT.2.1.1.2.1 _ _ h4.1).2.1;rcases h5 with ⟨_,e⟩|⟨_,⟨_,e⟩|⟨_,⟨_,e⟩|⟨_,c1,e1,hA,⟨h1,e⟩|⟨rfl,⟨_,e⟩|⟨_,_,rfl⟩⟩⟩⟩⟩
  ·exact absurd e ag
  ·exact absurd e ag
  ·exact absurd e ag
  ·exact absurd e.symm h1
  ·exact absurd e ag
  rcases hA with ⟨hR,_⟩|⟨_,_,_,_,_,_,hne⟩
  ·obtain⟨_,q2,q3,_,_⟩:=dU.right hT hn _ c1 hR;exact⟨by show c1.ns.length=_;rw[q2],by show c1.ks.length=_;rw[q3]⟩
  ·exact absurd rfl hne
theorem dV.gd(h:dV c t o) (h0:o.p=0):Gd c o.c:=by
 rcases h with ⟨n,_,a,rfl⟩|⟨_,hT,i,x,j,k,hx,_,_,_,⟨_,rfl⟩|⟨_,⟨_,rfl⟩|⟨_,h⟩⟩⟩
 ·exact iZ (Why:=AskWhy c t) (λi hi a=>by rcases i with _|_|_|i <;> first|omega|exact a.elim) ⟨n,a,rfl⟩ h0
 ·cases h0
 ·cases h0
 ·have q:=h.keeps hT hx h0;exact⟨by rw[q.1],by rw[q.2.1]⟩
theorem dY.gd(h:dY c t o) (h0:o.p=0):Gd c o.c:=by
 rcases h with h|⟨_,_,x,_,_,_,_,rfl⟩
 ·exact PX
 ·exact⟨rfl,rfl⟩
theorem kh.gd(h:kh c o) (h0:o.p=0):Gd c o.c:=by
 rcases h with ⟨_,rfl⟩|⟨_,_,_,_,_,_,_,_,_,rfl⟩|⟨_,_,_,_,⟨_,_,_,_,_,_,_,_,rfl⟩|⟨_,rfl⟩⟩
 ·cases h0
 ·exact⟨rfl,rfl⟩
 ·exact⟨rfl,rfl⟩
 ·cases h0
theorem AJ(i:Nat) (hi:9<i):¬iF c t i:=by
 intro a;rcases i with _|_|_|i
 ·omega
 ·omega
 ·omega
 ·exact a
theorem vt.gd(h:vt c t o) (h0:o.p=0):Gd c o.c:=by
 rcases h with h|⟨n,_,⟨_,rfl⟩|⟨_,f,_,rfl⟩⟩
 ·exact iZ AJ h h0
 ·cases h0
 ·exact⟨by show (c.ns.set _ _).length=_;rw[List.length_set],rfl⟩
theorem ib.gd(h:ib c t o) (h0:o.p=0):Gd c o.c:=by
 exact P_
theorem ia.gd(h:ia c t o) (h0:o.p=0):Gd c o.c:=by
 exact P_
theorem gC.gd {n:Int} (h:gC c n o) (h0:o.p=0):Gd c o.c:=by
 rcases h with ⟨_,rfl⟩|⟨_,_,rfl⟩|⟨_,_,rfl⟩
 ·cases h0
 ·cases h0
 ·exact⟨rfl,rfl⟩
theorem kh.nm(h:kh c o):o.n.size<=9223372036854775807:=by
 rcases h with ⟨_,rfl⟩|⟨hT,_,_,i,v,_,_,hv,_,rfl⟩|⟨hT,_,_,_,⟨_,i,v,_,_,hv,_,_,rfl⟩|⟨_,rfl⟩⟩
 ·exact YK _
 ·have h:=(hT.2.1.2.2.1.2.1 i v hv).1.2.1;show (AO++v.n).size<=_;rw[ByteArray.size_append];have:AO.size=4:=rfl;omega
 ·have h:=(hT.2.1.2.2.1.2.1 i v hv).1.2.1;show (wOn++v.n).size<=_;rw[ByteArray.size_append];have:wOn.size=3:=rfl;omega
 ·exact YK _
theorem gD.nm(h:gD c t o):o.n.size<=9223372036854775807:=by
 rcases h with ⟨i,_,rfl⟩|⟨_,hT,x,b,n,c',h3,_,_,h4,h5,rfl⟩
 ·exact YK _
 ·have h:=(hT.2.1.1.2.1 b n h4.1).1.2.1;show n.n.size<=_;omega
theorem dV.nm(h:dV c t o):o.n.size<=9223372036854775807:=by
 rcases h with ⟨n,_,a,rfl⟩|⟨_,hT,i,x,j,k,hx,_,_,_,⟨_,rfl⟩|⟨_,⟨_,rfl⟩|⟨_,⟨j2,u,_,hu,rfl⟩|⟨_,⟨_,rfl⟩|⟨_,⟨_,rfl⟩|⟨_,⟨_,rfl⟩|⟨_,rfl⟩⟩⟩⟩⟩⟩⟩
 ·exact YK _
 ·exact YK _
 ·exact YK _
 ·have h:=(hT.2.1.2.2.1.2.1 j2 u hu).1.2.1;show u.n.size<=_;omega
 ·exact YK _
 ·exact YK _
 ·exact YK _
 ·have h:=(hT.2.1.2.2.2.1.2.1 i x hx).1.2.1;show (aN++x.n).size<=_;rw[ByteArray.size_append];have:aN.size=2:=rfl;omega
theorem bl.gd(h:bl c t o) (h0:o.p=0):Gd c o.c:=dJ.gd (r:=lg c t) (λi hi h=>by have:=h.1;omega) ⟨rfl,rfl⟩ h h0
theorem aZ.gd(h:aZ c t o) (h0:o.p=0):Gd c o.c:=dJ.gd (r:=iO c t) (λi hi h=>by rcases h with ⟨rfl,_⟩|⟨rfl,_⟩ <;> omega) ⟨rfl,rfl⟩ h h0
theorem a_.gd(h:a_ c t o) (h0:o.p=0):Gd c o.c:=by
 rcases h with h|⟨_,_,_,vs,_,rfl⟩
 ·refine iZ (λi hi a=>?_) h h0;rcases i with _|_|i
  ·omega
  ·omega
  ·rcases a.2.2 with ⟨e,_⟩|⟨e,_⟩ <;> omega
 ·exact⟨rfl,rfl⟩
theorem bh.nm {x:Vd} (h:bh c x o):o.n.size<=9223372036854775807:=by rcases h with ⟨_,_,rfl⟩|⟨_,_,_,_,rfl⟩ <;> exact YK _
theorem bP.nm {x:Xd} (h:bP c x o):o.n.size<=9223372036854775807:=by rcases h with ⟨_,_,rfl⟩|⟨_,_,_,_,rfl⟩ <;> exact YK _
theorem ck.nm(h:ck c x o):o.n.size<=9223372036854775807:=by rcases h with ⟨_,_,rfl⟩|⟨_,_,_,_,rfl⟩ <;> exact YK _
theorem bl.nm(h:bl c t o):o.n.size<=9223372036854775807:=by rcases h with ⟨_,_,rfl⟩|⟨_,_,_,rfl⟩ <;> exact YK _
theorem aZ.nm(h:aZ c t o):o.n.size<=9223372036854775807:=by rcases h with ⟨_,_,rfl⟩|⟨_,_,_,rfl⟩ <;> exact YK _
theorem a_.nm(h:a_ c t o):o.n.size<=9223372036854775807:=by rcases h with ⟨_,_,rfl⟩|⟨_,_,_,_,_,rfl⟩ <;> exact YK _
theorem dY.nm(h:dY c t o):o.n.size<=9223372036854775807:=by rcases h with ⟨_,_,rfl⟩|⟨_,_,_,_,_,_,_,rfl⟩ <;> exact YK _
theorem vt.nm(h:vt c t o):o.n.size<=9223372036854775807:=by rcases h with ⟨_,_,rfl⟩|⟨_,_,⟨_,rfl⟩|⟨_,_,_,rfl⟩⟩ <;> exact YK _
theorem ib.nm(h:ib c t o):o.n.size<=9223372036854775807:=by rcases h with ⟨_,_,rfl⟩|⟨_,_,⟨_,rfl⟩|⟨_,rfl⟩⟩ <;> exact YK _
theorem ia.nm(h:ia c t o):o.n.size<=9223372036854775807:=by rcases h with ⟨_,_,rfl⟩|⟨_,_,⟨_,rfl⟩|⟨_,rfl⟩⟩ <;> exact YK _
theorem gC.nm {n:Int} (h:gC c n o):o.n.size<=9223372036854775807:=by rcases h with ⟨_,rfl⟩|⟨_,_,rfl⟩|⟨_,_,rfl⟩ <;> exact YK _
end Rc
theorem eJ {c:Code} {a:Act} (F:World->Prop) (hF:F w) (h:∀w2,F w2->c.wp P Q a w2):c.wp P Q a w:=h w hF
theorem bV {a b c:World} {row:Option Nat} (h:a.grownBy b row) (k:b.grownBy c row):a.grownBy c row:=
 ⟨k.os.trans h.os,k.tape.trans h.tape,k.output.trans h.output,Yp h.size k.size,λi hi hne=>(k.block i (Yj hi h.size) hne).trans (h.block i hi hne)⟩
theorem bJ(w:World) (p i:Nat) (v:Value):w.grownBy (w.setCell ⟨p,i,U⟩ v) (Y5 p):=
 ⟨rfl,rfl,rfl,by simp[World.setCell],λk _ hk=>Ya _ _ _ _ (λe=>hk (by simp[e]))⟩
theorem xC {a b:World} {row:Option Nat} (h:a.grownBy b row):a.grownBy b.drew row:=⟨h.os,h.tape,h.output,h.size,h.block⟩
theorem pD(x most:Int) (h1:1<most) (h2:most<=9223372036854775807):0<=wrap64 ((IntKind.u64.wrap x).tmod most)/\wrap64 ((IntKind.u64.wrap x).tmod most)<most:=by
 have e:IntKind.u64.wrap x=x % 18446744073709551616:=by simp[IntKind.wrap,IntKind.bits,IntKind.signed]
 have h0:0<=IntKind.u64.wrap x:=by rw[e];omega
 rw[Int.tmod_eq_emod_of_nonneg h0];have b0:=Int.emod_nonneg (IntKind.u64.wrap x) (show most≠0 by omega);have b1:=Int.emod_lt_of_pos (IntKind.u64.wrap x) (show 0<most by omega);generalize IntKind.u64.wrap x % most=y at*;simp only[wrap64];omega
def bC(w:World) (p:Nat) (b:Value) (k:Nat) (m sz:Int):Prop:=w.heap[p]?=Y5 (Y8 #[b,Y7 Y6 (k:Int),Y7 .u64 m,Y7 Y6 sz] 81 (0,0))
theorem bC.cells {p:Nat} {b:Value} {m:Int} (h:bC w p b k m sz):
  w.cell? ⟨p,0,U⟩=Y5 b/\w.cell? ⟨p,1,U⟩=Y5 (Y7 Y6 (k:Int))/\w.cell? ⟨p,2,U⟩=Y5 (Y7 .u64 m)/\w.cell? ⟨p,3,U⟩=Y5 (Y7 Y6 sz)/\
  w.frozen? ⟨p,0,U⟩=Y_/\w.frozen? ⟨p,1,U⟩=Y_/\w.frozen? ⟨p,2,U⟩=Y_/\w.frozen? ⟨p,3,U⟩=Y_:=by
 unfold bC at h;refine⟨?_,?_,?_,?_,?_,?_,?_,?_⟩ <;> simp[World.cell?,World.frozen?,h]
theorem bC.am3 {p:Nat} {b:Value} {m:Int} (h:bC w p b k m sz) (k':Nat):bC (w.setCell ⟨p,1,U⟩ (Y7 Y6 (k':Int))) p b k' m sz:=Go.heap_setCell_same w p 1 _ _ _ h
theorem bC.alq {p:Nat} {b:Value} {m:Int} (h:bC w p b k m sz) (m':Int):bC (w.setCell ⟨p,2,U⟩ (Y7 .u64 m')) p b k m' sz:=Go.heap_setCell_same w p 2 _ _ _ h
def eY(w0:World) (p:Nat) (b:Value) (k:Nat) (sz:Int) (w:World):Prop:=∃m:Int,0<=m/\m<=18446744073709551615/\bC w p b k m sz/\w0.grownBy w (Y5 p)
theorem rh(a b:Int):0<=bits .xor .u64 a b/\bits .xor .u64 a b<=18446744073709551615:=by
 have e:∀n:Int,IntKind.u64.wrap n=n % 18446744073709551616:=λn=>by simp[IntKind.wrap,IntKind.bits,IntKind.signed]
 simp only[bits,e];constructor <;> omega
theorem eY.mix {p:Nat} {b:Value} (h:eY w0 p b k sz w) (x y:Int):eY w0 p b k sz (w.setCell ⟨p,2,U⟩ (Y7 .u64 (bits .xor .u64 x y))).drew:=by
 obtain⟨m,_,_,h3,h4⟩:=h;exact⟨_,(rh x y).1,(rh x y).2,h3.alq _,xC (bV h4 (bJ w p 2 _))⟩
theorem eY.refl {p:Nat} {b:Value} {m:Int} (h:bC w p b k m sz) (h0:0<=m) (h1:m<=18446744073709551615) (n:Nat):eY w p b k sz (w.drewN n):=
 ⟨m,h0,h1,h,⟨rfl,rfl,rfl,Ye _,λ_ _ _=>rfl⟩⟩
theorem eY.step {p:Nat} {b:Value} {m:Int} (h:bC w p b k m sz) (h0:0<=m) (h1:m<=18446744073709551615) (n k':Nat) (x:Int) (hx:x=(k':Int)):eY w p b k' sz ((w.drewN n).setCell ⟨p,1,U⟩ (Y7 Y6 x)):=by
 subst hx;exact⟨m,h0,h1,bC.am3 (w:=w.drewN n) h k',bV (b:=w.drewN n) ⟨rfl,rfl,rfl,Ye _,λ_ _ _=>rfl⟩ (bJ _ p 1 _)⟩
def xP(most:Int) (w:World) (p:Nat) (b:Value) (len:Nat) (sz:Int) (e:Ending) (w':World):Prop:=∃(r:Int) (k:Nat),e=Za (Y7 Y6 r)/\0<=r/\(r<most\/r=0)/\k<=len/\eY w p b k sz w'
theorem vA(p:Nat) (a0:Option Addr) (len cap k:Nat) (most mix sz:Int) (w:World) (hm:1<most) (hm2:most<=9223372036854775807) (hb:bC w p (J a0 len cap) k mix sz) (m0:0<=mix) (m1:mix<=18446744073709551615) (hat:¬(k:Int)<(len:Int)) (hk:k<=len):
  Calls Tryz.prog 18 #[Zf (Y5 ⟨p,0,U⟩),Y7 Y6 most] w (xP most w p (J a0 len cap) len sz):=by
 obtain⟨c0,c1,c2,c3,f0,f1,f2,f3⟩:=hb.cells;have HB:Hid (bC w p (J a0 len cap) k mix sz):=hb;clear hb;go_enter Tryz.func18,Tryz.ntmps18;go_wp2;go_quiet (fail);go_wp2;refine eJ (eY w p (J a0 len cap) k sz) (eY.refl HB.out m0 m1 _) ?_;clear c0 c1 c2 c3 f0 f1 f2 f3 HB m0 m1 mix;rintro w2 hF;have HF:Hid (eY w p (J a0 len cap) k sz w2):=hF;obtain⟨m,m0,m1,hb,-⟩:=hF;obtain⟨c0,c1,c2,c3,f0,f1,f2,f3⟩:=hb.cells;clear hb;go_region;go_wp2;refine eJ (eY w p (J a0 len cap) k sz) (HF.mix _ _) ?_;clear c0 c1 c2 c3 f0 f1 f2 f3 HF m0 m1;clear w2;rintro w2 hF;have HF:Hid (eY w p (J a0 len cap) k sz w2):=hF;obtain⟨m,m0,m1,hb,-⟩:=hF;obtain⟨c0,c1,c2,c3,f0,f1,f2,f3⟩:=hb.cells;clear hb;go_region;go_wp2;refine eJ (eY w p (J a0 len cap) k sz) (HF.mix _ _) ?_;clear c0 c1 c2 c3 f0 f1 f2 f3 HF m0 m1;clear w2;rintro w2 hF;have HF:Hid (eY w p (J a0 len cap) k sz w2):=hF;obtain⟨m,m0,m1,hb,-⟩:=hF;obtain⟨c0,c1,c2,c3,f0,f1,f2,f3⟩:=hb.cells;clear hb;go_region;go_wp2_with fail;go_ret;exact⟨_,k,rfl,(pD _ most hm hm2).1,Ze (pD _ most hm hm2).2,hk,HF.mix _ _⟩
theorem B4(p b off:Nat) (len cap k:Nat) (most mix sz z:Int) (w:World) (hm:1<most) (hm2:most<=9223372036854775807) (hb:bC w p (J (Y5 ⟨b,off,U⟩) len cap) k mix sz) (m0:0<=mix) (m1:mix<=18446744073709551615) (hat:(k:Int)<(len:Int)) (hl:len<=140737488355328) (hz:w.cell? ⟨b,off+k,U⟩=Y5 (Y7 .u8 z)) (z0:0<=z) (z1:z<=255):
  Calls Tryz.prog 18 #[Zf (Y5 ⟨p,0,U⟩),Y7 Y6 most] w (xP most w p (J (Y5 ⟨b,off,U⟩) len cap) len sz):=by
 obtain⟨c0,c1,c2,c3,f0,f1,f2,f3⟩:=hb.cells;have HB:Hid (bC w p (J (Y5 ⟨b,off,U⟩) len cap) k mix sz):=hb;have hat':k<len:=af
 clear hb;go_enter Tryz.func18,Tryz.ntmps18;go_wp2;go_quiet (fail);go_wp2;go_quiet (fail);go_wp2;refine eJ (eY w p (J (Y5 ⟨b,off,U⟩) len cap) (k+1) sz) (eY.step HB.out m0 m1 _ (k+1) _ af) ?_;clear c0 c1 c2 c3 f0 f1 f2 f3 HB m0 m1 hz;clear mix;rintro w2 hF;have HF:Hid (eY w p (J (Y5 ⟨b,off,U⟩) len cap) (k+1) sz w2):=hF;obtain⟨m,m0,m1,hb,-⟩:=hF;obtain⟨c0,c1,c2,c3,f0,f1,f2,f3⟩:=hb.cells;clear hb;go_region;go_wp2;refine eJ (eY w p (J (Y5 ⟨b,off,U⟩) len cap) (k+1) sz) (HF.mix _ _) ?_;clear c0 c1 c2 c3 f0 f1 f2 f3 HF m0 m1;clear w2;rintro w2 hF;have HF:Hid (eY w p (J (Y5 ⟨b,off,U⟩) len cap) (k+1) sz w2):=hF;obtain⟨m,m0,m1,hb,-⟩:=hF;obtain⟨c0,c1,c2,c3,f0,f1,f2,f3⟩:=hb.cells;clear hb;go_region;go_wp2;refine eJ (eY w p (J (Y5 ⟨b,off,U⟩) len cap) (k+1) sz) (HF.mix _ _) ?_;clear c0 c1 c2 c3 f0 f1 f2 f3 HF m0 m1;clear w2;rintro w2 hF;have HF:Hid (eY w p (J (Y5 ⟨b,off,U⟩) len cap) (k+1) sz w2):=hF;obtain⟨m,m0,m1,hb,-⟩:=hF;obtain⟨c0,c1,c2,c3,f0,f1,f2,f3⟩:=hb.cells;clear hb;go_region;go_wp2_with fail;go_ret;exact⟨_,k+1,rfl,(pD _ most hm hm2).1,Ze (pD _ most hm hm2).2,by omega,HF.mix _ _⟩
def ep(B:Nat) (w:World) (v:Value) (len:Nat):Prop:=len<=140737488355328/\∃a0 cap,v=J a0 len cap/\∀j,j<len->∃(b off:Nat) (z:Int),a0=Y5 ⟨b,off,U⟩/\b<B/\w.cell? ⟨b,off+j,U⟩=Y5 (Y7 .u8 z)/\0<=z/\z<=255
theorem ep.below(h:ep B w v len) (hb:Below B w w'):ep B w' v len:=by
 obtain⟨hl,a0,cap,hv,hc⟩:=h;refine⟨hl,a0,cap,hv,λj hj=>?_⟩;obtain⟨b,off,z,h1,h2,h3,h4⟩:=hc j hj;exact⟨b,off,z,h1,h2,(hb.cell (p:=⟨b,off+j,U⟩) h2).trans h3,h4⟩
theorem u_ {p:Nat} (h:w.grownBy w' (Y5 p)) (hB:B<=p) (hw:B<=w.heap.size):Below B w w':=
 ⟨h.os,h.tape,h.output,h.size,λk hk=>h.block k af (λe=>by simp at e;omega)⟩
theorem ry(p:Nat) (most:Int) (w:World) (hm:most<=1):
  Calls Tryz.prog 18 #[Zf (Y5 ⟨p,0,U⟩),Y7 Y6 most] w λe w'=>e=Za (Y7 Y6 0)/\w=w':=by
 go_enter Tryz.func18,Tryz.ntmps18;go_wp2;go_ret;exact⟨rfl,rfl⟩
theorem alj(B p len k:Nat) (v:Value) (most mix sz:Int) (w:World) (hm2:most<=9223372036854775807) (hb:bC w p v k mix sz) (m0:0<=mix) (m1:mix<=18446744073709551615) (hk:k<=len) (hR:ep B w v len):
  Calls Tryz.prog 18 #[Zf (Y5 ⟨p,0,U⟩),Y7 Y6 most] w (xP most w p v len sz):=by
 obtain⟨hl,a0,cap,rfl,hc⟩:=hR;by_cases hm:most<=1
 ·refine (ry p most w hm).mono ?_;rintro e w' ⟨rfl,rfl⟩;exact⟨0,k,rfl,Int.le_refl _,Zd rfl,hk,⟨mix,m0,m1,hb,⟨rfl,rfl,rfl,Ye _,λ_ _ _=>rfl⟩⟩⟩
 by_cases hat:k<len
 ·obtain⟨b,off,z,rfl,_,hz,z0,z1⟩:=hc k hat;exact B4 p b off len cap k most mix sz z w af hm2 hb m0 m1 af hl hz z0 z1
 ·exact vA p a0 len cap k most mix sz w af hm2 hb m0 m1 af hk
def Src(B:Nat) (w0:World) (p:Nat) (v:Value) (len:Nat) (w:World):Prop:=B<=p/\B<=w0.heap.size/\Below B w0 w/\p<w.heap.size/\ep B w v len/\∃(k:Nat) (m sz:Int),k<=len/\0<=m/\m<=18446744073709551615/\0<=sz/\sz<=12/\bC w p v k m sz
def amL(B:Nat) (w0:World) (p:Nat) (v:Value) (len:Nat) (w:World) (most:Int) (e:Ending) (w':World):Prop:=∃r:Int,e=Za (Y7 Y6 r)/\0<=r/\(r<most\/r=0)/\Src B w0 p v len w'/\w.grownBy w' (Y5 p)
theorem Src.n {p:Nat} (h:Src B w0 p v len w) (most:Int) (hm2:most<=9223372036854775807):
  Calls Tryz.prog 18 #[Zf (Y5 ⟨p,0,U⟩),Y7 Y6 most] w (amL B w0 p v len w most):=by
 obtain⟨hB,hB0,hbel,hp,hR,k,m,sz,hk,m0,m1,s0,s1,hb⟩:=h;refine (alj B p len k v most m sz w hm2 hb m0 m1 hk hR).mono ?_;rintro e w' ⟨r,k',rfl,r0,r1,hk',m',m0',m1',hb',hg⟩;have hbw:Below B w w':=u_ hg hB (Yp hB0 hbel.size);exact⟨r,rfl,r0,r1,⟨hB,hB0,hbel.trans hbw,Yj hp hg.size,hR.below hbw,k',m',sz,hk',m0',m1',s0,s1,hb'⟩,hg⟩
def Laid(w:World) (v:Value) (len:Nat) (e:Ending) (w':World):Prop:=∃p,e=Za (Zf (Y5 ⟨p,0,U⟩))/\Src w.heap.size w p v len w'
theorem bC.aiu {p:Nat} {b:Value} {m:Int} (h:bC w p b k m sz) (s:Int):bC (w.setCell ⟨p,3,U⟩ (Y7 Y6 s)) p b k m s:=Go.heap_setCell_same w p 3 _ _ _ h
theorem bC.lt {p:Nat} {b:Value} {m:Int} (h:bC w p b k m sz):p<w.heap.size:=by
 unfold bC at h;rcases Nat.lt_or_ge p w.heap.size with h1|h1
 ·exact h1
 ·simp[Array.getElem?_eq_none h1] at h
theorem yg {m:Int} (h:bC wr w.heap.size v 0 m sz) (hb:Below w.heap.size w wr) (hR:ep w.heap.size w v len) (m0:0<=m) (m1:m<=18446744073709551615) (s0:0<=sz) (s1:sz<=12):Src w.heap.size w w.heap.size v len wr:=
 ⟨Ye _,Ye _,hb,h.lt,hR.below hb,0,m,sz,YK _,m0,m1,s0,s1,h⟩
theorem lU(x:Int):0<=IntKind.u64.wrap x/\IntKind.u64.wrap x<=18446744073709551615:=by
 have e:IntKind.u64.wrap x=x % 18446744073709551616:=by simp[IntKind.wrap,IntKind.bits,IntKind.signed]
 rw[e];omega
theorem vC(v:Value) (len:Nat) (w:World) (hR:ep w.heap.size w v len):
  Calls Tryz.prog 15 #[v] w (Laid w v len):=by
 have HR:Hid (ep w.heap.size w v len):=hR;obtain⟨hl,a0,cap,rfl,hc⟩:=hR;go_enter Tryz.func15,Tryz.ntmps15;go_wp2;go_loopw [4] (λvi wr=> ∃(i:Nat) (m:Int),i<=len/\vi=Y7 Y6 (i:Int)/\0<=m/\m<=18446744073709551615/\bC wr w.heap.size (J a0 len cap) 0 m 0/\Below w.heap.size w wr) (λvi _=>len - (intOf vi).toNat);case atStart=>exact⟨0,88172645463325252,by omega,rfl,by decide,by decide,by unfold bC;show (w.heap.push _)[w.heap.size]?=_;simp,(Yh _ _).alloc (Ye _) _⟩
 case round=>
  obtain⟨i,m,hi,rfl,m0,m1,hb,hnx⟩:=hrel;obtain⟨c0,c1,c2,c3,f0,f1,f2,f3⟩:=hb.cells;have HB:Hid (bC wr w.heap.size (J a0 len cap) 0 m 0):=hb;have HX:Hid (Below w.heap.size w wr):=hnx;clear hb hnx;by_cases hlt:i<len
  ·by_cases h64:i<64
   ·obtain⟨b,off,z,rfl,hbB,hz,z0,z1⟩:=hc i hlt;have hz':wr.cell? ⟨b,off+i,U⟩=Y5 (Y7 .u8 z):=(HX.cell (p:=⟨b,off+i,U⟩) hbB).trans hz;have HZ:Hid (∀j,j<len->∃(b' off':Nat) (z:Int),Y5 (⟨b,off,U⟩:Addr)=Y5 ⟨b',off',U⟩/\b'<w.heap.size/\w.cell? ⟨b',off'+j,U⟩=Y5 (Y7 .u8 z)/\0<=z/\z<=255):=hc;clear hc hz;go_wp2;go_region;go_wp2;go_roundw;case rel=>exact⟨i+1,_,by omega,by go_num,(lU _).1,(lU _).2,HB.alq _,(HX.setCell (Ye _) _).drew⟩
    case measure=>simp[intOf];omega
   ·exact ahD
  ·exact ahD
def nW(B:Nat) (w0:World) (p:Nat) (v:Value) (len:Nat) (w:World) (e:Ending) (w':World):Prop:=(e=Za (Y9 Zb)\/e=Za (Y9 Y_))/\Src B w0 p v len w'/\w.grownBy w' (Y5 p)
theorem cS {p:Nat} (h:Src B w0 p v len w) (of:Int) (hm2:of<=9223372036854775807):
  Calls Tryz.prog 17 #[Zf (Y5 ⟨p,0,U⟩),Y7 Y6 of] w (nW B w0 p v len w):=by
 have HN:Hid (Calls Tryz.prog 18 #[Zf (Y5 ⟨p,0,U⟩),Y7 Y6 of] w (amL B w0 p v len w of)):=h.n of hm2;clear h;go_enter Tryz.func17,Tryz.ntmps17;go_wp2_with fail;refine HN.mono ?_;rintro e w1 ⟨r,rfl,r0,r1,hS,hg⟩;have HS:Hid (Src B w0 p v len w1):=hS;have HG:Hid (w.grownBy w1 (Y5 p)):=hg;clear hS hg;cases hr:(r==0);all_goals
  go_wp2
  go_ret
 ·exact⟨Zd rfl,HS.out,HG.out⟩
 ·exact⟨Ze rfl,HS.out,HG.out⟩
theorem cj(w:World) (o:Obj) (row:Option Nat):w.grownBy (w.alloc o) row:=⟨rfl,rfl,rfl,by simp,λk hk _=>Yl _ _ _ hk⟩
theorem pf {p:Nat} {row:Option Nat} (h:w.grownBy w1 (Y5 p)) (hg:w1.grownBy w2 row) (hr:∀k,row=Y5 k->w.heap.size<=k):w.grownBy w2 (Y5 p):=
 ⟨hg.os.trans h.os,hg.tape.trans h.tape,hg.output.trans h.output,Yp h.size hg.size,λk hk hne=>(hg.block k (Yj hk h.size) (λe=>by have:=hr k e.symm;omega)).trans (h.block k hk hne)⟩
theorem Src.ay {p:Nat} {row:Option Nat} (h:Src B w0 p v len w) (hg:w.grownBy w' row) (hr:row≠Y5 p) (hB:∀k,row=Y5 k->B<=k):Src B w0 p v len w':=by
 obtain⟨h1,h2,h3,h4,h5,k,m,sz,h6,h7,h8,h9,h10,h11⟩:=h;have hb:Below B w w':=⟨hg.os,hg.tape,hg.output,hg.size,λk hk=>hg.block k (by have:=h3.size;omega) (λe=>by have:=hB k e.symm;omega)⟩;refine⟨h1,h2,h3.trans hb,Yj h4 hg.size,h5.below hb,k,m,sz,h6,h7,h8,h9,h10,?_⟩;unfold bC at h11 ⊢;rw[hg.block p h4 (λe=>hr e.symm)];exact h11
theorem Src.uM {p:Nat} (h:Src B w0 p v len w):p<w.heap.size:=h.2.2.2.1
namespace Dk
def aie(B:Nat) (w0:World) (p:Nat) (v:Value) (len:Nat) (w:World) (e:Ending) (w':World):Prop:=∃x:Int,e=Za (Y7 Y6 x)/\ -9223372036854775808<=x/\x<=9223372036854775807/\Src B w0 p v len w'/\w.grownBy w' (Y5 p)
theorem ints_at(l:List Int) (hall:∀x∈l,-9223372036854775808<=x/\x<=9223372036854775807) (k:Nat) (h:k<l.length):∃x:Int,(l.map (Value.int Y6))[k]?=Y5 (Y7 Y6 x)/\ -9223372036854775808<=x/\x<=9223372036854775807:=
 ⟨l[k],by simp[h],hall _ (List.getElem_mem h)⟩
def Cb:List Int:=[0,1,1023,1024,2048,1048576,1048577,-1024]
theorem lf {p:Nat} (h:Src B w0 p v len w):
  Calls Tryz.prog 123 #[Zf (Y5 ⟨p,0,U⟩)] w (aie B w0 p v len w):=by
 have H1:Hid (Calls Tryz.prog 17 #[Zf (Y5 ⟨p,0,U⟩),Y7 Y6 6] w (nW B w0 p v len w)):=cS h 6 ag;clear h;go_enter Tryz.func123,Tryz.ntmps123;have z805z:=@aa _ @UH;exact yJ
def AM(B:Nat) (w0:World) (p:Nat) (v:Value) (len:Nat) (w:World) (n:Nat) (e:Ending) (w':World):Prop:=∃t:ByteArray,e=Za (I t)/\t.size<=n/\Src B w0 p v len w'/\w.grownBy w' (Y5 p)
theorem eS {p:Nat} (h:Src B w0 p v len w) (b n:Nat) (ss:List ByteArray) (T:TypeId) (hb:w.heap[b]?=Y5 (Y8 (ss.map Ym).toArray T (0,0))) (hbp:¬b=p) (hn:ss.length=n) (h0:0<n) (h1:n<=100) (hz:∀x∈ss,x.size<=100):
  Calls Tryz.prog 28 #[Zf (Y5 ⟨p,0,U⟩),J (Y5 ⟨b,0,U⟩) n n] w (AM B w0 p v len w 100):=by
 have HS:Hid (Src B w0 p v len w):=h;have HB:Hid (w.heap[b]?=Y5 (Y8 (ss.map Ym).toArray T (0,0))):=hb;have HZ:Hid (∀x∈ss,x.size<=100):=hz;clear h hb hz;go_enter Tryz.func28,Tryz.ntmps28;go_wp2_with fail;refine (HS.n n af).mono ?_;rintro e w1 ⟨r,rfl,r0,r1,hS1,hg1⟩;obtain⟨k,rfl⟩:=Int.eq_ofNat_of_zero_le r0;have hk:k<n:=af
 have hblk:w1.heap[b]?=Y5 (Y8 (ss.map Ym).toArray T (0,0)):=by
  rw[hg1.block b (by
   rcases Nat.lt_or_ge b w.heap.size with h'|h'
   ·exact h'
   ·have:=HB.out;rw[Array.getElem?_eq_none h'] at this;cases this) (λe=>by simp at e;omega)]
  exact HB.out
 have hkl:k<ss.length:=af
 have hc:w1.cell? ⟨b,k,U⟩=Y5 (I ss[k]):=by
  simp[World.cell?,hblk,hkl]
 have HX:Hid ((ss[k]).size<=100):=HZ.out _ (List.getElem_mem hkl);have HS1:Hid (Src B w0 p v len w1):=hS1;have HG1:Hid (w.grownBy w1 (Y5 p)):=hg1;clear hS1 hg1 hblk HS HB HZ r1 r0;generalize ss[k]=x at hc HX;go_wp2;go_ret;exact⟨x,rfl,HX.out,HS1.out,HG1.out⟩
structure Dr (B:Nat) (w0:World) (p:Nat) (v:Value) (len:Nat) (wa w:World):Prop where
 src:Src B w0 p v len w
 gr:wa.grownBy w (Y5 p)
 lt:p<wa.heap.size
theorem Dr.start {p:Nat} (h:Src B w0 p v len w):Dr B w0 p v len w w:=⟨h,⟨rfl,rfl,rfl,Ye _,λ_ _ _=>rfl⟩,h.uM⟩
theorem Dr.size {p:Nat} (h:Dr B w0 p v len wa w):wa.heap.size<=w.heap.size:=h.gr.size
theorem Dr.alloc {p:Nat} (h:Dr B w0 p v len wa w) (o:Obj):Dr B w0 p v len wa (w.alloc o):=
 ⟨h.src.ay (cj w o U) aG (λk hk=>by cases hk),bV h.gr (cj w o _),h.lt⟩
theorem Dr.set {p:Nat} (h:Dr B w0 p v len wa w) {b i:Nat} (x:Value) (hb:wa.heap.size<=b):Dr B w0 p v len wa (w.setCell ⟨b,i,U⟩ x):=by
 have hl:=h.lt;have hB:B<=p:=h.src.1;refine⟨h.src.ay (bJ w b i x) (λe=>by simp at e;omega) (λk hk=>by simp at hk;omega),?_,h.lt⟩;exact pf h.gr (bJ w b i x) (λk hk=>by simp at hk;omega)
theorem Dr.next {p:Nat} (h:Dr B w0 p v len wa w) (hs:Src B w0 p v len w') (hg:w.grownBy w' (Y5 p)):Dr B w0 p v len wa w':=⟨hs,bV h.gr hg,h.lt⟩
theorem Dr.below {p:Nat} (h:Dr B w0 p v len wa w) (hb:Below w.heap.size w w'):Dr B w0 p v len wa w':=
 ⟨h.src.ay (row:=U) ⟨hb.os,hb.tape,hb.output,hb.size,λk hk _=>hb.block k hk⟩ aG (λk hk=>by cases hk),bV h.gr ⟨hb.os,hb.tape,hb.output,hb.size,λk hk _=>hb.block k hk⟩,h.lt⟩
theorem gk {p:Nat} {o:Obj} (hg:w.grownBy w' (Y5 p)) (hn:¬k=p) (h:w.heap[k]?=Y5 o):w'.heap[k]?=Y5 o:=
 (hg.block k (ae h) (λe=>hn (by simpa using e))).trans h
theorem bZ {p:Nat} (h:Src B w0 p v len w) (ss:List ByteArray) (n b:Nat) (T:TypeId) (hq:b=w.heap.size) (hn:ss.length=n) (h0:0<n) (h1:n<=100) (hz:∀x∈ss,x.size<=100):
  Calls Tryz.prog 28 #[Zf (Y5 ⟨p,0,U⟩),J (Y5 ⟨b,0,U⟩) n n] (w.alloc (Y8 (ss.map Ym).toArray T)) (AM B w0 p v len w 100):=by
 subst hq;have h2:Src B w0 p v len (w.alloc (Y8 (ss.map Ym).toArray T)):=h.ay (cj w _ U) aG (λk hk=>by cases hk);refine (eS h2 w.heap.size n ss T Yg (by have:=h.uM;omega) hn h0 h1 hz).mono ?_;rintro e w' ⟨t,rfl,ht,hs,hg⟩;exact⟨t,rfl,ht,hs,bV (cj w _ _) hg⟩
theorem rf {p:Nat} (h:Src B w0 p v len w):
  Calls Tryz.prog 122 #[Zf (Y5 ⟨p,0,U⟩)] w (AM B w0 p v len w 100):=by
 have HS:=aa h;clear h;go_enter Tryz.func122,Tryz.ntmps122;go_wp2_with fail;refine (bZ HS.out [⟨#[101,97,115,116]⟩,⟨#[119,101,115,116]⟩] 2 _ _ rfl rfl ag ag ag).mono ?_;exact Qg
theorem agK {p:Nat} (h:Src B w0 p v len w):
  Calls Tryz.prog 124 #[Zf (Y5 ⟨p,0,U⟩)] w (AM B w0 p v len w 100):=by
 have HS:=aa h;clear h;go_enter Tryz.func124,Tryz.ntmps124;go_wp2_with fail;refine (bZ HS.out [⟨#[]⟩,⟨#[65]⟩,⟨#[49,50,51]⟩] 3 _ _ rfl rfl ag ag ag).mono ?_;exact Qg
def amK(B:Nat) (w0:World) (p:Nat) (v:Value) (len:Nat) (w:World) (e:Ending) (w':World):Prop:=
 ∃n c k x u,e=Za (Zc #[I n,Y7 Y6 c,I k,Y9 x,I u])/\n.size<=100/\k.size<=100/\u.size<=100/\Dr B w0 p v len w w'
def amI(B:Nat) (w0:World) (p:Nat) (v:Value) (len:Nat) (w:World) (e:Ending) (w':World):Prop:=
 ∃n c z k x m y a l cp zs,e=Za (Zc #[I n,Y7 Y6 c,I z,I k,Y9 x,I m,Y9 y,J a l cp])/\n.size<=100/\z.size<=100/\k.size<=100/\m.size<=100/\az w' a l cp zs/\(zs=[]\/∃g,a=Y5 (⟨g,0,U⟩:Addr)/\w.heap.size<=g)/\Dr B w0 p v len w w'
theorem qB(X:World) (o:Obj) (n:Nat) (h:X.heap.size=n):(X.alloc o).heap[n]?=Y5 o:=by
 subst h;exact Yg
theorem eI(h:e=Za (Y9 Zb)\/e=Za (Y9 Y_)):∃b,e=Za (Y9 b):=by
 rcases h with h|h
 ·exact⟨Zb,h⟩
 ·exact⟨Y_,h⟩
theorem BF {p:Nat} (h:Src B w0 p v len w):
  Calls Tryz.prog 81 #[Zf (Y5 ⟨p,0,U⟩)] w (amK B w0 p v len w):=by
 have HD0:=aa ((Dr.start h).alloc (Y8 #[I ⟨#[]⟩,Y7 Y6 0,I ⟨#[]⟩,Y9 Y_,I ⟨#[]⟩] 50));have HP:=aa h.uM;have G0:Hid ((w.alloc (Y8 #[I ⟨#[]⟩,Y7 Y6 0,I ⟨#[]⟩,Y9 Y_,I ⟨#[]⟩] 50)).heap[w.heap.size]?=Y5 (Y8 #[I ⟨#[]⟩,Y7 Y6 0,I ⟨#[]⟩,Y9 Y_,I ⟨#[]⟩] 50 (0,0))):=Yg;clear h;go_enter Tryz.func81,Tryz.ntmps81;go_wp2_with fail;refine (bZ HD0.src [⟨#[99,49]⟩,⟨#[99,50]⟩,⟨#[99,51]⟩,⟨#[99,52]⟩] 4 _ _ aG rfl ag ag ag).mono ?_;have z760z:=@aa _ @Vh;exact yR
theorem RO {p:Nat} (h:Src B w0 p v len w):
  Calls Tryz.prog 79 #[Zf (Y5 ⟨p,0,U⟩)] w (amI B w0 p v len w):=by
 have HD0:=aa ((Dr.start h).alloc (Y8 #[I ⟨#[]⟩,Y7 Y6 0,I ⟨#[]⟩,I ⟨#[]⟩,Y9 Y_,I ⟨#[]⟩,Y9 Y_,J U 0 0] 38));have HP:=aa h.uM;have G0:Hid ((w.alloc (Y8 #[I ⟨#[]⟩,Y7 Y6 0,I ⟨#[]⟩,I ⟨#[]⟩,Y9 Y_,I ⟨#[]⟩,Y9 Y_,J U 0 0] 38)).heap[w.heap.size]?=Y5 (Y8 #[I ⟨#[]⟩,Y7 Y6 0,I ⟨#[]⟩,I ⟨#[]⟩,Y9 Y_,I ⟨#[]⟩,Y9 Y_,J U 0 0] 38 (0,0))):=Yg;clear h;go_enter Tryz.func79,Tryz.ntmps79;go_wp2_with fail;refine (bZ HD0.src [⟨#[100,49]⟩,⟨#[100,50]⟩,⟨#[100,51]⟩] 3 _ _ aG rfl ag ag ag).mono ?_;have z1441z:=@aa _ @Hs;exact sK
theorem Src.drew {p:Nat} (h:Src B w0 p v len w):Src B w0 p v len w.drew:=
 h.ay (row:=U) ⟨rfl,rfl,rfl,Ye _,λ_ _ _=>rfl⟩ aG (λk hk=>by cases hk)
def akV:List Int:=[-1,0,1000,1000000,1000001]
theorem xh {p:Nat} (h:Src B w0 p v len w):
  Calls Tryz.prog 125 #[Zf (Y5 ⟨p,0,U⟩)] w (aie B w0 p v len w):=by
 have H1:Hid (Calls Tryz.prog 17 #[Zf (Y5 ⟨p,0,U⟩),Y7 Y6 6] w (nW B w0 p v len w)):=cS h 6 ag;clear h;go_enter Tryz.func125,Tryz.ntmps125;have z805z:=@aa _ @UG;exact yJ
def PSt(B:Nat) (w0:World) (p:Nat) (v:Value) (len:Nat) (wa:World) (b m:Nat) (W:World):Prop:=
 ∃(n:ByteArray) (c:Int) (z:ByteArray) (lv:Value) (zs:List ByteArray) (d:ByteArray) (ph:Int),W.heap[b]?=Y5 (Y8 #[I n,Y7 Y6 c,I z,lv,I d,Y7 Y6 ph] 40 (0,0))/\(n.size<=100/\z.size<=100/\d.size<=100)/\zs.length<=m/\(∀(j:Nat) x,zs[j]?=Y5 x->x.size<=100)/\
  W.ownsRow wa.heap.size 9 1 lv zs.length (zs.map Ym)/\Dr B w0 p v len wa W/\W.heap[wa.heap.size]?=Y5 (Y8 #[I ⟨#[]⟩,Y7 Y6 0,I ⟨#[]⟩,J U 0 0,I ⟨#[]⟩,Y7 Y6 0] 40 (0,0))/\wa.heap.size<b
theorem nB {lo n:Nat} {cur:Array Value} (h:W.ownsRow lo 9 1 lv n xs) (hb:W.heap[b]?=Y5 (Y8 cur 40 (0,0))):lv.ownBlock≠Y5 b:=λe=>by
 rcases h.2 with ⟨rfl,_⟩|⟨g',cap,cu,rfl,_,hg',_⟩
 ·cases e
 ·simp[YL] at e;subst e;rw[hb] at hg';simp at hg'
theorem PSt.next {p:Nat} {W':World} (h:PSt B w0 p v len wa b m W) (hs:Src B w0 p v len W') (hg:W.grownBy W' (Y5 p)):PSt B w0 p v len wa b m W':=by
 obtain⟨n,c,z,lv,zs,d,ph,h1,h2,h3,h4,h5,h6,h7,h8⟩:=h;have hp:=h6.lt;refine⟨n,c,z,lv,zs,d,ph,gk hg af h1,h2,h3,h4,h5.kept hg (Zd (λe=>by have:=(h5.lt _ e).1;omega)),h6.next hs hg,gk hg af h7,h8⟩
theorem PSt.set {p:Nat} (h:PSt B w0 p v len wa b m W):
  (∀x,PSt B w0 p v len wa b m (W.setCell ⟨b,1,U⟩ (Y7 Y6 x)))/\(∀s:ByteArray,s.size<=100->PSt B w0 p v len wa b m (W.setCell ⟨b,2,U⟩ (I s)))/\
  (∀s:ByteArray,s.size<=100->PSt B w0 p v len wa b m (W.setCell ⟨b,4,U⟩ (I s)))/\(∀x,PSt B w0 p v len wa b m (W.setCell ⟨b,5,U⟩ (Y7 Y6 x))):=by
 obtain⟨n,c,z,lv,zs,d,ph,h1,h2,h3,h4,h5,h6,h7,h8⟩:=h;have k5:∀i x,(W.setCell ⟨b,i,U⟩ x).ownsRow wa.heap.size 9 1 lv zs.length (zs.map Ym):=λi x=>h5.kept (bJ W b i x) (Zd (nB h5 h1));have k6:∀i x,Dr B w0 p v len wa (W.setCell ⟨b,i,U⟩ x):=λi x=>h6.set x af;have k7:∀i x,(W.setCell ⟨b,i,U⟩ x).heap[wa.heap.size]?=Y5 (Y8 #[I ⟨#[]⟩,Y7 Y6 0,I ⟨#[]⟩,J U 0 0,I ⟨#[]⟩,Y7 Y6 0] 40 (0,0)):=λi x=>(Ya _ _ _ _ (show wa.heap.size≠b by omega)).trans h7;exact⟨λx=>⟨n,x,z,lv,zs,d,ph,av h1 _,h2,h3,h4,k5 _ _,k6 _ _,k7 _ _,h8⟩,λs hs=>⟨n,c,s,lv,zs,d,ph,av h1 _,⟨h2.1,hs,h2.2.2⟩,h3,h4,k5 _ _,k6 _ _,k7 _ _,h8⟩,
  λs hs=>⟨n,c,z,lv,zs,s,ph,av h1 _,⟨h2.1,h2.2.1,hs⟩,h3,h4,k5 _ _,k6 _ _,k7 _ _,h8⟩,λx=>⟨n,c,z,lv,zs,d,x,av h1 _,h2,h3,h4,k5 _ _,k6 _ _,k7 _ _,h8⟩⟩
theorem PSt.lay {p:Nat} (h:PSt B w0 p v len wa b m W) (ss:List ByteArray) (hl:ss.length<=m) (hl2:ss.length<=2) (hs:∀x∈ss,x.size<=100) (k:Nat) (hk:ss.length=k):
  PSt B w0 p v len wa b m ((W.setCell ⟨b,3,U⟩ (J (Y5 ⟨W.heap.size,0,U⟩) k k)).alloc (Y8 (ss.map Ym).toArray 9)):=by
 obtain⟨n,c,z,lv,zs,d,ph,h1,h2,h3,h4,h5,h6,h7,h8⟩:=h;subst hk;have hbw:=ae h1;have hsz:(W.setCell ⟨b,3,U⟩ (J (Y5 ⟨W.heap.size,0,U⟩) ss.length ss.length)).heap.size=W.heap.size:=kS
 refine⟨n,c,z,J (Y5 ⟨W.heap.size,0,U⟩) ss.length ss.length,ss,d,ph,(Yl _ _ _ (by rw[hsz];exact hbw)).trans (av h1 _),h2,hl,λj x hx=>hs x (Ys hx),?_,(h6.set _ af).alloc _,(Yl _ _ _ (by rw[hsz];omega)).trans ((Ya _ _ _ _ (show wa.heap.size≠b by omega)).trans h7),h8⟩;refine⟨by simp,Zd ⟨W.heap.size,ss.length,(ss.map Ym).toArray,rfl,h6.size,qB _ _ _ hsz,Ye _,by unfold maxLen;omega,by simp,by simp;exact YJ aG⟩⟩
theorem PSt.up {p:Nat} {m':Nat} (h:PSt B w0 p v len wa b m W) (hm:m<=m'):PSt B w0 p v len wa b m' W:=by
 obtain⟨n,c,z,lv,zs,d,ph,h1,h2,h3,h⟩:=h;exact⟨n,c,z,lv,zs,d,ph,h1,h2,by omega,h⟩
theorem akI {lo:Nat} (h5:W.ownsRow lo 9 1 lv zs.length (zs.map Ym)) (h4:∀(j:Nat) x,zs[j]?=Y5 x->x.size<=100):∃a l cp,lv=J a l cp/\az W a l cp zs/\(a=U->cp=0):=by
 rcases h5.2 with ⟨rfl,h0⟩|⟨g,cap,cu,rfl,hb,hg,hn,hc,hs,ht⟩
 ·have:zs=[]:=YM h0;subst this;exact⟨U,0,0,rfl,⟨rfl,Ye _,by omega,λj x hx=>by simp at hx,Ze rfl⟩,λ_=>rfl⟩
 ·refine⟨_,_,_,rfl,⟨by simp,hn,by unfold maxLen at hc;omega,λj x hx=>by have:=h4 j x hx;omega,Zd ⟨g,0,rfl,ae hg,λj x hx=>?_⟩⟩,λe=>by cases e⟩;have hj:j<zs.length:=(Yc.1 hx).1;have e1:(cu.toList.take (zs.length*1))[j]?=(zs.map Ym)[j]?:=by rw[ht]
  rw[YA,if_pos af,Yv,hx] at e1;rw[an hg,Yq,<-Array.getElem?_toList];exact e1
theorem ll {o:Oper} {a:Act} (hgd:o.guard=U) (s x:Operand) (t:TypeId)
  (ho:o.op=.call { callee:=.builtin .append,args:=#[s,x],argTypes:=#[t,t] })
  (base:Nat) (e:TypeId) (i:TypeInfo) (z:Value) (size bytes:Nat) (ht:P.underlying t=Y5 (.slice e)) (hi:P.info? e=Y5 i) (hz:i.zero=Y5 z)
  (hsize:i.size=size) (hby:i.bytes=bytes) (hzs:z.cells.size=size) (hsz:0<size)
  (v:Value) (n:Nat) (xs:List Value) (hs:a.eval s=v) (hown:w.ownsRow base e size v n xs)
  (ad:Addr) (m c:Nat) (news:List Value) (hx:a.eval x=J (Y5 ad) m c) (hl:news.length=m*size) (hnews:∀j u,news[j]?=Y5 u->w.cell? (ad.add j)=Y5 u) (h1:∀u∈news,u.oneCell'=Zb)
  (h63:n+m<=maxLen) (hbytes:(n+m)*bytes<=140737488355328) (hbase:base<=w.heap.size)
  (h:∀v' w',w'.ownsRow base e size v' (n+m) (xs++news)->w.grownBy w' v.ownBlock->(v'=J U 0 0↔v=J U 0 0/\m=0)->K (a.put o.dst v') w'):
  if YP o (yielded ops a.tmps)=Zb then Oper.wp P o a w K Q else E:=by
 have hw:YP o (yielded ops a.tmps)=Zb:=by simp[YP,hgd]
 rw[if_pos hw];exact wp_append_own w s x t ho base e i z size bytes ht hi hz hsize hby hzs hsz v n xs hs hown ad m c news hx hl hnews h1 h63 hbytes hbase h
theorem akJ {lo n:Nat} (h:W.ownsRow lo T m v n xs):∃a l c,v=J a l c:=by
 rcases h.2 with ⟨rfl,_⟩|⟨g,cap,cu,rfl,_⟩
 ·exact⟨_,_,_,rfl⟩
 ·exact⟨_,_,_,rfl⟩
theorem Dr.akU {p:Nat} {row:Option Nat} (h:Dr B w0 p v len wa w) (hg:w.grownBy w' row) (hr:∀k,row=Y5 k->wa.heap.size<=k):Dr B w0 p v len wa w':=by
 have hp:=h.lt;have hB:B<=p:=h.src.1;refine⟨h.src.ay hg (λe=>by have:=hr p e;omega) (λk e=>by have:=hr k e;omega),⟨hg.os.trans h.gr.os,hg.tape.trans h.gr.tape,hg.output.trans h.gr.output,Yp h.gr.size hg.size,λi hi hne=>?_⟩,h.lt⟩;exact (hg.block i (Yj hi h.gr.size) (λe=>by have:=hr i e.symm;omega)).trans (h.gr.block i hi hne)
theorem AS {o:Oper} {a:Act} (hgd:o.guard=U) (f:FuncId) (args:Array Operand) (ts:Array TypeId) {fn:Func} {cd:Code} (hf:P.funcs[f]?=Y5 fn) (hname:(fn.name== "runtime.NumGoroutine")=Y_) (hb:fn.body=Y5 cd)
  (ho:o.op=.call { callee:=.value (.func f),args:=args,argTypes:=ts }) (vs:Array Value) (hv:args.map a.eval=vs) {R:Ending->World->Prop} (h:Calls P f vs w R)
  (hR:∀e w',R e w'->∃v,e=Za v/\K (a.put o.dst v) w'):
  if YP o (yielded ops a.tmps)=Zb then Oper.wp P o a w K Q else E:=by
 have hw:YP o (yielded ops a.tmps)=Zb:=by simp[YP,hgd]
 rw[if_pos hw];subst hv;unfold Oper.wp;have hrun:(execOp a.eval o).run P w=.ok (.enter f (args.map a.eval)) w:=by
  have h1:¬fn.name= "runtime.NumGoroutine":=by simpa using hname
  simp[execOp,ho,resolve,invoke,Act.eval,Deferred.ofValue,callFunc,hf,h1,hb,Result.andThen]
 rw[hrun,Oper.upon_enter];refine h.mono λe w' hr=>?_;obtain⟨v,rfl,hk⟩:=hR e w' hr;exact hk
theorem agq {lo:Nat} (h5:W.ownsRow lo 9 1 lv zs.length (zs.map Ym)) (h4:∀(j:Nat) x,zs[j]?=Y5 x->x.size<=100):∃a l cp,lv=J a l cp/\az W a l cp zs/\(a=U->cp=0)/\(zs=[]\/∃g,a=Y5 ⟨g,0,U⟩/\lo<=g):=by
 obtain⟨a,l,cp,rfl,h1,h2⟩:=akI h5 h4;refine⟨a,l,cp,rfl,h1,h2,?_⟩;rcases h5.2 with ⟨e,h0⟩|⟨g,cap,cu,e,hb,_⟩
 ·exact Ze (YM h0)
 ·injection e with e1 e2 e3;exact Zd ⟨g,e1,hb⟩
def amJ(B:Nat) (w0:World) (p:Nat) (v:Value) (len:Nat) (w:World) (e:Ending) (w':World):Prop:=
 ∃n c z a l cp zs d ph,e=Za (Zc #[I n,Y7 Y6 c,I z,J a l cp,I d,Y7 Y6 ph])/\n.size<=100/\z.size<=100/\d.size<=100/\az w' a l cp zs/\(a=U->cp=0)/\(zs=[]\/∃g,a=Y5 ⟨g,0,U⟩/\w.heap.size<=g)/\zs.length<=4/\(∀(j:Nat) x,zs[j]?=Y5 x->x.size<=100)/\Dr B w0 p v len w w'
theorem PSt.src {p:Nat} (h:PSt B w0 p v len wa b m W):Src B w0 p v len W:=by
 obtain⟨_,_,_,_,_,_,_,_,_,_,_,_,h,_⟩:=h;exact h.src
theorem PSt.lt {p:Nat} (h:PSt B w0 p v len wa b m W):b<W.heap.size:=by
 obtain⟨_,_,_,_,_,_,_,h,_⟩:=h;exact ae h
theorem agk {p:Nat} (h:Src B w0 p v len w):
  Calls Tryz.prog 83 #[Zf (Y5 ⟨p,0,U⟩)] w (amJ B w0 p v len w):=by
 have HD0:=aa ((Dr.start h).alloc (Y8 #[I ⟨#[]⟩,Y7 Y6 0,I ⟨#[]⟩,J U 0 0,I ⟨#[]⟩,Y7 Y6 0] 40));have HP:=aa h.uM;have G0:Hid ((w.alloc (Y8 #[I ⟨#[]⟩,Y7 Y6 0,I ⟨#[]⟩,J U 0 0,I ⟨#[]⟩,Y7 Y6 0] 40)).heap[w.heap.size]?=Y5 (Y8 #[I ⟨#[]⟩,Y7 Y6 0,I ⟨#[]⟩,J U 0 0,I ⟨#[]⟩,Y7 Y6 0] 40 (0,0))):=Yg;clear h;go_enter Tryz.func83,Tryz.ntmps83;go_wp2_with fail;refine (bZ HD0.src [⟨#[112,49]⟩,⟨#[112,50]⟩,⟨#[112,51]⟩,⟨#[112,52]⟩] 4 _ _ aG rfl ag ag ag).mono ?_;have z760z:=@aa _ @Vg;exact yR
end Dk
namespace Rc
def lk(w:World) (p:Nat):Prop:=∀(i:Nat) (t:ByteArray),w.cell? ⟨p,i,U⟩≠Y5 (I t)
theorem cell_kept(hb:aI S w w') {b o:Nat} (h:b<w.heap.size) (hs:¬S b):w'.cell? ⟨b,o,U⟩=w.cell? ⟨b,o,U⟩:=by
 simp[World.cell?,hb.block b h hs]
theorem az.bR {p:Nat} (h:az w a len cap zs) (hn:lk w p) (hb:aI (λk=>k=p) w w'):az w' a len cap zs:=by
 obtain⟨h1,h2,h3,h4,h5⟩:=h;refine⟨h1,h2,h3,h4,?_⟩;rcases h5 with h5|⟨b,o,rfl,hl,hc⟩
 ·exact Ze h5
 ·by_cases hz:zs=[]
  ·exact Ze hz
  refine Zd ⟨b,o,rfl,Yj hl hb.size,λj x hx=>?_⟩;have hbp:¬b=p:=λe=>by
   subst e;exact hn _ _ (hc j x hx)
  exact (cell_kept hb hl hbp).trans (hc j x hx)
theorem Fv.Is.bR {p:Nat} {f:Fv} (h:f.Is w v) (hn:lk w p) (hb:aI (λk=>k=p) w w'):f.Is w' v:=by
 cases f with
 | l zs=>obtain⟨a,len,cap,h1,h2⟩:=h;exact⟨a,len,cap,h1,az.bR h2 hn hb⟩
 | _=>exact h
def RC(rs:List (List Fv)):Prop:=∀(j:Nat) r,rs[j]?=Y5 r->∃t,r[0]?=Y5 (.s t)
theorem aT.bR {p:Nat} {rs:List (List Fv)} (h:aT w a len cap m rs) (hr:RC rs) (hn:lk w p) (hb:aI (λk=>k=p) w w'):aT w' a len cap m rs:=by
 obtain⟨h1,h2,h3,h5⟩:=h;refine⟨h1,h2,h3,?_⟩;rcases h5 with h5|⟨b,o,rfl,hl,hc⟩
 ·exact Ze h5
 refine Zd ⟨b,o,rfl,Yj hl hb.size,λj r hj=>?_⟩;obtain⟨t,ht⟩:=hr j r hj;have hbp:¬b=p:=λe=>by
  subst e;obtain⟨v,e1,e2⟩:=hc j r hj 0 _ ht;obtain⟨rfl,_⟩:=e2;exact hn _ _ e1
 intro i f hi;obtain⟨v,e1,e2⟩:=hc j r hj i f hi;exact⟨v,(cell_kept hb hl hbp).trans e1,e2.bR hn hb⟩
theorem cy {F:α->List Fv} (h:∀x,∃t,(F x)[0]?=Y5 (.s t)) (xs:List α):RC (xs.map F):=by
 exact PA
theorem aB.bR {p:Nat} (h:aB w d c.raw) (hn:lk w p) (hb:aI (λk=>k=p) w w'):aB w' d c.raw:=
 ⟨h.n.bR (cy (λx=>⟨x.n,rfl⟩) c.ns) hn hb,h.k.bR (cy (λx=>⟨x.n,rfl⟩) c.ks) hn hb,h.v.bR (cy (λx=>⟨x.n,rfl⟩) c.vs) hn hb,h.x.bR (cy (λx=>⟨x.n,rfl⟩) c.xs) hn hb,h.p.bR (cy (λx=>⟨x.n,rfl⟩) c.ps) hn hb⟩
def Ak(w:World) (v v':Value):Prop:=v'=v\/((∃t,v=I t)/\∃t:ByteArray,v'=I t/\t.size<=9223372036854775807)\/((∃n,v=Y7 Y6 n)/\∃n,v'=Y7 Y6 n)\/((∃x,v=Y9 x)/\∃x,v'=Y9 x)\/
 ((∃a l c,v=J a l c)/\∃a l c zs,v'=J a l c/\az w a l c zs)
structure Kin (w w':World):Prop where
 size:w.heap.size<=w'.heap.size
 cell:∀b i v,b<w.heap.size->w.cell? ⟨b,i,U⟩=Y5 v->∃v',w'.cell? ⟨b,i,U⟩=Y5 v'/\Ak w' v v'
theorem iC(P:Nat->α->Prop):∀n:Nat,(∀j,j<n->∃x,P j x)->∃l:List α,l.length=n/\∀(j:Nat) x,l[j]?=Y5 x->P j x
 | 0,_=>⟨[],rfl,λj x h=>by cases h⟩
 | n+1,h=>by
  obtain⟨l,h1,h2⟩:=iC P n (λj hj=>h j af);obtain⟨y,hy⟩:=h n af;refine⟨l++[y],by simp[h1],λj x hj=>?_⟩;by_cases e:j<n
  ·rw[Yu af] at hj;exact h2 j x hj
  ·rw[List.getElem?_append_right af] at hj;have e2:j - l.length=0:=by
    have:=(Yc.1 hj).1;simp at this;omega
   rw[e2] at hj;obtain rfl:y=x:=by simpa using hj
   obtain rfl:j=n:=af
   exact hy
theorem az.Bf(h:az w a len cap zs) (hk:Kin w w'):∃zs',zs'.length=zs.length/\az w' a len cap zs':=by
 obtain⟨h1,h2,h3,h4,h5⟩:=h;rcases h5 with rfl|⟨b,o,rfl,hl,hc⟩
 ·exact⟨[],rfl,h1,h2,h3,λj x h=>bU,Ze rfl⟩
 obtain⟨l,e1,e2⟩:=iC (λj (t:ByteArray)=>w'.cell? ⟨b,o+j,U⟩=Y5 (I t)/\t.size<=9223372036854775807) zs.length (λj hj=>by
  have hz:zs[j]?=Y5 zs[j]:=Yi hj;obtain⟨v',g1,g2⟩:=hk.cell b (o+j) _ hl (hc j _ hz)
  rcases g2 with rfl|⟨_,t,rfl,ht⟩|⟨⟨_,g⟩,_⟩|⟨⟨_,g⟩,_⟩|⟨⟨_,_,_,g⟩,_⟩
  ·exact⟨_,g1,h4 j _ hz⟩
  ·exact⟨t,g1,ht⟩
  ·cases g
  ·cases g
  ·cases g)
 exact⟨l,e1,e1.trans h1,h2,h3,λj x hj=>(e2 j x hj).2,Zd ⟨b,o,rfl,Yj hl hk.size,λj x hj=>(e2 j x hj).1⟩⟩
def Fv.qF:Fv->Fv->Prop
 | .s _,.s _=>True
 | .i _,.i _=>True
 | .b _,.b _=>True
 | .l _,.l _=>True
 | _,_=>False
theorem Fv.Is.Bf {f:Fv} (h:f.Is w v) (hk:Kin w w') (ha:Ak w' v v'):∃f',Fv.qF f f'/\f'.Is w' v':=by
 cases f with
 | s t=>
  obtain⟨rfl,ht⟩:=h
  rcases ha with rfl|⟨_,t,rfl,ht⟩|⟨⟨_,g⟩,_⟩|⟨⟨_,g⟩,_⟩|⟨⟨_,_,_,g⟩,_⟩
  ·exact⟨.s t,trivial,rfl,ht⟩
  ·exact⟨.s t,trivial,rfl,ht⟩
  all_goals cases g
 | i n=>
  obtain rfl:=h
  rcases ha with rfl|⟨⟨_,g⟩,_⟩|⟨_,n,rfl⟩|⟨⟨_,g⟩,_⟩|⟨⟨_,_,_,g⟩,_⟩
  ·exact⟨.i n,trivial,rfl⟩
  ·cases g
  ·exact⟨.i n,trivial,rfl⟩
  all_goals cases g
 | b x=>
  obtain rfl:=h
  rcases ha with rfl|⟨⟨_,g⟩,_⟩|⟨⟨_,g⟩,_⟩|⟨_,x,rfl⟩|⟨⟨_,_,_,g⟩,_⟩
  ·exact⟨.b x,trivial,rfl⟩
  ·cases g
  ·cases g
  ·exact⟨.b x,trivial,rfl⟩
  ·cases g
 | l zs=>
  obtain⟨a,len,cap,rfl,ht⟩:=h
  rcases ha with rfl|⟨⟨_,g⟩,_⟩|⟨⟨_,g⟩,_⟩|⟨⟨_,g⟩,_⟩|⟨_,a,l,c,zs,rfl,ht⟩
  ·obtain⟨zs',_,h2⟩:=az.Bf ht hk;exact⟨.l zs',trivial,_,_,_,rfl,h2⟩
  ·cases g
  ·cases g
  ·cases g
  ·exact⟨.l zs,trivial,_,_,_,rfl,ht⟩
def gI(r r':List Fv):Prop:=r'.length=r.length/\∀(i:Nat) f f',r[i]?=Y5 f->r'[i]?=Y5 f'->Fv.qF f f'
theorem RAt.Bf {o:Nat} {r:List Fv} (h:RAt w b o r) (hl:b<w.heap.size) (hk:Kin w w'):∃r',gI r r'/\RAt w' b o r':=by
 obtain⟨l,e1,e2⟩:=iC (λi (f':Fv)=>(∀f,r[i]?=Y5 f->Fv.qF f f')/\∃v',w'.cell? ⟨b,o+i,U⟩=Y5 v'/\f'.Is w' v') r.length (λi hi=>by
  have hr:r[i]?=Y5 r[i]:=Yi hi;obtain⟨v,g1,g2⟩:=h i _ hr;obtain⟨v',g3,g4⟩:=hk.cell b (o+i) _ hl g1;obtain⟨f',g5,g6⟩:=g2.Bf hk g4
  exact⟨f',λf hf=>by rw[hr] at hf;obtain rfl:=Yd hf;exact g5,v',g3,g6⟩)
 exact⟨l,⟨e1,λi f f' hf hf'=>(e2 i f' hf').1 f hf⟩,λi f hi=>(e2 i f hi).2⟩
theorem aT.Bf {rs:List (List Fv)} (h:aT w a len cap m rs) (hk:Kin w w'):∃rs',rs'.length=rs.length/\(∀(j:Nat) r r',rs[j]?=Y5 r->rs'[j]?=Y5 r'->gI r r')/\aT w' a len cap m rs':=by
 obtain⟨h1,h2,h3,h5⟩:=h;rcases h5 with rfl|⟨b,o,rfl,hl,hc⟩
 ·exact⟨[],rfl,λ_ _ _ h=>bU,h1,h2,h3,Ze rfl⟩
 obtain⟨l,e1,e2⟩:=iC (λj (r':List Fv)=>(∀r,rs[j]?=Y5 r->gI r r')/\RAt w' b (o+j*m) r') rs.length (λj hj=>by
  have hr:rs[j]?=Y5 rs[j]:=Yi hj;obtain⟨r',g1,g2⟩:=(hc j _ hr).Bf hl hk
  exact⟨r',λr h=>by rw[hr] at h;obtain rfl:=Yd h;exact g1,g2⟩)
 exact⟨l,e1,λj r r' hr hr'=>(e2 j r' hr').1 r hr,e1.trans h1,h2,h3,Zd ⟨b,o,rfl,Yj hl hk.size,λj r hj=>(e2 j r hj).2⟩⟩
theorem kL {F:α->List Fv} (hF:∀x r',gI (F x) r'->∃y,r'=F y):∀(xs:List α) (rs':List (List Fv)),rs'.length=(xs.map F).length->(∀(j:Nat) r r',(xs.map F)[j]?=Y5 r->rs'[j]?=Y5 r'->gI r r')->∃ys:List α,ys.length=xs.length/\rs'=ys.map F
 | [],rs',h,_=>⟨[],rfl,by simpa using h⟩
 | x ::xs,[],h,_=>by simp at h
 | x ::xs,r' ::rs',h,hl=>by
  obtain⟨y,rfl⟩:=hF x r' (hl 0 _ _ rfl rfl);obtain⟨ys,h1,rfl⟩:=kL hF xs rs' np (λj r q h1 h2=>hl (j+1) r q h1 h2);exact⟨y ::ys,by simp[h1],rfl⟩
theorem dF {f:Fv} (h:Fv.qF (.s t) f):∃x,f=.s x:=by cases f <;> first|exact⟨_,rfl⟩|exact h.elim
theorem iW {n:Int} {f:Fv} (h:Fv.qF (.i n) f):∃x,f=.i x:=by cases f <;> first|exact⟨_,rfl⟩|exact h.elim
theorem kO {b:Bool} {f:Fv} (h:Fv.qF (.b b) f):∃x,f=.b x:=by cases f <;> first|exact⟨_,rfl⟩|exact h.elim
theorem xf {f:Fv} (h:Fv.qF (.l zs) f):∃x,f=.l x:=by cases f <;> first|exact⟨_,rfl⟩|exact h.elim
theorem agt(x:Nd) (r':List Fv) (h:gI (ndF x) r'):∃y,r'=ndF y:=by
 obtain⟨h1,h2⟩:=h;match r',h1 with
 | [f0,f1,f2,f3,f4,f5,f6],_=>
  obtain⟨a,rfl⟩:=dF (h2 0 _ _ rfl rfl);obtain⟨b,rfl⟩:=dF (h2 1 _ _ rfl rfl);obtain⟨c,rfl⟩:=iW (h2 2 _ _ rfl rfl);obtain⟨d,rfl⟩:=iW (h2 3 _ _ rfl rfl);obtain⟨e,rfl⟩:=iW (h2 4 _ _ rfl rfl);obtain⟨f,rfl⟩:=kO (h2 5 _ _ rfl rfl);obtain⟨g,rfl⟩:=xf (h2 6 _ _ rfl rfl);exact⟨⟨a,b,c,d,e,f,g⟩,rfl⟩
theorem agy(x:Kd) (r':List Fv) (h:gI (kdF x) r'):∃y,r'=kdF y:=by
 obtain⟨h1,h2⟩:=h;match r',h1 with
 | [f0,f1,f2,f3],_=>
  obtain⟨a,rfl⟩:=dF (h2 0 _ _ rfl rfl);obtain⟨b,rfl⟩:=kO (h2 1 _ _ rfl rfl);obtain⟨c,rfl⟩:=kO (h2 2 _ _ rfl rfl);obtain⟨d,rfl⟩:=dF (h2 3 _ _ rfl rfl);exact⟨⟨a,b,c,d⟩,rfl⟩
theorem RP(x:Vd) (r':List Fv) (h:gI (vdF x) r'):∃y,r'=vdF y:=by
 obtain⟨h1,h2⟩:=h;match r',h1 with
 | [f0,f1,f2,f3,f4,f5,f6,f7],_=>
  obtain⟨a,rfl⟩:=dF (h2 0 _ _ rfl rfl);obtain⟨b,rfl⟩:=iW (h2 1 _ _ rfl rfl);obtain⟨c,rfl⟩:=dF (h2 2 _ _ rfl rfl);obtain⟨d,rfl⟩:=dF (h2 3 _ _ rfl rfl);obtain⟨e,rfl⟩:=kO (h2 4 _ _ rfl rfl);obtain⟨f,rfl⟩:=dF (h2 5 _ _ rfl rfl);obtain⟨g,rfl⟩:=kO (h2 6 _ _ rfl rfl);obtain⟨i,rfl⟩:=xf (h2 7 _ _ rfl rfl);exact⟨⟨a,b,c,d,e,f,g,i⟩,rfl⟩
theorem RM(x:Xd) (r':List Fv) (h:gI (xdF x) r'):∃y,r'=xdF y:=by
 obtain⟨h1,h2⟩:=h;match r',h1 with
 | [f0,f1,f2,f3,f4],_=>
  obtain⟨a,rfl⟩:=dF (h2 0 _ _ rfl rfl);obtain⟨b,rfl⟩:=iW (h2 1 _ _ rfl rfl);obtain⟨c,rfl⟩:=dF (h2 2 _ _ rfl rfl);obtain⟨d,rfl⟩:=kO (h2 3 _ _ rfl rfl);obtain⟨e,rfl⟩:=dF (h2 4 _ _ rfl rfl);exact⟨⟨a,b,c,d,e⟩,rfl⟩
theorem ago(x:Pd) (r':List Fv) (h:gI (pdF x) r'):∃y,r'=pdF y:=by
 obtain⟨h1,h2⟩:=h;match r',h1 with
 | [f0,f1,f2,f3,f4,f5],_=>
  obtain⟨a,rfl⟩:=dF (h2 0 _ _ rfl rfl);obtain⟨b,rfl⟩:=iW (h2 1 _ _ rfl rfl);obtain⟨c,rfl⟩:=dF (h2 2 _ _ rfl rfl);obtain⟨d,rfl⟩:=xf (h2 3 _ _ rfl rfl);obtain⟨e,rfl⟩:=dF (h2 4 _ _ rfl rfl);obtain⟨f,rfl⟩:=iW (h2 5 _ _ rfl rfl);exact⟨⟨a,b,c,d,e,f⟩,rfl⟩
def Ld(c c':Cl):Prop:=c'.ns.length=c.ns.length/\c'.ks.length=c.ks.length/\c'.vs.length=c.vs.length/\c'.xs.length=c.xs.length/\c'.ps.length=c.ps.length/\c'.now=c.now
theorem aB.Bf(h:aB w d c.raw) (hk:Kin w w'):∃c':Cl,Ld c c'/\aB w' d c'.raw:=by
 obtain⟨r1,a1,b1,e1⟩:=h.n.Bf hk;obtain⟨r2,a2,b2,e2⟩:=h.k.Bf hk;obtain⟨r3,a3,b3,e3⟩:=h.v.Bf hk;obtain⟨r4,a4,b4,e4⟩:=h.x.Bf hk;obtain⟨r5,a5,b5,e5⟩:=h.p.Bf hk;exact ahH
theorem UF.draw {p:Nat} (h:UF w g) (hs:Src B w0 p v len w') (hg:w.grownBy w' (Y5 p)):UF w' g:=by
 obtain⟨cs,T,h⟩:=h;by_cases e:g=p
 ·subst e;obtain⟨_,_,_,_,_,k,m,sz,_,_,_,_,_,hb⟩:=hs;exact⟨_,_,hb⟩
 ·exact⟨cs,T,gk hg e h⟩
theorem aU {p:Nat} (h:w.grownBy w' (Y5 p)):aI (λk=>k=p) w w':=⟨h.os,h.tape,h.output,h.size,λk hk hn=>h.block k hk (λe=>hn (Yd e))⟩
theorem ch {p:Nat} (h:Src B w0 p v len w):lk w p:=by
 obtain⟨_,_,_,_,⟨_,a0,cap,rfl,_⟩,k,m,sz,_,_,_,_,_,hb⟩:=h;intro i t e;rw[an hb i] at e;rcases i with _|_|_|_|i <;> simp at e
theorem cN {now:Int} (h:w.heap[b]?=Y5 (Y8 #[J d.a1 d.l1 d.c1,J d.a2 d.l2 d.c2,J d.a3 d.l3 d.c3,J d.a4 d.l4 d.c4,J d.a5 d.l5 d.c5,Y7 Y6 now] T (0,0))):lk w b:=by
 intro i t e;rw[an h i] at e;rcases i with _|_|_|_|_|_|i <;> simp at e
theorem vp(h:w.cell? ⟨b,i,U⟩=Y5 v):(w.setCell ⟨b,i,U⟩ v').cell? ⟨b,i,U⟩=Y5 v':=by
 cases hg:w.heap[b]? with
 | none=>simp[World.cell?,hg] at h
 | some o=>
  cases o with
  | cells cs t fr=>
   have:=av (i:=i) hg v'
   simp[World.cell?,hg] at h
   simp only[World.cell?,this];have hi:i<cs.size:=(Yw.1 h).1
   simp[hi]
  | _=>simp[World.cell?,hg] at h
theorem gq(h:¬(k=b/\j=i)):(w.setCell ⟨b,i,U⟩ v).cell? ⟨k,j,U⟩=w.cell? ⟨k,j,U⟩:=by
 by_cases e:k=b
 ·subst e;exact vn (λe=>h ⟨rfl,e.symm⟩)
 ·simp[World.cell?,Ya w ⟨b,i,U⟩ v k e]
theorem az.set(hc:w.cell? ⟨b,i,U⟩=Y5 v) (hv:∀t,v≠I t) {a:Option Addr} {len cap:Nat} {zs:List ByteArray} (h:az w a len cap zs):az (w.setCell ⟨b,i,U⟩ v') a len cap zs:=by
 obtain⟨h1,h2,h3,h4,h5⟩:=h;refine⟨h1,h2,h3,h4,?_⟩;rcases h5 with h5|⟨k,o,rfl,hl,hx⟩
 ·exact Ze h5
 refine Zd ⟨k,o,rfl,by simpa[World.setCell] using hl,λj x hj=>(gq (λe=>?_)).trans (hx j x hj)⟩;obtain⟨rfl,e2⟩:=e;have:=hx j x hj;rw[e2,hc] at this;exact hv _ (Yd this)
theorem Kin.set(hc:w.cell? ⟨b,i,U⟩=Y5 v) (ha:Ak (w.setCell ⟨b,i,U⟩ v') v v'):Kin w (w.setCell ⟨b,i,U⟩ v'):=by
 refine⟨by simp[World.setCell],λk j u hk hu=>?_⟩;by_cases e:k=b/\j=i
 ·obtain⟨rfl,rfl⟩:=e;rw[hc] at hu;obtain rfl:=Yd hu;exact⟨v',vp hc,ha⟩
 ·exact⟨u,(gq e).trans hu,Ze rfl⟩
theorem cv {p:Nat} (h:Src B w0 p v len w):Src B w0 p v len w.drew:=h.ay (row:=U) ⟨rfl,rfl,rfl,Ye _,λ_ _ _=>rfl⟩ (by simp) (λk hk=>by cases hk)
theorem br(w:World):Below w.heap.size w w.drew:=⟨rfl,rfl,rfl,Ye _,λ_ _=>rfl⟩
theorem j_ {p:Nat} (h:Dr B w0 p v len wa w):Dr B w0 p v len wa w.drew:=h.below (br _)
structure iG (B:Nat) (w0:World) (p:Nat) (v:Value) (len:Nat) (X b:Nat) (c:Cl) (w w':World) (d:Ad) (c':Cl):Prop where
 blk:w'.heap[b]?=Y5 (Y8 (clv d c'.now) 29 (0,0))
 row:aB w' d c'.raw
 low:Low X w' d
 src:Src B w0 p v len w'
 kept:aI (λk=>k=p\/X<=k) w w'
 ld:c'.ps.length=c.ps.length
section
variable {B:Nat} {w0:World} {p:Nat} {v:Value} {len X b:Nat} {c:Cl} {w w1 w2:World} {d:Ad} {c':Cl}
theorem iG.draw(h:iG B w0 p v len X b c w w1 d c') (hbp:¬b=p) (hs:Src B w0 p v len w2) (hg:w1.grownBy w2 (Y5 p)):iG B w0 p v len X b c w w2 d c':=
 ⟨gk hg hbp h.blk,h.row.bR (ch h.src) (aU hg),h.low.to (Ye _) (λ_ u=>u.draw hs hg),hs,h.kept.trans ((aU hg).mono λ_ e=>Ze e),h.ld⟩
theorem iG.alloc(h:iG B w0 p v len X b c w w1 d c') (o:Obj):iG B w0 p v len X b c w (w1.alloc o) d c':=
 ⟨(Yl _ _ _ (ae h.blk)).trans h.blk,h.row.below (ak _ _),h.low.to (Ye _) (λ_ u=>u.below (ak _ _)),h.src.ay (cj _ _ U) aG aG,h.kept.below (ak _ _),h.ld⟩
theorem iG.set(h:iG B w0 p v len X b c w w1 d c') (hX:B<=X) {g i:Nat} {u u':Value} (hc:w1.cell? ⟨g,i,U⟩=Y5 u) (ha:Ak (w1.setCell ⟨g,i,U⟩ u') u u') (hg:X<=g) (hgb:¬g=b) (hgp:¬g=p):∃c2:Cl,iG B w0 p v len X b c w (w1.setCell ⟨g,i,U⟩ u') d c2:=by
 obtain⟨c2,hl,hr⟩:=h.row.Bf (Kin.set hc ha);refine⟨c2,?_,hr,h.low.to (Ye _) (λ_ q=>q.set),h.src.ay (bJ w1 g i u') (λe=>hgp (Yd e)) (λk e=>by have:=Yd e;omega),h.kept.set (Zd hg),hl.2.2.2.2.1.trans h.ld⟩;rw[Ya _ _ _ _ (λe=>hgb e.symm),h.blk];have e:=hl.2.2.2.2.2;rw[e]
end
def ann(w:World) (p:Nat):Prop:=∀(i:Nat) v,w.cell? ⟨p,i,U⟩=Y5 v->i<8/\((∃t,v=I t)->i=6)
structure agN (p:Nat) (w w':World):Prop where
 kept:aI (λk=>k=p) w w'
 was:ann w p
 now:∃t:ByteArray,w'.cell? ⟨p,6,U⟩=Y5 (I t)/\t.size<=9223372036854775807
theorem az.res {p:Nat} (h:az w a len cap zs) (hk:agN p w w'):∃zs',zs'.length=zs.length/\az w' a len cap zs':=by
 obtain⟨h1,h2,h3,h4,h5⟩:=h;rcases h5 with rfl|⟨b,o,rfl,hl,hc⟩
 ·exact⟨[],rfl,h1,h2,h3,λj x h=>bU,Ze rfl⟩
 by_cases hbp:b=p
 ·subst hbp;match zs,h1,h4,hc with
  | [],h1,h4,hc=>exact⟨[],rfl,h1,h2,h3,h4,Ze rfl⟩
  | [x],h1,h4,hc=>
   obtain⟨t,e1,e2⟩:=hk.now;have e6:o+0=6:=(hk.was _ _ (hc 0 x rfl)).2 ⟨x,rfl⟩;refine⟨[t],rfl,h1,h2,h3,λj y hj=>?_,Zd ⟨b,o,rfl,Yj hl hk.kept.size,λj y hj=>?_⟩⟩
   ·rcases j with _|j
    ·cases hj;exact e2
    ·cases hj
   ·rcases j with _|j
    ·cases hj;rw[e6];exact e1
    ·cases hj
  | x ::y ::zs,h1,h4,hc=>
   exfalso
   have e6:o+0=6:=(hk.was _ _ (hc 0 x rfl)).2 ⟨x,rfl⟩;have e7:o+1=6:=(hk.was _ _ (hc 1 y rfl)).2 ⟨y,rfl⟩
   omega
 ·exact⟨zs,rfl,h1,h2,h3,h4,Zd ⟨b,o,rfl,Yj hl hk.kept.size,λj x hj=>(cell_kept hk.kept hl hbp).trans (hc j x hj)⟩⟩
theorem Fv.Is.res {p:Nat} {f:Fv} (h:f.Is w v) (hk:agN p w w'):∃f',Fv.qF f f'/\f'.Is w' v:=by
 cases f with
 | l zs=>
  obtain⟨a,len,cap,rfl,ht⟩:=h;obtain⟨zs',_,h2⟩:=az.res ht hk;exact⟨.l zs',trivial,_,_,_,rfl,h2⟩
 | s t=>exact⟨.s t,trivial,h⟩
 | i n=>exact⟨.i n,trivial,h⟩
 | b x=>exact⟨.b x,trivial,h⟩
def RB(rs:List (List Fv)):Prop:=∀(j:Nat) r,rs[j]?=Y5 r->∃t f,r[0]?=Y5 (.s t)/\r[2]?=Y5 f
theorem eT {F:α->List Fv} (h:∀x,∃t f,(F x)[0]?=Y5 (.s t)/\(F x)[2]?=Y5 f) (xs:List α):RB (xs.map F):=by
 exact PA
theorem aT.res {p:Nat} {rs:List (List Fv)} (h:aT w a len cap m rs) (hn:RB rs) (hk:agN p w w'):∃rs',rs'.length=rs.length/\(∀(j:Nat) r r',rs[j]?=Y5 r->rs'[j]?=Y5 r'->gI r r')/\aT w' a len cap m rs':=by
 obtain⟨h1,h2,h3,h5⟩:=h;rcases h5 with rfl|⟨b,o,rfl,hl,hc⟩
 ·exact⟨[],rfl,λ_ _ _ h=>bU,h1,h2,h3,Ze rfl⟩
 obtain⟨l,e1,e2⟩:=iC (λj (r':List Fv)=>(∀r,rs[j]?=Y5 r->gI r r')/\RAt w' b (o+j*m) r') rs.length (λj hj=>by
  have hr:rs[j]?=Y5 rs[j]:=Yi hj;have hat:=hc j _ hr
  have hbp:¬b=p:=λe=>by
   subst e;obtain⟨t,f,g1,g2⟩:=hn j _ hr;obtain⟨v,q1,q2,_⟩:=hat 0 _ g1;have q6:=(hk.was _ _ q1).2 ⟨t,q2⟩;obtain⟨v2,q3,_⟩:=hat 2 _ g2;have q8:=(hk.was _ _ q3).1
   omega
  obtain⟨l,d1,d2⟩:=iC (λi (f':Fv)=>(∀f,rs[j][i]?=Y5 f->Fv.qF f f')/\∃v',w'.cell? ⟨b,o+j*m+i,U⟩=Y5 v'/\f'.Is w' v') rs[j].length (λi hi=>by
   have hf:rs[j][i]?=Y5 rs[j][i]:=Yi hi;obtain⟨v,g1,g2⟩:=hat i _ hf;obtain⟨f',g5,g6⟩:=g2.res hk
   exact⟨f',λf hf'=>by rw[hf] at hf';obtain rfl:=Yd hf';exact g5,v,(cell_kept hk.kept hl hbp).trans g1,g6⟩)
  exact⟨l,λr h=>by
   rw[hr] at h;obtain rfl:=Yd h
   exact⟨d1,λi f f' hf hf'=>(d2 i f' hf').1 f hf⟩,λi f hi=>(d2 i f hi).2⟩)
 exact⟨l,e1,λj r r' hr hr'=>(e2 j r' hr').1 r hr,e1.trans h1,h2,h3,Zd ⟨b,o,rfl,Yj hl hk.kept.size,λj r hj=>(e2 j r hj).2⟩⟩
theorem aB.res {p:Nat} (h:aB w d c.raw) (hk:agN p w w'):∃c':Cl,Ld c c'/\aB w' d c'.raw:=by
 obtain⟨r1,a1,b1,e1⟩:=h.n.res (eT (λx=>⟨_,_,rfl,rfl⟩) c.ns) hk;obtain⟨r2,a2,b2,e2⟩:=h.k.res (eT (λx=>⟨_,_,rfl,rfl⟩) c.ks) hk;obtain⟨r3,a3,b3,e3⟩:=h.v.res (eT (λx=>⟨_,_,rfl,rfl⟩) c.vs) hk;obtain⟨r4,a4,b4,e4⟩:=h.x.res (eT (λx=>⟨_,_,rfl,rfl⟩) c.xs) hk;obtain⟨r5,a5,b5,e5⟩:=h.p.res (eT (λx=>⟨_,_,rfl,rfl⟩) c.ps) hk;exact ahH
def qU(Is:Co->Prop) (w:World) (e:Ending) (w':World):Prop:=∃g o,e=Za (Zc #[J g.a1 g.l1 g.c1,J g.a2 g.l2 g.c2,J g.a3 g.l3 g.c3,J g.a4 g.l4 g.c4,J g.a5 g.l5 g.c5,Y7 Y6 o.c.now,I o.n,Y7 Y6 o.p])/\Is o/\df w' g o.c.raw (λk=>w.heap.size<=k)/\Below w.heap.size w w'
theorem i_(w:World) (S:Nat->Prop):df w ad0 cl0.raw S:=⟨aw.nil _ _ _ _ _ (by decide),aw.nil _ _ _ _ _ (by decide),aw.nil _ _ _ _ _ (by decide),aw.nil _ _ _ _ _ (by decide),aw.nil _ _ _ _ _ (by decide)⟩
theorem qU.l(h:qU Is w e w'):jc Is w e w':=by
 obtain⟨g,o,h1,h2,h3,h4⟩:=h;exact⟨g,o,h1,h2,h3.rl (λ_ s=>s),h4⟩
end Rc
end Go.Proofs.YtfhdfmdaiookjaaGreatDoor

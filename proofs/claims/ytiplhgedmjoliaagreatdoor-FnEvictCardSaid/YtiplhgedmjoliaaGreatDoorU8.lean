import Derived.Test.YtiplhgedmjoliaaGreatDoorU4
import Derived.Test.YtiplhgedmjoliaaGreatDoorU6
import Derived.Test.YtiplhgedmjoliaaGreatDoorU7
import Derived.RegionTactic
import Derived.Test.YtiplhgedmjoliaaGreatDoorRows
import Derived.WalkKit
import Derived.WalkSpells
import Derived.OwnWalk
import Derived.Outline
import Derived.BigRegion
import Derived.ChangeAlike
import Derived.Deep.QuietTactic
import Derived.BigQuiet
import Derived.Laws.Rows
import Derived.Lib.VarintMem
import Derived.Lib.Hide
import Derived.Lib.Slices
import Derived.Laws.IdiomStrings
import Derived.Deep.RegionWith
import Derived.Laws.AppendOwn
import Derived.Deep.Cut
import Derived.Deep.CutRange
import Derived.Deep.RegionLaw
/-
 What the laws on kinds call besides: measures, copies, comparisons.
-/
set_option maxRecDepth 100000
set_option maxHeartbeats 12800000
open Bool renaming false→G_,true→Hb
open Go.Ending renaming returned→Ha
open Go.IntKind renaming i64→G6
open Go.Obj renaming cells→G7
open Go.Value renaming string→I,slice→J,int→GZ,bool→G8,agg→Hc,pointer→Hf,tuple→Hg
open Option renaming none→U,some→F_
open Or renaming inr→Hd,inl→He
open And renaming intro→Fk
open Array renaming getElem?_push_size→Fs, getD_eq_getD_getElem?→FD, getElem?_eq_some_iff→FJ, getElem?_setIfInBounds_self_of_lt→Ge
open Bool renaming and_eq_true→FU
open Go.Addr renaming add_lit→FC
open Go.Calls renaming quiet_of_same→FP
open Go.Region renaming wanted→F5
open Go.RowKit.Below renaming heap_setCell→Fl, refl→Ft, heap_alloc→Fy, alloc→GF
open Go.Value renaming string→Fz, ownBlock→FX
open Go.World renaming setCell→Gb, cell?→Gc
open List renaming getElem?_eq_some_iff→Fm, lookup→Fo, getElem?_eq_getElem→Fu, length_map→FB, setIfInBounds_toArray→FF, getElem?_map→FG, forall_mem_cons→FH, getElem?_append_left→FI, mem_of_getElem?→FK, set_cons_zero→FL, set_cons_succ→FM, drop_eq_nil_of_le→FN, getElem?_take→FQ, take_of_length_le→FT, getElem?_of_mem→FV, length_take→FW, take_add_one→FZ, eq_nil_of_length_eq_zero→F6, foldr→F7
open Nat renaming le_refl→Fq, lt_of_lt_of_le→Fw, le_trans→FA, zero_add→FE, le_succ→FO, zero_le→FY, le_of_lt→Gz
open Option renaming map_eq_some_iff→FR
open Option.some renaming inj→Fp
namespace Go.Proofs.YtiplhgedmjoliaaGreatDoor
variable {p:Prop}
namespace Mk
end Mk
namespace Dk
end Dk
open Go.RowKit Mk Dk
variable {α:Type} {B b cap g i j k len m:Nat} {E:Prop} {Is:Rc.Co->Prop} {K:Act->World->Prop} {P:Program} {Q:Exit->Act->World->Prop} {S:Nat->Prop} {T:TypeId} {W w w' w0 w1 wa wr:World} {a:Option Addr} {c:Rc.Cl} {cs:Array Value} {d:Rc.Ad} {e:Ending} {f:Rc.Pd->Int} {h:Rc.Pd->Rc.Pd} {lv v v':Value} {o:Rc.Co} {ops:Array Oper} {ps:List Rc.Pd} {sz:Int} {t:ByteArray} {x:Rc.Pd} {xs:List Value} {zs:List ByteArray}
theorem bZ(h:p:=by have:=HP.out;omega):p:=h
theorem jo(h:p:=by simp[results,Tryz.results58,go_sem, *]):p:=h
theorem ny(h:p:=by simp[results,Tryz.results59,go_sem, *]):p:=h
theorem rE(h:p:=by simp[results,Tryz.results61,go_sem, *]):p:=h
theorem uq(h:p:=by simp[results,Tryz.results64,go_sem, *]):p:=h
theorem uo(h:p:=by simp[results,Tryz.results13,go_sem, *]):p:=h
theorem um(h:p:=by simp[results,Tryz.results12,go_sem, *]):p:=h
theorem uk(h:p:=by simp[results,Tryz.results70,go_sem, *]):p:=h
theorem uj(h:p:=by simp[results,Tryz.results34,go_sem]):p:=h
theorem D3(h:p:=by
 go_wp2;have hlo:=HLO.out;refine bodyPost_ret (v:=Hc #[J x1 m1 n1,J x2 m2 n2,J x3 m3 n3,J x4 m4 n4,J t1 t2 t3,GZ G6 c.now,I ⟨#[]⟩,GZ G6 0]) uq rfl ⟨⟨x1,m1,n1,x2,m2,n2,x3,m3,n3,x4,m4,n4,t1,t2,t3⟩,⟨sj c t,⟨#[]⟩,0⟩,rfl,HV.out,?_,sb1 (sb1 (sb1 (sb1 (sb1 (sb1 (sb1 (sb1 (ak (show w.heap.size<=w3.heap.size by omega) (HB5.out)))))))))⟩;have hkeep:∀k,w2.heap.size<=k->¬k=w3.heap.size->(((((((((w5.setCell ⟨w3.heap.size,4,U⟩ (J t1 t2 t3)).setCell ⟨w.heap.size+1,0,U⟩ (J x1 m1 n1)).setCell ⟨w.heap.size+1,1,U⟩ (J x2 m2 n2)).setCell ⟨w.heap.size+1,2,U⟩ (J x3 m3 n3)).setCell ⟨w.heap.size+1,3,U⟩ (J x4 m4 n4)).setCell ⟨w.heap.size+1,4,U⟩ (J t1 t2 t3)).setCell ⟨w.heap.size+1,5,U⟩ (GZ G6 c.now)).setCell ⟨w.heap.size+1,6,U⟩ (I ⟨#[]⟩)).setCell ⟨w.heap.size+1,7,U⟩ (GZ G6 0)).heap[k]?=w5.heap[k]?:=λk h1 h2=>by rw[Fl _ _ _ _ (show k≠w.heap.size+1 by omega),Fl _ _ _ _ (show k≠w.heap.size+1 by omega),Fl _ _ _ _ (show k≠w.heap.size+1 by omega),Fl _ _ _ _ (show k≠w.heap.size+1 by omega),Fl _ _ _ _ (show k≠w.heap.size+1 by omega),Fl _ _ _ _ (show k≠w.heap.size+1 by omega),Fl _ _ _ _ (show k≠w.heap.size+1 by omega),Fl _ _ _ _ (show k≠w.heap.size+1 by omega),Fl _ _ _ _ (show k≠w3.heap.size by omega)]
 refine⟨?_,?_,?_,?_,?_⟩
 ·exact (HO.n.aB (w':=(((((((((w5.setCell ⟨w3.heap.size,4,U⟩ (J t1 t2 t3)).setCell ⟨w.heap.size+1,0,U⟩ (J x1 m1 n1)).setCell ⟨w.heap.size+1,1,U⟩ (J x2 m2 n2)).setCell ⟨w.heap.size+1,2,U⟩ (J x3 m3 n3)).setCell ⟨w.heap.size+1,3,U⟩ (J x4 m4 n4)).setCell ⟨w.heap.size+1,4,U⟩ (J t1 t2 t3)).setCell ⟨w.heap.size+1,5,U⟩ (GZ G6 c.now)).setCell ⟨w.heap.size+1,6,U⟩ (I ⟨#[]⟩)).setCell ⟨w.heap.size+1,7,U⟩ (GZ G6 0))) (λk hk s=>(hkeep k s af).trans (H35.block k hk)) (λ_ _ s=>s)).rl (λk s=>loq)
 ·exact (HO.k.aB (w':=(((((((((w5.setCell ⟨w3.heap.size,4,U⟩ (J t1 t2 t3)).setCell ⟨w.heap.size+1,0,U⟩ (J x1 m1 n1)).setCell ⟨w.heap.size+1,1,U⟩ (J x2 m2 n2)).setCell ⟨w.heap.size+1,2,U⟩ (J x3 m3 n3)).setCell ⟨w.heap.size+1,3,U⟩ (J x4 m4 n4)).setCell ⟨w.heap.size+1,4,U⟩ (J t1 t2 t3)).setCell ⟨w.heap.size+1,5,U⟩ (GZ G6 c.now)).setCell ⟨w.heap.size+1,6,U⟩ (I ⟨#[]⟩)).setCell ⟨w.heap.size+1,7,U⟩ (GZ G6 0))) (λk hk s=>(hkeep k s af).trans (H35.block k hk)) (λ_ _ s=>s)).rl (λk s=>loq)
 ·exact (HO.v.aB (w':=(((((((((w5.setCell ⟨w3.heap.size,4,U⟩ (J t1 t2 t3)).setCell ⟨w.heap.size+1,0,U⟩ (J x1 m1 n1)).setCell ⟨w.heap.size+1,1,U⟩ (J x2 m2 n2)).setCell ⟨w.heap.size+1,2,U⟩ (J x3 m3 n3)).setCell ⟨w.heap.size+1,3,U⟩ (J x4 m4 n4)).setCell ⟨w.heap.size+1,4,U⟩ (J t1 t2 t3)).setCell ⟨w.heap.size+1,5,U⟩ (GZ G6 c.now)).setCell ⟨w.heap.size+1,6,U⟩ (I ⟨#[]⟩)).setCell ⟨w.heap.size+1,7,U⟩ (GZ G6 0))) (λk hk s=>(hkeep k s af).trans (H35.block k hk)) (λ_ _ s=>s)).rl (λk s=>loq)
 ·exact (HO.x.aB (w':=(((((((((w5.setCell ⟨w3.heap.size,4,U⟩ (J t1 t2 t3)).setCell ⟨w.heap.size+1,0,U⟩ (J x1 m1 n1)).setCell ⟨w.heap.size+1,1,U⟩ (J x2 m2 n2)).setCell ⟨w.heap.size+1,2,U⟩ (J x3 m3 n3)).setCell ⟨w.heap.size+1,3,U⟩ (J x4 m4 n4)).setCell ⟨w.heap.size+1,4,U⟩ (J t1 t2 t3)).setCell ⟨w.heap.size+1,5,U⟩ (GZ G6 c.now)).setCell ⟨w.heap.size+1,6,U⟩ (I ⟨#[]⟩)).setCell ⟨w.heap.size+1,7,U⟩ (GZ G6 0))) (λk hk s=>(hkeep k s af).trans (H35.block k hk)) (λ_ _ s=>s)).rl (λk s=>loq)
 ·exact (HR5.aB (w':=(((((((((w5.setCell ⟨w3.heap.size,4,U⟩ (J t1 t2 t3)).setCell ⟨w.heap.size+1,0,U⟩ (J x1 m1 n1)).setCell ⟨w.heap.size+1,1,U⟩ (J x2 m2 n2)).setCell ⟨w.heap.size+1,2,U⟩ (J x3 m3 n3)).setCell ⟨w.heap.size+1,3,U⟩ (J x4 m4 n4)).setCell ⟨w.heap.size+1,4,U⟩ (J t1 t2 t3)).setCell ⟨w.heap.size+1,5,U⟩ (GZ G6 c.now)).setCell ⟨w.heap.size+1,6,U⟩ (I ⟨#[]⟩)).setCell ⟨w.heap.size+1,7,U⟩ (GZ G6 0))) (λk hk s=>hkeep k fb fb) (λ_ _ s=>s)).rl (λk s=>loq)):p:=h
theorem rZ(h:p:=by
 rw[Fl _ _ _ _ (show k≠w.heap.size+1 by omega),Fl _ _ _ _ (show k≠w.heap.size+1 by omega),Fl _ _ _ _ (show k≠w.heap.size+1 by omega),Fl _ _ _ _ (show k≠w.heap.size+1 by omega),Fl _ _ _ _ (show k≠w.heap.size+1 by omega),Fl _ _ _ _ (show k≠w.heap.size+1 by omega),Fl _ _ _ _ (show k≠w.heap.size+1 by omega),Fl _ _ _ _ (show k≠w.heap.size+1 by omega)]):p:=h
theorem CF(h:p:=by
 obtain⟨k0,k1,k2,k3,k4,k5⟩:=cs6 Bk;have ltk_1:=aa Bk.out;go_wp2_with fail;refine (aI 8 _).mono ?_;rintro e w2 ⟨rfl,hb⟩;clear k0 k1 k2 k3 k4 k5 ltk_1;replace Bk:=upK Bk hb;replace Br:=upK Br hb;replace HB:=upB HB hb;clear hb;obtain⟨r0,r1,r2,r3,r4,r5,r6,r7⟩:=cs8 Br;have ltr_2:=aa Br.out;obtain⟨fr0,fr1,fr2,fr3,fr4,fr5,fr6,fr7⟩:=cq;have hrl:w.heap.size+1<w2.heap.size:=aa Br.out;go_wp2;exact bodyPost_ret (v:=Hc #[J U 0 0,J U 0 0,J U 0 0,J U 0 0,J U 0 0,GZ G6 0,I ⟨#[]⟩,GZ G6 8]) uo rfl ⟨ad0,co0 8,rfl,HV.out,(rl0 _ _),sb1 (sb1 (sb1 (sb1 (sb1 (sb1 (sb1 (sb1 (HB.out))))))))⟩):p:=h
theorem u_(h:p:=by
 have h1:vss[i]?=F_ (vss[i]'(by omega)):=Fu _;have h2:0<(vss[i]'(by omega)).length:=by rw[hV.all i _ h1];decide
 obtain⟨g,e,_,h3⟩:=hcell _ _ (fu hV.all h1 (Fu h2));exact⟨g,e,br h3⟩):p:=h
theorem CA(h:p:=by
 exact vH):p:=h
theorem rX(h:p:=by
 rcases hp with ⟨h1,rfl⟩|⟨h1,h2,rfl⟩|⟨h1,h2,rfl⟩
 ·exact He ⟨by decide,He ⟨0,h1,rfl⟩⟩
 ·exact He ⟨by decide,He ⟨1,⟨h1,h2⟩,rfl⟩⟩
 ·exact Hd ⟨rfl,h1,h2⟩):p:=h
theorem B8(h:p:=by
 obtain⟨ns,l1,rfl⟩:=jg Am c.ns r1 a1 b1;obtain⟨ks,l2,rfl⟩:=jg As c.ks r2 a2 b2;obtain⟨vs,l3,rfl⟩:=jg zU c.vs r3 a3 b3;obtain⟨xs,l4,rfl⟩:=jg zQ c.xs r4 a4 b4;obtain⟨ps,l5,rfl⟩:=jg Ah c.ps r5 a5 b5;exact⟨⟨ns,ks,vs,xs,ps,c.now⟩,⟨l1,l2,l3,l4,l5,rfl⟩,⟨e1,e2,e3,e4,e5⟩⟩):p:=h
theorem uV(h:p:=by
 rcases h with h|⟨_,_,_,_,rfl⟩
 ·exact gP (λi hi a=>by rcases a.cases with ⟨rfl,_⟩|⟨rfl,_⟩|⟨rfl,_⟩|⟨rfl,_⟩ <;> omega) h h0
 ·exact⟨rfl,rfl⟩):p:=h
theorem B4(h:p:=by
 clear hc;by_cases h20:12<(len:Int) / 20
 ·go_wp2;go_ret;exact⟨_,rfl,rf ((HB.C9 _).C9 _) ((HX.setCell (Fq _) _).setCell (Fq _) _) HR.out m0 m1 ah ah⟩
 ·go_wp2;go_ret;exact⟨_,rfl,rf (HB.C9 _) (HX.setCell (Fq _) _) HR.out m0 m1 af af⟩):p:=h
theorem B1(h:p:=by
 go_wp2;exact bodyPost_ret (v:=Hc #[J U 0 0,J U 0 0,J U 0 0,J U 0 0,J U 0 0,GZ G6 0,I ⟨#[]⟩,GZ G6 1]) jo rfl ⟨ad0,co0 1,rfl,HV.out,gQ _ _,dS (show w.heap.size<=w.heap.size+1+1 by omega) (HB.out)⟩):p:=h
theorem yC(h:p:=by
 rw[FZ,FG,hx,List.set_append_right _ _ af,h1,Nat.sub_self];have h2:ps.drop k=x ::ps.drop (k+1):=by rw[List.drop_eq_getElem_cons hk];rw[(Fm.1 hx).2]
 rw[h2];simp):p:=h
theorem yA(h:p:=by
 obtain⟨i,a,rfl⟩:=h;exfalso;revert h0;rcases i with _|_|_|_|_|_|_|_|_|_|i;case succ.succ.succ.succ.succ.succ.succ.succ.succ.succ=>exact λ_=>h9 _ af a
 all_goals exact λh=>by cases h):p:=h
theorem yp(h:p:=by
 rintro e w1 ⟨t,rfl,ht,hs,hg⟩;have HR:Hid (t.size<=100/\Src B w0 p v len w1/\w.grownBy w1 (F_ p)):=⟨ht,hs,hg⟩;clear ht hs hg;go_wp2_with fail;go_ret;exact⟨t,rfl,HR.out⟩):p:=h
theorem yi(h:p:=by
 obtain⟨r0,b1,b2⟩:=back j' r' i' zs' hj' hi' hz';obtain⟨r3,b3,b4⟩:=back j2 r2 i2 zs2 hj2 hi2 hz2;exact h1.inj j' r0 i' zs' j2 r3 i2 zs2 b1 b2 hz' b3 b4 hz2 hH):p:=h
theorem yh(h:p:=by
 rcases h with h|⟨n,_,⟨_,rfl⟩|⟨_,rfl⟩⟩
 ·exact gP mw h h0
 ·cases h0
 ·exact⟨by show (c.ns.set _ _).length=_;rw[List.length_set],rfl⟩):p:=h
theorem xS(h:p:=by
 exact gP (λi hi a=>by rcases a.cases with ⟨rfl,_⟩|⟨rfl,_⟩|⟨rfl,_⟩|⟨rfl,_⟩|⟨rfl,_⟩ <;> omega) h h0):p:=h
theorem xN(h:p:=by
 intro j' r' i' zs' hj' hi' hz;rcases eo h3 hil hj' hi' with ⟨_,_,e⟩|⟨_,q⟩
 ·cases e;exact absurd rfl hz
 ·exact q):p:=h
theorem xA(h:p:=by
 rw[hg2.block w1.heap.size aH (λe=>by simp at e;omega)];show (w1.heap.push _)[w1.heap.size]?=_;simp):p:=h
theorem xw(h:p:=by
 exact bodyPost_ret (v:=Hg #[]) (by simp[results,Tryz.results35,go_sem]) rfl ⟨⟨_,rfl⟩,HO2.out,HK.out⟩):p:=h
theorem xr(h:p:=by
 intro j r hj;rw[FG] at hj;obtain⟨x,_,rfl⟩:=FR.1 hj;exact h x):p:=h
theorem xq(h:p:=by
 rw[List.getElem?_append_right bD];simp[Nat.min_eq_left (show k<=ps.length by omega)]):p:=h
theorem v_(h:p:=by
 rw[hns];exact⟨by rw[List.length_set];exact HO.n.1,HO.n.2.1,HO.n.2.2.1,Hd ⟨g,cur2,H2,rfl,h3⟩⟩):p:=h
theorem vH(h:p:=by
 exact⟨(HG.1.aB hk4 (λ_ _ s=>s)).rl (λk s=>loq),(HG.2.1.aB hk4 (λ_ _ s=>s)).rl (λk s=>loq),(HG.2.2.1.aB hk4 (λ_ _ s=>s)).rl (λk s=>loq),(HG.2.2.2.1.aB hk4 (λ_ _ s=>s)).rl (λk s=>loq),(HG.2.2.2.2.aB hk4 (λ_ _ s=>s)).rl (λk s=>loq)⟩):p:=h
theorem Dc(h:p:=by
 have yf0:=al q3 0;have y1:w8.cell? ⟨w5.heap.size,1,U⟩=F_ (GZ G6 (1+r2)):=ar q3 1;have yf1:=al q3 1;have y2:w8.cell? ⟨w5.heap.size,2,U⟩=F_ (I t3):=ar q3 2;have yf2:=al q3 2;have y3:w8.cell? ⟨w5.heap.size,3,U⟩=F_ (I t4):=ar q3 3;have yf3:=al q3 3;have y4:w8.cell? ⟨w5.heap.size,4,U⟩=F_ (G8 (!x5)):=ar q3 4;have yf4:=al q3 4;have y5:w8.cell? ⟨w5.heap.size,5,U⟩=F_ (I ⟨#[]⟩):=ar q3 5;have yf5:=al q3 5;have y6:w8.cell? ⟨w5.heap.size,6,U⟩=F_ (G8 G_):=ar q3 6;have yf6:=al q3 6;have y7:w8.cell? ⟨w5.heap.size,7,U⟩=F_ (J U 0 0):=ar q3 7;have yf7:=al q3 7;have z0:w8.cell? ⟨w.heap.size,0,U⟩=F_ (I ⟨#[]⟩):=ar q2 0;have zf0:=al q2 0;have z1:w8.cell? ⟨w.heap.size,1,U⟩=F_ (GZ G6 0):=ar q2 1;have zf1:=al q2 1;have z2:w8.cell? ⟨w.heap.size,2,U⟩=F_ (I ⟨#[]⟩):=ar q2 2;have zf2:=al q2 2;have z3:w8.cell? ⟨w.heap.size,3,U⟩=F_ (I ⟨#[]⟩):=ar q2 3;have zf3:=al q2 3;have z4:w8.cell? ⟨w.heap.size,4,U⟩=F_ (G8 G_):=ar q2 4;have zf4:=al q2 4;have z5:w8.cell? ⟨w.heap.size,5,U⟩=F_ (I ⟨#[]⟩):=ar q2 5;have zf5:=al q2 5;have z6:w8.cell? ⟨w.heap.size,6,U⟩=F_ (G8 G_):=ar q2 6;have zf6:=al q2 6;have z7:w8.cell? ⟨w.heap.size,7,U⟩=F_ (J U 0 0):=ar q2 7;exact Fk yf0 (Fk y1 (Fk yf1 (Fk y2 (Fk yf2 (Fk y3 (Fk yf3 (Fk y4 (Fk yf4 (Fk y5 (Fk yf5 (Fk y6 (Fk yf6 (Fk y7 (Fk yf7 (Fk z0 (Fk zf0 (Fk z1 (Fk zf1 (Fk z2 (Fk zf2 (Fk z3 (Fk zf3 (Fk z4 (Fk zf4 (Fk z5 (Fk zf5 (Fk z6 (Fk zf6 z7))))))))))))))))))))))))))))):p:=h
theorem Db(h:p:=by
 have q3:=GA7.out;have q2:=GB7.out;have y0:w7.cell? ⟨w4.heap.size,0,U⟩=F_ (I t1):=ar q3 0;have yf0:=al q3 0;have y1:w7.cell? ⟨w4.heap.size,1,U⟩=F_ (GZ G6 (1+r2)):=ar q3 1;have yf1:=al q3 1;have y2:w7.cell? ⟨w4.heap.size,2,U⟩=F_ (I t3):=ar q3 2;have yf2:=al q3 2;have y3:w7.cell? ⟨w4.heap.size,3,U⟩=F_ (G8 (!x4)):=ar q3 3;have yf3:=al q3 3;have y4:w7.cell? ⟨w4.heap.size,4,U⟩=F_ (I ⟨#[]⟩):=ar q3 4;have yf4:=al q3 4;have z0:w7.cell? ⟨w.heap.size,0,U⟩=F_ (I ⟨#[]⟩):=ar q2 0;have zf0:=al q2 0;have z1:w7.cell? ⟨w.heap.size,1,U⟩=F_ (GZ G6 0):=ar q2 1;have zf1:=al q2 1;have z2:w7.cell? ⟨w.heap.size,2,U⟩=F_ (I ⟨#[]⟩):=ar q2 2;have zf2:=al q2 2;have z3:w7.cell? ⟨w.heap.size,3,U⟩=F_ (G8 G_):=ar q2 3;have zf3:=al q2 3;have z4:w7.cell? ⟨w.heap.size,4,U⟩=F_ (I ⟨#[]⟩):=ar q2 4;have zf4:=al q2 4;exact Fk q3 (Fk q2 (Fk y0 (Fk yf0 (Fk y1 (Fk yf1 (Fk y2 (Fk yf2 (Fk y3 (Fk yf3 (Fk y4 (Fk yf4 (Fk z0 (Fk zf0 (Fk z1 (Fk zf1 (Fk z2 (Fk zf2 (Fk z3 (Fk zf3 (Fk z4 zf4))))))))))))))))))))):p:=h
theorem uF(h:p:=by
 have fo0:=al Bo5.out 0;have fo1:=al Bo5.out 1;have fo2:=al Bo5.out 2;have fo3:=al Bo5.out 3;have fo4:=al Bo5.out 4;have fo5:=al Bo5.out 5;have fr0:=al Br5.out 0;have fr1:=al Br5.out 1;have fr2:=al Br5.out 2;have fr3:=al Br5.out 3;have fr4:=al Br5.out 4;have fr5:=al Br5.out 5;have fr6:=al Br5.out 6;have fr7:=al Br5.out 7;exact Fk fo0 (Fk fo1 (Fk fo2 (Fk fo3 (Fk fo4 (Fk fo5 (Fk fr0 (Fk fr1 (Fk fr2 (Fk fr3 (Fk fr4 (Fk fr5 (Fk fr6 fr7))))))))))))):p:=h
theorem ia(h:p:=by
 have HB3:=upB HW q1.b;have Ck:=upK Gk q1.b;have Cx:=upK Gx q1.b;have Cr:=upK Gr q1.b;exact Fk HB3 (Fk Ck (Fk Cx Cr))):p:=h
theorem uD(h:p:=by
 have fr0:=al Br4.out 0;have fr1:=al Br4.out 1;have fr2:=al Br4.out 2;have fr3:=al Br4.out 3;have fr4:=al Br4.out 4;have fr5:=al Br4.out 5;have fr6:=al Br4.out 6;have fr7:=al Br4.out 7;have hol:=aa Bo4.out;have hrl:=aa Br4.out;exact Fk fr0 (Fk fr1 (Fk fr2 (Fk fr3 (Fk fr4 (Fk fr5 (Fk fr6 (Fk fr7 (Fk hol hrl))))))))):p:=h
theorem uA(h:p:=by
 have HT:Hid (ay c):=HOK.2.1;have hj1:j<l1:=by have:=(Fm.1 HNJ.out).1;omega
 have hj2:(j:Int)<l1:=af
 have hj0:¬(j:Int)<0:=af
 exact Fk HT (Fk hj1 (Fk hj2 hj0))):p:=h
theorem Bj(h:p:=by
 have Bo5:=ae ((hb5.block w3.heap.size af).trans Bo4.out);have Br5:=ae ((hb5.block (w.heap.size+1) af).trans Br4.out);have H35:=ae (HB34.trans (hb5.mono af));have HB5:=ae (HB.trans (H35.mono af));have hsel:=Sel.erase (xs:=c.ps) (vss:=vss) af (k:=i) af;exact Fk Bo5 (Fk Br5 (Fk H35 (Fk HB5 hsel)))):p:=h
theorem rN(h:p:=by
 have hne:¬w.heap.size+1=w3.heap.size:=af
 have hne2:¬w3.heap.size=w.heap.size+1:=af
 exact Fk hne hne2):p:=h
theorem fc(h:p:=by
 have Gk:=Bk;have Gx:=Bx;have Gr:=Br;have HW:=HB;exact Fk Gk (Fk Gx (Fk Gr HW))):p:=h
theorem Be(h:p:=by
 have hq1:w.heap.size+1<w1.heap.size:=HQ1.out;have hq2:w1.heap.size<=w3.heap.size:=HQ2.out;have hgS:=(by obtain⟨⟨cur,H,h1,_⟩,_⟩:=hS;exact⟨h1.inS,aa h1.blk⟩:(w1.heap.size<=g/\g<w3.heap.size)/\g<w3.heap.size);exact Fk hq1 (Fk hq2 hgS)):p:=h
theorem o8(h:p:=by
 have HD7:=ae (HD6.next hs hg);have GA7:=ae (gk hg af GA6.out);have GB7:=ae (gk hg af GB6.out);exact Fk HD7 (Fk GA7 GB7)):p:=h
theorem o7(h:p:=by
 have HD8:=ae (HD7.next hs hg);have GA8:=ae (gk hg af GA7.out);have GB8:=ae (gk hg af GB7.out);exact Fk HD8 (Fk GA8 GB8)):p:=h
theorem aD.copy(h:w.heap[b]?=F_ (G7 (zs.map Fz).toArray T (0,0))) (hl:zs.length=len) (hl2:len<=1048576) (hs:∀(j:Nat) x,zs[j]?=F_ x->x.size<=9223372036854775807):
  aD w (F_ ⟨b,0,U⟩) len len zs:=by
 refine⟨hl,Fq _,by omega,hs,?_⟩;by_cases hz:zs=[]
 ·exact Or.inl hz
 refine Or.inr ⟨b,0,rfl,?_,λj x hx=>?_⟩
 ·exact xt
 ·rw[ar h];simp[hx]
theorem cs3 {v0 v1 v2:Value} (h:w.heap[b]?=F_ (G7 #[v0,v1,v2] T (0,0))):w.cell? ⟨b,0,U⟩=F_ v0/\w.cell? ⟨b,1,U⟩=F_ v1/\w.cell? ⟨b,2,U⟩=F_ v2:=⟨ar h 0,ar h 1,ar h 2⟩
namespace Rc
theorem a_.nil(a:Option Addr) (cap m:Nat) (h:cap<=9223372036854775807):a_ w a 0 cap m []:=⟨rfl,FY _,h,He rfl⟩
section
variable {g m:Nat} {T:TypeId} {S N:Nat->Prop} {w wr w2:World} {rs:List (List Fv)} {j:Nat} {r:List Fv}
theorem StJ.below(h:StJ g m T S N w wr rs j r) (hb:Below wr.heap.size wr w2):StJ g m T S N w w2 rs j r:=by
 obtain⟨⟨cur,H,h1,hN⟩,h2,h3⟩:=h;exact⟨⟨cur,H,h1.aB (λk hk _=>hb.block k hk) (λ_ _ s=>s),hN⟩,h2.below hb,h3⟩
theorem StJ.fresh(h:StJ g m T S N w wr rs j r) (hb:Below wr.heap.size wr w2):StJ g m T S (λk=>wr.heap.size<=k) w w2 rs j r:=by
 obtain⟨⟨cur,H,h1,hN⟩,h2,h3⟩:=h;refine⟨⟨cur,H,h1.aB (λk hk _=>hb.block k hk) (λ_ _ s=>s),λj' r' i' zs hj hi hz hk=>?_⟩,h2.below hb,h3⟩;obtain⟨v,h4,a,len,cap,rfl,h5,h6,h7,h8,h9⟩:=h1.cell j' r' hj i' _ hi;rcases h9 with h9|⟨q1,q2,q3,cu,q4,q5⟩
 ·exact hz h9
 ·have:=aa q4;omega
theorem StJ.EU(h:StJ g m T S N w wr rs j r) {i:Nat} {old:Fv} (hi:r[i]?=F_ old) {b:Nat} (zs:List ByteArray) {len cap:Nat} (hb:zs≠[]->N b) (hv:tK wr b S g zs (J (F_ ⟨b,0,U⟩) len cap)):
  StJ g m T S (λk=>N k/\¬k=b) w (wr.setCell ⟨g,j*m+i,U⟩ (J (F_ ⟨b,0,U⟩) len cap)) rs j (r.set i (.l zs)):=by
 have hget:=h.get;obtain⟨⟨cur,H,h1,hN⟩,h2,h3⟩:=h;have hil:i<r.length:=(Fm.1 hi).1;have hrm:=h1.len j r hget;obtain⟨v0,hc0,-⟩:=h1.cell j r hget i _ hi;have hin:j*m+i<cur.size:=(FJ.1 hc0).1;have hH:∀j' i',¬(j'=j/\i'=i)->(if j'=j/\i'=i then b else H j' i')=H j' i':=λj' i' hn=>if_neg hn;refine⟨⟨cur.setIfInBounds (j*m+i) (J (F_ ⟨b,0,U⟩) len cap),λj' i'=>if j'=j/\i'=i then b else H j' i',⟨az h1.blk _,h1.inS,jL h3 h1.len,λj' r' hj' i' f' hi'=>?_,λj' r' i' zs' j2 r2 i2 zs2 hj' hi' hz' hj2 hi2 hz2 hHH=>?_⟩,λj' r' i' zs' hj' hi' hz'=>?_⟩,h2.set h1.inS,h3⟩
 ·rcases eo h3 hil hj' hi' with ⟨rfl,rfl,rfl⟩|⟨hne,r0,q1,q2⟩
  ·refine⟨_,by rw[Ge hin],?_⟩;rw[if_pos ⟨rfl,rfl⟩];exact Fv.Own.gY (u:=.l zs) hv
  ·obtain⟨v',k1,k2⟩:=h1.cell j' r0 q1 i' f' q2;have hil':i'<r0.length:=(Fm.1 q2).1;have hrm':=h1.len j' r0 q1;refine⟨v',?_,?_⟩
   ·exact wA
   ·rw[if_neg hne];exact k2.gY
 ·try simp only[] at hHH
  rcases eo h3 hil hj' hi' with ⟨rfl,rfl,e1⟩|⟨hne,r0,q1,q2⟩
  ·rcases eo h3 hil hj2 hi2 with ⟨rfl,rfl,e2⟩|⟨hne2,r3,q3,q4⟩
   ·exact⟨rfl,rfl⟩
   ·rw[if_pos ⟨rfl,rfl⟩,if_neg hne2] at hHH;cases e1;exact absurd (hHH ▸ hb hz') (hN _ _ _ _ q3 q4 hz2)
  ·rcases eo h3 hil hj2 hi2 with ⟨rfl,rfl,e2⟩|⟨hne2,r3,q3,q4⟩
   ·rw[if_neg hne,if_pos ⟨rfl,rfl⟩] at hHH;cases e2;exact absurd (hHH ▸ hb hz2) (hN _ _ _ _ q1 q2 hz')
   ·rw[if_neg hne,if_neg hne2] at hHH;exact h1.inj _ _ _ _ _ _ _ _ q1 q2 hz' q3 q4 hz2 hHH
 ·try simp only[]
  rcases eo h3 hil hj' hi' with ⟨rfl,rfl,e1⟩|⟨hne,r0,q1,q2⟩
  ·rw[if_pos ⟨rfl,rfl⟩];exact λq=>q.2 rfl
  ·rw[if_neg hne];exact λq=>hN _ _ _ _ q1 q2 hz' q.1
end
theorem StJ.C8 {N:Nat->Prop} {rs:List (List Fv)} {r:List Fv} (h:StJ g m T S N w wr rs j r) {i:Nat} {old:Fv} (hi:r[i]?=F_ old) (t:Bool):StJ g m T S N w (wr.setCell ⟨g,j*m+i,U⟩ (G8 t)) rs j (r.set i (.b t)):=h.set hi (.b t) rfl trivial
theorem ow(h:¬i=j):(w.setCell ⟨g,i,U⟩ v).cell? ⟨g,j,U⟩=w.cell? ⟨g,j,U⟩:=by
 cases hg:w.heap[g]? with
 | none=>
  have hs:(w.setCell ⟨g,i,U⟩ v).heap[g]?=U:=by
   have h1:=Array.getElem?_eq_none_iff.1 hg;exact Array.getElem?_eq_none_iff.2 (by simpa[Gb] using h1)
  simp[Gc,hg,hs]
 | some o=>
  cases o with
  | cells cs t fr=>
   have:=az (i:=i) hg v;simp only[Gc,hg,this]
   simp[Array.getElem?_setIfInBounds_ne h]
  | _=>simp[Gc,Gb,Array.getElem?_modify,hg]
def AN(c:Cl) (t:ByteArray):Prop:=∃(i:Nat) (x:Xd),c.xs[i]?=F_ x/\x.n=t
theorem AN.no(hr:ay c) (h:hit Xd.n c.xs t=G_):¬AN c t:=λ⟨i,x,h1,h2⟩=>by
 have:=(bl hr.2.1.2.2.2.1.2.2 h1 h2).2;rw[h] at this;cases this
def AskWhy(c:Cl) (t:ByteArray):Nat->Prop
 | 0=>8000<t.size
 | 1=>¬8000<t.size/\¬ay c
 | 2=>¬8000<t.size/\ay c/\¬AN c t
 | _=>False
def Ev(Is:Co->Prop) (w:World) (e:Ending) (w':World):Prop:=∃g o,e=Ha (Hc #[J g.a1 g.l1 g.c1,J g.a2 g.l2 g.c2,J g.a3 g.l3 g.c3,J g.a4 g.l4 g.c4,J g.a5 g.l5 g.c5,GZ G6 o.c.now,I o.n,GZ G6 o.p])/\Is o/\aE w' g o.c.raw/\Below w.heap.size w w'
def DwWhy(c:Cl) (t:ByteArray) (St:Nat->Prop):Nat->Prop
 | 0=>8000<t.size
 | 1=>¬8000<t.size/\¬ay c
 | i+2=>¬8000<t.size/\ay c/\St (i+2)
def jl(c:Cl) (t:ByteArray) (St:Nat->Prop) (ok:Prop) (r:Cl) (o:Co):Prop:=(∃i,DwWhy c t St i/\o=co0 (bF i))\/(¬8000<t.size/\ay c/\ok/\o=⟨r,⟨#[]⟩,0⟩)
theorem fG(h:w.heap[b]?=F_ (G7 cs T (0,0))):w.frozen? ⟨b,0,U⟩=G_/\w.frozen? ⟨b,1,U⟩=G_/\w.frozen? ⟨b,2,U⟩=G_/\w.frozen? ⟨b,3,U⟩=G_/\w.frozen? ⟨b,4,U⟩=G_/\w.frozen? ⟨b,5,U⟩=G_/\w.frozen? ⟨b,6,U⟩=G_/\w.frozen? ⟨b,7,U⟩=G_:=⟨al h 0,al h 1,al h 2,al h 3,al h 4,al h 5,al h 6,al h 7⟩
theorem dS {v0 v1 v2 v3 v4 v5 v6 v7:Value} (hb:B<=b) (h:Below B w w1):Below B w ((((((((w1.setCell ⟨b,0,U⟩ v0).setCell ⟨b,1,U⟩ v1).setCell ⟨b,2,U⟩ v2).setCell ⟨b,3,U⟩ v3).setCell ⟨b,4,U⟩ v4).setCell ⟨b,5,U⟩ v5).setCell ⟨b,6,U⟩ v6).setCell ⟨b,7,U⟩ v7):=ak hb (ak hb (ak hb (ak hb (ak hb (ak hb (ak hb (ak hb (h))))))))
def DE(c:Cl) (x:Vd):Cl:=⟨c.ns,c.ks,aY (pl Vd.n c.vs x.n) x c.vs,c.xs,c.ps,c.now⟩
def eR(c:Cl) (x:Vd):Prop:=(ay c/\mS x/\x.m=⟨#[]⟩/\x.y=G_/\x.zs=[])
def AddVWhy(c:Cl) (x:Vd):Nat->Prop
 | 1=>¬eR c x
 | 3=>eR c x/\hit Vd.n c.vs x.n=Hb
 | 4=>eR c x/\hit Vd.n c.vs x.n=G_/\8<=c.vs.length
 | 2=>eR c x/\hit Vd.n c.vs x.n=G_/\c.vs.length<8/\¬(hit Kd.n c.ks x.k=Hb)
 | _=>False
def bm(c:Cl) (x:Vd) (o:Co):Prop:=(∃i,AddVWhy c x i/\o=co0 (bF i))\/(eR c x/\hit Vd.n c.vs x.n=G_/\c.vs.length<8/\(hit Kd.n c.ks x.k=Hb)/\o=⟨DE c x,⟨#[]⟩,0⟩)
theorem AddVWhy.cases {x:Vd} (h:AddVWhy c x i):(i=1/\¬eR c x)\/(i=3/\eR c x/\hit Vd.n c.vs x.n=Hb)\/(i=4/\eR c x/\hit Vd.n c.vs x.n=G_/\8<=c.vs.length)\/(i=2/\eR c x/\hit Vd.n c.vs x.n=G_/\c.vs.length<8/\¬(hit Kd.n c.ks x.k=Hb)):=by
 rcases i with _|_|_|_|_|i <;> simp only[AddVWhy] at h
 ·exact He ⟨rfl,h⟩
 ·exact Hd (Hd (Hd ⟨rfl,h⟩))
 ·exact Hd (He ⟨rfl,h⟩)
 ·exact Hd (Hd (He ⟨rfl,h⟩))
def zD(c:Cl) (x:Xd):Cl:=⟨c.ns,c.ks,c.vs,aY (pl Xd.n c.xs x.n) x c.xs,c.ps,c.now⟩
def AddXWhy(c:Cl) (x:Xd):Nat->Prop
 | 1=>¬(ay c/\fH x/\x.v=⟨#[]⟩)
 | 3=>(ay c/\fH x/\x.v=⟨#[]⟩)/\hit Xd.n c.xs x.n=Hb
 | 4=>(ay c/\fH x/\x.v=⟨#[]⟩)/\hit Xd.n c.xs x.n=G_/\8<=c.xs.length
 | 2=>(ay c/\fH x/\x.v=⟨#[]⟩)/\hit Xd.n c.xs x.n=G_/\c.xs.length<8/\hit Kd.n c.ks x.k=G_
 | _=>False
def bR(c:Cl) (x:Xd) (o:Co):Prop:=(∃i,AddXWhy c x i/\o=co0 (bF i))\/((ay c/\fH x/\x.v=⟨#[]⟩)/\hit Xd.n c.xs x.n=G_/\c.xs.length<8/\hit Kd.n c.ks x.k=Hb/\o=⟨zD c x,⟨#[]⟩,0⟩)
theorem AddXWhy.cases {x:Xd} (h:AddXWhy c x i):(i=1/\¬(ay c/\fH x/\x.v=⟨#[]⟩))\/(i=3/\(ay c/\fH x/\x.v=⟨#[]⟩)/\hit Xd.n c.xs x.n=Hb)\/(i=4/\(ay c/\fH x/\x.v=⟨#[]⟩)/\hit Xd.n c.xs x.n=G_/\8<=c.xs.length)\/(i=2/\(ay c/\fH x/\x.v=⟨#[]⟩)/\hit Xd.n c.xs x.n=G_/\c.xs.length<8/\hit Kd.n c.ks x.k=G_):=by
 rcases i with _|_|_|_|_|i <;> simp only[AddXWhy] at h
 ·exact He ⟨rfl,h⟩
 ·exact Hd (Hd (Hd ⟨rfl,h⟩))
 ·exact Hd (He ⟨rfl,h⟩)
 ·exact Hd (Hd (He ⟨rfl,h⟩))
def zE(c:Cl) (x:Pd):Cl:=⟨c.ns,c.ks,c.vs,c.xs,aY (pl Pd.n c.ps x.n) x c.ps,c.now⟩
def eS(c:Cl) (x:Pd):Prop:=(ay c/\ob x/\x.p=0)
def AddPWhy(c:Cl) (x:Pd):Nat->Prop
 | 1=>¬eS c x
 | 3=>eS c x/\hit Pd.n c.ps x.n=Hb
 | 4=>eS c x/\hit Pd.n c.ps x.n=G_/\8<=c.ps.length
 | 2=>eS c x/\hit Pd.n c.ps x.n=G_/\c.ps.length<8/\¬(∀(j:Nat) t,x.zs[j]?=F_ t->hit Xd.n c.xs t=Hb)
 | _=>False
def ch(c:Cl) (x:Pd) (o:Co):Prop:=(∃i,AddPWhy c x i/\o=co0 (bF i))\/(eS c x/\hit Pd.n c.ps x.n=G_/\c.ps.length<8/\(∀(j:Nat) t,x.zs[j]?=F_ t->hit Xd.n c.xs t=Hb)/\o=⟨zE c x,⟨#[]⟩,0⟩)
theorem AddPWhy.cases(h:AddPWhy c x i):(i=1/\¬eS c x)\/(i=3/\eS c x/\hit Pd.n c.ps x.n=Hb)\/(i=4/\eS c x/\hit Pd.n c.ps x.n=G_/\8<=c.ps.length)\/(i=2/\eS c x/\hit Pd.n c.ps x.n=G_/\c.ps.length<8/\¬(∀(j:Nat) t,x.zs[j]?=F_ t->hit Xd.n c.xs t=Hb)):=by
 rcases i with _|_|_|_|_|i <;> simp only[AddPWhy] at h
 ·exact He ⟨rfl,h⟩
 ·exact Hd (Hd (Hd ⟨rfl,h⟩))
 ·exact Hd (He ⟨rfl,h⟩)
 ·exact Hd (Hd (He ⟨rfl,h⟩))
def D9(c:Cl) (t:ByteArray) (i:Nat):Prop:=i=2/\hit Pd.n c.ps t=G_
def sj(c:Cl) (t:ByteArray):Cl:=⟨c.ns,c.ks,c.vs,c.xs,wo Pd.n t c.ps,c.now⟩
def dj(c:Cl) (t:ByteArray) (o:Co):Prop:=jl c t (D9 c t) (hit Pd.n c.ps t=Hb) (sj c t) o
def zN(c:Cl) (v:Vd):Prop:=¬v.zs=[]\/∃(j:Nat) (n:Nd),c.ns[j]?=F_ n/\InL n.zs v.n
def CP(c:Cl) (v:Vd):Prop:=¬v.m=⟨#[]⟩\/zN c v
def DQ(c:Cl) (t:ByteArray) (i:Nat):Prop:=(i=2/\hit Vd.n c.vs t=G_)\/(i=5/\hit Vd.n c.vs t=Hb/\∃(j:Nat) (v:Vd),c.vs[j]?=F_ v/\v.n=t/\CP c v)
def DR(c:Cl) (t:ByteArray):Prop:=hit Vd.n c.vs t=Hb/\∀(j:Nat) (v:Vd),c.vs[j]?=F_ v->v.n=t->¬CP c v
def si(c:Cl) (t:ByteArray):Cl:=⟨c.ns,c.ks,wo Vd.n t c.vs,c.xs,c.ps,c.now⟩
def cF(c:Cl) (t:ByteArray) (o:Co):Prop:=jl c t (DQ c t) (DR c t) (si c t) o
def sr(c:Cl) (t:ByteArray):Prop:=(∃v,bh c t v/\zN c v)\/∃(j:Nat) (p:Pd),c.ps[j]?=F_ p/\InL p.zs t
def Ei(c:Cl) (t:ByteArray) (i:Nat):Prop:=(i=2/\hit Xd.n c.xs t=G_)\/(i=5/\hit Xd.n c.xs t=Hb/\sr c t)
def zv(c:Cl) (t:ByteArray):Prop:=hit Xd.n c.xs t=Hb/\¬sr c t
theorem UF.below(h:UF w g) (hb:Below w.heap.size w w'):UF w' g:=by
 obtain⟨cs,T,h⟩:=h;exact⟨cs,T,(hb.block _ (aa h)).trans h⟩
theorem UF.set(h:UF w g):UF (w.setCell ⟨b,i,U⟩ v) g:=by
 obtain⟨cs,T,h⟩:=h;by_cases e:g=b
 ·subst e;exact⟨_,T,az h v⟩
 ·exact⟨cs,T,(Fl w ⟨b,i,U⟩ v g e).trans h⟩
theorem UF.row {q:Nat} (h:UF w g):UF (w.setRow q cs) g:=by
 obtain⟨c0,T,h⟩:=h;by_cases e:g=q
 ·subst e;exact⟨_,T,setRow_heap w g c0 cs T _ h⟩
 ·exact⟨c0,T,(setRow_other _ _ _ _ e).trans h⟩
theorem LoA.to {B':Nat} (h:LoA B w a len) (hb:B'<=B) (hu:∀g,UF w g->UF w' g):LoA B' w' a len:=by
 rcases h with h|⟨b,o,h1,h2,h3⟩
 ·exact He h
 ·exact Hd ⟨b,o,h1,FA hb h2,hu b h3⟩
theorem Low.to {B':Nat} (h:Low B w d) (hb:B'<=B) (hu:∀g,UF w g->UF w' g):Low B' w' d:=⟨h.n.to hb hu,h.k.to hb hu,h.v.to hb hu,h.x.to hb hu,h.p.to hb hu⟩
theorem LoA.at(h:LoA B w a len) {b o:Nat} (e:a=F_ ⟨b,o,U⟩) (hl:0<len):B<=b/\UF w b:=by
 rcases h with h|⟨b',o',h1,h2⟩
 ·omega
 ·rw[h1] at e;cases e;exact h2
theorem dz.lo {c:Cr} (h:dz w d c S) {B:Nat} (hS:∀k,S k->B<=k):Low B w d:=by
 obtain⟨P,h⟩:=h;exact⟨h.n.lo (λk s=>hS k s.1),h.k.lo (λk s=>hS k s.1),h.v.lo (λk s=>hS k s.1),h.x.lo (λk s=>hS k s.1),h.p.lo (λk s=>hS k s.1)⟩
theorem gA.row {c:Cr} (h:gA B w d c):aE w d c:=⟨h.n.1,h.k.1,h.v.1,h.x.1,h.p.1⟩
theorem gA.low {c:Cr} (h:gA B w d c):Low B w d:=⟨h.n.2,h.k.2,h.v.2,h.x.2,h.p.2⟩
theorem fS.s(h:fS Is w e w'):Ev Is w e w':=by
 obtain⟨g,o,h1,h2,h3,h4⟩:=h;exact⟨g,o,h1,h2,h3.row,h4⟩
theorem Sel.erase {β:Type} {xs:List α} {vss:List β} (hl:vss.length=xs.length) {k:Nat} (hk:k<xs.length):Sel xs (xs.take k++xs.drop (k+1)) vss (vss.take k++vss.drop (k+1)) xs.length (λj=>if j<k then j else j+1):=by
 have hat:∀{γ:Type} {l:List γ} (j:Nat),k<l.length->j<(l.take k++l.drop (k+1)).length->(l.take k++l.drop (k+1))[j]?=l[if j<k then j else j+1]?:=by
  intro γ l j hk hj;have h1:(l.take k).length=k:=by rw[FW];omega
  by_cases e:j<k
  ·rw[FI af,FQ,if_pos e,if_pos e]
  ·rw[List.getElem?_append_right af,List.getElem?_drop,if_neg e,h1];congr 1;omega
 refine⟨by simp[hl],λj hj=>hat j hk hj,λj hj=>hat j af (by simp[hl] at hj ⊢;omega),λj hj=>?_,λi j hi hj e=>?_⟩
 ·have:(xs.take k++xs.drop (k+1)).length=xs.length - 1:=by simp;omega
  split <;> omega
 ·split at e <;> split at e <;> omega
theorem sW(d:Ad) (c:Cl) (t:ByteArray) (w:World) (hr:aE w d c.raw):
  Calls Tryz.prog 64 #[Hc #[J d.a1 d.l1 d.c1,J d.a2 d.l2 d.c2,J d.a3 d.l3 d.c3,J d.a4 d.l4 d.c4,J d.a5 d.l5 d.c5,GZ G6 c.now],I t] w (fS (dj c t) w):=by
 obtain⟨a1,l1,y1,a2,l2,y2,a3,l3,y3,a4,l4,y4,a5,l5,y5⟩:=d;dsimp only;obtain⟨HR,hl1,hm1,hl2,hm2,hl3,hm3,hl4,hm4,hl5,hm5⟩:=ew;clear hr;have HB:=ae (Ft w.heap.size w);go_enter Tryz.func64,Tryz.ntmps64;go_wp2_with fail;refine (er ⟨a1,l1,y1,a2,l2,y2,a3,l3,y3,a4,l4,y4,a5,l5,y5⟩ c t _ (HR.below (HB.trans ((aM _ _ _).mono HB.size)))).mono ?_;rintro e w1 ⟨p,rfl,hp,hb⟩;obtain⟨HA0,HA1,hbx⟩:=bU hb;obtain⟨Bk,Br⟩:=dB;replace HB:=upB HB hbx;clear hb hbx HA0 HA1;have hp0:(¬p=0/\dj c t (co0 p))\/(p=0/\¬8000<t.size/\ay c):=by
  exact rX
 clear hp;rcases hp0 with ⟨hp0,hV⟩|⟨rfl,hl,hT⟩
 ·have HV:=ae hV;clear hV;have hp1:(p==0)=G_:=fJ
  obtain⟨k0,k1,k2,k3,k4,k5⟩:=cs6 Bk;have ltk_1:=aa Bk.out;go_wp2_with fail;refine (aI p _).mono ?_;rintro e w2 ⟨rfl,hb⟩;clear k0 k1 k2 k3 k4 k5 ltk_1;replace Bk:=upK Bk hb;replace Br:=upK Br hb;replace HB:=upB HB hb;clear hb;obtain⟨r0,r1,r2,r3,r4,r5,r6,r7⟩:=cs8 Br;have ltr_2:=aa Br.out;obtain⟨fr0,fr1,fr2,fr3,fr4,fr5,fr6,fr7⟩:=cq;have hrl:w.heap.size+1<w2.heap.size:=aa Br.out;go_wp2;exact bodyPost_ret (v:=Hc #[J U 0 0,J U 0 0,J U 0 0,J U 0 0,J U 0 0,GZ G6 0,I ⟨#[]⟩,GZ G6 p]) uq rfl ⟨ad0,co0 p,rfl,HV.out,(rl0 _ _),sb1 (sb1 (sb1 (sb1 (sb1 (sb1 (sb1 (sb1 (HB.out))))))))⟩
 have HT:=ae hT;clear hT;obtain⟨k0,k1,k2,k3,k4,k5⟩:=cs6 Bk;have ltk_1:=aa Bk.out;go_wp2_with fail;refine (fI ⟨a1,l1,y1,a2,l2,y2,a3,l3,y3,a4,l4,y4,a5,l5,y5⟩ c.now c.ps t _ (HR.p.below HB.out)).mono ?_;rintro e w2 ⟨hb,hf⟩;clear k0 k1 k2 k3 k4 k5 ltk_1;replace Bk:=upK Bk hb;replace Br:=upK Br hb;replace HB:=upB HB hb;clear hb;rcases hf with ⟨i,x,hx,hn,rfl⟩|⟨hno,rfl⟩;rotate_left
 ·have HV:Hid (dj c t (co0 6)):=He ⟨2,⟨hl,HT.out,rfl,ft hno⟩,rfl⟩;clear hno;obtain⟨k0,k1,k2,k3,k4,k5⟩:=cs6 Bk;have ltk_2:=aa Bk.out;go_wp2_with fail;refine (aI 6 _).mono ?_;rintro e w3 ⟨rfl,hb⟩;clear k0 k1 k2 k3 k4 k5 ltk_2;replace Bk:=upK Bk hb;replace Br:=upK Br hb;replace HB:=upB HB hb;clear hb;obtain⟨r0,r1,r2,r3,r4,r5,r6,r7⟩:=cs8 Br;have ltr_3:=aa Br.out;obtain⟨fr0,fr1,fr2,fr3,fr4,fr5,fr6,fr7⟩:=cq;have hrl:w.heap.size+1<w3.heap.size:=aa Br.out;go_wp2;exact bodyPost_ret (v:=Hc #[J U 0 0,J U 0 0,J U 0 0,J U 0 0,J U 0 0,GZ G6 0,I ⟨#[]⟩,GZ G6 6]) uq rfl ⟨ad0,co0 6,rfl,HV.out,(rl0 _ _),sb1 (sb1 (sb1 (sb1 (sb1 (sb1 (sb1 (sb1 (HB.out))))))))⟩
 have HQ20:Hid (w.heap.size+1<w2.heap.size):=aa Br.out;have hri:=HT.2.1.2.2.2.2.2.2;have HW:=ae (gT hri hx hn);have HV:Hid (dj c t ⟨sj c t,⟨#[]⟩,0⟩):=Hd ⟨hl,HT.out,(bl hri hx hn).2,rfl⟩;have hi5:i<l5:=by have:=(Fm.1 hx).1;omega
 have hi0:¬(i:Int)<0:=af
 have h58:l5<=8:=by have:=HT.sm.p;omega
 clear hx hn hri;obtain⟨k0,k1,k2,k3,k4,k5⟩:=cs6 Bk;have ltk_2:=aa Bk.out;go_wp2_with fail;have HLO:=ae HB.size;refine (bu ⟨a1,l1,y1,a2,l2,y2,a3,l3,y3,a4,l4,y4,a5,l5,y5⟩ c _ (HR.below HB.out) HT.sm).mono ?_;rintro e w3 ⟨d',rfl,ho,hb⟩;have HQ3:=ae hb.size;clear k0 k1 k2 k3 k4 k5 ltk_2;replace Bk:=upK Bk hb;replace Br:=upK Br hb;replace HB:=upB HB hb;clear hb;obtain⟨x1,m1,n1,x2,m2,n2,x3,m3,n3,x4,m4,n4,x5,m5,n5⟩:=d';have HQ2:Hid (w.heap.size+1<w2.heap.size):=HQ20.out;have hm5:m5=l5:=by have h6:(c.ps.map pdF).length=m5:=ho.p.1;rw[FB] at h6;omega
 subst hm5;have hmn:m5<=n5:=ho.p.2.1;have hmx:n5<=9223372036854775807:=ho.p.2.2.1;obtain⟨vss,H,hV,hcell⟩:=(ho.p.bI (S':=λk=>w2.heap.size<=k/\k<w3.heap.size) (λk hk s=>⟨s,hk⟩)).gq;have hvl:vss.length=m5:=by have h6:vss.length=(c.ps.map pdF).length:=hV.len;rw[FB] at h6;omega
 obtain⟨b,hx5,hbS⟩:∃b,x5=F_ ⟨b,0,U⟩/\b<w3.heap.size:=by
  exact u_
 subst hx5;have HC:Hid (∀(j:Nat) u,vss.flatten[j]?=F_ u->w3.cell? ⟨b,j,U⟩=F_ u):=λj u hj=>by
  obtain⟨g,e,_,h3⟩:=hcell j u hj;cases e;exact h3
 have HVR:=ae hV;have HO:=ae ho;clear hV hcell ho;obtain⟨i5,hi5',hz0,hz1,hz2⟩:=info_parts fQ;have HI0:=ae (Fk hi5' (Fk hz0 (Fk hz1 hz2)));clear hi5' hz0 hz1 hz2;have hq2:=HQ2.out;have hq3:=HQ3.out;have hown0:World.ownsRow ((w3.alloc (G7 (clo6 x1 m1 n1 x2 m2 n2 x3 m3 n3 x4 m4 n4 (F_ ⟨b,0,U⟩) m5 n5 c.now) 29)).alloc (G7 #[] 40)) (w3.heap.size+1) 40 6 (J (F_ ⟨w3.heap.size+1,0,U⟩) 0 0) 0 []:=⟨by simp,Hd ⟨w3.heap.size+1,0,#[],rfl,Fq _,cL _ _ _,Fq _,by unfold maxLen;omega,by simp,by simp⟩⟩;have HOW:=ae hown0;clear hown0;have hik:(i:Int)<=n5:=af
 go_wp2_with (first|(at_builtin;refine wpList_append_own _ rfl _ _ 27 rfl (w3.heap.size+1) 40 i5 (Hc #[I ⟨#[]⟩,GZ G6 0,I ⟨#[]⟩,J U 0 0,I ⟨#[]⟩,GZ G6 0]) 6 88 Tryz.underlying27 HI0.1 HI0.2.1 HI0.2.2.1 HI0.2.2.2 rfl ah _ 0 [] rfl (HOW.out) ⟨b,0,U⟩ i n5 (vss.take i).flatten rfl ?c1 ?c2 ?c3 ?c4 ?c5 ?c6 ?_));case c1=>exact bA HVR.all af
 case c2=>
  intro j u hu;rw[FC,FE];exact (aj (aM w3 _ _) hbS).trans (HC.out _ _ (ct hu))
 case c3=>exact (aF HVR.one i).1
 case c4=>unfold maxLen;omega
 case c5=>omega
 case c6=>simp
 rintro v1 w4 hown4 hgr4 -;replace hown4:w4.ownsRow (w3.heap.size+1) 40 6 v1 i (vss.take i).flatten:=by simpa using hown4
 have hb4:Below (w3.heap.size+1) (w3.alloc (G7 (clo6 x1 m1 n1 x2 m2 n2 x3 m3 n3 x4 m4 n4 (F_ ⟨b,0,U⟩) m5 n5 c.now) 29)) w4:=((Ft (w3.heap.size+1) _).alloc aH _).grown hgr4 aH (λg hg=>by simp[FX] at hg;omega);obtain⟨s1,s2,s3,rfl⟩:=aC hown4;have Bo4:=ae ((hb4.block w3.heap.size af).trans (heap_alloc_new w3 (G7 (clo6 x1 m1 n1 x2 m2 n2 x3 m3 n3 x4 m4 n4 (F_ ⟨b,0,U⟩) m5 n5 c.now) 29)));have HB34:=ae ((aq w3 (G7 (clo6 x1 m1 n1 x2 m2 n2 x3 m3 n3 x4 m4 n4 (F_ ⟨b,0,U⟩) m5 n5 c.now) 29)).trans (hb4.mono af));have HO4:=ae hown4;have Br4:=upK Br HB34.out;have hs4:=HB34.size;obtain⟨o0,o1,o2,o3,o4,o5⟩:=cs6 Bo4;have hol:=aa Bo4.out;clear hown4 hgr4 hb4 HOW;have hik1:((i:Int)+1)<=m5:=af
 by_cases hcap:n5=i+1
 ·subst hcap;have hmi:m5=i+1:=af
  have hd0:m5 - (i+1)=0:=af
  have hvd:vss.drop (i+1)=[]:=FN af;go_wp2_with (first|(at_builtin;refine wpList_append_own _ rfl _ _ 27 rfl (w3.heap.size+1) 40 i5 (Hc #[I ⟨#[]⟩,GZ G6 0,I ⟨#[]⟩,J U 0 0,I ⟨#[]⟩,GZ G6 0]) 6 88 Tryz.underlying27 HI0.1 HI0.2.1 HI0.2.2.1 HI0.2.2.2 rfl ah _ _ _ rfl (HO4.out) ⟨b,0,U⟩ 0 0 [] rfl ?c1 ?c2 ?c3 ?c4 ?c5 ?c6 ?_));case c1=>rfl
  case c2=>intro j u hu;simp at hu
  case c3=>intro u hu;simp at hu
  case c4=>unfold maxLen;omega
  case c5=>omega
  case c6=>omega
  rintro v2 w5 hown5 hgr5 -;have hlen5:(wo Pd.n t c.ps).length=m5 - 1:=by rw[HW.out];simp;omega
  replace hown5:w5.ownsRow (w3.heap.size+1) 40 6 v2 (wo Pd.n t c.ps).length (vss.take i++vss.drop (i+1)).flatten:=by
   rw[hlen5,List.flatten_append];rw[hvd];simpa[hmi] using hown5
  have hb5:Below (w3.heap.size+1) w4 w5:=(Ft (w3.heap.size+1) w4).grown hgr5 af (λg hg=>(HO4.lt g hg).1);obtain⟨t1,t2,t3,rfl⟩:=aC hown5;obtain⟨Bo5,Br5,H35,HB5,hsel⟩:=Bj;rw[<-HW.out] at hsel;have hrec:=(hsel.gq (HVR.below H35.out)).aB (w':=w5) (S':=λk=>(w2.heap.size<=k/\k<w3.heap.size)\/w3.heap.size+1<=k) (λ_ _ _ _=>rfl) (λk _ s=>He s);obtain⟨q1,q2,hq,hR⟩:=hrec.own hown5 aH ah (λg hg=>Hd (hown5.lt g hg).1);rw[FB] at hq hR;simp only[Value.slice.injEq] at hq;obtain⟨rfl,ht2,rfl⟩:=hq;rw[<-ht2] at hR;have HT2:=ae ht2;have HR5:=ae hR;have hs5:=hb5.size;obtain⟨o0,o1,o2,o3,o4,o5⟩:=cs6 Bo5;obtain⟨r0,r1,r2,r3,r4,r5,r6,r7⟩:=cs8 Br5;obtain⟨fo0,fo1,fo2,fo3,fo4,fo5,fr0,fr1,fr2,fr3,fr4,fr5,fr6,fr7⟩:=uF;obtain⟨hne,hne2⟩:=rN;have hol5:=aa Bo5.out;have hrl5:=aa Br5.out;clear hown5 hgr5 hb5 hsel hrec hR ht2 hlen5 hik hik1 hmi hd0 hvd hmn;exact D3
 ·go_wp2_with (first|(at_builtin;refine wpList_append_own _ rfl _ _ 27 rfl (w3.heap.size+1) 40 i5 (Hc #[I ⟨#[]⟩,GZ G6 0,I ⟨#[]⟩,J U 0 0,I ⟨#[]⟩,GZ G6 0]) 6 88 Tryz.underlying27 HI0.1 HI0.2.1 HI0.2.2.1 HI0.2.2.2 rfl ah _ _ _ rfl (HO4.out) ⟨b,(i+1)*6,U⟩ (m5 - (i+1)) (n5 - (i+1)) (vss.drop (i+1)).flatten rfl ?c1 ?c2 ?c3 ?c4 ?c5 ?c6 ?_));case c1=>rw[dF HVR.all,hvl]
  case c2=>
   intro j u hu;rw[FC];exact (aj HB34.out hbS).trans (HC.out _ _ (cN HVR.all af hu))
  case c3=>exact (aF HVR.one (i+1)).2
  case c4=>unfold maxLen;omega
  case c5=>omega
  case c6=>omega
  rintro v2 w5 hown5 hgr5 -;have hlen5:(wo Pd.n t c.ps).length=m5 - 1:=by rw[HW.out];simp;omega
  replace hown5:w5.ownsRow (w3.heap.size+1) 40 6 v2 (wo Pd.n t c.ps).length (vss.take i++vss.drop (i+1)).flatten:=by
   rw[hlen5,List.flatten_append];have e9:m5 - 1=i+(m5 - (i+1)):=af
   rw[e9];exact hown5
  have hb5:Below (w3.heap.size+1) w4 w5:=(Ft (w3.heap.size+1) w4).grown hgr5 af (λg hg=>(HO4.lt g hg).1);obtain⟨t1,t2,t3,rfl⟩:=aC hown5;obtain⟨Bo5,Br5,H35,HB5,hsel⟩:=Bj;rw[<-HW.out] at hsel;have hrec:=(hsel.gq (HVR.below H35.out)).aB (w':=w5) (S':=λk=>(w2.heap.size<=k/\k<w3.heap.size)\/w3.heap.size+1<=k) (λ_ _ _ _=>rfl) (λk _ s=>He s);obtain⟨q1,q2,hq,hR⟩:=hrec.own hown5 aH ah (λg hg=>Hd (hown5.lt g hg).1);rw[FB] at hq hR;simp only[Value.slice.injEq] at hq;obtain⟨rfl,ht2,rfl⟩:=hq;rw[<-ht2] at hR;have HT2:=ae ht2;have HR5:=ae hR;have hs5:=hb5.size;obtain⟨o0,o1,o2,o3,o4,o5⟩:=cs6 Bo5;obtain⟨r0,r1,r2,r3,r4,r5,r6,r7⟩:=cs8 Br5;obtain⟨fo0,fo1,fo2,fo3,fo4,fo5,fr0,fr1,fr2,fr3,fr4,fr5,fr6,fr7⟩:=uF;obtain⟨hne,hne2⟩:=rN;have hol5:=aa Bo5.out;have hrl5:=aa Br5.out;clear hown5 hgr5 hb5 hsel hrec hR ht2 hlen5 hik hik1 hcap hmn;exact D3
def dH(c:Cl) (t:ByteArray) (o:Co):Prop:=
 (∃n,n<9/\AskWhy c t n/\o=co0 (bF n))\/
 (¬8000<t.size/\ay c/\∃(i:Nat) (x:Xd) (j:Nat) (k:Kd),c.xs[i]?=F_ x/\x.n=t/\c.ks[j]?=F_ k/\k.n=x.k/\
  ((¬x.v=⟨#[]⟩/\o=co0 7)\/(x.v=⟨#[]⟩/\((k.x=Hb/\o=co0 11)\/(k.x=G_/\gJ c i x k ⟨#[]⟩ o)))))
def Kept(c:Cl) (v:Vd):Prop:=∃(j:Nat) (k:Kd),c.ks[j]?=F_ k/\k.n=v.k/\k.y=Hb
def AY(v:Vd):Vd:=⟨v.n,v.c,v.z,v.k,v.x,⟨#[]⟩,Hb,v.zs⟩
def mE(c:Cl) (t:ByteArray) (vs:List Vd):Prop:=
 (∃(j:Nat) (v:Vd),c.vs[j]?=F_ v/\bh c t v/\((Kept c v/\vs=c.vs.set j (AY v))\/(¬Kept c v/\vs=wo Vd.n v.n c.vs)))\/((∀v,¬bh c t v)/\vs=c.vs)
def zt(c:Cl) (t:ByteArray) (vs:List Vd):Cl:=⟨c.ns,c.ks,vs,wo Xd.n t c.xs,c.ps,c.now⟩
def cG(c:Cl) (t:ByteArray) (o:Co):Prop:=(∃i,DwWhy c t (Ei c t) i/\o=co0 (bF i))\/(¬8000<t.size/\ay c/\zv c t/\∃vs,mE c t vs/\o=⟨zt c t vs,⟨#[]⟩,0⟩)
theorem EvWhy.cases(h:EvWhy c t i):(i=0/\8000<t.size)\/(i=1/\¬8000<t.size/\¬ay c)\/(i=2/\¬8000<t.size/\ay c/\hit Pd.n c.ps t=G_)\/(i=8/\¬8000<t.size/\ay c/\∃x,c.ps[pl Pd.n c.ps t]?=F_ x/\x.n=t/\x.p=0)\/(i=7/\¬8000<t.size/\ay c/\∃x,c.ps[pl Pd.n c.ps t]?=F_ x/\x.n=t/\¬x.p=0/\¬AO c x):=by
 rcases i with _|_|_|_|_|_|_|_|_|i <;> simp only[EvWhy] at h
 ·exact He ⟨rfl,h⟩
 ·exact Hd (He ⟨rfl,h⟩)
 ·exact Hd (Hd (He ⟨rfl,h⟩))
 ·exact Hd (Hd (Hd (Hd ⟨rfl,h⟩)))
 ·exact Hd (Hd (Hd (He ⟨rfl,h⟩)))
theorem mu(hr:ay c) (h:c.ps[pl Pd.n c.ps t]?=F_ x) (hn:x.n=t):hit Pd.n c.ps t=Hb:=(bl hr.2.1.2.2.2.2.2.2 h hn).2
theorem bC.same {o':Co} (h:bC c t o) (h':bC c t o'):o=o':=by
 rcases h with ⟨i,a,rfl⟩|⟨a1,a2,x,a3,a4,a5,a6,rfl⟩ <;> rcases h' with ⟨j,b,rfl⟩|⟨b1,b2,y,b3,b4,b5,b6,rfl⟩
 ·rcases a.cases with ⟨rfl,a1⟩|⟨rfl,a1,a2⟩|⟨rfl,a1,a2,a3⟩|⟨rfl,a1,a2,x,a3,a4,a5⟩|⟨rfl,a1,a2,x,a3,a4,a5,a6⟩ <;> rcases b.cases with ⟨rfl,b1⟩|⟨rfl,b1,b2⟩|⟨rfl,b1,b2,b3⟩|⟨rfl,b1,b2,y,b3,b4,b5⟩|⟨rfl,b1,b2,y,b3,b4,b5,b6⟩
  all_goals first
   | rfl
   | exact absurd a1 b1
   | exact absurd b1 a1
   | exact absurd a2 b2
   | exact absurd b2 a2
   | (rw[mu a2 b3 b4] at a3;cases a3;done)
   | (rw[mu a2 a3 a4] at b3;cases b3;done)
   | (rw[a3] at b3;obtain rfl:=Fp b3;exact absurd a5 b5)
   | (rw[a3] at b3;obtain rfl:=Fp b3;exact absurd b5 a5)
 ·rcases a.cases with ⟨rfl,a1⟩|⟨rfl,a1,a2⟩|⟨rfl,a1,a2,a3⟩|⟨rfl,a1,a2,x,a3,a4,a5⟩|⟨rfl,a1,a2,x,a3,a4,a5,a6⟩
  ·exact absurd a1 b1
  ·exact absurd b2 a2
  ·rw[mu a2 b3 b4] at a3;cases a3
  ·rw[a3] at b3;obtain rfl:=Fp b3;exact absurd a5 b5
  ·rw[a3] at b3;obtain rfl:=Fp b3;exact absurd b6 a6
 ·rcases b.cases with ⟨rfl,b1⟩|⟨rfl,b1,b2⟩|⟨rfl,b1,b2,b3⟩|⟨rfl,b1,b2,y,b3,b4,b5⟩|⟨rfl,b1,b2,y,b3,b4,b5,b6⟩
  ·exact absurd b1 a1
  ·exact absurd a2 b2
  ·rw[mu a2 a3 a4] at b3;cases b3
  ·rw[a3] at b3;obtain rfl:=Fp b3;exact absurd b5 a5
  ·rw[a3] at b3;obtain rfl:=Fp b3;exact absurd a6 b6
 ·rw[a3] at b3;obtain rfl:=Fp b3;rfl
theorem sO(d:Ad) (now:Int) (n:Nd) (va:Option Addr) (vl vc:Nat) (w:World) (h0:0<=n.u) (h1:n.u<=1000000):
  Calls Tryz.prog 27 #[Hc #[J d.a1 d.l1 d.c1,J d.a2 d.l2 d.c2,J d.a3 d.l3 d.c3,J d.a4 d.l4 d.c4,J d.a5 d.l5 d.c5,GZ G6 now],Hc #[I n.n,I n.z,GZ G6 n.c,GZ G6 n.s,GZ G6 n.u,G8 n.d,J va vl vc]] w λe w'=>e=Ha (G8 (n.d && decide (n.u+5<now)))/\Below w.heap.size w w':=by
 exact xE
theorem nf(d:Ad) (now:Int) (n:Nd) (va:Option Addr) (vl vc:Nat) (w:World) (h0:0<=n.u) (h1:n.u<=1000000) (g:Bool) (hg:(n.d && decide (n.u+5<now))=g):
  Calls Tryz.prog 27 #[Hc #[J d.a1 d.l1 d.c1,J d.a2 d.l2 d.c2,J d.a3 d.l3 d.c3,J d.a4 d.l4 d.c4,J d.a5 d.l5 d.c5,GZ G6 now],Hc #[I n.n,I n.z,GZ G6 n.c,GZ G6 n.s,GZ G6 n.u,G8 n.d,J va vl vc]] w λe w'=>e=Ha (G8 g)/\Below w.heap.size w w':=by
 rw[<-hg];exact sO d now n va vl vc w h0 h1
theorem oB.cases(h:oB c t i):(i=0/\8000<t.size)\/(i=1/\¬8000<t.size/\¬ay c)\/(i=2/\¬8000<t.size/\ay c/\hit Pd.n c.ps t=G_)\/(i=8/\¬8000<t.size/\ay c/\∃x,c.ps[pl Pd.n c.ps t]?=F_ x/\x.n=t/\¬x.p=0)\/(i=7/\¬8000<t.size/\ay c/\∃x,c.ps[pl Pd.n c.ps t]?=F_ x/\x.n=t/\x.p=0/\mC c (pl Pd.n c.ps t) x):=by
 rcases i with _|_|_|_|_|_|_|_|_|i;all_goals first
  | exact False.elim h
  | exact He ⟨rfl,h⟩
  | exact Hd (He ⟨rfl,h⟩)
  | exact Hd (Hd (He ⟨rfl,h⟩))
  | exact Hd (Hd (Hd (He ⟨rfl,h⟩)))
  | exact Hd (Hd (Hd (Hd ⟨rfl,h⟩)))
def dead(n:Nd):Nd:=⟨n.n,n.z,n.c,n.s,n.u,Hb,n.zs⟩
def ph1(t:ByteArray) (p:Pd):Pd:=if p.d.toList==t.toList then ⟨p.n,p.c,p.z,p.zs,p.d,1⟩ else p
theorem Ag {p:Pd} (h:p.d=t):ph1 t p=⟨p.n,p.c,p.z,p.zs,p.d,1⟩:=by unfold ph1;rw[aW h];rfl
theorem Dm {p:Pd} (h:¬p.d=t):ph1 t p=p:=by unfold ph1;rw[bH h];rfl
def km(c:Cl) (t:ByteArray) (n:Nd):Cl:=⟨c.ns.set (pl Nd.n c.ns t) (dead n),c.ks,c.vs,c.xs,c.ps.map (ph1 t),c.now⟩
def gn(c:Cl) (t:ByteArray):Nat->Prop
 | 0=>8000<t.size
 | 1=>¬8000<t.size/\¬ay c
 | 2=>¬8000<t.size/\ay c/\hit Nd.n c.ns t=G_
 | _=>False
def mI(c:Cl) (t:ByteArray) (n:Nd):Prop:=¬8000<t.size/\ay c/\c.ns[pl Nd.n c.ns t]?=F_ n/\n.n=t
def eQ(c:Cl) (t:ByteArray) (o:Co):Prop:=(∃i,gn c t i/\o=co0 (bF i))\/∃n,mI c t n/\((n.d=Hb/\o=co0 (bF 8))\/(n.d=G_/\o=⟨km c t n,⟨#[]⟩,0⟩))
def phL(t:ByteArray) (ps:List Pd) (k:Nat):List Pd:=(ps.map (ph1 t)).take k++ps.drop k
theorem p_(h:k<ps.length):(phL t ps k)[k]?=ps[k]?:=by
 unfold phL;exact xq
theorem oa(hx:ps[k]?=F_ x):phL t ps (k+1)=(phL t ps k).set k (ph1 t x):=by
 have hk:k<ps.length:=(Fm.1 hx).1;unfold phL;have h1:((ps.map (ph1 t)).take k).length=k:=by simp;omega
 exact yC
theorem Ae(h:ps.length<=k):phL t ps k=ps.map (ph1 t):=by
 unfold phL;rw[FT hM,FN h,List.append_nil]
theorem aL.ER(h:aL S w w1) (hg:S g):aL S w (w1.setCell ⟨g,i,U⟩ v):=
 ⟨h.os,h.tape,h.output,by simpa[Gb] using h.size,λk hk hn=>(Fl _ _ _ _ (show¬k=g from λe=>hn (by rw[e];exact hg))).trans (h.block k hk hn)⟩
theorem aA.beside {a':Option Addr} {l cp l' cp':Nat} {rs rs':List (List Fv)} {S':Nat->Prop} (hn:aA w a' l' cp' m T rs' S') (hp:aA w a l cp 6 40 rs S) (hk:aL (λk=>0<l/\a=F_ ⟨k,0,U⟩) w w') (hT:¬40=T):aA w' a' l' cp' m T rs' S':=by
 by_cases h0:0<l
 ·obtain⟨h1,h2,h3,h4⟩:=hp;rcases h4 with h4|⟨g,cur,H,rfl,h6⟩
  ·rw[h4] at h1;simp at h1;omega
  ·exact (hn.dv h6.blk hT ah).aB (λk hk2 s=>hk.block k hk2 (λq=>s.2 (by have h9:=q.2;cases h9;rfl))) (λ_ _ s=>s.1)
 ·exact hn.aB (λk hk2 s=>hk.block k hk2 (λq=>h0 q.1)) (λ_ _ s=>s)
def Eu(a:Option Addr) (l cp:Nat) (t:ByteArray) (ps:List Pd) (S:Nat->Prop) (w:World) (e:Ending) (w':World):Prop:=(∃v,e=Ha v)/\aA w' a l cp 6 40 ((ps.map (ph1 t)).map pdF) S/\aL (λk=>0<l/\a=F_ ⟨k,0,U⟩) w w'
theorem kX {l:List α} {x:α} (h:l[k]?=F_ x):l.set k x=l:=by
 obtain⟨hk,rfl⟩:=Fm.1 h;exact List.set_getElem_self hk
theorem jX(b:Nat) (a1 a2 a3 a4 a:Option Addr) (l1 y1 l2 y2 l3 y3 l4 y4 l cp:Nat) (now:Int) (t:ByteArray) (ps:List Pd) (S:Nat->Prop) (w:World) (hb:w.heap[b]?=F_ (G7 #[J a1 l1 y1,J a2 l2 y2,J a3 l3 y3,J a4 l4 y4,J a l cp,GZ G6 now] 29 (0,0))) (ho:aA w a l cp 6 40 (ps.map pdF) S) (hS:∀g,0<l->a=F_ ⟨g,0,U⟩->¬g=b):
  Calls Tryz.prog 35 #[Hf (F_ ⟨b,0,U⟩),I t,G8 G_] w (Eu a l cp t ps S w):=by
 have hpl:ps.length=l:=k_
 have hlm:l<=9223372036854775807:=FA ho.2.1 ho.2.2.1;have Bc:=ae hb;have HO0:Hid (aA w a l cp 6 40 ((phL t ps 0).map pdF) S):=by show aA _ _ _ _ _ _ _ _;simpa[phL] using ho
 clear hb ho;go_enter Tryz.func35,Tryz.ntmps35;go_wp2;go_loopw [6] (λvi wr=> ∃k:Nat,k<=l/\vi=GZ G6 k/\Hid (aA wr a l cp 6 40 ((phL t ps k).map pdF) S)/\Hid (aL (λk=>0<l/\a=F_ ⟨k,0,U⟩) w wr)) (λvi _=>l - (intOf vi).toNat);case atStart=>exact⟨0,by omega,rfl,HO0,aL.refl _ _⟩
 case round=>
  obtain⟨k,hk,rfl,HO,HK⟩:=hrel;clear HO0;replace Bc:=ae ((HK.block _ (aa Bc.out) (λh=>hS _ h.1 h.2 rfl)).trans Bc.out);by_cases hlt:k<l
  ·obtain⟨x,hx0⟩:∃x,ps[k]?=F_ x:=⟨_,Fu af⟩;have HX0:=ae hx0;have hLk:((phL t ps k).map pdF)[k]?=F_ (pdF x):=by rw[FG,p_ af,hx0];rfl
   obtain⟨g,rfl,hS2⟩:=HO.st (aL.refl S wr) hLk;obtain⟨b2,o2,x2,hae,hbl,hx2,hat⟩:=bN HO.row hlt;cases hae;rw[p_ af,hx0] at hx2;obtain rfl:=Fp hx2;obtain⟨va,vl,vc,-,-,-,-,-,-,-,-,c4,c5⟩:=aR hat;have hf5:=hS2.kM (k*6+5);have HST:=ae hS2;have hne:¬g=b:=hS g af rfl;have hne2:¬b=g:=λe=>hne e.symm;rw[FE] at c4 c5;have hk1:(k:Int)<l:=af
   clear hat hx2 hx0 hS2 hLk;by_cases he:x.d=t
   ·have hq:=aW he;have HHE:=ae he;clear he;obtain⟨c0,c1,c2,c3,c4,c5⟩:=cs6 Bc;have ltc_0:=aa Bc.out;go_wp2;have h2:=HST.sQ (i:=5) rfl 1;obtain⟨⟨cur2,H2,h3,_⟩,h4,_⟩:=h2;have hR:aA (wr.setCell ⟨g,k*6+5,U⟩ (GZ G6 1)) (F_ ⟨g,0,U⟩) l cp 6 40 ((phL t ps (k+1)).map pdF) S:=by
     rw[oa HX0.out,List.map_set,Ag HHE.out];exact⟨by rw[List.length_set];exact HO.1,HO.2.1,HO.2.2.1,Hd ⟨g,cur2,H2,rfl,h3⟩⟩
    have HR2:=ae hR;have HK2:=ae (HK.ER (i:=k*6+5) (v:=GZ G6 1) (show 0<l/\(F_ ⟨g,0,U⟩:Option Addr)=F_ ⟨g,0,U⟩ from ⟨by omega,rfl⟩));clear hR h3 h4;clear c0 c1 c2 c3 c4 c5 ltc_0;obtain⟨W,hW0⟩:∃W,W=wr.setCell ⟨g,k*6+5,U⟩ (GZ G6 1):=⟨_,rfl⟩;rw[<-hW0] at HR2 HK2 ⊢;clear hW0 c4 c5 hf5;have hne0:=Wd.ne W;refine ag au au ?_;repeat (go_big_quiet_step (first|fail))
    refine wpQuiet_nil ?_;rintro _ ⟨q1,rfl⟩;go_wp2;exact⟨⟨k+1,by omega,by go_num,HR2.below q1.b,HK2.below q1.b⟩,by simp[intOf];omega⟩
   have hq:=bH he;have HHE:=ae he;clear he;obtain⟨c0,c1,c2,c3,c4,c5⟩:=cs6 Bc;have ltc_0:=aa Bc.out;go_wp2;refine⟨⟨k+1,by omega,by go_num,?_,HK.out⟩,by simp[intOf];omega⟩;show aA _ _ _ _ _ _ _ _;rw[oa HX0.out,Dm HHE.out,kX (by rw[p_ af];exact HX0.out)];exact HO.out
  have hk1:¬(k:Int)<l:=af
  obtain⟨c0,c1,c2,c3,c4,c5⟩:=cs6 Bc;have ltc_0:=aa Bc.out;go_wp2;have HO2:=HO;rw[Ae af] at HO2;exact xw
def phF(t:ByteArray) (f:Pd->Int) (p:Pd):Pd:=if p.d.toList==t.toList then ⟨p.n,p.c,p.z,p.zs,p.d,f p⟩ else p
theorem r_ {p:Pd} (h:p.d=t):phF t f p=⟨p.n,p.c,p.z,p.zs,p.d,f p⟩:=by unfold phF;rw[aW h];rfl
theorem Dl {p:Pd} (h:¬p.d=t):phF t f p=p:=by unfold phF;rw[bH h];rfl
theorem Af(t:ByteArray):phF t (λ_=>1)=ph1 t:=rfl
def mpL(h:Pd->Pd) (ps:List Pd) (k:Nat):List Pd:=(ps.map h).take k++ps.drop k
theorem yV(hk:k<ps.length):(mpL h ps k)[k]?=ps[k]?:=by
 unfold mpL;exact xq
theorem kj(hx:ps[k]?=F_ x):mpL h ps (k+1)=(mpL h ps k).set k (h x):=by
 have hk:k<ps.length:=(Fm.1 hx).1;unfold mpL;have h1:((ps.map h).take k).length=k:=by simp;omega
 exact yC
theorem Ao(hk:ps.length<=k):mpL h ps k=ps.map h:=by
 unfold mpL;rw[FT (by simpa using hk),FN hk,List.append_nil]
theorem yT(h:Pd->Pd) (ps:List Pd):mpL h ps 0=ps:=by simp[mpL]
theorem yU(hx:ps[k]?=F_ x) (e:h x=x):mpL h ps (k+1)=mpL h ps k:=by
 rw[kj hx,e,kX (by rw[yV (Fm.1 hx).1];exact hx)]
def Dw(c:Cl) (t:ByteArray) (v:Vd):Bool:=inB v.zs t && re c t v.m
def jf(c:Cl) (t:ByteArray) (vs:List Vd):List ByteArray:=(vs.filter (Dw c t)).map Vd.n
theorem yY(c:Cl) (t:ByteArray):(jf c t c.vs).length<=c.vs.length:=by
 unfold jf;rw[FB];exact List.length_filter_le _ _
def cP(c:Cl):Int:=if c.now+10<1000000 then c.now+10 else 1000000
def yX(c:Cl) (n:Nd):List ByteArray:=if c.now<n.u then jf c n.n c.vs else []
def dR(c:Cl) (n:Nd):Nd:=⟨n.n,n.z,n.c,n.s,cP c,n.d,yX c n⟩
def AK(c:Cl) (n:Nd) (f:Pd->Int):Prop:=∀p,(f p=2/\c.now<n.u/\mK c p (dR c n))\/(f p=1/\¬(c.now<n.u/\mK c p (dR c n)))
theorem AK.ex(c:Cl) (n:Nd):∃f,AK c n f:=by
 classical
 refine⟨λp=>if c.now<n.u/\mK c p (dR c n) then 2 else 1,λp=>?_⟩;by_cases h:c.now<n.u/\mK c p (dR c n)
 ·exact He ⟨if_pos h,h⟩
 ·exact Hd ⟨if_neg h,h⟩
def gD(c:Cl) (t:ByteArray) (n:Nd) (f:Pd->Int):Cl:=⟨c.ns.set (pl Nd.n c.ns t) (dR c n),c.ks,c.vs,c.xs,c.ps.map (phF t f),c.now⟩
def oC(c:Cl) (t:ByteArray) (o:Co):Prop:=(∃i,gn c t i/\o=co0 (bF i))\/∃n,mI c t n/\((n.d=Hb/\o=co0 (bF 8))\/(n.d=G_/\∃f,AK c n f/\o=⟨gD c t n f,⟨#[]⟩,0⟩))
theorem ay.Fi {p:Pd} (h:ay c) (hp:c.ps[k]?=F_ p) (hd:¬p.d=⟨#[]⟩):∀(j:Nat) t,p.zs[j]?=F_ t->∃v,bh c t v:=by
 have h1:=(gM h.2.1 ((jj h.2.1).1 h.2.2.1)).1 h.2.2.2.1;obtain⟨_,b,_⟩:=h1.1 k p hp;intro j t ht;obtain⟨v,_,_,e3,_⟩:=(b j t ht).2.resolve_left hd;exact⟨v,e3⟩
theorem aV.ne {x:ByteArray} (h:aV x):¬x=⟨#[]⟩:=λe=>by
 rw[e] at h;have h8:=h.1;revert h8;decide
def Fc(c:Cl) (t:ByteArray) (w:World) (e:Ending) (w':World):Prop:=Below w.heap.size w w'/\((∃i p,gn c t i/\p=bF i/\¬p=0/\e=Ha (Hg #[GZ G6 0,GZ G6 p]))\/∃(j:Nat) (n:Nd),c.ns[j]?=F_ n/\mI c t n/\e=Ha (Hg #[GZ G6 j,GZ G6 0]))
theorem iQ(d:Ad) (c:Cl) (t:ByteArray) (w:World) (hr:aE w d c.raw):
  Calls Tryz.prog 34 #[Hc #[J d.a1 d.l1 d.c1,J d.a2 d.l2 d.c2,J d.a3 d.l3 d.c3,J d.a4 d.l4 d.c4,J d.a5 d.l5 d.c5,GZ G6 c.now],I t] w (Fc c t w):=by
 obtain⟨HR,HB⟩:=jr;clear hr;go_enter Tryz.func34,Tryz.ntmps34;go_wp2_with fail;refine (er d c t _ (HR.below (HB.trans ((aq _ _).mono HB.size)))).mono ?_;rintro e w1 ⟨p,rfl,hp,hb⟩;obtain⟨HA0,hbx⟩:=aT hb;have Bk:=ae HA0;replace HB:=upB HB hbx;clear hb hbx HA0;have hp0:(¬p=0/\∃i,gn c t i/\p=bF i)\/(p=0/\¬8000<t.size/\ay c):=by
  exact yj
 clear hp;rcases hp0 with ⟨hp0,i,hw,hpi⟩|⟨rfl,hl,hT⟩
 ·have HP:=ae (Fk hw (Fk hpi hp0));have hp1:(p==0)=G_:=fJ
  clear hw hpi hp0;obtain⟨k0,k1,k2,k3,k4,k5⟩:=cs6 Bk;have ltk_1:=aa Bk.out;go_wp2;exact bodyPost_ret (v:=Hg #[GZ G6 0,GZ G6 p]) uj rfl ⟨HB.out,He ⟨i,p,HP.1,HP.2.1,HP.2.2,rfl⟩⟩
 have HT:=ae hT;clear hT;obtain⟨k0,k1,k2,k3,k4,k5⟩:=cs6 Bk;have ltk_1:=aa Bk.out;go_wp2_with fail;refine (gV d c.now c.ns t _ (HR.n.below HB.out)).mono ?_;rintro e w2 ⟨hb,hf⟩;clear k0 k1 k2 k3 k4 k5 ltk_1;replace Bk:=upK Bk hb;replace HB:=upB HB hb;clear hb;rcases hf with ⟨j,n,hn,hnn,rfl⟩|⟨hno,rfl⟩
 ·have hj0:¬(j:Int)<0:=af
  have HN:=ae (Fk hn hnn);clear hn hnn;obtain⟨k0,k1,k2,k3,k4,k5⟩:=cs6 Bk;have ltk_2:=aa Bk.out;go_wp2;exact bodyPost_ret (v:=Hg #[GZ G6 j,GZ G6 0]) uj rfl ⟨HB.out,Hd ⟨j,n,HN.1,⟨hl,HT.out,by rw[(bl HT.2.1.1.2.2 HN.1 HN.2).1];exact HN.1,HN.2⟩,rfl⟩⟩
 have HN:=ae hno;clear hno;obtain⟨k0,k1,k2,k3,k4,k5⟩:=cs6 Bk;have ltk_2:=aa Bk.out;go_wp2;exact bodyPost_ret (v:=Hg #[GZ G6 0,GZ G6 6]) uj rfl ⟨HB.out,He ⟨2,6,⟨hl,HT.out,ft HN.out⟩,rfl,by decide,rfl⟩⟩
theorem m_(d:Ad) (c:Cl) (t:ByteArray) (w:World) (hr:aE w d c.raw):
  Calls Tryz.prog 12 #[Hc #[J d.a1 d.l1 d.c1,J d.a2 d.l2 d.c2,J d.a3 d.l3 d.c3,J d.a4 d.l4 d.c4,J d.a5 d.l5 d.c5,GZ G6 c.now],I t] w (fS (eQ c t) w):=by
 obtain⟨a1,l1,y1,a2,l2,y2,a3,l3,y3,a4,l4,y4,a5,l5,y5⟩:=d;dsimp only;obtain⟨HR,hl1,hm1,hl2,hm2,hl3,hm3,hl4,hm4,hl5,hm5⟩:=ew;clear hr;have HB:=ae (Ft w.heap.size w);go_enter Tryz.func12,Tryz.ntmps12;go_wp2_with fail;refine (iQ ⟨a1,l1,y1,a2,l2,y2,a3,l3,y3,a4,l4,y4,a5,l5,y5⟩ c t _ (HR.below (HB.trans ((aM _ _ _).mono HB.size)))).mono ?_;rintro e w1 ⟨hb,hf⟩;obtain⟨HA0,HA1,hbx⟩:=bU hb;obtain⟨Bk,Br⟩:=dB;replace HB:=upB HB hbx;clear hb hbx HA0 HA1;rcases hf with ⟨i,p,hw,hpi,hp0,rfl⟩|⟨j,n,hn,hok,rfl⟩
 ·have HV:Hid (eQ c t (co0 p)):=He ⟨i,hw,by rw[hpi]⟩;have hp1:(p==0)=G_:=fJ
  clear hw hpi hp0;obtain⟨k0,k1,k2,k3,k4,k5⟩:=cs6 Bk;have ltk_1:=aa Bk.out;go_wp2_with fail;refine (aI p _).mono ?_;rintro e w2 ⟨rfl,hb⟩;clear k0 k1 k2 k3 k4 k5 ltk_1;replace Bk:=upK Bk hb;replace Br:=upK Br hb;replace HB:=upB HB hb;clear hb;obtain⟨r0,r1,r2,r3,r4,r5,r6,r7⟩:=cs8 Br;have ltr_2:=aa Br.out;obtain⟨fr0,fr1,fr2,fr3,fr4,fr5,fr6,fr7⟩:=cq;have hrl:w.heap.size+1<w2.heap.size:=aa Br.out;go_wp2;exact bodyPost_ret (v:=Hc #[J U 0 0,J U 0 0,J U 0 0,J U 0 0,J U 0 0,GZ G6 0,I ⟨#[]⟩,GZ G6 p]) um rfl ⟨ad0,co0 p,rfl,HV.out,(rl0 _ _),sb1 (sb1 (sb1 (sb1 (sb1 (sb1 (sb1 (sb1 (HB.out))))))))⟩
 have HNJ:=ae hn;have HOK:=ae hok;clear hn hok;obtain⟨HT,hj1,hj2,hj0⟩:=uA;obtain⟨b,o,y,rfl,hbl,hy,hat⟩:=bO (HR.n.below HB.out) hj1;rw[HNJ.out] at hy;obtain rfl:=Fp hy;obtain⟨ua,ul,uc,-,-,-,-,-,-,-,-,hd5,-⟩:=aU hat;clear hat hy;cases hd:n.d;rotate_left
 ·have HV:Hid (eQ c t (co0 10)):=Hd ⟨n,HOK.out,He ⟨hd,rfl⟩⟩;rw[hd] at hd5;clear hd;obtain⟨k0,k1,k2,k3,k4,k5⟩:=cs6 Bk;have ltk_1:=aa Bk.out;go_wp2_with fail;refine (aI 10 _).mono ?_;rintro e w2 ⟨rfl,hb⟩;clear k0 k1 k2 k3 k4 k5 ltk_1;replace Bk:=upK Bk hb;replace Br:=upK Br hb;replace HB:=upB HB hb;clear hb;obtain⟨r0,r1,r2,r3,r4,r5,r6,r7⟩:=cs8 Br;have ltr_2:=aa Br.out;obtain⟨fr0,fr1,fr2,fr3,fr4,fr5,fr6,fr7⟩:=cq;have hrl:w.heap.size+1<w2.heap.size:=aa Br.out;go_wp2;exact bodyPost_ret (v:=Hc #[J U 0 0,J U 0 0,J U 0 0,J U 0 0,J U 0 0,GZ G6 0,I ⟨#[]⟩,GZ G6 10]) um rfl ⟨ad0,co0 10,rfl,HV.out,(rl0 _ _),sb1 (sb1 (sb1 (sb1 (sb1 (sb1 (sb1 (sb1 (HB.out))))))))⟩
 have HV:Hid (eQ c t ⟨km c t n,⟨#[]⟩,0⟩):=Hd ⟨n,HOK.out,Hd ⟨hd,rfl⟩⟩;rw[hd] at hd5;clear hd;have HQ1:Hid (w.heap.size+1<w1.heap.size):=aa Br.out;obtain⟨k0,k1,k2,k3,k4,k5⟩:=cs6 Bk;have ltk_1:=aa Bk.out;go_wp2_with fail;have HLO:=ae HB.size;refine (bu ⟨(F_ ⟨b,o,U⟩),l1,y1,a2,l2,y2,a3,l3,y3,a4,l4,y4,a5,l5,y5⟩ c _ (HR.below HB.out) HT.sm).mono ?_;rintro e w3 ⟨d',rfl,ho,hb⟩;clear hd5 hbl;have HQ2:=ae hb.size;clear k0 k1 k2 k3 k4 k5 ltk_1;replace Bk:=upK Bk hb;replace Br:=upK Br hb;replace HB:=upB HB hb;clear hb;obtain⟨x1,m1,n1,x2,m2,n2,x3,m3,n3,x4,m4,n4,x5,m5,n5⟩:=d';have hm1:m1=l1:=by have h6:(c.ns.map ndF).length=m1:=ho.n.1;rw[FB] at h6;omega
 subst hm1;obtain⟨g,hga,hS⟩:=(ho.n.bI (S':=λk=>w1.heap.size<=k/\k<w3.heap.size) (λk hk s=>⟨s,hk⟩)).st (aL.refl _ w3) (i:=j) (r:=ndF n) (show (c.ns.map ndF)[j]?=F_ (ndF n) by rw[FG,HNJ.out];rfl);have hga':x1=F_ ⟨g,0,U⟩:=hga;subst hga';obtain⟨hq1,hq2,hgS⟩:=Be;obtain⟨⟨hg1,hg2⟩,-⟩:=hgS;obtain⟨v5,hv5⟩:=hS.cell (i:=5) rfl;have hf5:=hS.kM (j*7+5);have HST:=ae hS;have HO:=ae ho;have hne:¬g=w3.heap.size:=af
 have hne2:¬w3.heap.size=g:=af
 clear hS ho hga;obtain⟨k0,k1,k2,k3,k4,k5⟩:=cs6 Bk;have ltk_2:=aa Bk.out;go_wp2_with fail;have hsw:(w3.setCell ⟨g,j*7+5,U⟩ (G8 Hb)).heap.size=w3.heap.size:=la
 obtain⟨⟨cur,H,hbk,_⟩,_⟩:=HST.out;have hvb:((w3.setCell ⟨g,j*7+5,U⟩ (G8 Hb)).alloc (G7 (clo6 (F_ ⟨g,0,U⟩) m1 n1 x2 m2 n2 x3 m3 n3 x4 m4 n4 x5 m5 n5 c.now) 29)).heap[w3.heap.size]?=F_ (G7 (clo6 (F_ ⟨g,0,U⟩) m1 n1 x2 m2 n2 x3 m3 n3 x4 m4 n4 x5 m5 n5 c.now) 29 (0,0)):=by have h9:=heap_alloc_new (w3.setCell ⟨g,j*7+5,U⟩ (G8 Hb)) (G7 (clo6 (F_ ⟨g,0,U⟩) m1 n1 x2 m2 n2 x3 m3 n3 x4 m4 n4 x5 m5 n5 c.now) 29);rw[hsw] at h9;exact h9
 have hkV:∀k,k<w3.heap.size->¬k=g->((w3.setCell ⟨g,j*7+5,U⟩ (G8 Hb)).alloc (G7 (clo6 (F_ ⟨g,0,U⟩) m1 n1 x2 m2 n2 x3 m3 n3 x4 m4 n4 x5 m5 n5 c.now) 29)).heap[k]?=w3.heap[k]?:=λk h1 h2=>(Fy _ _ _ (by rw[hsw];exact h1)).trans (Fl _ _ _ _ h2);have far:∀{a l cp m T rs},aA w3 a l cp m T rs (λk=>w1.heap.size<=k)->¬38=T->aA ((w3.setCell ⟨g,j*7+5,U⟩ (G8 Hb)).alloc (G7 (clo6 (F_ ⟨g,0,U⟩) m1 n1 x2 m2 n2 x3 m3 n3 x4 m4 n4 x5 m5 n5 c.now) 29)) a l cp m T rs (λk=>w1.heap.size<=k/\k<w3.heap.size):=λh hT=>(h.dv hbk.blk hT ah).aB (λk hk s=>hkV k hk s.2) (λk hk s=>⟨s.1,hk⟩);have f2:=far HO.k ah;have f3:=far HO.v ah;have f4:=far HO.x ah;have f5:=far HO.p ah;have h2:=HST.C8 (i:=5) rfl Hb;obtain⟨⟨cur2,H2,h3,_⟩,_,_⟩:=h2;have hns:(km c t n).raw.n=(c.ns.map ndF).set j (ndF (dead n)):=by
  show (c.ns.set (pl Nd.n c.ns t) (dead n)).map ndF=_;rw[(bl HT.2.1.1.2.2 HNJ.out HOK.2.2.2).1,List.map_set]
 have hR:aA (w3.setCell ⟨g,j*7+5,U⟩ (G8 Hb)) (F_ ⟨g,0,U⟩) m1 n1 7 38 (km c t n).raw.n (λk=>w1.heap.size<=k/\k<w3.heap.size):=by
  exact v_
 have f1:aA ((w3.setCell ⟨g,j*7+5,U⟩ (G8 Hb)).alloc (G7 (clo6 (F_ ⟨g,0,U⟩) m1 n1 x2 m2 n2 x3 m3 n3 x4 m4 n4 x5 m5 n5 c.now) 29)) (F_ ⟨g,0,U⟩) m1 n1 7 38 (km c t n).raw.n (λk=>w1.heap.size<=k/\k<w3.heap.size):=hR.aB (λk hk s=>Fy _ _ _ hk) (λ_ _ s=>s);have HF:=ae (Fk f1 (Fk f2 (Fk f3 (Fk f4 f5))));have hr2:((w3.setCell ⟨g,j*7+5,U⟩ (G8 Hb)).alloc (G7 (clo6 (F_ ⟨g,0,U⟩) m1 n1 x2 m2 n2 x3 m3 n3 x4 m4 n4 x5 m5 n5 c.now) 29)).heap[w.heap.size+1]?=F_ (G7 #[J U 0 0,J U 0 0,J U 0 0,J U 0 0,J U 0 0,GZ G6 0,I ⟨#[]⟩,GZ G6 0] 33 (0,0)):=(hkV _ af af).trans Br.out;have HBV:Hid (Below w.heap.size w ((w3.setCell ⟨g,j*7+5,U⟩ (G8 Hb)).alloc (G7 (clo6 (F_ ⟨g,0,U⟩) m1 n1 x2 m2 n2 x3 m3 n3 x4 m4 n4 x5 m5 n5 c.now) 29))):=GF (ak (show w.heap.size<=g by omega) HB.out) (by rw[hsw];exact HB.size) _;refine (jX w3.heap.size (F_ ⟨g,0,U⟩) x2 x3 x4 x5 m1 n1 m2 n2 m3 n3 m4 n4 m5 n5 c.now t c.ps (λk=>w1.heap.size<=k/\k<w3.heap.size) _ hvb f5 (λg5 e0 e5 e=>?_)).mono ?_
 ·rcases f5.2.2.2 with h9|⟨g9,c9,H9,e9,h9⟩
  ·have h8:=f5.1;rw[h9] at h8;simp at h8;omega
  ·rw[e5] at e9;cases e9;have:=h9.inS.2;omega
 rintro e w4 ⟨⟨v,rfl⟩,hP,hK⟩;have nb:∀k,¬(w1.heap.size<=k/\k<w3.heap.size)->¬(0<m5/\x5=F_ ⟨k,0,U⟩):=λk h1 h2=>by
  rcases f5.2.2.2 with h9|⟨g9,c9,H9,e9,h9⟩
  ·have h8:=f5.1;have h7:=h2.1;rw[h9] at h8;simp at h8;omega
  ·have h7:=h2.2;rw[h7] at e9;cases e9;exact h1 h9.inS
 have Bo4:=ae ((hK.block _ (aa hvb) (nb _ af)).trans hvb);have Br4:=ae ((hK.block _ (aa hr2) (nb _ af)).trans hr2);have g1:=f1.beside f5 hK ah;have g2:=f2.beside f5 hK ah;have g3:=f3.beside f5 hK ah;have g4:=f4.beside f5 hK ah;have HG:=ae (Fk g1 (Fk g2 (Fk g3 (Fk g4 hP))));have HB4:Hid (Below w.heap.size w w4):=HBV.trans (hK.low (X:=w.heap.size) HBV.size (λk s=>Classical.byContradiction λhk=>nb k af s));clear f1 f2 f3 f4 f5 g1 g2 g3 g4 hP hK hR h3 hvb hr2 far hkV HF HBV hns hbk HST HO nb hv5 hf5;obtain⟨o0,o1,o2,o3,o4,o5⟩:=cs6 Bo4;obtain⟨r0,r1,r2,r3,r4,r5,r6,r7⟩:=cs8 Br4;obtain⟨fr0,fr1,fr2,fr3,fr4,fr5,fr6,fr7,hol,hrl⟩:=uD;obtain⟨hne5,hne6⟩:=jw;go_wp2;have hlo:=HLO.out;refine bodyPost_ret (v:=Hc #[J (F_ ⟨g,0,U⟩) m1 n1,J x2 m2 n2,J x3 m3 n3,J x4 m4 n4,J x5 m5 n5,GZ G6 c.now,I ⟨#[]⟩,GZ G6 0]) um rfl ⟨⟨F_ ⟨g,0,U⟩,m1,n1,x2,m2,n2,x3,m3,n3,x4,m4,n4,x5,m5,n5⟩,⟨km c t n,⟨#[]⟩,0⟩,rfl,HV.out,?_,sb1 (sb1 (sb1 (sb1 (sb1 (sb1 (sb1 (sb1 (HB4.out))))))))⟩;have hk4:∀k,k<w4.heap.size->w1.heap.size<=k/\k<w3.heap.size->((((((((w4.setCell ⟨w.heap.size+1,0,U⟩ (J (F_ ⟨g,0,U⟩) m1 n1)).setCell ⟨w.heap.size+1,1,U⟩ (J x2 m2 n2)).setCell ⟨w.heap.size+1,2,U⟩ (J x3 m3 n3)).setCell ⟨w.heap.size+1,3,U⟩ (J x4 m4 n4)).setCell ⟨w.heap.size+1,4,U⟩ (J x5 m5 n5)).setCell ⟨w.heap.size+1,5,U⟩ (GZ G6 c.now)).setCell ⟨w.heap.size+1,6,U⟩ (I ⟨#[]⟩)).setCell ⟨w.heap.size+1,7,U⟩ (GZ G6 0)).heap[k]?=w4.heap[k]?:=λk _ h1=>by rw[Fl _ _ _ _ (show k≠w.heap.size+1 by omega),Fl _ _ _ _ (show k≠w.heap.size+1 by omega),Fl _ _ _ _ (show k≠w.heap.size+1 by omega),Fl _ _ _ _ (show k≠w.heap.size+1 by omega),Fl _ _ _ _ (show k≠w.heap.size+1 by omega),Fl _ _ _ _ (show k≠w.heap.size+1 by omega),Fl _ _ _ _ (show k≠w.heap.size+1 by omega),Fl _ _ _ _ (show k≠w.heap.size+1 by omega)]
 exact CA
def zC(n:Nd):Nd:=⟨n.n,n.z,n.c,n.s,0,G_,[]⟩
def mQ(c:Cl) (t:ByteArray) (n:Nd):Cl:=⟨c.ns.set (pl Nd.n c.ns t) (zC n),c.ks,c.vs,c.xs,c.ps,c.now⟩
def fR(c:Cl) (t:ByteArray) (o:Co):Prop:=(∃i,gn c t i/\o=co0 (bF i))\/∃n,mI c t n/\((n.d=G_/\o=co0 (bF 8))\/(n.d=Hb/\o=⟨mQ c t n,⟨#[]⟩,0⟩))
theorem StJ.C6 {N:Nat->Prop} {rs:List (List Fv)} {r:List Fv} (h:StJ g m T S N w wr rs j r) {i:Nat} {old:Fv} (hi:r[i]?=F_ old):StJ g m T S N w (wr.setCell ⟨g,j*m+i,U⟩ (J U 0 0)) rs j (r.set i (.l [])):=by
 have hget:=h.get;obtain⟨⟨cur,H,h1,hN⟩,h2,h3⟩:=h;have hil:i<r.length:=(Fm.1 hi).1;have hrm:r.length=m:=h1.len j r hget;obtain⟨v0,hc0,-⟩:=h1.cell j r hget i _ hi;have hin:j*m+i<cur.size:=(FJ.1 hc0).1;have back:∀(j':Nat) r' (i':Nat) zs',(rs.set j (r.set i (.l [])))[j']?=F_ r'->r'[i']?=F_ (.l zs')->zs'≠[]->∃r0,(rs.set j r)[j']?=F_ r0/\r0[i']?=F_ (.l zs'):=by
  exact xN
 refine⟨⟨cur.setIfInBounds (j*m+i) (J U 0 0),H,⟨az h1.blk _,h1.inS,jL h3 h1.len,λj' r' hj' i' f' hi'=>?_,λj' r' i' zs' j2 r2 i2 zs2 hj' hi' hz' hj2 hi2 hz2 hH=>?_⟩,λj' r' i' zs' hj' hi' hz'=>?_⟩,h2.set h1.inS,h3⟩
 ·rcases eo h3 hil hj' hi' with ⟨rfl,rfl,rfl⟩|⟨hne,r0,q1,q2⟩
  ·exact⟨_,by rw[Ge hin],⟨U,0,0,rfl,rfl,Fq _,by decide,λj x hx=>by simp at hx,He rfl⟩⟩
  ·exact uX
 ·exact yi
 ·obtain⟨r0,b1,b2⟩:=back j' r' i' zs' hj' hi' hz';exact hN j' r0 i' zs' b1 b2 hz'
theorem tR(d:Ad) (c:Cl) (t:ByteArray) (w:World) (hr:aE w d c.raw):
  Calls Tryz.prog 70 #[Hc #[J d.a1 d.l1 d.c1,J d.a2 d.l2 d.c2,J d.a3 d.l3 d.c3,J d.a4 d.l4 d.c4,J d.a5 d.l5 d.c5,GZ G6 c.now],I t] w (fS (fR c t) w):=by
 obtain⟨a1,l1,y1,a2,l2,y2,a3,l3,y3,a4,l4,y4,a5,l5,y5⟩:=d;dsimp only;obtain⟨HR,hl1,hm1,hl2,hm2,hl3,hm3,hl4,hm4,hl5,hm5⟩:=ew;clear hr;have HB:=ae (Ft w.heap.size w);go_enter Tryz.func70,Tryz.ntmps70;go_wp2_with fail;refine (iQ ⟨a1,l1,y1,a2,l2,y2,a3,l3,y3,a4,l4,y4,a5,l5,y5⟩ c t _ (HR.below (HB.trans ((aM _ _ _).mono HB.size)))).mono ?_;rintro e w1 ⟨hb,hf⟩;obtain⟨HA0,HA1,hbx⟩:=bU hb;obtain⟨Bk,Br⟩:=dB;replace HB:=upB HB hbx;clear hb hbx HA0 HA1;rcases hf with ⟨i,p,hw,hpi,hp0,rfl⟩|⟨j,n,hn,hok,rfl⟩
 ·have HV:Hid (fR c t (co0 p)):=He ⟨i,hw,by rw[hpi]⟩;have hp1:(p==0)=G_:=fJ
  clear hw hpi hp0;obtain⟨k0,k1,k2,k3,k4,k5⟩:=cs6 Bk;have ltk_1:=aa Bk.out;go_wp2_with fail;refine (aI p _).mono ?_;rintro e w2 ⟨rfl,hb⟩;clear k0 k1 k2 k3 k4 k5 ltk_1;replace Bk:=upK Bk hb;replace Br:=upK Br hb;replace HB:=upB HB hb;clear hb;obtain⟨r0,r1,r2,r3,r4,r5,r6,r7⟩:=cs8 Br;have ltr_2:=aa Br.out;obtain⟨fr0,fr1,fr2,fr3,fr4,fr5,fr6,fr7⟩:=cq;have hrl:w.heap.size+1<w2.heap.size:=aa Br.out;go_wp2;exact bodyPost_ret (v:=Hc #[J U 0 0,J U 0 0,J U 0 0,J U 0 0,J U 0 0,GZ G6 0,I ⟨#[]⟩,GZ G6 p]) uk rfl ⟨ad0,co0 p,rfl,HV.out,(rl0 _ _),sb1 (sb1 (sb1 (sb1 (sb1 (sb1 (sb1 (sb1 (HB.out))))))))⟩
 have HNJ:=ae hn;have HOK:=ae hok;clear hn hok;obtain⟨HT,hj1,hj2,hj0⟩:=uA;obtain⟨b,o,y,rfl,hbl,hy,hat⟩:=bO (HR.n.below HB.out) hj1;rw[HNJ.out] at hy;obtain rfl:=Fp hy;obtain⟨ua,ul,uc,-,-,-,-,-,-,-,-,hd5,-⟩:=aU hat;clear hat hy;cases hd:n.d
 ·have HV:Hid (fR c t (co0 10)):=Hd ⟨n,HOK.out,He ⟨hd,rfl⟩⟩;rw[hd] at hd5;clear hd;obtain⟨k0,k1,k2,k3,k4,k5⟩:=cs6 Bk;have ltk_1:=aa Bk.out;go_wp2_with fail;refine (aI 10 _).mono ?_;rintro e w2 ⟨rfl,hb⟩;clear k0 k1 k2 k3 k4 k5 ltk_1;replace Bk:=upK Bk hb;replace Br:=upK Br hb;replace HB:=upB HB hb;clear hb;obtain⟨r0,r1,r2,r3,r4,r5,r6,r7⟩:=cs8 Br;have ltr_2:=aa Br.out;obtain⟨fr0,fr1,fr2,fr3,fr4,fr5,fr6,fr7⟩:=cq;have hrl:w.heap.size+1<w2.heap.size:=aa Br.out;go_wp2;exact bodyPost_ret (v:=Hc #[J U 0 0,J U 0 0,J U 0 0,J U 0 0,J U 0 0,GZ G6 0,I ⟨#[]⟩,GZ G6 10]) uk rfl ⟨ad0,co0 10,rfl,HV.out,(rl0 _ _),sb1 (sb1 (sb1 (sb1 (sb1 (sb1 (sb1 (sb1 (HB.out))))))))⟩
 have HV:Hid (fR c t ⟨mQ c t n,⟨#[]⟩,0⟩):=Hd ⟨n,HOK.out,Hd ⟨hd,rfl⟩⟩;rw[hd] at hd5;clear hd;have HQ1:Hid (w.heap.size+1<w1.heap.size):=aa Br.out;obtain⟨k0,k1,k2,k3,k4,k5⟩:=cs6 Bk;have ltk_1:=aa Bk.out;go_wp2_with fail;have HLO:=ae HB.size;refine (bu ⟨(F_ ⟨b,o,U⟩),l1,y1,a2,l2,y2,a3,l3,y3,a4,l4,y4,a5,l5,y5⟩ c _ (HR.below HB.out) HT.sm).mono ?_;rintro e w3 ⟨d',rfl,ho,hb⟩;clear hd5 hbl;have HQ2:=ae hb.size;clear k0 k1 k2 k3 k4 k5 ltk_1;replace Bk:=upK Bk hb;replace Br:=upK Br hb;replace HB:=upB HB hb;clear hb;obtain⟨x1,m1,n1,x2,m2,n2,x3,m3,n3,x4,m4,n4,x5,m5,n5⟩:=d';have hm1:m1=l1:=by have h6:(c.ns.map ndF).length=m1:=ho.n.1;rw[FB] at h6;omega
 subst hm1;obtain⟨g,hga,hS⟩:=(ho.n.bI (S':=λk=>w1.heap.size<=k/\k<w3.heap.size) (λk hk s=>⟨s,hk⟩)).st (aL.refl _ w3) (i:=j) (r:=ndF n) (show (c.ns.map ndF)[j]?=F_ (ndF n) by rw[FG,HNJ.out];rfl);have hga':x1=F_ ⟨g,0,U⟩:=hga;subst hga';obtain⟨hq1,hq2,hgS⟩:=Be;obtain⟨⟨hg1,hg2⟩,-⟩:=hgS;obtain⟨v5,hv5⟩:=hS.cell (i:=5) rfl;obtain⟨v6,hv6⟩:=hS.cell (i:=6) rfl;obtain⟨v4,hv4⟩:=hS.cell (i:=4) rfl;have hf5:=hS.kM (j*7+5);have hf6:=hS.kM (j*7+6);have hf4:=hS.kM (j*7+4);have HST:=ae hS;have HO:=ae ho;have hne:¬g=w3.heap.size:=af
 have hne2:¬w3.heap.size=g:=af
 have hne3:¬g=w.heap.size+1:=af
 have hne4:¬w.heap.size+1=g:=af
 obtain⟨hne5,hne6⟩:=jw;clear hS ho hga;obtain⟨k0,k1,k2,k3,k4,k5⟩:=cs6 Bk;have ltk_2:=aa Bk.out;obtain⟨r0,r1,r2,r3,r4,r5,r6,r7⟩:=cs8 Br;have ltr_2:=aa Br.out;obtain⟨fr0,fr1,fr2,fr3,fr4,fr5,fr6,fr7⟩:=cq;go_wp2;have hlo:=HLO.out;refine bodyPost_ret (v:=Hc #[J (F_ ⟨g,0,U⟩) m1 n1,J x2 m2 n2,J x3 m3 n3,J x4 m4 n4,J x5 m5 n5,GZ G6 c.now,I ⟨#[]⟩,GZ G6 0]) uk rfl ⟨⟨F_ ⟨g,0,U⟩,m1,n1,x2,m2,n2,x3,m3,n3,x4,m4,n4,x5,m5,n5⟩,⟨mQ c t n,⟨#[]⟩,0⟩,rfl,HV.out,?_,GF (sb1 (sb1 (sb1 (sb1 (sb1 (sb1 (sb1 (sb1 (ak (show w.heap.size<=g by omega) (ak (show w.heap.size<=g by omega) (ak (show w.heap.size<=g by omega) (HB.out)))))))))))) jm _⟩;have hk2:∀k,w1.heap.size<=k->k<w3.heap.size->((((((((((((w3.setCell ⟨g,j*7+5,U⟩ (G8 G_)).setCell ⟨g,j*7+6,U⟩ (J U 0 0)).setCell ⟨g,j*7+4,U⟩ (GZ G6 0)).setCell ⟨w.heap.size+1,0,U⟩ (J (F_ ⟨g,0,U⟩) m1 n1)).setCell ⟨w.heap.size+1,1,U⟩ (J x2 m2 n2)).setCell ⟨w.heap.size+1,2,U⟩ (J x3 m3 n3)).setCell ⟨w.heap.size+1,3,U⟩ (J x4 m4 n4)).setCell ⟨w.heap.size+1,4,U⟩ (J x5 m5 n5)).setCell ⟨w.heap.size+1,5,U⟩ (GZ G6 c.now)).setCell ⟨w.heap.size+1,6,U⟩ (I ⟨#[]⟩)).setCell ⟨w.heap.size+1,7,U⟩ (GZ G6 0)).alloc (G7 (clo6 (F_ ⟨g,0,U⟩) m1 n1 x2 m2 n2 x3 m3 n3 x4 m4 n4 x5 m5 n5 c.now) 29)).heap[k]?=(((w3.setCell ⟨g,j*7+5,U⟩ (G8 G_)).setCell ⟨g,j*7+6,U⟩ (J U 0 0)).setCell ⟨g,j*7+4,U⟩ (GZ G6 0)).heap[k]?:=λk h1 h2=>by
  refine (Fy _ _ _ (by simpa[Gb] using h2)).trans ?_;exact rZ
 have hk3:∀k,w1.heap.size<=k->¬k=g->k<w3.heap.size->((((((((((((w3.setCell ⟨g,j*7+5,U⟩ (G8 G_)).setCell ⟨g,j*7+6,U⟩ (J U 0 0)).setCell ⟨g,j*7+4,U⟩ (GZ G6 0)).setCell ⟨w.heap.size+1,0,U⟩ (J (F_ ⟨g,0,U⟩) m1 n1)).setCell ⟨w.heap.size+1,1,U⟩ (J x2 m2 n2)).setCell ⟨w.heap.size+1,2,U⟩ (J x3 m3 n3)).setCell ⟨w.heap.size+1,3,U⟩ (J x4 m4 n4)).setCell ⟨w.heap.size+1,4,U⟩ (J x5 m5 n5)).setCell ⟨w.heap.size+1,5,U⟩ (GZ G6 c.now)).setCell ⟨w.heap.size+1,6,U⟩ (I ⟨#[]⟩)).setCell ⟨w.heap.size+1,7,U⟩ (GZ G6 0)).alloc (G7 (clo6 (F_ ⟨g,0,U⟩) m1 n1 x2 m2 n2 x3 m3 n3 x4 m4 n4 x5 m5 n5 c.now) 29)).heap[k]?=w3.heap[k]?:=λk h1 h3 h2=>by
  rw[hk2 k h1 h2,Fl _ _ _ _ h3,Fl _ _ _ _ h3,Fl _ _ _ _ h3]
 obtain⟨⟨cur,H,hbk,_⟩,_⟩:=HST.out;have h2:=((HST.C8 (i:=5) rfl G_).C6 (i:=6) rfl).sQ (i:=4) rfl 0;obtain⟨⟨cur2,H2,h3,_⟩,_,_⟩:=h2;have hns:(mQ c t n).raw.n=(c.ns.map ndF).set j (ndF (zC n)):=by
  show (c.ns.set (pl Nd.n c.ns t) (zC n)).map ndF=_;rw[(bl HT.2.1.1.2.2 HNJ.out HOK.2.2.2).1,List.map_set]
 have far:∀{a l cp m T rs},aA w3 a l cp m T rs (λk=>w1.heap.size<=k)->¬38=T->aA ((((((((((((w3.setCell ⟨g,j*7+5,U⟩ (G8 G_)).setCell ⟨g,j*7+6,U⟩ (J U 0 0)).setCell ⟨g,j*7+4,U⟩ (GZ G6 0)).setCell ⟨w.heap.size+1,0,U⟩ (J (F_ ⟨g,0,U⟩) m1 n1)).setCell ⟨w.heap.size+1,1,U⟩ (J x2 m2 n2)).setCell ⟨w.heap.size+1,2,U⟩ (J x3 m3 n3)).setCell ⟨w.heap.size+1,3,U⟩ (J x4 m4 n4)).setCell ⟨w.heap.size+1,4,U⟩ (J x5 m5 n5)).setCell ⟨w.heap.size+1,5,U⟩ (GZ G6 c.now)).setCell ⟨w.heap.size+1,6,U⟩ (I ⟨#[]⟩)).setCell ⟨w.heap.size+1,7,U⟩ (GZ G6 0)).alloc (G7 (clo6 (F_ ⟨g,0,U⟩) m1 n1 x2 m2 n2 x3 m3 n3 x4 m4 n4 x5 m5 n5 c.now) 29)) a l cp m T rs (λk=>w1.heap.size<=k):=λh hT=>(h.dv hbk.blk hT ah).aB (λk hk s=>hk3 k s.1 s.2 hk) (λk hk s=>s.1);have hR:aA (((w3.setCell ⟨g,j*7+5,U⟩ (G8 G_)).setCell ⟨g,j*7+6,U⟩ (J U 0 0)).setCell ⟨g,j*7+4,U⟩ (GZ G6 0)) (F_ ⟨g,0,U⟩) m1 n1 7 38 (mQ c t n).raw.n (λk=>w1.heap.size<=k/\k<w3.heap.size):=by
  exact v_
 exact⟨(hR.aB (w':=((((((((((((w3.setCell ⟨g,j*7+5,U⟩ (G8 G_)).setCell ⟨g,j*7+6,U⟩ (J U 0 0)).setCell ⟨g,j*7+4,U⟩ (GZ G6 0)).setCell ⟨w.heap.size+1,0,U⟩ (J (F_ ⟨g,0,U⟩) m1 n1)).setCell ⟨w.heap.size+1,1,U⟩ (J x2 m2 n2)).setCell ⟨w.heap.size+1,2,U⟩ (J x3 m3 n3)).setCell ⟨w.heap.size+1,3,U⟩ (J x4 m4 n4)).setCell ⟨w.heap.size+1,4,U⟩ (J x5 m5 n5)).setCell ⟨w.heap.size+1,5,U⟩ (GZ G6 c.now)).setCell ⟨w.heap.size+1,6,U⟩ (I ⟨#[]⟩)).setCell ⟨w.heap.size+1,7,U⟩ (GZ G6 0)).alloc (G7 (clo6 (F_ ⟨g,0,U⟩) m1 n1 x2 m2 n2 x3 m3 n3 x4 m4 n4 x5 m5 n5 c.now) 29))) (λk hk s=>hk2 k s.1 s.2) (λ_ _ s=>s)).rl (λk s=>loq),(far HO.k ah).rl (λk s=>loq),(far HO.v ah).rl (λk s=>loq),(far HO.x ah).rl (λk s=>loq),(far HO.p ah).rl (λk s=>loq)⟩
def later(c:Cl) (n:Int):Cl:=⟨c.ns,c.ks,c.vs,c.xs,c.ps,c.now+n⟩
def eE(c:Cl) (n:Int) (o:Co):Prop:=(¬ay c/\o=co0 1)\/(ay c/\¬(Inn n 0 1000/\c.now+n<=1000000)/\o=co0 8)\/(ay c/\(Inn n 0 1000/\c.now+n<=1000000)/\o=⟨later c n,⟨#[]⟩,0⟩)
theorem mV(d:Ad) (c:Cl) (n:Int) (w:World) (hr:aE w d c.raw):
  Calls Tryz.prog 13 #[Hc #[J d.a1 d.l1 d.c1,J d.a2 d.l2 d.c2,J d.a3 d.l3 d.c3,J d.a4 d.l4 d.c4,J d.a5 d.l5 d.c5,GZ G6 c.now],GZ G6 n] w (fS (eE c n) w):=by
 obtain⟨HR,HB⟩:=jr;clear hr;go_enter Tryz.func13,Tryz.ntmps13;go_wp2_with fail;refine (cv d c _ (HR.below (HB.trans ((aM _ _ _).mono HB.size)))).mono ?_;rintro e w1 ⟨r,rfl,hi,hb⟩;obtain⟨HA0,HA1,hbx⟩:=bU hb;obtain⟨Bk,Br⟩:=dB;replace HB:=upB HB hbx;clear hb hbx HA0 HA1;have HI:=ae hi;clear hi;cases r
 ·have HV:Hid (eE c n (co0 1)):=He ⟨λh=>(by have:=HI.2 h;cases this),rfl⟩;obtain⟨k0,k1,k2,k3,k4,k5⟩:=cs6 Bk;have ltk_1:=aa Bk.out;go_wp2_with fail;refine (aI 1 _).mono ?_;rintro e w2 ⟨rfl,hb⟩;clear k0 k1 k2 k3 k4 k5 ltk_1;replace Bk:=upK Bk hb;replace Br:=upK Br hb;replace HB:=upB HB hb;clear hb;obtain⟨r0,r1,r2,r3,r4,r5,r6,r7⟩:=cs8 Br;have ltr_2:=aa Br.out;obtain⟨fr0,fr1,fr2,fr3,fr4,fr5,fr6,fr7⟩:=cq;have hrl:w.heap.size+1<w2.heap.size:=aa Br.out;go_wp2;exact bodyPost_ret (v:=Hc #[J U 0 0,J U 0 0,J U 0 0,J U 0 0,J U 0 0,GZ G6 0,I ⟨#[]⟩,GZ G6 1]) uo rfl ⟨ad0,co0 1,rfl,HV.out,(rl0 _ _),sb1 (sb1 (sb1 (sb1 (sb1 (sb1 (sb1 (sb1 (HB.out))))))))⟩
 have HT:=ae (HI.1 bT);clear HI;have hnow:=HT.1;obtain⟨hn0,hn1⟩:=hnow;obtain⟨k0,k1,k2,k3,k4,k5⟩:=cs6 Bk;have ltk_1:=aa Bk.out;go_wp2_with fail;refine (jM n 0 1000 _).mono ?_;rintro e w2 ⟨r,rfl,hr,rfl⟩;cases r
 ·have hin:¬Inn n 0 1000:=λh=>(by have:=hr.2 h;cases this);clear hr;clear k0 k1 k2 k3 k4 k5 ltk_1;have HV:Hid (eE c n (co0 8)):=Hd (He ⟨HT.out,λh=>hin h.1,rfl⟩);exact CF
 have hin:Inn n 0 1000:=hr.1 bT;clear hr;obtain⟨hi0,hi1⟩:=hin;by_cases hlate:1000000<c.now+n
 ·clear k0 k1 k2 k3 k4 k5 ltk_1;have HV:Hid (eE c n (co0 8)):=Hd (He ⟨HT.out,λh=>(by have:=h.2;omega),rfl⟩);exact CF
 clear k0 k1 k2 k3 k4 k5 ltk_1;have HV:Hid (eE c n ⟨later c n,⟨#[]⟩,0⟩):=Hd (Hd ⟨HT.out,⟨⟨hi0,hi1⟩,by omega⟩,rfl⟩);have HS:=ae HT.sm;have HQ1:Hid (w.heap.size+1<w1.heap.size):=aa Br.out;obtain⟨k0,k1,k2,k3,k4,k5⟩:=cs6 Bk;have ltk_1:=aa Bk.out;go_wp2_with fail;have HLO:=ae HB.size;refine (bu d c _ (HR.below HB.out) HS.out).mono ?_;rintro e w3 ⟨d',rfl,ho,hb⟩;have HQ2:=ae hb.size;clear k0 k1 k2 k3 k4 k5 ltk_1;replace Bk:=upK Bk hb;replace Br:=upK Br hb;replace HB:=upB HB hb;clear hb;have HO:=ae ho;have hq1:w.heap.size+1<w1.heap.size:=HQ1.out;have hq2:w1.heap.size<=w3.heap.size:=HQ2.out;clear ho;obtain⟨k0,k1,k2,k3,k4,k5⟩:=cs6 Bk;have ltk_2:=aa Bk.out;obtain⟨r0,r1,r2,r3,r4,r5,r6,r7⟩:=cs8 Br;have ltr_2:=aa Br.out;obtain⟨fr0,fr1,fr2,fr3,fr4,fr5,fr6,fr7⟩:=cq;obtain⟨hne,hne2⟩:=rN;go_wp2;have hlo:=HLO.out;refine bodyPost_ret (v:=Hc #[J d'.a1 d'.l1 d'.c1,J d'.a2 d'.l2 d'.c2,J d'.a3 d'.l3 d'.c3,J d'.a4 d'.l4 d'.c4,J d'.a5 d'.l5 d'.c5,GZ G6 (c.now+n),I ⟨#[]⟩,GZ G6 0]) uo rfl ⟨d',⟨later c n,⟨#[]⟩,0⟩,rfl,HV.out,?_,GF (sb1 (sb1 (sb1 (sb1 (sb1 (sb1 (sb1 (sb1 (HB.out))))))))) bD _⟩;have hkeep:∀k,w1.heap.size<=k->k<w3.heap.size->(((((((((w3.setCell ⟨w.heap.size+1,0,U⟩ (J d'.a1 d'.l1 d'.c1)).setCell ⟨w.heap.size+1,1,U⟩ (J d'.a2 d'.l2 d'.c2)).setCell ⟨w.heap.size+1,2,U⟩ (J d'.a3 d'.l3 d'.c3)).setCell ⟨w.heap.size+1,3,U⟩ (J d'.a4 d'.l4 d'.c4)).setCell ⟨w.heap.size+1,4,U⟩ (J d'.a5 d'.l5 d'.c5)).setCell ⟨w.heap.size+1,5,U⟩ (GZ G6 (c.now+n))).setCell ⟨w.heap.size+1,6,U⟩ (I ⟨#[]⟩)).setCell ⟨w.heap.size+1,7,U⟩ (GZ G6 0)).alloc (G7 (clv d' (c.now+n)) 29)).heap[k]?=w3.heap[k]?:=λk h1 h2=>by refine (Fy _ _ _ (by simpa using h2)).trans ?_;rw[Fl _ _ _ _ (show k≠w.heap.size+1 by omega),Fl _ _ _ _ (show k≠w.heap.size+1 by omega),Fl _ _ _ _ (show k≠w.heap.size+1 by omega),Fl _ _ _ _ (show k≠w.heap.size+1 by omega),Fl _ _ _ _ (show k≠w.heap.size+1 by omega),Fl _ _ _ _ (show k≠w.heap.size+1 by omega),Fl _ _ _ _ (show k≠w.heap.size+1 by omega),Fl _ _ _ _ (show k≠w.heap.size+1 by omega)]
 refine⟨?_,?_,?_,?_,?_⟩
 ·exact (HO.n.aB (w':=(((((((((w3.setCell ⟨w.heap.size+1,0,U⟩ (J d'.a1 d'.l1 d'.c1)).setCell ⟨w.heap.size+1,1,U⟩ (J d'.a2 d'.l2 d'.c2)).setCell ⟨w.heap.size+1,2,U⟩ (J d'.a3 d'.l3 d'.c3)).setCell ⟨w.heap.size+1,3,U⟩ (J d'.a4 d'.l4 d'.c4)).setCell ⟨w.heap.size+1,4,U⟩ (J d'.a5 d'.l5 d'.c5)).setCell ⟨w.heap.size+1,5,U⟩ (GZ G6 (c.now+n))).setCell ⟨w.heap.size+1,6,U⟩ (I ⟨#[]⟩)).setCell ⟨w.heap.size+1,7,U⟩ (GZ G6 0)).alloc (G7 (clv d' (c.now+n)) 29))) (λk hk s=>hkeep k s hk) (λ_ _ s=>s)).rl (λk s=>loq)
 ·exact (HO.k.aB (w':=(((((((((w3.setCell ⟨w.heap.size+1,0,U⟩ (J d'.a1 d'.l1 d'.c1)).setCell ⟨w.heap.size+1,1,U⟩ (J d'.a2 d'.l2 d'.c2)).setCell ⟨w.heap.size+1,2,U⟩ (J d'.a3 d'.l3 d'.c3)).setCell ⟨w.heap.size+1,3,U⟩ (J d'.a4 d'.l4 d'.c4)).setCell ⟨w.heap.size+1,4,U⟩ (J d'.a5 d'.l5 d'.c5)).setCell ⟨w.heap.size+1,5,U⟩ (GZ G6 (c.now+n))).setCell ⟨w.heap.size+1,6,U⟩ (I ⟨#[]⟩)).setCell ⟨w.heap.size+1,7,U⟩ (GZ G6 0)).alloc (G7 (clv d' (c.now+n)) 29))) (λk hk s=>hkeep k s hk) (λ_ _ s=>s)).rl (λk s=>loq)
 ·exact (HO.v.aB (w':=(((((((((w3.setCell ⟨w.heap.size+1,0,U⟩ (J d'.a1 d'.l1 d'.c1)).setCell ⟨w.heap.size+1,1,U⟩ (J d'.a2 d'.l2 d'.c2)).setCell ⟨w.heap.size+1,2,U⟩ (J d'.a3 d'.l3 d'.c3)).setCell ⟨w.heap.size+1,3,U⟩ (J d'.a4 d'.l4 d'.c4)).setCell ⟨w.heap.size+1,4,U⟩ (J d'.a5 d'.l5 d'.c5)).setCell ⟨w.heap.size+1,5,U⟩ (GZ G6 (c.now+n))).setCell ⟨w.heap.size+1,6,U⟩ (I ⟨#[]⟩)).setCell ⟨w.heap.size+1,7,U⟩ (GZ G6 0)).alloc (G7 (clv d' (c.now+n)) 29))) (λk hk s=>hkeep k s hk) (λ_ _ s=>s)).rl (λk s=>loq)
 ·exact (HO.x.aB (w':=(((((((((w3.setCell ⟨w.heap.size+1,0,U⟩ (J d'.a1 d'.l1 d'.c1)).setCell ⟨w.heap.size+1,1,U⟩ (J d'.a2 d'.l2 d'.c2)).setCell ⟨w.heap.size+1,2,U⟩ (J d'.a3 d'.l3 d'.c3)).setCell ⟨w.heap.size+1,3,U⟩ (J d'.a4 d'.l4 d'.c4)).setCell ⟨w.heap.size+1,4,U⟩ (J d'.a5 d'.l5 d'.c5)).setCell ⟨w.heap.size+1,5,U⟩ (GZ G6 (c.now+n))).setCell ⟨w.heap.size+1,6,U⟩ (I ⟨#[]⟩)).setCell ⟨w.heap.size+1,7,U⟩ (GZ G6 0)).alloc (G7 (clv d' (c.now+n)) 29))) (λk hk s=>hkeep k s hk) (λ_ _ s=>s)).rl (λk s=>loq)
 ·exact (HO.p.aB (w':=(((((((((w3.setCell ⟨w.heap.size+1,0,U⟩ (J d'.a1 d'.l1 d'.c1)).setCell ⟨w.heap.size+1,1,U⟩ (J d'.a2 d'.l2 d'.c2)).setCell ⟨w.heap.size+1,2,U⟩ (J d'.a3 d'.l3 d'.c3)).setCell ⟨w.heap.size+1,3,U⟩ (J d'.a4 d'.l4 d'.c4)).setCell ⟨w.heap.size+1,4,U⟩ (J d'.a5 d'.l5 d'.c5)).setCell ⟨w.heap.size+1,5,U⟩ (GZ G6 (c.now+n))).setCell ⟨w.heap.size+1,6,U⟩ (I ⟨#[]⟩)).setCell ⟨w.heap.size+1,7,U⟩ (GZ G6 0)).alloc (G7 (clv d' (c.now+n)) 29))) (λk hk s=>hkeep k s hk) (λ_ _ s=>s)).rl (λk s=>loq)
def Gd(c c':Cl):Prop:=c'.ns.length=c.ns.length/\c'.ks.length=c.ks.length
theorem gP {Why:Nat->Prop} (h9:∀i,9<i->¬Why i) {c:Cl} {o:Co} (h:∃i,Why i/\o=co0 (bF i)) (h0:o.p=0):Gd c o.c:=by
 exact yA
theorem bm.gd {x:Vd} (h:bm c x o) (h0:o.p=0):Gd c o.c:=by
 exact uV
theorem bR.gd {x:Xd} (h:bR c x o) (h0:o.p=0):Gd c o.c:=by
 exact uV
theorem ch.gd(h:ch c x o) (h0:o.p=0):Gd c o.c:=by
 exact uV
theorem jl.gd {r:Cl} {St:Nat->Prop} {ok:Prop} (h9:∀i,9<i->¬St i) (hr:Gd c r) (h:jl c t St ok r o) (h0:o.p=0):Gd c o.c:=by
 rcases h with h|⟨_,_,_,rfl⟩
 ·refine gP (λi hi a=>?_) h h0;rcases i with _|_|i
  ·omega
  ·omega
  ·exact h9 _ hi a.2.2
 ·exact hr
theorem fA.gd(h:fA c t o) (h0:o.p=0):Gd c o.c:=by
 rcases h with h|⟨_,hT,x,b,n,c',h3,_,_,h4,h5,rfl⟩
 ·exact xS
 ·have hn:=(hT.2.1.1.2.1 _ _ h4.1).2.1;rcases h5 with ⟨_,e⟩|⟨_,⟨_,e⟩|⟨_,⟨_,e⟩|⟨_,c1,e1,hA,⟨h1,e⟩|⟨rfl,⟨_,e⟩|⟨_,_,rfl⟩⟩⟩⟩⟩
  ·exact absurd e ah
  ·exact absurd e ah
  ·exact absurd e ah
  ·exact absurd e.symm h1
  ·exact absurd e ah
  rcases hA with ⟨hR,_⟩|⟨_,_,_,_,_,_,hne⟩
  ·obtain⟨_,q2,q3,_,_⟩:=dG.right hT hn _ c1 hR;exact⟨by show c1.ns.length=_;rw[q2],by show c1.ks.length=_;rw[q3]⟩
  ·exact absurd rfl hne
theorem dH.gd(h:dH c t o) (h0:o.p=0):Gd c o.c:=by
 rcases h with ⟨n,_,a,rfl⟩|⟨_,hT,i,x,j,k,hx,_,_,_,⟨_,rfl⟩|⟨_,⟨_,rfl⟩|⟨_,h⟩⟩⟩
 ·exact gP (Why:=AskWhy c t) (λi hi a=>by rcases i with _|_|_|i <;> first|omega|exact a.elim) ⟨n,a,rfl⟩ h0
 ·cases h0
 ·cases h0
 ·have q:=h.keeps hT hx h0;exact⟨by rw[q.1],by rw[q.2.1]⟩
theorem bC.gd(h:bC c t o) (h0:o.p=0):Gd c o.c:=by
 rcases h with h|⟨_,_,x,_,_,_,_,rfl⟩
 ·exact xS
 ·exact⟨rfl,rfl⟩
theorem iJ.gd(h:iJ c o) (h0:o.p=0):Gd c o.c:=by
 rcases h with ⟨_,rfl⟩|⟨_,_,_,_,_,_,_,_,_,rfl⟩|⟨_,_,_,_,⟨_,_,_,_,_,_,_,_,rfl⟩|⟨_,rfl⟩⟩
 ·cases h0
 ·exact⟨rfl,rfl⟩
 ·exact⟨rfl,rfl⟩
 ·cases h0
theorem mw(i:Nat) (hi:9<i):¬gn c t i:=by
 intro a;rcases i with _|_|_|i
 ·omega
 ·omega
 ·omega
 ·exact a
theorem oC.gd(h:oC c t o) (h0:o.p=0):Gd c o.c:=by
 rcases h with h|⟨n,_,⟨_,rfl⟩|⟨_,f,_,rfl⟩⟩
 ·exact gP mw h h0
 ·cases h0
 ·exact⟨by show (c.ns.set _ _).length=_;rw[List.length_set],rfl⟩
theorem eQ.gd(h:eQ c t o) (h0:o.p=0):Gd c o.c:=by
 exact yh
theorem fR.gd(h:fR c t o) (h0:o.p=0):Gd c o.c:=by
 exact yh
theorem eE.gd {n:Int} (h:eE c n o) (h0:o.p=0):Gd c o.c:=by
 rcases h with ⟨_,rfl⟩|⟨_,_,rfl⟩|⟨_,_,rfl⟩
 ·cases h0
 ·cases h0
 ·exact⟨rfl,rfl⟩
theorem iJ.nm(h:iJ c o):o.n.size<=9223372036854775807:=by
 rcases h with ⟨_,rfl⟩|⟨hT,_,_,i,v,_,_,hv,_,rfl⟩|⟨hT,_,_,_,⟨_,i,v,_,_,hv,_,_,rfl⟩|⟨_,rfl⟩⟩
 ·exact FY _
 ·have h:=(hT.2.1.2.2.1.2.1 i v hv).1.2.1;show (sF++v.n).size<=_;rw[ByteArray.size_append];have:sF.size=4:=rfl;omega
 ·have h:=(hT.2.1.2.2.1.2.1 i v hv).1.2.1;show (wOn++v.n).size<=_;rw[ByteArray.size_append];have:wOn.size=3:=rfl;omega
 ·exact FY _
theorem fA.nm(h:fA c t o):o.n.size<=9223372036854775807:=by
 rcases h with ⟨i,_,rfl⟩|⟨_,hT,x,b,n,c',h3,_,_,h4,h5,rfl⟩
 ·exact FY _
 ·have h:=(hT.2.1.1.2.1 b n h4.1).1.2.1;show n.n.size<=_;omega
theorem dH.nm(h:dH c t o):o.n.size<=9223372036854775807:=by
 rcases h with ⟨n,_,a,rfl⟩|⟨_,hT,i,x,j,k,hx,_,_,_,⟨_,rfl⟩|⟨_,⟨_,rfl⟩|⟨_,⟨j2,u,_,hu,rfl⟩|⟨_,⟨_,rfl⟩|⟨_,⟨_,rfl⟩|⟨_,⟨_,rfl⟩|⟨_,rfl⟩⟩⟩⟩⟩⟩⟩
 ·exact FY _
 ·exact FY _
 ·exact FY _
 ·have h:=(hT.2.1.2.2.1.2.1 j2 u hu).1.2.1;show u.n.size<=_;omega
 ·exact FY _
 ·exact FY _
 ·exact FY _
 ·have h:=(hT.2.1.2.2.2.1.2.1 i x hx).1.2.1;show (aS++x.n).size<=_;rw[ByteArray.size_append];have:aS.size=2:=rfl;omega
theorem dj.gd(h:dj c t o) (h0:o.p=0):Gd c o.c:=jl.gd (r:=sj c t) (λi hi h=>by have:=h.1;omega) ⟨rfl,rfl⟩ h h0
theorem cF.gd(h:cF c t o) (h0:o.p=0):Gd c o.c:=jl.gd (r:=si c t) (λi hi h=>by rcases h with ⟨rfl,_⟩|⟨rfl,_⟩ <;> omega) ⟨rfl,rfl⟩ h h0
theorem cG.gd(h:cG c t o) (h0:o.p=0):Gd c o.c:=by
 rcases h with h|⟨_,_,_,vs,_,rfl⟩
 ·refine gP (λi hi a=>?_) h h0;rcases i with _|_|i
  ·omega
  ·omega
  ·rcases a.2.2 with ⟨e,_⟩|⟨e,_⟩ <;> omega
 ·exact⟨rfl,rfl⟩
theorem bm.nm {x:Vd} (h:bm c x o):o.n.size<=9223372036854775807:=by rcases h with ⟨_,_,rfl⟩|⟨_,_,_,_,rfl⟩ <;> exact FY _
theorem bR.nm {x:Xd} (h:bR c x o):o.n.size<=9223372036854775807:=by rcases h with ⟨_,_,rfl⟩|⟨_,_,_,_,rfl⟩ <;> exact FY _
theorem ch.nm(h:ch c x o):o.n.size<=9223372036854775807:=by rcases h with ⟨_,_,rfl⟩|⟨_,_,_,_,rfl⟩ <;> exact FY _
theorem dj.nm(h:dj c t o):o.n.size<=9223372036854775807:=by rcases h with ⟨_,_,rfl⟩|⟨_,_,_,rfl⟩ <;> exact FY _
theorem cF.nm(h:cF c t o):o.n.size<=9223372036854775807:=by rcases h with ⟨_,_,rfl⟩|⟨_,_,_,rfl⟩ <;> exact FY _
theorem cG.nm(h:cG c t o):o.n.size<=9223372036854775807:=by rcases h with ⟨_,_,rfl⟩|⟨_,_,_,_,_,rfl⟩ <;> exact FY _
theorem bC.nm(h:bC c t o):o.n.size<=9223372036854775807:=by rcases h with ⟨_,_,rfl⟩|⟨_,_,_,_,_,_,_,rfl⟩ <;> exact FY _
theorem oC.nm(h:oC c t o):o.n.size<=9223372036854775807:=by rcases h with ⟨_,_,rfl⟩|⟨_,_,⟨_,rfl⟩|⟨_,_,_,rfl⟩⟩ <;> exact FY _
theorem eQ.nm(h:eQ c t o):o.n.size<=9223372036854775807:=by rcases h with ⟨_,_,rfl⟩|⟨_,_,⟨_,rfl⟩|⟨_,rfl⟩⟩ <;> exact FY _
theorem fR.nm(h:fR c t o):o.n.size<=9223372036854775807:=by rcases h with ⟨_,_,rfl⟩|⟨_,_,⟨_,rfl⟩|⟨_,rfl⟩⟩ <;> exact FY _
theorem eE.nm {n:Int} (h:eE c n o):o.n.size<=9223372036854775807:=by rcases h with ⟨_,rfl⟩|⟨_,_,rfl⟩|⟨_,_,rfl⟩ <;> exact FY _
end Rc
theorem ee {c:Code} {a:Act} (F:World->Prop) (hF:F w) (h:∀w2,F w2->c.wp P Q a w2):c.wp P Q a w:=h w hF
theorem bB {a b c:World} {row:Option Nat} (h:a.grownBy b row) (k:b.grownBy c row):a.grownBy c row:=
 ⟨k.os.trans h.os,k.tape.trans h.tape,k.output.trans h.output,FA h.size k.size,λi hi hne=>(k.block i (Fw hi h.size) hne).trans (h.block i hi hne)⟩
theorem bL(w:World) (p i:Nat) (v:Value):w.grownBy (w.setCell ⟨p,i,U⟩ v) (F_ p):=
 ⟨rfl,rfl,rfl,by simp[Gb],λk _ hk=>Fl _ _ _ _ (λe=>hk (by simp[e]))⟩
theorem qH {a b:World} {row:Option Nat} (h:a.grownBy b row):a.grownBy b.drew row:=⟨h.os,h.tape,h.output,h.size,h.block⟩
theorem lP(x most:Int) (h1:1<most) (h2:most<=9223372036854775807):0<=wrap64 ((IntKind.u64.wrap x).tmod most)/\wrap64 ((IntKind.u64.wrap x).tmod most)<most:=by
 have e:IntKind.u64.wrap x=x % 18446744073709551616:=by simp[IntKind.wrap,IntKind.bits,IntKind.signed]
 have h0:0<=IntKind.u64.wrap x:=by rw[e];omega
 rw[Int.tmod_eq_emod_of_nonneg h0];have b0:=Int.emod_nonneg (IntKind.u64.wrap x) (show most≠0 by omega);have b1:=Int.emod_lt_of_pos (IntKind.u64.wrap x) (show 0<most by omega);generalize IntKind.u64.wrap x % most=y at*;simp only[wrap64];omega
def bG(w:World) (p:Nat) (b:Value) (k:Nat) (m sz:Int):Prop:=w.heap[p]?=F_ (G7 #[b,GZ G6 (k:Int),GZ .u64 m,GZ G6 sz] 71 (0,0))
theorem bG.cells {p:Nat} {b:Value} {m:Int} (h:bG w p b k m sz):
  w.cell? ⟨p,0,U⟩=F_ b/\w.cell? ⟨p,1,U⟩=F_ (GZ G6 (k:Int))/\w.cell? ⟨p,2,U⟩=F_ (GZ .u64 m)/\w.cell? ⟨p,3,U⟩=F_ (GZ G6 sz)/\
  w.frozen? ⟨p,0,U⟩=G_/\w.frozen? ⟨p,1,U⟩=G_/\w.frozen? ⟨p,2,U⟩=G_/\w.frozen? ⟨p,3,U⟩=G_:=by
 unfold bG at h;refine⟨?_,?_,?_,?_,?_,?_,?_,?_⟩ <;> simp[Gc,World.frozen?,h]
theorem bG.EV {p:Nat} {b:Value} {m:Int} (h:bG w p b k m sz) (k':Nat):bG (w.setCell ⟨p,1,U⟩ (GZ G6 (k':Int))) p b k' m sz:=Go.heap_setCell_same w p 1 _ _ _ h
theorem bG.DX {p:Nat} {b:Value} {m:Int} (h:bG w p b k m sz) (m':Int):bG (w.setCell ⟨p,2,U⟩ (GZ .u64 m')) p b k m' sz:=Go.heap_setCell_same w p 2 _ _ _ h
def eH(w0:World) (p:Nat) (b:Value) (k:Nat) (sz:Int) (w:World):Prop:=∃m:Int,0<=m/\m<=18446744073709551615/\bG w p b k m sz/\w0.grownBy w (F_ p)
theorem mM(a b:Int):0<=bits .xor .u64 a b/\bits .xor .u64 a b<=18446744073709551615:=by
 have e:∀n:Int,IntKind.u64.wrap n=n % 18446744073709551616:=λn=>by simp[IntKind.wrap,IntKind.bits,IntKind.signed]
 simp only[bits,e];constructor <;> omega
theorem eH.mix {p:Nat} {b:Value} (h:eH w0 p b k sz w) (x y:Int):eH w0 p b k sz (w.setCell ⟨p,2,U⟩ (GZ .u64 (bits .xor .u64 x y))).drew:=by
 obtain⟨m,_,_,h3,h4⟩:=h;exact⟨_,(mM x y).1,(mM x y).2,h3.DX _,qH (bB h4 (bL w p 2 _))⟩
theorem eH.refl {p:Nat} {b:Value} {m:Int} (h:bG w p b k m sz) (h0:0<=m) (h1:m<=18446744073709551615) (n:Nat):eH w p b k sz (w.drewN n):=
 ⟨m,h0,h1,h,⟨rfl,rfl,rfl,Fq _,λ_ _ _=>rfl⟩⟩
theorem eH.step {p:Nat} {b:Value} {m:Int} (h:bG w p b k m sz) (h0:0<=m) (h1:m<=18446744073709551615) (n k':Nat) (x:Int) (hx:x=(k':Int)):eH w p b k' sz ((w.drewN n).setCell ⟨p,1,U⟩ (GZ G6 x)):=by
 subst hx;exact⟨m,h0,h1,bG.EV (w:=w.drewN n) h k',bB (b:=w.drewN n) ⟨rfl,rfl,rfl,Fq _,λ_ _ _=>rfl⟩ (bL _ p 1 _)⟩
def qT(most:Int) (w:World) (p:Nat) (b:Value) (len:Nat) (sz:Int) (e:Ending) (w':World):Prop:=∃(r:Int) (k:Nat),e=Ha (GZ G6 r)/\0<=r/\(r<most\/r=0)/\k<=len/\eH w p b k sz w'
theorem oH(p:Nat) (a0:Option Addr) (len cap k:Nat) (most mix sz:Int) (w:World) (hm:1<most) (hm2:most<=9223372036854775807) (hb:bG w p (J a0 len cap) k mix sz) (m0:0<=mix) (m1:mix<=18446744073709551615) (hat:¬(k:Int)<(len:Int)) (hk:k<=len):
  Calls Tryz.prog 14 #[Hf (F_ ⟨p,0,U⟩),GZ G6 most] w (qT most w p (J a0 len cap) len sz):=by
 obtain⟨c0,c1,c2,c3,f0,f1,f2,f3⟩:=hb.cells;have HB:Hid (bG w p (J a0 len cap) k mix sz):=hb;clear hb;go_enter Tryz.func14,Tryz.ntmps14;go_wp2;go_quiet (fail);go_wp2;refine ee (eH w p (J a0 len cap) k sz) (eH.refl HB.out m0 m1 _) ?_;clear c0 c1 c2 c3 f0 f1 f2 f3 HB m0 m1 mix;rintro w2 hF;have HF:Hid (eH w p (J a0 len cap) k sz w2):=hF;obtain⟨m,m0,m1,hb,-⟩:=hF;obtain⟨c0,c1,c2,c3,f0,f1,f2,f3⟩:=hb.cells;clear hb;go_region;go_wp2;refine ee (eH w p (J a0 len cap) k sz) (HF.mix _ _) ?_;clear c0 c1 c2 c3 f0 f1 f2 f3 HF m0 m1;clear w2;rintro w2 hF;have HF:Hid (eH w p (J a0 len cap) k sz w2):=hF;obtain⟨m,m0,m1,hb,-⟩:=hF;obtain⟨c0,c1,c2,c3,f0,f1,f2,f3⟩:=hb.cells;clear hb;go_region;go_wp2;refine ee (eH w p (J a0 len cap) k sz) (HF.mix _ _) ?_;clear c0 c1 c2 c3 f0 f1 f2 f3 HF m0 m1;clear w2;rintro w2 hF;have HF:Hid (eH w p (J a0 len cap) k sz w2):=hF;obtain⟨m,m0,m1,hb,-⟩:=hF;obtain⟨c0,c1,c2,c3,f0,f1,f2,f3⟩:=hb.cells;clear hb;go_region;go_wp2_with fail;go_ret;exact⟨_,k,rfl,(lP _ most hm hm2).1,He (lP _ most hm hm2).2,hk,HF.mix _ _⟩
theorem tU(p b off:Nat) (len cap k:Nat) (most mix sz z:Int) (w:World) (hm:1<most) (hm2:most<=9223372036854775807) (hb:bG w p (J (F_ ⟨b,off,U⟩) len cap) k mix sz) (m0:0<=mix) (m1:mix<=18446744073709551615) (hat:(k:Int)<(len:Int)) (hl:len<=140737488355328) (hz:w.cell? ⟨b,off+k,U⟩=F_ (GZ .u8 z)) (z0:0<=z) (z1:z<=255):
  Calls Tryz.prog 14 #[Hf (F_ ⟨p,0,U⟩),GZ G6 most] w (qT most w p (J (F_ ⟨b,off,U⟩) len cap) len sz):=by
 obtain⟨c0,c1,c2,c3,f0,f1,f2,f3⟩:=hb.cells;have HB:Hid (bG w p (J (F_ ⟨b,off,U⟩) len cap) k mix sz):=hb;have hat':k<len:=af
 clear hb;go_enter Tryz.func14,Tryz.ntmps14;go_wp2;go_quiet (fail);go_wp2;go_quiet (fail);go_wp2;refine ee (eH w p (J (F_ ⟨b,off,U⟩) len cap) (k+1) sz) (eH.step HB.out m0 m1 _ (k+1) _ af) ?_;clear c0 c1 c2 c3 f0 f1 f2 f3 HB m0 m1 hz;clear mix;rintro w2 hF;have HF:Hid (eH w p (J (F_ ⟨b,off,U⟩) len cap) (k+1) sz w2):=hF;obtain⟨m,m0,m1,hb,-⟩:=hF;obtain⟨c0,c1,c2,c3,f0,f1,f2,f3⟩:=hb.cells;clear hb;go_region;go_wp2;refine ee (eH w p (J (F_ ⟨b,off,U⟩) len cap) (k+1) sz) (HF.mix _ _) ?_;clear c0 c1 c2 c3 f0 f1 f2 f3 HF m0 m1;clear w2;rintro w2 hF;have HF:Hid (eH w p (J (F_ ⟨b,off,U⟩) len cap) (k+1) sz w2):=hF;obtain⟨m,m0,m1,hb,-⟩:=hF;obtain⟨c0,c1,c2,c3,f0,f1,f2,f3⟩:=hb.cells;clear hb;go_region;go_wp2;refine ee (eH w p (J (F_ ⟨b,off,U⟩) len cap) (k+1) sz) (HF.mix _ _) ?_;clear c0 c1 c2 c3 f0 f1 f2 f3 HF m0 m1;clear w2;rintro w2 hF;have HF:Hid (eH w p (J (F_ ⟨b,off,U⟩) len cap) (k+1) sz w2):=hF;obtain⟨m,m0,m1,hb,-⟩:=hF;obtain⟨c0,c1,c2,c3,f0,f1,f2,f3⟩:=hb.cells;clear hb;go_region;go_wp2_with fail;go_ret;exact⟨_,k+1,rfl,(lP _ most hm hm2).1,He (lP _ most hm hm2).2,by omega,HF.mix _ _⟩
def fE(B:Nat) (w:World) (v:Value) (len:Nat):Prop:=len<=140737488355328/\∃a0 cap,v=J a0 len cap/\∀j,j<len->∃(b off:Nat) (z:Int),a0=F_ ⟨b,off,U⟩/\b<B/\w.cell? ⟨b,off+j,U⟩=F_ (GZ .u8 z)/\0<=z/\z<=255
theorem fE.below(h:fE B w v len) (hb:Below B w w'):fE B w' v len:=by
 obtain⟨hl,a0,cap,hv,hc⟩:=h;refine⟨hl,a0,cap,hv,λj hj=>?_⟩;obtain⟨b,off,z,h1,h2,h3,h4⟩:=hc j hj;exact⟨b,off,z,h1,h2,(hb.cell (p:=⟨b,off+j,U⟩) h2).trans h3,h4⟩
theorem ou {p:Nat} (h:w.grownBy w' (F_ p)) (hB:B<=p) (hw:B<=w.heap.size):Below B w w':=
 ⟨h.os,h.tape,h.output,h.size,λk hk=>h.block k af (λe=>by simp at e;omega)⟩
theorem mW(p:Nat) (most:Int) (w:World) (hm:most<=1):
  Calls Tryz.prog 14 #[Hf (F_ ⟨p,0,U⟩),GZ G6 most] w λe w'=>e=Ha (GZ G6 0)/\w=w':=by
 go_enter Tryz.func14,Tryz.ntmps14;go_wp2;go_ret;exact⟨rfl,rfl⟩
theorem DT(B p len k:Nat) (v:Value) (most mix sz:Int) (w:World) (hm2:most<=9223372036854775807) (hb:bG w p v k mix sz) (m0:0<=mix) (m1:mix<=18446744073709551615) (hk:k<=len) (hR:fE B w v len):
  Calls Tryz.prog 14 #[Hf (F_ ⟨p,0,U⟩),GZ G6 most] w (qT most w p v len sz):=by
 obtain⟨hl,a0,cap,rfl,hc⟩:=hR;by_cases hm:most<=1
 ·refine (mW p most w hm).mono ?_;rintro e w' ⟨rfl,rfl⟩;exact⟨0,k,rfl,Int.le_refl _,Hd rfl,hk,⟨mix,m0,m1,hb,⟨rfl,rfl,rfl,Fq _,λ_ _ _=>rfl⟩⟩⟩
 by_cases hat:k<len
 ·obtain⟨b,off,z,rfl,_,hz,z0,z1⟩:=hc k hat;exact tU p b off len cap k most mix sz z w af hm2 hb m0 m1 af hl hz z0 z1
 ·exact oH p a0 len cap k most mix sz w af hm2 hb m0 m1 af hk
def Src(B:Nat) (w0:World) (p:Nat) (v:Value) (len:Nat) (w:World):Prop:=B<=p/\B<=w0.heap.size/\Below B w0 w/\p<w.heap.size/\fE B w v len/\∃(k:Nat) (m sz:Int),k<=len/\0<=m/\m<=18446744073709551615/\0<=sz/\sz<=12/\bG w p v k m sz
def EA(B:Nat) (w0:World) (p:Nat) (v:Value) (len:Nat) (w:World) (most:Int) (e:Ending) (w':World):Prop:=∃r:Int,e=Ha (GZ G6 r)/\0<=r/\(r<most\/r=0)/\Src B w0 p v len w'/\w.grownBy w' (F_ p)
theorem Src.n {p:Nat} (h:Src B w0 p v len w) (most:Int) (hm2:most<=9223372036854775807):
  Calls Tryz.prog 14 #[Hf (F_ ⟨p,0,U⟩),GZ G6 most] w (EA B w0 p v len w most):=by
 obtain⟨hB,hB0,hbel,hp,hR,k,m,sz,hk,m0,m1,s0,s1,hb⟩:=h;refine (DT B p len k v most m sz w hm2 hb m0 m1 hk hR).mono ?_;rintro e w' ⟨r,k',rfl,r0,r1,hk',m',m0',m1',hb',hg⟩;have hbw:Below B w w':=ou hg hB (FA hB0 hbel.size);exact⟨r,rfl,r0,r1,⟨hB,hB0,hbel.trans hbw,Fw hp hg.size,hR.below hbw,k',m',sz,hk',m0',m1',s0,s1,hb'⟩,hg⟩
def Laid(w:World) (v:Value) (len:Nat) (e:Ending) (w':World):Prop:=∃p,e=Ha (Hf (F_ ⟨p,0,U⟩))/\Src w.heap.size w p v len w'
theorem bG.C9 {p:Nat} {b:Value} {m:Int} (h:bG w p b k m sz) (s:Int):bG (w.setCell ⟨p,3,U⟩ (GZ G6 s)) p b k m s:=Go.heap_setCell_same w p 3 _ _ _ h
theorem bG.lt {p:Nat} {b:Value} {m:Int} (h:bG w p b k m sz):p<w.heap.size:=by
 unfold bG at h;rcases Nat.lt_or_ge p w.heap.size with h1|h1
 ·exact h1
 ·simp[Array.getElem?_eq_none h1] at h
theorem rf {m:Int} (h:bG wr w.heap.size v 0 m sz) (hb:Below w.heap.size w wr) (hR:fE w.heap.size w v len) (m0:0<=m) (m1:m<=18446744073709551615) (s0:0<=sz) (s1:sz<=12):Src w.heap.size w w.heap.size v len wr:=
 ⟨Fq _,Fq _,hb,h.lt,hR.below hb,0,m,sz,FY _,m0,m1,s0,s1,h⟩
theorem jS(x:Int):0<=IntKind.u64.wrap x/\IntKind.u64.wrap x<=18446744073709551615:=by
 have e:IntKind.u64.wrap x=x % 18446744073709551616:=by simp[IntKind.wrap,IntKind.bits,IntKind.signed]
 rw[e];omega
theorem oJ(v:Value) (len:Nat) (w:World) (hR:fE w.heap.size w v len):
  Calls Tryz.prog 9 #[v] w (Laid w v len):=by
 have HR:Hid (fE w.heap.size w v len):=hR;obtain⟨hl,a0,cap,rfl,hc⟩:=hR;go_enter Tryz.func9,Tryz.ntmps9;go_wp2;go_loopw [4] (λvi wr=> ∃(i:Nat) (m:Int),i<=len/\vi=GZ G6 (i:Int)/\0<=m/\m<=18446744073709551615/\bG wr w.heap.size (J a0 len cap) 0 m 0/\Below w.heap.size w wr) (λvi _=>len - (intOf vi).toNat);case atStart=>exact⟨0,88172645463325252,by omega,rfl,by decide,by decide,by unfold bG;show (w.heap.push _)[w.heap.size]?=_;simp,(Ft _ _).alloc (Fq _) _⟩
 case round=>
  obtain⟨i,m,hi,rfl,m0,m1,hb,hnx⟩:=hrel;obtain⟨c0,c1,c2,c3,f0,f1,f2,f3⟩:=hb.cells;have HB:Hid (bG wr w.heap.size (J a0 len cap) 0 m 0):=hb;have HX:Hid (Below w.heap.size w wr):=hnx;clear hb hnx;by_cases hlt:i<len
  ·by_cases h64:i<64
   ·obtain⟨b,off,z,rfl,hbB,hz,z0,z1⟩:=hc i hlt;have hz':wr.cell? ⟨b,off+i,U⟩=F_ (GZ .u8 z):=(HX.cell (p:=⟨b,off+i,U⟩) hbB).trans hz;have HZ:Hid (∀j,j<len->∃(b' off':Nat) (z:Int),F_ (⟨b,off,U⟩:Addr)=F_ ⟨b',off',U⟩/\b'<w.heap.size/\w.cell? ⟨b',off'+j,U⟩=F_ (GZ .u8 z)/\0<=z/\z<=255):=hc;clear hc hz;go_wp2;go_region;go_wp2;go_roundw;case rel=>exact⟨i+1,_,by omega,by go_num,(jS _).1,(jS _).2,HB.DX _,(HX.setCell (Fq _) _).drew⟩
    case measure=>simp[intOf];omega
   ·exact B4
  ·exact B4
def kF(B:Nat) (w0:World) (p:Nat) (v:Value) (len:Nat) (w:World) (e:Ending) (w':World):Prop:=(e=Ha (G8 Hb)\/e=Ha (G8 G_))/\Src B w0 p v len w'/\w.grownBy w' (F_ p)
theorem cK {p:Nat} (h:Src B w0 p v len w) (of:Int) (hm2:of<=9223372036854775807):
  Calls Tryz.prog 11 #[Hf (F_ ⟨p,0,U⟩),GZ G6 of] w (kF B w0 p v len w):=by
 have HN:Hid (Calls Tryz.prog 14 #[Hf (F_ ⟨p,0,U⟩),GZ G6 of] w (EA B w0 p v len w of)):=h.n of hm2;clear h;go_enter Tryz.func11,Tryz.ntmps11;go_wp2_with fail;refine HN.mono ?_;rintro e w1 ⟨r,rfl,r0,r1,hS,hg⟩;have HS:Hid (Src B w0 p v len w1):=hS;have HG:Hid (w.grownBy w1 (F_ p)):=hg;clear hS hg;cases hr:(r==0);all_goals
  go_wp2
  go_ret
 ·exact⟨Hd rfl,HS.out,HG.out⟩
 ·exact⟨He rfl,HS.out,HG.out⟩
theorem bV(w:World) (o:Obj) (row:Option Nat):w.grownBy (w.alloc o) row:=⟨rfl,rfl,rfl,by simp,λk hk _=>Fy _ _ _ hk⟩
theorem lG {w2:World} {p:Nat} {row:Option Nat} (h:w.grownBy w1 (F_ p)) (hg:w1.grownBy w2 row) (hr:∀k,row=F_ k->w.heap.size<=k):w.grownBy w2 (F_ p):=
 ⟨hg.os.trans h.os,hg.tape.trans h.tape,hg.output.trans h.output,FA h.size hg.size,λk hk hne=>(hg.block k (Fw hk h.size) (λe=>by have:=hr k e.symm;omega)).trans (h.block k hk hne)⟩
theorem Src.aB {p:Nat} {row:Option Nat} (h:Src B w0 p v len w) (hg:w.grownBy w' row) (hr:row≠F_ p) (hB:∀k,row=F_ k->B<=k):Src B w0 p v len w':=by
 obtain⟨h1,h2,h3,h4,h5,k,m,sz,h6,h7,h8,h9,h10,h11⟩:=h;have hb:Below B w w':=⟨hg.os,hg.tape,hg.output,hg.size,λk hk=>hg.block k (by have:=h3.size;omega) (λe=>by have:=hB k e.symm;omega)⟩;refine⟨h1,h2,h3.trans hb,Fw h4 hg.size,h5.below hb,k,m,sz,h6,h7,h8,h9,h10,?_⟩;unfold bG at h11 ⊢;rw[hg.block p h4 (λe=>hr e.symm)];exact h11
theorem Src.kI {p:Nat} (h:Src B w0 p v len w):p<w.heap.size:=h.2.2.2.1
namespace Dk
def CU(B:Nat) (w0:World) (p:Nat) (v:Value) (len:Nat) (w:World) (e:Ending) (w':World):Prop:=∃x:Int,e=Ha (GZ G6 x)/\ -9223372036854775808<=x/\x<=9223372036854775807/\Src B w0 p v len w'/\w.grownBy w' (F_ p)
theorem ints_at(l:List Int) (hall:∀x∈l,-9223372036854775808<=x/\x<=9223372036854775807) (k:Nat) (h:k<l.length):∃x:Int,(l.map (Value.int G6))[k]?=F_ (GZ G6 x)/\ -9223372036854775808<=x/\x<=9223372036854775807:=
 ⟨l[k],by simp[h],hall _ (List.getElem_mem h)⟩
def t_:List Int:=[0,1,1023,1024,2048,1048576,1048577,-1024]
theorem jC {p:Nat} (h:Src B w0 p v len w):
  Calls Tryz.prog 107 #[Hf (F_ ⟨p,0,U⟩)] w (CU B w0 p v len w):=by
 have H1:Hid (Calls Tryz.prog 11 #[Hf (F_ ⟨p,0,U⟩),GZ G6 6] w (kF B w0 p v len w)):=cK h 6 ah;clear h;go_enter Tryz.func107,Tryz.ntmps107;go_wp2_with fail;refine H1.mono ?_;rintro e w1 ⟨he,hS1,hg1⟩;have HS1:Hid (Src B w0 p v len w1):=hS1;have HG1:Hid (w.grownBy w1 (F_ p)):=hg1;clear hS1 hg1 H1;rcases he with rfl|rfl
 ·go_wp2_with fail;have hS0:=HS1.aB (bV w1 (G7 (t_.map (Value.int G6)).toArray 2) U) aH (λk hk=>by cases hk);refine (hS0.n 8 ah).mono ?_;rintro e w2 ⟨r,rfl,r0,r1,hS2,hg2⟩;obtain⟨k,rfl⟩:=Int.eq_ofNat_of_zero_le r0;have hk:k<8:=af
  obtain⟨x,hx,x0,x1⟩:=ints_at t_ ah k hk;have hpw:p<w1.heap.size:=HS1.kI;have hblk:w2.heap[w1.heap.size]?=F_ (G7 (t_.map (Value.int G6)).toArray 2 (0,0)):=by
   exact xA
  have hc:w2.cell? ⟨w1.heap.size,k,U⟩=F_ (GZ G6 x):=by
   simp only[Gc,hblk];simpa using hx
  have HS2:Hid (Src B w0 p v len w2):=hS2;have HG:Hid (w.grownBy w2 (F_ p)):=bB HG1.out (bB (bV w1 _ _) hg2);have hki:(k:Int)<8:=af
  clear hS0 hS2 hg2 hblk hx HS1 HG1 r1 r0;go_wp2;go_ret;exact⟨x,rfl,x0,x1,HS2.out,HG.out⟩
 ·go_wp2_with fail;refine (HS1.n 90 ah).mono ?_;rintro e w2 ⟨r,rfl,r0,r1,hS2,hg2⟩;have HS2:Hid (Src B w0 p v len w2):=hS2;have HG2:Hid (w.grownBy w2 (F_ p)):=bB HG1.out hg2;have hr:r<=90:=af
  clear hS2 hg2 HS1 HG1 r1;go_wp2;go_ret;exact⟨1+r,rfl,by omega,by omega,HS2.out,HG2.out⟩
def sD(B:Nat) (w0:World) (p:Nat) (v:Value) (len:Nat) (w:World) (n:Nat) (e:Ending) (w':World):Prop:=∃t:ByteArray,e=Ha (I t)/\t.size<=n/\Src B w0 p v len w'/\w.grownBy w' (F_ p)
theorem ey {p:Nat} (h:Src B w0 p v len w) (b n:Nat) (ss:List ByteArray) (T:TypeId) (hb:w.heap[b]?=F_ (G7 (ss.map Fz).toArray T (0,0))) (hbp:¬b=p) (hn:ss.length=n) (h0:0<n) (h1:n<=100) (hz:∀x∈ss,x.size<=100):
  Calls Tryz.prog 15 #[Hf (F_ ⟨p,0,U⟩),J (F_ ⟨b,0,U⟩) n n] w (sD B w0 p v len w 100):=by
 have HS:Hid (Src B w0 p v len w):=h;have HB:Hid (w.heap[b]?=F_ (G7 (ss.map Fz).toArray T (0,0))):=hb;have HZ:Hid (∀x∈ss,x.size<=100):=hz;clear h hb hz;go_enter Tryz.func15,Tryz.ntmps15;go_wp2_with fail;refine (HS.n n af).mono ?_;rintro e w1 ⟨r,rfl,r0,r1,hS1,hg1⟩;obtain⟨k,rfl⟩:=Int.eq_ofNat_of_zero_le r0;have hk:k<n:=af
 have hblk:w1.heap[b]?=F_ (G7 (ss.map Fz).toArray T (0,0)):=by
  rw[hg1.block b (by
   rcases Nat.lt_or_ge b w.heap.size with h'|h'
   ·exact h'
   ·have:=HB.out;rw[Array.getElem?_eq_none h'] at this;cases this) (λe=>by simp at e;omega)]
  exact HB.out
 have hkl:k<ss.length:=af
 have hc:w1.cell? ⟨b,k,U⟩=F_ (I ss[k]):=by
  simp[Gc,hblk,hkl]
 have HX:Hid ((ss[k]).size<=100):=HZ.out _ (List.getElem_mem hkl);have HS1:Hid (Src B w0 p v len w1):=hS1;have HG1:Hid (w.grownBy w1 (F_ p)):=hg1;clear hS1 hg1 hblk HS HB HZ r1 r0;generalize ss[k]=x at hc HX;go_wp2;go_ret;exact⟨x,rfl,HX.out,HS1.out,HG1.out⟩
structure Dr (B:Nat) (w0:World) (p:Nat) (v:Value) (len:Nat) (wa w:World):Prop where
 src:Src B w0 p v len w
 gr:wa.grownBy w (F_ p)
 lt:p<wa.heap.size
theorem Dr.start {p:Nat} (h:Src B w0 p v len w):Dr B w0 p v len w w:=⟨h,⟨rfl,rfl,rfl,Fq _,λ_ _ _=>rfl⟩,h.kI⟩
theorem Dr.size {p:Nat} (h:Dr B w0 p v len wa w):wa.heap.size<=w.heap.size:=h.gr.size
theorem Dr.alloc {p:Nat} (h:Dr B w0 p v len wa w) (o:Obj):Dr B w0 p v len wa (w.alloc o):=
 ⟨h.src.aB (bV w o U) aH (λk hk=>by cases hk),bB h.gr (bV w o _),h.lt⟩
theorem Dr.set {p:Nat} (h:Dr B w0 p v len wa w) {b i:Nat} (x:Value) (hb:wa.heap.size<=b):Dr B w0 p v len wa (w.setCell ⟨b,i,U⟩ x):=by
 have hl:=h.lt;have hB:B<=p:=h.src.1;refine⟨h.src.aB (bL w b i x) (λe=>by simp at e;omega) (λk hk=>by simp at hk;omega),?_,h.lt⟩;exact lG h.gr (bL w b i x) (λk hk=>by simp at hk;omega)
theorem Dr.next {p:Nat} (h:Dr B w0 p v len wa w) (hs:Src B w0 p v len w') (hg:w.grownBy w' (F_ p)):Dr B w0 p v len wa w':=⟨hs,bB h.gr hg,h.lt⟩
theorem Dr.below {p:Nat} (h:Dr B w0 p v len wa w) (hb:Below w.heap.size w w'):Dr B w0 p v len wa w':=
 ⟨h.src.aB (row:=U) ⟨hb.os,hb.tape,hb.output,hb.size,λk hk _=>hb.block k hk⟩ aH (λk hk=>by cases hk),bB h.gr ⟨hb.os,hb.tape,hb.output,hb.size,λk hk _=>hb.block k hk⟩,h.lt⟩
theorem gk {p:Nat} {o:Obj} (hg:w.grownBy w' (F_ p)) (hn:¬k=p) (h:w.heap[k]?=F_ o):w'.heap[k]?=F_ o:=
 (hg.block k (aa h) (λe=>hn (by simpa using e))).trans h
theorem b8 {p:Nat} (h:Src B w0 p v len w) (ss:List ByteArray) (n b:Nat) (T:TypeId) (hq:b=w.heap.size) (hn:ss.length=n) (h0:0<n) (h1:n<=100) (hz:∀x∈ss,x.size<=100):
  Calls Tryz.prog 15 #[Hf (F_ ⟨p,0,U⟩),J (F_ ⟨b,0,U⟩) n n] (w.alloc (G7 (ss.map Fz).toArray T)) (sD B w0 p v len w 100):=by
 subst hq;have h2:Src B w0 p v len (w.alloc (G7 (ss.map Fz).toArray T)):=h.aB (bV w _ U) aH (λk hk=>by cases hk);refine (ey h2 w.heap.size n ss T Fs (by have:=h.kI;omega) hn h0 h1 hz).mono ?_;rintro e w' ⟨t,rfl,ht,hs,hg⟩;exact⟨t,rfl,ht,hs,bB (bV w _ _) hg⟩
theorem mL {p:Nat} (h:Src B w0 p v len w):
  Calls Tryz.prog 106 #[Hf (F_ ⟨p,0,U⟩)] w (sD B w0 p v len w 100):=by
 have HS:=ae h;clear h;go_enter Tryz.func106,Tryz.ntmps106;go_wp2_with fail;refine (b8 HS.out [⟨#[101,97,115,116]⟩,⟨#[119,101,115,116]⟩] 2 _ _ rfl rfl ah ah ah).mono ?_;exact yp
theorem AE {p:Nat} (h:Src B w0 p v len w):
  Calls Tryz.prog 108 #[Hf (F_ ⟨p,0,U⟩)] w (sD B w0 p v len w 100):=by
 have HS:=ae h;clear h;go_enter Tryz.func108,Tryz.ntmps108;go_wp2_with fail;refine (b8 HS.out [⟨#[]⟩,⟨#[65]⟩,⟨#[49,50,51]⟩] 3 _ _ rfl rfl ah ah ah).mono ?_;exact yp
def Ez(B:Nat) (w0:World) (p:Nat) (v:Value) (len:Nat) (w:World) (e:Ending) (w':World):Prop:=
 ∃n c k x u,e=Ha (Hc #[I n,GZ G6 c,I k,G8 x,I u])/\n.size<=100/\k.size<=100/\u.size<=100/\Dr B w0 p v len w w'
def Ew(B:Nat) (w0:World) (p:Nat) (v:Value) (len:Nat) (w:World) (e:Ending) (w':World):Prop:=
 ∃n c z k x m y a l cp zs,e=Ha (Hc #[I n,GZ G6 c,I z,I k,G8 x,I m,G8 y,J a l cp])/\n.size<=100/\z.size<=100/\k.size<=100/\m.size<=100/\aD w' a l cp zs/\(zs=[]\/∃g,a=F_ (⟨g,0,U⟩:Addr)/\w.heap.size<=g)/\Dr B w0 p v len w w'
theorem lX(X:World) (o:Obj) (n:Nat) (h:X.heap.size=n):(X.alloc o).heap[n]?=F_ o:=by
 subst h;exact Fs
theorem d_(h:e=Ha (G8 Hb)\/e=Ha (G8 G_)):∃b,e=Ha (G8 b):=by
 rcases h with h|h
 ·exact⟨Hb,h⟩
 ·exact⟨G_,h⟩
theorem tF {p:Nat} (h:Src B w0 p v len w):
  Calls Tryz.prog 61 #[Hf (F_ ⟨p,0,U⟩)] w (Ez B w0 p v len w):=by
 have HD0:=ae ((Dr.start h).alloc (G7 #[I ⟨#[]⟩,GZ G6 0,I ⟨#[]⟩,G8 G_,I ⟨#[]⟩] 97));have HP:=ae h.kI;have G0:Hid ((w.alloc (G7 #[I ⟨#[]⟩,GZ G6 0,I ⟨#[]⟩,G8 G_,I ⟨#[]⟩] 97)).heap[w.heap.size]?=F_ (G7 #[I ⟨#[]⟩,GZ G6 0,I ⟨#[]⟩,G8 G_,I ⟨#[]⟩] 97 (0,0))):=Fs;clear h;go_enter Tryz.func61,Tryz.ntmps61;go_wp2_with fail;refine (b8 HD0.src [⟨#[99,49]⟩,⟨#[99,50]⟩,⟨#[99,51]⟩,⟨#[99,52]⟩] 4 _ _ aH rfl ah ah ah).mono ?_;rintro e w1 ⟨t1,rfl,ht1,hs,hg⟩;have HD1:=ae (HD0.next hs hg);have G1:=ae (gk hg bZ G0.out);clear hs hg G0 HD0;go_wp2_with fail;refine (HD1.src.n 12 ah).mono ?_;rintro e w2 ⟨r2,rfl,ra2,rb2,hs,hg⟩;have HD2:=ae (HD1.next hs hg);have G2:=ae (gk hg bZ G1.out);clear hs hg G1 HD1;have rc2:r2<=12:=af
 clear rb2;go_wp2_with fail;refine (b8 HD2.src [⟨#[102,97,115,116]⟩,⟨#[115,108,111,119]⟩,⟨#[115,108,111,119]⟩] 3 _ _ aH rfl ah ah ah).mono ?_;rintro e w3 ⟨t3,rfl,ht3,hs,hg⟩;have HD3:=ae (HD2.next hs hg);have G3:=ae (gk hg bZ G2.out);clear hs hg G2 HD2;go_wp2_with fail;refine (cK HD3.src 4 ah).mono ?_;rintro e w4 ⟨he,hs,hg⟩;obtain⟨x4,rfl⟩:=d_ he;clear he;have HD4:=ae (HD3.next hs hg);have G4:=ae (gk hg bZ G3.out);clear hs hg G3 HD3;have HDA:=ae (HD4.alloc (G7 #[I t1,GZ G6 (1+r2),I t3,G8 (!x4),I ⟨#[]⟩] 97));have hA:w.heap.size<w4.heap.size:=aa G4.out;have GA:Hid ((w4.alloc (G7 #[I t1,GZ G6 (1+r2),I t3,G8 (!x4),I ⟨#[]⟩] 97)).heap[w4.heap.size]?=F_ (G7 #[I t1,GZ G6 (1+r2),I t3,G8 (!x4),I ⟨#[]⟩] 97 (0,0))):=Fs;have GB:=ae ((Fy w4 (G7 #[I t1,GZ G6 (1+r2),I t3,G8 (!x4),I ⟨#[]⟩] 97) _ hA).trans G4.out);clear HD4 G4;go_wp2_with fail;refine (cK HDA.src 15 ah).mono ?_;rintro e w5 ⟨he,hs,hg⟩;have HDJ:=ae (HDA.next hs hg);have hpn:=HP.out;have GA':=ae (gk hg af GA.out);have GB':=ae (gk hg af GB.out);clear hs hg GA GB HDA;rcases he with rfl|rfl
 ·go_wp2_with fail;refine (HDJ.src.n 3 ah).mono ?_;rintro e w6 ⟨r6,rfl,ra6,rb6,hs,hg⟩;have HD6:=ae (HDJ.next hs hg);have GA6:=ae (gk hg af GA'.out);have GB6:=ae (gk hg af GB'.out);clear hs hg GA' GB' HDJ rb6;by_cases h0:r6=0
  ·subst h0;go_wp2_with fail;refine (jC HD6.src).mono ?_;rintro e w7 ⟨r7,rfl,ra7,rb7,hs,hg⟩;obtain⟨HD7,GA7,GB7⟩:=o8;clear hs hg GA6 GB6 HD6;obtain⟨q3,q2,y0,yf0,y1,yf1,y2,yf2,y3,yf3,y4,yf4,z0,zf0,z1,zf1,z2,zf2,z3,zf3,z4,zf4⟩:=Db;clear q2 q3;go_wp2_with fail;exact bodyPost_ret (v:=Hc #[I t1,GZ G6 r7,I t3,G8 (!x4),I ⟨#[]⟩]) rE rfl ⟨_,_,_,_,_,rfl,ht1,ht3,ah,((((((HD7.set (b:=w4.heap.size) (i:=1) _ (Gz hA)).set (b:=w.heap.size) (i:=0) _ (Fq _)).set (b:=w.heap.size) (i:=1) _ (Fq _)).set (b:=w.heap.size) (i:=2) _ (Fq _)).set (b:=w.heap.size) (i:=3) _ (Fq _)).set (b:=w.heap.size) (i:=4) _ (Fq _))⟩
  have q60:(r6==0)=G_:=by simp[h0]
  by_cases h1:r6=1
  ·subst h1;go_wp2_with fail;refine (AE HD6.src).mono ?_;rintro e w7 ⟨t7,rfl,ht7,hs,hg⟩;obtain⟨HD7,GA7,GB7⟩:=o8;clear hs hg GA6 GB6 HD6;obtain⟨q3,q2,y0,yf0,y1,yf1,y2,yf2,y3,yf3,y4,yf4,z0,zf0,z1,zf1,z2,zf2,z3,zf3,z4,zf4⟩:=Db;clear q2 q3;go_wp2_with fail;exact bodyPost_ret (v:=Hc #[I t1,GZ G6 (1+r2),I t7,G8 (!x4),I ⟨#[]⟩]) rE rfl ⟨_,_,_,_,_,rfl,ht1,ht7,ah,((((((HD7.set (b:=w4.heap.size) (i:=2) _ (Gz hA)).set (b:=w.heap.size) (i:=0) _ (Fq _)).set (b:=w.heap.size) (i:=1) _ (Fq _)).set (b:=w.heap.size) (i:=2) _ (Fq _)).set (b:=w.heap.size) (i:=3) _ (Fq _)).set (b:=w.heap.size) (i:=4) _ (Fq _))⟩
  have q61:(r6==1)=G_:=by simp[h1]
  clear h0 h1;go_wp2_with fail;refine (b8 HD6.src [⟨#[100,49]⟩,⟨#[65]⟩] 2 _ _ aH rfl ah ah ah).mono ?_;rintro e w7 ⟨t7,rfl,ht7,hs,hg⟩;obtain⟨HD7,GA7,GB7⟩:=o8;clear hs hg GA6 GB6 HD6;obtain⟨q3,q2,y0,yf0,y1,yf1,y2,yf2,y3,yf3,y4,yf4,z0,zf0,z1,zf1,z2,zf2,z3,zf3,z4,zf4⟩:=Db;clear q2 q3;go_wp2_with fail;exact bodyPost_ret (v:=Hc #[I t1,GZ G6 (1+r2),I t3,G8 (!x4),I t7]) rE rfl ⟨_,_,_,_,_,rfl,ht1,ht3,ht7,((((((HD7.set (b:=w4.heap.size) (i:=4) _ (Gz hA)).set (b:=w.heap.size) (i:=0) _ (Fq _)).set (b:=w.heap.size) (i:=1) _ (Fq _)).set (b:=w.heap.size) (i:=2) _ (Fq _)).set (b:=w.heap.size) (i:=3) _ (Fq _)).set (b:=w.heap.size) (i:=4) _ (Fq _))⟩
 ·skip;have q3:=GA'.out;have q2:=GB'.out;have y0:w5.cell? ⟨w4.heap.size,0,U⟩=F_ (I t1):=ar q3 0;have yf0:=al q3 0;have y1:w5.cell? ⟨w4.heap.size,1,U⟩=F_ (GZ G6 (1+r2)):=ar q3 1;have yf1:=al q3 1;have y2:w5.cell? ⟨w4.heap.size,2,U⟩=F_ (I t3):=ar q3 2;have yf2:=al q3 2;have y3:w5.cell? ⟨w4.heap.size,3,U⟩=F_ (G8 (!x4)):=ar q3 3;have yf3:=al q3 3;have y4:w5.cell? ⟨w4.heap.size,4,U⟩=F_ (I ⟨#[]⟩):=ar q3 4;have yf4:=al q3 4;have z0:w5.cell? ⟨w.heap.size,0,U⟩=F_ (I ⟨#[]⟩):=ar q2 0;have zf0:=al q2 0;have z1:w5.cell? ⟨w.heap.size,1,U⟩=F_ (GZ G6 0):=ar q2 1;have zf1:=al q2 1;have z2:w5.cell? ⟨w.heap.size,2,U⟩=F_ (I ⟨#[]⟩):=ar q2 2;have zf2:=al q2 2;have z3:w5.cell? ⟨w.heap.size,3,U⟩=F_ (G8 G_):=ar q2 3;have zf3:=al q2 3;have z4:w5.cell? ⟨w.heap.size,4,U⟩=F_ (I ⟨#[]⟩):=ar q2 4;have zf4:=al q2 4;clear q2 q3;go_wp2_with fail;exact bodyPost_ret (v:=Hc #[I t1,GZ G6 (1+r2),I t3,G8 (!x4),I ⟨#[]⟩]) rE rfl ⟨_,_,_,_,_,rfl,ht1,ht3,ah,(((((HDJ.set (b:=w.heap.size) (i:=0) _ (Fq _)).set (b:=w.heap.size) (i:=1) _ (Fq _)).set (b:=w.heap.size) (i:=2) _ (Fq _)).set (b:=w.heap.size) (i:=3) _ (Fq _)).set (b:=w.heap.size) (i:=4) _ (Fq _))⟩
theorem zT {p:Nat} (h:Src B w0 p v len w):
  Calls Tryz.prog 59 #[Hf (F_ ⟨p,0,U⟩)] w (Ew B w0 p v len w):=by
 have HD0:=ae ((Dr.start h).alloc (G7 #[I ⟨#[]⟩,GZ G6 0,I ⟨#[]⟩,I ⟨#[]⟩,G8 G_,I ⟨#[]⟩,G8 G_,J U 0 0] 95));have HP:=ae h.kI;have G0:Hid ((w.alloc (G7 #[I ⟨#[]⟩,GZ G6 0,I ⟨#[]⟩,I ⟨#[]⟩,G8 G_,I ⟨#[]⟩,G8 G_,J U 0 0] 95)).heap[w.heap.size]?=F_ (G7 #[I ⟨#[]⟩,GZ G6 0,I ⟨#[]⟩,I ⟨#[]⟩,G8 G_,I ⟨#[]⟩,G8 G_,J U 0 0] 95 (0,0))):=Fs;clear h;go_enter Tryz.func59,Tryz.ntmps59;go_wp2_with fail;refine (b8 HD0.src [⟨#[100,49]⟩,⟨#[100,50]⟩,⟨#[100,51]⟩] 3 _ _ aH rfl ah ah ah).mono ?_;rintro e w1 ⟨t1,rfl,ht1,hs,hg⟩;have HD1:=ae (HD0.next hs hg);have G1:=ae (gk hg bZ G0.out);clear hs hg G0 HD0;go_wp2_with fail;refine (HD1.src.n 20 ah).mono ?_;rintro e w2 ⟨r2,rfl,ra2,rb2,hs,hg⟩;have HD2:=ae (HD1.next hs hg);have G2:=ae (gk hg bZ G1.out);clear hs hg G1 HD1;have rc2:r2<=20:=af
 clear rb2;go_wp2_with fail;refine (mL HD2.src).mono ?_;rintro e w3 ⟨t3,rfl,ht3,hs,hg⟩;have HD3:=ae (HD2.next hs hg);have G3:=ae (gk hg bZ G2.out);clear hs hg G2 HD2;go_wp2_with fail;refine (b8 HD3.src [⟨#[102,97,115,116]⟩,⟨#[115,108,111,119]⟩] 2 _ _ aH rfl ah ah ah).mono ?_;rintro e w4 ⟨t4,rfl,ht4,hs,hg⟩;have HD4:=ae (HD3.next hs hg);have G4:=ae (gk hg bZ G3.out);clear hs hg G3 HD3;go_wp2_with fail;refine (cK HD4.src 4 ah).mono ?_;rintro e w5 ⟨he,hs,hg⟩;obtain⟨x5,rfl⟩:=d_ he;clear he;have HD5:=ae (HD4.next hs hg);have G5:=ae (gk hg bZ G4.out);clear hs hg G4 HD4;have HDA:=ae (HD5.alloc (G7 #[I t1,GZ G6 (1+r2),I t3,I t4,G8 (!x5),I ⟨#[]⟩,G8 G_,J U 0 0] 95));have hA:w.heap.size<w5.heap.size:=aa G5.out;have GA:Hid ((w5.alloc (G7 #[I t1,GZ G6 (1+r2),I t3,I t4,G8 (!x5),I ⟨#[]⟩,G8 G_,J U 0 0] 95)).heap[w5.heap.size]?=F_ (G7 #[I t1,GZ G6 (1+r2),I t3,I t4,G8 (!x5),I ⟨#[]⟩,G8 G_,J U 0 0] 95 (0,0))):=Fs;have GB:=ae ((Fy w5 (G7 #[I t1,GZ G6 (1+r2),I t3,I t4,G8 (!x5),I ⟨#[]⟩,G8 G_,J U 0 0] 95) _ hA).trans G5.out);clear HD5 G5;go_wp2_with fail;refine (cK HDA.src 12 ah).mono ?_;rintro e w6 ⟨he,hs,hg⟩;have HDJ:=ae (HDA.next hs hg);have hpn:=HP.out;have GA':=ae (gk hg af GA.out);have GB':=ae (gk hg af GB.out);clear hs hg GA GB HDA;rcases he with rfl|rfl
 ·go_wp2_with fail;refine (HDJ.src.n 4 ah).mono ?_;rintro e w7 ⟨r7,rfl,ra7,rb7,hs,hg⟩;have HD7:=ae (HDJ.next hs hg);have GA7:=ae (gk hg af GA'.out);have GB7:=ae (gk hg af GB'.out);clear hs hg GA' GB' HDJ rb7;by_cases h0:r7=0
  ·subst h0;go_wp2_with fail;refine (jC HD7.src).mono ?_;rintro e w8 ⟨r8,rfl,ra8,rb8,hs,hg⟩;obtain⟨HD8,GA8,GB8⟩:=o7;clear hs hg GA7 GB7 HD7;have q3:=GA8.out;have q2:=GB8.out;have y0:w8.cell? ⟨w5.heap.size,0,U⟩=F_ (I t1):=ar q3 0;obtain⟨yf0,y1,yf1,y2,yf2,y3,yf3,y4,yf4,y5,yf5,y6,yf6,y7,yf7,z0,zf0,z1,zf1,z2,zf2,z3,zf3,z4,zf4,z5,zf5,z6,zf6,z7⟩:=Dc;have zf7:=al q2 7;clear q2 q3;go_wp2_with fail;exact bodyPost_ret (v:=Hc #[I t1,GZ G6 r8,I t3,I t4,G8 (!x5),I ⟨#[]⟩,G8 G_,J U 0 0]) ny rfl ⟨_,_,_,_,_,_,_,U,0,0,[],rfl,ht1,ht3,ht4,ah,⟨rfl,Fq _,by omega,λj x hx=>by simp at hx,He rfl⟩,He rfl,(((((((((HD8.set (b:=w5.heap.size) (i:=1) _ (Gz hA)).set (b:=w.heap.size) (i:=0) _ (Fq _)).set (b:=w.heap.size) (i:=1) _ (Fq _)).set (b:=w.heap.size) (i:=2) _ (Fq _)).set (b:=w.heap.size) (i:=3) _ (Fq _)).set (b:=w.heap.size) (i:=4) _ (Fq _)).set (b:=w.heap.size) (i:=5) _ (Fq _)).set (b:=w.heap.size) (i:=6) _ (Fq _)).set (b:=w.heap.size) (i:=7) _ (Fq _))⟩
  have q70:(r7==0)=G_:=by simp[h0]
  by_cases h1:r7=1
  ·subst h1;go_wp2_with fail;refine (b8 HD7.src [⟨#[99,49]⟩,⟨#[65]⟩] 2 _ _ aH rfl ah ah ah).mono ?_;rintro e w8 ⟨t8,rfl,ht8,hs,hg⟩;obtain⟨HD8,GA8,GB8⟩:=o7;clear hs hg GA7 GB7 HD7;have q3:=GA8.out;have q2:=GB8.out;have y0:w8.cell? ⟨w5.heap.size,0,U⟩=F_ (I t1):=ar q3 0;obtain⟨yf0,y1,yf1,y2,yf2,y3,yf3,y4,yf4,y5,yf5,y6,yf6,y7,yf7,z0,zf0,z1,zf1,z2,zf2,z3,zf3,z4,zf4,z5,zf5,z6,zf6,z7⟩:=Dc;have zf7:=al q2 7;clear q2 q3;go_wp2_with fail;exact bodyPost_ret (v:=Hc #[I t1,GZ G6 (1+r2),I t3,I t4,G8 (!x5),I t8,G8 G_,J U 0 0]) ny rfl ⟨_,_,_,_,_,_,_,U,0,0,[],rfl,ht1,ht3,ht4,ht8,⟨rfl,Fq _,by omega,λj x hx=>by simp at hx,He rfl⟩,He rfl,(((((((((HD8.set (b:=w5.heap.size) (i:=5) _ (Gz hA)).set (b:=w.heap.size) (i:=0) _ (Fq _)).set (b:=w.heap.size) (i:=1) _ (Fq _)).set (b:=w.heap.size) (i:=2) _ (Fq _)).set (b:=w.heap.size) (i:=3) _ (Fq _)).set (b:=w.heap.size) (i:=4) _ (Fq _)).set (b:=w.heap.size) (i:=5) _ (Fq _)).set (b:=w.heap.size) (i:=6) _ (Fq _)).set (b:=w.heap.size) (i:=7) _ (Fq _))⟩
  have q71:(r7==1)=G_:=by simp[h1]
  by_cases h2:r7=2
  ·subst h2;clear h0 h1;have q3:=GA7.out;have q2:=GB7.out;have y0:w7.cell? ⟨w5.heap.size,0,U⟩=F_ (I t1):=ar q3 0;have yf0:=al q3 0;have y1:w7.cell? ⟨w5.heap.size,1,U⟩=F_ (GZ G6 (1+r2)):=ar q3 1;have yf1:=al q3 1;have y2:w7.cell? ⟨w5.heap.size,2,U⟩=F_ (I t3):=ar q3 2;have yf2:=al q3 2;have y3:w7.cell? ⟨w5.heap.size,3,U⟩=F_ (I t4):=ar q3 3;have yf3:=al q3 3;have y4:w7.cell? ⟨w5.heap.size,4,U⟩=F_ (G8 (!x5)):=ar q3 4;have yf4:=al q3 4;have y5:w7.cell? ⟨w5.heap.size,5,U⟩=F_ (I ⟨#[]⟩):=ar q3 5;have yf5:=al q3 5;have y6:w7.cell? ⟨w5.heap.size,6,U⟩=F_ (G8 G_):=ar q3 6;have yf6:=al q3 6;have y7:w7.cell? ⟨w5.heap.size,7,U⟩=F_ (J U 0 0):=ar q3 7;have yf7:=al q3 7;have z0:w7.cell? ⟨w.heap.size,0,U⟩=F_ (I ⟨#[]⟩):=ar q2 0;have zf0:=al q2 0;have z1:w7.cell? ⟨w.heap.size,1,U⟩=F_ (GZ G6 0):=ar q2 1;have zf1:=al q2 1;have z2:w7.cell? ⟨w.heap.size,2,U⟩=F_ (I ⟨#[]⟩):=ar q2 2;have zf2:=al q2 2;have z3:w7.cell? ⟨w.heap.size,3,U⟩=F_ (I ⟨#[]⟩):=ar q2 3;have zf3:=al q2 3;have z4:w7.cell? ⟨w.heap.size,4,U⟩=F_ (G8 G_):=ar q2 4;have zf4:=al q2 4;have z5:w7.cell? ⟨w.heap.size,5,U⟩=F_ (I ⟨#[]⟩):=ar q2 5;have zf5:=al q2 5;have z6:w7.cell? ⟨w.heap.size,6,U⟩=F_ (G8 G_):=ar q2 6;have zf6:=al q2 6;have z7:w7.cell? ⟨w.heap.size,7,U⟩=F_ (J U 0 0):=ar q2 7;have zf7:=al q2 7;clear q2 q3;go_wp2_with fail;exact bodyPost_ret (v:=Hc #[I t1,GZ G6 (1+r2),I t3,I t4,G8 (!x5),I ⟨#[]⟩,G8 Hb,J U 0 0]) ny rfl ⟨_,_,_,_,_,_,_,U,0,0,[],rfl,ht1,ht3,ht4,ah,⟨rfl,Fq _,by omega,λj x hx=>by simp at hx,He rfl⟩,He rfl,(((((((((HD7.set (b:=w5.heap.size) (i:=6) _ (Gz hA)).set (b:=w.heap.size) (i:=0) _ (Fq _)).set (b:=w.heap.size) (i:=1) _ (Fq _)).set (b:=w.heap.size) (i:=2) _ (Fq _)).set (b:=w.heap.size) (i:=3) _ (Fq _)).set (b:=w.heap.size) (i:=4) _ (Fq _)).set (b:=w.heap.size) (i:=5) _ (Fq _)).set (b:=w.heap.size) (i:=6) _ (Fq _)).set (b:=w.heap.size) (i:=7) _ (Fq _))⟩
  have q72:(r7==2)=G_:=by simp[h2]
  clear h0 h1 h2;go_wp2_with fail;refine (b8 HD7.src [⟨#[110,50]⟩,⟨#[110,49]⟩] 2 _ _ aH rfl ah ah ah).mono ?_;rintro e w8 ⟨t8,rfl,ht8,hs,hg⟩;obtain⟨HD8,GA8,GB8⟩:=o7;clear hs hg GA7 GB7 HD7;have h8A:=aa GA8.out;have h8B:=aa GB8.out;have q3:=GA8.out;have q2:=GB8.out;have HDZ:=ae ((((((((((HD8.set (b:=w5.heap.size) (i:=7) (J (F_ ⟨w8.heap.size,0,U⟩) 2 2) (Gz hA)).set (b:=w.heap.size) (i:=0) (I t1) (Fq _)).set (b:=w.heap.size) (i:=1) (GZ G6 (1+r2)) (Fq _)).set (b:=w.heap.size) (i:=2) (I t3) (Fq _)).set (b:=w.heap.size) (i:=3) (I t4) (Fq _)).set (b:=w.heap.size) (i:=4) (G8 (!x5)) (Fq _)).set (b:=w.heap.size) (i:=5) (I ⟨#[]⟩) (Fq _)).set (b:=w.heap.size) (i:=6) (G8 G_) (Fq _)).set (b:=w.heap.size) (i:=7) (J (F_ ⟨w8.heap.size,0,U⟩) 2 2) (Fq _)).alloc (G7 #[I ⟨#[110,49]⟩,I t8] 9));have HLB:Hid (((((((((((w8.setCell ⟨w5.heap.size,7,U⟩ (J (F_ ⟨w8.heap.size,0,U⟩) 2 2)).setCell ⟨w.heap.size,0,U⟩ (I t1)).setCell ⟨w.heap.size,1,U⟩ (GZ G6 (1+r2))).setCell ⟨w.heap.size,2,U⟩ (I t3)).setCell ⟨w.heap.size,3,U⟩ (I t4)).setCell ⟨w.heap.size,4,U⟩ (G8 (!x5))).setCell ⟨w.heap.size,5,U⟩ (I ⟨#[]⟩)).setCell ⟨w.heap.size,6,U⟩ (G8 G_)).setCell ⟨w.heap.size,7,U⟩ (J (F_ ⟨w8.heap.size,0,U⟩) 2 2)).alloc (G7 #[I ⟨#[110,49]⟩,I t8] 9)).heap[w8.heap.size]?=F_ (G7 #[I ⟨#[110,49]⟩,I t8] 9 (0,0))):=lX _ _ _ la;have y0:w8.cell? ⟨w5.heap.size,0,U⟩=F_ (I t1):=ar q3 0;obtain⟨yf0,y1,yf1,y2,yf2,y3,yf3,y4,yf4,y5,yf5,y6,yf6,y7,yf7,z0,zf0,z1,zf1,z2,zf2,z3,zf3,z4,zf4,z5,zf5,z6,zf6,z7⟩:=Dc;have zf7:=al q2 7;clear q2 q3 GA8 GB8;go_wp2_with fail;refine bodyPost_ret (v:=Hc #[I t1,GZ G6 (1+r2),I t3,I t4,G8 (!x5),I ⟨#[]⟩,G8 G_,J (F_ ⟨w8.heap.size,0,U⟩) 2 2]) ny rfl ⟨_,_,_,_,_,_,_,F_ ⟨w8.heap.size,0,U⟩,2,2,[⟨#[110,49]⟩,t8],rfl,ht1,ht3,ht4,ah,?_,Hd ⟨_,rfl,by omega⟩,HDZ.out⟩;refine aD.copy (T:=9) HLB.out rfl ah ?_;intro j x hx;match j,hx with
  | 0,hx=>cases hx;decide
  | 1,hx=>cases hx;omega
  | j+2,hx=>simp at hx
 ·skip;have q3:=GA'.out;have q2:=GB'.out;have y0:w6.cell? ⟨w5.heap.size,0,U⟩=F_ (I t1):=ar q3 0;have yf0:=al q3 0;have y1:w6.cell? ⟨w5.heap.size,1,U⟩=F_ (GZ G6 (1+r2)):=ar q3 1;have yf1:=al q3 1;have y2:w6.cell? ⟨w5.heap.size,2,U⟩=F_ (I t3):=ar q3 2;have yf2:=al q3 2;have y3:w6.cell? ⟨w5.heap.size,3,U⟩=F_ (I t4):=ar q3 3;have yf3:=al q3 3;have y4:w6.cell? ⟨w5.heap.size,4,U⟩=F_ (G8 (!x5)):=ar q3 4;have yf4:=al q3 4;have y5:w6.cell? ⟨w5.heap.size,5,U⟩=F_ (I ⟨#[]⟩):=ar q3 5;have yf5:=al q3 5;have y6:w6.cell? ⟨w5.heap.size,6,U⟩=F_ (G8 G_):=ar q3 6;have yf6:=al q3 6;have y7:w6.cell? ⟨w5.heap.size,7,U⟩=F_ (J U 0 0):=ar q3 7;have yf7:=al q3 7;have z0:w6.cell? ⟨w.heap.size,0,U⟩=F_ (I ⟨#[]⟩):=ar q2 0;have zf0:=al q2 0;have z1:w6.cell? ⟨w.heap.size,1,U⟩=F_ (GZ G6 0):=ar q2 1;have zf1:=al q2 1;have z2:w6.cell? ⟨w.heap.size,2,U⟩=F_ (I ⟨#[]⟩):=ar q2 2;have zf2:=al q2 2;have z3:w6.cell? ⟨w.heap.size,3,U⟩=F_ (I ⟨#[]⟩):=ar q2 3;have zf3:=al q2 3;have z4:w6.cell? ⟨w.heap.size,4,U⟩=F_ (G8 G_):=ar q2 4;have zf4:=al q2 4;have z5:w6.cell? ⟨w.heap.size,5,U⟩=F_ (I ⟨#[]⟩):=ar q2 5;have zf5:=al q2 5;have z6:w6.cell? ⟨w.heap.size,6,U⟩=F_ (G8 G_):=ar q2 6;have zf6:=al q2 6;have z7:w6.cell? ⟨w.heap.size,7,U⟩=F_ (J U 0 0):=ar q2 7;have zf7:=al q2 7;clear q2 q3;go_wp2_with fail;exact bodyPost_ret (v:=Hc #[I t1,GZ G6 (1+r2),I t3,I t4,G8 (!x5),I ⟨#[]⟩,G8 G_,J U 0 0]) ny rfl ⟨_,_,_,_,_,_,_,U,0,0,[],rfl,ht1,ht3,ht4,ah,⟨rfl,Fq _,by omega,λj x hx=>by simp at hx,He rfl⟩,He rfl,((((((((HDJ.set (b:=w.heap.size) (i:=0) _ (Fq _)).set (b:=w.heap.size) (i:=1) _ (Fq _)).set (b:=w.heap.size) (i:=2) _ (Fq _)).set (b:=w.heap.size) (i:=3) _ (Fq _)).set (b:=w.heap.size) (i:=4) _ (Fq _)).set (b:=w.heap.size) (i:=5) _ (Fq _)).set (b:=w.heap.size) (i:=6) _ (Fq _)).set (b:=w.heap.size) (i:=7) _ (Fq _))⟩
theorem Src.drew {p:Nat} (h:Src B w0 p v len w):Src B w0 p v len w.drew:=
 h.aB (row:=U) ⟨rfl,rfl,rfl,Fq _,λ_ _ _=>rfl⟩ aH (λk hk=>by cases hk)
def DC:List Int:=[-1,0,1000,1000000,1000001]
theorem qp {p:Nat} (h:Src B w0 p v len w):
  Calls Tryz.prog 109 #[Hf (F_ ⟨p,0,U⟩)] w (CU B w0 p v len w):=by
 have H1:Hid (Calls Tryz.prog 11 #[Hf (F_ ⟨p,0,U⟩),GZ G6 6] w (kF B w0 p v len w)):=cK h 6 ah;clear h;go_enter Tryz.func109,Tryz.ntmps109;go_wp2_with fail;refine H1.mono ?_;rintro e w1 ⟨he,hS1,hg1⟩;have HS1:Hid (Src B w0 p v len w1):=hS1;have HG1:Hid (w.grownBy w1 (F_ p)):=hg1;clear hS1 hg1 H1;rcases he with rfl|rfl
 ·go_wp2_with fail;have hS0:=HS1.aB (bV w1 (G7 (DC.map (Value.int G6)).toArray 2) U) aH (λk hk=>by cases hk);refine (hS0.n 5 ah).mono ?_;rintro e w2 ⟨r,rfl,r0,r1,hS2,hg2⟩;obtain⟨k,rfl⟩:=Int.eq_ofNat_of_zero_le r0;have hk:k<5:=af
  obtain⟨x,hx,x0,x1⟩:=ints_at DC ah k hk;have hpw:p<w1.heap.size:=HS1.kI;have hblk:w2.heap[w1.heap.size]?=F_ (G7 (DC.map (Value.int G6)).toArray 2 (0,0)):=by
   exact xA
  have hc:w2.cell? ⟨w1.heap.size,k,U⟩=F_ (GZ G6 x):=by
   simp only[Gc,hblk];simpa using hx
  have HS2:Hid (Src B w0 p v len w2):=hS2;have HG:Hid (w.grownBy w2 (F_ p)):=bB HG1.out (bB (bV w1 _ _) hg2);have hki:(k:Int)<5:=af
  clear hS0 hS2 hg2 hblk hx HS1 HG1 r1 r0;go_wp2;go_ret;exact⟨x,rfl,x0,x1,HS2.out,HG.out⟩
 ·go_wp2_with fail;refine (HS1.n 90 ah).mono ?_;rintro e w2 ⟨r,rfl,r0,r1,hS2,hg2⟩;have HS2:Hid (Src B w0 p v len w2):=hS2;have HG2:Hid (w.grownBy w2 (F_ p)):=bB HG1.out hg2;have hr:r<=90:=af
  clear hS2 hg2 HS1 HG1 r1;go_wp2;go_ret;exact⟨50*r,rfl,by omega,by omega,HS2.out,HG2.out⟩
def PSt(B:Nat) (w0:World) (p:Nat) (v:Value) (len:Nat) (wa:World) (b m:Nat) (W:World):Prop:=
 ∃(n:ByteArray) (c:Int) (z:ByteArray) (lv:Value) (zs:List ByteArray) (d:ByteArray) (ph:Int),W.heap[b]?=F_ (G7 #[I n,GZ G6 c,I z,lv,I d,GZ G6 ph] 40 (0,0))/\(n.size<=100/\z.size<=100/\d.size<=100)/\zs.length<=m/\(∀(j:Nat) x,zs[j]?=F_ x->x.size<=100)/\
  W.ownsRow wa.heap.size 9 1 lv zs.length (zs.map Fz)/\Dr B w0 p v len wa W/\W.heap[wa.heap.size]?=F_ (G7 #[I ⟨#[]⟩,GZ G6 0,I ⟨#[]⟩,J U 0 0,I ⟨#[]⟩,GZ G6 0] 40 (0,0))/\wa.heap.size<b
theorem kf {lo n:Nat} {cur:Array Value} (h:W.ownsRow lo 9 1 lv n xs) (hb:W.heap[b]?=F_ (G7 cur 40 (0,0))):lv.ownBlock≠F_ b:=λe=>by
 rcases h.2 with ⟨rfl,_⟩|⟨g',cap,cu,rfl,_,hg',_⟩
 ·cases e
 ·simp[FX] at e;subst e;rw[hb] at hg';simp at hg'
theorem PSt.next {p:Nat} {W':World} (h:PSt B w0 p v len wa b m W) (hs:Src B w0 p v len W') (hg:W.grownBy W' (F_ p)):PSt B w0 p v len wa b m W':=by
 obtain⟨n,c,z,lv,zs,d,ph,h1,h2,h3,h4,h5,h6,h7,h8⟩:=h;have hp:=h6.lt;refine⟨n,c,z,lv,zs,d,ph,gk hg af h1,h2,h3,h4,h5.kept hg (Hd (λe=>by have:=(h5.lt _ e).1;omega)),h6.next hs hg,gk hg af h7,h8⟩
theorem PSt.set {p:Nat} (h:PSt B w0 p v len wa b m W):
  (∀x,PSt B w0 p v len wa b m (W.setCell ⟨b,1,U⟩ (GZ G6 x)))/\(∀s:ByteArray,s.size<=100->PSt B w0 p v len wa b m (W.setCell ⟨b,2,U⟩ (I s)))/\
  (∀s:ByteArray,s.size<=100->PSt B w0 p v len wa b m (W.setCell ⟨b,4,U⟩ (I s)))/\(∀x,PSt B w0 p v len wa b m (W.setCell ⟨b,5,U⟩ (GZ G6 x))):=by
 obtain⟨n,c,z,lv,zs,d,ph,h1,h2,h3,h4,h5,h6,h7,h8⟩:=h;have k5:∀i x,(W.setCell ⟨b,i,U⟩ x).ownsRow wa.heap.size 9 1 lv zs.length (zs.map Fz):=λi x=>h5.kept (bL W b i x) (Hd (kf h5 h1));have k6:∀i x,Dr B w0 p v len wa (W.setCell ⟨b,i,U⟩ x):=λi x=>h6.set x af;have k7:∀i x,(W.setCell ⟨b,i,U⟩ x).heap[wa.heap.size]?=F_ (G7 #[I ⟨#[]⟩,GZ G6 0,I ⟨#[]⟩,J U 0 0,I ⟨#[]⟩,GZ G6 0] 40 (0,0)):=λi x=>(Fl _ _ _ _ (show wa.heap.size≠b by omega)).trans h7;exact⟨λx=>⟨n,x,z,lv,zs,d,ph,az h1 _,h2,h3,h4,k5 _ _,k6 _ _,k7 _ _,h8⟩,λs hs=>⟨n,c,s,lv,zs,d,ph,az h1 _,⟨h2.1,hs,h2.2.2⟩,h3,h4,k5 _ _,k6 _ _,k7 _ _,h8⟩,
  λs hs=>⟨n,c,z,lv,zs,s,ph,az h1 _,⟨h2.1,h2.2.1,hs⟩,h3,h4,k5 _ _,k6 _ _,k7 _ _,h8⟩,λx=>⟨n,c,z,lv,zs,d,x,az h1 _,h2,h3,h4,k5 _ _,k6 _ _,k7 _ _,h8⟩⟩
theorem PSt.lay {p:Nat} (h:PSt B w0 p v len wa b m W) (ss:List ByteArray) (hl:ss.length<=m) (hl2:ss.length<=2) (hs:∀x∈ss,x.size<=100) (k:Nat) (hk:ss.length=k):
  PSt B w0 p v len wa b m ((W.setCell ⟨b,3,U⟩ (J (F_ ⟨W.heap.size,0,U⟩) k k)).alloc (G7 (ss.map Fz).toArray 9)):=by
 obtain⟨n,c,z,lv,zs,d,ph,h1,h2,h3,h4,h5,h6,h7,h8⟩:=h;subst hk;have hbw:=aa h1;have hsz:(W.setCell ⟨b,3,U⟩ (J (F_ ⟨W.heap.size,0,U⟩) ss.length ss.length)).heap.size=W.heap.size:=la
 refine⟨n,c,z,J (F_ ⟨W.heap.size,0,U⟩) ss.length ss.length,ss,d,ph,(Fy _ _ _ (by rw[hsz];exact hbw)).trans (az h1 _),h2,hl,λj x hx=>hs x (FK hx),?_,(h6.set _ af).alloc _,(Fy _ _ _ (by rw[hsz];omega)).trans ((Fl _ _ _ _ (show wa.heap.size≠b by omega)).trans h7),h8⟩;refine⟨by simp,Hd ⟨W.heap.size,ss.length,(ss.map Fz).toArray,rfl,h6.size,lX _ _ _ hsz,Fq _,by unfold maxLen;omega,by simp,by simp;exact FT aH⟩⟩
theorem PSt.up {p:Nat} {m':Nat} (h:PSt B w0 p v len wa b m W) (hm:m<=m'):PSt B w0 p v len wa b m' W:=by
 obtain⟨n,c,z,lv,zs,d,ph,h1,h2,h3,h⟩:=h;exact⟨n,c,z,lv,zs,d,ph,h1,h2,by omega,h⟩
theorem Dp {lo:Nat} (h5:W.ownsRow lo 9 1 lv zs.length (zs.map Fz)) (h4:∀(j:Nat) x,zs[j]?=F_ x->x.size<=100):∃a l cp,lv=J a l cp/\aD W a l cp zs/\(a=U->cp=0):=by
 rcases h5.2 with ⟨rfl,h0⟩|⟨g,cap,cu,rfl,hb,hg,hn,hc,hs,ht⟩
 ·have:zs=[]:=F6 h0;subst this;exact⟨U,0,0,rfl,⟨rfl,Fq _,by omega,λj x hx=>by simp at hx,He rfl⟩,λ_=>rfl⟩
 ·refine⟨_,_,_,rfl,⟨by simp,hn,by unfold maxLen at hc;omega,λj x hx=>by have:=h4 j x hx;omega,Hd ⟨g,0,rfl,aa hg,λj x hx=>?_⟩⟩,λe=>by cases e⟩;have hj:j<zs.length:=(Fm.1 hx).1;have e1:(cu.toList.take (zs.length*1))[j]?=(zs.map Fz)[j]?:=by rw[ht]
  rw[FQ,if_pos af,FG,hx] at e1;rw[ar hg,FE,<-Array.getElem?_toList];exact e1
theorem jH {o:Oper} {a:Act} (hgd:o.guard=U) (s x:Operand) (t:TypeId)
  (ho:o.op=.call { callee:=.builtin .append,args:=#[s,x],argTypes:=#[t,t] })
  (base:Nat) (e:TypeId) (i:TypeInfo) (z:Value) (size bytes:Nat) (ht:P.underlying t=F_ (.slice e)) (hi:P.info? e=F_ i) (hz:i.zero=F_ z)
  (hsize:i.size=size) (hby:i.bytes=bytes) (hzs:z.cells.size=size) (hsz:0<size)
  (v:Value) (n:Nat) (xs:List Value) (hs:a.eval s=v) (hown:w.ownsRow base e size v n xs)
  (ad:Addr) (m c:Nat) (news:List Value) (hx:a.eval x=J (F_ ad) m c) (hl:news.length=m*size) (hnews:∀j u,news[j]?=F_ u->w.cell? (ad.add j)=F_ u) (h1:∀u∈news,u.oneCell'=Hb)
  (h63:n+m<=maxLen) (hbytes:(n+m)*bytes<=140737488355328) (hbase:base<=w.heap.size)
  (h:∀v' w',w'.ownsRow base e size v' (n+m) (xs++news)->w.grownBy w' v.ownBlock->(v'=J U 0 0↔v=J U 0 0/\m=0)->K (a.put o.dst v') w'):
  if F5 o (yielded ops a.tmps)=Hb then Oper.wp P o a w K Q else E:=by
 have hw:F5 o (yielded ops a.tmps)=Hb:=by simp[F5,hgd]
 rw[if_pos hw];exact wp_append_own w s x t ho base e i z size bytes ht hi hz hsize hby hzs hsz v n xs hs hown ad m c news hx hl hnews h1 h63 hbytes hbase h
theorem Dq {lo n:Nat} (h:W.ownsRow lo T m v n xs):∃a l c,v=J a l c:=by
 rcases h.2 with ⟨rfl,_⟩|⟨g,cap,cu,rfl,_⟩
 ·exact⟨_,_,_,rfl⟩
 ·exact⟨_,_,_,rfl⟩
theorem Dr.DB {p:Nat} {row:Option Nat} (h:Dr B w0 p v len wa w) (hg:w.grownBy w' row) (hr:∀k,row=F_ k->wa.heap.size<=k):Dr B w0 p v len wa w':=by
 have hp:=h.lt;have hB:B<=p:=h.src.1;refine⟨h.src.aB hg (λe=>by have:=hr p e;omega) (λk e=>by have:=hr k e;omega),⟨hg.os.trans h.gr.os,hg.tape.trans h.gr.tape,hg.output.trans h.gr.output,FA h.gr.size hg.size,λi hi hne=>?_⟩,h.lt⟩;exact (hg.block i (Fw hi h.gr.size) (λe=>by have:=hr i e.symm;omega)).trans (h.gr.block i hi hne)
theorem sK {o:Oper} {a:Act} (hgd:o.guard=U) (f:FuncId) (args:Array Operand) (ts:Array TypeId) {fn:Func} {cd:Code} (hf:P.funcs[f]?=F_ fn) (hname:(fn.name== "runtime.NumGoroutine")=G_) (hb:fn.body=F_ cd)
  (ho:o.op=.call { callee:=.value (.func f),args:=args,argTypes:=ts }) (vs:Array Value) (hv:args.map a.eval=vs) {R:Ending->World->Prop} (h:Calls P f vs w R)
  (hR:∀e w',R e w'->∃v,e=Ha v/\K (a.put o.dst v) w'):
  if F5 o (yielded ops a.tmps)=Hb then Oper.wp P o a w K Q else E:=by
 have hw:F5 o (yielded ops a.tmps)=Hb:=by simp[F5,hgd]
 rw[if_pos hw];subst hv;unfold Oper.wp;have hrun:(execOp a.eval o).run P w=.ok (.enter f (args.map a.eval)) w:=by
  have h1:¬fn.name= "runtime.NumGoroutine":=by simpa using hname
  simp[execOp,ho,resolve,invoke,Act.eval,Deferred.ofValue,callFunc,hf,h1,hb,Result.andThen]
 rw[hrun,Oper.upon_enter];refine h.mono λe w' hr=>?_;obtain⟨v,rfl,hk⟩:=hR e w' hr;exact hk
theorem Aj {lo:Nat} (h5:W.ownsRow lo 9 1 lv zs.length (zs.map Fz)) (h4:∀(j:Nat) x,zs[j]?=F_ x->x.size<=100):∃a l cp,lv=J a l cp/\aD W a l cp zs/\(a=U->cp=0)/\(zs=[]\/∃g,a=F_ ⟨g,0,U⟩/\lo<=g):=by
 obtain⟨a,l,cp,rfl,h1,h2⟩:=Dp h5 h4;refine⟨a,l,cp,rfl,h1,h2,?_⟩;rcases h5.2 with ⟨e,h0⟩|⟨g,cap,cu,e,hb,_⟩
 ·exact He (F6 h0)
 ·injection e with e1 e2 e3;exact Hd ⟨g,e1,hb⟩
def Ey(B:Nat) (w0:World) (p:Nat) (v:Value) (len:Nat) (w:World) (e:Ending) (w':World):Prop:=
 ∃n c z a l cp zs d ph,e=Ha (Hc #[I n,GZ G6 c,I z,J a l cp,I d,GZ G6 ph])/\n.size<=100/\z.size<=100/\d.size<=100/\aD w' a l cp zs/\(a=U->cp=0)/\(zs=[]\/∃g,a=F_ ⟨g,0,U⟩/\w.heap.size<=g)/\zs.length<=4/\(∀(j:Nat) x,zs[j]?=F_ x->x.size<=100)/\Dr B w0 p v len w w'
theorem PSt.src {p:Nat} (h:PSt B w0 p v len wa b m W):Src B w0 p v len W:=by
 obtain⟨_,_,_,_,_,_,_,_,_,_,_,_,h,_⟩:=h;exact h.src
theorem PSt.lt {p:Nat} (h:PSt B w0 p v len wa b m W):b<W.heap.size:=by
 obtain⟨_,_,_,_,_,_,_,h,_⟩:=h;exact aa h
theorem Ab {p:Nat} (h:Src B w0 p v len w):
  Calls Tryz.prog 63 #[Hf (F_ ⟨p,0,U⟩)] w (Ey B w0 p v len w):=by
 have HD0:=ae ((Dr.start h).alloc (G7 #[I ⟨#[]⟩,GZ G6 0,I ⟨#[]⟩,J U 0 0,I ⟨#[]⟩,GZ G6 0] 40));have HP:=ae h.kI;have G0:Hid ((w.alloc (G7 #[I ⟨#[]⟩,GZ G6 0,I ⟨#[]⟩,J U 0 0,I ⟨#[]⟩,GZ G6 0] 40)).heap[w.heap.size]?=F_ (G7 #[I ⟨#[]⟩,GZ G6 0,I ⟨#[]⟩,J U 0 0,I ⟨#[]⟩,GZ G6 0] 40 (0,0))):=Fs;clear h;go_enter Tryz.func63,Tryz.ntmps63;go_wp2_with fail;refine (b8 HD0.src [⟨#[112,49]⟩,⟨#[112,50]⟩,⟨#[112,51]⟩,⟨#[112,52]⟩] 4 _ _ aH rfl ah ah ah).mono ?_;rintro e w1 ⟨t1,rfl,ht1,hs,hg⟩;have HD1:=ae (HD0.next hs hg);have G1:=ae (gk hg bZ G0.out);clear hs hg G0 HD0;go_wp2_with fail;refine (HD1.src.n 6 ah).mono ?_;rintro e w2 ⟨r2,rfl,ra2,rb2,hs,hg⟩;have HD2:=ae (HD1.next hs hg);have G2:=ae (gk hg bZ G1.out);clear hs hg G1 HD1;have rc2:r2<=6:=af
 clear rb2;have HP3:Hid (PSt B w0 p v len w w2.heap.size 3 (w2.alloc (G7 #[I t1,GZ G6 (250*r2),I ⟨#[]⟩,J U 0 0,I ⟨#[]⟩,GZ G6 0] 40))):=⟨t1,250*r2,⟨#[]⟩,J U 0 0,[],⟨#[]⟩,0,Fs,⟨ht1,by decide,by decide⟩,by simp,λj x hx=>by simp at hx,⟨rfl,He ⟨rfl,rfl⟩⟩,HD2.alloc _,(Fy _ _ _ (aa G2.out)).trans G2.out,aa G2.out⟩;clear HD2 G2;go_wp2_with fail;generalize (w2.alloc (G7 #[I t1,GZ G6 (250*r2),I ⟨#[]⟩,J U 0 0,I ⟨#[]⟩,GZ G6 0] 40))=W2 at*;generalize w2.heap.size=b at*;refine (cK HP3.src 3 ah).mono ?_;rintro e w3 ⟨he,hs,hg⟩;obtain⟨x12,rfl⟩:=d_ he;have HP4:=ae (HP3.next hs hg);clear hs hg he HP3 ra2 rc2 ht1;go_upto_if 12 with fail;go_cut [3] from 13 to 15 (λs wx=>s=Hf (F_ ⟨b,0,U⟩)/\PSt B w0 p v len w b 3 wx);case first=>
  cases x12 with
  | false=>
   go_wp2_with fail
   go_meet
   exact⟨rfl,HP4.out⟩
  | true=>
   go_wp2_with fail;refine (mL HP4.src).mono ?_;rintro e w4 ⟨t,rfl,ht,hs,hg⟩;have HP5:=ae (HP4.next hs hg);have HP6:=ae (HP5.set.2.1 t ht);obtain⟨n,c,z,lv,zs,d,ph,q,-⟩:=HP5.out;have y0:w4.cell? ⟨b,0,U⟩=F_ (I n):=ar q 0;have yf0:=al q 0;have y1:w4.cell? ⟨b,1,U⟩=F_ (GZ G6 c):=ar q 1;have yf1:=al q 1;have y2:w4.cell? ⟨b,2,U⟩=F_ (I z):=ar q 2;have yf2:=al q 2;have y3:w4.cell? ⟨b,3,U⟩=F_ (lv):=ar q 3;have yf3:=al q 3;have y4:w4.cell? ⟨b,4,U⟩=F_ (I d):=ar q 4;have yf4:=al q 4;have y5:w4.cell? ⟨b,5,U⟩=F_ (GZ G6 ph):=ar q 5;have yf5:=al q 5;clear q;clear hs hg HP4 HP5;go_wp2_with fail
   go_meet
   exact⟨rfl,HP6.out⟩
 case rest=>
  obtain⟨rfl,hP⟩:=hcut;have HP5:=ae hP;clear hP HP4;go_wp2_with fail;refine (cK HP5.src 2 ah).mono ?_;rintro e w5 ⟨he,hs,hg⟩;obtain⟨x17,rfl⟩:=d_ he;have HP6:=ae (HP5.next hs hg);clear hs hg he HP5;go_upto_if 17 with fail;go_cut [3] from 18 to 29 (λs wx=>s=Hf (F_ ⟨b,0,U⟩)/\PSt B w0 p v len w b 3 wx);case first=>
   cases x17 with
   | true=>
    go_wp2_with fail;refine (b8 HP6.src [⟨#[99,49]⟩,⟨#[99,50]⟩,⟨#[99,51]⟩,⟨#[99,52]⟩] 4 _ _ aH rfl ah ah ah).mono ?_;rintro e w6 ⟨t,rfl,ht,hs,hg⟩;have HP7:=ae (HP6.next hs hg);have HP8:=ae (HP7.lay [t] aH aH (λx hx=>by simp at hx;rw[hx];exact ht) 1 rfl);have hbl:=HP7.lt;obtain⟨n,c,z,lv,zs,d,ph,q,-⟩:=HP7.out;have y0:w6.cell? ⟨b,0,U⟩=F_ (I n):=ar q 0;have yf0:=al q 0;have y1:w6.cell? ⟨b,1,U⟩=F_ (GZ G6 c):=ar q 1;have yf1:=al q 1;have y2:w6.cell? ⟨b,2,U⟩=F_ (I z):=ar q 2;have yf2:=al q 2;have y3:w6.cell? ⟨b,3,U⟩=F_ (lv):=ar q 3;have yf3:=al q 3;have y4:w6.cell? ⟨b,4,U⟩=F_ (I d):=ar q 4;have yf4:=al q 4;have y5:w6.cell? ⟨b,5,U⟩=F_ (GZ G6 ph):=ar q 5;have yf5:=al q 5;clear q;clear hs hg HP6 HP7;go_wp2_with fail
    go_meet
    exact⟨rfl,HP8.out⟩
   | false=>
    go_wp2_with fail;refine (cK HP6.src 2 ah).mono ?_;rintro e w6 ⟨he,hs,hg⟩;have HP7:=ae (HP6.next hs hg);clear hs hg HP6
    rcases he with rfl|rfl
    ·go_wp2_with fail;refine (b8 HP7.src [⟨#[99,50]⟩,⟨#[99,51]⟩] 2 _ _ aH rfl ah ah ah).mono ?_;rintro e w7 ⟨t,rfl,ht,hs,hg⟩;have HP8:=ae (HP7.next hs hg)
     have HP9:=ae (HP8.lay [⟨#[99,49]⟩,t] aH aH (λx hx=>by simp at hx;rcases hx with rfl|rfl;decide;exact ht) 2 rfl)
     have hbl:=HP8.lt;obtain⟨n,c,z,lv,zs,d,ph,q,-⟩:=HP8.out;have y0:w7.cell? ⟨b,0,U⟩=F_ (I n):=ar q 0;have yf0:=al q 0;have y1:w7.cell? ⟨b,1,U⟩=F_ (GZ G6 c):=ar q 1;have yf1:=al q 1;have y2:w7.cell? ⟨b,2,U⟩=F_ (I z):=ar q 2;have yf2:=al q 2;have y3:w7.cell? ⟨b,3,U⟩=F_ (lv):=ar q 3;have yf3:=al q 3;have y4:w7.cell? ⟨b,4,U⟩=F_ (I d):=ar q 4;have yf4:=al q 4;have y5:w7.cell? ⟨b,5,U⟩=F_ (GZ G6 ph):=ar q 5;have yf5:=al q 5;clear q;clear hs hg HP7 HP8;go_wp2_with fail
     go_meet
     exact⟨rfl,HP9.out⟩
    ·go_wp2_with fail
     go_meet
     exact⟨rfl,HP7.out⟩
  case rest=>
   obtain⟨rfl,hP⟩:=hcut;have HP7:=ae hP;clear hP HP6;go_wp2_with fail;refine (cK HP7.src 15 ah).mono ?_;rintro e w6 ⟨he,hs,hg⟩;obtain⟨x31,rfl⟩:=d_ he;have HP8:=ae (HP7.next hs hg);clear hs hg he HP7;go_upto_if 31 with fail;go_cut [3] from 32 to 55 (λs wx=>s=Hf (F_ ⟨b,0,U⟩)/\PSt B w0 p v len w b 4 wx);case first=>
    cases x31 with
    | false=>
     go_wp2_with fail
     go_meet
     exact⟨rfl,HP8.up af⟩
    | true=>
     go_wp2_with fail;refine (HP8.src.n 4 ah).mono ?_;rintro e w7 ⟨r7,rfl,ra7,rb7,hs,hg⟩;have HP9:=ae (HP8.next hs hg);clear hs hg HP8 rb7
     by_cases h0:r7=0
     ·subst h0;go_wp2_with fail;refine (qp HP9.src).mono ?_;rintro e w8 ⟨r8,rfl,ra8,rb8,hs,hg⟩;have HPA:=ae (HP9.next hs hg);have HPB:=ae (HPA.set.1 r8);obtain⟨n,c,z,lv,zs,d,ph,q,-⟩:=HPA.out;have y0:w8.cell? ⟨b,0,U⟩=F_ (I n):=ar q 0;have yf0:=al q 0;have y1:w8.cell? ⟨b,1,U⟩=F_ (GZ G6 c):=ar q 1;have yf1:=al q 1;have y2:w8.cell? ⟨b,2,U⟩=F_ (I z):=ar q 2;have yf2:=al q 2;have y3:w8.cell? ⟨b,3,U⟩=F_ (lv):=ar q 3;have yf3:=al q 3;have y4:w8.cell? ⟨b,4,U⟩=F_ (I d):=ar q 4;have yf4:=al q 4;have y5:w8.cell? ⟨b,5,U⟩=F_ (GZ G6 ph):=ar q 5;have yf5:=al q 5;clear q;clear hs hg HP9 HPA;go_wp2_with fail
      go_meet
      exact⟨rfl,HPB.up af⟩
     have q70:(r7==0)=G_:=by simp[h0]
     by_cases h1:r7=1
     ·subst h1;clear h0;have hbl:=HP9.lt;have hpl:=HP9.src.kI;obtain⟨n,c,z,lv,zs,d,ph,h1,h2,h3,h4,h5,h6,h7,h8⟩:=HP9.out;have HO:=ae h5;have H1:=ae h1;have H6:=ae h6;have H7:=ae h7;have y0:w7.cell? ⟨b,0,U⟩=F_ (I n):=ar h1 0;have yf0:=al h1 0;have y1:w7.cell? ⟨b,1,U⟩=F_ (GZ G6 c):=ar h1 1;have yf1:=al h1 1;have y2:w7.cell? ⟨b,2,U⟩=F_ (I z):=ar h1 2;have yf2:=al h1 2;have y3:w7.cell? ⟨b,3,U⟩=F_ (lv):=ar h1 3;have yf3:=al h1 3;have y4:w7.cell? ⟨b,4,U⟩=F_ (I d):=ar h1 4;have yf4:=al h1 4;have y5:w7.cell? ⟨b,5,U⟩=F_ (GZ G6 ph):=ar h1 5;have yf5:=al h1 5;clear h1 h5 h6 h7;have HPK:=ae (ey (Src.drew (H6.alloc (G7 #[I ⟨#[97]⟩,I ⟨#[65]⟩,I ⟨#[122]⟩] 9)).src) w7.heap.size 3 [⟨#[97]⟩,⟨#[65]⟩,⟨#[122]⟩] 9 Fs af rfl ah ah ah)
      have HNX:Hid (∀w8,Src B w0 p v len w8->(w7.alloc (G7 #[I ⟨#[97]⟩,I ⟨#[65]⟩,I ⟨#[122]⟩] 9)).drew.grownBy w8 (F_ p)->(w8.heap[b]?=F_ (G7 #[I n,GZ G6 c,I z,lv,I d,GZ G6 ph] 40 (0,0))/\w8.ownsRow w.heap.size 9 1 lv zs.length (zs.map Fz)/\Dr B w0 p v len w w8/\w8.heap[w.heap.size]?=F_ (G7 #[I ⟨#[]⟩,GZ G6 0,I ⟨#[]⟩,J U 0 0,I ⟨#[]⟩,GZ G6 0] 40 (0,0)))):=λw8 hs hg=>by
       have hgw:w7.grownBy w8 (F_ p):=bB (bV w7 (G7 #[I ⟨#[97]⟩,I ⟨#[65]⟩,I ⟨#[122]⟩] 9) (F_ p)) ⟨hg.os,hg.tape,hg.output,hg.size,hg.block⟩;have hpp:=H6.lt;exact⟨gk hgw af H1.out,HO.kept hgw (Hd (λe=>by have:=(HO.lt _ e).1;omega)),H6.next hs hgw,gk hgw af H7.out⟩
      obtain⟨i0,hi,hz0,hz1,hz2⟩:=info_parts dI;go_wp2_with fail
      go_region_law (first
       | (refine jH rfl _ _ 36 rfl w.heap.size 9 i0 (I ⟨#[]⟩) 1 16 Tryz.underlying36 hi hz0 hz1 hz2 rfl ah lv zs.length (zs.map Fz) (by simp[Act.eval]) (HO8.alloc _) ⟨w8.heap.size,0,U⟩ 1 1 [I t] (by simp[Act.eval]) rfl (λj u hj=>by have hq:=ar (w:=w8.alloc (G7 #[I t] 9)) (b:=w8.heap.size) (lX _ _ _ rfl) j;rw[FC,FE,hq];simpa using hj) (λu hu=>by simp at hu;subst hu;rfl) bw af bD ?_;intro v2 w9 hown hgrow _;obtain⟨qa,ql,qc,rfl⟩:=Dq hown;have hn8:=kf HO8.out H18.out;have hn9:=kf HO8.out H78.out;have g9:=(hgrow.block b (Fw (aa H18.out) aH) (λe=>hn8 e.symm)).trans ((Fy w8 (G7 #[I t] 9) _ (aa H18.out)).trans H18.out);have z9:=(hgrow.block w.heap.size (Fw (aa H78.out) aH) (λe=>hn9 e.symm)).trans ((Fy w8 (G7 #[I t] 9) _ (aa H78.out)).trans H78.out);have HW:=ae hown;have HG:=ae hgrow;have G9:=ae g9;have Z9:=ae z9;have v0:w9.cell? ⟨b,0,U⟩=F_ (I n):=ar g9 0;have vf0:w9.frozen? ⟨b,0,U⟩=G_:=al g9 0;have v1:w9.cell? ⟨b,1,U⟩=F_ (GZ G6 c):=ar g9 1;have vf1:w9.frozen? ⟨b,1,U⟩=G_:=al g9 1;have v2:w9.cell? ⟨b,2,U⟩=F_ (I z):=ar g9 2;have vf2:w9.frozen? ⟨b,2,U⟩=G_:=al g9 2;have v3:w9.cell? ⟨b,3,U⟩=F_ (lv):=ar g9 3;have vf3:w9.frozen? ⟨b,3,U⟩=G_:=al g9 3;have v4:w9.cell? ⟨b,4,U⟩=F_ (I d):=ar g9 4;have vf4:w9.frozen? ⟨b,4,U⟩=G_:=al g9 4;have v5:w9.cell? ⟨b,5,U⟩=F_ (GZ G6 ph):=ar g9 5;have vf5:w9.frozen? ⟨b,5,U⟩=G_:=al g9 5;clear hown hgrow hn8 hn9 g9 z9)
       | (refine sK rfl 15 _ _ Tryz.func15 au rfl rfl _ (by simp[Act.eval]) HPK.out (λe w8 hR=>?_);obtain⟨t,rfl,ht,hs,hg⟩:=hR;refine⟨_,rfl,?_⟩;obtain⟨g1,ho8,hd8,hz8⟩:=HNX.out w8 hs hg;have hl8:=aa g1;have HO8:=ae ho8;have H68:=ae hd8;have H78:=ae hz8;have H18:=ae g1;have x0:w8.cell? ⟨b,0,U⟩=F_ (I n):=ar g1 0;have xf0:w8.frozen? ⟨b,0,U⟩=G_:=al g1 0;have x1:w8.cell? ⟨b,1,U⟩=F_ (GZ G6 c):=ar g1 1;have xf1:w8.frozen? ⟨b,1,U⟩=G_:=al g1 1;have x2:w8.cell? ⟨b,2,U⟩=F_ (I z):=ar g1 2;have xf2:w8.frozen? ⟨b,2,U⟩=G_:=al g1 2;have x3:w8.cell? ⟨b,3,U⟩=F_ (lv):=ar g1 3;have xf3:w8.frozen? ⟨b,3,U⟩=G_:=al g1 3;have x4:w8.cell? ⟨b,4,U⟩=F_ (I d):=ar g1 4;have xf4:w8.frozen? ⟨b,4,U⟩=G_:=al g1 4;have x5:w8.cell? ⟨b,5,U⟩=F_ (GZ G6 ph):=ar g1 5;have xf5:w8.frozen? ⟨b,5,U⟩=G_:=al g1 5;clear g1 hs hg ho8 hd8 hz8))
      all_goals (
       go_wp2_with fail
       go_meet
       refine⟨rfl,n,c,z,J qa ql qc,zs++[t],d,ph,az G9.out _,h2,by simp;omega,λj x hx=>?_,?_,?_,?_,h8⟩
       ·rcases Nat.lt_or_ge j zs.length with hj|hj
        ·rw[FI hj] at hx;exact h4 j x hx
        ·rw[List.getElem?_append_right hj] at hx;have hx2:=FK hx
         simp at hx2
         rw[hx2];exact ht
       ·have h9:=HW.kept (bL w9 b 3 (J qa ql qc)) (Hd (kf HW.out G9.out))
        simpa using h9
       ·exact ((H68.alloc _).DB HG.out (λk e=>(HO8.lt _ e).1)).set _ af
       ·exact (Fl _ _ _ _ (show w.heap.size≠b by omega)).trans Z9.out)
     have q71:(r7==1)=G_:=by simp[h1]
     by_cases h2:r7=2
     ·subst h2;clear h0 h1;go_wp2_with fail;refine (HP9.src.n 5 ah).mono ?_;rintro e w8 ⟨r8,rfl,ra8,rb8,hs,hg⟩;have HPA:=ae (HP9.next hs hg);have HPB:=ae (HPA.set.2.2.2 (r8 - 1))
      have rc8:r8<=5:=af
      obtain⟨n,c,z,lv,zs,d,ph,q,-⟩:=HPA.out;have y0:w8.cell? ⟨b,0,U⟩=F_ (I n):=ar q 0;have yf0:=al q 0;have y1:w8.cell? ⟨b,1,U⟩=F_ (GZ G6 c):=ar q 1;have yf1:=al q 1;have y2:w8.cell? ⟨b,2,U⟩=F_ (I z):=ar q 2;have yf2:=al q 2;have y3:w8.cell? ⟨b,3,U⟩=F_ (lv):=ar q 3;have yf3:=al q 3;have y4:w8.cell? ⟨b,4,U⟩=F_ (I d):=ar q 4;have yf4:=al q 4;have y5:w8.cell? ⟨b,5,U⟩=F_ (GZ G6 ph):=ar q 5;have yf5:=al q 5;clear q;clear hs hg HP9 HPA rb8;go_wp2_with fail
      go_meet
      exact⟨rfl,HPB.up af⟩
     have q72:(r7==2)=G_:=by simp[h2]
     clear h0 h1 h2;have HPB:=ae (HP9.set.2.2.1 ⟨#[110,49]⟩ ah);obtain⟨n,c,z,lv,zs,d,ph,q,-⟩:=HP9.out;have y0:w7.cell? ⟨b,0,U⟩=F_ (I n):=ar q 0;have yf0:=al q 0;have y1:w7.cell? ⟨b,1,U⟩=F_ (GZ G6 c):=ar q 1;have yf1:=al q 1;have y2:w7.cell? ⟨b,2,U⟩=F_ (I z):=ar q 2;have yf2:=al q 2;have y3:w7.cell? ⟨b,3,U⟩=F_ (lv):=ar q 3;have yf3:=al q 3;have y4:w7.cell? ⟨b,4,U⟩=F_ (I d):=ar q 4;have yf4:=al q 4;have y5:w7.cell? ⟨b,5,U⟩=F_ (GZ G6 ph):=ar q 5;have yf5:=al q 5;clear q;clear HP9;go_wp2_with fail
     go_meet
     exact⟨rfl,HPB.up af⟩
   case rest=>
    obtain⟨rfl,hP⟩:=hcut;clear HP8;obtain⟨n,c,z,lv,zs,d,ph,h1,h2,h3,h4,h5,h6,h7,h8⟩:=hP;have hbn:¬b=w.heap.size:=af
    have y0:wc.cell? ⟨b,0,U⟩=F_ (I n):=ar h1 0;have yf0:=al h1 0;have y1:wc.cell? ⟨b,1,U⟩=F_ (GZ G6 c):=ar h1 1;have yf1:=al h1 1;have y2:wc.cell? ⟨b,2,U⟩=F_ (I z):=ar h1 2;have yf2:=al h1 2;have y3:wc.cell? ⟨b,3,U⟩=F_ (lv):=ar h1 3;have yf3:=al h1 3;have y4:wc.cell? ⟨b,4,U⟩=F_ (I d):=ar h1 4;have yf4:=al h1 4;have y5:wc.cell? ⟨b,5,U⟩=F_ (GZ G6 ph):=ar h1 5;have yf5:=al h1 5;have z0:wc.cell? ⟨w.heap.size,0,U⟩=F_ (I ⟨#[]⟩):=ar h7 0;have zf0:=al h7 0;have z1:wc.cell? ⟨w.heap.size,1,U⟩=F_ (GZ G6 0):=ar h7 1;have zf1:=al h7 1;have z2:wc.cell? ⟨w.heap.size,2,U⟩=F_ (I ⟨#[]⟩):=ar h7 2;have zf2:=al h7 2;have z3:wc.cell? ⟨w.heap.size,3,U⟩=F_ (J U 0 0):=ar h7 3;have zf3:=al h7 3;have z4:wc.cell? ⟨w.heap.size,4,U⟩=F_ (I ⟨#[]⟩):=ar h7 4;have zf4:=al h7 4;have z5:wc.cell? ⟨w.heap.size,5,U⟩=F_ (GZ G6 0):=ar h7 5;have zf5:=al h7 5;have hne:=kf h5 h7;have k5:=((((((h5.kept (bL _ w.heap.size 0 (I n)) (Hd hne)).kept (bL _ w.heap.size 1 (GZ G6 c)) (Hd hne)).kept (bL _ w.heap.size 2 (I z)) (Hd hne)).kept (bL _ w.heap.size 3 (lv)) (Hd hne)).kept (bL _ w.heap.size 4 (I d)) (Hd hne)).kept (bL _ w.heap.size 5 (GZ G6 ph)) (Hd hne));have HD:=ae (((((((h6.set (b:=w.heap.size) (i:=0) (I n) (Fq _)).set (b:=w.heap.size) (i:=1) (GZ G6 c) (Fq _)).set (b:=w.heap.size) (i:=2) (I z) (Fq _)).set (b:=w.heap.size) (i:=3) (lv) (Fq _)).set (b:=w.heap.size) (i:=4) (I d) (Fq _)).set (b:=w.heap.size) (i:=5) (GZ G6 ph) (Fq _)));obtain⟨a,l,cp,rfl,hx,hx2,hx3⟩:=Aj k5 h4;have HX:=ae (Fk hx (Fk hx2 h2));have HX3:=ae (Fk hx3 (Fk h3 h4));clear hx hx2 hx3 h2 h1 h7 h5 h6 k5 hne h3 h4;go_wp2_with fail;exact bodyPost_ret (v:=Hc #[I n,GZ G6 c,I z,J a l cp,I d,GZ G6 ph]) (by simp[results,Tryz.results63,go_sem, *]) rfl ⟨n,c,z,a,l,cp,zs,d,ph,rfl,HX.2.2.1,HX.2.2.2.1,HX.2.2.2.2,HX.1,HX.2.1,HX3.1,HX3.2.1,HX3.2.2,HD.out⟩
end Dk
namespace Rc
def jG(w:World) (p:Nat):Prop:=∀(i:Nat) (t:ByteArray),w.cell? ⟨p,i,U⟩≠F_ (I t)
theorem cell_kept(hb:aL S w w') {b o:Nat} (h:b<w.heap.size) (hs:¬S b):w'.cell? ⟨b,o,U⟩=w.cell? ⟨b,o,U⟩:=by
 simp[Gc,hb.block b h hs]
theorem aD.bP {p:Nat} (h:aD w a len cap zs) (hn:jG w p) (hb:aL (λk=>k=p) w w'):aD w' a len cap zs:=by
 obtain⟨h1,h2,h3,h4,h5⟩:=h;refine⟨h1,h2,h3,h4,?_⟩;rcases h5 with h5|⟨b,o,rfl,hl,hc⟩
 ·exact He h5
 ·by_cases hz:zs=[]
  ·exact He hz
  refine Hd ⟨b,o,rfl,Fw hl hb.size,λj x hx=>?_⟩;have hbp:¬b=p:=λe=>by
   subst e;exact hn _ _ (hc j x hx)
  exact (cell_kept hb hl hbp).trans (hc j x hx)
theorem Fv.Is.bP {p:Nat} {f:Fv} (h:f.Is w v) (hn:jG w p) (hb:aL (λk=>k=p) w w'):f.Is w' v:=by
 cases f with
 | l zs=>obtain⟨a,len,cap,h1,h2⟩:=h;exact⟨a,len,cap,h1,aD.bP h2 hn hb⟩
 | _=>exact h
def zL(rs:List (List Fv)):Prop:=∀(j:Nat) r,rs[j]?=F_ r->∃t,r[0]?=F_ (.s t)
theorem a_.bP {p:Nat} {rs:List (List Fv)} (h:a_ w a len cap m rs) (hr:zL rs) (hn:jG w p) (hb:aL (λk=>k=p) w w'):a_ w' a len cap m rs:=by
 obtain⟨h1,h2,h3,h5⟩:=h;refine⟨h1,h2,h3,?_⟩;rcases h5 with h5|⟨b,o,rfl,hl,hc⟩
 ·exact He h5
 refine Hd ⟨b,o,rfl,Fw hl hb.size,λj r hj=>?_⟩;obtain⟨t,ht⟩:=hr j r hj;have hbp:¬b=p:=λe=>by
  subst e;obtain⟨v,e1,e2⟩:=hc j r hj 0 _ ht;obtain⟨rfl,_⟩:=e2;exact hn _ _ e1
 intro i f hi;obtain⟨v,e1,e2⟩:=hc j r hj i f hi;exact⟨v,(cell_kept hb hl hbp).trans e1,e2.bP hn hb⟩
theorem cr {F:α->List Fv} (h:∀x,∃t,(F x)[0]?=F_ (.s t)) (xs:List α):zL (xs.map F):=by
 exact xr
theorem aE.bP {p:Nat} (h:aE w d c.raw) (hn:jG w p) (hb:aL (λk=>k=p) w w'):aE w' d c.raw:=
 ⟨h.n.bP (cr (λx=>⟨x.n,rfl⟩) c.ns) hn hb,h.k.bP (cr (λx=>⟨x.n,rfl⟩) c.ks) hn hb,h.v.bP (cr (λx=>⟨x.n,rfl⟩) c.vs) hn hb,h.x.bP (cr (λx=>⟨x.n,rfl⟩) c.xs) hn hb,h.p.bP (cr (λx=>⟨x.n,rfl⟩) c.ps) hn hb⟩
def Ak(w:World) (v v':Value):Prop:=v'=v\/((∃t,v=I t)/\∃t:ByteArray,v'=I t/\t.size<=9223372036854775807)\/((∃n,v=GZ G6 n)/\∃n,v'=GZ G6 n)\/((∃x,v=G8 x)/\∃x,v'=G8 x)\/
 ((∃a l c,v=J a l c)/\∃a l c zs,v'=J a l c/\aD w a l c zs)
structure Kin (w w':World):Prop where
 size:w.heap.size<=w'.heap.size
 cell:∀b i v,b<w.heap.size->w.cell? ⟨b,i,U⟩=F_ v->∃v',w'.cell? ⟨b,i,U⟩=F_ v'/\Ak w' v v'
theorem gf(P:Nat->α->Prop):∀n:Nat,(∀j,j<n->∃x,P j x)->∃l:List α,l.length=n/\∀(j:Nat) x,l[j]?=F_ x->P j x
 | 0,_=>⟨[],rfl,λj x h=>by cases h⟩
 | n+1,h=>by
  obtain⟨l,h1,h2⟩:=gf P n (λj hj=>h j af);obtain⟨y,hy⟩:=h n af;refine⟨l++[y],by simp[h1],λj x hj=>?_⟩;by_cases e:j<n
  ·rw[FI af] at hj;exact h2 j x hj
  ·rw[List.getElem?_append_right af] at hj;have e2:j - l.length=0:=by
    have:=(Fm.1 hj).1;simp at this;omega
   rw[e2] at hj;obtain rfl:y=x:=by simpa using hj
   obtain rfl:j=n:=af
   exact hy
theorem aD.tk(h:aD w a len cap zs) (hk:Kin w w'):∃zs',zs'.length=zs.length/\aD w' a len cap zs':=by
 obtain⟨h1,h2,h3,h4,h5⟩:=h;rcases h5 with rfl|⟨b,o,rfl,hl,hc⟩
 ·exact⟨[],rfl,h1,h2,h3,λj x h=>bY,He rfl⟩
 obtain⟨l,e1,e2⟩:=gf (λj (t:ByteArray)=>w'.cell? ⟨b,o+j,U⟩=F_ (I t)/\t.size<=9223372036854775807) zs.length (λj hj=>by
  have hz:zs[j]?=F_ zs[j]:=Fu hj;obtain⟨v',g1,g2⟩:=hk.cell b (o+j) _ hl (hc j _ hz)
  rcases g2 with rfl|⟨_,t,rfl,ht⟩|⟨⟨_,g⟩,_⟩|⟨⟨_,g⟩,_⟩|⟨⟨_,_,_,g⟩,_⟩
  ·exact⟨_,g1,h4 j _ hz⟩
  ·exact⟨t,g1,ht⟩
  ·cases g
  ·cases g
  ·cases g)
 exact⟨l,e1,e1.trans h1,h2,h3,λj x hj=>(e2 j x hj).2,Hd ⟨b,o,rfl,Fw hl hk.size,λj x hj=>(e2 j x hj).1⟩⟩
def Fv.l9:Fv->Fv->Prop
 | .s _,.s _=>True
 | .i _,.i _=>True
 | .b _,.b _=>True
 | .l _,.l _=>True
 | _,_=>False
theorem Fv.Is.tk {f:Fv} (h:f.Is w v) (hk:Kin w w') (ha:Ak w' v v'):∃f',Fv.l9 f f'/\f'.Is w' v':=by
 cases f with
 | s t=>
  obtain⟨rfl,ht⟩:=h
  rcases ha with rfl|⟨_,t,rfl,ht⟩|⟨⟨_,g⟩,_⟩|⟨⟨_,g⟩,_⟩|⟨⟨_,_,_,g⟩,_⟩
  ·exact⟨.s t,trivial,rfl,ht⟩
  ·exact⟨.s t,trivial,rfl,ht⟩
  all_goals cases g
 | i n=>
  obtain rfl:=h
  rcases ha with rfl|⟨⟨_,g⟩,_⟩|⟨_,n,rfl⟩|⟨⟨_,g⟩,_⟩|⟨⟨_,_,_,g⟩,_⟩
  ·exact⟨.i n,trivial,rfl⟩
  ·cases g
  ·exact⟨.i n,trivial,rfl⟩
  all_goals cases g
 | b x=>
  obtain rfl:=h
  rcases ha with rfl|⟨⟨_,g⟩,_⟩|⟨⟨_,g⟩,_⟩|⟨_,x,rfl⟩|⟨⟨_,_,_,g⟩,_⟩
  ·exact⟨.b x,trivial,rfl⟩
  ·cases g
  ·cases g
  ·exact⟨.b x,trivial,rfl⟩
  ·cases g
 | l zs=>
  obtain⟨a,len,cap,rfl,ht⟩:=h
  rcases ha with rfl|⟨⟨_,g⟩,_⟩|⟨⟨_,g⟩,_⟩|⟨⟨_,g⟩,_⟩|⟨_,a,l,c,zs,rfl,ht⟩
  ·obtain⟨zs',_,h2⟩:=aD.tk ht hk;exact⟨.l zs',trivial,_,_,_,rfl,h2⟩
  ·cases g
  ·cases g
  ·cases g
  ·exact⟨.l zs,trivial,_,_,_,rfl,ht⟩
def fF(r r':List Fv):Prop:=r'.length=r.length/\∀(i:Nat) f f',r[i]?=F_ f->r'[i]?=F_ f'->Fv.l9 f f'
theorem RAt.tk {o:Nat} {r:List Fv} (h:RAt w b o r) (hl:b<w.heap.size) (hk:Kin w w'):∃r',fF r r'/\RAt w' b o r':=by
 obtain⟨l,e1,e2⟩:=gf (λi (f':Fv)=>(∀f,r[i]?=F_ f->Fv.l9 f f')/\∃v',w'.cell? ⟨b,o+i,U⟩=F_ v'/\f'.Is w' v') r.length (λi hi=>by
  have hr:r[i]?=F_ r[i]:=Fu hi;obtain⟨v,g1,g2⟩:=h i _ hr;obtain⟨v',g3,g4⟩:=hk.cell b (o+i) _ hl g1;obtain⟨f',g5,g6⟩:=g2.tk hk g4
  exact⟨f',λf hf=>by rw[hr] at hf;obtain rfl:=Fp hf;exact g5,v',g3,g6⟩)
 exact⟨l,⟨e1,λi f f' hf hf'=>(e2 i f' hf').1 f hf⟩,λi f hi=>(e2 i f hi).2⟩
theorem a_.tk {rs:List (List Fv)} (h:a_ w a len cap m rs) (hk:Kin w w'):∃rs',rs'.length=rs.length/\(∀(j:Nat) r r',rs[j]?=F_ r->rs'[j]?=F_ r'->fF r r')/\a_ w' a len cap m rs':=by
 obtain⟨h1,h2,h3,h5⟩:=h;rcases h5 with rfl|⟨b,o,rfl,hl,hc⟩
 ·exact⟨[],rfl,λ_ _ _ h=>bY,h1,h2,h3,He rfl⟩
 obtain⟨l,e1,e2⟩:=gf (λj (r':List Fv)=>(∀r,rs[j]?=F_ r->fF r r')/\RAt w' b (o+j*m) r') rs.length (λj hj=>by
  have hr:rs[j]?=F_ rs[j]:=Fu hj;obtain⟨r',g1,g2⟩:=(hc j _ hr).tk hl hk
  exact⟨r',λr h=>by rw[hr] at h;obtain rfl:=Fp h;exact g1,g2⟩)
 exact⟨l,e1,λj r r' hr hr'=>(e2 j r' hr').1 r hr,e1.trans h1,h2,h3,Hd ⟨b,o,rfl,Fw hl hk.size,λj r hj=>(e2 j r hj).2⟩⟩
theorem jg {F:α->List Fv} (hF:∀x r',fF (F x) r'->∃y,r'=F y):∀(xs:List α) (rs':List (List Fv)),rs'.length=(xs.map F).length->(∀(j:Nat) r r',(xs.map F)[j]?=F_ r->rs'[j]?=F_ r'->fF r r')->∃ys:List α,ys.length=xs.length/\rs'=ys.map F
 | [],rs',h,_=>⟨[],rfl,by simpa using h⟩
 | x ::xs,[],h,_=>by simp at h
 | x ::xs,r' ::rs',h,hl=>by
  obtain⟨y,rfl⟩:=hF x r' (hl 0 _ _ rfl rfl);obtain⟨ys,h1,rfl⟩:=jg hF xs rs' hM (λj r q h1 h2=>hl (j+1) r q h1 h2);exact⟨y ::ys,by simp[h1],rfl⟩
theorem dt {f:Fv} (h:Fv.l9 (.s t) f):∃x,f=.s x:=by cases f <;> first|exact⟨_,rfl⟩|exact h.elim
theorem gN {n:Int} {f:Fv} (h:Fv.l9 (.i n) f):∃x,f=.i x:=by cases f <;> first|exact⟨_,rfl⟩|exact h.elim
theorem ji {b:Bool} {f:Fv} (h:Fv.l9 (.b b) f):∃x,f=.b x:=by cases f <;> first|exact⟨_,rfl⟩|exact h.elim
theorem qn {f:Fv} (h:Fv.l9 (.l zs) f):∃x,f=.l x:=by cases f <;> first|exact⟨_,rfl⟩|exact h.elim
theorem Am(x:Nd) (r':List Fv) (h:fF (ndF x) r'):∃y,r'=ndF y:=by
 obtain⟨h1,h2⟩:=h;match r',h1 with
 | [f0,f1,f2,f3,f4,f5,f6],_=>
  obtain⟨a,rfl⟩:=dt (h2 0 _ _ rfl rfl);obtain⟨b,rfl⟩:=dt (h2 1 _ _ rfl rfl);obtain⟨c,rfl⟩:=gN (h2 2 _ _ rfl rfl);obtain⟨d,rfl⟩:=gN (h2 3 _ _ rfl rfl);obtain⟨e,rfl⟩:=gN (h2 4 _ _ rfl rfl);obtain⟨f,rfl⟩:=ji (h2 5 _ _ rfl rfl);obtain⟨g,rfl⟩:=qn (h2 6 _ _ rfl rfl);exact⟨⟨a,b,c,d,e,f,g⟩,rfl⟩
theorem As(x:Kd) (r':List Fv) (h:fF (kdF x) r'):∃y,r'=kdF y:=by
 obtain⟨h1,h2⟩:=h;match r',h1 with
 | [f0,f1,f2,f3],_=>
  obtain⟨a,rfl⟩:=dt (h2 0 _ _ rfl rfl);obtain⟨b,rfl⟩:=ji (h2 1 _ _ rfl rfl);obtain⟨c,rfl⟩:=ji (h2 2 _ _ rfl rfl);obtain⟨d,rfl⟩:=dt (h2 3 _ _ rfl rfl);exact⟨⟨a,b,c,d⟩,rfl⟩
theorem zU(x:Vd) (r':List Fv) (h:fF (vdF x) r'):∃y,r'=vdF y:=by
 obtain⟨h1,h2⟩:=h;match r',h1 with
 | [f0,f1,f2,f3,f4,f5,f6,f7],_=>
  obtain⟨a,rfl⟩:=dt (h2 0 _ _ rfl rfl);obtain⟨b,rfl⟩:=gN (h2 1 _ _ rfl rfl);obtain⟨c,rfl⟩:=dt (h2 2 _ _ rfl rfl);obtain⟨d,rfl⟩:=dt (h2 3 _ _ rfl rfl);obtain⟨e,rfl⟩:=ji (h2 4 _ _ rfl rfl);obtain⟨f,rfl⟩:=dt (h2 5 _ _ rfl rfl);obtain⟨g,rfl⟩:=ji (h2 6 _ _ rfl rfl);obtain⟨i,rfl⟩:=qn (h2 7 _ _ rfl rfl);exact⟨⟨a,b,c,d,e,f,g,i⟩,rfl⟩
theorem zQ(x:Xd) (r':List Fv) (h:fF (xdF x) r'):∃y,r'=xdF y:=by
 obtain⟨h1,h2⟩:=h;match r',h1 with
 | [f0,f1,f2,f3,f4],_=>
  obtain⟨a,rfl⟩:=dt (h2 0 _ _ rfl rfl);obtain⟨b,rfl⟩:=gN (h2 1 _ _ rfl rfl);obtain⟨c,rfl⟩:=dt (h2 2 _ _ rfl rfl);obtain⟨d,rfl⟩:=ji (h2 3 _ _ rfl rfl);obtain⟨e,rfl⟩:=dt (h2 4 _ _ rfl rfl);exact⟨⟨a,b,c,d,e⟩,rfl⟩
theorem Ah(x:Pd) (r':List Fv) (h:fF (pdF x) r'):∃y,r'=pdF y:=by
 obtain⟨h1,h2⟩:=h;match r',h1 with
 | [f0,f1,f2,f3,f4,f5],_=>
  obtain⟨a,rfl⟩:=dt (h2 0 _ _ rfl rfl);obtain⟨b,rfl⟩:=gN (h2 1 _ _ rfl rfl);obtain⟨c,rfl⟩:=dt (h2 2 _ _ rfl rfl);obtain⟨d,rfl⟩:=qn (h2 3 _ _ rfl rfl);obtain⟨e,rfl⟩:=dt (h2 4 _ _ rfl rfl);obtain⟨f,rfl⟩:=gN (h2 5 _ _ rfl rfl);exact⟨⟨a,b,c,d,e,f⟩,rfl⟩
def Ld(c c':Cl):Prop:=c'.ns.length=c.ns.length/\c'.ks.length=c.ks.length/\c'.vs.length=c.vs.length/\c'.xs.length=c.xs.length/\c'.ps.length=c.ps.length/\c'.now=c.now
theorem aE.tk(h:aE w d c.raw) (hk:Kin w w'):∃c':Cl,Ld c c'/\aE w' d c'.raw:=by
 obtain⟨r1,a1,b1,e1⟩:=h.n.tk hk;obtain⟨r2,a2,b2,e2⟩:=h.k.tk hk;obtain⟨r3,a3,b3,e3⟩:=h.v.tk hk;obtain⟨r4,a4,b4,e4⟩:=h.x.tk hk;obtain⟨r5,a5,b5,e5⟩:=h.p.tk hk;exact B8
theorem UF.draw {p:Nat} (h:UF w g) (hs:Src B w0 p v len w') (hg:w.grownBy w' (F_ p)):UF w' g:=by
 obtain⟨cs,T,h⟩:=h;by_cases e:g=p
 ·subst e;obtain⟨_,_,_,_,_,k,m,sz,_,_,_,_,_,hb⟩:=hs;exact⟨_,_,hb⟩
 ·exact⟨cs,T,gk hg e h⟩
theorem aZ {p:Nat} (h:w.grownBy w' (F_ p)):aL (λk=>k=p) w w':=⟨h.os,h.tape,h.output,h.size,λk hk hn=>h.block k hk (λe=>hn (Fp e))⟩
theorem bW {p:Nat} (h:Src B w0 p v len w):jG w p:=by
 obtain⟨_,_,_,_,⟨_,a0,cap,rfl,_⟩,k,m,sz,_,_,_,_,_,hb⟩:=h;intro i t e;rw[ar hb i] at e;rcases i with _|_|_|_|i <;> simp at e
theorem cE {now:Int} (h:w.heap[b]?=F_ (G7 #[J d.a1 d.l1 d.c1,J d.a2 d.l2 d.c2,J d.a3 d.l3 d.c3,J d.a4 d.l4 d.c4,J d.a5 d.l5 d.c5,GZ G6 now] T (0,0))):jG w b:=by
 intro i t e;rw[ar h i] at e;rcases i with _|_|_|_|_|_|i <;> simp at e
theorem oy(h:w.cell? ⟨b,i,U⟩=F_ v):(w.setCell ⟨b,i,U⟩ v').cell? ⟨b,i,U⟩=F_ v':=by
 cases hg:w.heap[b]? with
 | none=>simp[Gc,hg] at h
 | some o=>
  cases o with
  | cells cs t fr=>
   have:=az (i:=i) hg v'
   simp[Gc,hg] at h
   simp only[Gc,this];have hi:i<cs.size:=(FJ.1 h).1
   simp[hi]
  | _=>simp[Gc,hg] at h
theorem fx(h:¬(k=b/\j=i)):(w.setCell ⟨b,i,U⟩ v).cell? ⟨k,j,U⟩=w.cell? ⟨k,j,U⟩:=by
 by_cases e:k=b
 ·subst e;exact ow (λe=>h ⟨rfl,e.symm⟩)
 ·simp[Gc,Fl w ⟨b,i,U⟩ v k e]
theorem aD.set(hc:w.cell? ⟨b,i,U⟩=F_ v) (hv:∀t,v≠I t) {a:Option Addr} {len cap:Nat} {zs:List ByteArray} (h:aD w a len cap zs):aD (w.setCell ⟨b,i,U⟩ v') a len cap zs:=by
 obtain⟨h1,h2,h3,h4,h5⟩:=h;refine⟨h1,h2,h3,h4,?_⟩;rcases h5 with h5|⟨k,o,rfl,hl,hx⟩
 ·exact He h5
 refine Hd ⟨k,o,rfl,by simpa[Gb] using hl,λj x hj=>(fx (λe=>?_)).trans (hx j x hj)⟩;obtain⟨rfl,e2⟩:=e;have:=hx j x hj;rw[e2,hc] at this;exact hv _ (Fp this)
theorem Kin.set(hc:w.cell? ⟨b,i,U⟩=F_ v) (ha:Ak (w.setCell ⟨b,i,U⟩ v') v v'):Kin w (w.setCell ⟨b,i,U⟩ v'):=by
 refine⟨by simp[Gb],λk j u hk hu=>?_⟩;by_cases e:k=b/\j=i
 ·obtain⟨rfl,rfl⟩:=e;rw[hc] at hu;obtain rfl:=Fp hu;exact⟨v',oy hc,ha⟩
 ·exact⟨u,(fx e).trans hu,He rfl⟩
theorem cn {p:Nat} (h:Src B w0 p v len w):Src B w0 p v len w.drew:=h.aB (row:=U) ⟨rfl,rfl,rfl,Fq _,λ_ _ _=>rfl⟩ (by simp) (λk hk=>by cases hk)
theorem bf(w:World):Below w.heap.size w w.drew:=⟨rfl,rfl,rfl,Fq _,λ_ _=>rfl⟩
theorem iC {p:Nat} (h:Dr B w0 p v len wa w):Dr B w0 p v len wa w.drew:=h.below (bf _)
structure gw (B:Nat) (w0:World) (p:Nat) (v:Value) (len:Nat) (X b:Nat) (c:Cl) (w w':World) (d:Ad) (c':Cl):Prop where
 blk:w'.heap[b]?=F_ (G7 (clv d c'.now) 29 (0,0))
 row:aE w' d c'.raw
 low:Low X w' d
 src:Src B w0 p v len w'
 kept:aL (λk=>k=p\/X<=k) w w'
 ld:c'.ps.length=c.ps.length
section
variable {B:Nat} {w0:World} {p:Nat} {v:Value} {len X b:Nat} {c:Cl} {w w1 w2:World} {d:Ad} {c':Cl}
theorem gw.draw(h:gw B w0 p v len X b c w w1 d c') (hbp:¬b=p) (hs:Src B w0 p v len w2) (hg:w1.grownBy w2 (F_ p)):gw B w0 p v len X b c w w2 d c':=
 ⟨gk hg hbp h.blk,h.row.bP (bW h.src) (aZ hg),h.low.to (Fq _) (λ_ u=>u.draw hs hg),hs,h.kept.trans ((aZ hg).mono λ_ e=>He e),h.ld⟩
theorem gw.alloc(h:gw B w0 p v len X b c w w1 d c') (o:Obj):gw B w0 p v len X b c w (w1.alloc o) d c':=
 ⟨(Fy _ _ _ (aa h.blk)).trans h.blk,h.row.below (aq _ _),h.low.to (Fq _) (λ_ u=>u.below (aq _ _)),h.src.aB (bV _ _ U) aH aH,h.kept.below (aq _ _),h.ld⟩
theorem gw.set(h:gw B w0 p v len X b c w w1 d c') (hX:B<=X) {g i:Nat} {u u':Value} (hc:w1.cell? ⟨g,i,U⟩=F_ u) (ha:Ak (w1.setCell ⟨g,i,U⟩ u') u u') (hg:X<=g) (hgb:¬g=b) (hgp:¬g=p):∃c2:Cl,gw B w0 p v len X b c w (w1.setCell ⟨g,i,U⟩ u') d c2:=by
 obtain⟨c2,hl,hr⟩:=h.row.tk (Kin.set hc ha);refine⟨c2,?_,hr,h.low.to (Fq _) (λ_ q=>q.set),h.src.aB (bL w1 g i u') (λe=>hgp (Fp e)) (λk e=>by have:=Fp e;omega),h.kept.set (Hd hg),hl.2.2.2.2.1.trans h.ld⟩;rw[Fl _ _ _ _ (λe=>hgb e.symm),h.blk];have e:=hl.2.2.2.2.2;rw[e]
end
def E9(w:World) (p:Nat):Prop:=∀(i:Nat) v,w.cell? ⟨p,i,U⟩=F_ v->i<8/\((∃t,v=I t)->i=6)
structure zJ (p:Nat) (w w':World):Prop where
 kept:aL (λk=>k=p) w w'
 was:E9 w p
 now:∃t:ByteArray,w'.cell? ⟨p,6,U⟩=F_ (I t)/\t.size<=9223372036854775807
theorem aD.res {p:Nat} (h:aD w a len cap zs) (hk:zJ p w w'):∃zs',zs'.length=zs.length/\aD w' a len cap zs':=by
 obtain⟨h1,h2,h3,h4,h5⟩:=h;rcases h5 with rfl|⟨b,o,rfl,hl,hc⟩
 ·exact⟨[],rfl,h1,h2,h3,λj x h=>bY,He rfl⟩
 by_cases hbp:b=p
 ·subst hbp;match zs,h1,h4,hc with
  | [],h1,h4,hc=>exact⟨[],rfl,h1,h2,h3,h4,He rfl⟩
  | [x],h1,h4,hc=>
   obtain⟨t,e1,e2⟩:=hk.now;have e6:o+0=6:=(hk.was _ _ (hc 0 x rfl)).2 ⟨x,rfl⟩;refine⟨[t],rfl,h1,h2,h3,λj y hj=>?_,Hd ⟨b,o,rfl,Fw hl hk.kept.size,λj y hj=>?_⟩⟩
   ·rcases j with _|j
    ·cases hj;exact e2
    ·cases hj
   ·rcases j with _|j
    ·cases hj;rw[e6];exact e1
    ·cases hj
  | x ::y ::zs,h1,h4,hc=>
   exfalso
   have e6:o+0=6:=(hk.was _ _ (hc 0 x rfl)).2 ⟨x,rfl⟩;have e7:o+1=6:=(hk.was _ _ (hc 1 y rfl)).2 ⟨y,rfl⟩
   omega
 ·exact⟨zs,rfl,h1,h2,h3,h4,Hd ⟨b,o,rfl,Fw hl hk.kept.size,λj x hj=>(cell_kept hk.kept hl hbp).trans (hc j x hj)⟩⟩
theorem Fv.Is.res {p:Nat} {f:Fv} (h:f.Is w v) (hk:zJ p w w'):∃f',Fv.l9 f f'/\f'.Is w' v:=by
 cases f with
 | l zs=>
  obtain⟨a,len,cap,rfl,ht⟩:=h;obtain⟨zs',_,h2⟩:=aD.res ht hk;exact⟨.l zs',trivial,_,_,_,rfl,h2⟩
 | s t=>exact⟨.s t,trivial,h⟩
 | i n=>exact⟨.i n,trivial,h⟩
 | b x=>exact⟨.b x,trivial,h⟩
def zK(rs:List (List Fv)):Prop:=∀(j:Nat) r,rs[j]?=F_ r->∃t f,r[0]?=F_ (.s t)/\r[2]?=F_ f
theorem eB {F:α->List Fv} (h:∀x,∃t f,(F x)[0]?=F_ (.s t)/\(F x)[2]?=F_ f) (xs:List α):zK (xs.map F):=by
 exact xr
theorem a_.res {p:Nat} {rs:List (List Fv)} (h:a_ w a len cap m rs) (hn:zK rs) (hk:zJ p w w'):∃rs',rs'.length=rs.length/\(∀(j:Nat) r r',rs[j]?=F_ r->rs'[j]?=F_ r'->fF r r')/\a_ w' a len cap m rs':=by
 obtain⟨h1,h2,h3,h5⟩:=h;rcases h5 with rfl|⟨b,o,rfl,hl,hc⟩
 ·exact⟨[],rfl,λ_ _ _ h=>bY,h1,h2,h3,He rfl⟩
 obtain⟨l,e1,e2⟩:=gf (λj (r':List Fv)=>(∀r,rs[j]?=F_ r->fF r r')/\RAt w' b (o+j*m) r') rs.length (λj hj=>by
  have hr:rs[j]?=F_ rs[j]:=Fu hj;have hat:=hc j _ hr
  have hbp:¬b=p:=λe=>by
   subst e;obtain⟨t,f,g1,g2⟩:=hn j _ hr;obtain⟨v,q1,q2,_⟩:=hat 0 _ g1;have q6:=(hk.was _ _ q1).2 ⟨t,q2⟩;obtain⟨v2,q3,_⟩:=hat 2 _ g2;have q8:=(hk.was _ _ q3).1
   omega
  obtain⟨l,d1,d2⟩:=gf (λi (f':Fv)=>(∀f,rs[j][i]?=F_ f->Fv.l9 f f')/\∃v',w'.cell? ⟨b,o+j*m+i,U⟩=F_ v'/\f'.Is w' v') rs[j].length (λi hi=>by
   have hf:rs[j][i]?=F_ rs[j][i]:=Fu hi;obtain⟨v,g1,g2⟩:=hat i _ hf;obtain⟨f',g5,g6⟩:=g2.res hk
   exact⟨f',λf hf'=>by rw[hf] at hf';obtain rfl:=Fp hf';exact g5,v,(cell_kept hk.kept hl hbp).trans g1,g6⟩)
  exact⟨l,λr h=>by
   rw[hr] at h;obtain rfl:=Fp h
   exact⟨d1,λi f f' hf hf'=>(d2 i f' hf').1 f hf⟩,λi f hi=>(d2 i f hi).2⟩)
 exact⟨l,e1,λj r r' hr hr'=>(e2 j r' hr').1 r hr,e1.trans h1,h2,h3,Hd ⟨b,o,rfl,Fw hl hk.kept.size,λj r hj=>(e2 j r hj).2⟩⟩
theorem aE.res {p:Nat} (h:aE w d c.raw) (hk:zJ p w w'):∃c':Cl,Ld c c'/\aE w' d c'.raw:=by
 obtain⟨r1,a1,b1,e1⟩:=h.n.res (eB (λx=>⟨_,_,rfl,rfl⟩) c.ns) hk;obtain⟨r2,a2,b2,e2⟩:=h.k.res (eB (λx=>⟨_,_,rfl,rfl⟩) c.ks) hk;obtain⟨r3,a3,b3,e3⟩:=h.v.res (eB (λx=>⟨_,_,rfl,rfl⟩) c.vs) hk;obtain⟨r4,a4,b4,e4⟩:=h.x.res (eB (λx=>⟨_,_,rfl,rfl⟩) c.xs) hk;obtain⟨r5,a5,b5,e5⟩:=h.p.res (eB (λx=>⟨_,_,rfl,rfl⟩) c.ps) hk;exact B8
def mB(Is:Co->Prop) (w:World) (e:Ending) (w':World):Prop:=∃g o,e=Ha (Hc #[J g.a1 g.l1 g.c1,J g.a2 g.l2 g.c2,J g.a3 g.l3 g.c3,J g.a4 g.l4 g.c4,J g.a5 g.l5 g.c5,GZ G6 o.c.now,I o.n,GZ G6 o.p])/\Is o/\cV w' g o.c.raw (λk=>w.heap.size<=k)/\Below w.heap.size w w'
theorem gQ(w:World) (S:Nat->Prop):cV w ad0 cl0.raw S:=⟨aA.nil _ _ _ _ _ (by decide),aA.nil _ _ _ _ _ (by decide),aA.nil _ _ _ _ _ (by decide),aA.nil _ _ _ _ _ (by decide),aA.nil _ _ _ _ _ (by decide)⟩
theorem mB.l(h:mB Is w e w'):fS Is w e w':=by
 obtain⟨g,o,h1,h2,h3,h4⟩:=h;exact⟨g,o,h1,h2,h3.rl (λ_ s=>s),h4⟩
theorem sX(d:Ad) (c:Cl) (x:Vd) (va:Option Addr) (vl vc:Nat) (w:World) (hr:aE w d c.raw) (hx:aD w va vl vc x.zs) (z0:x.n.size<=9223372036854775807) (z2:x.z.size<=9223372036854775807) (z3:x.k.size<=9223372036854775807) (z5:x.m.size<=9223372036854775807) (hn:¬(x.m=⟨#[]⟩/\x.y=G_/\x.zs=[])):
  Calls Tryz.prog 58 #[Hc #[J d.a1 d.l1 d.c1,J d.a2 d.l2 d.c2,J d.a3 d.l3 d.c3,J d.a4 d.l4 d.c4,J d.a5 d.l5 d.c5,GZ G6 c.now],Hc #[I x.n,GZ G6 x.c,I x.z,I x.k,G8 x.x,I x.m,G8 x.y,J va vl vc]] w (mB (bm c x) w):=by
 have HR:=ae hr;have HX:=ae hx;have hxl:x.zs.length=vl:=hx.1;have HB:=ae (Ft w.heap.size w);have HV:Hid (bm c x (co0 1)):=He ⟨1,λh=>hn h.2.2,rfl⟩;have HZ:=ae (show x.n.size<=9223372036854775807/\x.z.size<=9223372036854775807/\x.k.size<=9223372036854775807/\x.m.size<=9223372036854775807 from ⟨z0,z2,z3,z5⟩);clear hr hx z0 z2 z3 z5;obtain⟨xn,xc,xz,xk,xs,xm,xy,zs⟩:=x;dsimp only at hn hxl HZ HX ⊢;obtain⟨Is,hIs⟩:∃Is,Is=bm c ⟨xn,xc,xz,xk,xs,xm,xy,zs⟩:=⟨_,rfl⟩;rw[<-hIs] at HV ⊢;clear hIs;have hw:(¬xm=⟨#[]⟩)\/(xm=⟨#[]⟩/\xy=Hb)\/(xm=⟨#[]⟩/\xy=G_/\¬vl=0):=by
  by_cases h1:xm=⟨#[]⟩
  ·cases xy
   ·exact Hd (Hd ⟨h1,rfl,λh=>hn ⟨h1,rfl,F6 (hxl.trans h)⟩⟩)
   ·exact Hd (He ⟨h1,rfl⟩)
  ·exact He h1
 clear hn hxl;rcases hw with hm|⟨rfl,rfl⟩|⟨rfl,rfl,hv⟩;rotate_left;rotate_left;have hv1:(0:Int)<(vl:Int):=af
 have hv2:0<vl:=af
 clear hv;rotate_left;have hq:=bg hm;clear hm;all_goals (
  go_enter Tryz.func58,Tryz.ntmps58
  go_wp2_with fail;refine (cv d c _ (HR.below (HB.trans ((cI _ _ _ _).mono HB.size)))).mono ?_;rintro e w1 ⟨r,rfl,-,hb⟩;obtain⟨HA0,HA1,HA2,hbx⟩:=iM hb;have Bk:=ae HA0;have Bx:=ae HA1;have Br:=ae HA2;replace HB:=upB HB hbx;clear hb hbx HA0 HA1 HA2
  cases r
  ·obtain⟨k0,k1,k2,k3,k4,k5⟩:=cs6 Bk;have ltk_1:=aa Bk.out;obtain⟨x0,x1,x2,x3,x4,x5,x6,x7⟩:=cs8 Bx;have ltx_1:=aa Bx.out;go_wp2_with fail;refine (aI 1 _).mono ?_;rintro e w2 ⟨rfl,hb⟩;clear k0 k1 k2 k3 k4 k5 ltk_1 x0 x1 x2 x3 x4 x5 x6 x7 ltx_1;replace Bk:=upK Bk hb;replace Bx:=upK Bx hb;replace Br:=upK Br hb;replace HB:=upB HB hb;clear hb;obtain⟨r0,r1,r2,r3,r4,r5,r6,r7⟩:=cs8 Br;have ltr_2:=aa Br.out;obtain⟨fr0,fr1,fr2,fr3,fr4,fr5,fr6,fr7⟩:=fG Br.out;have hrl:w.heap.size+1+1<w2.heap.size:=aa Br.out
   go_wp2
   exact bodyPost_ret (v:=Hc #[J U 0 0,J U 0 0,J U 0 0,J U 0 0,J U 0 0,GZ G6 0,I ⟨#[]⟩,GZ G6 1]) jo rfl ⟨ad0,co0 1,rfl,HV.out,gQ _ _,dS (show w.heap.size<=w.heap.size+1+1 by omega) (HB.out)⟩
  obtain⟨k0,k1,k2,k3,k4,k5⟩:=cs6 Bk;have ltk_1:=aa Bk.out;obtain⟨x0,x1,x2,x3,x4,x5,x6,x7⟩:=cs8 Bx;have ltx_1:=aa Bx.out;go_wp2_with fail;refine (eY xn xc xz xk xs _ _ va vl vc zs _ HZ.1 HZ.2.1 HZ.2.2.1 HZ.2.2.2 (HX.below HB.out)).mono ?_;rintro e w2 ⟨r,rfl,-,hb⟩;clear k0 k1 k2 k3 k4 k5 ltk_1 x0 x1 x2 x3 x4 x5 x6 x7 ltx_1;replace Bk:=upK Bk hb;replace Bx:=upK Bx hb;replace Br:=upK Br hb;replace HB:=upB HB hb;clear hb
  cases r
  ·obtain⟨k0,k1,k2,k3,k4,k5⟩:=cs6 Bk;have ltk_2:=aa Bk.out;obtain⟨x0,x1,x2,x3,x4,x5,x6,x7⟩:=cs8 Bx;have ltx_2:=aa Bx.out;go_wp2_with fail;refine (aI 1 _).mono ?_;rintro e w3 ⟨rfl,hb⟩;clear k0 k1 k2 k3 k4 k5 ltk_2 x0 x1 x2 x3 x4 x5 x6 x7 ltx_2;replace Bk:=upK Bk hb;replace Bx:=upK Bx hb;replace Br:=upK Br hb;replace HB:=upB HB hb;clear hb;obtain⟨r0,r1,r2,r3,r4,r5,r6,r7⟩:=cs8 Br;have ltr_3:=aa Br.out;obtain⟨fr0,fr1,fr2,fr3,fr4,fr5,fr6,fr7⟩:=fG Br.out;have hrl:w.heap.size+1+1<w3.heap.size:=aa Br.out
   go_wp2
   exact bodyPost_ret (v:=Hc #[J U 0 0,J U 0 0,J U 0 0,J U 0 0,J U 0 0,GZ G6 0,I ⟨#[]⟩,GZ G6 1]) jo rfl ⟨ad0,co0 1,rfl,HV.out,gQ _ _,dS (show w.heap.size<=w.heap.size+1+1 by omega) (HB.out)⟩
  obtain⟨k0,k1,k2,k3,k4,k5⟩:=cs6 Bk;have ltk_2:=aa Bk.out;obtain⟨x0,x1,x2,x3,x4,x5,x6,x7⟩:=cs8 Bx;have ltx_2:=aa Bx.out;go_wp2_with fail;refine (aI 1 _).mono ?_;rintro e w3 ⟨rfl,hb⟩;clear k0 k1 k2 k3 k4 k5 ltk_2 x0 x1 x2 x3 x4 x5 x6 x7 ltx_2;replace Bk:=upK Bk hb;replace Bx:=upK Bx hb;replace Br:=upK Br hb;replace HB:=upB HB hb;clear hb;obtain⟨r0,r1,r2,r3,r4,r5,r6,r7⟩:=cs8 Br;have ltr_3:=aa Br.out;obtain⟨fr0,fr1,fr2,fr3,fr4,fr5,fr6,fr7⟩:=fG Br.out;have hrl:w.heap.size+1+1<w3.heap.size:=aa Br.out
  go_wp2
  exact bodyPost_ret (v:=Hc #[J U 0 0,J U 0 0,J U 0 0,J U 0 0,J U 0 0,GZ G6 0,I ⟨#[]⟩,GZ G6 1]) jo rfl ⟨ad0,co0 1,rfl,HV.out,gQ _ _,dS (show w.heap.size<=w.heap.size+1+1 by omega) (HB.out)⟩)
theorem oS(d:Ad) (c:Cl) (xn:ByteArray) (xc:Int) (xz xk:ByteArray) (xs:Bool) (va:Option Addr) (vc:Nat) (w:World) (hr:aE w d c.raw) (hx:aD w va 0 vc []) (z0:xn.size<=9223372036854775807) (z2:xz.size<=9223372036854775807) (z3:xk.size<=9223372036854775807):
  Calls Tryz.prog 58 #[Hc #[J d.a1 d.l1 d.c1,J d.a2 d.l2 d.c2,J d.a3 d.l3 d.c3,J d.a4 d.l4 d.c4,J d.a5 d.l5 d.c5,GZ G6 c.now],Hc #[I xn,GZ G6 xc,I xz,I xk,G8 xs,I ⟨#[]⟩,G8 G_,J va 0 vc]] w (mB (bm c (⟨xn,xc,xz,xk,xs,⟨#[]⟩,G_,[]⟩:Vd)) w):=by
 have HR:=ae hr;have HX:=ae hx;have hlc:c.vs.length=d.l3:=by simpa using (show (c.vs.map vdF).length=d.l3 from hr.v.1)
 have hlm:d.l3<=9223372036854775807:=FA hr.v.2.1 hr.v.2.2.1;have HB:=ae (Ft w.heap.size w);clear hr hx;go_enter Tryz.func58,Tryz.ntmps58;go_wp2_with fail;refine (cv d c _ (HR.below (HB.trans ((cI _ _ _ _).mono HB.size)))).mono ?_;rintro e w1 ⟨r,rfl,hi,hb⟩;obtain⟨HA0,HA1,HA2,hbx⟩:=iM hb;have Bk:=ae HA0;have Bx:=ae HA1;have Br:=ae HA2;replace HB:=upB HB hbx;clear hb hbx HA0 HA1 HA2;have HI:=ae hi;clear hi;cases r
 ·have HV:Hid (bm c (⟨xn,xc,xz,xk,xs,⟨#[]⟩,G_,[]⟩:Vd) (co0 1)):=He ⟨1,λh=>(by have:=HI.2 h.1;cases this),rfl⟩;obtain⟨k0,k1,k2,k3,k4,k5⟩:=cs6 Bk;have ltk_1:=aa Bk.out;obtain⟨x0,x1,x2,x3,x4,x5,x6,x7⟩:=cs8 Bx;have ltx_1:=aa Bx.out;go_wp2_with fail;refine (aI 1 _).mono ?_;rintro e w2 ⟨rfl,hb⟩;clear k0 k1 k2 k3 k4 k5 ltk_1 x0 x1 x2 x3 x4 x5 x6 x7 ltx_1;replace Bk:=upK Bk hb;replace Bx:=upK Bx hb;replace Br:=upK Br hb;replace HB:=upB HB hb;clear hb;obtain⟨r0,r1,r2,r3,r4,r5,r6,r7⟩:=cs8 Br;have ltr_2:=aa Br.out;obtain⟨fr0,fr1,fr2,fr3,fr4,fr5,fr6,fr7⟩:=fG Br.out;have hrl:w.heap.size+1+1<w2.heap.size:=aa Br.out;exact B1
 have HT:=ae (HI.1 bT);clear HI;obtain⟨k0,k1,k2,k3,k4,k5⟩:=cs6 Bk;have ltk_1:=aa Bk.out;obtain⟨x0,x1,x2,x3,x4,x5,x6,x7⟩:=cs8 Bx;have ltx_1:=aa Bx.out;go_wp2_with fail;refine (eY xn xc xz xk xs ⟨#[]⟩ G_ va 0 vc [] _ z0 z2 z3 ah (HX.below HB.out)).mono ?_;rintro e w2 ⟨r,rfl,hi,hb⟩;clear k0 k1 k2 k3 k4 k5 ltk_1 x0 x1 x2 x3 x4 x5 x6 x7 ltx_1;replace Bk:=upK Bk hb;replace Bx:=upK Bx hb;replace Br:=upK Br hb;replace HB:=upB HB hb;clear hb;have HI:=ae hi;clear hi;cases r
 ·have HV:Hid (bm c (⟨xn,xc,xz,xk,xs,⟨#[]⟩,G_,[]⟩:Vd) (co0 1)):=He ⟨1,λh=>(by have:=HI.2 h.2.1;cases this),rfl⟩;obtain⟨k0,k1,k2,k3,k4,k5⟩:=cs6 Bk;have ltk_2:=aa Bk.out;obtain⟨x0,x1,x2,x3,x4,x5,x6,x7⟩:=cs8 Bx;have ltx_2:=aa Bx.out;go_wp2_with fail;refine (aI 1 _).mono ?_;rintro e w3 ⟨rfl,hb⟩;clear k0 k1 k2 k3 k4 k5 ltk_2 x0 x1 x2 x3 x4 x5 x6 x7 ltx_2;replace Bk:=upK Bk hb;replace Bx:=upK Bx hb;replace Br:=upK Br hb;replace HB:=upB HB hb;clear hb;obtain⟨r0,r1,r2,r3,r4,r5,r6,r7⟩:=cs8 Br;have ltr_3:=aa Br.out;obtain⟨fr0,fr1,fr2,fr3,fr4,fr5,fr6,fr7⟩:=fG Br.out;have hrl:w.heap.size+1+1<w3.heap.size:=aa Br.out;exact B1
 have HO:Hid (eR c (⟨xn,xc,xz,xk,xs,⟨#[]⟩,G_,[]⟩:Vd)):=⟨HT.out,HI.1 bT,rfl,rfl,rfl⟩;clear HI;obtain⟨k0,k1,k2,k3,k4,k5⟩:=cs6 Bk;have ltk_2:=aa Bk.out;obtain⟨x0,x1,x2,x3,x4,x5,x6,x7⟩:=cs8 Bx;have ltx_2:=aa Bx.out;go_wp2_with fail;clear k0 k1 k2 k3 k4 k5 ltk_2 x0 x1 x2 x3 x4 x5 x6 x7 ltx_2;have HRI:Hid (aJ Vd.n c.vs):=HT.2.1.2.2.1.2.2;cases hh:hit Vd.n c.vs xn;rotate_left
 ·obtain⟨y,hy,hyn⟩:=cm hh;have HY:=ae hy;have HYN:=ae hyn;have HV:Hid (bm c (⟨xn,xc,xz,xk,xs,⟨#[]⟩,G_,[]⟩:Vd) (co0 7)):=He ⟨3,⟨HO.out,hh⟩,rfl⟩;clear hy hyn hh;obtain⟨j,hj⟩:∃j,j=pl Vd.n c.vs xn:=⟨_,rfl⟩;rw[<-hj] at HY;clear hj;have hj0:¬(j:Int)<0:=af
  obtain⟨Gk,Gx,Gr,HW⟩:=fc;obtain⟨k0,k1,k2,k3,k4,k5⟩:=sl6 Gk;obtain⟨x0,x1,x2,x3,x4,x5,x6,x7⟩:=sl8 Gx;have hne0:=Wd.ne w2;have HC0:=ae (λq:Wd w2=>dN d c.now c.vs xn q.w (HR.v.below (HW.trans (q.b.mono HW.size))) HRI.out HY.out HYN.out);have HC1:=ae (λq:Wd w2=>eI d.l3 8 q.w);go_wp2_with fail;refine ag au au ?_;repeat (go_big_quiet_step (first|(go_at_call 97;exact Calls.wide (HC0.out _))|(go_at_call 104;exact Calls.wide (HC1.out _))|fail))
  refine wpQuiet_nil ?_;rintro _ ⟨q1,rfl⟩;obtain⟨HB3,Ck,Cx,Cr⟩:=ia;clear hne0 HW HB HC0 HC1 k0 k1 k2 k3 k4 k5 x0 x1 x2 x3 x4 x5 x6 x7 Gk Gx Gr Bk Bx Br;have HB:=HB3;clear HB3;have Bk:=Ck;clear Ck;have Bx:=Cx;clear Cx;have Br:=Cr;clear Cr;obtain⟨k0,k1,k2,k3,k4,k5⟩:=cs6 Bk;have ltk_3:=aa Bk.out;obtain⟨x0,x1,x2,x3,x4,x5,x6,x7⟩:=cs8 Bx;have ltx_3:=aa Bx.out;go_wp2_with fail;refine (aI 7 _).mono ?_;rintro e w4 ⟨rfl,hb⟩;clear k0 k1 k2 k3 k4 k5 ltk_3 x0 x1 x2 x3 x4 x5 x6 x7 ltx_3;replace Bk:=upK Bk hb;replace Bx:=upK Bx hb;replace Br:=upK Br hb;replace HB:=upB HB hb;clear hb;obtain⟨r0,r1,r2,r3,r4,r5,r6,r7⟩:=cs8 Br;have ltr_4:=aa Br.out;obtain⟨fr0,fr1,fr2,fr3,fr4,fr5,fr6,fr7⟩:=fG Br.out;have hrl:w.heap.size+1+1<w4.heap.size:=aa Br.out;go_wp2;exact bodyPost_ret (v:=Hc #[J U 0 0,J U 0 0,J U 0 0,J U 0 0,J U 0 0,GZ G6 0,I ⟨#[]⟩,GZ G6 7]) jo rfl ⟨ad0,co0 7,rfl,HV.out,gQ _ _,dS (show w.heap.size<=w.heap.size+1+1 by omega) (HB.out)⟩
 have HMS:Hid (∀(j:Nat) y,c.vs[j]?=F_ y->¬y.n=xn):=λj y h1 h2=>by rw[(bl HRI.out h1 h2).2] at hh;cases hh
 by_cases hfull:8<=d.l3
 ·have HV:Hid (bm c (⟨xn,xc,xz,xk,xs,⟨#[]⟩,G_,[]⟩:Vd) (co0 9)):=He ⟨4,⟨HO.out,hh,by omega⟩,rfl⟩;clear hh;obtain⟨Gk,Gx,Gr,HW⟩:=fc;obtain⟨k0,k1,k2,k3,k4,k5⟩:=sl6 Gk;obtain⟨x0,x1,x2,x3,x4,x5,x6,x7⟩:=sl8 Gx;have hne0:=Wd.ne w2;have HC0:=ae (λq:Wd w2=>eW d c.now c.vs xn q.w (HR.v.below (HW.trans (q.b.mono HW.size))) HMS.out);have HC1:=ae (λq:Wd w2=>fj d.l3 8 hfull q.w);go_wp2_with fail;refine ag au au ?_;repeat (go_big_quiet_step (first|(go_at_call 97;exact Calls.wide (HC0.out _))|(go_at_call 104;exact Calls.wide (HC1.out _))|fail))
  refine wpQuiet_nil ?_;rintro _ ⟨q1,rfl⟩;obtain⟨HB3,Ck,Cx,Cr⟩:=ia;clear hne0 HW HB HC0 HC1 k0 k1 k2 k3 k4 k5 x0 x1 x2 x3 x4 x5 x6 x7 Gk Gx Gr Bk Bx Br;have HB:=HB3;clear HB3;have Bk:=Ck;clear Ck;have Bx:=Cx;clear Cx;have Br:=Cr;clear Cr;obtain⟨k0,k1,k2,k3,k4,k5⟩:=cs6 Bk;have ltk_3:=aa Bk.out;obtain⟨x0,x1,x2,x3,x4,x5,x6,x7⟩:=cs8 Bx;have ltx_3:=aa Bx.out;go_wp2_with fail;refine (aI 9 _).mono ?_;rintro e w4 ⟨rfl,hb⟩;clear k0 k1 k2 k3 k4 k5 ltk_3 x0 x1 x2 x3 x4 x5 x6 x7 ltx_3;replace Bk:=upK Bk hb;replace Bx:=upK Bx hb;replace Br:=upK Br hb;replace HB:=upB HB hb;clear hb;obtain⟨r0,r1,r2,r3,r4,r5,r6,r7⟩:=cs8 Br;have ltr_4:=aa Br.out;obtain⟨fr0,fr1,fr2,fr3,fr4,fr5,fr6,fr7⟩:=fG Br.out;have hrl:w.heap.size+1+1<w4.heap.size:=aa Br.out;go_wp2;exact bodyPost_ret (v:=Hc #[J U 0 0,J U 0 0,J U 0 0,J U 0 0,J U 0 0,GZ G6 0,I ⟨#[]⟩,GZ G6 9]) jo rfl ⟨ad0,co0 9,rfl,HV.out,gQ _ _,dS (show w.heap.size<=w.heap.size+1+1 by omega) (HB.out)⟩
 have HNO:=ae hh;have hfull2:d.l3<8:=af
 clear hh hfull;obtain⟨Gk,Gx,Gr,HW⟩:=fc;obtain⟨k0,k1,k2,k3,k4,k5⟩:=sl6 Gk;obtain⟨x0,x1,x2,x3,x4,x5,x6,x7⟩:=sl8 Gx;have hne0:=Wd.ne w2;have HC0:=ae (λq:Wd w2=>eW d c.now c.vs xn q.w (HR.v.below (HW.trans (q.b.mono HW.size))) HMS.out);have HC1:=ae (λq:Wd w2=>gZ d.l3 8 hfull2 q.w);go_wp2_with fail;refine ag au au ?_;repeat (go_big_quiet_step (first|(go_at_call 97;exact Calls.wide (HC0.out _))|(go_at_call 104;exact Calls.wide (HC1.out _))|fail))
 refine wpQuiet_nil ?_;rintro _ ⟨q1,rfl⟩;obtain⟨HB3,Ck,Cx,Cr⟩:=ia;clear hne0 HW HB HC0 HC1 k0 k1 k2 k3 k4 k5 x0 x1 x2 x3 x4 x5 x6 x7 Gk Gx Gr Bk Bx Br;have HB:=HB3;clear HB3;have Bk:=Ck;clear Ck;have Bx:=Cx;clear Cx;have Br:=Cr;clear Cr;obtain⟨k0,k1,k2,k3,k4,k5⟩:=cs6 Bk;have ltk_3:=aa Bk.out;obtain⟨x0,x1,x2,x3,x4,x5,x6,x7⟩:=cs8 Bx;have ltx_3:=aa Bx.out;go_wp2_with fail;refine (gW d c.now c.ks xk _ (HR.k.below HB.out)).mono ?_;rintro e w3 ⟨hb,hf⟩;clear k0 k1 k2 k3 k4 k5 ltk_3 x0 x1 x2 x3 x4 x5 x6 x7 ltx_3;replace Bk:=upK Bk hb;replace Bx:=upK Bx hb;replace Br:=upK Br hb;replace HB:=upB HB hb;clear hb;rcases hf with ⟨i,y,hy,hyn,rfl⟩|⟨hno,rfl⟩;rotate_left
 ·have HV:Hid (bm c (⟨xn,xc,xz,xk,xs,⟨#[]⟩,G_,[]⟩:Vd) (co0 6)):=He ⟨2,⟨HO.out,HNO.out,by omega,λh=>by rw[ft hno] at h;cases h⟩,rfl⟩;clear hno;obtain⟨k0,k1,k2,k3,k4,k5⟩:=cs6 Bk;have ltk_4:=aa Bk.out;obtain⟨x0,x1,x2,x3,x4,x5,x6,x7⟩:=cs8 Bx;have ltx_4:=aa Bx.out;go_wp2_with fail;refine (aI 6 _).mono ?_;rintro e w4 ⟨rfl,hb⟩;clear k0 k1 k2 k3 k4 k5 ltk_4 x0 x1 x2 x3 x4 x5 x6 x7 ltx_4;replace Bk:=upK Bk hb;replace Bx:=upK Bx hb;replace Br:=upK Br hb;replace HB:=upB HB hb;clear hb;obtain⟨r0,r1,r2,r3,r4,r5,r6,r7⟩:=cs8 Br;have ltr_5:=aa Br.out;obtain⟨fr0,fr1,fr2,fr3,fr4,fr5,fr6,fr7⟩:=fG Br.out;have hrl:w.heap.size+1+1<w4.heap.size:=aa Br.out;go_wp2;exact bodyPost_ret (v:=Hc #[J U 0 0,J U 0 0,J U 0 0,J U 0 0,J U 0 0,GZ G6 0,I ⟨#[]⟩,GZ G6 6]) jo rfl ⟨ad0,co0 6,rfl,HV.out,gQ _ _,dS (show w.heap.size<=w.heap.size+1+1 by omega) (HB.out)⟩
 have HV:Hid (bm c (⟨xn,xc,xz,xk,xs,⟨#[]⟩,G_,[]⟩:Vd) ⟨DE c (⟨xn,xc,xz,xk,xs,⟨#[]⟩,G_,[]⟩:Vd),⟨#[]⟩,0⟩):=Hd ⟨HO.out,HNO.out,by omega,(bl HT.2.1.2.1.2.2 hy hyn).2,rfl⟩;have hi0:¬(i:Int)<0:=af
 clear hy hyn HNO;have HQ1:Hid (w.heap.size+1+1<w3.heap.size):=aa Br.out;obtain⟨k0,k1,k2,k3,k4,k5⟩:=cs6 Bk;have ltk_4:=aa Bk.out;obtain⟨x0,x1,x2,x3,x4,x5,x6,x7⟩:=cs8 Bx;have ltx_4:=aa Bx.out;go_wp2_with fail;have HLO:=ae HB.size;refine (bu d c _ (HR.below HB.out) HT.sm).mono ?_;rintro e w4 ⟨d',rfl,ho,hb⟩;have HQ2:=ae hb.size;clear k0 k1 k2 k3 k4 k5 ltk_4 x0 x1 x2 x3 x4 x5 x6 x7 ltx_4;replace Bk:=upK Bk hb;replace Bx:=upK Bx hb;replace Br:=upK Br hb;replace HB:=upB HB hb;clear hb;obtain⟨x0,x1,x2,x3,x4,x5,x6,x7⟩:=cs8 Bx;have ltx_5:=aa Bx.out;have hq1:w.heap.size+1+1<w3.heap.size:=HQ1.out;have hq2:w3.heap.size<=w4.heap.size:=HQ2.out;have h5:=(ho.v.bI (S':=(λk=>w3.heap.size<=k/\k<w4.heap.size)) (λk hk s=>⟨s,hk⟩)).below (aq w4 (G7 (clv d' c.now) 29));have hlen:d'.l3<=8:=by have h6:=ho.v.1;have h7:(c.vs.map vdF).length=d'.l3:=h6;rw[FB] at h7;omega
 have HFR:=ae ho;clear ho;have hbo:Below w4.heap.size w4 (w4.alloc (G7 (clv d' c.now) 29)):=aq w4 (G7 (clv d' c.now) 29);have hxk:=aa Bx.out;have hc2:Calls Tryz.prog 55 #[Hc #[I xn,GZ G6 xc,I xz,I xk,G8 xs,I ⟨#[]⟩,G8 G_,J va 0 vc]] (w4.alloc (G7 (clv d' c.now) 29)).drew λe W3=> ∃a3 l3 c3,e=Ha (Hc #[I xn,GZ G6 xc,I xz,I xk,G8 xs,I ⟨#[]⟩,G8 G_,J a3 l3 c3])/\Hid (bQ W3 a3 l3 c3 [] (λk=>w4.heap.size+1<=k))/\Hid (Below (w4.alloc (G7 (clv d' c.now) 29)).heap.size (w4.alloc (G7 (clv d' c.now) 29)) W3)/\Hid (W3.heap[w.heap.size+1]?=F_ (G7 #[I xn,GZ G6 xc,I xz,I xk,G8 xs,I ⟨#[]⟩,G8 G_,J va 0 vc] 95 (0,0)))/\Hid (W3.heap[w4.heap.size]?=F_ (G7 (clv d' c.now) 29 (0,0)))/\Hid (W3.heap[w.heap.size+1+1]?=F_ (G7 #[J U 0 0,J U 0 0,J U 0 0,J U 0 0,J U 0 0,GZ G6 0,I ⟨#[]⟩,GZ G6 0] 33 (0,0))):=by
  refine (Ap.DO xn xc xz xk xs ⟨#[]⟩ G_ va 0 vc [] (w4.alloc (G7 (clv d' c.now) 29)).drew (show aD _ _ _ _ _ from (HX.below ((HB.trans ((hbo.mono HB.size))).trans ⟨rfl,rfl,rfl,Fq _,λ_ _=>rfl⟩))) af).mono ?_;rintro e W3 ⟨a3,l3,c3,rfl,h1,h2,hb3⟩;have hO:bQ W3 a3 l3 c3 [] (λk=>(w4.alloc (G7 (clv d' c.now) 29)).drew.heap.size<=k):=⟨h1,h2⟩;have hb':Below (w4.alloc (G7 (clv d' c.now) 29)).heap.size (w4.alloc (G7 (clv d' c.now) 29)) W3:=⟨hb3.os,hb3.tape,hb3.output,hb3.size,hb3.block⟩;exact⟨a3,l3,c3,rfl,hO.bI (λk _ s=>by have s1:(w4.alloc (G7 (clv d' c.now) 29)).drew.heap.size<=k:=s;simpa using s1),hb',(hb'.block _ bD).trans ((hbo.block _ hxk).trans Bx.out),(hb'.block _ aH).trans (heap_alloc_new w4 (G7 (clv d' c.now) 29)),(hb'.block _ bD).trans ((hbo.block _ af).trans Br.out)⟩
 have hc3:∀(W3:World) a3 l3 c3,Below (w4.alloc (G7 (clv d' c.now) 29)).heap.size (w4.alloc (G7 (clv d' c.now) 29)) W3->bQ W3 a3 l3 c3 [] (λk=>w4.heap.size+1<=k)->Hid (W3.heap[w.heap.size+1]?=F_ (G7 #[I xn,GZ G6 xc,I xz,I xk,G8 xs,I ⟨#[]⟩,G8 G_,J va 0 vc] 95 (0,0)))/\Hid (W3.heap[w4.heap.size]?=F_ (G7 (clv d' c.now) 29 (0,0)))/\Hid (W3.heap[w.heap.size+1+1]?=F_ (G7 #[J U 0 0,J U 0 0,J U 0 0,J U 0 0,J U 0 0,GZ G6 0,I ⟨#[]⟩,GZ G6 0] 33 (0,0)))->Calls Tryz.prog 105 #[J d'.a3 d'.l3 d'.c3,Hc #[I xn,GZ G6 xc,I xz,I xk,G8 xs,I ⟨#[]⟩,G8 G_,J a3 l3 c3]] W3 λe W4=> ∃a' c',e=Ha (J a' (d'.l3+1) c')/\Hid (aA W4 a' (d'.l3+1) c' 8 95 ((aY (pl Vd.n c.vs xn) (⟨xn,xc,xz,xk,xs,⟨#[]⟩,G_,[]⟩:Vd) c.vs).map vdF) (λk=>(λk=>w3.heap.size<=k/\k<w4.heap.size) k\/w4.heap.size+1<=k))/\Hid (Below w4.heap.size w4 W4)/\Hid (W4.heap[w.heap.size+1]?=F_ (G7 #[I xn,GZ G6 xc,I xz,I xk,G8 xs,I ⟨#[]⟩,G8 G_,J va 0 vc] 95 (0,0)))/\Hid (W4.heap[w4.heap.size]?=F_ (G7 (clv d' c.now) 29 (0,0)))/\Hid (W4.heap[w.heap.size+1+1]?=F_ (G7 #[J U 0 0,J U 0 0,J U 0 0,J U 0 0,J U 0 0,GZ G6 0,I ⟨#[]⟩,GZ G6 0] 33 (0,0))):=λW3 a3 l3 c3 hb3 hO3 hkp=>by
  obtain⟨g,hg⟩:=hO3.fr;have hs3:=hb3.size;simp only[cB] at hs3;refine (jW d'.a3 d'.l3 d'.c3 c.vs (⟨xn,xc,xz,xk,xs,⟨#[]⟩,G_,[]⟩:Vd) a3 l3 c3 g _ (λk=>w4.heap.size+1<=k) W3 (h5.below hb3) hlen (λi f hf=>by rcases i with _|_|_|_|_|_|_|_|i <;> simp[vdF] at hf <;> subst hf;exact⟨_,rfl,rfl,z0⟩;exact⟨_,rfl,rfl⟩;exact⟨_,rfl,rfl,z2⟩;exact⟨_,rfl,rfl,z3⟩;exact⟨_,rfl,rfl⟩;exact⟨_,rfl,rfl,by decide⟩;exact⟨_,rfl,rfl⟩;exact⟨_,rfl,hg⟩) (λk q1 q2=>by have q3:=q1.2;have q4:w4.heap.size+1<=k:=q2;omega)).mono ?_;rintro e W4 ⟨a',c',rfl,hN,hb4⟩;have hb14:Below w4.heap.size w4 W4:=(hbo.trans (hb3.mono aH)).trans (hb4.mono af);have hN':=hN.bI (S':=λk=>(λk=>w3.heap.size<=k/\k<w4.heap.size) k\/w4.heap.size+1<=k) (λk _ s=>by
   rcases s with (s|s)|s
   ·exact He s
   ·exact Hd s
   ·have s1:W3.heap.size<=k:=s;exact Hd af)
  exact⟨a',c',rfl,hN',hb14,(hb4.block _ (aa hkp.1.out)).trans hkp.1.out,(hb4.block _ (aa hkp.2.1.out)).trans hkp.2.1.out,(hb4.block _ (aa hkp.2.2.out)).trans hkp.2.2.out⟩
 have C2:=ae hc2;have C3:=ae hc3;clear hc2 hc3 h5 HX;have mixed:Tryz.prog.follows .mixedOrders=Hb:=au
 go_wp2;go_region_with (first
  | (go_at_call 55;refine C2.mono ?_;rintro e w3' ⟨a3,l3,c3,rfl,HO3,HB3,HKP3⟩;obtain⟨o0,o1,o2,o3,o4,o5⟩:=cs6 HKP3.2.1.out;have hol3:=aa HKP3.2.1.out)
  | (go_at_call 105;refine (C3.out w3' a3 l3 c3 HB3.out HO3.out HKP3).mono ?_;rintro e w5 ⟨a',c',rfl,HO5,HB5,HKP5⟩;obtain⟨p0,p1,p2,p3,p4,p5⟩:=cs6 HKP5.2.1.out;have hol:=aa HKP5.2.1.out;have fo2:=al HKP5.2.1.out 2))
 all_goals (
  obtain⟨r0,r1,r2,r3,r4,r5,r6,r7⟩:=cs8 HKP5.2.2.out;obtain⟨fr0,fr1,fr2,fr3,fr4,fr5,fr6,fr7⟩:=fG HKP5.2.2.out;have hrl:=aa HKP5.2.2.out
  have hne:¬w.heap.size+1+1=w4.heap.size:=af
  have hne2:¬w4.heap.size=w.heap.size+1+1:=af
  go_wp2
  refine bodyPost_ret (v:=Hc #[J d'.a1 d'.l1 d'.c1,J d'.a2 d'.l2 d'.c2,J a' (d'.l3+1) c',J d'.a4 d'.l4 d'.c4,J d'.a5 d'.l5 d'.c5,GZ G6 c.now,I ⟨#[]⟩,GZ G6 0]) jo rfl ⟨⟨d'.a1,d'.l1,d'.c1,d'.a2,d'.l2,d'.c2,a',d'.l3+1,c',d'.a4,d'.l4,d'.c4,d'.a5,d'.l5,d'.c5⟩,⟨DE c (⟨xn,xc,xz,xk,xs,⟨#[]⟩,G_,[]⟩:Vd),⟨#[]⟩,0⟩,rfl,HV.out,?_,dS (show w.heap.size<=w.heap.size+1+1 by omega) (ak (show w.heap.size<=w4.heap.size by omega) (HB.trans (HB5.mono HB.size)))⟩
  have hkeep:∀k,w3.heap.size<=k->¬k=w4.heap.size->(((((((((w5.setCell ⟨w4.heap.size,2,U⟩ (J a' (d'.l3+1) c')).setCell ⟨w.heap.size+1+1,0,U⟩ (J d'.a1 d'.l1 d'.c1)).setCell ⟨w.heap.size+1+1,1,U⟩ (J d'.a2 d'.l2 d'.c2)).setCell ⟨w.heap.size+1+1,2,U⟩ (J a' (d'.l3+1) c')).setCell ⟨w.heap.size+1+1,3,U⟩ (J d'.a4 d'.l4 d'.c4)).setCell ⟨w.heap.size+1+1,4,U⟩ (J d'.a5 d'.l5 d'.c5)).setCell ⟨w.heap.size+1+1,5,U⟩ (GZ G6 c.now)).setCell ⟨w.heap.size+1+1,6,U⟩ (I ⟨#[]⟩)).setCell ⟨w.heap.size+1+1,7,U⟩ (GZ G6 0)).heap[k]?=w5.heap[k]?:=λk h1 h2=>by rw[Fl _ _ _ _ (show k≠w.heap.size+1+1 by omega),Fl _ _ _ _ (show k≠w.heap.size+1+1 by omega),Fl _ _ _ _ (show k≠w.heap.size+1+1 by omega),Fl _ _ _ _ (show k≠w.heap.size+1+1 by omega),Fl _ _ _ _ (show k≠w.heap.size+1+1 by omega),Fl _ _ _ _ (show k≠w.heap.size+1+1 by omega),Fl _ _ _ _ (show k≠w.heap.size+1+1 by omega),Fl _ _ _ _ (show k≠w.heap.size+1+1 by omega),Fl _ _ _ _ (show k≠w4.heap.size by omega)]
  have hlo:=HLO.out
  exact⟨(HFR.n.aB (w':=(((((((((w5.setCell ⟨w4.heap.size,2,U⟩ (J a' (d'.l3+1) c')).setCell ⟨w.heap.size+1+1,0,U⟩ (J d'.a1 d'.l1 d'.c1)).setCell ⟨w.heap.size+1+1,1,U⟩ (J d'.a2 d'.l2 d'.c2)).setCell ⟨w.heap.size+1+1,2,U⟩ (J a' (d'.l3+1) c')).setCell ⟨w.heap.size+1+1,3,U⟩ (J d'.a4 d'.l4 d'.c4)).setCell ⟨w.heap.size+1+1,4,U⟩ (J d'.a5 d'.l5 d'.c5)).setCell ⟨w.heap.size+1+1,5,U⟩ (GZ G6 c.now)).setCell ⟨w.heap.size+1+1,6,U⟩ (I ⟨#[]⟩)).setCell ⟨w.heap.size+1+1,7,U⟩ (GZ G6 0))) (S':=λk=>w.heap.size<=k) (λk hk s=>(hkeep k s af).trans (HB5.block k hk)) (λ_ _ s=>loq)),(HFR.k.aB (w':=(((((((((w5.setCell ⟨w4.heap.size,2,U⟩ (J a' (d'.l3+1) c')).setCell ⟨w.heap.size+1+1,0,U⟩ (J d'.a1 d'.l1 d'.c1)).setCell ⟨w.heap.size+1+1,1,U⟩ (J d'.a2 d'.l2 d'.c2)).setCell ⟨w.heap.size+1+1,2,U⟩ (J a' (d'.l3+1) c')).setCell ⟨w.heap.size+1+1,3,U⟩ (J d'.a4 d'.l4 d'.c4)).setCell ⟨w.heap.size+1+1,4,U⟩ (J d'.a5 d'.l5 d'.c5)).setCell ⟨w.heap.size+1+1,5,U⟩ (GZ G6 c.now)).setCell ⟨w.heap.size+1+1,6,U⟩ (I ⟨#[]⟩)).setCell ⟨w.heap.size+1+1,7,U⟩ (GZ G6 0))) (S':=λk=>w.heap.size<=k) (λk hk s=>(hkeep k s af).trans (HB5.block k hk)) (λ_ _ s=>loq)),(HO5.aB (w':=(((((((((w5.setCell ⟨w4.heap.size,2,U⟩ (J a' (d'.l3+1) c')).setCell ⟨w.heap.size+1+1,0,U⟩ (J d'.a1 d'.l1 d'.c1)).setCell ⟨w.heap.size+1+1,1,U⟩ (J d'.a2 d'.l2 d'.c2)).setCell ⟨w.heap.size+1+1,2,U⟩ (J a' (d'.l3+1) c')).setCell ⟨w.heap.size+1+1,3,U⟩ (J d'.a4 d'.l4 d'.c4)).setCell ⟨w.heap.size+1+1,4,U⟩ (J d'.a5 d'.l5 d'.c5)).setCell ⟨w.heap.size+1+1,5,U⟩ (GZ G6 c.now)).setCell ⟨w.heap.size+1+1,6,U⟩ (I ⟨#[]⟩)).setCell ⟨w.heap.size+1+1,7,U⟩ (GZ G6 0))) (S':=λk=>w.heap.size<=k) (λk hk s=>hkeep k fb fb) (λ_ _ s=>loq)),(HFR.x.aB (w':=(((((((((w5.setCell ⟨w4.heap.size,2,U⟩ (J a' (d'.l3+1) c')).setCell ⟨w.heap.size+1+1,0,U⟩ (J d'.a1 d'.l1 d'.c1)).setCell ⟨w.heap.size+1+1,1,U⟩ (J d'.a2 d'.l2 d'.c2)).setCell ⟨w.heap.size+1+1,2,U⟩ (J a' (d'.l3+1) c')).setCell ⟨w.heap.size+1+1,3,U⟩ (J d'.a4 d'.l4 d'.c4)).setCell ⟨w.heap.size+1+1,4,U⟩ (J d'.a5 d'.l5 d'.c5)).setCell ⟨w.heap.size+1+1,5,U⟩ (GZ G6 c.now)).setCell ⟨w.heap.size+1+1,6,U⟩ (I ⟨#[]⟩)).setCell ⟨w.heap.size+1+1,7,U⟩ (GZ G6 0))) (S':=λk=>w.heap.size<=k) (λk hk s=>(hkeep k s af).trans (HB5.block k hk)) (λ_ _ s=>loq)),(HFR.p.aB (w':=(((((((((w5.setCell ⟨w4.heap.size,2,U⟩ (J a' (d'.l3+1) c')).setCell ⟨w.heap.size+1+1,0,U⟩ (J d'.a1 d'.l1 d'.c1)).setCell ⟨w.heap.size+1+1,1,U⟩ (J d'.a2 d'.l2 d'.c2)).setCell ⟨w.heap.size+1+1,2,U⟩ (J a' (d'.l3+1) c')).setCell ⟨w.heap.size+1+1,3,U⟩ (J d'.a4 d'.l4 d'.c4)).setCell ⟨w.heap.size+1+1,4,U⟩ (J d'.a5 d'.l5 d'.c5)).setCell ⟨w.heap.size+1+1,5,U⟩ (GZ G6 c.now)).setCell ⟨w.heap.size+1+1,6,U⟩ (I ⟨#[]⟩)).setCell ⟨w.heap.size+1+1,7,U⟩ (GZ G6 0))) (S':=λk=>w.heap.size<=k) (λk hk s=>(hkeep k s af).trans (HB5.block k hk)) (λ_ _ s=>loq))⟩)
theorem uh(d:Ad) (c:Cl) (x:Vd) (va:Option Addr) (vl vc:Nat) (w:World) (hr:aE w d c.raw) (hx:aD w va vl vc x.zs) (z0:x.n.size<=9223372036854775807) (z2:x.z.size<=9223372036854775807) (z3:x.k.size<=9223372036854775807) (z5:x.m.size<=9223372036854775807):
  Calls Tryz.prog 58 #[Hc #[J d.a1 d.l1 d.c1,J d.a2 d.l2 d.c2,J d.a3 d.l3 d.c3,J d.a4 d.l4 d.c4,J d.a5 d.l5 d.c5,GZ G6 c.now],Hc #[I x.n,GZ G6 x.c,I x.z,I x.k,G8 x.x,I x.m,G8 x.y,J va vl vc]] w (mB (bm c x) w):=by
 by_cases hn:x.m=⟨#[]⟩/\x.y=G_/\x.zs=[]
 ·obtain⟨xn,xc,xz,xk,xs,xm,xy,zs⟩:=x;obtain⟨rfl,rfl,rfl⟩:xm=⟨#[]⟩/\xy=G_/\zs=[]:=hn;obtain rfl:vl=0:=hx.1.symm;exact oS d c xn xc xz xk xs va vc w hr hx z0 z2 z3
 ·exact sX d c x va vl vc w hr hx z0 z2 z3 z5 hn
end Rc
end Go.Proofs.YtiplhgedmjoliaaGreatDoor

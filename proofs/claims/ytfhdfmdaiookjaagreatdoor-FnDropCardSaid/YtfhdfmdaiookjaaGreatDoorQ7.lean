import Derived.Test.YtfhdfmdaiookjaaGreatDoorQ2
import Derived.Laws.StructEq
/-
 What the laws on kinds call besides: measures, copies, comparisons.
-/
set_option maxRecDepth 100000
set_option maxHeartbeats 12800000
open Bool renaming false→Y_,true→Zb
open Go.Ending renaming returned→Za
open Go.IntKind renaming i64→Y6
open Go.Obj renaming cells→Y8
open Go.Value renaming string→I,slice→J,int→Y7,bool→Y9,agg→Zc,pointer→Zf,tuple→Zg
open Option renaming none→U,some→Y5
open Or renaming inr→Zd,inl→Ze
open And renaming intro→Yb
open Array renaming getElem?_push_size→Yg, getD_eq_getD_getElem?→Yr, getElem?_eq_some_iff→Yw
open Bool renaming and_eq_true→YG
open Classical renaming byContradiction→YH
open Go.Addr renaming add_lit→Yn
open Go.Calls renaming quiet_of_same→Yz
open Go.Op renaming bytesLess→Yk
open Go.Region renaming ready→YQ
open Go.RowKit.Below renaming heap_setCell→Ya, refl→Yh, heap_alloc→Yl
open Go.Value renaming string→Ym, ownBlock→YL
open List renaming getElem?_eq_some_iff→Yc, lookup→Yf, getElem?_eq_getElem→Yi, length_map→Yo, mem_of_getElem?→Ys, setIfInBounds_toArray→Yt, getElem?_append_left→Yu, getElem?_map→Yv, drop_eq_nil_of_le→Yx, getElem?_take→YA, set_cons_zero→YC, getElem?_of_mem→YD, set_cons_succ→YE, length_take→YF, forall_mem_cons→YI, take_of_length_le→YJ, take_add_one→YN, mem_cons→YO, foldr→YT, filter_append→YV, pairwise_append→YW
open Nat renaming le_refl→Ye, lt_of_lt_of_le→Yj, le_trans→Yp, zero_add→Yq, le_succ→Yy, zero_le→YK
open Option renaming map_eq_some_iff→YB
open Option.some renaming inj→Yd
namespace Go.Proofs.YtfhdfmdaiookjaaGreatDoor
variable {p:Prop}
namespace Mk
end Mk
open Go.RowKit Mk
variable {B cap g i j k:Nat} {H:Nat->Nat->Nat} {S:Nat->Prop} {T:TypeId} {W w w2:World} {a:Option Addr} {c:Rc.Cl} {t x:ByteArray} {v:Vd} {zs:List ByteArray}
theorem ag8(h:p:=by have e1:=di h1;have e2:=di h2;obtain⟨y1,y2⟩:=y;obtain⟨x1,x2⟩:=x;cases e1;cases e2;rfl):p:=h
theorem amb(h:p:=by
 rw[Ya _ _ _ _ (show k≠w.heap.size+1 by omega),Ya _ _ _ _ (show k≠w.heap.size+1 by omega),Ya _ _ _ _ (show k≠w.heap.size+1 by omega),Ya _ _ _ _ (show k≠w.heap.size+1 by omega),Ya _ _ _ _ (show k≠w.heap.size+1 by omega),Ya _ _ _ _ (show k≠w.heap.size+1 by omega),Ya _ _ _ _ (show k≠w.heap.size+1 by omega),Ya _ _ _ _ (show k≠w.heap.size+1 by omega),HWY.block k af,hW5]):p:=h
theorem Om(h:p:=by
 rintro e w' ⟨r',rfl,h',hb⟩;have e:r'=r:=by
  cases r <;> cases r'
  ·rfl
  ·exact (h.2 (h'.1 rfl)).symm
  ·exact h'.2 (h.1 rfl)
  ·rfl
 rw[e];exact⟨rfl,hb⟩):p:=h
theorem QD(h:p:=by
 have hbg:¬b=g:=by have:=HEB2.out;omega
 have e9:W5.heap[b]?=wz.heap[b]?:=by rw[hW5];exact Ya _ _ _ _ hbg
 have h9:=(ai HWZ.out HYB2.out).trans HYV.out;show W5.cell? _=_;simp only[World.cell?,e9] at h9 ⊢;exact h9):p:=h
theorem Qe(h:p:=by
 intro j u hu;cases j with
 | zero=>
  simp only[List.getElem?_cons_zero,Option.some.injEq] at hu;subst hu;rw[Yn];exact an (heap_alloc_new _ _) 0
 | succ j=>simp at hu):p:=h
theorem akx(h:p:=by
 rcases HTO.2 with h5|⟨g5,cu5,e5,hS5,_⟩
 ·exact absurd h5 hn9
 ·rw[e9] at e5;cases e5;have h6:W.heap.size<=b9:=hS5;have:=HY.le;omega):p:=h
theorem PL(h:p:=by
 cases hd:n.d;all_goals (
  go_enter Tryz.func129,Tryz.ntmps129
  go_wp2
  go_ret
  exact⟨by simp,aS _ _ _⟩)):p:=h
theorem wC(h:p:=by
 refine Obl.plain rfl ?_;intro ac wg K hsz hW hf hK;clear hsz;have e7:=hf 7 ag;simp[aj,Yf] at e7
 clear hf;exact aK):p:=h
theorem ako(h:p:=by
 refine Obl.plain rfl ?_;intro ac wg K hsz hW hf hK;clear hsz;have e3:=hf 3 ag;simp[aj,Yf] at e3;clear hf;obtain⟨o0,o1,o2,o3,o4,o5⟩:=cs6 ((hW.block _ (ae Bo5.out)).trans Bo5.out);exact aK):p:=h
theorem akn(h:p:=by
 refine Obl.plain rfl ?_;intro ac wg K hsz hW hf hK;clear hsz;have e9:=hf 9 ag;simp[aj,Yf] at e9
 clear hf;obtain⟨k0,k1⟩:=cs2 ((hW.block _ (ae Bx.out)).trans Bx.out);exact aK):p:=h
theorem wm(h:p:=by
 clear hf;obtain⟨o0,o1,o2,o3,o4,o5⟩:=cs6 ((hW.block _ (ae Bo.out)).trans Bo.out);exact aK):p:=h
theorem O9(h:p:=by
 refine Obl.plain rfl ?_;intro ac wg K hsz hW hf hK;clear hsz;have e4:=hf 4 ag;simp[aj,Yf] at e4;clear hf;exact aK):p:=h
theorem OM(h:p:=by
 refine df.volC (wz:=wz) (va:=sa) (vl:=sl) (vc:=sc) HO.out hlo rfl HV0.out hq2 (HY.out.trans (HWZ.mono HY.le)) HTO.row (λb9 o9 e9 hn9=>?_) (λk h1 h2=>?_)
 ·exact akx
 ·exact amb):p:=h
theorem OH(h:p:=by
 refine Obl.plain rfl ?_;intro ac wg K hsz hW hf hK;clear hsz;have e7:=hf 7 ag;simp[aj,Yf] at e7
 have e11:=hf 11 ag;simp[aj,Yf] at e11;clear hf;exact aK):p:=h
theorem aj8(h:p:=by
 refine Obl.plain rfl ?_;intro ac wg K hsz hW hf hK;clear hsz;have e6:=hf 6 ag;simp[aj,Yf] at e6
 clear hf;obtain⟨k0,k1,k2,k3,k4,k5⟩:=cs6 ((hW.block _ (ae Bk.out)).trans Bk.out);exact aK):p:=h
theorem ahu(h:p:=by
 have hq1:w.heap.size+1<w1.heap.size:=HQ1.out;have hq2:w1.heap.size<=w2.heap.size:=HQ2.out;have hsz:=HWZ.size;have HB5:Hid (Below w.heap.size w W5):=by rw[hW5];exact ah (show w.heap.size<=g by omega) (HB.trans (HWZ.mono HB.size))
 have hsz5:W5.heap.size=wz.heap.size:=by rw[hW5];simp
 have Br5:Hid (W5.heap[w.heap.size+1]?=Y5 (Y8 #[J U 0 0,J U 0 0,J U 0 0,J U 0 0,J U 0 0,Y7 Y6 0,I ⟨#[]⟩,Y7 Y6 0] 33 (0,0))):=by rw[hW5];exact (Ya _ _ _ _ (show w.heap.size+1≠g by omega)).trans ((HWZ.block _ (ae Br.out)).trans Br.out)
 have Bo5:Hid (W5.heap[w2.heap.size]?=Y5 (Y8 (clo6 x1 m1 n1 x2 m2 n2 (Y5 ⟨g,0,U⟩) l3 n3 x4 m4 n4 x5 m5 n5 c.now) 29 (0,0))):=by rw[hW5];exact (Ya _ _ _ _ (show w2.heap.size≠g by omega)).trans ((HWZ.block _ (ae Bo.out)).trans Bo.out)
 exact Yb hq1 (Yb hq2 (Yb hsz (Yb HB5 (Yb hsz5 (Yb Br5 Bo5)))))):p:=h
theorem alU(h:p:=by
 have ns:∀q:Wd w3,q.w.cell? ⟨b1,o1+j*7+3,U⟩=Y5 (Y7 Y6 n.s):=λq=>(q.cell (Yj HNS.1 HB.size)).trans (hn9);have hne0:=Wd.ne w3;have HC0:=aa (λq:Wd w3=>yh ⟨(Y5 ⟨b1,o1,U⟩),l1,y1,a2,l2,y2,(Y5 ⟨b,o,U⟩),l3,y3,a4,l4,y4,a5,l5,y5⟩ c.now c.vs x.d q.w (HR.v.below (HW.trans (q.b.mono HW.size))) h8);have HC1:=aa (λq:Wd w3=>ft ⟨(Y5 ⟨b1,o1,U⟩),l1,y1,a2,l2,y2,(Y5 ⟨b,o,U⟩),l3,y3,a4,l4,y4,a5,l5,y5⟩ c.now c.ns x.d q.w (HR.n.below (HW.trans (q.b.mono HW.size))) HT.2.1.1.2.2 HN.out HNN.out);exact Yb ns (Yb hne0 (Yb HC0 HC1))):p:=h
theorem ahc(h:p:=by
 have HOW:Hid ((q3.w.alloc (Y8 #[] 147)).ownsRow q3.w.heap.size 147 2 (J (Y5 ⟨q3.w.heap.size,0,U⟩) 0 0) 0 []):=World.ownsRow_made q3.w #[] 0 (Ye _) (YK _) aG;have hik:(k:Int)<=cap:=af
 have hkn:k<=cap:=af
 exact Yb HOW (Yb hik hkn)):p:=h
theorem aha(h:p:=by
 have HWZ:=aa hW;have hwg:wz.heap[g]?=Y5 (Y8 cs 38 (0,0)):=((HY.out.trans (hW.mono HY.le)).block g hgs).trans HGB.out;have hfz:=al hwg (i*8+7);have hcz:wz.cell? ⟨g,i*8+7,U⟩=Y5 (J ga gl gp):=(an hwg _).trans HGC.out;exact Yb HWZ (Yb hwg (Yb hfz hcz))):p:=h
theorem Ok(h:p:=by
 have HB:=aa ((ak w (Y8 #[I x.n,I x.d] 147)).trans (HL.mono af));have Bx:=aa ((HL.block w.heap.size af).trans (heap_alloc_new w (Y8 #[I x.n,I x.d] 147)));exact Yb HB Bx):p:=h
theorem Oh(h:p:=by
 have Bx:Hid (W.heap[w.heap.size+1]?=Y5 (Y8 #[I x.n,I x.d] 147 (0,0))):=by rw[hW0];exact eF _ _ _
 have HBW:Hid (Below w.heap.size w W):=by rw[hW0];exact aS _ _ _
 exact Yb Bx HBW):p:=h
theorem jG(h:p:=by
 refine Obl.plain rfl ?_;intro ac wg K hsz hW hf hK;clear hsz;have e34:=hf 34 ag;simp[aj,Yf] at e34;exact z1534z):p:=h
theorem fy(h:p:=by
 have HLO:=aa HB.size;refine (cE ⟨a1,l1,y1,a2,l2,y2,a3,l3,y3,a4,l4,y4,a5,l5,y5⟩ c _ (HR.below HB.out) HT.sm).mono ?_;exact z1667z):p:=h
theorem cs2 {b:Nat} {v0 v1:Value} (h:w.heap[b]?=Y5 (Y8 #[v0,v1] T (0,0))):w.cell? ⟨b,0,U⟩=Y5 v0/\w.cell? ⟨b,1,U⟩=Y5 v1:=⟨an h 0,an h 1⟩
namespace Rc
theorem Bw.le {y:World} (h:Bw y W):y.heap.size<=W.heap.size:=Below.size h
structure Qd where
 n:ByteArray
 d:ByteArray
def qdF(x:Qd):List Fv:=[.s x.n,.s x.d]
theorem fF {b o:Nat} {x:Qd} (h:RAt w b o (qdF x)):x.n.size<=9223372036854775807/\x.d.size<=9223372036854775807/\w.cell? ⟨b,o,U⟩=Y5 (I x.n)/\w.cell? ⟨b,o+1,U⟩=Y5 (I x.d):=by
 obtain⟨v0,h0,rfl,z0⟩:=h 0 _ rfl;obtain⟨v1,h1,rfl,z1⟩:=h 1 _ rfl;exact⟨z0,z1,h0,h1⟩
theorem oX {len:Nat} {xs:List Qd} (h:aT w a len cap 2 (xs.map qdF)) {j:Nat} (hj:j<len):
  ∃b o x,a=Y5 ⟨b,o,U⟩/\b<w.heap.size/\xs[j]?=Y5 x/\RAt w b (o+j*2) (qdF x):=by
 exact oV
def dG(a b:Qd):Bool:=Yk a.n.toList b.n.toList || ((a.n.toList==b.n.toList) && Yk a.d.toList b.d.toList)
theorem la {a b c:Qd} (h:dG a b=Zb) (k:dG b c=Zb):dG a c=Zb:=by
 unfold dG at h k ⊢;simp only[Bool.or_eq_true,YG] at h k ⊢;rcases h with h|⟨h1,h2⟩
 ·rcases k with k|⟨k1,k2⟩
  ·exact Ze (cJ _ _ _ h k)
  ·rw[<-di k1];exact Ze h
 ·rw[di h1];rcases k with k|⟨k1,k2⟩
  ·exact Ze k
  ·exact Zd ⟨k1,cJ _ _ _ h2 k2⟩
theorem uX(h:Yk x.toList t.toList=Y_) (hn:¬x=t):Yk t.toList x.toList=Zb:=by
 have h1:=hM x.toList t.toList;rw[h] at h1;have h2:(t.toList==x.toList)=Y_:=bu (λe=>hn e.symm);rw[h2] at h1;simpa using h1
theorem A_ {a b:Qd} (h:dG a b=Y_) (hn:¬a=b):dG b a=Zb:=by
 unfold dG at h ⊢;simp only[Bool.or_eq_false_iff,Bool.and_eq_false_iff] at h;simp only[Bool.or_eq_true,YG];by_cases e:a.n=b.n
 ·refine Zd ⟨aP e.symm,?_⟩;have h2:Yk a.d.toList b.d.toList=Y_:=h.2.resolve_left (λh3=>by rw[aP e] at h3;cases h3);exact uX h2 (λe2=>hn (by obtain⟨a1,a2⟩:=a;obtain⟨b1,b2⟩:=b;cases e;cases e2;rfl))
 ·exact Ze (uX h.1 e)
def RQ(zs:List Qd):Prop:=zs.Pairwise λa b=>dG a b=Zb
def nU(t:Qd) (zs zs':List Qd):Prop:=(t∈zs/\zs'=zs)\/∃k,k<=zs.length/\zs'=zs.take k++[t]++zs.drop k/\(∀(j:Nat) y,j<k->zs[j]?=Y5 y->dG y t=Zb)/\∀y,zs[k]?=Y5 y->dG t y=Zb
theorem nU.mem {t:Qd} {zs zs':List Qd} (h:nU t zs zs') (s:Qd):s∈zs'↔s∈zs\/s=t:=by
 exact ahN
theorem nU.len {t:Qd} {zs zs':List Qd} (h:nU t zs zs'):zs'.length<=zs.length+1:=by
 exact P3
theorem nU.ris {t:Qd} {zs zs':List Qd} (h:nU t zs zs') (hr:RQ zs):RQ zs':=by
 rcases h with ⟨_,rfl⟩|⟨k,hk,rfl,hlt,hgt⟩
 ·exact hr
 ·have h1:RQ (zs.take k++zs.drop k):=by rw[List.take_append_drop];exact hr
  obtain⟨h2,h3,h4⟩:=YW.1 h1;have h5:∀a∈zs.take k,dG a t=Zb:=λa ha=>by
   exact PY
  have h6:∀a∈zs.drop k,dG t a=Zb:=λa ha=>by
   cases hd:zs.drop k with
   | nil=>rw[hd] at ha;cases ha
   | cons b r=>
    have hb:zs[k]?=Y5 b:=by rw[<-Nat.add_zero k,<-List.getElem?_drop,hd];rfl
    have h7:=hgt b hb;rw[hd] at ha h3
    rcases YO.1 ha with rfl|ha
    ·exact h7
    ·exact la h7 ((List.pairwise_cons.1 h3).1 a ha)
  refine YW.2 ⟨YW.2 ⟨h2,List.pairwise_singleton _ _,λa ha b hb=>?_⟩,h3,λa ha b hb=>?_⟩
  ·rw[List.mem_singleton.1 hb];exact h5 a ha
  ·rcases List.mem_append.1 ha with ha|ha
   ·exact la (h5 a ha) (h6 b hb)
   ·rw[List.mem_singleton.1 ha];exact h6 b hb
theorem akR:(Tryz.prog.info? 147).map (λi=>(i.zero,i.size,i.bytes))=Y5 (Y5 (Zc #[I ⟨#[]⟩,I ⟨#[]⟩]),2,32):=by kernel_rfl
theorem vD(a b:Qd) (w:World):
  Calls Tryz.prog 172 #[Zc #[I a.n,I a.d],Zc #[I b.n,I b.d]] w λe w'=>e=Za (Y9 (dG a b))/\Below w.heap.size w w':=by
 obtain⟨r,hr⟩:∃r,r=dG a b:=⟨_,rfl⟩;rw[<-hr];have hr2:(Yk a.n.toList b.n.toList=Zb/\r=Zb)\/(Yk a.n.toList b.n.toList=Y_/\(a.n.toList==b.n.toList)=Y_/\r=Y_)\/(Yk a.n.toList b.n.toList=Y_/\(a.n.toList==b.n.toList)=Zb/\Yk a.d.toList b.d.toList=r):=by
  unfold dG at hr;cases h1:Yk a.n.toList b.n.toList
  ·cases h2:(a.n.toList==b.n.toList)
   ·rw[h1,h2] at hr;exact Zd (Ze ⟨rfl,rfl,hr⟩)
   ·rw[h1,h2] at hr;exact Zd (Zd ⟨rfl,rfl,by rw[hr];simp⟩)
  ·rw[h1] at hr;exact Ze ⟨rfl,hr⟩
 clear hr;rcases hr2 with ⟨h1,rfl⟩|⟨h1,h2,rfl⟩|⟨h1,h2,h3⟩;all_goals (
  go_enter Tryz.func172,Tryz.ntmps172
  go_wp2
  go_ret
  first|exact⟨rfl,aS _ _ _⟩|exact⟨by rw[h3],aS _ _ _⟩)
theorem eqQ(a b c d:ByteArray) (w:World):(Op.equalIn 10000 147 (Zc #[I a,I b]) (Zc #[I c,I d])).run Tryz.prog w=.ok ((a.toList==c.toList) && (b.toList==d.toList)) w:=by
 have u3:=Tryz.underlying9;have hS:Tryz.prog.underlying 147=Y5 (.struct (Tryz.prog.fieldsOf 147)):=bf
 have hp:Tryz.prog.stoodInHeld 147=Y_:=bf
 rw[show (10000:Nat)=9999+1 from rfl,run_equalIn_agg w 9999 147 _ _ hS hp];simp only[Program.fieldsOf,Tryz.underlying147];go_simp;by_cases h1:a.toList=c.toList
 ·by_cases h2:b.toList=d.toList <;> simp[h1,h2]
 ·simp[h1]
theorem akE {w4:World} {v4:Value} {base n:Nat} {xs:List Qd} {x:Qd} {vss:List (List Value)} {Q:Nat->Prop} (hV:aQ w Q 2 (xs.map qdF) vss H) (hxl:xs.length=n) (hjn:j<=n) (hB4:Below w.heap.size w w4) (hx1:x.n.size<=9223372036854775807) (hx2:x.d.size<=9223372036854775807) (hQ:∀k,base<=k->Q k)
  (ho4:w4.ownsRow base 147 2 v4 (n+1) (aR j [I x.n,I x.d] vss).flatten):∃a' c',v4=J a' (n+1) c'/\aw w4 a' (n+1) c' 2 147 ((aR j x xs).map qdF) Q:=by
 obtain⟨H4,hV5⟩:=(hV.below hB4).ins (p:=j) (r:=qdF x) (vs:=[I x.n,I x.d]) (hh:=λ_=>0) rfl rfl (λi f hf=>by
  rcases i with _|_|i <;> simp[qdF] at hf <;> subst hf
  ·exact⟨_,rfl,rfl,hx1⟩
  ·exact⟨_,rfl,rfl,hx2⟩) (λi zs h hz=>by rcases i with _|_|i <;> simp[qdF] at h) (λi i2 zs zs2 h=>by rcases i with _|_|i <;> simp[qdF] at h) ug
 have h45:aQ w4 Q 2 ((aR j x xs).map qdF) (aR j [I x.n,I x.d] vss) H4:=by rw[fI];exact hV5
 have hle:((aR j x xs).map qdF).length=n+1:=by rw[Yo,dq af,hxl]
 obtain⟨a',c',e,hR⟩:=h45.own ho4 hle.symm ag (λg hg=>hQ g (ho4.lt g hg).1);rw[hle] at e hR;exact⟨a',c',e,hR⟩
theorem oA(a b:Qd) (w:World) (r:Bool) (h:dG a b=r):Calls Tryz.prog 172 #[Zc #[I a.n,I a.d],Zc #[I b.n,I b.d]] w λe w'=>e=Za (Y9 r)/\Below w.heap.size w w':=by
 rw[<-h];exact vD a b w
def agO(t:Qd) (zs:List Qd) (B:Nat) (w:World) (e:Ending) (w':World):Prop:=∃a' l' c' zs',e=Za (J a' l' c')/\aw w' a' l' c' 2 147 (zs'.map qdF) (λk=>B<=k)/\nU t zs zs'/\Below w.heap.size w w'
theorem ow(a:Option Addr) (len cap:Nat) (zs:List Qd) (x:Qd) (B:Nat) (w:World) (ho:aw w a len cap 2 147 (zs.map qdF) (λk=>B<=k)) (hB:B<=w.heap.size) (hl:len<=64) (hx1:x.n.size<=9223372036854775807) (hx2:x.d.size<=9223372036854775807):
  Calls Tryz.prog 161 #[J a len cap,Zc #[I x.n,I x.d]] w (agO x zs B w):=by
 have hll:zs.length=len:=oI
 have hlc:len<=cap:=ho.2.1;have hcm:cap<=9223372036854775807:=ho.2.2.1;have HR:=aa ho.row;have HOW0:=aa ho;obtain⟨vss,H,hV,hcell⟩:=ho.ju;have hvl:vss.length=len:=by rw[hV.len,Yo,hll]
 have HC:Hid (∀(j:Nat) u,vss.flatten[j]?=Y5 u->∃b,a=Y5 ⟨b,0,U⟩/\w.cell? ⟨b,j,U⟩=Y5 u):=λj u hj=>by
  obtain⟨b,e,_,h3⟩:=hcell j u hj;exact⟨b,e,h3⟩
 have HVA:=aa hV.all;have HV1:=aa hV.one;have HFIN:Hid (∀(w4:World) v4 base k,k<=len->w.heap.size<=base->Below w.heap.size w w4->w4.ownsRow base 147 2 v4 (len+1) (aR k [I x.n,I x.d] vss).flatten->∃a' c',v4=J a' (len+1) c'/\aw w4 a' (len+1) c' 2 147 ((aR k x zs).map qdF) (λk=>B<=k)):=λw4 v4 base k hk hbs hB4 ho4=>akE hV hll hk hB4 hx1 hx2 (λk hk=>by omega) ho4;obtain⟨i5,hi5',hz0,hz1,hz2⟩:=info_parts akR;have HI0:=aa (Yb hi5' (Yb hz0 (Yb hz1 hz2)));clear hi5' hz0 hz1 hz2 hV hcell ho;go_enter Tryz.func161,Tryz.ntmps161;go_wp2;go_loopw [5] (λvi wr=> ∃k:Nat,k<=len/\vi=Y7 Y6 k/\Hid (∀(j:Nat) y,j<k->zs[j]?=Y5 y->dG y x=Zb)/\Hid (Below (w.heap.size+1) (w.alloc (Y8 #[I x.n,I x.d] 147)) wr)) (λvi _=>len - (intOf vi).toNat);case atStart=>exact⟨0,by omega,rfl,λj y hj=>by omega,Yh _ _⟩
 case round=>
  obtain⟨k,hk,rfl,HE,HL⟩:=hrel;have hLs:w.heap.size+1<=wr.heap.size:=by have:=HL.size;simpa using this
  obtain⟨HB,Bx⟩:=Ok;by_cases hlt:k<len
  ·obtain⟨b,o,y,rfl,hb,hx,hat⟩:=oX (HR.below HB.out) hlt;obtain⟨-,-,hc0,hc1⟩:=fF hat;have HXy:=aa hx;have hbw:b<wr.heap.size:=hb;have HC0:=aa hc0;have HC1:=aa hc1;have HBW:=aa hbw;have hk1:(k:Int)<len:=af
   have hk2:decide ((k:Int)<len)=Zb:=by simp;omega
   clear hb hat hx;cases hless:dG y x
   ·have HLS:=aa hless;clear hless;have Gx:=Bx;have HW:=HB;obtain⟨x0,x1⟩:=sl2 Gx;have yn:=λq:Wd wr=>(q.cell hbw).trans hc0;have yd:=λq:Wd wr=>(q.cell hbw).trans hc1;have hne0:=Wd.ne wr
    have HC0:=aa (λq:Wd wr=>oA y x q.w Y_ HLS.out)
    go_wp2_with fail;refine bN bf bf ?_
    repeat (go_big_quiet_step (first|(go_at_call 172;exact Calls.wide (HC0.out _))|fail))
    refine wpQuiet_nil ?_;rintro _ ⟨q2,rfl⟩;have HB1:=upB HW q2.b;have Cx:=upK Gx q2.b;clear hne0 HW HB HC0 x0 x1 yn yd Gx Bx hc0 hc1 hbw;have HB:=HB1;clear HB1;have Bx:=Cx;clear Cx
    have hbw:b<q2.w.heap.size:=Yj HBW.out q2.b.size;have hc0:=(q2.cell HBW.out).trans HC0.out;have hc1:=(q2.cell HBW.out).trans HC1.out;by_cases he:y=x
    ·have HP:Hid (nU x zs zs):=Ze ⟨he ▸ Ys HXy.out,rfl⟩;have hq1:(y.n.toList==x.n.toList)=Zb:=aP (by rw[he]);have hq2:(y.d.toList==x.d.toList)=Zb:=aP (by rw[he]);have hn1:y.n=x.n:=by rw[he]
     have hn2:y.d=x.d:=by rw[he]
     clear he;have hqe:∀W:World,(Op.equalIn 10000 147 (Zc #[I y.n,I y.d]) (Zc #[I x.n,I x.d])).run Tryz.prog W=.ok Zb W:=λW=>by rw[eqQ,hq1,hq2];rfl
     clear hn1 hn2
     have Gx:=Bx;have HW:=HB;obtain⟨x0,x1⟩:=sl2 Gx;have yn:=λq:Wd q2.w=>(q.cell hbw).trans hc0;have yd:=λq:Wd q2.w=>(q.cell hbw).trans hc1;have hne0:=Wd.ne q2.w
     go_wp2_with fail
     refine bN bf bf ?_;repeat (go_big_quiet_step (first|fail))
     refine wpQuiet_nil ?_
     rintro _ ⟨q3,rfl⟩;have HB2:=upB HW q3.b;have Cx:=upK Gx q3.b;clear hne0 HW HB x0 x1 yn yd Gx Bx hc0 hc1 hbw hqe;have HB:=HB2;clear HB2;have Bx:=Cx;clear Cx
     go_wp2;go_ret;exact⟨_,_,_,_,rfl,HOW0.below HB.out,HP.out,HB.out⟩
    have HP:Hid (nU x zs (aR k x zs)):=Zd ⟨k,by omega,rfl,HE.out,λz hz=>by rw[HXy.out] at hz;cases hz;exact A_ HLS.out he⟩;have hq1:((y.n.toList==x.n.toList) && (y.d.toList==x.d.toList))=Y_:=by
     cases h1:(y.n.toList==x.n.toList)
     ·rfl
     ·cases h2:(y.d.toList==x.d.toList)
      ·rfl
      ·exact absurd ag8 he
    have hqe:∀W:World,(Op.equalIn 10000 147 (Zc #[I y.n,I y.d]) (Zc #[I x.n,I x.d])).run Tryz.prog W=.ok Y_ W:=λW=>by rw[eqQ,hq1]
    clear he
    have Gx:=Bx;have HW:=HB;obtain⟨x0,x1⟩:=sl2 Gx;have yn:=λq:Wd q2.w=>(q.cell hbw).trans hc0;have yd:=λq:Wd q2.w=>(q.cell hbw).trans hc1;have hne0:=Wd.ne q2.w
    go_wp2_with fail
    refine bN bf bf ?_;repeat (go_big_quiet_step (first|fail))
    refine wpQuiet_nil ?_
    rintro _ ⟨q3,rfl⟩;have HB2:=upB HW q3.b;have Cx:=upK Gx q3.b;clear hne0 HW HB x0 x1 yn yd Gx Bx hc0 hc1 hbw hqe;have HB:=HB2;clear HB2;have Bx:=Cx;clear Cx
    clear hq1;have HCQ:Hid (∀(j:Nat) u,vss.flatten[j]?=Y5 u->∃b9,(Y5 ⟨b,o,U⟩:Option Addr)=Y5 ⟨b9,0,U⟩/\b9<q3.w.heap.size/\q3.w.cell? ⟨b9,j,U⟩=Y5 u):=λj u hj=>by
     exact As
    obtain⟨HOW,hik,hkn⟩:=ahc;have hcap:¬cap=k:=af
    all_goals (
     go_wp2_with (first|(at_builtin;refine ar rfl _ _ 144 rfl q3.w.heap.size 147 i5 (Zc #[I ⟨#[]⟩,I ⟨#[]⟩]) 2 32 Tryz.underlying144 HI0.1 HI0.2.1 HI0.2.2.1 HI0.2.2.2 rfl ag _ _ _ rfl (HOW.out) _ k _ (vss.take k).flatten rfl (bw HVA.out af) (λj u hu=>by obtain⟨g,e,hgl,h3⟩:=HCQ.out _ _ (cD hu);cases e <;> exact⟨_,rfl,by simp only[Yn,Yq];exact (ai (ak q3.w _) hgl).trans h3⟩) (aD HV1.out k).1 bj af aG ?_))
     intro v5 w5 hown5 hgr5
     replace hown5:w5.ownsRow q3.w.heap.size 147 2 v5 k (vss.take k).flatten:=dN
     have hb5:Below q3.w.heap.size q3.w w5:=(ak q3.w (Y8 #[] 147)).grown hgr5 aG (λg hg=>by simp[YL] at hg;omega);obtain⟨s1,s2,s3,rfl⟩:=aA hown5;have HO5:=aa hown5;have H5:=aa hb5;have hs6:=hb5.size;have Bx5:=upK Bx hb5;obtain⟨x0,x1⟩:=cs2 Bx5;have hxl:=ae Bx5.out;clear hown5 hgr5 hb5 HOW
     go_wp2_with (first|(at_builtin;refine ar rfl _ _ 144 rfl q3.w.heap.size 147 i5 (Zc #[I ⟨#[]⟩,I ⟨#[]⟩]) 2 32 Tryz.underlying144 HI0.1 HI0.2.1 HI0.2.2.1 HI0.2.2.2 rfl ag _ _ _ rfl (HO5.alloc _) _ 1 _ [I x.n,I x.d] rfl rfl (λj u hu=>⟨_,rfl,by rw[Yn,Yq,an (heap_alloc_new w5 _)];simpa using hu⟩) dx bj af bL ?_))
     intro v6 w6 hown6 hgr6;have hb6:Below q3.w.heap.size q3.w w6:=(H5.alloc H5.size _).grown hgr6 bL (λg hg=>(HO5.lt g hg).1);obtain⟨r1,r2,r3,rfl⟩:=aA hown6;have HO6:=aa hown6;have H6:=aa hb6;have hs7:=hb6.size;clear hown6 hgr6 hb6 x0 x1 hxl
     go_wp2_with (first|(at_builtin;refine ar rfl _ _ 144 rfl q3.w.heap.size 147 i5 (Zc #[I ⟨#[]⟩,I ⟨#[]⟩]) 2 32 Tryz.underlying144 HI0.1 HI0.2.1 HI0.2.2.1 HI0.2.2.2 rfl ag _ _ _ rfl (HO6.out) _ (len - k) _ (vss.drop k).flatten rfl jP (λj u hu=>by first|(rw[Yx af] at hu;simp at hu;done)|(obtain⟨g,e,hgl,h3⟩:=HCQ.out _ _ (cV HVA.out af hu);cases e <;> exact⟨_,rfl,by simp only[Yn,Yq];exact (ai H6.out hgl).trans h3⟩)) (aD HV1.out k).2 bj af af ?_))
     intro v7 w7 hown7 hgr7;have hb7:Below q3.w.heap.size q3.w w7:=H6.grown hgr7 af (λg hg=>(HO6.lt g hg).1)
     replace hown7:w7.ownsRow q3.w.heap.size 147 2 v7 (len+1) (aR k [I x.n,I x.d] vss).flatten:=by
      have e9:k+1+(len - k)=len+1:=af
      try rw[e9] at hown7
      simpa[aR] using hown7
     have HB7:=upB HB hb7;obtain⟨a',c',rfl,hR⟩:=HFIN.out w7 v7 q3.w.heap.size k af HB.size HB7.out hown7;have HR7:=aa hR;clear hown7 hgr7 hb7 hR hik hkn hcap
     go_wp2
     go_ret
     exact⟨a',_,c',_,rfl,HR7.out,HP.out,HB7.out⟩)
   ·have HLS:=aa hless;clear hless;have Gx:=Bx;have HW:=HB;obtain⟨x0,x1⟩:=sl2 Gx;have yn:=λq:Wd wr=>(q.cell hbw).trans hc0;have yd:=λq:Wd wr=>(q.cell hbw).trans hc1;have hne0:=Wd.ne wr
    have HC0:=aa (λq:Wd wr=>oA y x q.w Zb HLS.out)
    go_wp2_with fail;refine bN bf bf ?_
    repeat (go_big_quiet_step (first|(go_at_call 172;exact Calls.wide (HC0.out _))|fail))
    refine wpQuiet_nil ?_;rintro _ ⟨q2,rfl⟩;have HB1:=upB HW q2.b;have Cx:=upK Gx q2.b;clear hne0 HW HB HC0 x0 x1 yn yd Gx Bx hc0 hc1 hbw;have HB:=HB1;clear HB1;have Bx:=Cx;clear Cx
    go_wp2;refine⟨⟨k+1,by omega,by go_num,λj z hj hz=>?_,HL.trans (q2.b.mono af)⟩,by simp[intOf];omega⟩;by_cases e:j=k
    ·subst e;rw[HXy.out] at hz;obtain rfl:=Yd hz;exact HLS.out
    ·exact HE.out j z af hz
  ·have hk1:¬(k:Int)<len:=af
   have hk2:decide ((k:Int)<len)=Y_:=by simp;omega
   have HP:Hid (nU x zs (aR k x zs)):=Zd ⟨k,by omega,rfl,HE.out,λz hz=>by have:=(Yc.1 hz).1;omega⟩;have Gx:=Bx;have HW:=HB;have x0:=λq:Wd wr=>q.slot (o:=0) Gx.out rfl;have x1:=λq:Wd wr=>q.slot (o:=1) Gx.out rfl;have hne0:=Wd.ne wr
   go_wp2_with fail
   refine bN bf bf ?_;repeat (go_big_quiet_step (first|fail))
   refine wpQuiet_nil ?_
   rintro _ ⟨q2,rfl⟩;have HB1:=upB HW q2.b;have Cx:=upK Gx q2.b;clear hne0 HW HB x0 x1 Gx Bx;have HB:=HB1;clear HB1;have Bx:=Cx;clear Cx;have Gx:=Bx;have HW:=HB;obtain⟨x0,x1⟩:=sl2 Gx;have hne0:=Wd.ne q2.w;go_wp2_with fail
   refine bN bf bf ?_;repeat (go_big_quiet_step (first|fail))
   refine wpQuiet_nil ?_
   rintro _ ⟨q3,rfl⟩;have HB2:=upB HW q3.b;have Cx:=upK Gx q3.b;clear hne0 HW HB x0 x1 Gx Bx;have HB:=HB2;clear HB2;have Bx:=Cx;clear Cx;have HCQ:Hid (∀(j:Nat) u,vss.flatten[j]?=Y5 u->∃b9,a=Y5 ⟨b9,0,U⟩/\b9<q3.w.heap.size/\q3.w.cell? ⟨b9,j,U⟩=Y5 u):=λj u hj=>by
    exact As
   obtain⟨HOW,hik,hkn⟩:=ahc;rcases a with _|⟨b2,f2,sp⟩
   ·have hl0:len=0:=YH λhne0=>by
     exact Av
    obtain rfl:k=0:=af
    subst hl0;by_cases hcap:cap=0;all_goals (
     go_wp2_with (first|(at_builtin;refine ar rfl _ _ 144 rfl q3.w.heap.size 147 i5 (Zc #[I ⟨#[]⟩,I ⟨#[]⟩]) 2 32 Tryz.underlying144 HI0.1 HI0.2.1 HI0.2.2.1 HI0.2.2.2 rfl ag _ _ _ rfl (HOW.out) _ 0 _ (vss.take 0).flatten rfl (bw HVA.out af) (λj u hu=>by obtain⟨g,e,hgl,h3⟩:=HCQ.out _ _ (cD hu);cases e <;> exact⟨_,rfl,by simp only[Yn,Yq];exact (ai (ak q3.w _) hgl).trans h3⟩) (aD HV1.out 0).1 bj af aG ?_))
     intro v5 w5 hown5 hgr5
     replace hown5:w5.ownsRow q3.w.heap.size 147 2 v5 0 (vss.take 0).flatten:=dN
     have hb5:Below q3.w.heap.size q3.w w5:=(ak q3.w (Y8 #[] 147)).grown hgr5 aG (λg hg=>by simp[YL] at hg;omega);obtain⟨s1,s2,s3,rfl⟩:=aA hown5;have HO5:=aa hown5;have H5:=aa hb5;have hs6:=hb5.size;have Bx5:=upK Bx hb5;obtain⟨x0,x1⟩:=cs2 Bx5;have hxl:=ae Bx5.out;clear hown5 hgr5 hb5 HOW
     go_wp2_with (first|(at_builtin;refine ar rfl _ _ 144 rfl q3.w.heap.size 147 i5 (Zc #[I ⟨#[]⟩,I ⟨#[]⟩]) 2 32 Tryz.underlying144 HI0.1 HI0.2.1 HI0.2.2.1 HI0.2.2.2 rfl ag _ _ _ rfl (HO5.alloc _) _ 1 _ [I x.n,I x.d] rfl rfl (λj u hu=>⟨_,rfl,by rw[Yn,Yq,an (heap_alloc_new w5 _)];simpa using hu⟩) dx bj af bL ?_))
     intro v6 w6 hown6 hgr6;have hb6:Below q3.w.heap.size q3.w w6:=(H5.alloc H5.size _).grown hgr6 bL (λg hg=>(HO5.lt g hg).1);obtain⟨r1,r2,r3,rfl⟩:=aA hown6;have HO6:=aa hown6;have H6:=aa hb6;have hs7:=hb6.size;clear hown6 hgr6 hb6 x0 x1 hxl
     go_wp2_with (first|(at_builtin;refine ar rfl _ _ 144 rfl q3.w.heap.size 147 i5 (Zc #[I ⟨#[]⟩,I ⟨#[]⟩]) 2 32 Tryz.underlying144 HI0.1 HI0.2.1 HI0.2.2.1 HI0.2.2.2 rfl ag _ _ _ rfl (HO6.out) _ (0 - 0) _ (vss.drop 0).flatten rfl jP (λj u hu=>by first|(rw[Yx af] at hu;simp at hu;done)|(obtain⟨g,e,hgl,h3⟩:=HCQ.out _ _ (cV HVA.out af hu);cases e <;> exact⟨_,rfl,by simp only[Yn,Yq];exact (ai H6.out hgl).trans h3⟩)) (aD HV1.out 0).2 bj af af ?_))
     intro v7 w7 hown7 hgr7;have hb7:Below q3.w.heap.size q3.w w7:=H6.grown hgr7 af (λg hg=>(HO6.lt g hg).1)
     replace hown7:w7.ownsRow q3.w.heap.size 147 2 v7 (0+1) (aR 0 [I x.n,I x.d] vss).flatten:=by
      have e9:0+1+(0 - 0)=0+1:=af
      try rw[e9] at hown7
      simpa[aR] using hown7
     have HB7:=upB HB hb7;obtain⟨a',c',rfl,hR⟩:=HFIN.out w7 v7 q3.w.heap.size 0 af HB.size HB7.out hown7;have HR7:=aa hR;clear hown7 hgr7 hb7 hR hik hkn hcap
     go_wp2
     go_ret
     exact⟨a',_,c',_,rfl,HR7.out,HP.out,HB7.out⟩)
   by_cases hcap:cap=k;all_goals (
    go_wp2_with (first|(at_builtin;refine ar rfl _ _ 144 rfl q3.w.heap.size 147 i5 (Zc #[I ⟨#[]⟩,I ⟨#[]⟩]) 2 32 Tryz.underlying144 HI0.1 HI0.2.1 HI0.2.2.1 HI0.2.2.2 rfl ag _ _ _ rfl (HOW.out) _ k _ (vss.take k).flatten rfl (bw HVA.out af) (λj u hu=>by obtain⟨g,e,hgl,h3⟩:=HCQ.out _ _ (cD hu);cases e <;> exact⟨_,rfl,by simp only[Yn,Yq];exact (ai (ak q3.w _) hgl).trans h3⟩) (aD HV1.out k).1 bj af aG ?_))
    intro v5 w5 hown5 hgr5
    replace hown5:w5.ownsRow q3.w.heap.size 147 2 v5 k (vss.take k).flatten:=dN
    have hb5:Below q3.w.heap.size q3.w w5:=(ak q3.w (Y8 #[] 147)).grown hgr5 aG (λg hg=>by simp[YL] at hg;omega);obtain⟨s1,s2,s3,rfl⟩:=aA hown5;have HO5:=aa hown5;have H5:=aa hb5;have hs6:=hb5.size;have Bx5:=upK Bx hb5;obtain⟨x0,x1⟩:=cs2 Bx5;have hxl:=ae Bx5.out;clear hown5 hgr5 hb5 HOW
    go_wp2_with (first|(at_builtin;refine ar rfl _ _ 144 rfl q3.w.heap.size 147 i5 (Zc #[I ⟨#[]⟩,I ⟨#[]⟩]) 2 32 Tryz.underlying144 HI0.1 HI0.2.1 HI0.2.2.1 HI0.2.2.2 rfl ag _ _ _ rfl (HO5.alloc _) _ 1 _ [I x.n,I x.d] rfl rfl (λj u hu=>⟨_,rfl,by rw[Yn,Yq,an (heap_alloc_new w5 _)];simpa using hu⟩) dx bj af bL ?_))
    intro v6 w6 hown6 hgr6;have hb6:Below q3.w.heap.size q3.w w6:=(H5.alloc H5.size _).grown hgr6 bL (λg hg=>(HO5.lt g hg).1);obtain⟨r1,r2,r3,rfl⟩:=aA hown6;have HO6:=aa hown6;have H6:=aa hb6;have hs7:=hb6.size;clear hown6 hgr6 hb6 x0 x1 hxl
    go_wp2_with (first|(at_builtin;refine ar rfl _ _ 144 rfl q3.w.heap.size 147 i5 (Zc #[I ⟨#[]⟩,I ⟨#[]⟩]) 2 32 Tryz.underlying144 HI0.1 HI0.2.1 HI0.2.2.1 HI0.2.2.2 rfl ag _ _ _ rfl (HO6.out) _ (len - k) _ (vss.drop k).flatten rfl jP (λj u hu=>by first|(rw[Yx af] at hu;simp at hu;done)|(obtain⟨g,e,hgl,h3⟩:=HCQ.out _ _ (cV HVA.out af hu);cases e <;> exact⟨_,rfl,by simp only[Yn,Yq];exact (ai H6.out hgl).trans h3⟩)) (aD HV1.out k).2 bj af af ?_))
    intro v7 w7 hown7 hgr7;have hb7:Below q3.w.heap.size q3.w w7:=H6.grown hgr7 af (λg hg=>(HO6.lt g hg).1)
    replace hown7:w7.ownsRow q3.w.heap.size 147 2 v7 (len+1) (aR k [I x.n,I x.d] vss).flatten:=by
     have e9:k+1+(len - k)=len+1:=af
     try rw[e9] at hown7
     simpa[aR] using hown7
    have HB7:=upB HB hb7;obtain⟨a',c',rfl,hR⟩:=HFIN.out w7 v7 q3.w.heap.size k af HB.size HB7.out hown7;have HR7:=aa hR;clear hown7 hgr7 hb7 hR hik hkn hcap
    go_wp2
    go_ret
    exact⟨a',_,c',_,rfl,HR7.out,HP.out,HB7.out⟩)
def Wn(c:Cl) (k:Nat) (q:Qd):Prop:=∃(j:Nat) (p:Pd),j<k/\c.ps[j]?=Y5 p/\¬p.d=⟨#[]⟩/\∃(i:Nat) (t:ByteArray) (v:Vd),p.zs[i]?=Y5 t/\aO c t v/\q=⟨v.n,p.d⟩
def Wc(c:Cl) (p:Pd) (k:Nat) (q:Qd):Prop:=∃(i:Nat) (t:ByteArray) (v:Vd),i<k/\p.zs[i]?=Y5 t/\aO c t v/\q=⟨v.n,p.d⟩
def ak1(c:Cl) (B:Nat) (w:World) (e:Ending) (w':World):Prop:=∃a' l' c' zs',e=Za (J a' l' c')/\aw w' a' l' c' 2 147 (zs'.map qdF) (λk=>B<=k)/\RQ zs'/\(∀q,q∈zs'↔Wn c c.ps.length q)/\zs'.length<=24/\Below w.heap.size w w'
def PqF(t:Qd) (zs:List Qd) (B:Nat):Fact:=λv w=> ∃a' l' c' zs',v=J a' l' c'/\aw w a' l' c' 2 147 (zs'.map qdF) (λk=>B<=k)/\nU t zs zs'
theorem PqF.mono {t:Qd} {zs:List Qd} :Fact.cA (PqF t zs B):=by
 rintro v w w' ⟨a',l',c',zs',h1,h2,h3⟩ hb;exact⟨a',l',c',zs',h1,h2.below hb,h3⟩
theorem aO.aia {v':Vd} (hx:aF Xd.n c.xs) (h:aO c t v) (h':aO c t v'):v.n=v'.n:=by
 exact PZ
theorem vL(d:Ad) (c:Cl) (t:ByteArray) (w:World) (hr:aB w d c.raw) (hT:aq c) {j:Nat} {v:Vd} (hv:c.vs[j]?=Y5 v) (hb:aO c t v):
  Calls Tryz.prog 34 #[Zc #[J d.a1 d.l1 d.c1,J d.a2 d.l2 d.c2,J d.a3 d.l3 d.c3,J d.a4 d.l4 d.c4,J d.a5 d.l5 d.c5,Y7 Y6 c.now],I t] w λe w'=>e=Za (Y7 Y6 j)/\Below w.heap.size w w':=by
 refine (im d c t w hr hT.2.1.2.2.2.1.2.2 hT.2.1.2.2.1.2.2 (λj v hv e=>by have h9:=(hT.2.1.2.2.1.2.1 j v hv).1;rw[e] at h9;have h8:=h9.1;revert h8;decide)).mono ?_
 rintro e w' ⟨hb2,⟨j',v',h1,h2,rfl⟩|⟨hno,rfl⟩⟩
 ·obtain⟨rfl,_⟩:=hT.2.1.2.2.1.2.2.inj h1 hv (h2.aia hT.2.1.2.2.2.1.2.2 hb);exact⟨rfl,hb2⟩
 ·exact absurd hb (hno v)
theorem Wc.step {p:Pd} {q:Qd} (hx:aF Xd.n c.xs) (ht:p.zs[k]?=Y5 t) (hb:aO c t v):Wc c p (k+1) q↔Wc c p k q\/q=⟨v.n,p.d⟩:=by
 constructor
 ·rintro⟨i,t',v',h1,h2,h3,rfl⟩;by_cases e:i=k
  ·subst e;rw[ht] at h2;obtain rfl:=Yd h2;exact Zd (by rw[h3.aia hx hb])
  ·exact Ze ⟨i,t',v',by omega,h2,h3,rfl⟩
 ·rintro (⟨i,t',v',h1,h2,h3,rfl⟩|rfl)
  ·exact⟨i,t',v',by omega,h2,h3,rfl⟩
  ·exact⟨k,t,v,by omega,ht,hb,rfl⟩
theorem Wn.yes {p:Pd} {q:Qd} (hp:c.ps[k]?=Y5 p) (hd:¬p.d=⟨#[]⟩):Wn c (k+1) q↔Wn c k q\/Wc c p p.zs.length q:=by
 constructor
 ·rintro⟨j,p',h1,h2,h3,i,t,v,h4,h5,h6⟩;by_cases e:j=k
  ·subst e;rw[hp] at h2;obtain rfl:=Yd h2;exact Zd ⟨i,t,v,(Yc.1 h4).1,h4,h5,h6⟩
  ·exact Ze ⟨j,p',by omega,h2,h3,i,t,v,h4,h5,h6⟩
 ·rintro (⟨j,p',h1,h2,h3,h4⟩|⟨i,t,v,_,h4,h5,h6⟩)
  ·exact⟨j,p',by omega,h2,h3,h4⟩
  ·exact⟨k,p,by omega,hp,hd,i,t,v,h4,h5,h6⟩
theorem Wn.no {p:Pd} {q:Qd} (hp:c.ps[k]?=Y5 p) (hd:p.d=⟨#[]⟩):Wn c (k+1) q↔Wn c k q:=by
 constructor
 ·rintro⟨j,p',h1,h2,h3,h4⟩;by_cases e:j=k
  ·subst e;rw[hp] at h2;obtain rfl:=Yd h2;exact absurd hd h3
  ·exact⟨j,p',by omega,h2,h3,h4⟩
 ·rintro⟨j,p',h1,h2,h3,h4⟩;exact⟨j,p',by omega,h2,h3,h4⟩
theorem lW(d:Ad) (c:Cl) (w:World) (hr:aB w d c.raw) (hT:aq c):
  Calls Tryz.prog 119 #[Zc #[J d.a1 d.l1 d.c1,J d.a2 d.l2 d.c2,J d.a3 d.l3 d.c3,J d.a4 d.l4 d.c4,J d.a5 d.l5 d.c5,Y7 Y6 c.now]] w (ak1 c (w.heap.size+1) w):=by
 obtain⟨a1,l1,y1,a2,l2,y2,a3,l3,y3,a4,l4,y4,a5,l5,y5⟩:=d;dsimp only;obtain⟨HR,hl1,hm1,hl2,hm2,hl3,hm3,hl4,hm4,hl5,hm5⟩:=al1;clear hr
 have HT:=aa hT;clear hT;have h58:c.ps.length<=8:=by have:=HT.sm.p;omega
 go_enter Tryz.func119,Tryz.ntmps119;go_wp2;go_loopw [3,4] (λvo vi wr=> ∃(k:Nat) (ca:Option Addr) (cl cc:Nat) (ys:List Qd),k<=l5/\vi=Y7 Y6 k/\vo=J ca cl cc/\Hid (aw wr ca cl cc 2 147 (ys.map qdF) (λj=>w.heap.size+1<=j)/\RQ ys/\(∀q,q∈ys↔Wn c k q)/\ys.length<=3*k)/\Hid (Below (w.heap.size+1) (w.alloc (Y8 #[J a1 l1 y1,J a2 l2 y2,J a3 l3 y3,J a4 l4 y4,J a5 l5 y5,Y7 Y6 c.now] 29)) wr)) (λ_ vi _=>l5 - (intOf vi).toNat);case atStart=>exact⟨0,_,0,0,[],by omega,rfl,rfl,⟨⟨rfl,Ye _,by omega,Ze rfl⟩,List.Pairwise.nil,λq=>⟨λh=>by simp at h,λ⟨j,p,h,_⟩=>by omega⟩,by simp⟩,by first|exact Yh _ _|exact (ak _ _).mono aG⟩
 case round=>
  obtain⟨k,ca,cl,cc,ys,hk,rfl,rfl,HQ,HL⟩:=hrel;obtain⟨Bk,HB⟩:=ahd;have hLs:w.heap.size+1<=wr.heap.size:=by have h8:=HL.size;rw[cw] at h8;exact h8
  by_cases hlt:k<l5
  ·obtain⟨b,o,x,rfl,hb,hx,hat⟩:=cg (HR.p.below HB.out) hlt
   obtain⟨va,vl,vc,hvr,z0,z2,z4,c0,c1,c2,c3,c4,c5⟩:=bH hat
   obtain⟨HXx,HTx,HZx0⟩:=gZ;have HZx2:=aa z2;have HZx4:=aa z4;clear hat hx z0 z2 z4 hvr;have hbw:=hb;clear hb;have hk1:(k:Int)<l5:=af
   obtain⟨W1,hW1⟩:∃W1,W1=wr:=⟨_,rfl⟩;subst hW1;have hxz:x.zs.length=vl:=HTx.1;have hv3:vl<=3:=by have h9:(x.zs.length:Int)<=3:=(HT.2.1.2.2.2.2.2.1 k x HXx.out).2.2.2.1.1;omega
   obtain⟨k0,k1,k2,k3,k4,k5⟩:=cs6 Bk;have ltk_0:=ae Bk.out
   go_wp2;clear k0 k1 k2 k3 k4 k5 ltk_0;clear c0 c1 c2 c3 c4 c5 hbw;go_loopw [3,6] (λvo vi wr=> ∃(n:Nat) (ca:Option Addr) (cl cc:Nat) (ys:List Qd),n<=vl/\(x.d=⟨#[]⟩->n=0)/\vi=Y7 Y6 n/\vo=J ca cl cc/\Hid (aw wr ca cl cc 2 147 (ys.map qdF) (λj=>w.heap.size+1<=j)/\RQ ys/\(∀q,q∈ys↔Wn c k q\/Wc c x n q)/\ys.length<=3*k+n)/\Hid (Below (W1.heap.size+1) (W1.alloc (Y8 #[I x.n,Y7 Y6 x.c,I x.z,J va vl vc,I x.d,Y7 Y6 x.p] 40)) wr)) (λ_ vi _=>vl - (intOf vi).toNat);case atStart=>exact⟨0,_,_,_,ys,by omega,λ_=>rfl,rfl,rfl,⟨HQ.1.below (ak _ _),HQ.2.1,λq=>by rw[HQ.2.2.1];exact⟨Ze,λh=>h.elim id (λ⟨i,t,v,h,_⟩=>by omega)⟩,by have:=HQ.2.2.2;omega⟩,Yh _ _⟩
   case round=>
    clear HQ;obtain⟨n,ca,cl,cc,ys,hn,hn0,rfl,rfl,HQ,HL2⟩:=hrel;have hbP:Below W1.heap.size W1 wr:=(ak W1 (Y8 (pov x va vl vc) 40)).trans (HL2.mono af);have Bp:=aa ((HL2.block W1.heap.size af).trans (heap_alloc_new W1 (Y8 (pov x va vl vc) 40)));replace Bk:=upK Bk hbP;replace HB:=upB HB hbP;have HBP:=aa hbP;have hs2:=hbP.size;have hyl:ys.length=cl:=by have h9:(ys.map qdF).length=cl:=HQ.1.1;rw[Yo] at h9;exact h9
    have hyb:=HQ.2.2.2;clear hbP;by_cases he:x.d=⟨#[]⟩
    ·obtain rfl:=hn0 he;have hq:=cC he;have HHE:=aa he;clear he;obtain⟨p0,p1,p2,p3,p4,p5⟩:=cs6 Bp;have ltp_0:=ae Bp.out;go_wp2;all_goals (
      refine⟨⟨k+1,ca,cl,cc,ys,by omega,by go_num,rfl,⟨HQ.1,HQ.2.1,λq=>?_,by omega⟩,HL.trans (HBP.mono af)⟩,by simp[intOf];omega⟩;rw[HQ.2.2.1,Wn.no HXx.out HHE.out]
      exact⟨λh=>h.elim id (λ⟨i,t,v,h,_⟩=>by omega),Ze⟩)
    have hq:=aY he;have HHE:=aa he;clear he hn0;by_cases hlt2:n<vl
    ·have hk3:(n:Int)<vl:=af
     obtain⟨b2,o2,t,rfl,hb2,hx2,hc2,hsz2⟩:=(HTx.below HBP.out).at hlt2;have HXT:=aa hx2;obtain⟨v,hbd⟩:∃v,aO c t v:=by
      obtain⟨i9,n9,_,_,_,h9⟩:=(HT.2.2.2.1.1 k x HXx.out).2.resolve_left HHE.out;obtain⟨v,hv,_⟩:=h9 n t hx2;exact⟨v,hv⟩
     obtain⟨i9,j,x9,h91,h92,hv,h94⟩:=hbd;have hbd:aO c t v:=⟨i9,j,x9,h91,h92,hv,h94⟩;have HVJ:=aa hv;have HBD:=aa hbd;clear h91 h92 h94 hbd hx2 hsz2;have hj3:j<l3:=by have:=(Yc.1 hv).1;omega
     obtain⟨b3,o3,y,rfl,hb3,hy,hat⟩:=bK (HR.v.below HB.out) hj3;rw[hv] at hy;obtain rfl:=Yd hy;obtain⟨ya,yl,yc,-,hz0,-,-,-,hc3,-,-,-,-,-,-,-⟩:=aW hat;have HTC:=aa (Yb hb2 hc2);have HVC:=aa (Yb hb3 hc3);have HZ0:=aa hz0;have HZD:Hid (x.d.size<=9223372036854775807):=HZx4.out;clear hv hy hat hb2 hc2 hb3 hc3 hz0
     obtain⟨k0,k1,k2,k3,k4,k5⟩:=cs6 Bk;have ltk_0:=ae Bk.out
     obtain⟨p0,p1,p2,p3,p4,p5⟩:=cs6 Bp;have ltp_0:=ae Bp.out;go_wp2_with fail;clear k0 k1 k2 k3 k4 k5 ltk_0 p0 p1 p2 p3 p4 p5 ltp_0
     rename_i K0 hK0;refine bF bf rfl rfl bf ?_
     refine' Grow.stepC _ rfl ?_ ?_;rotate_left 1
     ·exact kF
     refine' Grow.stepC _ rfl ?_ ?_;rotate_left 1
     ·exact kH
     refine' Grow.stepC _ rfl ?_ ?_;rotate_left 1
     ·refine Obl.plain rfl ?_;intro ac wg K hsz hW hf hK;clear hsz;have e33:=hf 33 ag;simp[aj,Yf] at e33
      clear hf;obtain⟨k0,k1,k2,k3,k4,k5⟩:=cs6 ((hW.block _ (ae Bk.out)).trans Bk.out);exact aK
     refine' Grow.stepC _ rfl ?_ ?_;rotate_left 1
     ·refine Obl.plain rfl ?_;intro ac wg K hsz hW hf hK;clear hsz;have e1:=hf 1 ag;simp[aj,Yf] at e1;exact g_
     refine' Grow.stepC _ rfl ?_ ?_;rotate_left 1
     ·exact kD
     refine' Grow.stepC _ rfl ?_ ?_;rotate_left 1
     ·refine Obl.plain rfl ?_;intro ac wg K hsz hW hf hK;clear hsz;have e36:=hf 36 ag;simp[aj,Yf] at e36
      clear hf;obtain⟨p0,p1,p2,p3,p4,p5⟩:=cs6 ((hW.block _ (ae Bp.out)).trans Bp.out);exact aK
     refine' Grow.stepC _ rfl ?_ ?_;rotate_left 1
     ·exact kE
     refine' Grow.stepC _ rfl ?_ ?_;rotate_left 1
     ·refine Obl.plain rfl ?_;intro ac wg K hsz hW hf hK;clear hsz;have e37:=hf 37 ag;simp[aj,Yf] at e37;have e38:=hf 38 ag;simp[aj,Yf] at e38;clear hf;exact aK
     refine' Grow.stepC _ rfl ?_ ?_;rotate_left 1
     ·refine Obl.plain rfl ?_;intro ac wg K hsz hW hf hK;clear hsz;have e39:=hf 39 ag;simp[aj,Yf] at e39;clear hf;have tc:=(ai hW HTC.1).trans HTC.2;exact aK
     refine' Grow.stepC (Y7 Y6 j) rfl ?_ ?_
     ·refine Obl.plain rfl ?_;intro ac wg K hsz hW hf hK;clear hsz;have e35:=hf 35 ag;simp[aj,Yf] at e35
      have e40:=hf 40 ag;simp[aj,Yf] at e40;clear hf;go_simp;refine (vL ⟨a1,l1,y1,a2,l2,y2,(Y5 ⟨b3,o3,U⟩),l3,y3,a4,l4,y4,(Y5 ⟨b,o,U⟩),l5,y5⟩ c t _ (HR.below (HB.trans (hW.mono HB.size))) HT.out HVJ.out HBD.out).mono ?_;rintro e w6 ⟨rfl,hb6⟩;exact hK _ _ hb6 rfl
     refine' Grow.stepC _ rfl ?_ ?_;rotate_left 1
     ·refine Obl.plain rfl ?_;intro ac wg K hsz hW hf hK;clear hsz;have e34:=hf 34 ag;simp[aj,Yf] at e34
      have e41:=hf 41 ag;simp[aj,Yf] at e41;clear hf;have hj0:¬(j:Int)<0:=af
      have hj2:(j:Int)<l3:=af
      exact aK
     refine' Grow.stepC _ rfl ?_ ?_;rotate_left 1
     ·refine Obl.plain rfl ?_;intro ac wg K hsz hW hf hK;clear hsz;have e42:=hf 42 ag;simp[aj,Yf] at e42
      clear hf;exact aK
     refine' Grow.stepC _ rfl ?_ ?_;rotate_left 1
     ·refine Obl.plain rfl ?_;intro ac wg K hsz hW hf hK;clear hsz;have e43:=hf 43 ag;simp[aj,Yf] at e43;clear hf;have vc9:=(ai hW HVC.1).trans HVC.2;exact aK
     refine' Grow.stepC _ rfl ?_ ?_;rotate_left 1
     ·exact kD
     refine' Grow.stepC _ rfl ?_ ?_;rotate_left 1
     ·refine Obl.plain rfl ?_;intro ac wg K hsz hW hf hK;clear hsz;have e45:=hf 45 ag;simp[aj,Yf] at e45
      clear hf;obtain⟨p0,p1,p2,p3,p4,p5⟩:=cs6 ((hW.block _ (ae Bp.out)).trans Bp.out);exact aK
     refine' Grow.stepC _ rfl ?_ ?_;rotate_left 1
     ·refine Obl.plain rfl ?_;intro ac wg K hsz hW hf hK;clear hsz;have e44:=hf 44 ag;simp[aj,Yf] at e44;have e46:=hf 46 ag;simp[aj,Yf] at e46;clear hf;exact aK
     refine Grow.step (PqF ⟨v.n,x.d⟩ ys (w.heap.size+1)) rfl (PqF.mono) ?_ ?_
     ·refine Obl.plain rfl ?_;intro ac wg K hsz hW hf hK;clear hsz;have e32:=hf 32 ag;simp[aj,Yf] at e32
      have e47:=hf 47 ag;simp[aj,Yf] at e47;clear hf;go_simp;refine (ow ca cl cc ys ⟨v.n,x.d⟩ (w.heap.size+1) _ (HQ.1.below hW) (by have:=hW.size;omega) af HZ0.out HZD.out).mono ?_;rintro e w6 ⟨sa,sl,sc,zs2,rfl,ho2,hp2,hb6⟩;exact hK _ _ hb6 ⟨sa,sl,sc,zs2,rfl,ho2,hp2⟩
     refine Grow.done ?_;intro q w5 hW hf;simp only[YI] at hf;obtain⟨⟨sa,sl,sc,zs2,h48,ho2,hp2⟩,-⟩:=hf;have HP2:=aa hp2;have HO2:=aa ho2;have HW2:=aa hW;clear hp2 ho2;intro K hK;rw[if_pos (by rfl)];simp only[aM,YT,Act.put,Yt,YC,YE,h48]
     simp only[List.getLast];go_simp;refine hK _ _ ?_;refine hK0 _ _ ?_;clear hK hK0 K K0
     go_wp2;refine⟨⟨n+1,sa,sl,sc,zs2,by omega,λe=>absurd e HHE.out,by go_num,rfl,⟨HO2.out,HP2.ris HQ.2.1,λq=>?_,by have h9:=HP2.len;omega⟩,HL2.trans (HW2.mono (by have h8:=HL2.size;rw[cw] at h8;exact h8))⟩,by simp[intOf];omega⟩;rw[HP2.mem,HQ.2.2.1,Wc.step HT.2.1.2.2.2.1.2.2 HXT.out HBD.out,or_assoc]
    have hk3:¬(n:Int)<vl:=af
    have hnv:n=vl:=af
    obtain⟨p0,p1,p2,p3,p4,p5⟩:=cs6 Bp;have ltp_0:=ae Bp.out
    go_wp2;refine⟨⟨k+1,ca,cl,cc,ys,by omega,by go_num,rfl,⟨HQ.1,HQ.2.1,λq=>?_,by omega⟩,HL.trans (HBP.mono af)⟩,by simp[intOf];omega⟩
    rw[HQ.2.2.1,Wn.yes HXx.out HHE.out,hxz,hnv]
  have hk1:¬(k:Int)<l5:=af
  have hkl:k=l5:=af
  obtain⟨k0,k1,k2,k3,k4,k5⟩:=cs6 Bk;have ltk_0:=ae Bk.out
  go_wp2;go_ret;exact⟨_,_,_,ys,rfl,HQ.1,HQ.2.1,by rw[hl5,<-hkl];exact HQ.2.2.1,by have:=HQ.2.2.2;omega,HB.out⟩
def xO(c:Cl) (n:Nd) (t:ByteArray):Prop:=(n.d=Zb/\n.u+5<c.now)\/(n.d=Y_/\¬InL n.zs t)
theorem AV(a:Option Addr) (len cap:Nat) (zs:List Qd) (x:Qd) (w:World) (hr:aT w a len cap 2 (zs.map qdF)):
  Calls Tryz.prog 168 #[J a len cap,Zc #[I x.n,I x.d]] w (au (x∈zs) w):=by
 have HR:=aa hr;have hzl:zs.length=len:=fg
 have hlc:len<=9223372036854775807:=Yp hr.2.1 hr.2.2.1;clear hr;go_enter Tryz.func168,Tryz.ntmps168;go_wp2;go_loopw [5] (λvi wr=> ∃k:Nat,k<=len/\vi=Y7 Y6 k/\Hid (∀(j:Nat) y,j<k->zs[j]?=Y5 y->¬y=x)/\Hid (Below (w.heap.size+1) (w.alloc (Y8 #[I x.n,I x.d] 147)) wr)) (λvi _=>len - (intOf vi).toNat);case atStart=>exact⟨0,by omega,rfl,λj y h=>by omega,Yh _ _⟩
 case round=>
  obtain⟨k,hk,rfl,HI,HL⟩:=hrel;have hLs:w.heap.size+1<=wr.heap.size:=by have h8:=HL.size;rw[cw] at h8;exact h8
  obtain⟨HB,Bx⟩:=Ok;by_cases hlt:k<len
  ·have hk1:(k:Int)<len:=af
   obtain⟨b,o,y,rfl,hb,hy,hat⟩:=oX (HR.below HB.out) hlt;obtain⟨-,-,hc0,hc1⟩:=fF hat;have HY:=aa hy;clear hat hy;by_cases he:y=x
   ·have hqe:∀W:World,(Op.equalIn 10000 147 (Zc #[I y.n,I y.d]) (Zc #[I x.n,I x.d])).run Tryz.prog W=.ok Zb W:=λW=>by rw[eqQ];rw[he];simp
    have HE:=aa he;clear he;obtain⟨x0,x1⟩:=cs2 Bx;have ltx_0:=ae Bx.out;go_wp2_with fail;clear x0 x1 ltx_0;have Gx:=Bx;have HW:=HB;obtain⟨x0,x1⟩:=sl2 Gx;have yn:=λq:Wd wr=>(q.cell hb).trans hc0;have yd:=λq:Wd wr=>(q.cell hb).trans hc1;have hne0:=Wd.ne wr
    go_wp2_with fail
    refine bN bf bf ?_;repeat (go_big_quiet_step (first|fail))
    refine wpQuiet_nil ?_
    rintro _ ⟨q1,rfl⟩;have HB1:=upB HW q1.b;have Cx:=upK Gx q1.b;clear hne0 HW HB x0 x1 yn yd Gx Bx hb hc0 hc1 hqe;have HB:=HB1;clear HB1;have Bx:=Cx;clear Cx;go_wp2
    go_ret;exact au.t (by rw[<-HE.out];exact Ys HY.out) HB.out
   have hqe:∀W:World,(Op.equalIn 10000 147 (Zc #[I y.n,I y.d]) (Zc #[I x.n,I x.d])).run Tryz.prog W=.ok Y_ W:=λW=>by rw[eqQ];exact congrArg (Result.ok · W) (by
    cases h1:(y.n.toList==x.n.toList)
    ·rfl
    ·cases h2:(y.d.toList==x.d.toList)
     ·rfl
     ·exact absurd ag8 he)
   have HE:=aa he;clear he;obtain⟨x0,x1⟩:=cs2 Bx;have ltx_0:=ae Bx.out;go_wp2_with fail;clear x0 x1 ltx_0;have Gx:=Bx;have HW:=HB;obtain⟨x0,x1⟩:=sl2 Gx;have yn:=λq:Wd wr=>(q.cell hb).trans hc0;have yd:=λq:Wd wr=>(q.cell hb).trans hc1;have hne0:=Wd.ne wr
   go_wp2_with fail
   refine bN bf bf ?_;repeat (go_big_quiet_step (first|fail))
   refine wpQuiet_nil ?_
   rintro _ ⟨q1,rfl⟩;have HB1:=upB HW q1.b;have Cx:=upK Gx q1.b;clear hne0 HW HB x0 x1 yn yd Gx Bx hb hc0 hc1 hqe;have HB:=HB1;clear HB1;have Bx:=Cx;clear Cx;go_wp2
   refine⟨⟨k+1,by omega,by go_num,λj z hj hz=>?_,HL.trans (q1.b.mono af)⟩,by simp[intOf];omega⟩;by_cases e:j=k
   ·subst e;rw[HY.out] at hz;obtain rfl:=Yd hz;exact HE.out
   ·exact HI.out j z af hz
  have hk1:¬(k:Int)<len:=af
  obtain⟨x0,x1⟩:=cs2 Bx;have ltx_0:=ae Bx.out;go_wp2;go_ret;exact au.f (λh=>by obtain⟨j,hj⟩:=YD h;exact HI.out j x uo hj rfl) HB.out
theorem vF(d:Ad) (now:Int) (n:Nd) (va:Option Addr) (vl vc:Nat) (w:World) (h0:0<=n.u) (h1:n.u<=1000000):
  Calls Tryz.prog 129 #[Zc #[J d.a1 d.l1 d.c1,J d.a2 d.l2 d.c2,J d.a3 d.l3 d.c3,J d.a4 d.l4 d.c4,J d.a5 d.l5 d.c5,Y7 Y6 now],Zc #[I n.n,I n.z,Y7 Y6 n.c,Y7 Y6 n.s,Y7 Y6 n.u,Y9 n.d,J va vl vc]] w λe w'=>e=Za (Y9 (n.d && decide (n.u+5<now)))/\Below w.heap.size w w':=by
 exact PL
def agY(B:Nat):Fact:=λv w=> ∃b,v=Zf (Y5 ⟨b,0,U⟩)/\B<=b/\w.heap[b]?=Y5 (Y8 #[I ⟨#[]⟩,I ⟨#[]⟩,Y7 Y6 0,Y7 Y6 0,Y7 Y6 0,Y9 Y_,J U 0 0] 83 (0,0))
theorem agY.mono(B:Nat):Fact.cA (agY B):=by
 exact oU
theorem aq.alh {n:Nd} (h:aq c) (hn:c.ns[j]?=Y5 n):0<=n.u/\n.u<=1000000:=(h.2.1.1.2.1 j n hn).2.2.2.2.1
theorem oZ {n:Nd} (h:n.d=Zb):xO c n t↔n.u+5<c.now:=by
 unfold xO;rw[h];simp
theorem nD {n:Nd} (h:n.d=Y_):xO c n t↔¬InL n.zs t:=by
 unfold xO;rw[h];simp
theorem B6(d:Ad) (c:Cl) (x:Qd) (j:Nat) (n:Nd) (w:World) (hr:aB w d c.raw) (hT:aq c) (hn:c.ns[j]?=Y5 n) (hnn:n.n=x.d):
  Calls Tryz.prog 169 #[Zc #[J d.a1 d.l1 d.c1,J d.a2 d.l2 d.c2,J d.a3 d.l3 d.c3,J d.a4 d.l4 d.c4,J d.a5 d.l5 d.c5,Y7 Y6 c.now],Zc #[I x.n,I x.d]] w (au (xO c n x.n) w):=by
 obtain⟨a1,l1,y1,a2,l2,y2,a3,l3,y3,a4,l4,y4,a5,l5,y5⟩:=d;dsimp only;obtain⟨HR,hl1,hm1,hl2,hm2,hl3,hm3,hl4,hm4,hl5,hm5⟩:=al1;clear hr
 have HT:=aa hT;have HN:=aa hn;have HNN:=aa hnn;have hj1:j<l1:=by have:=(Yc.1 hn).1;omega
 have hj2:(j:Int)<l1:=af
 have hj0:¬(j:Int)<0:=af
 have hu:=aq.alh hT hn;clear hT hn hnn;have HB:=aa (Yh w.heap.size w);obtain⟨b,o,y,rfl,hbl,hy,hat⟩:=dh HR.n hj1;rw[HN.out] at hy;obtain rfl:=Yd hy;obtain⟨va,vl,vc,hvr,-,-,d0,d1,d2,d3,d4,d5,d6⟩:=bg hat;have HV:=aa hvr;clear hat hy hvr;go_enter Tryz.func169,Tryz.ntmps169;go_wp2_with fail;obtain⟨W,hW0⟩:∃W,W=((w.alloc (Y8 (clo6 (Y5 ⟨b,o,U⟩) l1 y1 a2 l2 y2 a3 l3 y3 a4 l4 y4 a5 l5 y5 c.now) 29)).alloc (Y8 #[I x.n,I x.d] 147)):=⟨_,rfl⟩;have Bk:Hid (W.heap[w.heap.size]?=Y5 (Y8 (clo6 (Y5 ⟨b,o,U⟩) l1 y1 a2 l2 y2 a3 l3 y3 a4 l4 y4 a5 l5 y5 c.now) 29 (0,0))):=by rw[hW0];exact eG _ _ _
 obtain⟨Bx,HBW⟩:=Oh;have HNC:=aa (Yb d0 (Yb d1 (Yb d2 (Yb d3 (Yb d4 (Yb d5 d6))))));have HBL:=aa hbl;rw[<-hW0];clear hW0 d0 d1 d2 d3 d4 d5 d6 hbl
 rename_i K0 hK0;refine bF bf rfl rfl bf ?_;refine' Grow.stepC _ rfl ?_ ?_;rotate_left 1
 ·exact ny
 refine' Grow.stepC _ rfl ?_ ?_;rotate_left 1
 ·exact aj8
 refine' Grow.stepC _ rfl ?_ ?_;rotate_left 1
 ·exact OO
 refine' Grow.stepC _ rfl ?_ ?_;rotate_left 1
 ·exact kF
 refine' Grow.stepC _ rfl ?_ ?_;rotate_left 1
 ·exact akn
 refine' Grow.stepC (Y7 Y6 j) rfl ?_ ?_
 ·refine Obl.plain rfl ?_;intro ac wg K hsz hW hf hK;clear hsz;have e8:=hf 8 ag;simp[aj,Yf] at e8
  have e10:=hf 10 ag;simp[aj,Yf] at e10;clear hf;go_simp;refine (ft ⟨(Y5 ⟨b,o,U⟩),l1,y1,a2,l2,y2,a3,l3,y3,a4,l4,y4,a5,l5,y5⟩ c.now c.ns x.d _ (HR.n.below (HBW.trans (hW.mono HBW.size))) HT.2.1.1.2.2 HN.out HNN.out).mono ?_;rintro e w6 ⟨rfl,hb6⟩;exact hK _ _ hb6 rfl
 refine' Grow.stepC _ rfl ?_ ?_;rotate_left 1
 ·exact OH
 refine' Grow.stepC _ rfl ?_ ?_;rotate_left 1
 ·refine Obl.plain rfl ?_;intro ac wg K hsz hW hf hK;clear hsz;have e12:=hf 12 ag;simp[aj,Yf] at e12;clear hf;obtain⟨d0,d1,d2,d3,d4,d5,d6⟩:=HNC.out
  have hbg:=HBW.trans (hW.mono HBW.size);replace d0:=(ai hbg HBL.out).trans d0;replace d1:=(ai hbg HBL.out).trans d1;replace d2:=(ai hbg HBL.out).trans d2;replace d3:=(ai hbg HBL.out).trans d3;replace d4:=(ai hbg HBL.out).trans d4;replace d5:=(ai hbg HBL.out).trans d5;replace d6:=(ai hbg HBL.out).trans d6
  go_simp;refine hK _ _ (Yh _ _) ?_;with_reducible rfl
 refine Grow.step (agY W.heap.size) rfl (agY.mono _) ?_ ?_
 ·exact kZ
 refine Grow.done ?_;intro q wz hW hf;simp only[YI] at hf
 obtain⟨⟨b9,h5,hb9,hg9⟩,h13,-⟩:=hf;have g0:=hg9;have g1:(wz.setCell ⟨b9,0,U⟩ (I n.n)).heap[b9]?=Y5 (Y8 #[I n.n,I ⟨#[]⟩,Y7 Y6 0,Y7 Y6 0,Y7 Y6 0,Y9 Y_,J U 0 0] 83 (0,0)):=av g0 _;have g2:((wz.setCell ⟨b9,0,U⟩ (I n.n)).setCell ⟨b9,1,U⟩ (I n.z)).heap[b9]?=Y5 (Y8 #[I n.n,I n.z,Y7 Y6 0,Y7 Y6 0,Y7 Y6 0,Y9 Y_,J U 0 0] 83 (0,0)):=av g1 _;have g3:(((wz.setCell ⟨b9,0,U⟩ (I n.n)).setCell ⟨b9,1,U⟩ (I n.z)).setCell ⟨b9,2,U⟩ (Y7 Y6 n.c)).heap[b9]?=Y5 (Y8 #[I n.n,I n.z,Y7 Y6 n.c,Y7 Y6 0,Y7 Y6 0,Y9 Y_,J U 0 0] 83 (0,0)):=av g2 _;have g4:((((wz.setCell ⟨b9,0,U⟩ (I n.n)).setCell ⟨b9,1,U⟩ (I n.z)).setCell ⟨b9,2,U⟩ (Y7 Y6 n.c)).setCell ⟨b9,3,U⟩ (Y7 Y6 n.s)).heap[b9]?=Y5 (Y8 #[I n.n,I n.z,Y7 Y6 n.c,Y7 Y6 n.s,Y7 Y6 0,Y9 Y_,J U 0 0] 83 (0,0)):=av g3 _;have g5:(((((wz.setCell ⟨b9,0,U⟩ (I n.n)).setCell ⟨b9,1,U⟩ (I n.z)).setCell ⟨b9,2,U⟩ (Y7 Y6 n.c)).setCell ⟨b9,3,U⟩ (Y7 Y6 n.s)).setCell ⟨b9,4,U⟩ (Y7 Y6 n.u)).heap[b9]?=Y5 (Y8 #[I n.n,I n.z,Y7 Y6 n.c,Y7 Y6 n.s,Y7 Y6 n.u,Y9 Y_,J U 0 0] 83 (0,0)):=av g4 _;have g6:((((((wz.setCell ⟨b9,0,U⟩ (I n.n)).setCell ⟨b9,1,U⟩ (I n.z)).setCell ⟨b9,2,U⟩ (Y7 Y6 n.c)).setCell ⟨b9,3,U⟩ (Y7 Y6 n.s)).setCell ⟨b9,4,U⟩ (Y7 Y6 n.u)).setCell ⟨b9,5,U⟩ (Y9 n.d)).heap[b9]?=Y5 (Y8 (nov n U 0 0) 83 (0,0)):=av g5 _;have g7:(((((((wz.setCell ⟨b9,0,U⟩ (I n.n)).setCell ⟨b9,1,U⟩ (I n.z)).setCell ⟨b9,2,U⟩ (Y7 Y6 n.c)).setCell ⟨b9,3,U⟩ (Y7 Y6 n.s)).setCell ⟨b9,4,U⟩ (Y7 Y6 n.u)).setCell ⟨b9,5,U⟩ (Y9 n.d)).setCell ⟨b9,6,U⟩ (J va vl vc)).heap[b9]?=Y5 (Y8 (nov n va vl vc) 83 (0,0)):=av g6 _;obtain⟨t0,t1,t2,t3,t4,t5,t6⟩:=cs7 hg9;have f0:=al hg9 0;have f1:=al hg9 1;have f2:=al hg9 2;have f3:=al hg9 3;have f4:=al hg9 4;have f5:=al hg9 5;have f6:=al hg9 6;have Bn:=aa g7;have HWX:Hid (Below W.heap.size W (((((((wz.setCell ⟨b9,0,U⟩ (I n.n)).setCell ⟨b9,1,U⟩ (I n.z)).setCell ⟨b9,2,U⟩ (Y7 Y6 n.c)).setCell ⟨b9,3,U⟩ (Y7 Y6 n.s)).setCell ⟨b9,4,U⟩ (Y7 Y6 n.u)).setCell ⟨b9,5,U⟩ (Y9 n.d)).setCell ⟨b9,6,U⟩ (J va vl vc))):=ah hb9 (ah hb9 (ah hb9 (ah hb9 (ah hb9 (ah hb9 (ah hb9 (hW)))))));clear g0 g1 g2 g3 g4 g5 g6 g7 hg9;intro K hK;rw[if_pos (by rfl)];simp only[aM,YT,Act.put,Yt,YC,YE,h5,h13]
 simp only[List.getLast];go_simp;refine hK _ _ ?_;refine hK0 _ _ ?_;clear hK hK0 K K0
 generalize (((((((wz.setCell ⟨b9,0,U⟩ (I n.n)).setCell ⟨b9,1,U⟩ (I n.z)).setCell ⟨b9,2,U⟩ (Y7 Y6 n.c)).setCell ⟨b9,3,U⟩ (Y7 Y6 n.s)).setCell ⟨b9,4,U⟩ (Y7 Y6 n.u)).setCell ⟨b9,5,U⟩ (Y9 n.d)).setCell ⟨b9,6,U⟩ (J va vl vc))=X3 at Bn HWX ⊢;clear t0 t1 t2 t3 t4 t5 t6 f0 f1 f2 f3 f4 f5 f6;have HB3:=aa (HBW.trans (HWX.mono HBW.size));replace Bk:=aa ((HWX.block _ (ae Bk.out)).trans Bk.out);replace Bx:=aa ((HWX.block _ (ae Bx.out)).trans Bx.out);clear HB hW HWX HBW;have HB:=HB3;clear HB3;cases hd:n.d
 ·have HD:=aa hd;clear hd;(try unfold nov at Bn);rw[HD.out] at Bn
  obtain⟨k0,k1,k2,k3,k4,k5⟩:=cs6 Bk;have ltk_0:=ae Bk.out
  obtain⟨x0,x1⟩:=cs2 Bx;have ltx_0:=ae Bx.out;obtain⟨n0,n1,n2,n3,n4,n5,n6⟩:=cs7 Bn;have ltn_0:=ae Bn.out;go_wp2_with fail
  refine (bX va vl vc n.zs x.n _ (HV.below HB.out)).mono ?_;rintro e w4 ⟨r,rfl,hh,hb⟩
  clear k0 k1 k2 k3 k4 k5 ltk_0 x0 x1 ltx_0 n0 n1 n2 n3 n4 n5 n6 ltn_0;replace Bk:=upK Bk hb;replace Bx:=upK Bx hb;replace Bn:=upK Bn hb;replace HB:=upB HB hb;clear hb
  have HH:=aa hh;clear hh
  obtain⟨k0,k1,k2,k3,k4,k5⟩:=cs6 Bk;have ltk_1:=ae Bk.out
  obtain⟨x0,x1⟩:=cs2 Bx;have ltx_1:=ae Bx.out;obtain⟨n0,n1,n2,n3,n4,n5,n6⟩:=cs7 Bn;have ltn_1:=ae Bn.out;cases r;all_goals (
   go_wp2
   go_ret
   first
    | exact au.t ((nD HD.out).2 (λh=>by have h9:=HH.2 h;cases h9)) HB.out
    | exact au.f (λh=>(nD HD.out).1 h (HH.1 aG)) HB.out)
 ·have HD:=aa hd;clear hd;(try unfold nov at Bn);rw[HD.out] at Bn
  obtain⟨k0,k1,k2,k3,k4,k5⟩:=cs6 Bk;have ltk_0:=ae Bk.out
  obtain⟨x0,x1⟩:=cs2 Bx;have ltx_0:=ae Bx.out;obtain⟨n0,n1,n2,n3,n4,n5,n6⟩:=cs7 Bn;have ltn_0:=ae Bn.out;go_wp2_with fail
  obtain⟨r,hr⟩:∃r,r=decide (n.u+5<c.now):=⟨_,rfl⟩;have HRR:=aa hr;clear hr;have hg:=vF ⟨(Y5 ⟨b,o,U⟩),l1,y1,a2,l2,y2,a3,l3,y3,a4,l4,y4,a5,l5,y5⟩ c.now n va vl vc X3 hu.1 hu.2;rw[HD.out,<-HRR.out] at hg;refine (hg).mono ?_;rintro e w4 ⟨rfl,hb⟩
  clear k0 k1 k2 k3 k4 k5 ltk_0 x0 x1 ltx_0 n0 n1 n2 n3 n4 n5 n6 ltn_0;replace Bk:=upK Bk hb;replace Bx:=upK Bx hb;replace Bn:=upK Bn hb;replace HB:=upB HB hb;clear hb
  clear hg
  obtain⟨k0,k1,k2,k3,k4,k5⟩:=cs6 Bk;have ltk_1:=ae Bk.out
  cases r;all_goals (
   go_wp2
   go_ret
   first
    | exact au.t ((oZ HD.out).2 (of_decide_eq_true HRR.symm)) HB.out
    | exact au.f (λh=>(of_decide_eq_false HRR.symm) ((oZ HD.out).1 h)) HB.out)
def Wnt(c:Cl) (v:Vd) (t:ByteArray):Prop:=∃(j:Nat) (p:Pd),c.ps[j]?=Y5 p/\Rw p t v.m
def Mof(c:Cl) (v:Vd) (t:ByteArray):Prop:=∃(j:Nat) (n:Nd),c.ns[j]?=Y5 n/\n.n=t/\xO c n v.n
def Xc(c:Cl) (v:Vd) (k:Nat) (q:Qd):Prop:=∃(i:Nat) (t:ByteArray),i<k/\v.zs[i]?=Y5 t/\¬Wnt c v t/\Mof c v t/\q=⟨v.n,t⟩
def Xn(c:Cl) (k:Nat) (q:Qd):Prop:=∃(j:Nat) (v:Vd),j<k/\c.vs[j]?=Y5 v/\Xc c v v.zs.length q
def ak9(c:Cl) (B:Nat) (w:World) (e:Ending) (w':World):Prop:=∃a' l' c' zs',e=Za (J a' l' c')/\aw w' a' l' c' 2 147 (zs'.map qdF) (λk=>B<=k)/\RQ zs'/\(∀q,q∈zs'↔Xn c c.vs.length q)/\zs'.length<=64/\Below w.heap.size w w'
theorem Mof.iff {n:Nd} (hr:aF Nd.n c.ns) (h:c.ns[j]?=Y5 n) (hn:n.n=t):Mof c v t↔xO c n v.n:=by
 constructor
 ·rintro⟨j',n',h',hn',ho⟩;obtain⟨-,rfl⟩:=hr.inj h h' (hn.trans hn'.symm);exact ho
 ·exact λho=>⟨j,n,h,hn,ho⟩
theorem Xc.yes {q:Qd} (ht:v.zs[k]?=Y5 t) (h1:¬Wnt c v t) (h2:Mof c v t):Xc c v (k+1) q↔Xc c v k q\/q=⟨v.n,t⟩:=by
 constructor
 ·rintro⟨i,s,hi,hs,a,b,e⟩;by_cases h:i=k
  ·subst h;rw[ht] at hs;obtain rfl:=Yd hs;exact Zd e
  ·exact Ze ⟨i,s,by omega,hs,a,b,e⟩
 ·rintro (⟨i,s,hi,hs,a,b,e⟩|e)
  ·exact⟨i,s,by omega,hs,a,b,e⟩
  ·exact⟨k,t,by omega,ht,h1,h2,e⟩
theorem Xc.no {q:Qd} (ht:v.zs[k]?=Y5 t) (h1:¬(¬Wnt c v t/\Mof c v t)):Xc c v (k+1) q↔Xc c v k q:=by
 constructor
 ·rintro⟨i,s,hi,hs,a,b,e⟩;by_cases h:i=k
  ·subst h;rw[ht] at hs;obtain rfl:=Yd hs;exact absurd ⟨a,b⟩ h1
  ·exact⟨i,s,by omega,hs,a,b,e⟩
 ·rintro⟨i,s,hi,hs,a,b,e⟩;exact⟨i,s,by omega,hs,a,b,e⟩
theorem Xn.step {q:Qd} (hv:c.vs[k]?=Y5 v):Xn c (k+1) q↔Xn c k q\/Xc c v v.zs.length q:=by
 constructor
 ·rintro⟨i,s,hi,hs,a⟩;by_cases h:i=k
  ·subst h;rw[hv] at hs;obtain rfl:=Yd hs;exact Zd a
  ·exact Ze ⟨i,s,by omega,hs,a⟩
 ·rintro (⟨i,s,hi,hs,a⟩|a)
  ·exact⟨i,s,by omega,hs,a⟩
  ·exact⟨k,v,by omega,hv,a⟩
def xU(c:Cl) (v:Vd) (n:Nd):Prop:=¬InL v.zs n.n/\¬(v.x=Zb/\0<v.zs.length)/\onOf n.n c.vs<n.s
def xS(c:Cl) (q:Qd):Prop:=∃(i j:Nat) (v:Vd) (n:Nd),c.vs[i]?=Y5 v/\v.n=q.n/\c.ns[j]?=Y5 n/\n.n=q.d/\xU c v n
open Classical in
noncomputable def lakL (c:Cl) (zs:List Qd):List Qd:=zs.filter λq=>decide (xS c q)
theorem agx {zs:List Qd} {q:Qd} (h:zs[k]?=Y5 q) (hq:xS c q):lakL c (zs.take (k+1))=lakL c (zs.take k)++[q]:=by
 unfold lakL;rw[YN,h,YV];simp[hq]
theorem akP {zs:List Qd} {q:Qd} (h:zs[k]?=Y5 q) (hq:¬xS c q):lakL c (zs.take (k+1))=lakL c (zs.take k):=by
 unfold lakL;rw[YN,h,YV];simp[hq]
theorem Be {zs:List Qd} {q:Qd} (h:zs[k]?=Y5 q) (hq:xS c q) (h0:lakL c (zs.take k)=[]):(lakL c zs)[0]?=Y5 q:=by
 have h1:=agx h hq;rw[h0,List.nil_append] at h1;have h2:lakL c zs=lakL c (zs.take (k+1))++lakL c (zs.drop (k+1)):=by
  unfold lakL;rw[<-YV,List.take_append_drop]
 rw[h2,h1];rfl
theorem xS.iff {q:Qd} {n:Nd} (hT:aq c) (h1:c.vs[i]?=Y5 v) (h2:v.n=q.n) (h3:c.ns[j]?=Y5 n) (h4:n.n=q.d):xS c q↔xU c v n:=by
 constructor
 ·rintro⟨i',j',v',n',k1,k2,k3,k4,k5⟩;obtain⟨-,rfl⟩:=hT.2.1.2.2.1.2.2.inj h1 k1 (h2.trans k2.symm);obtain⟨-,rfl⟩:=hT.2.1.1.2.2.inj h3 k3 (h4.trans k4.symm);exact k5
 ·exact λh=>⟨i,j,v,n,h1,h2,h3,h4,h⟩
theorem aik {q:Qd} (hT:aq c) (h:Wn c c.ps.length q):∃(i j:Nat) (v:Vd) (n:Nd),c.vs[i]?=Y5 v/\v.n=q.n/\c.ns[j]?=Y5 n/\n.n=q.d:=by
 obtain⟨j,p,_,hp,hd,i,t,v,hz,⟨i1,jv,x,h1,h2,h3,h4⟩,rfl⟩:=h;obtain⟨i9,n9,k1,k2,_⟩:=(hT.2.2.2.1.1 j p hp).2.resolve_left hd;exact⟨jv,i9,v,n9,h3,rfl,k1,k2⟩
theorem aq.on(h:aq c) (hv:c.vs[i]?=Y5 v):v.zs.length<=6/\jb v.zs:=by
 have h1:=dy (h.2.1.2.2.1.2.1 i v hv).2.2.2.2.2.2;exact⟨by have:=h1.1;omega,h1.2⟩
def onV(v:Vd) (zs:List ByteArray):Vd:=⟨v.n,v.c,v.z,v.k,v.x,v.m,v.y,zs⟩
def vy(c:Cl) (i:Nat) (y:Vd):Cl:=⟨c.ns,c.ks,c.vs.set i y,c.xs,c.ps,c.now⟩
def AO:ByteArray:=⟨#[111,102,102,32]⟩
def wOn:ByteArray:=⟨#[111,110,32]⟩
def kh(c:Cl) (o:Co):Prop:=
 (¬aq c/\o=co0 1)\/
 (aq c/\∃es q i v,(RQ es/\∀q,q∈es↔Xn c c.vs.length q)/\es[0]?=Y5 q/\c.vs[i]?=Y5 v/\v.n=q.n/\o=⟨vy c i (onV v (wo (λs:ByteArray=>s) q.d v.zs)),AO++v.n,0⟩)\/
 (aq c/\(∀q,¬Xn c c.vs.length q)/\∃zs,(RQ zs/\∀q,q∈zs↔Wn c c.ps.length q)/\((∃q i v ys,(lakL c zs)[0]?=Y5 q/\c.vs[i]?=Y5 v/\v.n=q.n/\Put q.d v.zs ys/\o=⟨vy c i (onV v ys),wOn++v.n,0⟩)\/(lakL c zs=[]/\o=co0 6)))
def agX(B:Nat):Fact:=λv w=> ∃b,v=Zf (Y5 ⟨b,0,U⟩)/\B<=b/\w.heap[b]?=Y5 (Y8 #[I ⟨#[]⟩,I ⟨#[]⟩] 147 (0,0))
theorem agX.mono(B:Nat):Fact.cA (agX B):=by
 exact oU
theorem nG(h:aL x):¬x=⟨#[]⟩:=λe=>by
 rw[e] at h;have h8:=h.1;revert h8;decide
theorem BO(hT:aq c) {k:Nat} {v:Vd} {t:ByteArray} (hj:c.vs[k]?=Y5 v) (ht:¬t=⟨#[]⟩):Wn c c.ps.length ⟨v.n,t⟩↔Wnt c v t:=by
 have hv:=hT.2.1.2.2.1.2.2;constructor
 ·rintro⟨j,p,_,hp,hd,i,s,v',hs,⟨i1,jv,x,h1,h2,h3,h4⟩,e⟩;obtain⟨e1,e2⟩:=Qd.mk.inj e;obtain⟨-,rfl⟩:=hv.inj hj h3 e1;have hne:¬x.v=⟨#[]⟩:=by rw[<-h4];exact nG (hT.2.1.2.2.1.2.1 _ v hj).1
  obtain⟨i',j',x',v',k1,k2,k3,k4,k5,k6,_⟩:=(hT.2.2.1.2 i1 x h1).2.resolve_left hne;obtain⟨_,rfl⟩:=hv.inj k3 hj (k4.trans h4.symm);refine⟨j,p,hp,e2.symm,i,?_⟩;rw[hs,k6,h2]
 ·rintro⟨j,p,hp,hd,i,hk⟩;have hz:=(hT.2.1.2.2.2.2.2.1 j p hp).2.2.2.1.2;have hne:¬v.m=⟨#[]⟩:=nG (hz i v.m hk).1;obtain⟨i',j',x',v',k1,k2,k3,k4,k5,k6,_⟩:=(hT.2.2.1.1 k v hj).2.resolve_left hne;exact⟨j,p,(Yc.1 hp).1,hp,by rw[hd];exact ht,i,v.m,v,hk,⟨i',k,x',k1,k2,hj,k5.symm⟩,by rw[hd]⟩
theorem Cc(d:Ad) (c:Cl) (w:World) (hr:aB w d c.raw) (hT:aq c):
  Calls Tryz.prog 130 #[Zc #[J d.a1 d.l1 d.c1,J d.a2 d.l2 d.c2,J d.a3 d.l3 d.c3,J d.a4 d.l4 d.c4,J d.a5 d.l5 d.c5,Y7 Y6 c.now]] w (ak9 c (w.heap.size+1) w):=by
 obtain⟨a1,l1,y1,a2,l2,y2,a3,l3,y3,a4,l4,y4,a5,l5,y5⟩:=d;dsimp only;obtain⟨HR,hl1,hm1,hl2,hm2,hl3,hm3,hl4,hm4,hl5,hm5⟩:=al1;clear hr
 have HT:=aa hT;clear hT;have HB:=aa (Yh w.heap.size w);have h58:c.vs.length<=8:=by have:=HT.sm.v;omega
 go_enter Tryz.func130,Tryz.ntmps130;go_wp2_with fail;refine (lW ⟨a1,l1,y1,a2,l2,y2,a3,l3,y3,a4,l4,y4,a5,l5,y5⟩ c _ (HR.below (HB.trans ((ak _ _).mono HB.size))) HT.out).mono ?_;rintro e w0 ⟨wa,wl,wc,zw,rfl,how,hrw,hmw,hlw,hb⟩
 obtain⟨HA0,hbx⟩:=aV hb;have Bk:=aa HA0;replace HB:=upB HB hbx;clear hb hbx HA0
 have HOW:=aa how.row;have HMW:=aa hmw;clear how hrw hmw hlw
 obtain⟨k0,k1,k2,k3,k4,k5⟩:=cs6 Bk;have ltk_1:=ae Bk.out
 go_wp2;clear k0 k1 k2 k3 k4 k5 ltk_1;have hs0:w.heap.size<w0.heap.size:=ae Bk.out;go_loopw [4,5] (λvo vi wr=> ∃(k:Nat) (ca:Option Addr) (cl cc:Nat) (ys:List Qd),k<=l3/\vi=Y7 Y6 k/\vo=J ca cl cc/\Hid (aw wr ca cl cc 2 147 (ys.map qdF) (λj=>w.heap.size+1<=j)/\RQ ys/\(∀q,q∈ys↔Xn c k q)/\ys.length<=8*k)/\Hid (Below w0.heap.size w0 wr)) (λ_ vi _=>l3 - (intOf vi).toNat);case atStart=>exact⟨0,_,0,0,[],by omega,rfl,rfl,⟨⟨rfl,Ye _,by omega,Ze rfl⟩,List.Pairwise.nil,λq=>⟨λh=>by simp at h,λ⟨j,p,h,_⟩=>by omega⟩,by simp⟩,ak _ _⟩
 case round=>
  obtain⟨k,ca,cl,cc,ys,hk,rfl,rfl,HQ,HL⟩:=hrel;replace Bk:=aa ((HL.block w.heap.size hs0).trans Bk.out);replace HB:=aa (HB.trans (HL.mono HB.size));replace HOW:=aa (HOW.below HL.out);have hLs:=HL.size;by_cases hlt:k<l3
  ·obtain⟨b,o,x,rfl,hb,hx,hat⟩:=bK (HR.v.below HB.out) hlt
   obtain⟨va,vl,vc,hvr,z0,z2,z3,z5,c0,c1,c2,c3,c4,c5,c6,c7⟩:=aW hat
   obtain⟨HXx,HTx,HZx0⟩:=gZ;have HZx2:=aa z2;have HZx3:=aa z3;have HZx5:=aa z5;clear hat hx z0 z2 z3 z5 hvr
   have hbw:=hb;clear hb;have hk1:(k:Int)<l3:=af
   obtain⟨W1,hW1⟩:∃W1,W1=wr:=⟨_,rfl⟩;subst hW1;have hxz:x.zs.length=vl:=HTx.1;have hv3:vl<=8:=by have h9:=(dy (HT.2.1.2.2.1.2.1 k x HXx.out).2.2.2.2.2.2).1;omega
   have hyb:=HQ.2.2.2
   obtain⟨k0,k1,k2,k3,k4,k5⟩:=cs6 Bk;have ltk_1:=ae Bk.out
   go_wp2;clear k0 k1 k2 k3 k4 k5 ltk_1;clear c0 c1 c2 c3 c4 c5 c6 c7 hbw;go_loopw [4,7] (λvo vi wr=> ∃(n:Nat) (ca:Option Addr) (cl cc:Nat) (ys:List Qd),n<=vl/\vi=Y7 Y6 n/\vo=J ca cl cc/\Hid (aw wr ca cl cc 2 147 (ys.map qdF) (λj=>w.heap.size+1<=j)/\RQ ys/\(∀q,q∈ys↔Xn c k q\/Xc c x n q)/\ys.length<=8*k+n)/\Hid (Below (W1.heap.size+1) (W1.alloc (Y8 #[I x.n,Y7 Y6 x.c,I x.z,I x.k,Y9 x.x,I x.m,Y9 x.y,J va vl vc] 38)) wr)) (λ_ vi _=>vl - (intOf vi).toNat);case atStart=>exact⟨0,_,_,_,ys,by omega,rfl,rfl,⟨HQ.1.below (ak _ _),HQ.2.1,λq=>by rw[HQ.2.2.1];exact⟨Ze,λh=>h.elim id (λ⟨i,t,h,_⟩=>by omega)⟩,by omega⟩,Yh _ _⟩
   case round=>
    clear HQ hyb;obtain⟨n,ca,cl,cc,ys,hn,rfl,rfl,HQ,HL2⟩:=hrel;have hbP:Below W1.heap.size W1 wr:=(ak W1 (Y8 (vov x va vl vc) 38)).trans (HL2.mono af);have Bp:=aa ((HL2.block W1.heap.size af).trans (heap_alloc_new W1 (Y8 (vov x va vl vc) 38)));replace Bk:=upK Bk hbP;replace HB:=upB HB hbP;replace HOW:=aa (HOW.below hbP);have HBP:=aa hbP;have hs2:=hbP.size;have hs3:W1.heap.size+1<=wr.heap.size:=by have h8:=HL2.size;rw[cw] at h8;exact h8
    have hyl:ys.length=cl:=by have h9:(ys.map qdF).length=cl:=HQ.1.1;rw[Yo] at h9;exact h9
    have hyb:=HQ.2.2.2;clear hbP;by_cases hlt2:n<vl
    ·have hk3:(n:Int)<vl:=af
     obtain⟨b2,o2,t,rfl,hb2,hx2,hc2,hsz2⟩:=(HTx.below HBP.out).at hlt2;have HXT:=aa hx2;obtain⟨j,nd,hj,hjn,-⟩:=HT.2.2.2.2.1.1 k x HXx.out n t hx2;have HTN:Hid (¬t=⟨#[]⟩):=by rw[<-hjn];exact nG (HT.2.1.1.2.1 j nd hj).1
     have HJ:=aa hj;have HJN:=aa hjn;have HZT:=aa hsz2;have HTC:=aa (Yb hb2 hc2);clear hj hjn hx2 hsz2 hb2 hc2
     obtain⟨k0,k1,k2,k3,k4,k5⟩:=cs6 Bk;have ltk_1:=ae Bk.out
     obtain⟨p0,p1,p2,p3,p4,p5,p6,p7⟩:=cs8 Bp;have ltp_1:=ae Bp.out;go_wp2_with fail;clear k0 k1 k2 k3 k4 k5 ltk_1 p0 p1 p2 p3 p4 p5 p6 p7 ltp_1;rename_i K0 hK0;refine bF bf rfl rfl bf ?_;refine' Grow.stepC _ rfl ?_ ?_;rotate_left 1
     ·exact kE
     refine' Grow.stepC _ rfl ?_ ?_;rotate_left 1
     ·refine Obl.plain rfl ?_;intro ac wg K hsz hW hf hK;clear hsz;have e31:=hf 31 ag;simp[aj,Yf] at e31
      clear hf;obtain⟨p0,p1,p2,p3,p4,p5,p6,p7⟩:=cs8 ((hW.block _ (ae Bp.out)).trans Bp.out);exact aK
     refine' Grow.stepC _ rfl ?_ ?_;rotate_left 1
     ·exact kE
     refine' Grow.stepC _ rfl ?_ ?_;rotate_left 1
     ·refine Obl.plain rfl ?_;intro ac wg K hsz hW hf hK;clear hsz;have e33:=hf 33 ag;simp[aj,Yf] at e33
      clear hf;obtain⟨p0,p1,p2,p3,p4,p5,p6,p7⟩:=cs8 ((hW.block _ (ae Bp.out)).trans Bp.out);exact aK
     refine' Grow.stepC _ rfl ?_ ?_;rotate_left 1
     ·exact wC
     refine' Grow.stepC _ rfl ?_ ?_;rotate_left 1
     ·refine Obl.plain rfl ?_;intro ac wg K hsz hW hf hK;clear hsz;have e34:=hf 34 ag;simp[aj,Yf] at e34
      have e35:=hf 35 ag;simp[aj,Yf] at e35;clear hf;have hj0:¬(n:Int)<0:=af
      exact aK
     refine' Grow.stepC _ rfl ?_ ?_;rotate_left 1
     ·refine Obl.plain rfl ?_;intro ac wg K hsz hW hf hK;clear hsz;have e36:=hf 36 ag;simp[aj,Yf] at e36
      clear hf;have tc:=(ai hW HTC.1).trans HTC.2;exact aK
     refine' Grow.stepC _ rfl ?_ ?_;rotate_left 1
     ·refine Obl.plain rfl ?_;intro ac wg K hsz hW hf hK;clear hsz;have e32:=hf 32 ag;simp[aj,Yf] at e32
      have e37:=hf 37 ag;simp[aj,Yf] at e37;clear hf;exact aK
     refine Grow.step (agX wr.heap.size) rfl (agX.mono _) ?_ ?_
     ·exact kZ
     refine Grow.done ?_;intro q w5 hW hf;simp only[YI] at hf;obtain⟨⟨b9,h8,hb9,hg9⟩,h38,-⟩:=hf;have g0:=hg9;have g1:(w5.setCell ⟨b9,0,U⟩ (I x.n)).heap[b9]?=Y5 (Y8 #[I x.n,I ⟨#[]⟩] 147 (0,0)):=av g0 _;have g2:((w5.setCell ⟨b9,0,U⟩ (I x.n)).setCell ⟨b9,1,U⟩ (I t)).heap[b9]?=Y5 (Y8 #[I x.n,I t] 147 (0,0)):=av g1 _;obtain⟨t0,t1⟩:=cs2 hg9;have f0:=al hg9 0;have f1:=al hg9 1;have Bx:=aa g2;have HWX:Hid (Below wr.heap.size wr ((w5.setCell ⟨b9,0,U⟩ (I x.n)).setCell ⟨b9,1,U⟩ (I t))):=ah hb9 (ah hb9 (hW));clear g0 g1 g2 hg9;intro K hK;rw[if_pos (by rfl)];simp only[aM,YT,Act.put,Yt,YC,YE,h8,h38]
     simp only[List.getLast];go_simp;refine hK _ _ ?_;refine hK0 _ _ ?_;clear hK hK0 K K0
     generalize ((w5.setCell ⟨b9,0,U⟩ (I x.n)).setCell ⟨b9,1,U⟩ (I t))=X3 at Bx HWX ⊢;clear t0 t1 f0 f1 hW h8 h38;have HY2:Hid (Bw wr X3):=Bw.below (Bw.refl wr) HWX.out;replace HB:=aa (HB.trans (HWX.mono HB.size));replace HOW:=aa (HOW.below HWX.out);replace Bk:=aa ((HWX.block _ (ae Bk.out)).trans Bk.out);replace Bp:=aa ((HWX.block _ (ae Bp.out)).trans Bp.out);clear HWX
     obtain⟨k0,k1,k2,k3,k4,k5⟩:=cs6 Bk;have ltk_1:=ae Bk.out
     obtain⟨p0,p1,p2,p3,p4,p5,p6,p7⟩:=cs8 Bp;have ltp_1:=ae Bp.out;obtain⟨x0,x1⟩:=cs2 Bx;have ltx_1:=ae Bx.out;go_wp2_with fail;refine (AV wa wl wc zw ⟨x.n,t⟩ _ HOW.out).mono ?_;rintro e w2 ⟨r,rfl,hi,hb3⟩;clear k0 k1 k2 k3 k4 k5 ltk_1 p0 p1 p2 p3 p4 p5 p6 p7 ltp_1 x0 x1 ltx_1
     replace Bk:=upK Bk hb3;replace Bp:=upK Bp hb3;replace Bx:=upK Bx hb3;replace HY2:=aa (HY2.below hb3);replace HOW:=aa (HOW.below hb3);replace HB:=upB HB hb3;clear hb3
     have HI:=aa hi;clear hi;cases r;rotate_left
     ·obtain⟨k0,k1,k2,k3,k4,k5⟩:=cs6 Bk;have ltk_2:=ae Bk.out
      obtain⟨p0,p1,p2,p3,p4,p5,p6,p7⟩:=cs8 Bp;have ltp_2:=ae Bp.out;obtain⟨x0,x1⟩:=cs2 Bx;have ltx_2:=ae Bx.out
      go_wp2;refine⟨⟨n+1,ca,cl,cc,ys,by omega,by go_num,rfl,⟨HQ.1.below HY2.out,HQ.2.1,λq=>?_,by omega⟩,HL2.trans (HY2.out.mono hs3)⟩,by simp[intOf];omega⟩
      rw[HQ.2.2.1,Xc.no HXT.out (λh=>h.1 ((BO HT.out HXx.out HTN.out).1 ((HMW.out _).1 (HI.1 bM))))]
     have HNW:Hid (¬Wnt c x t):=λh=>by have h9:=HI.2 ((HMW.out _).2 ((BO HT.out HXx.out HTN.out).2 h));cases h9
     clear HI
     obtain⟨k0,k1,k2,k3,k4,k5⟩:=cs6 Bk;have ltk_2:=ae Bk.out
     obtain⟨p0,p1,p2,p3,p4,p5,p6,p7⟩:=cs8 Bp;have ltp_2:=ae Bp.out;obtain⟨x0,x1⟩:=cs2 Bx;have ltx_2:=ae Bx.out;go_wp2_with fail;refine (B6 ⟨a1,l1,y1,a2,l2,y2,(Y5 ⟨b,o,U⟩),l3,y3,a4,l4,y4,a5,l5,y5⟩ c ⟨x.n,t⟩ j nd _ (HR.below HB.out) HT.out HJ.out HJN.out).mono ?_;rintro e w3 ⟨r,rfl,hi,hb3⟩;clear k0 k1 k2 k3 k4 k5 ltk_2 p0 p1 p2 p3 p4 p5 p6 p7 ltp_2 x0 x1 ltx_2
     replace Bk:=upK Bk hb3;replace Bp:=upK Bp hb3;replace Bx:=upK Bx hb3;replace HY2:=aa (HY2.below hb3);replace HOW:=aa (HOW.below hb3);replace HB:=upB HB hb3;clear hb3
     have HI:=aa hi;clear hi;cases r
     ·obtain⟨k0,k1,k2,k3,k4,k5⟩:=cs6 Bk;have ltk_3:=ae Bk.out
      obtain⟨p0,p1,p2,p3,p4,p5,p6,p7⟩:=cs8 Bp;have ltp_3:=ae Bp.out;obtain⟨x0,x1⟩:=cs2 Bx;have ltx_3:=ae Bx.out
      go_wp2;refine⟨⟨n+1,ca,cl,cc,ys,by omega,by go_num,rfl,⟨HQ.1.below HY2.out,HQ.2.1,λq=>?_,by omega⟩,HL2.trans (HY2.out.mono hs3)⟩,by simp[intOf];omega⟩
      rw[HQ.2.2.1,Xc.no HXT.out (λh=>by have h9:=HI.2 ((Mof.iff HT.2.1.1.2.2 HJ.out HJN.out).1 h.2);cases h9)]
     have HMO:Hid (Mof c x t):=(Mof.iff HT.2.1.1.2.2 HJ.out HJN.out).2 (HI.1 bM);clear HI
     obtain⟨k0,k1,k2,k3,k4,k5⟩:=cs6 Bk;have ltk_3:=ae Bk.out
     obtain⟨p0,p1,p2,p3,p4,p5,p6,p7⟩:=cs8 Bp;have ltp_3:=ae Bp.out;obtain⟨x0,x1⟩:=cs2 Bx;have ltx_3:=ae Bx.out;go_wp2_with fail;refine (ow ca cl cc ys ⟨x.n,t⟩ (w.heap.size+1) _ (HQ.1.below HY2.out) (by have:=HY2.le;omega) af HZx0.out HZT.out).mono ?_;rintro e w4 ⟨sa,sl,sc,zs2,rfl,ho2,hp2,hb3⟩;clear k0 k1 k2 k3 k4 k5 ltk_3 p0 p1 p2 p3 p4 p5 p6 p7 ltp_3 x0 x1 ltx_3
     replace Bk:=upK Bk hb3;replace Bp:=upK Bp hb3;replace Bx:=upK Bx hb3;replace HY2:=aa (HY2.below hb3);replace HOW:=aa (HOW.below hb3);replace HB:=upB HB hb3;clear hb3
     have HP2:=aa hp2;have HO2:=aa ho2;clear hp2 ho2;obtain⟨k0,k1,k2,k3,k4,k5⟩:=cs6 Bk;have ltk_4:=ae Bk.out;obtain⟨p0,p1,p2,p3,p4,p5,p6,p7⟩:=cs8 Bp;have ltp_4:=ae Bp.out;obtain⟨x0,x1⟩:=cs2 Bx;have ltx_4:=ae Bx.out;go_wp2;refine⟨⟨n+1,sa,sl,sc,zs2,by omega,by go_num,rfl,⟨HO2.out,HP2.ris HQ.2.1,λq=>?_,by have h9:=HP2.len;omega⟩,HL2.trans (HY2.out.mono hs3)⟩,by simp[intOf];omega⟩;rw[HP2.mem,HQ.2.2.1,Xc.yes HXT.out HNW.out HMO.out,or_assoc]
    have hk3:¬(n:Int)<vl:=af
    have hnv:n=vl:=af
    obtain⟨p0,p1,p2,p3,p4,p5,p6,p7⟩:=cs8 Bp;have ltp_1:=ae Bp.out
    go_wp2;refine⟨⟨k+1,ca,cl,cc,ys,by omega,by go_num,rfl,⟨HQ.1,HQ.2.1,λq=>?_,by omega⟩,HL.trans (HBP.mono af)⟩,by simp[intOf];omega⟩
    rw[HQ.2.2.1,Xn.step HXx.out,hxz,hnv]
  have hk1:¬(k:Int)<l3:=af
  have hkl:k=l3:=af
  obtain⟨k0,k1,k2,k3,k4,k5⟩:=cs6 Bk;have ltk_1:=ae Bk.out
  go_wp2;go_ret;exact⟨_,_,_,ys,rfl,HQ.1,HQ.2.1,by rw[hl3,<-hkl];exact HQ.2.2.1,by have:=HQ.2.2.2;omega,HB.out⟩
def agW(B:Nat):Fact:=λv w=> ∃b,v=Zf (Y5 ⟨b,0,U⟩)/\B<=b/\w.heap[b]?=Y5 (Y8 #[I ⟨#[]⟩,Y7 Y6 0,I ⟨#[]⟩,I ⟨#[]⟩,Y9 Y_,I ⟨#[]⟩,Y9 Y_,J U 0 0] 38 (0,0))
theorem agW.mono(B:Nat):Fact.cA (agW B):=by
 exact oU
theorem Ch(d:Ad) (c:Cl) (x:Qd) (i j:Nat) (v:Vd) (n:Nd) (w:World) (hr:aB w d c.raw) (hT:aq c) (hv:c.vs[i]?=Y5 v) (hvn:v.n=x.n) (hn:c.ns[j]?=Y5 n) (hnn:n.n=x.d):
  Calls Tryz.prog 132 #[Zc #[J d.a1 d.l1 d.c1,J d.a2 d.l2 d.c2,J d.a3 d.l3 d.c3,J d.a4 d.l4 d.c4,J d.a5 d.l5 d.c5,Y7 Y6 c.now],Zc #[I x.n,I x.d]] w (au (xU c v n) w):=by
 obtain⟨a1,l1,y1,a2,l2,y2,a3,l3,y3,a4,l4,y4,a5,l5,y5⟩:=d;dsimp only;obtain⟨HR,hl1,hm1,hl2,hm2,hl3,hm3,hl4,hm4,hl5,hm5⟩:=al1;clear hr
 have HT:=aa hT;have HVI:=aa hv;have HVN:=aa hvn;have HN:=aa hn;have HNN:=aa hnn;have h8:c.vs.length<=8:=hT.sm.v;have hi1:i<l3:=by have:=(Yc.1 hv).1;omega
 have hi2:(i:Int)<l3:=af
 have hi0:¬(i:Int)<0:=af
 have hj1:j<l1:=by have:=(Yc.1 hn).1;omega
 have hj2:(j:Int)<l1:=af
 have hj0:¬(j:Int)<0:=af
 clear hT hn hnn hv hvn;have HB:=aa (Yh w.heap.size w);obtain⟨b,o,y,rfl,hbl,hy,hat⟩:=bK HR.v hi1;rw[HVI.out] at hy;obtain rfl:=Yd hy;obtain⟨va,vl,vc,hvr,-,-,-,-,d0,d1,d2,d3,d4,d5,d6,d7⟩:=aW hat;have HV:=aa hvr;have hvl:v.zs.length=vl:=hvr.1;clear hat hy hvr;obtain⟨b1,o1,y,rfl,hbn,hy,hat⟩:=dh HR.n hj1;rw[HN.out] at hy;obtain rfl:=Yd hy;obtain⟨na,nl,nc,-,-,-,-,-,-,e3,-,-,-⟩:=bg hat;clear hat hy;go_enter Tryz.func132,Tryz.ntmps132;go_wp2_with fail;obtain⟨W,hW0⟩:∃W,W=((w.alloc (Y8 (clo6 (Y5 ⟨b1,o1,U⟩) l1 y1 a2 l2 y2 (Y5 ⟨b,o,U⟩) l3 y3 a4 l4 y4 a5 l5 y5 c.now) 29)).alloc (Y8 #[I x.n,I x.d] 147)):=⟨_,rfl⟩;have Bk:Hid (W.heap[w.heap.size]?=Y5 (Y8 (clo6 (Y5 ⟨b1,o1,U⟩) l1 y1 a2 l2 y2 (Y5 ⟨b,o,U⟩) l3 y3 a4 l4 y4 a5 l5 y5 c.now) 29 (0,0))):=by rw[hW0];exact eG _ _ _
 obtain⟨Bx,HBW⟩:=Oh;have HNC:=aa (Yb d0 (Yb d1 (Yb d2 (Yb d3 (Yb d4 (Yb d5 (Yb d6 d7)))))));have HBL:=aa hbl;have HNS:=aa (Yb hbn e3);rw[<-hW0];clear hW0 d0 d1 d2 d3 d4 d5 d6 d7 hbl hbn e3
 rename_i K0 hK0;refine bF bf rfl rfl bf ?_;refine' Grow.stepC _ rfl ?_ ?_;rotate_left 1
 ·exact ny
 refine' Grow.stepC _ rfl ?_ ?_;rotate_left 1
 ·exact aj8
 refine' Grow.stepC _ rfl ?_ ?_;rotate_left 1
 ·exact OO
 refine' Grow.stepC _ rfl ?_ ?_;rotate_left 1
 ·exact kF
 refine' Grow.stepC _ rfl ?_ ?_;rotate_left 1
 ·exact akn
 refine' Grow.stepC (Y7 Y6 i) rfl ?_ ?_
 ·refine Obl.plain rfl ?_;intro ac wg K hsz hW hf hK;clear hsz;have e8:=hf 8 ag;simp[aj,Yf] at e8
  have e10:=hf 10 ag;simp[aj,Yf] at e10;clear hf;go_simp;refine (dZ ⟨(Y5 ⟨b1,o1,U⟩),l1,y1,a2,l2,y2,(Y5 ⟨b,o,U⟩),l3,y3,a4,l4,y4,a5,l5,y5⟩ c.now c.vs x.n _ (HR.v.below (HBW.trans (hW.mono HBW.size))) HT.2.1.2.2.1.2.2 HVI.out HVN.out).mono ?_;rintro e w6 ⟨rfl,hb6⟩;exact hK _ _ hb6 rfl
 refine' Grow.stepC _ rfl ?_ ?_;rotate_left 1
 ·exact OH
 refine' Grow.stepC _ rfl ?_ ?_;rotate_left 1
 ·refine Obl.plain rfl ?_;intro ac wg K hsz hW hf hK;clear hsz;have e12:=hf 12 ag;simp[aj,Yf] at e12;clear hf;obtain⟨d0,d1,d2,d3,d4,d5,d6,d7⟩:=HNC.out
  have hbg:=HBW.trans (hW.mono HBW.size);replace d0:=(ai hbg HBL.out).trans d0;replace d1:=(ai hbg HBL.out).trans d1;replace d2:=(ai hbg HBL.out).trans d2;replace d3:=(ai hbg HBL.out).trans d3;replace d4:=(ai hbg HBL.out).trans d4;replace d5:=(ai hbg HBL.out).trans d5;replace d6:=(ai hbg HBL.out).trans d6
  replace d7:=(ai hbg HBL.out).trans d7;exact aK
 refine Grow.step (agW W.heap.size) rfl (agW.mono _) ?_ ?_
 ·exact kZ
 refine Grow.done ?_;intro q wz hW hf;simp only[YI] at hf;obtain⟨⟨b9,h5,hb9,hg9⟩,h13,-⟩:=hf;have g0:=hg9;have g1:(wz.setCell ⟨b9,0,U⟩ (I v.n)).heap[b9]?=Y5 (Y8 #[I v.n,Y7 Y6 0,I ⟨#[]⟩,I ⟨#[]⟩,Y9 Y_,I ⟨#[]⟩,Y9 Y_,J U 0 0] 38 (0,0)):=av g0 _;have g2:((wz.setCell ⟨b9,0,U⟩ (I v.n)).setCell ⟨b9,1,U⟩ (Y7 Y6 v.c)).heap[b9]?=Y5 (Y8 #[I v.n,Y7 Y6 v.c,I ⟨#[]⟩,I ⟨#[]⟩,Y9 Y_,I ⟨#[]⟩,Y9 Y_,J U 0 0] 38 (0,0)):=av g1 _;have g3:(((wz.setCell ⟨b9,0,U⟩ (I v.n)).setCell ⟨b9,1,U⟩ (Y7 Y6 v.c)).setCell ⟨b9,2,U⟩ (I v.z)).heap[b9]?=Y5 (Y8 #[I v.n,Y7 Y6 v.c,I v.z,I ⟨#[]⟩,Y9 Y_,I ⟨#[]⟩,Y9 Y_,J U 0 0] 38 (0,0)):=av g2 _;have g4:((((wz.setCell ⟨b9,0,U⟩ (I v.n)).setCell ⟨b9,1,U⟩ (Y7 Y6 v.c)).setCell ⟨b9,2,U⟩ (I v.z)).setCell ⟨b9,3,U⟩ (I v.k)).heap[b9]?=Y5 (Y8 #[I v.n,Y7 Y6 v.c,I v.z,I v.k,Y9 Y_,I ⟨#[]⟩,Y9 Y_,J U 0 0] 38 (0,0)):=av g3 _;have g5:(((((wz.setCell ⟨b9,0,U⟩ (I v.n)).setCell ⟨b9,1,U⟩ (Y7 Y6 v.c)).setCell ⟨b9,2,U⟩ (I v.z)).setCell ⟨b9,3,U⟩ (I v.k)).setCell ⟨b9,4,U⟩ (Y9 v.x)).heap[b9]?=Y5 (Y8 #[I v.n,Y7 Y6 v.c,I v.z,I v.k,Y9 v.x,I ⟨#[]⟩,Y9 Y_,J U 0 0] 38 (0,0)):=av g4 _;have g6:((((((wz.setCell ⟨b9,0,U⟩ (I v.n)).setCell ⟨b9,1,U⟩ (Y7 Y6 v.c)).setCell ⟨b9,2,U⟩ (I v.z)).setCell ⟨b9,3,U⟩ (I v.k)).setCell ⟨b9,4,U⟩ (Y9 v.x)).setCell ⟨b9,5,U⟩ (I v.m)).heap[b9]?=Y5 (Y8 #[I v.n,Y7 Y6 v.c,I v.z,I v.k,Y9 v.x,I v.m,Y9 Y_,J U 0 0] 38 (0,0)):=av g5 _;have g7:(((((((wz.setCell ⟨b9,0,U⟩ (I v.n)).setCell ⟨b9,1,U⟩ (Y7 Y6 v.c)).setCell ⟨b9,2,U⟩ (I v.z)).setCell ⟨b9,3,U⟩ (I v.k)).setCell ⟨b9,4,U⟩ (Y9 v.x)).setCell ⟨b9,5,U⟩ (I v.m)).setCell ⟨b9,6,U⟩ (Y9 v.y)).heap[b9]?=Y5 (Y8 (vov v U 0 0) 38 (0,0)):=av g6 _;have g8:((((((((wz.setCell ⟨b9,0,U⟩ (I v.n)).setCell ⟨b9,1,U⟩ (Y7 Y6 v.c)).setCell ⟨b9,2,U⟩ (I v.z)).setCell ⟨b9,3,U⟩ (I v.k)).setCell ⟨b9,4,U⟩ (Y9 v.x)).setCell ⟨b9,5,U⟩ (I v.m)).setCell ⟨b9,6,U⟩ (Y9 v.y)).setCell ⟨b9,7,U⟩ (J va vl vc)).heap[b9]?=Y5 (Y8 (vov v va vl vc) 38 (0,0)):=av g7 _;obtain⟨t0,t1,t2,t3,t4,t5,t6,t7⟩:=cs8 hg9;have f0:=al hg9 0;have f1:=al hg9 1;have f2:=al hg9 2;have f3:=al hg9 3;have f4:=al hg9 4;have f5:=al hg9 5;have f6:=al hg9 6;have f7:=al hg9 7;have Bv:=aa g8;have HWX:Hid (Below W.heap.size W ((((((((wz.setCell ⟨b9,0,U⟩ (I v.n)).setCell ⟨b9,1,U⟩ (Y7 Y6 v.c)).setCell ⟨b9,2,U⟩ (I v.z)).setCell ⟨b9,3,U⟩ (I v.k)).setCell ⟨b9,4,U⟩ (Y9 v.x)).setCell ⟨b9,5,U⟩ (I v.m)).setCell ⟨b9,6,U⟩ (Y9 v.y)).setCell ⟨b9,7,U⟩ (J va vl vc))):=ah hb9 (ah hb9 (ah hb9 (ah hb9 (ah hb9 (ah hb9 (ah hb9 (ah hb9 (hW))))))))
 clear g0 g1 g2 g3 g4 g5 g6 g7 g8 hg9;intro K hK;rw[if_pos (by rfl)];simp only[aM,YT,Act.put,Yt,YC,YE,h5,h13]
 simp only[List.getLast];go_simp;refine hK _ _ ?_;refine hK0 _ _ ?_;clear hK hK0 K K0
 generalize ((((((((wz.setCell ⟨b9,0,U⟩ (I v.n)).setCell ⟨b9,1,U⟩ (Y7 Y6 v.c)).setCell ⟨b9,2,U⟩ (I v.z)).setCell ⟨b9,3,U⟩ (I v.k)).setCell ⟨b9,4,U⟩ (Y9 v.x)).setCell ⟨b9,5,U⟩ (I v.m)).setCell ⟨b9,6,U⟩ (Y9 v.y)).setCell ⟨b9,7,U⟩ (J va vl vc))=X3 at Bv HWX ⊢;clear t0 f0 t1 f1 t2 f2 t3 f3 t4 f4 t5 f5 t6 f6 t7 f7;have HB3:=aa (HBW.trans (HWX.mono HBW.size));replace Bk:=aa ((HWX.block _ (ae Bk.out)).trans Bk.out);replace Bx:=aa ((HWX.block _ (ae Bx.out)).trans Bx.out);clear HB hW HWX HBW HNC HBL;have HB:=HB3;clear HB3;obtain⟨k0,k1,k2,k3,k4,k5⟩:=cs6 Bk;have ltk_0:=ae Bk.out;obtain⟨x0,x1⟩:=cs2 Bx;have ltx_0:=ae Bx.out;obtain⟨v0,v1,v2,v3,v4,v5,v6,v7⟩:=cs8 Bv;have ltv_0:=ae Bv.out;go_wp2_with fail;refine (bX va vl vc v.zs x.d _ (HV.below HB.out)).mono ?_;rintro e w3 ⟨r,rfl,hi,hb⟩;clear k0 k1 k2 k3 k4 k5 ltk_0 x0 x1 ltx_0 v0 v1 v2 v3 v4 v5 v6 v7 ltv_0;replace Bk:=upK Bk hb;replace Bx:=upK Bx hb;replace Bv:=upK Bv hb;replace HB:=upB HB hb;clear hb;have HI:=aa hi;clear hi;rw[<-HNN.out] at HI;cases r;rotate_left
 ·obtain⟨k0,k1,k2,k3,k4,k5⟩:=cs6 Bk;have ltk_1:=ae Bk.out
  obtain⟨x0,x1⟩:=cs2 Bx;have ltx_1:=ae Bx.out
  obtain⟨v0,v1,v2,v3,v4,v5,v6,v7⟩:=cs8 Bv;have ltv_1:=ae Bv.out
  go_wp2;go_ret;exact au.f (λh=>h.1 (HI.1 bM)) HB.out
 have HNI:Hid (¬InL v.zs n.n):=λh=>by have h9:=HI.2 h;cases h9
 clear HI;cases hx:v.x;rotate_left
 ·(try unfold vov at Bv);rw[hx] at Bv;have HX:=aa hx;clear hx;by_cases h0:0<vl
  ·have h1:(0:Int)<vl:=af
   obtain⟨k0,k1,k2,k3,k4,k5⟩:=cs6 Bk;have ltk_1:=ae Bk.out
   obtain⟨x0,x1⟩:=cs2 Bx;have ltx_1:=ae Bx.out
   obtain⟨v0,v1,v2,v3,v4,v5,v6,v7⟩:=cs8 Bv;have ltv_1:=ae Bv.out
   go_wp2;go_ret;exact au.f (λh=>h.2.1 ⟨HX.out,by omega⟩) HB.out
  ·have h1:¬(0:Int)<vl:=af
   obtain⟨k0,k1,k2,k3,k4,k5⟩:=cs6 Bk;have ltk_1:=ae Bk.out
   obtain⟨x0,x1⟩:=cs2 Bx;have ltx_1:=ae Bx.out;obtain⟨v0,v1,v2,v3,v4,v5,v6,v7⟩:=cs8 Bv;have ltv_1:=ae Bv.out;go_wp2_with fail;have hn9:=(ai HB.out HNS.1).trans HNS.2;clear k0 k1 k2 k3 k4 k5 ltk_1 x0 x1 ltx_1 v0 v1 v2 v3 v4 v5 v6 v7 ltv_1;have Gk:=Bk;have Gx:=Bx;have Gv:=Bv;have HW:=HB;obtain⟨k0,k1,k2,k3,k4,k5⟩:=sl6 Gk;obtain⟨x0,x1⟩:=sl2 Gx;obtain⟨v0,v1,v2,v3,v4,v5,v6,v7⟩:=sl8 Gv;obtain⟨ns,hne0,HC0,HC1⟩:=alU
   go_wp2_with fail;refine bN bf bf ?_
   repeat (go_big_quiet_step (first|(go_at_call 116;exact Calls.wide (HC0.out _))|(go_at_call 113;exact Calls.wide (HC1.out _))|fail))
   refine wpQuiet_nil ?_;rintro _ ⟨q1,rfl⟩;have HB2:=upB HW q1.b;have Ck:=upK Gk q1.b;have Cx:=upK Gx q1.b;have Cv:=upK Gv q1.b;clear hne0 HW HB HC0 HC1 k0 k1 k2 k3 k4 k5 x0 x1 v0 v1 v2 v3 v4 v5 v6 v7 ns Gk Gx Gv Bk Bx Bv;have HB:=HB2;clear HB2;have Bk:=Ck;clear Ck;have Bx:=Cx;clear Cx;have Bv:=Cv;clear Cv;go_wp2;go_ret
   exact⟨_,rfl,by rw[HNN.symm];simp only[decide_eq_true_eq];exact⟨λh=>⟨HNI.out,(λh=>by omega),h⟩,λh=>h.2.2⟩,HB.out⟩
 ·(try unfold vov at Bv);rw[hx] at Bv;have HX:=aa hx;clear hx
  obtain⟨k0,k1,k2,k3,k4,k5⟩:=cs6 Bk;have ltk_1:=ae Bk.out
  obtain⟨x0,x1⟩:=cs2 Bx;have ltx_1:=ae Bx.out;obtain⟨v0,v1,v2,v3,v4,v5,v6,v7⟩:=cs8 Bv;have ltv_1:=ae Bv.out;go_wp2_with fail;have hn9:=(ai HB.out HNS.1).trans HNS.2;clear k0 k1 k2 k3 k4 k5 ltk_1 x0 x1 ltx_1 v0 v1 v2 v3 v4 v5 v6 v7 ltv_1;have Gk:=Bk;have Gx:=Bx;have Gv:=Bv;have HW:=HB;obtain⟨k0,k1,k2,k3,k4,k5⟩:=sl6 Gk;obtain⟨x0,x1⟩:=sl2 Gx;obtain⟨v0,v1,v2,v3,v4,v5,v6,v7⟩:=sl8 Gv;obtain⟨ns,hne0,HC0,HC1⟩:=alU
  go_wp2_with fail;refine bN bf bf ?_
  repeat (go_big_quiet_step (first|(go_at_call 116;exact Calls.wide (HC0.out _))|(go_at_call 113;exact Calls.wide (HC1.out _))|fail))
  refine wpQuiet_nil ?_;rintro _ ⟨q1,rfl⟩;have HB2:=upB HW q1.b;have Ck:=upK Gk q1.b;have Cx:=upK Gx q1.b;have Cv:=upK Gv q1.b;clear hne0 HW HB HC0 HC1 k0 k1 k2 k3 k4 k5 x0 x1 v0 v1 v2 v3 v4 v5 v6 v7 ns Gk Gx Gv Bk Bx Bv;have HB:=HB2;clear HB2;have Bk:=Ck;clear Ck;have Bx:=Cx;clear Cx;have Bv:=Cv;clear Cv;go_wp2;go_ret
  exact⟨_,rfl,by rw[HNN.symm];simp only[decide_eq_true_eq];exact⟨λh=>⟨HNI.out,(λh=>by have h9:=h.1;rw[HX.out] at h9;cases h9),h⟩,λh=>h.2.2⟩,HB.out⟩
theorem RN {len:Nat} (h:az w a len cap zs) (j:Nat) (z:ByteArray) (hz:(wo (λs:ByteArray=>s) t zs)[j]?=Y5 z):z.size<=9223372036854775807:=by
 have hm:=Ys hz;obtain⟨i,hi⟩:=YD ((List.mem_filter.1 hm).1);obtain⟨b,o,y,-,-,hy,-,hs⟩:=h.at (k:=i) (by have:=(Yc.1 hi).1;have:=h.1;omega);rw[hi] at hy;cases hy;exact hs
theorem BZ(a:Option Addr) (len cap:Nat) (zs:List ByteArray) (t:ByteArray) (w:World) (hr:az w a len cap zs) (hl:len<=64):
  Calls Tryz.prog 131 #[J a len cap,I t] w λe w'=> ∃a' l' c',e=Za (J a' l' c')/\bS w' a' l' c' (wo (λs:ByteArray=>s) t zs) (λk=>w.heap.size<=k)/\Below w.heap.size w w':=by
 have HR:=aa hr;have hzl:zs.length=len:=hr.1;have HB:=aa (Yh w.heap.size w);obtain⟨i0,hi,hz0,hz1,hz2⟩:=info_parts fk;have HI0:=aa (Yb hi (Yb hz0 (Yb hz1 hz2)));clear hi hz0 hz1 hz2 hr;go_enter Tryz.func131,Tryz.ntmps131;go_wp2;go_loopw [5,6] (λvo vi wr=> ∃k n:Nat,k<=len/\n<=k/\vi=Y7 Y6 k/\Hid (wr.ownsRow w.heap.size 9 1 vo n ((wo (λs:ByteArray=>s) t (zs.take k)).map Ym))/\Hid (Below w.heap.size w wr)) (λ_ vi _=>len - (intOf vi).toNat);case atStart=>exact⟨0,0,by omega,by omega,rfl,⟨rfl,Zd ⟨w.heap.size,0,#[],rfl,Ye _,heap_alloc_new _ _,Ye _,by unfold maxLen;omega,rfl,rfl⟩⟩,ak _ _⟩
 case round=>
  obtain⟨k,n,hk,hn,rfl,HO,HB⟩:=hrel;have hBs:=HB.size;by_cases hlt:k<len
  ·have hk1:(k:Int)<len:=af
   obtain⟨b2,o2,s,rfl,hb2,hx2,hc2,hsz2⟩:=(HR.below HB.out).at hlt;have HXT:=aa hx2;clear hx2 hsz2;by_cases he:s=t
   ·have hq:(s.toList==t.toList)=Zb:=by rw[he];simp
    have HO3:=HO;rw[<-ag1 (nm:=λs:ByteArray=>s) HXT.out hq] at HO3;have HE:=aa he;clear he;go_wp2;exact⟨⟨k+1,n,by omega,by omega,by go_num,HO3,HB⟩,by simp[intOf];omega⟩
   ·have hq:(s.toList==t.toList)=Y_:=by cases h:(s.toList==t.toList);rfl;exact absurd (di h) he
    have HE:=aa he;clear he;go_wp2_with (first|(at_builtin;refine wpList_append_own _ rfl _ _ 36 rfl w.heap.size 9 i0 (I ⟨#[]⟩) 1 16 Tryz.underlying36 HI0.1 HI0.2.1 HI0.2.2.1 HI0.2.2.2 rfl ag _ _ _ rfl (HO.alloc _) ⟨wr.heap.size,0,U⟩ 1 1 [I s] rfl rfl ?c1 ?c2 ?c3 ?c4 ?c5 ?_));case c1=>
     exact Qe
    case c2=>intro u hu;rw[List.mem_singleton.1 hu];rfl
    case c3=>unfold maxLen;omega
    case c4=>omega
    case c5=>simp;omega
    rintro v' w3 hown3 hgrow -;have HO3:Hid (w3.ownsRow w.heap.size 9 1 v' (n+1) ((wo (λs:ByteArray=>s) t (zs.take (k+1))).map Ym)):=by
     show World.ownsRow _ _ _ _ _ _ _;rw[vv (nm:=λs:ByteArray=>s) HXT.out hq,List.map_append];exact hown3
    have HB3:=aa ((HB.trans ((ak _ _).mono hBs)).grown hgrow bL (λg hg=>by have:=(HO.lt g hg).1;omega));clear hown3 hgrow;go_wp2;exact⟨⟨k+1,n+1,by omega,by omega,by go_num,HO3,HB3⟩,by simp[intOf];omega⟩
  ·have hkl:k=len:=af
   have hk1:¬(k:Int)<len:=af
   have HO3:=HO;rw[YJ af] at HO3;obtain⟨a',p',rfl,hT⟩:=bS.fo HO3.out (RN HR.out);have HTO:=aa hT;clear HO3 hT HO;go_wp2;go_ret;exact⟨_,_,_,rfl,HTO.out,HB.out⟩
def agQ(t:ByteArray) (zs:List ByteArray) (w:World) (e:Ending) (w':World):Prop:=∃a' l' c' zs',e=Za (J a' l' c')/\az w' a' l' c' zs'/\Put t zs zs'/\(t∈zs\/bS w' a' l' c' zs' (λk=>w.heap.size<=k))/\Below w.heap.size w w'
theorem AT(a:Option Addr) (len cap:Nat) (zs:List ByteArray) (t:ByteArray) (w:World) (hr:az w a len cap zs) (hl:len<=64) (ht:t.size<=9223372036854775807):
  Calls Tryz.prog 133 #[J a len cap,I t] w (agQ t zs w):=by
 have HR:=aa hr;have hlc:len<=cap:=hr.2.1;have hcm:cap<=9223372036854775807:=hr.2.2.1;have hzl:zs.length=len:=hr.1
 obtain⟨i0,hi,hz0,hz1,hz2⟩:=info_parts fk
 have HI0:=aa (Yb hi (Yb hz0 (Yb hz1 hz2)));clear hi hz0 hz1 hz2
 have HC:Hid (∀(j:Nat) u,(zs.map Ym)[j]?=Y5 u->∃g o9,a=Y5 ⟨g,o9,U⟩/\g<w.heap.size/\w.cell? ⟨g,o9+j,U⟩=Y5 u):=λj u hu=>by
  exact akz
 have HZS:Hid (∀(k j:Nat) z,(zs.take k++[t]++zs.drop k)[j]?=Y5 z->z.size<=9223372036854775807):=λk j z hz=>by
  exact al3
 obtain⟨HON,HW⟩:=aj0;clear hr;go_enter Tryz.func133,Tryz.ntmps133;go_wp2
 go_loop [5] (λi=> ∃k:Nat,k<=len/\i=Y7 Y6 k/\Hid (∀(j:Nat) y,j<k->zs[j]?=Y5 y->Yk y.toList t.toList=Zb)) (λi=>len - (intOf i).toNat);case atStart=>exact⟨0,by omega,rfl,λj y hj=>by omega⟩
 case round=>
  obtain⟨k,hk,rfl,HE⟩:=hrel;by_cases hlt:k<len
  ·obtain⟨b,o,x,rfl,hb,hx,hc,hsz⟩:=HR.at hlt;have HX:=aa hx;clear hx hsz;have hk1:(k:Int)<len:=af
   cases hless:Yk x.toList t.toList
   ·by_cases he:x=t
    ·have HM:Hid (t∈zs):=he ▸ Ys HX.out;have HP:Hid (Put t zs zs):=Ze ⟨he ▸ Ys HX.out,rfl⟩;have hq:=aP he;clear he;go_wp2;go_ret;exact⟨_,_,_,_,rfl,HR.out,HP.out,Ze HM.out,HW.out⟩
    have HP:Hid (Put t zs (zs.take k++[t]++zs.drop k)):=Zd ⟨k,by omega,rfl,HE.out,λy hy=>by rw[HX.out] at hy;cases hy;exact QY hless he⟩;have hq:=bu he;clear he;obtain⟨HOW,hik,hkn⟩:=Oa
    have hcap:¬cap=k:=af
    all_goals (
     go_wp2_with (first|(at_builtin;refine aE rfl _ _ 36 rfl w.heap.size 9 i0 (I ⟨#[]⟩) 1 16 Tryz.underlying36 HI0.1 HI0.2.1 HI0.2.2.1 HI0.2.2.2 rfl ag _ _ _ rfl (HOW.out) _ k _ ((zs.take k).map Ym) rfl oN (λj u hu=>by rw[List.map_take] at hu;obtain⟨g9,o9,e,hgl,h3⟩:=HC.out j u (fs hu);cases e <;> exact⟨_,rfl,by simp only[Yn];exact (ai (ak w _) hgl).trans h3⟩) (HON.out _) bj af aG ?_))
     intro v5 w5 hown5 hgr5
     replace hown5:w5.ownsRow w.heap.size 9 1 v5 k ((zs.take k).map Ym):=dN
     have hb5:Below w.heap.size w w5:=(ak w (Y8 #[] 9)).grown hgr5 aG (λg hg=>by simp[YL] at hg;omega);obtain⟨s1,s2,s3,rfl⟩:=aA hown5;have HO5:=aa hown5;have H5:=aa hb5;have hs5:=hb5.size;clear hown5 hgr5 hb5 HOW
     go_wp2_with (first|(at_builtin;refine aE rfl _ _ 36 rfl w.heap.size 9 i0 (I ⟨#[]⟩) 1 16 Tryz.underlying36 HI0.1 HI0.2.1 HI0.2.2.1 HI0.2.2.2 rfl ag _ _ _ rfl (HO5.alloc _) _ 1 _ [I t] rfl rfl (λj u hu=>⟨_,rfl,by rw[Yn,Yq,an (heap_alloc_new w5 _)];simpa using hu⟩) dx bj af bL ?_))
     intro v6 w6 hown6 hgr6;have hb6:Below w.heap.size w w6:=(H5.alloc H5.size _).grown hgr6 bL (λg hg=>(HO5.lt g hg).1);obtain⟨r1,r2,r3,rfl⟩:=aA hown6;have HO6:=aa hown6;have H6:=aa hb6;have hs6:=hb6.size;clear hown6 hgr6 hb6
     go_wp2_with (first|(at_builtin;refine aE rfl _ _ 36 rfl w.heap.size 9 i0 (I ⟨#[]⟩) 1 16 Tryz.underlying36 HI0.1 HI0.2.1 HI0.2.2.1 HI0.2.2.2 rfl ag _ _ _ rfl (HO6.out) _ (len - k) _ ((zs.drop k).map Ym) rfl oM (λj u hu=>by first|(rw[Yx af] at hu;simp at hu;done)|(rw[List.map_drop,List.getElem?_drop] at hu;obtain⟨g9,o9,e,hgl,h3⟩:=HC.out _ u hu;cases e <;> exact⟨_,rfl,by simp only[Yn,Nat.add_assoc];exact (ai H6.out hgl).trans h3⟩)) (HON.out _) bj af af ?_))
     intro v7 w7 hown7 hgr7;have hb7:Below w.heap.size w w7:=H6.grown hgr7 af (λg hg=>(HO6.lt g hg).1)
     replace hown7:w7.ownsRow w.heap.size 9 1 v7 (len+1) ((zs.take k++[t]++zs.drop k).map Ym):=by
      have e9:k+1+(len - k)=len+1:=af
      try rw[e9] at hown7
      simpa using hown7
     obtain⟨a',p',rfl,hT⟩:=bS.fo hown7 (HZS.out k);have HT7:=aa hT;have HB7:=aa hb7;clear hown7 hgr7 hb7 hT hik hkn
     go_wp2
     go_ret
     exact⟨_,_,_,_,rfl,HT7.row,HP.out,Zd HT7.out,HB7.out⟩)
   ·exact Ql
  ·obtain⟨hk1,HP⟩:=Of;obtain⟨HOW,hik,hkn⟩:=Oa;rcases a with _|⟨b,o,sp⟩
   ·have hl0:len=0:=YH λhne0=>by
     exact PT
    obtain rfl:k=0:=af
    subst hl0;by_cases hcap:cap=0;all_goals (
     go_wp2_with (first|(at_builtin;refine aE rfl _ _ 36 rfl w.heap.size 9 i0 (I ⟨#[]⟩) 1 16 Tryz.underlying36 HI0.1 HI0.2.1 HI0.2.2.1 HI0.2.2.2 rfl ag _ _ _ rfl (HOW.out) _ 0 _ ((zs.take 0).map Ym) rfl oN (λj u hu=>by rw[List.map_take] at hu;obtain⟨g9,o9,e,hgl,h3⟩:=HC.out j u (fs hu);cases e <;> exact⟨_,rfl,by simp only[Yn];exact (ai (ak w _) hgl).trans h3⟩) (HON.out _) bj af aG ?_))
     intro v5 w5 hown5 hgr5
     replace hown5:w5.ownsRow w.heap.size 9 1 v5 0 ((zs.take 0).map Ym):=dN
     have hb5:Below w.heap.size w w5:=(ak w (Y8 #[] 9)).grown hgr5 aG (λg hg=>by simp[YL] at hg;omega);obtain⟨s1,s2,s3,rfl⟩:=aA hown5;have HO5:=aa hown5;have H5:=aa hb5;have hs5:=hb5.size;clear hown5 hgr5 hb5 HOW
     go_wp2_with (first|(at_builtin;refine aE rfl _ _ 36 rfl w.heap.size 9 i0 (I ⟨#[]⟩) 1 16 Tryz.underlying36 HI0.1 HI0.2.1 HI0.2.2.1 HI0.2.2.2 rfl ag _ _ _ rfl (HO5.alloc _) _ 1 _ [I t] rfl rfl (λj u hu=>⟨_,rfl,by rw[Yn,Yq,an (heap_alloc_new w5 _)];simpa using hu⟩) dx bj af bL ?_))
     intro v6 w6 hown6 hgr6;have hb6:Below w.heap.size w w6:=(H5.alloc H5.size _).grown hgr6 bL (λg hg=>(HO5.lt g hg).1);obtain⟨r1,r2,r3,rfl⟩:=aA hown6;have HO6:=aa hown6;have H6:=aa hb6;have hs6:=hb6.size;clear hown6 hgr6 hb6
     go_wp2_with (first|(at_builtin;refine aE rfl _ _ 36 rfl w.heap.size 9 i0 (I ⟨#[]⟩) 1 16 Tryz.underlying36 HI0.1 HI0.2.1 HI0.2.2.1 HI0.2.2.2 rfl ag _ _ _ rfl (HO6.out) _ (0 - 0) _ ((zs.drop 0).map Ym) rfl oM (λj u hu=>by first|(rw[Yx af] at hu;simp at hu;done)|(rw[List.map_drop,List.getElem?_drop] at hu;obtain⟨g9,o9,e,hgl,h3⟩:=HC.out _ u hu;cases e <;> exact⟨_,rfl,by simp only[Yn,Nat.add_assoc];exact (ai H6.out hgl).trans h3⟩)) (HON.out _) bj af af ?_))
     intro v7 w7 hown7 hgr7;have hb7:Below w.heap.size w w7:=H6.grown hgr7 af (λg hg=>(HO6.lt g hg).1)
     replace hown7:w7.ownsRow w.heap.size 9 1 v7 (0+1) ((zs.take 0++[t]++zs.drop 0).map Ym):=by
      have e9:0+1+(0 - 0)=0+1:=af
      try rw[e9] at hown7
      simpa using hown7
     obtain⟨a',p',rfl,hT⟩:=bS.fo hown7 (HZS.out 0);have HT7:=aa hT;have HB7:=aa hb7;clear hown7 hgr7 hb7 hT hik hkn
     go_wp2
     go_ret
     exact⟨_,_,_,_,rfl,HT7.row,HP.out,Zd HT7.out,HB7.out⟩)
   by_cases hcap:cap=k;all_goals (
    go_wp2_with (first|(at_builtin;refine aE rfl _ _ 36 rfl w.heap.size 9 i0 (I ⟨#[]⟩) 1 16 Tryz.underlying36 HI0.1 HI0.2.1 HI0.2.2.1 HI0.2.2.2 rfl ag _ _ _ rfl (HOW.out) _ k _ ((zs.take k).map Ym) rfl oN (λj u hu=>by rw[List.map_take] at hu;obtain⟨g9,o9,e,hgl,h3⟩:=HC.out j u (fs hu);cases e <;> exact⟨_,rfl,by simp only[Yn];exact (ai (ak w _) hgl).trans h3⟩) (HON.out _) bj af aG ?_))
    intro v5 w5 hown5 hgr5
    replace hown5:w5.ownsRow w.heap.size 9 1 v5 k ((zs.take k).map Ym):=dN
    have hb5:Below w.heap.size w w5:=(ak w (Y8 #[] 9)).grown hgr5 aG (λg hg=>by simp[YL] at hg;omega);obtain⟨s1,s2,s3,rfl⟩:=aA hown5;have HO5:=aa hown5;have H5:=aa hb5;have hs5:=hb5.size;clear hown5 hgr5 hb5 HOW
    go_wp2_with (first|(at_builtin;refine aE rfl _ _ 36 rfl w.heap.size 9 i0 (I ⟨#[]⟩) 1 16 Tryz.underlying36 HI0.1 HI0.2.1 HI0.2.2.1 HI0.2.2.2 rfl ag _ _ _ rfl (HO5.alloc _) _ 1 _ [I t] rfl rfl (λj u hu=>⟨_,rfl,by rw[Yn,Yq,an (heap_alloc_new w5 _)];simpa using hu⟩) dx bj af bL ?_))
    intro v6 w6 hown6 hgr6;have hb6:Below w.heap.size w w6:=(H5.alloc H5.size _).grown hgr6 bL (λg hg=>(HO5.lt g hg).1);obtain⟨r1,r2,r3,rfl⟩:=aA hown6;have HO6:=aa hown6;have H6:=aa hb6;have hs6:=hb6.size;clear hown6 hgr6 hb6
    go_wp2_with (first|(at_builtin;refine aE rfl _ _ 36 rfl w.heap.size 9 i0 (I ⟨#[]⟩) 1 16 Tryz.underlying36 HI0.1 HI0.2.1 HI0.2.2.1 HI0.2.2.2 rfl ag _ _ _ rfl (HO6.out) _ (len - k) _ ((zs.drop k).map Ym) rfl oM (λj u hu=>by first|(rw[Yx af] at hu;simp at hu;done)|(rw[List.map_drop,List.getElem?_drop] at hu;obtain⟨g9,o9,e,hgl,h3⟩:=HC.out _ u hu;cases e <;> exact⟨_,rfl,by simp only[Yn,Nat.add_assoc];exact (ai H6.out hgl).trans h3⟩)) (HON.out _) bj af af ?_))
    intro v7 w7 hown7 hgr7;have hb7:Below w.heap.size w w7:=H6.grown hgr7 af (λg hg=>(HO6.lt g hg).1)
    replace hown7:w7.ownsRow w.heap.size 9 1 v7 (len+1) ((zs.take k++[t]++zs.drop k).map Ym):=by
     have e9:k+1+(len - k)=len+1:=af
     try rw[e9] at hown7
     simpa using hown7
    obtain⟨a',p',rfl,hT⟩:=bS.fo hown7 (HZS.out k);have HT7:=aa hT;have HB7:=aa hb7;clear hown7 hgr7 hb7 hT hik hkn
    go_wp2
    go_ret
    exact⟨_,_,_,_,rfl,HT7.row,HP.out,Zd HT7.out,HB7.out⟩)
theorem Fv.Own.akQ {w':World} {h:Nat} {f:Fv} {v:Value} (k:f.Own w h S g v) (hk:h<w.heap.size->S h->w'.heap[h]?=w.heap[h]?):f.Own w' h S g v:=by
 cases f with
 | l zs=>
  obtain⟨a',l',c',h1,h2,h3,h4,h5,h6⟩:=k;refine⟨a',l',c',h1,h2,h3,h4,h5,h6.imp id ?_⟩;rintro⟨q1,q2,q3,cu,q4,q5⟩;exact⟨q1,q2,q3,cu,(hk (ae q4) q2).trans q4,q5⟩
 | _=>exact k
theorem er.ana {len m:Nat} {rs:List (List Fv)} {cur:Array Value} (h:er w g m T rs S cur H) (hS:∀k,S k->B<=k) (hl:rs.length=len) (hlc:len<=cap) (hcm:cap<=9223372036854775807) {i j:Nat} {r:List Fv} {old:Fv} (hi:rs[i]?=Y5 r) (hj:r[j]?=Y5 old)
  {va:Option Addr} {vl vc:Nat} {zs:List ByteArray} (hz:az w va vl vc zs) (hne:∀b o,va=Y5 ⟨b,o,U⟩->zs≠[]->¬b=g/\B<=b) (hW:∀k,B<=k->k<w.heap.size->W.heap[k]?=(w.setCell ⟨g,i*m+j,U⟩ (J va vl vc)).heap[k]?):aT W (Y5 ⟨g,0,U⟩) len cap m (rs.set i (r.set j (.l zs))):=by
 have hlt:i<rs.length:=(Yc.1 hi).1;have hil:j<r.length:=(Yc.1 hj).1;have hrm:r.length=m:=h.len i r hi;have hgB:=hS g h.inS;have hbl:=(hW g hgB (ae h.blk)).trans (av h.blk _);obtain⟨v0,hc0,-⟩:=h.cell i r hi j _ hj;have hin:i*m+j<cur.size:=(Yw.1 hc0).1;refine⟨by rw[List.length_set];exact hl,hlc,hcm,Zd ⟨g,0,rfl,ae hbl,λj' r' hj' i' f' hi'=>?_⟩⟩;rw[Yq];rcases eO (r:=r) hlt hil hj' hi' with ⟨rfl,rfl,rfl⟩|⟨hne',r0,q1,q2⟩
 ·refine⟨J va vl vc,?_,va,vl,vc,rfl,?_⟩
  ·rw[an hbl,Array.getElem?_setIfInBounds_self_of_lt hin]
  ·obtain⟨h1,h2,h3,h4,h5⟩:=hz;refine⟨h1,h2,h3,h4,?_⟩;by_cases hzn:zs=[]
   ·exact Ze hzn
   ·rcases h5 with h5|⟨b,o,rfl,hlt,hc⟩
    ·exact Ze h5
    ·obtain⟨hbg,hbB⟩:=hne b o rfl hzn;have e:W.heap[b]?=w.heap[b]?:=(hW b hbB hlt).trans (Ya _ _ _ _ hbg);have hs:W.heap[b]?=Y5 (w.heap[b]'hlt):=e.trans (Array.getElem?_eq_getElem hlt);refine Zd ⟨b,o,rfl,(Yw.1 hs).1,λk x hx=>?_⟩;have:=hc k x hx;simp only[World.cell?,e] at this ⊢;exact this
 ·rw[rE hi] at q1;obtain⟨v',k1,k2⟩:=h.cell j' r0 q1 i' f' q2;have hil':i'<r0.length:=(Yc.1 q2).1;have hrm':=h.len j' r0 q1;refine⟨v',?_,((k2.jm (k:=i*m+j) (v:=J va vl vc)).akQ (w':=W) (λhl s=>hW _ (hS _ s) (by simpa using hl))).is⟩;rw[an hbl,Array.getElem?_setIfInBounds_ne (λe2=>hne' ag6)];exact k1
theorem df.volC {wz:World} {d:Ad} {va:Option Addr} {vl vc:Nat} {C:Nat} (ho:df w2 d c.raw (λk=>B<=k)) (hC:C<=B) (hd:d.a3=Y5 ⟨g,0,U⟩) (hv:c.vs[i]?=Y5 v) (hB:B<=w2.heap.size) (hb:Below w2.heap.size w2 wz) (hz:az wz va vl vc zs) (hz2:∀b o,va=Y5 ⟨b,o,U⟩->zs≠[]->w2.heap.size<=b)
  (hW:∀k,B<=k->k<wz.heap.size->W.heap[k]?=(wz.setCell ⟨g,i*8+7,U⟩ (J va vl vc)).heap[k]?):kf C W d (vy c i (onV v zs)).raw:=by
 have hvi:(c.vs.map vdF)[i]?=Y5 (vdF v):=by rw[Yv,hv];rfl
 obtain⟨v1,v2,v3,v4⟩:=ho.v;rcases v4 with v4|⟨g',cur,H,e,hat⟩
 ·have h9:c.vs.map vdF=[]:=v4;rw[h9] at hvi;cases hvi
 rw[hd] at e;obtain rfl:g=g':=by cases e;rfl
 have hg:g<w2.heap.size:=ae hat.blk;have hk:∀k,B<=k->¬k=g->k<w2.heap.size->W.heap[k]?=w2.heap[k]?:=λk h1 h2 h3=>by rw[hW k h1 (Yj h3 hb.size),Ya _ _ _ _ h2,hb.block k h3]
 have hR:=(hat.ay (w':=wz) (S':=λk=>B<=k) (λk hk _=>hb.block k hk) (λ_ _ s=>s)).ana (W:=W) (B:=B) (i:=i) (j:=7) (λ_ s=>s) v1 v2 v3 hvi rfl hz (λb o e hn=>⟨λq=>by have:=hz2 b o e hn;omega,by have:=hz2 b o e hn;omega⟩) hW;have hvs:(Rc.vy c i (onV v zs)).raw.v=(c.vs.map vdF).set i ((vdF v).set 7 (.l zs)):=by
  show (c.vs.set i (onV v zs)).map vdF=_;rw[List.map_set];rfl
 refine⟨?_,?_,?_,?_,?_⟩
 ·exact ((ho.n.dH hat.blk ag ag).ay (w':=W) (S':=λk=>B<=k) (λk hk' s=>hk k s.1 s.2 hk') (λ_ _ s=>s.1)).rl (λk s=>Yp hC s)
 ·exact ((ho.k.dH hat.blk ag ag).ay (w':=W) (S':=λk=>B<=k) (λk hk' s=>hk k s.1 s.2 hk') (λ_ _ s=>s.1)).rl (λk s=>Yp hC s)
 ·rw[hvs,hd];exact⟨hR,Zd ⟨g,0,rfl,Yp hC hat.inS,_,_,(hW g hat.inS (Yj hg hb.size)).trans (av ((hb.block g hg).trans hat.blk) _)⟩⟩
 ·exact ((ho.x.dH hat.blk ag ag).ay (w':=W) (S':=λk=>B<=k) (λk hk' s=>hk k s.1 s.2 hk') (λ_ _ s=>s.1)).rl (λk s=>Yp hC s)
 ·exact ((ho.p.dH hat.blk ag ag).ay (w':=W) (S':=λk=>B<=k) (λk hk' s=>hk k s.1 s.2 hk') (λ_ _ s=>s.1)).rl (λk s=>Yp hC s)
theorem df.anf {d:Ad} (ho:df w2 d c.raw (λk=>B<=k)) (hv:c.vs[i]?=Y5 v):∃g cs,d.a3=Y5 ⟨g,0,U⟩/\B<=g/\w2.heap[g]?=Y5 (Y8 cs 38 (0,0))/\(∃a l p,cs[i*8+7]?=Y5 (J a l p)/\az w2 a l p v.zs):=by
 have hvi:(c.vs.map vdF)[i]?=Y5 (vdF v):=by rw[Yv,hv];rfl
 obtain⟨v1,v2,v3,v4⟩:=ho.v;rcases v4 with v4|⟨g,cur,H,e,hat⟩
 ·have h9:c.vs.map vdF=[]:=v4;rw[h9] at hvi;cases hvi
 obtain⟨u,hu,a,l,p,rfl,h5⟩:=hat.cell i (vdF v) hvi 7 (.l v.zs) rfl;exact⟨g,cur,e,hat.inS,hat.blk,a,l,p,hu,BJ.row (h:=H i 7) (S:=λk=>B<=k) (g:=g) ⟨a,l,p,rfl,h5⟩⟩
theorem aii {q:Qd} (h:Xn c k q):∃(i:Nat) (v:Vd),c.vs[i]?=Y5 v/\v.n=q.n/\q.d∈v.zs:=by
 obtain⟨i,v,_,h1,j,t,_,h2,_,_,rfl⟩:=h;exact⟨i,v,h1,rfl,Ys h2⟩
theorem yk(d:Ad) (c:Cl) (x:Qd) (i j:Nat) (v:Vd) (n:Nd) (w:World) (hr:aB w d c.raw) (hT:aq c) (hv:c.vs[i]?=Y5 v) (hvn:v.n=x.n) (hn:c.ns[j]?=Y5 n) (hnn:n.n=x.d) (r:Bool) (h:r=Zb↔xU c v n):
  Calls Tryz.prog 132 #[Zc #[J d.a1 d.l1 d.c1,J d.a2 d.l2 d.c2,J d.a3 d.l3 d.c3,J d.a4 d.l4 d.c4,J d.a5 d.l5 d.c5,Y7 Y6 c.now],Zc #[I x.n,I x.d]] w λe w'=>e=Za (Y9 r)/\Below w.heap.size w w':=by
 refine (Ch d c x i j v n w hr hT hv hvn hn hnn).mono ?_;exact Om
def agP(W:World) (t:ByteArray) (zs:List ByteArray):Fact:=λv w=> ∃a' l' c' ys,v=J a' l' c'/\bS w a' l' c' ys (λk=>W.heap.size<=k)/\Put t zs ys
theorem agP.mono(W:World) (t:ByteArray) (zs:List ByteArray):Fact.cA (agP W t zs):=by
 rintro v w w' ⟨a',l',c',ys,h1,h2,h3⟩ hb;exact⟨a',l',c',ys,h1,h2.below hb,h3⟩
def agS(W:World) (zs:List ByteArray):Fact:=λv w=> ∃a' l' c',v=J a' l' c'/\bS w a' l' c' zs (λk=>W.heap.size<=k)
theorem agS.mono(W:World) (zs:List ByteArray):Fact.cA (agS W zs):=by
 rintro v w w' ⟨a',l',c',h1,h2⟩ hb;exact⟨a',l',c',h1,h2.below hb⟩
theorem ym(d:Ad) (c:Cl) (w:World) (hr:aB w d c.raw):
  Calls Tryz.prog 87 #[Zc #[J d.a1 d.l1 d.c1,J d.a2 d.l2 d.c2,J d.a3 d.l3 d.c3,J d.a4 d.l4 d.c4,J d.a5 d.l5 d.c5,Y7 Y6 c.now]] w (jc (kh c) w):=by
 obtain⟨a1,l1,y1,a2,l2,y2,a3,l3,y3,a4,l4,y4,a5,l5,y5⟩:=d;dsimp only;obtain⟨HR,hl1,hm1,hl2,hm2,hl3,hm3,hl4,hm4,hl5,hm5⟩:=al1;clear hr
 have HB:=aa (Yh w.heap.size w);go_enter Tryz.func87,Tryz.ntmps87;go_wp2_with fail;refine (cY ⟨a1,l1,y1,a2,l2,y2,a3,l3,y3,a4,l4,y4,a5,l5,y5⟩ c _ (HR.below (HB.trans ((aS _ _ _).mono HB.size)))).mono ?_;rintro e w1 ⟨r,rfl,hi,hb⟩
 obtain⟨HA0,HA1,hbx⟩:=dP hb;obtain⟨Bk,Br⟩:=vY;replace HB:=upB HB hbx;clear hb hbx HA0 HA1
 have HI:=aa hi;clear hi;cases r
 ·have HV:Hid (kh c (co0 1)):=Ze ⟨λh=>(by have h9:=HI.2 h;cases h9),rfl⟩;clear HI
  obtain⟨k0,k1,k2,k3,k4,k5⟩:=cs6 Bk;have ltk_1:=ae Bk.out;go_wp2_with fail
  refine (aJ 1 _).mono ?_
  rintro e w2 ⟨rfl,hb⟩;clear k0 k1 k2 k3 k4 k5 ltk_1;replace Bk:=upK Bk hb
  replace Br:=upK Br hb;replace HB:=upB HB hb;clear hb;obtain⟨r0,r1,r2,r3,r4,r5,r6,r7⟩:=cs8 Br
  have ltr_2:=ae Br.out;obtain⟨fr0,fr1,fr2,fr3,fr4,fr5,fr6,fr7⟩:=gJ;have hrl:w.heap.size+1<w2.heap.size:=ae Br.out
  go_wp2;exact bodyPost_ret (v:=Zc #[J U 0 0,J U 0 0,J U 0 0,J U 0 0,J U 0 0,Y7 Y6 0,I ⟨#[]⟩,Y7 Y6 1]) (by simp[results,Tryz.results87,go_sem, *]) rfl ⟨ad0,co0 1,rfl,HV.out,(rl0 _ _),sb1 (sb1 (sb1 (sb1 (sb1 (sb1 (sb1 (sb1 (HB.out))))))))⟩
 have HT:=aa (HI.1 bM);clear HI
 obtain⟨k0,k1,k2,k3,k4,k5⟩:=cs6 Bk;have ltk_1:=ae Bk.out;go_wp2_with fail
 have HLO:=aa HB.size;refine (cE ⟨a1,l1,y1,a2,l2,y2,a3,l3,y3,a4,l4,y4,a5,l5,y5⟩ c _ (HR.below HB.out) HT.sm).mono ?_
 rintro e w2 ⟨d',rfl,ho,hb⟩;have HQ2:=aa hb.size;have HQ1:=aa (ae Br.out);clear k0 k1 k2 k3 k4 k5 ltk_1
 replace Bk:=upK Bk hb;replace Br:=upK Br hb;replace HB:=upB HB hb;clear hb
 obtain⟨x1,m1,n1,x2,m2,n2,x3,m3,n3,x4,m4,n4,x5,m5,n5⟩:=d';have hm3:l3=m3:=by have h6:(c.vs.map vdF).length=m3:=ho.v.1;rw[Yo] at h6;omega
 subst hm3;have HO:=aa ho;have HY:Hid (Bw w2 w2):=Bw.refl _;clear ho
 obtain⟨k0,k1,k2,k3,k4,k5⟩:=cs6 Bk;have ltk_2:=ae Bk.out;go_wp2_with fail
 refine (Cc ⟨a1,l1,y1,a2,l2,y2,a3,l3,y3,a4,l4,y4,a5,l5,y5⟩ c _ (HR.below (HB.trans ((ak _ _).mono HB.size))) HT.out).mono ?_;rintro e w3 ⟨ea,el,ec,es,rfl,ho,hrq,hmem,hle,hb⟩;clear k0 k1 k2 k3 k4 k5 ltk_2;obtain⟨HA0,hbx⟩:=aV hb;replace Bk:=upK Bk hbx;replace Br:=upK Br hbx;have Bo:=aa HA0;replace HY:=aa (HY.below hbx);replace HB:=upB HB hbx;clear hb hbx HA0;have HEB:Hid (∀b o,ea=Y5 ⟨b,o,U⟩->0<el->w2.heap.size<b):=λb o e hp=>by
  obtain⟨h1,-,-,h4⟩:=ho;rcases h4 with h4|⟨g',cur,H,e',hat⟩
  ·rw[h4] at h1;simp at h1;omega
  ·rw[e] at e';cases e';have h5:=hat.inS;simp at h5;omega
 have HQ3:Hid (w2.heap.size<w3.heap.size):=ae Bo.out;have HER:=aa ho.row;have hel:es.length=el:=by simpa using ho.row.1
 have HES:=aa (Yb hrq hmem);clear ho hrq hmem;by_cases he0:0<el
 ·have hei:(0:Int)<el:=af
  obtain⟨b,o,y,rfl,hbl,hy,hat⟩:=oX HER.out he0;obtain⟨-,-,hc0,hc1⟩:=fF hat;have HY0:=aa hy;obtain⟨i,v,hv,hvn,hvd⟩:=aii ((HES.2 y).1 (Ys hy));have HV0:=aa hv;have HVN:=aa hvn;have hi3:i<l3:=by have:=(Yc.1 hv).1;omega
  clear hat hy hv hvn hvd;have hy0:w3.cell? ⟨b,o,U⟩=Y5 (I y.n):=by simpa using hc0
  have hy1:w3.cell? ⟨b,o+1,U⟩=Y5 (I y.d):=by simpa using hc1
  have HY1:=aa hy1;have HYN:=aa hy0;have HYB:=aa hbl;have hv64:v.zs.length<=64:=by have:=(HT.on HV0.out).1;omega
  clear hc0 hc1 hy1
  obtain⟨k0,k1,k2,k3,k4,k5⟩:=cs6 Bk;have ltk_3:=ae Bk.out
  obtain⟨o0,o1,o2,o3,o4,o5⟩:=cs6 Bo;have lto_3:=ae Bo.out;go_wp2_with fail;clear k0 k1 k2 k3 k4 k5 ltk_3 o0 o1 o2 o3 o4 o5 lto_3;have HB3:=HY;have Gk:=Bk;have Gr:=Br;have Go:=Bo;have HW:=HB;obtain⟨k0,k1,k2,k3,k4,k5⟩:=sl6 Gk;have yn:=λq:Wd w3=>(q.cell hbl).trans hy0;have hne0:=Wd.ne w3;have HC0:=aa (λq:Wd w3=>dZ ⟨a1,l1,y1,a2,l2,y2,a3,l3,y3,a4,l4,y4,a5,l5,y5⟩ c.now c.vs y.n q.w (HR.v.below (HW.trans (q.b.mono HW.size))) HT.2.1.2.2.1.2.2 HV0.out HVN.out)
  go_wp2_with fail;refine bN bf bf ?_
  repeat (go_big_quiet_step (first|(go_at_call 40;exact Calls.wide (HC0.out _))|fail))
  refine wpQuiet_nil ?_
  rintro _ ⟨q1,rfl⟩;have HB4:=upB HW q1.b;obtain⟨Ck,Cr⟩:=eu;have Co:=upK Go q1.b;have CHY:=aa ((HY.out).below q1.b);clear hne0 HW HB HC0 k0 k1 k2 k3 k4 k5 yn Gk Gr Go Bk Br Bo HY hy0 hbl;have HB:=HB4;clear HB4
  have HY:=CHY;clear CHY;have Bk:=Ck;clear Ck;have Br:=Cr;clear Cr;have Bo:=Co;clear Co;obtain⟨g,cs,hd3,hgB,hgb,ga,gl,gp,hgc,hgt⟩:=HO.anf HV0.out;have hd3':x3=Y5 ⟨g,0,U⟩:=hd3;subst hd3';have hgs:g<w2.heap.size:=ae hgb;have HGB:=aa hgb;have HGC:=aa hgc
  obtain⟨b3,o3,v',e3,hb3,hx3,hat⟩:=bK (HR.v.below HB.out) hi3;have e3':a3=Y5 ⟨b3,o3,U⟩:=e3;subst e3';rw[HV0.out] at hx3;obtain rfl:=Yd hx3;obtain⟨va,vl,vc,hvr,-,-,-,-,-,-,-,-,-,-,-,hc7⟩:=aW hat;have HC7:=aa hc7;have HVR:=aa hvr;have HB3B:=aa hb3;have hvl64:vl<=64:=by have h1:v.zs.length=vl:=HVR.1;omega
  have HEB2:Hid (w2.heap.size<b):=HEB.out b o rfl he0;have hil3:(i:Int)<l3:=af
  have hii0:¬(i:Int)<0:=af
  clear hd3 hgb hgc hgt hat hx3 hc7 hvr hb3;obtain⟨W,hW0⟩:∃W,W=q1.w:=⟨_,rfl⟩;rw[<-hW0] at HB HY Bk Br Bo HC7 HVR HB3B;have HYW:Hid (W.cell? ⟨b,o+1,U⟩=Y5 (I y.d)):=by
   rw[hW0];exact (q1.cell HYB.out).trans HY1.out
  have HYV:Hid (W.cell? ⟨b,o,U⟩=Y5 (I y.n)):=by
   rw[hW0];exact (q1.cell HYB.out).trans HYN.out
  have HYB2:Hid (b<W.heap.size):=by rw[hW0];exact Yj HYB.out q1.b.size
  go_wp2_with fail;rw[<-hW0];clear hW0
  rename_i K0 hK0;refine Gt.bF bf rfl rfl bf ?_
  refine' Grow.stepC _ rfl ?_ ?_;rotate_left 1
  ·exact kF
  refine' Grow.stepC _ rfl ?_ ?_;rotate_left 1
  ·refine Obl.plain rfl ?_;intro ac wg K hsz hW hf hK;clear hsz;have e26:=hf 26 ag;simp[aj,Yf] at e26;exact wm
  refine' Grow.stepC _ rfl ?_ ?_;rotate_left 1
  ·exact kD
  refine' Grow.stepC _ rfl ?_ ?_;rotate_left 1
  ·exact kH
  refine' Grow.stepC _ rfl ?_ ?_;rotate_left 1
  ·refine Obl.plain rfl ?_;intro ac wg K hsz hW hf hK;clear hsz;have e29:=hf 29 ag;simp[aj,Yf] at e29;clear hf;obtain⟨d0,d1,d2,d3,d4,d5⟩:=cs6 ((hW.block _ (ae Bk.out)).trans Bk.out);exact aK
  refine' Grow.stepC _ rfl ?_ ?_;rotate_left 1
  ·exact kD
  refine' Grow.stepC _ rfl ?_ ?_;rotate_left 1
  ·refine Obl.plain rfl ?_;intro ac wg K hsz hW hf hK;clear hsz;have e30:=hf 30 ag;simp[aj,Yf] at e30
   have e31:=hf 31 ag;simp[aj,Yf] at e31;clear hf;exact aK
  refine' Grow.stepC _ rfl ?_ ?_;rotate_left 1
  ·refine Obl.plain rfl ?_;intro ac wg K hsz hW hf hK;clear hsz;have e32:=hf 32 ag;simp[aj,Yf] at e32
   clear hf;exact aK
  refine' Grow.stepC _ rfl ?_ ?_;rotate_left 1
  ·refine Obl.plain rfl ?_;intro ac wg K hsz hW hf hK;clear hsz;have e33:=hf 33 ag;simp[aj,Yf] at e33
   clear hf;have c7:=(ai hW HB3B.out).trans HC7.out;exact aK
  refine' Grow.stepC _ rfl ?_ ?_;rotate_left 1
  ·exact O9
  refine' Grow.stepC _ rfl ?_ ?_;rotate_left 1
  ·refine Obl.plain rfl ?_;intro ac wg K hsz hW hf hK;clear hsz;have e35:=hf 35 ag;simp[aj,Yf] at e35
   clear hf;exact aK
  refine' Grow.stepC _ rfl ?_ ?_;rotate_left 1
  ·refine Obl.plain rfl ?_;intro ac wg K hsz hW hf hK;clear hsz;have e36:=hf 36 ag;simp[aj,Yf] at e36
   clear hf;exact aK
  refine' Grow.stepC _ rfl ?_ ?_;rotate_left 1
  ·refine Obl.plain rfl ?_;intro ac wg K hsz hW hf hK;clear hsz;have e37:=hf 37 ag;simp[aj,Yf] at e37;clear hf;have c7:=(ai hW HYB2.out).trans HYW.out;exact aK
  refine Grow.step (agS W (wo (λs:ByteArray=>s) y.d v.zs)) rfl (agS.mono W (wo (λs:ByteArray=>s) y.d v.zs)) ?_ ?_
  ·refine Obl.plain rfl ?_;intro ac wg K hsz hW hf hK;clear hsz;have e34:=hf 34 ag;simp[aj,Yf] at e34
   have e38:=hf 38 ag;simp[aj,Yf] at e38;clear hf;go_simp;refine (BZ va vl vc v.zs y.d _ (HVR.below hW) hvl64).mono ?_;rintro e w6 ⟨sa,sl,sc,rfl,ho6,hb6⟩;have hs6:=hW.size;exact hK _ _ hb6 ⟨sa,sl,sc,rfl,ho6.ay (λ_ _ _=>rfl) (λk _ s=>by have s1:wg.heap.size<=k:=s;show W.heap.size<=k;omega)⟩
  refine' Grow.stepC _ rfl ?_ ?_;rotate_left 1
  ·refine Obl.plain rfl ?_;intro ac wg K hsz hW hf hK;clear hsz;have e27:=hf 27 ag;simp[aj,Yf] at e27;have e28:=hf 28 ag;simp[aj,Yf] at e28;clear hf
   go_simp;refine hK _ _ (Yh _ _) ?_;with_reducible rfl
  refine' Grow.stepC _ rfl ?_ ?_;rotate_left 1
  ·exact Pa
  refine Grow.done ?_;intro q wz hW hf;simp only[YI] at hf
  obtain⟨h41,h40,h39,h38,h37,h36,h35,h34,h33,h32,h31,h30,h29,h28,h27,h26,-⟩:=hf;obtain⟨sa,sl,sc,hv39,hto⟩:=h39;have HTO:=aa hto;obtain⟨HWZ,hwg,hfz,hcz⟩:=aha;clear hto;intro K hK;rw[if_pos (by rfl)];simp only[aM,YT,Act.put,Yt,YC,YE,h41,h40,h38,h37,h36,h35,h34,h33,h32,h31,h30,h29,h28,h27,h26,hv39]
  simp only[List.getLast];go_simp;refine hK _ _ ?_;refine hK0 _ _ ?_;clear hK hK0 K K0
  obtain⟨W5,hW5⟩:∃W5,W5=wz.setCell ⟨g,i*8+7,U⟩ (J sa sl sc):=⟨_,rfl⟩;rw[<-hW5];obtain⟨hq1,hq2,hsz,HB5,hsz5,Br5,Bo5⟩:=ahu;have HYV5:Hid (W5.cell? ⟨b,o,U⟩=Y5 (I y.n)):=by
   exact QD
  have HYB5:Hid (b<W5.heap.size):=by have:=HYB2.out;show b<_;omega
  have hn20:=(HT.2.1.2.2.1.2.1 i v HV0.out).1.2.1;rw[HVN.out] at hn20;have hn4:¬9223372036854775807<4+y.n.size:=af
  clear hfz hcz hwg hn20;go_wp2_with fail;rename_i K0 hK0;refine bF bf rfl rfl bf ?_;refine' Grow.stepC _ rfl ?_ ?_;rotate_left 1
  ·exact ako
  refine' Grow.stepC _ rfl ?_ ?_;rotate_left 1
  ·exact O9
  refine' Grow.stepC _ rfl ?_ ?_;rotate_left 1
  ·refine Obl.plain rfl ?_;intro ac wg K hsz hW hf hK;clear hsz;have e43:=hf 43 ag;simp[aj,Yf] at e43;clear hf;exact aK
  refine' Grow.stepC _ rfl ?_ ?_;rotate_left 1
  ·exact O_
  refine' Grow.stepC _ rfl ?_ ?_;rotate_left 1
  ·refine Obl.plain rfl ?_;intro ac wg K hsz hW hf hK;clear hsz;have e45:=hf 45 ag;simp[aj,Yf] at e45
   clear hf;have c7:=(ai hW HYB5.out).trans HYV5.out;exact aK
  refine' Grow.stepC _ rfl ?_ ?_;rotate_left 1
  ·refine Obl.plain rfl ?_;intro ac wg K hsz hW hf hK;clear hsz;have e46:=hf 46 ag;simp[aj,Yf] at e46;clear hf;exact aK
  refine' Grow.stepC _ rfl ?_ ?_;rotate_left 1
  ·refine Obl.plain rfl ?_;intro ac wg K hsz hW hf hK;clear hsz;have e42:=hf 42 ag;simp[aj,Yf] at e42
   have e47:=hf 47 ag;simp[aj,Yf] at e47;clear hf;exact aK
  refine Grow.done ?_;intro q wy hW hf;simp only[YI] at hf;obtain⟨h48,h47,h46,h45,h44,h43,h42,-⟩:=hf
  have Br6:=upK Br5 hW;have HWY:=aa hW;obtain⟨r0,r1,r2,r3,r4,r5,r6,r7⟩:=cs8 Br6;have fr0:=al Br6.out 0;have fr1:=al Br6.out 1;have fr2:=al Br6.out 2;have fr3:=al Br6.out 3;have fr4:=al Br6.out 4;have fr5:=al Br6.out 5;have fr6:=al Br6.out 6;have fr7:=al Br6.out 7;have hrl:=ae Br6.out;intro K hK;rw[if_pos (by rfl)]
  simp only[aM,YT,Act.put,Yt,YC,YE,h48,h47,h46,h45,h44,h43,h42]
  simp only[List.getLast];go_simp;refine hK _ _ ?_;refine hK0 _ _ ?_;clear hK hK0 K K0
  have HV:Hid (kh c ⟨vy c i (onV v (wo (λs:ByteArray=>s) y.d v.zs)),AO++y.n,0⟩):=Zd (Ze ⟨HT.out,es,y,i,v,HES.out,HY0.out,HV0.out,HVN.out,by rw[HVN.out]⟩);go_wp2;have hlo:=HLO.out;refine bodyPost_ret (v:=Zc #[J x1 m1 n1,J x2 m2 n2,J (Y5 ⟨g,0,U⟩) l3 n3,J x4 m4 n4,J x5 m5 n5,Y7 Y6 c.now,I (AO++y.n),Y7 Y6 0]) (by simp[results,Tryz.results87,go_sem, *];rfl) rfl ⟨⟨x1,m1,n1,x2,m2,n2,Y5 ⟨g,0,U⟩,l3,n3,x4,m4,n4,x5,m5,n5⟩,⟨vy c i (onV v (wo (λs:ByteArray=>s) y.d v.zs)),AO++y.n,0⟩,rfl,HV.out,?_,sb1 (sb1 (sb1 (sb1 (sb1 (sb1 (sb1 (sb1 (HB5.trans (HWY.mono HB5.size)))))))))⟩;exact OM
 have hei:¬(0:Int)<el:=af
 have HNX:Hid (∀q,¬Xn c c.vs.length q):=λq hq=>by
  have h1:=(HES.2 q).2 hq;obtain⟨j,hj⟩:=YD h1;have:=(Yc.1 hj).1;omega
 clear HER HES HEB
 obtain⟨k0,k1,k2,k3,k4,k5⟩:=cs6 Bk;have ltk_3:=ae Bk.out
 obtain⟨o0,o1,o2,o3,o4,o5⟩:=cs6 Bo;have lto_3:=ae Bo.out;go_wp2_with fail;refine (lW ⟨a1,l1,y1,a2,l2,y2,a3,l3,y3,a4,l4,y4,a5,l5,y5⟩ c _ (HR.below HB.out) HT.out).mono ?_;rintro e w4 ⟨wa,wl,wc,ws,rfl,ho,hrq,hmem,hle,hb⟩;clear k0 k1 k2 k3 k4 k5 ltk_3 o0 o1 o2 o3 o4 o5 lto_3;replace Bk:=upK Bk hb;replace Br:=upK Br hb;replace Bo:=upK Bo hb;replace HY:=aa (HY.below hb);replace HB:=upB HB hb;clear hb;have HEB:Hid (∀b o,wa=Y5 ⟨b,o,U⟩->0<wl->w3.heap.size<b):=λb o e hp=>by
  obtain⟨h1,-,-,h4⟩:=ho;rcases h4 with h4|⟨g',cur,H,e',hat⟩
  ·rw[h4] at h1;simp at h1;omega
  ·rw[e] at e';cases e';have h5:w3.heap.size+1<=b:=hat.inS;omega
 have HER:=aa ho.row;have hwl:ws.length=wl:=by simpa using ho.row.1
 have HES:=aa (Yb hrq hmem);clear ho hrq hmem;obtain⟨k0,k1,k2,k3,k4,k5⟩:=cs6 Bk;have ltk_4:=ae Bk.out;obtain⟨o0,o1,o2,o3,o4,o5⟩:=cs6 Bo;have lto_4:=ae Bo.out;go_wp2;clear k0 k1 k2 k3 k4 k5 ltk_4 o0 o1 o2 o3 o4 o5 lto_4;have h4o:w2.heap.size<w4.heap.size:=ae Bo.out;go_loopw [7] (λvi wr=> ∃k:Nat,k<=wl/\vi=Y7 Y6 k/\Hid (lakL c (ws.take k)=[])/\Hid (Below w4.heap.size w4 wr)) (λvi _=>wl - (intOf vi).toNat);case atStart=>exact⟨0,by omega,rfl,rfl,Yh _ _⟩
 case round=>
  obtain⟨k,hk,rfl,HLK,HL⟩:=hrel;replace Bk:=aa ((HL.block _ (ae Bk.out)).trans Bk.out);replace Br:=aa ((HL.block _ (ae Br.out)).trans Br.out);replace Bo:=aa ((HL.block _ (ae Bo.out)).trans Bo.out);replace HY:=aa (HY.below HL.out);replace HB:=aa (HB.trans (HL.mono HB.size));have hLs:=HL.size;by_cases hlt:k<wl
  ·have hk1:(k:Int)<wl:=af
   have hk0:¬(k:Int)<0:=af
   obtain⟨b,o,y,rfl,hbl,hy,hat⟩:=oX (HER.below HL.out) hlt;obtain⟨-,hzd,hc0,hc1⟩:=fF hat;have HY0:=aa hy;obtain⟨i,j,v,n,g1,g2,g3,g4⟩:=aik HT.out ((HES.2 y).1 (Ys hy));have HV0:=aa g1;have HVN:=aa g2;have HNJ:=aa (Yb g3 g4);have HCI:=aa (xS.iff HT.out g1 g2 g3 g4);have hi3:i<l3:=by have:=(Yc.1 g1).1;omega
   have HEB2:Hid (w3.heap.size<b):=HEB.out b o rfl af;have HYN:=aa hc0;have HY1:=aa hc1;have HYB:=aa hbl;have HZD:=aa hzd;clear hat hy g1 g2 g3 g4 hzd;by_cases hcan:xU c v n;rotate_left
   ·have HN:Hid (lakL c (ws.take (k+1))=lakL c (ws.take k)):=akP HY0.out (λh=>hcan (HCI.1 h));have HCB:Hid (¬xU c v n):=hcan
    obtain⟨k0,k1,k2,k3,k4,k5⟩:=cs6 Bk;have ltk_4:=ae Bk.out;obtain⟨o0,o1,o2,o3,o4,o5⟩:=cs6 Bo;have lto_4:=ae Bo.out;go_wp2_with fail;clear k0 k1 k2 k3 k4 k5 ltk_4 o0 o1 o2 o3 o4 o5 lto_4;have Gk:=Bk;have Gr:=Br;have Go:=Bo;have HW:=HB;obtain⟨k0,k1,k2,k3,k4,k5⟩:=sl6 Gk;have yn:=λq:Wd wr=>(q.cell hbl).trans hc0;have yd:=λq:Wd wr=>(q.cell hbl).trans hc1;have hne0:=Wd.ne wr
    have HC0:=aa (λq:Wd wr=>yk ⟨a1,l1,y1,a2,l2,y2,a3,l3,y3,a4,l4,y4,a5,l5,y5⟩ c y i j v n q.w (HR.below (HW.trans (q.b.mono HW.size))) HT.out HV0.out HVN.out HNJ.1 HNJ.2 Y_ ⟨λh=>bU,λh=>absurd h HCB.out⟩)
    go_wp2_with fail;refine bN bf bf ?_
    repeat (go_big_quiet_step (first|(go_at_call 132;exact Calls.wide (HC0.out _))|fail))
    refine wpQuiet_nil ?_;rintro _ ⟨q1,rfl⟩;have HB5:=upB HW q1.b;obtain⟨Ck,Cr⟩:=eu;have Co:=upK Go q1.b;have CHY:=aa ((HY.out).below q1.b);clear hne0 HW HB HC0 k0 k1 k2 k3 k4 k5 yn yd Gk Gr Go Bk Br Bo HY hbl hc0 hc1;have HB:=HB5;clear HB5;have HY:=CHY;clear CHY;have Bk:=Ck;clear Ck;have Br:=Cr;clear Cr;have Bo:=Co;clear Co
    obtain⟨k0,k1,k2,k3,k4,k5⟩:=cs6 Bk;have ltk_5:=ae Bk.out;obtain⟨o0,o1,o2,o3,o4,o5⟩:=cs6 Bo;have lto_5:=ae Bo.out;go_wp2;refine⟨⟨k+1,by omega,by go_num,?_,HL.trans (q1.b.mono hLs)⟩,by simp[intOf];omega⟩;rw[HN.out];exact HLK
   have HF:Hid ((lakL c ws)[0]?=Y5 y):=Be HY0.out (HCI.2 hcan) HLK.out;have HCB:Hid (xU c v n):=hcan;have HCN:Hid (¬y.d∈v.zs):=λh9=>hcan.1 (by obtain⟨q,hq⟩:=YD h9;rw[HNJ.2];exact⟨q,hq⟩);clear hcan
   obtain⟨k0,k1,k2,k3,k4,k5⟩:=cs6 Bk;have ltk_4:=ae Bk.out;obtain⟨o0,o1,o2,o3,o4,o5⟩:=cs6 Bo;have lto_4:=ae Bo.out;go_wp2_with fail;clear k0 k1 k2 k3 k4 k5 ltk_4 o0 o1 o2 o3 o4 o5 lto_4;have Gk:=Bk;have Gr:=Br;have Go:=Bo;have HW:=HB;obtain⟨k0,k1,k2,k3,k4,k5⟩:=sl6 Gk;have yn:=λq:Wd wr=>(q.cell hbl).trans hc0;have yd:=λq:Wd wr=>(q.cell hbl).trans hc1;have hne0:=Wd.ne wr
   have HC0:=aa (λq:Wd wr=>yk ⟨a1,l1,y1,a2,l2,y2,a3,l3,y3,a4,l4,y4,a5,l5,y5⟩ c y i j v n q.w (HR.below (HW.trans (q.b.mono HW.size))) HT.out HV0.out HVN.out HNJ.1 HNJ.2 Zb ⟨λ_=>HCB.out,λ_=>rfl⟩)
   go_wp2_with fail;refine bN bf bf ?_
   repeat (go_big_quiet_step (first|(go_at_call 132;exact Calls.wide (HC0.out _))|fail))
   refine wpQuiet_nil ?_;rintro _ ⟨q1,rfl⟩;have HB5:=upB HW q1.b;obtain⟨Ck,Cr⟩:=eu;have Co:=upK Go q1.b;have CHY:=aa ((HY.out).below q1.b);clear hne0 HW HB HC0 k0 k1 k2 k3 k4 k5 yn yd Gk Gr Go Bk Br Bo HY hbl hc0 hc1;have HB:=HB5;clear HB5;have HY:=CHY;clear CHY;have Bk:=Ck;clear Ck;have Br:=Cr;clear Cr;have Bo:=Co;clear Co
   have hbl2:b<q1.w.heap.size:=Yj HYB.out q1.b.size;have hy0:q1.w.cell? ⟨b,o+k*2,U⟩=Y5 (I y.n):=(q1.cell HYB.out).trans HYN.out;have HYN2:=aa hy0;have HYB3:=aa hbl2;have HY12:Hid (q1.w.cell? ⟨b,o+k*2+1,U⟩=Y5 (I y.d)):=(q1.cell HYB.out).trans HY1.out;obtain⟨k0,k1,k2,k3,k4,k5⟩:=cs6 Bk;have ltk_5:=ae Bk.out;obtain⟨o0,o1,o2,o3,o4,o5⟩:=cs6 Bo;have lto_5:=ae Bo.out;go_wp2_with fail;clear k0 k1 k2 k3 k4 k5 ltk_5 o0 o1 o2 o3 o4 o5 lto_5;have Gk:=Bk;have Gr:=Br;have Go:=Bo;have HW:=HB;obtain⟨k0,k1,k2,k3,k4,k5⟩:=sl6 Gk;have yn:=λq:Wd q1.w=>(q.cell hbl2).trans hy0;have hne0:=Wd.ne q1.w;have HC0:=aa (λq:Wd q1.w=>dZ ⟨a1,l1,y1,a2,l2,y2,a3,l3,y3,a4,l4,y4,a5,l5,y5⟩ c.now c.vs y.n q.w (HR.v.below (HW.trans (q.b.mono HW.size))) HT.2.1.2.2.1.2.2 HV0.out HVN.out)
   go_wp2_with fail;refine bN bf bf ?_
   repeat (go_big_quiet_step (first|(go_at_call 40;exact Calls.wide (HC0.out _))|fail))
   refine wpQuiet_nil ?_
   rintro _ ⟨q2,rfl⟩;have HB6:=upB HW q2.b;have Ck:=upK Gk q2.b;have Cr:=upK Gr q2.b;have Co:=upK Go q2.b;have CHY:=aa ((HY.out).below q2.b);clear hne0 HW HB HC0 k0 k1 k2 k3 k4 k5 yn Gk Gr Go Bk Br Bo HY hy0 hbl2;have HB:=HB6;clear HB6
   have HY:=CHY;clear CHY;have Bk:=Ck;clear Ck;have Br:=Cr;clear Cr;have Bo:=Co;clear Co;obtain⟨g,cs,hd3,hgB,hgb,ga,gl,gp,hgc,hgt⟩:=HO.anf HV0.out;have hd3':x3=Y5 ⟨g,0,U⟩:=hd3;subst hd3';have hgs:g<w2.heap.size:=ae hgb;have HGB:=aa hgb;have HGC:=aa hgc
   have HGT:=aa hgt;have hgl64:gl<=64:=by have h1:v.zs.length=gl:=hgt.1;have:=(HT.on HV0.out).1;omega
   have hil3:(i:Int)<l3:=af
   have hii0:¬(i:Int)<0:=af
   clear hd3 hgb hgc hgt;obtain⟨W,hW0⟩:∃W,W=q2.w:=⟨_,rfl⟩;rw[<-hW0] at HB HY Bk Br Bo;have HYW:Hid (W.cell? ⟨b,o+k*2+1,U⟩=Y5 (I y.d)):=by
    rw[hW0];exact (q2.cell HYB3.out).trans HY12.out
   have HYV:Hid (W.cell? ⟨b,o+k*2,U⟩=Y5 (I y.n)):=by
    rw[hW0];exact (q2.cell HYB3.out).trans HYN2.out
   have HYB2:Hid (b<W.heap.size):=by rw[hW0];exact Yj HYB3.out q2.b.size
   replace HEB2:Hid (w2.heap.size<b):=by have h1:=HEB2.out;have h2:=HQ3.out;show _<_;omega
   go_wp2_with fail;rw[<-hW0];clear hW0;rename_i K0 hK0;refine Gt.bF bf rfl rfl bf ?_;refine' Grow.stepC _ rfl ?_ ?_;rotate_left 1
   ·exact kF
   refine' Grow.stepC _ rfl ?_ ?_;rotate_left 1
   ·refine Obl.plain rfl ?_;intro ac wg K hsz hW hf hK;clear hsz;have e70:=hf 70 ag;simp[aj,Yf] at e70;exact wm
   refine' Grow.stepC _ rfl ?_ ?_;rotate_left 1
   ·exact kC
   refine' Grow.stepC _ rfl ?_ ?_;rotate_left 1
   ·exact kF
   refine' Grow.stepC _ rfl ?_ ?_;rotate_left 1
   ·refine Obl.plain rfl ?_;intro ac wg K hsz hW hf hK;clear hsz;have e73:=hf 73 ag;simp[aj,Yf] at e73;exact wm
   refine' Grow.stepC _ rfl ?_ ?_;rotate_left 1
   ·exact kC
   refine' Grow.stepC _ rfl ?_ ?_;rotate_left 1
   ·refine Obl.plain rfl ?_;intro ac wg K hsz hW hf hK;clear hsz;have e74:=hf 74 ag;simp[aj,Yf] at e74;have e75:=hf 75 ag;simp[aj,Yf] at e75;clear hf;exact aK
   refine' Grow.stepC _ rfl ?_ ?_;rotate_left 1
   ·refine Obl.plain rfl ?_;intro ac wg K hsz hW hf hK;clear hsz;have e76:=hf 76 ag;simp[aj,Yf] at e76;clear hf;exact aK
   refine' Grow.stepC _ rfl ?_ ?_;rotate_left 1
   ·refine Obl.plain rfl ?_;intro ac wg K hsz hW hf hK;clear hsz;have e77:=hf 77 ag;simp[aj,Yf] at e77;clear hf;have c7:wg.cell? ⟨g,i*8+7,U⟩=Y5 (J ga gl gp):=(an (((HY.out.trans (hW.mono HY.le)).block g hgs).trans HGB.out) _).trans HGC.out;exact aK
   refine' Grow.stepC _ rfl ?_ ?_;rotate_left 1
   ·exact kE
   refine' Grow.stepC _ rfl ?_ ?_;rotate_left 1
   ·exact wC
   refine' Grow.stepC _ rfl ?_ ?_;rotate_left 1
   ·refine Obl.plain rfl ?_;intro ac wg K hsz hW hf hK;clear hsz;have e79:=hf 79 ag;simp[aj,Yf] at e79;have e80:=hf 80 ag;simp[aj,Yf] at e80;clear hf;exact aK
   refine' Grow.stepC _ rfl ?_ ?_;rotate_left 1
   ·refine Obl.plain rfl ?_;intro ac wg K hsz hW hf hK;clear hsz;have e81:=hf 81 ag;simp[aj,Yf] at e81;clear hf;exact aK
   refine' Grow.stepC _ rfl ?_ ?_;rotate_left 1
   ·refine Obl.plain rfl ?_;intro ac wg K hsz hW hf hK;clear hsz;have e82:=hf 82 ag;simp[aj,Yf] at e82;clear hf;have c7:=(ai hW HYB2.out).trans HYW.out;exact aK
   refine Grow.step (agP W y.d v.zs) rfl (agP.mono W y.d v.zs) ?_ ?_
   ·refine Obl.plain rfl ?_;intro ac wg K hsz hW hf hK;clear hsz;have e78:=hf 78 ag;simp[aj,Yf] at e78;have e83:=hf 83 ag;simp[aj,Yf] at e83;clear hf;go_simp;refine (AT ga gl gp v.zs y.d _ (HGT.below (HY.out.trans (hW.mono HY.le))) hgl64 HZD.out).mono ?_;rintro e w6 ⟨sa,sl,sc,ys,rfl,-,hput,how,hb6⟩;have hs6:=hW.size;rcases how with how|how
    ·exact absurd how HCN.out
    exact hK _ _ hb6 ⟨sa,sl,sc,ys,rfl,how.ay (λ_ _ _=>rfl) (λk _ s=>by have s1:wg.heap.size<=k:=s;show W.heap.size<=k;omega),hput⟩
   refine' Grow.stepC _ rfl ?_ ?_;rotate_left 1
   ·refine Obl.plain rfl ?_;intro ac wg K hsz hW hf hK;clear hsz;have e71:=hf 71 ag;simp[aj,Yf] at e71;have e72:=hf 72 ag;simp[aj,Yf] at e72;clear hf;exact aK
   refine' Grow.stepC _ rfl ?_ ?_;rotate_left 1
   ·refine Obl.plain rfl ?_;intro ac wg K hsz hW hf hK;clear hsz;have e85:=hf 85 ag;simp[aj,Yf] at e85;clear hf;exact aK
   refine Grow.done ?_;intro q wz hW hf;simp only[YI] at hf
   obtain⟨h86,h85,h84,h83,h82,h81,h80,h79,h78,h77,h76,h75,h74,h73,h72,h71,h70,-⟩:=hf;obtain⟨sa,sl,sc,ys,hv84,hto,hput⟩:=h84;have HTO:=aa hto;have HPUT:=aa hput;obtain⟨HWZ,hwg,hfz,hcz⟩:=aha;clear hto hput;intro K hK;rw[if_pos (by rfl)];simp only[aM,YT,Act.put,Yt,YC,YE,h86,h85,h83,h82,h81,h80,h79,h78,h77,h76,h75,h74,h73,h72,h71,h70,hv84]
   simp only[List.getLast];go_simp;refine hK _ _ ?_;refine hK0 _ _ ?_;clear hK hK0 K K0
   obtain⟨W5,hW5⟩:∃W5,W5=wz.setCell ⟨g,i*8+7,U⟩ (J sa sl sc):=⟨_,rfl⟩;rw[<-hW5];obtain⟨hq1,hq2,hsz,HB5,hsz5,Br5,Bo5⟩:=ahu;have HYV5:Hid (W5.cell? ⟨b,o+k*2,U⟩=Y5 (I y.n)):=by
    exact QD
   have HYB5:Hid (b<W5.heap.size):=by have:=HYB2.out;show b<_;omega
   have hn20:=(HT.2.1.2.2.1.2.1 i v HV0.out).1.2.1;rw[HVN.out] at hn20;have hn4:¬9223372036854775807<3+y.n.size:=af
   clear hfz hcz hwg hn20;go_wp2_with fail;rename_i K0 hK0;refine bF bf rfl rfl bf ?_;refine' Grow.stepC _ rfl ?_ ?_;rotate_left 1
   ·exact ako
   refine' Grow.stepC _ rfl ?_ ?_;rotate_left 1
   ·exact kE
   refine' Grow.stepC _ rfl ?_ ?_;rotate_left 1
   ·exact wC
   refine' Grow.stepC _ rfl ?_ ?_;rotate_left 1
   ·refine Obl.plain rfl ?_;intro ac wg K hsz hW hf hK;clear hsz;have e88:=hf 88 ag;simp[aj,Yf] at e88;have e89:=hf 89 ag;simp[aj,Yf] at e89;clear hf;exact aK
   refine' Grow.stepC _ rfl ?_ ?_;rotate_left 1
   ·refine Obl.plain rfl ?_;intro ac wg K hsz hW hf hK;clear hsz;have e90:=hf 90 ag;simp[aj,Yf] at e90;clear hf;exact aK
   refine' Grow.stepC _ rfl ?_ ?_;rotate_left 1
   ·refine Obl.plain rfl ?_;intro ac wg K hsz hW hf hK;clear hsz;have e91:=hf 91 ag;simp[aj,Yf] at e91
    clear hf;have c7:=(ai hW HYB5.out).trans HYV5.out;exact aK
   refine' Grow.stepC _ rfl ?_ ?_;rotate_left 1
   ·refine Obl.plain rfl ?_;intro ac wg K hsz hW hf hK;clear hsz;have e92:=hf 92 ag;simp[aj,Yf] at e92
    clear hf;exact aK
   refine' Grow.stepC _ rfl ?_ ?_;rotate_left 1
   ·refine Obl.plain rfl ?_;intro ac wg K hsz hW hf hK;clear hsz;have e87:=hf 87 ag;simp[aj,Yf] at e87;have e93:=hf 93 ag;simp[aj,Yf] at e93;clear hf;exact aK
   refine Grow.done ?_;intro q wy hW hf;simp only[YI] at hf;obtain⟨h94,h93,h92,h91,h90,h89,h88,h87,-⟩:=hf
   have Br6:=upK Br5 hW;have HWY:=aa hW;obtain⟨r0,r1,r2,r3,r4,r5,r6,r7⟩:=cs8 Br6;have fr0:=al Br6.out 0;have fr1:=al Br6.out 1;have fr2:=al Br6.out 2;have fr3:=al Br6.out 3;have fr4:=al Br6.out 4;have fr5:=al Br6.out 5;have fr6:=al Br6.out 6;have fr7:=al Br6.out 7;have hrl:=ae Br6.out;intro K hK;rw[if_pos (by rfl)]
   simp only[aM,YT,Act.put,Yt,YC,YE,h94,h93,h92,h91,h90,h89,h88,h87]
   simp only[List.getLast];go_simp;refine hK _ _ ?_;refine hK0 _ _ ?_;clear hK hK0 K K0
   have HV:Hid (kh c ⟨vy c i (onV v ys),wOn++y.n,0⟩):=Zd (Zd ⟨HT.out,HNX.out,ws,HES.out,Ze ⟨y,i,v,ys,HF.out,HV0.out,HVN.out,HPUT.out,by rw[HVN.out]⟩⟩);go_wp2;have hlo:=HLO.out;refine bodyPost_ret (v:=Zc #[J x1 m1 n1,J x2 m2 n2,J (Y5 ⟨g,0,U⟩) l3 n3,J x4 m4 n4,J x5 m5 n5,Y7 Y6 c.now,I (wOn++y.n),Y7 Y6 0]) (by simp[results,Tryz.results87,go_sem, *];rfl) rfl ⟨⟨x1,m1,n1,x2,m2,n2,Y5 ⟨g,0,U⟩,l3,n3,x4,m4,n4,x5,m5,n5⟩,⟨vy c i (onV v ys),wOn++y.n,0⟩,rfl,HV.out,?_,sb1 (sb1 (sb1 (sb1 (sb1 (sb1 (sb1 (sb1 (HB5.trans (HWY.mono HB5.size)))))))))⟩;exact OM
  have hk1:¬(k:Int)<wl:=af
  have HV:Hid (kh c (co0 6)):=Zd (Zd ⟨HT.out,HNX.out,ws,HES.out,Zd ⟨by have h9:=HLK.out;rw[YJ af] at h9;exact h9,rfl⟩⟩);obtain⟨k0,k1,k2,k3,k4,k5⟩:=cs6 Bk;have ltk_4:=ae Bk.out;go_wp2_with fail;refine (aJ 6 _).mono ?_;rintro e w5 ⟨rfl,hb⟩;clear k0 k1 k2 k3 k4 k5 ltk_4;replace Bk:=upK Bk hb;replace Br:=upK Br hb;replace Bo:=upK Bo hb;replace HY:=aa (HY.below hb);replace HB:=upB HB hb;clear hb;obtain⟨r0,r1,r2,r3,r4,r5,r6,r7⟩:=cs8 Br;have ltr_5:=ae Br.out;obtain⟨fr0,fr1,fr2,fr3,fr4,fr5,fr6,fr7⟩:=gJ;have hrl:w.heap.size+1<w5.heap.size:=ae Br.out;go_wp2;exact bodyPost_ret (v:=Zc #[J U 0 0,J U 0 0,J U 0 0,J U 0 0,J U 0 0,Y7 Y6 0,I ⟨#[]⟩,Y7 Y6 6]) (by simp[results,Tryz.results87,go_sem, *]) rfl ⟨ad0,co0 6,rfl,HV.out,(rl0 _ _),sb1 (sb1 (sb1 (sb1 (sb1 (sb1 (sb1 (sb1 (HB.out))))))))⟩
end Rc
end Go.Proofs.YtfhdfmdaiookjaaGreatDoor

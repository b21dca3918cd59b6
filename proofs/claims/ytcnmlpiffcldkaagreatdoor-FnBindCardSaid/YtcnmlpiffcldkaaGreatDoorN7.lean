import Derived.Test.YtcnmlpiffcldkaaGreatDoorN2
import Derived.Laws.StructEq
/-
 What the laws on kinds call besides: measures, copies, comparisons.
-/
set_option maxRecDepth 100000
set_option maxHeartbeats 12800000
open Bool renaming false→Zg,true→Zi
open Go.Ending renaming returned→Zh
open Go.IntKind renaming i64→O
open Go.Obj renaming cells→Ze
open Go.Value renaming string→I,slice→U,int→V,bool→Zf,agg→Zj,pointer→Zm,tuple→Zn
open Option renaming none→J,some→M
open Or renaming inr→Zk,inl→Zl
open And renaming intro→Yb
open Array renaming getElem?_push_size→Yf, getD_eq_getD_getElem?→Ys, getElem?_eq_some_iff→YA, getElem?_setIfInBounds→YH
open Bool renaming and_eq_true→YI
open Go.Act renaming put→Y0
open Go.Addr renaming add_lit→Ym
open Go.Builtin renaming append_→YY
open Go.Calls renaming quiet_of_same→YD
open Go.Op renaming bytesLess→Yk
open Go.Region renaming ready→YU
open Go.RowKit.Below renaming heap_setCell→Ya, refl→Yh, heap_alloc→Yj
open Go.Value renaming string→Yn, ownBlock→YK
open Go.World renaming setCell→YV, cell?→YX
open List renaming getElem?_eq_some_iff→Yc, lookup→Yg, getElem?_eq_getElem→Yi, length_map→Yq, setIfInBounds_toArray→Yr, getElem?_map→Yt, getElem?_append_left→Yu, mem_of_getElem?→Yv, drop_eq_nil_of_le→Yw, set_cons_zero→Yx, set_cons_succ→Yy, take_of_length_le→YB, getElem?_take→YC, length_take→YF, getElem?_of_mem→YG, forall_mem_cons→YL, take_add_one→YM, getElem?_drop→YN, length_append→YP, foldr→YQ, mem_cons→YT, pairwise_append→Y6
open Nat renaming le_refl→Ye, lt_of_lt_of_le→Yl, le_trans→Yo, zero_add→Yp, le_succ→Yz, zero_le→YJ
open Option renaming map_eq_some_iff→YE
open Option.some renaming inj→Yd, injEq→YZ
namespace Go.Proofs.YtcnmlpiffcldkaaGreatDoor
variable {p:Prop}
namespace Mk
end Mk
open Go.RowKit Mk
variable {B cap g i j k:Nat} {H:Nat->Nat->Nat} {S:Nat->Prop} {T:TypeId} {W w w2:World} {a:Option Addr} {c:Rc.Cl} {t x:ByteArray} {v:Vd} {zs:List ByteArray}
theorem ahC(h:p:=by have e1:=dy h1;have e2:=dy h2;obtain⟨y1,y2⟩:=y;obtain⟨x1,x2⟩:=x;cases e1;cases e2;rfl):p:=h
theorem amu(h:p:=by
 rw[Ya _ _ _ _ (show k≠w.heap.size+1 by omega),Ya _ _ _ _ (show k≠w.heap.size+1 by omega),Ya _ _ _ _ (show k≠w.heap.size+1 by omega),Ya _ _ _ _ (show k≠w.heap.size+1 by omega),Ya _ _ _ _ (show k≠w.heap.size+1 by omega),Ya _ _ _ _ (show k≠w.heap.size+1 by omega),Ya _ _ _ _ (show k≠w.heap.size+1 by omega),Ya _ _ _ _ (show k≠w.heap.size+1 by omega),HWY.block k af,hW5]):p:=h
theorem O_(h:p:=by
 intro j u hu;cases j with
 | zero=>
  simp only[List.getElem?_cons_zero,YZ] at hu;subst hu;rw[Ym];exact al (heap_alloc_new _ _) 0
 | succ j=>simp at hu):p:=h
theorem O8(h:p:=by
 rintro e w' ⟨r',rfl,h',hb⟩;have e:r'=r:=by
  cases r <;> cases r'
  ·rfl
  ·exact (h.2 (h'.1 rfl)).symm
  ·exact h'.2 (h.1 rfl)
  ·rfl
 rw[e];exact⟨rfl,hb⟩):p:=h
theorem Ra(h:p:=by
 have hbg:¬b=g:=by have:=aug.out;omega
 have e9:W5.heap[b]?=wz.heap[b]?:=by rw[hW5];exact Ya _ _ _ _ hbg
 have h9:=(ah HWZ.out aq5.out).trans HYV.out;show W5.cell? _=_;simp only[YX,e9] at h9 ⊢;exact h9):p:=h
theorem ak1(h:p:=by
 rcases HTO.2 with h5|⟨g5,cu5,e5,hS5,_⟩
 ·exact absurd h5 hn9
 ·rw[e9] at e5;cases e5;have h6:=hS5;have:=HY.le;omega):p:=h
theorem Qt(h:p:=by
 unfold Zs;cases hd:n.d;all_goals (
  go_enter Tryz.func142,Tryz.ntmps142
  go_wp2
  go_ret
  exact⟨by simp,aM _ _ _⟩)):p:=h
theorem PK(h:p:=by
 refine dw.volC (wz:=wz) (va:=sa) (vl:=sl) (vc:=sc) HO.out hlo rfl HV0.out Τ (HY.out.trans (HWZ.mono HY.le)) HTO.row (λb9 o9 e9 hn9=>?_) (λk h1 h2=>?_)
 ·exact ak1
 ·exact amu):p:=h
theorem amj(h:p:=by
 have hq1:=HQ1.out;have Τ:=ν.out;have Zq:=HWZ.size;have Ρ:Hid (Below w.heap.size w W5):=by rw[hW5];exact ai (show w.heap.size<=g by omega) (HB.trans (HWZ.mono HB.size))
 have aw_:W5.heap.size=wz.heap.size:=by rw[hW5];simp
 have Br5:Hid (W5.heap[w.heap.size+1]?=M (Ze #[U J 0 0,U J 0 0,U J 0 0,U J 0 0,U J 0 0,V O 0,I ⟨#[]⟩,V O 0] 33 (0,0))):=by rw[hW5];exact (Ya _ _ _ _ (show w.heap.size+1≠g by omega)).trans ((HWZ.block _ (ae Br.out)).trans Br.out)
 have Bo5:Hid (W5.heap[w2.heap.size]?=M (Ze (Zd x1 m1 n1 x2 m2 n2 (M ⟨g,0,J⟩) l3 n3 x4 m4 n4 x5 m5 n5 c.now) 29 (0,0))):=by rw[hW5];exact (Ya _ _ _ _ (show w2.heap.size≠g by omega)).trans ((HWZ.block _ (ae Bo.out)).trans Bo.out)
 exact Yb hq1 (Yb Τ (Yb Zq (Yb Ρ (Yb aw_ (Yb Br5 Bo5)))))):p:=h
theorem ame(h:p:=by
 have ns:∀q:Wd w3,q.w.cell? ⟨b1,o1+j*7+3,J⟩=M (V O n.s):=λq=>(q.cell (Yl HNS.1 HB.size)).trans (hn9);have hne0:=Wd.ne w3;have Zv:=G (λq:Wd w3=>yE ⟨(M ⟨b1,o1,J⟩),l1,y1,a2,l2,y2,(M ⟨b,o,J⟩),l3,y3,a4,l4,y4,a5,l5,y5⟩ c.now c.vs x.d q.w (HR.v.below (HW.trans (q.b.mono HW.size))) h8);have μ:=G (λq:Wd w3=>fK ⟨(M ⟨b1,o1,J⟩),l1,y1,a2,l2,y2,(M ⟨b,o,J⟩),l3,y3,a4,l4,y4,a5,l5,y5⟩ c.now c.ns x.d q.w (HR.n.below (HW.trans (q.b.mono HW.size))) HT.2.1.1.2.2 HN.out HNN.out);exact Yb ns (Yb hne0 (Yb Zv μ))):p:=h
theorem ahE(h:p:=by
 have ρ:Hid ((q3.w.alloc (Ze #[] 161)).ownsRow q3.w.heap.size 161 2 (U (M ⟨q3.w.heap.size,0,J⟩) 0 0) 0 []):=World.ownsRow_made q3.w #[] 0 (Ye _) (YJ _) aF;have hik:(k:Int)<=cap:=af
 have Γ:k<=cap:=af
 exact Yb ρ (Yb hik Γ)):p:=h
theorem O5(h:p:=by
 have HB:=G ((aj w (Ze #[I x.n,I x.d] 161)).trans (HL.mono af));have Bx:=G ((HL.block w.heap.size af).trans (heap_alloc_new w (Ze #[I x.n,I x.d] 161)));exact Yb HB Bx):p:=h
theorem O1(h:p:=by
 have Bx:Hid (W.heap[w.heap.size+1]?=M (Ze #[I x.n,I x.d] 161 (0,0))):=by rw[θ];exact cL _ _ _
 have ZH:Hid (Below w.heap.size w W):=by rw[θ];exact aM _ _ _
 exact Yb Bx ZH):p:=h
theorem pV(h:p:=by
 have HB:=G (Yh w.heap.size w);obtain⟨i0,hi,ZO,η,ZP⟩:=info_parts eQ;have Y_:=G (Yb hi (Yb ZO (Yb η ZP)));exact atn):p:=h
theorem j6(h:p:=by
 have HLO:=G HB.size;refine (cZ ⟨a1,l1,y1,a2,l2,y2,a3,l3,y3,a4,l4,y4,a5,l5,y5⟩ c _ (HR.below HB.out) HT.sm).mono ?_
 exact apG):p:=h
theorem sK(h:p:=by
 go_wp2_with fail;refine (cI ⟨a1,l1,y1,a2,l2,y2,a3,l3,y3,a4,l4,y4,a5,l5,y5⟩ c _ (HR.below (HB.trans ((aM _ _ _).mono HB.size)))).mono ?_;rintro e w1 ⟨r,rfl,hi,hb⟩;exact att):p:=h
theorem mL(h:p:=by
 have HLO:=G HB.size;refine (cZ ⟨a1,l1,y1,a2,l2,y2,a3,l3,y3,a4,l4,y4,a5,l5,y5⟩ c _ (HR.below HB.out) HT.sm).mono ?_;exact aqv):p:=h
theorem cs2 {b:Nat} {v0 v1:Value} (h:w.heap[b]?=M (Ze #[v0,v1] T (0,0))):w.cell? ⟨b,0,J⟩=M v0/\w.cell? ⟨b,1,J⟩=M v1:=⟨al h 0,al h 1⟩
namespace Rc
theorem Bw.le {y:World} (h:Bw y W):y.heap.size<=W.heap.size:=Below.size h
structure Qd where
 n:ByteArray
 d:ByteArray
def qdF(x:Qd):List Fv:=[.s x.n,.s x.d]
theorem fV {b o:Nat} {x:Qd} (h:RAt w b o (qdF x)):x.n.size<=9223372036854775807/\x.d.size<=9223372036854775807/\w.cell? ⟨b,o,J⟩=M (I x.n)/\w.cell? ⟨b,o+1,J⟩=M (I x.d):=by
 obtain⟨v0,h0,rfl,z0⟩:=h 0 _ rfl;obtain⟨v1,h1,rfl,z1⟩:=h 1 _ rfl;exact⟨z0,z1,h0,h1⟩
theorem pg {len:Nat} {xs:List Qd} (h:aV w a len cap 2 (xs.map qdF)) {j:Nat} (hj:j<len):
  ∃b o x,a=M ⟨b,o,J⟩/\b<w.heap.size/\xs[j]?=M x/\RAt w b (o+j*2) (qdF x):=by
 exact pe
def dY(a b:Qd):Bool:=Yk a.n.toList b.n.toList || ((a.n.toList==b.n.toList) && Yk a.d.toList b.d.toList)
theorem lz {a b c:Qd} (h:dY a b=Zi) (k:dY b c=Zi):dY a c=Zi:=by
 unfold dY at h k ⊢;simp only[Bool.or_eq_true,YI] at h k ⊢;rcases h with h|⟨h1,h2⟩
 ·rcases k with k|⟨k1,k2⟩
  ·exact Zl (cK _ _ _ h k)
  ·rw[<-dy k1];exact Zl h
 ·rw[dy h1];rcases k with k|⟨k1,k2⟩
  ·exact Zl k
  ·exact Zk ⟨k1,cK _ _ _ h2 k2⟩
theorem vG(h:Yk x.toList t.toList=Zg) (hn:¬x=t):Yk t.toList x.toList=Zi:=by
 have h1:=ir x.toList t.toList;rw[h] at h1;have h2:(t.toList==x.toList)=Zg:=bu (λe=>hn e.symm);rw[h2] at h1;simpa using h1
theorem B_ {a b:Qd} (h:dY a b=Zg) (hn:¬a=b):dY b a=Zi:=by
 unfold dY at h ⊢;simp only[Bool.or_eq_false_iff,Bool.and_eq_false_iff] at h;simp only[Bool.or_eq_true,YI];by_cases e:a.n=b.n
 ·refine Zk ⟨aP e.symm,?_⟩;have h2:Yk a.d.toList b.d.toList=Zg:=h.2.resolve_left (λh3=>by rw[aP e] at h3;cases h3);exact vG h2 (λe2=>hn (by obtain⟨a1,a2⟩:=a;obtain⟨b1,b2⟩:=b;cases e;cases e2;rfl))
 ·exact Zl (vG h.1 e)
def RQ(zs:List Qd):Prop:=zs.Pairwise λa b=>dY a b=Zi
def oh(t:Qd) (zs ZB:List Qd):Prop:=(t∈zs/\ZB=zs)\/∃k,k<=zs.length/\ZB=zs.take k++[t]++zs.drop k/\(∀(j:Nat) y,j<k->zs[j]?=M y->dY y t=Zi)/\∀y,zs[k]?=M y->dY t y=Zi
theorem oh.mem {t:Qd} {zs ZB:List Qd} (h:oh t zs ZB) (s:Qd):s∈ZB↔s∈zs\/s=t:=by
 exact aii
theorem oh.len {t:Qd} {zs ZB:List Qd} (h:oh t zs ZB):ZB.length<=zs.length+1:=by
 exact QC
theorem oh.ris {t:Qd} {zs ZB:List Qd} (h:oh t zs ZB) (hr:RQ zs):RQ ZB:=by
 rcases h with ⟨_,rfl⟩|⟨k,hk,rfl,Zo,hgt⟩
 ·exact hr
 ·have h1:RQ (zs.take k++zs.drop k):=by rw[List.take_append_drop];exact hr
  obtain⟨h2,h3,h4⟩:=Y6.1 h1;have h5:∀a∈zs.take k,dY a t=Zi:=λa ha=>by
   exact Qw
  have h6:∀a∈zs.drop k,dY t a=Zi:=λa ha=>by
   cases hd:zs.drop k with
   | nil=>rw[hd] at ha;cases ha
   | cons b r=>
    have hb:zs[k]?=M b:=by rw[<-Nat.add_zero k,<-YN,hd];rfl
    have h7:=hgt b hb;rw[hd] at ha h3
    rcases YT.1 ha with rfl|ha
    ·exact h7
    ·exact lz h7 ((List.pairwise_cons.1 h3).1 a ha)
  refine Y6.2 ⟨Y6.2 ⟨h2,List.pairwise_singleton _ _,λa ha b hb=>?_⟩,h3,λa ha b hb=>?_⟩
  ·rw[List.mem_singleton.1 hb];exact h5 a ha
  ·rcases List.mem_append.1 ha with ha|ha
   ·exact lz (h5 a ha) (h6 b hb)
   ·rw[List.mem_singleton.1 ha];exact h6 b hb
theorem alp:(Tryz.prog.info? 161).map (λi=>(i.zero,i.size,i.bytes))=M (M (Zj #[I ⟨#[]⟩,I ⟨#[]⟩]),2,32):=by kernel_rfl
theorem wE(a b:Qd) (w:World):
  Calls Tryz.prog 194 #[Zj #[I a.n,I a.d],Zj #[I b.n,I b.d]] w λe w'=>e=Zh (Zf (dY a b))/\Below w.heap.size w w':=by
 obtain⟨r,hr⟩:∃r,r=dY a b:=⟨_,rfl⟩;rw[<-hr];have hr2:(Yk a.n.toList b.n.toList=Zi/\r=Zi)\/(Yk a.n.toList b.n.toList=Zg/\(a.n.toList==b.n.toList)=Zg/\r=Zg)\/(Yk a.n.toList b.n.toList=Zg/\(a.n.toList==b.n.toList)=Zi/\Yk a.d.toList b.d.toList=r):=by
  unfold dY at hr;cases h1:Yk a.n.toList b.n.toList
  ·cases h2:(a.n.toList==b.n.toList)
   ·rw[h1,h2] at hr;exact Zk (Zl ⟨rfl,rfl,hr⟩)
   ·rw[h1,h2] at hr;exact Zk (Zk ⟨rfl,rfl,by rw[hr];simp⟩)
  ·rw[h1] at hr;exact Zl ⟨rfl,hr⟩
 clear hr;rcases hr2 with ⟨h1,rfl⟩|⟨h1,h2,rfl⟩|⟨h1,h2,h3⟩;all_goals (
  go_enter Tryz.func194,Tryz.ntmps194
  go_wp2
  go_ret
  first|exact⟨rfl,aM _ _ _⟩|exact⟨by rw[h3],aM _ _ _⟩)
theorem eqQ(a b c d:ByteArray) (w:World):(Op.equalIn 10000 161 (Zj #[I a,I b]) (Zj #[I c,I d])).run Tryz.prog w=.ok ((a.toList==c.toList) && (b.toList==d.toList)) w:=by
 have u3:=Tryz.underlying9;have hS:Tryz.prog.underlying 161=M (.struct (Tryz.prog.fieldsOf 161)):=aW
 have hp:Tryz.prog.stoodInHeld 161=Zg:=aW
 rw[show (10000:Nat)=9999+1 from rfl,run_equalIn_agg w 9999 161 _ _ hS hp];simp only[Program.fieldsOf,Tryz.underlying161];go_simp;by_cases h1:a.toList=c.toList
 ·by_cases h2:b.toList=d.toList <;> simp[h1,h2]
 ·simp[h1]
theorem ala {w4:World} {v4:Value} {base n:Nat} {xs:List Qd} {x:Qd} {vss:List (List Value)} {Q:Nat->Prop} (hV:aR w Q 2 (xs.map qdF) vss H) (Z4:xs.length=n) (hjn:j<=n) (hB4:Below w.heap.size w w4) (hx1:x.n.size<=9223372036854775807) (hx2:x.d.size<=9223372036854775807) (hQ:∀k,base<=k->Q k)
  (ho4:w4.ownsRow base 161 2 v4 (n+1) (aQ j [I x.n,I x.d] vss).flatten):∃a' c',v4=U a' (n+1) c'/\av w4 a' (n+1) c' 2 161 ((aQ j x xs).map qdF) Q:=by
 obtain⟨H4,hV5⟩:=(hV.below hB4).ins (p:=j) (r:=qdF x) (vs:=[I x.n,I x.d]) (hh:=λ_=>0) rfl rfl (λi f hf=>by
  rcases i with _|_|i <;> simp[qdF] at hf <;> subst hf
  ·exact⟨_,rfl,rfl,hx1⟩
  ·exact⟨_,rfl,rfl,hx2⟩) (λi zs h hz=>by rcases i with _|_|i <;> simp[qdF] at h) (λi i2 zs zs2 h=>by rcases i with _|_|i <;> simp[qdF] at h) oT
 have h45:aR w4 Q 2 ((aQ j x xs).map qdF) (aQ j [I x.n,I x.d] vss) H4:=by rw[fj];exact hV5
 have hle:((aQ j x xs).map qdF).length=n+1:=by rw[Yq,di af,Z4]
 obtain⟨a',c',e,hR⟩:=h45.own ho4 hle.symm ag (λg hg=>hQ g (ho4.lt g hg).1);rw[hle] at e hR;exact⟨a',c',e,hR⟩
theorem oM(a b:Qd) (w:World) (r:Bool) (h:dY a b=r):Calls Tryz.prog 194 #[Zj #[I a.n,I a.d],Zj #[I b.n,I b.d]] w λe w'=>e=Zh (Zf r)/\Below w.heap.size w w':=by
 rw[<-h];exact wE a b w
def ahg(t:Qd) (zs:List Qd) (B:Nat) (w:World) (e:Ending) (w':World):Prop:=∃a' l' c' ZB,e=Zh (U a' l' c')/\av w' a' l' c' 2 161 (ZB.map qdF) (λk=>B<=k)/\oh t zs ZB/\Below w.heap.size w w'
theorem oK(a:Option Addr) (len cap:Nat) (zs:List Qd) (x:Qd) (B:Nat) (w:World) (ho:av w a len cap 2 161 (zs.map qdF) (λk=>B<=k)) (hB:B<=w.heap.size) (hl:len<=64) (hx1:x.n.size<=9223372036854775807) (hx2:x.d.size<=9223372036854775807):
  Calls Tryz.prog 176 #[U a len cap,Zj #[I x.n,I x.d]] w (ahg x zs B w):=by
 have hll:zs.length=len:=oQ
 have hlc:=ho.2.1;have hcm:=ho.2.2.1;have HR:=G ho.row;have atg:=G ho;obtain⟨vss,H,hV,hcell⟩:=ho.jK;have hvl:vss.length=len:=by rw[hV.len,Yq,hll]
 have HC:Hid (∀(j:Nat) u,vss.flatten[j]?=M u->∃b,a=M ⟨b,0,J⟩/\w.cell? ⟨b,j,J⟩=M u):=λj u hj=>by
  obtain⟨b,e,_,h3⟩:=hcell j u hj;exact⟨b,e,h3⟩
 have HVA:=G hV.all;have HV1:=G hV.one;have aoc:Hid (∀(w4:World) v4 base k,k<=len->w.heap.size<=base->Below w.heap.size w w4->w4.ownsRow base 161 2 v4 (len+1) (aQ k [I x.n,I x.d] vss).flatten->∃a' c',v4=U a' (len+1) c'/\av w4 a' (len+1) c' 2 161 ((aQ k x zs).map qdF) (λk=>B<=k)):=λw4 v4 base k hk hbs hB4 ho4=>ala hV hll hk hB4 hx1 hx2 (λk hk=>by omega) ho4;obtain⟨i5,anX,ZO,η,ZP⟩:=info_parts alp;have Y_:=G (Yb anX (Yb ZO (Yb η ZP)));clear anX ZO η ZP hV hcell ho;go_enter Tryz.func176,Tryz.ntmps176;go_wp2;go_loopw [5] (λvi wr=> ∃k:Nat,k<=len/\vi=V O k/\Hid (∀(j:Nat) y,j<k->zs[j]?=M y->dY y x=Zi)/\Hid (Below (w.heap.size+1) (w.alloc (Ze #[I x.n,I x.d] 161)) wr)) (λvi _=>len - (intOf vi).toNat);case atStart=>exact⟨0,by omega,rfl,λj y hj=>by omega,Yh _ _⟩
 case round=>
  obtain⟨k,hk,rfl,HE,HL⟩:=hrel;have hLs:w.heap.size+1<=wr.heap.size:=by have:=HL.size;simpa using this
  obtain⟨HB,Bx⟩:=O5;by_cases Zo:k<len
  ·obtain⟨b,o,y,rfl,hb,hx,Zc⟩:=pg (HR.below HB.out) Zo;obtain⟨-,-,hc0,hc1⟩:=fV Zc;have HXy:=G hx;have δ:=hb;have Zv:=G hc0;have μ:=G hc1;have ZH:=G δ;have Ο:(k:Int)<len:=af
   have hk2:decide ((k:Int)<len)=Zi:=by simp;omega
   clear hb Zc hx;cases Zz:dY y x
   ·have HLS:=G Zz;clear Zz;have Gx:=Bx;have HW:=HB;obtain⟨x0,x1⟩:=sl2 Gx;have yn:=λq:Wd wr=>(q.cell δ).trans hc0;have yd:=λq:Wd wr=>(q.cell δ).trans hc1;have hne0:=Wd.ne wr
    have Zv:=G (λq:Wd wr=>oM y x q.w Zg HLS.out)
    go_wp2_with fail;refine cA aW aW ?_
    repeat (go_big_quiet_step (first|(go_at_call 194;exact Calls.wide (Zv.out _))|fail))
    refine wpQuiet_nil ?_;rintro _ ⟨q2,rfl⟩;have ZW:=upB HW q2.b;have Cx:=upK Gx q2.b;clear hne0 HW HB Zv x0 x1 yn yd Gx Bx hc0 hc1 δ;have HB:=ZW;have Bx:=Cx
    have δ:=Yl ZH.out q2.b.size;have hc0:=(q2.cell ZH.out).trans Zv.out;have hc1:=(q2.cell ZH.out).trans μ.out;by_cases he:y=x
    ·have HP:Hid (oh x zs zs):=Zl ⟨he ▸ Yv HXy.out,rfl⟩;have hq1:(y.n.toList==x.n.toList)=Zi:=aP (by rw[he]);have Τ:(y.d.toList==x.d.toList)=Zi:=aP (by rw[he]);clear he;have hqe:∀W:World,(Op.equalIn 10000 161 (Zj #[I y.n,I y.d]) (Zj #[I x.n,I x.d])).run Tryz.prog W=.ok Zi W:=λW=>by rw[eqQ,hq1,Τ];rfl
     have Gx:=Bx;have HW:=HB;obtain⟨x0,x1⟩:=sl2 Gx;have yn:=λq:Wd q2.w=>(q.cell δ).trans hc0;have yd:=λq:Wd q2.w=>(q.cell δ).trans hc1;have hne0:=Wd.ne q2.w
     go_wp2_with fail
     refine cA aW aW ?_;repeat (go_big_quiet_step (first|fail))
     refine wpQuiet_nil ?_
     rintro _ ⟨q3,rfl⟩;have ZX:=upB HW q3.b;have Cx:=upK Gx q3.b;clear hne0 HW HB x0 x1 yn yd Gx Bx hc0 hc1 δ hqe;have HB:=ZX;have Bx:=Cx;go_wp2;go_ret;exact⟨_,_,_,_,rfl,atg.below HB.out,HP.out,HB.out⟩
    have HP:Hid (oh x zs (aQ k x zs)):=Zk ⟨k,by omega,rfl,HE.out,λz hz=>by rw[HXy.out] at hz;cases hz;exact B_ HLS.out he⟩;have hq1:((y.n.toList==x.n.toList) && (y.d.toList==x.d.toList))=Zg:=by
     cases h1:(y.n.toList==x.n.toList)
     ·rfl
     ·cases h2:(y.d.toList==x.d.toList)
      ·rfl
      ·exact absurd ahC he
    have hqe:∀W:World,(Op.equalIn 10000 161 (Zj #[I y.n,I y.d]) (Zj #[I x.n,I x.d])).run Tryz.prog W=.ok Zg W:=λW=>by rw[eqQ,hq1]
    clear he
    have Gx:=Bx;have HW:=HB;obtain⟨x0,x1⟩:=sl2 Gx;have yn:=λq:Wd q2.w=>(q.cell δ).trans hc0;have yd:=λq:Wd q2.w=>(q.cell δ).trans hc1;have hne0:=Wd.ne q2.w
    go_wp2_with fail
    refine cA aW aW ?_;repeat (go_big_quiet_step (first|fail))
    refine wpQuiet_nil ?_
    rintro _ ⟨q3,rfl⟩;have ZX:=upB HW q3.b;have Cx:=upK Gx q3.b;clear hne0 HW HB x0 x1 yn yd Gx Bx hc0 hc1 δ hqe;have HB:=ZX;have Bx:=Cx;clear hq1;have HCQ:Hid (∀(j:Nat) u,vss.flatten[j]?=M u->∃b9,(M ⟨b,o,J⟩:Option Addr)=M ⟨b9,0,J⟩/\b9<q3.w.heap.size/\q3.w.cell? ⟨b9,j,J⟩=M u):=λj u hj=>by
     exact A0
    obtain⟨ρ,hik,Γ⟩:=ahE;have ZZ:¬cap=k:=af
    all_goals (
     go_wp2_with (first|(at_builtin;refine aq rfl _ _ 158 rfl q3.w.heap.size 161 i5 (Zj #[I ⟨#[]⟩,I ⟨#[]⟩]) 2 32 Tryz.underlying158 Y_.1 Y_.2.1 Y_.2.2.1 Y_.2.2.2 rfl ag _ _ _ rfl (ρ.out) _ k _ (vss.take k).flatten rfl (bA HVA.out af) (λj u hu=>by obtain⟨g,e,ZM,h3⟩:=HCQ.out _ _ (cH hu);cases e <;> exact⟨_,rfl,by simp only[Ym,Yp];exact (ah (aj q3.w _) ZM).trans h3⟩) (aD HV1.out k).1 br af aF ?_))
     intro v5 w5 aa ZF
     replace aa:w5.ownsRow q3.w.heap.size 161 2 v5 k (vss.take k).flatten:=eg
     have ZI:=(aj q3.w (Ze #[] 161)).grown ZF aF (λg hg=>by simp[YK] at hg;omega);obtain⟨s1,s2,s3,rfl⟩:=az aa;have Β:=G aa;have H5:=G ZI;have hs6:=ZI.size;have Bx5:=upK Bx ZI;obtain⟨x0,x1⟩:=cs2 Bx5;clear aa ZF ZI
     go_wp2_with (first|(at_builtin;refine aq rfl _ _ 158 rfl q3.w.heap.size 161 i5 (Zj #[I ⟨#[]⟩,I ⟨#[]⟩]) 2 32 Tryz.underlying158 Y_.1 Y_.2.1 Y_.2.2.1 Y_.2.2.2 rfl ag _ _ _ rfl (Β.alloc _) _ 1 _ [I x.n,I x.d] rfl rfl (λj u hu=>⟨_,rfl,by rw[Ym,Yp,al (heap_alloc_new w5 _)];simpa using hu⟩) dx br af bg ?_))
     intro v6 w6 Zt ZJ;have ZA:=(H5.alloc H5.size _).grown ZJ bg (λg hg=>(Β.lt g hg).1);obtain⟨r1,r2,r3,rfl⟩:=az Zt;have Η:=G Zt;have H6:=G ZA;have hs7:=ZA.size;clear Zt ZJ ZA x0 x1
     go_wp2_with (first|(at_builtin;refine aq rfl _ _ 158 rfl q3.w.heap.size 161 i5 (Zj #[I ⟨#[]⟩,I ⟨#[]⟩]) 2 32 Tryz.underlying158 Y_.1 Y_.2.1 Y_.2.2.1 Y_.2.2.2 rfl ag _ _ _ rfl (Η.out) _ (len - k) _ (vss.drop k).flatten rfl ka (λj u hu=>by first|(rw[Yw af] at hu;simp at hu;done)|(obtain⟨g,e,ZM,h3⟩:=HCQ.out _ _ (cS HVA.out af hu);cases e <;> exact⟨_,rfl,by simp only[Ym,Yp];exact (ah H6.out ZM).trans h3⟩)) (aD HV1.out k).2 br af af ?_))
     intro v7 w7 Zb ZK;have Z0:=H6.grown ZK af (λg hg=>(Η.lt g hg).1)
     replace Zb:w7.ownsRow q3.w.heap.size 161 2 v7 (len+1) (aQ k [I x.n,I x.d] vss).flatten:=by
      have e9:k+1+(len - k)=len+1:=af
      try rw[e9] at Zb
      simpa[aQ] using Zb
     have HB7:=upB HB Z0;obtain⟨a',c',rfl,hR⟩:=aoc.out w7 v7 q3.w.heap.size k af HB.size HB7.out Zb;have HR7:=G hR;clear Zb ZK Z0 hR hik Γ ZZ
     go_wp2
     go_ret
     exact⟨a',_,c',_,rfl,HR7.out,HP.out,HB7.out⟩)
   ·have HLS:=G Zz;clear Zz;have Gx:=Bx;have HW:=HB;obtain⟨x0,x1⟩:=sl2 Gx;have yn:=λq:Wd wr=>(q.cell δ).trans hc0;have yd:=λq:Wd wr=>(q.cell δ).trans hc1;have hne0:=Wd.ne wr
    have Zv:=G (λq:Wd wr=>oM y x q.w Zi HLS.out)
    go_wp2_with fail;refine cA aW aW ?_
    repeat (go_big_quiet_step (first|(go_at_call 194;exact Calls.wide (Zv.out _))|fail))
    refine wpQuiet_nil ?_;rintro _ ⟨q2,rfl⟩;have ZW:=upB HW q2.b;have Cx:=upK Gx q2.b;clear hne0 HW HB Zv x0 x1 yn yd Gx Bx hc0 hc1 δ;have HB:=ZW;have Bx:=Cx
    go_wp2;refine⟨⟨k+1,by omega,by go_num,λj z hj hz=>?_,HL.trans (q2.b.mono af)⟩,by simp[intOf];omega⟩;by_cases e:j=k
    ·subst e;rw[HXy.out] at hz;obtain rfl:=Yd hz;exact HLS.out
    ·exact HE.out j z af hz
  ·have Ο:¬(k:Int)<len:=af
   have hk2:decide ((k:Int)<len)=Zg:=by simp;omega
   have HP:Hid (oh x zs (aQ k x zs)):=Zk ⟨k,by omega,rfl,HE.out,λz hz=>by have:=(Yc.1 hz).1;omega⟩;have Gx:=Bx;have HW:=HB;have x0:=λq:Wd wr=>q.slot (o:=0) Gx.out rfl;have x1:=λq:Wd wr=>q.slot (o:=1) Gx.out rfl;have hne0:=Wd.ne wr
   go_wp2_with fail
   refine cA aW aW ?_;repeat (go_big_quiet_step (first|fail))
   refine wpQuiet_nil ?_
   rintro _ ⟨q2,rfl⟩;have ZW:=upB HW q2.b;have Cx:=upK Gx q2.b;clear hne0 HW HB x0 x1 Gx Bx;have HB:=ZW;have Bx:=Cx;have Gx:=Bx;have HW:=HB;obtain⟨x0,x1⟩:=sl2 Gx;have hne0:=Wd.ne q2.w;go_wp2_with fail
   refine cA aW aW ?_;repeat (go_big_quiet_step (first|fail))
   refine wpQuiet_nil ?_
   rintro _ ⟨q3,rfl⟩;have ZX:=upB HW q3.b;have Cx:=upK Gx q3.b;clear hne0 HW HB x0 x1 Gx Bx;have HB:=ZX;have Bx:=Cx;have HCQ:Hid (∀(j:Nat) u,vss.flatten[j]?=M u->∃b9,a=M ⟨b9,0,J⟩/\b9<q3.w.heap.size/\q3.w.cell? ⟨b9,j,J⟩=M u):=λj u hj=>by
    exact A0
   obtain⟨ρ,hik,Γ⟩:=ahE;rcases a with _|⟨b2,f2,sp⟩
   ·have hl0:len=0:=Classical.byContradiction λhne0=>by
     exact A3
    obtain rfl:k=0:=af
    subst hl0;by_cases ZZ:cap=0;all_goals (
     go_wp2_with (first|(at_builtin;refine aq rfl _ _ 158 rfl q3.w.heap.size 161 i5 (Zj #[I ⟨#[]⟩,I ⟨#[]⟩]) 2 32 Tryz.underlying158 Y_.1 Y_.2.1 Y_.2.2.1 Y_.2.2.2 rfl ag _ _ _ rfl (ρ.out) _ 0 _ (vss.take 0).flatten rfl (bA HVA.out af) (λj u hu=>by obtain⟨g,e,ZM,h3⟩:=HCQ.out _ _ (cH hu);cases e <;> exact⟨_,rfl,by simp only[Ym,Yp];exact (ah (aj q3.w _) ZM).trans h3⟩) (aD HV1.out 0).1 br af aF ?_))
     intro v5 w5 aa ZF
     replace aa:w5.ownsRow q3.w.heap.size 161 2 v5 0 (vss.take 0).flatten:=eg
     have ZI:=(aj q3.w (Ze #[] 161)).grown ZF aF (λg hg=>by simp[YK] at hg;omega);obtain⟨s1,s2,s3,rfl⟩:=az aa;have Β:=G aa;have H5:=G ZI;have hs6:=ZI.size;have Bx5:=upK Bx ZI;obtain⟨x0,x1⟩:=cs2 Bx5;clear aa ZF ZI
     go_wp2_with (first|(at_builtin;refine aq rfl _ _ 158 rfl q3.w.heap.size 161 i5 (Zj #[I ⟨#[]⟩,I ⟨#[]⟩]) 2 32 Tryz.underlying158 Y_.1 Y_.2.1 Y_.2.2.1 Y_.2.2.2 rfl ag _ _ _ rfl (Β.alloc _) _ 1 _ [I x.n,I x.d] rfl rfl (λj u hu=>⟨_,rfl,by rw[Ym,Yp,al (heap_alloc_new w5 _)];simpa using hu⟩) dx br af bg ?_))
     intro v6 w6 Zt ZJ;have ZA:=(H5.alloc H5.size _).grown ZJ bg (λg hg=>(Β.lt g hg).1);obtain⟨r1,r2,r3,rfl⟩:=az Zt;have Η:=G Zt;have H6:=G ZA;have hs7:=ZA.size;clear Zt ZJ ZA x0 x1
     go_wp2_with (first|(at_builtin;refine aq rfl _ _ 158 rfl q3.w.heap.size 161 i5 (Zj #[I ⟨#[]⟩,I ⟨#[]⟩]) 2 32 Tryz.underlying158 Y_.1 Y_.2.1 Y_.2.2.1 Y_.2.2.2 rfl ag _ _ _ rfl (Η.out) _ (0 - 0) _ (vss.drop 0).flatten rfl ka (λj u hu=>by first|(rw[Yw af] at hu;simp at hu;done)|(obtain⟨g,e,ZM,h3⟩:=HCQ.out _ _ (cS HVA.out af hu);cases e <;> exact⟨_,rfl,by simp only[Ym,Yp];exact (ah H6.out ZM).trans h3⟩)) (aD HV1.out 0).2 br af af ?_))
     intro v7 w7 Zb ZK;have Z0:=H6.grown ZK af (λg hg=>(Η.lt g hg).1)
     replace Zb:w7.ownsRow q3.w.heap.size 161 2 v7 (0+1) (aQ 0 [I x.n,I x.d] vss).flatten:=by
      have e9:0+1+(0 - 0)=0+1:=af
      try rw[e9] at Zb
      simpa[aQ] using Zb
     have HB7:=upB HB Z0;obtain⟨a',c',rfl,hR⟩:=aoc.out w7 v7 q3.w.heap.size 0 af HB.size HB7.out Zb;have HR7:=G hR;clear Zb ZK Z0 hR hik Γ ZZ
     go_wp2
     go_ret
     exact⟨a',_,c',_,rfl,HR7.out,HP.out,HB7.out⟩)
   by_cases ZZ:cap=k;all_goals (
    go_wp2_with (first|(at_builtin;refine aq rfl _ _ 158 rfl q3.w.heap.size 161 i5 (Zj #[I ⟨#[]⟩,I ⟨#[]⟩]) 2 32 Tryz.underlying158 Y_.1 Y_.2.1 Y_.2.2.1 Y_.2.2.2 rfl ag _ _ _ rfl (ρ.out) _ k _ (vss.take k).flatten rfl (bA HVA.out af) (λj u hu=>by obtain⟨g,e,ZM,h3⟩:=HCQ.out _ _ (cH hu);cases e <;> exact⟨_,rfl,by simp only[Ym,Yp];exact (ah (aj q3.w _) ZM).trans h3⟩) (aD HV1.out k).1 br af aF ?_))
    intro v5 w5 aa ZF
    replace aa:w5.ownsRow q3.w.heap.size 161 2 v5 k (vss.take k).flatten:=eg
    have ZI:=(aj q3.w (Ze #[] 161)).grown ZF aF (λg hg=>by simp[YK] at hg;omega);obtain⟨s1,s2,s3,rfl⟩:=az aa;have Β:=G aa;have H5:=G ZI;have hs6:=ZI.size;have Bx5:=upK Bx ZI;obtain⟨x0,x1⟩:=cs2 Bx5;clear aa ZF ZI
    go_wp2_with (first|(at_builtin;refine aq rfl _ _ 158 rfl q3.w.heap.size 161 i5 (Zj #[I ⟨#[]⟩,I ⟨#[]⟩]) 2 32 Tryz.underlying158 Y_.1 Y_.2.1 Y_.2.2.1 Y_.2.2.2 rfl ag _ _ _ rfl (Β.alloc _) _ 1 _ [I x.n,I x.d] rfl rfl (λj u hu=>⟨_,rfl,by rw[Ym,Yp,al (heap_alloc_new w5 _)];simpa using hu⟩) dx br af bg ?_))
    intro v6 w6 Zt ZJ;have ZA:=(H5.alloc H5.size _).grown ZJ bg (λg hg=>(Β.lt g hg).1);obtain⟨r1,r2,r3,rfl⟩:=az Zt;have Η:=G Zt;have H6:=G ZA;have hs7:=ZA.size;clear Zt ZJ ZA x0 x1
    go_wp2_with (first|(at_builtin;refine aq rfl _ _ 158 rfl q3.w.heap.size 161 i5 (Zj #[I ⟨#[]⟩,I ⟨#[]⟩]) 2 32 Tryz.underlying158 Y_.1 Y_.2.1 Y_.2.2.1 Y_.2.2.2 rfl ag _ _ _ rfl (Η.out) _ (len - k) _ (vss.drop k).flatten rfl ka (λj u hu=>by first|(rw[Yw af] at hu;simp at hu;done)|(obtain⟨g,e,ZM,h3⟩:=HCQ.out _ _ (cS HVA.out af hu);cases e <;> exact⟨_,rfl,by simp only[Ym,Yp];exact (ah H6.out ZM).trans h3⟩)) (aD HV1.out k).2 br af af ?_))
    intro v7 w7 Zb ZK;have Z0:=H6.grown ZK af (λg hg=>(Η.lt g hg).1)
    replace Zb:w7.ownsRow q3.w.heap.size 161 2 v7 (len+1) (aQ k [I x.n,I x.d] vss).flatten:=by
     have e9:k+1+(len - k)=len+1:=af
     try rw[e9] at Zb
     simpa[aQ] using Zb
    have HB7:=upB HB Z0;obtain⟨a',c',rfl,hR⟩:=aoc.out w7 v7 q3.w.heap.size k af HB.size HB7.out Zb;have HR7:=G hR;clear Zb ZK Z0 hR hik Γ ZZ
    go_wp2
    go_ret
    exact⟨a',_,c',_,rfl,HR7.out,HP.out,HB7.out⟩)
def Wn(c:Cl) (k:Nat) (q:Qd):Prop:=∃(j:Nat) (p:Pd),j<k/\c.ps[j]?=M p/\¬p.d=⟨#[]⟩/\∃(i:Nat) (t:ByteArray) (v:Vd),p.zs[i]?=M t/\aX c t v/\q=⟨v.n,p.d⟩
def Wc(c:Cl) (p:Pd) (k:Nat) (q:Qd):Prop:=∃(i:Nat) (t:ByteArray) (v:Vd),i<k/\p.zs[i]?=M t/\aX c t v/\q=⟨v.n,p.d⟩
def alx(c:Cl) (B:Nat) (w:World) (e:Ending) (w':World):Prop:=∃a' l' c' ZB,e=Zh (U a' l' c')/\av w' a' l' c' 2 161 (ZB.map qdF) (λk=>B<=k)/\RQ ZB/\(∀q,q∈ZB↔Wn c c.ps.length q)/\ZB.length<=24/\Below w.heap.size w w'
def PqF(t:Qd) (zs:List Qd) (B:Nat):Fact:=λv w=> ∃a' l' c' ZB,v=U a' l' c'/\av w a' l' c' 2 161 (ZB.map qdF) (λk=>B<=k)/\oh t zs ZB
theorem PqF.mono {t:Qd} {zs:List Qd} :Fact.bT (PqF t zs B):=by
 rintro v w w' ⟨a',l',c',ZB,h1,h2,h3⟩ hb;exact⟨a',l',c',ZB,h1,h2.below hb,h3⟩
theorem aX.aiJ {v':Vd} (hx:aH Xd.n c.xs) (h:aX c t v) (h':aX c t v'):v.n=v'.n:=by
 exact Qy
theorem wI(d:Ad) (c:Cl) (t:ByteArray) (w:World) (hr:aA w d c.raw) (hT:au c) {j:Nat} {v:Vd} (hv:c.vs[j]?=M v) (hb:aX c t v):
  Calls Tryz.prog 37 #[Zj (Zs d c.now),I t] w λe w'=>e=Zh (V O j)/\Below w.heap.size w w':=by
 unfold Zs;refine (iF d c t w hr hT.2.1.2.2.2.1.2.2 hT.2.1.2.2.1.2.2 (λj v hv e=>by have h9:=(hT.2.1.2.2.1.2.1 j v hv).1;rw[e] at h9;have h8:=h9.1;revert h8;decide)).mono ?_
 rintro e w' ⟨ZG,⟨j',v',h1,h2,rfl⟩|⟨ε,rfl⟩⟩
 ·obtain⟨rfl,_⟩:=hT.2.1.2.2.1.2.2.inj h1 hv (h2.aiJ hT.2.1.2.2.2.1.2.2 hb);exact⟨rfl,ZG⟩
 ·exact absurd hb (ε v)
theorem Wc.step {p:Pd} {q:Qd} (hx:aH Xd.n c.xs) (ht:p.zs[k]?=M t) (hb:aX c t v):Wc c p (k+1) q↔Wc c p k q\/q=⟨v.n,p.d⟩:=by
 constructor
 ·rintro⟨i,t',v',h1,h2,h3,rfl⟩;by_cases e:i=k
  ·subst e;rw[ht] at h2;obtain rfl:=Yd h2;exact Zk (by rw[h3.aiJ hx hb])
  ·exact Zl ⟨i,t',v',by omega,h2,h3,rfl⟩
 ·rintro (⟨i,t',v',h1,h2,h3,rfl⟩|rfl)
  ·exact⟨i,t',v',by omega,h2,h3,rfl⟩
  ·exact⟨k,t,v,by omega,ht,hb,rfl⟩
theorem Wn.yes {p:Pd} {q:Qd} (hp:c.ps[k]?=M p) (hd:¬p.d=⟨#[]⟩):Wn c (k+1) q↔Wn c k q\/Wc c p p.zs.length q:=by
 constructor
 ·rintro⟨j,p',h1,h2,h3,i,t,v,h4,h5,h6⟩;by_cases e:j=k
  ·subst e;rw[hp] at h2;obtain rfl:=Yd h2;exact Zk ⟨i,t,v,(Yc.1 h4).1,h4,h5,h6⟩
  ·exact Zl ⟨j,p',by omega,h2,h3,i,t,v,h4,h5,h6⟩
 ·rintro (⟨j,p',h1,h2,h3,h4⟩|⟨i,t,v,_,h4,h5,h6⟩)
  ·exact⟨j,p',by omega,h2,h3,h4⟩
  ·exact⟨k,p,by omega,hp,hd,i,t,v,h4,h5,h6⟩
theorem Wn.no {p:Pd} {q:Qd} (hp:c.ps[k]?=M p) (hd:p.d=⟨#[]⟩):Wn c (k+1) q↔Wn c k q:=by
 constructor
 ·rintro⟨j,p',h1,h2,h3,h4⟩;by_cases e:j=k
  ·subst e;rw[hp] at h2;obtain rfl:=Yd h2;exact absurd hd h3
  ·exact⟨j,p',by omega,h2,h3,h4⟩
 ·rintro⟨j,p',h1,h2,h3,h4⟩;exact⟨j,p',by omega,h2,h3,h4⟩
theorem my(d:Ad) (c:Cl) (w:World) (hr:aA w d c.raw) (hT:au c):
  Calls Tryz.prog 132 #[Zj (Zs d c.now)] w (alx c (w.heap.size+1) w):=by
 unfold Zs;obtain⟨a1,l1,y1,a2,l2,y2,a3,l3,y3,a4,l4,y4,a5,l5,y5⟩:=d;dsimp only
 obtain⟨HR,hl3⟩:=wU;obtain⟨hl5,hm5⟩:=lK;clear hr;have HT:=G hT;clear hT;have h58:c.ps.length<=8:=by have:=HT.sm.p;omega
 go_enter Tryz.func132,Tryz.ntmps132;go_wp2;go_loopw [3,4] (λvo vi wr=> ∃(k:Nat) (ca:Option Addr) (cl cc:Nat) (ys:List Qd),k<=l5/\vi=V O k/\vo=U ca cl cc/\Hid (av wr ca cl cc 2 161 (ys.map qdF) (λj=>w.heap.size+1<=j)/\RQ ys/\(∀q,q∈ys↔Wn c k q)/\ys.length<=3*k)/\Hid (Below (w.heap.size+1) (w.alloc (Ze #[U a1 l1 y1,U a2 l2 y2,U a3 l3 y3,U a4 l4 y4,U a5 l5 y5,V O c.now] 29)) wr)) (λ_ vi _=>l5 - (intOf vi).toNat);case atStart=>exact⟨0,_,0,0,[],by omega,rfl,rfl,⟨⟨rfl,Ye _,by omega,Zl rfl⟩,List.Pairwise.nil,λq=>⟨λh=>by simp at h,λ⟨j,p,h,_⟩=>by omega⟩,by simp⟩,by first|exact Yh _ _|exact (aj _ _).mono aF⟩
 case round=>
  obtain⟨k,ca,cl,cc,ys,hk,rfl,rfl,HQ,HL⟩:=hrel;obtain⟨Bk,HB⟩:=ahH;have hLs:w.heap.size+1<=wr.heap.size:=by have h8:=HL.size;rw[cW] at h8;exact h8
  by_cases Zo:k<l5
  ·obtain⟨b,o,x,rfl,hb,hx,Zc⟩:=db (HR.p.below HB.out) Zo;obtain⟨va,vl,vc,Zx,z0,z2,z4,c0,c1,c2,c3,c4,c5⟩:=bK Zc;have HXx:=G hx;have HTx:=G Zx
   have apw:=G z4;clear Zc hx z0 z2 z4 Zx;have δ:=hb;clear hb;have Ο:(k:Int)<l5:=af
   obtain⟨W1,hW1⟩:∃W1,W1=wr:=⟨_,rfl⟩;subst hW1;have hxz:=HTx.1;have hv3:vl<=3:=by have h9:(x.zs.length:Int)<=3:=(HT.2.1.2.2.2.2.2.1 k x HXx.out).2.2.2.1.1;omega
   obtain⟨k0,k1,k2,k3,k4,k5⟩:=cs6 Bk;go_wp2;clear k0 k1 k2 k3 k4 k5;clear c0 c1 c2 c3 c4 c5 δ;go_loopw [3,6] (λvo vi wr=> ∃(n:Nat) (ca:Option Addr) (cl cc:Nat) (ys:List Qd),n<=vl/\(x.d=⟨#[]⟩->n=0)/\vi=V O n/\vo=U ca cl cc/\Hid (av wr ca cl cc 2 161 (ys.map qdF) (λj=>w.heap.size+1<=j)/\RQ ys/\(∀q,q∈ys↔Wn c k q\/Wc c x n q)/\ys.length<=3*k+n)/\Hid (Below (W1.heap.size+1) (W1.alloc (Ze #[I x.n,V O x.c,I x.z,U va vl vc,I x.d,V O x.p] 102)) wr)) (λ_ vi _=>vl - (intOf vi).toNat);case atStart=>exact⟨0,_,_,_,ys,by omega,λ_=>rfl,rfl,rfl,⟨HQ.1.below (aj _ _),HQ.2.1,λq=>by rw[HQ.2.2.1];exact⟨Zl,λh=>h.elim id (λ⟨i,t,v,h,_⟩=>by omega)⟩,by have:=HQ.2.2.2;omega⟩,Yh _ _⟩
   case round=>
    clear HQ;obtain⟨n,ca,cl,cc,ys,hn,hn0,rfl,rfl,HQ,HL2⟩:=hrel;have hbP:=(aj W1 (Ze (pov x va vl vc) 102)).trans (HL2.mono af);have Bp:=G ((HL2.block W1.heap.size af).trans (heap_alloc_new W1 (Ze (pov x va vl vc) 102)));replace Bk:=upK Bk hbP;replace HB:=upB HB hbP;have HBP:=G hbP;have hs2:=hbP.size;have hyl:ys.length=cl:=by have h9:(ys.map qdF).length=cl:=HQ.1.1;rw[Yq] at h9;exact h9
    have hyb:=HQ.2.2.2;clear hbP;by_cases he:x.d=⟨#[]⟩
    ·obtain rfl:=hn0 he;have hq:=cw he;have HHE:=G he;clear he;obtain⟨p0,p1,p2,p3,p4,p5⟩:=cs6 Bp;go_wp2;all_goals (
      refine⟨⟨k+1,ca,cl,cc,ys,by omega,by go_num,rfl,⟨HQ.1,HQ.2.1,λq=>?_,by omega⟩,HL.trans (HBP.mono af)⟩,by simp[intOf];omega⟩;rw[HQ.2.2.1,Wn.no HXx.out HHE.out]
      exact⟨λh=>h.elim id (λ⟨i,t,v,h,_⟩=>by omega),Zl⟩)
    have hq:=aU he;have HHE:=G he;clear he hn0;by_cases aob:n<vl
    ·have hk3:(n:Int)<vl:=af
     obtain⟨b2,o2,t,rfl,ZG,hx2,hc2,aq6⟩:=(HTx.below HBP.out).at aob;have HXT:=G hx2;obtain⟨v,ω⟩:∃v,aX c t v:=by
      obtain⟨i9,n9,_,_,_,h9⟩:=(HT.2.2.2.1.1 k x HXx.out).2.resolve_left HHE.out;obtain⟨v,hv,_⟩:=h9 n t hx2;exact⟨v,hv⟩
     obtain⟨i9,j,x9,h91,h92,hv,h94⟩:=ω;have ω:aX c t v:=⟨i9,j,x9,h91,h92,hv,h94⟩;have HVJ:=G hv;have HBD:=G ω;clear h91 h92 h94 ω hx2 aq6;have hj3:j<l3:=by have:=(Yc.1 hv).1;omega
     obtain⟨b3,o3,y,rfl,Zy,hy,Zc⟩:=bY (HR.v.below HB.out) hj3;rw[hv] at hy;obtain rfl:=Yd hy;obtain⟨ya,yl,yc,-,ZO,-,-,-,hc3,-,-,-,-,-,-,-⟩:=bm Zc;have HTC:=G (Yb ZG hc2);have HVC:=G (Yb Zy hc3);have HZ0:=G ZO;have HZD:Hid (x.d.size<=9223372036854775807):=apw.out;clear hv hy Zc ZG hc2 Zy hc3 ZO
     obtain⟨k0,k1,k2,k3,k4,k5⟩:=cs6 Bk;obtain⟨p0,p1,p2,p3,p4,p5⟩:=cs6 Bp
     go_wp2_with fail;clear k0 k1 k2 k3 k4 k5 p0 p1 p2 p3 p4 p5;rename_i K0 hK0;refine bS aW rfl rfl aW ?_;iterate 2 refine Grow.aK ?_
     refine Grow.aO Bk.out ?_;refine Grow.aO Bk.out ?_;refine Grow.aK ?_;refine Grow.aO Bp.out ?_;iterate 2 refine Grow.aK ?_
     refine' Grow.stepC _ rfl ?_ ?_;rotate_left 1
     ·refine Obl.plain rfl ?_;intro ac wg K Zq hW hf hK;clear Zq;have e39:=hf 39 ag;simp[slotFact,Yg] at e39;clear hf;have tc:=(ah hW HTC.1).trans HTC.2;exact dE
     refine' Grow.stepC (V O j) rfl ?_ ?_
     ·refine Obl.plain rfl ?_;intro ac wg K Zq hW hf hK;clear Zq;have e35:=hf 35 ag;simp[slotFact,Yg] at e35
      have e40:=hf 40 ag;simp[slotFact,Yg] at e40;clear hf;go_simp;refine (wI ⟨a1,l1,y1,a2,l2,y2,(M ⟨b3,o3,J⟩),l3,y3,a4,l4,y4,(M ⟨b,o,J⟩),l5,y5⟩ c t _ (HR.below (HB.trans (hW.mono HB.size))) HT.out HVJ.out HBD.out).mono ?_;rintro e w6 ⟨rfl,ZA⟩;exact hK _ _ ZA rfl
     refine' Grow.stepC _ rfl ?_ ?_;rotate_left 1
     ·refine Obl.plain rfl ?_;intro ac wg K Zq hW hf hK;clear Zq;have e34:=hf 34 ag;simp[slotFact,Yg] at e34
      have e41:=hf 41 ag;simp[slotFact,Yg] at e41;clear hf;have hj2:(j:Int)<l3:=af
      exact dE
     refine Grow.aK ?_;refine' Grow.stepC _ rfl ?_ ?_;rotate_left 1
     ·refine Obl.plain rfl ?_;intro ac wg K Zq hW hf hK;clear Zq;have e43:=hf 43 ag;simp[slotFact,Yg] at e43;clear hf;have vc9:=(ah hW HVC.1).trans HVC.2;exact dE
     refine Grow.aK ?_;refine Grow.aO Bp.out ?_;refine Grow.aK ?_;refine Grow.step (PqF ⟨v.n,x.d⟩ ys (w.heap.size+1)) rfl (PqF.mono) ?_ ?_
     ·refine Obl.plain rfl ?_;intro ac wg K Zq hW hf hK;clear Zq;have e32:=hf 32 ag;simp[slotFact,Yg] at e32;have e47:=hf 47 ag;simp[slotFact,Yg] at e47;clear hf;go_simp;refine (oK ca cl cc ys ⟨v.n,x.d⟩ (w.heap.size+1) _ (HQ.1.below hW) (by have:=hW.size;omega) af HZ0.out HZD.out).mono ?_;rintro e w6 ⟨sa,sl,sc,zs2,rfl,ho2,hp2,ZA⟩;exact hK _ _ ZA ⟨sa,sl,sc,zs2,rfl,ho2,hp2⟩
     refine Grow.done ?_;intro q w5 hW hf;simp only[YL] at hf;obtain⟨⟨sa,sl,sc,zs2,h48,ho2,hp2⟩,-⟩:=hf;have HP2:=G hp2;have HO2:=G ho2;have HW2:=G hW;clear hp2 ho2;intro K hK;rw[if_pos cF];simp only[aL,YQ,Y0,Yr,Yx,Yy,h48]
     simp only[List.getLast];go_simp;refine hK _ _ ?_;refine hK0 _ _ ?_;clear hK hK0 K K0
     go_wp2;refine⟨⟨n+1,sa,sl,sc,zs2,by omega,λe=>absurd e HHE.out,by go_num,rfl,⟨HO2.out,HP2.ris HQ.2.1,λq=>?_,by have h9:=HP2.len;omega⟩,HL2.trans (HW2.mono (by have h8:=HL2.size;rw[cW] at h8;exact h8))⟩,by simp[intOf];omega⟩;rw[HP2.mem,HQ.2.2.1,Wc.step HT.2.1.2.2.2.1.2.2 HXT.out HBD.out,or_assoc]
    have hk3:¬(n:Int)<vl:=af
    have hnv:n=vl:=af
    obtain⟨p0,p1,p2,p3,p4,p5⟩:=cs6 Bp
    go_wp2;refine⟨⟨k+1,ca,cl,cc,ys,by omega,by go_num,rfl,⟨HQ.1,HQ.2.1,λq=>?_,by omega⟩,HL.trans (HBP.mono af)⟩,by simp[intOf];omega⟩
    rw[HQ.2.2.1,Wn.yes HXx.out HHE.out,hxz,hnv]
  have Ο:¬(k:Int)<l5:=af
  have hkl:k=l5:=af
  obtain⟨k0,k1,k2,k3,k4,k5⟩:=cs6 Bk;go_wp2;go_ret;exact⟨_,_,_,ys,rfl,HQ.1,HQ.2.1,by rw[hl5,<-hkl];exact HQ.2.2.1,by have:=HQ.2.2.2;omega,HB.out⟩
def yp(c:Cl) (n:Nd) (t:ByteArray):Prop:=(n.d=Zi/\n.u+5<c.now)\/(n.d=Zg/\¬InL n.zs t)
theorem BK(a:Option Addr) (len cap:Nat) (zs:List Qd) (x:Qd) (w:World) (hr:aV w a len cap 2 (zs.map qdF)):
  Calls Tryz.prog 181 #[U a len cap,Zj #[I x.n,I x.d]] w (ar (x∈zs) w):=by
 have HR:=G hr;have hzl:zs.length=len:=ef
 have hlc:=Yo hr.2.1 hr.2.2.1;clear hr;go_enter Tryz.func181,Tryz.ntmps181;go_wp2;go_loopw [5] (λvi wr=> ∃k:Nat,k<=len/\vi=V O k/\Hid (∀(j:Nat) y,j<k->zs[j]?=M y->¬y=x)/\Hid (Below (w.heap.size+1) (w.alloc (Ze #[I x.n,I x.d] 161)) wr)) (λvi _=>len - (intOf vi).toNat);case atStart=>exact⟨0,by omega,rfl,λj y h=>by omega,Yh _ _⟩
 case round=>
  obtain⟨k,hk,rfl,HI,HL⟩:=hrel;have hLs:w.heap.size+1<=wr.heap.size:=by have h8:=HL.size;rw[cW] at h8;exact h8
  obtain⟨HB,Bx⟩:=O5;by_cases Zo:k<len
  ·have Ο:(k:Int)<len:=af
   obtain⟨b,o,y,rfl,hb,hy,Zc⟩:=pg (HR.below HB.out) Zo;obtain⟨-,-,hc0,hc1⟩:=fV Zc;have HY:=G hy;clear Zc hy;by_cases he:y=x
   ·have hqe:∀W:World,(Op.equalIn 10000 161 (Zj #[I y.n,I y.d]) (Zj #[I x.n,I x.d])).run Tryz.prog W=.ok Zi W:=λW=>by rw[eqQ];rw[he];simp
    have HE:=G he;clear he;obtain⟨x0,x1⟩:=cs2 Bx;go_wp2_with fail;clear x0 x1;have Gx:=Bx;have HW:=HB;obtain⟨x0,x1⟩:=sl2 Gx;have yn:=λq:Wd wr=>(q.cell hb).trans hc0;have yd:=λq:Wd wr=>(q.cell hb).trans hc1;have hne0:=Wd.ne wr
    go_wp2_with fail
    refine cA aW aW ?_;repeat (go_big_quiet_step (first|fail))
    refine wpQuiet_nil ?_
    rintro _ ⟨q1,rfl⟩;have ZW:=upB HW q1.b;have Cx:=upK Gx q1.b;clear hne0 HW HB x0 x1 yn yd Gx Bx hb hc0 hc1 hqe;have HB:=ZW;have Bx:=Cx;go_wp2;go_ret;exact ar.t (by rw[<-HE.out];exact Yv HY.out) HB.out
   have hqe:∀W:World,(Op.equalIn 10000 161 (Zj #[I y.n,I y.d]) (Zj #[I x.n,I x.d])).run Tryz.prog W=.ok Zg W:=λW=>by rw[eqQ];exact congrArg (Result.ok · W) (by
    cases h1:(y.n.toList==x.n.toList)
    ·rfl
    ·cases h2:(y.d.toList==x.d.toList)
     ·rfl
     ·exact absurd ahC he)
   have HE:=G he;clear he;obtain⟨x0,x1⟩:=cs2 Bx;go_wp2_with fail;clear x0 x1;have Gx:=Bx;have HW:=HB;obtain⟨x0,x1⟩:=sl2 Gx;have yn:=λq:Wd wr=>(q.cell hb).trans hc0;have yd:=λq:Wd wr=>(q.cell hb).trans hc1;have hne0:=Wd.ne wr
   go_wp2_with fail
   refine cA aW aW ?_;repeat (go_big_quiet_step (first|fail))
   refine wpQuiet_nil ?_
   rintro _ ⟨q1,rfl⟩;have ZW:=upB HW q1.b;have Cx:=upK Gx q1.b;clear hne0 HW HB x0 x1 yn yd Gx Bx hb hc0 hc1 hqe;have HB:=ZW;have Bx:=Cx;go_wp2;refine⟨⟨k+1,by omega,by go_num,λj z hj hz=>?_,HL.trans (q1.b.mono af)⟩,by simp[intOf];omega⟩;by_cases e:j=k
   ·subst e;rw[HY.out] at hz;obtain rfl:=Yd hz;exact HE.out
   ·exact HI.out j z af hz
  have Ο:¬(k:Int)<len:=af
  obtain⟨x0,x1⟩:=cs2 Bx;go_wp2;go_ret;exact ar.f (λh=>by obtain⟨j,hj⟩:=YG h;exact HI.out j x uT hj rfl) HB.out
theorem wF(d:Ad) (now:Int) (n:Nd) (va:Option Addr) (vl vc:Nat) (w:World) (h0:0<=n.u) (h1:n.u<=1000000):
  Calls Tryz.prog 142 #[Zj (Zs d now),Zj #[I n.n,I n.z,V O n.c,V O n.s,V O n.u,Zf n.d,U va vl vc]] w λe w'=>e=Zh (Zf (n.d && decide (n.u+5<now)))/\Below w.heap.size w w':=by
 exact Qt
def ahq(B:Nat):Fact:=λv w=> ∃b,v=Zm (M ⟨b,0,J⟩)/\B<=b/\w.heap[b]?=M (Ze #[I ⟨#[]⟩,I ⟨#[]⟩,V O 0,V O 0,V O 0,Zf Zg,U J 0 0] 81 (0,0))
theorem ahq.mono(B:Nat):Fact.bT (ahq B):=by
 exact pd
theorem au.alL {n:Nd} (h:au c) (hn:c.ns[j]?=M n):0<=n.u/\n.u<=1000000:=(h.2.1.1.2.1 j n hn).2.2.2.2.1
theorem pn {n:Nd} (h:n.d=Zi):yp c n t↔n.u+5<c.now:=by
 unfold yp;rw[h];simp
theorem nU {n:Nd} (h:n.d=Zg):yp c n t↔¬InL n.zs t:=by
 unfold yp;rw[h];simp
theorem CW(d:Ad) (c:Cl) (x:Qd) (j:Nat) (n:Nd) (w:World) (hr:aA w d c.raw) (hT:au c) (hn:c.ns[j]?=M n) (hnn:n.n=x.d):
  Calls Tryz.prog 182 #[Zj (Zs d c.now),Zj #[I x.n,I x.d]] w (ar (yp c n x.n) w):=by
 unfold Zs;obtain⟨a1,l1,y1,a2,l2,y2,a3,l3,y3,a4,l4,y4,a5,l5,y5⟩:=d;dsimp only
 obtain⟨HR,hl1⟩:=lr;clear hr;have HT:=G hT;have HN:=G hn;have HNN:=G hnn;have hj1:j<l1:=by have:=(Yc.1 hn).1;omega
 have hj2:(j:Int)<l1:=af
 have hj0:¬(j:Int)<0:=af
 have hu:=au.alL hT hn;clear hT hn hnn;have HB:=G (Yh w.heap.size w);obtain⟨b,o,y,rfl,Z3,hy,Zc⟩:=dF HR.n hj1;rw[HN.out] at hy;obtain rfl:=Yd hy;obtain⟨va,vl,vc,Zx,-,-,d0,d1,d2,d3,d4,d5,d6⟩:=bo Zc;have HV:=G Zx;clear Zc hy Zx;go_enter Tryz.func182,Tryz.ntmps182;go_wp2_with fail;obtain⟨W,θ⟩:∃W,W=((w.alloc (Ze (Zd (M ⟨b,o,J⟩) l1 y1 a2 l2 y2 a3 l3 y3 a4 l4 y4 a5 l5 y5 c.now) 29)).alloc (Ze #[I x.n,I x.d] 161)):=⟨_,rfl⟩;have Bk:Hid (W.heap[w.heap.size]?=M (Ze (Zd (M ⟨b,o,J⟩) l1 y1 a2 l2 y2 a3 l3 y3 a4 l4 y4 a5 l5 y5 c.now) 29 (0,0))):=by rw[θ];exact du _ _ _
 obtain⟨Bx,ZH⟩:=O1;have HNC:=G (Yb d0 (Yb d1 (Yb d2 (Yb d3 (Yb d4 (Yb d5 d6))))));have HBL:=G Z3;rw[<-θ];clear θ d0 d1 d2 d3 d4 d5 d6 Z3
 rename_i K0 hK0;refine bS aW rfl rfl aW ?_
 refine Grow.aK ?_;refine Grow.aO Bk.out ?_;refine Grow.aO Bk.out ?_;refine Grow.aK ?_;refine Grow.aO Bx.out ?_;refine' Grow.stepC (V O j) rfl ?_ ?_
 ·refine Obl.plain rfl ?_;intro ac wg K Zq hW hf hK;clear Zq;have e8:=hf 8 ag;simp[slotFact,Yg] at e8;have e10:=hf 10 ag;simp[slotFact,Yg] at e10;clear hf;go_simp
  refine (fK ⟨(M ⟨b,o,J⟩),l1,y1,a2,l2,y2,a3,l3,y3,a4,l4,y4,a5,l5,y5⟩ c.now c.ns x.d _ (HR.n.below (ZH.trans (hW.mono ZH.size))) HT.2.1.1.2.2 HN.out HNN.out).mono ?_;rintro e w6 ⟨rfl,ZA⟩;exact hK _ _ ZA rfl
 refine Grow.aK ?_;refine' Grow.stepC _ rfl ?_ ?_;rotate_left 1
 ·refine Obl.plain rfl ?_;intro ac wg K Zq hW hf hK;clear Zq;have e12:=hf 12 ag;simp[slotFact,Yg] at e12
  clear hf;obtain⟨d0,d1,d2,d3,d4,d5,d6⟩:=HNC.out
  have hbg:=ZH.trans (hW.mono ZH.size);replace d0:=(ah hbg HBL.out).trans d0;replace d1:=(ah hbg HBL.out).trans d1;replace d2:=(ah hbg HBL.out).trans d2;replace d3:=(ah hbg HBL.out).trans d3;replace d4:=(ah hbg HBL.out).trans d4;replace d5:=(ah hbg HBL.out).trans d5;replace d6:=(ah hbg HBL.out).trans d6
  exact wY
 refine Grow.step (ahq W.heap.size) rfl (ahq.mono _) ?_ ?_
 ·exact lx
 refine Grow.done ?_;intro q wz hW hf;simp only[YL] at hf;obtain⟨⟨b9,h5,hb9,hg9⟩,h13,-⟩:=hf;have g0:=hg9;have g1:(wz.setCell ⟨b9,0,J⟩ (I n.n)).heap[b9]?=M (Ze #[I n.n,I ⟨#[]⟩,V O 0,V O 0,V O 0,Zf Zg,U J 0 0] 81 (0,0)):=an g0 _;have g2:((wz.setCell ⟨b9,0,J⟩ (I n.n)).setCell ⟨b9,1,J⟩ (I n.z)).heap[b9]?=M (Ze #[I n.n,I n.z,V O 0,V O 0,V O 0,Zf Zg,U J 0 0] 81 (0,0)):=an g1 _;have g3:(((wz.setCell ⟨b9,0,J⟩ (I n.n)).setCell ⟨b9,1,J⟩ (I n.z)).setCell ⟨b9,2,J⟩ (V O n.c)).heap[b9]?=M (Ze #[I n.n,I n.z,V O n.c,V O 0,V O 0,Zf Zg,U J 0 0] 81 (0,0)):=an g2 _;have g4:((((wz.setCell ⟨b9,0,J⟩ (I n.n)).setCell ⟨b9,1,J⟩ (I n.z)).setCell ⟨b9,2,J⟩ (V O n.c)).setCell ⟨b9,3,J⟩ (V O n.s)).heap[b9]?=M (Ze #[I n.n,I n.z,V O n.c,V O n.s,V O 0,Zf Zg,U J 0 0] 81 (0,0)):=an g3 _;have g5:(((((wz.setCell ⟨b9,0,J⟩ (I n.n)).setCell ⟨b9,1,J⟩ (I n.z)).setCell ⟨b9,2,J⟩ (V O n.c)).setCell ⟨b9,3,J⟩ (V O n.s)).setCell ⟨b9,4,J⟩ (V O n.u)).heap[b9]?=M (Ze #[I n.n,I n.z,V O n.c,V O n.s,V O n.u,Zf Zg,U J 0 0] 81 (0,0)):=an g4 _;have g6:((((((wz.setCell ⟨b9,0,J⟩ (I n.n)).setCell ⟨b9,1,J⟩ (I n.z)).setCell ⟨b9,2,J⟩ (V O n.c)).setCell ⟨b9,3,J⟩ (V O n.s)).setCell ⟨b9,4,J⟩ (V O n.u)).setCell ⟨b9,5,J⟩ (Zf n.d)).heap[b9]?=M (Ze (nov n J 0 0) 81 (0,0)):=an g5 _;have g7:(((((((wz.setCell ⟨b9,0,J⟩ (I n.n)).setCell ⟨b9,1,J⟩ (I n.z)).setCell ⟨b9,2,J⟩ (V O n.c)).setCell ⟨b9,3,J⟩ (V O n.s)).setCell ⟨b9,4,J⟩ (V O n.u)).setCell ⟨b9,5,J⟩ (Zf n.d)).setCell ⟨b9,6,J⟩ (U va vl vc)).heap[b9]?=M (Ze (nov n va vl vc) 81 (0,0)):=an g6 _;obtain⟨t0,t1,t2,t3,t4,t5,t6⟩:=cs7 hg9;have f0:=ak hg9 0;have f1:=ak hg9 1;have f2:=ak hg9 2;have f3:=ak hg9 3;have f4:=ak hg9 4;have f5:=ak hg9 5;have f6:=ak hg9 6;have Bn:=G g7;have HWX:Hid (Below W.heap.size W (((((((wz.setCell ⟨b9,0,J⟩ (I n.n)).setCell ⟨b9,1,J⟩ (I n.z)).setCell ⟨b9,2,J⟩ (V O n.c)).setCell ⟨b9,3,J⟩ (V O n.s)).setCell ⟨b9,4,J⟩ (V O n.u)).setCell ⟨b9,5,J⟩ (Zf n.d)).setCell ⟨b9,6,J⟩ (U va vl vc))):=ai hb9 (ai hb9 (ai hb9 (ai hb9 (ai hb9 (ai hb9 (ai hb9 (hW)))))));clear g0 g1 g2 g3 g4 g5 g6 g7 hg9;intro K hK;rw[if_pos cF];simp only[aL,YQ,Y0,Yr,Yx,Yy,h5,h13]
 simp only[List.getLast];go_simp;refine hK _ _ ?_;refine hK0 _ _ ?_;clear hK hK0 K K0
 generalize (((((((wz.setCell ⟨b9,0,J⟩ (I n.n)).setCell ⟨b9,1,J⟩ (I n.z)).setCell ⟨b9,2,J⟩ (V O n.c)).setCell ⟨b9,3,J⟩ (V O n.s)).setCell ⟨b9,4,J⟩ (V O n.u)).setCell ⟨b9,5,J⟩ (Zf n.d)).setCell ⟨b9,6,J⟩ (U va vl vc))=X3 at Bn HWX ⊢;clear t0 t1 t2 t3 t4 t5 t6 f0 f1 f2 f3 f4 f5 f6
 have HB:=G (ZH.trans (HWX.mono ZH.size));replace Bk:=G ((HWX.block _ (ae Bk.out)).trans Bk.out);replace Bx:=G ((HWX.block _ (ae Bx.out)).trans Bx.out);clear hW HWX
 cases hd:n.d
 ·have HD:=G hd;clear hd;(try unfold nov at Bn);rw[HD.out] at Bn;obtain⟨k0,k1,k2,k3,k4,k5⟩:=cs6 Bk;obtain⟨x0,x1⟩:=cs2 Bx;obtain⟨n0,n1,n2,n3,n4,n5,n6⟩:=cs7 Bn;go_wp2_with fail
  refine (bZ va vl vc n.zs x.n _ (HV.below HB.out)).mono ?_;rintro e w4 ⟨r,rfl,hh,hb⟩;clear k0 k1 k2 k3 k4 k5 x0 x1 n0 n1 n2 n3 n4 n5 n6;replace Bk:=upK Bk hb;replace Bx:=upK Bx hb;replace Bn:=upK Bn hb;replace HB:=upB HB hb;clear hb;have HH:=G hh;clear hh;obtain⟨k0,k1,k2,k3,k4,k5⟩:=cs6 Bk;obtain⟨x0,x1⟩:=cs2 Bx;obtain⟨n0,n1,n2,n3,n4,n5,n6⟩:=cs7 Bn;cases r;all_goals (
   go_wp2
   go_ret
   first
    | exact ar.t ((nU HD.out).2 (λh=>by have h9:=HH.2 h;cases h9)) HB.out
    | exact ar.f (λh=>(nU HD.out).1 h (HH.1 aF)) HB.out)
 ·have HD:=G hd;clear hd;(try unfold nov at Bn);rw[HD.out] at Bn;obtain⟨k0,k1,k2,k3,k4,k5⟩:=cs6 Bk;obtain⟨x0,x1⟩:=cs2 Bx;obtain⟨n0,n1,n2,n3,n4,n5,n6⟩:=cs7 Bn;go_wp2_with fail
  obtain⟨r,hr⟩:∃r,r=decide (n.u+5<c.now):=⟨_,rfl⟩;have HRR:=G hr;clear hr;have hg:=wF ⟨(M ⟨b,o,J⟩),l1,y1,a2,l2,y2,a3,l3,y3,a4,l4,y4,a5,l5,y5⟩ c.now n va vl vc X3 hu.1 hu.2;rw[HD.out,<-HRR.out] at hg;refine (hg).mono ?_;rintro e w4 ⟨rfl,hb⟩;clear k0 k1 k2 k3 k4 k5 x0 x1 n0 n1 n2 n3 n4 n5 n6;replace Bk:=upK Bk hb;replace Bx:=upK Bx hb;replace Bn:=upK Bn hb;replace HB:=upB HB hb;clear hb;clear hg;obtain⟨k0,k1,k2,k3,k4,k5⟩:=cs6 Bk;cases r;all_goals (
   go_wp2
   go_ret
   first
    | exact ar.t ((pn HD.out).2 (of_decide_eq_true HRR.symm)) HB.out
    | exact ar.f (λh=>(of_decide_eq_false HRR.symm) ((pn HD.out).1 h)) HB.out)
def Wnt(c:Cl) (v:Vd) (t:ByteArray):Prop:=∃(j:Nat) (p:Pd),c.ps[j]?=M p/\R9 p t v.m
def Mof(c:Cl) (v:Vd) (t:ByteArray):Prop:=∃(j:Nat) (n:Nd),c.ns[j]?=M n/\n.n=t/\yp c n v.n
def Xc(c:Cl) (v:Vd) (k:Nat) (q:Qd):Prop:=∃(i:Nat) (t:ByteArray),i<k/\v.zs[i]?=M t/\¬Wnt c v t/\Mof c v t/\q=⟨v.n,t⟩
def Xn(c:Cl) (k:Nat) (q:Qd):Prop:=∃(j:Nat) (v:Vd),j<k/\c.vs[j]?=M v/\Xc c v v.zs.length q
def alE(c:Cl) (B:Nat) (w:World) (e:Ending) (w':World):Prop:=∃a' l' c' ZB,e=Zh (U a' l' c')/\av w' a' l' c' 2 161 (ZB.map qdF) (λk=>B<=k)/\RQ ZB/\(∀q,q∈ZB↔Xn c c.vs.length q)/\ZB.length<=64/\Below w.heap.size w w'
theorem Mof.iff {n:Nd} (hr:aH Nd.n c.ns) (h:c.ns[j]?=M n) (hn:n.n=t):Mof c v t↔yp c n v.n:=by
 constructor
 ·rintro⟨j',n',h',hn',ho⟩;obtain⟨-,rfl⟩:=hr.inj h h' (hn.trans hn'.symm);exact ho
 ·exact λho=>⟨j,n,h,hn,ho⟩
theorem Xc.yes {q:Qd} (ht:v.zs[k]?=M t) (h1:¬Wnt c v t) (h2:Mof c v t):Xc c v (k+1) q↔Xc c v k q\/q=⟨v.n,t⟩:=by
 constructor
 ·rintro⟨i,s,hi,hs,a,b,e⟩;by_cases h:i=k
  ·subst h;rw[ht] at hs;obtain rfl:=Yd hs;exact Zk e
  ·exact Zl ⟨i,s,by omega,hs,a,b,e⟩
 ·rintro (⟨i,s,hi,hs,a,b,e⟩|e)
  ·exact⟨i,s,by omega,hs,a,b,e⟩
  ·exact⟨k,t,by omega,ht,h1,h2,e⟩
theorem Xc.no {q:Qd} (ht:v.zs[k]?=M t) (h1:¬(¬Wnt c v t/\Mof c v t)):Xc c v (k+1) q↔Xc c v k q:=by
 constructor
 ·rintro⟨i,s,hi,hs,a,b,e⟩;by_cases h:i=k
  ·subst h;rw[ht] at hs;obtain rfl:=Yd hs;exact absurd ⟨a,b⟩ h1
  ·exact⟨i,s,by omega,hs,a,b,e⟩
 ·rintro⟨i,s,hi,hs,a,b,e⟩;exact⟨i,s,by omega,hs,a,b,e⟩
theorem Xn.step {q:Qd} (hv:c.vs[k]?=M v):Xn c (k+1) q↔Xn c k q\/Xc c v v.zs.length q:=by
 constructor
 ·rintro⟨i,s,hi,hs,a⟩;by_cases h:i=k
  ·subst h;rw[hv] at hs;obtain rfl:=Yd hs;exact Zk a
  ·exact Zl ⟨i,s,by omega,hs,a⟩
 ·rintro (⟨i,s,hi,hs,a⟩|a)
  ·exact⟨i,s,by omega,hs,a⟩
  ·exact⟨k,v,by omega,hv,a⟩
def yu(c:Cl) (v:Vd) (n:Nd):Prop:=¬InL v.zs n.n/\¬(v.x=Zi/\0<v.zs.length)/\onOf n.n c.vs<n.s
def yt(c:Cl) (q:Qd):Prop:=∃(i j:Nat) (v:Vd) (n:Nd),c.vs[i]?=M v/\v.n=q.n/\c.ns[j]?=M n/\n.n=q.d/\yu c v n
open Classical in
noncomputable def lakL (c:Cl) (zs:List Qd):List Qd:=zs.filter λq=>decide (yt c q)
theorem agY {zs:List Qd} {q:Qd} (h:zs[k]?=M q) (hq:yt c q):lakL c (zs.take (k+1))=lakL c (zs.take k)++[q]:=by
 unfold lakL;rw[YM,h,List.filter_append];simp[hq]
theorem aln {zs:List Qd} {q:Qd} (h:zs[k]?=M q) (hq:¬yt c q):lakL c (zs.take (k+1))=lakL c (zs.take k):=by
 unfold lakL;rw[YM,h,List.filter_append];simp[hq]
theorem Cb {zs:List Qd} {q:Qd} (h:zs[k]?=M q) (hq:yt c q) (h0:lakL c (zs.take k)=[]):(lakL c zs)[0]?=M q:=by
 have h1:=agY h hq;rw[h0,List.nil_append] at h1;have h2:lakL c zs=lakL c (zs.take (k+1))++lakL c (zs.drop (k+1)):=by
  unfold lakL;rw[<-List.filter_append,List.take_append_drop]
 rw[h2,h1];rfl
theorem yt.iff {q:Qd} {n:Nd} (hT:au c) (h1:c.vs[i]?=M v) (h2:v.n=q.n) (h3:c.ns[j]?=M n) (h4:n.n=q.d):yt c q↔yu c v n:=by
 constructor
 ·rintro⟨i',j',v',n',k1,k2,k3,k4,k5⟩;obtain⟨-,rfl⟩:=hT.2.1.2.2.1.2.2.inj h1 k1 (h2.trans k2.symm);obtain⟨-,rfl⟩:=hT.2.1.1.2.2.inj h3 k3 (h4.trans k4.symm);exact k5
 ·exact λh=>⟨i,j,v,n,h1,h2,h3,h4,h⟩
theorem aiU {q:Qd} (hT:au c) (h:Wn c c.ps.length q):∃(i j:Nat) (v:Vd) (n:Nd),c.vs[i]?=M v/\v.n=q.n/\c.ns[j]?=M n/\n.n=q.d:=by
 obtain⟨j,p,_,hp,hd,i,t,v,hz,⟨i1,jv,x,h1,h2,h3,h4⟩,rfl⟩:=h;obtain⟨i9,n9,k1,k2,_⟩:=(hT.2.2.2.1.1 j p hp).2.resolve_left hd;exact⟨jv,i9,v,n9,h3,rfl,k1,k2⟩
theorem au.on(h:au c) (hv:c.vs[i]?=M v):v.zs.length<=6/\ju v.zs:=by
 have h1:=eY (h.2.1.2.2.1.2.1 i v hv).2.2.2.2.2.2;exact⟨by have:=h1.1;omega,h1.2⟩
def onV(v:Vd) (zs:List ByteArray):Vd:=⟨v.n,v.c,v.z,v.k,v.x,v.m,v.y,zs⟩
def wv(c:Cl) (i:Nat) (y:Vd):Cl:=⟨c.ns,c.ks,c.vs.set i y,c.xs,c.ps,c.now⟩
def BC:ByteArray:=⟨#[111,102,102,32]⟩
def wOn:ByteArray:=⟨#[111,110,32]⟩
def kG(c:Cl) (o:Co):Prop:=
 (¬au c/\o=co0 1)\/
 (au c/\∃es q i v,(RQ es/\∀q,q∈es↔Xn c c.vs.length q)/\es[0]?=M q/\c.vs[i]?=M v/\v.n=q.n/\o=⟨wv c i (onV v (wo (λs:ByteArray=>s) q.d v.zs)),BC++v.n,0⟩)\/
 (au c/\(∀q,¬Xn c c.vs.length q)/\∃zs,(RQ zs/\∀q,q∈zs↔Wn c c.ps.length q)/\((∃q i v ys,(lakL c zs)[0]?=M q/\c.vs[i]?=M v/\v.n=q.n/\Put q.d v.zs ys/\o=⟨wv c i (onV v ys),wOn++v.n,0⟩)\/(lakL c zs=[]/\o=co0 6)))
def ahp(B:Nat):Fact:=λv w=> ∃b,v=Zm (M ⟨b,0,J⟩)/\B<=b/\w.heap[b]?=M (Ze #[I ⟨#[]⟩,I ⟨#[]⟩] 161 (0,0))
theorem ahp.mono(B:Nat):Fact.bT (ahp B):=by
 exact pd
theorem nW(h:aN x):¬x=⟨#[]⟩:=λe=>by
 rw[e] at h;have h8:=h.1;revert h8;decide
theorem CH(hT:au c) {k:Nat} {v:Vd} {t:ByteArray} (hj:c.vs[k]?=M v) (ht:¬t=⟨#[]⟩):Wn c c.ps.length ⟨v.n,t⟩↔Wnt c v t:=by
 have hv:=hT.2.1.2.2.1.2.2;constructor
 ·rintro⟨j,p,_,hp,hd,i,s,v',hs,⟨i1,jv,x,h1,h2,h3,h4⟩,e⟩;obtain⟨e1,e2⟩:=Qd.mk.inj e;obtain⟨-,rfl⟩:=hv.inj hj h3 e1;have ZE:¬x.v=⟨#[]⟩:=by rw[<-h4];exact nW (hT.2.1.2.2.1.2.1 _ v hj).1
  obtain⟨i',j',x',v',k1,k2,k3,k4,k5,k6,_⟩:=(hT.2.2.1.2 i1 x h1).2.resolve_left ZE;obtain⟨_,rfl⟩:=hv.inj k3 hj (k4.trans h4.symm);refine⟨j,p,hp,e2.symm,i,?_⟩;rw[hs,k6,h2]
 ·rintro⟨j,p,hp,hd,i,hk⟩;have hz:=(hT.2.1.2.2.2.2.2.1 j p hp).2.2.2.1.2;have ZE:=nW (hz i v.m hk).1;obtain⟨i',j',x',v',k1,k2,k3,k4,k5,k6,_⟩:=(hT.2.2.1.1 k v hj).2.resolve_left ZE;exact⟨j,p,(Yc.1 hp).1,hp,by rw[hd];exact ht,i,v.m,v,hk,⟨i',k,x',k1,k2,hj,k5.symm⟩,by rw[hd]⟩
theorem C6(d:Ad) (c:Cl) (w:World) (hr:aA w d c.raw) (hT:au c):
  Calls Tryz.prog 143 #[Zj (Zs d c.now)] w (alE c (w.heap.size+1) w):=by
 unfold Zs;obtain⟨a1,l1,y1,a2,l2,y2,a3,l3,y3,a4,l4,y4,a5,l5,y5⟩:=d;dsimp only
 have HR:=G hr;obtain⟨hl3,hm3⟩:=o_;clear hr;have HT:=G hT;clear hT;have HB:=G (Yh w.heap.size w);have h58:c.vs.length<=8:=by have:=HT.sm.v;omega
 go_enter Tryz.func143,Tryz.ntmps143;go_wp2_with fail;refine (my ⟨a1,l1,y1,a2,l2,y2,a3,l3,y3,a4,l4,y4,a5,l5,y5⟩ c _ (HR.below (HB.trans ((aj _ _).mono HB.size))) HT.out).mono ?_;rintro e w0 ⟨wa,wl,wc,zw,rfl,how,hrw,hmw,hlw,hb⟩;obtain⟨ZD,Zr⟩:=aY hb;have Bk:=G ZD;replace HB:=upB HB Zr;clear hb Zr ZD;have ρ:=G how.row;have HMW:=G hmw;clear how hrw hmw hlw;obtain⟨k0,k1,k2,k3,k4,k5⟩:=cs6 Bk;go_wp2;clear k0 k1 k2 k3 k4 k5;have hs0:=ae Bk.out;go_loopw [4,5] (λvo vi wr=> ∃(k:Nat) (ca:Option Addr) (cl cc:Nat) (ys:List Qd),k<=l3/\vi=V O k/\vo=U ca cl cc/\Hid (av wr ca cl cc 2 161 (ys.map qdF) (λj=>w.heap.size+1<=j)/\RQ ys/\(∀q,q∈ys↔Xn c k q)/\ys.length<=8*k)/\Hid (Below w0.heap.size w0 wr)) (λ_ vi _=>l3 - (intOf vi).toNat);case atStart=>exact⟨0,_,0,0,[],by omega,rfl,rfl,⟨⟨rfl,Ye _,by omega,Zl rfl⟩,List.Pairwise.nil,λq=>⟨λh=>by simp at h,λ⟨j,p,h,_⟩=>by omega⟩,by simp⟩,aj _ _⟩
 case round=>
  obtain⟨k,ca,cl,cc,ys,hk,rfl,rfl,HQ,HL⟩:=hrel;replace Bk:=G ((HL.block w.heap.size hs0).trans Bk.out);replace HB:=G (HB.trans (HL.mono HB.size));replace ρ:=G (ρ.below HL.out);have hLs:=HL.size;by_cases Zo:k<l3
  ·obtain⟨b,o,x,rfl,hb,hx,Zc⟩:=bY (HR.v.below HB.out) Zo
   obtain⟨va,vl,vc,Zx,z0,z2,z3,z5,c0,c1,c2,c3,c4,c5,c6,c7⟩:=bm Zc
   have HXx:=G hx;have HTx:=G Zx;have anh:=G z0
   clear Zc hx z0 z2 z3 z5 Zx;have δ:=hb;clear hb;have Ο:(k:Int)<l3:=af
   obtain⟨W1,hW1⟩:∃W1,W1=wr:=⟨_,rfl⟩;subst hW1;have hxz:=HTx.1;have hv3:vl<=8:=by have h9:=(eY (HT.2.1.2.2.1.2.1 k x HXx.out).2.2.2.2.2.2).1;omega
   have hyb:=HQ.2.2.2;obtain⟨k0,k1,k2,k3,k4,k5⟩:=cs6 Bk;go_wp2;clear k0 k1 k2 k3 k4 k5;clear c0 c1 c2 c3 c4 c5 c6 c7 δ;go_loopw [4,7] (λvo vi wr=> ∃(n:Nat) (ca:Option Addr) (cl cc:Nat) (ys:List Qd),n<=vl/\vi=V O n/\vo=U ca cl cc/\Hid (av wr ca cl cc 2 161 (ys.map qdF) (λj=>w.heap.size+1<=j)/\RQ ys/\(∀q,q∈ys↔Xn c k q\/Xc c x n q)/\ys.length<=8*k+n)/\Hid (Below (W1.heap.size+1) (W1.alloc (Ze #[I x.n,V O x.c,I x.z,I x.k,Zf x.x,I x.m,Zf x.y,U va vl vc] 37)) wr)) (λ_ vi _=>vl - (intOf vi).toNat);case atStart=>exact⟨0,_,_,_,ys,by omega,rfl,rfl,⟨HQ.1.below (aj _ _),HQ.2.1,λq=>by rw[HQ.2.2.1];exact⟨Zl,λh=>h.elim id (λ⟨i,t,h,_⟩=>by omega)⟩,by omega⟩,Yh _ _⟩
   case round=>
    clear HQ hyb;obtain⟨n,ca,cl,cc,ys,hn,rfl,rfl,HQ,HL2⟩:=hrel;have hbP:=(aj W1 (Ze (vov x va vl vc) 37)).trans (HL2.mono af);have Bp:=G ((HL2.block W1.heap.size af).trans (heap_alloc_new W1 (Ze (vov x va vl vc) 37)));replace Bk:=upK Bk hbP;replace HB:=upB HB hbP;replace ρ:=G (ρ.below hbP);have HBP:=G hbP;have hs3:W1.heap.size+1<=wr.heap.size:=by have h8:=HL2.size;rw[cW] at h8;exact h8
    have hyl:ys.length=cl:=by have h9:(ys.map qdF).length=cl:=HQ.1.1;rw[Yq] at h9;exact h9
    have hyb:=HQ.2.2.2;clear hbP;by_cases aob:n<vl
    ·have hk3:(n:Int)<vl:=af
     obtain⟨b2,o2,t,rfl,ZG,hx2,hc2,aq6⟩:=(HTx.below HBP.out).at aob;have HXT:=G hx2;obtain⟨j,nd,hj,hjn,-⟩:=HT.2.2.2.2.1.1 k x HXx.out n t hx2;have HTN:Hid (¬t=⟨#[]⟩):=by rw[<-hjn];exact nW (HT.2.1.1.2.1 j nd hj).1
     have HJ:=G hj;have HJN:=G hjn;have HZT:=G aq6;have HTC:=G (Yb ZG hc2);clear hj hjn hx2 aq6 ZG hc2;obtain⟨k0,k1,k2,k3,k4,k5⟩:=cs6 Bk;obtain⟨p0,p1,p2,p3,p4,p5,p6,p7⟩:=cs8 Bp;go_wp2_with fail;clear k0 k1 k2 k3 k4 k5 p0 p1 p2 p3 p4 p5 p6 p7
     rename_i K0 hK0;refine bS aW rfl rfl aW ?_
     refine Grow.aK ?_;refine Grow.aO Bp.out ?_;refine Grow.aK ?_;refine Grow.aO Bp.out ?_;iterate 2 refine Grow.aK ?_
     refine' Grow.stepC _ rfl ?_ ?_;rotate_left 1
     ·refine Obl.plain rfl ?_;intro ac wg K Zq hW hf hK;clear Zq;have e36:=hf 36 ag;simp[slotFact,Yg] at e36;clear hf;have tc:=(ah hW HTC.1).trans HTC.2;exact dE
     refine Grow.aK ?_;refine Grow.step (ahp wr.heap.size) rfl (ahp.mono _) ?_ ?_
     ·exact lx
     refine Grow.done ?_;intro q w5 hW hf;simp only[YL] at hf;obtain⟨⟨b9,h8,hb9,hg9⟩,h38,-⟩:=hf;have g0:=hg9;have g1:(w5.setCell ⟨b9,0,J⟩ (I x.n)).heap[b9]?=M (Ze #[I x.n,I ⟨#[]⟩] 161 (0,0)):=an g0 _;have g2:((w5.setCell ⟨b9,0,J⟩ (I x.n)).setCell ⟨b9,1,J⟩ (I t)).heap[b9]?=M (Ze #[I x.n,I t] 161 (0,0)):=an g1 _;obtain⟨t0,t1⟩:=cs2 hg9;have f0:=ak hg9 0;have f1:=ak hg9 1;have Bx:=G g2;have HWX:Hid (Below wr.heap.size wr ((w5.setCell ⟨b9,0,J⟩ (I x.n)).setCell ⟨b9,1,J⟩ (I t))):=ai hb9 (ai hb9 (hW));clear g0 g1 g2 hg9;intro K hK;rw[if_pos cF];simp only[aL,YQ,Y0,Yr,Yx,Yy,h8,h38]
     simp only[List.getLast];go_simp;refine hK _ _ ?_;refine hK0 _ _ ?_;clear hK hK0 K K0
     generalize ((w5.setCell ⟨b9,0,J⟩ (I x.n)).setCell ⟨b9,1,J⟩ (I t))=X3 at Bx HWX ⊢;clear t0 t1 f0 f1 hW h8 h38;have HY2:Hid (Bw wr X3):=Bw.below (Bw.refl wr) HWX.out;replace HB:=G (HB.trans (HWX.mono HB.size));replace ρ:=G (ρ.below HWX.out);replace Bk:=G ((HWX.block _ (ae Bk.out)).trans Bk.out);replace Bp:=G ((HWX.block _ (ae Bp.out)).trans Bp.out);clear HWX;obtain⟨k0,k1,k2,k3,k4,k5⟩:=cs6 Bk;obtain⟨p0,p1,p2,p3,p4,p5,p6,p7⟩:=cs8 Bp;obtain⟨x0,x1⟩:=cs2 Bx;go_wp2_with fail;refine (BK wa wl wc zw ⟨x.n,t⟩ _ ρ.out).mono ?_;rintro e w2 ⟨r,rfl,hi,Zy⟩;clear k0 k1 k2 k3 k4 k5 p0 p1 p2 p3 p4 p5 p6 p7 x0 x1;replace Bk:=upK Bk Zy;replace Bp:=upK Bp Zy;replace Bx:=upK Bx Zy;replace HY2:=G (HY2.below Zy);replace ρ:=G (ρ.below Zy);replace HB:=upB HB Zy;clear Zy;have HI:=G hi;clear hi;cases r;rotate_left
     ·obtain⟨k0,k1,k2,k3,k4,k5⟩:=cs6 Bk
      obtain⟨p0,p1,p2,p3,p4,p5,p6,p7⟩:=cs8 Bp;obtain⟨x0,x1⟩:=cs2 Bx;go_wp2;refine⟨⟨n+1,ca,cl,cc,ys,by omega,by go_num,rfl,⟨HQ.1.below HY2.out,HQ.2.1,λq=>?_,by omega⟩,HL2.trans (HY2.out.mono hs3)⟩,by simp[intOf];omega⟩
      rw[HQ.2.2.1,Xc.no HXT.out (λh=>h.1 ((CH HT.out HXx.out HTN.out).1 ((HMW.out _).1 (HI.1 bU))))]
     have HNW:Hid (¬Wnt c x t):=λh=>by have h9:=HI.2 ((HMW.out _).2 ((CH HT.out HXx.out HTN.out).2 h));cases h9
     obtain⟨k0,k1,k2,k3,k4,k5⟩:=cs6 Bk;obtain⟨p0,p1,p2,p3,p4,p5,p6,p7⟩:=cs8 Bp;obtain⟨x0,x1⟩:=cs2 Bx;go_wp2_with fail;refine (CW ⟨a1,l1,y1,a2,l2,y2,(M ⟨b,o,J⟩),l3,y3,a4,l4,y4,a5,l5,y5⟩ c ⟨x.n,t⟩ j nd _ (HR.below HB.out) HT.out HJ.out HJN.out).mono ?_;rintro e w3 ⟨r,rfl,hi,Zy⟩;clear k0 k1 k2 k3 k4 k5 p0 p1 p2 p3 p4 p5 p6 p7 x0 x1;replace Bk:=upK Bk Zy;replace Bp:=upK Bp Zy;replace Bx:=upK Bx Zy;replace HY2:=G (HY2.below Zy);replace ρ:=G (ρ.below Zy);replace HB:=upB HB Zy;clear Zy;have HI:=G hi;clear hi;cases r
     ·obtain⟨k0,k1,k2,k3,k4,k5⟩:=cs6 Bk;have aor:=ae Bk.out
      obtain⟨p0,p1,p2,p3,p4,p5,p6,p7⟩:=cs8 Bp;obtain⟨x0,x1⟩:=cs2 Bx;go_wp2;refine⟨⟨n+1,ca,cl,cc,ys,by omega,by go_num,rfl,⟨HQ.1.below HY2.out,HQ.2.1,λq=>?_,by omega⟩,HL2.trans (HY2.out.mono hs3)⟩,by simp[intOf];omega⟩
      rw[HQ.2.2.1,Xc.no HXT.out (λh=>by have h9:=HI.2 ((Mof.iff HT.2.1.1.2.2 HJ.out HJN.out).1 h.2);cases h9)]
     have HMO:Hid (Mof c x t):=(Mof.iff HT.2.1.1.2.2 HJ.out HJN.out).2 (HI.1 bU);obtain⟨k0,k1,k2,k3,k4,k5⟩:=cs6 Bk;have aor:=ae Bk.out;obtain⟨p0,p1,p2,p3,p4,p5,p6,p7⟩:=cs8 Bp;obtain⟨x0,x1⟩:=cs2 Bx;go_wp2_with fail;refine (oK ca cl cc ys ⟨x.n,t⟩ (w.heap.size+1) _ (HQ.1.below HY2.out) (by have:=HY2.le;omega) af anh.out HZT.out).mono ?_;rintro e w4 ⟨sa,sl,sc,zs2,rfl,ho2,hp2,Zy⟩;clear k0 k1 k2 k3 k4 k5 aor p0 p1 p2 p3 p4 p5 p6 p7 x0 x1;replace Bk:=upK Bk Zy;replace Bp:=upK Bp Zy;replace Bx:=upK Bx Zy;replace HY2:=G (HY2.below Zy);replace ρ:=G (ρ.below Zy);replace HB:=upB HB Zy;clear Zy;have HP2:=G hp2;have HO2:=G ho2;clear hp2 ho2;obtain⟨k0,k1,k2,k3,k4,k5⟩:=cs6 Bk;obtain⟨p0,p1,p2,p3,p4,p5,p6,p7⟩:=cs8 Bp;obtain⟨x0,x1⟩:=cs2 Bx;go_wp2;refine⟨⟨n+1,sa,sl,sc,zs2,by omega,by go_num,rfl,⟨HO2.out,HP2.ris HQ.2.1,λq=>?_,by have h9:=HP2.len;omega⟩,HL2.trans (HY2.out.mono hs3)⟩,by simp[intOf];omega⟩;rw[HP2.mem,HQ.2.2.1,Xc.yes HXT.out HNW.out HMO.out,or_assoc]
    have hk3:¬(n:Int)<vl:=af
    have hnv:n=vl:=af
    obtain⟨p0,p1,p2,p3,p4,p5,p6,p7⟩:=cs8 Bp
    go_wp2;refine⟨⟨k+1,ca,cl,cc,ys,by omega,by go_num,rfl,⟨HQ.1,HQ.2.1,λq=>?_,by omega⟩,HL.trans (HBP.mono af)⟩,by simp[intOf];omega⟩
    rw[HQ.2.2.1,Xn.step HXx.out,hxz,hnv]
  have Ο:¬(k:Int)<l3:=af
  have hkl:k=l3:=af
  obtain⟨k0,k1,k2,k3,k4,k5⟩:=cs6 Bk;go_wp2;go_ret;exact⟨_,_,_,ys,rfl,HQ.1,HQ.2.1,by rw[hl3,<-hkl];exact HQ.2.2.1,by have:=HQ.2.2.2;omega,HB.out⟩
def aho(B:Nat):Fact:=λv w=> ∃b,v=Zm (M ⟨b,0,J⟩)/\B<=b/\w.heap[b]?=M (Ze #[I ⟨#[]⟩,V O 0,I ⟨#[]⟩,I ⟨#[]⟩,Zf Zg,I ⟨#[]⟩,Zf Zg,U J 0 0] 37 (0,0))
theorem aho.mono(B:Nat):Fact.bT (aho B):=by
 exact pd
theorem C9(d:Ad) (c:Cl) (x:Qd) (i j:Nat) (v:Vd) (n:Nd) (w:World) (hr:aA w d c.raw) (hT:au c) (hv:c.vs[i]?=M v) (hvn:v.n=x.n) (hn:c.ns[j]?=M n) (hnn:n.n=x.d):
  Calls Tryz.prog 145 #[Zj (Zs d c.now),Zj #[I x.n,I x.d]] w (ar (yu c v n) w):=by
 unfold Zs;obtain⟨a1,l1,y1,a2,l2,y2,a3,l3,y3,a4,l4,y4,a5,l5,y5⟩:=d;dsimp only
 obtain⟨HR,hl1,hm1,hl2,hm2,hl3,hm3,hl4,hm4,hl5,hm5⟩:=B1;clear hr;have HT:=G hT;have HVI:=G hv;have HVN:=G hvn;have HN:=G hn;have HNN:=G hnn;have h8:c.vs.length<=8:=hT.sm.v;have hi1:i<l3:=by have:=(Yc.1 hv).1;omega
 have hi2:(i:Int)<l3:=af
 have hi0:¬(i:Int)<0:=af
 have hj1:j<l1:=by have:=(Yc.1 hn).1;omega
 have hj2:(j:Int)<l1:=af
 have hj0:¬(j:Int)<0:=af
 clear hT hn hnn hv hvn;have HB:=G (Yh w.heap.size w);obtain⟨b,o,y,rfl,Z3,hy,Zc⟩:=bY HR.v hi1;rw[HVI.out] at hy;obtain rfl:=Yd hy;obtain⟨va,vl,vc,Zx,-,-,-,-,d0,d1,d2,d3,d4,d5,d6,d7⟩:=bm Zc;have HV:=G Zx;have hvl:v.zs.length=vl:=Zx.1;clear Zc hy Zx;obtain⟨b1,o1,y,rfl,hbn,hy,Zc⟩:=dF HR.n hj1;rw[HN.out] at hy;obtain rfl:=Yd hy;obtain⟨na,nl,nc,-,-,-,-,-,-,e3,-,-,-⟩:=bo Zc;clear Zc hy;go_enter Tryz.func145,Tryz.ntmps145;go_wp2_with fail;obtain⟨W,θ⟩:∃W,W=((w.alloc (Ze (Zd (M ⟨b1,o1,J⟩) l1 y1 a2 l2 y2 (M ⟨b,o,J⟩) l3 y3 a4 l4 y4 a5 l5 y5 c.now) 29)).alloc (Ze #[I x.n,I x.d] 161)):=⟨_,rfl⟩;have Bk:Hid (W.heap[w.heap.size]?=M (Ze (Zd (M ⟨b1,o1,J⟩) l1 y1 a2 l2 y2 (M ⟨b,o,J⟩) l3 y3 a4 l4 y4 a5 l5 y5 c.now) 29 (0,0))):=by rw[θ];exact du _ _ _
 obtain⟨Bx,ZH⟩:=O1;have HNC:=G (Yb d0 (Yb d1 (Yb d2 (Yb d3 (Yb d4 (Yb d5 (Yb d6 d7)))))));have HBL:=G Z3;have HNS:=G (Yb hbn e3);rw[<-θ];clear θ d0 d1 d2 d3 d4 d5 d6 d7 Z3 hbn e3
 rename_i K0 hK0;refine bS aW rfl rfl aW ?_
 refine Grow.aK ?_;refine Grow.aO Bk.out ?_;refine Grow.aO Bk.out ?_;refine Grow.aK ?_;refine Grow.aO Bx.out ?_;refine' Grow.stepC (V O i) rfl ?_ ?_
 ·refine Obl.plain rfl ?_;intro ac wg K Zq hW hf hK;clear Zq;have e8:=hf 8 ag;simp[slotFact,Yg] at e8;have e10:=hf 10 ag;simp[slotFact,Yg] at e10;clear hf;go_simp
  refine (eA ⟨(M ⟨b1,o1,J⟩),l1,y1,a2,l2,y2,(M ⟨b,o,J⟩),l3,y3,a4,l4,y4,a5,l5,y5⟩ c.now c.vs x.n _ (HR.v.below (ZH.trans (hW.mono ZH.size))) HT.2.1.2.2.1.2.2 HVI.out HVN.out).mono ?_;rintro e w6 ⟨rfl,ZA⟩;exact hK _ _ ZA rfl
 refine Grow.aK ?_;refine' Grow.stepC _ rfl ?_ ?_;rotate_left 1
 ·refine Obl.plain rfl ?_;intro ac wg K Zq hW hf hK;clear Zq;have e12:=hf 12 ag;simp[slotFact,Yg] at e12
  clear hf;obtain⟨d0,d1,d2,d3,d4,d5,d6,d7⟩:=HNC.out
  have hbg:=ZH.trans (hW.mono ZH.size);replace d0:=(ah hbg HBL.out).trans d0;replace d1:=(ah hbg HBL.out).trans d1;replace d2:=(ah hbg HBL.out).trans d2;replace d3:=(ah hbg HBL.out).trans d3;replace d4:=(ah hbg HBL.out).trans d4;replace d5:=(ah hbg HBL.out).trans d5;replace d6:=(ah hbg HBL.out).trans d6
  replace d7:=(ah hbg HBL.out).trans d7;exact dE
 refine Grow.step (aho W.heap.size) rfl (aho.mono _) ?_ ?_
 ·exact lx
 refine Grow.done ?_;intro q wz hW hf;simp only[YL] at hf;obtain⟨⟨b9,h5,hb9,hg9⟩,h13,-⟩:=hf;have g0:=hg9;have g1:(wz.setCell ⟨b9,0,J⟩ (I v.n)).heap[b9]?=M (Ze #[I v.n,V O 0,I ⟨#[]⟩,I ⟨#[]⟩,Zf Zg,I ⟨#[]⟩,Zf Zg,U J 0 0] 37 (0,0)):=an g0 _;have g2:((wz.setCell ⟨b9,0,J⟩ (I v.n)).setCell ⟨b9,1,J⟩ (V O v.c)).heap[b9]?=M (Ze #[I v.n,V O v.c,I ⟨#[]⟩,I ⟨#[]⟩,Zf Zg,I ⟨#[]⟩,Zf Zg,U J 0 0] 37 (0,0)):=an g1 _;have g3:(((wz.setCell ⟨b9,0,J⟩ (I v.n)).setCell ⟨b9,1,J⟩ (V O v.c)).setCell ⟨b9,2,J⟩ (I v.z)).heap[b9]?=M (Ze #[I v.n,V O v.c,I v.z,I ⟨#[]⟩,Zf Zg,I ⟨#[]⟩,Zf Zg,U J 0 0] 37 (0,0)):=an g2 _;have g4:((((wz.setCell ⟨b9,0,J⟩ (I v.n)).setCell ⟨b9,1,J⟩ (V O v.c)).setCell ⟨b9,2,J⟩ (I v.z)).setCell ⟨b9,3,J⟩ (I v.k)).heap[b9]?=M (Ze #[I v.n,V O v.c,I v.z,I v.k,Zf Zg,I ⟨#[]⟩,Zf Zg,U J 0 0] 37 (0,0)):=an g3 _;have g5:(((((wz.setCell ⟨b9,0,J⟩ (I v.n)).setCell ⟨b9,1,J⟩ (V O v.c)).setCell ⟨b9,2,J⟩ (I v.z)).setCell ⟨b9,3,J⟩ (I v.k)).setCell ⟨b9,4,J⟩ (Zf v.x)).heap[b9]?=M (Ze #[I v.n,V O v.c,I v.z,I v.k,Zf v.x,I ⟨#[]⟩,Zf Zg,U J 0 0] 37 (0,0)):=an g4 _;have g6:((((((wz.setCell ⟨b9,0,J⟩ (I v.n)).setCell ⟨b9,1,J⟩ (V O v.c)).setCell ⟨b9,2,J⟩ (I v.z)).setCell ⟨b9,3,J⟩ (I v.k)).setCell ⟨b9,4,J⟩ (Zf v.x)).setCell ⟨b9,5,J⟩ (I v.m)).heap[b9]?=M (Ze #[I v.n,V O v.c,I v.z,I v.k,Zf v.x,I v.m,Zf Zg,U J 0 0] 37 (0,0)):=an g5 _;have g7:(((((((wz.setCell ⟨b9,0,J⟩ (I v.n)).setCell ⟨b9,1,J⟩ (V O v.c)).setCell ⟨b9,2,J⟩ (I v.z)).setCell ⟨b9,3,J⟩ (I v.k)).setCell ⟨b9,4,J⟩ (Zf v.x)).setCell ⟨b9,5,J⟩ (I v.m)).setCell ⟨b9,6,J⟩ (Zf v.y)).heap[b9]?=M (Ze (vov v J 0 0) 37 (0,0)):=an g6 _;have g8:((((((((wz.setCell ⟨b9,0,J⟩ (I v.n)).setCell ⟨b9,1,J⟩ (V O v.c)).setCell ⟨b9,2,J⟩ (I v.z)).setCell ⟨b9,3,J⟩ (I v.k)).setCell ⟨b9,4,J⟩ (Zf v.x)).setCell ⟨b9,5,J⟩ (I v.m)).setCell ⟨b9,6,J⟩ (Zf v.y)).setCell ⟨b9,7,J⟩ (U va vl vc)).heap[b9]?=M (Ze (vov v va vl vc) 37 (0,0)):=an g7 _;obtain⟨t0,t1,t2,t3,t4,t5,t6,t7⟩:=cs8 hg9;have f0:=ak hg9 0;have f1:=ak hg9 1;have f2:=ak hg9 2;have f3:=ak hg9 3;have f4:=ak hg9 4;have f5:=ak hg9 5;have f6:=ak hg9 6;have f7:=ak hg9 7;have Bv:=G g8;have HWX:Hid (Below W.heap.size W ((((((((wz.setCell ⟨b9,0,J⟩ (I v.n)).setCell ⟨b9,1,J⟩ (V O v.c)).setCell ⟨b9,2,J⟩ (I v.z)).setCell ⟨b9,3,J⟩ (I v.k)).setCell ⟨b9,4,J⟩ (Zf v.x)).setCell ⟨b9,5,J⟩ (I v.m)).setCell ⟨b9,6,J⟩ (Zf v.y)).setCell ⟨b9,7,J⟩ (U va vl vc))):=ai hb9 (ai hb9 (ai hb9 (ai hb9 (ai hb9 (ai hb9 (ai hb9 (ai hb9 (hW))))))))
 clear g0 g1 g2 g3 g4 g5 g6 g7 g8 hg9;intro K hK;rw[if_pos cF];simp only[aL,YQ,Y0,Yr,Yx,Yy,h5,h13];simp only[List.getLast];go_simp;refine hK _ _ ?_;refine hK0 _ _ ?_;clear hK hK0 K K0;generalize ((((((((wz.setCell ⟨b9,0,J⟩ (I v.n)).setCell ⟨b9,1,J⟩ (V O v.c)).setCell ⟨b9,2,J⟩ (I v.z)).setCell ⟨b9,3,J⟩ (I v.k)).setCell ⟨b9,4,J⟩ (Zf v.x)).setCell ⟨b9,5,J⟩ (I v.m)).setCell ⟨b9,6,J⟩ (Zf v.y)).setCell ⟨b9,7,J⟩ (U va vl vc))=X3 at Bv HWX ⊢;clear t0 f0 t1 f1 t2 f2 t3 f3 t4 f4 t5 f5 t6 f6 t7 f7
 have HB:=G (ZH.trans (HWX.mono ZH.size));replace Bk:=G ((HWX.block _ (ae Bk.out)).trans Bk.out);replace Bx:=G ((HWX.block _ (ae Bx.out)).trans Bx.out);clear hW HWX
 obtain⟨k0,k1,k2,k3,k4,k5⟩:=cs6 Bk;have aqM:=ae Bk.out
 obtain⟨x0,x1⟩:=cs2 Bx;have axc:=ae Bx.out;obtain⟨v0,v1,v2,v3,v4,v5,v6,v7⟩:=cs8 Bv;have axd:=ae Bv.out;go_wp2_with fail;refine (bZ va vl vc v.zs x.d _ (HV.below HB.out)).mono ?_;rintro e w3 ⟨r,rfl,hi,hb⟩;clear k0 k1 k2 k3 k4 k5 aqM x0 x1 axc v0 v1 v2 v3 v4 v5 v6 v7 axd;replace Bk:=upK Bk hb;replace Bx:=upK Bx hb;replace Bv:=upK Bv hb;replace HB:=upB HB hb;clear hb;have HI:=G hi;clear hi;rw[<-HNN.out] at HI;cases r;rotate_left
 ·obtain⟨k0,k1,k2,k3,k4,k5⟩:=cs6 Bk;have Α:=ae Bk.out
  obtain⟨x0,x1⟩:=cs2 Bx;have avp:=ae Bx.out;obtain⟨v0,v1,v2,v3,v4,v5,v6,v7⟩:=cs8 Bv;have aqS:=ae Bv.out
  go_wp2;go_ret;exact ar.f (λh=>h.1 (HI.1 bU)) HB.out
 have HNI:Hid (¬InL v.zs n.n):=λh=>by have h9:=HI.2 h;cases h9
 cases hx:v.x;rotate_left
 ·(try unfold vov at Bv);rw[hx] at Bv;have HX:=G hx;clear hx;by_cases h0:0<vl
  ·have h1:(0:Int)<vl:=af
   obtain⟨k0,k1,k2,k3,k4,k5⟩:=cs6 Bk;have Α:=ae Bk.out
   obtain⟨x0,x1⟩:=cs2 Bx;have avp:=ae Bx.out;obtain⟨v0,v1,v2,v3,v4,v5,v6,v7⟩:=cs8 Bv;have aqS:=ae Bv.out
   go_wp2;go_ret;exact ar.f (λh=>h.2.1 ⟨HX.out,by omega⟩) HB.out
  ·have h1:¬(0:Int)<vl:=af
   obtain⟨k0,k1,k2,k3,k4,k5⟩:=cs6 Bk;have Α:=ae Bk.out
   obtain⟨x0,x1⟩:=cs2 Bx;have avp:=ae Bx.out;obtain⟨v0,v1,v2,v3,v4,v5,v6,v7⟩:=cs8 Bv;have aqS:=ae Bv.out;go_wp2_with fail;have hn9:=(ah HB.out HNS.1).trans HNS.2;clear k0 k1 k2 k3 k4 k5 Α x0 x1 avp v0 v1 v2 v3 v4 v5 v6 v7 aqS;have Gk:=Bk;have Gx:=Bx;have Gv:=Bv;have HW:=HB;obtain⟨k0,k1,k2,k3,k4,k5⟩:=sl6 Gk;obtain⟨x0,x1⟩:=sl2 Gx;obtain⟨v0,v1,v2,v3,v4,v5,v6,v7⟩:=sl8 Gv;obtain⟨ns,hne0,Zv,μ⟩:=ame
   go_wp2_with fail;refine cA aW aW ?_
   repeat (go_big_quiet_step (first|(go_at_call 113;exact Calls.wide (Zv.out _))|(go_at_call 110;exact Calls.wide (μ.out _))|fail))
   refine wpQuiet_nil ?_;rintro _ ⟨q1,rfl⟩;have ZX:=upB HW q1.b;have Ck:=upK Gk q1.b;have Cx:=upK Gx q1.b;have Cv:=upK Gv q1.b;clear hne0 HW HB Zv μ k0 k1 k2 k3 k4 k5 x0 x1 v0 v1 v2 v3 v4 v5 v6 v7 ns Gk Gx Gv Bk Bx Bv;have HB:=ZX;have Bk:=Ck;have Bx:=Cx;have Bv:=Cv;go_wp2;go_ret
   exact⟨_,rfl,by rw[HNN.symm];simp only[decide_eq_true_eq];exact⟨λh=>⟨HNI.out,(λh=>by omega),h⟩,λh=>h.2.2⟩,HB.out⟩
 ·(try unfold vov at Bv);rw[hx] at Bv;have HX:=G hx;clear hx
  obtain⟨k0,k1,k2,k3,k4,k5⟩:=cs6 Bk;have Α:=ae Bk.out
  obtain⟨x0,x1⟩:=cs2 Bx;have avp:=ae Bx.out;obtain⟨v0,v1,v2,v3,v4,v5,v6,v7⟩:=cs8 Bv;have aqS:=ae Bv.out;go_wp2_with fail;have hn9:=(ah HB.out HNS.1).trans HNS.2;clear k0 k1 k2 k3 k4 k5 Α x0 x1 avp v0 v1 v2 v3 v4 v5 v6 v7 aqS;have Gk:=Bk;have Gx:=Bx;have Gv:=Bv;have HW:=HB;obtain⟨k0,k1,k2,k3,k4,k5⟩:=sl6 Gk;obtain⟨x0,x1⟩:=sl2 Gx;obtain⟨v0,v1,v2,v3,v4,v5,v6,v7⟩:=sl8 Gv;obtain⟨ns,hne0,Zv,μ⟩:=ame
  go_wp2_with fail;refine cA aW aW ?_
  repeat (go_big_quiet_step (first|(go_at_call 113;exact Calls.wide (Zv.out _))|(go_at_call 110;exact Calls.wide (μ.out _))|fail))
  refine wpQuiet_nil ?_;rintro _ ⟨q1,rfl⟩;have ZX:=upB HW q1.b;have Ck:=upK Gk q1.b;have Cx:=upK Gx q1.b;have Cv:=upK Gv q1.b;clear hne0 HW HB Zv μ k0 k1 k2 k3 k4 k5 x0 x1 v0 v1 v2 v3 v4 v5 v6 v7 ns Gk Gx Gv Bk Bx Bv;have HB:=ZX;have Bk:=Ck;have Bx:=Cx;have Bv:=Cv;go_wp2;go_ret
  exact⟨_,rfl,by rw[HNN.symm];simp only[decide_eq_true_eq];exact⟨λh=>⟨HNI.out,(λh=>by have h9:=h.1;rw[HX.out] at h9;cases h9),h⟩,λh=>h.2.2⟩,HB.out⟩
theorem Sr {len:Nat} (h:aw w a len cap zs) (j:Nat) (z:ByteArray) (hz:(wo (λs:ByteArray=>s) t zs)[j]?=M z):z.size<=9223372036854775807:=by
 have hm:=Yv hz;obtain⟨i,hi⟩:=YG ((List.mem_filter.1 hm).1);obtain⟨b,o,y,-,-,hy,-,hs⟩:=h.at (k:=i) (by have:=(Yc.1 hi).1;have:=h.1;omega);rw[hi] at hy;cases hy;exact hs
theorem CO(a:Option Addr) (len cap:Nat) (zs:List ByteArray) (t:ByteArray) (w:World) (hr:aw w a len cap zs) (hl:len<=64):
  Calls Tryz.prog 144 #[U a len cap,I t] w λe w'=> ∃a' l' c',e=Zh (U a' l' c')/\bG w' a' l' c' (wo (λs:ByteArray=>s) t zs) (λk=>w.heap.size<=k)/\Below w.heap.size w w':=by
 have HR:=G hr;have hzl:zs.length=len:=hr.1
 have HB:=G (Yh w.heap.size w);obtain⟨i0,hi,ZO,η,ZP⟩:=info_parts eQ;have Y_:=G (Yb hi (Yb ZO (Yb η ZP)))
 clear hi ZO η ZP hr;go_enter Tryz.func144,Tryz.ntmps144;go_wp2;go_loopw [5,6] (λvo vi wr=> ∃k n:Nat,k<=len/\n<=k/\vi=V O k/\Hid (wr.ownsRow w.heap.size 9 1 vo n ((wo (λs:ByteArray=>s) t (zs.take k)).map Yn))/\Hid (Below w.heap.size w wr)) (λ_ vi _=>len - (intOf vi).toNat);case atStart=>exact⟨0,0,by omega,by omega,rfl,⟨rfl,Zk ⟨w.heap.size,0,#[],rfl,Ye _,heap_alloc_new _ _,Ye _,by unfold maxLen;omega,rfl,rfl⟩⟩,aj _ _⟩
 case round=>
  obtain⟨k,n,hk,hn,rfl,HO,HB⟩:=hrel;have hBs:=HB.size;by_cases Zo:k<len
  ·have Ο:(k:Int)<len:=af
   obtain⟨b2,o2,s,rfl,ZG,hx2,hc2,aq6⟩:=(HR.below HB.out).at Zo;have HXT:=G hx2;clear hx2 aq6;by_cases he:s=t
   ·have hq:(s.toList==t.toList)=Zi:=by rw[he];simp
    have HO3:=HO;rw[<-aht (nm:=λs:ByteArray=>s) HXT.out hq] at HO3;clear he;go_wp2;exact⟨⟨k+1,n,by omega,by omega,by go_num,HO3,HB⟩,by simp[intOf];omega⟩
   ·have hq:(s.toList==t.toList)=Zg:=by cases h:(s.toList==t.toList);rfl;exact absurd (dy h) he
    clear he;go_wp2_with (first|(at_builtin;refine wpList_append_own _ rfl _ _ 35 rfl w.heap.size 9 i0 (I ⟨#[]⟩) 1 16 Tryz.underlying35 Y_.1 Y_.2.1 Y_.2.2.1 Y_.2.2.2 rfl ag _ _ _ rfl (HO.alloc _) ⟨wr.heap.size,0,J⟩ 1 1 [I s] rfl rfl ?c1 ?c2 ?c3 ?c4 ?c5 ?_));case c1=>
     exact O_
    case c2=>intro u hu;rw[List.mem_singleton.1 hu];rfl
    case c3=>unfold maxLen;omega
    case c4=>omega
    case c5=>simp;omega
    rintro v' w3 Z5 ZC -;have HO3:Hid (w3.ownsRow w.heap.size 9 1 v' (n+1) ((wo (λs:ByteArray=>s) t (zs.take (k+1))).map Yn)):=by
     show World.ownsRow _ _ _ _ _ _ _;rw[wj (nm:=λs:ByteArray=>s) HXT.out hq,List.map_append];exact Z5
    have Z7:=G ((HB.trans ((aj _ _).mono hBs)).grown ZC bg (λg hg=>by have:=(HO.lt g hg).1;omega));clear Z5 ZC;go_wp2;exact⟨⟨k+1,n+1,by omega,by omega,by go_num,HO3,Z7⟩,by simp[intOf];omega⟩
  ·have hkl:k=len:=af
   have Ο:¬(k:Int)<len:=af
   have HO3:=HO;rw[YB af] at HO3;obtain⟨a',p',rfl,hT⟩:=bG.fh HO3.out (Sr HR.out);have HTO:=G hT;clear hT;go_wp2;go_ret;exact⟨_,_,_,rfl,HTO.out,HB.out⟩
def ahi(t:ByteArray) (zs:List ByteArray) (w:World) (e:Ending) (w':World):Prop:=∃a' l' c' ZB,e=Zh (U a' l' c')/\aw w' a' l' c' ZB/\Put t zs ZB/\(t∈zs\/bG w' a' l' c' ZB (λk=>w.heap.size<=k))/\Below w.heap.size w w'
theorem BH(a:Option Addr) (len cap:Nat) (zs:List ByteArray) (t:ByteArray) (w:World) (hr:aw w a len cap zs) (hl:len<=64) (ht:t.size<=9223372036854775807):
  Calls Tryz.prog 146 #[U a len cap,I t] w (ahi t zs w):=by
 have HR:=G hr;have hlc:len<=cap:=hr.2.1;have hcm:cap<=9223372036854775807:=hr.2.2.1;have hzl:zs.length=len:=hr.1
 obtain⟨i0,hi,ZO,η,ZP⟩:=info_parts eQ
 have Y_:=G (Yb hi (Yb ZO (Yb η ZP)));clear hi ZO η ZP
 have HC:Hid (∀(j:Nat) u,(zs.map Yn)[j]?=M u->∃g o9,a=M ⟨g,o9,J⟩/\g<w.heap.size/\w.cell? ⟨g,o9+j,J⟩=M u):=λj u hu=>by
  exact ak6
 have HZS:Hid (∀(k j:Nat) z,(zs.take k++[t]++zs.drop k)[j]?=M z->z.size<=9223372036854775807):=λk j z hz=>by
  exact ak_
 obtain⟨HON,HW⟩:=akA;clear hr;go_enter Tryz.func146,Tryz.ntmps146;go_wp2
 go_loop [5] (λi=> ∃k:Nat,k<=len/\i=V O k/\Hid (∀(j:Nat) y,j<k->zs[j]?=M y->Yk y.toList t.toList=Zi)) (λi=>len - (intOf i).toNat);case atStart=>exact⟨0,by omega,rfl,λj y hj=>by omega⟩
 case round=>
  obtain⟨k,hk,rfl,HE⟩:=hrel;by_cases Zo:k<len
  ·obtain⟨b,o,x,rfl,hb,hx,hc,Zq⟩:=HR.at Zo;have HX:=G hx;clear hx Zq;have Ο:(k:Int)<len:=af
   cases Zz:Yk x.toList t.toList
   ·by_cases he:x=t
    ·have HM:Hid (t∈zs):=he ▸ Yv HX.out;have HP:Hid (Put t zs zs):=Zl ⟨he ▸ Yv HX.out,rfl⟩;have hq:=aP he;clear he;go_wp2;go_ret;exact⟨_,_,_,_,rfl,HR.out,HP.out,Zl HM.out,HW.out⟩
    have HP:Hid (Put t zs (zs.take k++[t]++zs.drop k)):=Zk ⟨k,by omega,rfl,HE.out,λy hy=>by rw[HX.out] at hy;cases hy;exact Rz Zz he⟩;have hq:=bu he;clear he;obtain⟨ρ,hik,Γ⟩:=OW
    have ZZ:¬cap=k:=af
    all_goals (
     go_wp2_with (first|(at_builtin;refine aE rfl _ _ 35 rfl w.heap.size 9 i0 (I ⟨#[]⟩) 1 16 Tryz.underlying35 Y_.1 Y_.2.1 Y_.2.2.1 Y_.2.2.2 rfl ag _ _ _ rfl (ρ.out) _ k _ ((zs.take k).map Yn) rfl oY (λj u hu=>by rw[List.map_take] at hu;obtain⟨g9,o9,e,ZM,h3⟩:=HC.out j u (fJ hu);cases e <;> exact⟨_,rfl,by simp only[Ym];exact (ah (aj w _) ZM).trans h3⟩) (HON.out _) br af aF ?_))
     intro v5 w5 aa ZF
     replace aa:w5.ownsRow w.heap.size 9 1 v5 k ((zs.take k).map Yn):=eg
     have ZI:Below w.heap.size w w5:=(aj w (Ze #[] 9)).grown ZF aF (λg hg=>by simp[YK] at hg;omega);obtain⟨s1,s2,s3,rfl⟩:=az aa;have Β:=G aa;have H5:=G ZI;have hs5:=ZI.size;clear aa ZF ZI
     go_wp2_with (first|(at_builtin;refine aE rfl _ _ 35 rfl w.heap.size 9 i0 (I ⟨#[]⟩) 1 16 Tryz.underlying35 Y_.1 Y_.2.1 Y_.2.2.1 Y_.2.2.2 rfl ag _ _ _ rfl (Β.alloc _) _ 1 _ [I t] rfl rfl (λj u hu=>⟨_,rfl,by rw[Ym,Yp,al (heap_alloc_new w5 _)];simpa using hu⟩) dx br af bg ?_))
     intro v6 w6 Zt ZJ;have ZA:Below w.heap.size w w6:=(H5.alloc H5.size _).grown ZJ bg (λg hg=>(Β.lt g hg).1);obtain⟨r1,r2,r3,rfl⟩:=az Zt;have Η:=G Zt;have H6:=G ZA;have hs6:=ZA.size;clear Zt ZJ ZA
     go_wp2_with (first|(at_builtin;refine aE rfl _ _ 35 rfl w.heap.size 9 i0 (I ⟨#[]⟩) 1 16 Tryz.underlying35 Y_.1 Y_.2.1 Y_.2.2.1 Y_.2.2.2 rfl ag _ _ _ rfl (Η.out) _ (len - k) _ ((zs.drop k).map Yn) rfl oX (λj u hu=>by first|(rw[Yw af] at hu;simp at hu;done)|(rw[List.map_drop,YN] at hu;obtain⟨g9,o9,e,ZM,h3⟩:=HC.out _ u hu;cases e <;> exact⟨_,rfl,by simp only[Ym,Nat.add_assoc];exact (ah H6.out ZM).trans h3⟩)) (HON.out _) br af af ?_))
     intro v7 w7 Zb ZK;have Z0:Below w.heap.size w w7:=H6.grown ZK af (λg hg=>(Η.lt g hg).1)
     replace Zb:w7.ownsRow w.heap.size 9 1 v7 (len+1) ((zs.take k++[t]++zs.drop k).map Yn):=by
      have e9:k+1+(len - k)=len+1:=af
      try rw[e9] at Zb
      simpa using Zb
     obtain⟨a',p',rfl,hT⟩:=bG.fh Zb (HZS.out k);have HT7:=G hT;have HB7:=G Z0;clear Zb ZK Z0 hT hik Γ
     go_wp2
     go_ret
     exact⟨_,_,_,_,rfl,HT7.row,HP.out,Zk HT7.out,HB7.out⟩)
   ·exact QR
  ·obtain⟨Ο,HP⟩:=O0;obtain⟨ρ,hik,Γ⟩:=OW;rcases a with _|⟨b,o,sp⟩
   ·have hl0:len=0:=Classical.byContradiction λhne0=>by
     exact Qo
    obtain rfl:k=0:=af
    subst hl0;by_cases ZZ:cap=0;all_goals (
     go_wp2_with (first|(at_builtin;refine aE rfl _ _ 35 rfl w.heap.size 9 i0 (I ⟨#[]⟩) 1 16 Tryz.underlying35 Y_.1 Y_.2.1 Y_.2.2.1 Y_.2.2.2 rfl ag _ _ _ rfl (ρ.out) _ 0 _ ((zs.take 0).map Yn) rfl oY (λj u hu=>by rw[List.map_take] at hu;obtain⟨g9,o9,e,ZM,h3⟩:=HC.out j u (fJ hu);cases e <;> exact⟨_,rfl,by simp only[Ym];exact (ah (aj w _) ZM).trans h3⟩) (HON.out _) br af aF ?_))
     intro v5 w5 aa ZF
     replace aa:w5.ownsRow w.heap.size 9 1 v5 0 ((zs.take 0).map Yn):=eg
     have ZI:Below w.heap.size w w5:=(aj w (Ze #[] 9)).grown ZF aF (λg hg=>by simp[YK] at hg;omega);obtain⟨s1,s2,s3,rfl⟩:=az aa;have Β:=G aa;have H5:=G ZI;have hs5:=ZI.size;clear aa ZF ZI
     go_wp2_with (first|(at_builtin;refine aE rfl _ _ 35 rfl w.heap.size 9 i0 (I ⟨#[]⟩) 1 16 Tryz.underlying35 Y_.1 Y_.2.1 Y_.2.2.1 Y_.2.2.2 rfl ag _ _ _ rfl (Β.alloc _) _ 1 _ [I t] rfl rfl (λj u hu=>⟨_,rfl,by rw[Ym,Yp,al (heap_alloc_new w5 _)];simpa using hu⟩) dx br af bg ?_))
     intro v6 w6 Zt ZJ;have ZA:Below w.heap.size w w6:=(H5.alloc H5.size _).grown ZJ bg (λg hg=>(Β.lt g hg).1);obtain⟨r1,r2,r3,rfl⟩:=az Zt;have Η:=G Zt;have H6:=G ZA;have hs6:=ZA.size;clear Zt ZJ ZA
     go_wp2_with (first|(at_builtin;refine aE rfl _ _ 35 rfl w.heap.size 9 i0 (I ⟨#[]⟩) 1 16 Tryz.underlying35 Y_.1 Y_.2.1 Y_.2.2.1 Y_.2.2.2 rfl ag _ _ _ rfl (Η.out) _ (0 - 0) _ ((zs.drop 0).map Yn) rfl oX (λj u hu=>by first|(rw[Yw af] at hu;simp at hu;done)|(rw[List.map_drop,YN] at hu;obtain⟨g9,o9,e,ZM,h3⟩:=HC.out _ u hu;cases e <;> exact⟨_,rfl,by simp only[Ym,Nat.add_assoc];exact (ah H6.out ZM).trans h3⟩)) (HON.out _) br af af ?_))
     intro v7 w7 Zb ZK;have Z0:Below w.heap.size w w7:=H6.grown ZK af (λg hg=>(Η.lt g hg).1)
     replace Zb:w7.ownsRow w.heap.size 9 1 v7 (0+1) ((zs.take 0++[t]++zs.drop 0).map Yn):=by
      have e9:0+1+(0 - 0)=0+1:=af
      try rw[e9] at Zb
      simpa using Zb
     obtain⟨a',p',rfl,hT⟩:=bG.fh Zb (HZS.out 0);have HT7:=G hT;have HB7:=G Z0;clear Zb ZK Z0 hT hik Γ
     go_wp2
     go_ret
     exact⟨_,_,_,_,rfl,HT7.row,HP.out,Zk HT7.out,HB7.out⟩)
   by_cases ZZ:cap=k;all_goals (
    go_wp2_with (first|(at_builtin;refine aE rfl _ _ 35 rfl w.heap.size 9 i0 (I ⟨#[]⟩) 1 16 Tryz.underlying35 Y_.1 Y_.2.1 Y_.2.2.1 Y_.2.2.2 rfl ag _ _ _ rfl (ρ.out) _ k _ ((zs.take k).map Yn) rfl oY (λj u hu=>by rw[List.map_take] at hu;obtain⟨g9,o9,e,ZM,h3⟩:=HC.out j u (fJ hu);cases e <;> exact⟨_,rfl,by simp only[Ym];exact (ah (aj w _) ZM).trans h3⟩) (HON.out _) br af aF ?_))
    intro v5 w5 aa ZF
    replace aa:w5.ownsRow w.heap.size 9 1 v5 k ((zs.take k).map Yn):=eg
    have ZI:Below w.heap.size w w5:=(aj w (Ze #[] 9)).grown ZF aF (λg hg=>by simp[YK] at hg;omega);obtain⟨s1,s2,s3,rfl⟩:=az aa;have Β:=G aa;have H5:=G ZI;have hs5:=ZI.size;clear aa ZF ZI
    go_wp2_with (first|(at_builtin;refine aE rfl _ _ 35 rfl w.heap.size 9 i0 (I ⟨#[]⟩) 1 16 Tryz.underlying35 Y_.1 Y_.2.1 Y_.2.2.1 Y_.2.2.2 rfl ag _ _ _ rfl (Β.alloc _) _ 1 _ [I t] rfl rfl (λj u hu=>⟨_,rfl,by rw[Ym,Yp,al (heap_alloc_new w5 _)];simpa using hu⟩) dx br af bg ?_))
    intro v6 w6 Zt ZJ;have ZA:Below w.heap.size w w6:=(H5.alloc H5.size _).grown ZJ bg (λg hg=>(Β.lt g hg).1);obtain⟨r1,r2,r3,rfl⟩:=az Zt;have Η:=G Zt;have H6:=G ZA;have hs6:=ZA.size;clear Zt ZJ ZA
    go_wp2_with (first|(at_builtin;refine aE rfl _ _ 35 rfl w.heap.size 9 i0 (I ⟨#[]⟩) 1 16 Tryz.underlying35 Y_.1 Y_.2.1 Y_.2.2.1 Y_.2.2.2 rfl ag _ _ _ rfl (Η.out) _ (len - k) _ ((zs.drop k).map Yn) rfl oX (λj u hu=>by first|(rw[Yw af] at hu;simp at hu;done)|(rw[List.map_drop,YN] at hu;obtain⟨g9,o9,e,ZM,h3⟩:=HC.out _ u hu;cases e <;> exact⟨_,rfl,by simp only[Ym,Nat.add_assoc];exact (ah H6.out ZM).trans h3⟩)) (HON.out _) br af af ?_))
    intro v7 w7 Zb ZK;have Z0:Below w.heap.size w w7:=H6.grown ZK af (λg hg=>(Η.lt g hg).1)
    replace Zb:w7.ownsRow w.heap.size 9 1 v7 (len+1) ((zs.take k++[t]++zs.drop k).map Yn):=by
     have e9:k+1+(len - k)=len+1:=af
     try rw[e9] at Zb
     simpa using Zb
    obtain⟨a',p',rfl,hT⟩:=bG.fh Zb (HZS.out k);have HT7:=G hT;have HB7:=G Z0;clear Zb ZK Z0 hT hik Γ
    go_wp2
    go_ret
    exact⟨_,_,_,_,rfl,HT7.row,HP.out,Zk HT7.out,HB7.out⟩)
theorem Fv.Own.alo {w':World} {h:Nat} {f:Fv} {v:Value} (k:f.Own w h S g v) (hk:h<w.heap.size->S h->w'.heap[h]?=w.heap[h]?):f.Own w' h S g v:=by
 cases f with
 | l zs=>
  obtain⟨a',l',c',h1,h2,h3,h4,h5,h6⟩:=k;refine⟨a',l',c',h1,h2,h3,h4,h5,h6.imp id ?_⟩;rintro⟨q1,q2,q3,cu,q4,q5⟩;exact⟨q1,q2,q3,cu,(hk (ae q4) q2).trans q4,q5⟩
 | _=>exact k
theorem eI.anB {len m:Nat} {rs:List (List Fv)} {cur:Array Value} (h:eI w g m T rs S cur H) (hS:∀k,S k->B<=k) (hl:rs.length=len) (hlc:len<=cap) (hcm:cap<=9223372036854775807) {i j:Nat} {r:List Fv} {old:Fv} (hi:rs[i]?=M r) (hj:r[j]?=M old)
  {va:Option Addr} {vl vc:Nat} {zs:List ByteArray} (hz:aw w va vl vc zs) (ZE:∀b o,va=M ⟨b,o,J⟩->zs≠[]->¬b=g/\B<=b) (hW:∀k,B<=k->k<w.heap.size->W.heap[k]?=(w.setCell ⟨g,i*m+j,J⟩ (U va vl vc)).heap[k]?):aV W (M ⟨g,0,J⟩) len cap m (rs.set i (r.set j (.l zs))):=by
 have Zo:i<rs.length:=(Yc.1 hi).1;have hil:j<r.length:=(Yc.1 hj).1;have hrm:=h.len i r hi;have hgB:=hS g h.inS;have Z3:=(hW g hgB (ae h.blk)).trans (an h.blk _);obtain⟨v0,hc0,-⟩:=h.cell i r hi j _ hj;have Z6:i*m+j<cur.size:=(YA.1 hc0).1;refine⟨by rw[List.length_set];exact hl,hlc,hcm,Zk ⟨g,0,rfl,ae Z3,λj' r' Λ i' f' hi'=>?_⟩⟩;rw[Yp];rcases e_ (r:=r) Zo hil Λ hi' with ⟨rfl,rfl,rfl⟩|⟨ar4,r0,q1,q2⟩
 ·refine⟨U va vl vc,?_,va,vl,vc,rfl,?_⟩
  ·rw[al Z3,Array.getElem?_setIfInBounds_self_of_lt Z6]
  ·obtain⟨h1,h2,h3,h4,h5⟩:=hz;refine⟨h1,h2,h3,h4,?_⟩;by_cases hzn:zs=[]
   ·exact Zl hzn
   ·rcases h5 with h5|⟨b,o,rfl,Zo,hc⟩
    ·exact Zl h5
    ·obtain⟨hbg,hbB⟩:=ZE b o rfl hzn;have e:=(hW b hbB Zo).trans (Ya _ _ _ _ hbg);have hs:W.heap[b]?=M (w.heap[b]'Zo):=e.trans (Array.getElem?_eq_getElem Zo);refine Zk ⟨b,o,rfl,(YA.1 hs).1,λk x hx=>?_⟩;have:=hc k x hx;simp only[YX,e] at this ⊢;exact this
 ·rw[rV hi] at q1;obtain⟨v',k1,k2⟩:=h.cell j' r0 q1 i' f' q2;have awV:i'<r0.length:=(Yc.1 q2).1;have awW:=h.len j' r0 q1;refine⟨v',?_,((k2.jF (k:=i*m+j) (v:=U va vl vc)).alo (w':=W) (λhl s=>hW _ (hS _ s) (by simpa using hl))).is⟩;rw[al Z3,Array.getElem?_setIfInBounds_ne (λe2=>ar4 ahA)];exact k1
theorem dw.volC {wz:World} {d:Ad} {va:Option Addr} {vl vc:Nat} {C:Nat} (ho:dw w2 d c.raw (λk=>B<=k)) (hC:C<=B) (hd:d.a3=M ⟨g,0,J⟩) (hv:c.vs[i]?=M v) (hB:B<=w2.heap.size) (hb:Below w2.heap.size w2 wz) (hz:aw wz va vl vc zs) (ZP:∀b o,va=M ⟨b,o,J⟩->zs≠[]->w2.heap.size<=b)
  (hW:∀k,B<=k->k<wz.heap.size->W.heap[k]?=(wz.setCell ⟨g,i*8+7,J⟩ (U va vl vc)).heap[k]?):kF C W d (wv c i (onV v zs)).raw:=by
 have hvi:(c.vs.map vdF)[i]?=M (vdF v):=by rw[Yt,hv];rfl
 obtain⟨v1,v2,v3,v4⟩:=ho.v;rcases v4 with v4|⟨g',cur,H,e,Zc⟩
 ·have h9:c.vs.map vdF=[]:=v4;rw[h9] at hvi;cases hvi
 rw[hd] at e;obtain rfl:g=g':=by cases e;rfl
 have hg:=ae Zc.blk;have hk:∀k,B<=k->¬k=g->k<w2.heap.size->W.heap[k]?=w2.heap[k]?:=λk h1 h2 h3=>by rw[hW k h1 (Yl h3 hb.size),Ya _ _ _ _ h2,hb.block k h3]
 have hR:=(Zc.ay (w':=wz) (S':=λk=>B<=k) (λk hk _=>hb.block k hk) (λ_ _ s=>s)).anB (W:=W) (B:=B) (i:=i) (j:=7) (λ_ s=>s) v1 v2 v3 hvi rfl hz (λb o e hn=>⟨λq=>by have:=ZP b o e hn;omega,by have:=ZP b o e hn;omega⟩) hW;have hvs:(Rc.wv c i (onV v zs)).raw.v=(c.vs.map vdF).set i ((vdF v).set 7 (.l zs)):=by
  show (c.vs.set i (onV v zs)).map vdF=_;rw[List.map_set];rfl
 refine⟨?_,?_,?_,?_,?_⟩
 ·exact ((ho.n.dZ Zc.blk ag ag).ay (w':=W) (S':=λk=>B<=k) (λk hk' s=>hk k s.1 s.2 hk') (λ_ _ s=>s.1)).rl (λk s=>Yo hC s)
 ·exact ((ho.k.dZ Zc.blk ag ag).ay (w':=W) (S':=λk=>B<=k) (λk hk' s=>hk k s.1 s.2 hk') (λ_ _ s=>s.1)).rl (λk s=>Yo hC s)
 ·rw[hvs,hd];exact⟨hR,Zk ⟨g,0,rfl,Yo hC Zc.inS,_,_,(hW g Zc.inS (Yl hg hb.size)).trans (an ((hb.block g hg).trans Zc.blk) _)⟩⟩
 ·exact ((ho.x.dZ Zc.blk ag ag).ay (w':=W) (S':=λk=>B<=k) (λk hk' s=>hk k s.1 s.2 hk') (λ_ _ s=>s.1)).rl (λk s=>Yo hC s)
 ·exact ((ho.p.dZ Zc.blk ag ag).ay (w':=W) (S':=λk=>B<=k) (λk hk' s=>hk k s.1 s.2 hk') (λ_ _ s=>s.1)).rl (λk s=>Yo hC s)
theorem dw.anF {d:Ad} (ho:dw w2 d c.raw (λk=>B<=k)) (hv:c.vs[i]?=M v):∃g cs,d.a3=M ⟨g,0,J⟩/\B<=g/\w2.heap[g]?=M (Ze cs 37 (0,0))/\(∃a l p,cs[i*8+7]?=M (U a l p)/\aw w2 a l p v.zs):=by
 have hvi:(c.vs.map vdF)[i]?=M (vdF v):=by rw[Yt,hv];rfl
 obtain⟨v1,v2,v3,v4⟩:=ho.v;rcases v4 with v4|⟨g,cur,H,e,Zc⟩
 ·have h9:c.vs.map vdF=[]:=v4;rw[h9] at hvi;cases hvi
 obtain⟨u,hu,a,l,p,rfl,h5⟩:=Zc.cell i (vdF v) hvi 7 (.l v.zs) rfl;exact⟨g,cur,e,Zc.inS,Zc.blk,a,l,p,hu,CE.row (h:=H i 7) (S:=λk=>B<=k) (g:=g) ⟨a,l,p,rfl,h5⟩⟩
theorem aiS {q:Qd} (h:Xn c k q):∃(i:Nat) (v:Vd),c.vs[i]?=M v/\v.n=q.n/\q.d∈v.zs:=by
 obtain⟨i,v,_,h1,j,t,_,h2,_,_,rfl⟩:=h;exact⟨i,v,h1,rfl,Yv h2⟩
theorem yH(d:Ad) (c:Cl) (x:Qd) (i j:Nat) (v:Vd) (n:Nd) (w:World) (hr:aA w d c.raw) (hT:au c) (hv:c.vs[i]?=M v) (hvn:v.n=x.n) (hn:c.ns[j]?=M n) (hnn:n.n=x.d) (r:Bool) (h:r=Zi↔yu c v n):
  Calls Tryz.prog 145 #[Zj (Zs d c.now),Zj #[I x.n,I x.d]] w λe w'=>e=Zh (Zf r)/\Below w.heap.size w w':=by
 unfold Zs;refine (C9 d c x i j v n w hr hT hv hvn hn hnn).mono ?_;exact O8
def ahh(W:World) (t:ByteArray) (zs:List ByteArray):Fact:=λv w=> ∃a' l' c' ys,v=U a' l' c'/\bG w a' l' c' ys (λk=>W.heap.size<=k)/\Put t zs ys
theorem ahh.mono(W:World) (t:ByteArray) (zs:List ByteArray):Fact.bT (ahh W t zs):=by
 rintro v w w' ⟨a',l',c',ys,h1,h2,h3⟩ hb;exact⟨a',l',c',ys,h1,h2.below hb,h3⟩
def ahk(W:World) (zs:List ByteArray):Fact:=λv w=> ∃a' l' c',v=U a' l' c'/\bG w a' l' c' zs (λk=>W.heap.size<=k)
theorem ahk.mono(W:World) (zs:List ByteArray):Fact.bT (ahk W zs):=by
 rintro v w w' ⟨a',l',c',h1,h2⟩ hb;exact⟨a',l',c',h1,h2.below hb⟩
theorem yI(d:Ad) (c:Cl) (w:World) (hr:aA w d c.raw):
  Calls Tryz.prog 87 #[Zj (Zs d c.now)] w (jw (kG c) w):=by
 unfold Zs;obtain⟨a1,l1,y1,a2,l2,y2,a3,l3,y3,a4,l4,y4,a5,l5,y5⟩:=d;dsimp only;have HR:=G hr;obtain⟨hl3,hm3⟩:=o_;clear hr;have HB:=G (Yh w.heap.size w);go_enter Tryz.func87,Tryz.ntmps87
 go_wp2_with fail;refine (cI ⟨a1,l1,y1,a2,l2,y2,a3,l3,y3,a4,l4,y4,a5,l5,y5⟩ c _ (HR.below (HB.trans ((aM _ _ _).mono HB.size)))).mono ?_;rintro e w1 ⟨r,rfl,hi,hb⟩
 obtain⟨ZD,Ν,Zr⟩:=dK hb;obtain⟨Bk,Br⟩:=wX;replace HB:=upB HB Zr;clear hb Zr ZD Ν
 have HI:=G hi;clear hi;cases r
 ·have HV:Hid (kG c (co0 1)):=Zl ⟨λh=>(by have h9:=HI.2 h;cases h9),rfl⟩;obtain⟨k0,k1,k2,k3,k4,k5⟩:=cs6 Bk;go_wp2_with fail;refine (aI 1 _).mono ?_;rintro e w2 ⟨rfl,hb⟩;clear k0 k1 k2 k3 k4 k5;replace Bk:=upK Bk hb
  replace Br:=upK Br hb;replace HB:=upB HB hb;clear hb;obtain⟨r0,r1,r2,r3,r4,r5,r6,r7⟩:=cs8 Br
  obtain⟨ZR,ZS,ZT,ZU,ZV,ZY,Z1,Z2⟩:=dD;go_wp2;exact bodyPost_ret (v:=Zj #[U J 0 0,U J 0 0,U J 0 0,U J 0 0,U J 0 0,V O 0,I ⟨#[]⟩,V O 1]) (by simp[results,Tryz.results87,go_sem, *]) rfl ⟨ad0,co0 1,rfl,HV.out,(rl0 _ _),sb1 (sb1 (sb1 (sb1 (sb1 (sb1 (sb1 (sb1 (HB.out))))))))⟩
 have HT:=G (HI.1 bU);obtain⟨k0,k1,k2,k3,k4,k5⟩:=cs6 Bk;go_wp2_with fail
 have HLO:=G HB.size;refine (cZ ⟨a1,l1,y1,a2,l2,y2,a3,l3,y3,a4,l4,y4,a5,l5,y5⟩ c _ (HR.below HB.out) HT.sm).mono ?_
 rintro e w2 ⟨d',rfl,ho,hb⟩;have ν:=G hb.size;have HQ1:=G (ae Br.out)
 clear k0 k1 k2 k3 k4 k5
 replace Bk:=upK Bk hb;replace Br:=upK Br hb;replace HB:=upB HB hb;clear hb
 obtain⟨x1,m1,n1,x2,m2,n2,x3,m3,n3,x4,m4,n4,x5,m5,n5⟩:=d';have hm3:l3=m3:=by have h6:(c.vs.map vdF).length=m3:=ho.v.1;rw[Yq] at h6;omega
 subst hm3;have HO:=G ho;have HY:Hid (Bw w2 w2):=Bw.refl _;clear ho
 obtain⟨k0,k1,k2,k3,k4,k5⟩:=cs6 Bk;have aoG:=ae Bk.out
 go_wp2_with fail
 refine (C6 ⟨a1,l1,y1,a2,l2,y2,a3,l3,y3,a4,l4,y4,a5,l5,y5⟩ c _ (HR.below (HB.trans ((aj _ _).mono HB.size))) HT.out).mono ?_;rintro e w3 ⟨ea,el,ec,es,rfl,ho,hrq,aoa,hle,hb⟩;clear k0 k1 k2 k3 k4 k5 aoG;obtain⟨ZD,Zr⟩:=aY hb;replace Bk:=upK Bk Zr;replace Br:=upK Br Zr;have Bo:=G ZD;replace HY:=G (HY.below Zr);replace HB:=upB HB Zr;clear hb Zr ZD;have HEB:Hid (∀b o,ea=M ⟨b,o,J⟩->0<el->w2.heap.size<b):=λb o e hp=>by
  obtain⟨h1,-,-,h4⟩:=ho;rcases h4 with h4|⟨g',cur,H,e',Zc⟩
  ·rw[h4] at h1;simp at h1;omega
  ·rw[e] at e';cases e';have h5:=Zc.inS;simp at h5;omega
 have HQ3:Hid (w2.heap.size<w3.heap.size):=ae Bo.out;have HER:=G ho.row;have hel:es.length=el:=by simpa using ho.row.1
 have HES:=G (Yb hrq aoa);clear ho hrq aoa;by_cases he0:0<el
 ·have hei:(0:Int)<el:=af
  obtain⟨b,o,y,rfl,Z3,hy,Zc⟩:=pg HER.out he0;obtain⟨-,-,hc0,hc1⟩:=fV Zc;have HY0:=G hy;obtain⟨i,v,hv,hvn,hvd⟩:=aiS ((HES.2 y).1 (Yv hy));have HV0:=G hv;have HVN:=G hvn;have hi3:i<l3:=by have:=(Yc.1 hv).1;omega
  clear Zc hy hv hvn hvd;have hy0:w3.cell? ⟨b,o,J⟩=M (I y.n):=by simpa using hc0
  have hy1:w3.cell? ⟨b,o+1,J⟩=M (I y.d):=by simpa using hc1
  have HY1:=G hy1;have HYN:=G hy0;have HYB:=G Z3;have azm:v.zs.length<=64:=by have:=(HT.on HV0.out).1;omega
  clear hc0 hc1 hy1
  obtain⟨k0,k1,k2,k3,k4,k5⟩:=cs6 Bk;obtain⟨o0,o1,o2,o3,o4,o5⟩:=cs6 Bo;go_wp2_with fail;clear k0 k1 k2 k3 k4 k5 o0 o1 o2 o3 o4 o5;have Gk:=Bk;have Gr:=Br;have Go:=Bo;have HW:=HB;obtain⟨k0,k1,k2,k3,k4,k5⟩:=sl6 Gk
  have yn:=λq:Wd w3=>(q.cell Z3).trans hy0;have hne0:=Wd.ne w3;have Zv:=G (λq:Wd w3=>eA ⟨a1,l1,y1,a2,l2,y2,a3,l3,y3,a4,l4,y4,a5,l5,y5⟩ c.now c.vs y.n q.w (HR.v.below (HW.trans (q.b.mono HW.size))) HT.2.1.2.2.1.2.2 HV0.out HVN.out)
  go_wp2_with fail;refine cA aW aW ?_
  repeat (go_big_quiet_step (first|(go_at_call 64;exact Calls.wide (Zv.out _))|fail))
  refine wpQuiet_nil ?_
  rintro _ ⟨q1,rfl⟩;obtain⟨HB,Bk⟩:=fB;have Br:=upK Gr q1.b;have Bo:=upK Go q1.b;have HY:=G ((HY.out).below q1.b);clear hne0 k0 k1 k2 k3 k4 k5 yn hy0 Z3
  obtain⟨g,cs,hd3,hgB,Δ,ga,gl,gp,hgc,hgt⟩:=HO.anF HV0.out;have ayI:x3=M ⟨g,0,J⟩:=hd3;subst ayI;have hgs:=ae Δ;have HGB:=G Δ;have HGC:=G hgc
  obtain⟨b3,o3,v',e3,Zy,hx3,Zc⟩:=bY (HR.v.below HB.out) hi3;have e3':a3=M ⟨b3,o3,J⟩:=e3;subst e3';rw[HV0.out] at hx3;obtain rfl:=Yd hx3;obtain⟨va,vl,vc,Zx,-,-,-,-,-,-,-,-,-,-,-,hc7⟩:=bm Zc;have HC7:=G hc7;have σ:=G Zx;have axa:=G Zy;have axb:vl<=64:=by have h1:v.zs.length=vl:=σ.1;omega
  have aug:Hid (w2.heap.size<b):=HEB.out b o rfl he0;have ayF:(i:Int)<l3:=af
  have ayG:¬(i:Int)<0:=af
  clear hd3 Δ hgc hgt Zc hx3 hc7 Zx Zy;obtain⟨W,θ⟩:∃W,W=q1.w:=⟨_,rfl⟩;rw[<-θ] at HB HY Bk Br Bo HC7 σ axa;have HYW:Hid (W.cell? ⟨b,o+1,J⟩=M (I y.d)):=by
   rw[θ];exact (q1.cell HYB.out).trans HY1.out
  have HYV:Hid (W.cell? ⟨b,o,J⟩=M (I y.n)):=by
   rw[θ];exact (q1.cell HYB.out).trans HYN.out
  have aq5:Hid (b<W.heap.size):=by rw[θ];exact Yl HYB.out q1.b.size
  go_wp2_with fail;rw[<-θ];clear θ
  rename_i K0 hK0;refine Gt.bS aW rfl rfl aW ?_;refine Grow.aK ?_
  refine Grow.aO Bo.out ?_;iterate 2 refine Grow.aK ?_
  refine Grow.aO Bk.out ?_;iterate 3 refine Grow.aK ?_
  refine' Grow.stepC _ rfl ?_ ?_;rotate_left 1
  ·refine Obl.plain rfl ?_;intro ac wg K Zq hW hf hK;clear Zq;have e33:=hf 33 ag;simp[slotFact,Yg] at e33;clear hf;have c7:=(ah hW axa.out).trans HC7.out;exact dE
  iterate 3 refine Grow.aK ?_
  refine' Grow.stepC _ rfl ?_ ?_;rotate_left 1
  ·refine Obl.plain rfl ?_;intro ac wg K Zq hW hf hK;clear Zq;have e37:=hf 37 ag;simp[slotFact,Yg] at e37;clear hf;have c7:=(ah hW aq5.out).trans HYW.out;exact dE
  refine Grow.step (ahk W (wo (λs:ByteArray=>s) y.d v.zs)) rfl (ahk.mono W (wo (λs:ByteArray=>s) y.d v.zs)) ?_ ?_
  ·refine Obl.plain rfl ?_;intro ac wg K Zq hW hf hK;clear Zq;have e34:=hf 34 ag;simp[slotFact,Yg] at e34
   have e38:=hf 38 ag;simp[slotFact,Yg] at e38;clear hf;go_simp;refine (CO va vl vc v.zs y.d _ (σ.below hW) axb).mono ?_;rintro e w6 ⟨sa,sl,sc,rfl,ho6,ZA⟩;have hs6:=hW.size;exact hK _ _ ZA ⟨sa,sl,sc,rfl,ho6.ay (λ_ _ _=>rfl) (λk _ s=>by have s1:wg.heap.size<=k:=s;show W.heap.size<=k;omega)⟩
  iterate 2 refine Grow.aK ?_
  refine Grow.done ?_;intro q wz hW hf;simp only[YL] at hf
  obtain⟨h41,h40,h39,h38,h37,h36,h35,h34,h33,h32,h31,h30,h29,h28,h27,h26,-⟩:=hf;obtain⟨sa,sl,sc,ayB,hto⟩:=h39;have HTO:=G hto;have HWZ:=G hW;have hwg:=((HY.out.trans (hW.mono HY.le)).block g hgs).trans HGB.out;have hfz:=ak hwg (i*8+7);have hcz:=(al hwg _).trans HGC.out;clear hto;intro K hK;rw[if_pos cF];simp only[aL,YQ,Y0,Yr,Yx,Yy,h41,h40,h38,h37,h36,h35,h34,h33,h32,h31,h30,h29,h28,h27,h26,ayB]
  simp only[List.getLast];go_simp;refine hK _ _ ?_;refine hK0 _ _ ?_;clear hK hK0 K K0
  obtain⟨W5,hW5⟩:∃W5,W5=wz.setCell ⟨g,i*8+7,J⟩ (U sa sl sc):=⟨_,rfl⟩;rw[<-hW5];obtain⟨hq1,Τ,Zq,Ρ,aw_,Br5,Bo5⟩:=amj
  have awn:Hid (W5.cell? ⟨b,o,J⟩=M (I y.n)):=by
   exact Ra
  have awm:Hid (b<W5.heap.size):=by have:=aq5.out;show b<_;omega
  have atu:=(HT.2.1.2.2.1.2.1 i v HV0.out).1.2.1;rw[HVN.out] at atu;have hn4:¬9223372036854775807<4+y.n.size:=af
  clear hfz hcz hwg atu;go_wp2_with fail
  rename_i K0 hK0;refine bS aW rfl rfl aW ?_
  refine Grow.aO Bo5.out ?_;iterate 3 refine Grow.aK ?_
  refine' Grow.stepC _ rfl ?_ ?_;rotate_left 1
  ·refine Obl.plain rfl ?_;intro ac wg K Zq hW hf hK;clear Zq;have e45:=hf 45 ag;simp[slotFact,Yg] at e45;clear hf;have c7:=(ah hW awm.out).trans awn.out;exact dE
  iterate 2 refine Grow.aK ?_
  refine Grow.done ?_;intro q wy hW hf;simp only[YL] at hf
  obtain⟨h48,h47,h46,h45,h44,h43,h42,-⟩:=hf;have Br6:=upK Br5 hW;have HWY:=G hW
  obtain⟨r0,r1,r2,r3,r4,r5,r6,r7⟩:=cs8 Br6;obtain⟨ZR,ZS,ZT,ZU,ZV,ZY,Z1,Z2⟩:=ahY;intro K hK;rw[if_pos cF]
  simp only[aL,YQ,Y0,Yr,Yx,Yy,h48,h47,h46,h45,h44,h43,h42]
  simp only[List.getLast];go_simp;refine hK _ _ ?_;refine hK0 _ _ ?_;clear hK hK0 K K0
  have HV:Hid (kG c ⟨wv c i (onV v (wo (λs:ByteArray=>s) y.d v.zs)),BC++y.n,0⟩):=Zk (Zl ⟨HT.out,es,y,i,v,HES.out,HY0.out,HV0.out,HVN.out,by rw[HVN.out]⟩);go_wp2;have hlo:=HLO.out;refine bodyPost_ret (v:=Zj #[U x1 m1 n1,U x2 m2 n2,U (M ⟨g,0,J⟩) l3 n3,U x4 m4 n4,U x5 m5 n5,V O c.now,I (BC++y.n),V O 0]) (by simp[results,Tryz.results87,go_sem, *];rfl) rfl ⟨⟨x1,m1,n1,x2,m2,n2,M ⟨g,0,J⟩,l3,n3,x4,m4,n4,x5,m5,n5⟩,⟨wv c i (onV v (wo (λs:ByteArray=>s) y.d v.zs)),BC++y.n,0⟩,rfl,HV.out,?_,sb1 (sb1 (sb1 (sb1 (sb1 (sb1 (sb1 (sb1 (Ρ.trans (HWY.mono Ρ.size)))))))))⟩;exact PK
 have hei:¬(0:Int)<el:=af
 have HNX:Hid (∀q,¬Xn c c.vs.length q):=λq hq=>by
  have h1:=(HES.2 q).2 hq;obtain⟨j,hj⟩:=YG h1;have:=(Yc.1 hj).1;omega
 obtain⟨k0,k1,k2,k3,k4,k5⟩:=cs6 Bk;obtain⟨o0,o1,o2,o3,o4,o5⟩:=cs6 Bo;go_wp2_with fail;refine (my ⟨a1,l1,y1,a2,l2,y2,a3,l3,y3,a4,l4,y4,a5,l5,y5⟩ c _ (HR.below HB.out) HT.out).mono ?_;rintro e w4 ⟨wa,wl,wc,ws,rfl,ho,hrq,aoa,hle,hb⟩;clear k0 k1 k2 k3 k4 k5 o0 o1 o2 o3 o4 o5;replace Bk:=upK Bk hb;replace Br:=upK Br hb;replace Bo:=upK Bo hb;replace HY:=G (HY.below hb);replace HB:=upB HB hb;clear hb;have HEB:Hid (∀b o,wa=M ⟨b,o,J⟩->0<wl->w3.heap.size<b):=λb o e hp=>by
  obtain⟨h1,-,-,h4⟩:=ho;rcases h4 with h4|⟨g',cur,H,e',Zc⟩
  ·rw[h4] at h1;simp at h1;omega
  ·rw[e] at e';cases e';have h5:=Zc.inS;omega
 have HER:=G ho.row;have hwl:ws.length=wl:=by simpa using ho.row.1
 have HES:=G (Yb hrq aoa);clear ho hrq aoa;obtain⟨k0,k1,k2,k3,k4,k5⟩:=cs6 Bk;obtain⟨o0,o1,o2,o3,o4,o5⟩:=cs6 Bo;go_wp2;clear k0 k1 k2 k3 k4 k5 o0 o1 o2 o3 o4 o5;go_loopw [7] (λvi wr=> ∃k:Nat,k<=wl/\vi=V O k/\Hid (lakL c (ws.take k)=[])/\Hid (Below w4.heap.size w4 wr)) (λvi _=>wl - (intOf vi).toNat);case atStart=>exact⟨0,by omega,rfl,rfl,Yh _ _⟩
 case round=>
  obtain⟨k,hk,rfl,HLK,HL⟩:=hrel;replace Bk:=G ((HL.block _ (ae Bk.out)).trans Bk.out);replace Br:=G ((HL.block _ (ae Br.out)).trans Br.out);replace Bo:=G ((HL.block _ (ae Bo.out)).trans Bo.out);replace HY:=G (HY.below HL.out);replace HB:=G (HB.trans (HL.mono HB.size));have hLs:=HL.size;by_cases Zo:k<wl
  ·have Ο:(k:Int)<wl:=af
   have hk0:¬(k:Int)<0:=af
   obtain⟨b,o,y,rfl,Z3,hy,Zc⟩:=pg (HER.below HL.out) Zo;obtain⟨-,hzd,hc0,hc1⟩:=fV Zc;have HY0:=G hy;obtain⟨i,j,v,n,g1,g2,g3,g4⟩:=aiU HT.out ((HES.2 y).1 (Yv hy));have HV0:=G g1;have HVN:=G g2;have HNJ:=G (Yb g3 g4);have HCI:=G (yt.iff HT.out g1 g2 g3 g4);have hi3:i<l3:=by have:=(Yc.1 g1).1;omega
   have aug:Hid (w3.heap.size<b):=HEB.out b o rfl af;have HYN:=G hc0;have HY1:=G hc1;have HYB:=G Z3;have HZD:=G hzd;clear Zc hy g1 g2 g3 g4 hzd;by_cases hcan:yu c v n;rotate_left
   ·have HN:Hid (lakL c (ws.take (k+1))=lakL c (ws.take k)):=aln HY0.out (λh=>hcan (HCI.1 h));have HCB:Hid (¬yu c v n):=hcan
    obtain⟨k0,k1,k2,k3,k4,k5⟩:=cs6 Bk;obtain⟨o0,o1,o2,o3,o4,o5⟩:=cs6 Bo;go_wp2_with fail;clear k0 k1 k2 k3 k4 k5 o0 o1 o2 o3 o4 o5;have Gk:=Bk;have Gr:=Br;have Go:=Bo;have HW:=HB;obtain⟨k0,k1,k2,k3,k4,k5⟩:=sl6 Gk
    have yn:=λq:Wd wr=>(q.cell Z3).trans hc0;have yd:=λq:Wd wr=>(q.cell Z3).trans hc1;have hne0:=Wd.ne wr;have Zv:=G (λq:Wd wr=>yH ⟨a1,l1,y1,a2,l2,y2,a3,l3,y3,a4,l4,y4,a5,l5,y5⟩ c y i j v n q.w (HR.below (HW.trans (q.b.mono HW.size))) HT.out HV0.out HVN.out HNJ.1 HNJ.2 Zg ⟨λh=>bJ,λh=>absurd h HCB.out⟩)
    go_wp2_with fail;refine cA aW aW ?_
    repeat (go_big_quiet_step (first|(go_at_call 145;exact Calls.wide (Zv.out _))|fail))
    refine wpQuiet_nil ?_;rintro _ ⟨q1,rfl⟩;obtain⟨HB,Bk⟩:=fB;have Br:=upK Gr q1.b;have Bo:=upK Go q1.b;have HY:=G ((HY.out).below q1.b);clear hne0 k0 k1 k2 k3 k4 k5 yn yd Z3 hc0 hc1
    obtain⟨k0,k1,k2,k3,k4,k5⟩:=cs6 Bk;obtain⟨o0,o1,o2,o3,o4,o5⟩:=cs6 Bo;go_wp2;refine⟨⟨k+1,by omega,by go_num,?_,HL.trans (q1.b.mono hLs)⟩,by simp[intOf];omega⟩;rw[HN.out];exact HLK
   have HF:Hid ((lakL c ws)[0]?=M y):=Cb HY0.out (HCI.2 hcan) HLK.out;have HCB:Hid (yu c v n):=hcan;have HCN:Hid (¬y.d∈v.zs):=λh9=>hcan.1 (by obtain⟨q,hq⟩:=YG h9;rw[HNJ.2];exact⟨q,hq⟩);clear hcan
   obtain⟨k0,k1,k2,k3,k4,k5⟩:=cs6 Bk;obtain⟨o0,o1,o2,o3,o4,o5⟩:=cs6 Bo;go_wp2_with fail;clear k0 k1 k2 k3 k4 k5 o0 o1 o2 o3 o4 o5;have Gk:=Bk;have Gr:=Br;have Go:=Bo;have HW:=HB;obtain⟨k0,k1,k2,k3,k4,k5⟩:=sl6 Gk
   have yn:=λq:Wd wr=>(q.cell Z3).trans hc0;have yd:=λq:Wd wr=>(q.cell Z3).trans hc1;have hne0:=Wd.ne wr;have Zv:=G (λq:Wd wr=>yH ⟨a1,l1,y1,a2,l2,y2,a3,l3,y3,a4,l4,y4,a5,l5,y5⟩ c y i j v n q.w (HR.below (HW.trans (q.b.mono HW.size))) HT.out HV0.out HVN.out HNJ.1 HNJ.2 Zi ⟨λ_=>HCB.out,λ_=>rfl⟩)
   go_wp2_with fail;refine cA aW aW ?_
   repeat (go_big_quiet_step (first|(go_at_call 145;exact Calls.wide (Zv.out _))|fail))
   refine wpQuiet_nil ?_;rintro _ ⟨q1,rfl⟩;obtain⟨HB,Bk⟩:=fB;have Br:=upK Gr q1.b;have Bo:=upK Go q1.b;have HY:=G ((HY.out).below q1.b);clear hne0 k0 k1 k2 k3 k4 k5 yn yd Z3 hc0 hc1
   have apd:=Yl HYB.out q1.b.size;have hy0:=(q1.cell HYB.out).trans HYN.out;have ayD:=G hy0;have awo:=G apd;have ayE:Hid (q1.w.cell? ⟨b,o+k*2+1,J⟩=M (I y.d)):=(q1.cell HYB.out).trans HY1.out
   obtain⟨k0,k1,k2,k3,k4,k5⟩:=cs6 Bk;obtain⟨o0,o1,o2,o3,o4,o5⟩:=cs6 Bo;go_wp2_with fail;clear k0 k1 k2 k3 k4 k5 o0 o1 o2 o3 o4 o5;have Gk:=Bk;have Gr:=Br;have Go:=Bo;have HW:=HB;obtain⟨k0,k1,k2,k3,k4,k5⟩:=sl6 Gk
   have yn:=λq:Wd q1.w=>(q.cell apd).trans hy0;have hne0:=Wd.ne q1.w;have Zv:=G (λq:Wd q1.w=>eA ⟨a1,l1,y1,a2,l2,y2,a3,l3,y3,a4,l4,y4,a5,l5,y5⟩ c.now c.vs y.n q.w (HR.v.below (HW.trans (q.b.mono HW.size))) HT.2.1.2.2.1.2.2 HV0.out HVN.out)
   go_wp2_with fail;refine cA aW aW ?_
   repeat (go_big_quiet_step (first|(go_at_call 64;exact Calls.wide (Zv.out _))|fail))
   refine wpQuiet_nil ?_
   rintro _ ⟨q2,rfl⟩;have HB:=upB HW q2.b;have Bk:=upK Gk q2.b;have Br:=upK Gr q2.b;have Bo:=upK Go q2.b;have HY:=G ((HY.out).below q2.b);clear hne0 k0 k1 k2 k3 k4 k5 yn hy0 apd
   obtain⟨g,cs,hd3,hgB,Δ,ga,gl,gp,hgc,hgt⟩:=HO.anF HV0.out;have ayI:x3=M ⟨g,0,J⟩:=hd3;subst ayI;have hgs:=ae Δ;have HGB:=G Δ;have HGC:=G hgc
   have HGT:=G hgt;have axe:gl<=64:=by have h1:v.zs.length=gl:=hgt.1;have:=(HT.on HV0.out).1;omega
   have ayF:(i:Int)<l3:=af
   have ayG:¬(i:Int)<0:=af
   clear hd3 Δ hgc hgt;obtain⟨W,θ⟩:∃W,W=q2.w:=⟨_,rfl⟩;rw[<-θ] at HB HY Bk Br Bo;have HYW:Hid (W.cell? ⟨b,o+k*2+1,J⟩=M (I y.d)):=by
    rw[θ];exact (q2.cell awo.out).trans ayE.out
   have HYV:Hid (W.cell? ⟨b,o+k*2,J⟩=M (I y.n)):=by
    rw[θ];exact (q2.cell awo.out).trans ayD.out
   have aq5:Hid (b<W.heap.size):=by rw[θ];exact Yl awo.out q2.b.size
   replace aug:Hid (w2.heap.size<b):=by have h1:=aug.out;have h2:=HQ3.out;show _<_;omega
   go_wp2_with fail;rw[<-θ];clear θ;rename_i K0 hK0;refine Gt.bS aW rfl rfl aW ?_;refine Grow.aK ?_;refine Grow.aO Bo.out ?_;iterate 2 refine Grow.aK ?_
   refine Grow.aO Bo.out ?_;iterate 3 refine Grow.aK ?_
   refine' Grow.stepC _ rfl ?_ ?_;rotate_left 1
   ·refine Obl.plain rfl ?_;intro ac wg K Zq hW hf hK;clear Zq;have e77:=hf 77 ag;simp[slotFact,Yg] at e77;clear hf;have c7:=(al (((HY.out.trans (hW.mono HY.le)).block g hgs).trans HGB.out) _).trans HGC.out;exact dE
   iterate 4 refine Grow.aK ?_
   refine' Grow.stepC _ rfl ?_ ?_;rotate_left 1
   ·refine Obl.plain rfl ?_;intro ac wg K Zq hW hf hK;clear Zq;have e82:=hf 82 ag;simp[slotFact,Yg] at e82;clear hf;have c7:=(ah hW aq5.out).trans HYW.out;exact dE
   refine Grow.step (ahh W y.d v.zs) rfl (ahh.mono W y.d v.zs) ?_ ?_
   ·refine Obl.plain rfl ?_;intro ac wg K Zq hW hf hK;clear Zq;have e78:=hf 78 ag;simp[slotFact,Yg] at e78;have e83:=hf 83 ag;simp[slotFact,Yg] at e83;clear hf;go_simp;refine (BH ga gl gp v.zs y.d _ (HGT.below (HY.out.trans (hW.mono HY.le))) axe HZD.out).mono ?_;rintro e w6 ⟨sa,sl,sc,ys,rfl,-,ao8,how,ZA⟩;have hs6:=hW.size;rcases how with how|how
    ·exact absurd how HCN.out
    exact hK _ _ ZA ⟨sa,sl,sc,ys,rfl,how.ay (λ_ _ _=>rfl) (λk _ s=>by have s1:wg.heap.size<=k:=s;show W.heap.size<=k;omega),ao8⟩
   iterate 2 refine Grow.aK ?_
   refine Grow.done ?_;intro q wz hW hf;simp only[YL] at hf;obtain⟨h86,h85,h84,h83,h82,h81,h80,h79,h78,h77,h76,h75,h74,h73,h72,h71,h70,-⟩:=hf;obtain⟨sa,sl,sc,ys,ayH,hto,ao8⟩:=h84;have HTO:=G hto;have ayC:=G ao8;have HWZ:=G hW;have hwg:=((HY.out.trans (hW.mono HY.le)).block g hgs).trans HGB.out;have hfz:=ak hwg (i*8+7);have hcz:=(al hwg _).trans HGC.out;clear hto ao8;intro K hK;rw[if_pos cF];simp only[aL,YQ,Y0,Yr,Yx,Yy,h86,h85,h83,h82,h81,h80,h79,h78,h77,h76,h75,h74,h73,h72,h71,h70,ayH]
   simp only[List.getLast];go_simp;refine hK _ _ ?_;refine hK0 _ _ ?_;clear hK hK0 K K0
   obtain⟨W5,hW5⟩:∃W5,W5=wz.setCell ⟨g,i*8+7,J⟩ (U sa sl sc):=⟨_,rfl⟩;rw[<-hW5];obtain⟨hq1,Τ,Zq,Ρ,aw_,Br5,Bo5⟩:=amj
   have awn:Hid (W5.cell? ⟨b,o+k*2,J⟩=M (I y.n)):=by
    exact Ra
   have awm:Hid (b<W5.heap.size):=by have:=aq5.out;show b<_;omega
   have atu:=(HT.2.1.2.2.1.2.1 i v HV0.out).1.2.1;rw[HVN.out] at atu;have hn4:¬9223372036854775807<3+y.n.size:=af
   clear hfz hcz hwg atu;go_wp2_with fail
   rename_i K0 hK0;refine bS aW rfl rfl aW ?_
   refine Grow.aO Bo5.out ?_;iterate 4 refine Grow.aK ?_
   refine' Grow.stepC _ rfl ?_ ?_;rotate_left 1
   ·refine Obl.plain rfl ?_;intro ac wg K Zq hW hf hK;clear Zq;have e91:=hf 91 ag;simp[slotFact,Yg] at e91;clear hf;have c7:=(ah hW awm.out).trans awn.out;exact dE
   iterate 2 refine Grow.aK ?_
   refine Grow.done ?_;intro q wy hW hf;simp only[YL] at hf
   obtain⟨h94,h93,h92,h91,h90,h89,h88,h87,-⟩:=hf;have Br6:=upK Br5 hW;have HWY:=G hW
   obtain⟨r0,r1,r2,r3,r4,r5,r6,r7⟩:=cs8 Br6;obtain⟨ZR,ZS,ZT,ZU,ZV,ZY,Z1,Z2⟩:=ahY;intro K hK;rw[if_pos cF]
   simp only[aL,YQ,Y0,Yr,Yx,Yy,h94,h93,h92,h91,h90,h89,h88,h87]
   simp only[List.getLast];go_simp;refine hK _ _ ?_;refine hK0 _ _ ?_;clear hK hK0 K K0
   have HV:Hid (kG c ⟨wv c i (onV v ys),wOn++y.n,0⟩):=Zk (Zk ⟨HT.out,HNX.out,ws,HES.out,Zl ⟨y,i,v,ys,HF.out,HV0.out,HVN.out,ayC.out,by rw[HVN.out]⟩⟩);go_wp2;have hlo:=HLO.out;refine bodyPost_ret (v:=Zj #[U x1 m1 n1,U x2 m2 n2,U (M ⟨g,0,J⟩) l3 n3,U x4 m4 n4,U x5 m5 n5,V O c.now,I (wOn++y.n),V O 0]) (by simp[results,Tryz.results87,go_sem, *];rfl) rfl ⟨⟨x1,m1,n1,x2,m2,n2,M ⟨g,0,J⟩,l3,n3,x4,m4,n4,x5,m5,n5⟩,⟨wv c i (onV v ys),wOn++y.n,0⟩,rfl,HV.out,?_,sb1 (sb1 (sb1 (sb1 (sb1 (sb1 (sb1 (sb1 (Ρ.trans (HWY.mono Ρ.size)))))))))⟩;exact PK
  have Ο:¬(k:Int)<wl:=af
  have HV:Hid (kG c (co0 6)):=Zk (Zk ⟨HT.out,HNX.out,ws,HES.out,Zk ⟨by have h9:=HLK.out;rw[YB af] at h9;exact h9,rfl⟩⟩);obtain⟨k0,k1,k2,k3,k4,k5⟩:=cs6 Bk;go_wp2_with fail;refine (aI 6 _).mono ?_;rintro e w5 ⟨rfl,hb⟩;clear k0 k1 k2 k3 k4 k5;replace Bk:=upK Bk hb;replace Br:=upK Br hb;replace Bo:=upK Bo hb;replace HY:=G (HY.below hb);replace HB:=upB HB hb;clear hb;obtain⟨r0,r1,r2,r3,r4,r5,r6,r7⟩:=cs8 Br;obtain⟨ZR,ZS,ZT,ZU,ZV,ZY,Z1,Z2⟩:=dD;go_wp2;exact bodyPost_ret (v:=Zj #[U J 0 0,U J 0 0,U J 0 0,U J 0 0,U J 0 0,V O 0,I ⟨#[]⟩,V O 6]) (by simp[results,Tryz.results87,go_sem, *]) rfl ⟨ad0,co0 6,rfl,HV.out,(rl0 _ _),sb1 (sb1 (sb1 (sb1 (sb1 (sb1 (sb1 (sb1 (HB.out))))))))⟩
end Rc
end Go.Proofs.YtcnmlpiffcldkaaGreatDoor

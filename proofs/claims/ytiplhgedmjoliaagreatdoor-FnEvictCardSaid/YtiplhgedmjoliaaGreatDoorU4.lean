import Derived.Test.YtiplhgedmjoliaaGreatDoorU3
import Derived.Lib.Overlaps
import Derived.Lib.SliceRun
import Derived.Lib.AppendZerosOnto
import Derived.Deep.RegionLaw
import Derived.Shelf.RegionOpenPlain
/-
 slices.Insert over a row of records that is the call's own: one record more, in its place.
-/
set_option maxRecDepth 100000
set_option maxHeartbeats 12800000
open Bool renaming false→G_,true→Hb
open Go.Ending renaming returned→Ha
open Go.IntKind renaming i64→G6
open Go.Obj renaming cells→G7
open Go.Value renaming string→I,slice→J,int→GZ,bool→G8,agg→Hc,pointer→Hf,tuple→Hg
open Option renaming none→U,some→F_
open Or renaming inr→Hd,inl→He
open And renaming intro→Fk
open Array renaming getElem?_push_size→Fs, getD_eq_getD_getElem?→FD, getElem?_eq_some_iff→FJ
open Bool renaming and_eq_true→FU
open Go.Addr renaming add_lit→FC
open Go.Builtin renaming copy_→GW
open Go.Calls renaming quiet_of_same→FP
open Go.Op renaming bytesLess→Fx
open Go.Region renaming wanted→F5
open Go.RowKit.Below renaming heap_setCell→Fl, refl→Ft, heap_alloc→Fy, alloc→GF
open Go.Value renaming string→Fz, ownBlock→FX
open Go.World renaming setCell→Gb, cell?→Gc, cell?_of_block→Gf
open List renaming getElem?_eq_some_iff→Fm, lookup→Fo, getElem?_eq_getElem→Fu, length_map→FB, setIfInBounds_toArray→FF, getElem?_map→FG, forall_mem_cons→FH, mem_of_getElem?→FK, set_cons_zero→FL, set_cons_succ→FM, drop_eq_nil_of_le→FN, getElem?_take→FQ, take_of_length_le→FT, getElem?_of_mem→FV, length_take→FW, take_add_one→FZ, foldr→F7, getElem?_drop→F8, append_assoc→GD, take_left'→GO, size_toArray→GX
open Nat renaming le_refl→Fq, lt_of_lt_of_le→Fw, le_trans→FA, zero_add→FE, le_succ→FO, zero_le→FY
open Option renaming map_eq_some_iff→FR
open Option.some renaming inj→Fp
namespace Go.Proofs.YtiplhgedmjoliaaGreatDoor
variable {p:Prop}
namespace Mk
end Mk
open Go.RowKit Mk
variable {α:Type} {c:Rc.Cl} {i k:Nat} {t:ByteArray} {x:Rc.Pd}
theorem rF(h:p:=by simp[results,Tryz.results16,go_sem, *]):p:=h
theorem ry(h:p:=by simp[Act.eval,Act.put]):p:=h
theorem ru(h:p:=by first|decide|omega):p:=h
theorem A2(h:p:=by simp only[List.length_append,FW,List.length_drop];omega):p:=h
theorem vd(h:p:=by
 go_wp2;exact bodyPost_ret (v:=Hc #[J U 0 0,J U 0 0,J U 0 0,J U 0 0,J U 0 0,GZ G6 0,I ⟨#[]⟩,GZ G6 cc]) (by simp[results,Tryz.results5,go_sem, *]) rfl ⟨ad0,co0 cc,rfl,HV.out,D_ _ _,sb1 (sb1 (sb1 (sb1 (sb1 (sb1 (sb1 (sb1 (HB.out))))))))⟩):p:=h
theorem Cu(h:p:=by
 go_enter Tryz.func86,Tryz.ntmps86;go_wp2_with (first|(at_builtin;refine dk rfl _ _ 82 27 rfl base 40 40 i0 (Hc #[I ⟨#[]⟩,GZ G6 0,I ⟨#[]⟩,J U 0 0,I ⟨#[]⟩,GZ G6 0]) 6 88 Tryz.underlying82 Tryz.underlying27 HI0.1 HI0.2.1 HI0.2.2.1 HI0.2.2.2 rfl ah _ _ _ rfl HO.out ⟨vb,0,U⟩ 1 1 ys rfl af HYN.out HY1.out bw af hbs ?_));intro v' w' h1 h2;have H1:=ae h1;have H2:=ae h2;clear h1 h2;go_wp2;go_ret;exact⟨v',rfl,H1.out,H2.out⟩):p:=h
theorem Ch(h:p:=by
 have h45:aX w4 (λk=>(Q k\/Q2 k)\/w.heap.size<=k) 6 ((aY j x xs).map pdF) (aY j [I x.n,GZ G6 x.c,I x.z,J va vl vc,I x.d,GZ G6 x.p] vss) H4:=by rw[fg];exact hV5
 have hle:((aY j x xs).map pdF).length=n+1:=by rw[FB,dd af,hxl]
 exact wG):p:=h
theorem wW(h:p:=by
 replace HB:=upB HB hbx;clear hb hbx HA0;clear hcc;obtain⟨r0,r1,r2,r3,r4,r5,r6,r7⟩:=cs8 Br;have ltr_2:=aa Br.out;obtain⟨fr0,fr1,fr2,fr3,fr4,fr5,fr6,fr7⟩:=cq;have hrl:w.heap.size+1<w2.heap.size:=aa Br.out;exact vd):p:=h
namespace Rc
theorem dX(w:World) (dT sT ty elem:TypeId) (g o dLen dCap:Nat) (a:Addr) (sLen sCap m:Nat) (cur:Array Value) (t:TypeId) (cs:List Value) (i:TypeInfo)
  (hu:Tryz.prog.underlying dT=F_ (.slice elem)) (hi:Tryz.prog.info? elem=F_ i) (hs:i.size=m)
  (hg:w.heap[g]?=F_ (G7 cur t (0,0))) (hn:cs.length=Nat.min sLen dLen*m)
  (hsrc:∀j v,cs[j]?=F_ v->w.cell? (a.add j)=F_ v) (hfit:o+cs.length<=cur.size) (h1:∀v∈cs,v.oneCell'=Hb):
  (GW #[dT,sT] ty #[J (F_ ⟨g,o,U⟩) dLen dCap,J (F_ a) sLen sCap]).run Tryz.prog w=
   .ok (goInt (Nat.min sLen dLen)) (w.setRow g (cur.toList.take o++cs++cur.toList.drop (o+cs.length)).toArray):=by
 have hl:=run_loadCells_list (P:=Tryz.prog) w a cs hsrc;have hst:=run_storeCells_at Tryz.prog g o t cs 0 cur w hg (by simpa using hfit) h1;rw[hn] at hl;simp[GW,run_underlying hu,Builtin.lenOf,Builtin.firstCells,sizeOf,typeInfo,hi,hs,hl,hst]
theorem zj {a b c m:Nat} {X ys cur c1:List Value} (hX:cur.take b=X) (hc:cur.length=c) (h1:a+m<=b) (h2:b+m<=c) (hy:ys.length=m) (h:c1=cur.take (a+m)++X.drop a++cur.drop (a+m+(X.drop a).length)):(c1.take a++(ys++c1.drop (a+m))).take (b+m)=X.take a++ys++X.drop a:=by
 have hXl:X.length=b:=by rw[<-hX,FW];omega
 have e1:c1.take a=X.take a:=by
  rw[h,GD,List.take_append_of_le_length nv,List.take_take,<-hX,List.take_take];congr 1;omega
 have e2:c1.drop (a+m)=X.drop a++cur.drop (a+m+(X.drop a).length):=by
  rw[h,GD];exact List.drop_left' nv
 rw[e1,e2,<-GD,<-GD];exact GO A2
theorem tC {a b m:Nat} {X ys R R2 S:List Value} (hX:R.take a=X.take a) (hXl:X.length=b) (h1:a<=b) (hy:ys.length=m) (h:R2=R.take a++ys++S) (T:List Value):(R2.take (a+m)++X.drop a++T).take (b+m)=X.take a++ys++X.drop a:=by
 have e1:R2.take (a+m)=X.take a++ys:=by
  rw[h,hX];exact GO (by simp only[List.length_append,FW];omega)
 rw[e1];exact GO A2
theorem iy(w:World) (g:Nat) (cs:Array Value):w.grownBy (w.setRow g cs) (F_ g):=⟨rfl,rfl,rfl,by simp[World.setRow],λk _ h=>setRow_other w g k cs (λe=>h (by rw[e]))⟩
theorem gC {ops:Array Oper} {o:Oper} {a:Act} {w:World} {K:Act->World->Prop} {Q:Exit->Act->World->Prop} {E:Prop}
  (hg:o.guard=U) (d x:Operand) (dT sT:TypeId) (hop:o.op=Op.call { callee:=Callee.builtin Builtin.copy,args:=#[d,x],argTypes:=#[dT,sT] })
  (v u:Value) (hd:a.eval d=v) (hx:a.eval x=u) {v':Value} {w':World} (hr:(GW #[dT,sT] o.type #[v,u]).run Tryz.prog w=.ok v' w') (hK:K (a.put o.dst v') w'):
  if F5 o (yielded ops a.tmps)=Hb then Oper.wp Tryz.prog o a w K Q else E:=by
 have hw:F5 o (yielded ops a.tmps)=Hb:=by simp[F5,hg]
 rw[if_pos hw];unfold Oper.wp;simp[execOp,hop,resolve,invoke,builtin,hd,hx,hr,Result.andThen];exact hK
theorem tA {m p:Nat} {vss:List (List α)} (h:∀(j:Nat) vs,vss[j]?=F_ vs->vs.length=m) (hp:p<=vss.length) (vs:List α):(aY p vs vss).flatten=vss.flatten.take (p*m)++vs++vss.flatten.drop (p*m):=by
 have hl:((vss.take p).flatten).length=p*m:=by
  rw[eD (m:=m) (λj v hv=>by
   rw[FQ] at hv
   split at hv
   ·exact h j v hv
   ·cases hv),FW,Nat.min_eq_left hp]
 have e:vss.flatten=(vss.take p).flatten++(vss.drop p).flatten:=rI
 have e1:vss.flatten.take (p*m)=(vss.take p).flatten:=by rw[e];exact GO hl
 have e2:vss.flatten.drop (p*m)=(vss.drop p).flatten:=by rw[e];exact List.drop_left' hl
 rw[e1,e2];simp[aY]
theorem lE(a:Option Addr) (n cap i base vb:Nat) (X ys:List Value) (w:World) (ho:w.ownsRow base 40 6 (J a n cap) n X) (hn:n<=8) (hin:i<=n) (hbs:base<=w.heap.size) (hy:w.heap[vb]?=F_ (G7 ys.toArray 40 (0,0))) (hyl:ys.length=6) (hy1:∀u∈ys,u.oneCell'=Hb) (hX1:∀u∈X,u.oneCell'=Hb) (hne:∀g,a=F_ ⟨g,0,U⟩->¬vb=g):
  Calls Tryz.prog 86 #[J a n cap,GZ G6 i,J (F_ ⟨vb,0,U⟩) 1 1] w λe w'=> ∃v',e=Ha v'/\w'.ownsRow base 40 6 v' (n+1) (X.take (i*6)++ys++X.drop (i*6))/\w.grownBy w' ((J a n cap:Value).ownBlock):=by
 obtain⟨i0,hi,hz0,hz1,hz2⟩:=info_parts fQ;have HI0:=ae (Fk hi (Fk hz0 (Fk hz1 hz2)));clear hi hz0 hz1 hz2;have hXl:=ho.1;have hnc:n<=cap/\cap<=9223372036854775807:=by
  rcases ho.2 with ⟨h1,h2⟩|⟨g,cp,cur,h1,_,_,h4,h5,_⟩
  ·cases h1;omega
  ·cases h1;unfold maxLen at h5;omega
 have hyn:∀(j:Nat) u,ys[j]?=F_ u->w.cell? ((⟨vb,0,U⟩:Addr).add j)=F_ u:=λj u hu=>by
  rw[FC,ar hy,FE];simpa using hu
 have HYN:=ae hyn;have HO:=ae ho;have HY:=ae hy;have hvl:=aa hy;have HX1:=ae hX1;have HY1:=ae hy1;clear hyn ho hy hX1 hy1;by_cases hie:i=n
 ·subst hie;have e1:X.take (i*6)++ys++X.drop (i*6)=X++ys:=by rw[FT af,List.drop_of_length_le af,List.append_nil]
  rw[e1];clear e1;have hc0:=hnc.1;have hq:cap=i\/¬cap=i:=Classical.em _;rcases hq with rfl|hcap
  ·exact Cu
  ·exact Cu
 have hil:i<n:=af
 obtain⟨g,cur,rfl,hbg,hg,hcs,htk⟩:∃g cur,a=F_ ⟨g,0,U⟩/\base<=g/\w.heap[g]?=F_ (G7 cur 40 (0,0))/\cur.size=cap*6/\cur.toList.take (n*6)=X:=by
  rcases HO.2 with ⟨h1,h2⟩|⟨g,cp,cur,h1,h2,h3,h4,h5,h6,h7⟩
  ·cases h1;omega
  ·cases h1;exact⟨g,cur,rfl,h2,h3,h6,h7⟩
 have hvg:=hne g rfl;clear hne;have hcell:∀(j:Nat) u,X[j]?=F_ u->w.cell? ⟨g,j,U⟩=F_ u:=λj u hj=>by
  rw[ar hg];rw[<-htk,FQ] at hj;split at hj
  ·simpa using hj
  ·cases hj
 have hdl:(X.drop (i*6)).length=(n - i)*6:=by rw[List.length_drop,hXl,Nat.sub_mul]
 have hgl:=aa hg;by_cases hroom:n+1<=cap
 ·have hcp1:∀ty dc sc,(GW #[82,82] ty #[J (F_ ⟨g,(i+1)*6,U⟩) (n - i) dc,J (F_ ⟨g,i*6,U⟩) (n+1 - i) sc]).run Tryz.prog w.drew=.ok (goInt (Nat.min (n+1 - i) (n - i))) (w.drew.setRow g (cur.toList.take ((i+1)*6)++X.drop (i*6)++cur.toList.drop ((i+1)*6+(X.drop (i*6)).length)).toArray):=λty dc sc=>
   dX w.drew 82 82 ty 40 g ((i+1)*6) (n - i) dc ⟨g,i*6,U⟩ (n+1 - i) sc 6 cur 40 (X.drop (i*6)) i0 Tryz.underlying82 HI0.1 HI0.2.2.1 hg (by rw[hdl];simp only[Nat.min_def];split <;> omega) (λj u hj=>by
    rw[F8] at hj;rw[FC]
    exact hcell _ u hj) (by rw[hdl,hcs];omega) (λu hu=>HX1.out u (List.mem_of_mem_drop hu))
  obtain⟨cur1,hcur1⟩:∃c1:List Value,c1=cur.toList.take ((i+1)*6)++X.drop (i*6)++cur.toList.drop ((i+1)*6+(X.drop (i*6)).length):=⟨_,rfl⟩;rw[<-hcur1] at hcp1;have hc1l:cur1.length=cap*6:=by rw[hcur1];simp only[List.length_append,FW,List.length_drop,hXl,Array.length_toList,hcs];omega
  obtain⟨W1,hW1⟩:∃W1,W1=w.drew.setRow g cur1.toArray:=⟨_,rfl⟩;rw[<-hW1] at hcp1;have hg1:W1.heap[g]?=F_ (G7 cur1.toArray 40 (0,0)):=by rw[hW1];exact setRow_heap w.drew g _ _ 40 _ hg
  have hv1:W1.heap[vb]?=w.heap[vb]?:=by rw[hW1];exact setRow_other w.drew g vb _ hvg
  have hcp2:∀ty dc,(GW #[82,27] ty #[J (F_ ⟨g,i*6,U⟩) (n+1 - i) dc,J (F_ ⟨vb,0,U⟩) 1 1]).run Tryz.prog W1=.ok (goInt (Nat.min 1 (n+1 - i))) (W1.setRow g (cur1.take (i*6)++ys++cur1.drop (i*6+ys.length)).toArray):=λty dc=>by
   have:=dX W1 82 27 ty 40 g (i*6) (n+1 - i) dc ⟨vb,0,U⟩ 1 1 6 cur1.toArray 40 ys i0 Tryz.underlying82 HI0.1 HI0.2.2.1 hg1 (by rw[hyl];simp only[Nat.min_def];split <;> omega) (λj u hj=>by
    rw[FC,ar (hv1.trans HY.out),FE]
    simpa using hj) (by simp only[GX];rw[hc1l,hyl];omega) HY1.out
   simpa using this
  have hov:∀lb cb,(callFunc 135 #[J (F_ ⟨vb,0,U⟩) 1 1,J (F_ ⟨g,(i+1)*6,U⟩) lb cb]).run Tryz.prog w=.ok (.value (G8 G_)) w:=λlb cb=>by
   rw[run_callFunc_extern Tryz.func135 au au au (e:=Extern.SlicesOverlaps.overlaps #[27,27] #[4]) au,
    Lib.run_overlaps_apart w 27 4 40 Tryz.underlying27 6 (λw=>by kernel_rfl) ⟨vb,0,U⟩ ⟨g,(i+1)*6,U⟩ 1 1 lb cb hvg 40 40 ys.toArray.size cur.size (by simp[World.shape?,HY.out]) (by simp[World.shape?,hg]) (Nat.ne_of_gt (by rw[hcs];omega)) (al HY.out _) (al HY.out _)]
   rfl
  have hb2:¬cap=i+1:=af
  have hb4:¬cap=i:=af
  have hb6:¬((cap:Int)<(n:Int)+1):=af
  have mixed:Tryz.prog.follows .mixedOrders=Hb:=au
  have hw1:IntKind.i64.wrap ((i:Int)+1)=(i:Int)+1:=by rw[IntKind.wrap_i64];omega
  have hb1:(0:Int)<=(i:Int)+1:=af
  have hin:i<=n:=af
  have htn:((i:Int)+1).toNat=i+1:=af
  have hb3:(i:Int)<=(n:Int)+1:=af
  have HG1:=ae hg1;have HW1:=ae hW1;have HC1:=ae hcur1;have HTK:=ae htk;clear hg hg1 hW1 hcur1 htk hv1 hcell hdl hie;go_enter Tryz.func86,Tryz.ntmps86;go_wp2_with (simp only[hov]);go_region_law_o (refine gC rfl _ _ 82 82 rfl _ _ ry ry (hcp1 (3) (cap - (i+1)) (cap - i)) ?_);go_wp2_with (at_builtin;refine wpList_copy_run _ rfl _ _ 82 27 rfl _ _ rfl rfl (hcp2 _ _) ?_);go_ret;refine⟨_,rfl,⟨?_,Or.inr ⟨g,cap,(cur1.take (i*6)++(ys++cur1.drop (i*6+6))).toArray,rfl,hbg,setRow_heap W1 g _ _ _ _ HG1.out,hroom,by unfold maxLen;omega,?_,?_⟩⟩,?_⟩
  ·simp only[List.length_append,FW,List.length_drop];omega
  ·simp only[GX,List.length_append,FW,List.length_drop,hc1l];omega
  ·have e:=zj (a:=i*6) (b:=n*6) (c:=cap*6) (m:=6) (c1:=cur1) HTK.out (by rw[Array.length_toList,hcs]) af af hyl (by rw[HC1.out,show (i+1)*6=i*6+6 by omega]);rw[show (n+1)*6=n*6+6 by omega];simpa using e
  ·have h1:w.grownBy w.drew (F_ g):=⟨rfl,rfl,rfl,Fq _,λ_ _ _=>rfl⟩;have h2:w.drew.grownBy W1 (F_ g):=by rw[HW1.out];exact iy w.drew g _
   exact (h1.trans h2).trans (iy W1 g _)
 have hcn:cap=n:=af
 subst hcn;obtain⟨N,hN⟩:∃N,N=w.heap.size:=⟨_,rfl⟩;obtain⟨G,hG⟩:∃G,G=grownCap w (cap+1) cap 40:=⟨_,rfl⟩;obtain⟨ROW,hROW⟩:∃R:Array Value,R=(X.take (i*6)).toArray++Builtin.zeroCells (Hc #[I ⟨#[]⟩,GZ G6 0,I ⟨#[]⟩,J U 0 0,I ⟨#[]⟩,GZ G6 0]:Value).cells (cap+1 - i)++Builtin.zeroCells (Hc #[I ⟨#[]⟩,GZ G6 0,I ⟨#[]⟩,J U 0 0,I ⟨#[]⟩,GZ G6 0]:Value).cells (G - (cap+1)):=⟨_,rfl⟩;obtain⟨W1,hW1⟩:∃W1,W1=w.drew.alloc (G7 ROW 40):=⟨_,rfl⟩;have hGn:cap+1<=G:=by rw[hG];exact grownCap_ge w _ _ _
 have hG63:G<=9223372036854775807:=by
  have:=grownCap_le_maxLen w (cap+1) cap 40 bw;rw[<-hG] at this;unfold maxLen at this;omega
 have hRs:ROW.size=G*6:=by
  rw[hROW];simp only[Array.size_append,GX,FW,size_zeroCells,hXl];rw[show (Hc #[I ⟨#[]⟩,GZ G6 0,I ⟨#[]⟩,J U 0 0,I ⟨#[]⟩,GZ G6 0]:Value).cells.size=6 from rfl];omega
 have hRt:ROW.toList.take (i*6)=X.take (i*6):=by
  rw[hROW,Array.toList_append,Array.toList_append,GD];exact GO nv
 have hrz:∀ty,(Builtin.append_ #[82,3] ty #[J (F_ ⟨g,0,U⟩) i cap,GZ G6 ((cap:Int)+1 - (i:Int))]).run Tryz.prog w=.ok (J (F_ ⟨N,0,U⟩) (cap+1) G) W1:=λty=>by
  have hold:(Builtin.firstCells i0.size i (J (F_ ⟨g,0,U⟩) i cap)).run Tryz.prog w.drew=.ok (X.take (i*6)).toArray w.drew:=by
   rw[HI0.2.2.1];exact run_firstCells_some w.drew 6 i ⟨g,0,U⟩ i cap (X.take (i*6)) nv (λj v hj=>by
    rw[FC,FE];rw[FQ] at hj
    split at hj
    ·exact hcell j v hj
    ·cases hj)
  have h:=Lib.run_append_grow_zeros w 82 3 ty 40 i0 _ G6 G6 Tryz.underlying82 Tryz.underlying3 HI0.1 HI0.2.1 (F_ ⟨g,0,U⟩) i cap (X.take (i*6)) hold (cap+1 - i) af (by rw[HI0.2.2.1];decide) af af (by rw[HI0.2.2.2];omega) (by rw[HI0.2.2.2];exact growslice_fits af af);rw[show i+(cap+1 - i)=cap+1 by omega,<-hG,<-hROW,<-hW1,<-hN] at h;rw[show (cap:Int)+1 - (i:Int)=((cap+1 - i:Nat):Int) by omega];exact h
 have hgN:W1.heap[N]?=F_ (G7 ROW 40 (0,0)):=by rw[hW1,hN];exact Go.heap_alloc_new w.drew _
 have hg1:W1.heap[g]?=w.heap[g]?:=by rw[hW1];exact Go.heap_alloc_old w.drew _ hgl
 have hv1:W1.heap[vb]?=w.heap[vb]?:=by rw[hW1];exact Go.heap_alloc_old w.drew _ hvl
 obtain⟨R2,hR2⟩:∃R2:List Value,R2=ROW.toList.take (i*6)++ys++ROW.toList.drop (i*6+ys.length):=⟨_,rfl⟩;obtain⟨W2,hW2⟩:∃W2,W2=W1.setRow N R2.toArray:=⟨_,rfl⟩;have hcpA:∀ty dc,(GW #[82,27] ty #[J (F_ ⟨N,i*6,U⟩) (cap+1 - i) dc,J (F_ ⟨vb,0,U⟩) 1 1]).run Tryz.prog W1=.ok (goInt (Nat.min 1 (cap+1 - i))) W2:=λty dc=>by
  rw[hW2,hR2];exact dX W1 82 27 ty 40 N (i*6) (cap+1 - i) dc ⟨vb,0,U⟩ 1 1 6 ROW 40 ys i0 Tryz.underlying82 HI0.1 HI0.2.2.1 hgN (by rw[hyl];simp only[Nat.min_def];split <;> omega) (λj u hj=>by
   rw[FC,ar (hv1.trans HY.out),FE]
   simpa using hj) (by rw[hRs,hyl];omega) HY1.out
 have hR2l:R2.length=G*6:=by
  rw[hR2];simp only[List.length_append,FW,List.length_drop,Array.length_toList,hRs,hyl];omega
 have hgN2:W2.heap[N]?=F_ (G7 R2.toArray 40 (0,0)):=by rw[hW2];exact setRow_heap W1 N _ _ 40 _ hgN
 have hgn:¬g=N:=af
 have hg2:W2.heap[g]?=w.heap[g]?:=by rw[hW2,setRow_other W1 N g _ hgn];exact hg1
 obtain⟨R3,hR3⟩:∃R3:List Value,R3=R2.take ((i+1)*6)++X.drop (i*6)++R2.drop ((i+1)*6+(X.drop (i*6)).length):=⟨_,rfl⟩;obtain⟨W3,hW3⟩:∃W3,W3=W2.drew.setRow N R3.toArray:=⟨_,rfl⟩;have hcpB:∀ty dc sc,(GW #[82,82] ty #[J (F_ ⟨N,(i+1)*6,U⟩) (cap - i) dc,J (F_ ⟨g,i*6,U⟩) (cap - i) sc]).run Tryz.prog W2.drew=.ok (goInt (Nat.min (cap - i) (cap - i))) W3:=λty dc sc=>by
  have:=dX W2.drew 82 82 ty 40 N ((i+1)*6) (cap - i) dc ⟨g,i*6,U⟩ (cap - i) sc 6 R2.toArray 40 (X.drop (i*6)) i0 Tryz.underlying82 HI0.1 HI0.2.2.1 hgN2 (by rw[hdl];simp only[Nat.min_def];split <;> omega) (λj u hj=>by
   rw[F8] at hj;have hc:=hcell _ u hj;rw[FC];rw[<-hc]
   exact Gf (w:=w) (w':=W2.drew) hg2) (by rw[hdl,GX,hR2l];omega) (λu hu=>HX1.out u (List.mem_of_mem_drop hu))
  rw[hW3,hR3];simpa only[List.toList_toArray] using this
 have hW3o:∀k,¬k=N->W3.heap[k]?=W1.heap[k]?:=λk hk=>by rw[hW3,setRow_other W2.drew N k _ hk];exact (congrArg (λz:World=>z.heap[k]?) hW2).trans (setRow_other W1 N k _ hk)
 have hfin:w.grownBy W3 (F_ g):=by
  have h0:w.grownBy w.drew (F_ g):=⟨rfl,rfl,rfl,Fq _,λ_ _ _=>rfl⟩;have h1:w.grownBy W1 (F_ g):=by rw[hW1];exact h0.trans (World.grownBy_alloc w.drew _ _)
  refine⟨?_,?_,?_,?_,λk hk hkg=>(hW3o k af).trans (h1.block k hk hkg)⟩
  ·rw[hW3,hW2];exact h1.os
  ·rw[hW3,hW2];exact h1.tape
  ·rw[hW3,hW2];exact h1.output
  ·rw[hW3,hW2];exact FA h1.size (by simp[World.setRow])
 have hrow:W3.ownsRow base 40 6 (J (F_ ⟨N,0,U⟩) (cap+1) G) (cap+1) (X.take (i*6)++ys++X.drop (i*6)):=by
  refine⟨?_,Or.inr ⟨N,G,R3.toArray,rfl,by omega,by rw[hW3];exact setRow_heap W2.drew N _ _ 40 _ hgN2,hGn,by unfold maxLen;omega,?_,?_⟩⟩
  ·simp only[List.length_append,FW,List.length_drop];omega
  ·rw[hR3];simp only[GX,List.length_append,FW,List.length_drop,hR2l];omega
  ·have e:=tC (a:=i*6) (b:=cap*6) (m:=6) (R2:=R2) hRt hXl af hyl hR2 (R2.drop ((i+1)*6+(X.drop (i*6)).length));rw[hR3,show (cap+1)*6=cap*6+6 by omega,show (i+1)*6=i*6+6 by omega];rw[show (i+1)*6=i*6+6 by omega] at e;simpa using e
 have hGi:¬G=i:=af
 have hGim:¬G=i+1:=af
 have hci:¬cap=i:=af
 have hz2:¬((i:Int)=(cap:Int)):=af
 have hz3:(cap:Int)<(cap:Int)+1:=af
 have mixed:Tryz.prog.follows .mixedOrders=Hb:=au
 have hw1:IntKind.i64.wrap ((i:Int)+1)=(i:Int)+1:=by rw[IntKind.wrap_i64];omega
 have hb1:(0:Int)<=(i:Int)+1:=af
 have hin:i<=cap:=af
 have htn:((i:Int)+1).toNat=i+1:=af
 have hb3:(i:Int)<=(cap:Int):=af
 have HF:=ae (Fk hrow hfin);clear hN hrow hfin hW3o hW3 hW2 hR3 hg2 hgN2 hR2l hR2 hv1 hg1 hgN hRt hRs hW1 hROW hG hcell hdl hie hg htk hcs HO;go_enter Tryz.func86,Tryz.ntmps86;go_wp2_with (first
  | (at_builtin;refine Lib.wpList_append_run _ rfl _ _ _ _ rfl _ _ rfl rfl _ _ (hrz _) ?_)
  | (at_builtin;refine wpList_copy_run _ rfl _ _ 82 27 rfl _ _ rfl rfl (hcpA _ _) ?_))
 go_region_law_o (refine gC rfl _ _ 82 82 rfl _ _ ry ry (hcpB 3 (G - (i+1)) (cap - i)) ?_)
 go_wp2
 go_ret;exact⟨_,rfl,HF.1,HF.2⟩
theorem jF(a:Option Addr) (n cap:Nat) (X:List Value) (w:World) (hn:n<=8) (hXl:X.length=n*6) (hX1:∀u∈X,u.oneCell'=Hb) (hXc:∀(j:Nat) u,X[j]?=F_ u->∃g,a=F_ ⟨g,0,U⟩/\w.cell? ⟨g,j,U⟩=F_ u):
  Calls Tryz.prog 87 #[J a n cap] w λe w'=> ∃a' c',e=Ha (J a' n c')/\w'.ownsRow w.heap.size 40 6 (J a' n c') n X/\Below w.heap.size w w':=by
 obtain⟨i0,hi,hz0,hz1,hz2⟩:=info_parts fQ;have HI0:=ae (Fk hi (Fk hz0 (Fk hz1 hz2)));clear hi hz0 hz1 hz2;have HX1:=ae hX1;have HXC:=ae hXc;have heq:=λw=>Lib.run_eql_slice_nil w 82 40 a n cap 0 0 Tryz.underlying82;clear hX1 hXc;cases a with
 | none=>
  obtain rfl:X=[]:=by
   rcases X with _|⟨u,X⟩
   ·rfl
   ·obtain⟨g,e,_⟩:=HXC.out 0 u rfl
    cases e
  obtain rfl:n=0:=by simp at hXl;omega
  go_enter Tryz.func87,Tryz.ntmps87
  go_wp2
  go_ret;exact⟨U,0,rfl,World.ownsRow_nil _ _ _ _,Ft _ _⟩
 | some ad=>
  obtain⟨ab,ao,asp⟩:=ad
  have hnew:∀(j:Nat) u,X[j]?=F_ u->(w.alloc (G7 #[] 40)).cell? ((⟨ab,ao,asp⟩:Addr).add j)=F_ u:=λj u hu=>by
   obtain⟨g,e,hc⟩:=HXC.out j u hu
   cases e
   rw[FC,FE];have hlt:=br hc;rw[<-hc];exact Gf (heap_alloc_old w _ hlt)
  have HN:=ae hnew;have HO:Hid ((w.alloc (G7 #[] 40)).ownsRow w.heap.size 40 6 (J (F_ ⟨w.heap.size,0,U⟩) 0 0) 0 []):=World.ownsRow_made w #[] 0 (Fq _) (FY _) aH;clear hnew HXC
  go_enter Tryz.func87,Tryz.ntmps87
  go_wp2_with (at_builtin;refine dk rfl _ _ 82 82 rfl w.heap.size 40 40 i0 (Hc #[I ⟨#[]⟩,GZ G6 0,I ⟨#[]⟩,J U 0 0,I ⟨#[]⟩,GZ G6 0]) 6 88 Tryz.underlying82 Tryz.underlying82 HI0.1 HI0.2.1 HI0.2.2.1 HI0.2.2.2 rfl ah _ _ _ rfl HO.out ⟨ab,ao,asp⟩ n cap X rfl hXl HN.out HX1.out bw af aH ?_)
  intro v' w' h1 h2
  obtain⟨a',c',rfl⟩:∃a' c',v'=J a' n c':=by
   rcases h1.2 with ⟨rfl,h0⟩|⟨g,cp,cu,rfl,_⟩
   ·exact⟨U,0,by rw[h0]⟩
   ·exact⟨_,_,rfl⟩
  have H1:=ae h1;have H2:=ae h2;clear h1 h2
  go_wp2
  go_ret;refine⟨a',c',rfl,H1.out,((aq w (G7 #[] 40)).grown H2.out aH (λg hg=>?_))⟩
  simp[FX] at hg
  omega
theorem oF(a:Option Addr) (n cap:Nat) (xs:List Pd) (x:Pd) (va:Option Addr) (vl vc hh:Nat) (Q Q2:Nat->Prop) (w:World) (ho:aA w a n cap 6 40 (xs.map pdF) Q) (hn:n<=8) (hxf:∀(i:Nat) f,(pdF x)[i]?=F_ f->∃v,[I x.n,GZ G6 x.c,I x.z,J va vl vc,I x.d,GZ G6 x.p][i]?=F_ v/\f.Fr w hh Q2 v) (hq:∀k,Q k->Q2 k->False):
  Calls Tryz.prog 44 #[J a n cap,Hc #[I x.n,GZ G6 x.c,I x.z,J va vl vc,I x.d,GZ G6 x.p]] w λe w'=> ∃a' l' c',e=Ha (J a' l' c')/\aA w' a' l' c' 6 40 ((aY (pl Pd.n xs x.n) x xs).map pdF) (λk=>(Q k\/Q2 k)\/w.heap.size<=k)/\Below w.heap.size w w':=by
 have HR:=ae ho.row;have hxl:xs.length=n:=k_
 obtain⟨vss,H,hV,hcell⟩:=ho.gq;have hvl:vss.length=n:=by rw[hV.len,FB,hxl]
 have hfl:vss.flatten.length=n*6:=by rw[eD hV.all,hvl]
 have HV:=ae hV;have HC:=ae hcell;have HF:=ae hxf;have HQ:=ae hq;clear ho hV hcell hxf hq;have hmcalled:∀(v:Value) (w:World),(method 340 40 v "loop.example/g00571/impl.called").run Tryz.prog w=.ok (190,v) w:=λ_ _=>by kernel_rfl
 obtain⟨j,hj⟩:∃j,j=pl Pd.n xs x.n:=⟨_,rfl⟩;have hjn:j<=n:=by rw[hj,<-hxl];exact List.findIdx_le_length
 have HJ:=ae hj;have HFIN:Hid (∀(w4:World) v4 base,w.heap.size<=base->Below w.heap.size w w4->w4.ownsRow base 40 6 v4 (n+1) (vss.flatten.take (j*6)++[I x.n,GZ G6 x.c,I x.z,J va vl vc,I x.d,GZ G6 x.p]++vss.flatten.drop (j*6))->∃a' c',v4=J a' (n+1) c'/\aA w4 a' (n+1) c' 6 40 ((aY (pl Pd.n xs x.n) x xs).map pdF) (λk=>(Q k\/Q2 k)\/w.heap.size<=k)):=λw4 v4 base hbs hB4 ho4=>by
  rw[<-tA HV.all af] at ho4;have hV4:=(HV.below hB4).aB (w':=w4) (S':=λk=>(Q k\/Q2 k)\/w.heap.size<=k) (λ_ _ _ _=>rfl) (λ_ _ s=>He (He s));obtain⟨H4,hV5⟩:=hV4.ins (p:=j) (r:=pdF x) (vs:=[I x.n,GZ G6 x.c,I x.z,J va vl vc,I x.d,GZ G6 x.p]) (hh:=λ_=>hh) rfl rfl (λi f hf=>by
   obtain⟨v,h1,h2⟩:=HF.out i f hf
   exact⟨v,h1,h2.aB (λcu _ q=>hB4.block _ (aa q)) (λ_ s=>He (Hd s))⟩) (λi zs h hz k r i2 zs2 hr2 hz2 hne e=>by
  obtain⟨v,_,h2⟩:=HF.out i _ h;obtain⟨_,_,_,_,_,_,_,_,h3⟩:=h2;have hkv:k<vss.length:=by rw[HV.len];exact (Fm.1 hr2).1
  obtain⟨v',_,h5⟩:=HV.cell k r _ hr2 (Fu hkv) i2 _ hz2;obtain⟨_,_,_,_,_,_,_,_,h6⟩:=h5;rcases h3 with h3|⟨_,h3,_⟩
  ·exact hz h3
  ·rcases h6 with h6|⟨_,h6,_⟩
   ·exact hne h6
   ·rw[e] at h6;exact HQ.out _ h6 h3) (λi i2 zs zs2 h _ h2 _=>by
  rcases i with _|_|_|_|_|_|i <;> simp[pdF] at h <;> rcases i2 with _|_|_|_|_|_|i2 <;> simp[pdF] at h2 <;> rfl) lg
  exact Ch
 have HCL:Hid (∀W,Below w.heap.size w W->∀(k:Nat) u,vss.flatten[k]?=F_ u->∃g,a=F_ ⟨g,0,U⟩/\W.cell? ⟨g,k,U⟩=F_ u):=λW hW k u hu=>by
  obtain⟨g,h1,_,h3⟩:=HC.out k u hu;exact⟨g,h1,(aj hW (br h3)).trans h3⟩
 have HV1:=ae HV.one;clear HV HC HF HQ hj;go_enter Tryz.func44,Tryz.ntmps44;go_wp2_with fail;refine (dZ x va vl vc _).mono ?_;rintro e w1 ⟨rfl,hb1⟩;obtain⟨hn1,hbx⟩:=aT hb1;have HN1:=ae hn1;have HB1:=ae hbx;clear hb1 hn1 hbx;go_wp2_with fail;refine (jz a n cap xs x.n _ (HR.below HB1.out)).mono ?_;rintro e w2 ⟨rfl,hb2⟩;have HN2:=ae ((hb2.block w.heap.size (aa HN1.out)).trans HN1.out);have HB2:=upB HB1 hb2;clear hb2 HN1 HB1;rw[<-HJ.out];generalize hit Pd.n xs x.n=bb;have hs2:=aa HN2.out;have HBD:Hid (Below w.heap.size w w2.drew):=Below.jD HB2.out;obtain⟨n0,n1,n2,n3,n4,n5⟩:=cs6 (show w2.drew.heap[w.heap.size]?=_ from HN2.out);have hcl1:Calls Tryz.prog 87 #[J a n cap] w2.drew λe w3=> ∃a3 c3,e=Ha (J a3 n c3)/\Hid (w3.ownsRow w2.heap.size 40 6 (J a3 n c3) n vss.flatten)/\Hid (Below w.heap.size w w3)/\w2.heap.size<=w3.heap.size/\w.heap.size<w3.heap.size/\w3.heap[w.heap.size]?=F_ (G7 (pov x va vl vc) 40 (0,0)):=by
  refine (jF a n cap vss.flatten w2.drew hn hfl HV1.out (HCL.out _ HBD.out)).mono ?_;rintro e w3 ⟨a3,c3,rfl,ho3,hb3⟩;have hs3:w2.heap.size<=w3.heap.size:=hb3.size;exact⟨a3,c3,rfl,ho3,HBD.trans (hb3.mono HBD.size),hs3,by omega,(hb3.block w.heap.size hs2).trans (show w2.drew.heap[w.heap.size]?=_ from HN2.out)⟩
 have hcl2:Calls Tryz.prog 87 #[J a n cap] (w2.alloc (G7 (pov x va vl vc) 40)).drew λe w3=> ∃a3 c3,e=Ha (J a3 n c3)/\Hid (w3.ownsRow (w2.heap.size+1) 40 6 (J a3 n c3) n vss.flatten)/\Hid (Below w.heap.size w w3)/\w2.heap.size+1<=w3.heap.size/\Hid (w3.heap[w2.heap.size]?=F_ (G7 (pov x va vl vc) 40 (0,0))):=by
  have hbl:=Below.jD (HB2.alloc HB2.size (G7 (pov x va vl vc) 40));have hsz:(w2.alloc (G7 (pov x va vl vc) 40)).drew.heap.size=w2.heap.size+1:=aH
  refine (jF a n cap vss.flatten _ hn hfl HV1.out (HCL.out _ hbl)).mono ?_;rintro e w3 ⟨a3,c3,rfl,ho3,hb3⟩;have hs3:=hb3.size;rw[hsz] at ho3 hs3;exact⟨a3,c3,rfl,ho3,hbl.trans (hb3.mono hbl.size),hs3,(hb3.block w2.heap.size (by rw[hsz];omega)).trans (show (w2.alloc (G7 (pov x va vl vc) 40)).drew.heap[w2.heap.size]?=_ from heap_alloc_new w2 _)⟩
 have hin1:∀(w3:World) a3 c3,w3.ownsRow w2.heap.size 40 6 (J a3 n c3) n vss.flatten->Below w.heap.size w w3->w2.heap.size<=w3.heap.size->Calls Tryz.prog 86 #[J a3 n c3,GZ G6 j,J (F_ ⟨w3.heap.size,0,U⟩) 1 1] (w3.alloc (G7 (pov x va vl vc) 40)) λe w4=> ∃a' c',e=Ha (J a' (n+1) c')/\Hid (aA w4 a' (n+1) c' 6 40 ((aY (pl Pd.n xs x.n) x xs).map pdF) (λk=>(Q k\/Q2 k)\/w.heap.size<=k))/\Hid (Below w.heap.size w w4):=λw3 a3 c3 ho3 hB3 hs3=>by
  refine (lE a3 n c3 j w2.heap.size w3.heap.size vss.flatten [I x.n,GZ G6 x.c,I x.z,J va vl vc,I x.d,GZ G6 x.p] (w3.alloc (G7 (pov x va vl vc) 40)) (ho3.alloc _) hn hjn bD (heap_alloc_new w3 _) rfl dh HV1.out (λg hg e=>by
   have h9:=(ho3.lt g (by rw[hg];rfl)).2
   omega)).mono ?_
  rintro e w4 ⟨v4,rfl,ho4,hg4⟩;have hB5:=(hB3.alloc hB3.size (G7 (pov x va vl vc) 40)).grown hg4 bD (λg hg=>by
   have h9:=(ho3.lt g hg).1
   omega)
  obtain⟨a',c',rfl,hR⟩:=HFIN.out w4 v4 _ af hB5 ho4;exact⟨a',c',rfl,hR,hB5⟩
 have hin2:∀(w3:World) a3 c3,w3.ownsRow (w2.heap.size+1) 40 6 (J a3 n c3) n vss.flatten->Below w.heap.size w w3->w2.heap.size+1<=w3.heap.size->w3.heap[w2.heap.size]?=F_ (G7 (pov x va vl vc) 40 (0,0))->Calls Tryz.prog 86 #[J a3 n c3,GZ G6 j,J (F_ ⟨w2.heap.size,0,U⟩) 1 1] w3 λe w4=> ∃a' c',e=Ha (J a' (n+1) c')/\Hid (aA w4 a' (n+1) c' 6 40 ((aY (pl Pd.n xs x.n) x xs).map pdF) (λk=>(Q k\/Q2 k)\/w.heap.size<=k))/\Hid (Below w.heap.size w w4):=λw3 a3 c3 ho3 hB3 hs3 hy3=>by
  refine (lE a3 n c3 j (w2.heap.size+1) w2.heap.size vss.flatten [I x.n,GZ G6 x.c,I x.z,J va vl vc,I x.d,GZ G6 x.p] w3 ho3 hn hjn hs3 hy3 rfl dh HV1.out (λg hg e=>by
   have h9:=(ho3.lt g (by rw[hg];rfl)).1
   omega)).mono ?_
  rintro e w4 ⟨v4,rfl,ho4,hg4⟩;have hB5:=hB3.grown hg4 af (λg hg=>by
   have h9:=(ho3.lt g hg).1
   omega)
  obtain⟨a',c',rfl,hR⟩:=HFIN.out w4 v4 _ af hB5 ho4;exact⟨a',c',rfl,hR,hB5⟩
 have C1:=ae hcl1;have C2:=ae hcl2;have I1:=ae hin1;have I2:=ae hin2;clear hcl1 hcl2 hin1 hin2 HFIN HCL HR HJ HBD HB2;have mixed:Tryz.prog.follows .mixedOrders=Hb:=au
 go_wp2;go_region_with (first
  | (go_at_call 87;refine C1.mono ?_;rintro e w3 ⟨a3,c3,rfl,HO3,HB3,hs3,hw3l,hx3⟩;obtain⟨m0,m1,m2,m3,m4,m5⟩:=cs6 hx3;clear hx3)
  | (go_at_call 87;refine C2.mono ?_;rintro e w3 ⟨a3,c3,rfl,HO3,HB3,hs3,HY3⟩)
  | (go_at_call 86;refine (I1.out w3 a3 c3 HO3.out HB3.out hs3).mono ?_;rintro e w4 ⟨a',c',rfl,HR5,HB5⟩)
  | (go_at_call 86;refine (I2.out w3 a3 c3 HO3.out HB3.out hs3 HY3.out).mono ?_;rintro e w4 ⟨a',c',rfl,HR5,HB5⟩))
 all_goals (
  go_wp2
  go_ret
  exact⟨a',_,c',rfl,HR5.out,HB5.out⟩)
theorem gT {nm:α->ByteArray} {xs:List α} {x:α} (hr:aJ nm xs) (hx:xs[k]?=F_ x) (hn:nm x=t):wo nm t xs=xs.take k++xs.drop (k+1):=by
 have hk:k<xs.length:=(Fm.1 hx).1;have e:xs=xs.take k++x ::xs.drop (k+1):=by
  have h1:xs.drop k=x ::xs.drop (k+1):=by rw[List.drop_eq_getElem_cons hk];congr 1;exact (Fm.1 hx).2
  rw[<-h1,List.take_append_drop]
 have hno:∀(j:Nat) y,xs[j]?=F_ y->¬j=k->(!((nm y).toList==t.toList))=Hb:=λj y hj hne=>by
  have:¬nm y=t:=λq=>hne (hr.inj hj hx (q.trans hn.symm)).1;simp[bH this]
 have h1:(xs.take k).filter (λx=> !((nm x).toList==t.toList))=xs.take k:=List.filter_eq_self.2 λy hy=>by
  obtain⟨j,hj⟩:=FV hy;rw[FQ] at hj;split at hj
  ·exact hno j y hj af
  ·cases hj
 have h2:(xs.drop (k+1)).filter (λx=> !((nm x).toList==t.toList))=xs.drop (k+1):=List.filter_eq_self.2 λy hy=>by
  obtain⟨j,hj⟩:=FV hy;rw[F8] at hj;exact hno _ y hj af
 unfold wo;conv=>lhs;rw[e]
 rw[List.filter_append,List.filter_cons,h1,h2,aW hn];rfl
def mH(c:Cl) (t:ByteArray):Nat->Prop
 | 0=>8000<t.size
 | 1=>¬8000<t.size/\¬ay c
 | 2=>¬8000<t.size/\ay c/\hit Pd.n c.ps t=G_
 | _=>False
def ED(c:Cl) (t:ByteArray) (E:Nat->Addr) (w:World) (e:Ending) (w':World):Prop:=
 Below w.heap.size w w'/\((∃i,i<9/\mH c t i/\e=Ha (Hg #[Hc #[I ⟨#[]⟩,GZ G6 0,I ⟨#[]⟩,J U 0 0,I ⟨#[]⟩,GZ G6 0],.iface 193 (Hf (F_ (E i)))]))\/
  (¬8000<t.size/\ay c/\∃(x:Pd) (va:Option Addr) (vl vc:Nat),c.ps[pl Pd.n c.ps t]?=F_ x/\x.n=t/\e=Ha (Hg #[Hc #[I x.n,GZ G6 x.c,I x.z,J va vl vc,I x.d,GZ G6 x.p],.nilIface])/\aD w va vl vc x.zs))
theorem tB(d:Ad) (c:Cl) (t:ByteArray) (E:Nat->Addr) (w:World) (hr:aE w d c.raw) (hG:Ers w E):
  Calls Tryz.prog 16 #[Hc #[J d.a1 d.l1 d.c1,J d.a2 d.l2 d.c2,J d.a3 d.l3 d.c3,J d.a4 d.l4 d.c4,J d.a5 d.l5 d.c5,GZ G6 c.now],I t] w (ED c t E w):=by
 have HR:=ae hr;have HE:=ae hG;have HB:=ae (Ft w.heap.size w);clear hr hG;by_cases hl:8000<t.size
 ·have ev:=(HE.below (aM w (G7 (clv d c.now) 29) (G7 #[I ⟨#[]⟩,GZ G6 0,I ⟨#[]⟩,J U 0 0,I ⟨#[]⟩,GZ G6 0] 40))).v0;go_enter Tryz.func16,Tryz.ntmps16;go_wp2_with fail;refine (y8 t _ hl).mono ?_;rintro e w1 ⟨rfl,rfl⟩;go_wp2;go_region;go_wp2;exact bodyPost_ret (v:=Hg #[Hc #[I ⟨#[]⟩,GZ G6 0,I ⟨#[]⟩,J U 0 0,I ⟨#[]⟩,GZ G6 0],.iface 193 (Hf (F_ (E 0)))]) rF rfl ⟨Below.jD (aM _ _ _),He ⟨0,by decide,hl,rfl⟩⟩
 go_enter Tryz.func16,Tryz.ntmps16;go_wp2_with fail;refine (Aq t _ hl).mono ?_;rintro e w1 ⟨rfl,rfl⟩;go_wp2_with fail;refine (qx d c _ (HR.below (HB.trans ((aM _ _ _).mono HB.size))) (HE.below (HB.trans ((aM _ _ _).mono HB.size))).ens).mono ?_;rintro e w1 ⟨r,rfl,hi,hb⟩;obtain⟨HA0,HA1,hbx⟩:=bU hb;obtain⟨Bk,Br⟩:=dB;replace HB:=upB HB hbx;clear hb hbx HA0 HA1;have HI:=ae hi;clear hi;cases r
 ·obtain⟨k0,k1,k2,k3,k4,k5⟩:=cs6 Bk;obtain⟨r0,r1,r2,r3,r4,r5⟩:=cs6 Br;obtain⟨fr0,fr1,fr2,fr3,fr4,fr5⟩:=ic;have ev:=(HE.below HB.out).v1;have evl:=br HE.v1;go_wp2;go_region;go_wp2;exact bodyPost_ret (v:=Hg #[Hc #[I ⟨#[]⟩,GZ G6 0,I ⟨#[]⟩,J U 0 0,I ⟨#[]⟩,GZ G6 0],.iface 193 (Hf (F_ (E 1)))]) rF rfl ⟨Below.jD (sb1 (sb1 (sb1 (sb1 (sb1 (sb1 (HB.out))))))),He ⟨1,by decide,⟨hl,λh=>(by have:=HI.2 h;cases this)⟩,rfl⟩⟩
 have HT:=ae (HI.1 bT);clear HI;obtain⟨k0,k1,k2,k3,k4,k5⟩:=cs6 Bk;go_wp2_with fail;refine (qL d.a5 d.l5 d.c5 c.ps t w _ HR.p HB.out).mono ?_;rintro e w2 ⟨hb,hf⟩;clear k0 k1 k2 k3 k4 k5;replace Bk:=upK Bk hb;replace Br:=upK Br hb;replace HB:=upB HB hb;clear hb;rcases hf with ⟨hh,x,va,vl,vc,hx,hn,rfl,z0,z2,z4,hvr⟩|⟨hh,rfl⟩
 ·have HX:=ae (Fk hx (Fk hn hvr));clear hx hn z0 z2 z4 hh hvr;obtain⟨k0,k1,k2,k3,k4,k5⟩:=cs6 Bk;obtain⟨r0,r1,r2,r3,r4,r5⟩:=cs6 Br;have ltr_2:=aa Br.out;obtain⟨fr0,fr1,fr2,fr3,fr4,fr5⟩:=ic;go_wp2;exact bodyPost_ret (v:=Hg #[Hc #[I x.n,GZ G6 x.c,I x.z,J va vl vc,I x.d,GZ G6 x.p],.nilIface]) rF rfl ⟨GF (sb1 (sb1 (sb1 (sb1 (sb1 (sb1 (HB.out))))))) (by simp[Gb];have:=HB.size;omega) _,Hd ⟨hl,HT.out,x,va,vl,vc,HX.1,HX.2.1,rfl,HX.2.2⟩⟩
 ·have HH:=ae hh;clear hh;obtain⟨k0,k1,k2,k3,k4,k5⟩:=cs6 Bk;obtain⟨r0,r1,r2,r3,r4,r5⟩:=cs6 Br;have ltr_2:=aa Br.out;obtain⟨fr0,fr1,fr2,fr3,fr4,fr5⟩:=ic;have ev:=(HE.below HB.out).v2;have evl:=br HE.v2;have evl2:=br ev;go_wp2;go_region;go_wp2;exact bodyPost_ret (v:=Hg #[Hc #[I ⟨#[]⟩,GZ G6 0,I ⟨#[]⟩,J U 0 0,I ⟨#[]⟩,GZ G6 0],.iface 193 (Hf (F_ (E 2)))]) rF rfl ⟨Below.jD (GF (sb1 (sb1 (sb1 (sb1 (sb1 (sb1 (HB.out))))))) (by simp[Gb];have:=HB.size;omega) _),He ⟨2,by decide,⟨hl,HT.out,HH.out⟩,rfl⟩⟩
def AO(c:Cl) (x:Pd):Prop:=∃n:Nd,c.ns[pl Nd.n c.ns x.d]?=F_ n/\n.n=x.d/\n.d=Hb/\n.u+5<c.now
def idle(x:Pd):Pd:=⟨x.n,x.c,x.z,x.zs,⟨#[]⟩,0⟩
def evC(c:Cl) (t:ByteArray) (x:Pd):Cl:=⟨c.ns,c.ks,c.vs,c.xs,c.ps.set (pl Pd.n c.ps t) (idle x),c.now⟩
def Aa(c:Cl) (x:Pd):Cl:=⟨c.ns,c.ks,c.vs,c.xs,aY (pl Pd.n (wo Pd.n x.n c.ps) x.n) x (wo Pd.n x.n c.ps),c.now⟩
def EvWhy(c:Cl) (t:ByteArray):Nat->Prop
 | 0=>8000<t.size
 | 1=>¬8000<t.size/\¬ay c
 | 2=>¬8000<t.size/\ay c/\hit Pd.n c.ps t=G_
 | 8=>¬8000<t.size/\ay c/\∃x,c.ps[pl Pd.n c.ps t]?=F_ x/\x.n=t/\x.p=0
 | 7=>¬8000<t.size/\ay c/\∃x,c.ps[pl Pd.n c.ps t]?=F_ x/\x.n=t/\¬x.p=0/\¬AO c x
 | _=>False
def bC(c:Cl) (t:ByteArray) (o:Co):Prop:=(∃i,EvWhy c t i/\o=co0 (bF i))\/(¬8000<t.size/\ay c/\∃x,c.ps[pl Pd.n c.ps t]?=F_ x/\x.n=t/\¬x.p=0/\AO c x/\o=⟨evC c t x,⟨#[]⟩,0⟩)
theorem ay.node(h:ay c) (hx:c.ps[i]?=F_ x) (hp:¬x.p=0):∃(j:Nat) (n:Nd),c.ns[j]?=F_ n/\n.n=x.d/\Inn n.u 0 1000000:=by
 have h1:=h.2.1.2.2.2.2.2.1 i x hx;have h2:=(h.2.2.2.1.1 i x hx).2;have hd:¬x.d=⟨#[]⟩:=λe=>by
  have h3:=h1.2.2.2.2;rw[e] at h3;rcases h3 with ⟨h3,_⟩|⟨_,h3⟩
  ·exact hp h3
  ·have h5:=h3.1;revert h5;decide
 obtain⟨j,n,h3,h4,_⟩:=h2.resolve_left hd;exact⟨j,n,h3,h4,(h.2.1.1.2.1 j n h3).2.2.2.2.1⟩
theorem z_ {ps:List Pd} {y:Pd} (hr:aJ Pd.n ps) (hx:ps[k]?=F_ x) (hn:x.n=t):aY (pl Pd.n (wo Pd.n t ps) t) y (wo Pd.n t ps)=ps.set k y:=by
 have hk:k<ps.length:=(Fm.1 hx).1;have hw:=gT hr hx hn;have hpl:pl Pd.n (wo Pd.n t ps) t=k:=by
  rw[hw];have hlt:∀(j:Nat) z,j<k->(ps.take k++ps.drop (k+1))[j]?=F_ z->Fx z.n.toList t.toList=Hb:=λj z hj hz=>by
   have h1:(ps.take k).length=k:=by rw[FW];omega
   rw[List.getElem?_append_left af,FQ,if_pos hj] at hz;have:=hr.lt hj hz hx;rw[hn] at this;exact this
  by_cases he:k+1<ps.length
  ·have h1:(ps.take k).length=k:=by rw[FW];omega
   have h2:(ps.take k++ps.drop (k+1))[k]?=F_ ps[k+1]:=by
    rw[List.getElem?_append_right af,h1,Nat.sub_self,F8];exact Fu he
   refine lA hlt h2 ?_;have h3:=hr.lt (Nat.lt_succ_self k) hx (Fu he);rw[hn] at h3;cases h9:Fx ps[k+1].n.toList t.toList
   ·rfl
   ·have h8:=cA _ _ _ h3 h9;rw[dP] at h8;cases h8
  ·have h4:ps.take k++ps.drop (k+1)=ps.take k:=by rw[FN af,List.append_nil]
   rw[h4];rw[h4] at hlt;have h1:(ps.take k).length=k:=by rw[FW];omega
   rw[fp (λj z hz=>hlt j z da hz),h1]
 rw[hpl,hw];unfold aY;have h1:(ps.take k).length=k:=by rw[FW];omega
 rw[GO h1,List.drop_left' h1,List.set_eq_take_append_cons_drop,if_pos hk];simp
theorem qB(d:Ad) (now:Int) (n z:ByteArray) (p s u:Int) (y:Bool) (va:Option Addr) (vl vc:Nat) (w:World)  :
  Calls Tryz.prog 19 #[Hc #[J d.a1 d.l1 d.c1,J d.a2 d.l2 d.c2,J d.a3 d.l3 d.c3,J d.a4 d.l4 d.c4,J d.a5 d.l5 d.c5,GZ G6 now],Hc #[I n,I z,GZ G6 p,GZ G6 s,GZ G6 u,G8 y,J va vl vc]] w λe w'=>e=Ha (Hc #[GZ G6 u,GZ G6 now])/\Below w.heap.size w w':=by
 go_enter Tryz.func19,Tryz.ntmps19;go_wp2;exact bodyPost_ret (v:=Hc #[GZ G6 u,GZ G6 now]) (by simp[results,Tryz.results19,go_sem]) rfl ⟨rfl,cI _ _ _ _⟩
theorem zh(u now:Int) (w:World) (h0:0<=u) (h1:u<=1000000):
  Calls Tryz.prog 20 #[Hc #[GZ G6 u,GZ G6 now]] w λe w'=>e=Ha (G8 (decide (u+5<now)))/\Below w.heap.size w w':=by
 go_enter Tryz.func20,Tryz.ntmps20;go_wp2;go_ret;exact⟨rfl,aq _ _⟩
theorem qu(d:Ad) (c:Cl) (x:Pd) (va:Option Addr) (vl vc:Nat) (w:World) (hr:aE w d c.raw) (hs:Sm c) (hx:aD w va vl vc x.zs) (hvl:vl<=8001) (z0:x.n.size<=9223372036854775807) (z2:x.z.size<=9223372036854775807) (z4:x.d.size<=9223372036854775807):
  Calls Tryz.prog 21 #[Hc #[J d.a1 d.l1 d.c1,J d.a2 d.l2 d.c2,J d.a3 d.l3 d.c3,J d.a4 d.l4 d.c4,J d.a5 d.l5 d.c5,GZ G6 c.now],Hc #[I x.n,GZ G6 x.c,I x.z,J va vl vc,I x.d,GZ G6 x.p]] w λe w'=> ∃d',e=Ha (Hc #[J d'.a1 d'.l1 d'.c1,J d'.a2 d'.l2 d'.c2,J d'.a3 d'.l3 d'.c3,J d'.a4 d'.l4 d'.c4,J d'.a5 d'.l5 d'.c5,GZ G6 c.now])/\dz w' d' (Aa c x).raw (λk=>w.heap.size<=k)/\Below w.heap.size w w':=by
 have HR:=ae hr;have HS:=ae hs;have HX:=ae hx;have HB:=ae (Ft w.heap.size w);clear hr hs hx;go_enter Tryz.func21,Tryz.ntmps21;go_wp2_with fail;refine (tu d c _ (HR.below (HB.trans ((cI _ _ _ _).mono HB.size))) HS.out).mono ?_;rintro e w1 ⟨d',rfl,ho,hb⟩;have HQ2:=ae hb.size;simp only[cB] at HQ2 ho;obtain⟨HA0,HA1,HA2,hbx⟩:=iM hb;have Bk:=ae HA0;have Bp:=ae HA1;have Br:=ae HA2;replace HB:=upB HB hbx;clear hb hbx HA0 HA1 HA2;obtain⟨P,hP⟩:=ho;have HP:=ae hP;have hq2:w.heap.size+1+1+1<=w1.heap.size:=HQ2.out;clear hP;obtain⟨p0,p1,p2,p3,p4,p5⟩:=cs6 Bp;have ltp_1:=aa Bp.out;have h5:=(HP.p.bI (S':=(λk=>(w.heap.size+1+1+1<=k/\P k=5)/\k<w1.heap.size)) (λk hk s=>⟨s,hk⟩)).below (aq w1 (G7 (clv d' c.now) 29));have hlen:d'.l5<=8:=by have h6:=HP.p.1;have h7:(c.ps.map pdF).length=d'.l5:=h6;rw[FB] at h7;have:=HS.p;omega
 have hbo:Below w1.heap.size w1 (w1.alloc (G7 (clv d' c.now) 29)):=aq w1 (G7 (clv d' c.now) 29);have hpk:=aa Bp.out;have hc1:Calls Tryz.prog 43 #[J d'.a5 d'.l5 d'.c5,I x.n] (w1.alloc (G7 (clv d' c.now) 29)).drew λe W=> ∃a2 l2 c2,e=Ha (J a2 l2 c2)/\Hid (aA W a2 l2 c2 6 40 ((wo Pd.n x.n c.ps).map pdF) (λk=>(λk=>(w.heap.size+1+1+1<=k/\P k=5)/\k<w1.heap.size) k\/w1.heap.size+1<=k))/\Hid (Below (w1.alloc (G7 (clv d' c.now) 29)).heap.size (w1.alloc (G7 (clv d' c.now) 29)) W)/\Hid (W.heap[w.heap.size+1]?=F_ (G7 (pov x va vl vc) 40 (0,0)))/\Hid (W.heap[w1.heap.size]?=F_ (G7 (clv d' c.now) 29 (0,0)))/\Hid (W.heap[w.heap.size+1+1]?=F_ (G7 (clo6 U 0 0 U 0 0 U 0 0 U 0 0 U 0 0 0) 29 (0,0))):=by
  refine (tl d'.a5 d'.l5 d'.c5 c.ps x.n (λk=>(w.heap.size+1+1+1<=k/\P k=5)/\k<w1.heap.size) (w1.alloc (G7 (clv d' c.now) 29)).drew (h5.aB (λ_ _ _=>rfl) (λ_ _ s=>s)) hlen).mono ?_;rintro e W ⟨a2,l2,c2,rfl,hN,hb⟩;have hb':Below (w1.alloc (G7 (clv d' c.now) 29)).heap.size (w1.alloc (G7 (clv d' c.now) 29)) W:=⟨hb.os,hb.tape,hb.output,hb.size,hb.block⟩;have hN':=hN.bI (S':=λk=>(λk=>(w.heap.size+1+1+1<=k/\P k=5)/\k<w1.heap.size) k\/w1.heap.size+1<=k) (λk _ s=>s.imp id (λq=>by have q1:(w1.alloc (G7 (clv d' c.now) 29)).drew.heap.size<=k:=q;simpa using q1));exact⟨a2,l2,c2,rfl,hN',hb',(hb'.block _ bD).trans ((hbo.block _ hpk).trans Bp.out),(hb'.block _ aH).trans (heap_alloc_new w1 (G7 (clv d' c.now) 29)),(hb'.block _ bD).trans ((hbo.block _ af).trans Br.out)⟩
 have hc2:∀W,Below (w1.alloc (G7 (clv d' c.now) 29)).heap.size (w1.alloc (G7 (clv d' c.now) 29)) W->Hid (W.heap[w.heap.size+1]?=F_ (G7 (pov x va vl vc) 40 (0,0)))/\Hid (W.heap[w1.heap.size]?=F_ (G7 (clv d' c.now) 29 (0,0)))/\Hid (W.heap[w.heap.size+1+1]?=F_ (G7 (clo6 U 0 0 U 0 0 U 0 0 U 0 0 U 0 0 0) 29 (0,0)))->Calls Tryz.prog 45 #[Hc #[I x.n,GZ G6 x.c,I x.z,J va vl vc,I x.d,GZ G6 x.p]] W λe W3=> ∃a3 l3 c3,e=Ha (Hc #[I x.n,GZ G6 x.c,I x.z,J a3 l3 c3,I x.d,GZ G6 x.p])/\Hid (bQ W3 a3 l3 c3 x.zs (λk=>W.heap.size<=k))/\Hid (Below W.heap.size W W3)/\Hid (W3.heap[w.heap.size+1]?=F_ (G7 (pov x va vl vc) 40 (0,0)))/\Hid (W3.heap[w1.heap.size]?=F_ (G7 (clv d' c.now) 29 (0,0)))/\Hid (W3.heap[w.heap.size+1+1]?=F_ (G7 (clo6 U 0 0 U 0 0 U 0 0 U 0 0 U 0 0 0) 29 (0,0))):=λW hb hkp=>by
  refine (kr x va vl vc W (HX.below (HB.trans ((hbo.trans (hb.mono aH)).mono HB.size))) hvl).mono ?_;rintro e W3 ⟨a3,l3,c3,rfl,hO,hb3⟩;exact⟨a3,l3,c3,rfl,hO,hb3,(hb3.block _ (aa hkp.1.out)).trans hkp.1.out,(hb3.block _ (aa hkp.2.1.out)).trans hkp.2.1.out,(hb3.block _ (aa hkp.2.2.out)).trans hkp.2.2.out⟩
 have hc3:∀(W W3:World) a2 l2 c2 a3 l3 c3,Below (w1.alloc (G7 (clv d' c.now) 29)).heap.size (w1.alloc (G7 (clv d' c.now) 29)) W->aA W a2 l2 c2 6 40 ((wo Pd.n x.n c.ps).map pdF) (λk=>(λk=>(w.heap.size+1+1+1<=k/\P k=5)/\k<w1.heap.size) k\/w1.heap.size+1<=k)->Below W.heap.size W W3->bQ W3 a3 l3 c3 x.zs (λk=>W.heap.size<=k)->Hid (W3.heap[w.heap.size+1]?=F_ (G7 (pov x va vl vc) 40 (0,0)))/\Hid (W3.heap[w1.heap.size]?=F_ (G7 (clv d' c.now) 29 (0,0)))/\Hid (W3.heap[w.heap.size+1+1]?=F_ (G7 (clo6 U 0 0 U 0 0 U 0 0 U 0 0 U 0 0 0) 29 (0,0)))->Calls Tryz.prog 44 #[J a2 l2 c2,Hc #[I x.n,GZ G6 x.c,I x.z,J a3 l3 c3,I x.d,GZ G6 x.p]] W3 λe W4=> ∃a4 l4 c4,e=Ha (J a4 l4 c4)/\Hid (aA W4 a4 l4 c4 6 40 ((Aa c x).ps.map pdF) (λk=>(λk=>(w.heap.size+1+1+1<=k/\P k=5)/\k<w1.heap.size) k\/w1.heap.size+1<=k))/\Hid (Below w1.heap.size w1 W4)/\Hid (W4.heap[w.heap.size+1]?=F_ (G7 (pov x va vl vc) 40 (0,0)))/\Hid (W4.heap[w1.heap.size]?=F_ (G7 (clv d' c.now) 29 (0,0)))/\Hid (W4.heap[w.heap.size+1+1]?=F_ (G7 (clo6 U 0 0 U 0 0 U 0 0 U 0 0 U 0 0 0) 29 (0,0))):=λW W3 a2 l2 c2 a3 l3 c3 hb hO2 hb3 hO3 hkp=>by
  obtain⟨g,hg⟩:=hO3.fr;have hr2:=(hO2.bI (S':=λk=>((λk=>(w.heap.size+1+1+1<=k/\P k=5)/\k<w1.heap.size) k\/w1.heap.size+1<=k)/\k<W.heap.size) (λk hk s=>⟨s,hk⟩)).below hb3;have hl2:l2<=8:=by have h6:=hO2.1;rw[FB] at h6;have h7:=AW Pd.n x.n c.ps;have:=HS.p;omega
  have hs1:=hb.size;simp only[cB] at hs1;refine (oF a2 l2 c2 (wo Pd.n x.n c.ps) x a3 l3 c3 g _ (λk=>W.heap.size<=k) W3 hr2 hl2 (λi f hf=>by rcases i with _|_|_|_|_|_|i <;> simp[pdF] at hf <;> subst hf;exact⟨_,rfl,rfl,z0⟩;exact⟨_,rfl,rfl⟩;exact⟨_,rfl,rfl,z2⟩;exact⟨_,rfl,hg⟩;exact⟨_,rfl,rfl,z4⟩;exact⟨_,rfl,rfl⟩) (λk q1 q2=>by have q3:=q1.2;have q4:W.heap.size<=k:=q2;omega)).mono ?_;rintro e W4 ⟨a4,l4,c4,rfl,hN,hb4⟩;have hs3:=hb3.size;have hb14:Below w1.heap.size w1 W4:=(hbo.trans (hb.mono aH)).trans ((hb3.mono af).trans (hb4.mono af));have hN':=hN.bI (S':=λk=>(λk=>(w.heap.size+1+1+1<=k/\P k=5)/\k<w1.heap.size) k\/w1.heap.size+1<=k) (λk _ s=>by
   rcases s with (s|s)|s
   ·exact s.1
   ·have s1:W.heap.size<=k:=s;exact Hd af
   ·have s1:W3.heap.size<=k:=s;exact Hd af)
  exact⟨a4,l4,c4,rfl,hN',hb14,(hb4.block _ (aa hkp.1.out)).trans hkp.1.out,(hb4.block _ (aa hkp.2.1.out)).trans hkp.2.1.out,(hb4.block _ (aa hkp.2.2.out)).trans hkp.2.2.out⟩
 have C1:=ae hc1;have C2:=ae hc2;have C3:=ae hc3;clear hc1 hc2 hc3 h5 HX;have mixed:Tryz.prog.follows .mixedOrders=Hb:=au
 go_wp2;go_region_with (first
  | (go_at_call 43;refine C1.mono ?_;rintro e w2 ⟨a2,l2,c2,rfl,HO2,HB2,HKP2⟩;obtain⟨p0,p1,p2,p3,p4,p5⟩:=cs6 HKP2.1.out)
  | (go_at_call 45;refine (C2.out w2 HB2.out HKP2).mono ?_;rintro e w3 ⟨a3,l3,c3,rfl,HO3,HB3,HKP3⟩)
  | (go_at_call 44;refine (C3.out w2 w3 a2 l2 c2 a3 l3 c3 HB2.out HO2.out HB3.out HO3.out HKP3).mono ?_;rintro e w4 ⟨a4,l4,c4,rfl,HO4,HB4,HKP4⟩;obtain⟨o0,o1,o2,o3,o4,o5⟩:=cs6 HKP4.2.1.out;have hol:=aa HKP4.2.1.out;have fo4:=al HKP4.2.1.out 4))
 all_goals (
  obtain⟨r0,r1,r2,r3,r4,r5⟩:=cs6 HKP4.2.2.out;have fr0:=al HKP4.2.2.out 0;have fr1:=al HKP4.2.2.out 1;have fr2:=al HKP4.2.2.out 2;have fr3:=al HKP4.2.2.out 3;have fr4:=al HKP4.2.2.out 4;have fr5:=al HKP4.2.2.out 5;have hrl:=aa HKP4.2.2.out
  have hne:¬w.heap.size+1+1=w1.heap.size:=af
  have hne2:¬w1.heap.size=w.heap.size+1+1:=af
  go_wp2
  refine bodyPost_ret (v:=Hc #[J d'.a1 d'.l1 d'.c1,J d'.a2 d'.l2 d'.c2,J d'.a3 d'.l3 d'.c3,J d'.a4 d'.l4 d'.c4,J a4 l4 c4,GZ G6 c.now]) (by simp[results,Tryz.results21,go_sem, *]) rfl ⟨⟨d'.a1,d'.l1,d'.c1,d'.a2,d'.l2,d'.c2,d'.a3,d'.l3,d'.c3,d'.a4,d'.l4,d'.c4,a4,l4,c4⟩,rfl,?_,sb2 (sb2 (sb2 (sb2 (sb2 (sb2 (ak (show w.heap.size<=w1.heap.size by omega) (HB.trans (HB4.mono HB.size))))))))⟩;have h9:=HP.E1 hq2 HO4.out HB4.out (w4:=(((((((w4.setCell ⟨w1.heap.size,4,U⟩ (J a4 l4 c4)).setCell ⟨w.heap.size+1+1,0,U⟩ (J d'.a1 d'.l1 d'.c1)).setCell ⟨w.heap.size+1+1,1,U⟩ (J d'.a2 d'.l2 d'.c2)).setCell ⟨w.heap.size+1+1,2,U⟩ (J d'.a3 d'.l3 d'.c3)).setCell ⟨w.heap.size+1+1,3,U⟩ (J d'.a4 d'.l4 d'.c4)).setCell ⟨w.heap.size+1+1,4,U⟩ (J a4 l4 c4)).setCell ⟨w.heap.size+1+1,5,U⟩ (GZ G6 c.now))) (λk h1 h2=>by rw[Fl _ _ _ _ (show k≠w.heap.size+1+1 by omega),Fl _ _ _ _ (show k≠w.heap.size+1+1 by omega),Fl _ _ _ _ (show k≠w.heap.size+1+1 by omega),Fl _ _ _ _ (show k≠w.heap.size+1+1 by omega),Fl _ _ _ _ (show k≠w.heap.size+1+1 by omega),Fl _ _ _ _ (show k≠w.heap.size+1+1 by omega),Fl _ _ _ _ (show k≠w1.heap.size by omega)])
  exact h9.bI (λk _ s=>by have s1:w.heap.size+1+1+1<=k:=s;show w.heap.size<=k;omega))
theorem mH.ev(h:mH c t i):EvWhy c t i:=by
 rcases i with _|_|_|i <;> first|exact h|exact h.elim
theorem AA(hr:ay c) (hx:c.ps[pl Pd.n c.ps t]?=F_ x) (hn:x.n=t):Aa c (idle x)=evC c t x:=by
 unfold Aa evC;have h:=z_ (y:=idle x) hr.2.1.2.2.2.2.2.2 hx hn;rw[<-hn] at h ⊢;rw[show (idle x).n=x.n from rfl,h]
theorem qD(d:Ad) (c:Cl) (t:ByteArray) (E:Nat->Addr) (w:World) (hr:aE w d c.raw) (hG:Ers w E):
  Calls Tryz.prog 5 #[Hc #[J d.a1 d.l1 d.c1,J d.a2 d.l2 d.c2,J d.a3 d.l3 d.c3,J d.a4 d.l4 d.c4,J d.a5 d.l5 d.c5,GZ G6 c.now],I t] w (E_ (bC c t) w):=by
 have HR:=ae hr;have HE:=ae hG;have HB:=ae (Ft w.heap.size w);clear hr hG;go_enter Tryz.func5,Tryz.ntmps5;go_wp2_with fail;refine (tB d c t E _ (HR.below (HB.trans ((aM _ _ _).mono HB.size))) (HE.below (HB.trans ((aM _ _ _).mono HB.size)))).mono ?_;rintro e w1 ⟨hb,hf⟩;have HBW:=ae hb;obtain⟨HA0,HA1,hbx⟩:=bU hb;obtain⟨Bk,Br⟩:=dB;replace HB:=upB HB hbx;clear hb hbx HA0 HA1;rcases hf with ⟨i,hi8,hwhy,rfl⟩|⟨hl,hT,x,va,vl,vc,hx,hn,rfl,hvr⟩
 ·obtain⟨k0,k1,k2,k3,k4,k5⟩:=cs6 Bk;have ltk_1:=aa Bk.out;have HV:Hid (bC c t (co0 (bF i))):=He ⟨i,hwhy.ev,rfl⟩;obtain⟨cc,hcc⟩:∃cc,cc=bF i:=⟨_,rfl⟩;rw[<-hcc] at HV;go_wp2_with fail;refine (eJ E i cc hcc _ (HE.below (HB.trans ((aq _ _).mono HB.size))) ru).mono ?_;rintro e w2 ⟨rfl,hb⟩;clear k0 k1 k2 k3 k4 k5 ltk_1;obtain⟨HA0,hbx⟩:=aT hb;replace Bk:=upK Bk hbx;replace Br:=upK Br hbx;have Bp:=ae HA0;exact wW
 have HQ1:Hid (w.heap.size+1<w1.heap.size):=aa Br.out;have HT:=ae hT;have HX:=ae (Fk hx hn);have HVR:=ae (hvr.below HBW.out);have HY:=ae (Bw.refl w1);clear hT hx hn hvr HBW;by_cases hp:x.p=0
 ·have hpb:(x.p==0)=Hb:=et
  obtain⟨k0,k1,k2,k3,k4,k5⟩:=cs6 Bk;have ltk_1:=aa Bk.out;have HV:Hid (bC c t (co0 (bF 8))):=He ⟨8,⟨hl,HT.out,x,HX.1,HX.2,hp⟩,rfl⟩;obtain⟨cc,hcc⟩:∃cc,cc=bF 8:=⟨_,rfl⟩;rw[<-hcc] at HV;have ev:=(HE.below HB.out).v8;have evl:=br ev;go_wp2_with fail;refine (eJ E 8 cc hcc _ (HE.below (HB.trans ((aq _ _).mono HB.size))) ru).mono ?_;rintro e w2 ⟨rfl,hb⟩;clear k0 k1 k2 k3 k4 k5 ltk_1;obtain⟨HA0,hbx⟩:=aT hb;replace Bk:=upK Bk hbx;replace Br:=upK Br hbx;have Bp:=ae HA0;replace HY:=ae (HY.below hbx);exact wW
 have hpb:(x.p==0)=G_:=et
 obtain⟨k0,k1,k2,k3,k4,k5⟩:=cs6 Bk;have ltk_1:=aa Bk.out;go_wp2_with fail;refine (fV d c.now c.ns x.d w _ HR.n (HB.trans ((aq _ _).mono HB.size))).mono ?_;rintro e w2 ⟨hb,hf⟩;clear k0 k1 k2 k3 k4 k5 ltk_1;obtain⟨HA0,hbx⟩:=aT hb;replace Bk:=upK Bk hbx;replace Br:=upK Br hbx;have Bp:=ae HA0;replace HY:=ae (HY.below hbx);replace HB:=upB HB hbx;clear hb hbx HA0;rcases hf with ⟨hh,n,ua,ul,uc,hnx,hnn,rfl,zz0,zz1,hur⟩|⟨hh,rfl⟩;rotate_left
 ·obtain⟨j,n,h1,h2,_⟩:=HT.node HX.1 hp;have h3:=(bl HT.2.1.1.2.2 h1 h2).2;rw[hh] at h3;cases h3
 have HN:=ae (Fk hnx hnn);obtain⟨hu0,hu1⟩:=(HT.2.1.1.2.1 _ n hnx).2.2.2.2.1;clear hh hnx hnn zz0 zz1 hur;cases hd:n.d
 ·obtain⟨k0,k1,k2,k3,k4,k5⟩:=cs6 Bk;have ltk_2:=aa Bk.out;obtain⟨p0,p1,p2,p3,p4,p5⟩:=cs6 Bp;have ltp_2:=aa Bp.out;have HV:Hid (bC c t (co0 (bF 7))):=He ⟨7,⟨hl,HT.out,x,HX.1,HX.2,hp,λh=>(by obtain⟨m,h1,_,h3,h4⟩:=h;rw[HN.1] at h1;obtain rfl:=Fp h1;rw[hd] at h3;cases h3)⟩,rfl⟩;obtain⟨cc,hcc⟩:∃cc,cc=bF 7:=⟨_,rfl⟩;rw[<-hcc] at HV;have ev:=(HE.below HB.out).v7;have evl:=br ev;go_wp2_with fail;refine (eJ E 7 cc hcc _ (HE.below (HB.trans ((aq _ _).mono HB.size))) ru).mono ?_;rintro e w3 ⟨rfl,hb⟩;clear k0 k1 k2 k3 k4 k5 ltk_2 p0 p1 p2 p3 p4 p5 ltp_2;obtain⟨HA0,hbx⟩:=aT hb;replace Bk:=upK Bk hbx;replace Br:=upK Br hbx;replace Bp:=upK Bp hbx;have Bn:=ae HA0;replace HY:=ae (HY.below hbx);replace HB:=upB HB hbx;clear hb hbx HA0;clear hcc;obtain⟨r0,r1,r2,r3,r4,r5,r6,r7⟩:=cs8 Br;have ltr_3:=aa Br.out;obtain⟨fr0,fr1,fr2,fr3,fr4,fr5,fr6,fr7⟩:=cq;have hrl:w.heap.size+1<w3.heap.size:=aa Br.out;exact vd
 obtain⟨k0,k1,k2,k3,k4,k5⟩:=cs6 Bk;have ltk_2:=aa Bk.out;obtain⟨p0,p1,p2,p3,p4,p5⟩:=cs6 Bp;have ltp_2:=aa Bp.out;go_wp2_with fail;refine (qB d c.now n.n n.z n.c n.s n.u Hb ua ul uc _).mono ?_;rintro e w3 ⟨rfl,hb⟩;clear k0 k1 k2 k3 k4 k5 ltk_2 p0 p1 p2 p3 p4 p5 ltp_2;obtain⟨HA0,hbx⟩:=aT hb;replace Bk:=upK Bk hbx;replace Br:=upK Br hbx;replace Bp:=upK Bp hbx;have Bn:=ae HA0;replace HY:=ae (HY.below hbx);replace HB:=upB HB hbx;clear hb hbx HA0;go_wp2_with fail;refine (zh n.u c.now _ hu0 hu1).mono ?_;rintro e w4 ⟨rfl,hb⟩;replace Bk:=upK Bk hb;replace Br:=upK Br hb;replace Bp:=upK Bp hb;replace Bn:=upK Bn hb;replace HY:=ae (HY.below hb);replace HB:=upB HB hb;clear hb;by_cases hg:n.u+5<c.now;rotate_left
 ·have hgb:decide (n.u+5<c.now)=G_:=by simpa using hg
  obtain⟨k0,k1,k2,k3,k4,k5⟩:=cs6 Bk;have ltk_4:=aa Bk.out;obtain⟨p0,p1,p2,p3,p4,p5⟩:=cs6 Bp;have ltp_4:=aa Bp.out;have HV:Hid (bC c t (co0 (bF 7))):=He ⟨7,⟨hl,HT.out,x,HX.1,HX.2,hp,λh=>(by obtain⟨m,h1,_,h3,h4⟩:=h;rw[HN.1] at h1;obtain rfl:=Fp h1;exact hg h4)⟩,rfl⟩;obtain⟨cc,hcc⟩:∃cc,cc=bF 7:=⟨_,rfl⟩;rw[<-hcc] at HV;have ev:=(HE.below HB.out).v7;have evl:=br ev;go_wp2_with fail;refine (eJ E 7 cc hcc _ (HE.below HB.out) ru).mono ?_;rintro e w5 ⟨rfl,hb⟩;clear k0 k1 k2 k3 k4 k5 ltk_4 p0 p1 p2 p3 p4 p5 ltp_4;replace Bk:=upK Bk hb;replace Br:=upK Br hb;replace Bp:=upK Bp hb;replace Bn:=upK Bn hb;replace HY:=ae (HY.below hb);replace HB:=upB HB hb;clear hb;clear hcc;obtain⟨r0,r1,r2,r3,r4,r5,r6,r7⟩:=cs8 Br;have ltr_5:=aa Br.out;obtain⟨fr0,fr1,fr2,fr3,fr4,fr5,fr6,fr7⟩:=cq;have hrl:w.heap.size+1<w5.heap.size:=aa Br.out;exact vd
 have hgb:decide (n.u+5<c.now)=Hb:=by simpa using hg
 have HV:Hid (bC c t ⟨evC c t x,⟨#[]⟩,0⟩):=Hd ⟨hl,HT.out,x,HX.1,HX.2,hp,⟨n,HN.1,HN.2,hd,hg⟩,rfl⟩;obtain⟨k0,k1,k2,k3,k4,k5⟩:=cs6 Bk;have ltk_4:=aa Bk.out;obtain⟨p0,p1,p2,p3,p4,p5⟩:=cs6 Bp;have ltp_4:=aa Bp.out;have fp0:=al Bp.out 0;have fp1:=al Bp.out 1;have fp2:=al Bp.out 2;have fp3:=al Bp.out 3;have fp4:=al Bp.out 4;have fp5:=al Bp.out 5;have hq1:=HQ1.out;have hne:¬w.heap.size=w1.heap.size:=af
 have hne2:¬w1.heap.size=w.heap.size:=af
 have hne3:¬w1.heap.size=w.heap.size+1:=af
 have hne4:¬w.heap.size+1=w1.heap.size:=af
 go_wp2_with fail;have hpo:=HT.2.1.2.2.2.2.2.1 _ x HX.1;have z0:(idle x).n.size<=9223372036854775807:=by have h1:=hpo.1.2.1;show x.n.size<=_;omega
 have z2:(idle x).z.size<=9223372036854775807:=by
  show x.z.size<=_;rcases hpo.2.2.1 with h1|h1
  ·rw[h1];decide
  ·have h2:=h1.2.1;omega
 have hvl:vl<=8001:=by have h1:=HVR.1;have h2:=hpo.2.2.2.1.1;omega
 have hbs:Below w.heap.size w ((w4.setCell ⟨w1.heap.size,4,U⟩ (I ⟨#[]⟩)).setCell ⟨w1.heap.size,5,U⟩ (GZ G6 0)):=ak af (ak af HB.out);have hby:Below w1.heap.size w1 ((w4.setCell ⟨w1.heap.size,4,U⟩ (I ⟨#[]⟩)).setCell ⟨w1.heap.size,5,U⟩ (GZ G6 0)):=ak (Fq _) (ak (Fq _) HY.out);refine (qu d c (idle x) va vl vc _ (HR.below hbs) HT.sm (HVR.below hby) hvl z0 z2 (by show (0:Nat)<=_;omega)).mono ?_;rintro e w5 ⟨d',rfl,ho,hb⟩;rw[AA HT.out HX.1 HX.2] at ho;have HO:=ae ho;have hs5:=hb.size;have hs45:((w4.setCell ⟨w1.heap.size,4,U⟩ (I ⟨#[]⟩)).setCell ⟨w1.heap.size,5,U⟩ (GZ G6 0)).heap.size=w4.heap.size:=aH
 have hw4:w1.heap.size<w4.heap.size:=aa Bp.out;have Br5:=ae ((hb.block (w.heap.size+1) (by rw[hs45];omega)).trans ((Fl _ _ _ _ hne4).trans ((Fl _ _ _ _ hne4).trans Br.out)));have HB5:=ae (hbs.trans (hb.mono hbs.size));clear hb ho hby hbs;clear k0 k1 k2 k3 k4 k5 ltk_4 p0 p1 p2 p3 p4 p5 ltp_4;obtain⟨r0,r1,r2,r3,r4,r5,r6,r7⟩:=cs8 Br5;have fr0:=al Br5.out 0;have fr1:=al Br5.out 1;have fr2:=al Br5.out 2;have fr3:=al Br5.out 3;have fr4:=al Br5.out 4;have fr5:=al Br5.out 5;have fr6:=al Br5.out 6;have fr7:=al Br5.out 7;have hrl:=aa Br5.out;go_wp2;refine bodyPost_ret (v:=Hc #[J d'.a1 d'.l1 d'.c1,J d'.a2 d'.l2 d'.c2,J d'.a3 d'.l3 d'.c3,J d'.a4 d'.l4 d'.c4,J d'.a5 d'.l5 d'.c5,GZ G6 c.now,I ⟨#[]⟩,GZ G6 0]) (by simp[results,Tryz.results5,go_sem, *]) rfl ⟨d',⟨evC c t x,⟨#[]⟩,0⟩,rfl,HV.out,?_,sb1 (sb1 (sb1 (sb1 (sb1 (sb1 (sb1 (sb1 (HB5.out))))))))⟩;obtain⟨P,hP⟩:=HO.out;exact⟨P,hP.aB (w':=((((((((w5.setCell ⟨w.heap.size+1,0,U⟩ (J d'.a1 d'.l1 d'.c1)).setCell ⟨w.heap.size+1,1,U⟩ (J d'.a2 d'.l2 d'.c2)).setCell ⟨w.heap.size+1,2,U⟩ (J d'.a3 d'.l3 d'.c3)).setCell ⟨w.heap.size+1,3,U⟩ (J d'.a4 d'.l4 d'.c4)).setCell ⟨w.heap.size+1,4,U⟩ (J d'.a5 d'.l5 d'.c5)).setCell ⟨w.heap.size+1,5,U⟩ (GZ G6 c.now)).setCell ⟨w.heap.size+1,6,U⟩ (I ⟨#[]⟩)).setCell ⟨w.heap.size+1,7,U⟩ (GZ G6 0))) (λk hk s=>by have s1:((w4.setCell ⟨w1.heap.size,4,U⟩ (I ⟨#[]⟩)).setCell ⟨w1.heap.size,5,U⟩ (GZ G6 0)).heap.size<=k:=s;rw[hs45] at s1;rw[Fl _ _ _ _ (show k≠w.heap.size+1 by omega),Fl _ _ _ _ (show k≠w.heap.size+1 by omega),Fl _ _ _ _ (show k≠w.heap.size+1 by omega),Fl _ _ _ _ (show k≠w.heap.size+1 by omega),Fl _ _ _ _ (show k≠w.heap.size+1 by omega),Fl _ _ _ _ (show k≠w.heap.size+1 by omega),Fl _ _ _ _ (show k≠w.heap.size+1 by omega),Fl _ _ _ _ (show k≠w.heap.size+1 by omega)]) (λk _ s=>by have s1:((w4.setCell ⟨w1.heap.size,4,U⟩ (I ⟨#[]⟩)).setCell ⟨w1.heap.size,5,U⟩ (GZ G6 0)).heap.size<=k:=s;rw[hs45] at s1;show w.heap.size<=k;omega)⟩
end Rc
end Go.Proofs.YtiplhgedmjoliaaGreatDoor

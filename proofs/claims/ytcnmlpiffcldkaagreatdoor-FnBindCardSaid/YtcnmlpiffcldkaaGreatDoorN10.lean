import Derived.Test.YtcnmlpiffcldkaaGreatDoorN9
import Derived.Deep.RegionWith
import Derived.Deep.Cut
import Derived.Deep.CutRange
import Derived.Laws.StructEq
import Derived.Stop.LaidErr
import Derived.ChangeVars
/-
 The phases of a node's pods that go on, as the specification sets them.
-/
set_option maxRecDepth 100000
set_option maxHeartbeats 12800000
open Bool renaming false→Zg,true→Zi
open Go.Ending renaming returned→Zh
open Go.IntKind renaming i64→O
open Go.Obj renaming cells→Ze
open Go.Value renaming string→I,slice→U,int→V,bool→Zf,agg→Zj,pointer→Zm,tuple→Zn
open Option renaming none→J,some→M
open Or renaming inr→Zk,inl→Zl
open And renaming intro→Yb
open Array renaming getElem?_push_size→Yf, getD_eq_getD_getElem?→Ys, getElem?_eq_some_iff→YA, getElem?_setIfInBounds→YH
open Bool renaming and_eq_true→YI
open Go.Act renaming put→Y0
open Go.Addr renaming add_lit→Ym
open Go.Builtin renaming append_→YY
open Go.Calls renaming quiet_of_same→YD
open Go.Op renaming bytesLess→Yk
open Go.Region renaming wanted→YR, ready→YU
open Go.RowKit.Below renaming heap_setCell→Ya, refl→Yh, heap_alloc→Yj
open Go.Value renaming string→Yn, ownBlock→YK
open Go.World renaming setCell→YV, cell?→YX
open List renaming getElem?_eq_some_iff→Yc, lookup→Yg, getElem?_eq_getElem→Yi, length_map→Yq, setIfInBounds_toArray→Yr, getElem?_map→Yt, getElem?_append_left→Yu, mem_of_getElem?→Yv, drop_eq_nil_of_le→Yw, set_cons_zero→Yx, set_cons_succ→Yy, take_of_length_le→YB, getElem?_take→YC, length_take→YF, getElem?_of_mem→YG, forall_mem_cons→YL, take_add_one→YM, getElem?_drop→YN, length_append→YP, foldr→YQ, mem_cons→YT, mem_append_right→Y8
open Nat renaming le_refl→Ye, lt_of_lt_of_le→Yl, le_trans→Yo, zero_add→Yp, le_succ→Yz, zero_le→YJ
open Option renaming map_eq_some_iff→YE
open Option.some renaming inj→Yd, injEq→YZ
namespace Go.Proofs.YtcnmlpiffcldkaaGreatDoor
variable {p:Prop}
namespace Mk
end Mk
namespace Dk
end Dk
namespace Rc
end Rc
open Go.RowKit Mk Dk Rc
variable {α:Type} {B X b cap g i j k m q:Nat} {L:List Pd} {P:Program} {Q:Exit->Act->World->Prop} {S:Nat->Prop} {T:TypeId} {W w w0 wr:World} {a:Option Addr} {a0:Act} {back:Option Oper} {c:Cl} {d:Ad} {known:List (Tmp×Fact)} {o:Oper} {ops:Array Oper} {rest:List Oper} {rs:List (List Fv)} {t:ByteArray} {v:Value} {x:Pd} {zs:List ByteArray}
theorem AH(h:p:=by simp[results,Tryz.results11,go_sem, *]):p:=h
theorem Oz(h:p:=by simp[results,Tryz.results41,go_sem, *]):p:=h
theorem Oy(h:p:=by simp[results,Tryz.results25,go_sem, *]):p:=h
theorem Ox(h:p:=by simp[results,Tryz.results4,go_sem, *]):p:=h
theorem ahz(h:p:=by simpa using (show (c.ns.map ndF).length=l1 from HS.row.n.1)):p:=h
theorem oq(h:p:=by
 rintro e w9 ⟨g,o,rfl,hI,ho,hb⟩;have HO:=G ho;have HD9:=G (HD4.below hb);have avK:=@G _ @adQ;exact An):p:=h
theorem akF(h:p:=by
 have HDW:=HD4;have BkW:=Bk;have BrW:=Br;have HRW:=HR;go_wp2_with fail;go_region_with (first
  | (go_at_call 81;refine (agL (cC HDW.src)).mono ?_;rintro e w5 ⟨n1,c1,z1,a1,l1,cp1,zs1,d1,ph1,rfl,hn1,η,hd1,htx,-,-,-,-,hd⟩;have Zq:=hd.src;have Ζ:=hd.gr;have HD5:=G (Dk.Dr.next (w:=w4.drew) (ky HDW.out) Zq Ζ);have HR5:=G (aA.bN (w:=w4.drew) (HRW.below (ba _)) (bO (cC HDW.src)) (aS Ζ));have gk5:=gk Ζ ei (show w4.drew.heap[w.heap.size]?=_ from BkW.out);have gr5:=gk Ζ ei (show w4.drew.heap[w.heap.size+1]?=_ from BrW.out);have HG5:=G gr5;have kq0:=al gk5 0;have kq1:=al gk5 1;have kq2:=al gk5 2;have kq3:=al gk5 3;have kq4:=al gk5 4;have kq5:=al gk5 5;have aui:=ae gk5;clear gk5 gr5)
  | (go_at_call 80;refine ((Db d c ⟨n1,c1,z1,zs1,d1,ph1⟩ a1 l1 cp1 _ HR5.out htx (by show n1.size<=_;omega) (by show z1.size<=_;omega) (by show d1.size<=_;omega)).mono λ_ _ h=>h.l).mono ?_;rintro e w9 ⟨g,o,rfl,hI,ho,hb⟩;have ι:=upK HG5 hb;obtain⟨r0,r1,r2,r3,r4,r5,r6,r7⟩:=cs8 ι;have hrl:=ae ι.out;have ZR:=ak ι.out 0;have ZS:=ak ι.out 1;have ZT:=ak ι.out 2;have ZU:=ak ι.out 3;have ZV:=ak ι.out 4;have ZY:=ak ι.out 5;have Z1:=ak ι.out 6;have Z2:=ak ι.out 7))
 all_goals (
  rw[eight ι.out];have HO:=G ho;have HD9:=G (HD5.below hb);have HI:=G hI;have H12:=G (setRow_heap _ (w.heap.size+1) _ #[U g.a1 g.l1 g.c1,U g.a2 g.l2 g.c2,U g.a3 g.l3 g.c3,U g.a4 g.l4 g.c4,U g.a5 g.l5 g.c5,V O o.c.now,I o.n,V O o.p] _ _ ι.out);clear hI ho hb k0 k1 k2 k3 k4 k5 ltk r0 ZR r1 ZS r2 ZT r3 ZU r4 ZV r5 ZY r6 Z1 r7 Z2;go_wp2_with fail
  exact bodyPost_ret (v:=Zj #[U g.a1 g.l1 g.c1,U g.a2 g.l2 g.c2,U g.a3 g.l3 g.c3,U g.a4 g.l4 g.c4,U g.a5 g.l5 g.c5,V O o.c.now,I o.n,V O o.p]) (results_cell_row rfl _ _ (w.heap.size+1) _ _ _ _ rfl H12.out Tryz.underlying33 rfl iu) rfl (mA HD9.out HO.out HD5.size ι.out af HI.nm (λh=>HI.gd h)))):p:=h
theorem akE(h:p:=by
 have HDW:=HD4;have BkW:=Bk;have BrW:=Br;have HRW:=HR;go_wp2_with fail;go_region_with (first
  | (go_at_call 79;refine (Cw (cC HDW.src)).mono ?_;rintro e w5 ⟨n1,c1,j1,x1,o1,rfl,hn1,Ο,hu1,hd⟩;have Zq:=hd.src;have Ζ:=hd.gr;have HD5:=G (Dk.Dr.next (w:=w4.drew) (ky HDW.out) Zq Ζ);have HR5:=G (aA.bN (w:=w4.drew) (HRW.below (ba _)) (bO (cC HDW.src)) (aS Ζ));have gk5:=gk Ζ ei (show w4.drew.heap[w.heap.size]?=_ from BkW.out);have gr5:=gk Ζ ei (show w4.drew.heap[w.heap.size+1]?=_ from BrW.out);have HG5:=G gr5;have kq0:=al gk5 0;have kq1:=al gk5 1;have kq2:=al gk5 2;have kq3:=al gk5 3;have kq4:=al gk5 4;have kq5:=al gk5 5;have aui:=ae gk5;clear gk5 gr5)
  | (go_at_call 78;refine ((C_ d c ⟨n1,c1,j1,x1,o1⟩ _ HR5.out (by show n1.size<=_;omega) (by show j1.size<=_;omega) (by show o1.size<=_;omega)).mono λ_ _ h=>h.l).mono ?_;rintro e w9 ⟨g,o,rfl,hI,ho,hb⟩;have ι:=upK HG5 hb;obtain⟨r0,r1,r2,r3,r4,r5,r6,r7⟩:=cs8 ι;have hrl:=ae ι.out;have ZR:=ak ι.out 0;have ZS:=ak ι.out 1;have ZT:=ak ι.out 2;have ZU:=ak ι.out 3;have ZV:=ak ι.out 4;have ZY:=ak ι.out 5;have Z1:=ak ι.out 6;have Z2:=ak ι.out 7))
 all_goals (
  rw[eight ι.out];have HO:=G ho;have HD9:=G (HD5.below hb);have HI:=G hI;have H12:=G (setRow_heap _ (w.heap.size+1) _ #[U g.a1 g.l1 g.c1,U g.a2 g.l2 g.c2,U g.a3 g.l3 g.c3,U g.a4 g.l4 g.c4,U g.a5 g.l5 g.c5,V O o.c.now,I o.n,V O o.p] _ _ ι.out);clear hI ho hb k0 k1 k2 k3 k4 k5 ltk r0 ZR r1 ZS r2 ZT r3 ZU r4 ZV r5 ZY r6 Z1 r7 Z2;go_wp2_with fail
  exact bodyPost_ret (v:=Zj #[U g.a1 g.l1 g.c1,U g.a2 g.l2 g.c2,U g.a3 g.l3 g.c3,U g.a4 g.l4 g.c4,U g.a5 g.l5 g.c5,V O o.c.now,I o.n,V O o.p]) (results_cell_row rfl _ _ (w.heap.size+1) _ _ _ _ rfl H12.out Tryz.underlying33 rfl iu) rfl (mA HD9.out HO.out HD5.size ι.out af HI.nm (λh=>HI.gd h)))):p:=h
theorem aiA(h:p:=by
 rintro e w9 ⟨g,o,rfl,hI,ho,hb⟩;have HO:=G ho;have HD9:=G (HD5.below hb);have avK:=@G _ @adP;exact An):p:=h
theorem ait(h:p:=by
 obtain⟨h1,a0,cap,h2,h3⟩:=hR.below (aj w (Ze (Zd J 0 0 J 0 0 J 0 0 J 0 0 J 0 0 0) 29));exact⟨h1,a0,cap,h2,λj hj=>by obtain⟨b,off,z,h4,h5,h6⟩:=h3 j hj;exact⟨b,off,z,h4,by simp;omega,h6⟩⟩):p:=h
theorem lu(h:p:=by
 go_simp;refine hK _ _ (Yh _ _) ?_;first|with_reducible rfl|(simp;done)|rfl):p:=h
theorem A1(h:p:=by
 refine wpQuiet_nil ?_;rintro _ ⟨q,rfl⟩;go_wp2_with fail;exact⟨⟨k+1,by omega,by go_num,HS.below q.b⟩,by simp[intOf];omega⟩):p:=h
theorem aid(h:p:=by
 have hkl:k=l4:=af
 have HO3:=HO;rw[YB af] at HO3;obtain⟨a',p',rfl,hT⟩:=bG.fh HO3.out (CL HR.x);have HTO:=G hT;clear hT;have an5:=@G _ @DH;exact eC):p:=h
theorem aic(h:p:=by
 go_wp2;refine bodyPost_ret (v:=Zj #[I ⟨#[]⟩,V O 0,I ⟨#[]⟩,I ⟨#[]⟩,Zf Zg,I ⟨#[]⟩,Zf Zg,U J 0 0,V O cc]) (by simp[results,Tryz.results7,go_sem, *]) rfl ⟨_,_,_,⟨vZ0,cc⟩,rfl,HV.out,pR _ _,Below.alloc (sb1 (sb1 (sb1 (sb1 (sb1 (sb1 (sb1 (sb1 (sb1 (HB.out)))))))))) oZ _⟩):p:=h
theorem ah4(h:p:=by
 clear c0 c1 c2 c3 c4 e0 e1 e2 e3 e4 pk3 x0 x1 x2 x3 x4 x5 x6 x7;have aqK:=@G _ @Wx;exact lQ):p:=h
theorem Ri(h:p:=by
 go_wp2_with fail;refine (im a a' len an7 cap an8 zs _ (HR.below (aM _ _ _)) (HR'.below (aM _ _ _))).mono ?_;rintro e w1 ⟨rfl,hb⟩;have aoA:=@G _ @M7;exact fS):p:=h
theorem Rb(h:p:=by
 clear hf;go_simp;refine (CQ ⟨a12,l12,y12,a22,l22,y22,a32,l32,y32,a42,l42,y42,a52,l52,y52⟩ c2 t2 _ (HC2.below hW)).mono ?_;rintro e w3 ⟨a9,l9,c9,u9,rfl,hI9,ho9,Zy⟩;obtain rfl:=HI2.same hI9;exact hK _ _ Zy ⟨a9,l9,c9,rfl,ho9.row⟩):p:=h
theorem ak7(h:p:=by
 obtain⟨k0,k1,k2,k3,k4,k5⟩:=cs6 Bk;go_wp2;go_ret;exact⟨_,_,_,[],rfl,Zk ⟨λh=>AF,rfl⟩,⟨⟨rfl,Ye _,by omega,λj x hx=>by simp at hx,Zl rfl⟩,Zl rfl⟩,HB.out⟩):p:=h
theorem xr(h:p:=by
 go_enter Tryz.func73,Tryz.ntmps73;go_wp2;go_ret;exact⟨rfl,Yh _ _⟩):p:=h
theorem xo(h:p:=by
 exact av.nil _ _ _ _ _ (show (0:Nat)<=9223372036854775807 by omega)):p:=h
theorem Ql(h:p:=by
 obtain⟨k0,k1,k2,k3,k4,k5⟩:=cs6 Bk;have ltk:=ae Bk.out;go_wp2_with fail;go_end0;exact⟨rfl,_,_,HS.out⟩):p:=h
theorem Qf(h:p:=by
 rintro e w3 ⟨a9,l9,c9,zs9,rfl,hu,ho,Zy⟩;obtain rfl:=HZ3.same hu;exact hK _ _ Zy ⟨a9,l9,c9,rfl,ho.row⟩):p:=h
theorem PZ(h:p:=by
 exfalso;revert h0;rcases n with _|_|_|_|_|_|_|_|_|n <;> first|decide|omega):p:=h
theorem xb(h:p:=by
 go_wp2_with fail;refine (BJ d c tp _ HR.out).mono ?_;exact oq):p:=h
theorem Py(h:p:=by
 have Zw:=@G _ @agj;exact aB):p:=h
theorem Pt(h:p:=by
 clear Z5 ZC;go_wp2;exact⟨⟨k+1,n+1,by omega,by omega,by go_num,HO3,Z7,Bk3⟩,by simp[intOf];omega⟩):p:=h
theorem akI(h:p:=by
 rcases HF6.2.2.2.2.2.2 with h9|⟨g9,c9,H9,e9,h9⟩
 ·have h8:=HF6.2.2.2.1;have h7:=h2.1;rw[h9] at h8;simp at h8;omega
 ·have h7:=h2.2;rw[h7] at e9;cases e9;exact h1 h9.inS):p:=h
theorem Pj(h:p:=by
 rw[<-hns];exact⟨by rw[List.length_set];exact HNN.1,HNN.2.1,HNN.2.2.1,Zk ⟨g,axw,H6,rfl,awu⟩⟩):p:=h
theorem amm(h:p:=by
 have atZ:=@G _ @Mq;exact uj):p:=h
theorem ah0(h:p:=by
 have k0:=λq:Wd W=>q.slot (o:=0) Bc3.out rfl;have k1:=λq:Wd W=>q.slot (o:=1) Bc3.out rfl;have k2:=λq:Wd W=>q.slot (o:=2) Bc3.out rfl;have k3:=λq:Wd W=>q.slot (o:=3) Bc3.out rfl;have k4:=λq:Wd W=>q.slot (o:=4) Bc3.out rfl;have k5:=λq:Wd W=>q.slot (o:=5) Bc3.out rfl;have p0:∀q:Wd W,q.w.cell? ⟨g,k*6,J⟩=M (I x.n):=λq=>(q.cell apd).trans c0;have p1:∀q:Wd W,q.w.cell? ⟨g,k*6+1,J⟩=M (V O x.c):=λq=>(q.cell apd).trans c1;have p2:∀q:Wd W,q.w.cell? ⟨g,k*6+2,J⟩=M (I x.z):=λq=>(q.cell apd).trans c2;have p3:∀q:Wd W,q.w.cell? ⟨g,k*6+3,J⟩=M (U pa pq pc):=λq=>(q.cell apd).trans c3;have p4:∀q:Wd W,q.w.cell? ⟨g,k*6+4,J⟩=M (I x.d):=λq=>(q.cell apd).trans c4;have p5:∀q:Wd W,q.w.cell? ⟨g,k*6+5,J⟩=M (V O 1):=λq=>(q.cell apd).trans c5;exact Yb k0 (Yb k1 (Yb k2 (Yb k3 (Yb k4 (Yb k5 (Yb p0 (Yb p1 (Yb p2 (Yb p3 (Yb p4 p5))))))))))):p:=h
theorem amf(h:p:=by
 have hba:=aj w2 (Ze (Zs d c.now) 29);have hrp:¬w.heap.size=p:=by have:=HS1.1;simp at this;omega
 have hr2:=gk hg hrp HR1.out;have HE:Hid (ES (w.alloc (Ze (Zd J 0 0 J 0 0 J 0 0 J 0 0 J 0 0 0) 29)).heap.size (w.alloc (Ze (Zd J 0 0 J 0 0 J 0 0 J 0 0 J 0 0 0) 29)) p v len w.heap.size (w2.alloc (Ze (Zs d c.now) 29)) w2.heap.size d c):=⟨(Yf:(w2.alloc _).heap[w2.heap.size]?=_),(hba.block _ (ae hr2)).trans hr2,hr.below hba,oI hs hba,ae hr2,by have:=hs.vt;omega,hrp,by have:=HS1.2.2.1.size;have:=hg.size;omega⟩;exact Yb hba (Yb hrp (Yb hr2 HE))):p:=h
theorem amd(h:p:=by
 have HA8:Hid ((#[U g.a1 g.l1 g.c1,U g.a2 g.l2 g.c2,U g.a3 g.l3 g.c3,U g.a4 g.l4 g.c4,U g.a5 g.l5 g.c5,V O o.c.now,I o.n,V O o.p]:Array Value).all (·.oneCell')=Zi):=by show _=Zi;simp[Value.oneCell']
 have H12:=G (setRow_heap _ (w.heap.size+1) _ #[U g.a1 g.l1 g.c1,U g.a2 g.l2 g.c2,U g.a3 g.l3 g.c3,U g.a4 g.l4 g.c4,U g.a5 g.l5 g.c5,V O o.c.now,I o.n,V O o.p] _ _ Br9.out);exact Yb HA8 H12):p:=h
theorem amb(h:p:=by
 have Δ:¬g=b:=λe=>by subst e;exact cE Bk.out _ _ c0
 have hgp:¬g=p:=λe=>by subst e;exact bO HS.src _ _ c0
 exact Yb Δ hgp):p:=h
theorem ahN(h:p:=by
 have Bo7:=G ((hK.block _ (ae Bo6.out) (nb _ af)).trans Bo6.out);have Μ:=G ((hK.block _ (ae Br6.out) (nb _ af)).trans Br6.out);have g1:=HF1.beside HF6.2.2.2 hK ag;have g2:=HF6.1.beside HF6.2.2.2 hK ag;have g3:=HF6.2.1.beside HF6.2.2.2 hK ag;have g4:=HF6.2.2.1.beside HF6.2.2.2 hK ag;exact Yb Bo7 (Yb Μ (Yb g1 (Yb g2 (Yb g3 g4))))):p:=h
theorem ahF(h:p:=by
 have hcl:=λ(B:Nat) (w0:World) (p:Nat) (v:Value) (len:Nat) (w:World) (h:Src B w0 p v len w)=>pT h;have HCL:=G hcl;exact Yb hcl HCL):p:=h
theorem al0(h:p:=by
 have HG:=G (Yb g1 (Yb g2 (Yb g3 (Yb g4 hP))));have HB7:Hid (Below w.heap.size w w7):=HB6.trans (hK.low (X:=w.heap.size) HB6.size (λk s=>Classical.byContradiction λhk=>nb k af s));exact Yb HG HB7):p:=h
theorem akD(h:p:=by
 have HR:=G hR1;have awv:Hid ((w.alloc (Ze (Zd J 0 0 J 0 0 J 0 0 J 0 0 J 0 0 0) 29)).heap[w.heap.size]?=M (Ze (Zd J 0 0 J 0 0 J 0 0 J 0 0 J 0 0 0) 29 (0,0))):=Yf;exact Yb HR awv):p:=h
theorem agm(h:p:=by
 repeat (go_big_quiet_step (first|(go_at_call 53;exact Calls.wide (HE.out _))|fail))
 exact A1):p:=h
theorem agl(h:p:=by
 repeat (go_big_quiet_step (first|(go_at_call 12;exact Calls.wide (HE.out _))|fail))
 exact A1):p:=h
theorem agk(h:p:=by
 repeat (go_big_quiet_step (first|(go_at_call 54;exact Calls.wide (HE.out _))|fail))
 exact A1):p:=h
theorem agj(h:p:=by
 repeat (go_big_quiet_step (first|fail))
 exact A1):p:=h
theorem afX(h:p:=by
 obtain⟨ZR,ZS,ZT,ZU,ZV,ZY,Z1,Z2⟩:=dD;go_wp2;exact bodyPost_ret (v:=Zj #[U J 0 0,U J 0 0,U J 0 0,U J 0 0,U J 0 0,V O 0,I ⟨#[]⟩,V O p]) Oz rfl ⟨ad0,co0 p,rfl,HV.out,(rl0 _ _),sb1 (sb1 (sb1 (sb1 (sb1 (sb1 (sb1 (sb1 (HB.out))))))))⟩):p:=h
theorem afJ(h:p:=by
 have HR:=G hr;obtain⟨hl4,hm4⟩:=uY;clear hr;have HE:=G hG;clear hG;have atn:=@G _ @SZ;exact pV):p:=h
theorem afI(h:p:=by
 have HR:=G hr;obtain⟨hl4,hm4⟩:=uY;clear hr;have atn:=@G _ @SY;exact pV):p:=h
theorem afH(h:p:=by
 have aqB:=@G _ @Jq;exact ni):p:=h
theorem afy(h:p:=by
 have e49:=hf 49 ag;simp[slotFact,Yg] at e49;have e50:=hf 50 ag;simp[slotFact,Yg] at e50;exact Rb):p:=h
theorem afx(h:p:=by
 have e51:=hf 51 ag;simp[slotFact,Yg] at e51;clear hf;obtain⟨a9,l9,c9,e51,-⟩:=e51;exact lu):p:=h
theorem afw(h:p:=by
 have e58:=hf 58 ag;simp[slotFact,Yg] at e58;have e59:=hf 59 ag;simp[slotFact,Yg] at e59;exact Rb):p:=h
theorem afv(h:p:=by
 have e60:=hf 60 ag;simp[slotFact,Yg] at e60;clear hf;obtain⟨a9,l9,c9,e60,aop⟩:=e60;go_simp;refine hK _ _ (Yh _ _) ⟨a9,l9,c9,rfl,aop⟩):p:=h
theorem afu(h:p:=by
 have e57:=hf 57 ag;simp[slotFact,Yg] at e57;have e61:=hf 61 ag;simp[slotFact,Yg] at e61;clear hf;obtain⟨a9,l9,c9,e61,aop⟩:=e61;go_simp;refine (kj u.u.n u.u.c u.u.z u.u.k u.u.x u.u.m u.u.y va vl vc u.u.zs a9 l9 c9 _ (HV.below hW) aop).mono ?_;rintro e w3 ⟨rfl,Zy⟩;exact hK _ _ Zy rfl):p:=h
theorem aft(h:p:=by
 have e66:=hf 66 ag;simp[slotFact,Yg] at e66;clear hf;go_simp;refine (k_ ⟨a13,l13,y13,a23,l23,y23,a33,l33,y33,a43,l43,y43,a53,l53,y53⟩ c3 _ (HC3.below hW) ((HE.below HB.out).below hW).ens).mono ?_;exact Qf):p:=h
theorem afs(h:p:=by
 have e68:=hf 68 ag;simp[slotFact,Yg] at e68;clear hf;go_simp;refine (rO ⟨a13,l13,y13,a23,l23,y23,a33,l33,y33,a43,l43,y43,a53,l53,y53⟩ c3 _ (HC3.below hW)).mono ?_;exact Qf):p:=h
theorem afr(h:p:=by
 have e67:=hf 67 ag;simp[slotFact,Yg] at e67;have e69:=hf 69 ag;simp[slotFact,Yg] at e69;clear hf;obtain⟨a8,l8,c8,e67,axx⟩:=e67;obtain⟨a9,l9,c9,e69,aop⟩:=e69;go_simp;refine (im a8 a9 l8 l9 c8 c9 zs3 _ axx aop).mono ?_;rintro e w3 ⟨rfl,Zy⟩;exact hK _ _ Zy rfl):p:=h
theorem afq(h:p:=by
 have e86:=hf 86 ag;simp[slotFact,Yg] at e86;have e88:=hf 88 ag;simp[slotFact,Yg] at e88;clear hf;have hv:=HV2.out;exact lu):p:=h
theorem afp(h:p:=by
 have e94:=hf 94 ag;simp[slotFact,Yg] at e94;have e95:=hf 95 ag;simp[slotFact,Yg] at e95;clear hf;have hv:=HV3.out;exact lu):p:=h
theorem afo(h:p:=by
 have ayR:=hf 100 ag;simp[slotFact,Yg] at ayR;have awe:=hf 101 ag;simp[slotFact,Yg] at awe;clear hf;go_simp;refine (pD g1 o1.c t1 E _ (Κ.below hW) ((HE.below HB.out).below hW)).mono ?_;rintro e w3 ⟨g9,o9,rfl,hI9,ho9,Zy⟩;exact hK _ _ Zy ⟨g9,o9,rfl,HP7.out o9 hI9⟩):p:=h
theorem afn(h:p:=by
 have as5:=hf 102 ag;simp[slotFact,Yg] at as5;clear hf;obtain⟨g9,o9,as5,hp9⟩:=as5;exact lu):p:=h
theorem afm(h:p:=by
 have ayS:=hf 108 ag;simp[slotFact,Yg] at ayS;clear hf;go_simp;refine (k_ g1 o1.c _ (Κ.below hW) ((HE.below HB.out).below hW).ens).mono ?_;rintro e w3 ⟨a9,l9,c9,zs1,rfl,hu,ho,Zy⟩;obtain rfl:=HZ1.same hu;exact hK _ _ Zy ⟨a9,c9,by rw[show zs1.length=l9 from ho.row.1]⟩):p:=h
theorem afl(h:p:=by
 have aww:=hf 109 ag;simp[slotFact,Yg] at aww;clear hf;obtain⟨a9,c9,aww⟩:=aww;exact lu):p:=h
theorem afk(h:p:=by
 have awl:=hf 111 ag;simp[slotFact,Yg] at awl;clear hf;go_simp;refine (k_ ⟨a11,l11,y11,a21,l21,y21,a31,l31,y31,a41,l41,y41,a51,l51,y51⟩ c1 _ (μ.below hW) ((HE.below HB.out).below hW).ens).mono ?_;rintro e w3 ⟨a9,l9,c9,zs0,rfl,hu,ho,Zy⟩;obtain rfl:=HZ0.same hu;exact hK _ _ Zy ⟨a9,c9,by rw[show zs0.length=l9 from ho.row.1]⟩):p:=h
theorem afj(h:p:=by
 have atc:=hf 112 ag;simp[slotFact,Yg] at atc;clear hf;obtain⟨a9,c9,atc⟩:=atc;exact lu):p:=h
theorem afi(h:p:=by
 have ayT:=hf 113 ag;simp[slotFact,Yg] at ayT;clear hf;have e1:IntKind.i64.wrap ((zs0.length:Int) - 1)=(zs1.length:Int):=by rw[IntKind.wrap_i64];have:=HLZ.out;have:=HLS.out;omega
 exact lu):p:=h
theorem cq(h:p:=by
 refine Obl.guarded rfl rfl (by intro a w e;simpa[slotFact,Yg] using e) ?_;intro ac wg K Zq hW hf hK;clear Zq;exact Ι):p:=h
theorem aff(h:p:=by
 exact bodyPost_ret (v:=Zj #[U J 0 0,U J 0 0,U J 0 0,U J 0 0,U J 0 0,V O 0,I ⟨#[]⟩,V O 10]) Oz rfl ⟨ad0,co0 10,rfl,HV.out,(rl0 _ _),sb1 (sb1 (sb1 (sb1 (sb1 (sb1 (sb1 (sb1 (HB.out))))))))⟩):p:=h
theorem aeS(h:p:=by
 go_wp2_with fail;refine (rO ⟨a1,l1,y1,a2,l2,y2,a3,l3,y3,a4,l4,y4,a5,l5,y5⟩ c _ HE.row).mono ?_;rintro e w4 ⟨ua,ul,up,us,rfl,-,hu,hb⟩;replace HE:=G (HE.below hb);have HU:=G hu.row;clear hb hu k0 k1 k2 k3 k4 k5 ltk;have Bc:=G HE.blk;have an9:=@G _ @MH;exact eD):p:=h
theorem aeR(h:p:=by
 have hll:c.xs.length=l4:=by simpa using (show (c.xs.map xdF).length=l4 from HE.row.x.1)
 have hml:l4<=9223372036854775807:=Yo HE.row.x.2.1 HE.row.x.2.2.1;have azt:Hid (∀(W5:World) (d5:Ad) (c5:Cl),ES WA.heap.size WA p v len w.heap.size W5 w2.heap.size d5 c5->True):=λ_ _ _ _=>trivial;by_cases hl0:l4=0
 ·subst hl0;have aps:=@G _ @aaA;exact iN
 have Zo:decide ((0:Int)<(l4:Int))=Zi:=by rw[decide_eq_true_eq];omega
 go_wp2_with fail;refine (cJ HE.src 6 ag).mono ?_;rintro e w4 ⟨he,hs,hg⟩;obtain⟨bb,rfl⟩:=ey he;replace HE:=G (HE.draw hs hg);clear he hs hg k0 k1 k2 k3 k4 k5 ltk;have Bc:=G HE.blk;have an9:=@G _ @MG;exact eD):p:=h
theorem AB(h:p:=by
 go_wp2_with fail;refine (mD v len _ HR.out).mono ?_;rintro e w1 ⟨p,rfl,hs1⟩;have HS1:=G hs1;have HR1:=upK awv hs1.2.2.1;clear hs1;go_wp2_with fail;refine (HCL.out _ _ _ _ _ _ HS1.out).mono ?_;rintro e w2 ⟨d,c,rfl,hr,-,hs,hg⟩;obtain⟨hba,hrp,hr2,HE⟩:=amf;clear hr hs hg hba hr2;have hW9:w.heap.size<=(w.alloc (Ze (Zd J 0 0 J 0 0 J 0 0 J 0 0 J 0 0 0) 29)).heap.size/\Below w.heap.size w (w.alloc (Ze (Zd J 0 0 J 0 0 J 0 0 J 0 0 J 0 0 0) 29)):=⟨by simp,aj _ _⟩;generalize (w.alloc (Ze (Zd J 0 0 J 0 0 J 0 0 J 0 0 J 0 0 0) 29))=WA at HE hW9;have HWA:=G hW9;clear hW9;obtain⟨a1,l1,y1,a2,l2,y2,a3,l3,y3,a4,l4,y4,a5,l5,y5⟩:=d;(try unfold Zs at HE);(try dsimp only at HE);have Bc:=G HE.blk;have an9:=@G _ @MF;exact eD):p:=h
theorem aeK(h:p:=by
 refine (eW d c.now c.vs x.v w _ HR.v (HB.trans ((aj _ _).mono HB.size))).mono ?_;rintro e w2 ⟨hb,hf⟩;have asx:=@G _ @JX;exact tN):p:=h
theorem aei(h:p:=by
 have avv:=@G _ @V_;exact zq):p:=h
theorem aef(h:p:=by
 have HR:=G hR1;clear hR hR1;go_enter Tryz.func6,Tryz.ntmps6;go_wp2_with fail;refine (oB _ len _ HR.out).mono ?_;rintro e w1 ⟨d,c,s,rfl,hr,hs,hb⟩;have HS:=G hs;clear hs;have hrs:w1.heap[w.heap.size]?=M (Ze (Zd J 0 0 J 0 0 J 0 0 J 0 0 J 0 0 0) 29 (0,0)):=(hb.block _ aF).trans Yf;have avL:=@G _ @aag;exact zL):p:=h
theorem aee(h:p:=by
 have HR:=G hR1;clear hR hR1 hcl;go_enter Tryz.func8,Tryz.ntmps8;go_wp2_with fail;refine (mD v len _ HR.out).mono ?_;rintro e w1 ⟨p,rfl,hs1⟩;have HS1:=G hs1;clear hs1;go_wp2_with fail;refine (HCL.out _ _ _ _ _ _ HS1.out).mono ?_;rintro e w2 ⟨d,c,rfl,hr,-,hs,hg⟩;have hb:=hs.2.2.1;clear hs hg;have hrs:w2.heap[w.heap.size]?=M (Ze (Zd J 0 0 J 0 0 J 0 0 J 0 0 J 0 0 0) 29 (0,0)):=(hb.block _ aF).trans Yf;have avL:=@G _ @aaf;exact zL):p:=h
theorem As(h:p:=by
 have hR1:d_ (w.alloc (Ze (Zd J 0 0 J 0 0 J 0 0 J 0 0 J 0 0 0) 29)).heap.size (w.alloc (Ze (Zd J 0 0 J 0 0 J 0 0 J 0 0 J 0 0 0) 29)) v len:=by
  exact ait
 exact avM):p:=h
theorem adQ(h:p:=by
 exact bodyPost_ret (v:=Zj #[U g.a1 g.l1 g.c1,U g.a2 g.l2 g.c2,U g.a3 g.l3 g.c3,U g.a4 g.l4 g.c4,U g.a5 g.l5 g.c5,V O o.c.now,I o.n,V O o.p]) (results_cell_row rfl _ _ (w.heap.size+1) _ _ _ _ rfl H12.out Tryz.underlying33 rfl iu) rfl (mA HD9.out HO.out HD4.size Br9.out af HI.nm (λh=>HI.gd h))):p:=h
theorem adP(h:p:=by
 exact bodyPost_ret (v:=Zj #[U g.a1 g.l1 g.c1,U g.a2 g.l2 g.c2,U g.a3 g.l3 g.c3,U g.a4 g.l4 g.c4,U g.a5 g.l5 g.c5,V O o.c.now,I o.n,V O o.p]) (results_cell_row rfl _ _ (w.heap.size+1) _ _ _ _ rfl H12.out Tryz.underlying33 rfl iu) rfl (mA HD9.out HO.out HD5.size Br9.out af HI.nm (λh=>HI.gd h))):p:=h
theorem An(h:p:=by
 have Br9:=upK Br hb;have HI:=G hI;clear hI ho hb k0 k1 k2 k3 k4 k5 ltk;obtain⟨HA8,H12⟩:=amd;go_wp2_with (refine wpList_store_row rfl _ _ _ rfl (w.heap.size+1) #[U g.a1 g.l1 g.c1,U g.a2 g.l2 g.c2,U g.a3 g.l3 g.c3,U g.a4 g.l4 g.c4,U g.a5 g.l5 g.c5,V O o.c.now,I o.n,V O o.p] rfl rfl _ _ Br9.out iu rfl HA8.out ?_);exact avK):p:=h
theorem adx(h:p:=by
 go_wp2;have hR2:av W (M ⟨g,0,J⟩) l5 y5 6 102 ((mpL (phF t f) ps (k+1)).map pdF) S:=by
  rw[nX HX0.out,A5 HHE.out,HFX.out];exact HP1.out
 exact⟨⟨k+1,by omega,by go_num,hR2.below q1.b,HK1.below q1.b⟩,by simp[intOf];omega⟩):p:=h
theorem adw(h:p:=by
 have Bc4:=upK Bc3 q1.b;obtain⟨k0,k1,k2,k3,k4,k5⟩:=cs6 Bc4;obtain⟨ZM,hfz⟩:=av.atP (HP1.below q1.b) HLX.out;have c5:q1.w.cell? ⟨g,k*6+5,J⟩=M (V O 1):=by
  obtain⟨b3,o3,x3,hae,_,hx3,Zc⟩:=db (HP1.below q1.b).row Zo;cases hae;rw[HLX.out] at hx3;obtain rfl:=Yd hx3;obtain⟨_,_,_,_,-,-,-,-,-,-,-,-,c5⟩:=bK Zc;rw[Yp] at c5;exact c5
 go_wp2;have hR:=av.alO HP1.out q1.b HLX.out 2;rw[List.set_set] at hR;have hR2:av (q1.w.setCell ⟨g,k*6+5,J⟩ (V O 2)) (M ⟨g,0,J⟩) l5 y5 6 102 ((mpL (phF t f) ps (k+1)).map pdF) S:=by
  rw[nX HX0.out,A5 HHE.out,HFX.out];exact hR
 have hK2:aJ (λk=>0<l5/\(M ⟨g,0,J⟩:Option Addr)=M ⟨k,0,J⟩) w (q1.w.setCell ⟨g,k*6+5,J⟩ (V O 2)):=(HK1.below q1.b).set ⟨by omega,rfl⟩;exact⟨⟨k+1,by omega,by go_num,hR2,hK2⟩,by simp[intOf];omega⟩):p:=h
theorem Aj(h:p:=by
 have hne0:=Wd.ne W;clear c0 c1 c2 c3 c4 c5;refine cA aW aW ?_;repeat (go_big_quiet_step (first|(go_at_call 115;exact Calls.wide (Zv.out _))|fail))
 refine wpQuiet_nil ?_;rintro _ ⟨q1,rfl⟩;clear hne0 k0 p0 k1 p1 k2 p2 k3 p3 k4 p4 k5 p5;exact avN):p:=h
theorem adq(h:p:=by
 go_wp2;exact bodyPost_ret (v:=Zj #[U d.a1 d.l1 d.c1,U d.a2 d.l2 d.c2,U d.a3 d.l3 d.c3,U d.a4 d.l4 d.c4,U d.a5 d.l5 d.c5,V O c.now]) (by simp[results,Tryz.results17,go_sem, *]) rfl (RV HS.dr.gr HS.dr.lt HS.res HS.row HS.low HS.dr.src)):p:=h
theorem adp(h:p:=by
 have hg6:w.grownBy w6 (M p):=⟨HSP.kept.os.trans HS.dr.gr.os,HSP.kept.tape.trans HS.dr.gr.tape,HSP.kept.output.trans HS.dr.gr.output,Yo HS.dr.gr.size HSP.kept.size,λk hk hn=>(HSP.kept.block k (Yl hk HS.dr.gr.size) (λe=>by rcases e with e|e;exact hn (by rw[e]);omega)).trans (HS.dr.gr.block k hk hn)⟩;have HG6:=G hg6;clear hg6;go_wp2;exact bodyPost_ret (v:=Zj #[U d6.a1 d6.l1 d6.c1,U d6.a2 d6.l2 d6.c2,U d6.a3 d6.l3 d6.c3,U d6.a4 d6.l4 d6.c4,U d6.a5 d6.l5 d6.c5,V O c6.now]) (by simp[results,Tryz.results17,go_sem, *]) rfl (RV HG6.out HS.dr.lt HRS.out HSP.row (HSP.low.to (Yz _) (λ_ u=>u)) HSP.src)):p:=h
theorem Ah(h:p:=by
 have an9:=@G _ @ME;exact eD):p:=h
theorem adh(h:p:=by
 have HS2:=G (HS.alloc (Ze #[I ⟨#[100,49]⟩,I ⟨#[118,95,99,49]⟩] 9)).RS;have hbi:¬w1.heap.size=p:=af
 have Bi:Hid ((w1.alloc (Ze #[I ⟨#[100,49]⟩,I ⟨#[118,95,99,49]⟩] 9)).heap[w1.heap.size]?=M (Ze #[I ⟨#[100,49]⟩,I ⟨#[118,95,99,49]⟩] 9 (0,0))):=Yf;have hgs:g<(w1.alloc (Ze #[I ⟨#[100,49]⟩,I ⟨#[118,95,99,49]⟩] 9)).drew.heap.size:=by show g<(w1.alloc (Ze #[I ⟨#[100,49]⟩,I ⟨#[118,95,99,49]⟩] 9)).heap.size;simp;omega
 have HC:Hid (∀i u,w1.cell? ⟨g,i,J⟩=M u->(w1.alloc (Ze #[I ⟨#[100,49]⟩,I ⟨#[118,95,99,49]⟩] 9)).drew.cell? ⟨g,i,J⟩=M u):=λi u h=>(ah (aj w1 _) ZM).trans h;have HU:Hid (UF (w1.alloc (Ze #[I ⟨#[100,49]⟩,I ⟨#[118,95,99,49]⟩] 9)).drew g):=(huf.below (aj w1 _)).RS;go_wp2_with fail;go_region_with (go_at_call 20;refine (eE HS2.src w1.heap.size 2 [⟨#[100,49]⟩,⟨#[118,95,99,49]⟩] _ (show (w1.alloc (Ze #[I ⟨#[100,49]⟩,I ⟨#[118,95,99,49]⟩] 9)).drew.heap[w1.heap.size]?=_ from Bi.out) hbi rfl ag ag ag).mono ?_;rintro e wz ⟨t,rfl,hts,Zq,Ζ⟩;have HZ:=G (HS2.draw hbp Zq Ζ);have gz:=HZ.blk;have y0:=al gz 0;have hgw:g<wz.heap.size:=Yl hgs Ζ.size;have δ:=ae gz;have z0:wz.cell? ⟨g,o+6,J⟩=M (U va vl vc):=(cell_kept (aS Ζ) hgs hgp).trans (HC.out _ _ c6);have zu:=HU.draw Zq Ζ;have zf:wz.frozen? ⟨g,o+6,J⟩=Zg:=zu.oy _);all_goals (
  go_wp2_with fail
  go_end0
  have hc9:(wz.alloc (Ze #[I t] 9)).cell? ⟨g,o+6,J⟩=M (U va vl vc):=(ah (aj wz _) hgw).trans z0;obtain⟨c2,h9⟩:=(HZ.alloc (Ze #[I t] 9)).set hBX (u':=U (M ⟨wz.heap.size,0,J⟩) 1 1) hc9 (Zk (Zk (Zk (Zk ⟨⟨_,_,_,rfl⟩,_,_,_,[t],rfl,aw.set hc9 (λ_ e=>by cases e) (aiW wz t hts)⟩)))) hXg Δ hgp;rw[World.setCell_alloc_past _ _ _ _ hgw] at h9
  exact⟨rfl,_,c2,h9⟩)):p:=h
theorem adg(h:p:=by
 go_wp2_with fail;go_region_with (go_at_call 19;refine ((cC HS.src).n 2 ag).mono ?_;rintro e wz ⟨q,rfl,qa,qb,Zq,Ζ⟩;have HZ:=G (HS.RS.draw hbp Zq Ζ);have gz:=gk Ζ hbp (show w1.drew.heap[b]?=_ from Bk.out);have y0:=al gz 0;have z0:wz.cell? ⟨g,o+1*7+3,J⟩=M (V O x.s):=(cell_kept (aS Ζ) (show g<w1.drew.heap.size from ZM) hgp).trans c3;have zf:wz.frozen? ⟨g,o+1*7+3,J⟩=Zg:=(huf.RS.draw Zq Ζ).oy _);all_goals (
  go_wp2_with fail
  go_end0
  exact⟨rfl,_,HZ.set hBX z0 (Zk (Zk (Zl ⟨⟨_,rfl⟩,_,rfl⟩))) hXg Δ hgp⟩)):p:=h
theorem adf(h:p:=by
 have HS2:=G (HS.alloc (Ze #[I ⟨#[]⟩,I ⟨#[100,49]⟩,I ⟨#[118,95,99,50]⟩] 9)).RS;have hbi:¬w1.heap.size=p:=af
 have Bi:Hid ((w1.alloc (Ze #[I ⟨#[]⟩,I ⟨#[100,49]⟩,I ⟨#[118,95,99,50]⟩] 9)).heap[w1.heap.size]?=M (Ze #[I ⟨#[]⟩,I ⟨#[100,49]⟩,I ⟨#[118,95,99,50]⟩] 9 (0,0))):=Yf;have hgs:g<(w1.alloc (Ze #[I ⟨#[]⟩,I ⟨#[100,49]⟩,I ⟨#[118,95,99,50]⟩] 9)).drew.heap.size:=by show g<(w1.alloc (Ze #[I ⟨#[]⟩,I ⟨#[100,49]⟩,I ⟨#[118,95,99,50]⟩] 9)).heap.size;simp;omega
 have HC:Hid (∀i u,w1.cell? ⟨g,i,J⟩=M u->(w1.alloc (Ze #[I ⟨#[]⟩,I ⟨#[100,49]⟩,I ⟨#[118,95,99,50]⟩] 9)).drew.cell? ⟨g,i,J⟩=M u):=λi u h=>(ah (aj w1 _) ZM).trans h;have HU:Hid (UF (w1.alloc (Ze #[I ⟨#[]⟩,I ⟨#[100,49]⟩,I ⟨#[118,95,99,50]⟩] 9)).drew g):=(huf.below (aj w1 _)).RS;go_wp2_with fail;go_region_with (go_at_call 20;refine (eE HS2.src w1.heap.size 3 [⟨#[]⟩,⟨#[100,49]⟩,⟨#[118,95,99,50]⟩] _ (show (w1.alloc (Ze #[I ⟨#[]⟩,I ⟨#[100,49]⟩,I ⟨#[118,95,99,50]⟩] 9)).drew.heap[w1.heap.size]?=_ from Bi.out) hbi rfl ag ag ag).mono ?_;rintro e wz ⟨t,rfl,hts,Zq,Ζ⟩;have HZ:=G (HS2.draw hbp Zq Ζ);have gz:=HZ.blk;have y3:=al gz 3;have z0:wz.cell? ⟨g,o+4,J⟩=M (I x.v):=(cell_kept (aS Ζ) hgs hgp).trans (HC.out _ _ c4);have zu:=HU.draw Zq Ζ;have zf:wz.frozen? ⟨g,o+4,J⟩=Zg:=zu.oy _);all_goals (
  go_wp2_with fail
  go_end0
  exact⟨rfl,_,HZ.set hBX z0 (Zk (Zl ⟨⟨_,rfl⟩,t,rfl,by omega⟩)) hXg Δ hgp⟩)):p:=h
theorem ade(h:p:=by
 have HS2:=G (HS.alloc (Ze #[I ⟨#[110,49]⟩,I ⟨#[110,51]⟩] 9)).RS;have hbi:¬w1.heap.size=p:=af
 have Bi:Hid ((w1.alloc (Ze #[I ⟨#[110,49]⟩,I ⟨#[110,51]⟩] 9)).heap[w1.heap.size]?=M (Ze #[I ⟨#[110,49]⟩,I ⟨#[110,51]⟩] 9 (0,0))):=Yf;have hgs:g<(w1.alloc (Ze #[I ⟨#[110,49]⟩,I ⟨#[110,51]⟩] 9)).drew.heap.size:=by show g<(w1.alloc (Ze #[I ⟨#[110,49]⟩,I ⟨#[110,51]⟩] 9)).heap.size;simp;omega
 have HC:Hid (∀i u,w1.cell? ⟨g,i,J⟩=M u->(w1.alloc (Ze #[I ⟨#[110,49]⟩,I ⟨#[110,51]⟩] 9)).drew.cell? ⟨g,i,J⟩=M u):=λi u h=>(ah (aj w1 _) ZM).trans h;have HU:Hid (UF (w1.alloc (Ze #[I ⟨#[110,49]⟩,I ⟨#[110,51]⟩] 9)).drew g):=(huf.below (aj w1 _)).RS;go_wp2_with fail;go_region_with (go_at_call 20;refine (eE HS2.src w1.heap.size 2 [⟨#[110,49]⟩,⟨#[110,51]⟩] _ (show (w1.alloc (Ze #[I ⟨#[110,49]⟩,I ⟨#[110,51]⟩] 9)).drew.heap[w1.heap.size]?=_ from Bi.out) hbi rfl ag ag ag).mono ?_;rintro e wz ⟨t,rfl,hts,Zq,Ζ⟩;have HZ:=G (HS2.draw hbp Zq Ζ);have gz:=HZ.blk;have y4:=al gz 4;have z0:wz.cell? ⟨g,o+4,J⟩=M (I x.d):=(cell_kept (aS Ζ) hgs hgp).trans (HC.out _ _ c4);have zu:=HU.draw Zq Ζ;have zf:wz.frozen? ⟨g,o+4,J⟩=Zg:=zu.oy _);all_goals (
  have hc9:(wz.setCell ⟨g,o+4,J⟩ (I t)).cell? ⟨g,o+5,J⟩=M (V O x.p):=(gI af).trans ((cell_kept (aS Ζ) hgs hgp).trans (HC.out _ _ c5));have hu9:UF (wz.setCell ⟨g,o+4,J⟩ (I t)) g:=zu.set;obtain⟨c2,h9⟩:=HZ.set hBX z0 (Zk (Zl ⟨⟨_,rfl⟩,t,rfl,by omega⟩)) hXg Δ hgp;clear k0 k1 k2 k3 k4 k5 ltk c0 c1 cz c3 c4 c5 z0 zf zu y4 gz HC HU hgs HZ HS2 HS Bi Zq Ζ;go_wp2_with fail
  generalize wz.setCell ⟨g,o+4,J⟩ (I t)=W3 at hc9 hu9 h9 ⊢
  replace Bk:=G h9.blk
  have hgw:g<W3.heap.size:=by
   obtain⟨cs,T,h⟩:=hu9;exact ae h
  obtain⟨k0,k1,k2,k3,k4,k5⟩:=cs6 Bk;have ltk:=ae Bk.out
  go_region_with (go_at_call 19;refine ((cC h9.src).n 2 ag).mono ?_;rintro e wy ⟨q,rfl,qa,qb,hsy,hgy⟩;have HY:=G (h9.RS.draw hbp hsy hgy);have gy:=HY.blk;have y4:=al gy 4;have z0:wy.cell? ⟨g,o+5,J⟩=M (V O x.p):=(cell_kept (aS hgy) (show g<W3.drew.heap.size from hgw) hgp).trans hc9;have zf:wy.frozen? ⟨g,o+5,J⟩=Zg:=(hu9.RS.draw hsy hgy).oy _)
  all_goals (
   go_wp2_with fail
   go_end0
   exact⟨rfl,_,HY.set hBX z0 (Zk (Zk (Zl ⟨⟨_,rfl⟩,_,rfl⟩))) hXg Δ hgp⟩))):p:=h
theorem lX(h:p:=by
 obtain⟨Δ,hgp⟩:=amb;clear Zc;obtain⟨k0,k1,k2,k3,k4,k5⟩:=cs6 Bk;have ltk:=ae Bk.out;exact aqZ):p:=h
theorem ac_(h:p:=by
 have hgd:=HGD.out hp;have hn3:=hgd.1.trans HS.ns;have hk2:=hgd.2.trans HS.ks;have HN3:=G hn3;have HK2:=G hk2;clear hgd hn3 hk2;cases bb
 ·go_wp2;exact⟨⟨k+1,by omega,by go_num,g,q.c,HS.put HGR.out HGL.out HN3.out HK2.out⟩,by simp[intOf];omega⟩
 ·go_wp2;exact⟨⟨k+1,by omega,by go_num,d9,c,HS.out⟩,by simp[intOf];omega⟩):p:=h
theorem ac9(h:p:=by
 by_cases hp:q.p=0
 ·have hp1:(q.p==0)=Zi:=iY
  have HN3:=G ((HGD.out hp).1.trans HS.ns);have HK2:=G ((HGD.out hp).2.trans HS.ks);go_wp2;exact⟨⟨m - 1,by omega,by omega,by go_num,g,q.c,(HS.put HGR.out HGL.out HN3.out HK2.out).below (aj _ _)⟩,by simp[intOf];omega⟩
 ·have hp1:(q.p==0)=Zg:=iY
  go_wp2;exact⟨⟨m - 1,by omega,by omega,by go_num,d,c,HS.below (aj _ _)⟩,by simp[intOf];omega⟩):p:=h
theorem Ab(h:p:=by
 have an9:=@G _ @MD;exact eD):p:=h
theorem acU(h:p:=by
 obtain⟨b,o,y,-,-,hy,Zc⟩:=dB h (j:=i) OF;rw[hi] at hy;cases hy;exact (bD Zc).1):p:=h
theorem acR(h:p:=by
 rw[show Rw c n=[] from HMN.out];rfl):p:=h
theorem acQ(h:p:=by
 rw[show Rw c n=(kV c n.n c.vs) from HMN.out];rfl):p:=h
theorem zV(h:p:=by
 show _=(c.ns.set (pl Nd.n c.ns t) (fL c n)).map ndF;rw[(bj HT.2.1.1.2.2 HNJ.out ZQ.2.2.2).1,List.map_set];show _=(c.ns.map ndF).set j (ndF (fL c n));unfold fL;exact avO):p:=h
theorem zS(h:p:=by
 rw[<-hps] at hP;obtain⟨HG,HB7⟩:=al0;clear g1 g2 g3 g4 hP hK nb HF6;obtain⟨o0,o1,o2,o3,o4,o5⟩:=cs6 Bo7;obtain⟨r0,r1,r2,r3,r4,r5,r6,r7⟩:=cs8 Μ;have ZR:=ak Μ.out 0;have ZS:=ak Μ.out 1;have ZT:=ak Μ.out 2;have ZU:=ak Μ.out 3;have ZV:=ak Μ.out 4;have ZY:=ak Μ.out 5;have Z1:=ak Μ.out 6;have Z2:=ak Μ.out 7;go_wp2;refine bodyPost_ret (v:=Zj #[U (M ⟨g,0,J⟩) m1 n1,U x2 m2 n2,U x3 m3 n3,U x4 m4 n4,U x5 m5 n5,V O c.now,I ⟨#[]⟩,V O 0]) Oz rfl ⟨⟨M ⟨g,0,J⟩,m1,n1,x2,m2,n2,x3,m3,n3,x4,m4,n4,x5,m5,n5⟩,⟨jD c t n f,⟨#[]⟩,0⟩,rfl,HV.out,?_,sb1 (sb1 (sb1 (sb1 (sb1 (sb1 (sb1 (sb1 (HB7.out))))))))⟩;have hk4:∀k,k<w7.heap.size->w1.heap.size<=k/\¬k=w3.heap.size->((((((((w7.setCell ⟨w.heap.size+1,0,J⟩ (U (M ⟨g,0,J⟩) m1 n1)).setCell ⟨w.heap.size+1,1,J⟩ (U x2 m2 n2)).setCell ⟨w.heap.size+1,2,J⟩ (U x3 m3 n3)).setCell ⟨w.heap.size+1,3,J⟩ (U x4 m4 n4)).setCell ⟨w.heap.size+1,4,J⟩ (U x5 m5 n5)).setCell ⟨w.heap.size+1,5,J⟩ (V O c.now)).setCell ⟨w.heap.size+1,6,J⟩ (I ⟨#[]⟩)).setCell ⟨w.heap.size+1,7,J⟩ (V O 0)).heap[k]?=w7.heap[k]?:=λk _ h1=>by rw[Ya _ _ _ _ (show k≠w.heap.size+1 by omega),Ya _ _ _ _ (show k≠w.heap.size+1 by omega),Ya _ _ _ _ (show k≠w.heap.size+1 by omega),Ya _ _ _ _ (show k≠w.heap.size+1 by omega),Ya _ _ _ _ (show k≠w.heap.size+1 by omega),Ya _ _ _ _ (show k≠w.heap.size+1 by omega),Ya _ _ _ _ (show k≠w.heap.size+1 by omega),Ya _ _ _ _ (show k≠w.heap.size+1 by omega)]
 exact avP):p:=h
theorem acs(h:p:=by
 have Ξ:(¬p=0/\gU c t ⟨vZ0,p⟩)\/(p=0/\¬8000<t.size/\au c):=by
  exact vg
 clear hp;rcases Ξ with ⟨Ξ,hV⟩|⟨rfl,hl,hT⟩
 ·have HV:=G hV;clear hV;have hp1:(p==0)=Zg:=iZ
  obtain⟨k0,k1,k2,k3,k4,k5⟩:=cs6 Bk;have Α:=ae Bk.out;obtain⟨r0,r1,r2,r3,r4,r5,r6,r7,r8⟩:=cs9 Br;have aoZ:=ae Br.out;obtain⟨ZR,ZS,ZT,ZU,ZV,ZY,Z1,Z2⟩:=dD;have fr8:=ak Br.out 8;go_wp2;refine bodyPost_ret (v:=Zj #[I ⟨#[]⟩,V O 0,I ⟨#[]⟩,I ⟨#[]⟩,Zf Zg,I ⟨#[]⟩,Zf Zg,U J 0 0,V O p]) AH rfl ⟨_,_,_,⟨vZ0,p⟩,rfl,HV.out,pR _ _,sb1 (sb1 (sb1 (sb1 (sb1 (sb1 (sb1 (sb1 (sb1 (HB.out)))))))))⟩
 have HT:=G hT;clear hT;have Χ:=@G _ @Ln;exact c_):p:=h
theorem abO(h:p:=by
 rcases hf with ⟨i,hi8,aoR,rfl⟩|⟨hl,hT,x,hx,hn,rfl,z0,z2,z4⟩
 ·have HV:Hid (gU c t ⟨vZ0,aZ i⟩):=Zl ⟨i,aoR,rfl⟩;clear aoR;have aoF:=@G _ @Ug;exact fu
 have HT:=G hT;have HX:=G (Yb hx hn);clear hx hn hT z0 z2 z4;have apO:=@G _ @aeK;exact jS):p:=h
theorem aaE(h:p:=by
 go_region_with (go_at_call 19;refine (HED.src.n (ul:Int) af).mono ?_;rintro e wz ⟨m,rfl,ma,mb,Zq,Ζ⟩;obtain⟨mn,rfl⟩:∃n:Nat,m=n:=⟨m.toNat,by omega⟩;have HZ:=G (HED.draw Zq Ζ);have HUZ:=G (aw.bN HUD.out (bO HED.src) (aS Ζ));have hmn:mn<ul:=af;obtain⟨b',o',x,hab,hb,hx,c0,hxn⟩:=HUZ.at hmn;cases hab;have HXN:=G hxn;have bz:=HZ.blk;have rz:=HZ.res;have ZE:¬b=w.heap.size:=(λe=>by subst e;exact cE (d:=ad0) rz _ _ c0);obtain⟨z0,z1,z2,z3,z4,z5⟩:=cs6 bz;have ltz:=ae bz;obtain⟨y0_,y1_,y2_,y3_,y4_,y5_⟩:=cs6 rz;have awx:=ae rz;have h0_:=ak rz 0;have h1_:=ak rz 1;have h2_:=ak rz 2;have h3_:=ak rz 3;have h4_:=ak rz 4;have h5_:=ak rz 5;clear hx bz rz ma mb Zq Ζ hxn);all_goals (
  have hf:=HZ.fin rfl HWA.1 HWA.2;have HF:=G hf;clear hf;go_wp2_with fail
  exact bodyPost_ret (v:=Zn #[Zj #[U a1 l1 y1,U a2 l2 y2,U a3 l3 y3,U a4 l4 y4,U a5 l5 y5,V O c.now],I x]) Ox rfl ⟨⟨a1,l1,y1,a2,l2,y2,a3,l3,y3,a4,l4,y4,a5,l5,y5⟩,c,x,rfl,HF.1,HXN.out,HF.2⟩)):p:=h
theorem aaD(h:p:=by
 have ayU:=HE.src.vt;have HEA:=G ((HE.below (aj w4 (Ze #[I ⟨#[99,49]⟩,I ⟨#[99,50]⟩,I ⟨#[99,57]⟩] 9))).below (ba _));have HBI:Hid ((w4.alloc (Ze #[I ⟨#[99,49]⟩,I ⟨#[99,50]⟩,I ⟨#[99,57]⟩] 9)).drew.heap[w4.heap.size]?=M (Ze #[I ⟨#[99,49]⟩,I ⟨#[99,50]⟩,I ⟨#[99,57]⟩] 9 (0,0))):=Yf;go_region_with (go_at_call 20;refine (eE HEA.src w4.heap.size 3 [⟨#[99,49]⟩,⟨#[99,50]⟩,⟨#[99,57]⟩] _ HBI.out af rfl ag ag ag).mono ?_;rintro e wz ⟨tz,rfl,htz,Zq,Ζ⟩;have HZ:=G (HEA.draw Zq Ζ);have bz:=HZ.blk;have rz:=HZ.res;obtain⟨z0,z1,z2,z3,z4,z5⟩:=cs6 bz;have ltz:=ae bz;obtain⟨y0_,y1_,y2_,y3_,y4_,y5_⟩:=cs6 rz;have awx:=ae rz;have h0_:=ak rz 0;have h1_:=ak rz 1;have h2_:=ak rz 2;have h3_:=ak rz 3;have h4_:=ak rz 4;have h5_:=ak rz 5);all_goals (
  have hf:=HZ.fin rfl HWA.1 HWA.2;have HF:=G hf;clear hf;go_wp2_with fail
  exact bodyPost_ret (v:=Zn #[Zj #[U a1 l1 y1,U a2 l2 y2,U a3 l3 y3,U a4 l4 y4,U a5 l5 y5,V O c.now],I tz]) Ox rfl ⟨⟨a1,l1,y1,a2,l2,y2,a3,l3,y3,a4,l4,y4,a5,l5,y5⟩,c,tz,rfl,HF.1,by omega,HF.2⟩)):p:=h
theorem aaC(h:p:=by
 have ayU:=HE.src.vt;have HEA:=G ((HE.below (aj w5 (Ze #[I ⟨#[99,49]⟩,I ⟨#[99,50]⟩,I ⟨#[99,57]⟩] 9))).below (ba _));have HBI:Hid ((w5.alloc (Ze #[I ⟨#[99,49]⟩,I ⟨#[99,50]⟩,I ⟨#[99,57]⟩] 9)).drew.heap[w5.heap.size]?=M (Ze #[I ⟨#[99,49]⟩,I ⟨#[99,50]⟩,I ⟨#[99,57]⟩] 9 (0,0))):=Yf;go_region_with (go_at_call 20;refine (eE HEA.src w5.heap.size 3 [⟨#[99,49]⟩,⟨#[99,50]⟩,⟨#[99,57]⟩] _ HBI.out af rfl ag ag ag).mono ?_;rintro e wz ⟨tz,rfl,htz,Zq,Ζ⟩;have HZ:=G (HEA.draw Zq Ζ);have bz:=HZ.blk;have rz:=HZ.res;obtain⟨z0,z1,z2,z3,z4,z5⟩:=cs6 bz;have ltz:=ae bz;obtain⟨y0_,y1_,y2_,y3_,y4_,y5_⟩:=cs6 rz;have awx:=ae rz;have h0_:=ak rz 0;have h1_:=ak rz 1;have h2_:=ak rz 2;have h3_:=ak rz 3;have h4_:=ak rz 4;have h5_:=ak rz 5);all_goals (
  have hf:=HZ.fin rfl HWA.1 HWA.2;have HF:=G hf;clear hf;go_wp2_with fail
  exact bodyPost_ret (v:=Zn #[Zj #[U a1 l1 y1,U a2 l2 y2,U a3 l3 y3,U a4 l4 y4,U a5 l5 y5,V O c.now],I tz]) Ox rfl ⟨⟨a1,l1,y1,a2,l2,y2,a3,l3,y3,a4,l4,y4,a5,l5,y5⟩,c,tz,rfl,HF.1,by omega,HF.2⟩)):p:=h
theorem aaB(h:p:=by
 go_region_with (go_at_call 19;refine (HED.src.n (l4:Int) af).mono ?_;rintro e wz ⟨m,rfl,ma,mb,Zq,Ζ⟩;obtain⟨mn,rfl⟩:∃n:Nat,m=n:=⟨m.toNat,by omega⟩;have HZ:=G (HED.draw Zq Ζ);have hmn:mn<l4:=af;obtain⟨b',o',x,hab,hb,hx,Zc⟩:=dB HZ.row.x hmn;cases hab;obtain⟨hxn,-,-,c0,-,-,-,-⟩:=bD Zc;have HXN:=G hxn;have bz:=HZ.blk;have rz:=HZ.res;have ZE:¬b=w.heap.size:=(λe=>by subst e;exact cE (d:=ad0) rz _ _ c0);obtain⟨z0,z1,z2,z3,z4,z5⟩:=cs6 bz;have ltz:=ae bz;obtain⟨y0_,y1_,y2_,y3_,y4_,y5_⟩:=cs6 rz;have awx:=ae rz;have h0_:=ak rz 0;have h1_:=ak rz 1;have h2_:=ak rz 2;have h3_:=ak rz 3;have h4_:=ak rz 4;have h5_:=ak rz 5;clear hx bz rz ma mb Zq Ζ hxn);all_goals (
  have hf:=HZ.fin rfl HWA.1 HWA.2;have HF:=G hf;clear hf;go_wp2_with fail
  exact bodyPost_ret (v:=Zn #[Zj #[U a1 l1 y1,U a2 l2 y2,U a3 l3 y3,U (M ⟨b,o,J⟩) l4 y4,U a5 l5 y5,V O c.now],I x.n]) Oy rfl ⟨⟨a1,l1,y1,a2,l2,y2,a3,l3,y3,(M ⟨b,o,J⟩),l4,y4,a5,l5,y5⟩,c,x.n,rfl,HF.1,HXN.out,HF.2⟩)):p:=h
theorem aaA(h:p:=by
 have hf:=HE.fin rfl HWA.1 HWA.2;exact bodyPost_ret (v:=Zn #[Zj #[U a1 l1 y1,U a2 l2 y2,U a3 l3 y3,U a4 0 y4,U a5 l5 y5,V O c.now],I ⟨#[99,57]⟩]) Oy rfl ⟨⟨a1,l1,y1,a2,l2,y2,a3,l3,y3,a4,0,y4,a5,l5,y5⟩,c,⟨#[99,57]⟩,rfl,hf.1,by decide,hf.2⟩):p:=h
theorem aaz(h:p:=by
 have hf:=HE.fin rfl HWA.1 HWA.2;exact bodyPost_ret (v:=Zn #[Zj #[U a1 l1 y1,U a2 l2 y2,U a3 l3 y3,U a4 l4 y4,U a5 l5 y5,V O c.now],I ⟨#[99,57]⟩]) Oy rfl ⟨⟨a1,l1,y1,a2,l2,y2,a3,l3,y3,a4,l4,y4,a5,l5,y5⟩,c,⟨#[99,57]⟩,rfl,hf.1,by decide,hf.2⟩):p:=h
theorem iN(h:p:=by
 have HRS:=G HE.res;obtain⟨s0,s1,s2,s3,s4,s5⟩:=cs6 HRS;obtain⟨lts,g0_,g1_,g2_,g3_,g4_,g5_,aoS⟩:=amm;go_wp2_with fail;exact aps):p:=h
theorem aag(h:p:=by
 exact bodyPost_ret (v:=Zn #[Zj #[U d.a1 d.l1 d.c1,U d.a2 d.l2 d.c2,U d.a3 d.l3 d.c3,U d.a4 d.l4 d.c4,U d.a5 d.l5 d.c5,V O c.now],I s]) (by simp[results,Tryz.results6,go_sem, *]) rfl ⟨d,c,s,rfl,HF.1,HS.out,HF.2⟩):p:=h
theorem aaf(h:p:=by
 exact bodyPost_ret (v:=Zj #[U d.a1 d.l1 d.c1,U d.a2 d.l2 d.c2,U d.a3 d.l3 d.c3,U d.a4 d.l4 d.c4,U d.a5 d.l5 d.c5,V O c.now]) (by simp[results,Tryz.results8,go_sem, *]) rfl ⟨d,c,rfl,HF.1,HF.2⟩):p:=h
theorem zL(h:p:=by
 have hf:=anD hrs hr ((aj w (Ze (Zd J 0 0 J 0 0 J 0 0 J 0 0 J 0 0 0) 29)).trans (hb.mono aF));have HF:=G hf;have HRS:=G hrs;obtain⟨s0,s1,s2,s3,s4,s5⟩:=cs6 HRS;have atZ:=@G _ @Mp;exact uj):p:=h
theorem aab(h:p:=by
 have hkb:=ae Bk.out;by_cases he:x.v=⟨#[]⟩
 ·have hq:=cw he;go_wp2_with (first|(at_builtin;refine wpList_append_own _ rfl _ _ 35 rfl (w.heap.size+1) 9 i0 (I ⟨#[]⟩) 1 16 Tryz.underlying35 Y_.1 Y_.2.1 Y_.2.2.1 Y_.2.2.2 rfl ag _ _ _ rfl ((HO.alloc _).alloc _) ⟨wr.heap.size+1,0,J⟩ 1 1 [I x.n] rfl rfl ?c1 ?c2 ?c3 ?c4 ?c5 ?_));case c1=>
   intro j u hu;cases j with
   | zero=>
    simp only[List.getElem?_cons_zero,YZ] at hu;subst hu;rw[Ym];exact al (cL _ _ _) 0
   | succ j=>simp at hu
  case c2=>intro u hu;rw[List.mem_singleton.1 hu];rfl
  case c3=>unfold maxLen;omega
  case c4=>omega
  case c5=>simp;omega
  have at3:=@G _ @Nh;exact uA
 ·have hq:=aU he;have HO3:=HO;rw[<-CM HXx.out hq] at HO3;go_wp2;exact⟨⟨k+1,n,by omega,by omega,by go_num,HO3.alloc _,HB.alloc hBs _,(Yj _ _ _ hkb).trans Bk.out⟩,by simp[intOf];omega⟩):p:=h
theorem aaa(h:p:=by
 have hkb:=ae Bk.out;by_cases he:x.v=⟨#[]⟩
 ·have hq:=cw he;go_wp2_with (first|(at_builtin;refine wpList_append_own _ rfl _ _ 35 rfl (w.heap.size+1) 9 i0 (I ⟨#[]⟩) 1 16 Tryz.underlying35 Y_.1 Y_.2.1 Y_.2.2.1 Y_.2.2.2 rfl ag _ _ _ rfl (HO.alloc _) ⟨wr.heap.size,0,J⟩ 1 1 [I x.n] rfl rfl ?c1 ?c2 ?c3 ?c4 ?c5 ?_));case c1=>
   exact O_
  case c2=>intro u hu;rw[List.mem_singleton.1 hu];rfl
  case c3=>unfold maxLen;omega
  case c4=>omega
  case c5=>simp;omega
  have at3:=@G _ @Ng;exact uA
 ·have hq:=aU he;have HO3:=HO;rw[<-CM HXx.out hq] at HO3;go_wp2;exact⟨⟨k+1,n,by omega,by omega,by go_num,HO3,HB,Bk⟩,by simp[intOf];omega⟩):p:=h
theorem zK(h:p:=by
 have apt:=@G _ @Hh;exact jX):p:=h
theorem Xw(h:p:=by
 have fr8:=ak Br.out 8;have hrl:=ae Br.out;have ev:=(HE.below HB.out).v7;have evl:=a_ ev;go_wp2_with fail;refine (gY E 7 _ (HE.below (HB.trans ((aj _ _).mono HB.size))) ag).mono ?_;rintro e w3 ⟨rfl,rfl⟩;generalize aZ 7=cc at HV ⊢;exact aic):p:=h
theorem WJ(h:p:=by
 go_enter Tryz.func4,Tryz.ntmps4;have avQ:=@G _ @aeS;exact AB):p:=h
theorem WI(h:p:=by
 go_enter Tryz.func25,Tryz.ntmps25;have avQ:=@G _ @aeR;exact AB):p:=h
theorem zC(h:p:=by
 obtain⟨hcl,HCL⟩:=ahF;have hR1:d_ (w.alloc (Ze (Zd J 0 0 J 0 0 J 0 0 J 0 0 J 0 0 0) 29)).heap.size (w.alloc (Ze (Zd J 0 0 J 0 0 J 0 0 J 0 0 J 0 0 0) 29)) v len:=by
  exact ait
 obtain⟨HR,awv⟩:=akD;clear hR hR1 hcl;exact avR):p:=h
theorem Wx(h:p:=by
 rintro _ ⟨q,rfl⟩;go_wp2_with fail;exact⟨⟨k+1,by omega,by go_num,ZH.trans (q.b.mono ZH.size)⟩,by simp[intOf];omega⟩):p:=h
theorem V_(h:p:=by
 refine⟨⟨cur.setIfInBounds (j*m+i) (U a 0 q),H,⟨an h1.blk _,h1.inS,lN h3 h1.len,λj' r' Λ i' f' hi'=>?_,λj' r' i' ZB j2 r2 i2 zs2 Λ hi' hz' hj2 hi2 ZP hH=>?_⟩,λj' r' i' ZB Λ hi' hz'=>?_⟩,h2.set h1.inS,h3⟩
 ·rcases e_ h3 hil Λ hi' with ⟨rfl,rfl,rfl⟩|⟨ZE,r0,q1,q2⟩
  ·exact⟨_,by rw[Array.getElem?_setIfInBounds_self_of_lt Z6],⟨a,0,q,rfl,rfl,YJ _,hq,λj x hx=>by simp at hx,Zl rfl⟩⟩
  ·exact Pc
 ·exact QI
 ·obtain⟨r0,b1,b2⟩:=back j' r' i' ZB Λ hi' hz';exact hN j' r0 i' ZB b1 b2 hz'):p:=h
theorem U4(h:p:=by
 rcases hf with ⟨i,x,hx,hn,rfl⟩|⟨ε,rfl⟩;rotate_left
 ·have HV:Hid (gU c t ⟨vZ0,6⟩):=Zl ⟨2,⟨hl,HT.out,λ⟨i,x,h1,h2⟩=>ε i x h1 h2⟩,rfl⟩;clear ε;have anZ:=@G _ @FG;exact dQ
 have HX:=G (show oC c t from ⟨i,x,hx,hn⟩);clear hx hn;have hi0:¬(i:Int)<0:=af
 have aol:=@G _ @Kv;exact ff):p:=h
theorem UM(h:p:=by
 have HLO:=G HB.size;refine (cZ ⟨(M ⟨b,o,J⟩),l1,y1,a2,l2,y2,a3,l3,y3,a4,l4,y4,a5,l5,y5⟩ c _ (HR.below (HB.trans ((aj _ _).mono HB.size))) HT.sm).mono ?_;rintro e w3 ⟨d',rfl,ho,hb⟩;clear hd0 hd1 hd2 hd3 hd4 hd5 hd6 Z3;have ν:=G hb.size;rw[cW] at ν ho;clear k0 k1 k2 k3 k4 k5 Α;obtain⟨ZD,Zr⟩:=aY hb;replace Bk:=upK Bk Zr;replace Br:=upK Br Zr;have Bn:=G ZD;replace HB:=upB HB Zr;clear hb Zr ZD;obtain⟨x1,m1,n1,x2,m2,n2,x3,m3,n3,x4,m4,n4,x5,m5,n5⟩:=d';have hm1:m1=l1:=by have h6:(c.ns.map ndF).length=m1:=ho.n.1;rw[Yq] at h6;omega
 subst hm1;have hq1:=HQ1.out;have Τ:=ν.out;have inS:∀{a l cp m T rs},av w3 a l cp m T rs (λk=>w1.heap.size+1<=k)->av w3 a l cp m T rs (λk=>w1.heap.size<=k/\¬k=w3.heap.size):=λh=>h.bC (λk hk s=>⟨by have s1:w1.heap.size+1<=k:=s;omega,by omega⟩);obtain⟨g,hga,hS⟩:=(inS ho.n).st (aJ.refl _ w3) (i:=j) (r:=ndF n) (show (c.ns.map ndF)[j]?=M (ndF n) by rw[Yt,HNJ.out];rfl);have aqt:x1=M ⟨g,0,J⟩:=hga;subst aqt;have HG0:Hid (w1.heap.size+1<=g):=by
  rcases ho.n.2.2.2 with h9|⟨g9,c9,H9,e9,h9⟩
  ·have h8:(c.ns.map ndF)[j]?=M (ndF n):=by rw[Yt,HNJ.out];rfl
   have h7:c.ns.map ndF=[]:=h9;rw[h7] at h8;cases h8
  ·cases e9;exact h9.inS
 obtain⟨axy,hg1,hg2,Δ⟩:∃axy,w1.heap.size<=g/\g<w3.heap.size/\w3.heap[g]?=M (Ze axy 81 (0,0)):=by
  obtain⟨⟨cur,H,h1,_⟩,_⟩:=hS;exact⟨cur,h1.inS.1,ae h1.blk,h1.blk⟩
 have HGB:=G Δ;have HG1:Hid (w1.heap.size+1<=g):=HG0.out;have HST:=G hS;have HOC:=G (Yb (inS ho.k) (Yb (inS ho.v) (Yb (inS ho.x) (inS ho.p))));have HNN:Hid (av w3 (M ⟨g,0,J⟩) m1 n1 7 81 (c.ns.map ndF) (λk=>w1.heap.size<=k/\¬k=w3.heap.size)):=inS ho.n;clear hS ho hga inS Δ;go_wp2_with fail;obtain⟨W,θ⟩:∃W,W=(w3.alloc (Ze (Zd (M ⟨g,0,J⟩) m1 n1 x2 m2 n2 x3 m3 n3 x4 m4 n4 x5 m5 n5 c.now) 29)):=⟨_,rfl⟩;have BkW:=G ((Yj w3 (Ze (Zd (M ⟨g,0,J⟩) m1 n1 x2 m2 n2 x3 m3 n3 x4 m4 n4 x5 m5 n5 c.now) 29) _ (ae Bk.out)).trans Bk.out);have BrW:=G ((Yj w3 (Ze (Zd (M ⟨g,0,J⟩) m1 n1 x2 m2 n2 x3 m3 n3 x4 m4 n4 x5 m5 n5 c.now) 29) _ (ae Br.out)).trans Br.out);have BnW:=G ((Yj w3 (Ze (Zd (M ⟨g,0,J⟩) m1 n1 x2 m2 n2 x3 m3 n3 x4 m4 n4 x5 m5 n5 c.now) 29) _ (ae Bn.out)).trans Bn.out);have BoW:=G (heap_alloc_new w3 (Ze (Zd (M ⟨g,0,J⟩) m1 n1 x2 m2 n2 x3 m3 n3 x4 m4 n4 x5 m5 n5 c.now) 29));have HWW:=G (aj w3 (Ze (Zd (M ⟨g,0,J⟩) m1 n1 x2 m2 n2 x3 m3 n3 x4 m4 n4 x5 m5 n5 c.now) 29));have ZH:=G (HB.trans ((aj w3 (Ze (Zd (M ⟨g,0,J⟩) m1 n1 x2 m2 n2 x3 m3 n3 x4 m4 n4 x5 m5 n5 c.now) 29)).mono HB.size));rw[<-θ] at BkW BrW BnW BoW HWW ZH ⊢;clear θ;rename_i K0 hK0;refine Gt.bS aW rfl rfl aW ?_;refine Grow.aK ?_;refine Grow.aO BoW.out ?_;iterate 2 refine Grow.aK ?_
 refine Grow.aO BkW.out ?_;refine' Grow.stepC (V O (c.now+10)) rfl ?_ ?_
 ·have apA:=@G _ @GJ;exact jW
 refine Grow.step (λv _=>v=V O (cV c)) rfl (Fact.dq _) ?_ ?_
 ·have aqg:=@G _ @Fx;exact mS
 iterate 2 refine Grow.aK ?_
 have aom:=@G _ @DV;exact fc):p:=h
theorem UL(h:p:=by
 refine (aI p _).mono ?_;have aoC:=@G _ @ET;exact fO):p:=h
theorem UK(h:p:=by
 refine (aI 10 _).mono ?_;rintro e w2 ⟨rfl,hb⟩;have aqn:=@G _ @FT;exact mU):p:=h
theorem Ug(h:p:=by
 obtain⟨r0,r1,r2,r3,r4,r5,r6,r7,r8⟩:=cs9 Br;have aoZ:=ae Br.out;obtain⟨ZR,ZS,ZT,ZU,ZV,ZY,Z1,Z2⟩:=dD;have fr8:=ak Br.out 8;have hrl:=ae Br.out;go_wp2_with fail;refine (gY E i _ (HE.below (HB.trans ((aj _ _).mono HB.size))) hi8).mono ?_;rintro e w2 ⟨rfl,rfl⟩;generalize aZ i=cc at HV ⊢;exact aic):p:=h
theorem SZ(h:p:=by
 clear hi ZO η ZP;go_enter Tryz.func14,Tryz.ntmps14;go_wp2_with fail;refine (oa ⟨a1,l1,y1,a2,l2,y2,a3,l3,y3,a4,l4,y4,a5,l5,y5⟩ c _ (HR.below (HB.trans ((aj _ _).mono HB.size))) (HE.below (HB.trans ((aj _ _).mono HB.size)))).mono ?_;rintro e w1 ⟨r,rfl,hi,hb⟩;obtain⟨ZD,Zr⟩:=aY hb;have Bk:=G ZD;replace HB:=upB HB Zr;clear hb Zr ZD;have at4:=@G _ @Jb;exact tC):p:=h
theorem SY(h:p:=by
 clear hi ZO η ZP;go_enter Tryz.func15,Tryz.ntmps15;have att:=@G _ @Fl;exact sK):p:=h
theorem SF(h:p:=by
 obtain⟨h72,-⟩:=hf;refine hK0 _ _ ?_;simp only[aL,YQ,Y0,Yr,Yx,Yy,h72];clear hK0;replace HB:=upB HB hW;replace μ:=G (μ.below hW);replace Bc1:=upK Bc1 hW;replace Κ:=G (Κ.below hW);replace Bx1:=upK Bx1 hW;replace HC2:=G (HC2.below hW);replace Bc2:=upK Bc2 hW;replace HV:=G (HV.below hW);replace Bv:=upK Bv hW;replace HC3:=G (HC3.below hW);replace Bc3:=upK Bc3 hW;clear hW;obtain⟨x0,x1,x2,x3,x4,x5,x6,x7⟩:=cs8 Bx1;by_cases hx:o1.p=0;rotate_left
 ·have hp:(o1.p !=0)=Zi:=by simpa using hx
  go_wp2;go_ret;exact⟨rfl,HB.out⟩
 have hp:(o1.p !=0)=Zg:=by simpa using hx
 obtain⟨i1,y1,ω⟩:=HI1.ok hx;have HBD:=G ω;clear ω hx;go_wp2_with fail;refine (vN g1 o1.c t1 E _ Κ.out (HE.below HB.out)).mono ?_;rintro e w6 ⟨wa,wl,wc,z,rfl,hI,ho,hb⟩;have HVZ:=G (HBD.vol hI);clear hI ho x0 x1 x2 x3 x4 x5 x6 x7;replace HB:=upB HB hb;replace μ:=G (μ.below hb);replace Bc1:=upK Bc1 hb;replace Κ:=G (Κ.below hb);replace Bx1:=upK Bx1 hb;clear hb;go_wp2_with fail;have hbX:=aj w6 (Ze #[I z.u.n,V O z.u.c,I z.u.z,I z.u.k,Zf z.u.x,I z.u.m,Zf z.u.y,U wa wl wc,V O z.p] 39);replace HB:=upB HB hbX;replace μ:=G (μ.below hbX);replace Bc1:=upK Bc1 hbX;replace Κ:=G (Κ.below hbX);replace Bx1:=upK Bx1 hbX;have Bw6:Hid ((w6.alloc (Ze #[I z.u.n,V O z.u.c,I z.u.z,I z.u.k,Zf z.u.x,I z.u.m,Zf z.u.y,U wa wl wc,V O z.p] 39)).heap[w6.heap.size]?=M (Ze #[I z.u.n,V O z.u.c,I z.u.z,I z.u.k,Zf z.u.x,I z.u.m,Zf z.u.y,U wa wl wc,V O z.p] 39 (0,0))):=Yf;clear hbX;generalize hX:w6.heap.size=bw at*;generalize (w6.alloc (Ze #[I z.u.n,V O z.u.c,I z.u.z,I z.u.k,Zf z.u.x,I z.u.m,Zf z.u.y,U wa wl wc,V O z.p] 39))=W6 at*;clear hX;obtain⟨zs0,HZ0⟩:∃zs,Hid (iy c1 zs):=by
  by_cases hr9:au c1
  ·exact⟨_,Zl ⟨hr9,rfl⟩⟩
  ·exact⟨_,Zk ⟨hr9,rfl⟩⟩
 obtain⟨zs1,HZ1⟩:∃zs,Hid (iy o1.c zs):=⟨_,Zl ⟨HBD.ro,rfl⟩⟩;have axz:=HBD.less HZ0.out HZ1.out;have HLS:=G axz;have hlz:zs0.length<=9223372036854775807:=Yo HZ0.few (by have h1:c1.xs.length=l41:=(by simpa using (show (c1.xs.map xdF).length=l41 from μ.x.1));have h2:l41<=9223372036854775807:=Yo μ.x.2.1 μ.x.2.2.1;omega);have HLZ:=G hlz;clear hlz;have hv1:(z.p !=0)=Zg:=by rw[HVZ.1];rfl
 have hv2:=aP HVZ.2.1;have hv3:=aP HVZ.2.2;have hp7:∀o9,bH o1.c t1 o9->o9.p=7:=λo9 h9=>HBD.once h9;have HP7:=G hp7;have HV1:=G hv1;have HV2:=G hv2;have HV3:=G hv3;clear axz hv1 hv2 hv3 hp7;have aqr:=@G _ @Ip;exact ng):p:=h
theorem Nh(h:p:=by
 have Z7:=G ((HB.trans ((aM _ _ _ ).mono hBs)).grown ZC bg (λg hg=>by have:=(HO.lt g hg).1;omega));have Bk3:Hid (w3.heap[w.heap.size]?=M (Ze (Zd a1 l1 y1 a2 l2 y2 a3 l3 y3 (M ⟨b,o,J⟩) l4 y4 a5 l5 y5 c.now) 29 (0,0))):=by
  exact (ZC.block _ bg (λe=>by have:=(HO.lt _ e.symm).1;omega)).trans ((Yj _ _ _ bg).trans ((Yj _ _ _ hkb).trans Bk.out))
 exact Pt):p:=h
theorem Ng(h:p:=by
 have Z7:=G ((HB.trans ((aj _ _ ).mono hBs)).grown ZC bg (λg hg=>by have:=(HO.lt g hg).1;omega));have Bk3:Hid (w3.heap[w.heap.size]?=M (Ze (Zd a1 l1 y1 a2 l2 y2 a3 l3 y3 (M ⟨b,o,J⟩) l4 y4 a5 l5 y5 c.now) 29 (0,0))):=by
  exact (ZC.block _ bg (λe=>by have:=(HO.lt _ e.symm).1;omega)).trans ((Yj _ _ _ hkb).trans Bk.out)
 exact Pt):p:=h
theorem uA(h:p:=by
 rintro v' w3 Z5 ZC -;have HO3:Hid (w3.ownsRow (w.heap.size+1) 9 1 v' (n+1) ((iV (c.xs.take (k+1))).map Yn)):=by
  show World.ownsRow _ _ _ _ _ _ _;rw[Sw HXx.out hq,List.map_append];exact Z5
 exact at3):p:=h
theorem M8(h:p:=by
 clear hb Zr ZD Ν;go_wp2_with (first|go_quiet (fail)|fail);first
  | (go_ret;exact⟨rfl,HB.out⟩)
  | (go_ret;exact⟨rfl,HB.trans ((Below.gT (Yh _ _)).mono HB.size)⟩)):p:=h
theorem M7(h:p:=by
 go_wp2_with fail;go_ret;exact⟨rfl,HB.out⟩):p:=h
theorem MP(h:p:=by
 have asB:=@G _ @abO;exact qx):p:=h
theorem MK(h:p:=by
 by_cases Zo:k<3
 ·obtain⟨a1,l1,y1,a2,l2,y2,a3,l3,y3,a4,l4,y4,a5,l5,y5⟩:=d;have hl1:c.ns.length=l1:=ahz
  obtain rfl:3=l1:=HS.ns.symm.trans hl1;obtain⟨b,o,x,rfl,hb,hx,Zc⟩:=dF (HS.row.n) Zo;obtain⟨va,vl,vc,-,-,-,c0,c1,c2,c3,c4,c5,c6⟩:=bo Zc;clear Zc hx c1 c2 c3 c4 c5 c6;have HRW:Hid ((wr.alloc (Ze #[U J 0 0,U J 0 0,U J 0 0,U J 0 0,U J 0 0,V O 0,I ⟨#[]⟩,V O 0] 33)).drew.heap[wr.heap.size]?=M (Ze #[U J 0 0,U J 0 0,U J 0 0,U J 0 0,U J 0 0,V O 0,I ⟨#[]⟩,V O 0] 33 (0,0))):=Yf;go_wp2_with fail;go_cut [5] from 13 to 20 (λs wx=>YS B w0 p v len w w1.heap.size ⟨M ⟨b,o,J⟩,3,y1,a2,l2,y2,a3,l3,y3,a4,l4,y4,a5,l5,y5⟩ c s wx);case first=>
   go_region_with (go_at_call 41;first
    | (refine (HAG.out _ c _ wr.drew (HS.row.below (ba _))).mono ?_;rintro e w9 ⟨g,o,rfl,⟨hgd,hnm⟩,ho,hb⟩)
    | (refine (HAG.out _ c _ (wr.alloc (Ze #[U J 0 0,U J 0 0,U J 0 0,U J 0 0,U J 0 0,V O 0,I ⟨#[]⟩,V O 0] 33)).drew (HS.row.below ((aj _ _).trans ((ba _).mono aF)))).mono ?_;rintro e w9 ⟨g,o,rfl,⟨hgd,hnm⟩,ho,hb⟩;have hr9:=(hb.block _ (ae HRW.out)).trans HRW.out;obtain⟨r0,r1,r2,r3,r4,r5,r6,r7⟩:=cs8 hr9;have hrl:=ae hr9;have ZR:=ak hr9 0;have ZS:=ak hr9 1;have ZT:=ak hr9 2;have ZU:=ak hr9 3;have ZV:=ak hr9 4;have ZY:=ak hr9 5;have Z1:=ak hr9 6;have Z2:=ak hr9 7))
   all_goals (
    go_wp2_with fail
    go_meet
    first
     | (rw[eight hr9];exact aiQ HS.out (((aj _ _).trans ((ba _).mono aF)).trans (hb.mono (show wr.heap.size<=(wr.alloc _).heap.size by simp))) hr9 ho (Yo HS.dr.size (show wr.heap.size<=(wr.alloc _).heap.size by simp)) hnm hgd)
     | exact aiR HS.out ((ba _).trans (hb.mono (Ye _))) ho HS.dr.size hgd)
  case rest=>
   obtain⟨r,g,q,rfl,hcs,hy,hgr,ZM,hgd,hrb,hrp⟩:=hcut;generalize (⟨M ⟨b,o,J⟩,3,y1,a2,l2,y2,a3,l3,y3,a4,l4,y4,a5,l5,y5⟩:Ad)=d9 at hcs;clear k0 k1 k2 k3 k4 k5 ltk c0 HS hb;have HS:=G hcs;have HY:=G hy;have HGR:=G hgr;have HGL:=G ZM;have HGD:=G hgd;clear hcs hy hgr ZM hgd;obtain⟨r0,r1,r2,r3,r4,r5,r6,r7⟩:=cs8 HY;have hrl:=ae HY.out;by_cases hp:q.p=0
   ·have hp1:(q.p==0)=Zi:=iY
    go_wp2_with fail;refine (cJ HS.dr.src 4 ag).mono ?_;rintro e w4 ⟨he,hs,hg⟩;obtain⟨bb,rfl⟩:=ey he;replace HGR:=G (HGR.bN (bO HS.dr.src) (aS hg));replace HGL:=G (HGL.to (Ye _) (λ_ u=>u.draw hs hg));replace HS:=G (HS.draw hs hg);replace HY:=G (gk hg hrp HY.out);clear he hs hg r0 r1 r2 r3 r4 r5 r6 r7 hrl;obtain⟨r0,r1,r2,r3,r4,r5,r6,r7⟩:=cs8 HY;have hrl:=ae HY.out;have Bc:=G HS.blk;have avS:=@G _ @ac_;exact Ab
   ·have hp1:(q.p==0)=Zg:=iY
    go_wp2;exact⟨⟨k+1,by omega,by go_num,d9,c,HS.out⟩,by simp[intOf];omega⟩
 ·obtain rfl:3=k:=af
  obtain⟨_,_,_,_,_,kq,mq,sz,hkq,hm0,hm1,hs0,hs1,aph⟩:=HS.dr.src;have q3:=al aph 3;clear aph hkq hm0 hm1;go_wp2_with fail;refine (HS.dr.src.n (14+sz) af).mono ?_;rintro e w4 ⟨r,rfl,ra,rb,hs,hg⟩;have HX:Hid (∃d c,CS B w0 p v len w w4 w1.heap.size d c):=⟨d,c,HS.draw hs hg⟩;clear hs hg HS q3 k0 k1 k2 k3 k4 k5 ltk;go_wp2;go_loopw [6] (λi wr=> ∃m:Int,0<=m/\m<=29/\i=V O m/\Hid (∃d c,CS B w0 p v len w wr w1.heap.size d c)) (λi _=>(intOf i).toNat);case atStart=>exact⟨4+r,by omega,by omega,by go_num,HX⟩
  case round=>
   clear HX;obtain⟨m,hm0,hm1,rfl,HX⟩:=hrel;obtain⟨d,c,hs⟩:=HX.out;have HS:=G hs;clear HX hs;have Bc:=G HS.blk;have an9:=@G _ @MJ;exact eD):p:=h
theorem MJ(h:p:=by
 by_cases Zo:0<m
 ·go_wp2_with fail;refine (HDS.out B w0 p v len wr HS.dr.src d c HS.row).mono ?_;rintro e w9 ⟨g,q,rfl,hgd,hgr,ZM,hd9⟩;have HGR:=G hgr;have HGL:=G (ZM.to HS.dr.size (λ_ u=>u));have HGD:=G hgd;replace HS:=G (HS.draw hd9.src hd9.gr);replace Bc:=G HS.blk;clear hgr ZM hgd hd9 k0 k1 k2 k3 k4 k5 ltk;have avS:=@G _ @ac9;exact Ab
 ·obtain rfl:m=0:=af
  go_wp2_with fail;refine (cJ HS.dr.src 15 ag).mono ?_;rintro e w5 ⟨he,hs,hg⟩;obtain⟨bb,rfl⟩:=ey he;replace HS:=G (HS.draw hs hg);clear he hs hg k0 k1 k2 k3 k4 k5 ltk;cases bb
  ·have Bc:=G HS.blk;have HRS:=G HS.res;have avT:=@G _ @adq;exact Ah
  ·have Bc:=G HS.blk;have an9:=@G _ @MI;exact eD):p:=h
theorem MI(h:p:=by
 go_wp2_with fail;refine (yi HS.dr.src (w.heap.size+1) w1.heap.size d c HS.row (HS.low.up HS.row (cE (d:=ad0) HS.res)) HS.blk HS.bp (by have:=HS.dr.src.1;have:=HS.dr.lt;omega) HS.lt (by have:=HS.ns;omega) (by have:=HS.ks;omega)).mono ?_;rintro e w6 ⟨rfl,d6,c6,hsp⟩;have HSP:=G hsp;have HRS:=G ((hsp.kept.block _ (ae HS.res) (by have:=HS.dr.lt;omega)).trans HS.res);clear hsp k0 k1 k2 k3 k4 k5 ltk;have Bc:=G HSP.blk;have avT:=@G _ @adp;exact Ah):p:=h
theorem MH(h:p:=by
 have hul:=HU.1;have hum:=Yo HU.2.1 HU.2.2.1;by_cases hl0:ul=0
 ·subst hl0;have aps:=@G _ @aaD;exact iN
 have Zo:decide ((0:Int)<(ul:Int))=Zi:=by rw[decide_eq_true_eq];omega
 go_wp2_with fail;refine (cJ HE.src 4 ag).mono ?_;rintro e w5 ⟨he,hs,hg⟩;obtain⟨bb,rfl⟩:=ey he;replace HU:=G (aw.bN HU.out (bO HE.src) (aS hg));replace HE:=G (HE.draw hs hg);clear he hs hg k0 k1 k2 k3 k4 k5 ltk;have Bc:=G HE.blk;obtain⟨k0,k1,k2,k3,k4,k5⟩:=cs6 Bc;have ltk:=ae Bc.out;cases bb;case true=>
  have aps:=@G _ @aaC;exact iN
 obtain⟨b,o,x0,rfl,-,-,-,-⟩:=HU.at (show 0<ul by omega);have HED:=G (HE.below (ba _));have HUD:=G (HU.below (ba _));have aps:=@G _ @aaE;exact iN):p:=h
theorem MG(h:p:=by
 cases bb;case true=>
  have aps:=@G _ @aaz;exact iN
 obtain⟨b,o,x0,rfl,-,-,-⟩:=dB HE.row.x (show 0<l4 by omega);have HED:=G (HE.below (ba _));have aps:=@G _ @aaB;exact iN):p:=h
theorem MF(h:p:=by
 exact avQ):p:=h
theorem ME(h:p:=by
 obtain⟨s0,s1,s2,s3,s4,s5⟩:=cs6 HRS;have g0:=ak HRS.out 0;have g1:=ak HRS.out 1;have g2:=ak HRS.out 2;have g3:=ak HRS.out 3;have g4:=ak HRS.out 4;have g5:=ak HRS.out 5;exact avT):p:=h
theorem MD(h:p:=by
 have f0:=ak Bc.out 0;have f1:=ak Bc.out 1;have f2:=ak Bc.out 2;have f3:=ak Bc.out 3;have f4:=ak Bc.out 4;have f5:=ak Bc.out 5;exact avS):p:=h
theorem eD(h:p:=by
 obtain⟨k0,k1,k2,k3,k4,k5⟩:=cs6 Bc;have ltk:=ae Bc.out;exact an9):p:=h
theorem Mq(h:p:=by
 have aoS:¬w2.heap.size=w.heap.size:=by have:=HE.lt;omega
 exact Yb lts (Yb g0_ (Yb g1_ (Yb g2_ (Yb g3_ (Yb g4_ (Yb g5_ aoS))))))):p:=h
theorem Mp(h:p:=by
 clear hrs hf hr hb;go_wp2_with fail;exact avL):p:=h
theorem uj(h:p:=by
 have lts:=ae HRS.out;have g0_:=ak HRS.out 0;have g1_:=ak HRS.out 1;have g2_:=ak HRS.out 2;have g3_:=ak HRS.out 3;have g4_:=ak HRS.out 4;have g5_:=ak HRS.out 5;exact atZ):p:=h
theorem Ln(h:p:=by
 have aqG:=@G _ @F6;exact mW):p:=h
theorem KU(h:p:=by
 have hnm:(c.ns.set (pl Nd.n c.ns t) (fL c n))[j]?=M (fL c n):=by
  rw[(bj HT.2.1.1.2.2 HNJ.out ZQ.2.2.2).1,ew (Yc.1 HNJ.out).1,if_pos rfl]
 have hnr:aH Nd.n (c.ns.set (pl Nd.n c.ns t) (fL c n)):=by
  rw[(bj HT.2.1.1.2.2 HNJ.out ZQ.2.2.2).1];exact HT.2.1.1.2.2.SB HNJ.out rfl
 refine (CV w3.heap.size (M ⟨g,0,J⟩) m1 n1 x2 m2 n2 x3 m3 n3 x4 m4 n4 x5 m5 n5 c.now t (c.ns.set (pl Nd.n c.ns t) (fL c n)) c.ks c.vs c.xs c.ps (fL c n) j f (λk=>w1.heap.size<=k/\¬k=w3.heap.size) (λk=>w1.heap.size<=k/\¬k=w3.heap.size) _ Bo6.out HF6.2.2.2 (λg5 e0 e5 e=>nb g5 (λh=>h.2 e) ⟨e0,e5⟩) HF1.out HF6.1 HF6.2.1 HF6.2.2.1 hnr HT.2.1.2.2.2.1.2.2 HT.2.1.2.2.1.2.2 HT.2.1.ne hnm ZQ.2.2.2 (λk p hp hd=>HT.bds hp (by rw[hd,<-ZQ.2.2.2];exact aN.ne (HT.2.1.1.2.1 _ n ZQ.2.2.1).1)) (λk p hp hd=>(HF.out p).imp (λh=>⟨h.1,h.2.2⟩) (λh=>⟨h.1,λh9=>h.2 ⟨HLV.out,h9⟩⟩))).mono ?_;rintro e w7 ⟨⟨v,rfl⟩,hP,hK⟩;obtain⟨Bo7,Μ,g1,g2,g3,g4⟩:=ahN;have hps:(jD c t n f).raw.p=(c.ps.map (phF t f)).map pdF:=rfl;have avP:=@G _ @PN;exact zS):p:=h
theorem KT(h:p:=by
 refine (mC w3.heap.size (M ⟨g,0,J⟩) x2 x3 x4 x5 m1 n1 m2 n2 m3 n3 m4 n4 m5 n5 c.now t c.ps (λk=>w1.heap.size<=k/\¬k=w3.heap.size) _ Bo6.out HF6.2.2.2 (λg5 e0 e5 e=>nb g5 (λh=>h.2 e) ⟨e0,e5⟩)).mono ?_;rintro e w7 ⟨⟨v,rfl⟩,hP,hK⟩;obtain⟨Bo7,Μ,g1,g2,g3,g4⟩:=ahN;have hps:(jD c t n f).raw.p=(c.ps.map (ph1 t)).map pdF:=by
  show (c.ps.map (phF t f)).map pdF=_;rw[ayV.out,agN]
 have avP:=@G _ @air;exact zS):p:=h
theorem tV(h:p:=by
 rw[<-hW6] at f1 f2 f3 f4 f5 hr6 ho6 ZA ⊢;have HF1:=G f1;have HF6:=G (Yb f2 (Yb f3 (Yb f4 f5)));have Br6:=G hr6;have Bo6:=G ho6;have HB6:=G ZA;clear hW6 f1 f2 f3 f4 f5 hr6 ho6 ZA aoe awu hns;have nb:∀k,¬(w1.heap.size<=k/\¬k=w3.heap.size)->¬(0<m5/\x5=M ⟨k,0,J⟩):=λk h1 h2=>by
  exact akI
 exact at5):p:=h
theorem KK(h:p:=by
 obtain⟨ua,ul,uc,-,-,-,hd0,hd1,hd2,hd3,hd4,hd5,hd6⟩:=bo Zc;clear Zc hy;cases hd:n.d;rotate_left
 ·have HV:Hid (wh c t (co0 10)):=Zk ⟨n,ZQ.out,Zl ⟨hd,rfl⟩⟩;rw[hd] at hd5;clear hd;have apo:=@G _ @UK;exact iK
 obtain⟨f,hf⟩:=ahj.ex c n;have HF:=G hf;have HV:Hid (wh c t ⟨jD c t n f,⟨#[]⟩,0⟩):=Zk ⟨n,ZQ.out,Zk ⟨hd,f,hf,rfl⟩⟩;rw[hd] at hd5;have HD:=G hd;clear hd hf;have HQ1:Hid (w.heap.size+1<w1.heap.size):=ae Br.out;obtain⟨hn0,hn1⟩:=HT.1;have apo:=@G _ @UM;exact iK):p:=h
theorem Kv(h:p:=by
 refine (iF ⟨a1,l1,y1,a2,l2,y2,a3,l3,y3,a4,l4,y4,a5,l5,y5⟩ c t _ (HR.below HB.out) HT.2.1.2.2.2.1.2.2 HT.2.1.2.2.1.2.2 HT.2.1.ne).mono ?_;rintro e w3 ⟨hb,hf⟩;clear k0 k1 k2 k3 k4 k5 aoG;have aok:=@G _ @DO;exact fa):p:=h
theorem JX(h:p:=by
 rcases hf with ⟨hh,v,va,vl,vc,hv,hvn,rfl,z0,z2,z3,z5,Zx⟩|⟨hh,rfl⟩;rotate_left
 ·have HV:Hid (gU c t ⟨vZ0,aZ 7⟩):=Zk (Zl ⟨hl,HT.out,⟨_,x,HX.1,HX.2⟩,?_,rfl⟩);rotate_left
  ·rintro v ⟨i,j,y,e1,e2,e3,e4⟩;obtain⟨_,rfl⟩:=HT.2.1.2.2.2.1.2.2.inj e1 HX.1 (e2.trans HX.2.symm);have:=(bj HT.2.1.2.2.1.2.2 e3 e4).2;rw[hh] at this;cases this
  clear hh;have anZ:=@G _ @FE;exact dQ
 have ayW:Hid (w.heap.size+1<=w2.heap.size):=Nat.le_of_lt (ae Br.out);have HV:Hid (gU c t ⟨v,0⟩):=Zk (Zk ⟨hl,HT.out,⟨_,_,x,HX.1,HX.2,hv,hvn⟩,rfl⟩);have hz6:vl<=8001:=by have h1:=Zx.1;have h2:=HT.few hv;omega
 have σ:=G Zx;clear hv hvn hh z0 z2 z3 z5 Zx;have anZ:=@G _ @FF;exact dQ):p:=h
theorem Jq(h:p:=by
 go_enter Tryz.func11,Tryz.ntmps11;have apr:=@G _ @acs;exact iP):p:=h
theorem Jb(h:p:=by
 go_loopw [3,12] (λvo vi wr=> ∃k n:Nat,k<=l4/\n<=k/\vi=V O k/\Hid (wr.ownsRow (w.heap.size+1) 9 1 vo n ((iV (c.xs.take k)).map Yn))/\Hid (Below w.heap.size w wr)/\Hid (wr.heap[w.heap.size]?=M (Ze (Zd a1 l1 y1 a2 l2 y2 a3 l3 y3 a4 l4 y4 a5 l5 y5 c.now) 29 (0,0)))) (λ_ vi _=>l4 - (intOf vi).toNat);case atStart=>exact⟨0,0,by omega,by omega,rfl,World.ownsRow_nil _ _ _ _,HB,Bk⟩
 case round=>
  clear k0 k1 k2 k3 k4 k5;obtain⟨k,n,hk,hn,rfl,HO,HB,Bk⟩:=hrel;have hBs:=HB.size;by_cases Zo:k<l4
  ·have avU:=@G _ @aab;exact zK
  ·exact aid):p:=h
theorem Ja(h:p:=by
 go_loopw [3,4] (λvo vi wr=> ∃k n:Nat,k<=l4/\n<=k/\vi=V O k/\Hid (wr.ownsRow (w.heap.size+1) 9 1 vo n ((iV (c.xs.take k)).map Yn))/\Hid (Below w.heap.size w wr)/\Hid (wr.heap[w.heap.size]?=M (Ze (Zd a1 l1 y1 a2 l2 y2 a3 l3 y3 a4 l4 y4 a5 l5 y5 c.now) 29 (0,0)))) (λ_ vi _=>l4 - (intOf vi).toNat);case atStart=>exact⟨0,0,by omega,by omega,rfl,⟨rfl,Zk ⟨w.heap.size+1,0,#[],rfl,Ye _,Be.out,Ye _,by unfold maxLen;omega,rfl,rfl⟩⟩,HB,Bk⟩
 case round=>
  clear k0 k1 k2 k3 k4 k5;obtain⟨k,n,hk,hn,rfl,HO,HB,Bk⟩:=hrel;have hBs:=HB.size;by_cases Zo:k<l4
  ·have avU:=@G _ @aaa;exact zK
  ·exact aid):p:=h
theorem tC(h:p:=by
 have HI:=G hi;clear hi;cases r
 ·exact ak7
 have HT:=G (HI.1 bU);have h8:l4<=8:=by have:=HT.2.1.2.2.2.1.1;omega
 obtain⟨k0,k1,k2,k3,k4,k5⟩:=cs6 Bk;go_wp2;exact at4):p:=h
theorem Iq(h:p:=by
 refine Grow.aO Bx1.out ?_;refine Grow.aO Bc1.out ?_;refine Grow.aK ?_;refine Grow.step (CoF o1) rfl (CoF.mono o1) ?_ ?_
 ·refine Obl.plain rfl ?_;intro ac wg K Zq hW hf hK;clear Zq;have e41:=hf 41 ag;simp[slotFact,Yg] at e41;have e42:=hf 42 ag;simp[slotFact,Yg] at e42;clear hf;go_simp;refine (wJ ⟨a11,l11,y11,a21,l21,y21,a31,l31,y31,a41,l41,y41,a51,l51,y51⟩ c1 t1 _ (μ.below hW)).mono ?_;rintro e w3 ⟨g2,o2,rfl,hI2,ho2,Zy⟩;obtain rfl:=HI1.same hI2;exact hK _ _ Zy ⟨g2,rfl,ho2⟩
 refine Grow.stepC (Zf Zi) rfl ?_ ?_
 ·refine Obl.plain rfl ?_;intro ac wg K Zq hW hf hK;clear Zq;have e40:=hf 40 ag;simp[slotFact,Yg] at e40;have e43:=hf 43 ag;simp[slotFact,Yg] at e43;clear hf;obtain⟨g9,e43,aop⟩:=e43;go_simp;refine (B8 g1 g9 o1 _ (Κ.below hW) aop (λh=>HI1.right h)).mono ?_;rintro e w3 ⟨rfl,Zy⟩;exact hK _ _ Zy rfl
 iterate 2 refine Grow.aK ?_
 refine Grow.stepB ?_;refine Grow.gO Bv.out ?_;refine Grow.gO Bc2.out ?_;refine Grow.stepB ?_;refine Grow.step (VoF u) rfl (VoF.mono u) ?_ ?_
 ·have Ι:=@G _ @afy;exact cq
 refine Grow.stepC (V O u.p) rfl ?_ ?_
 ·have Ι:=@G _ @afx;exact cq
 refine Grow.stepB ?_;iterate 2 refine Grow.aK ?_
 refine Grow.stepB ?_;refine Grow.gO Bv.out ?_;refine Grow.gO Bc2.out ?_;refine Grow.stepB ?_;refine Grow.step (VoF u) rfl (VoF.mono u) ?_ ?_
 ·have Ι:=@G _ @afw;exact cq
 refine Grow.step (VuF u) rfl (VuF.mono u) ?_ ?_
 ·have Ι:=@G _ @afv;exact cq
 refine Grow.stepC (Zf Zi) rfl ?_ ?_
 ·have Ι:=@G _ @afu;exact cq
 refine Grow.stepB ?_;iterate 2 refine Grow.aK ?_
 refine Grow.gO Bc3.out ?_;refine Grow.step (TxF zs3) rfl (TxF.mono zs3) ?_ ?_
 ·have Ι:=@G _ @aft;exact cq
 refine Grow.gO Bc3.out ?_;refine Grow.step (TxF zs3) rfl (TxF.mono zs3) ?_ ?_
 ·have Ι:=@G _ @afs;exact cq
 refine Grow.stepC (Zf Zi) rfl ?_ ?_
 ·have Ι:=@G _ @afr;exact cq
 refine Grow.stepB ?_;refine Grow.aK ?_;have apm:=@G _ @SF;exact iG):p:=h
theorem Ip(h:p:=by
 refine Grow.aK ?_;refine Grow.aO Bw6.out ?_;refine Grow.stepC (Zf Zg) rfl ?_ ?_
 ·refine Obl.plain rfl ?_;intro ac wg K Zq hW hf hK;clear Zq;have e81:=hf 81 ag;simp[slotFact,Yg] at e81;clear hf;have hv:=HV1.out;exact lu
 refine Grow.aK ?_;iterate 2 refine Grow.stepB ?_
 refine Grow.gO Bw6.out ?_;refine Grow.stepB ?_;refine Grow.gO Bx1.out ?_;refine Grow.stepC (Zf Zg) rfl ?_ ?_
 ·have Ι:=@G _ @afq;exact cq
 iterate 2 refine Grow.aK ?_
 iterate 2 refine Grow.stepB ?_
 refine Grow.gO Bw6.out ?_;refine Grow.stepB ?_;refine Grow.stepC (Zf Zg) rfl ?_ ?_
 ·have Ι:=@G _ @afp;exact cq
 iterate 2 refine Grow.aK ?_
 refine Grow.stepB ?_;refine Grow.gO Bx1.out ?_;refine Grow.stepB ?_;refine Grow.step (CoP 7) rfl (CoP.mono 7) ?_ ?_
 ·have Ι:=@G _ @afo;exact cq
 refine Grow.stepC (V O 7) rfl ?_ ?_
 ·have Ι:=@G _ @afn;exact cq
 refine Grow.stepB ?_;iterate 2 refine Grow.aK ?_
 refine Grow.stepB ?_;refine Grow.gO Bx1.out ?_;refine Grow.step (LnF zs1.length) rfl (LnF.mono _) ?_ ?_
 ·have Ι:=@G _ @afm;exact cq
 refine Grow.stepC (V O zs1.length) rfl ?_ ?_
 ·have Ι:=@G _ @afl;exact cq
 refine Grow.gO Bc1.out ?_;refine Grow.step (LnF zs0.length) rfl (LnF.mono _) ?_ ?_
 ·have Ι:=@G _ @afk;exact cq
 refine Grow.stepC (V O zs0.length) rfl ?_ ?_
 ·have Ι:=@G _ @afj;exact cq
 refine Grow.stepC (V O zs1.length) rfl ?_ ?_
 ·have Ι:=@G _ @afi;exact cq
 refine Grow.stepB ?_;refine Grow.aK ?_;refine Grow.done ?_;intro q wz hW hf;simp only[YL] at hf;obtain⟨awd,-⟩:=hf;refine hK0 _ _ ?_;simp only[aL,YQ,Y0,Yr,Yx,Yy,awd];clear hK0;replace HB:=upB HB hW;replace μ:=G (μ.below hW);replace Bc1:=upK Bc1 hW;replace Κ:=G (Κ.below hW);replace Bx1:=upK Bx1 hW;replace Bw6:=upK Bw6 hW;clear hW;have hx1:c1.xs.length=l41:=by simpa using (show (c1.xs.map xdF).length=l41 from μ.x.1)
 have hg4:o1.c.xs.length=g1.l4:=by simpa using (show (o1.c.xs.map xdF).length=g1.l4 from Κ.x.1)
 have ZM:g1.l4=l41:=by rw[<-hg4,HBD.len,hx1]
 have hm4:l41<=9223372036854775807:=Yo μ.x.2.1 μ.x.2.2.1;have pk3:=ck3 Bc1;clear hg4 hx1;go_wp2_with fail;go_loopw [13] (λi wr=> ∃k:Nat,k<=l41/\i=V O k/\Hid (Below wz.heap.size wz wr)) (λi _=>l41 - (intOf i).toNat);case atStart=>exact⟨0,by omega,rfl,Yh _ _⟩
 case round=>
  obtain⟨k,hk,rfl,ZH⟩:=hrel;have Rc1:=upK Bc1 ZH.out;have Rx1:=upK Bx1 ZH.out;obtain⟨x0,x1,x2,x3,x4,x5,x6,x7⟩:=cs8 Rx1;have pk3:=ck3 Rc1;have hbk:=ae Rc1.out;have Zr:=ae Rx1.out;by_cases Zo:k<l41
  ·obtain⟨b,on,y,rfl,hb,hy,Zc⟩:=dB (μ.x.below ZH.out) Zo;obtain⟨b9,o9,z9,ha9,hb9,hz9,awy⟩:=dB (Κ.x.below ZH.out) (show k<g1.l4 by omega);obtain⟨-,-,-,c0,c1,c2,c3,c4⟩:=bD Zc;obtain⟨-,-,-,e0,e1,e2,e3,e4⟩:=bD awy;by_cases hn:y.n=t1
   ·have he:=aP hn;clear hn Zc awy hy hz9;go_wp2_with fail;have ZE:=Wd.ne wr;have g0:=λq:Wd wr=>q.slot (o:=3) Rc1.out rfl;have e0w:∀q:Wd wr,q.w.cell? ⟨b,on+k*5,J⟩=M (I y.n):=λq=>(q.cell hb).trans c0;exact ah4
   ·obtain rfl:=HBD.other hy hz9 hn;have he:=bu hn;have hqe:=λW=>aiK z9.n z9.z z9.k z9.x z9.v W;have hge:Tryz.prog.eqGuardType Tryz.prog.depth 47=Zg:=aW
    clear hn Zc awy hy hz9;go_wp2_with fail;have ZE:=Wd.ne wr;have g0:=λq:Wd wr=>q.slot (o:=3) Rc1.out rfl;have g1w:∀q:Wd wr,q.w.cell? ⟨bx1,3,J⟩=M (U (M ⟨b9,o9,J⟩) l41 g1.c4):=λq=>by have:=q.slot (o:=3) Rx1.out rfl;rw[<-ha9,<-ZM];exact this
    have e0w:∀q:Wd wr,q.w.cell? ⟨b,on+k*5,J⟩=M (I z9.n):=λq=>(q.cell hb).trans c0;have e1w:∀q:Wd wr,q.w.cell? ⟨b,on+k*5+1,J⟩=M (V O z9.z):=λq=>(q.cell hb).trans c1;have e2w:∀q:Wd wr,q.w.cell? ⟨b,on+k*5+2,J⟩=M (I z9.k):=λq=>(q.cell hb).trans c2;have e3w:∀q:Wd wr,q.w.cell? ⟨b,on+k*5+3,J⟩=M (Zf z9.x):=λq=>(q.cell hb).trans c3;have e4w:∀q:Wd wr,q.w.cell? ⟨b,on+k*5+4,J⟩=M (I z9.v):=λq=>(q.cell hb).trans c4;have f0w:∀q:Wd wr,q.w.cell? ⟨b9,o9+k*5,J⟩=M (I z9.n):=λq=>(q.cell hb9).trans e0;have f1w:∀q:Wd wr,q.w.cell? ⟨b9,o9+k*5+1,J⟩=M (V O z9.z):=λq=>(q.cell hb9).trans e1;have f2w:∀q:Wd wr,q.w.cell? ⟨b9,o9+k*5+2,J⟩=M (I z9.k):=λq=>(q.cell hb9).trans e2;have f3w:∀q:Wd wr,q.w.cell? ⟨b9,o9+k*5+3,J⟩=M (Zf z9.x):=λq=>(q.cell hb9).trans e3;have f4w:∀q:Wd wr,q.w.cell? ⟨b9,o9+k*5+4,J⟩=M (I z9.v):=λq=>(q.cell hb9).trans e4;exact ah4
  ·obtain rfl:l41=k:=af
   go_wp2;go_ret;exact⟨rfl,HB.trans (ZH.mono HB.size)⟩):p:=h
theorem Hu(h:p:=by
 obtain⟨ZD,Ν,Zr⟩:=dK hb;obtain⟨Bk,Br⟩:=wX;replace HB:=upB HB Zr;clear hb Zr ZD Ν;rcases hf with ⟨i,p,hw,hpi,Ξ,rfl⟩|⟨j,n,hn,ξ,rfl⟩
 ·have HV:Hid (wh c t (co0 p)):=Zl ⟨i,hw,by rw[hpi]⟩;have hp1:(p==0)=Zg:=iZ
  clear hw hpi Ξ;have apo:=@G _ @UL;exact iK
 have atA:=@G _ @KK;exact tU):p:=h
theorem Hh(h:p:=by
 clear Zc hx z0 z2 z4;have an5:=@G _ @DG;exact eC):p:=h
theorem GJ(h:p:=by
 clear hf;have hwr:IntKind.i64.wrap (c.now+10)=c.now+10:=by rw[IntKind.wrap_i64];omega
 exact dE):p:=h
theorem F9(h:p:=by
 have HXy:=G hx;have HTy:=G Zx;have azu:=G z0;have azv:=G z2;have azw:=G z3;have azx:=G z5;clear Zc hx z0 z2 z3 z5 Zx;obtain rfl:y=v:=Yd (HXy.symm.trans HVV.out);have hz6:vl<=8001:=by have h1:=HTy.1;have h2:=HT.few HVV.out;omega
 obtain⟨k0,k1,k2,k3,k4,k5⟩:=cs6 Bk;have aor:=ae Bk.out;have axA:=ae Br.out;go_wp2_with fail;refine (Ap.alI y.n y.c y.z y.k y.x y.m y.y va vl vc y.zs _ HTy.out hz6).mono ?_;rintro e w4 ⟨a9,l9,c9,rfl,ho1,ho2,π⟩;clear hb c0 c1 c2 c3 c4 c5 c6 c7;clear k0 k1 k2 k3 k4 k5 aor;replace Bk:=upK Bk π;replace Br:=upK Br π;replace HB:=upB HB π;clear π;have HO:Hid (bG w4 a9 l9 c9 y.zs (λk=>w3.heap.size<=k)):=⟨ho1,ho2⟩;have HRL:=G axA;clear ho1 ho2 axA;obtain⟨r0,r1,r2,r3,r4,r5,r6,r7,r8⟩:=cs9 Br;have atK:=ae Br.out;obtain⟨ZR,ZS,ZT,ZU,ZV,ZY,Z1,Z2⟩:=dD;have fr8:=ak Br.out 8;go_wp2;refine bodyPost_ret (v:=Zj #[I y.n,V O y.c,I y.z,I y.k,Zf y.x,I y.m,Zf y.y,U a9 l9 c9,V O 0]) AH rfl ⟨_,_,_,⟨y,0⟩,rfl,HV.out,HO.ay (λk _ s=>ahw (by have s1:w3.heap.size<=k:=s;have:=HRL.out;omega)) (λk _ s=>by have s1:w3.heap.size<=k:=s;have:=HRL.out;show w.heap.size<=k;omega),sb1 (sb1 (sb1 (sb1 (sb1 (sb1 (sb1 (sb1 (sb1 (HB.out)))))))))⟩):p:=h
theorem F6(h:p:=by
 clear k0 k1 k2 k3 k4 k5 Α;have aot:=@G _ @U4;exact eN):p:=h
theorem FT(h:p:=by
 have Bn:=G ZD;replace HB:=upB HB Zr;clear hb Zr ZD;have asn:=@G _ @aff;exact qI):p:=h
theorem FG(h:p:=by
 obtain⟨r0,r1,r2,r3,r4,r5,r6,r7,r8⟩:=cs9 Br;have aog:=ae Br.out;obtain⟨ZR,ZS,ZT,ZU,ZV,ZY,Z1,Z2⟩:=dD;have fr8:=ak Br.out 8;go_wp2;refine bodyPost_ret (v:=Zj #[I ⟨#[]⟩,V O 0,I ⟨#[]⟩,I ⟨#[]⟩,Zf Zg,I ⟨#[]⟩,Zf Zg,U J 0 0,V O 6]) AH rfl ⟨_,_,_,⟨vZ0,6⟩,rfl,HV.out,pR _ _,sb1 (sb1 (sb1 (sb1 (sb1 (sb1 (sb1 (sb1 (sb1 (HB.out)))))))))⟩):p:=h
theorem FF(h:p:=by
 obtain⟨r0,r1,r2,r3,r4,r5,r6,r7,r8⟩:=cs9 Br;have aog:=ae Br.out;go_wp2_with fail;refine (Ap.amL v.n v.c v.z v.k v.x v.m v.y va vl vc v.zs _ (σ.below (HB.trans ((aj _ _).mono HB.size))) hz6).mono ?_;rintro e w3 ⟨a9,l9,c9,rfl,ho1,ho2,hb⟩;clear k0 k1 k2 k3 k4 k5 aoG r0 r1 r2 r3 r4 r5 r6 r7 r8 aog;obtain⟨ZD,Zr⟩:=aY hb;replace Bk:=upK Bk Zr;replace Br:=upK Br Zr;replace Bx:=upK Bx Zr;have Bv:=G ZD;replace HB:=upB HB Zr;clear hb Zr ZD;have azy:=ae Bv.out;have HO:Hid (bG w3 a9 l9 c9 v.zs (λk=>w2.heap.size+1<=k)):=⟨ho1,ho2.imp id λ⟨g,cur,e1,e2,e3⟩=>⟨g,cur,e1,by simpa using e2,e3⟩⟩;clear ho1 ho2;obtain⟨r0,r1,r2,r3,r4,r5,r6,r7,r8⟩:=cs9 Br;have atw:=ae Br.out;obtain⟨ZR,ZS,ZT,ZU,ZV,ZY,Z1,Z2⟩:=dD;have fr8:=ak Br.out 8;have hrl:=ae Br.out;have HRL:Hid (w.heap.size+1<=w2.heap.size):=ayW.out;go_wp2;refine bodyPost_ret (v:=Zj #[I v.n,V O v.c,I v.z,I v.k,Zf v.x,I v.m,Zf v.y,U a9 l9 c9,V O 0]) (by simp[results,Tryz.results7,go_sem, *]) rfl ⟨_,_,_,⟨v,0⟩,rfl,HV.out,HO.ay (λk _ s=>ahw (by have s1:w2.heap.size+1<=k:=s;have:=HRL.out;omega)) (λk _ s=>by have s1:w2.heap.size+1<=k:=s;have:=HRL.out;show w.heap.size<=k;omega),sb1 (sb1 (sb1 (sb1 (sb1 (sb1 (sb1 (sb1 (sb1 (HB.out)))))))))⟩):p:=h
theorem FE(h:p:=by
 obtain⟨r0,r1,r2,r3,r4,r5,r6,r7,r8⟩:=cs9 Br;have aoK:=@G _ @Xw;exact fv):p:=h
theorem Fx(h:p:=by
 clear hf;go_simp;refine (CZ c _ hn0 hn1).mono ?_;rintro e w6 ⟨rfl,ZA⟩;exact hK _ _ ZA rfl):p:=h
theorem Fl(h:p:=by
 obtain⟨ZD,Ν,Zr⟩:=dK hb;have Bk:=G ZD;have Be:=G Ν;replace HB:=upB HB Zr;clear hb Zr ZD Ν;have at4:=@G _ @Ja;exact tC):p:=h
theorem ET(h:p:=by
 have κ:=@G _ @afX;exact bI):p:=h
theorem D7(h:p:=by
 clear hr;have HB:=G (Yh w.heap.size w);go_enter Tryz.func41,Tryz.ntmps41;have aqx:=@G _ @Hu;exact m_):p:=h
theorem DV(h:p:=by
 obtain⟨h38,h37,h36,h35,h34,h33,h32,h31,h30,-⟩:=hf;have HWY:=upB HWW hW;have HBY:=upB ZH hW;have Bk2:=upK BkW hW;have Br2:=upK BrW hW;have Bn2:=upK BnW hW;have Bo2:=upK BoW hW;obtain⟨v9,hcz⟩:=(HST.below HWY.out).cell (i:=4) rfl;have hfz:=(HST.below HWY.out).oy (j*7+4);intro K hK;rw[if_pos cF];simp only[aL,YQ,Y0,Yr,Yx,Yy,h38,h37,h36,h35,h34,h33,h32,h31,h30];simp only[List.getLast];go_simp;refine hK _ _ ?_;refine hK0 _ _ ?_;clear hK hK0 K K0;have awz:=(HST.below HWY.out).BP (i:=4) rfl (cV c);have aoe:∀{a l cp m T rs},av w3 a l cp m T rs (λk=>w1.heap.size<=k/\¬k=w3.heap.size)->¬81=T->av (wy.setCell ⟨g,j*7+4,J⟩ (V O (cV c))) a l cp m T rs (λk=>w1.heap.size<=k/\¬k=w3.heap.size):=λh hT=>(h.dZ HGB.out hT ag).ay (λk hk s=>(Ya _ _ _ _ s.2).trans (HWY.block k hk)) (λ_ _ s=>s.1);have f2:=aoe HOC.1 ag;have f3:=aoe HOC.2.1 ag;have f4:=aoe HOC.2.2.1 ag;have f5:=aoe HOC.2.2.2 ag;have hk4:(wy.setCell ⟨g,j*7+4,J⟩ (V O (cV c))).heap[w.heap.size]?=_:=(Ya _ _ _ _ (show w.heap.size≠g by omega)).trans Bk2.out;have hr4:(wy.setCell ⟨g,j*7+4,J⟩ (V O (cV c))).heap[w.heap.size+1]?=_:=(Ya _ _ _ _ (show w.heap.size+1≠g by omega)).trans Br2.out;have hgn:¬w1.heap.size=g:=by have:=HG1.out;omega
 have hn4:(wy.setCell ⟨g,j*7+4,J⟩ (V O (cV c))).heap[w1.heap.size]?=_:=(Ya _ _ _ _ (show w1.heap.size≠g from hgn)).trans Bn2.out;have ho4:(wy.setCell ⟨g,j*7+4,J⟩ (V O (cV c))).heap[w3.heap.size]?=_:=(Ya _ _ _ _ (show w3.heap.size≠g by omega)).trans Bo2.out;have π:Below w.heap.size w (wy.setCell ⟨g,j*7+4,J⟩ (V O (cV c))):=ai (show w.heap.size<=g by omega) HBY.out;have hs4:(wy.setCell ⟨g,j*7+4,J⟩ (V O (cV c))).heap.size=wy.heap.size:=aF
 clear hcz hfz aoe;obtain⟨W4,hW4⟩:∃W4,W4=(wy.setCell ⟨g,j*7+4,J⟩ (V O (cV c))):=⟨_,rfl⟩;rw[<-hW4] at awz f2 f3 f4 f5 hk4 hr4 hn4 ho4 π hs4 ⊢;have at6:=G awz;have HF4:=G (Yb f2 (Yb f3 (Yb f4 f5)));have Bk4:=G hk4;have Br4:=G hr4;have Bn4:=G hn4;have Bo4:=G ho4;have HB4:=G π;have azz:=ae ho4;clear hW4 awz f2 f3 f4 f5 hk4 hr4 hn4 ho4 π hs4;obtain⟨k0,k1,k2,k3,k4,k5⟩:=cs6 Bk4;obtain⟨n0,n1',n2',n3',n4',n5',n6'⟩:=cs7 Bn4;obtain⟨o0,o1,o2,o3,o4,o5⟩:=cs6 Bo4;have ltn:=ae Bn4.out;by_cases hlv:c.now<n.u;rotate_left
 ·have HMN:Hid (Rw c n=[]):=if_neg hlv;have ayV:Hid (f=λ_=>1):=by
   show f=_;funext p;rcases HF.out p with ⟨_,h1,_⟩|⟨h1,_⟩
   ·exact absurd h1 hlv
   ·exact h1
  have ayX:n.u<=c.now:=af
  obtain⟨v6,hc6⟩:=at6.cell (i:=6) rfl;have hf6:=at6.oy (j*7+6);have aoS:¬w3.heap.size=g:=af
  go_wp2_with fail;clear k0 k1 k2 k3 k4 k5 n0 n1' n2' n3' n4' n5' n6' o0 o1 o2 o3 o4 o5 hc6 hf6;have at7:Hid (∃cur,W4.heap[g]?=M (Ze cur 81 (0,0))):=by obtain⟨⟨cur,H,h1,_⟩,_⟩:=at6.out;exact⟨cur,h1.blk⟩
  obtain⟨ayY,apW⟩:=at7.out;have at7:=G apW;clear apW;have HFX:=G HF4.out;have BrX:=Br4;have BoX:=Bo4;have HBX:=HB4;obtain⟨axw,H6,awu⟩:∃cur H,eI (W4.setCell ⟨g,j*7+6,J⟩ (U J 0 0)) g 7 81 ((c.ns.map ndF).set j (((ndF n).set 4 (.i (cV c))).set 6 (.l []))) (λk=>w1.heap.size<=k/\¬k=w3.heap.size) cur H:=by obtain⟨⟨cur,H,h1,_⟩,_⟩:=at6.alP (i:=6) rfl J 0 ag;exact⟨cur,H,h1⟩
  have hns:(c.ns.map ndF).set j (((ndF n).set 4 (.i (cV c))).set 6 (.l []))=(jD c t n f).raw.n:=by
   have avO:=@G _ @acR;exact zV
  have f1:av (W4.setCell ⟨g,j*7+6,J⟩ (U J 0 0)) (M ⟨g,0,J⟩) m1 n1 7 81 (jD c t n f).raw.n (λk=>w1.heap.size<=k/\¬k=w3.heap.size):=by
   exact Pj
  have aoe:∀{a l cp m T rs},av W4 a l cp m T rs (λk=>w1.heap.size<=k/\¬k=w3.heap.size)->¬81=T->av (W4.setCell ⟨g,j*7+6,J⟩ (U J 0 0)) a l cp m T rs (λk=>w1.heap.size<=k/\¬k=w3.heap.size):=λh hT=>(h.dZ at7.out hT ag).ay (λk hk s=>Ya _ _ _ _ s.2) (λ_ _ s=>s.1);have f2:=aoe HFX.1 ag;have f3:=aoe HFX.2.1 ag;have f4:=aoe HFX.2.2.1 ag;have f5:=aoe HFX.2.2.2 ag;have hr6:(W4.setCell ⟨g,j*7+6,J⟩ (U J 0 0)).heap[w.heap.size+1]?=_:=(Ya _ _ _ _ (show w.heap.size+1≠g by omega)).trans BrX.out;have ho6:(W4.setCell ⟨g,j*7+6,J⟩ (U J 0 0)).heap[w3.heap.size]?=_:=(Ya _ _ _ _ (show w3.heap.size≠g by omega)).trans BoX.out;have ZA:Below w.heap.size w (W4.setCell ⟨g,j*7+6,J⟩ (U J 0 0)):=ai (show w.heap.size<=g by omega) HBX.out;obtain⟨W6,hW6⟩:∃W6,W6=(W4.setCell ⟨g,j*7+6,J⟩ (U J 0 0)):=⟨_,rfl⟩;have at5:=@G _ @KT;exact tV
 have HMN:Hid (Rw c n=kV c n.n c.vs):=if_pos hlv;have HLV:=G hlv;have ayX:¬n.u<=c.now:=af
 go_wp2_with fail;have hg9:=CX ⟨(M ⟨b,o,J⟩),m1,y1,a2,l2,y2,a3,l3,y3,a4,l4,y4,a5,l5,y5⟩ c n ua ul uc W4 (HR.below HB4.out) HT.out (aN.ne (HT.2.1.1.2.1 _ n ZQ.2.2.1).1);rw[HD.out] at hg9;refine hg9.mono ?_;clear hg9;rintro e W5 ⟨sa,sl,sq,rfl,hto,ZI⟩;clear k0 k1 k2 k3 k4 k5 n0 n1' n2' n3' n4' n5' n6' o0 o1 o2 o3 o4 o5;have HTO:=G hto;have hsl:sl<=8:=by have h1:=hto.1.1;have h2:=Rx c n.n;have h3:(c.vs.length:Int)<=8:=HT.2.1.2.2.1.1;omega
 have auj:=G (at6.fresh ZI);have HFX:Hid _:=G (Yb (HF4.1.below ZI) (Yb (HF4.2.1.below ZI) (Yb (HF4.2.2.1.below ZI) (HF4.2.2.2.below ZI))));have BrX:=upK Br4 ZI;have BoX:=upK Bo4 ZI;have HBX:=upB HB4 ZI;obtain⟨ayY,apW⟩:∃cur,W5.heap[g]?=M (Ze cur 81 (0,0)):=by obtain⟨⟨cur,H,h1,_⟩,_⟩:=auj.out;exact⟨cur,h1.blk⟩
 have at7:=G apW;obtain⟨v6,hc6⟩:=auj.cell (i:=6) rfl;have hf6:=auj.oy (j*7+6);have aoS:¬w3.heap.size=g:=af
 obtain⟨o0,o1,o2,o3,o4,o5⟩:=cs6 BoX;clear ZI hto apW;go_wp2_with fail;clear o0 o1 o2 o3 o4 o5 hc6 hf6;obtain⟨axw,H6,awu⟩:∃cur H,eI (W5.setCell ⟨g,j*7+6,J⟩ (U sa sl sq)) g 7 81 ((c.ns.map ndF).set j (((ndF n).set 4 (.i (cV c))).set 6 (.l (kV c n.n c.vs)))) (λk=>w1.heap.size<=k/\¬k=w3.heap.size) cur H:=auj.ans (i:=6) rfl (HTO.out) (λk h1 h2=>⟨by omega,by omega⟩) af;have hns:(c.ns.map ndF).set j (((ndF n).set 4 (.i (cV c))).set 6 (.l (kV c n.n c.vs)))=(jD c t n f).raw.n:=by
  have avO:=@G _ @acQ;exact zV
 have f1:av (W5.setCell ⟨g,j*7+6,J⟩ (U sa sl sq)) (M ⟨g,0,J⟩) m1 n1 7 81 (jD c t n f).raw.n (λk=>w1.heap.size<=k/\¬k=w3.heap.size):=by
  exact Pj
 have aoe:∀{a l cp m T rs},av W5 a l cp m T rs (λk=>w1.heap.size<=k/\¬k=w3.heap.size)->¬81=T->av (W5.setCell ⟨g,j*7+6,J⟩ (U sa sl sq)) a l cp m T rs (λk=>w1.heap.size<=k/\¬k=w3.heap.size):=λh hT=>(h.dZ at7.out hT ag).ay (λk hk s=>Ya _ _ _ _ s.2) (λ_ _ s=>s.1);have f2:=aoe HFX.1 ag;have f3:=aoe HFX.2.1 ag;have f4:=aoe HFX.2.2.1 ag;have f5:=aoe HFX.2.2.2 ag;have hr6:(W5.setCell ⟨g,j*7+6,J⟩ (U sa sl sq)).heap[w.heap.size+1]?=_:=(Ya _ _ _ _ (show w.heap.size+1≠g by omega)).trans BrX.out;have ho6:(W5.setCell ⟨g,j*7+6,J⟩ (U sa sl sq)).heap[w3.heap.size]?=_:=(Ya _ _ _ _ (show w3.heap.size≠g by omega)).trans BoX.out;have ZA:Below w.heap.size w (W5.setCell ⟨g,j*7+6,J⟩ (U sa sl sq)):=ai (show w.heap.size<=g by omega) HBX.out;obtain⟨W6,hW6⟩:∃W6,W6=(W5.setCell ⟨g,j*7+6,J⟩ (U sa sl sq)):=⟨_,rfl⟩;have at5:=@G _ @KU;exact tV):p:=h
theorem DO(h:p:=by
 clear hi0;rcases hf with ⟨j,v,hv,ω,rfl⟩|⟨ε,rfl⟩;rotate_left
 ·have HV:Hid (gU c t ⟨vZ0,11⟩):=Zk (Zl ⟨hl,HT.out,HX.out,ε,rfl⟩);clear ε;obtain⟨k0,k1,k2,k3,k4,k5⟩:=cs6 Bk;have aor:=ae Bk.out;obtain⟨r0,r1,r2,r3,r4,r5,r6,r7,r8⟩:=cs9 Br;have atw:=ae Br.out;obtain⟨ZR,ZS,ZT,ZU,ZV,ZY,Z1,Z2⟩:=dD;have fr8:=ak Br.out 8;go_wp2;refine bodyPost_ret (v:=Zj #[I ⟨#[]⟩,V O 0,I ⟨#[]⟩,I ⟨#[]⟩,Zf Zg,I ⟨#[]⟩,Zf Zg,U J 0 0,V O 11]) AH rfl ⟨_,_,_,⟨vZ0,11⟩,rfl,HV.out,pR _ _,sb1 (sb1 (sb1 (sb1 (sb1 (sb1 (sb1 (sb1 (sb1 (HB.out)))))))))⟩
 have HV:Hid (gU c t ⟨v,0⟩):=Zk (Zk ⟨hl,HT.out,ω,rfl⟩);clear ω;have Zo:j<l3:=by have:=(Yc.1 hv).1;omega
 have hj0:¬(j:Int)<0:=af
 have HVV:=G hv;clear hv;obtain⟨b,o,y,rfl,hb,hx,Zc⟩:=bY (HR.v.below HB.out) Zo;have aoj:=@G _ @F9;exact fe):p:=h
theorem DH(h:p:=by
 go_wp2;go_ret;exact⟨_,_,_,_,rfl,Zl ⟨HT.out,rfl⟩,HTO.bC (λk _ s=>by have:w.heap.size+1<=k:=s;omega),HB.out⟩):p:=h
theorem DG(h:p:=by
 exact avU):p:=h
namespace Rc
theorem yJ(d:Ad) (c:Cl) (p:Pd) (pa:Option Addr) (pl pc:Nat) (j1:Nat) (n:Nd) (w:World) (hr:aA w d c.raw) (hn:aH Nd.n c.ns) (hx:aH Xd.n c.xs) (hv:aH Vd.n c.vs) (ZE:∀(j:Nat) v,c.vs[j]?=M v->¬v.n=⟨#[]⟩) (hp:aw w pa pl pc p.zs) (hj1:c.ns[j1]?=M n) (hnn:n.n=p.d) (ω:∀(j:Nat) t,p.zs[j]?=M t->∃v,aX c t v) (r:Bool) (h:r=Zi↔rG c p n):
  Calls Tryz.prog 115 #[Zj (Zs d c.now),Zj #[I p.n,V O p.c,I p.z,U pa pl pc,I p.d,V O p.p]] w λe w'=>e=Zh (Zf r)/\Below w.heap.size w w':=by
 unfold Zs;refine (mF d c p pa pl pc j1 n w hr hn hx hv ZE hp hj1 hnn ω).mono ?_;exact O8
def alz(a:Option Addr) (l cp:Nat) (t:ByteArray) (f:Pd->Int) (ps:List Pd) (S:Nat->Prop) (w:World) (e:Ending) (w':World):Prop:=(∃v,e=Zh v)/\av w' a l cp 6 102 ((ps.map (phF t f)).map pdF) S/\aJ (λk=>0<l/\a=M ⟨k,0,J⟩) w w'
theorem av.alO {wz:World} {l cp:Nat} (hO:av wr (M ⟨g,0,J⟩) l cp 6 102 (L.map pdF) S) (hb:Below wr.heap.size wr wz) (hx:L[k]?=M x) (v:Int):av (wz.setCell ⟨g,k*6+5,J⟩ (V O v)) (M ⟨g,0,J⟩) l cp 6 102 ((L.set k ⟨x.n,x.c,x.z,x.zs,x.d,v⟩).map pdF) S:=by
 have hLk:(L.map pdF)[k]?=M (pdF x):=by rw[Yt,hx];rfl
 obtain⟨g',e,hS⟩:=(hO.below hb).st (aJ.refl S wz) hLk;cases e;obtain⟨⟨aod,H2,h3,_⟩,_,_⟩:=hS.BP (i:=5) rfl v;rw[List.map_set];exact⟨by rw[List.length_set];exact hO.1,hO.2.1,hO.2.2.1,Zk ⟨g,aod,H2,rfl,h3⟩⟩
theorem av.atP {l cp:Nat} (hO:av wr (M ⟨g,0,J⟩) l cp 6 102 (L.map pdF) S) (hx:L[k]?=M x):g<wr.heap.size/\wr.frozen? ⟨g,k*6+5,J⟩=Zg:=by
 have hLk:(L.map pdF)[k]?=M (pdF x):=by rw[Yt,hx];rfl
 obtain⟨g',e,hS⟩:=hO.st (aJ.refl S wr) hLk;cases e;refine⟨?_,hS.oy _⟩;obtain⟨⟨cur,H,h1,_⟩,_⟩:=hS;exact ae h1.blk
theorem CV(b:Nat) (a1:Option Addr) (l1 y1:Nat) (a2:Option Addr) (l2 y2:Nat) (a3:Option Addr) (l3 y3:Nat) (a4:Option Addr) (l4 y4:Nat) (a5:Option Addr) (l5 y5:Nat) (now:Int) (t:ByteArray) (ns:List Nd) (ks:List Kd) (vs:List Vd) (xs:List Xd) (ps:List Pd) (m:Nd) (j1:Nat) (f:Pd->Int) (S Q:Nat->Prop) (w:World) (hb:w.heap[b]?=M (Ze #[U a1 l1 y1,U a2 l2 y2,U a3 l3 y3,U a4 l4 y4,U a5 l5 y5,V O now] 29 (0,0))) (ho:av w a5 l5 y5 6 102 (ps.map pdF) S) (hS:∀g,0<l5->a5=M ⟨g,0,J⟩->¬g=b) (q1:av w a1 l1 y1 7 81 (ns.map ndF) Q) (q2:av w a2 l2 y2 4 72 (ks.map kdF) Q) (q3:av w a3 l3 y3 8 37 (vs.map vdF) Q) (q4:av w a4 l4 y4 5 47 (xs.map xdF) Q) (rn:aH Nd.n ns) (rx:aH Xd.n xs) (rv:aH Vd.n vs) (ZE:∀(j:Nat) v,vs[j]?=M v->¬v.n=⟨#[]⟩) (hm:ns[j1]?=M m) (hmn:m.n=t) (ω:∀(k:Nat) p,ps[k]?=M p->p.d=t->∀(j:Nat) s,p.zs[j]?=M s->∃v,aX ⟨ns,ks,vs,xs,ps,now⟩ s v) (hf:∀(k:Nat) p,ps[k]?=M p->p.d=t->(f p=2/\rG ⟨ns,ks,vs,xs,ps,now⟩ p m)\/(f p=1/\¬rG ⟨ns,ks,vs,xs,ps,now⟩ p m)):
  Calls Tryz.prog 74 #[Zm (M ⟨b,0,J⟩),I t,Zf Zi] w (alz a5 l5 y5 t f ps S w):=by
 have hpl:ps.length=l5:=oQ
 have hlm:=Yo ho.2.1 ho.2.2.1;have Bc:=G hb;have ρ:=G ho;have HO0:Hid (av w a5 l5 y5 6 102 ((mpL (phF t f) ps 0).map pdF) S):=by show av _ _ _ _ _ _ _ _;rw[Rp];exact ho
 have HQ:=G (Yb q1 (Yb q2 (Yb q3 q4)));have HRI:=G (Yb rn (Yb rx (Yb rv ZE)));have HM:=G (Yb hm hmn);have HBD:=G ω;have HF:=G hf;have HSB:=G hS;clear hb ho q1 q2 q3 q4 rn rx rv ZE hm hmn ω hf hS;go_enter Tryz.func74,Tryz.ntmps74;go_wp2;go_loopw [6] (λvi wr=> ∃k:Nat,k<=l5/\vi=V O k/\Hid (av wr a5 l5 y5 6 102 ((mpL (phF t f) ps k).map pdF) S)/\Hid (aJ (λk=>0<l5/\a5=M ⟨k,0,J⟩) w wr)) (λvi _=>l5 - (intOf vi).toNat);case atStart=>exact⟨0,by omega,rfl,HO0,aJ.refl _ _⟩
 case round=>
  obtain⟨k,hk,rfl,HO,HK⟩:=hrel;clear HO0;have Bc2:=G ((HK.block _ (ae Bc.out) (λh=>HSB.out _ h.1 h.2 rfl)).trans Bc.out);by_cases Zo:k<l5
  ·obtain⟨x,hx0⟩:∃x,ps[k]?=M x:=⟨_,Yi af⟩;have HX0:=G hx0;have HXL:Hid ((mpL (phF t f) ps k)[k]?=M x):=(Rt af).trans hx0;have hLk:((mpL (phF t f) ps k).map pdF)[k]?=M (pdF x):=by rw[Yt,HXL.out];rfl
   obtain⟨g,hg,hS2⟩:=HO.st (aJ.refl S wr) hLk;subst hg;obtain⟨b2,o2,x2',hae,Z3,hx2,Zc⟩:=db HO.row Zo;cases hae;rw[HXL.out] at hx2;obtain rfl:=Yd hx2;obtain⟨pa,pq,pc,-,-,-,-,-,-,-,-,c4,c5⟩:=bK Zc;have hf5:=hS2.oy (k*6+5);have ayZ:=HSB.out g af rfl;have axB:¬b=g:=λe=>ayZ e.symm;rw[Yp] at c4 c5;have Ο:(k:Int)<l5:=af
   clear Zc hx2 hx0 hS2 hLk;obtain⟨k0,k1,k2,k3,k4,k5⟩:=cs6 Bc2;by_cases he:x.d=t;rotate_left
   ·have hq:=bu he;have HHE:=G he;clear he;go_wp2;refine⟨⟨k+1,by omega,by go_num,?_,HK.out⟩,by simp[intOf];omega⟩;show av _ _ _ _ _ _ _ _;rw[Rr HX0.out (alb HHE.out)];exact HO.out
   have hq:=aP he;have HHE:=G he;clear he;go_wp2_with fail;have hP1:=av.alO HO.out (Yh _ _) HXL.out 1;have hK1:aJ (λk=>0<l5/\(M ⟨g,0,J⟩:Option Addr)=M ⟨k,0,J⟩) w (wr.setCell ⟨g,k*6+5,J⟩ (V O 1)):=HK.set ⟨by omega,rfl⟩;have hB1:(wr.setCell ⟨g,k*6+5,J⟩ (V O 1)).heap[b]?=M (Ze (Zd a1 l1 y1 a2 l2 y2 a3 l3 y3 a4 l4 y4 (M ⟨g,0,J⟩) l5 y5 now) 29 (0,0)):=(Ya _ _ _ _ axB).trans Bc2.out;clear k0 k1 k2 k3 k4 k5 c4 c5 hf5;obtain⟨W,θ⟩:∃W,W=(wr.setCell ⟨g,k*6+5,J⟩ (V O 1)):=⟨_,rfl⟩;rw[<-θ] at hP1 hK1 hB1 ⊢;clear θ;have f1:=HQ.1.beside ρ.out hK1 ag;have f2:=HQ.2.1.beside ρ.out hK1 ag;have f3:=HQ.2.2.1.beside ρ.out hK1 ag;have f4:=HQ.2.2.2.beside ρ.out hK1 ag;have HCW:Hid (aA W ⟨a1,l1,y1,a2,l2,y2,a3,l3,y3,a4,l4,y4,M ⟨g,0,J⟩,l5,y5⟩ (⟨ns,ks,vs,xs,((mpL (phF t f) ps k).set k (⟨x.n,x.c,x.z,x.zs,x.d,1⟩:Pd)),now⟩:Cl).raw):=⟨f1.row,f2.row,f3.row,f4.row,hP1.row⟩;have HP1:=G hP1;have HK1:=G hK1;have Bc3:=G hB1;have hLx:((mpL (phF t f) ps k).set k (⟨x.n,x.c,x.z,x.zs,x.d,1⟩:Pd))[k]?=M (⟨x.n,x.c,x.z,x.zs,x.d,1⟩:Pd):=by rw[ew (Yc.1 HXL.out).1,if_pos rfl]
   have HLX:=G hLx;obtain⟨b2,o2,x3,hae,apd,hx3,Zc⟩:=db hP1.row Zo;cases hae;rw[hLx] at hx3;obtain rfl:=Yd hx3;obtain⟨pa,pq,pc,hpr,-,-,-,c0,c1,c2,c3,c4,c5⟩:=bK Zc;rw[Yp] at c0 c1 c2 c3 c4 c5;have HPR:=G hpr;clear f1 f2 f3 f4 hP1 hK1 hB1 hLx Zc hx3 hpr;rcases HF.out k x HX0.out HHE.out with ⟨hf1,hf2⟩|⟨hf1,hf2⟩
   ·have HFX:=G hf1;have HFA:=G hf2;clear hf1 hf2;obtain⟨k0,k1,k2,k3,k4,k5,p0,p1,p2,p3,p4,p5⟩:=ah0;have Zv:=G (λq:Wd W=>yJ ⟨a1,l1,y1,a2,l2,y2,a3,l3,y3,a4,l4,y4,M ⟨g,0,J⟩,l5,y5⟩ (⟨ns,ks,vs,xs,((mpL (phF t f) ps k).set k (⟨x.n,x.c,x.z,x.zs,x.d,1⟩:Pd)),now⟩:Cl) (⟨x.n,x.c,x.z,x.zs,x.d,1⟩:Pd) pa pq pc j1 m q.w (HCW.below q.b) HRI.1 HRI.2.1 HRI.2.2.1 HRI.2.2.2 (HPR.below q.b) HM.1 (HM.2.trans HHE.symm) (HBD.out k x HX0.out HHE.out) Zi (⟨λ_=>HFA.out,λ_=>rfl⟩));have avN:=@G _ @adw;exact Aj
   have HFX:=G hf1;have HFA:=G hf2;clear hf1 hf2;obtain⟨k0,k1,k2,k3,k4,k5,p0,p1,p2,p3,p4,p5⟩:=ah0;have Zv:=G (λq:Wd W=>yJ ⟨a1,l1,y1,a2,l2,y2,a3,l3,y3,a4,l4,y4,M ⟨g,0,J⟩,l5,y5⟩ (⟨ns,ks,vs,xs,((mpL (phF t f) ps k).set k (⟨x.n,x.c,x.z,x.zs,x.d,1⟩:Pd)),now⟩:Cl) (⟨x.n,x.c,x.z,x.zs,x.d,1⟩:Pd) pa pq pc j1 m q.w (HCW.below q.b) HRI.1 HRI.2.1 HRI.2.2.1 HRI.2.2.2 (HPR.below q.b) HM.1 (HM.2.trans HHE.symm) (HBD.out k x HX0.out HHE.out) Zg (⟨λh=>bJ,λh=>absurd h HFA.out⟩));have avN:=@G _ @adx;exact Aj
  have Ο:¬(k:Int)<l5:=af
  obtain⟨k0,k1,k2,k3,k4,k5⟩:=cs6 Bc2;go_wp2;have HO2:=HO;rw[agX af] at HO2;exact P9
theorem CZ(c:Cl) (w:World) (h0:0<=c.now) (h1:c.now<=1000000):
  Calls Tryz.prog 73 #[V O 1000000,V O (c.now+10)] w λe w'=>e=Zh (V O (cV c))/\Below w.heap.size w w':=by
 unfold cV;by_cases hl:c.now+10<1000000
 ·rw[if_pos hl];have hl2:¬1000000<c.now+10:=af
  exact xr
 ·rw[if_neg hl];by_cases he:c.now+10=1000000
  ·rw[he];exact xr
  ·have hl2:1000000<c.now+10:=af
   exact xr
theorem StJ.alP {N:Nat->Prop} {r:List Fv} (h:StJ g m T S N w wr rs j r) {i:Nat} {old:Fv} (hi:r[i]?=M old) (a:Option Addr) (q:Nat) (hq:q<=9223372036854775807):StJ g m T S N w (wr.setCell ⟨g,j*m+i,J⟩ (U a 0 q)) rs j (r.set i (.l [])):=by
 have aqV:=@G _ @aei;exact lZ
theorem StJ.ans {r:List Fv} (h:StJ g m T S (λk=>B<=k) w wr rs j r) {i:Nat} {old:Fv} (hi:r[i]?=M old) {a:Option Addr} {l q:Nat} {zs:List ByteArray} (ht:bG wr a l q zs (λk=>B<=k)) (hS:∀k,B<=k->k<wr.heap.size->S k) (hg:g<B):∃cur H,eI (wr.setCell ⟨g,j*m+i,J⟩ (U a l q)) g m T (rs.set j (r.set i (.l zs))) S cur H:=by
 obtain⟨⟨h1,h2,h3,h4,h5⟩,h6⟩:=ht;by_cases hz:zs=[]
 ·subst hz;obtain rfl:l=0:=h1.symm;obtain⟨⟨cur,H,h7,_⟩,_⟩:=h.alP hi a q h3;exact⟨cur,H,h7⟩
 ·obtain⟨gm,cur,rfl,hm,hb⟩:=h6.resolve_left hz;have hm1:=hm;have ZM:=ae hb;obtain⟨b,o,e,Zo,hc⟩:=h5.resolve_left hz;cases e;obtain⟨⟨aod,H,h7,_⟩,_⟩:=h.ant (b:=gm) hi zs (λ_=>hm1) ⟨_,l,q,rfl,h1,h2,h3,h4,Zk ⟨rfl,hS gm hm1 ZM,by omega,cur,hb,λk x hx=>by have h8:=hc k x hx;rw[Yp,al hb] at h8;exact h8⟩⟩;exact⟨aod,H,h7⟩
theorem aH.SB {nm:α->ByteArray} {xs:List α} {x y:α} (h:aH nm xs) (hx:xs[k]?=M x) (e:nm y=nm x):aH nm (xs.set k y):=by
 have hk:k<xs.length:=(Yc.1 hx).1;have key:∀(j:Nat) a,(xs.set k y)[j]?=M a->∃a',xs[j]?=M a'/\nm a=nm a':=λj a ha=>by
  rw[ew hk] at ha;split at ha
  ·rename_i e2;subst e2;obtain rfl:=Yd ha;exact⟨x,hx,e⟩
  ·exact⟨a,ha,rfl⟩
 intro j a b ha hb;obtain⟨a',h1,h2⟩:=key _ a ha;obtain⟨b',h3,h4⟩:=key _ b hb;rw[h2,h4];exact h j a' b' h1 h3
theorem kO(d:Ad) (c:Cl) (t:ByteArray) (w:World) (hr:aA w d c.raw):
  Calls Tryz.prog 41 #[Zj (Zs d c.now),I t] w (jw (wh c t) w):=by
 unfold Zs;obtain⟨a1,l1,y1,a2,l2,y2,a3,l3,y3,a4,l4,y4,a5,l5,y5⟩:=d;dsimp only;have apy:=@G _ @D7;exact jT
theorem iu:(Tryz.prog.info? 33).map (·.size)=M 8:=by kernel_rfl
def aiO(B:Nat) (w0:World) (p:Nat) (v:Value) (len:Nat) (c:Cl) (w:World) (e:Ending) (w':World):Prop:=∃(g:Ad) (o:Co),e=Zh (Zj #[U g.a1 g.l1 g.c1,U g.a2 g.l2 g.c2,U g.a3 g.l3 g.c3,U g.a4 g.l4 g.c4,U g.a5 g.l5 g.c5,V O o.c.now,I o.n,V O o.p])/\(o.p=0->Gd c o.c)/\aA w' g o.c.raw/\Low w.heap.size w' g/\Dr B w0 p v len w w'
theorem eight {c0 c1 c2 c3 c4 c5 c6 c7 v0 v1 v2 v3 v4 v5 v6 v7:Value} (h:w.heap[q]?=M (Ze #[c0,c1,c2,c3,c4,c5,c6,c7] T (0,0))):((((((((w.setCell ⟨q,0,J⟩ v0).setCell ⟨q,1,J⟩ v1).setCell ⟨q,2,J⟩ v2).setCell ⟨q,3,J⟩ v3).setCell ⟨q,4,J⟩ v4).setCell ⟨q,5,J⟩ v5).setCell ⟨q,6,J⟩ v6).setCell ⟨q,7,J⟩ v7)=w.setRow q #[v0,v1,v2,v3,v4,v5,v6,v7]:=by
 unfold YV World.setRow;simp only[World.mk.injEq,and_true];apply Array.ext_getElem?;intro k;simp only[Array.getElem?_modify];by_cases e:q=k
 ·subst e;simp[h]
 ·simp[e]
theorem Dr.row {p:Nat} {len:Nat} {wa:World} (h:Dr B w0 p v len wa w) {q:Nat} (cs:Array Value) (hq:wa.heap.size<=q):Dr B w0 p v len wa (w.setRow q cs):=by
 have hl:=h.lt;have hB:=h.src.1;have hg:w.grownBy (w.setRow q cs) (M q):=⟨rfl,rfl,rfl,by simp,λk _ hn=>setRow_other _ _ _ _ (λe=>hn (by rw[e]))⟩;exact⟨h.src.ay hg (λe=>by simp at e;omega) (λk hk=>by simp at hk;omega),pF h.gr hg (λk hk=>by simp at hk;omega),h.lt⟩
theorem mA {p:Nat} {len:Nat} {w9:World} {g:Ad} {o:Co} (hd:Dr B w0 p v len w w9) {X:Nat} (ho:kF X w9 g o.c.raw) (hX:w.heap.size<=X) (hb:w9.heap[q]?=M (Ze #[U J 0 0,U J 0 0,U J 0 0,U J 0 0,U J 0 0,V O 0,I ⟨#[]⟩,V O 0] 33 (0,0))) (hq:w.heap.size<=q) (hn:o.n.size<=9223372036854775807) (hi:o.p=0->Gd c o.c):
  aiO B w0 p v len c w (Zh (Zj #[U g.a1 g.l1 g.c1,U g.a2 g.l2 g.c2,U g.a3 g.l3 g.c3,U g.a4 g.l4 g.c4,U g.a5 g.l5 g.c5,V O o.c.now,I o.n,V O o.p])) (w9.setRow q #[U g.a1 g.l1 g.c1,U g.a2 g.l2 g.c2,U g.a3 g.l3 g.c3,U g.a4 g.l4 g.c4,U g.a5 g.l5 g.c5,V O o.c.now,I o.n,V O o.p]):=by
 obtain⟨c',hl,hr⟩:=ho.row.res (p:=q) (w':=w9.setRow q #[U g.a1 g.l1 g.c1,U g.a2 g.l2 g.c2,U g.a3 g.l3 g.c3,U g.a4 g.l4 g.c4,U g.a5 g.l5 g.c5,V O o.c.now,I o.n,V O o.p]) ⟨⟨rfl,rfl,rfl,by simp,λk _ hn=>setRow_other _ _ _ _ hn⟩,λi x h=>by
  rw[al hb i] at h
  rcases i with _|_|_|_|_|_|_|_|i
  all_goals first
   | exact⟨by omega,λ_=>rfl⟩
   | (cases h;exact⟨by omega,λ⟨_,e⟩=>by cases e⟩)
   | (simp at h),o.n,al (setRow_heap _ q _ #[U g.a1 g.l1 g.c1,U g.a2 g.l2 g.c2,U g.a3 g.l3 g.c3,U g.a4 g.l4 g.c4,U g.a5 g.l5 g.c5,V O o.c.now,I o.n,V O o.p] _ _ hb) 6,hn⟩
 have e:=hl.2.2.2.2.2;exact⟨g,⟨c',o.n,o.p⟩,by rw[<-e],λh=>⟨hl.1.trans (hi h).1,hl.2.1.trans (hi h).2⟩,hr,ho.low.to hX (λ_ u=>u.row),Rc.Dr.row hd _ hq⟩
theorem Cu {p:Nat} {len:Nat} (h:Src B w0 p v len w) (d:Ad) (c:Cl) (hr:aA w d c.raw):
  Calls Tryz.prog 42 #[Zm (M ⟨p,0,J⟩),Zj (Zs d c.now)] w (aiO B w0 p v len c w):=by
 unfold Zs;have HD:=G (Dr.start h);have HP:=G h.vt;have HN:=G (bO h);have HR:=G hr;clear h hr;go_enter Tryz.func42,Tryz.ntmps42;go_wp2_with fail;have HD0:=G ((HD.alloc (Ze (Zs d c.now) 29)).alloc (Ze #[U J 0 0,U J 0 0,U J 0 0,U J 0 0,U J 0 0,V O 0,I ⟨#[]⟩,V O 0] 33));have Bk:Hid (((w.alloc (Ze (Zs d c.now) 29)).alloc (Ze #[U J 0 0,U J 0 0,U J 0 0,U J 0 0,U J 0 0,V O 0,I ⟨#[]⟩,V O 0] 33)).heap[w.heap.size]?=M (Ze (Zs d c.now) 29 (0,0))):=du _ _ _;have Br:Hid (((w.alloc (Ze (Zs d c.now) 29)).alloc (Ze #[U J 0 0,U J 0 0,U J 0 0,U J 0 0,U J 0 0,V O 0,I ⟨#[]⟩,V O 0] 33)).heap[w.heap.size+1]?=M (Ze #[U J 0 0,U J 0 0,U J 0 0,U J 0 0,U J 0 0,V O 0,I ⟨#[]⟩,V O 0] 33 (0,0))):=heap_alloc2_new _ _ _;go_wp2_with fail;refine (cf HD0.src [⟨#[110,49]⟩,⟨#[110,50]⟩,⟨#[110,51]⟩] 3 _ _ aF rfl ag ag ag).mono ?_;rintro e w1 ⟨tn,rfl,htn,hs,hg⟩;have HD1:=G (HD0.next hs hg);replace Bk:=G (gk hg ei Bk.out);replace Br:=G (gk hg ei Br.out);clear hs hg;go_wp2_with fail;refine (cf HD1.src [⟨#[112,49]⟩,⟨#[112,50]⟩,⟨#[112,51]⟩,⟨#[112,52]⟩] 4 _ _ aF rfl ag ag ag).mono ?_;rintro e w2 ⟨tp,rfl,htp,hs,hg⟩;have HD2:=G (HD1.next hs hg);replace Bk:=G (gk hg ei Bk.out);replace Br:=G (gk hg ei Br.out);clear hs hg;go_wp2_with fail;refine (cf HD2.src [⟨#[99,49]⟩,⟨#[99,50]⟩,⟨#[99,51]⟩,⟨#[99,52]⟩] 4 _ _ aF rfl ag ag ag).mono ?_;rintro e w3 ⟨tc,rfl,htc,hs,hg⟩;have HD3:=G (HD2.next hs hg);replace Bk:=G (gk hg ei Bk.out);replace Br:=G (gk hg ei Br.out);clear hs hg;go_wp2_with fail;refine (HD3.src.n 22 ag).mono ?_;rintro e w4 ⟨r,rfl,ra,rb,hs,hg⟩;have HD4:=G (HD3.next hs hg);replace Bk:=G (gk hg ei Bk.out);replace Br:=G (gk hg ei Br.out);clear hs hg;replace HR:=G (HR.bN HN.out (aS HD4.gr));have hlr:=ae Br.out;have HLR:=G hlr;obtain⟨k0,k1,k2,k3,k4,k5⟩:=cs6 Bk;have ltk:=ae Bk.out;rcases (by omega:r=0\/r=1\/r=2\/r=3\/r=4\/r=5\/r=6\/r=7\/r=8\/r=9\/r=10\/r=11\/r=12\/r=13\/r=14\/r=15\/r=16\/r=17\/r=18\/r=19\/r=20\/r=21) with rfl|rfl|rfl|rfl|rfl|rfl|rfl|rfl|rfl|rfl|rfl|rfl|rfl|rfl|rfl|rfl|rfl|rfl|rfl|rfl|rfl|rfl
 ·have HDW:=HD4;have BkW:=Bk;have BrW:=Br;have HRW:=HR;go_wp2_with fail;go_region_with (first
   | (go_at_call 77;refine (Su (cC HDW.src)).mono ?_;rintro e w5 ⟨n1,c1,z1,j1,x1,m1,y1,a1,l1,cp1,zs1,rfl,hn1,η,Ο,hm1,htx,-,hd⟩;have Zq:=hd.src;have Ζ:=hd.gr;have HD5:=G (Dk.Dr.next (w:=w4.drew) (ky HDW.out) Zq Ζ);have HR5:=G (aA.bN (w:=w4.drew) (HRW.below (ba _)) (bO (cC HDW.src)) (aS Ζ));have gk5:=gk Ζ ei (show w4.drew.heap[w.heap.size]?=_ from BkW.out);have gr5:=gk Ζ ei (show w4.drew.heap[w.heap.size+1]?=_ from BrW.out);have HG5:=G gr5;have kq0:=al gk5 0;have kq1:=al gk5 1;have kq2:=al gk5 2;have kq3:=al gk5 3;have kq4:=al gk5 4;have kq5:=al gk5 5;have aui:=ae gk5;clear gk5 gr5)
   | (go_at_call 76;refine ((Da d c ⟨n1,c1,z1,j1,x1,m1,y1,zs1⟩ a1 l1 cp1 _ HR5.out htx (by show n1.size<=_;omega) (by show z1.size<=_;omega) (by show j1.size<=_;omega) (by show m1.size<=_;omega)).mono λ_ _ h=>h.l).mono ?_;rintro e w9 ⟨g,o,rfl,hI,ho,hb⟩;have ι:=upK HG5 hb;obtain⟨r0,r1,r2,r3,r4,r5,r6,r7⟩:=cs8 ι;have hrl:=ae ι.out;have ZR:=ak ι.out 0;have ZS:=ak ι.out 1;have ZT:=ak ι.out 2;have ZU:=ak ι.out 3;have ZV:=ak ι.out 4;have ZY:=ak ι.out 5;have Z1:=ak ι.out 6;have Z2:=ak ι.out 7))
  all_goals (
   rw[eight ι.out];have HO:=G ho;have HD9:=G (HD5.below hb);have HI:=G hI;have H12:=G (setRow_heap _ (w.heap.size+1) _ #[U g.a1 g.l1 g.c1,U g.a2 g.l2 g.c2,U g.a3 g.l3 g.c3,U g.a4 g.l4 g.c4,U g.a5 g.l5 g.c5,V O o.c.now,I o.n,V O o.p] _ _ ι.out);clear hI ho hb k0 k1 k2 k3 k4 k5 ltk r0 ZR r1 ZS r2 ZT r3 ZU r4 ZV r5 ZY r6 Z1 r7 Z2;go_wp2_with fail
   exact bodyPost_ret (v:=Zj #[U g.a1 g.l1 g.c1,U g.a2 g.l2 g.c2,U g.a3 g.l3 g.c3,U g.a4 g.l4 g.c4,U g.a5 g.l5 g.c5,V O o.c.now,I o.n,V O o.p]) (results_cell_row rfl _ _ (w.heap.size+1) _ _ _ _ rfl H12.out Tryz.underlying33 rfl iu) rfl (mA HD9.out HO.out HD5.size ι.out af HI.nm (λh=>HI.gd h)))
 ·exact akE
 ·exact akE
 ·exact akE
 ·exact akF
 ·exact akF
 ·exact akF
 ·go_wp2_with fail;refine (BU d c tp _ HR.out).mono ?_;exact oq
 ·go_wp2_with fail;refine (BS d c tc _ HR.out).mono ?_;exact oq
 ·have HDW:=G (HD4.alloc (Ze #[I ⟨#[100,49]⟩,I ⟨#[100,50]⟩,I ⟨#[118,95,99,49]⟩] 9));have BkW:Hid ((w4.alloc (Ze #[I ⟨#[100,49]⟩,I ⟨#[100,50]⟩,I ⟨#[118,95,99,49]⟩] 9)).heap[w.heap.size]?=M (Ze (Zs d c.now) 29 (0,0))):=(Yj _ _ _ (ae Bk.out)).trans Bk.out;have BrW:Hid ((w4.alloc (Ze #[I ⟨#[100,49]⟩,I ⟨#[100,50]⟩,I ⟨#[118,95,99,49]⟩] 9)).heap[w.heap.size+1]?=M (Ze #[U J 0 0,U J 0 0,U J 0 0,U J 0 0,U J 0 0,V O 0,I ⟨#[]⟩,V O 0] 33 (0,0))):=(Yj _ _ _ (ae Br.out)).trans Br.out;have HRW:=G (HR.below (aj w4 (Ze #[I ⟨#[100,49]⟩,I ⟨#[100,50]⟩,I ⟨#[118,95,99,49]⟩] 9)));go_wp2_with fail;go_region_with (first
   | (go_at_call 20;refine (eE (cC HDW.src) w4.heap.size 3 [⟨#[100,49]⟩,⟨#[100,50]⟩,⟨#[118,95,99,49]⟩] _ (show (w4.alloc _).heap[w4.heap.size]?=_ from Yf) (by have:=HD4.src.vt;omega) rfl ag ag ag).mono ?_;rintro e w5 ⟨tv,rfl,htv,Zq,Ζ⟩;have HD5:=G (Dk.Dr.next (w:=(w4.alloc (Ze #[I ⟨#[100,49]⟩,I ⟨#[100,50]⟩,I ⟨#[118,95,99,49]⟩] 9)).drew) (ky HDW.out) Zq Ζ);have HR5:=G (aA.bN (w:=(w4.alloc (Ze #[I ⟨#[100,49]⟩,I ⟨#[100,50]⟩,I ⟨#[118,95,99,49]⟩] 9)).drew) (HRW.below (ba _)) (bO (cC HDW.src)) (aS Ζ));have gk5:=gk Ζ ei (show (w4.alloc (Ze #[I ⟨#[100,49]⟩,I ⟨#[100,50]⟩,I ⟨#[118,95,99,49]⟩] 9)).drew.heap[w.heap.size]?=_ from BkW.out);have gr5:=gk Ζ ei (show (w4.alloc (Ze #[I ⟨#[100,49]⟩,I ⟨#[100,50]⟩,I ⟨#[118,95,99,49]⟩] 9)).drew.heap[w.heap.size+1]?=_ from BrW.out);have HG5:=G gr5;have kq0:=al gk5 0;have kq1:=al gk5 1;have kq2:=al gk5 2;have kq3:=al gk5 3;have kq4:=al gk5 4;have kq5:=al gk5 5;have aui:=ae gk5;clear gk5 gr5)
   | (go_at_call 84;refine (BT d c tv _ HR5.out).mono ?_;rintro e w9 ⟨g,o,rfl,hI,ho,hb⟩;have ι:=upK HG5 hb;obtain⟨r0,r1,r2,r3,r4,r5,r6,r7⟩:=cs8 ι;have hrl:=ae ι.out;have ZR:=ak ι.out 0;have ZS:=ak ι.out 1;have ZT:=ak ι.out 2;have ZU:=ak ι.out 3;have ZV:=ak ι.out 4;have ZY:=ak ι.out 5;have Z1:=ak ι.out 6;have Z2:=ak ι.out 7))
  all_goals (
   rw[eight ι.out];have HO:=G ho;have HD9:=G (HD5.below hb);have HI:=G hI;have H12:=G (setRow_heap _ (w.heap.size+1) _ #[U g.a1 g.l1 g.c1,U g.a2 g.l2 g.c2,U g.a3 g.l3 g.c3,U g.a4 g.l4 g.c4,U g.a5 g.l5 g.c5,V O o.c.now,I o.n,V O o.p] _ _ ι.out);clear hI ho hb k0 k1 k2 k3 k4 k5 ltk r0 ZR r1 ZS r2 ZT r3 ZU r4 ZV r5 ZY r6 Z1 r7 Z2;go_wp2_with fail
   exact bodyPost_ret (v:=Zj #[U g.a1 g.l1 g.c1,U g.a2 g.l2 g.c2,U g.a3 g.l3 g.c3,U g.a4 g.l4 g.c4,U g.a5 g.l5 g.c5,V O o.c.now,I o.n,V O o.p]) (results_cell_row rfl _ _ (w.heap.size+1) _ _ _ _ rfl H12.out Tryz.underlying33 rfl iu) rfl (mA HD9.out HO.out HD5.size ι.out af HI.nm (λh=>HI.gd h)))
 ·go_wp2_with fail;refine (kN d c tc _ HR.out).mono ?_;exact oq
 ·go_wp2_with fail;refine (kN d c tc _ HR.out).mono ?_;exact oq
 ·exact xb
 ·exact xb
 ·exact xb
 ·go_wp2_with fail;refine (BO d c tp _ HR.out).mono ?_;exact oq
 ·go_wp2_with fail;refine (yI d c _ HR.out).mono ?_;exact oq
 ·go_wp2_with fail;refine (yI d c _ HR.out).mono ?_;exact oq
 ·go_wp2_with fail;refine (kO d c tn _ HR.out).mono ?_;exact oq
 ·go_wp2_with fail;refine (kO d c tn _ HR.out).mono ?_;exact oq
 ·go_wp2_with fail;refine (cJ HD4.src 3 ag).mono ?_;rintro e w5 ⟨he,hs,hg⟩;have HD5:=G (HD4.next hs hg);replace HR:=G (HR.bN (bO HD4.src) (aS hg));replace Bk:=G (gk hg ei Bk.out);replace Br:=G (gk hg ei Br.out);clear hs hg k0 k1 k2 k3 k4 k5 ltk;obtain⟨k0,k1,k2,k3,k4,k5⟩:=cs6 Bk;have ltk:=ae Bk.out;obtain⟨x5,rfl⟩:=ey he;clear he;cases x5
  ·go_wp2_with fail;refine (CP d c tn _ HR.out).mono ?_;exact aiA
  ·go_wp2_with fail;refine (C4 d c tn _ HR.out).mono ?_;exact aiA
 ·have HDW:=HD4;have BkW:=Bk;have BrW:=Br;have HRW:=HR;go_wp2_with fail;go_region_with (first
   | (go_at_call 19;refine ((cC HDW.src).n 12 ag).mono ?_;rintro e w5 ⟨m5,rfl,ma,mb,Zq,Ζ⟩;have HD5:=G (Dk.Dr.next (w:=w4.drew) (ky HDW.out) Zq Ζ);have HR5:=G (aA.bN (w:=w4.drew) (HRW.below (ba _)) (bO (cC HDW.src)) (aS Ζ));have gk5:=gk Ζ ei (show w4.drew.heap[w.heap.size]?=_ from BkW.out);have gr5:=gk Ζ ei (show w4.drew.heap[w.heap.size+1]?=_ from BrW.out);have HG5:=G gr5;have kq0:=al gk5 0;have kq1:=al gk5 1;have kq2:=al gk5 2;have kq3:=al gk5 3;have kq4:=al gk5 4;have kq5:=al gk5 5;have aui:=ae gk5;clear gk5 gr5)
   | (go_at_call 90;refine (CR d c m5 _ HR5.out).mono ?_;rintro e w9 ⟨g,o,rfl,hI,ho,hb⟩;have ι:=upK HG5 hb;obtain⟨r0,r1,r2,r3,r4,r5,r6,r7⟩:=cs8 ι;have hrl:=ae ι.out;have ZR:=ak ι.out 0;have ZS:=ak ι.out 1;have ZT:=ak ι.out 2;have ZU:=ak ι.out 3;have ZV:=ak ι.out 4;have ZY:=ak ι.out 5;have Z1:=ak ι.out 6;have Z2:=ak ι.out 7))
  all_goals (
   rw[eight ι.out];have HO:=G ho;have HD9:=G (HD5.below hb);have HI:=G hI;have H12:=G (setRow_heap _ (w.heap.size+1) _ #[U g.a1 g.l1 g.c1,U g.a2 g.l2 g.c2,U g.a3 g.l3 g.c3,U g.a4 g.l4 g.c4,U g.a5 g.l5 g.c5,V O o.c.now,I o.n,V O o.p] _ _ ι.out);clear hI ho hb k0 k1 k2 k3 k4 k5 ltk r0 ZR r1 ZS r2 ZT r3 ZU r4 ZV r5 ZY r6 Z1 r7 Z2;go_wp2_with fail
   exact bodyPost_ret (v:=Zj #[U g.a1 g.l1 g.c1,U g.a2 g.l2 g.c2,U g.a3 g.l3 g.c3,U g.a4 g.l4 g.c4,U g.a5 g.l5 g.c5,V O o.c.now,I o.n,V O o.p]) (results_cell_row rfl _ _ (w.heap.size+1) _ _ _ _ rfl H12.out Tryz.underlying33 rfl iu) rfl (mA HD9.out HO.out HD5.size ι.out af HI.nm (λh=>HI.gd h)))
theorem aV.tail {len:Nat} {r:List Fv} (h:aV w a len cap m (r ::rs)) (hc:1<=cap):aV w (a.map λx=>x.add (1*m)) (len - 1) (cap - 1) m rs:=by
 obtain⟨h1,h2,h3,h5⟩:=h;simp at h1;refine⟨by omega,by omega,by omega,?_⟩;rcases h5 with h5|⟨b,o,rfl,hl,hx⟩
 ·cases h5
 refine Zk ⟨b,o+1*m,by simp only[Option.map_some,Ym],hl,λj x hj=>?_⟩;have:=hx (j+1) x hj;rw[Nat.add_mul,Nat.add_comm (j*m),<-Nat.add_assoc] at this;exact this
theorem LoA.tail {len:Nat} (m:Nat) (h:LoA B w a len):LoA B w (a.map λx=>x.add (1*m)) (len - 1):=by
 rcases h with h|⟨b,o,rfl,h2⟩
 ·exact Zl af
 ·exact Zk ⟨b,o+1*m,by simp only[Option.map_some,Ym],h2⟩
theorem aiW(w:World) (t:ByteArray) (h:t.size<=100):aw (w.alloc (Ze #[I t] 9)) (M ⟨w.heap.size,0,J⟩) 1 1 [t]:=by
 refine⟨rfl,Ye _,by decide,λj x hj=>?_,Zk ⟨w.heap.size,0,rfl,by simp,λj x hj=>?_⟩⟩
 ·rcases j with _|j
  ·obtain rfl:t=x:=by simpa using hj
   omega
  ·simp at hj
 ·rcases j with _|j
  ·obtain rfl:t=x:=by simpa using hj
   exact al (show (w.alloc (Ze #[I t] 9)).heap[w.heap.size]?=_ from Yf) 0
  ·simp at hj
theorem UF.oy(h:UF w g) (i:Nat):w.frozen? ⟨g,i,J⟩=Zg:=by
 obtain⟨cs,T,h⟩:=h;exact ak h i
theorem UF.RS(h:UF w g):UF w.drew g:=h
theorem iW.RS {p:Nat} {len:Nat} {w1:World} {c':Cl} (h:iW B w0 p v len X b c w w1 d c'):iW B w0 p v len X b c w w1.drew d c':=
 ⟨h.blk,h.row.below (ba _),h.low.to (Ye _) (λ_ u=>u),cC h.src,h.kept.below (ba _),h.ld⟩
theorem yi {p:Nat} {len:Nat} (h:Src B w0 p v len w) (X b:Nat) (d:Ad) (c:Cl) (hr:aA w d c.raw) (hlo:Low X w d) (hb:w.heap[b]?=M (Ze #[U d.a1 d.l1 d.c1,U d.a2 d.l2 d.c2,U d.a3 d.l3 d.c3,U d.a4 d.l4 d.c4,U d.a5 d.l5 d.c5,V O c.now] 29 (0,0))) (hbp:¬b=p) (hBX:B<=X) (hXb:X<=b) (hn:2<=c.ns.length) (hk:1<=c.ks.length):
  Calls Tryz.prog 43 #[Zm (M ⟨p,0,J⟩),Zm (M ⟨b,0,J⟩)] w (λe w'=>e=Zh (Zn #[])/\∃d' c',iW B w0 p v len X b c w w' d' c'):=by
 have HS:=G (show iW B w0 p v len X b c w w d c from ⟨hb,hr,hlo,h,aJ.refl _ _,rfl⟩);have HN:=G hn;have HK:=G hk;have Bk:=G hb;have hpl:=h.vt;clear h hr hlo hb hn hk;obtain⟨a1,l1,y1,a2,l2,y2,a3,l3,y3,a4,l4,y4,a5,l5,y5⟩:=d;have hl1:c.ns.length=l1:=ahz
 have hl2:c.ks.length=l2:=by simpa using (show (c.ks.map kdF).length=l2 from HS.row.k.1)
 go_enter Tryz.func43,Tryz.ntmps43;go_wp2_with fail;refine (HS.src.n 6 ag).mono ?_;rintro e w1 ⟨r,rfl,ra,rb,hs,hg⟩;replace HS:=G (HS.draw hbp hs hg);replace Bk:=G HS.blk;replace hpl:=hs.vt;clear hs hg;rcases (by omega:r=0\/r=1\/r=2\/r=3\/r=4\/r=5) with rfl|rfl|rfl|rfl|rfl|rfl
 ·obtain⟨k0,k1,k2,k3,k4,k5⟩:=cs6 Bk;have ltk:=ae Bk.out;go_wp2_with fail;have HS2:=G (HS.alloc (Ze #[V O (-1),V O 1000000,V O 1000001] 2));have Bi:Hid ((w1.alloc (Ze #[V O (-1),V O 1000000,V O 1000001] 2)).heap[w1.heap.size]?=M (Ze #[V O (-1),V O 1000000,V O 1000001] 2 (0,0))):=Yf;refine (HS2.src.n 3 ag).mono ?_;rintro e w2 ⟨q,rfl,qa,qb,hs,hg⟩;have hbi:¬w1.heap.size=p:=af
  replace Bi:=G (gk hg hbi Bi.out);replace HS:=G (HS2.draw hbp hs hg);replace Bk:=G HS.blk;clear hs hg k0 k1 k2 k3 k4 k5 ltk;obtain⟨k0,k1,k2,k3,k4,k5⟩:=cs6 Bk;have ltk:=ae Bk.out;obtain⟨i0,i1,i2⟩:=cs3 Bi;have fk5:=ak Bk.out 5;have fin:∀m:Int,∃d' c',iW B w0 p v len X b c w (w2.setCell ⟨b,5,J⟩ (V O m)) d' c':=λm=>by
   have hg9:=bM w2 b 5 (V O m);refine⟨⟨a1,l1,y1,a2,l2,y2,a3,l3,y3,a4,l4,y4,a5,l5,y5⟩,⟨c.ns,c.ks,c.vs,c.xs,c.ps,m⟩,?_,?_,HS.low.to (Ye _) (λ_ q=>q.set),HS.src.ay hg9 (λe=>hbp (Yd e)) (λk e=>by have:=Yd e;omega),HS.kept.set (Zk hXb),rfl⟩
   ·rw[an (i:=5) Bk.out];rfl
   ·exact (HS.row.bN (c:=c) (cE Bk.out) (aS hg9):aA _ _ c.raw)
  rcases (by omega:q=0\/q=1\/q=2) with rfl|rfl|rfl;all_goals (
   go_wp2_with fail
   go_end0
   exact⟨rfl,fin _⟩)
 ·have hj:0<l1:=by have:=HN.out;omega
  obtain⟨g,o,x,rfl,ZM,-,Zc⟩:=dF HS.row.n hj;obtain⟨hXg,huf⟩:=HS.low.n.at rfl (by show 0<l1;omega);rw[Nat.zero_mul,Nat.add_zero] at Zc;obtain⟨va,vl,vc,-,-,-,c0,c1,c2,c3,c4,c5,c6⟩:=bo Zc;have aqZ:=@G _ @adh;exact lX
 ·have hj:1<l1:=by have:=HN.out;omega
  obtain⟨g,o,x,rfl,ZM,-,Zc⟩:=dF HS.row.n hj;obtain⟨hXg,huf⟩:=HS.low.n.at rfl (by show 0<l1;omega);obtain⟨va,vl,vc,-,-,-,c0,c1,c2,c3,c4,c5,c6⟩:=bo Zc;have aqZ:=@G _ @adg;exact lX
 ·by_cases hj:0<l4
  ·obtain⟨g,o,x,rfl,ZM,-,Zc⟩:=dB HS.row.x hj;obtain⟨hXg,huf⟩:=HS.low.x.at rfl (by show 0<l4;omega);rw[Nat.zero_mul,Nat.add_zero] at Zc;obtain⟨-,-,-,c0,c1,c2,c3,c4⟩:=bD Zc;have aqZ:=@G _ @adf;exact lX
  ·exact Ql
 ·by_cases hj:0<l5
  ·obtain⟨g,o,x,rfl,ZM,-,Zc⟩:=db HS.row.p hj;obtain⟨hXg,huf⟩:=HS.low.p.at rfl (by show 0<l5;omega);rw[Nat.zero_mul,Nat.add_zero] at Zc;obtain⟨va,vl,vc,-,-,-,-,c0,c1,cz,c3,c4,c5⟩:=bK Zc;have aqZ:=@G _ @ade;exact lX
  ·exact Ql
 ·obtain⟨k0,k1,k2,k3,k4,k5⟩:=cs6 Bk;have ltk:=ae Bk.out;have hg9:=λu=>bM w1 b 1 u;obtain⟨y,ys,hys⟩:∃y ys,c.ks=y ::ys:=by
   cases hq:c.ks with
   | nil=>have:=HK.out;rw[hq] at this;simp at this
   | cons y ys=>exact⟨y,ys,rfl⟩
  have hrk:aV w1 a2 l2 y2 4 (kdF y ::ys.map kdF):=by have h:=HS.row.k;rw[show c.raw.k=c.ks.map kdF from rfl,hys] at h;exact h
  have hcp:=hrk.2.1;have h1l:1<=l2:=by have:=HK.out;omega
  have fin:∀(a:Option Addr) (cp:Nat),aV w1 a (l2 - 1) cp 4 (ys.map kdF)->LoA X w1 a (l2 - 1)->∃d' c',iW B w0 p v len X b c w (w1.setCell ⟨b,1,J⟩ (U a (l2 - 1) cp)) d' c':=λa cp hr hl=>by
   have hp9:=HS.row.bN (c:=c) (cE Bk.out) (aS (hg9 (U a (l2 - 1) cp)));have hlo:=HS.low.to (B':=X) (w':=w1.setCell ⟨b,1,J⟩ (U a (l2 - 1) cp)) (Ye _) (λ_ q=>q.set);refine⟨⟨a1,l1,y1,a,l2 - 1,cp,a3,l3,y3,a4,l4,y4,a5,l5,y5⟩,⟨c.ns,ys,c.vs,c.xs,c.ps,c.now⟩,?_,⟨hp9.n,hr.bN (cD (λx=>⟨x.n,rfl⟩) ys) (cE Bk.out) (aS (hg9 _)),hp9.v,hp9.x,hp9.p⟩,⟨hlo.n,hl.to (Ye _) (λ_ q=>q.set),hlo.v,hlo.x,hlo.p⟩,HS.src.ay (hg9 _) (λe=>hbp (Yd e)) (λk e=>by have:=Yd e;omega),HS.kept.set (Zk hXb),rfl⟩;rw[an (i:=1) Bk.out];rfl
  have fk1:=ak Bk.out 1;by_cases hy:y2=1
  ·subst hy;have azA:l2=1:=af
   go_wp2_with fail;go_end0;have hy0:ys=[]:=by have:=hrk.1;simp at this;exact List.length_eq_zero_iff.1 af
   have h20:l2 - 1=0:=af
   rw[h20] at fin;exact⟨rfl,fin a2 0 (by rw[hy0];exact aV.nil _ _ _ ag) (Zl rfl)⟩
  ·go_wp2_with fail;go_end0;exact⟨rfl,fin _ _ (hrk.tail af) (HS.low.k.tail 4)⟩
def bN1:ByteArray:=⟨#[110,49]⟩
def bN2:ByteArray:=⟨#[110,50]⟩
def bN3:ByteArray:=⟨#[110,51]⟩
def RZ:ByteArray:=⟨#[101,97,115,116]⟩
def amT:ByteArray:=⟨#[119,101,115,116]⟩
def amV:ByteArray:=⟨#[102,97,115,116]⟩
def amU:ByteArray:=⟨#[115,108,111,119]⟩
def bE:ByteArray:=⟨#[]⟩
def lC:Cl:=⟨[⟨bN1,RZ,2000,3,0,Zg,[]⟩,⟨bN2,RZ,1500,2,0,Zg,[]⟩,⟨bN3,amT,2000,2,0,Zg,[]⟩],[⟨amV,Zg,Zg,RZ⟩,⟨amU,Zi,Zi,bE⟩],[],[],[],0⟩
theorem wC(w:World):Calls Tryz.prog 40 #[] w λe w'=> ∃d,e=Zh (Zj #[U d.a1 d.l1 d.c1,U d.a2 d.l2 d.c2,U d.a3 d.l3 d.c3,U d.a4 d.l4 d.c4,U d.a5 d.l5 d.c5,V O 0])/\eL w' d lC.raw (λk=>w.heap.size<=k)/\Below w.heap.size w w':=by
 go_enter Tryz.func40,Tryz.ntmps40;go_wp2;refine bodyPost_ret (v:=Zj #[U (M ⟨w.heap.size+1,0,J⟩) 3 3,U (M ⟨w.heap.size+1+1,0,J⟩) 2 2,U J 0 0,U J 0 0,U J 0 0,V O 0]) (by simp[results,Tryz.results40,go_sem]) rfl ⟨⟨M ⟨w.heap.size+1,0,J⟩,3,3,M ⟨w.heap.size+1+1,0,J⟩,2,2,J,0,0,J,0,0,J,0,0⟩,rfl,⟨λk=>if k=w.heap.size+1 then 1 else 2,?_,?_,?_,?_,?_⟩,cO _ _ _ _⟩
 ·refine⟨rfl,Ye _,show (3:Nat)<=9223372036854775807 by omega,Zk ⟨w.heap.size+1,_,λ_ _=>0,rfl,ko _ _ _ _,⟨by omega,if_pos rfl⟩,?_,?_,?_⟩⟩
  ·intro j r hj;rcases j with _|_|_|j <;> first|(cases hj;rfl)|(simp[lC,Cl.raw] at hj)
  ·intro j r hj i f hi;rcases j with _|_|_|j <;> first|cases hj|(simp[lC,Cl.raw] at hj;done)
   all_goals
    rcases i with _|_|_|_|_|_|_|i <;> first|cases hi|(simp[ndF] at hi;done)
   all_goals first|exact⟨_,rfl,rfl,by decide⟩|exact⟨_,rfl,rfl⟩|exact⟨_,rfl,J,0,0,rfl,rfl,Ye _,by decide,λj x hx=>by simp at hx,Zl rfl⟩
  ·intro j r i zs j' r' i' ZB hj hi hz;exfalso;rcases j with _|_|_|j <;> first|cases hj|(simp[lC,Cl.raw] at hj;done)
   all_goals
    rcases i with _|_|_|_|_|_|_|i <;> first|(cases hi;done)|(cases hi;exact hz rfl)|(simp[ndF] at hi;done)
 ·refine⟨rfl,Ye _,show (2:Nat)<=9223372036854775807 by omega,Zk ⟨w.heap.size+1+1,_,λ_ _=>0,rfl,km _ _ _ _,⟨by omega,if_neg af⟩,?_,?_,?_⟩⟩
  ·intro j r hj;rcases j with _|_|j <;> first|(cases hj;rfl)|(simp[lC,Cl.raw] at hj)
  ·intro j r hj i f hi;rcases j with _|_|j <;> first|cases hj|(simp[lC,Cl.raw] at hj;done)
   all_goals
    rcases i with _|_|_|_|i <;> first|cases hi|(simp[kdF] at hi;done)
   all_goals first|exact⟨_,rfl,rfl,by decide⟩|exact⟨_,rfl,rfl⟩
  ·intro j r i zs j' r' i' ZB hj hi hz;exfalso;rcases j with _|_|j <;> first|cases hj|(simp[lC,Cl.raw] at hj;done)
   all_goals
    rcases i with _|_|_|_|i <;> first|(cases hi;done)|(simp[kdF] at hi;done)
 ·exact xo
 ·exact xo
 ·exact xo
structure CS (B:Nat) (w0:World) (p:Nat) (v:Value) (len:Nat) (wa wx:World) (bc:Nat) (d:Ad) (c:Cl):Prop where
 blk:wx.heap[bc]?=M (Ze (Zs d c.now) 29 (0,0))
 res:wx.heap[wa.heap.size]?=M (Ze (Zd J 0 0 J 0 0 J 0 0 J 0 0 J 0 0 0) 29 (0,0))
 lt:wa.heap.size<bc
 row:aA wx d c.raw
 low:Low wa.heap.size wx d
 dr:Dr B w0 p v len wa wx
 ns:c.ns.length=3
 ks:c.ks.length=2
section
variable {B:Nat} {w0:World} {p:Nat} {v:Value} {len:Nat} {wa wx w2:World} {bc:Nat} {d:Ad} {c:Cl}
theorem CS.bp(h:CS B w0 p v len wa wx bc d c):¬bc=p:=by have:=h.dr.lt;have:=h.lt;omega
theorem CS.below(h:CS B w0 p v len wa wx bc d c) (hb:Below wx.heap.size wx w2):CS B w0 p v len wa w2 bc d c:=
 ⟨(hb.block _ (ae h.blk)).trans h.blk,(hb.block _ (ae h.res)).trans h.res,h.lt,h.row.below hb,h.low.to (Ye _) (λ_ u=>u.below hb),h.dr.below hb,h.ns,h.ks⟩
theorem CS.draw(h:CS B w0 p v len wa wx bc d c) (hs:Src B w0 p v len w2) (hg:wx.grownBy w2 (M p)):CS B w0 p v len wa w2 bc d c:=
 ⟨gk hg h.bp h.blk,gk hg (by have:=h.dr.lt;omega) h.res,h.lt,h.row.bN (bO h.dr.src) (aS hg),h.low.to (Ye _) (λ_ u=>u.draw hs hg),h.dr.next hs hg,h.ns,h.ks⟩
theorem CS.put(h:CS B w0 p v len wa wx bc d c) {g:Ad} {c':Cl} (hr:aA wx g c'.raw) (hl:Low wa.heap.size wx g) (hn:c'.ns.length=3) (hk:c'.ks.length=2):
  CS B w0 p v len wa ((((((wx.setCell ⟨bc,0,J⟩ (U g.a1 g.l1 g.c1)).setCell ⟨bc,1,J⟩ (U g.a2 g.l2 g.c2)).setCell ⟨bc,2,J⟩ (U g.a3 g.l3 g.c3)).setCell ⟨bc,3,J⟩ (U g.a4 g.l4 g.c4)).setCell ⟨bc,4,J⟩ (U g.a5 g.l5 g.c5)).setCell ⟨bc,5,J⟩ (V O c'.now)) bc g c':=by
 have Zo:=h.lt;have hk9:=(((((aJ.refl (λk=>k=bc) wx).set (i:=0) (v:=U g.a1 g.l1 g.c1) rfl).set (i:=1) (v:=U g.a2 g.l2 g.c2) rfl).set (i:=2) (v:=U g.a3 g.l3 g.c3) rfl).set (i:=3) (v:=U g.a4 g.l4 g.c4) rfl).set (i:=4) (v:=U g.a5 g.l5 g.c5) rfl |>.set (i:=5) (v:=V O c'.now) rfl;have h6:=an (i:=5) (an (i:=4) (an (i:=3) (an (i:=2) (an (i:=1) (an (i:=0) h.blk (U g.a1 g.l1 g.c1)) (U g.a2 g.l2 g.c2)) (U g.a3 g.l3 g.c3)) (U g.a4 g.l4 g.c4)) (U g.a5 g.l5 g.c5)) (V O c'.now);have hle:=Nat.le_of_lt Zo;exact⟨h6,(hk9.block _ (ae h.res) af).trans h.res,Zo,hr.bN (cE h.blk) hk9,hl.to (Ye _) (λ_ u=>u.set.set.set.set.set.set),(((((h.dr.set _ hle).set _ hle).set _ hle).set _ hle).set _ hle).set _ hle,hn,hk⟩
end
def YS(B:Nat) (w0:World) (p:Nat) (v:Value) (len:Nat) (wa:World) (bc:Nat) (d:Ad) (c:Cl) (s:Value) (wx:World):Prop:=∃(r:Nat) (g:Ad) (o:Co),s=Zm (M ⟨r,0,J⟩)/\CS B w0 p v len wa wx bc d c/\wx.heap[r]?=M (Ze #[U g.a1 g.l1 g.c1,U g.a2 g.l2 g.c2,U g.a3 g.l3 g.c3,U g.a4 g.l4 g.c4,U g.a5 g.l5 g.c5,V O o.c.now,I o.n,V O o.p] 33 (0,0))/\aA wx g o.c.raw/\Low wa.heap.size wx g/\(o.p=0->Gd c o.c)/\¬r=bc/\¬r=p
section
variable {B:Nat} {w0:World} {p:Nat} {v:Value} {len:Nat} {wa wr w9 W:World} {bc:Nat} {d g:Ad} {c:Cl} {o:Co} {X:Nat}
theorem aiR(hs:CS B w0 p v len wa wr bc d c) (hb:Below wr.heap.size wr w9) (ho:kF X w9 g o.c.raw) (hX:wa.heap.size<=X) (hg:o.p=0->Gd c o.c):YS B w0 p v len wa bc d c (Zm (M ⟨w9.heap.size,0,J⟩)) (w9.alloc (Ze #[U g.a1 g.l1 g.c1,U g.a2 g.l2 g.c2,U g.a3 g.l3 g.c3,U g.a4 g.l4 g.c4,U g.a5 g.l5 g.c5,V O o.c.now,I o.n,V O o.p] 33)):=by
 have h1:=ae hs.blk;have h2:=hb.size;have h3:=hs.dr.src.vt;exact⟨_,g,o,rfl,hs.below (hb.trans ((aj _ _).mono h2)),(Yf:(w9.alloc _).heap[w9.heap.size]?=_),ho.row.below (aj _ _),ho.low.to hX (λ_ u=>u.below (aj _ _)),hg,by omega,by omega⟩
theorem aiQ(hs:CS B w0 p v len wa wr bc d c) (hb:Below wr.heap.size wr w9) (hr:w9.heap[wr.heap.size]?=M (Ze #[U J 0 0,U J 0 0,U J 0 0,U J 0 0,U J 0 0,V O 0,I ⟨#[]⟩,V O 0] 33 (0,0))) (ho:kF X w9 g o.c.raw) (hX:wa.heap.size<=X) (hn:o.n.size<=9223372036854775807) (hg:o.p=0->Gd c o.c):YS B w0 p v len wa bc d c (Zm (M ⟨wr.heap.size,0,J⟩)) (w9.setRow wr.heap.size #[U g.a1 g.l1 g.c1,U g.a2 g.l2 g.c2,U g.a3 g.l3 g.c3,U g.a4 g.l4 g.c4,U g.a5 g.l5 g.c5,V O o.c.now,I o.n,V O o.p]):=by
 have h1:=ae hs.blk;have h3:=hs.dr.src.vt;obtain⟨c',hl,hr'⟩:=ho.row.res (p:=wr.heap.size) (w':=w9.setRow wr.heap.size #[U g.a1 g.l1 g.c1,U g.a2 g.l2 g.c2,U g.a3 g.l3 g.c3,U g.a4 g.l4 g.c4,U g.a5 g.l5 g.c5,V O o.c.now,I o.n,V O o.p]) ⟨⟨rfl,rfl,rfl,by simp,λk _ hn=>setRow_other _ _ _ _ hn⟩,λi x h=>by
  rw[al hr i] at h
  rcases i with _|_|_|_|_|_|_|_|i
  all_goals first
   | exact⟨by omega,λ_=>rfl⟩
   | (cases h;exact⟨by omega,λ⟨_,e⟩=>by cases e⟩)
   | (simp at h),o.n,al (setRow_heap _ _ _ #[U g.a1 g.l1 g.c1,U g.a2 g.l2 g.c2,U g.a3 g.l3 g.c3,U g.a4 g.l4 g.c4,U g.a5 g.l5 g.c5,V O o.c.now,I o.n,V O o.p] _ _ hr) 6,hn⟩
 have e:=hl.2.2.2.2.2;have δ:Below wr.heap.size wr (w9.setRow wr.heap.size #[U g.a1 g.l1 g.c1,U g.a2 g.l2 g.c2,U g.a3 g.l3 g.c3,U g.a4 g.l4 g.c4,U g.a5 g.l5 g.c5,V O o.c.now,I o.n,V O o.p]):=⟨hb.os,hb.tape,hb.output,by simpa using hb.size,λk hk=>(setRow_other _ _ _ _ af).trans (hb.block k hk)⟩;exact⟨_,g,⟨c',o.n,o.p⟩,rfl,hs.below δ,by rw[show (Co.mk c' o.n o.p).c.now=o.c.now from e];exact setRow_heap _ _ _ _ _ _ hr,hr',ho.low.to hX (λ_ u=>u.row),λh=>⟨hl.1.trans (hg h).1,hl.2.1.trans (hg h).2⟩,by omega,by omega⟩
end
theorem LoA.up {len:Nat} (h:LoA X w a len) (hr:aV w a len cap m rs) (hN:Sc rs) (hn:lG w X):LoA (X+1) w a len:=by
 by_cases hl0:len=0
 ·exact Zl hl0
 obtain⟨b',o',r,e,_,hx,Zc⟩:=hr.at (j:=0) af;obtain⟨t,ht⟩:=hN 0 r hx;obtain⟨v,hv,rfl,_⟩:=Zc 0 _ ht;rcases h with h|⟨b,o,h1,h2,h3⟩
 ·exact absurd h hl0
 rw[h1] at e;cases e;refine Zk ⟨b',o',h1,?_,h3⟩;rcases Nat.lt_or_ge X b' with h4|h4
 ·exact h4
 obtain rfl:b'=X:=af
 exact absurd hv (hn _ _)
theorem Low.up(h:Low X w d) (hr:aA w d c.raw) (hn:lG w X):Low (X+1) w d:=
 ⟨h.n.up hr.n (cD (λx=>⟨x.n,rfl⟩) c.ns) hn,h.k.up hr.k (cD (λx=>⟨x.n,rfl⟩) c.ks) hn,h.v.up hr.v (cD (λx=>⟨x.n,rfl⟩) c.vs) hn,h.x.up hr.x (cD (λx=>⟨x.n,rfl⟩) c.xs) hn,h.p.up hr.p (cD (λx=>⟨x.n,rfl⟩) c.ps) hn⟩
def Sl(B:Nat) (w0:World) (p:Nat) (v:Value) (len:Nat) (w:World) (e:Ending) (w':World):Prop:=∃(d:Ad) (c:Cl),e=Zh (Zj #[U d.a1 d.l1 d.c1,U d.a2 d.l2 d.c2,U d.a3 d.l3 d.c3,U d.a4 d.l4 d.c4,U d.a5 d.l5 d.c5,V O c.now])/\aA w' d c.raw/\Low w.heap.size w' d/\Src B w0 p v len w'/\w.grownBy w' (M p)
theorem RV {p:Nat} {len:Nat} {wa wx:World} (hg:wa.grownBy wx (M p)) (Zo:p<wa.heap.size) (hb:wx.heap[wa.heap.size]?=M (Ze #[U J 0 0,U J 0 0,U J 0 0,U J 0 0,U J 0 0,V O 0] 29 (0,0))) (hr:aA wx d c.raw) (hl:Low wa.heap.size wx d) (hs:Src B w0 p v len wx):
  Sl B w0 p v len wa (Zh (Zj #[U d.a1 d.l1 d.c1,U d.a2 d.l2 d.c2,U d.a3 d.l3 d.c3,U d.a4 d.l4 d.c4,U d.a5 d.l5 d.c5,V O c.now])) ((((((wx.setCell ⟨wa.heap.size,0,J⟩ (U d.a1 d.l1 d.c1)).setCell ⟨wa.heap.size,1,J⟩ (U d.a2 d.l2 d.c2)).setCell ⟨wa.heap.size,2,J⟩ (U d.a3 d.l3 d.c3)).setCell ⟨wa.heap.size,3,J⟩ (U d.a4 d.l4 d.c4)).setCell ⟨wa.heap.size,4,J⟩ (U d.a5 d.l5 d.c5)).setCell ⟨wa.heap.size,5,J⟩ (V O c.now)):=by
 have hk9:=(((((aJ.refl (λk=>k=wa.heap.size) wx).set (i:=0) (v:=U d.a1 d.l1 d.c1) rfl).set (i:=1) (v:=U d.a2 d.l2 d.c2) rfl).set (i:=2) (v:=U d.a3 d.l3 d.c3) rfl).set (i:=3) (v:=U d.a4 d.l4 d.c4) rfl).set (i:=4) (v:=U d.a5 d.l5 d.c5) rfl |>.set (i:=5) (v:=V O c.now) rfl;have hd:=(((((((⟨hs,hg,Zo⟩:Dr B w0 p v len wa wx).set (i:=0) (U d.a1 d.l1 d.c1) (Ye _)).set (i:=1) (U d.a2 d.l2 d.c2) (Ye _)).set (i:=2) (U d.a3 d.l3 d.c3) (Ye _)).set (i:=3) (U d.a4 d.l4 d.c4) (Ye _)).set (i:=4) (U d.a5 d.l5 d.c5) (Ye _)).set (i:=5) (V O c.now) (Ye _));exact⟨d,c,rfl,hr.bN (cE (d:=ad0) hb) hk9,hl.to (Ye _) (λ_ u=>u.set.set.set.set.set.set),hd.src,hd.gr⟩
theorem pT {p:Nat} {len:Nat} (h:Src B w0 p v len w):
  Calls Tryz.prog 17 #[Zm (M ⟨p,0,J⟩)] w (Sl B w0 p v len w):=by
 have hag:∀(d:Ad) (c:Cl) (t:ByteArray) (w:World),aA w d c.raw->Calls Tryz.prog 41 #[Zj #[U d.a1 d.l1 d.c1,U d.a2 d.l2 d.c2,U d.a3 d.l3 d.c3,U d.a4 d.l4 d.c4,U d.a5 d.l5 d.c5,V O c.now],I t] w (jw (λo=>(o.p=0->Gd c o.c)/\o.n.size<=9223372036854775807) w):=λd c t w hr=>(kO d c t w hr).mono λe w' ⟨g,o,h1,h2,h3,h4⟩=>⟨g,o,h1,⟨h2.gd,h2.nm⟩,h3,h4⟩;have hds:=λ(B:Nat) (w0:World) (p:Nat) (v:Value) (len:Nat) (w:World) (h:Src B w0 p v len w)=>Cu h;have HAG:=G hag;have HDS:=G hds;have HD:=G (Dr.start h);clear h hag hds;go_enter Tryz.func17,Tryz.ntmps17;go_wp2_with fail;refine (wC _).mono ?_;rintro e w1 ⟨d,rfl,ho,hb⟩;have HD1:=G ((HD.alloc (Ze (Zd J 0 0 J 0 0 J 0 0 J 0 0 J 0 0 0) 29)).below hb);obtain⟨ZD,Zr⟩:=aY hb;have hl1:=ho.lo (B:=w.heap.size) (λk s=>by simp at s;omega);have hba:=aj w1 (Ze (Zs d 0) 29);have HS:Hid (∃d' c,CS B w0 p v len w (w1.alloc (Ze (Zs d 0) 29)) w1.heap.size d' c):=⟨d,lC,⟨(Yf:(w1.alloc _).heap[w1.heap.size]?=_),(hba.block _ (ae ZD)).trans ZD,ae ZD,ho.row.below hba,hl1.to (Ye _) (λ_ u=>u.below hba),HD1.below hba,rfl,rfl⟩⟩;clear ho hb Zr ZD hl1 hba;go_wp2;go_loopw [4] (λi wr=> ∃k:Nat,k<=3/\i=V O k/\Hid (∃d c,CS B w0 p v len w wr w1.heap.size d c)) (λi _=>3 - (intOf i).toNat);case atStart=>exact⟨0,by omega,rfl,HS⟩
 case round=>
  clear HS;obtain⟨k,hk,rfl,HX⟩:=hrel;obtain⟨d,c,hs⟩:=HX.out;have HS:=G hs;clear HX hs;have Bc:=G HS.blk;have an9:=@G _ @MK;exact eD
structure ES (B:Nat) (w0:World) (p:Nat) (v:Value) (len:Nat) (r0:Nat) (wx:World) (bc:Nat) (d:Ad) (c:Cl):Prop where
 blk:wx.heap[bc]?=M (Ze (Zs d c.now) 29 (0,0))
 res:wx.heap[r0]?=M (Ze (Zd J 0 0 J 0 0 J 0 0 J 0 0 J 0 0 0) 29 (0,0))
 row:aA wx d c.raw
 src:Src B w0 p v len wx
 lt:r0<bc
 bp:¬bc=p
 rp:¬r0=p
 lo:B<=bc
section
variable {B:Nat} {w0:World} {p:Nat} {v:Value} {len:Nat} {r0:Nat} {wx w2:World} {bc:Nat} {d:Ad} {c:Cl}
theorem oI {w w':World} (h:Src B w0 p v len w) (hb:Below w.heap.size w w'):Src B w0 p v len w':=h.ay (row:=J) ⟨hb.os,hb.tape,hb.output,hb.size,λk hk _=>hb.block k hk⟩ (by simp) (by simp)
theorem ES.below(h:ES B w0 p v len r0 wx bc d c) (hb:Below wx.heap.size wx w2):ES B w0 p v len r0 w2 bc d c:=
 ⟨(hb.block _ (ae h.blk)).trans h.blk,(hb.block _ (ae h.res)).trans h.res,h.row.below hb,oI h.src hb,h.lt,h.bp,h.rp,h.lo⟩
theorem ES.draw(h:ES B w0 p v len r0 wx bc d c) (hs:Src B w0 p v len w2) (hg:wx.grownBy w2 (M p)):ES B w0 p v len r0 w2 bc d c:=
 ⟨gk hg h.bp h.blk,gk hg h.rp h.res,h.row.bN (bO h.src) (aS hg),hs,h.lt,h.bp,h.rp,h.lo⟩
theorem ES.fin(h:ES B w0 p v len r0 wx bc d c) {w:World} (hw:w.heap.size=r0) (hB:w.heap.size<=B) (hW:Below w.heap.size w w0):aA ((((((wx.setCell ⟨r0,0,J⟩ (U d.a1 d.l1 d.c1)).setCell ⟨r0,1,J⟩ (U d.a2 d.l2 d.c2)).setCell ⟨r0,2,J⟩ (U d.a3 d.l3 d.c3)).setCell ⟨r0,3,J⟩ (U d.a4 d.l4 d.c4)).setCell ⟨r0,4,J⟩ (U d.a5 d.l5 d.c5)).setCell ⟨r0,5,J⟩ (V O c.now)) d c.raw/\Below w.heap.size w ((((((wx.setCell ⟨r0,0,J⟩ (U d.a1 d.l1 d.c1)).setCell ⟨r0,1,J⟩ (U d.a2 d.l2 d.c2)).setCell ⟨r0,2,J⟩ (U d.a3 d.l3 d.c3)).setCell ⟨r0,3,J⟩ (U d.a4 d.l4 d.c4)).setCell ⟨r0,4,J⟩ (U d.a5 d.l5 d.c5)).setCell ⟨r0,5,J⟩ (V O c.now)):=by
 subst hw;have hk9:=(((((aJ.refl (λk=>k=w.heap.size) wx).set (i:=0) (v:=U d.a1 d.l1 d.c1) rfl).set (i:=1) (v:=U d.a2 d.l2 d.c2) rfl).set (i:=2) (v:=U d.a3 d.l3 d.c3) rfl).set (i:=3) (v:=U d.a4 d.l4 d.c4) rfl).set (i:=4) (v:=U d.a5 d.l5 d.c5) rfl |>.set (i:=5) (v:=V O c.now) rfl;have hb:=hW.trans (h.src.2.2.1.mono hB);exact⟨h.row.bN (cE (d:=ad0) h.res) hk9,hb.trans (hk9.low hb.size (λk e=>by omega))⟩
end
section
variable {B:Nat} {w0:World} {p:Nat} {v:Value} {len:Nat} {r0 r:Nat} {w9:World} {bc:Nat} {d g:Ad} {c:Cl} {o:Co} {X:Nat}
end
def iV(xs:List Xd):List ByteArray:=(xs.filter λx=>x.v.toList.isEmpty).map Xd.n
theorem Sw {xs:List Xd} {x:Xd} (h:xs[k]?=M x) (hv:x.v.toList.isEmpty=Zi):iV (xs.take (k+1))=iV (xs.take k)++[x.n]:=by
 unfold iV;exact qQ
theorem CM {xs:List Xd} {x:Xd} (h:xs[k]?=M x) (hv:x.v.toList.isEmpty=Zg):iV (xs.take (k+1))=iV (xs.take k):=by
 unfold iV;exact qQ
def iy(c:Cl) (zs:List ByteArray):Prop:=(au c/\zs=iV c.xs)\/(¬au c/\zs=[])
theorem iy.same {ZB:List ByteArray} (h:iy c zs) (h':iy c ZB):zs=ZB:=by
 rcases h with ⟨a,rfl⟩|⟨a,rfl⟩ <;> rcases h' with ⟨b,rfl⟩|⟨b,rfl⟩
 ·rfl
 ·exact absurd a b
 ·exact absurd b a
 ·rfl
theorem iy.few(h:iy c zs):zs.length<=c.xs.length:=by
 rcases h with ⟨_,rfl⟩|⟨_,rfl⟩
 ·unfold iV;rw[Yq];exact List.length_filter_le _ _
 ·simp
theorem CL {len:Nat} {xs:List Xd} (h:aV w a len cap 5 (xs.map xdF)) (j:Nat) (z:ByteArray) (hz:(iV xs)[j]?=M z):z.size<=9223372036854775807:=by
 have avH:=@G _ @acU;exact zY
def amZ(c:Cl) (w:World) (e:Ending) (w':World):Prop:=∃a l p zs,e=Zh (U a l p)/\iy c zs/\bG w' a l p zs (λk=>w.heap.size<=k)/\Below w.heap.size w w'
theorem k_(d:Ad) (c:Cl) (w:World) (hr:aA w d c.raw) (hG:ens w):
  Calls Tryz.prog 14 #[Zj (Zs d c.now)] w (amZ c w):=by
 have anV:=@G _ @afJ;exact dn
theorem rO(d:Ad) (c:Cl) (w:World) (hr:aA w d c.raw):
  Calls Tryz.prog 15 #[Zj (Zs d c.now)] w (amZ c w):=by
 have anV:=@G _ @afI;exact dn
theorem rj(v:Value) (len:Nat) (w:World) (hR:d_ w.heap.size w v len):
  Calls Tryz.prog 4 #[v] w (λe w'=> ∃(d:Ad) (c:Cl) (t:ByteArray),e=Zh (Zn #[Zj #[U d.a1 d.l1 d.c1,U d.a2 d.l2 d.c2,U d.a3 d.l3 d.c3,U d.a4 d.l4 d.c4,U d.a5 d.l5 d.c5,V O c.now],I t])/\aA w' d c.raw/\t.size<=9223372036854775807/\Below w.heap.size w w'):=by
 have avR:=@G _ @WJ;exact zC
theorem oB(v:Value) (len:Nat) (w:World) (hR:d_ w.heap.size w v len):
  Calls Tryz.prog 25 #[v] w (λe w'=> ∃(d:Ad) (c:Cl) (t:ByteArray),e=Zh (Zn #[Zj #[U d.a1 d.l1 d.c1,U d.a2 d.l2 d.c2,U d.a3 d.l3 d.c3,U d.a4 d.l4 d.c4,U d.a5 d.l5 d.c5,V O c.now],I t])/\aA w' d c.raw/\t.size<=9223372036854775807/\Below w.heap.size w w'):=by
 have avR:=@G _ @WI;exact zC
theorem anD {wx:World} (ay0:wx.heap[w.heap.size]?=M (Ze #[U J 0 0,U J 0 0,U J 0 0,U J 0 0,U J 0 0,V O 0] 29 (0,0))) (hr:aA wx d c.raw) (hb:Below w.heap.size w wx):aA ((((((wx.setCell ⟨w.heap.size,0,J⟩ (U d.a1 d.l1 d.c1)).setCell ⟨w.heap.size,1,J⟩ (U d.a2 d.l2 d.c2)).setCell ⟨w.heap.size,2,J⟩ (U d.a3 d.l3 d.c3)).setCell ⟨w.heap.size,3,J⟩ (U d.a4 d.l4 d.c4)).setCell ⟨w.heap.size,4,J⟩ (U d.a5 d.l5 d.c5)).setCell ⟨w.heap.size,5,J⟩ (V O c.now)) d c.raw/\Below w.heap.size w ((((((wx.setCell ⟨w.heap.size,0,J⟩ (U d.a1 d.l1 d.c1)).setCell ⟨w.heap.size,1,J⟩ (U d.a2 d.l2 d.c2)).setCell ⟨w.heap.size,2,J⟩ (U d.a3 d.l3 d.c3)).setCell ⟨w.heap.size,3,J⟩ (U d.a4 d.l4 d.c4)).setCell ⟨w.heap.size,4,J⟩ (U d.a5 d.l5 d.c5)).setCell ⟨w.heap.size,5,J⟩ (V O c.now)):=by
 have hk9:=(((((aJ.refl (λk=>k=w.heap.size) wx).set (i:=0) (v:=U d.a1 d.l1 d.c1) rfl).set (i:=1) (v:=U d.a2 d.l2 d.c2) rfl).set (i:=2) (v:=U d.a3 d.l3 d.c3) rfl).set (i:=3) (v:=U d.a4 d.l4 d.c4) rfl).set (i:=4) (v:=U d.a5 d.l5 d.c5) rfl |>.set (i:=5) (v:=V O c.now) rfl;exact⟨hr.bN (cE (d:=ad0) ay0) hk9,hb.trans (hk9.low hb.size (λk e=>by omega))⟩
theorem vV(v:Value) (len:Nat) (w:World) (hR:d_ w.heap.size w v len):
  Calls Tryz.prog 6 #[v] w (λe w'=> ∃(d:Ad) (c:Cl) (t:ByteArray),e=Zh (Zn #[Zj #[U d.a1 d.l1 d.c1,U d.a2 d.l2 d.c2,U d.a3 d.l3 d.c3,U d.a4 d.l4 d.c4,U d.a5 d.l5 d.c5,V O c.now],I t])/\aA w' d c.raw/\t.size<=9223372036854775807/\Below w.heap.size w w'):=by
 have avM:=@G _ @aef;exact As
theorem vW(v:Value) (len:Nat) (w:World) (hR:d_ w.heap.size w v len):
  Calls Tryz.prog 8 #[v] w (λe w'=> ∃(d:Ad) (c:Cl),e=Zh (Zj #[U d.a1 d.l1 d.c1,U d.a2 d.l2 d.c2,U d.a3 d.l3 d.c3,U d.a4 d.l4 d.c4,U d.a5 d.l5 d.c5,V O c.now])/\aA w' d c.raw/\Below w.heap.size w w'):=by
 obtain⟨hcl,HCL⟩:=ahF;have avM:=@G _ @aee;exact As
def vZ0:Vd:=⟨⟨#[]⟩,0,⟨#[]⟩,⟨#[]⟩,Zg,⟨#[]⟩,Zg,[]⟩
structure Vo where
 u:Vd
 p:Int
def gU(c:Cl) (t:ByteArray) (o:Vo):Prop:=
 (∃i,AskWhy c t i/\o=⟨vZ0,aZ i⟩)\/(¬8000<t.size/\au c/\oC c t/\(∀v,¬aX c t v)/\o=⟨vZ0,11⟩)\/(¬8000<t.size/\au c/\aX c t o.u/\o.p=0)
theorem AskWhy.same(h:AskWhy c t i) (h':AskWhy c t j):i=j:=by
 rcases i with _|_|_|i <;> rcases j with _|_|_|j <;> simp only[AskWhy] at h h' <;> first|rfl|exact absurd h h'.1|exact absurd h' h.1|exact absurd h'.2.1 h.2|exact absurd h.2.1 h'.2
theorem AskWhy.B3(h:AskWhy c t i) (h1:¬8000<t.size) (h2:au c) (h3:oC c t):False:=by
 rcases i with _|_|_|i <;> simp only[AskWhy] at h
 ·exact h1 h
 ·exact h.2 h2
 ·exact h.2.2 h3
theorem aX.has {v:Vd} (h:aX c t v):oC c t:=by
 obtain⟨i,j,x,h1,h2,_⟩:=h;exact⟨i,x,h1,h2⟩
theorem gU.same {o o':Vo} (h:gU c t o) (h':gU c t o'):o=o':=by
 rcases h with ⟨i,a,rfl⟩|⟨a1,a2,a3,a4,rfl⟩|⟨a1,a2,a3,a4⟩ <;> rcases h' with ⟨j,b,rfl⟩|⟨b1,b2,b3,b4,rfl⟩|⟨b1,b2,b3,b4⟩
 ·rw[a.same b]
 ·exact (a.B3 b1 b2 b3).elim
 ·exact (a.B3 b1 b2 b3.has).elim
 ·exact (b.B3 a1 a2 a3).elim
 ·rfl
 ·exact absurd b3 (a4 _)
 ·exact (b.B3 a1 a2 a3.has).elim
 ·exact absurd a3 (b4 _)
 ·have:=a3.inj a2.2.1.2.2.2.1.2.2 a2.2.1.2.2.1.2.2 b3;cases o;cases o';simp_all
def amY(c:Cl) (t:ByteArray) (w:World) (e:Ending) (w':World):Prop:=∃va vl vc o,e=Zh (Zj #[I o.u.n,V O o.u.c,I o.u.z,I o.u.k,Zf o.u.x,I o.u.m,Zf o.u.y,U va vl vc,V O o.p])/\gU c t o/\bG w' va vl vc o.u.zs (λk=>w.heap.size<=k)/\Below w.heap.size w w'
theorem pR(w:World) (S:Nat->Prop):bG w J 0 0 vZ0.zs S:=⟨⟨rfl,Ye _,by omega,λj x hx=>by simp[vZ0] at hx,Zl rfl⟩,Zl rfl⟩
theorem xJ {x:Bool} (h:ed zs (if x=Zi then 1 else 6)):zs.length<=6:=by
 have:=(eY h).1;omega
theorem au.few(h:au c) {j:Nat} {v:Vd} (hj:c.vs[j]?=M v):v.zs.length<=6:=xJ (h.2.1.2.2.1.2.1 j v hj).2.2.2.2.2.2
theorem ahw {v0 v1 v2 v3 v4 v5 v6 v7 v8:Value} (hk:¬k=b):(((((((((w.setCell ⟨b,0,J⟩ v0).setCell ⟨b,1,J⟩ v1).setCell ⟨b,2,J⟩ v2).setCell ⟨b,3,J⟩ v3).setCell ⟨b,4,J⟩ v4).setCell ⟨b,5,J⟩ v5).setCell ⟨b,6,J⟩ v6).setCell ⟨b,7,J⟩ v7).setCell ⟨b,8,J⟩ v8).heap[k]?=w.heap[k]?:=by
 rw[Ya _ _ _ _ hk,Ya _ _ _ _ hk,Ya _ _ _ _ hk,Ya _ _ _ _ hk,Ya _ _ _ _ hk,Ya _ _ _ _ hk,Ya _ _ _ _ hk,Ya _ _ _ _ hk,Ya _ _ _ _ hk]
theorem vN(d:Ad) (c:Cl) (t:ByteArray) (E:Nat->Addr) (w:World) (hr:aA w d c.raw) (hG:Ers w E):
  Calls Tryz.prog 7 #[Zj (Zs d c.now),I t] w (amY c t w):=by
 unfold Zs;obtain⟨HR,HE,HB⟩:=nP;clear hr hG;go_enter Tryz.func7,Tryz.ntmps7;have asG:=@G _ @MP;exact uv
theorem CQ(d:Ad) (c:Cl) (t:ByteArray) (w:World) (hr:aA w d c.raw):
  Calls Tryz.prog 11 #[Zj (Zs d c.now),I t] w (amY c t w):=by
 have anV:=@G _ @afH;exact dn
theorem bH.right {o:Co} (h:bH c t o) (h0:o.p=0):au o.c:=by
 rcases h with ⟨n,hn,_,rfl⟩|⟨_,hT,i,x,j,k,hx,_,hk,_,⟨_,rfl⟩|⟨hv,⟨_,rfl⟩|⟨_,hb⟩⟩⟩
 ·exact PZ
 ·exact absurd h0 ag
 ·exact absurd h0 ag
 ·exact pL hT hx hv hk (Zl rfl) hb h0
structure fl (c:Cl) (t:ByteArray) (o:Co) (i:Nat) (x:Xd):Prop where
 sz:¬8000<t.size
 ri:au c
 ro:au o.c
 at_:c.xs[i]?=M x
 nm:x.n=t
 free:x.v=⟨#[]⟩
 xs:o.c.xs=c.xs.set i (bdX x o.n)
 ne:¬o.n=⟨#[]⟩
 disk:∃(j:Nat) (v:Vd),o.c.vs[j]?=M v/\v.n=o.n/\v.m=t
theorem bH.ok {o:Co} (h:bH c t o) (h0:o.p=0):∃(i:Nat) (x:Xd),fl c t o i x:=by
 have hro:=h.right h0;rcases h with ⟨n,hn,_,rfl⟩|⟨hs,hT,i,x,j,k,hx,hn,hk,Γ,⟨_,rfl⟩|⟨hv,⟨_,rfl⟩|⟨_,hb⟩⟩⟩
 ·exact PZ
 ·exact absurd h0 ag
 ·exact absurd h0 ag
 have ZE:∀{s:ByteArray},aN s->¬s=⟨#[]⟩:=λhs e=>by subst e;exact absurd hs.1 ag
 rcases hb with ⟨j1,u,a1,a2,rfl⟩|⟨-,⟨-,rfl⟩|⟨a2,⟨-,rfl⟩|⟨a3,⟨-,rfl⟩|⟨a4,rfl⟩⟩⟩⟩
 ·exact⟨i,x,hs,hT,hro,hx,hn,hv,rfl,ZE (hT.2.1.2.2.1.2.1 _ _ a2).1,j1,bdV u x.n,fp a2,rfl,hn⟩
 ·exact absurd h0 ag
 ·exact absurd h0 ag
 ·exact absurd h0 ag
 ·obtain⟨q,hq⟩:=RK (pl Vd.n c.vs (aC++x.n)) (mkV x (aT ⟨#[]⟩ k.z)) c.vs;exact⟨i,x,hs,hT,hro,hx,hn,hv,rfl,ZE (nZ (hT.2.1.2.2.2.1.2.1 _ _ hx).1 a2.2.2.2.2),q,_,hq,rfl,hn⟩
section
variable {c:Cl} {t:ByteArray} {o:Co} {i:Nat} {x:Xd}
theorem fl.now(h:fl c t o i x):o.c.xs[i]?=M (bdX x o.n):=by rw[h.xs];exact fp h.at_
theorem fl.has(h:fl c t o i x):oC o.c t:=⟨i,_,h.now,h.nm⟩
theorem fl.vol(h:fl c t o i x) {u:Vo} (hu:gU o.c t u):u.p=0/\u.u.n=o.n/\u.u.m=t:=by
 obtain⟨j,v,hv,hn,hm⟩:=h.disk;have hb:aX o.c t v:=⟨i,j,_,h.now,h.nm,hv,hn⟩;rcases hu with ⟨q,a,rfl⟩|⟨_,_,_,a,rfl⟩|⟨_,_,a,b⟩
 ·exact (a.B3 h.sz h.ro h.has).elim
 ·exact (a v hb).elim
 ·obtain rfl:=aX.inj h.ro.2.1.2.2.2.1.2.2 h.ro.2.1.2.2.1.2.2 a hb;exact⟨b,hn,hm⟩
theorem fl.once(h:fl c t o i x) {o':Co} (h':bH o.c t o'):o'.p=7:=by
 rcases h' with ⟨n,_,a,rfl⟩|⟨_,_,i',x',j',k',b3,b4,b5,b6,b⟩
 ·exact (a.B3 h.sz h.ro h.has).elim
 ·obtain⟨-,rfl⟩:=h.ro.2.1.2.2.2.1.2.2.inj b3 h.now (b4.trans h.nm.symm);rcases b with ⟨_,rfl⟩|⟨e,_⟩
  ·rfl
  ·exact absurd e h.ne
theorem yC:∀(xs:List Xd) (i:Nat) (x:Xd) (n:ByteArray),xs[i]?=M x->x.v=⟨#[]⟩->¬n=⟨#[]⟩->(iV (xs.set i (bdX x n))).length+1=(iV xs).length
 | [],_,_,_,h,_,_=>by simp at h
 | y ::xs,0,x,n,h,hv,hn=>by
  obtain rfl:y=x:=j_
  simp[iV,cw hv,aU (show¬(bdX y n).v=⟨#[]⟩ from hn)]
 | y ::xs,k+1,x,n,h,hv,hn=>by
  have ih:=yC xs k x n j_ hv hn;simp only[iV,Yq,Yy,List.filter_cons] at ih ⊢
  split <;> (try simp only[List.length_cons]) <;> omega
theorem fl.less(h:fl c t o i x) {zs ZB:List ByteArray} (h1:iy c zs) (h2:iy o.c ZB):ZB.length+1=zs.length:=by
 rcases h1 with ⟨_,rfl⟩|⟨a,_⟩
 ·rcases h2 with ⟨_,rfl⟩|⟨b,_⟩
  ·rw[h.xs];exact yC _ _ _ _ h.at_ h.free h.ne
  ·exact absurd h.ro b
 ·exact absurd h.ri a
theorem fl.other(h:fl c t o i x) {k:Nat} {y z:Xd} (hy:c.xs[k]?=M y) (hz:o.c.xs[k]?=M z) (hn:¬y.n=t):z=y:=by
 rw[h.xs] at hz;rcases cX h.at_ hz with ⟨rfl,_⟩|⟨_,e⟩
 ·rw[h.at_] at hy;obtain rfl:=Yd hy;exact absurd h.nm hn
 ·exact Yd (e.symm.trans hy)
theorem fl.len(h:fl c t o i x):o.c.xs.length=c.xs.length:=by rw[h.xs,List.length_set]
end
end Rc
theorem im(a a':Option Addr) (len an7 cap an8:Nat) (zs:List ByteArray) (w:World) (hr:aw w a len cap zs) (hr':aw w a' an7 an8 zs):
  Calls Tryz.prog 13 #[U a len cap,U a' an7 an8] w λe w'=>e=Zh (Zf Zi)/\Below w.heap.size w w':=by
 obtain rfl:len=an7:=hr.1.symm.trans hr'.1;have HR:Hid (aw w a len cap zs):=hr;have HR':Hid (aw w a' len an8 zs):=hr';have hlc:len<=9223372036854775807:=Yo hr.2.1 hr.2.2.1;clear hr hr';go_enter Tryz.func13,Tryz.ntmps13;go_wp2;go_loopw [5] (λi wr=> ∃k:Nat,k<=len/\i=V O k/\Hid (Below w.heap.size w wr)) (λi _=>len - (intOf i).toNat);case atStart=>exact⟨0,by omega,rfl,Yh _ _⟩
 case round=>
  obtain⟨k,hk,rfl,HB⟩:=hrel;by_cases Zo:k<len
  ·obtain⟨b,o,x,rfl,hb,hx,hc,Zq⟩:=(HR.below HB.out).at Zo;obtain⟨b',o',x',rfl,χ,hx',hc',azB⟩:=(HR'.below HB.out).at Zo;obtain rfl:x=x':=Yd (hx.symm.trans hx');go_wp2;go_quiet (fail);go_wp2;exact⟨⟨k+1,by omega,by go_num,below_drewN HB.out _⟩,by simp[intOf];omega⟩
  ·obtain rfl:k=len:=af
   go_wp2;go_ret;exact⟨rfl,HB.out⟩
theorem kj(n:ByteArray) (c:Int) (z:ByteArray) (k:ByteArray) (x:Bool) (m:ByteArray) (y:Bool) (a:Option Addr) (len cap:Nat) (zs:List ByteArray) (a':Option Addr) (an7 an8:Nat) (w:World) (hr:aw w a len cap zs) (hr':aw w a' an7 an8 zs):
  Calls Tryz.prog 12 #[Zj #[I n,V O c,I z,I k,Zf x,I m,Zf y,U a len cap],Zj #[I n,V O c,I z,I k,Zf x,I m,Zf y,U a' an7 an8]] w λe w'=>e=Zh (Zf Zi)/\Below w.heap.size w w':=by
 have HR:Hid (aw w a len cap zs):=hr;have HR':Hid (aw w a' an7 an8 zs):=hr';clear hr hr';go_enter Tryz.func12,Tryz.ntmps12;exact Ri
theorem Obl.guarded {φ:Fact} {b:Bool} {t:Tmp} (hg:o.guard=M (i,b)) (hd:(ops[i]?).bind (·.dst)=M t)
  (ht:∀(a:Act) (w:World),slotFact a0 known a w t->a.tmps.getD t undef=Zf b)
  (h:∀(a:Act) (w:World) (K:Act->World->Prop),a.tmps.size=a0.tmps.size->Below W.heap.size W w->(∀t∈looksOf o,slotFact a0 known a w t)->(∀v w',Below w.heap.size w w'->φ v w'->K (a.put o.dst v) w')->o.wp P a w K Q):Obl P ops Q W a0 known o φ:=by
 intro a w K h1 h2 h3 h4;have ha:=ht a w (h3 t (by unfold Oper.looksAt;rw[hg];refine Y8 _ ?_;simp only[hd];simp));have hw:YR o (yielded ops a.tmps)=Zi:=by
  unfold YR;rw[hg];simp only[yielded,hd,Option.bind_some];have:a.tmps[t]?=M (Zf b):=by
   rw[Ys] at ha;cases hx:a.tmps[t]? with
   | none=>rw[hx] at ha;cases ha
   | some v=>rw[hx] at ha;exact congrArg M ha
  rw[this];simp
 exact P_
namespace Rc
theorem xO(n z:ByteArray) (c s u:Int) (x:Bool) (a:Option Addr) (len cap:Nat) (zs:List ByteArray) (a':Option Addr) (an7 an8:Nat) (w:World) (hr:aw w a len cap zs) (hr':aw w a' an7 an8 zs):
  Calls Tryz.prog 53 #[Zj #[I n,I z,V O c,V O s,V O u,Zf x,U a len cap],Zj #[I n,I z,V O c,V O s,V O u,Zf x,U a' an7 an8]] w λe w'=>e=Zh (Zf Zi)/\Below w.heap.size w w':=by
 have HR:Hid (aw w a len cap zs):=hr;have HR':Hid (aw w a' an7 an8 zs):=hr';clear hr hr';go_enter Tryz.func53,Tryz.ntmps53;exact Ri
theorem xN(n:ByteArray) (c:Int) (z d:ByteArray) (p:Int) (a:Option Addr) (len cap:Nat) (zs:List ByteArray) (a':Option Addr) (an7 an8:Nat) (w:World) (hr:aw w a len cap zs) (hr':aw w a' an7 an8 zs):
  Calls Tryz.prog 54 #[Zj #[I n,V O c,I z,U a len cap,I d,V O p],Zj #[I n,V O c,I z,U a' an7 an8,I d,V O p]] w λe w'=>e=Zh (Zf Zi)/\Below w.heap.size w w':=by
 have HR:Hid (aw w a len cap zs):=hr;have HR':Hid (aw w a' an7 an8 zs):=hr';clear hr hr';go_enter Tryz.func54,Tryz.ntmps54;go_wp2_with fail;refine (im a a' len an7 cap an8 zs _ (HR.below (aM _ _ _)) (HR'.below (aM _ _ _))).mono ?_;rintro e w1 ⟨rfl,hb⟩;obtain⟨ZD,Ν,Zr⟩:=dK hb;obtain⟨k0,k1,k2,k3,k4,k5⟩:=cs6 ZD;obtain⟨m0,m1,m2,m3,m4,m5⟩:=cs6 Ν;have aoA:=@G _ @M8;exact fS
theorem amQ(n:ByteArray) (x:Bool) (y:Bool) (z:ByteArray) (w:World):(Op.equalIn 10000 72 (Zj #[I n,Zf x,Zf y,I z]) (Zj #[I n,Zf x,Zf y,I z])).run Tryz.prog w=.ok Zi w:=by
 have u3:=Tryz.underlying9;have u5:=Tryz.underlying4;have hS:Tryz.prog.underlying 72=M (.struct (Tryz.prog.fieldsOf 72)):=aW
 have hp:Tryz.prog.stoodInHeld 72=Zg:=aW
 rw[show (10000:Nat)=9999+1 from rfl,run_equalIn_agg w 9999 72 _ _ hS hp];simp only[Program.fieldsOf,Tryz.underlying72];go_simp
theorem aiK(n:ByteArray) (z:Int) (k:ByteArray) (x:Bool) (v:ByteArray) (w:World):(Op.equalIn 10000 47 (Zj #[I n,V O z,I k,Zf x,I v]) (Zj #[I n,V O z,I k,Zf x,I v])).run Tryz.prog w=.ok Zi w:=by
 have u3:=Tryz.underlying9;have u4:=Tryz.underlying2;have u5:=Tryz.underlying4;have hS:Tryz.prog.underlying 47=M (.struct (Tryz.prog.fieldsOf 47)):=aW
 have hp:Tryz.prog.stoodInHeld 47=Zg:=aW
 rw[show (10000:Nat)=9999+1 from rfl,run_equalIn_agg w 9999 47 _ _ hS hp];simp only[Program.fieldsOf,Tryz.underlying47];go_simp
structure LwS (w:World) (d d':Ad) (c:Cl) (wr:World):Prop where
 hb:Below w.heap.size w wr
 g0:wr.heap[w.heap.size]?=M (Ze (Zs d c.now) 29 (0,0))
 g1:wr.heap[w.heap.size+1]?=M (Ze (Zs d' c.now) 29 (0,0))
 r:aA wr d c.raw
 r':aA wr d' c.raw
theorem LwS.below {w2:World} {d':Ad} (h:LwS w d d' c wr) (hb:Below wr.heap.size wr w2):LwS w d d' c w2:=
 ⟨h.hb.trans (hb.mono h.hb.size),(hb.block _ (ae h.g0)).trans h.g0,(hb.block _ (ae h.g1)).trans h.g1,h.r.below hb,h.r'.below hb⟩
theorem ot(d d':Ad) (c:Cl) (w:World) (hr:aA w d c.raw) (hr':aA w d' c.raw):
  Calls Tryz.prog 29 #[Zj (Zs d c.now),Zj (Zs d' c.now)] w λe w'=>e=Zh (Zf Zi)/\Below w.heap.size w w':=by
 unfold Zs;obtain⟨a1,l1,y1,a2,l2,y2,a3,l3,y3,a4,l4,y4,a5,l5,y5⟩:=d;obtain⟨p1,q1,z1,p2,q2,z2,p3,q3,z3,p4,q4,z4,p5,q5,z5⟩:=d';obtain rfl:l1=q1:=hr.n.1.symm.trans hr'.n.1;obtain rfl:l2=q2:=hr.k.1.symm.trans hr'.k.1;obtain rfl:l3=q3:=hr.v.1.symm.trans hr'.v.1;obtain rfl:l4=q4:=hr.x.1.symm.trans hr'.x.1;obtain rfl:l5=q5:=hr.p.1.symm.trans hr'.p.1;have hl1:l1<=9223372036854775807:=Yo hr.n.2.1 hr.n.2.2.1;have hl2:l2<=9223372036854775807:=Yo hr.k.2.1 hr.k.2.2.1;have hl3:l3<=9223372036854775807:=Yo hr.v.2.1 hr.v.2.2.1;have hl4:l4<=9223372036854775807:=Yo hr.x.2.1 hr.x.2.2.1;have hl5:l5<=9223372036854775807:=Yo hr.p.2.1 hr.p.2.2.1;have HS:Hid (LwS w ⟨a1,l1,y1,a2,l2,y2,a3,l3,y3,a4,l4,y4,a5,l5,y5⟩ ⟨p1,l1,z1,p2,l2,z2,p3,l3,z3,p4,l4,z4,p5,l5,z5⟩ c _):=⟨aM w (Ze (Zd a1 l1 y1 a2 l2 y2 a3 l3 y3 a4 l4 y4 a5 l5 y5 c.now) 29) (Ze (Zd p1 l1 z1 p2 l2 z2 p3 l3 z3 p4 l4 z4 p5 l5 z5 c.now) 29),du _ _ _,cL _ _ _,hr.below (aM _ _ _),hr'.below (aM _ _ _)⟩;clear hr hr';dsimp only;go_enter Tryz.func29,Tryz.ntmps29;go_wp2;go_loopw [5] (λi wr=> ∃k:Nat,k<=l1/\i=V O k/\Hid (LwS w ⟨a1,l1,y1,a2,l2,y2,a3,l3,y3,a4,l4,y4,a5,l5,y5⟩ ⟨p1,l1,z1,p2,l2,z2,p3,l3,z3,p4,l4,z4,p5,l5,z5⟩ c wr)) (λi _=>l1 - (intOf i).toNat);case atStart=>exact⟨0,by omega,rfl,HS.out⟩
 case round=>
  obtain⟨k,hk,rfl,HS⟩:=hrel;have s0:=al HS.g0 0;have s1:=al HS.g1 0;by_cases Zo:k<l1
  ·obtain⟨b,o,v,rfl,hb,hv,Zc⟩:=dF (HS.r.n) Zo;obtain⟨b',o',v',rfl,χ,hv',aou⟩:=dF (HS.r'.n) Zo;rw[hv] at hv';obtain rfl:=Yd hv';clear hv hv';obtain⟨va,vl,vc,Zx,-,-,c0,c1,c2,c3,c4,c5,c6⟩:=bo Zc;obtain⟨va',vl',vc',apX,-,-,d0,d1,d2,d3,d4,d5,d6⟩:=bo aou;clear Zc aou;have ZE:=Wd.ne wr;have g0:=λq:Wd wr=>q.slot (o:=0) HS.g0 rfl;have g1:=λq:Wd wr=>q.slot (o:=0) HS.g1 rfl;have HT:=G Zx;have HT':=G apX;clear Zx apX;have HE:=G (λq:Wd wr=>xO v.n v.z v.c v.s v.u v.d va vl vc v.zs va' vl' vc' q.w (HT.below q.b) (HT'.below q.b));have e0:∀q:Wd wr,q.w.cell? ⟨b,o+k*7,J⟩=M (I v.n):=λq=>(q.cell hb).trans c0;have f0:∀q:Wd wr,q.w.cell? ⟨b',o'+k*7,J⟩=M (I v.n):=λq=>(q.cell χ).trans d0;have e1:∀q:Wd wr,q.w.cell? ⟨b,o+k*7+1,J⟩=M (I v.z):=λq=>(q.cell hb).trans c1;have f1:∀q:Wd wr,q.w.cell? ⟨b',o'+k*7+1,J⟩=M (I v.z):=λq=>(q.cell χ).trans d1;have e2:∀q:Wd wr,q.w.cell? ⟨b,o+k*7+2,J⟩=M (V O v.c):=λq=>(q.cell hb).trans c2;have f2:∀q:Wd wr,q.w.cell? ⟨b',o'+k*7+2,J⟩=M (V O v.c):=λq=>(q.cell χ).trans d2;have e3:∀q:Wd wr,q.w.cell? ⟨b,o+k*7+3,J⟩=M (V O v.s):=λq=>(q.cell hb).trans c3;have f3:∀q:Wd wr,q.w.cell? ⟨b',o'+k*7+3,J⟩=M (V O v.s):=λq=>(q.cell χ).trans d3;have e4:∀q:Wd wr,q.w.cell? ⟨b,o+k*7+4,J⟩=M (V O v.u):=λq=>(q.cell hb).trans c4;have f4:∀q:Wd wr,q.w.cell? ⟨b',o'+k*7+4,J⟩=M (V O v.u):=λq=>(q.cell χ).trans d4;have e5:∀q:Wd wr,q.w.cell? ⟨b,o+k*7+5,J⟩=M (Zf v.d):=λq=>(q.cell hb).trans c5;have f5:∀q:Wd wr,q.w.cell? ⟨b',o'+k*7+5,J⟩=M (Zf v.d):=λq=>(q.cell χ).trans d5;have e6:∀q:Wd wr,q.w.cell? ⟨b,o+k*7+6,J⟩=M (U va vl vc):=λq=>(q.cell hb).trans c6;have f6:∀q:Wd wr,q.w.cell? ⟨b',o'+k*7+6,J⟩=M (U va' vl' vc'):=λq=>(q.cell χ).trans d6;clear c0 d0 c1 d1 c2 d2 c3 d3 c4 d4 c5 d5 c6 d6;have Zw:=@G _ @agm;exact aB
  ·obtain rfl:l1=k:=af
   go_wp2;go_loopw [6] (λi wr=> ∃k:Nat,k<=l2/\i=V O k/\Hid (LwS w ⟨a1,l1,y1,a2,l2,y2,a3,l3,y3,a4,l4,y4,a5,l5,y5⟩ ⟨p1,l1,z1,p2,l2,z2,p3,l3,z3,p4,l4,z4,p5,l5,z5⟩ c wr)) (λi _=>l2 - (intOf i).toNat);case atStart=>exact⟨0,by omega,rfl,HS.out⟩
   case round=>
    obtain⟨k,hk,rfl,HS⟩:=hrel;have s0:=al HS.g0 1;have s1:=al HS.g1 1;by_cases Zo:k<l2
    ·obtain⟨b,o,v,rfl,hb,hv,Zc⟩:=gR (HS.r.k) Zo;obtain⟨b',o',v',rfl,χ,hv',aou⟩:=gR (HS.r'.k) Zo;rw[hv] at hv';obtain rfl:=Yd hv';clear hv hv';obtain⟨-,-,c0,c1,c2,c3⟩:=dh Zc;obtain⟨-,-,d0,d1,d2,d3⟩:=dh aou;clear Zc aou;have ZE:=Wd.ne wr;have g0:=λq:Wd wr=>q.slot (o:=1) HS.g0 rfl;have g1:=λq:Wd wr=>q.slot (o:=1) HS.g1 rfl;have hqe:=λW=>amQ v.n v.x v.y v.z W;have hge:Tryz.prog.eqGuardType Tryz.prog.depth 72=Zg:=aW
     have e0:∀q:Wd wr,q.w.cell? ⟨b,o+k*4,J⟩=M (I v.n):=λq=>(q.cell hb).trans c0;have f0:∀q:Wd wr,q.w.cell? ⟨b',o'+k*4,J⟩=M (I v.n):=λq=>(q.cell χ).trans d0;have e1:∀q:Wd wr,q.w.cell? ⟨b,o+k*4+1,J⟩=M (Zf v.x):=λq=>(q.cell hb).trans c1;have f1:∀q:Wd wr,q.w.cell? ⟨b',o'+k*4+1,J⟩=M (Zf v.x):=λq=>(q.cell χ).trans d1;have e2:∀q:Wd wr,q.w.cell? ⟨b,o+k*4+2,J⟩=M (Zf v.y):=λq=>(q.cell hb).trans c2;have f2:∀q:Wd wr,q.w.cell? ⟨b',o'+k*4+2,J⟩=M (Zf v.y):=λq=>(q.cell χ).trans d2;have e3:∀q:Wd wr,q.w.cell? ⟨b,o+k*4+3,J⟩=M (I v.z):=λq=>(q.cell hb).trans c3;have f3:∀q:Wd wr,q.w.cell? ⟨b',o'+k*4+3,J⟩=M (I v.z):=λq=>(q.cell χ).trans d3;clear c0 d0 c1 d1 c2 d2 c3 d3;exact Py
    ·obtain rfl:l2=k:=af
     go_wp2;go_loopw [7] (λi wr=> ∃k:Nat,k<=l3/\i=V O k/\Hid (LwS w ⟨a1,l1,y1,a2,l2,y2,a3,l3,y3,a4,l4,y4,a5,l5,y5⟩ ⟨p1,l1,z1,p2,l2,z2,p3,l3,z3,p4,l4,z4,p5,l5,z5⟩ c wr)) (λi _=>l3 - (intOf i).toNat);case atStart=>exact⟨0,by omega,rfl,HS.out⟩
     case round=>
      obtain⟨k,hk,rfl,HS⟩:=hrel;have s0:=al HS.g0 2;have s1:=al HS.g1 2;by_cases Zo:k<l3
      ·obtain⟨b,o,v,rfl,hb,hv,Zc⟩:=bY (HS.r.v) Zo;obtain⟨b',o',v',rfl,χ,hv',aou⟩:=bY (HS.r'.v) Zo;rw[hv] at hv';obtain rfl:=Yd hv';clear hv hv';obtain⟨va,vl,vc,Zx,-,-,-,-,c0,c1,c2,c3,c4,c5,c6,c7⟩:=bm Zc;obtain⟨va',vl',vc',apX,-,-,-,-,d0,d1,d2,d3,d4,d5,d6,d7⟩:=bm aou;clear Zc aou;have ZE:=Wd.ne wr;have g0:=λq:Wd wr=>q.slot (o:=2) HS.g0 rfl;have g1:=λq:Wd wr=>q.slot (o:=2) HS.g1 rfl;have HT:=G Zx;have HT':=G apX;clear Zx apX;have HE:=G (λq:Wd wr=>kj v.n v.c v.z v.k v.x v.m v.y va vl vc v.zs va' vl' vc' q.w (HT.below q.b) (HT'.below q.b));have e0:∀q:Wd wr,q.w.cell? ⟨b,o+k*8,J⟩=M (I v.n):=λq=>(q.cell hb).trans c0;have f0:∀q:Wd wr,q.w.cell? ⟨b',o'+k*8,J⟩=M (I v.n):=λq=>(q.cell χ).trans d0;have e1:∀q:Wd wr,q.w.cell? ⟨b,o+k*8+1,J⟩=M (V O v.c):=λq=>(q.cell hb).trans c1;have f1:∀q:Wd wr,q.w.cell? ⟨b',o'+k*8+1,J⟩=M (V O v.c):=λq=>(q.cell χ).trans d1;have e2:∀q:Wd wr,q.w.cell? ⟨b,o+k*8+2,J⟩=M (I v.z):=λq=>(q.cell hb).trans c2;have f2:∀q:Wd wr,q.w.cell? ⟨b',o'+k*8+2,J⟩=M (I v.z):=λq=>(q.cell χ).trans d2;have e3:∀q:Wd wr,q.w.cell? ⟨b,o+k*8+3,J⟩=M (I v.k):=λq=>(q.cell hb).trans c3;have f3:∀q:Wd wr,q.w.cell? ⟨b',o'+k*8+3,J⟩=M (I v.k):=λq=>(q.cell χ).trans d3;have e4:∀q:Wd wr,q.w.cell? ⟨b,o+k*8+4,J⟩=M (Zf v.x):=λq=>(q.cell hb).trans c4;have f4:∀q:Wd wr,q.w.cell? ⟨b',o'+k*8+4,J⟩=M (Zf v.x):=λq=>(q.cell χ).trans d4;have e5:∀q:Wd wr,q.w.cell? ⟨b,o+k*8+5,J⟩=M (I v.m):=λq=>(q.cell hb).trans c5;have f5:∀q:Wd wr,q.w.cell? ⟨b',o'+k*8+5,J⟩=M (I v.m):=λq=>(q.cell χ).trans d5;have e6:∀q:Wd wr,q.w.cell? ⟨b,o+k*8+6,J⟩=M (Zf v.y):=λq=>(q.cell hb).trans c6;have f6:∀q:Wd wr,q.w.cell? ⟨b',o'+k*8+6,J⟩=M (Zf v.y):=λq=>(q.cell χ).trans d6;have e7:∀q:Wd wr,q.w.cell? ⟨b,o+k*8+7,J⟩=M (U va vl vc):=λq=>(q.cell hb).trans c7;have f7:∀q:Wd wr,q.w.cell? ⟨b',o'+k*8+7,J⟩=M (U va' vl' vc'):=λq=>(q.cell χ).trans d7;clear c0 d0 c1 d1 c2 d2 c3 d3 c4 d4 c5 d5 c6 d6 c7 d7;have Zw:=@G _ @agl;exact aB
      ·obtain rfl:l3=k:=af
       go_wp2;go_loopw [8] (λi wr=> ∃k:Nat,k<=l4/\i=V O k/\Hid (LwS w ⟨a1,l1,y1,a2,l2,y2,a3,l3,y3,a4,l4,y4,a5,l5,y5⟩ ⟨p1,l1,z1,p2,l2,z2,p3,l3,z3,p4,l4,z4,p5,l5,z5⟩ c wr)) (λi _=>l4 - (intOf i).toNat);case atStart=>exact⟨0,by omega,rfl,HS.out⟩
       case round=>
        obtain⟨k,hk,rfl,HS⟩:=hrel;have s0:=al HS.g0 3;have s1:=al HS.g1 3;by_cases Zo:k<l4
        ·obtain⟨b,o,v,rfl,hb,hv,Zc⟩:=dB (HS.r.x) Zo;obtain⟨b',o',v',rfl,χ,hv',aou⟩:=dB (HS.r'.x) Zo;rw[hv] at hv';obtain rfl:=Yd hv';clear hv hv';obtain⟨-,-,-,c0,c1,c2,c3,c4⟩:=bD Zc;obtain⟨-,-,-,d0,d1,d2,d3,d4⟩:=bD aou;clear Zc aou;have ZE:=Wd.ne wr;have g0:=λq:Wd wr=>q.slot (o:=3) HS.g0 rfl;have g1:=λq:Wd wr=>q.slot (o:=3) HS.g1 rfl;have hqe:=λW=>aiK v.n v.z v.k v.x v.v W;have hge:Tryz.prog.eqGuardType Tryz.prog.depth 47=Zg:=aW
         have e0:∀q:Wd wr,q.w.cell? ⟨b,o+k*5,J⟩=M (I v.n):=λq=>(q.cell hb).trans c0;have f0:∀q:Wd wr,q.w.cell? ⟨b',o'+k*5,J⟩=M (I v.n):=λq=>(q.cell χ).trans d0;have e1:∀q:Wd wr,q.w.cell? ⟨b,o+k*5+1,J⟩=M (V O v.z):=λq=>(q.cell hb).trans c1;have f1:∀q:Wd wr,q.w.cell? ⟨b',o'+k*5+1,J⟩=M (V O v.z):=λq=>(q.cell χ).trans d1;have e2:∀q:Wd wr,q.w.cell? ⟨b,o+k*5+2,J⟩=M (I v.k):=λq=>(q.cell hb).trans c2;have f2:∀q:Wd wr,q.w.cell? ⟨b',o'+k*5+2,J⟩=M (I v.k):=λq=>(q.cell χ).trans d2;have e3:∀q:Wd wr,q.w.cell? ⟨b,o+k*5+3,J⟩=M (Zf v.x):=λq=>(q.cell hb).trans c3;have f3:∀q:Wd wr,q.w.cell? ⟨b',o'+k*5+3,J⟩=M (Zf v.x):=λq=>(q.cell χ).trans d3;have e4:∀q:Wd wr,q.w.cell? ⟨b,o+k*5+4,J⟩=M (I v.v):=λq=>(q.cell hb).trans c4;have f4:∀q:Wd wr,q.w.cell? ⟨b',o'+k*5+4,J⟩=M (I v.v):=λq=>(q.cell χ).trans d4;clear c0 d0 c1 d1 c2 d2 c3 d3 c4 d4;exact Py
        ·obtain rfl:l4=k:=af
         go_wp2;go_loopw [9] (λi wr=> ∃k:Nat,k<=l5/\i=V O k/\Hid (LwS w ⟨a1,l1,y1,a2,l2,y2,a3,l3,y3,a4,l4,y4,a5,l5,y5⟩ ⟨p1,l1,z1,p2,l2,z2,p3,l3,z3,p4,l4,z4,p5,l5,z5⟩ c wr)) (λi _=>l5 - (intOf i).toNat);case atStart=>exact⟨0,by omega,rfl,HS.out⟩
         case round=>
          obtain⟨k,hk,rfl,HS⟩:=hrel;have s0:=al HS.g0 4;have s1:=al HS.g1 4;by_cases Zo:k<l5
          ·obtain⟨b,o,v,rfl,hb,hv,Zc⟩:=db (HS.r.p) Zo;obtain⟨b',o',v',rfl,χ,hv',aou⟩:=db (HS.r'.p) Zo;rw[hv] at hv';obtain rfl:=Yd hv';clear hv hv';obtain⟨va,vl,vc,Zx,-,-,-,c0,c1,c2,c3,c4,c5⟩:=bK Zc;obtain⟨va',vl',vc',apX,-,-,-,d0,d1,d2,d3,d4,d5⟩:=bK aou;clear Zc aou;have ZE:=Wd.ne wr;have g0:=λq:Wd wr=>q.slot (o:=4) HS.g0 rfl;have g1:=λq:Wd wr=>q.slot (o:=4) HS.g1 rfl;have HT:=G Zx;have HT':=G apX;clear Zx apX;have HE:=G (λq:Wd wr=>xN v.n v.c v.z v.d v.p va vl vc v.zs va' vl' vc' q.w (HT.below q.b) (HT'.below q.b));have e0:∀q:Wd wr,q.w.cell? ⟨b,o+k*6,J⟩=M (I v.n):=λq=>(q.cell hb).trans c0;have f0:∀q:Wd wr,q.w.cell? ⟨b',o'+k*6,J⟩=M (I v.n):=λq=>(q.cell χ).trans d0;have e1:∀q:Wd wr,q.w.cell? ⟨b,o+k*6+1,J⟩=M (V O v.c):=λq=>(q.cell hb).trans c1;have f1:∀q:Wd wr,q.w.cell? ⟨b',o'+k*6+1,J⟩=M (V O v.c):=λq=>(q.cell χ).trans d1;have e2:∀q:Wd wr,q.w.cell? ⟨b,o+k*6+2,J⟩=M (I v.z):=λq=>(q.cell hb).trans c2;have f2:∀q:Wd wr,q.w.cell? ⟨b',o'+k*6+2,J⟩=M (I v.z):=λq=>(q.cell χ).trans d2;have e3:∀q:Wd wr,q.w.cell? ⟨b,o+k*6+3,J⟩=M (U va vl vc):=λq=>(q.cell hb).trans c3;have f3:∀q:Wd wr,q.w.cell? ⟨b',o'+k*6+3,J⟩=M (U va' vl' vc'):=λq=>(q.cell χ).trans d3;have e4:∀q:Wd wr,q.w.cell? ⟨b,o+k*6+4,J⟩=M (I v.d):=λq=>(q.cell hb).trans c4;have f4:∀q:Wd wr,q.w.cell? ⟨b',o'+k*6+4,J⟩=M (I v.d):=λq=>(q.cell χ).trans d4;have e5:∀q:Wd wr,q.w.cell? ⟨b,o+k*6+5,J⟩=M (V O v.p):=λq=>(q.cell hb).trans c5;have f5:∀q:Wd wr,q.w.cell? ⟨b',o'+k*6+5,J⟩=M (V O v.p):=λq=>(q.cell χ).trans d5;clear c0 d0 c1 d1 c2 d2 c3 d3 c4 d4 c5 d5;have Zw:=@G _ @agk;exact aB
          ·obtain rfl:l5=k:=af
           go_wp2;go_ret;exact⟨rfl,HS.hb⟩
theorem B8(g g':Ad) (o:Co) (w:World) (hr:aA w g o.c.raw) (hr':aA w g' o.c.raw) (h:o.p=0->au o.c):
  Calls Tryz.prog 9 #[Zj #[U g.a1 g.l1 g.c1,U g.a2 g.l2 g.c2,U g.a3 g.l3 g.c3,U g.a4 g.l4 g.c4,U g.a5 g.l5 g.c5,V O o.c.now,I o.n,V O o.p],Zj #[U g'.a1 g'.l1 g'.c1,U g'.a2 g'.l2 g'.c2,U g'.a3 g'.l3 g'.c3,U g'.a4 g'.l4 g'.c4,U g'.a5 g'.l5 g'.c5,V O o.c.now,I o.n,V O o.p]] w λe w'=>e=Zh (Zf Zi)/\Below w.heap.size w w':=by
 have HR:=G hr;have HR':=G hr';have HI:=G h;have HB:=G (Yh w.heap.size w);clear hr hr' h;go_enter Tryz.func9,Tryz.ntmps9;go_wp2_with fail;refine (ot g g' o.c _ (HR.below (HB.trans ((aM _ _ _).mono HB.size))) (HR'.below (HB.trans ((aM _ _ _).mono HB.size)))).mono ?_;rintro e w1 ⟨rfl,hb⟩;obtain⟨ZD,Ν,Zr⟩:=dK hb;have Ba:=G ZD;have Bb:=G Ν;replace HB:=upB HB Zr;clear hb Zr ZD Ν;obtain⟨a0,a1,a2,a3,a4,a5,a6,a7⟩:=cs8 Ba;obtain⟨b0,b1,b2,b3,b4,b5,b6,b7⟩:=cs8 Bb;by_cases hp:o.p=0
 ·have hp1:(o.p==0)=Zi:=iY
  go_wp2_with fail;refine ((cI g o.c _ (HR.below HB.out)).mono λ_ _ q=>ar.yes q (HI.out hp)).mono ?_;rintro e w2 ⟨rfl,hb⟩;replace HB:=upB HB hb;go_wp2;go_ret;exact⟨rfl,HB.out⟩
 ·have hp1:(o.p==0)=Zg:=iY
  go_wp2;go_ret;exact⟨rfl,HB.out⟩
end Rc
def pN(k:IntKind) (w:World) (a:Option Addr) (len cap:Nat) (zs:List Int):Prop:=
 (a=J/\len=0/\cap=0/\zs=[])\/
 ∃x,a=M x/\len<=cap/\cap<=maxLen/\zs.length=cap/\(∀i,i<zs.length->w.cell? (x.add i)=M (V k (zs.getD i 0)))/\∀n∈zs,(Lit.int k n).wf=Zi
theorem pN.ahy {len:Nat} {zs:List Int} (h:pN .u8 w a len cap zs) (hl:len<=1048576):d_ w.heap.size w (U a len cap) len:=by
 refine⟨by omega,a,cap,rfl,λj hj=>?_⟩;rcases h with ⟨rfl,rfl,rfl,rfl⟩|⟨x,rfl,hlc,_,hz,hcell,hwf⟩
 ·omega
 ·obtain⟨b,off,spot⟩:=x;have hc:=hcell j af;have axC:spot=J:=by
   have h0:=hcell 0 af;simpa[Addr.add] using World.cell?_spot h0
  subst axC;rw[Ym] at hc;have hb:b<w.heap.size:=by
   rcases Nat.lt_or_ge b w.heap.size with h1|h1
   ·exact h1
   ·simp[YX,Array.getElem?_eq_none h1] at hc
  have aoa:zs.getD j 0∈zs:=by
   rw[List.getD_eq_getElem?_getD,Yi af];simp
  have hw:=hwf _ aoa;simp[Lit.wf,IntKind.min,IntKind.max,IntKind.signed,IntKind.bits] at hw;have e:zs.getD j 0=zs[j]?.getD 0:=List.getD_eq_getElem?_getD ..;exact⟨b,off,zs.getD j 0,rfl,hb,hc,by rw[e];omega,by rw[e];omega⟩
theorem alr(h:p:=by refine Obl.guarded rfl rfl (by intro a w e;simpa[slotFact,Yg] using e) ?_;intro ac wg K Zq hW hf hK;clear Zq;simp[looksOf,Op.operands,slotFact,Yg] at hf;go_simp;refine hK _ _ (Yh _ _) ?_;first|with_reducible rfl|(simp;done)|rfl):p:=h
theorem Grow.stepB {t:Tmp} {c:Value} (h:Grow P ops Q W a0 back rest ((t,λv _=>v=c) ::known)) (hd:o.dst=M t:=by rfl) (ho:Obl P ops Q W a0 known o (λv _=>v=c):=by exact alr):Grow P ops Q W a0 back (o ::rest) known:=Grow.stepC c hd ho h
theorem amN(h:p:=by intro hB;refine Obl.guarded rfl rfl (by intro a w e;simpa[slotFact,Yg] using e) ?_;intro ac wg K Zq hW hf hK;clear Zq;have gd:=(hW.block _ (ae hB)).trans hB;clear hB;simp[looksOf,Op.operands,slotFact,Yg] at hf;(first|(obtain⟨k0,k1,k2,k3,k4,k5⟩:=cs6 gd)|(obtain⟨k0,k1,k2,k3,k4,k5,k6,k7⟩:=cs8 gd)|(obtain⟨k0,k1,k2,k3,k4,k5,k6⟩:=cs7 gd)|(obtain⟨k0,k1,k2,k3,k4,k5,k6,k7,k8⟩:=cs9 gd)|(obtain⟨k0,k1⟩:=cs2 gd)|(obtain⟨k0,k1,k2,k3⟩:=cs4 gd)|(obtain⟨k0,k1,k2,k3,k4⟩:=cs5 gd));clear gd;go_simp;refine hK _ _ (Yh _ _) ?_;first|with_reducible rfl|(simp;done)|rfl):p:=h
theorem Grow.gO {t:Tmp} {c:Value} {cs:Array Value} {f:Nat×Nat} (hB:W.heap[b]?=M (Ze cs T f)) (h:Grow P ops Q W a0 back rest ((t,λv _=>v=c) ::known)) (hd:o.dst=M t:=by rfl) (ho:W.heap[b]?=M (Ze cs T f)->Obl P ops Q W a0 known o (λv _=>v=c):=by exact amN):Grow P ops Q W a0 back (o ::rest) known:=Grow.stepC c hd (ho hB) h
namespace Rc
theorem ahx {B':Nat} {len:Nat} (h:d_ B w v len) (hB:B<=B'):d_ B' w v len:=by
 obtain⟨h1,a0,cap,h2,h3⟩:=h;exact⟨h1,a0,cap,h2,λj hj=>by obtain⟨b,off,z,h4,h5,h6⟩:=h3 j hj;exact⟨b,off,z,h4,by omega,h6⟩⟩
def CoF(o:Co):Fact:=λv w=> ∃g:Ad,v=Zj #[U g.a1 g.l1 g.c1,U g.a2 g.l2 g.c2,U g.a3 g.l3 g.c3,U g.a4 g.l4 g.c4,U g.a5 g.l5 g.c5,V O o.c.now,I o.n,V O o.p]/\aA w g o.c.raw
theorem CoF.mono(o:Co):Fact.bT (CoF o):=λ_ _ _ ⟨g,h,h1⟩ hb=>⟨g,h,h1.below hb⟩
def VoF(o:Vo):Fact:=λv w=> ∃(a:Option Addr) (l c:Nat),v=Zj #[I o.u.n,V O o.u.c,I o.u.z,I o.u.k,Zf o.u.x,I o.u.m,Zf o.u.y,U a l c,V O o.p]/\aw w a l c o.u.zs
theorem VoF.mono(o:Vo):Fact.bT (VoF o):=λ_ _ _ ⟨a,l,c,h,h1⟩ hb=>⟨a,l,c,h,h1.below hb⟩
def VuF(o:Vo):Fact:=λv w=> ∃(a:Option Addr) (l c:Nat),v=Zj #[I o.u.n,V O o.u.c,I o.u.z,I o.u.k,Zf o.u.x,I o.u.m,Zf o.u.y,U a l c]/\aw w a l c o.u.zs
theorem VuF.mono(o:Vo):Fact.bT (VuF o):=λ_ _ _ ⟨a,l,c,h,h1⟩ hb=>⟨a,l,c,h,h1.below hb⟩
def TxF(zs:List ByteArray):Fact:=λv w=> ∃(a:Option Addr) (l c:Nat),v=U a l c/\aw w a l c zs
theorem TxF.mono(zs:List ByteArray):Fact.bT (TxF zs):=λ_ _ _ ⟨a,l,c,h,h1⟩ hb=>⟨a,l,c,h,h1.below hb⟩
def CoP(p:Int):Fact:=λv _=> ∃(g:Ad) (o:Co),v=Zj #[U g.a1 g.l1 g.c1,U g.a2 g.l2 g.c2,U g.a3 g.l3 g.c3,U g.a4 g.l4 g.c4,U g.a5 g.l5 g.c5,V O o.c.now,I o.n,V O o.p]/\o.p=p
theorem CoP.mono(p:Int):Fact.bT (CoP p):=λ_ _ _ h _=>h
def LnF(l:Nat):Fact:=λv _=> ∃(a:Option Addr) (c:Nat),v=U a l c
theorem LnF.mono(l:Nat):Fact.bT (LnF l):=λ_ _ _ h _=>h
set_option linter.unusedVariables false in
theorem Cs(v v2:Value) (len aua:Nat) (E:Nat->Addr) (w:World) (hv:∃a cap,v=U a len cap) (hv2:∃a cap,v2=U a aua cap) (hR:d_ w.heap.size w v len) (hR2:d_ w.heap.size w v2 aua) (hl:len<=1048576) (hl2:aua<=1048576) (hG:Ers w E):
  Calls Tryz.prog 3 #[v,v2] w λe w'=>e=Zh (Zf Zi)/\Below w.heap.size w w':=by
 obtain⟨ac,cc,rfl⟩:=hv;obtain⟨am,cm,rfl⟩:=hv2;have HR:=G hR;have HR2:=G hR2;have HE:=G hG;clear hR hR2 hG;go_enter Tryz.func3,Tryz.ntmps3;go_wp2_with fail;refine (rj _ len _ HR.out).mono ?_;rintro e w1 ⟨⟨a11,l11,y11,a21,l21,y21,a31,l31,y31,a41,l41,y41,a51,l51,y51⟩,c1,t1,rfl,hr,ht1,hb⟩;have HB:=G hb;have μ:=G hr;clear hr hb;go_wp2_with fail;refine (pD ⟨a11,l11,y11,a21,l21,y21,a31,l31,y31,a41,l41,y41,a51,l51,y51⟩ c1 t1 E _ (μ.below (aj _ _)) ((HE.below HB.out).below (aj _ _))).mono ?_;rintro e w2 ⟨g1,o1,rfl,hI,ho,hb⟩;obtain⟨ZD,Zr⟩:=aY hb;replace HB:=upB HB Zr;replace μ:=G (μ.below Zr);have Bc1:=G ZD;have Κ:=G ho.row;have HI1:=G hI;clear hI ho hb Zr ZD;go_wp2_with fail;have HRQ:=G (ahx (HR2.below (HB.trans ((aj w2 (Ze #[U g1.a1 g1.l1 g1.c1,U g1.a2 g1.l2 g1.c2,U g1.a3 g1.l3 g1.c3,U g1.a4 g1.l4 g1.c4,U g1.a5 g1.l5 g1.c5,V O o1.c.now,I o1.n,V O o1.p] 33)).mono HB.size))) (HB.trans ((aj w2 (Ze #[U g1.a1 g1.l1 g1.c1,U g1.a2 g1.l2 g1.c2,U g1.a3 g1.l3 g1.c3,U g1.a4 g1.l4 g1.c4,U g1.a5 g1.l5 g1.c5,V O o1.c.now,I o1.n,V O o1.p] 33)).mono HB.size)).size);refine (vV _ aua _ HRQ.out).mono ?_;rintro e w3 ⟨⟨a12,l12,y12,a22,l22,y22,a32,l32,y32,a42,l42,y42,a52,l52,y52⟩,c2,t2,rfl,hr,ht2,hb⟩;obtain⟨ZD,Zr⟩:=aY hb;replace HB:=upB HB Zr;replace μ:=G (μ.below Zr);replace Bc1:=upK Bc1 Zr;replace Κ:=G (Κ.below Zr);have Bx1:=G ZD;have HC2:=G hr;clear hr hb Zr ZD;go_wp2_with fail;refine (vN ⟨a12,l12,y12,a22,l22,y22,a32,l32,y32,a42,l42,y42,a52,l52,y52⟩ c2 t2 E _ (HC2.below (aj _ _)) ((HE.below HB.out).below (aj _ _))).mono ?_;rintro e w4 ⟨va,vl,vc,u,rfl,hI,ho,hb⟩;obtain⟨ZD,Zr⟩:=aY hb;replace HB:=upB HB Zr;replace μ:=G (μ.below Zr);replace Bc1:=upK Bc1 Zr;replace Κ:=G (Κ.below Zr);replace Bx1:=upK Bx1 Zr;replace HC2:=G (HC2.below Zr);have Bc2:=G ZD;have HV:=G ho.row;have HI2:=G hI;clear hI ho hb Zr ZD;go_wp2_with fail;have HRQ:=G (ahx (HR2.below (HB.trans ((aj w4 (Ze #[I u.u.n,V O u.u.c,I u.u.z,I u.u.k,Zf u.u.x,I u.u.m,Zf u.u.y,U va vl vc,V O u.p] 39)).mono HB.size))) (HB.trans ((aj w4 (Ze #[I u.u.n,V O u.u.c,I u.u.z,I u.u.k,Zf u.u.x,I u.u.m,Zf u.u.y,U va vl vc,V O u.p] 39)).mono HB.size)).size);refine (vW _ aua _ HRQ.out).mono ?_;rintro e w5 ⟨⟨a13,l13,y13,a23,l23,y23,a33,l33,y33,a43,l43,y43,a53,l53,y53⟩,c3,rfl,hr,hb⟩;obtain⟨ZD,Zr⟩:=aY hb;replace HB:=upB HB Zr;replace μ:=G (μ.below Zr);replace Bc1:=upK Bc1 Zr;replace Κ:=G (Κ.below Zr);replace Bx1:=upK Bx1 Zr;replace HC2:=G (HC2.below Zr);replace Bc2:=upK Bc2 Zr;replace HV:=G (HV.below Zr);have Bv:=G ZD
 have HC3:=G hr;clear hr hb Zr ZD;go_wp2_with fail;have hbX:=aj w5 (Ze (Zd a13 l13 y13 a23 l23 y23 a33 l33 y33 a43 l43 y43 a53 l53 y53 c3.now) 29);replace HB:=upB HB hbX;replace μ:=G (μ.below hbX);replace Bc1:=upK Bc1 hbX;replace Κ:=G (Κ.below hbX);replace Bx1:=upK Bx1 hbX;replace HC2:=G (HC2.below hbX);replace Bc2:=upK Bc2 hbX;replace HV:=G (HV.below hbX);replace Bv:=upK Bv hbX;replace HC3:=G (HC3.below hbX);have Bc3:Hid ((w5.alloc (Ze (Zd a13 l13 y13 a23 l23 y23 a33 l33 y33 a43 l43 y43 a53 l53 y53 c3.now) 29)).heap[w5.heap.size]?=M (Ze (Zd a13 l13 y13 a23 l23 y23 a33 l33 y33 a43 l43 y43 a53 l53 y53 c3.now) 29 (0,0))):=Yf;clear hbX;generalize hX:w5.heap.size=bc3 at*;generalize (w5.alloc (Ze (Zd a13 l13 y13 a23 l23 y23 a33 l33 y33 a43 l43 y43 a53 l53 y53 c3.now) 29))=W at*;generalize hX4:w4.heap.size=bv at*;generalize hX3:w3.heap.size=bc2 at*;generalize hX2:w2.heap.size=bx1 at*;generalize hX1:w1.heap.size=bc1 at*;clear hX hX1 hX2 hX3 hX4;obtain⟨zs3,HZ3⟩:∃zs,Hid (iy c3 zs):=by
  by_cases hr9:au c3
  ·exact⟨_,Zl ⟨hr9,rfl⟩⟩
  ·exact⟨_,Zk ⟨hr9,rfl⟩⟩
 have aqr:=@G _ @Iq;exact ng
end Rc
set_option linter.unusedVariables false in
theorem vU(a0:Option Addr) (auk awA:Nat) (z0:List Int) (a1:Option Addr) (aul awB:Nat) (z1:List Int) (w:World) (w0:pN .u8 w a0 auk awA z0) (w1:pN .u8 w a1 aul awB z1) (hG:∃E,Ers w E):
  Calls Tryz.prog 3 #[U a0 auk awA,U a1 aul awB] w λe w'=>e=Zh (Zf Zi)/\Below w.heap.size w w':=by
 obtain⟨E,hG⟩:=hG;by_cases h0:1048576<auk
 ·clear w0 w1 hG;go_enter Tryz.func3,Tryz.ntmps3;go_wp2;go_ret;exact⟨rfl,Yh _ _⟩
 by_cases h1:1048576<aul
 ·clear w0 w1 hG;go_enter Tryz.func3,Tryz.ntmps3;go_wp2;go_ret;exact⟨rfl,Yh _ _⟩
 exact Cs _ _ auk aul E w ⟨a0,awA,rfl⟩ ⟨a1,awB,rfl⟩ (w0.ahy af) (w1.ahy af) af af hG
namespace Rc
theorem rK: "*" ++ "errors.errorString" = "*errors.errorString":=by decide
theorem anf(u:TypeId) (h:Tryz.prog.typeName? 3 u=M "*errors.errorString"):u=217:=
 typeName_ptr_named (nm:= "errors.errorString") (by rw[rK];kernel_rfl) aW ag u (by rw[rK];exact h)
theorem xQ {nm:String} {ti tp te ts:TypeId} {ms:Array (String×TypeId)} {f:Field} (hi:P.underlying ti=M (.interface ms)) (aop:∀u,P.typeName? 3 u=M nm->u=tp)
  (hp:P.underlying tp=M (.pointer te)) (he:P.underlying te=M (.struct #[f])) (hft:f.type=ts) (hfo:f.offset=0) (hs:P.underlying ts=M .string) (hc:P.cellsOf te=1) (hcs:P.cellsOf ts=1):
  ∀(l:List (String×List UInt8)) (ps:List MemPlace),(∀x∈l,∃g,P.globalNamed x.1=M g/\(P.globals[g]?).map (·.type)=M ti)->
   DataW.LaidVars P W (l.map λx=>(x.1,.iface nm (.ptr (.agg [.lit (.string x.2)])))) ps->ps.Nodup->
   (∀b off,MemPlace.cell b off∈ps->(∃c t,W.heap[b]?=M (Ze c t (0,0)))/\∀u v,W.cell? ⟨b,off,J⟩=M (.iface u v)->Value.okWide P W .any 0 u v)->
   ∃E:Nat->Addr,(∀(i:Nat) x,l[i]?=M x->W.var? P x.1=M #[.iface tp (Zm (M (E i)))]/\MemPlace.cell (E i).block (E i).off∈ps)/\∀i j,i<l.length->j<l.length->E i=E j->i=j
 | [],ps,_,_,_,_=>⟨λ_=>⟨0,0,J⟩,λi x h=>by simp at h,λi j h=>by simp at h⟩
 | x ::l,ps,hT,hv,hnd,hrows=>by
  obtain⟨g,t,cs,fuel,p,q,hg,ht,axD,hd,hq,rfl⟩:=hv;obtain⟨g',hg',ht'⟩:=hT x aF;obtain rfl:=Yd (hg.symm.trans hg');obtain rfl:=Yd (ht.symm.trans ht');have axE:∀{y},y∈q->y∈MemPlace.row ⟨g,0,J⟩ cs.size++p++q:=λh=>Y8 _ h;obtain⟨E,hE1,hE2⟩:=xQ hi aop hp he hft hfo hs hc hcs l q (λy hy=>hT y (by simp[hy])) hq (List.Nodup.sublist (List.sublist_append_right _ _) hnd) (λb off hm=>hrows b off (axE hm));obtain⟨l0⟩:=cs;have ok0:∀u v,l0=[.iface u v]->Value.okWide P W .any 0 u v:=λu v e=>by
   subst e;exact (hrows g 0 (by simp[MemPlace.row])).2 u v (by simpa using World.var?_cell hg axD 0)
  obtain⟨a0,s0,rfl,hc0,hs0,ZO,rfl⟩:=errorString_of_trod hi aop hp he hft hfo hs hc hcs hd ok0;have ha:MemPlace.cell a0.block a0.off∈MemPlace.row a0 1:=by simp[MemPlace.row]
  have axF:∀i,i<l.length->¬E i=a0:=λi hi' e=>by
   have h1:=(hE1 i _ (Yi hi')).2;rw[e] at h1;have h2:=(List.nodup_append.1 hnd).2.2 _ (Y8 _ ha) _ h1;exact h2 rfl
  refine⟨λi=>match i with|0=>a0|i+1=>E i,λi y hy=>?_,λi j hi' Λ e=>?_⟩
  ·cases i with
   | zero=>
    obtain rfl:x=y:=by simpa using hy
    exact⟨axD,List.mem_append_left _ (Y8 _ ha)⟩
   | succ i=>
    obtain⟨h1,h2⟩:=hE1 i y (by simpa using hy);exact⟨h1,axE h2⟩
  ·cases i with
   | zero=>cases j with
    | zero=>rfl
    | succ j=>exact absurd e.symm (axF j (by simpa using Λ))
   | succ i=>cases j with
    | zero=>exact absurd e (axF i (by simpa using hi'))
    | succ j=>rw[hE2 i j (by simpa using hi') (by simpa using Λ) e]
theorem rN {H:Type} {enc:TypeId×Value->H} {sp:Nat->Bool} :∀(ns:List String) (gs:List (DataW H)) (ps:List MemPlace),DataW.TrodVars enc P w sp ns gs ps->gs.length=ns.length
 | [],[],_,_=>rfl
 | [],_ ::_,_,h=>h.elim
 | _ ::_,[],_,h=>h.elim
 | _ ::ns,_ ::gs,_,h=>by
  obtain⟨_,_,_,_,_,q,_,_,_,_,h1,_⟩:=h;simp[rN ns gs q h1]
theorem anT:∀{l:List α},l.length=10->∃a b c d e f g h i j,l=[a,b,c,d,e,f,g,h,i,j]
 | [a,b,c,d,e,f,g,h,i,j],_=>⟨a,b,c,d,e,f,g,h,i,j,rfl⟩
end Rc
end Go.Proofs.YtcnmlpiffcldkaaGreatDoor

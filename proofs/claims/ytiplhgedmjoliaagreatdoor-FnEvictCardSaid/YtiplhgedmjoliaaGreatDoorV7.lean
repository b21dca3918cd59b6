import Derived.Test.YtiplhgedmjoliaaGreatDoorV6
import Derived.Deep.CutRange
set_option maxRecDepth 100000
set_option maxHeartbeats 12800000
open Bool renaming false→Y8,true→Y_
open Go.Ending renaming returned→Y9
open Go.IntKind renaming i64→Y5
open Go.Obj renaming cells→Y6
open Go.Value renaming string→I,slice→J,int→Y4,bool→Y7,agg→Za,pointer→Zd,tuple→Ze
open Option renaming none→U,some→Y3
open Or renaming inr→Zb,inl→Zc
open And renaming intro→Yb
open Array renaming getElem?_push_size→Yg, getD_eq_getD_getElem?→Yp, getElem?_eq_some_iff→Yw
open Bool renaming and_eq_true→YE
open Go.Addr renaming add_lit→Yo
open Go.Calls renaming quiet_of_same→YC
open Go.Op renaming bytesLess→Yk
open Go.Region renaming ready→YR
open Go.RowKit.Below renaming heap_setCell→Ya, refl→Yh, heap_alloc→Ym
open Go.Value renaming string→Yn, ownBlock→YJ
open Go.World renaming setCell→YO
open List renaming getElem?_eq_some_iff→Yc, lookup→Yf, getElem?_eq_getElem→Yi, length_map→Yr, setIfInBounds_toArray→Ys, getElem?_map→Yt, mem_of_getElem?→Yu, getElem?_append_left→Yv, drop_eq_nil_of_le→Yx, set_cons_zero→YA, set_cons_succ→YB, getElem?_take→YD, getElem?_of_mem→YF, length_take→YG, take_of_length_le→YH, length_set→YK, take_add_one→YL, foldr→YQ
open Nat renaming le_refl→Ye, lt_of_lt_of_le→Yj, le_trans→Yl, zero_add→Yq, le_succ→Yy, zero_le→YI
open Option renaming map_eq_some_iff→Yz
open Option.some renaming inj→Yd
namespace Go.Proofs.YtiplhgedmjoliaaGreatDoor
variable {p:Prop}
namespace Mk
end Mk
open Go.RowKit Mk
theorem kI(h:p:=by simp[results,Tryz.results114,go_sem, *]):p:=h
theorem tD(h:p:=by simp[results,Tryz.results113,go_sem, *]):p:=h
theorem mU(h:p:=by simpa using hp0):p:=h
theorem Pn(h:p:=by
 rcases hp with ⟨h1,rfl⟩|⟨h1,h2,rfl⟩|⟨h1,h2,rfl⟩
 ·exact Zc ⟨by decide,0,h1,rfl⟩
 ·exact Zc ⟨by decide,1,⟨h1,h2⟩,rfl⟩
 ·exact Zb ⟨rfl,h1,h2⟩):p:=h
theorem vB(h:p:=by
 clear hf;obtain⟨n0,n1,n2,n3,n4,n5,n6⟩:=cs7 ((hW.block _ (ae Bn.out)).trans Bn.out);have ltn:=Yj (ae Bn.out) hW.size;exact aL):p:=h
theorem Ou(h:p:=by
 have z1090z:=@aa _ @LP;exact mL):p:=h
theorem Oj(h:p:=by
 clear hf;obtain⟨p0,p1,p2,p3,p4,p5⟩:=cs6 ((hW.block _ (ae Bp.out)).trans Bp.out);have ltp:=Yj (ae Bp.out) hW.size;exact aL):p:=h
theorem ami(h:p:=by
 have hszv1:((((w.alloc (Y6 (clo6 (Y3 ⟨bn,on,U⟩) l1 y1 a2 l2 y2 a3 l3 y3 a4 l4 y4 (Y3 ⟨b,o,U⟩) l5 y5 c.now) 29)).alloc (Y6 (clo6 U 0 0 U 0 0 U 0 0 U 0 0 U 0 0 0) 29)).alloc (Y6 (pov p va vl vc) 40)).alloc (Y6 #[I n.n,I n.z,Y4 Y5 n.c,Y4 Y5 n.s,Y4 Y5 n.u,Y7 Y8,J ua ul uc] 38)).heap.size=w.heap.size+1+1+1+1:=aF
 have Gk:Hid (((((w.alloc (Y6 (clo6 (Y3 ⟨bn,on,U⟩) l1 y1 a2 l2 y2 a3 l3 y3 a4 l4 y4 (Y3 ⟨b,o,U⟩) l5 y5 c.now) 29)).alloc (Y6 (clo6 U 0 0 U 0 0 U 0 0 U 0 0 U 0 0 0) 29)).alloc (Y6 (pov p va vl vc) 40)).alloc (Y6 #[I n.n,I n.z,Y4 Y5 n.c,Y4 Y5 n.s,Y4 Y5 n.u,Y7 Y8,J ua ul uc] 38)).heap[w.heap.size]?=Y3 (Y6 (clo6 (Y3 ⟨bn,on,U⟩) l1 y1 a2 l2 y2 a3 l3 y3 a4 l4 y4 (Y3 ⟨b,o,U⟩) l5 y5 c.now) 29 (0,0))):=afI _ _ _ _ _;have Gr:Hid (((((w.alloc (Y6 (clo6 (Y3 ⟨bn,on,U⟩) l1 y1 a2 l2 y2 a3 l3 y3 a4 l4 y4 (Y3 ⟨b,o,U⟩) l5 y5 c.now) 29)).alloc (Y6 (clo6 U 0 0 U 0 0 U 0 0 U 0 0 U 0 0 0) 29)).alloc (Y6 (pov p va vl vc) 40)).alloc (Y6 #[I n.n,I n.z,Y4 Y5 n.c,Y4 Y5 n.s,Y4 Y5 n.u,Y7 Y8,J ua ul uc] 38)).heap[w.heap.size+1]?=Y3 (Y6 (clo6 U 0 0 U 0 0 U 0 0 U 0 0 U 0 0 0) 29 (0,0))):=afH _ _ _ _ _;have Gp:Hid (((((w.alloc (Y6 (clo6 (Y3 ⟨bn,on,U⟩) l1 y1 a2 l2 y2 a3 l3 y3 a4 l4 y4 (Y3 ⟨b,o,U⟩) l5 y5 c.now) 29)).alloc (Y6 (clo6 U 0 0 U 0 0 U 0 0 U 0 0 U 0 0 0) 29)).alloc (Y6 (pov p va vl vc) 40)).alloc (Y6 #[I n.n,I n.z,Y4 Y5 n.c,Y4 Y5 n.s,Y4 Y5 n.u,Y7 Y8,J ua ul uc] 38)).heap[w.heap.size+1+1]?=Y3 (Y6 (pov p va vl vc) 40 (0,0))):=afG _ _ _ _ _;have Gn:Hid (((((w.alloc (Y6 (clo6 (Y3 ⟨bn,on,U⟩) l1 y1 a2 l2 y2 a3 l3 y3 a4 l4 y4 (Y3 ⟨b,o,U⟩) l5 y5 c.now) 29)).alloc (Y6 (clo6 U 0 0 U 0 0 U 0 0 U 0 0 U 0 0 0) 29)).alloc (Y6 (pov p va vl vc) 40)).alloc (Y6 #[I n.n,I n.z,Y4 Y5 n.c,Y4 Y5 n.s,Y4 Y5 n.u,Y7 Y8,J ua ul uc] 38)).heap[w.heap.size+1+1+1]?=Y3 (Y6 #[I n.n,I n.z,Y4 Y5 n.c,Y4 Y5 n.s,Y4 Y5 n.u,Y7 Y8,J ua ul uc] 38 (0,0))):=afF _ _ _ _ _;have HW:Hid (Below w.heap.size w ((((w.alloc (Y6 (clo6 (Y3 ⟨bn,on,U⟩) l1 y1 a2 l2 y2 a3 l3 y3 a4 l4 y4 (Y3 ⟨b,o,U⟩) l5 y5 c.now) 29)).alloc (Y6 (clo6 U 0 0 U 0 0 U 0 0 U 0 0 U 0 0 0) 29)).alloc (Y6 (pov p va vl vc) 40)).alloc (Y6 #[I n.n,I n.z,Y4 Y5 n.c,Y4 Y5 n.s,Y4 Y5 n.u,Y7 Y8,J ua ul uc] 38))):=(HB.trans ((nA _ _ _ _ _).mono HB.size));exact Yb hszv1 (Yb Gk (Yb Gr (Yb Gp (Yb Gn HW))))):p:=h
theorem agF(h:p:=by
 have hszv2:(w1.alloc (Y6 #[I v.n,Y4 Y5 v.c,I v.z,I v.k,Y7 Y_,I v.m,Y7 v.y,J (Y3 ⟨bz,oz,U⟩) 1 vc] 95)).heap.size=w1.heap.size+1:=aF
 have Gg:Hid ((w1.alloc (Y6 #[I v.n,Y4 Y5 v.c,I v.z,I v.k,Y7 Y_,I v.m,Y7 v.y,J (Y3 ⟨bz,oz,U⟩) 1 vc] 95)).heap[b]?=Y3 (Y6 (clo6 a1 l1 y1 a2 l2 y2 (Y3 ⟨bv,ov,U⟩) l3 y3 a4 l4 y4 a5 l5 y5 c.now) 29 (0,0))):=(Ym _ _ _ (ae Bg.out)).trans (Bg.out);have Gn:Hid ((w1.alloc (Y6 #[I v.n,Y4 Y5 v.c,I v.z,I v.k,Y7 Y_,I v.m,Y7 v.y,J (Y3 ⟨bz,oz,U⟩) 1 vc] 95)).heap[w.heap.size]?=Y3 (Y6 (nov n na nl nc) 38 (0,0))):=(Ym _ _ _ (ae Bn.out)).trans (Bn.out);have Gv:Hid ((w1.alloc (Y6 #[I v.n,Y4 Y5 v.c,I v.z,I v.k,Y7 Y_,I v.m,Y7 v.y,J (Y3 ⟨bz,oz,U⟩) 1 vc] 95)).heap[w1.heap.size]?=Y3 (Y6 #[I v.n,Y4 Y5 v.c,I v.z,I v.k,Y7 Y_,I v.m,Y7 v.y,J (Y3 ⟨bz,oz,U⟩) 1 vc] 95 (0,0))):=Yg;have HW:Hid (Below w.heap.size w (w1.alloc (Y6 #[I v.n,Y4 Y5 v.c,I v.z,I v.k,Y7 Y_,I v.m,Y7 v.y,J (Y3 ⟨bz,oz,U⟩) 1 vc] 95))):=(HB.trans ((ak _ _).mono HB.size));exact Yb hszv2 (Yb Gg (Yb Gn (Yb Gv HW)))):p:=h
theorem ak0(h:p:=by
 have hne0:=Wd.ne ((((w.alloc (Y6 (clo6 (Y3 ⟨bn,on,U⟩) l1 y1 a2 l2 y2 a3 l3 y3 a4 l4 y4 (Y3 ⟨b,o,U⟩) l5 y5 c.now) 29)).alloc (Y6 (clo6 U 0 0 U 0 0 U 0 0 U 0 0 U 0 0 0) 29)).alloc (Y6 (pov p va vl vc) 40)).alloc (Y6 #[I n.n,I n.z,Y4 Y5 n.c,Y4 Y5 n.s,Y4 Y5 n.u,Y7 Y8,J ua ul uc] 38));have HC0:=aa (λq:Wd ((((w.alloc (Y6 (clo6 (Y3 ⟨bn,on,U⟩) l1 y1 a2 l2 y2 a3 l3 y3 a4 l4 y4 (Y3 ⟨b,o,U⟩) l5 y5 c.now) 29)).alloc (Y6 (clo6 U 0 0 U 0 0 U 0 0 U 0 0 U 0 0 0) 29)).alloc (Y6 (pov p va vl vc) 40)).alloc (Y6 #[I n.n,I n.z,Y4 Y5 n.c,Y4 Y5 n.s,Y4 Y5 n.u,Y7 Y8,J ua ul uc] 38))=>j7 ⟨(Y3 ⟨bn,on,U⟩),l1,y1,a2,l2,y2,a3,l3,y3,a4,l4,y4,(Y3 ⟨b,o,U⟩),l5,y5⟩ c.now c.ps n.n q.w (HR.p.below (HW.trans (q.b.mono HW.size))) HL8.out HPC.out);exact Yb hne0 HC0):p:=h
theorem agB(h:p:=by
 have zc:∀q:Wd (w1.alloc (Y6 #[I v.n,Y4 Y5 v.c,I v.z,I v.k,Y7 Y_,I v.m,Y7 v.y,J (Y3 ⟨bz,oz,U⟩) 1 vc] 95)),q.w.cell? ⟨bz,oz,U⟩=Y3 (I z):=λq=>(q.cell bJ).trans (((ak _ _).cell hbz).trans hcz);have hne0:=Wd.ne (w1.alloc (Y6 #[I v.n,Y4 Y5 v.c,I v.z,I v.k,Y7 Y_,I v.m,Y7 v.y,J (Y3 ⟨bz,oz,U⟩) 1 vc] 95));have HC0:=aa (λq:Wd (w1.alloc (Y6 #[I v.n,Y4 Y5 v.c,I v.z,I v.k,Y7 Y_,I v.m,Y7 v.y,J (Y3 ⟨bz,oz,U⟩) 1 vc] 95))=>(j_ ⟨a1,l1,y1,a2,l2,y2,(Y3 ⟨bv,ov,U⟩),l3,y3,a4,l4,y4,a5,l5,y5⟩ c t n.n q.w (HR.below (HW.trans (q.b.mono HW.size)))).mono (λ_ _ h=>ar.no h HEL.out));exact Yb zc (Yb hne0 HC0)):p:=h
theorem zT(h:p:=by
 have hne5:¬w.heap.size+1=w3.heap.size:=af
 have hne6:¬w3.heap.size=w.heap.size+1:=af
 exact Yb hne5 hne6):p:=h
theorem ags(h:p:=by
 have xk:=λq:Wd w2=>(q.cell hbl).trans c2;have kx:=λq:Wd w2=>(q.cell hbk).trans d1;have hne0:=Wd.ne w2;have HC0:=aa (λq:Wd w2=>dF ⟨a1,l1,y1,(Y3 ⟨bk,ok,U⟩),l2,y2,a3,l3,y3,(Y3 ⟨bx,ox,U⟩),l4,y4,a5,l5,y5⟩ c.now c.ks x.k q.w (HR.k.below (HW.trans (q.b.mono HW.size))) HT.2.1.2.1.2.2 HK.1 HK.2);exact Yb xk (Yb kx (Yb hne0 HC0))):p:=h
theorem agh(h:p:=by
 have HB2:=upB HW q1.b;have Cg:=upK Gg q1.b;have Cn:=upK Gn q1.b;have Cv:=upK Gv q1.b;exact Yb HB2 (Yb Cg (Yb Cn Cv))):p:=h
theorem aiN(h:p:=by
 rintro _ ⟨q1,rfl⟩;obtain⟨HB2,Cg,Cn,Cv⟩:=agh;clear hne0 HW HB g0 g1 g2 g3 g4 g5 n0 n1 n2 n3 n4 n5 n6 v0 v1 v2 v3 v4 v5 v6 v7 Gg Gn Gv Bg Bn hszv2 c0 c1 c2 c3 c4 c5 c6 c7 hbv hq;have z1334z:=@aa _ @Iz;exact mE):p:=h
theorem aiw(h:p:=by
 go_wp2;exact bodyPost_ret (v:=Za #[J U 0 0,J U 0 0,J U 0 0,J U 0 0,J U 0 0,Y4 Y5 0,I ⟨#[]⟩,Y4 Y5 e0]) (by simp[results,Tryz.results68,go_sem, *]) rfl ⟨ad0,co0 e0,rfl,HV.out,(rl0 _ _),sb1 (sb1 (sb1 (sb1 (sb1 (sb1 (sb1 (sb1 (HB.out))))))))⟩):p:=h
theorem afd(h:p:=by
 have z624z:=@aa _ @Wa;exact yD):p:=h
theorem afc(h:p:=by
 have z624z:=@aa _ @V_;exact yD):p:=h
theorem afb(h:p:=by
 have z1029z:=@aa _ @MA;exact tq):p:=h
theorem afa(h:p:=by
 have z505z:=@aa _ @XT;exact fb):p:=h
theorem ae_(h:p:=by
 have z906z:=@aa _ @Sn;exact xS):p:=h
theorem ae9(h:p:=by
 have z906z:=@aa _ @Sl;exact xS):p:=h
theorem ae8(h:p:=by
 repeat (go_big_quiet_step (first|(go_at_call 100;exact Calls.wide (HC0.out _))|fail))
 refine wpQuiet_nil ?_;rintro _ ⟨q1,rfl⟩;obtain⟨HB1,Ck⟩:=iz;clear hne0 HW HB HC0 k0 k1 k2 k3 k4 k5 e0 e2 Gk Bk c0 c1 c2 c3 c4 c5 c6;have HB:=HB1;clear HB1;have Bk:=Ck;clear Ck;by_cases hf:n.c - cpuOf n.n c.ps<=ms
 ·have hfd:decide (n.c - cpuOf n.n c.ps<=ms)=Y_:=by simpa using hf
  have z475z:=@aa _ @aan;exact cC
 have hfd:decide (n.c - cpuOf n.n c.ps<=ms)=Y8:=by simpa using hf
 have HF:Hid (¬frN c n<=ms):=hf;clear hf;have z475z:=@aa _ @aao;exact cC):p:=h
theorem aeu(h:p:=by
 have HB:=aa (Yh w.heap.size w);go_enter Tryz.func113,Tryz.ntmps113;go_wp2_with fail;refine (lO ⟨a1,l1,y1,a2,l2,y2,a3,l3,y3,a4,l4,y4,a5,l5,y5⟩ c t _ (HR.below (HB.trans ((ak _ _).mono HB.size)))).mono ?_;rintro e w1 ⟨p,rfl,hp,hb⟩;have z1123z:=@aa _ @Lr;exact jG):p:=h
theorem aaO(h:p:=by
 have HT:=aa hT;have HP:=aa hp;have HPC:=aa (λ(j:Nat) (q:Pd) (h:c.ps[j]?=Y3 q)=>(hT.2.1.2.2.2.2.2.1 j q h).2.1);have HN:=aa hn;have HNZ:=aa (hT.2.1.1.2.1 _ _ hn).2.1;have HB:=aa (Yh w.heap.size w);have hi5:i<l5:=by have:=(Yc.1 hp).1;omega
 have hii:(i:Int)<l5:=af
 have hi0:¬(i:Int)<0:=af
 have hj1:j<l1:=by have:=(Yc.1 hn).1;omega
 have hjj:(j:Int)<l1:=af
 have hj0:¬(j:Int)<0:=af
 obtain⟨b,o,y,rfl,hbl,hy,hat⟩:=cq HR.p hi5;rw[hp] at hy;obtain rfl:=Yd hy;obtain⟨va,vl,vc,hvr,-,-,-,c0,c1,c2,c3,c4,c5⟩:=bD hat;clear hat hy;obtain⟨bn,on,y,rfl,hbn,hy,hat⟩:=dn HR.n hj1;rw[hn] at hy;obtain rfl:=Yd hy;obtain⟨ua,ul,uc,hur,-,-,d0,d1,d2,d3,d4,d5,d6⟩:=aZ hat;have HVR:=aa hvr;have hpl:p.zs.length=vl:=hvr.1;have hlc:vl<=9223372036854775807:=Yl hvr.2.1 hvr.2.2.1;clear hat hy hvr hur hp hn hT;have hbn1:bn<w.heap.size+1:=af
 have hbn2:bn<w.heap.size+1+1:=af
 go_enter Tryz.func114,Tryz.ntmps114;by_cases hph:p.p=0;rotate_left
 ·have hpb:(p.p==0)=Y8:=by simpa using hph
  go_wp2;exact bodyPost_ret (v:=Ze #[Za #[J (Y3 ⟨bn,on,U⟩) l1 y1,J a2 l2 y2,J a3 l3 y3,J a4 l4 y4,J (Y3 ⟨b,o,U⟩) l5 y5,Y4 Y5 c.now],Y4 Y5 10]) kI rfl ⟨⟨(Y3 ⟨bn,on,U⟩),l1,y1,a2,l2,y2,a3,l3,y3,a4,l4,y4,(Y3 ⟨b,o,U⟩),l5,y5⟩,c,10,rfl,Zc ⟨hph,rfl⟩,λh=>absurd h ag,(HB.trans ((nA _ _ _ _ _).mono HB.size))⟩
 have hpb:(p.p==0)=Y_:=by simpa using hph
 have HPH:=aa hph;clear hph;cases hnd:n.d;rotate_left
 ·rw[hnd] at d5;go_wp2;exact bodyPost_ret (v:=Ze #[Za #[J (Y3 ⟨bn,on,U⟩) l1 y1,J a2 l2 y2,J a3 l3 y3,J a4 l4 y4,J (Y3 ⟨b,o,U⟩) l5 y5,Y4 Y5 c.now],Y4 Y5 11]) kI rfl ⟨⟨(Y3 ⟨bn,on,U⟩),l1,y1,a2,l2,y2,a3,l3,y3,a4,l4,y4,(Y3 ⟨b,o,U⟩),l5,y5⟩,c,11,rfl,Zb ⟨HPH.out,Zc ⟨Zc hnd,rfl⟩⟩,λh=>absurd h ag,(HB.trans ((nA _ _ _ _ _).mono HB.size))⟩
 have HND:=aa hnd;rw[hnd] at d5;clear hnd;by_cases hu:n.u<=c.now
 ·go_wp2;exact bodyPost_ret (v:=Ze #[Za #[J (Y3 ⟨bn,on,U⟩) l1 y1,J a2 l2 y2,J a3 l3 y3,J a4 l4 y4,J (Y3 ⟨b,o,U⟩) l5 y5,Y4 Y5 c.now],Y4 Y5 11]) kI rfl ⟨⟨(Y3 ⟨bn,on,U⟩),l1,y1,a2,l2,y2,a3,l3,y3,a4,l4,y4,(Y3 ⟨b,o,U⟩),l5,y5⟩,c,11,rfl,Zb ⟨HPH.out,Zc ⟨Zb hu,rfl⟩⟩,λh=>absurd h ag,(HB.trans ((nA _ _ _ _ _).mono HB.size))⟩
 have hub:decide (n.u<=c.now)=Y8:=by simpa using hu
 have HAW:Hid (¬Ay c n):=λh=>h.elim (λh=>by rw[HND.out] at h;cases h) hu;by_cases hZ:QA p n
 ·have hz0:=aX hZ.1;have hz1:=bA hZ.2;go_wp2;exact bodyPost_ret (v:=Ze #[Za #[J (Y3 ⟨bn,on,U⟩) l1 y1,J a2 l2 y2,J a3 l3 y3,J a4 l4 y4,J (Y3 ⟨b,o,U⟩) l5 y5,Y4 Y5 c.now],Y4 Y5 8]) kI rfl ⟨⟨(Y3 ⟨bn,on,U⟩),l1,y1,a2,l2,y2,a3,l3,y3,a4,l4,y4,(Y3 ⟨b,o,U⟩),l5,y5⟩,c,8,rfl,Zb ⟨HPH.out,Zb ⟨HAW.out,Zc ⟨hZ,rfl⟩⟩⟩,λh=>absurd h ag,(HB.trans ((nA _ _ _ _ _).mono HB.size))⟩
 have HZO:=aa hZ;go_upto_region 7 with fail;go_cut [39] from 23 to 49 (λs wx=>s=Y7 Y8/\wx=((((w.alloc (Y6 (clo6 (Y3 ⟨bn,on,U⟩) l1 y1 a2 l2 y2 a3 l3 y3 a4 l4 y4 (Y3 ⟨b,o,U⟩) l5 y5 c.now) 29)).alloc (Y6 (clo6 U 0 0 U 0 0 U 0 0 U 0 0 U 0 0 0) 29)).alloc (Y6 (pov p va vl vc) 40)).alloc (Y6 #[I n.n,I n.z,Y4 Y5 n.c,Y4 Y5 n.s,Y4 Y5 n.u,Y7 Y8,J ua ul uc] 38)));case first=>
  by_cases hz0:p.z=⟨#[]⟩
  ·have hz1:=cN hz0;clear hz0;go_wp2_with fail;go_meet;exact⟨rfl,rfl⟩
  ·have hz1:=aX hz0;have hz2:=aP (Classical.byContradiction (λh=>HZO.out ⟨hz0,h⟩));clear hz0;go_wp2_with fail;go_meet;exact⟨rfl,rfl⟩
 case rest=>
  obtain⟨rfl,rfl⟩:=hcut;clear hZ hub hu hpb;have HL8:Hid (c.ps.length<=8):=by have h:=HT.2.1.2.2.2.2.1;show _<=_;omega
  have hU:=wR n.n HPC.out;have hl8:=HL8.out;have hu0:=hU.1;have hu1:cpuOf n.n c.ps<=8000000:=by have:=hU.2;omega
  have hnc:=(HT.2.1.1.2.1 _ _ HN.out).2.2.1;have hnc0:=hnc.1;have hnc1:=hnc.2;clear hU hnc;by_cases hCP:n.c - cpuOf n.n c.ps<p.c
  ·have hcp:decide (n.c - cpuOf n.n c.ps<p.c)=Y_:=by simpa using hCP
   have z1105z:=@aa _ @LF;exact sZ
  have hcp:decide (n.c - cpuOf n.n c.ps<p.c)=Y8:=by simpa using hCP
  have HCP:Hid (¬af2 c p n):=hCP;have z1105z:=@aa _ @LG;exact sZ):p:=h
theorem aaN(h:p:=by
 have HT:=aa hT;have HP:=aa hp;have H0:=aa h0;have HPC:=aa (λ(j:Nat) p (hp:c.ps[j]?=Y3 p)=>(hT.2.1.2.2.2.2.2.1 j p hp).2.1);have HL8:Hid (c.ps.length<=8):=by have h:=hT.2.1.2.2.2.2.1;show _<=_;omega
 have HPP:Hid (0<=p.c):=(HPC.out i p hp).1;clear hT hp h0;go_enter Tryz.func145,Tryz.ntmps145;go_wp2_with fail;go_loopw [5,6,7] (λbq mq iq wr=> ∃(k:Nat) (bs ms:Int),k<=l1/\bq=Y4 Y5 bs/\mq=Y4 Y5 ms/\iq=Y4 Y5 k/\Hid (eU c i p k bs ms)/\Hid (Below w.heap.size w wr)/\Hid (wr.heap[w.heap.size]?=Y3 (Y6 (clo6 a1 l1 y1 a2 l2 y2 a3 l3 y3 a4 l4 y4 a5 l5 y5 c.now) 29 (0,0)))) (λ_ _ iq _=>l1 - (intOf iq).toNat);case atStart=>exact⟨0,-1,-1,by omega,rfl,rfl,rfl,eU.zero,ak _ _,heap_alloc_new _ _⟩
 case round=>
  obtain⟨k,bs,ms,hk,rfl,rfl,rfl,HK,HB,Bk⟩:=hrel;have ltk:=ae Bk.out;by_cases hlt:k<l1
  ·have hlt2:(k:Int)<(l1:Int):=af
   have z851z:=@aa _ @S4;exact fO
  ·obtain rfl:l1=k:=af
   have hlt2:¬(l1:Int)<(l1:Int):=af
   have k0:wr.cell? ⟨w.heap.size,0,U⟩=Y3 (J a1 l1 y1):=an Bk.out 0;have hl1':=HK.out;rw[<-hl1] at hl1';have HD:=aa hl1'.done;clear hl1';go_wp2;go_ret;exact⟨⟨bs,rfl,HD.out⟩,HB.out⟩):p:=h
theorem aaM(h:p:=by
 have HB:=aa (Yh w.heap.size w);go_enter Tryz.func68,Tryz.ntmps68;go_wp2_with fail;refine (AL ⟨a1,l1,y1,a2,l2,y2,a3,l3,y3,a4,l4,y4,a5,l5,y5⟩ c t _ (HR.below (HB.trans ((aR _ _ _).mono HB.size)))).mono ?_;rintro e w1 ⟨⟨p,b0,e0,rfl,hf⟩,hb⟩;have z1186z:=@aa _ @Kv;exact fA):p:=h
theorem aaq(h:p:=by
 go_wp2_with fail;have Qk:=Bk;have Qr:=Br;have Qp:=Bp;have Qn:=Bn;have HBQ:=HB;refine (dd ⟨(Y3 ⟨bn,on,U⟩),l1,y1,a2,l2,y2,a3,l3,y3,a4,l4,y4,(Y3 ⟨b,o,U⟩),l5,y5⟩ c _ (HR.below HB.out) HT.sm).mono ?_;rintro e w3 ⟨d',rfl,ho,hb⟩;have HQ2:=aa hb;clear k0 k1 k2 k3 k4 k5 ltk_1;replace Bk:=upK Bk hb;replace Br:=upK Br hb;replace Bp:=upK Bp hb;replace Bn:=upK Bn hb;replace HB:=upB HB hb;clear hb;obtain⟨x1,m1,f1,x2,m2,f2,x3,m3,f3,x4,m4,f4,x5,m5,f5⟩:=d';have into:∀{a l cp m T rs},aw w3 a l cp m T rs (λk=>q1.w.heap.size<=k)->aw (w3.alloc (Y6 (clo6 x1 m1 f1 x2 m2 f2 x3 m3 f3 x4 m4 f4 x5 m5 f5 c.now) 29)) a l cp m T rs (λk=>q1.w.heap.size<=k/\¬k=w3.heap.size/\k<(w3.alloc (Y6 (clo6 x1 m1 f1 x2 m2 f2 x3 m3 f3 x4 m4 f4 x5 m5 f5 c.now) 29)).heap.size):=λh=>(h.bl (S':=(λk=>q1.w.heap.size<=k/\¬k=w3.heap.size/\k<(w3.alloc (Y6 (clo6 x1 m1 f1 x2 m2 f2 x3 m3 f3 x4 m4 f4 x5 m5 f5 c.now) 29)).heap.size)) (λk hk s=>⟨s,Nat.ne_of_lt hk,by rw[db];omega⟩)).below (ak w3 (Y6 (clo6 x1 m1 f1 x2 m2 f2 x3 m3 f3 x4 m4 f4 x5 m5 f5 c.now) 29));have HOV:Hid (cZ (w3.alloc (Y6 (clo6 x1 m1 f1 x2 m2 f2 x3 m3 f3 x4 m4 f4 x5 m5 f5 c.now) 29)) ⟨x1,m1,f1,x2,m2,f2,x3,m3,f3,x4,m4,f4,x5,m5,f5⟩ c.raw (λk=>q1.w.heap.size<=k/\¬k=w3.heap.size/\k<(w3.alloc (Y6 (clo6 x1 m1 f1 x2 m2 f2 x3 m3 f3 x4 m4 f4 x5 m5 f5 c.now) 29)).heap.size)):=⟨into ho.n,into ho.k,into ho.v,into ho.x,into ho.p⟩;have HV0:Hid (Below q1.w.heap.size q1.w (w3.alloc (Y6 (clo6 x1 m1 f1 x2 m2 f2 x3 m3 f3 x4 m4 f4 x5 m5 f5 c.now) 29))):=HQ2.trans ((ak w3 (Y6 (clo6 x1 m1 f1 x2 m2 f2 x3 m3 f3 x4 m4 f4 x5 m5 f5 c.now) 29)).mono HQ2.size);clear ho into;have z828z:=@aa _ @Tr;exact cB):p:=h
theorem aap(h:p:=by
 obtain⟨r0,r1,r2,r3,r4,r5⟩:=cs6 Br;have ltr_1:=ae Br.out;obtain⟨fr0,fr1,fr2,fr3,fr4,fr5⟩:=kJ;have hrl:w.heap.size+1<q1.w.heap.size:=ae Br.out;go_wp2;exact bodyPost_ret (v:=Ze #[Za #[J (Y3 ⟨bn,on,U⟩) l1 y1,J a2 l2 y2,J a3 l3 y3,J a4 l4 y4,J (Y3 ⟨b,o,U⟩) l5 y5,Y4 Y5 c.now],Y4 Y5 9]) kI rfl ⟨⟨(Y3 ⟨bn,on,U⟩),l1,y1,a2,l2,y2,a3,l3,y3,a4,l4,y4,(Y3 ⟨b,o,U⟩),l5,y5⟩,c,9,rfl,Zb ⟨HPH.out,Zb ⟨HAW.out,Zb ⟨HZO.out,Zc ⟨hCP,rfl⟩⟩⟩⟩,λh=>absurd h ag,sb1 (sb1 (sb1 (sb1 (sb1 (sb1 (HB.out))))))⟩):p:=h
theorem aao(h:p:=by
 go_wp2_with fail;refine (qO ⟨(Y3 ⟨b,o,U⟩),l1,y1,a2,l2,y2,a3,l3,y3,a4,l4,y4,a5,l5,y5⟩ c i k p n _ (HR.below HB.out) HT.out HP.out HXn.out).mono ?_;rintro e w4 ⟨d',c',e0,rfl,hA,-,hb⟩;clear k0 k1 k2 k3 k4 k5 ltk_1;replace Bk:=upK Bk hb;replace HB:=upB HB hb;clear hb;have HA:Hid (iC c i p n c' e0):=hA.elim (λh=>absurd H0.out h.1) (λh=>h.2);clear hA;have ltk4:=ae Bk.out;by_cases he:e0=0
 ·subst he;have z828z:=@aa _ @To;exact cB
 have he2:(e0==0)=Y8:=by simpa using he
 have HE0:=aa he;clear he;have z828z:=@aa _ @Tp;exact cB):p:=h
theorem aan(h:p:=by
 go_wp2;refine⟨⟨k+1,bs,ms,by omega,rfl,rfl,by go_num,HK.pass HXn.out HPP.out hf,HB.out,Bk.out⟩,by simp[intOf];omega⟩):p:=h
theorem aam(h:p:=by
 go_wp2_with fail;refine (gD ⟨a1,l1,y1,a2,l2,y2,a3,l3,y3,a4,l4,y4,a5,l5,y5⟩ c.now c.ps t _ (HR.p.below HB.out)).mono ?_;rintro e w2 ⟨hb,hf⟩;clear k0 k1 k2 k3 k4 k5 ltk_1;replace Bk:=upK Bk hb;replace HB:=upB HB hb;clear hb;rcases hf with ⟨i,x,hx,hn,rfl⟩|⟨hno,rfl⟩;rotate_left
 ·have HV:=aa (fW hno);clear hno;have z828z:=@aa _ @Tm;exact cB
 have z1621z:=@aa _ @DU;exact rA):p:=h
theorem aal(h:p:=by
 go_wp2;exact bodyPost_ret (v:=Ze #[Y4 Y5 0,Y4 Y5 0,Y4 Y5 p]) tD rfl ⟨⟨_,_,_,rfl,Zc ⟨hp0,HV.out⟩⟩,HB.out⟩):p:=h
theorem XU(h:p:=by
 have z1081z:=@aa _ @LX;exact th):p:=h
theorem XT(h:p:=by
 have z1081z:=@aa _ @LW;exact th):p:=h
theorem Wa(h:p:=by
 exact⟨c,10,rfl,⟨i,x,HX.1,HX.2,Zc ⟨j1,v,HV.1,HV.2,rfl,Zb (Zc ⟨HZ.out,⟨HVX.out,Zb (by obtain⟨j9,p9,h1,h2,h3,h4⟩:=HEL.out;exact⟨j9,p9,h1,h2,h3,by rw[HM.out];exact h4⟩)⟩,rfl⟩)⟩⟩,Zc ⟨by decide,HB.out⟩⟩):p:=h
theorem V_(h:p:=by
 exact⟨c,0,rfl,⟨i,x,HX.1,HX.2,Zc ⟨j1,v,HV.1,HV.2,rfl,Zb (Zb ⟨HZ.out,λh=>h.2.elim (λ⟨j9,t9,h1,h2⟩=>(by have h9:=(Yc.1 h1).1;omega)) (λ⟨j9,p9,h1,h2,h3,h4⟩=>HEL.out ⟨j9,p9,h1,h2,h3,by rw[<-HM.out];exact h4⟩),rfl⟩)⟩⟩,Zb ⟨rfl,Y3 ⟨bv,ov,U⟩,l3,y3,Bg.out,⟨(HO.below HB.out).n.bl (λ_ _ s=>Zc s),(HO.below HB.out).k.bl (λ_ _ s=>Zc s),(HO.below HB.out).v.bl (λ_ _ s=>Zc s),(HO.below HB.out).x.bl (λ_ _ s=>Zc s),(HO.below HB.out).p.bl (λ_ _ s=>Zc s)⟩,aG.cr HB.out⟩⟩):p:=h
theorem yD(h:p:=by
 have z1029z:=@aa _ @Mz;exact tq):p:=h
theorem TB(h:p:=by
 have HLO:=aa HB.size;refine (qO ⟨(Y3 ⟨b,o,U⟩),l1,y1,a2,l2,y2,a3,l3,y3,a4,l4,y4,a5,l5,y5⟩ c (pl Pd.n c.ps t) b' x n _ (HR.below HB.out) HT.out HX.1 HBE.1).mono ?_;rintro e w2 ⟨d',c',e0,rfl,hA,hfr,hb⟩;have HC2:=aa ((ai hb hbl).trans c0);have hbl2:=Yj hbl hb.size;clear c0;clear k0 k1 k2 k3 k4 k5 ltk_1;have z1388z:=@aa _ @Hl;exact bj):p:=h
theorem TA(h:p:=by
 refine (aK e0 _).mono ?_;have z41z:=@aa _ @aiw;exact ei):p:=h
theorem Tr(h:p:=by
 obtain⟨p0,p1,p2,p3,p4,p5⟩:=cs6 Bp;have ltp_2:=ae Bp.out;go_wp2_with fail;clear k0 k1 k2 k3 k4 k5 ltk_2 p0 p1 p2 p3 p4 p5 ltp_2;go_loopw [11] (λvi wr=> ∃(k:Nat) (c1:Cl) (q3:Option Addr) (g3 z3:Nat),k<=vl/\vi=Y4 Y5 k/\Hid (cF c n p.zs k c1)/\Hid (wr.heap[w3.heap.size]?=Y3 (Y6 (clo6 x1 m1 f1 x2 m2 f2 q3 g3 z3 x4 m4 f4 x5 m5 f5 c1.now) 29 (0,0)))/\Hid (cZ wr ⟨x1,m1,f1,x2,m2,f2,q3,g3,z3,x4,m4,f4,x5,m5,f5⟩ c1.raw (λk=>q1.w.heap.size<=k/\¬k=w3.heap.size/\k<wr.heap.size))/\Hid (Below q1.w.heap.size q1.w wr)) (λvi _=>vl - (intOf vi).toNat);case atStart=>exact⟨0,c,x3,m3,f3,by omega,rfl,rfl,heap_alloc_new w3 (Y6 (clo6 x1 m1 f1 x2 m2 f2 x3 m3 f3 x4 m4 f4 x5 m5 f5 c.now) 29),HOV.out,HV0.out⟩
 case round=>
  obtain⟨k,c1,q3,g3,z3,hk,rfl,HRD,HOB,HOF,HQB⟩:=hrel;replace HB:=aa (HBQ.trans (HQB.mono HBQ.size));have hRR:=cF.right HT.out HNZ.out k c1 HRD.out;have HT1:=aa hRR.1;have HR1:=aa hRR.2;clear hRR HV0 HOV;replace Bk:=aa ((HQB.block _ (ae Qk.out)).trans Qk.out);replace Br:=aa ((HQB.block _ (ae Qr.out)).trans Qr.out);replace Bp:=aa ((HQB.block _ (ae Qp.out)).trans Qp.out);replace Bn:=aa ((HQB.block _ (ae Qn.out)).trans Qn.out);have Bo:=HOB;by_cases hlt:k<vl
  ·have hk1:(k:Int)<vl:=af
   obtain⟨bz,oz,t,rfl,hbz,hx,hcz,-⟩:=(HVR.below HB.out).at hlt;have HX:=aa hx;have HHT:=aa (HR1.2.2.2.2 t ((HT.2.2.2.1.1 _ _ HP.out).1 k t hx));clear hx;have z828z:=@aa _ @Tq;exact cB
  have hk1:¬(k:Int)<vl:=af
  obtain rfl:vl=k:=af
  obtain⟨p0,p1,p2,p3,p4,p5⟩:=cs6 Bp;have ltp_2:=ae Bp.out;go_wp2_with fail;clear p0 p1 p2 p3 p4 p5 ltp_2;have HP1:Hid (c1.ps[i]?=Y3 p):=by show _=_;rw[HR1.2.2.1];exact HP.out
  have HPD:Hid (¬p.d=n.n):=by
   have h:=(HT.2.1.2.2.2.2.2.1 _ _ HP.out).2.2.2.2;rw[HPH.out] at h;show¬_;rw[(eK _).1 h];exact λe=>lA (HT.2.1.1.2.1 _ _ HN.out).1 e.symm
  have HV8:Hid (c1.vs.length<=8):=by have h:=HT1.2.1.2.2.1.1;show _<=_;omega
  have HV3:Hid (vl<=3):=by have h:=(HT.2.1.2.2.2.2.2.1 _ _ HP.out).2.2.2.1.1;show _<=_;omega
  have HALL:Hid (QR c n p.zs c1 0):=Zc ⟨by rw[hpl];exact HRD.out,rfl⟩;obtain⟨L,hL⟩:∃L:Nat,L=(nO (plC c1 i p n.n) n.n c1.vs).length:=⟨_,rfl⟩;have HLL:=aa hL;clear hL;have z1330z:=@aa _ @IB;exact mF):p:=h
theorem Tq(h:p:=by
 obtain⟨p0,p1,p2,p3,p4,p5⟩:=cs6 Bp;have ltp_2:=ae Bp.out;obtain⟨n0,n1,n2,n3,n4,n5,n6⟩:=cs7 Bn;have ltn_2:=ae Bn.out;go_wp2_with fail;clear k0 k1 k2 k3 k4 k5 ltk_2 p0 p1 p2 p3 p4 p5 ltp_2 n0 n1 n2 n3 n4 n5 n6 ltn_2;rename_i K0 hK0;refine Gu.uI ba rfl rfl rfl ba ?_;refine' Gu.Grow.stepC _ rfl ?_ ?_;rotate_left 1
 ·exact kj
 refine' Gu.Grow.stepC _ rfl ?_ ?_;rotate_left 1
 ·refine Obl.plain rfl ?_;intro ac wg K hsz hW hf hK;clear hsz;have e72:=hf 72 ag;simp[aj,Yf] at e72;exact Oj
 refine' Gu.Grow.stepC _ rfl ?_ ?_;rotate_left 1
 ·refine Obl.plain rfl ?_;intro ac wg K hsz hW hf hK;clear hsz;exact OD
 refine' Gu.Grow.stepC _ rfl ?_ ?_;rotate_left 1
 ·refine Obl.plain rfl ?_;intro ac wg K hsz hW hf hK;clear hsz;have e73:=hf 73 ag;simp[aj,Yf] at e73;have e74:=hf 74 ag;simp[aj,Yf] at e74;clear hf;exact aL
 refine' Gu.Grow.stepC _ rfl ?_ ?_;rotate_left 1
 ·refine Obl.plain rfl ?_;intro ac wg K hsz hW hf hK;clear hsz;have e75:=hf 75 ag;simp[aj,Yf] at e75;clear hf;have c0:wg.cell? ⟨bz,oz+k,U⟩=Y3 (I t):=(hW.cell hbz).trans hcz;have l0:=Yj hbz hW.size;exact aL
 refine' Gu.Grow.stepC _ rfl ?_ ?_;rotate_left 1
 ·have z1576z:=@aa _ @vB;exact l9
 refine Gu.Grow.done ?_;intro q wz hW hf;simp only[List.forall_mem_cons] at hf;obtain⟨h77,h76,h75,h74,h73,h72,-⟩:=hf;have HBZ:=aa hW;have Bo6:=upK Bo hW;have HOF6:=aa (HOF.below hW);clear hW;intro K hK;rw[if_pos (by rfl)];simp only[aJ,YQ,Act.put,Ys,YA,YB,h77,h76,h75,h74,h73,h72];go_simp;have hC:=B1 c1 t n ua ul uc (λk=>q1.w.heap.size<=k/\¬k=w3.heap.size/\k<wr.heap.size) w3.heap.size x1 m1 f1 x2 m2 f2 q3 g3 z3 x4 m4 f4 x5 m5 f5 wz Bo6.out HOF6.out (λk s=>⟨Yj s.2.2 HBZ.size,s.2.1⟩) HT1.out HHT.out HNZ.out;rw[HND.out] at hC;refine hC.mono ?_;clear hC;rintro e w5 ⟨c2,e0,rfl,hN,hA⟩;rcases hA with ⟨he0,hb⟩|⟨rfl,q4,g4,z4,hbo,hof,hkp⟩
 ·have HV:Hid (iC c i p n c e0):=Zb ⟨HAW.out,Zb ⟨HZO.out,Zb ⟨HCP.out,c2,e0,Zb ⟨k,c1,t,HRD.out,HX.out,hN,he0⟩,Zc ⟨he0,rfl⟩⟩⟩⟩;have hq:=HBZ.trans (hb.mono HBZ.size);have heb:(e0==0)=Y8:=by simpa using he0
  have HE0:=aa he0;have HB5:=upB HB hq;have Bk5:=upK Bk hq;have Br5:=upK Br hq;clear hN hb hq he0 HB Bk Br Bp Bn Bo Bo6 HOF6 HOF HQB HBZ;have HB:=HB5;have Bk:=Bk5;have Br:=Br5;clear HB5 Bk5 Br5;refine hK _ _ ?_;clear hK K;intro K hK;rw[if_pos (by rfl)];go_simp;refine hK _ _ ?_;clear hK K;refine hK0 _ _ ?_;clear hK0 K0;obtain⟨k0,k1,k2,k3,k4,k5⟩:=cs6 Bk;have ltk_5:=ae Bk.out;obtain⟨r0,r1,r2,r3,r4,r5⟩:=cs6 Br;have ltr_5:=ae Br.out;obtain⟨fr0,fr1,fr2,fr3,fr4,fr5⟩:=kJ;have hrl:w.heap.size+1<w5.heap.size:=ae Br.out;go_wp2;exact bodyPost_ret (v:=Ze #[Za #[J (Y3 ⟨bn,on,U⟩) l1 y1,J a2 l2 y2,J a3 l3 y3,J a4 l4 y4,J (Y3 ⟨b,o,U⟩) l5 y5,Y4 Y5 c.now],Y4 Y5 e0]) kI rfl ⟨⟨(Y3 ⟨bn,on,U⟩),l1,y1,a2,l2,y2,a3,l3,y3,a4,l4,y4,(Y3 ⟨b,o,U⟩),l5,y5⟩,c,e0,rfl,Zb ⟨HPH.out,HV.out⟩,λh=>absurd h HE0.out,sb1 (sb1 (sb1 (sb1 (sb1 (sb1 (HB.out))))))⟩
 have hnw:c2.now=c1.now:=(hN.right HT1.out HNZ.out).2.2.2.2.1;have hol:=ae Bo6.out;have hq0:=HQB.size;have hq1:=HBZ.size;have hq2:=HQ2.size;have HRD2:Hid (cF c n p.zs (k+1) c2):=⟨c1,t,HRD.out,HX.out,hN⟩;have HBO2:=aa hbo;rw[<-hnw] at HBO2;have HQB2:=aa ((HQB.trans (HBZ.mono HQB.size)).trans (hkp.low (X:=q1.w.heap.size) af (λk s=>by rcases s with s|s;exact s.1;omega)));have into:∀{a l cp m T rs},aw w5 a l cp m T rs (λk=>(λk=>q1.w.heap.size<=k/\¬k=w3.heap.size/\k<wr.heap.size) k\/wz.heap.size<=k)->aw w5 a l cp m T rs (λk=>q1.w.heap.size<=k/\¬k=w3.heap.size/\k<w5.heap.size):=λh=>h.bl (λk hk s=>by rcases s with s|s;exact⟨s.1,s.2.1,hk⟩;exact⟨by omega,by omega,hk⟩);have HOF2:Hid (cZ w5 ⟨x1,m1,f1,x2,m2,f2,q4,g4,z4,x4,m4,f4,x5,m5,f5⟩ c2.raw (λk=>q1.w.heap.size<=k/\¬k=w3.heap.size/\k<w5.heap.size)):=⟨into hof.n,into hof.k,into hof.v,into hof.x,into hof.p⟩;clear into hof hbo hkp hN hnw;refine hK _ _ ?_;clear hK K;intro K hK;rw[if_pos (by rfl)];go_simp;refine hK _ _ ?_;clear hK K;refine hK0 _ _ ?_;clear hK0 K0;go_wp2;exact⟨⟨k+1,c2,q4,g4,z4,by omega,by go_num,HRD2.out,HBO2.out,HOF2.out,HQB2.out⟩,by simp[intOf];omega⟩):p:=h
theorem Tp(h:p:=by
 go_wp2;refine⟨⟨k+1,bs,ms,by omega,rfl,rfl,by go_num,HK.no HXn.out (λ⟨_,h⟩=>HE0.out (HA.same HT.out HNZ.out h).1),HB.alloc HB.size _,(Ym _ _ _ ltk4).trans Bk.out⟩,by simp[intOf];omega⟩):p:=h
theorem To(h:p:=by
 go_wp2;refine⟨⟨k+1,k,frN c n,by omega,rfl,by first|rfl|(congr 1;go_num),by go_num,HK.take HXn.out (by have h:=HF.out;omega) ⟨_,HA.out⟩,HB.alloc HB.size _,(Ym _ _ _ ltk4).trans Bk.out⟩,by simp[intOf];omega⟩):p:=h
theorem Tn(h:p:=by
 go_wp2_with fail;clear c5;refine (uX ⟨a1,l1,y1,a2,l2,y2,a3,l3,y3,a4,l4,y4,(Y3 ⟨b,o,U⟩),l5,y5⟩ c i x _ (HR.below HB.out) HT.out HXI.out HPH.out).mono ?_;rintro e w3 ⟨⟨r,rfl,hf⟩,hb⟩;clear k0 k1 k2 k3 k4 k5 ltk_2;replace Bk:=upK Bk hb;replace HB:=upB HB hb;clear hb;rcases hf with ⟨rfl,hf⟩|⟨bb,nn,rfl,hf⟩
 ·have HNB:=aa hf;clear hf;have z1429z:=@aa _ @Gw;exact dH
 have HNB:=aa hf;have hb0:¬(bb:Int)<0:=af
 clear hf;have z1429z:=@aa _ @Gz;exact dH):p:=h
theorem Tm(h:p:=by
 go_wp2;exact bodyPost_ret (v:=Ze #[Y4 Y5 0,Y4 Y5 0,Y4 Y5 6]) tD rfl ⟨⟨_,_,_,rfl,Zc ⟨by decide,2,⟨HLL.out,HT.out,HV.out⟩,rfl⟩⟩,HB.out⟩):p:=h
theorem Tl(h:p:=by
 go_wp2;exact bodyPost_ret (v:=Ze #[Y4 Y5 0,Y4 Y5 0,Y4 Y5 10]) tD rfl ⟨⟨_,_,_,rfl,Zc ⟨by decide,8,⟨HLL.out,HT.out,x,HXX.1,HXX.2,HPH.out⟩,rfl⟩⟩,HB.out⟩):p:=h
theorem Te(h:p:=by
 obtain⟨hszv2,Gg,Gn,Gv,HW⟩:=agF;obtain⟨g0,g1,g2,g3,g4,g5⟩:=sl6 Gg;obtain⟨n0,n1,n2,n3,n4,n5,n6⟩:=sl7 Gn;obtain⟨v0,v1,v2,v3,v4,v5,v6,v7⟩:=sl8 Gv;obtain⟨zc,hne0,HC0⟩:=agB;have z1202z:=@aa _ @J8;exact bQ):p:=h
theorem Td(h:p:=by
 have hszv2:(w1.alloc (Y6 #[I v.n,Y4 Y5 v.c,I v.z,I v.k,Y7 Y8,I v.m,Y7 v.y,J va vl vc] 95)).heap.size=w1.heap.size+1:=aF
 have Gg:Hid ((w1.alloc (Y6 #[I v.n,Y4 Y5 v.c,I v.z,I v.k,Y7 Y8,I v.m,Y7 v.y,J va vl vc] 95)).heap[b]?=Y3 (Y6 (clo6 a1 l1 y1 a2 l2 y2 (Y3 ⟨bv,ov,U⟩) l3 y3 a4 l4 y4 a5 l5 y5 c.now) 29 (0,0))):=(Ym _ _ _ (ae Bg.out)).trans (Bg.out);have Gn:Hid ((w1.alloc (Y6 #[I v.n,Y4 Y5 v.c,I v.z,I v.k,Y7 Y8,I v.m,Y7 v.y,J va vl vc] 95)).heap[w.heap.size]?=Y3 (Y6 (nov n na nl nc) 38 (0,0))):=(Ym _ _ _ (ae Bn.out)).trans (Bn.out);have Gv:Hid ((w1.alloc (Y6 #[I v.n,Y4 Y5 v.c,I v.z,I v.k,Y7 Y8,I v.m,Y7 v.y,J va vl vc] 95)).heap[w1.heap.size]?=Y3 (Y6 #[I v.n,Y4 Y5 v.c,I v.z,I v.k,Y7 Y8,I v.m,Y7 v.y,J va vl vc] 95 (0,0))):=Yg;have HW:Hid (Below w.heap.size w (w1.alloc (Y6 #[I v.n,Y4 Y5 v.c,I v.z,I v.k,Y7 Y8,I v.m,Y7 v.y,J va vl vc] 95))):=(HB.trans ((ak _ _).mono HB.size));have z1252z:=@aa _ @JB;exact jE):p:=h
theorem Tc(h:p:=by
 have hszv2:(w1.alloc (Y6 #[I v.n,Y4 Y5 v.c,I v.z,I v.k,Y7 Y_,I v.m,Y7 v.y,J va vl vc] 95)).heap.size=w1.heap.size+1:=aF
 have Gg:Hid ((w1.alloc (Y6 #[I v.n,Y4 Y5 v.c,I v.z,I v.k,Y7 Y_,I v.m,Y7 v.y,J va vl vc] 95)).heap[b]?=Y3 (Y6 (clo6 a1 l1 y1 a2 l2 y2 (Y3 ⟨bv,ov,U⟩) l3 y3 a4 l4 y4 a5 l5 y5 c.now) 29 (0,0))):=(Ym _ _ _ (ae Bg.out)).trans (Bg.out);have Gn:Hid ((w1.alloc (Y6 #[I v.n,Y4 Y5 v.c,I v.z,I v.k,Y7 Y_,I v.m,Y7 v.y,J va vl vc] 95)).heap[w.heap.size]?=Y3 (Y6 (nov n na nl nc) 38 (0,0))):=(Ym _ _ _ (ae Bn.out)).trans (Bn.out);have Gv:Hid ((w1.alloc (Y6 #[I v.n,Y4 Y5 v.c,I v.z,I v.k,Y7 Y_,I v.m,Y7 v.y,J va vl vc] 95)).heap[w1.heap.size]?=Y3 (Y6 #[I v.n,Y4 Y5 v.c,I v.z,I v.k,Y7 Y_,I v.m,Y7 v.y,J va vl vc] 95 (0,0))):=Yg;have HW:Hid (Below w.heap.size w (w1.alloc (Y6 #[I v.n,Y4 Y5 v.c,I v.z,I v.k,Y7 Y_,I v.m,Y7 v.y,J va vl vc] 95))):=(HB.trans ((ak _ _).mono HB.size));have z1252z:=@aa _ @JA;exact jE):p:=h
theorem Tb(h:p:=by
 have hszv2:(w1.alloc (Y6 #[I v.n,Y4 Y5 v.c,I v.z,I v.k,Y7 Y_,I v.m,Y7 v.y,J va 0 vc] 95)).heap.size=w1.heap.size+1:=aF
 have Gg:Hid ((w1.alloc (Y6 #[I v.n,Y4 Y5 v.c,I v.z,I v.k,Y7 Y_,I v.m,Y7 v.y,J va 0 vc] 95)).heap[b]?=Y3 (Y6 (clo6 a1 l1 y1 a2 l2 y2 (Y3 ⟨bv,ov,U⟩) l3 y3 a4 l4 y4 a5 l5 y5 c.now) 29 (0,0))):=(Ym _ _ _ (ae Bg.out)).trans (Bg.out);have Gn:Hid ((w1.alloc (Y6 #[I v.n,Y4 Y5 v.c,I v.z,I v.k,Y7 Y_,I v.m,Y7 v.y,J va 0 vc] 95)).heap[w.heap.size]?=Y3 (Y6 (nov n na nl nc) 38 (0,0))):=(Ym _ _ _ (ae Bn.out)).trans (Bn.out);have Gv:Hid ((w1.alloc (Y6 #[I v.n,Y4 Y5 v.c,I v.z,I v.k,Y7 Y_,I v.m,Y7 v.y,J va 0 vc] 95)).heap[w1.heap.size]?=Y3 (Y6 #[I v.n,Y4 Y5 v.c,I v.z,I v.k,Y7 Y_,I v.m,Y7 v.y,J va 0 vc] 95 (0,0))):=Yg;have HW:Hid (Below w.heap.size w (w1.alloc (Y6 #[I v.n,Y4 Y5 v.c,I v.z,I v.k,Y7 Y_,I v.m,Y7 v.y,J va 0 vc] 95))):=(HB.trans ((ak _ _).mono HB.size));have z1252z:=@aa _ @Jz;exact jE):p:=h
theorem Ta(h:p:=by
 obtain⟨hszv2,Gg,Gn,Gv,HW⟩:=agF;have z1252z:=@aa _ @Jy;exact jE):p:=h
theorem jd(h:p:=by
 obtain⟨g0,g1,g2,g3,g4,g5⟩:=cs6 Bg;have ltg_1:=ae Bg.out;obtain⟨n0,n1,n2,n3,n4,n5,n6⟩:=cs7 Bn;have ltn_1:=ae Bn.out;go_wp2_with fail;clear g0 g1 g2 g3 g4 g5 ltg_1 n0 n1 n2 n3 n4 n5 n6 ltn_1;exact z845z):p:=h
theorem S4(h:p:=by
 have HTn:=aa hvr;have HZn0:=aa z0;have HZn1:=aa z1;clear hat hx z0 z1 hvr;have hU:=wR n.n HPC.out;have hl8:=HL8.out;have hu0:=hU.1;have hu1:cpuOf n.n c.ps<=8000000:=by have:=hU.2;omega
 have hnc:=(HT.2.1.1.2.1 _ _ HXn.out).2.2.1;have hnc0:=hnc.1;have hnc1:=hnc.2;have HNZ:=aa (HT.2.1.1.2.1 _ _ HXn.out).2.1;clear hU hnc;have k0:=an Bk.out 0;clear k0;have k0:wr.cell? ⟨w.heap.size,0,U⟩=Y3 (J (Y3 ⟨b,o,U⟩) l1 y1):=an Bk.out 0;go_wp2_with fail;clear k0;have Gk:=Bk;have HW:=HB;obtain⟨k0,k1,k2,k3,k4,k5⟩:=sl6 Gk;have e0:=λq:Wd wr=>(q.cell hb).trans c0;have e2:=λq:Wd wr=>(q.cell hb).trans c2;have hne0:=Wd.ne wr;have HC0:=aa (λq:Wd wr=>j7 ⟨(Y3 ⟨b,o,U⟩),l1,y1,a2,l2,y2,a3,l3,y3,a4,l4,y4,a5,l5,y5⟩ c.now c.ps n.n q.w (HR.p.below (HW.trans (q.b.mono HW.size))) HL8.out HPC.out);have z53z:=@aa _ @ae8;exact aC):p:=h
theorem Sn(h:p:=by
 clear hCP hcp hnc0 hnc1 hu0 hu1;have z475z:=@aa _ @aaq;exact cC):p:=h
theorem Sl(h:p:=by
 have z475z:=@aa _ @aap;exact cC):p:=h
theorem xS(h:p:=by
 repeat (go_big_quiet_step (first|(go_at_call 100;exact Calls.wide (HC0.out _))|fail))
 refine wpQuiet_nil ?_;rintro _ ⟨q1,rfl⟩;have HB1:=upB HW q1.b;obtain⟨Ck,Cr⟩:=er;have Cp:=upK Gp q1.b;have Cn:=upK Gn q1.b;clear hne0 HW HB HC0 k0 k1 k2 k3 k4 k5 p0 p1 p2 p3 p4 p5 n0 n1 n2 n3 n4 n5 n6 Gk Gr Gp Gn hszv1 c0 c1 c2 c3 c4 c5 d0 d1 d2 d3 d4 d5 d6;have HB:=HB1;clear HB1;have Bk:=Ck;clear Ck;have Br:=Cr;clear Cr;have Bp:=Cp;clear Cp;have Bn:=Cn;clear Cn;exact z906z):p:=h
theorem MA(h:p:=by
 clear hne0 HW HB HC0 g0 g1 g2 g3 g4 g5 n0 n1 n2 n3 n4 n5 n6 v0 v1 v2 v3 v4 v5 v6 v7 zc Gg Gn Gv Bg Bn hszv2 c0 c1 c2 c3 c4 c5 c6 c7 hbv hq hcz hbz hqz;have z1334z:=@aa _ @Iy;exact mE):p:=h
theorem Mz(h:p:=by
 clear hne0 HW HB HC0 g0 g1 g2 g3 g4 g5 n0 n1 n2 n3 n4 n5 n6 v0 v1 v2 v3 v4 v5 v6 v7 Gg Gn Gv Bg Bn hszv2 c0 c1 c2 c3 c4 c5 c6 c7 hbv hq;have z1334z:=@aa _ @Ix;exact mE):p:=h
theorem tq(h:p:=by
 have z1612z:=@aa _ @D0;exact rD):p:=h
theorem LX(h:p:=by
 obtain⟨n0,n1,n2,n3,n4,n5,n6⟩:=cs7 Bn;have ltn_3:=ae Bn.out;go_wp2_with fail;refine (qP c i x j k n.z S b a1 l1 y1 (Y3 ⟨bk,ok,U⟩) l2 y2 a3 l3 y3 (Y3 ⟨bx,ox,U⟩) l4 y4 a5 l5 y5 q1.w Bg.out (HO.below HB.out) (λk s=>⟨Yj (HS.out k s).1 HB.size,(HS.out k s).2⟩) HT.out HX.1 HK.1 HK.2 HXV.out (Zb HNZ.out)).mono ?_;rintro e w4 hA;rcases hA with ⟨j1,u,h1,h2,rfl,h3,h4,h5⟩|⟨h1,⟨p9,hp0,hp,rfl,hb⟩|⟨h2,h3,h4,rfl,q3,m3,z3,h5,h6,h7⟩⟩
 ·have H1:=aa (Yb h1 h2);have H3:=aa h3;have H4:=aa h4;have H5:=aa h5;clear h1 h2 h3 h4 h5;go_wp2;go_ret;exact⟨eS c i j1 x u,0,rfl,⟨i,x,HX.1,HX.2,Zb ⟨HXV.out,j,k,⟨eS c i j1 x u,u.n,0⟩,HK.1,HK.2,Zc ⟨j1,u,H1.1,H1.2,rfl⟩,rfl,Zb ⟨HKX.out,rfl⟩⟩⟩,Zb ⟨rfl,a3,l3,y3,H3.out,⟨H4.n.bl (λ_ _ s=>Zc s),H4.k.bl (λ_ _ s=>Zc s),H4.v.bl (λ_ _ s=>Zc s),H4.x.bl (λ_ _ s=>Zc s),H4.p.bl (λ_ _ s=>Zc s)⟩,(aG.cr HB.out).trans (H5.mono (λ_ s=>Zc s))⟩⟩
 ·have H1:=aa h1;have HP0:=aa hp0;have HPP:=aa hp;have HB4:=upB HB hb;clear h1 hp0 hp hb;go_wp2;go_ret;refine⟨(co0 p9).c,p9,rfl,⟨i,x,HX.1,HX.2,Zb ⟨HXV.out,j,k,co0 p9,HK.1,HK.2,Zb ⟨H1.out,?_⟩,rfl,Zb ⟨HKX.out,rfl⟩⟩⟩,Zc ⟨HP0.out,HB4.out⟩⟩;rcases HPP.out with ⟨h2,rfl⟩|⟨h2,h3,rfl⟩|⟨h2,h3,h4,rfl⟩
  ·exact Zc ⟨h2,rfl⟩
  ·exact Zb ⟨h2,Zc ⟨h3,rfl⟩⟩
  ·exact Zb ⟨h2,Zb ⟨h3,Zc ⟨h4,rfl⟩⟩⟩
 ·have H1:=aa (Yb h1 (Yb h2 (Yb h3 h4)));have H5:=aa h5;have H6:=aa h6;have H7:=aa h7;clear h1 h2 h3 h4 h5 h6 h7;go_wp2;go_ret;exact⟨dR c i x (cR n.z k.z),0,rfl,⟨i,x,HX.1,HX.2,Zb ⟨HXV.out,j,k,⟨dR c i x (cR n.z k.z),aN++x.n,0⟩,HK.1,HK.2,Zb ⟨H1.1,Zb ⟨H1.2.1,Zb ⟨H1.2.2.1,Zb ⟨H1.2.2.2,rfl⟩⟩⟩⟩,rfl,Zb ⟨HKX.out,rfl⟩⟩⟩,Zb ⟨rfl,q3,m3,z3,H5.out,⟨H6.n.bl (λ_ _ s=>s.imp id (λq=>Yl HB.size q)),H6.k.bl (λ_ _ s=>s.imp id (λq=>Yl HB.size q)),H6.v.bl (λ_ _ s=>s.imp id (λq=>Yl HB.size q)),H6.x.bl (λ_ _ s=>s.imp id (λq=>Yl HB.size q)),H6.p.bl (λ_ _ s=>s.imp id (λq=>Yl HB.size q))⟩,(aG.cr HB.out).trans H7.out⟩⟩):p:=h
theorem LW(h:p:=by
 go_wp2;go_ret;obtain⟨oo,hoo⟩:=aka c i x k n.z;exact⟨oo.c,11,rfl,⟨i,x,HX.1,HX.2,Zb ⟨HXV.out,j,k,oo,HK.1,HK.2,hoo,rfl,Zc ⟨HKX.out,rfl⟩⟩⟩,Zc ⟨by decide,HB.out⟩⟩):p:=h
theorem th(h:p:=by
 have HB3:=upB HW q1.b;have Cg:=upK Gg q1.b;have Cn:=upK Gn q1.b;clear hne0 HW HB HC0 g0 g1 g2 g3 g4 g5 xk kx Gg Gn Bg Bn c2 d1 hbk hbl;have HB:=HB3;clear HB3;have Bg:=Cg;clear Cg;have Bn:=Cn;clear Cn;exact z1081z):p:=h
theorem LP(h:p:=by
 clear hf;obtain⟨o0,o1,o2,o3,o4,o5⟩:=cs6 ((hW.block _ (ae Bo.out)).trans Bo.out);have lto:=Yj (ae Bo.out) hW.size;exact aL):p:=h
theorem LG(h:p:=by
 have z53z:=@aa _ @ae_;exact aC):p:=h
theorem LF(h:p:=by
 have z53z:=@aa _ @ae9;exact aC):p:=h
theorem sZ(h:p:=by
 obtain⟨hszv1,Gk,Gr,Gp,Gn,HW⟩:=ami;obtain⟨k0,k1,k2,k3,k4,k5⟩:=sl6 Gk;obtain⟨p0,p1,p2,p3,p4,p5⟩:=sl6 Gp;obtain⟨n0,n1,n2,n3,n4,n5,n6⟩:=sl7 Gn;obtain⟨hne0,HC0⟩:=ak0;exact z1105z):p:=h
theorem Lr(h:p:=by
 have hp0:(¬p=0/\∃i,uG c t i/\p=bu i)\/(p=0/\¬8000<t.size/\av c):=by
  exact Pn
 clear hp;rcases hp0 with ⟨hp0,hV⟩|⟨rfl,hl,hT⟩
 ·have hp1:(p==0)=Y8:=mU
  have HV:=aa hV;clear hV;have z475z:=@aa _ @aal;exact cC
 have HT:=aa hT;have HLL:=aa hl;clear hT hl;have z475z:=@aa _ @aam;exact cC):p:=h
theorem K9(h:p:=by
 have c2:=HC2.out;have z1541z:=@aa _ @EM;exact mm):p:=h
theorem Kv(h:p:=by
 rcases hf with ⟨he,i,hw,hc⟩|⟨rfl,hl,hT,x,b',n,rfl,rfl,hx,hn,hp,hB⟩
 ·have HV:Hid (eD c t (co0 e0)):=Zc ⟨i,hw,by rw[hc]⟩;clear hw hc;have hp1:(e0==0)=Y8:=by simpa using he
  have z820z:=@aa _ @TA;exact fP
 have HT:=aa hT;have HLL:=aa hl;have HX:=aa (Yb hx (Yb hn hp));have HBE:=aa hB;clear hT hl hx hn hp hB;have hb1:b'<l1:=by have:=(Yc.1 HBE.1).1;omega
 have hb0:¬(b':Int)<0:=af
 obtain⟨b,o,y,rfl,hbl,hy,hat⟩:=dn (HR.n.below HB.out) hb1;rw[HBE.1] at hy;obtain rfl:=Yd hy;obtain⟨va,vl,vc,hvr,z0,z1,c0,c1,c2,c3,c4,c5,c6⟩:=aZ hat;have HNZ:=aa z0;clear hat hvr z0 z1 hy c1 c2 c3 c4 c5 c6;have z820z:=@aa _ @TB;exact fP):p:=h
theorem J9(h:p:=by
 have z505z:=@aa _ @XU;exact fb):p:=h
theorem J8(h:p:=by
 have z1612z:=@aa _ @DZ;exact rD):p:=h
theorem JB(h:p:=by
 have hne0:=Wd.ne (w1.alloc (Y6 #[I v.n,Y4 Y5 v.c,I v.z,I v.k,Y7 Y8,I v.m,Y7 v.y,J va vl vc] 95));have z1z:=@aa _ @aiN;exact bC):p:=h
theorem JA(h:p:=by
 have hne0:=Wd.ne (w1.alloc (Y6 #[I v.n,Y4 Y5 v.c,I v.z,I v.k,Y7 Y_,I v.m,Y7 v.y,J va vl vc] 95));have HC0:=aa (λq:Wd (w1.alloc (Y6 #[I v.n,Y4 Y5 v.c,I v.z,I v.k,Y7 Y_,I v.m,Y7 v.y,J va vl vc] 95))=>(j_ ⟨a1,l1,y1,a2,l2,y2,(Y3 ⟨bv,ov,U⟩),l3,y3,a4,l4,y4,a5,l5,y5⟩ c t n.n q.w (HR.below (HW.trans (q.b.mono HW.size)))).mono (λ_ _ h=>ar.yes h HEL.out));have z53z:=@aa _ @afd;exact aC):p:=h
theorem Jz(h:p:=by
 have hne0:=Wd.ne (w1.alloc (Y6 #[I v.n,Y4 Y5 v.c,I v.z,I v.k,Y7 Y_,I v.m,Y7 v.y,J va 0 vc] 95));have HC0:=aa (λq:Wd (w1.alloc (Y6 #[I v.n,Y4 Y5 v.c,I v.z,I v.k,Y7 Y_,I v.m,Y7 v.y,J va 0 vc] 95))=>(j_ ⟨a1,l1,y1,a2,l2,y2,(Y3 ⟨bv,ov,U⟩),l3,y3,a4,l4,y4,a5,l5,y5⟩ c t n.n q.w (HR.below (HW.trans (q.b.mono HW.size)))).mono (λ_ _ h=>ar.no h HEL.out));have z53z:=@aa _ @afc;exact aC):p:=h
theorem Jy(h:p:=by
 obtain⟨zc,hne0,HC0⟩:=agB;have z53z:=@aa _ @afb;exact aC):p:=h
theorem jE(h:p:=by
 obtain⟨g0,g1,g2,g3,g4,g5⟩:=sl6 Gg;obtain⟨n0,n1,n2,n3,n4,n5,n6⟩:=sl7 Gn;obtain⟨v0,v1,v2,v3,v4,v5,v6,v7⟩:=sl8 Gv;exact z1252z):p:=h
theorem IB(h:p:=by
 refine' Grow.stepC _ rfl ?_ ?_;rotate_left 1
 ·exact Ou
 refine' Grow.stepC _ rfl ?_ ?_;rotate_left 1
 ·exact Ou
 refine' Grow.stepC _ rfl ?_ ?_;rotate_left 1
 ·exact pS
 refine' Grow.stepC _ rfl ?_ ?_;rotate_left 1
 ·refine Obl.plain rfl ?_;intro ac wg K hsz hW hf hK;clear hsz;have e85:=hf 85 ag;simp[aj,Yf] at e85;exact vB
 refine Grow.step (DiF c1 n.n) rfl (DiF.mono _ _) ?_ ?_
 ·refine Obl.plain rfl ?_;intro ac wg K hsz hW hf hK;clear hsz;have e84:=hf 84 ag;simp[aj,Yf] at e84;have e86:=hf 86 ag;simp[aj,Yf] at e86;clear hf;go_simp;refine (AP ⟨x1,m1,f1,x2,m2,f2,q3,g3,z3,x4,m4,f4,x5,m5,f5⟩ c1 n.n wg (HOF.row.below hW) HT1.out).mono ?_;rintro e w6 ⟨a6,l6,c6,ys,rfl,h1,h2,h3,hb6⟩;exact hK _ _ hb6 ⟨a6,l6,c6,ys,rfl,h1,h2,h3⟩
 refine' Grow.stepC _ rfl ?_ ?_;rotate_left 1
 ·have z1579z:=@aa _ @Oj;exact lZ
 refine Grow.step (LeF L) rfl (LeF.mono _) ?_ ?_
 ·refine Obl.plain rfl ?_;intro ac wg K hsz hW hf hK;clear hsz;have e83:=hf 83 ag;simp[aj,Yf] at e83;have e87:=hf 87 ag;simp[aj,Yf] at e87;have e88:=hf 88 ag;simp[aj,Yf] at e88;clear hf;obtain⟨a6,l6,c6,ys,e87,h1,h2,h3⟩:=e87;have hys:=Qq HT1.out h2 h3;have hl6:l6+vl<=60:=by
   have h4:ys.length=l6:=h1.1;have h5:ys.length<=c1.vs.length:=by rw[hys];unfold nO;rw[Yr];exact List.length_filter_le _ _
   have h6:=HV8.out;have h7:=HV3.out;omega
  clear hys;go_simp;refine (od ⟨x1,m1,f1,x2,m2,f2,q3,g3,z3,x4,m4,f4,x5,m5,f5⟩ c1 a6 l6 c6 ys p va vl vc wg (HOF.row.below hW) HT1.out h1 h2 (HVR.below (HB.trans (hW.mono HB.size))) hl6).mono ?_;rintro e w6 ⟨a7,l7,c7,ys2,rfl,k1,k2,k3,-,hb6⟩;obtain rfl:l7=L:=by
   have h8:=A4 HT1.out HP1.out HPD.out k2 (λt=>by rw[k3,h3]);have h9:ys2.length=l7:=k1.1;rw[h8] at h9;rw[<-h9];exact HLL.symm
  exact hK _ _ hb6 ⟨a7,c7,rfl⟩
 refine Grow.step (λv _=>v=Y4 Y5 L) rfl (Fact.cV _) ?_ ?_
 ·refine Obl.plain rfl ?_;intro ac wg K hsz hW hf hK;clear hsz;have e89:=hf 89 ag;simp[aj,Yf] at e89;clear hf;obtain⟨a7,c7,e89⟩:=e89;go_simp;exact hK _ _ (Yh _ _) rfl
 refine' Grow.stepC _ rfl ?_ ?_;rotate_left 1
 ·exact pS
 refine' Grow.stepC _ rfl ?_ ?_;rotate_left 1
 ·have z1560z:=@aa _ @vB;exact mh
 refine' Grow.stepC _ rfl ?_ ?_;rotate_left 1
 ·refine Obl.plain rfl ?_;intro ac wg K hsz hW hf hK;clear hsz;have e90:=hf 90 ag;simp[aj,Yf] at e90;have e92:=hf 92 ag;simp[aj,Yf] at e92;clear hf;exact aL
 have z1656z:=@aa _ @Dq;exact du):p:=h
theorem Iz(h:p:=by
 exact⟨c,0,rfl,⟨i,x,HX.1,HX.2,Zc ⟨j1,v,HV.1,HV.2,rfl,Zb (Zb ⟨HZ.out,(λh=>by have h9:=h.1;rw[HVX.out] at h9;cases h9),rfl⟩)⟩⟩,Zb ⟨rfl,Y3 ⟨bv,ov,U⟩,l3,y3,Bg.out,⟨(HO.below HB.out).n.bl (λ_ _ s=>Zc s),(HO.below HB.out).k.bl (λ_ _ s=>Zc s),(HO.below HB.out).v.bl (λ_ _ s=>Zc s),(HO.below HB.out).x.bl (λ_ _ s=>Zc s),(HO.below HB.out).p.bl (λ_ _ s=>Zc s)⟩,aG.cr HB.out⟩⟩):p:=h
theorem Iy(h:p:=by
 exact⟨c,0,rfl,⟨i,x,HX.1,HX.2,Zc ⟨j1,v,HV.1,HV.2,rfl,Zb (Zb ⟨HZ.out,λh=>h.2.elim (λ⟨j9,t9,h1,h2⟩=>(by have h9:=(Yc.1 h1).1;obtain rfl:j9=0:=af;rw[HZ0.out] at h1;cases h1;exact h2 HZN.out)) (λ⟨j9,p9,h1,h2,h3,h4⟩=>HEL.out ⟨j9,p9,h1,h2,h3,by rw[<-HM.out];exact h4⟩),rfl⟩)⟩⟩,Zb ⟨rfl,Y3 ⟨bv,ov,U⟩,l3,y3,Bg.out,⟨(HO.below HB.out).n.bl (λ_ _ s=>Zc s),(HO.below HB.out).k.bl (λ_ _ s=>Zc s),(HO.below HB.out).v.bl (λ_ _ s=>Zc s),(HO.below HB.out).x.bl (λ_ _ s=>Zc s),(HO.below HB.out).p.bl (λ_ _ s=>Zc s)⟩,aG.cr HB.out⟩⟩):p:=h
theorem Ix(h:p:=by
 exact z624z):p:=h
theorem mE(h:p:=by
 have HB:=HB2;clear HB2;have Bg:=Cg;clear Cg;have Bn:=Cn;clear Cn;have Bv:=Cv;clear Cv;go_wp2;go_ret;exact z1334z):p:=h
theorem Hl(h:p:=by
 have hs:iC c (pl Pd.n c.ps t) x n c' e0:=hA.elim (λh=>absurd HX.2.2 h.1) (λh=>h.2);have he:e0=0:=by obtain⟨c2,h2⟩:=HBE.2.1;exact (hs.same HT.out (HT.2.1.1.2.1 _ _ HBE.1).2.1 h2).1
 subst he;have HFR:=aa (hfr rfl);have HIS:Hid (eD c t ⟨c',n.n,0⟩):=Zb ⟨HLL.out,HT.out,x,b',n,c',HX.1,HX.2.1,HX.2.2,HBE.out,hs,rfl⟩;clear hA hfr hs;have z1147z:=@aa _ @K9;exact bI):p:=h
theorem Gz(h:p:=by
 go_wp2;exact bodyPost_ret (v:=Ze #[Y4 Y5 i,Y4 Y5 bb,Y4 Y5 0]) tD rfl ⟨⟨_,_,_,rfl,Zb ⟨rfl,HLL.out,HT.out,x,bb,nn,by rw[HPL.out],rfl,HXX.1,HXX.2,HPH.out,by rw[HPL.out];exact HNB.out⟩⟩,HB.out⟩):p:=h
theorem Gw(h:p:=by
 go_wp2;exact bodyPost_ret (v:=Ze #[Y4 Y5 0,Y4 Y5 0,Y4 Y5 11]) tD rfl ⟨⟨_,_,_,rfl,Zc ⟨by decide,7,⟨HLL.out,HT.out,x,HXX.1,HXX.2,HPH.out,by rw[HPL.out];exact HNB.out⟩,rfl⟩⟩,HB.out⟩):p:=h
theorem Gq(h:p:=by
 obtain⟨r0,r1,r2,r3,r4,r5⟩:=cs6 Br;have ltr_3:=ae Br.out;obtain⟨fr0,fr1,fr2,fr3,fr4,fr5⟩:=kJ;have hrl:w.heap.size+1<wz.heap.size:=ae Br.out;go_wp2;exact bodyPost_ret (v:=Ze #[Za #[J (Y3 ⟨bn,on,U⟩) l1 y1,J a2 l2 y2,J a3 l3 y3,J a4 l4 y4,J (Y3 ⟨b,o,U⟩) l5 y5,Y4 Y5 c.now],Y4 Y5 9]) kI rfl ⟨⟨(Y3 ⟨bn,on,U⟩),l1,y1,a2,l2,y2,a3,l3,y3,a4,l4,y4,(Y3 ⟨b,o,U⟩),l5,y5⟩,c,9,rfl,Zb ⟨HPH.out,Zb ⟨HAW.out,Zb ⟨HZO.out,Zb ⟨HCP.out,c1,0,HALL.out,Zb ⟨rfl,Zc ⟨HSH.out,rfl⟩⟩⟩⟩⟩⟩,λh=>absurd h ag,sb1 (sb1 (sb1 (sb1 (sb1 (sb1 (HB.out))))))⟩):p:=h
theorem EM(h:p:=by
 go_region;go_wp2;have hlo:=HLO.out;exact bodyPost_ret (v:=Za #[J d'.a1 d'.l1 d'.c1,J d'.a2 d'.l2 d'.c2,J d'.a3 d'.l3 d'.c3,J d'.a4 d'.l4 d'.c4,J d'.a5 d'.l5 d'.c5,Y4 Y5 c'.now,I n.n,Y4 Y5 0]) (by simp[results,Tryz.results68,go_sem, *]) rfl ⟨d',⟨c',n.n,0⟩,rfl,HIS.out,((cZ.bP HFR.out Br.out (λk hk=>((heap_setCell_other _ _ _ _ hk).trans ((heap_setCell_other _ _ _ _ hk).trans ((heap_setCell_other _ _ _ _ hk).trans ((heap_setCell_other _ _ _ _ hk).trans ((heap_setCell_other _ _ _ _ hk).trans ((heap_setCell_other _ _ _ _ hk).trans ((heap_setCell_other _ _ _ _ hk).trans (heap_setCell_other _ _ _ _ hk)))))))))).below (Below.kR (ak _ _))).rl (λk s=>loq),Qx (sb1 (sb1 (sb1 (sb1 (sb1 (sb1 (sb1 (sb1 (HB.out)))))))))⟩):p:=h
theorem D_(h:p:=by
 obtain⟨g0,g1,g2,g3,g4,g5⟩:=cs6 Bg;have ltg_1:=ae Bg.out;go_wp2_with fail;refine (eJ ⟨a1,l1,y1,a2,l2,y2,a3,l3,y3,a4,l4,y4,a5,l5,y5⟩ c.now c.xs t _ (HR.x.below HB.out) HT.2.1.2.2.2.1.2.2 HX.1 HX.2).mono ?_;rintro e w2 ⟨rfl,hb⟩;clear g0 g1 g2 g3 g4 g5 ltg_1;replace Bg:=upK Bg hb;replace Bn:=upK Bn hb;replace HB:=upB HB hb;clear hb;obtain⟨bx,ox,y,rfl,hbl,hy,hat⟩:=eI (HR.x.below HB.out) hi4;rw[HX.1] at hy;obtain rfl:=Yd hy;obtain⟨-,-,-,-,-,c2,-,-⟩:=cn hat;clear hat hy;obtain⟨bk,ok,y,rfl,hbk,hy,hat⟩:=gu (HR.k.below HB.out) hj2;rw[HK.1] at hy;obtain rfl:=Yd hy;obtain⟨-,-,d0,d1,d2,d3⟩:=dh hat;clear hat hy d0 d2 d3;obtain⟨g0,g1,g2,g3,g4,g5⟩:=cs6 Bg;have ltg_2:=ae Bg.out;go_wp2_with fail;clear g0 g1 g2 g3 g4 g5 ltg_2;cases hkx:k.x
 ·have HKX:=aa hkx;rw[hkx] at d1;clear hkx;have Gg:=Bg;have Gn:=Bn;have HW:=HB;obtain⟨g0,g1,g2,g3,g4,g5⟩:=sl6 Gg;obtain⟨xk,kx,hne0,HC0⟩:=ags;have z53z:=@aa _ @afa;exact aC
 have HKX:=aa hkx;rw[hkx] at d1;clear hkx;have Gg:=Bg;have Gn:=Bn;have HW:=HB;obtain⟨g0,g1,g2,g3,g4,g5⟩:=sl6 Gg;obtain⟨xk,kx,hne0,HC0⟩:=ags;have z1202z:=@aa _ @J9;exact bQ):p:=h
theorem D9(h:p:=by
 obtain⟨bv,ov,y,rfl,hbv,hy,hat⟩:=cj (HR.v.below HB.out) hj3;rw[HV.1] at hy;obtain rfl:=Yd hy;have z1689z:=@aa _ @CT;exact eM):p:=h
theorem rI(h:p:=by
 rintro e w1 ⟨rfl,hb⟩;clear g0 g1 g2 g3 g4 g5 ltg_0;obtain⟨HA0,hbx⟩:=bB hb;replace Bg:=upK Bg hbx;have Bn:=aa HA0;replace HB:=upB HB hbx;clear hb hbx HA0;exact z1597z):p:=h
theorem D0(h:p:=by
 exact z1029z):p:=h
theorem DZ(h:p:=by
 clear hne0 HW HB HC0 g0 g1 g2 g3 g4 g5 n0 n1 n2 n3 n4 n5 n6 v0 v1 v2 v3 v4 v5 v6 v7 zc Gg Gn Gv Bg Bn hszv2 c0 c1 c2 c3 c4 c5 c6 c7 hbv hq hcz hbz hqz;have HB:=HB2;clear HB2;have Bg:=Cg;clear Cg;have Bn:=Cn;clear Cn;have Bv:=Cv;clear Cv;go_wp2;go_ret;exact⟨c,10,rfl,⟨i,x,HX.1,HX.2,Zc ⟨j1,v,HV.1,HV.2,rfl,Zb (Zc ⟨HZ.out,⟨HVX.out,Zc ⟨0,z,HZ0.out,HZN.out⟩⟩,rfl⟩)⟩⟩,Zc ⟨by decide,HB.out⟩⟩):p:=h
theorem rD(h:p:=by
 repeat (go_big_quiet_step (first|(go_at_call 159;exact Calls.wide (HC0.out _))|fail))
 refine wpQuiet_nil ?_;rintro _ ⟨q1,rfl⟩;obtain⟨HB2,Cg,Cn,Cv⟩:=agh;exact z1612z):p:=h
theorem DU(h:p:=by
 clear hat hvr z0 z2 z4 hy hx c0 c1 c2 c3 c4;by_cases hp:x.p=0;rotate_left
 ·have hpb:(x.p==0)=Y8:=eN
  have HPH:=aa hp;have z828z:=@aa _ @Tl;exact cB
 have hpb:(x.p==0)=Y_:=eN
 have HPH:=aa hp;clear hp;have z828z:=@aa _ @Tn;exact cB):p:=h
theorem rA(h:p:=by
 have hri:=HT.2.1.2.2.2.2.2.2;have hpl:=(a_ hri hx hn).1;have HXX:Hid (c.ps[pl Pd.n c.ps t]?=Y3 x/\x.n=t):=⟨by rw[hpl];exact hx,hn⟩;have HXI:=aa hx;have HPL:=aa hpl;clear hpl hri hn;have hi5:i<l5:=by have:=(Yc.1 hx).1;omega
 have hi0:¬(i:Int)<0:=af
 obtain⟨b,o,y,rfl,hbl,hy,hat⟩:=cq (HR.p.below HB.out) hi5;rw[HXI.out] at hy;obtain rfl:=Yd hy;obtain⟨va,vl,vc,hvr,z0,z2,z4,c0,c1,c2,c3,c4,c5⟩:=bD hat;exact z1621z):p:=h
theorem Dq(h:p:=by
 obtain⟨h93,-⟩:=hf;have hb:=hW;refine hK0 _ _ ?_;simp only[aJ,YQ,Act.put,Ys,YA,YB,h93];clear hK0;have HOFZ:=aa (HOF.below hb);replace Bk:=upK Bk hb;replace Br:=upK Br hb;replace Bp:=upK Bp hb;replace Bn:=upK Bn hb;replace Bo:=upK Bo hb;replace HB:=upB HB hb;clear hb;by_cases hs:n.s<(L:Int)
 ·have hsb:decide (n.s<(L:Int))=Y_:=by simpa using hs
  have HSH:Hid (qt c1 i p n):=by show n.s<_;rw[<-HLL.out];exact hs
  have z1429z:=@aa _ @Gq;exact dH
 have hsb:decide (n.s<(L:Int))=Y8:=by simpa using hs
 have HSH:Hid (¬qt c1 i p n):=by show¬n.s<_;rw[<-HLL.out];exact hs
 obtain⟨g,hga,hS⟩:=HOFZ.p.st (aG.refl _ wz) (i:=i) (r:=pdF p) (show (c1.ps.map pdF)[i]?=Y3 (pdF p) by rw[Yt,HP1.out];rfl);have hga':x5=Y3 ⟨g,0,U⟩:=hga;subst hga';have hgS:=(by obtain⟨⟨cur,H,h1,_⟩,_⟩:=hS;exact⟨h1.inS,ae h1.blk⟩:(λk=>q1.w.heap.size<=k/\¬k=w3.heap.size/\k<wr.heap.size) g/\g<wz.heap.size);obtain⟨⟨hg1,hg2,-⟩,hg3⟩:=hgS;obtain⟨v4,hv4⟩:=hS.cell (i:=4) rfl;obtain⟨v5,hv5⟩:=hS.cell (i:=5) rfl;have hf4:=hS.nN (i*6+4);have hf5:=hS.nN (i*6+5);have hi6:(i:Int)<m5:=by have h6:(c1.ps.map pdF).length=m5:=HOFZ.p.1;rw[Yr] at h6;have h7:=(Yc.1 HP1.out).1;omega
 have HST:=aa hS;have hqn:=ae Qn.out;have hqo:=HQ2.size;have hox:=ae Bo.out;have hne1:¬w3.heap.size=g:=λe=>hg2 e.symm;have hne3:¬g=w.heap.size+1:=af
 have hne4:¬w.heap.size+1=g:=af
 obtain⟨hne5,hne6⟩:=zT;have hne7:¬w.heap.size+1+1+1=g:=af
 clear hS hga;obtain⟨r0,r1,r2,r3,r4,r5⟩:=cs6 Br;have ltr_3:=ae Br.out;obtain⟨n0,n1,n2,n3,n4,n5,n6⟩:=cs7 Bn;have ltn_3:=ae Bn.out;obtain⟨o0,o1,o2,o3,o4,o5⟩:=cs6 Bo;have lto_3:=ae Bo.out;obtain⟨fr0,fr1,fr2,fr3,fr4,fr5⟩:=kJ;go_wp2;refine bodyPost_ret (v:=Ze #[Za #[J x1 m1 f1,J x2 m2 f2,J q3 g3 z3,J x4 m4 f4,J (Y3 ⟨g,0,U⟩) m5 f5,Y4 Y5 c1.now],Y4 Y5 0]) kI rfl ⟨⟨x1,m1,f1,x2,m2,f2,q3,g3,z3,x4,m4,f4,(Y3 ⟨g,0,U⟩),m5,f5⟩,plC c1 i p n.n,0,rfl,Zb ⟨HPH.out,Zb ⟨HAW.out,Zb ⟨HZO.out,Zb ⟨HCP.out,c1,0,HALL.out,Zb ⟨rfl,Zb ⟨HSH.out,rfl,rfl⟩⟩⟩⟩⟩⟩,λ_=>?_,sb1 (sb1 (sb1 (sb1 (sb1 (sb1 (ah (show w.heap.size<=g by omega) (ah (show w.heap.size<=g by omega) HB.out)))))))⟩;have hk2:∀k,q1.w.heap.size<=k->((((((((wz.setCell ⟨g,i*6+4,U⟩ (I n.n)).setCell ⟨g,i*6+5,U⟩ (Y4 Y5 1)).setCell ⟨w.heap.size+1,0,U⟩ (J x1 m1 f1)).setCell ⟨w.heap.size+1,1,U⟩ (J x2 m2 f2)).setCell ⟨w.heap.size+1,2,U⟩ (J q3 g3 z3)).setCell ⟨w.heap.size+1,3,U⟩ (J x4 m4 f4)).setCell ⟨w.heap.size+1,4,U⟩ (J (Y3 ⟨g,0,U⟩) m5 f5)).setCell ⟨w.heap.size+1,5,U⟩ (Y4 Y5 c1.now)).heap[k]?=((wz.setCell ⟨g,i*6+4,U⟩ (I n.n)).setCell ⟨g,i*6+5,U⟩ (Y4 Y5 1)).heap[k]?:=λk h1=>by rw[Ya _ _ _ _ (show k≠w.heap.size+1 by omega),Ya _ _ _ _ (show k≠w.heap.size+1 by omega),Ya _ _ _ _ (show k≠w.heap.size+1 by omega),Ya _ _ _ _ (show k≠w.heap.size+1 by omega),Ya _ _ _ _ (show k≠w.heap.size+1 by omega),Ya _ _ _ _ (show k≠w.heap.size+1 by omega)]
 have hk3:∀k,q1.w.heap.size<=k->¬k=g->((((((((wz.setCell ⟨g,i*6+4,U⟩ (I n.n)).setCell ⟨g,i*6+5,U⟩ (Y4 Y5 1)).setCell ⟨w.heap.size+1,0,U⟩ (J x1 m1 f1)).setCell ⟨w.heap.size+1,1,U⟩ (J x2 m2 f2)).setCell ⟨w.heap.size+1,2,U⟩ (J q3 g3 z3)).setCell ⟨w.heap.size+1,3,U⟩ (J x4 m4 f4)).setCell ⟨w.heap.size+1,4,U⟩ (J (Y3 ⟨g,0,U⟩) m5 f5)).setCell ⟨w.heap.size+1,5,U⟩ (Y4 Y5 c1.now)).heap[k]?=wz.heap[k]?:=λk h1 h3=>by rw[hk2 k h1,Ya _ _ _ _ h3,Ya _ _ _ _ h3]
 obtain⟨⟨cur,H,hbk,_⟩,_⟩:=HST.out;have h2:=(HST.Q5 (i:=4) rfl n.n (by have h9:=(HT.2.1.1.2.1 _ _ HN.out).1.2.1;omega)).AN (i:=5) rfl 1;obtain⟨⟨cur2,H2,h3,_⟩,_,_⟩:=h2;have hps:(plC c1 i p n.n).raw.p=(c1.ps.map pdF).set i (pdF (onP p n.n)):=by
  show (c1.ps.set i (onP p n.n)).map pdF=_;rw[List.map_set]
 refine⟨?_,?_,?_,?_,?_⟩
 ·exact (HOFZ.n.dN hbk.blk ag ag).az (w':=((((((((wz.setCell ⟨g,i*6+4,U⟩ (I n.n)).setCell ⟨g,i*6+5,U⟩ (Y4 Y5 1)).setCell ⟨w.heap.size+1,0,U⟩ (J x1 m1 f1)).setCell ⟨w.heap.size+1,1,U⟩ (J x2 m2 f2)).setCell ⟨w.heap.size+1,2,U⟩ (J q3 g3 z3)).setCell ⟨w.heap.size+1,3,U⟩ (J x4 m4 f4)).setCell ⟨w.heap.size+1,4,U⟩ (J (Y3 ⟨g,0,U⟩) m5 f5)).setCell ⟨w.heap.size+1,5,U⟩ (Y4 Y5 c1.now))) (S':=λk=>w.heap.size<=k) (λk hk s=>hk3 k s.1.1 s.2) (λk _ s=>by have s1:=s.1.1;show w.heap.size<=k;omega)
 ·exact (HOFZ.k.dN hbk.blk ag ag).az (w':=((((((((wz.setCell ⟨g,i*6+4,U⟩ (I n.n)).setCell ⟨g,i*6+5,U⟩ (Y4 Y5 1)).setCell ⟨w.heap.size+1,0,U⟩ (J x1 m1 f1)).setCell ⟨w.heap.size+1,1,U⟩ (J x2 m2 f2)).setCell ⟨w.heap.size+1,2,U⟩ (J q3 g3 z3)).setCell ⟨w.heap.size+1,3,U⟩ (J x4 m4 f4)).setCell ⟨w.heap.size+1,4,U⟩ (J (Y3 ⟨g,0,U⟩) m5 f5)).setCell ⟨w.heap.size+1,5,U⟩ (Y4 Y5 c1.now))) (S':=λk=>w.heap.size<=k) (λk hk s=>hk3 k s.1.1 s.2) (λk _ s=>by have s1:=s.1.1;show w.heap.size<=k;omega)
 ·exact (HOFZ.v.dN hbk.blk ag ag).az (w':=((((((((wz.setCell ⟨g,i*6+4,U⟩ (I n.n)).setCell ⟨g,i*6+5,U⟩ (Y4 Y5 1)).setCell ⟨w.heap.size+1,0,U⟩ (J x1 m1 f1)).setCell ⟨w.heap.size+1,1,U⟩ (J x2 m2 f2)).setCell ⟨w.heap.size+1,2,U⟩ (J q3 g3 z3)).setCell ⟨w.heap.size+1,3,U⟩ (J x4 m4 f4)).setCell ⟨w.heap.size+1,4,U⟩ (J (Y3 ⟨g,0,U⟩) m5 f5)).setCell ⟨w.heap.size+1,5,U⟩ (Y4 Y5 c1.now))) (S':=λk=>w.heap.size<=k) (λk hk s=>hk3 k s.1.1 s.2) (λk _ s=>by have s1:=s.1.1;show w.heap.size<=k;omega)
 ·exact (HOFZ.x.dN hbk.blk ag ag).az (w':=((((((((wz.setCell ⟨g,i*6+4,U⟩ (I n.n)).setCell ⟨g,i*6+5,U⟩ (Y4 Y5 1)).setCell ⟨w.heap.size+1,0,U⟩ (J x1 m1 f1)).setCell ⟨w.heap.size+1,1,U⟩ (J x2 m2 f2)).setCell ⟨w.heap.size+1,2,U⟩ (J q3 g3 z3)).setCell ⟨w.heap.size+1,3,U⟩ (J x4 m4 f4)).setCell ⟨w.heap.size+1,4,U⟩ (J (Y3 ⟨g,0,U⟩) m5 f5)).setCell ⟨w.heap.size+1,5,U⟩ (Y4 Y5 c1.now))) (S':=λk=>w.heap.size<=k) (λk hk s=>hk3 k s.1.1 s.2) (λk _ s=>by have s1:=s.1.1;show w.heap.size<=k;omega)
 ·have hR:aw ((wz.setCell ⟨g,i*6+4,U⟩ (I n.n)).setCell ⟨g,i*6+5,U⟩ (Y4 Y5 1)) (Y3 ⟨g,0,U⟩) m5 f5 6 40 (plC c1 i p n.n).raw.p (λk=>q1.w.heap.size<=k/\¬k=w3.heap.size/\k<wr.heap.size):=by
   rw[hps];exact⟨by rw[YK];exact HOFZ.p.1,HOFZ.p.2.1,HOFZ.p.2.2.1,Zb ⟨g,cur2,H2,rfl,h3⟩⟩
  exact hR.az (w':=((((((((wz.setCell ⟨g,i*6+4,U⟩ (I n.n)).setCell ⟨g,i*6+5,U⟩ (Y4 Y5 1)).setCell ⟨w.heap.size+1,0,U⟩ (J x1 m1 f1)).setCell ⟨w.heap.size+1,1,U⟩ (J x2 m2 f2)).setCell ⟨w.heap.size+1,2,U⟩ (J q3 g3 z3)).setCell ⟨w.heap.size+1,3,U⟩ (J x4 m4 f4)).setCell ⟨w.heap.size+1,4,U⟩ (J (Y3 ⟨g,0,U⟩) m5 f5)).setCell ⟨w.heap.size+1,5,U⟩ (Y4 Y5 c1.now))) (S':=λk=>w.heap.size<=k) (λk hk s=>hk2 k s.1) (λk _ s=>by have s1:=s.1;show w.heap.size<=k;omega)):p:=h
theorem CT(h:p:=by
 have HVR:=aa hvr;clear hat hy z0 z2 z3 z5 hvr;by_cases hz:v.z=n.z;rotate_left
 ·have hq:=bA hz;have HZ:=aa hz;clear hz;obtain⟨g0,g1,g2,g3,g4,g5⟩:=cs6 Bg;have ltg_1:=ae Bg.out;obtain⟨n0,n1,n2,n3,n4,n5,n6⟩:=cs7 Bn;have ltn_1:=ae Bn.out;go_wp2;go_ret;exact⟨c,8,rfl,⟨i,x,HX.1,HX.2,Zc ⟨j1,v,HV.1,HV.2,rfl,Zc ⟨HZ.out,rfl⟩⟩⟩,Zc ⟨by decide,HB.trans ((ak _ _).mono HB.size)⟩⟩
 have hq:=aP hz;have HZ:=aa hz;clear hz;cases hvx:v.x
 ·have HVX:=aa hvx;rw[hvx] at c4;clear hvx;have z845z:=@aa _ @Td;exact jd
 have HVX:=aa hvx;rw[hvx] at c4;clear hvx;by_cases hel:∃(j:Nat) (p:Pd),c.ps[j]?=Y3 p/\OtP p n.n t
 ·have HEL:=aa hel;clear hel;have z845z:=@aa _ @Tc;exact jd
 have HEL:=aa hel;clear hel;have hvl:v.zs.length=vl:=HVR.1;have hv1:vl<=1:=by have h9:=HZS.out;rw[HVX.out] at h9;simp at h9;omega
 by_cases hv0:vl=0
 ·subst hv0;have z845z:=@aa _ @Tb;exact jd
 obtain rfl:vl=1:=af
 obtain⟨bz,oz,z,rfl,hbz,hz,hcz0,-⟩:=HVR.at (show 0<1 by omega);have hcz:w1.cell? ⟨bz,oz,U⟩=Y3 (I z):=by simpa using hcz0
 clear hcz0;have HZ0:=aa hz;clear hz;by_cases hzn:z=n.n
 ·have hqz:=aP hzn;have HZN:=aa hzn;clear hzn;have z845z:=@aa _ @Ta;exact jd
 have hqz:=bA hzn;have HZN:=aa hzn;clear hzn;have z845z:=@aa _ @Te;exact jd):p:=h
theorem Ce(h:p:=by
 have HB:=aa (Yh w.heap.size w);clear hO hS hT hnz ht hx hn hkj hkn;have Bg:=aa (hb);clear hb;rcases hbd with hv0|hBd;rotate_left
 ·obtain⟨i1,j1,x1,v,b1,b2,b3,b4,b5,b6,-⟩:=hBd;have HV:=aa (Yb b3 b4);have HM:Hid (v.m=t):=b6.trans HX.2;have HZS:=aa ((HT.2.1.2.2.1.2.1 j1 v b3).2.2.2.2.2.2.1);have hj3:j1<l3:=by have:=(Yc.1 b3).1;omega
  have hjj3:(j1:Int)<l3:=af
  have hj03:¬(j1:Int)<0:=af
  clear b1 b2 b3 b4 b5 b6;go_enter Tryz.func146,Tryz.ntmps146;obtain⟨g0,g1,g2,g3,g4,g5⟩:=cs6 Bg;have ltg_0:=ae Bg.out;go_wp2_with fail;refine (ob ⟨a1,l1,y1,a2,l2,y2,a3,l3,y3,a4,l4,y4,a5,l5,y5⟩ c t _ (HR.below (HB.trans ((ak _ _).mono HB.size))) HT.out HV.1 ⟨i,j1,x,HX.1,HX.2,HV.1,HV.2⟩).mono ?_;have z1597z:=@aa _ @D9;exact rI
 have HXV:=aa hv0;clear hv0;go_enter Tryz.func146,Tryz.ntmps146;obtain⟨g0,g1,g2,g3,g4,g5⟩:=cs6 Bg;have ltg_0:=ae Bg.out;go_wp2_with fail;refine (qU ⟨a1,l1,y1,a2,l2,y2,a3,l3,y3,a4,l4,y4,a5,l5,y5⟩ c t _ (HR.below (HB.trans ((ak _ _).mono HB.size))) HT.out (λv h=>nk HT.out HX.1 HXV.out h HX.2.symm)).mono ?_;have z1597z:=@aa _ @D_;exact rI):p:=h
theorem rf(h:p:=by
 have HK:=aa (Yb hkj hkn);have hj2:j<l2:=by have:=(Yc.1 hkj).1;omega
 have hjj:(j:Int)<l2:=af
 have hj0:¬(j:Int)<0:=af
 exact z1734z):p:=h
namespace Rc
theorem aka (c:Cl) (i:Nat) (x:Xd) (k:Kd) (t:ByteArray):∃o,iD c i x k t o:=by
 cases h:fh (svV x.z x.k x.x t) c.vs with
 | some u=>
  obtain⟨j,hj⟩:=Qw h;exact⟨_,Zc ⟨j,u,h,hj,rfl⟩⟩
 | none=>
  by_cases h1:k_ x k t
  ·cases h2:hit Vd.n c.vs (aN++x.n)
   ·by_cases h3:c.vs.length<8
    ·exact⟨_,Zb ⟨h,Zb ⟨h1,Zb ⟨h2,Zb ⟨h3,rfl⟩⟩⟩⟩⟩
    ·exact⟨_,Zb ⟨h,Zb ⟨h1,Zb ⟨h2,Zc ⟨h3,rfl⟩⟩⟩⟩⟩
   ·exact⟨_,Zb ⟨h,Zb ⟨h1,Zc ⟨h2,rfl⟩⟩⟩⟩
  ·exact⟨_,Zb ⟨h,Zc ⟨h1,rfl⟩⟩⟩
def amw (c:Cl) (t:ByteArray) (n:Nd) (S:Nat->Prop) (b:Nat) (a1:Option Addr) (l1 y1:Nat) (a2:Option Addr) (l2 y2:Nat) (_a3:Option Addr) (_l3 _y3:Nat) (a4:Option Addr) (l4 y4:Nat) (a5:Option Addr) (l5 y5:Nat) (w:World) (e:Ending) (w':World):Prop:=
 ∃(c':Cl) (e0:Int),e=Y9 (Y4 Y5 e0)/\dX c n t c' e0/\((¬e0=0/\Below w.heap.size w w')\/(e0=0/\∃(q3:Option Addr) (m3 z3:Nat),w'.heap[b]?=Y3 (Y6 (clo6 a1 l1 y1 a2 l2 y2 q3 m3 z3 a4 l4 y4 a5 l5 y5 c.now) 29 (0,0))/\cZ w' ⟨a1,l1,y1,a2,l2,y2,q3,m3,z3,a4,l4,y4,a5,l5,y5⟩ c'.raw (λk=>S k\/w.heap.size<=k)/\aG (λk=>S k\/k=b) w w'))
theorem B1 (c:Cl) (t:ByteArray) (n:Nd) (na:Option Addr) (nl nc:Nat) (S:Nat->Prop) (b:Nat) (a1:Option Addr) (l1 y1:Nat) (a2:Option Addr) (l2 y2:Nat) (a3:Option Addr) (l3 y3:Nat) (a4:Option Addr) (l4 y4:Nat) (a5:Option Addr) (l5 y5:Nat) (w:World) (hb:w.heap[b]?=Y3 (Y6 #[J a1 l1 y1,J a2 l2 y2,J a3 l3 y3,J a4 l4 y4,J a5 l5 y5,Y4 Y5 c.now] 29 (0,0))) (hO:cZ w ⟨a1,l1,y1,a2,l2,y2,a3,l3,y3,a4,l4,y4,a5,l5,y5⟩ c.raw S) (hS:∀k,S k->k<w.heap.size/\¬k=b) (hT:av c) (ht:hit Xd.n c.xs t=Y_) (hnz:aO n.z):
  Calls Tryz.prog 146 #[Zd (Y3 ⟨b,0,U⟩),I t,Za #[I n.n,I n.z,Y4 Y5 n.c,Y4 Y5 n.s,Y4 Y5 n.u,Y7 n.d,J na nl nc]] w (amw c t n S b a1 l1 y1 a2 l2 y2 a3 l3 y3 a4 l4 y4 a5 l5 y5 w):=by
 have HO:=aa hO;have HR:=aa hO.row;have HS:=aa hS;have HT:=aa hT;have HNZ:=aa hnz;have hl2:c.ks.length=l2:=by simpa using (show (c.ks.map kdF).length=l2 from hO.row.k.1)
 have hl3:c.vs.length=l3:=by simpa using (show (c.vs.map vdF).length=l3 from hO.row.v.1)
 have hl4:c.xs.length=l4:=by simpa using (show (c.xs.map xdF).length=l4 from hO.row.x.1)
 obtain⟨x,hx,hn⟩:=cv ht;generalize Rc.pl Xd.n c.xs t=i at hx;have HX:=aa (Yb hx hn);have hbd:=(hT.2.2.1.2 _ x hx).2;obtain⟨hi4,hii,hi0⟩:=M6;obtain⟨j,k,hkj,hkn⟩:∃(j:Nat) (k:Kd),c.ks[j]?=Y3 k/\k.n=x.k:=by obtain⟨k,h1,h2⟩:=cv (hT.2.2.1.2 _ x hx).1;exact⟨_,k,h1,h2⟩
 have z1734z:=@aa _ @Ce;exact rf
theorem wR (t:ByteArray):∀{ps:List Pd},(∀(j:Nat) p,ps[j]?=Y3 p->0<=p.c/\p.c<=1000000)->0<=cpuOf t ps/\cpuOf t ps<=ps.length*1000000
 | [],_=>by simp[cpuOf]
 | p ::ps,h=>by
  have h1:=h 0 p rfl;have h2:=wR t (ps:=ps) (λj q hq=>h (j+1) q (by simpa using hq));simp only[cpuOf,List.length_cons];split <;> omega
theorem afF (w:World) (o p q r:Obj):((((w.alloc o).alloc p).alloc q).alloc r).heap[w.heap.size+1+1+1]?=Y3 r:=by
 have h:=Yg (xs:=(((w.alloc o).alloc p).alloc q).heap) (x:=r);rwa [show (((w.alloc o).alloc p).alloc q).heap.size=w.heap.size+1+1+1 by simp] at h
theorem afG (w:World) (o p q r:Obj):((((w.alloc o).alloc p).alloc q).alloc r).heap[w.heap.size+1+1]?=Y3 q:=(Ym _ _ _ (by simp)).trans (lE w o p q)
theorem afH (w:World) (o p q r:Obj):((((w.alloc o).alloc p).alloc q).alloc r).heap[w.heap.size+1]?=Y3 p:=(Ym _ _ _ (by simp <;> omega)).trans (lF w o p q)
theorem afI (w:World) (o p q r:Obj):((((w.alloc o).alloc p).alloc q).alloc r).heap[w.heap.size]?=Y3 o:=(Ym _ _ _ (by simp <;> omega)).trans (qm w o p q)
def DiF (c:Cl) (t:ByteArray):Fact:=λv w=> ∃a l q zs,v=J a l q/\ay w a l q zs/\RT zs/\∀s,s∈zs↔PBs c t c.ps.length s\/VBs c t c.vs.length s
theorem DiF.mono (c:Cl) (t:ByteArray):Fact.bH (DiF c t):=by
 rintro v w w' ⟨a,l,q,zs,h1,h2,h3⟩ hb;exact⟨a,l,q,zs,h1,h2.below hb,h3⟩
def LeF (m:Nat):Fact:=λv _=> ∃a q,v=J a m q
theorem LeF.mono (m:Nat):Fact.bH (LeF m):=λ_ _ _ h _=>h
def alJ (c:Cl) (i:Nat) (p:Pd) (n:Nd) (w:World) (e:Ending) (w':World):Prop:=
 ∃(d':Ad) (c':Cl) (e0:Int),e=Y9 (Ze #[Za #[J d'.a1 d'.l1 d'.c1,J d'.a2 d'.l2 d'.c2,J d'.a3 d'.l3 d'.c3,J d'.a4 d'.l4 d'.c4,J d'.a5 d'.l5 d'.c5,Y4 Y5 c'.now],Y4 Y5 e0])/\((¬p.p=0/\e0=10)\/(p.p=0/\iC c i p n c' e0))/\(e0=0->cZ w' d' c'.raw (λk=>w.heap.size<=k))/\Below w.heap.size w w'
theorem qO (d:Ad) (c:Cl) (i j:Nat) (p:Pd) (n:Nd) (w:World) (hr:aB w d c.raw) (hT:av c) (hp:c.ps[i]?=Y3 p) (hn:c.ns[j]?=Y3 n):
  Calls Tryz.prog 114 #[Za #[J d.a1 d.l1 d.c1,J d.a2 d.l2 d.c2,J d.a3 d.l3 d.c3,J d.a4 d.l4 d.c4,J d.a5 d.l5 d.c5,Y4 Y5 c.now],Y4 Y5 i,Y4 Y5 j] w (alJ c i p n w):=by
 have z445z:=@aa _ @aaO;exact cf
def amA (c:Cl) (i:Nat) (p:Pd) (w:World) (e:Ending) (w':World):Prop:=(∃r:Int,e=Y9 (Y4 Y5 r)/\((r= -1/\iO c i p)\/∃(b:Nat) (n:Nd),r=b/\QQ c i p b n))/\Below w.heap.size w w'
def akg (c:Cl) (t:ByteArray) (p b e:Int):Prop:=(¬e=0/\∃i,uG c t i/\e=bu i)\/(e=0/\¬8000<t.size/\av c/\∃(x:Pd) (b':Nat) (n:Nd),p=(pl Pd.n c.ps t:Nat)/\b=b'/\c.ps[pl Pd.n c.ps t]?=Y3 x/\x.n=t/\x.p=0/\QQ c (pl Pd.n c.ps t) x b' n)
theorem uX (d:Ad) (c:Cl) (i:Nat) (p:Pd) (w:World) (hr:aB w d c.raw) (hT:av c) (hp:c.ps[i]?=Y3 p) (h0:p.p=0):
  Calls Tryz.prog 145 #[Za #[J d.a1 d.l1 d.c1,J d.a2 d.l2 d.c2,J d.a3 d.l3 d.c3,J d.a4 d.l4 d.c4,J d.a5 d.l5 d.c5,Y4 Y5 c.now],Y4 Y5 i] w (amA c i p w):=by
 have z445z:=@aa _ @aaN;exact cf
theorem AL (d:Ad) (c:Cl) (t:ByteArray) (w:World) (hr:aB w d c.raw):
  Calls Tryz.prog 113 #[Za #[J d.a1 d.l1 d.c1,J d.a2 d.l2 d.c2,J d.a3 d.l3 d.c3,J d.a4 d.l4 d.c4,J d.a5 d.l5 d.c5,Y4 Y5 c.now],I t] w λe w'=>(∃p b e0:Int,e=Y9 (Ze #[Y4 Y5 p,Y4 Y5 b,Y4 Y5 e0])/\akg c t p b e0)/\Below w.heap.size w w':=by
 have z154z:=@aa _ @aeu;exact jr
theorem Qx {w w1:World} {o:Obj} (h:Below w.heap.size w w1):Below w.heap.size w (w1.alloc o).drew:=Below.kR (h.trans ((ak _ _).mono h.size))
theorem AI (d:Ad) (c:Cl) (t:ByteArray) (w:World) (hr:aB w d c.raw):
  Calls Tryz.prog 68 #[Za #[J d.a1 d.l1 d.c1,J d.a2 d.l2 d.c2,J d.a3 d.l3 d.c3,J d.a4 d.l4 d.c4,J d.a5 d.l5 d.c5,Y4 Y5 c.now],I t] w (im (eD c t) w):=by
 have z445z:=@aa _ @aaM;exact cf
end Rc
end Go.Proofs.YtiplhgedmjoliaaGreatDoor

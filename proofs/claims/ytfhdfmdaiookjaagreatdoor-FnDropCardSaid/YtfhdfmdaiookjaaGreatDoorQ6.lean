import Derived.Test.YtfhdfmdaiookjaaGreatDoorQ5
import Derived.Deep.CutRange
/-
 A claim near a node, as the specification binds it in the cluster itself.
-/
set_option maxRecDepth 100000
set_option maxHeartbeats 12800000
open Bool renaming false→Y_,true→Zb
open Go.Ending renaming returned→Za
open Go.IntKind renaming i64→Y6
open Go.Obj renaming cells→Y8
open Go.Value renaming string→I,slice→J,int→Y7,bool→Y9,agg→Zc,pointer→Zf,tuple→Zg
open Option renaming none→U,some→Y5
open Or renaming inr→Zd,inl→Ze
open And renaming intro→Yb
open Array renaming getElem?_push_size→Yg, getD_eq_getD_getElem?→Yr, getElem?_eq_some_iff→Yw
open Bool renaming and_eq_true→YG
open Classical renaming byContradiction→YH
open Go.Addr renaming add_lit→Yn
open Go.Calls renaming quiet_of_same→Yz
open Go.Op renaming bytesLess→Yk
open Go.Region renaming ready→YQ
open Go.RowKit.Below renaming heap_setCell→Ya, refl→Yh, heap_alloc→Yl
open Go.Value renaming string→Ym, ownBlock→YL
open List renaming getElem?_eq_some_iff→Yc, lookup→Yf, getElem?_eq_getElem→Yi, length_map→Yo, mem_of_getElem?→Ys, setIfInBounds_toArray→Yt, getElem?_append_left→Yu, getElem?_map→Yv, drop_eq_nil_of_le→Yx, getElem?_take→YA, set_cons_zero→YC, getElem?_of_mem→YD, set_cons_succ→YE, length_take→YF, forall_mem_cons→YI, take_of_length_le→YJ, take_add_one→YN, mem_cons→YO, foldr→YT
open Nat renaming le_refl→Ye, lt_of_lt_of_le→Yj, le_trans→Yp, zero_add→Yq, le_succ→Yy, zero_le→YK
open Option renaming map_eq_some_iff→YB
open Option.some renaming inj→Yd
namespace Go.Proofs.YtfhdfmdaiookjaaGreatDoor
variable {p:Prop}
namespace Mk
end Mk
open Go.RowKit Mk
theorem kU(h:p:=by simp[results,Tryz.results128,go_sem, *]):p:=h
theorem uk(h:p:=by simp[results,Tryz.results127,go_sem, *]):p:=h
theorem iJ(h:p:=by simpa using hp):p:=h
theorem kR(h:p:=by simpa using hp0):p:=h
theorem Qc(h:p:=by
 rcases hp with ⟨h1,rfl⟩|⟨h1,h2,rfl⟩|⟨h1,h2,rfl⟩
 ·exact Ze ⟨by decide,0,h1,rfl⟩
 ·exact Ze ⟨by decide,1,⟨h1,h2⟩,rfl⟩
 ·exact Zd ⟨rfl,h1,h2⟩):p:=h
theorem wD(h:p:=by
 clear hf;obtain⟨n0,n1,n2,n3,n4,n5,n6⟩:=cs7 ((hW.block _ (ae Bn.out)).trans Bn.out);have ltn:=Yj (ae Bn.out) hW.size;exact aK):p:=h
theorem Pl(h:p:=by
 have z1141z:=@aa _ @LY;exact mY):p:=h
theorem Pc(h:p:=by
 clear hf;obtain⟨p0,p1,p2,p3,p4,p5⟩:=cs6 ((hW.block _ (ae Bp.out)).trans Bp.out);have ltp:=Yj (ae Bp.out) hW.size;exact aK):p:=h
theorem am8(h:p:=by
 have hszv1:((((w.alloc (Y8 (clo6 (Y5 ⟨bn,on,U⟩) l1 y1 a2 l2 y2 a3 l3 y3 a4 l4 y4 (Y5 ⟨b,o,U⟩) l5 y5 c.now) 29)).alloc (Y8 (clo6 U 0 0 U 0 0 U 0 0 U 0 0 U 0 0 0) 29)).alloc (Y8 (pov p va vl vc) 40)).alloc (Y8 #[I n.n,I n.z,Y7 Y6 n.c,Y7 Y6 n.s,Y7 Y6 n.u,Y9 Y_,J ua ul uc] 83)).heap.size=w.heap.size+1+1+1+1:=aG
 have Gk:Hid (((((w.alloc (Y8 (clo6 (Y5 ⟨bn,on,U⟩) l1 y1 a2 l2 y2 a3 l3 y3 a4 l4 y4 (Y5 ⟨b,o,U⟩) l5 y5 c.now) 29)).alloc (Y8 (clo6 U 0 0 U 0 0 U 0 0 U 0 0 U 0 0 0) 29)).alloc (Y8 (pov p va vl vc) 40)).alloc (Y8 #[I n.n,I n.z,Y7 Y6 n.c,Y7 Y6 n.s,Y7 Y6 n.u,Y9 Y_,J ua ul uc] 83)).heap[w.heap.size]?=Y5 (Y8 (clo6 (Y5 ⟨bn,on,U⟩) l1 y1 a2 l2 y2 a3 l3 y3 a4 l4 y4 (Y5 ⟨b,o,U⟩) l5 y5 c.now) 29 (0,0))):=agG _ _ _ _ _;have Gr:Hid (((((w.alloc (Y8 (clo6 (Y5 ⟨bn,on,U⟩) l1 y1 a2 l2 y2 a3 l3 y3 a4 l4 y4 (Y5 ⟨b,o,U⟩) l5 y5 c.now) 29)).alloc (Y8 (clo6 U 0 0 U 0 0 U 0 0 U 0 0 U 0 0 0) 29)).alloc (Y8 (pov p va vl vc) 40)).alloc (Y8 #[I n.n,I n.z,Y7 Y6 n.c,Y7 Y6 n.s,Y7 Y6 n.u,Y9 Y_,J ua ul uc] 83)).heap[w.heap.size+1]?=Y5 (Y8 (clo6 U 0 0 U 0 0 U 0 0 U 0 0 U 0 0 0) 29 (0,0))):=agF _ _ _ _ _;have Gp:Hid (((((w.alloc (Y8 (clo6 (Y5 ⟨bn,on,U⟩) l1 y1 a2 l2 y2 a3 l3 y3 a4 l4 y4 (Y5 ⟨b,o,U⟩) l5 y5 c.now) 29)).alloc (Y8 (clo6 U 0 0 U 0 0 U 0 0 U 0 0 U 0 0 0) 29)).alloc (Y8 (pov p va vl vc) 40)).alloc (Y8 #[I n.n,I n.z,Y7 Y6 n.c,Y7 Y6 n.s,Y7 Y6 n.u,Y9 Y_,J ua ul uc] 83)).heap[w.heap.size+1+1]?=Y5 (Y8 (pov p va vl vc) 40 (0,0))):=agE _ _ _ _ _;have Gn:Hid (((((w.alloc (Y8 (clo6 (Y5 ⟨bn,on,U⟩) l1 y1 a2 l2 y2 a3 l3 y3 a4 l4 y4 (Y5 ⟨b,o,U⟩) l5 y5 c.now) 29)).alloc (Y8 (clo6 U 0 0 U 0 0 U 0 0 U 0 0 U 0 0 0) 29)).alloc (Y8 (pov p va vl vc) 40)).alloc (Y8 #[I n.n,I n.z,Y7 Y6 n.c,Y7 Y6 n.s,Y7 Y6 n.u,Y9 Y_,J ua ul uc] 83)).heap[w.heap.size+1+1+1]?=Y5 (Y8 #[I n.n,I n.z,Y7 Y6 n.c,Y7 Y6 n.s,Y7 Y6 n.u,Y9 Y_,J ua ul uc] 83 (0,0))):=agD _ _ _ _ _;have HW:Hid (Below w.heap.size w ((((w.alloc (Y8 (clo6 (Y5 ⟨bn,on,U⟩) l1 y1 a2 l2 y2 a3 l3 y3 a4 l4 y4 (Y5 ⟨b,o,U⟩) l5 y5 c.now) 29)).alloc (Y8 (clo6 U 0 0 U 0 0 U 0 0 U 0 0 U 0 0 0) 29)).alloc (Y8 (pov p va vl vc) 40)).alloc (Y8 #[I n.n,I n.z,Y7 Y6 n.c,Y7 Y6 n.s,Y7 Y6 n.u,Y9 Y_,J ua ul uc] 83))):=(HB.trans ((nR _ _ _ _ _).mono HB.size));exact Yb hszv1 (Yb Gk (Yb Gr (Yb Gp (Yb Gn HW))))):p:=h
theorem ahx(h:p:=by
 have hszv2:(w1.alloc (Y8 #[I v.n,Y7 Y6 v.c,I v.z,I v.k,Y9 Zb,I v.m,Y9 v.y,J (Y5 ⟨bz,oz,U⟩) 1 vc] 38)).heap.size=w1.heap.size+1:=aG
 have Gg:Hid ((w1.alloc (Y8 #[I v.n,Y7 Y6 v.c,I v.z,I v.k,Y9 Zb,I v.m,Y9 v.y,J (Y5 ⟨bz,oz,U⟩) 1 vc] 38)).heap[b]?=Y5 (Y8 (clo6 a1 l1 y1 a2 l2 y2 (Y5 ⟨bv,ov,U⟩) l3 y3 a4 l4 y4 a5 l5 y5 c.now) 29 (0,0))):=(Yl _ _ _ (ae Bg.out)).trans (Bg.out);have Gn:Hid ((w1.alloc (Y8 #[I v.n,Y7 Y6 v.c,I v.z,I v.k,Y9 Zb,I v.m,Y9 v.y,J (Y5 ⟨bz,oz,U⟩) 1 vc] 38)).heap[w.heap.size]?=Y5 (Y8 (nov n na nl nc) 83 (0,0))):=(Yl _ _ _ (ae Bn.out)).trans (Bn.out);have Gv:Hid ((w1.alloc (Y8 #[I v.n,Y7 Y6 v.c,I v.z,I v.k,Y9 Zb,I v.m,Y9 v.y,J (Y5 ⟨bz,oz,U⟩) 1 vc] 38)).heap[w1.heap.size]?=Y5 (Y8 #[I v.n,Y7 Y6 v.c,I v.z,I v.k,Y9 Zb,I v.m,Y9 v.y,J (Y5 ⟨bz,oz,U⟩) 1 vc] 38 (0,0))):=Yg;have HW:Hid (Below w.heap.size w (w1.alloc (Y8 #[I v.n,Y7 Y6 v.c,I v.z,I v.k,Y9 Zb,I v.m,Y9 v.y,J (Y5 ⟨bz,oz,U⟩) 1 vc] 38))):=(HB.trans ((ak _ _).mono HB.size));exact Yb hszv2 (Yb Gg (Yb Gn (Yb Gv HW)))):p:=h
theorem alY(h:p:=by
 have hne0:=Wd.ne ((((w.alloc (Y8 (clo6 (Y5 ⟨bn,on,U⟩) l1 y1 a2 l2 y2 a3 l3 y3 a4 l4 y4 (Y5 ⟨b,o,U⟩) l5 y5 c.now) 29)).alloc (Y8 (clo6 U 0 0 U 0 0 U 0 0 U 0 0 U 0 0 0) 29)).alloc (Y8 (pov p va vl vc) 40)).alloc (Y8 #[I n.n,I n.z,Y7 Y6 n.c,Y7 Y6 n.s,Y7 Y6 n.u,Y9 Y_,J ua ul uc] 83));have HC0:=aa (λq:Wd ((((w.alloc (Y8 (clo6 (Y5 ⟨bn,on,U⟩) l1 y1 a2 l2 y2 a3 l3 y3 a4 l4 y4 (Y5 ⟨b,o,U⟩) l5 y5 c.now) 29)).alloc (Y8 (clo6 U 0 0 U 0 0 U 0 0 U 0 0 U 0 0 0) 29)).alloc (Y8 (pov p va vl vc) 40)).alloc (Y8 #[I n.n,I n.z,Y7 Y6 n.c,Y7 Y6 n.s,Y7 Y6 n.u,Y9 Y_,J ua ul uc] 83))=>ki ⟨(Y5 ⟨bn,on,U⟩),l1,y1,a2,l2,y2,a3,l3,y3,a4,l4,y4,(Y5 ⟨b,o,U⟩),l5,y5⟩ c.now c.ps n.n q.w (HR.p.below (HW.trans (q.b.mono HW.size))) HL8.out HPC.out);exact Yb hne0 HC0):p:=h
theorem ahs(h:p:=by
 have zc:∀q:Wd (w1.alloc (Y8 #[I v.n,Y7 Y6 v.c,I v.z,I v.k,Y9 Zb,I v.m,Y9 v.y,J (Y5 ⟨bz,oz,U⟩) 1 vc] 38)),q.w.cell? ⟨bz,oz,U⟩=Y5 (I z):=λq=>(q.cell bL).trans (((ak _ _).cell hbz).trans hcz);have hne0:=Wd.ne (w1.alloc (Y8 #[I v.n,Y7 Y6 v.c,I v.z,I v.k,Y9 Zb,I v.m,Y9 v.y,J (Y5 ⟨bz,oz,U⟩) 1 vc] 38));have HC0:=aa (λq:Wd (w1.alloc (Y8 #[I v.n,Y7 Y6 v.c,I v.z,I v.k,Y9 Zb,I v.m,Y9 v.y,J (Y5 ⟨bz,oz,U⟩) 1 vc] 38))=>(km ⟨a1,l1,y1,a2,l2,y2,(Y5 ⟨bv,ov,U⟩),l3,y3,a4,l4,y4,a5,l5,y5⟩ c t n.n q.w (HR.below (HW.trans (q.b.mono HW.size)))).mono (λ_ _ h=>au.no h HEL.out));exact Yb zc (Yb hne0 HC0)):p:=h
theorem An(h:p:=by
 have hne5:¬w.heap.size+1=w3.heap.size:=af
 have hne6:¬w3.heap.size=w.heap.size+1:=af
 exact Yb hne5 hne6):p:=h
theorem ahj(h:p:=by
 have xk:=λq:Wd w2=>(q.cell hbl).trans c2;have kx:=λq:Wd w2=>(q.cell hbk).trans d1;have hne0:=Wd.ne w2;have HC0:=aa (λq:Wd w2=>d_ ⟨a1,l1,y1,(Y5 ⟨bk,ok,U⟩),l2,y2,a3,l3,y3,(Y5 ⟨bx,ox,U⟩),l4,y4,a5,l5,y5⟩ c.now c.ks x.k q.w (HR.k.below (HW.trans (q.b.mono HW.size))) HT.2.1.2.1.2.2 HK.1 HK.2);exact Yb xk (Yb kx (Yb hne0 HC0))):p:=h
theorem ag9(h:p:=by
 have HB2:=upB HW q1.b;have Cg:=upK Gg q1.b;have Cn:=upK Gn q1.b;have Cv:=upK Gv q1.b;exact Yb HB2 (Yb Cg (Yb Cn Cv))):p:=h
theorem alA(h:p:=by
 go_wp2;exact bodyPost_ret (v:=Zc #[J U 0 0,J U 0 0,J U 0 0,J U 0 0,J U 0 0,Y7 Y6 0,I ⟨#[]⟩,Y7 Y6 e0]) (by simp[results,Tryz.results85,go_sem, *]) rfl ⟨ad0,co0 e0,rfl,HV.out,(rl0 _ _),sb1 (sb1 (sb1 (sb1 (sb1 (sb1 (sb1 (sb1 (HB.out))))))))⟩):p:=h
theorem ajt(h:p:=by
 rintro _ ⟨q1,rfl⟩;obtain⟨HB2,Cg,Cn,Cv⟩:=ag9;clear hne0 HW HB g0 g1 g2 g3 g4 g5 n0 n1 n2 n3 n4 n5 n6 v0 v1 v2 v3 v4 v5 v6 v7 Gg Gn Gv Bg Bn hszv2 c0 c1 c2 c3 c4 c5 c6 c7 hbv hq;have z1387z:=@aa _ @IF;exact mP):p:=h
theorem af8(h:p:=by
 have z658z:=@aa _ @WG;exact y_):p:=h
theorem af7(h:p:=by
 have z658z:=@aa _ @WE;exact y_):p:=h
theorem af6(h:p:=by
 have z1084z:=@aa _ @MF;exact tS):p:=h
theorem af5(h:p:=by
 have z521z:=@aa _ @aaC;exact fa):p:=h
theorem af4(h:p:=by
 have z955z:=@aa _ @Sz;exact yz):p:=h
theorem af3(h:p:=by
 have z955z:=@aa _ @Sy;exact yz):p:=h
theorem af2(h:p:=by
 repeat (go_big_quiet_step (first|(go_at_call 115;exact Calls.wide (HC0.out _))|fail))
 refine wpQuiet_nil ?_;rintro _ ⟨q1,rfl⟩;obtain⟨HB1,Ck⟩:=iL;clear hne0 HW HB HC0 k0 k1 k2 k3 k4 k5 e0 e2 Gk Bk c0 c1 c2 c3 c4 c5 c6;have HB:=HB1;clear HB1;have Bk:=Ck;clear Ck;by_cases hf:n.c - cpuOf n.n c.ps<=ms
 ·have hfd:decide (n.c - cpuOf n.n c.ps<=ms)=Zb:=by simpa using hf
  have z886z:=@aa _ @Tt;exact fR
 have hfd:decide (n.c - cpuOf n.n c.ps<=ms)=Y_:=by simpa using hf
 have HF:Hid (¬frN c n<=ms):=hf;clear hf;have z467z:=@aa _ @abm;exact cG):p:=h
theorem afx(h:p:=by
 have HB:=aa (Yh w.heap.size w);go_enter Tryz.func127,Tryz.ntmps127;go_wp2_with fail;refine (me ⟨a1,l1,y1,a2,l2,y2,a3,l3,y3,a4,l4,y4,a5,l5,y5⟩ c t _ (HR.below (HB.trans ((ak _ _).mono HB.size)))).mono ?_;rintro e w1 ⟨p,rfl,hp,hb⟩;obtain⟨HA0,hbx⟩:=aV hb;have Bk:=aa HA0;replace HB:=upB HB hbx;clear hb hbx HA0;have hp0:(¬p=0/\∃i,vr c t i/\p=bB i)\/(p=0/\¬8000<t.size/\aq c):=by
  exact Qc
 clear hp;rcases hp0 with ⟨hp0,hV⟩|⟨rfl,hl,hT⟩
 ·have hp1:(p==0)=Y_:=kR
  have HV:=aa hV;clear hV;have z886z:=@aa _ @Ts;exact fR
 have HT:=aa hT;have HLL:=aa hl;clear hT hl;have z467z:=@aa _ @abl;exact cG):p:=h
theorem abH(h:p:=by
 have HT:=aa hT;have HP:=aa hp;have HPC:=aa (λ(j:Nat) (q:Pd) (h:c.ps[j]?=Y5 q)=>(hT.2.1.2.2.2.2.2.1 j q h).2.1);have HN:=aa hn;have HNZ:=aa (hT.2.1.1.2.1 _ _ hn).2.1;have HB:=aa (Yh w.heap.size w);have hi5:i<l5:=by have:=(Yc.1 hp).1;omega
 have hii:(i:Int)<l5:=af
 have hi0:¬(i:Int)<0:=af
 have hj1:j<l1:=by have:=(Yc.1 hn).1;omega
 have hjj:(j:Int)<l1:=af
 have hj0:¬(j:Int)<0:=af
 obtain⟨b,o,y,rfl,hbl,hy,hat⟩:=cg HR.p hi5;rw[hp] at hy;obtain rfl:=Yd hy;obtain⟨va,vl,vc,hvr,-,-,-,c0,c1,c2,c3,c4,c5⟩:=bH hat;clear hat hy;obtain⟨bn,on,y,rfl,hbn,hy,hat⟩:=dh HR.n hj1;rw[hn] at hy;obtain rfl:=Yd hy;obtain⟨ua,ul,uc,hur,-,-,d0,d1,d2,d3,d4,d5,d6⟩:=bg hat;have HVR:=aa hvr;have hpl:p.zs.length=vl:=hvr.1;have hlc:vl<=9223372036854775807:=Yp hvr.2.1 hvr.2.2.1;clear hat hy hvr hur hp hn hT;have hbn1:bn<w.heap.size+1:=af
 have hbn2:bn<w.heap.size+1+1:=af
 go_enter Tryz.func128,Tryz.ntmps128;by_cases hph:p.p=0;rotate_left
 ·have hpb:(p.p==0)=Y_:=by simpa using hph
  go_wp2;exact bodyPost_ret (v:=Zg #[Zc #[J (Y5 ⟨bn,on,U⟩) l1 y1,J a2 l2 y2,J a3 l3 y3,J a4 l4 y4,J (Y5 ⟨b,o,U⟩) l5 y5,Y7 Y6 c.now],Y7 Y6 10]) kU rfl ⟨⟨(Y5 ⟨bn,on,U⟩),l1,y1,a2,l2,y2,a3,l3,y3,a4,l4,y4,(Y5 ⟨b,o,U⟩),l5,y5⟩,c,10,rfl,Ze ⟨hph,rfl⟩,λh=>absurd h ag,(HB.trans ((nR _ _ _ _ _).mono HB.size))⟩
 have hpb:(p.p==0)=Zb:=by simpa using hph
 have HPH:=aa hph;clear hph;cases hnd:n.d;rotate_left
 ·rw[hnd] at d5;go_wp2;exact bodyPost_ret (v:=Zg #[Zc #[J (Y5 ⟨bn,on,U⟩) l1 y1,J a2 l2 y2,J a3 l3 y3,J a4 l4 y4,J (Y5 ⟨b,o,U⟩) l5 y5,Y7 Y6 c.now],Y7 Y6 11]) kU rfl ⟨⟨(Y5 ⟨bn,on,U⟩),l1,y1,a2,l2,y2,a3,l3,y3,a4,l4,y4,(Y5 ⟨b,o,U⟩),l5,y5⟩,c,11,rfl,Zd ⟨HPH.out,Ze ⟨Ze hnd,rfl⟩⟩,λh=>absurd h ag,(HB.trans ((nR _ _ _ _ _).mono HB.size))⟩
 have HND:=aa hnd;rw[hnd] at d5;clear hnd;by_cases hu:n.u<=c.now
 ·go_wp2;exact bodyPost_ret (v:=Zg #[Zc #[J (Y5 ⟨bn,on,U⟩) l1 y1,J a2 l2 y2,J a3 l3 y3,J a4 l4 y4,J (Y5 ⟨b,o,U⟩) l5 y5,Y7 Y6 c.now],Y7 Y6 11]) kU rfl ⟨⟨(Y5 ⟨bn,on,U⟩),l1,y1,a2,l2,y2,a3,l3,y3,a4,l4,y4,(Y5 ⟨b,o,U⟩),l5,y5⟩,c,11,rfl,Zd ⟨HPH.out,Ze ⟨Zd hu,rfl⟩⟩,λh=>absurd h ag,(HB.trans ((nR _ _ _ _ _).mono HB.size))⟩
 have hub:decide (n.u<=c.now)=Y_:=by simpa using hu
 have HAW:Hid (¬RJ c n):=λh=>h.elim (λh=>by rw[HND.out] at h;cases h) hu;by_cases hZ:Ru p n
 ·have hz0:=aY hZ.1;have hz1:=bu hZ.2;go_wp2;exact bodyPost_ret (v:=Zg #[Zc #[J (Y5 ⟨bn,on,U⟩) l1 y1,J a2 l2 y2,J a3 l3 y3,J a4 l4 y4,J (Y5 ⟨b,o,U⟩) l5 y5,Y7 Y6 c.now],Y7 Y6 8]) kU rfl ⟨⟨(Y5 ⟨bn,on,U⟩),l1,y1,a2,l2,y2,a3,l3,y3,a4,l4,y4,(Y5 ⟨b,o,U⟩),l5,y5⟩,c,8,rfl,Zd ⟨HPH.out,Zd ⟨HAW.out,Ze ⟨hZ,rfl⟩⟩⟩,λh=>absurd h ag,(HB.trans ((nR _ _ _ _ _).mono HB.size))⟩
 have HZO:=aa hZ;go_upto_region 7 with fail;go_cut [39] from 23 to 49 (λs wx=>s=Y9 Y_/\wx=((((w.alloc (Y8 (clo6 (Y5 ⟨bn,on,U⟩) l1 y1 a2 l2 y2 a3 l3 y3 a4 l4 y4 (Y5 ⟨b,o,U⟩) l5 y5 c.now) 29)).alloc (Y8 (clo6 U 0 0 U 0 0 U 0 0 U 0 0 U 0 0 0) 29)).alloc (Y8 (pov p va vl vc) 40)).alloc (Y8 #[I n.n,I n.z,Y7 Y6 n.c,Y7 Y6 n.s,Y7 Y6 n.u,Y9 Y_,J ua ul uc] 83)));case first=>
  by_cases hz0:p.z=⟨#[]⟩
  ·have hz1:=cC hz0;clear hz0;go_wp2_with fail;go_meet;exact⟨rfl,rfl⟩
  ·have hz1:=aY hz0;have hz2:=aP (YH (λh=>HZO.out ⟨hz0,h⟩));clear hz0;go_wp2_with fail;go_meet;exact⟨rfl,rfl⟩
 case rest=>
  obtain⟨rfl,rfl⟩:=hcut;clear hZ hub hu hpb;have HL8:Hid (c.ps.length<=8):=by have h:=HT.2.1.2.2.2.2.1;show _<=_;omega
  have hU:=xK n.n HPC.out;have hl8:=HL8.out;have hu0:=hU.1;have hu1:cpuOf n.n c.ps<=8000000:=by have:=hU.2;omega
  have hnc:=(HT.2.1.1.2.1 _ _ HN.out).2.2.1;have hnc0:=hnc.1;have hnc1:=hnc.2;clear hU hnc;by_cases hCP:n.c - cpuOf n.n c.ps<p.c
  ·have hcp:decide (n.c - cpuOf n.n c.ps<p.c)=Zb:=by simpa using hCP
   have z1153z:=@aa _ @LP;exact tH
  have hcp:decide (n.c - cpuOf n.n c.ps<p.c)=Y_:=by simpa using hCP
  have HCP:Hid (¬agV c p n):=hCP;have z1153z:=@aa _ @LQ;exact tH):p:=h
theorem abG(h:p:=by
 have HT:=aa hT;have HP:=aa hp;have H0:=aa h0;have HPC:=aa (λ(j:Nat) p (hp:c.ps[j]?=Y5 p)=>(hT.2.1.2.2.2.2.2.1 j p hp).2.1);have HL8:Hid (c.ps.length<=8):=by have h:=hT.2.1.2.2.2.2.1;show _<=_;omega
 have HPP:Hid (0<=p.c):=(HPC.out i p hp).1;clear hT hp h0;go_enter Tryz.func164,Tryz.ntmps164;go_wp2_with fail;go_loopw [5,6,7] (λbq mq iq wr=> ∃(k:Nat) (bs ms:Int),k<=l1/\bq=Y7 Y6 bs/\mq=Y7 Y6 ms/\iq=Y7 Y6 k/\Hid (eX c i p k bs ms)/\Hid (Below w.heap.size w wr)/\Hid (wr.heap[w.heap.size]?=Y5 (Y8 (clo6 a1 l1 y1 a2 l2 y2 a3 l3 y3 a4 l4 y4 a5 l5 y5 c.now) 29 (0,0)))) (λ_ _ iq _=>l1 - (intOf iq).toNat);case atStart=>exact⟨0,-1,-1,by omega,rfl,rfl,rfl,eX.zero,ak _ _,heap_alloc_new _ _⟩
 case round=>
  obtain⟨k,bs,ms,hk,rfl,rfl,rfl,HK,HB,Bk⟩:=hrel;have ltk:=ae Bk.out;by_cases hlt:k<l1
  ·have hlt2:(k:Int)<(l1:Int):=af
   have z900z:=@aa _ @Te;exact fQ
  ·obtain rfl:l1=k:=af
   have hlt2:¬(l1:Int)<(l1:Int):=af
   have k0:wr.cell? ⟨w.heap.size,0,U⟩=Y5 (J a1 l1 y1):=an Bk.out 0;have hl1':=HK.out;rw[<-hl1] at hl1';have HD:=aa hl1'.done;clear hl1';go_wp2;go_ret;exact⟨⟨bs,rfl,HD.out⟩,HB.out⟩):p:=h
theorem abF(h:p:=by
 have HB:=aa (Yh w.heap.size w);go_enter Tryz.func85,Tryz.ntmps85;go_wp2_with fail;refine (AX ⟨a1,l1,y1,a2,l2,y2,a3,l3,y3,a4,l4,y4,a5,l5,y5⟩ c t _ (HR.below (HB.trans ((aS _ _ _).mono HB.size)))).mono ?_;rintro e w1 ⟨⟨p,b0,e0,rfl,hf⟩,hb⟩;have z1280z:=@aa _ @J3;exact gU):p:=h
theorem abn(h:p:=by
 have Qk:=Bk;have Qr:=Br;have Qp:=Bp;have Qn:=Bn;have HBQ:=HB;refine (cE ⟨(Y5 ⟨bn,on,U⟩),l1,y1,a2,l2,y2,a3,l3,y3,a4,l4,y4,(Y5 ⟨b,o,U⟩),l5,y5⟩ c _ (HR.below HB.out) HT.sm).mono ?_;rintro e w3 ⟨d',rfl,ho,hb⟩;have HQ2:=aa hb;clear k0 k1 k2 k3 k4 k5 ltk_1;replace Bk:=upK Bk hb;replace Br:=upK Br hb;replace Bp:=upK Bp hb;replace Bn:=upK Bn hb;replace HB:=upB HB hb;clear hb;obtain⟨x1,m1,f1,x2,m2,f2,x3,m3,f3,x4,m4,f4,x5,m5,f5⟩:=d';have into:∀{a l cp m T rs},aw w3 a l cp m T rs (λk=>q1.w.heap.size<=k)->aw (w3.alloc (Y8 (clo6 x1 m1 f1 x2 m2 f2 x3 m3 f3 x4 m4 f4 x5 m5 f5 c.now) 29)) a l cp m T rs (λk=>q1.w.heap.size<=k/\¬k=w3.heap.size/\k<(w3.alloc (Y8 (clo6 x1 m1 f1 x2 m2 f2 x3 m3 f3 x4 m4 f4 x5 m5 f5 c.now) 29)).heap.size):=λh=>(h.bm (S':=(λk=>q1.w.heap.size<=k/\¬k=w3.heap.size/\k<(w3.alloc (Y8 (clo6 x1 m1 f1 x2 m2 f2 x3 m3 f3 x4 m4 f4 x5 m5 f5 c.now) 29)).heap.size)) (λk hk s=>⟨s,Nat.ne_of_lt hk,by rw[cw];omega⟩)).below (ak w3 (Y8 (clo6 x1 m1 f1 x2 m2 f2 x3 m3 f3 x4 m4 f4 x5 m5 f5 c.now) 29));have HOV:Hid (df (w3.alloc (Y8 (clo6 x1 m1 f1 x2 m2 f2 x3 m3 f3 x4 m4 f4 x5 m5 f5 c.now) 29)) ⟨x1,m1,f1,x2,m2,f2,x3,m3,f3,x4,m4,f4,x5,m5,f5⟩ c.raw (λk=>q1.w.heap.size<=k/\¬k=w3.heap.size/\k<(w3.alloc (Y8 (clo6 x1 m1 f1 x2 m2 f2 x3 m3 f3 x4 m4 f4 x5 m5 f5 c.now) 29)).heap.size)):=⟨into ho.n,into ho.k,into ho.v,into ho.x,into ho.p⟩;have HV0:Hid (Below q1.w.heap.size q1.w (w3.alloc (Y8 (clo6 x1 m1 f1 x2 m2 f2 x3 m3 f3 x4 m4 f4 x5 m5 f5 c.now) 29))):=HQ2.trans ((ak w3 (Y8 (clo6 x1 m1 f1 x2 m2 f2 x3 m3 f3 x4 m4 f4 x5 m5 f5 c.now) 29)).mono HQ2.size);clear ho into;have z864z:=@aa _ @TO;exact cr):p:=h
theorem abm(h:p:=by
 refine (rB ⟨(Y5 ⟨b,o,U⟩),l1,y1,a2,l2,y2,a3,l3,y3,a4,l4,y4,a5,l5,y5⟩ c i k p n _ (HR.below HB.out) HT.out HP.out HXn.out).mono ?_;rintro e w4 ⟨d',c',e0,rfl,hA,-,hb⟩;clear k0 k1 k2 k3 k4 k5 ltk_1;replace Bk:=upK Bk hb;replace HB:=upB HB hb;clear hb;have HA:Hid (ke c i p n c' e0):=hA.elim (λh=>absurd H0.out h.1) (λh=>h.2);clear hA;have ltk4:=ae Bk.out;by_cases he:e0=0
 ·subst he;have z864z:=@aa _ @TL;exact cr
 have he2:(e0==0)=Y_:=by simpa using he
 have HE0:=aa he;clear he;have z864z:=@aa _ @TM;exact cr):p:=h
theorem abl(h:p:=by
 refine (gL ⟨a1,l1,y1,a2,l2,y2,a3,l3,y3,a4,l4,y4,a5,l5,y5⟩ c.now c.ps t _ (HR.p.below HB.out)).mono ?_;have z1425z:=@aa _ @Ia;exact mN):p:=h
theorem aba(h:p:=by
 obtain⟨r0,r1,r2,r3,r4,r5⟩:=cs6 Br;have ltr_1:=ae Br.out;obtain⟨fr0,fr1,fr2,fr3,fr4,fr5⟩:=oS;have hrl:w.heap.size+1<q1.w.heap.size:=ae Br.out;go_wp2;exact bodyPost_ret (v:=Zg #[Zc #[J (Y5 ⟨bn,on,U⟩) l1 y1,J a2 l2 y2,J a3 l3 y3,J a4 l4 y4,J (Y5 ⟨b,o,U⟩) l5 y5,Y7 Y6 c.now],Y7 Y6 9]) kU rfl ⟨⟨(Y5 ⟨bn,on,U⟩),l1,y1,a2,l2,y2,a3,l3,y3,a4,l4,y4,(Y5 ⟨b,o,U⟩),l5,y5⟩,c,9,rfl,Zd ⟨HPH.out,Zd ⟨HAW.out,Zd ⟨HZO.out,Ze ⟨hCP,rfl⟩⟩⟩⟩,λh=>absurd h ag,sb1 (sb1 (sb1 (sb1 (sb1 (sb1 (HB.out))))))⟩):p:=h
theorem aaD(h:p:=by
 have z1129z:=@aa _ @L7;exact tO):p:=h
theorem aaC(h:p:=by
 have z1129z:=@aa _ @L6;exact tO):p:=h
theorem WG(h:p:=by
 exact⟨c,10,rfl,⟨i,x,HX.1,HX.2,Ze ⟨j1,v,HV.1,HV.2,rfl,Zd (Ze ⟨HZ.out,⟨HVX.out,Zd (by obtain⟨j9,p9,h1,h2,h3,h4⟩:=HEL.out;exact⟨j9,p9,h1,h2,h3,by rw[HM.out];exact h4⟩)⟩,rfl⟩)⟩⟩,Ze ⟨by decide,HB.out⟩⟩):p:=h
theorem WE(h:p:=by
 exact⟨c,0,rfl,⟨i,x,HX.1,HX.2,Ze ⟨j1,v,HV.1,HV.2,rfl,Zd (Zd ⟨HZ.out,λh=>h.2.elim (λ⟨j9,t9,h1,h2⟩=>(by have h9:=(Yc.1 h1).1;omega)) (λ⟨j9,p9,h1,h2,h3,h4⟩=>HEL.out ⟨j9,p9,h1,h2,h3,by rw[<-HM.out];exact h4⟩),rfl⟩)⟩⟩,Zd ⟨rfl,Y5 ⟨bv,ov,U⟩,l3,y3,Bg.out,⟨(HO.below HB.out).n.bm (λ_ _ s=>Ze s),(HO.below HB.out).k.bm (λ_ _ s=>Ze s),(HO.below HB.out).v.bm (λ_ _ s=>Ze s),(HO.below HB.out).x.bm (λ_ _ s=>Ze s),(HO.below HB.out).p.bm (λ_ _ s=>Ze s)⟩,aI.dE HB.out⟩⟩):p:=h
theorem y_(h:p:=by
 have z1084z:=@aa _ @ME;exact tS):p:=h
theorem T8(h:p:=by
 have HLO:=aa HB.size;refine (rB ⟨(Y5 ⟨b,o,U⟩),l1,y1,a2,l2,y2,a3,l3,y3,a4,l4,y4,a5,l5,y5⟩ c (pl Pd.n c.ps t) b' x n _ (HR.below HB.out) HT.out HX.1 HBE.1).mono ?_;rintro e w2 ⟨d',c',e0,rfl,hA,hfr,hb⟩;have HC2:=aa ((ai hb hbl).trans c0);have hbl2:=Yj hbl hb.size;clear c0;clear k0 k1 k2 k3 k4 k5 ltk_1;have z1444z:=@aa _ @Hp;exact ba):p:=h
theorem T7(h:p:=by
 refine (aJ e0 _).mono ?_;have z1z:=@aa _ @alA;exact ff):p:=h
theorem TO(h:p:=by
 obtain⟨p0,p1,p2,p3,p4,p5⟩:=cs6 Bp;have ltp_2:=ae Bp.out;go_wp2_with fail;clear k0 k1 k2 k3 k4 k5 ltk_2 p0 p1 p2 p3 p4 p5 ltp_2;go_loopw [11] (λvi wr=> ∃(k:Nat) (c1:Cl) (q3:Option Addr) (g3 z3:Nat),k<=vl/\vi=Y7 Y6 k/\Hid (dU c n p.zs k c1)/\Hid (wr.heap[w3.heap.size]?=Y5 (Y8 (clo6 x1 m1 f1 x2 m2 f2 q3 g3 z3 x4 m4 f4 x5 m5 f5 c1.now) 29 (0,0)))/\Hid (df wr ⟨x1,m1,f1,x2,m2,f2,q3,g3,z3,x4,m4,f4,x5,m5,f5⟩ c1.raw (λk=>q1.w.heap.size<=k/\¬k=w3.heap.size/\k<wr.heap.size))/\Hid (Below q1.w.heap.size q1.w wr)) (λvi _=>vl - (intOf vi).toNat);case atStart=>exact⟨0,c,x3,m3,f3,by omega,rfl,rfl,heap_alloc_new w3 (Y8 (clo6 x1 m1 f1 x2 m2 f2 x3 m3 f3 x4 m4 f4 x5 m5 f5 c.now) 29),HOV.out,HV0.out⟩
 case round=>
  obtain⟨k,c1,q3,g3,z3,hk,rfl,HRD,HOB,HOF,HQB⟩:=hrel;replace HB:=aa (HBQ.trans (HQB.mono HBQ.size));have hRR:=dU.right HT.out HNZ.out k c1 HRD.out;have HT1:=aa hRR.1;have HR1:=aa hRR.2;clear hRR HV0 HOV;replace Bk:=aa ((HQB.block _ (ae Qk.out)).trans Qk.out);replace Br:=aa ((HQB.block _ (ae Qr.out)).trans Qr.out);replace Bp:=aa ((HQB.block _ (ae Qp.out)).trans Qp.out);replace Bn:=aa ((HQB.block _ (ae Qn.out)).trans Qn.out);have Bo:=HOB;by_cases hlt:k<vl
  ·have hk1:(k:Int)<vl:=af
   obtain⟨bz,oz,t,rfl,hbz,hx,hcz,-⟩:=(HVR.below HB.out).at hlt;have HX:=aa hx;have HHT:=aa (HR1.2.2.2.2 t ((HT.2.2.2.1.1 _ _ HP.out).1 k t hx));clear hx;have z864z:=@aa _ @TN;exact cr
  have hk1:¬(k:Int)<vl:=af
  obtain rfl:vl=k:=af
  obtain⟨p0,p1,p2,p3,p4,p5⟩:=cs6 Bp;have ltp_2:=ae Bp.out;go_wp2_with fail;clear p0 p1 p2 p3 p4 p5 ltp_2;have HP1:Hid (c1.ps[i]?=Y5 p):=by show _=_;rw[HR1.2.2.1];exact HP.out
  have HPD:Hid (¬p.d=n.n):=by
   have h:=(HT.2.1.2.2.2.2.2.1 _ _ HP.out).2.2.2.2;rw[HPH.out] at h;show¬_;rw[(fL _).1 h];exact λe=>lM (HT.2.1.1.2.1 _ _ HN.out).1 e.symm
  have HV8:Hid (c1.vs.length<=8):=by have h:=HT1.2.1.2.2.1.1;show _<=_;omega
  have HV3:Hid (vl<=3):=by have h:=(HT.2.1.2.2.2.2.2.1 _ _ HP.out).2.2.2.1.1;show _<=_;omega
  have HALL:Hid (RK c n p.zs c1 0):=Ze ⟨by rw[hpl];exact HRD.out,rfl⟩;obtain⟨L,hL⟩:∃L:Nat,L=(oc (plC c1 i p n.n) n.n c1.vs).length:=⟨_,rfl⟩;have HLL:=aa hL;clear hL;rename_i K0 hK0;refine ct (back:=U) bf (List.append_nil _).symm bf ?_;refine' Grow.stepC _ rfl ?_ ?_;rotate_left 1
  ·exact Pl
  refine' Grow.stepC _ rfl ?_ ?_;rotate_left 1
  ·exact Pl
  refine' Grow.stepC _ rfl ?_ ?_;rotate_left 1
  ·exact qu
  refine' Grow.stepC _ rfl ?_ ?_;rotate_left 1
  ·refine Obl.plain rfl ?_;intro ac wg K hsz hW hf hK;clear hsz;have e85:=hf 85 ag;simp[aj,Yf] at e85;exact wD
  refine Grow.step (DiF c1 n.n) rfl (DiF.mono _ _) ?_ ?_
  ·refine Obl.plain rfl ?_;intro ac wg K hsz hW hf hK;clear hsz;have e84:=hf 84 ag;simp[aj,Yf] at e84;have e86:=hf 86 ag;simp[aj,Yf] at e86;clear hf;go_simp;refine (A1 ⟨x1,m1,f1,x2,m2,f2,q3,g3,z3,x4,m4,f4,x5,m5,f5⟩ c1 n.n wg (HOF.row.below hW) HT1.out).mono ?_;rintro e w6 ⟨a6,l6,c6,ys,rfl,h1,h2,h3,hb6⟩;exact hK _ _ hb6 ⟨a6,l6,c6,ys,rfl,h1,h2,h3⟩
  refine' Grow.stepC _ rfl ?_ ?_;rotate_left 1
  ·have z1621z:=@aa _ @Pc;exact mw
  refine Grow.step (LeF L) rfl (LeF.mono _) ?_ ?_
  ·refine Obl.plain rfl ?_;intro ac wg K hsz hW hf hK;clear hsz;have e83:=hf 83 ag;simp[aj,Yf] at e83;have e87:=hf 87 ag;simp[aj,Yf] at e87;have e88:=hf 88 ag;simp[aj,Yf] at e88;clear hf;obtain⟨a6,l6,c6,ys,e87,h1,h2,h3⟩:=e87;have hys:=Ri HT1.out h2 h3;have hl6:l6+vl<=60:=by
    have h4:ys.length=l6:=h1.1;have h5:ys.length<=c1.vs.length:=by rw[hys];unfold oc;rw[Yo];exact List.length_filter_le _ _
    have h6:=HV8.out;have h7:=HV3.out;omega
   clear hys;go_simp;refine (oH ⟨x1,m1,f1,x2,m2,f2,q3,g3,z3,x4,m4,f4,x5,m5,f5⟩ c1 a6 l6 c6 ys p va vl vc wg (HOF.row.below hW) HT1.out h1 h2 (HVR.below (HB.trans (hW.mono HB.size))) hl6).mono ?_;rintro e w6 ⟨a7,l7,c7,ys2,rfl,k1,k2,k3,-,hb6⟩;obtain rfl:l7=L:=by
    have h8:=Bd HT1.out HP1.out HPD.out k2 (λt=>by rw[k3,h3]);have h9:ys2.length=l7:=k1.1;rw[h8] at h9;rw[<-h9];exact HLL.symm
   exact hK _ _ hb6 ⟨a7,c7,rfl⟩
  refine Grow.step (λv _=>v=Y7 Y6 L) rfl (Fact.dd _) ?_ ?_
  ·refine Obl.plain rfl ?_;intro ac wg K hsz hW hf hK;clear hsz;have e89:=hf 89 ag;simp[aj,Yf] at e89;clear hf;obtain⟨a7,c7,e89⟩:=e89;go_simp;exact hK _ _ (Yh _ _) rfl
  refine' Grow.stepC _ rfl ?_ ?_;rotate_left 1
  ·exact qu
  refine' Grow.stepC _ rfl ?_ ?_;rotate_left 1
  ·have z1599z:=@aa _ @wD;exact mE
  refine' Grow.stepC _ rfl ?_ ?_;rotate_left 1
  ·refine Obl.plain rfl ?_;intro ac wg K hsz hW hf hK;clear hsz;have e90:=hf 90 ag;simp[aj,Yf] at e90;have e92:=hf 92 ag;simp[aj,Yf] at e92;clear hf;exact aK
  have z1721z:=@aa _ @Dl;exact fx):p:=h
theorem TN(h:p:=by
 obtain⟨p0,p1,p2,p3,p4,p5⟩:=cs6 Bp;have ltp_2:=ae Bp.out;obtain⟨n0,n1,n2,n3,n4,n5,n6⟩:=cs7 Bn;have ltn_2:=ae Bn.out;go_wp2_with fail;clear k0 k1 k2 k3 k4 k5 ltk_2 p0 p1 p2 p3 p4 p5 ltp_2 n0 n1 n2 n3 n4 n5 n6 ltn_2;rename_i K0 hK0;refine Gu.vu bf rfl rfl rfl bf ?_;refine' Gu.Grow.stepC _ rfl ?_ ?_;rotate_left 1
 ·exact kC
 refine' Gu.Grow.stepC _ rfl ?_ ?_;rotate_left 1
 ·refine Obl.plain rfl ?_;intro ac wg K hsz hW hf hK;clear hsz;have e72:=hf 72 ag;simp[aj,Yf] at e72;exact Pc
 refine' Gu.Grow.stepC _ rfl ?_ ?_;rotate_left 1
 ·refine Obl.plain rfl ?_;intro ac wg K hsz hW hf hK;clear hsz;exact Pt
 refine' Gu.Grow.stepC _ rfl ?_ ?_;rotate_left 1
 ·refine Obl.plain rfl ?_;intro ac wg K hsz hW hf hK;clear hsz;have e73:=hf 73 ag;simp[aj,Yf] at e73;have e74:=hf 74 ag;simp[aj,Yf] at e74;clear hf;exact aK
 refine' Gu.Grow.stepC _ rfl ?_ ?_;rotate_left 1
 ·refine Obl.plain rfl ?_;intro ac wg K hsz hW hf hK;clear hsz;have e75:=hf 75 ag;simp[aj,Yf] at e75;clear hf;have c0:wg.cell? ⟨bz,oz+k,U⟩=Y5 (I t):=(hW.cell hbz).trans hcz;have l0:=Yj hbz hW.size;exact aK
 refine' Gu.Grow.stepC _ rfl ?_ ?_;rotate_left 1
 ·have z1618z:=@aa _ @wD;exact mx
 refine Gu.Grow.done ?_;intro q wz hW hf;simp only[YI] at hf;obtain⟨h77,h76,h75,h74,h73,h72,-⟩:=hf;have HBZ:=aa hW;have Bo6:=upK Bo hW;have HOF6:=aa (HOF.below hW);clear hW;intro K hK;rw[if_pos (by rfl)];simp only[aM,YT,Act.put,Yt,YC,YE,h77,h76,h75,h74,h73,h72];go_simp;have hC:=Cf c1 t n ua ul uc (λk=>q1.w.heap.size<=k/\¬k=w3.heap.size/\k<wr.heap.size) w3.heap.size x1 m1 f1 x2 m2 f2 q3 g3 z3 x4 m4 f4 x5 m5 f5 wz Bo6.out HOF6.out (λk s=>⟨Yj s.2.2 HBZ.size,s.2.1⟩) HT1.out HHT.out HNZ.out;rw[HND.out] at hC;refine hC.mono ?_;clear hC;rintro e w5 ⟨c2,e0,rfl,hN,hA⟩;rcases hA with ⟨he0,hb⟩|⟨rfl,q4,g4,z4,hbo,hof,hkp⟩
 ·have HV:Hid (ke c i p n c e0):=Zd ⟨HAW.out,Zd ⟨HZO.out,Zd ⟨HCP.out,c2,e0,Zd ⟨k,c1,t,HRD.out,HX.out,hN,he0⟩,Ze ⟨he0,rfl⟩⟩⟩⟩;have hq:=HBZ.trans (hb.mono HBZ.size);have heb:(e0==0)=Y_:=by simpa using he0
  have HE0:=aa he0;have HB5:=upB HB hq;have Bk5:=upK Bk hq;have Br5:=upK Br hq;clear hN hb hq he0 HB Bk Br Bp Bn Bo Bo6 HOF6 HOF HQB HBZ;have HB:=HB5;have Bk:=Bk5;have Br:=Br5;clear HB5 Bk5 Br5;refine hK _ _ ?_;clear hK K;intro K hK;rw[if_pos (by rfl)];go_simp;refine hK _ _ ?_;clear hK K;refine hK0 _ _ ?_;clear hK0 K0;obtain⟨k0,k1,k2,k3,k4,k5⟩:=cs6 Bk;have ltk_5:=ae Bk.out;obtain⟨r0,r1,r2,r3,r4,r5⟩:=cs6 Br;have ltr_5:=ae Br.out;obtain⟨fr0,fr1,fr2,fr3,fr4,fr5⟩:=oS;have hrl:w.heap.size+1<w5.heap.size:=ae Br.out;go_wp2;exact bodyPost_ret (v:=Zg #[Zc #[J (Y5 ⟨bn,on,U⟩) l1 y1,J a2 l2 y2,J a3 l3 y3,J a4 l4 y4,J (Y5 ⟨b,o,U⟩) l5 y5,Y7 Y6 c.now],Y7 Y6 e0]) kU rfl ⟨⟨(Y5 ⟨bn,on,U⟩),l1,y1,a2,l2,y2,a3,l3,y3,a4,l4,y4,(Y5 ⟨b,o,U⟩),l5,y5⟩,c,e0,rfl,Zd ⟨HPH.out,HV.out⟩,λh=>absurd h HE0.out,sb1 (sb1 (sb1 (sb1 (sb1 (sb1 (HB.out))))))⟩
 have hnw:c2.now=c1.now:=(hN.right HT1.out HNZ.out).2.2.2.2.1;have hol:=ae Bo6.out;have hq0:=HQB.size;have hq1:=HBZ.size;have hq2:=HQ2.size;have HRD2:Hid (dU c n p.zs (k+1) c2):=⟨c1,t,HRD.out,HX.out,hN⟩;have HBO2:=aa hbo;rw[<-hnw] at HBO2;have HQB2:=aa ((HQB.trans (HBZ.mono HQB.size)).trans (hkp.low (X:=q1.w.heap.size) af (λk s=>by rcases s with s|s;exact s.1;omega)));have into:∀{a l cp m T rs},aw w5 a l cp m T rs (λk=>(λk=>q1.w.heap.size<=k/\¬k=w3.heap.size/\k<wr.heap.size) k\/wz.heap.size<=k)->aw w5 a l cp m T rs (λk=>q1.w.heap.size<=k/\¬k=w3.heap.size/\k<w5.heap.size):=λh=>h.bm (λk hk s=>by rcases s with s|s;exact⟨s.1,s.2.1,hk⟩;exact⟨by omega,by omega,hk⟩);have HOF2:Hid (df w5 ⟨x1,m1,f1,x2,m2,f2,q4,g4,z4,x4,m4,f4,x5,m5,f5⟩ c2.raw (λk=>q1.w.heap.size<=k/\¬k=w3.heap.size/\k<w5.heap.size)):=⟨into hof.n,into hof.k,into hof.v,into hof.x,into hof.p⟩;clear into hof hbo hkp hN hnw;refine hK _ _ ?_;clear hK K;intro K hK;rw[if_pos (by rfl)];go_simp;refine hK _ _ ?_;clear hK K;refine hK0 _ _ ?_;clear hK0 K0;go_wp2;exact⟨⟨k+1,c2,q4,g4,z4,by omega,by go_num,HRD2.out,HBO2.out,HOF2.out,HQB2.out⟩,by simp[intOf];omega⟩):p:=h
theorem TM(h:p:=by
 go_wp2;refine⟨⟨k+1,bs,ms,by omega,rfl,rfl,by go_num,HK.no HXn.out (λ⟨_,h⟩=>HE0.out (HA.same HT.out HNZ.out h).1),HB.alloc HB.size _,(Yl _ _ _ ltk4).trans Bk.out⟩,by simp[intOf];omega⟩):p:=h
theorem TL(h:p:=by
 go_wp2;refine⟨⟨k+1,k,frN c n,by omega,rfl,by first|rfl|(congr 1;go_num),by go_num,HK.take HXn.out (by have h:=HF.out;omega) ⟨_,HA.out⟩,HB.alloc HB.size _,(Yl _ _ _ ltk4).trans Bk.out⟩,by simp[intOf];omega⟩):p:=h
theorem TK(h:p:=by
 go_wp2_with fail;clear c5;refine (vN ⟨a1,l1,y1,a2,l2,y2,a3,l3,y3,a4,l4,y4,(Y5 ⟨b,o,U⟩),l5,y5⟩ c i x _ (HR.below HB.out) HT.out HXI.out HPH.out).mono ?_;rintro e w3 ⟨⟨r,rfl,hf⟩,hb⟩;clear k0 k1 k2 k3 k4 k5 ltk_2;replace Bk:=upK Bk hb;replace HB:=upB HB hb;clear hb;rcases hf with ⟨rfl,hf⟩|⟨bb,nn,rfl,hf⟩
 ·have HNB:=aa hf;clear hf;have z1263z:=@aa _ @Kg;exact ee
 have HNB:=aa hf;have hb0:¬(bb:Int)<0:=af
 clear hf;have z1263z:=@aa _ @Kh;exact ee):p:=h
theorem TJ(h:p:=by
 go_wp2;exact bodyPost_ret (v:=Zg #[Y7 Y6 0,Y7 Y6 0,Y7 Y6 6]) uk rfl ⟨⟨_,_,_,rfl,Ze ⟨by decide,2,⟨HLL.out,HT.out,HV.out⟩,rfl⟩⟩,HB.out⟩):p:=h
theorem TI(h:p:=by
 go_wp2;exact bodyPost_ret (v:=Zg #[Y7 Y6 0,Y7 Y6 0,Y7 Y6 10]) uk rfl ⟨⟨_,_,_,rfl,Ze ⟨by decide,8,⟨HLL.out,HT.out,x,HXX.1,HXX.2,HPH.out⟩,rfl⟩⟩,HB.out⟩):p:=h
theorem Tt(h:p:=by
 go_wp2;refine⟨⟨k+1,bs,ms,by omega,rfl,rfl,by go_num,HK.pass HXn.out HPP.out hf,HB.out,Bk.out⟩,by simp[intOf];omega⟩):p:=h
theorem Ts(h:p:=by
 go_wp2;exact bodyPost_ret (v:=Zg #[Y7 Y6 0,Y7 Y6 0,Y7 Y6 p]) uk rfl ⟨⟨_,_,_,rfl,Ze ⟨hp0,HV.out⟩⟩,HB.out⟩):p:=h
theorem Tp(h:p:=by
 obtain⟨hszv2,Gg,Gn,Gv,HW⟩:=ahx;obtain⟨g0,g1,g2,g3,g4,g5⟩:=sl6 Gg;obtain⟨n0,n1,n2,n3,n4,n5,n6⟩:=sl7 Gn;obtain⟨v0,v1,v2,v3,v4,v5,v6,v7⟩:=sl8 Gv;obtain⟨zc,hne0,HC0⟩:=ahs;have z1247z:=@aa _ @Km;exact bY):p:=h
theorem To(h:p:=by
 have hszv2:(w1.alloc (Y8 #[I v.n,Y7 Y6 v.c,I v.z,I v.k,Y9 Y_,I v.m,Y9 v.y,J va vl vc] 38)).heap.size=w1.heap.size+1:=aG
 have Gg:Hid ((w1.alloc (Y8 #[I v.n,Y7 Y6 v.c,I v.z,I v.k,Y9 Y_,I v.m,Y9 v.y,J va vl vc] 38)).heap[b]?=Y5 (Y8 (clo6 a1 l1 y1 a2 l2 y2 (Y5 ⟨bv,ov,U⟩) l3 y3 a4 l4 y4 a5 l5 y5 c.now) 29 (0,0))):=(Yl _ _ _ (ae Bg.out)).trans (Bg.out);have Gn:Hid ((w1.alloc (Y8 #[I v.n,Y7 Y6 v.c,I v.z,I v.k,Y9 Y_,I v.m,Y9 v.y,J va vl vc] 38)).heap[w.heap.size]?=Y5 (Y8 (nov n na nl nc) 83 (0,0))):=(Yl _ _ _ (ae Bn.out)).trans (Bn.out);have Gv:Hid ((w1.alloc (Y8 #[I v.n,Y7 Y6 v.c,I v.z,I v.k,Y9 Y_,I v.m,Y9 v.y,J va vl vc] 38)).heap[w1.heap.size]?=Y5 (Y8 #[I v.n,Y7 Y6 v.c,I v.z,I v.k,Y9 Y_,I v.m,Y9 v.y,J va vl vc] 38 (0,0))):=Yg;have HW:Hid (Below w.heap.size w (w1.alloc (Y8 #[I v.n,Y7 Y6 v.c,I v.z,I v.k,Y9 Y_,I v.m,Y9 v.y,J va vl vc] 38))):=(HB.trans ((ak _ _).mono HB.size));have z1311z:=@aa _ @JD;exact jN):p:=h
theorem Tn(h:p:=by
 have hszv2:(w1.alloc (Y8 #[I v.n,Y7 Y6 v.c,I v.z,I v.k,Y9 Zb,I v.m,Y9 v.y,J va vl vc] 38)).heap.size=w1.heap.size+1:=aG
 have Gg:Hid ((w1.alloc (Y8 #[I v.n,Y7 Y6 v.c,I v.z,I v.k,Y9 Zb,I v.m,Y9 v.y,J va vl vc] 38)).heap[b]?=Y5 (Y8 (clo6 a1 l1 y1 a2 l2 y2 (Y5 ⟨bv,ov,U⟩) l3 y3 a4 l4 y4 a5 l5 y5 c.now) 29 (0,0))):=(Yl _ _ _ (ae Bg.out)).trans (Bg.out);have Gn:Hid ((w1.alloc (Y8 #[I v.n,Y7 Y6 v.c,I v.z,I v.k,Y9 Zb,I v.m,Y9 v.y,J va vl vc] 38)).heap[w.heap.size]?=Y5 (Y8 (nov n na nl nc) 83 (0,0))):=(Yl _ _ _ (ae Bn.out)).trans (Bn.out);have Gv:Hid ((w1.alloc (Y8 #[I v.n,Y7 Y6 v.c,I v.z,I v.k,Y9 Zb,I v.m,Y9 v.y,J va vl vc] 38)).heap[w1.heap.size]?=Y5 (Y8 #[I v.n,Y7 Y6 v.c,I v.z,I v.k,Y9 Zb,I v.m,Y9 v.y,J va vl vc] 38 (0,0))):=Yg;have HW:Hid (Below w.heap.size w (w1.alloc (Y8 #[I v.n,Y7 Y6 v.c,I v.z,I v.k,Y9 Zb,I v.m,Y9 v.y,J va vl vc] 38))):=(HB.trans ((ak _ _).mono HB.size));have z1311z:=@aa _ @JC;exact jN):p:=h
theorem Tm(h:p:=by
 have hszv2:(w1.alloc (Y8 #[I v.n,Y7 Y6 v.c,I v.z,I v.k,Y9 Zb,I v.m,Y9 v.y,J va 0 vc] 38)).heap.size=w1.heap.size+1:=aG
 have Gg:Hid ((w1.alloc (Y8 #[I v.n,Y7 Y6 v.c,I v.z,I v.k,Y9 Zb,I v.m,Y9 v.y,J va 0 vc] 38)).heap[b]?=Y5 (Y8 (clo6 a1 l1 y1 a2 l2 y2 (Y5 ⟨bv,ov,U⟩) l3 y3 a4 l4 y4 a5 l5 y5 c.now) 29 (0,0))):=(Yl _ _ _ (ae Bg.out)).trans (Bg.out);have Gn:Hid ((w1.alloc (Y8 #[I v.n,Y7 Y6 v.c,I v.z,I v.k,Y9 Zb,I v.m,Y9 v.y,J va 0 vc] 38)).heap[w.heap.size]?=Y5 (Y8 (nov n na nl nc) 83 (0,0))):=(Yl _ _ _ (ae Bn.out)).trans (Bn.out);have Gv:Hid ((w1.alloc (Y8 #[I v.n,Y7 Y6 v.c,I v.z,I v.k,Y9 Zb,I v.m,Y9 v.y,J va 0 vc] 38)).heap[w1.heap.size]?=Y5 (Y8 #[I v.n,Y7 Y6 v.c,I v.z,I v.k,Y9 Zb,I v.m,Y9 v.y,J va 0 vc] 38 (0,0))):=Yg;have HW:Hid (Below w.heap.size w (w1.alloc (Y8 #[I v.n,Y7 Y6 v.c,I v.z,I v.k,Y9 Zb,I v.m,Y9 v.y,J va 0 vc] 38))):=(HB.trans ((ak _ _).mono HB.size));have z1311z:=@aa _ @JB;exact jN):p:=h
theorem Tl(h:p:=by
 obtain⟨hszv2,Gg,Gn,Gv,HW⟩:=ahx;have z1311z:=@aa _ @JA;exact jN):p:=h
theorem jw(h:p:=by
 obtain⟨g0,g1,g2,g3,g4,g5⟩:=cs6 Bg;have ltg_1:=ae Bg.out;obtain⟨n0,n1,n2,n3,n4,n5,n6⟩:=cs7 Bn;have ltn_1:=ae Bn.out;go_wp2_with fail;clear g0 g1 g2 g3 g4 g5 ltg_1 n0 n1 n2 n3 n4 n5 n6 ltn_1;exact z894z):p:=h
theorem Te(h:p:=by
 have HTn:=aa hvr;have HZn0:=aa z0;have HZn1:=aa z1;clear hat hx z0 z1 hvr;have hU:=xK n.n HPC.out;have hl8:=HL8.out;have hu0:=hU.1;have hu1:cpuOf n.n c.ps<=8000000:=by have:=hU.2;omega
 have hnc:=(HT.2.1.1.2.1 _ _ HXn.out).2.2.1;have hnc0:=hnc.1;have hnc1:=hnc.2;have HNZ:=aa (HT.2.1.1.2.1 _ _ HXn.out).2.1;clear hU hnc;have k0:=an Bk.out 0;clear k0;have k0:wr.cell? ⟨w.heap.size,0,U⟩=Y5 (J (Y5 ⟨b,o,U⟩) l1 y1):=an Bk.out 0;go_wp2_with fail;clear k0;have Gk:=Bk;have HW:=HB;obtain⟨k0,k1,k2,k3,k4,k5⟩:=sl6 Gk;have e0:=λq:Wd wr=>(q.cell hb).trans c0;have e2:=λq:Wd wr=>(q.cell hb).trans c2;have hne0:=Wd.ne wr;have HC0:=aa (λq:Wd wr=>ki ⟨(Y5 ⟨b,o,U⟩),l1,y1,a2,l2,y2,a3,l3,y3,a4,l4,y4,a5,l5,y5⟩ c.now c.ps n.n q.w (HR.p.below (HW.trans (q.b.mono HW.size))) HL8.out HPC.out);have z55z:=@aa _ @af2;exact aC):p:=h
theorem Sz(h:p:=by
 clear hCP hcp hnc0 hnc1 hu0 hu1;have z467z:=@aa _ @abn;exact cG):p:=h
theorem Sy(h:p:=by
 have z483z:=@aa _ @aba;exact cQ):p:=h
theorem yz(h:p:=by
 repeat (go_big_quiet_step (first|(go_at_call 115;exact Calls.wide (HC0.out _))|fail))
 refine wpQuiet_nil ?_;rintro _ ⟨q1,rfl⟩;have HB1:=upB HW q1.b;obtain⟨Ck,Cr⟩:=eu;have Cp:=upK Gp q1.b;have Cn:=upK Gn q1.b;clear hne0 HW HB HC0 k0 k1 k2 k3 k4 k5 p0 p1 p2 p3 p4 p5 n0 n1 n2 n3 n4 n5 n6 Gk Gr Gp Gn hszv1 c0 c1 c2 c3 c4 c5 d0 d1 d2 d3 d4 d5 d6;have HB:=HB1;clear HB1;have Bk:=Ck;clear Ck;have Br:=Cr;clear Cr;have Bp:=Cp;clear Cp;have Bn:=Cn;clear Cn;exact z955z):p:=h
theorem MF(h:p:=by
 clear hne0 HW HB HC0 g0 g1 g2 g3 g4 g5 n0 n1 n2 n3 n4 n5 n6 v0 v1 v2 v3 v4 v5 v6 v7 zc Gg Gn Gv Bg Bn hszv2 c0 c1 c2 c3 c4 c5 c6 c7 hbv hq hcz hbz hqz;have z1387z:=@aa _ @IE;exact mP):p:=h
theorem ME(h:p:=by
 clear hne0 HW HB HC0 g0 g1 g2 g3 g4 g5 n0 n1 n2 n3 n4 n5 n6 v0 v1 v2 v3 v4 v5 v6 v7 Gg Gn Gv Bg Bn hszv2 c0 c1 c2 c3 c4 c5 c6 c7 hbv hq;have z1387z:=@aa _ @ID;exact mP):p:=h
theorem tS(h:p:=by
 have z1648z:=@aa _ @Ei;exact sd):p:=h
theorem L7(h:p:=by
 obtain⟨n0,n1,n2,n3,n4,n5,n6⟩:=cs7 Bn;have ltn_3:=ae Bn.out;go_wp2_with fail;refine (rC c i x j k n.z S b a1 l1 y1 (Y5 ⟨bk,ok,U⟩) l2 y2 a3 l3 y3 (Y5 ⟨bx,ox,U⟩) l4 y4 a5 l5 y5 q1.w Bg.out (HO.below HB.out) (λk s=>⟨Yj (HS.out k s).1 HB.size,(HS.out k s).2⟩) HT.out HX.1 HK.1 HK.2 HXV.out (Zd HNZ.out)).mono ?_;rintro e w4 hA;rcases hA with ⟨j1,u,h1,h2,rfl,h3,h4,h5⟩|⟨h1,⟨p9,hp0,hp,rfl,hb⟩|⟨h2,h3,h4,rfl,q3,m3,z3,h5,h6,h7⟩⟩
 ·have H1:=aa (Yb h1 h2);have H3:=aa h3;have H4:=aa h4;have H5:=aa h5;clear h1 h2 h3 h4 h5;go_wp2;go_ret;exact⟨fK c i j1 x u,0,rfl,⟨i,x,HX.1,HX.2,Zd ⟨HXV.out,j,k,⟨fK c i j1 x u,u.n,0⟩,HK.1,HK.2,Ze ⟨j1,u,H1.1,H1.2,rfl⟩,rfl,Zd ⟨HKX.out,rfl⟩⟩⟩,Zd ⟨rfl,a3,l3,y3,H3.out,⟨H4.n.bm (λ_ _ s=>Ze s),H4.k.bm (λ_ _ s=>Ze s),H4.v.bm (λ_ _ s=>Ze s),H4.x.bm (λ_ _ s=>Ze s),H4.p.bm (λ_ _ s=>Ze s)⟩,(aI.dE HB.out).trans (H5.mono (λ_ s=>Ze s))⟩⟩
 ·have H1:=aa h1;have HP0:=aa hp0;have HPP:=aa hp;have HB4:=upB HB hb;clear h1 hp0 hp hb;go_wp2;go_ret;refine⟨(co0 p9).c,p9,rfl,⟨i,x,HX.1,HX.2,Zd ⟨HXV.out,j,k,co0 p9,HK.1,HK.2,Zd ⟨H1.out,?_⟩,rfl,Zd ⟨HKX.out,rfl⟩⟩⟩,Ze ⟨HP0.out,HB4.out⟩⟩;rcases HPP.out with ⟨h2,rfl⟩|⟨h2,h3,rfl⟩|⟨h2,h3,h4,rfl⟩
  ·exact Ze ⟨h2,rfl⟩
  ·exact Zd ⟨h2,Ze ⟨h3,rfl⟩⟩
  ·exact Zd ⟨h2,Zd ⟨h3,Ze ⟨h4,rfl⟩⟩⟩
 ·have H1:=aa (Yb h1 (Yb h2 (Yb h3 h4)));have H5:=aa h5;have H6:=aa h6;have H7:=aa h7;clear h1 h2 h3 h4 h5 h6 h7;go_wp2;go_ret;exact⟨ew c i x (cO n.z k.z),0,rfl,⟨i,x,HX.1,HX.2,Zd ⟨HXV.out,j,k,⟨ew c i x (cO n.z k.z),aN++x.n,0⟩,HK.1,HK.2,Zd ⟨H1.1,Zd ⟨H1.2.1,Zd ⟨H1.2.2.1,Zd ⟨H1.2.2.2,rfl⟩⟩⟩⟩,rfl,Zd ⟨HKX.out,rfl⟩⟩⟩,Zd ⟨rfl,q3,m3,z3,H5.out,⟨H6.n.bm (λ_ _ s=>s.imp id (λq=>Yp HB.size q)),H6.k.bm (λ_ _ s=>s.imp id (λq=>Yp HB.size q)),H6.v.bm (λ_ _ s=>s.imp id (λq=>Yp HB.size q)),H6.x.bm (λ_ _ s=>s.imp id (λq=>Yp HB.size q)),H6.p.bm (λ_ _ s=>s.imp id (λq=>Yp HB.size q))⟩,(aI.dE HB.out).trans H7.out⟩⟩):p:=h
theorem L6(h:p:=by
 go_wp2;go_ret;obtain⟨oo,hoo⟩:=akZ c i x k n.z;exact⟨oo.c,11,rfl,⟨i,x,HX.1,HX.2,Zd ⟨HXV.out,j,k,oo,HK.1,HK.2,hoo,rfl,Ze ⟨HKX.out,rfl⟩⟩⟩,Ze ⟨by decide,HB.out⟩⟩):p:=h
theorem tO(h:p:=by
 have HB3:=upB HW q1.b;have Cg:=upK Gg q1.b;have Cn:=upK Gn q1.b;clear hne0 HW HB HC0 g0 g1 g2 g3 g4 g5 xk kx Gg Gn Bg Bn c2 d1 hbk hbl;have HB:=HB3;clear HB3;have Bg:=Cg;clear Cg;have Bn:=Cn;clear Cn;exact z1129z):p:=h
theorem LY(h:p:=by
 clear hf;obtain⟨o0,o1,o2,o3,o4,o5⟩:=cs6 ((hW.block _ (ae Bo.out)).trans Bo.out);have lto:=Yj (ae Bo.out) hW.size;exact aK):p:=h
theorem LQ(h:p:=by
 have z55z:=@aa _ @af4;exact aC):p:=h
theorem LP(h:p:=by
 have z55z:=@aa _ @af3;exact aC):p:=h
theorem tH(h:p:=by
 obtain⟨hszv1,Gk,Gr,Gp,Gn,HW⟩:=am8;obtain⟨k0,k1,k2,k3,k4,k5⟩:=sl6 Gk;obtain⟨p0,p1,p2,p3,p4,p5⟩:=sl6 Gp;obtain⟨n0,n1,n2,n3,n4,n5,n6⟩:=sl7 Gn;obtain⟨hne0,HC0⟩:=alY;exact z1153z):p:=h
theorem Lk(h:p:=by
 have c2:=HC2.out;have z1516z:=@aa _ @FX;exact jH):p:=h
theorem Kn(h:p:=by
 have z521z:=@aa _ @aaD;exact fa):p:=h
theorem Km(h:p:=by
 have z1648z:=@aa _ @Eh;exact sd):p:=h
theorem Ki(h:p:=by
 obtain⟨r0,r1,r2,r3,r4,r5⟩:=cs6 Br;have ltr_3:=ae Br.out;obtain⟨fr0,fr1,fr2,fr3,fr4,fr5⟩:=oS;have hrl:w.heap.size+1<wz.heap.size:=ae Br.out;go_wp2;exact bodyPost_ret (v:=Zg #[Zc #[J (Y5 ⟨bn,on,U⟩) l1 y1,J a2 l2 y2,J a3 l3 y3,J a4 l4 y4,J (Y5 ⟨b,o,U⟩) l5 y5,Y7 Y6 c.now],Y7 Y6 9]) kU rfl ⟨⟨(Y5 ⟨bn,on,U⟩),l1,y1,a2,l2,y2,a3,l3,y3,a4,l4,y4,(Y5 ⟨b,o,U⟩),l5,y5⟩,c,9,rfl,Zd ⟨HPH.out,Zd ⟨HAW.out,Zd ⟨HZO.out,Zd ⟨HCP.out,c1,0,HALL.out,Zd ⟨rfl,Ze ⟨HSH.out,rfl⟩⟩⟩⟩⟩⟩,λh=>absurd h ag,sb1 (sb1 (sb1 (sb1 (sb1 (sb1 (HB.out))))))⟩):p:=h
theorem Kh(h:p:=by
 go_wp2;exact bodyPost_ret (v:=Zg #[Y7 Y6 i,Y7 Y6 bb,Y7 Y6 0]) uk rfl ⟨⟨_,_,_,rfl,Zd ⟨rfl,HLL.out,HT.out,x,bb,nn,by rw[HPL.out],rfl,HXX.1,HXX.2,HPH.out,by rw[HPL.out];exact HNB.out⟩⟩,HB.out⟩):p:=h
theorem Kg(h:p:=by
 go_wp2;exact bodyPost_ret (v:=Zg #[Y7 Y6 0,Y7 Y6 0,Y7 Y6 11]) uk rfl ⟨⟨_,_,_,rfl,Ze ⟨by decide,7,⟨HLL.out,HT.out,x,HXX.1,HXX.2,HPH.out,by rw[HPL.out];exact HNB.out⟩,rfl⟩⟩,HB.out⟩):p:=h
theorem J3(h:p:=by
 rcases hf with ⟨he,i,hw,hc⟩|⟨rfl,hl,hT,x,b',n,rfl,rfl,hx,hn,hp,hB⟩
 ·have HV:Hid (gD c t (co0 e0)):=Ze ⟨i,hw,by rw[hc]⟩;clear hw hc;have hp1:(e0==0)=Y_:=by simpa using he
  have z846z:=@aa _ @T7;exact eA
 have HT:=aa hT;have HLL:=aa hl;have HX:=aa (Yb hx (Yb hn hp));have HBE:=aa hB;clear hT hl hx hn hp hB;have hb1:b'<l1:=by have:=(Yc.1 HBE.1).1;omega
 have hb0:¬(b':Int)<0:=af
 obtain⟨b,o,y,rfl,hbl,hy,hat⟩:=dh (HR.n.below HB.out) hb1;rw[HBE.1] at hy;obtain rfl:=Yd hy;obtain⟨va,vl,vc,hvr,z0,z1,c0,c1,c2,c3,c4,c5,c6⟩:=bg hat;have HNZ:=aa z0;clear hat hvr z0 z1 hy c1 c2 c3 c4 c5 c6;have z846z:=@aa _ @T8;exact eA):p:=h
theorem JD(h:p:=by
 have hne0:=Wd.ne (w1.alloc (Y8 #[I v.n,Y7 Y6 v.c,I v.z,I v.k,Y9 Y_,I v.m,Y9 v.y,J va vl vc] 38));have z15z:=@aa _ @ajt;exact aX):p:=h
theorem JC(h:p:=by
 have hne0:=Wd.ne (w1.alloc (Y8 #[I v.n,Y7 Y6 v.c,I v.z,I v.k,Y9 Zb,I v.m,Y9 v.y,J va vl vc] 38));have HC0:=aa (λq:Wd (w1.alloc (Y8 #[I v.n,Y7 Y6 v.c,I v.z,I v.k,Y9 Zb,I v.m,Y9 v.y,J va vl vc] 38))=>(km ⟨a1,l1,y1,a2,l2,y2,(Y5 ⟨bv,ov,U⟩),l3,y3,a4,l4,y4,a5,l5,y5⟩ c t n.n q.w (HR.below (HW.trans (q.b.mono HW.size)))).mono (λ_ _ h=>au.yes h HEL.out));have z55z:=@aa _ @af8;exact aC):p:=h
theorem JB(h:p:=by
 have hne0:=Wd.ne (w1.alloc (Y8 #[I v.n,Y7 Y6 v.c,I v.z,I v.k,Y9 Zb,I v.m,Y9 v.y,J va 0 vc] 38));have HC0:=aa (λq:Wd (w1.alloc (Y8 #[I v.n,Y7 Y6 v.c,I v.z,I v.k,Y9 Zb,I v.m,Y9 v.y,J va 0 vc] 38))=>(km ⟨a1,l1,y1,a2,l2,y2,(Y5 ⟨bv,ov,U⟩),l3,y3,a4,l4,y4,a5,l5,y5⟩ c t n.n q.w (HR.below (HW.trans (q.b.mono HW.size)))).mono (λ_ _ h=>au.no h HEL.out));have z55z:=@aa _ @af7;exact aC):p:=h
theorem JA(h:p:=by
 obtain⟨zc,hne0,HC0⟩:=ahs;have z55z:=@aa _ @af6;exact aC):p:=h
theorem jN(h:p:=by
 obtain⟨g0,g1,g2,g3,g4,g5⟩:=sl6 Gg;obtain⟨n0,n1,n2,n3,n4,n5,n6⟩:=sl7 Gn;obtain⟨v0,v1,v2,v3,v4,v5,v6,v7⟩:=sl8 Gv;exact z1311z):p:=h
theorem IF(h:p:=by
 exact⟨c,0,rfl,⟨i,x,HX.1,HX.2,Ze ⟨j1,v,HV.1,HV.2,rfl,Zd (Zd ⟨HZ.out,(λh=>by have h9:=h.1;rw[HVX.out] at h9;cases h9),rfl⟩)⟩⟩,Zd ⟨rfl,Y5 ⟨bv,ov,U⟩,l3,y3,Bg.out,⟨(HO.below HB.out).n.bm (λ_ _ s=>Ze s),(HO.below HB.out).k.bm (λ_ _ s=>Ze s),(HO.below HB.out).v.bm (λ_ _ s=>Ze s),(HO.below HB.out).x.bm (λ_ _ s=>Ze s),(HO.below HB.out).p.bm (λ_ _ s=>Ze s)⟩,aI.dE HB.out⟩⟩):p:=h
theorem IE(h:p:=by
 exact⟨c,0,rfl,⟨i,x,HX.1,HX.2,Ze ⟨j1,v,HV.1,HV.2,rfl,Zd (Zd ⟨HZ.out,λh=>h.2.elim (λ⟨j9,t9,h1,h2⟩=>(by have h9:=(Yc.1 h1).1;obtain rfl:j9=0:=af;rw[HZ0.out] at h1;cases h1;exact h2 HZN.out)) (λ⟨j9,p9,h1,h2,h3,h4⟩=>HEL.out ⟨j9,p9,h1,h2,h3,by rw[<-HM.out];exact h4⟩),rfl⟩)⟩⟩,Zd ⟨rfl,Y5 ⟨bv,ov,U⟩,l3,y3,Bg.out,⟨(HO.below HB.out).n.bm (λ_ _ s=>Ze s),(HO.below HB.out).k.bm (λ_ _ s=>Ze s),(HO.below HB.out).v.bm (λ_ _ s=>Ze s),(HO.below HB.out).x.bm (λ_ _ s=>Ze s),(HO.below HB.out).p.bm (λ_ _ s=>Ze s)⟩,aI.dE HB.out⟩⟩):p:=h
theorem ID(h:p:=by
 exact z658z):p:=h
theorem mP(h:p:=by
 have HB:=HB2;clear HB2;have Bg:=Cg;clear Cg;have Bn:=Cn;clear Cn;have Bv:=Cv;clear Cv;go_wp2;go_ret;exact z1387z):p:=h
theorem Ia(h:p:=by
 rcases hf with ⟨i,x,hx,hn,rfl⟩|⟨hno,rfl⟩;rotate_left
 ·have HV:=aa (f_ hno);clear hno;have z864z:=@aa _ @TJ;exact cr
 have z1664z:=@aa _ @D8;exact rZ):p:=h
theorem Hp(h:p:=by
 have hs:ke c (pl Pd.n c.ps t) x n c' e0:=hA.elim (λh=>absurd HX.2.2 h.1) (λh=>h.2);have he:e0=0:=by obtain⟨c2,h2⟩:=HBE.2.1;exact (hs.same HT.out (HT.2.1.1.2.1 _ _ HBE.1).2.1 h2).1
 subst he;have HFR:=aa (hfr rfl);have HIS:Hid (gD c t ⟨c',n.n,0⟩):=Zd ⟨HLL.out,HT.out,x,b',n,c',HX.1,HX.2.1,HX.2.2,HBE.out,hs,rfl⟩;clear hA hfr hs;have z1194z:=@aa _ @Lk;exact bD):p:=h
theorem FX(h:p:=by
 go_region;go_wp2;have hlo:=HLO.out;exact bodyPost_ret (v:=Zc #[J d'.a1 d'.l1 d'.c1,J d'.a2 d'.l2 d'.c2,J d'.a3 d'.l3 d'.c3,J d'.a4 d'.l4 d'.c4,J d'.a5 d'.l5 d'.c5,Y7 Y6 c'.now,I n.n,Y7 Y6 0]) (by simp[results,Tryz.results85,go_sem, *]) rfl ⟨d',⟨c',n.n,0⟩,rfl,HIS.out,((df.bR HFR.out Br.out (λk hk=>((heap_setCell_other _ _ _ _ hk).trans ((heap_setCell_other _ _ _ _ hk).trans ((heap_setCell_other _ _ _ _ hk).trans ((heap_setCell_other _ _ _ _ hk).trans ((heap_setCell_other _ _ _ _ hk).trans ((heap_setCell_other _ _ _ _ hk).trans ((heap_setCell_other _ _ _ _ hk).trans (heap_setCell_other _ _ _ _ hk)))))))))).below (Below.vj (ak _ _))).rl (λk s=>loq),Rm (sb1 (sb1 (sb1 (sb1 (sb1 (sb1 (sb1 (sb1 (HB.out)))))))))⟩):p:=h
theorem Fg(h:p:=by
 have HVR:=aa hvr;clear hat hy z0 z2 z3 z5 hvr;by_cases hz:v.z=n.z;rotate_left
 ·have hq:=bu hz;have HZ:=aa hz;clear hz;obtain⟨g0,g1,g2,g3,g4,g5⟩:=cs6 Bg;have ltg_1:=ae Bg.out;obtain⟨n0,n1,n2,n3,n4,n5,n6⟩:=cs7 Bn;have ltn_1:=ae Bn.out;go_wp2;go_ret;exact⟨c,8,rfl,⟨i,x,HX.1,HX.2,Ze ⟨j1,v,HV.1,HV.2,rfl,Ze ⟨HZ.out,rfl⟩⟩⟩,Ze ⟨by decide,HB.trans ((ak _ _).mono HB.size)⟩⟩
 have hq:=aP hz;have HZ:=aa hz;clear hz;cases hvx:v.x
 ·have HVX:=aa hvx;rw[hvx] at c4;clear hvx;have z894z:=@aa _ @To;exact jw
 have HVX:=aa hvx;rw[hvx] at c4;clear hvx;by_cases hel:∃(j:Nat) (p:Pd),c.ps[j]?=Y5 p/\OtP p n.n t
 ·have HEL:=aa hel;clear hel;have z894z:=@aa _ @Tn;exact jw
 have HEL:=aa hel;clear hel;have hvl:v.zs.length=vl:=HVR.1;have hv1:vl<=1:=by have h9:=HZS.out;rw[HVX.out] at h9;simp at h9;omega
 by_cases hv0:vl=0
 ·subst hv0;have z894z:=@aa _ @Tm;exact jw
 obtain rfl:vl=1:=af
 obtain⟨bz,oz,z,rfl,hbz,hz,hcz0,-⟩:=HVR.at (show 0<1 by omega);have hcz:w1.cell? ⟨bz,oz,U⟩=Y5 (I z):=by simpa using hcz0
 clear hcz0;have HZ0:=aa hz;clear hz;by_cases hzn:z=n.n
 ·have hqz:=aP hzn;have HZN:=aa hzn;clear hzn;have z894z:=@aa _ @Tl;exact jw
 have hqz:=bu hzn;have HZN:=aa hzn;clear hzn;have z894z:=@aa _ @Tp;exact jw):p:=h
theorem Ei(h:p:=by
 exact z1084z):p:=h
theorem Eh(h:p:=by
 clear hne0 HW HB HC0 g0 g1 g2 g3 g4 g5 n0 n1 n2 n3 n4 n5 n6 v0 v1 v2 v3 v4 v5 v6 v7 zc Gg Gn Gv Bg Bn hszv2 c0 c1 c2 c3 c4 c5 c6 c7 hbv hq hcz hbz hqz;have HB:=HB2;clear HB2;have Bg:=Cg;clear Cg;have Bn:=Cn;clear Cn;have Bv:=Cv;clear Cv;go_wp2;go_ret;exact⟨c,10,rfl,⟨i,x,HX.1,HX.2,Ze ⟨j1,v,HV.1,HV.2,rfl,Zd (Ze ⟨HZ.out,⟨HVX.out,Ze ⟨0,z,HZ0.out,HZN.out⟩⟩,rfl⟩)⟩⟩,Ze ⟨by decide,HB.out⟩⟩):p:=h
theorem sd(h:p:=by
 repeat (go_big_quiet_step (first|(go_at_call 174;exact Calls.wide (HC0.out _))|fail))
 refine wpQuiet_nil ?_;rintro _ ⟨q1,rfl⟩;obtain⟨HB2,Cg,Cn,Cv⟩:=ag9;exact z1648z):p:=h
theorem D8(h:p:=by
 clear hat hvr z0 z2 z4 hy hx c0 c1 c2 c3 c4;by_cases hp:x.p=0;rotate_left
 ·have hpb:(x.p==0)=Y_:=iJ
  have HPH:=aa hp;have z864z:=@aa _ @TI;exact cr
 have hpb:(x.p==0)=Zb:=iJ
 have HPH:=aa hp;clear hp;have z864z:=@aa _ @TK;exact cr):p:=h
theorem rZ(h:p:=by
 have hri:=HT.2.1.2.2.2.2.2.2;have hpl:=(bo hri hx hn).1;have HXX:Hid (c.ps[pl Pd.n c.ps t]?=Y5 x/\x.n=t):=⟨by rw[hpl];exact hx,hn⟩;have HXI:=aa hx;have HPL:=aa hpl;clear hpl hri hn;have hi5:i<l5:=by have:=(Yc.1 hx).1;omega
 have hi0:¬(i:Int)<0:=af
 obtain⟨b,o,y,rfl,hbl,hy,hat⟩:=cg (HR.p.below HB.out) hi5;rw[HXI.out] at hy;obtain rfl:=Yd hy;obtain⟨va,vl,vc,hvr,z0,z2,z4,c0,c1,c2,c3,c4,c5⟩:=bH hat;exact z1664z):p:=h
theorem Dl(h:p:=by
 obtain⟨h93,-⟩:=hf;have hb:=hW;refine hK0 _ _ ?_;simp only[aM,YT,Act.put,Yt,YC,YE,h93];clear hK0;have HOFZ:=aa (HOF.below hb);replace Bk:=upK Bk hb;replace Br:=upK Br hb;replace Bp:=upK Bp hb;replace Bn:=upK Bn hb;replace Bo:=upK Bo hb;replace HB:=upB HB hb;clear hb;by_cases hs:n.s<(L:Int)
 ·have hsb:decide (n.s<(L:Int))=Zb:=by simpa using hs
  have HSH:Hid (qR c1 i p n):=by show n.s<_;rw[<-HLL.out];exact hs
  have z1263z:=@aa _ @Ki;exact ee
 have hsb:decide (n.s<(L:Int))=Y_:=by simpa using hs
 have HSH:Hid (¬qR c1 i p n):=by show¬n.s<_;rw[<-HLL.out];exact hs
 obtain⟨g,hga,hS⟩:=HOFZ.p.st (aI.refl _ wz) (i:=i) (r:=pdF p) (show (c1.ps.map pdF)[i]?=Y5 (pdF p) by rw[Yv,HP1.out];rfl);have hga':x5=Y5 ⟨g,0,U⟩:=hga;subst hga';have hgS:=(by obtain⟨⟨cur,H,h1,_⟩,_⟩:=hS;exact⟨h1.inS,ae h1.blk⟩:(λk=>q1.w.heap.size<=k/\¬k=w3.heap.size/\k<wr.heap.size) g/\g<wz.heap.size);obtain⟨⟨hg1,hg2,-⟩,hg3⟩:=hgS;obtain⟨v4,hv4⟩:=hS.cell (i:=4) rfl;obtain⟨v5,hv5⟩:=hS.cell (i:=5) rfl;have hf4:=hS.ob (i*6+4);have hf5:=hS.ob (i*6+5);have hi6:(i:Int)<m5:=by have h6:(c1.ps.map pdF).length=m5:=HOFZ.p.1;rw[Yo] at h6;have h7:=(Yc.1 HP1.out).1;omega
 have HST:=aa hS;have hqn:=ae Qn.out;have hqo:=HQ2.size;have hox:=ae Bo.out;have hne1:¬w3.heap.size=g:=λe=>hg2 e.symm;have hne3:¬g=w.heap.size+1:=af
 have hne4:¬w.heap.size+1=g:=af
 obtain⟨hne5,hne6⟩:=An;have hne7:¬w.heap.size+1+1+1=g:=af
 clear hS hga;obtain⟨r0,r1,r2,r3,r4,r5⟩:=cs6 Br;have ltr_3:=ae Br.out;obtain⟨n0,n1,n2,n3,n4,n5,n6⟩:=cs7 Bn;have ltn_3:=ae Bn.out;obtain⟨o0,o1,o2,o3,o4,o5⟩:=cs6 Bo;have lto_3:=ae Bo.out;obtain⟨fr0,fr1,fr2,fr3,fr4,fr5⟩:=oS;go_wp2;refine bodyPost_ret (v:=Zg #[Zc #[J x1 m1 f1,J x2 m2 f2,J q3 g3 z3,J x4 m4 f4,J (Y5 ⟨g,0,U⟩) m5 f5,Y7 Y6 c1.now],Y7 Y6 0]) kU rfl ⟨⟨x1,m1,f1,x2,m2,f2,q3,g3,z3,x4,m4,f4,(Y5 ⟨g,0,U⟩),m5,f5⟩,plC c1 i p n.n,0,rfl,Zd ⟨HPH.out,Zd ⟨HAW.out,Zd ⟨HZO.out,Zd ⟨HCP.out,c1,0,HALL.out,Zd ⟨rfl,Zd ⟨HSH.out,rfl,rfl⟩⟩⟩⟩⟩⟩,λ_=>?_,sb1 (sb1 (sb1 (sb1 (sb1 (sb1 (ah (show w.heap.size<=g by omega) (ah (show w.heap.size<=g by omega) HB.out)))))))⟩;have hk2:∀k,q1.w.heap.size<=k->((((((((wz.setCell ⟨g,i*6+4,U⟩ (I n.n)).setCell ⟨g,i*6+5,U⟩ (Y7 Y6 1)).setCell ⟨w.heap.size+1,0,U⟩ (J x1 m1 f1)).setCell ⟨w.heap.size+1,1,U⟩ (J x2 m2 f2)).setCell ⟨w.heap.size+1,2,U⟩ (J q3 g3 z3)).setCell ⟨w.heap.size+1,3,U⟩ (J x4 m4 f4)).setCell ⟨w.heap.size+1,4,U⟩ (J (Y5 ⟨g,0,U⟩) m5 f5)).setCell ⟨w.heap.size+1,5,U⟩ (Y7 Y6 c1.now)).heap[k]?=((wz.setCell ⟨g,i*6+4,U⟩ (I n.n)).setCell ⟨g,i*6+5,U⟩ (Y7 Y6 1)).heap[k]?:=λk h1=>by rw[Ya _ _ _ _ (show k≠w.heap.size+1 by omega),Ya _ _ _ _ (show k≠w.heap.size+1 by omega),Ya _ _ _ _ (show k≠w.heap.size+1 by omega),Ya _ _ _ _ (show k≠w.heap.size+1 by omega),Ya _ _ _ _ (show k≠w.heap.size+1 by omega),Ya _ _ _ _ (show k≠w.heap.size+1 by omega)]
 have hk3:∀k,q1.w.heap.size<=k->¬k=g->((((((((wz.setCell ⟨g,i*6+4,U⟩ (I n.n)).setCell ⟨g,i*6+5,U⟩ (Y7 Y6 1)).setCell ⟨w.heap.size+1,0,U⟩ (J x1 m1 f1)).setCell ⟨w.heap.size+1,1,U⟩ (J x2 m2 f2)).setCell ⟨w.heap.size+1,2,U⟩ (J q3 g3 z3)).setCell ⟨w.heap.size+1,3,U⟩ (J x4 m4 f4)).setCell ⟨w.heap.size+1,4,U⟩ (J (Y5 ⟨g,0,U⟩) m5 f5)).setCell ⟨w.heap.size+1,5,U⟩ (Y7 Y6 c1.now)).heap[k]?=wz.heap[k]?:=λk h1 h3=>by rw[hk2 k h1,Ya _ _ _ _ h3,Ya _ _ _ _ h3]
 obtain⟨⟨cur,H,hbk,_⟩,_⟩:=HST.out;have h2:=(HST.RX (i:=4) rfl n.n (by have h9:=(HT.2.1.1.2.1 _ _ HN.out).1.2.1;omega)).AZ (i:=5) rfl 1;obtain⟨⟨cur2,H2,h3,_⟩,_,_⟩:=h2;have hps:(plC c1 i p n.n).raw.p=(c1.ps.map pdF).set i (pdF (onP p n.n)):=by
  show (c1.ps.set i (onP p n.n)).map pdF=_;rw[List.map_set]
 refine⟨?_,?_,?_,?_,?_⟩
 ·exact (HOFZ.n.dH hbk.blk ag ag).ay (w':=((((((((wz.setCell ⟨g,i*6+4,U⟩ (I n.n)).setCell ⟨g,i*6+5,U⟩ (Y7 Y6 1)).setCell ⟨w.heap.size+1,0,U⟩ (J x1 m1 f1)).setCell ⟨w.heap.size+1,1,U⟩ (J x2 m2 f2)).setCell ⟨w.heap.size+1,2,U⟩ (J q3 g3 z3)).setCell ⟨w.heap.size+1,3,U⟩ (J x4 m4 f4)).setCell ⟨w.heap.size+1,4,U⟩ (J (Y5 ⟨g,0,U⟩) m5 f5)).setCell ⟨w.heap.size+1,5,U⟩ (Y7 Y6 c1.now))) (S':=λk=>w.heap.size<=k) (λk hk s=>hk3 k s.1.1 s.2) (λk _ s=>by have s1:=s.1.1;show w.heap.size<=k;omega)
 ·exact (HOFZ.k.dH hbk.blk ag ag).ay (w':=((((((((wz.setCell ⟨g,i*6+4,U⟩ (I n.n)).setCell ⟨g,i*6+5,U⟩ (Y7 Y6 1)).setCell ⟨w.heap.size+1,0,U⟩ (J x1 m1 f1)).setCell ⟨w.heap.size+1,1,U⟩ (J x2 m2 f2)).setCell ⟨w.heap.size+1,2,U⟩ (J q3 g3 z3)).setCell ⟨w.heap.size+1,3,U⟩ (J x4 m4 f4)).setCell ⟨w.heap.size+1,4,U⟩ (J (Y5 ⟨g,0,U⟩) m5 f5)).setCell ⟨w.heap.size+1,5,U⟩ (Y7 Y6 c1.now))) (S':=λk=>w.heap.size<=k) (λk hk s=>hk3 k s.1.1 s.2) (λk _ s=>by have s1:=s.1.1;show w.heap.size<=k;omega)
 ·exact (HOFZ.v.dH hbk.blk ag ag).ay (w':=((((((((wz.setCell ⟨g,i*6+4,U⟩ (I n.n)).setCell ⟨g,i*6+5,U⟩ (Y7 Y6 1)).setCell ⟨w.heap.size+1,0,U⟩ (J x1 m1 f1)).setCell ⟨w.heap.size+1,1,U⟩ (J x2 m2 f2)).setCell ⟨w.heap.size+1,2,U⟩ (J q3 g3 z3)).setCell ⟨w.heap.size+1,3,U⟩ (J x4 m4 f4)).setCell ⟨w.heap.size+1,4,U⟩ (J (Y5 ⟨g,0,U⟩) m5 f5)).setCell ⟨w.heap.size+1,5,U⟩ (Y7 Y6 c1.now))) (S':=λk=>w.heap.size<=k) (λk hk s=>hk3 k s.1.1 s.2) (λk _ s=>by have s1:=s.1.1;show w.heap.size<=k;omega)
 ·exact (HOFZ.x.dH hbk.blk ag ag).ay (w':=((((((((wz.setCell ⟨g,i*6+4,U⟩ (I n.n)).setCell ⟨g,i*6+5,U⟩ (Y7 Y6 1)).setCell ⟨w.heap.size+1,0,U⟩ (J x1 m1 f1)).setCell ⟨w.heap.size+1,1,U⟩ (J x2 m2 f2)).setCell ⟨w.heap.size+1,2,U⟩ (J q3 g3 z3)).setCell ⟨w.heap.size+1,3,U⟩ (J x4 m4 f4)).setCell ⟨w.heap.size+1,4,U⟩ (J (Y5 ⟨g,0,U⟩) m5 f5)).setCell ⟨w.heap.size+1,5,U⟩ (Y7 Y6 c1.now))) (S':=λk=>w.heap.size<=k) (λk hk s=>hk3 k s.1.1 s.2) (λk _ s=>by have s1:=s.1.1;show w.heap.size<=k;omega)
 ·have hR:aw ((wz.setCell ⟨g,i*6+4,U⟩ (I n.n)).setCell ⟨g,i*6+5,U⟩ (Y7 Y6 1)) (Y5 ⟨g,0,U⟩) m5 f5 6 40 (plC c1 i p n.n).raw.p (λk=>q1.w.heap.size<=k/\¬k=w3.heap.size/\k<wr.heap.size):=by
   rw[hps];exact⟨by rw[List.length_set];exact HOFZ.p.1,HOFZ.p.2.1,HOFZ.p.2.2.1,Zd ⟨g,cur2,H2,rfl,h3⟩⟩
  exact hR.ay (w':=((((((((wz.setCell ⟨g,i*6+4,U⟩ (I n.n)).setCell ⟨g,i*6+5,U⟩ (Y7 Y6 1)).setCell ⟨w.heap.size+1,0,U⟩ (J x1 m1 f1)).setCell ⟨w.heap.size+1,1,U⟩ (J x2 m2 f2)).setCell ⟨w.heap.size+1,2,U⟩ (J q3 g3 z3)).setCell ⟨w.heap.size+1,3,U⟩ (J x4 m4 f4)).setCell ⟨w.heap.size+1,4,U⟩ (J (Y5 ⟨g,0,U⟩) m5 f5)).setCell ⟨w.heap.size+1,5,U⟩ (Y7 Y6 c1.now))) (S':=λk=>w.heap.size<=k) (λk hk s=>hk2 k s.1) (λk _ s=>by have s1:=s.1;show w.heap.size<=k;omega)):p:=h
theorem CO(h:p:=by
 have HB:=aa (Yh w.heap.size w);clear hO hS hT hnz ht hx hn hkj hkn;have Bg:=aa (hb);clear hb;rcases hbd with hv0|hBd;rotate_left
 ·obtain⟨i1,j1,x1,v,b1,b2,b3,b4,b5,b6,-⟩:=hBd;have HV:=aa (Yb b3 b4);have HM:Hid (v.m=t):=b6.trans HX.2;have HZS:=aa ((HT.2.1.2.2.1.2.1 j1 v b3).2.2.2.2.2.2.1);have hj3:j1<l3:=by have:=(Yc.1 b3).1;omega
  have hjj3:(j1:Int)<l3:=af
  have hj03:¬(j1:Int)<0:=af
  clear b1 b2 b3 b4 b5 b6;go_enter Tryz.func165,Tryz.ntmps165;obtain⟨g0,g1,g2,g3,g4,g5⟩:=cs6 Bg;have ltg_0:=ae Bg.out;go_wp2_with fail;refine (oF ⟨a1,l1,y1,a2,l2,y2,a3,l3,y3,a4,l4,y4,a5,l5,y5⟩ c t _ (HR.below (HB.trans ((ak _ _).mono HB.size))) HT.out HV.1 ⟨i,j1,x,HX.1,HX.2,HV.1,HV.2⟩).mono ?_;rintro e w1 ⟨rfl,hb⟩;clear g0 g1 g2 g3 g4 g5 ltg_0;obtain⟨HA0,hbx⟩:=aV hb;replace Bg:=upK Bg hbx;have Bn:=aa HA0;replace HB:=upB HB hbx;clear hb hbx HA0;obtain⟨bv,ov,y,rfl,hbv,hy,hat⟩:=bK (HR.v.below HB.out) hj3;rw[HV.1] at hy;obtain rfl:=Yd hy;have z1559z:=@aa _ @Fg;exact eQ
 have HXV:=aa hv0;clear hv0;go_enter Tryz.func165,Tryz.ntmps165;obtain⟨g0,g1,g2,g3,g4,g5⟩:=cs6 Bg;have ltg_0:=ae Bg.out;go_wp2_with fail;refine (rG ⟨a1,l1,y1,a2,l2,y2,a3,l3,y3,a4,l4,y4,a5,l5,y5⟩ c t _ (HR.below (HB.trans ((ak _ _).mono HB.size))) HT.out (λv h=>nF HT.out HX.1 HXV.out h HX.2.symm)).mono ?_;rintro e w1 ⟨rfl,hb⟩;clear g0 g1 g2 g3 g4 g5 ltg_0;obtain⟨HA0,hbx⟩:=aV hb;replace Bg:=upK Bg hbx;have Bn:=aa HA0;replace HB:=upB HB hbx;clear hb hbx HA0;obtain⟨g0,g1,g2,g3,g4,g5⟩:=cs6 Bg;have ltg_1:=ae Bg.out;go_wp2_with fail;refine (eM ⟨a1,l1,y1,a2,l2,y2,a3,l3,y3,a4,l4,y4,a5,l5,y5⟩ c.now c.xs t _ (HR.x.below HB.out) HT.2.1.2.2.2.1.2.2 HX.1 HX.2).mono ?_;rintro e w2 ⟨rfl,hb⟩;clear g0 g1 g2 g3 g4 g5 ltg_1;replace Bg:=upK Bg hb;replace Bn:=upK Bn hb;replace HB:=upB HB hb;clear hb;obtain⟨bx,ox,y,rfl,hbl,hy,hat⟩:=dL (HR.x.below HB.out) hi4;rw[HX.1] at hy;obtain rfl:=Yd hy;obtain⟨-,-,-,-,-,c2,-,-⟩:=bQ hat;clear hat hy;obtain⟨bk,ok,y,rfl,hbk,hy,hat⟩:=gH (HR.k.below HB.out) hj2;rw[HK.1] at hy;obtain rfl:=Yd hy;obtain⟨-,-,d0,d1,d2,d3⟩:=da hat;clear hat hy d0 d2 d3;obtain⟨g0,g1,g2,g3,g4,g5⟩:=cs6 Bg;have ltg_2:=ae Bg.out;go_wp2_with fail;clear g0 g1 g2 g3 g4 g5 ltg_2;cases hkx:k.x
 ·have HKX:=aa hkx;rw[hkx] at d1;clear hkx;have Gg:=Bg;have Gn:=Bn;have HW:=HB;obtain⟨g0,g1,g2,g3,g4,g5⟩:=sl6 Gg;obtain⟨xk,kx,hne0,HC0⟩:=ahj;have z55z:=@aa _ @af5;exact aC
 have HKX:=aa hkx;rw[hkx] at d1;clear hkx;have Gg:=Bg;have Gn:=Bn;have HW:=HB;obtain⟨g0,g1,g2,g3,g4,g5⟩:=sl6 Gg;obtain⟨xk,kx,hne0,HC0⟩:=ahj;have z1247z:=@aa _ @Kn;exact bY):p:=h
theorem rS(h:p:=by
 have HK:=aa (Yb hkj hkn);have hj2:j<l2:=by have:=(Yc.1 hkj).1;omega
 have hjj:(j:Int)<l2:=af
 have hj0:¬(j:Int)<0:=af
 exact z1760z):p:=h
namespace Rc
theorem akZ (c:Cl) (i:Nat) (x:Xd) (k:Kd) (t:ByteArray):∃o,iP c i x k t o:=by
 cases h:fl (svV x.z x.k x.x t) c.vs with
 | some u=>
  obtain⟨j,hj⟩:=Rl h;exact⟨_,Ze ⟨j,u,h,hj,rfl⟩⟩
 | none=>
  by_cases h1:lq x k t
  ·cases h2:hit Vd.n c.vs (aN++x.n)
   ·by_cases h3:c.vs.length<8
    ·exact⟨_,Zd ⟨h,Zd ⟨h1,Zd ⟨h2,Zd ⟨h3,rfl⟩⟩⟩⟩⟩
    ·exact⟨_,Zd ⟨h,Zd ⟨h1,Zd ⟨h2,Ze ⟨h3,rfl⟩⟩⟩⟩⟩
   ·exact⟨_,Zd ⟨h,Zd ⟨h1,Ze ⟨h2,rfl⟩⟩⟩⟩
  ·exact⟨_,Zd ⟨h,Ze ⟨h1,rfl⟩⟩⟩
def anm (c:Cl) (t:ByteArray) (n:Nd) (S:Nat->Prop) (b:Nat) (a1:Option Addr) (l1 y1:Nat) (a2:Option Addr) (l2 y2:Nat) (_a3:Option Addr) (_l3 _y3:Nat) (a4:Option Addr) (l4 y4:Nat) (a5:Option Addr) (l5 y5:Nat) (w:World) (e:Ending) (w':World):Prop:=
 ∃(c':Cl) (e0:Int),e=Za (Y7 Y6 e0)/\gE c n t c' e0/\((¬e0=0/\Below w.heap.size w w')\/(e0=0/\∃(q3:Option Addr) (m3 z3:Nat),w'.heap[b]?=Y5 (Y8 (clo6 a1 l1 y1 a2 l2 y2 q3 m3 z3 a4 l4 y4 a5 l5 y5 c.now) 29 (0,0))/\df w' ⟨a1,l1,y1,a2,l2,y2,q3,m3,z3,a4,l4,y4,a5,l5,y5⟩ c'.raw (λk=>S k\/w.heap.size<=k)/\aI (λk=>S k\/k=b) w w'))
theorem Cf (c:Cl) (t:ByteArray) (n:Nd) (na:Option Addr) (nl nc:Nat) (S:Nat->Prop) (b:Nat) (a1:Option Addr) (l1 y1:Nat) (a2:Option Addr) (l2 y2:Nat) (a3:Option Addr) (l3 y3:Nat) (a4:Option Addr) (l4 y4:Nat) (a5:Option Addr) (l5 y5:Nat) (w:World) (hb:w.heap[b]?=Y5 (Y8 #[J a1 l1 y1,J a2 l2 y2,J a3 l3 y3,J a4 l4 y4,J a5 l5 y5,Y7 Y6 c.now] 29 (0,0))) (hO:df w ⟨a1,l1,y1,a2,l2,y2,a3,l3,y3,a4,l4,y4,a5,l5,y5⟩ c.raw S) (hS:∀k,S k->k<w.heap.size/\¬k=b) (hT:aq c) (ht:hit Xd.n c.xs t=Zb) (hnz:aL n.z):
  Calls Tryz.prog 165 #[Zf (Y5 ⟨b,0,U⟩),I t,Zc #[I n.n,I n.z,Y7 Y6 n.c,Y7 Y6 n.s,Y7 Y6 n.u,Y9 n.d,J na nl nc]] w (anm c t n S b a1 l1 y1 a2 l2 y2 a3 l3 y3 a4 l4 y4 a5 l5 y5 w):=by
 have HO:=aa hO;have HR:=aa hO.row;have HS:=aa hS;have HT:=aa hT;have HNZ:=aa hnz;have hl2:c.ks.length=l2:=by simpa using (show (c.ks.map kdF).length=l2 from hO.row.k.1)
 have hl3:c.vs.length=l3:=by simpa using (show (c.vs.map vdF).length=l3 from hO.row.v.1)
 have hl4:c.xs.length=l4:=by simpa using (show (c.xs.map xdF).length=l4 from hO.row.x.1)
 obtain⟨x,hx,hn⟩:=cf ht;generalize Rc.pl Xd.n c.xs t=i at hx;have HX:=aa (Yb hx hn);have hbd:=(hT.2.2.1.2 _ x hx).2;obtain⟨hi4,hii,hi0⟩:=NZ;obtain⟨j,k,hkj,hkn⟩:∃(j:Nat) (k:Kd),c.ks[j]?=Y5 k/\k.n=x.k:=by obtain⟨k,h1,h2⟩:=cf (hT.2.2.1.2 _ x hx).1;exact⟨_,k,h1,h2⟩
 have z1760z:=@aa _ @CO;exact rS
theorem xK (t:ByteArray):∀{ps:List Pd},(∀(j:Nat) p,ps[j]?=Y5 p->0<=p.c/\p.c<=1000000)->0<=cpuOf t ps/\cpuOf t ps<=ps.length*1000000
 | [],_=>by simp[cpuOf]
 | p ::ps,h=>by
  have h1:=h 0 p rfl;have h2:=xK t (ps:=ps) (λj q hq=>h (j+1) q (by simpa using hq));simp only[cpuOf,List.length_cons];split <;> omega
theorem agD (w:World) (o p q r:Obj):((((w.alloc o).alloc p).alloc q).alloc r).heap[w.heap.size+1+1+1]?=Y5 r:=by
 have h:=Yg (xs:=(((w.alloc o).alloc p).alloc q).heap) (x:=r);rwa [show (((w.alloc o).alloc p).alloc q).heap.size=w.heap.size+1+1+1 by simp] at h
theorem agE (w:World) (o p q r:Obj):((((w.alloc o).alloc p).alloc q).alloc r).heap[w.heap.size+1+1]?=Y5 q:=(Yl _ _ _ (by simp)).trans (lR w o p q)
theorem agF (w:World) (o p q r:Obj):((((w.alloc o).alloc p).alloc q).alloc r).heap[w.heap.size+1]?=Y5 p:=(Yl _ _ _ (by simp <;> omega)).trans (jX w o p q)
theorem agG (w:World) (o p q r:Obj):((((w.alloc o).alloc p).alloc q).alloc r).heap[w.heap.size]?=Y5 o:=(Yl _ _ _ (by simp <;> omega)).trans (lS w o p q)
def DiF (c:Cl) (t:ByteArray):Fact:=λv w=> ∃a l q zs,v=J a l q/\az w a l q zs/\RT zs/\∀s,s∈zs↔PBs c t c.ps.length s\/VBs c t c.vs.length s
theorem DiF.mono (c:Cl) (t:ByteArray):Fact.cA (DiF c t):=by
 rintro v w w' ⟨a,l,q,zs,h1,h2,h3⟩ hb;exact⟨a,l,q,zs,h1,h2.below hb,h3⟩
def LeF (m:Nat):Fact:=λv _=> ∃a q,v=J a m q
theorem LeF.mono (m:Nat):Fact.cA (LeF m):=λ_ _ _ h _=>h
def amE (c:Cl) (i:Nat) (p:Pd) (n:Nd) (w:World) (e:Ending) (w':World):Prop:=
 ∃(d':Ad) (c':Cl) (e0:Int),e=Za (Zg #[Zc #[J d'.a1 d'.l1 d'.c1,J d'.a2 d'.l2 d'.c2,J d'.a3 d'.l3 d'.c3,J d'.a4 d'.l4 d'.c4,J d'.a5 d'.l5 d'.c5,Y7 Y6 c'.now],Y7 Y6 e0])/\((¬p.p=0/\e0=10)\/(p.p=0/\ke c i p n c' e0))/\(e0=0->df w' d' c'.raw (λk=>w.heap.size<=k))/\Below w.heap.size w w'
theorem rB (d:Ad) (c:Cl) (i j:Nat) (p:Pd) (n:Nd) (w:World) (hr:aB w d c.raw) (hT:aq c) (hp:c.ps[i]?=Y5 p) (hn:c.ns[j]?=Y5 n):
  Calls Tryz.prog 128 #[Zc #[J d.a1 d.l1 d.c1,J d.a2 d.l2 d.c2,J d.a3 d.l3 d.c3,J d.a4 d.l4 d.c4,J d.a5 d.l5 d.c5,Y7 Y6 c.now],Y7 Y6 i,Y7 Y6 j] w (amE c i p n w):=by
 have z448z:=@aa _ @abH;exact b_
def ano (c:Cl) (i:Nat) (p:Pd) (w:World) (e:Ending) (w':World):Prop:=(∃r:Int,e=Za (Y7 Y6 r)/\((r= -1/\qV c i p)\/∃(b:Nat) (n:Nd),r=b/\ag0 c i p b n))/\Below w.heap.size w w'
def ak8 (c:Cl) (t:ByteArray) (p b e:Int):Prop:=(¬e=0/\∃i,vr c t i/\e=bB i)\/(e=0/\¬8000<t.size/\aq c/\∃(x:Pd) (b':Nat) (n:Nd),p=(pl Pd.n c.ps t:Nat)/\b=b'/\c.ps[pl Pd.n c.ps t]?=Y5 x/\x.n=t/\x.p=0/\ag0 c (pl Pd.n c.ps t) x b' n)
theorem vN (d:Ad) (c:Cl) (i:Nat) (p:Pd) (w:World) (hr:aB w d c.raw) (hT:aq c) (hp:c.ps[i]?=Y5 p) (h0:p.p=0):
  Calls Tryz.prog 164 #[Zc #[J d.a1 d.l1 d.c1,J d.a2 d.l2 d.c2,J d.a3 d.l3 d.c3,J d.a4 d.l4 d.c4,J d.a5 d.l5 d.c5,Y7 Y6 c.now],Y7 Y6 i] w (ano c i p w):=by
 have z448z:=@aa _ @abG;exact b_
theorem AX (d:Ad) (c:Cl) (t:ByteArray) (w:World) (hr:aB w d c.raw):
  Calls Tryz.prog 127 #[Zc #[J d.a1 d.l1 d.c1,J d.a2 d.l2 d.c2,J d.a3 d.l3 d.c3,J d.a4 d.l4 d.c4,J d.a5 d.l5 d.c5,Y7 Y6 c.now],I t] w λe w'=>(∃p b e0:Int,e=Za (Zg #[Y7 Y6 p,Y7 Y6 b,Y7 Y6 e0])/\ak8 c t p b e0)/\Below w.heap.size w w':=by
 have z145z:=@aa _ @afx;exact fe
theorem Rm {w w1:World} {o:Obj} (h:Below w.heap.size w w1):Below w.heap.size w (w1.alloc o).drew:=Below.vj (h.trans ((ak _ _).mono h.size))
theorem AU (d:Ad) (c:Cl) (t:ByteArray) (w:World) (hr:aB w d c.raw):
  Calls Tryz.prog 85 #[Zc #[J d.a1 d.l1 d.c1,J d.a2 d.l2 d.c2,J d.a3 d.l3 d.c3,J d.a4 d.l4 d.c4,J d.a5 d.l5 d.c5,Y7 Y6 c.now],I t] w (jc (gD c t) w):=by
 have z448z:=@aa _ @abF;exact b_
end Rc
end Go.Proofs.YtfhdfmdaiookjaaGreatDoor

import Derived.Test.YtpejepeekdjfoaaGreatDoorQ7
import Derived.Deep.CutRange
import Derived.Stop.LaidErr
import Derived.ChangeVars
import Derived.Deep.Strs
import Derived.Deep.Fields
import Derived.WideShapes
import Derived.ChangeArms
/-
 A pod on a node with all its claims, as the specification tries it.
-/
set_option maxRecDepth 100000
set_option maxHeartbeats 12800000
open And renaming intro→Fl
open Array renaming getElem?_eq_some_iff→FE, length_toList→GU, getElem?_eq_none→Hy
open Go.Act renaming put→GL
open Go.Addr renaming add_lit→FQ
open Go.DataW renaming trod_string→GI, trod→Hs, trod_int→Iw, trod_bool→ID
open Go.RowKit.Below renaming heap_setCell→Fm, refl→Ft, heap_alloc→Fw
open Go.World renaming cell?→Hc, cells?_some→Hu
open List renaming getElem?_eq_some_iff→Fk, lookup→Fp, getElem?_eq_getElem→Fs, setIfInBounds_toArray→Fy, getElem?_map→FA, set_cons_zero→FF, forall_mem_cons→FJ, set_cons_succ→FM, length_map→FR, foldr→Ge, range→Gq, append_nil→GC, drop_eq_getElem_cons→GY, getElem?_range→Hx, mem_append_right→Ic
open Nat renaming le_refl→Fq, lt_of_lt_of_le→FC
open Option.some renaming inj→Fo
namespace Go.Proofs.YtpejepeekdjfoaaGreatDoor
theorem iQ {p:Prop} (h:p:=by simp[results,Tryz.results43,go_sem, *]):p:=h
theorem nr {p:Prop} (h:p:=by simp[results,Tryz.results21,go_sem, *]):p:=h
end Go.Proofs.YtpejepeekdjfoaaGreatDoor
namespace Go.Proofs.YtpejepeekdjfoaaGreatDoor
theorem oa {p:Prop} (h:p:=by
 obtain⟨f,hf⟩:=choose_lt each;refine⟨some ⟨b,o,none⟩,len,cap,(Gq len).map f,by simpa using hcs,by simp,hl,hm',.inr ⟨b,o,rfl,hblt,fun j r hj=>?_⟩⟩;rw[FA,FA] at hj;by_cases hjl:j<len
 ·rw[Hx hjl] at hj;obtain rfl:=Fo hj;exact hf j hjl
 ·rw[List.getElem?_eq_none bF] at hj;cases hj):p:=h
theorem j0 {p:Prop} (h:p:=by
 cases hi;exact⟨_,(hc 0 af).trans e0,rfl,show b0.size<=_ by omega⟩):p:=h
theorem qn {p:Prop} (h:p:=by
 cases hi;exact⟨_,(hc 2 af).trans e2,rfl,show b2.size<=_ by omega⟩):p:=h
theorem xI {p:Prop} (h:p:=by
 rw[e] at g;exact⟨_,xs[i]'(by omega),Fs hlc,by rw[g,Fs]⟩):p:=h
theorem jV {p:Prop} (h:p:=by
 obtain⟨_,hl0,hc0⟩:=Hu k1;have:=hc0 0 af;rw[Fs af] at this;rcases Nat.lt_or_ge b w.heap.size with h1|h1
 ·exact h1
 ·simp[Addr.add,Hc,Hy h1] at this):p:=h
theorem jU {p:Prop} (h:p:=by
 obtain⟨_,hl0,hc0⟩:=Hu k1;have:=hc0 0 af;rw[Fs af] at this;simpa[Addr.add] using World.cell?_spot this):p:=h
theorem qg {p:Prop} (h:p:=by
 clear hf;obtain⟨n0,n1,n2,n3,n4,n5,n6⟩:=cs7 ((hW.block _ (ae Bn.out)).trans Bn.out);have ltn:=FC (ae Bn.out) hW.size;exact aT):p:=h
theorem jQ {p:Prop} (h:p:=by
 have:=hc0 j hj;rw[add_add,FQ] at this;rw[Nat.add_assoc];exact this):p:=h
theorem xq {p:Prop} (h:p:=by
 refine Obl.plain rfl ?_;intro ac wg K hsz hW hf hK;clear hsz;have e10:=hf 10 aj;simp[ai,Fp] at e10;clear hf;obtain⟨o0,o1,o2,o3,o4,o5⟩:=cs6 ((hW.block _ (ae Bo.out)).trans Bo.out);have lto:=FC (ae Bo.out) hW.size;exact aT):p:=h
theorem jP {p:Prop} (h:p:=by
 exact⟨none,0,0,[],by simpa using hcs,rfl,Fq _,by omega,.inl rfl⟩):p:=h
theorem jO {p:Prop} (h:p:=by
 subst h0;exact⟨some a,0,cap,[],by simpa using hcs,rfl,hl,hm',.inl rfl⟩):p:=h
theorem xe {p:Prop} (h:p:=by
 clear hf;obtain⟨p0,p1,p2,p3,p4,p5⟩:=cs6 ((hW.block _ (ae Bp.out)).trans Bp.out);have ltp:=FC (ae Bp.out) hW.size;exact aT):p:=h
theorem D8 {p:Prop} (h:p:=by
 have hszv1:((((w.alloc (.cells (c6 (some ⟨bn,on,none⟩) l1 y1 a2 l2 y2 a3 l3 y3 a4 l4 y4 (some ⟨b,o,none⟩) l5 y5 c.now) 36)).alloc (.cells (c6 none 0 0 none 0 0 none 0 0 none 0 0 none 0 0 0) 36)).alloc (.cells (pov p va vl vc) 64)).alloc (.cells #[.string n.n,.string n.z,.int .i64 n.c,.int .i64 n.s,.int .i64 n.u,.bool false,.slice ua ul uc] 57)).heap.size=w.heap.size+1+1+1+1:=aR
 have Gk:Hid (((((w.alloc (.cells (c6 (some ⟨bn,on,none⟩) l1 y1 a2 l2 y2 a3 l3 y3 a4 l4 y4 (some ⟨b,o,none⟩) l5 y5 c.now) 36)).alloc (.cells (c6 none 0 0 none 0 0 none 0 0 none 0 0 none 0 0 0) 36)).alloc (.cells (pov p va vl vc) 64)).alloc (.cells #[.string n.n,.string n.z,.int .i64 n.c,.int .i64 n.s,.int .i64 n.u,.bool false,.slice ua ul uc] 57)).heap[w.heap.size]?=some (.cells (c6 (some ⟨bn,on,none⟩) l1 y1 a2 l2 y2 a3 l3 y3 a4 l4 y4 (some ⟨b,o,none⟩) l5 y5 c.now) 36 (0,0))):=A1 _ _ _ _ _;have Gr:Hid (((((w.alloc (.cells (c6 (some ⟨bn,on,none⟩) l1 y1 a2 l2 y2 a3 l3 y3 a4 l4 y4 (some ⟨b,o,none⟩) l5 y5 c.now) 36)).alloc (.cells (c6 none 0 0 none 0 0 none 0 0 none 0 0 none 0 0 0) 36)).alloc (.cells (pov p va vl vc) 64)).alloc (.cells #[.string n.n,.string n.z,.int .i64 n.c,.int .i64 n.s,.int .i64 n.u,.bool false,.slice ua ul uc] 57)).heap[w.heap.size+1]?=some (.cells (c6 none 0 0 none 0 0 none 0 0 none 0 0 none 0 0 0) 36 (0,0))):=A0 _ _ _ _ _;have Gp:Hid (((((w.alloc (.cells (c6 (some ⟨bn,on,none⟩) l1 y1 a2 l2 y2 a3 l3 y3 a4 l4 y4 (some ⟨b,o,none⟩) l5 y5 c.now) 36)).alloc (.cells (c6 none 0 0 none 0 0 none 0 0 none 0 0 none 0 0 0) 36)).alloc (.cells (pov p va vl vc) 64)).alloc (.cells #[.string n.n,.string n.z,.int .i64 n.c,.int .i64 n.s,.int .i64 n.u,.bool false,.slice ua ul uc] 57)).heap[w.heap.size+1+1]?=some (.cells (pov p va vl vc) 64 (0,0))):=AZ _ _ _ _ _;have Gn:Hid (((((w.alloc (.cells (c6 (some ⟨bn,on,none⟩) l1 y1 a2 l2 y2 a3 l3 y3 a4 l4 y4 (some ⟨b,o,none⟩) l5 y5 c.now) 36)).alloc (.cells (c6 none 0 0 none 0 0 none 0 0 none 0 0 none 0 0 0) 36)).alloc (.cells (pov p va vl vc) 64)).alloc (.cells #[.string n.n,.string n.z,.int .i64 n.c,.int .i64 n.s,.int .i64 n.u,.bool false,.slice ua ul uc] 57)).heap[w.heap.size+1+1+1]?=some (.cells #[.string n.n,.string n.z,.int .i64 n.c,.int .i64 n.s,.int .i64 n.u,.bool false,.slice ua ul uc] 57 (0,0))):=AY _ _ _ _ _;have HW:Hid (Below w.heap.size w ((((w.alloc (.cells (c6 (some ⟨bn,on,none⟩) l1 y1 a2 l2 y2 a3 l3 y3 a4 l4 y4 (some ⟨b,o,none⟩) l5 y5 c.now) 36)).alloc (.cells (c6 none 0 0 none 0 0 none 0 0 none 0 0 none 0 0 0) 36)).alloc (.cells (pov p va vl vc) 64)).alloc (.cells #[.string n.n,.string n.z,.int .i64 n.c,.int .i64 n.s,.int .i64 n.u,.bool false,.slice ua ul uc] 57))):=(HB.trans ((gm _ _ _ _ _).mono HB.size));exact Fl hszv1 (Fl Gk (Fl Gr (Fl Gp (Fl Gn HW))))):p:=h
theorem Ch {p:Prop} (h:p:=by
 have hne0:=Wd.ne ((((w.alloc (.cells (c6 (some ⟨bn,on,none⟩) l1 y1 a2 l2 y2 a3 l3 y3 a4 l4 y4 (some ⟨b,o,none⟩) l5 y5 c.now) 36)).alloc (.cells (c6 none 0 0 none 0 0 none 0 0 none 0 0 none 0 0 0) 36)).alloc (.cells (pov p va vl vc) 64)).alloc (.cells #[.string n.n,.string n.z,.int .i64 n.c,.int .i64 n.s,.int .i64 n.u,.bool false,.slice ua ul uc] 57));have HC0:=aa (fun q:Wd ((((w.alloc (.cells (c6 (some ⟨bn,on,none⟩) l1 y1 a2 l2 y2 a3 l3 y3 a4 l4 y4 (some ⟨b,o,none⟩) l5 y5 c.now) 36)).alloc (.cells (c6 none 0 0 none 0 0 none 0 0 none 0 0 none 0 0 0) 36)).alloc (.cells (pov p va vl vc) 64)).alloc (.cells #[.string n.n,.string n.z,.int .i64 n.c,.int .i64 n.s,.int .i64 n.u,.bool false,.slice ua ul uc] 57))=>ik ⟨(some ⟨bn,on,none⟩),l1,y1,a2,l2,y2,a3,l3,y3,a4,l4,y4,(some ⟨b,o,none⟩),l5,y5⟩ c.now c.ps n.n q.w (HR.p.below (HW.trans (q.b.mono HW.size))) HL8.out HPC.out);exact Fl hne0 HC0):p:=h
theorem Cc {p:Prop} (h:p:=by
 have Ck:=aa ((hk.block (w.heap.size) (ae Bk.out) (fun s=>by have s1:=s.1;have s2:=s.2;have q3:=HQ3.out;have q4:=HQ4.out;have q5:=HQ5.out;omega)).trans Bk.out);have Ca:=aa ((hk.block (w3.heap.size) (ae Ba.out) (fun s=>by have s1:=s.1;have s2:=s.2;have q3:=HQ3.out;have q4:=HQ4.out;have q5:=HQ5.out;omega)).trans Ba.out);have Cx:=aa ((hk.block (w4.heap.size) (ae Bx.out) (fun s=>by have s1:=s.1;have s2:=s.2;have q3:=HQ3.out;have q4:=HQ4.out;have q5:=HQ5.out;omega)).trans Bx.out);have Cg:=aa ((hk.block (w5.heap.size) (ae Bg.out) (fun s=>by have s1:=s.1;have s2:=s.2;have q3:=HQ3.out;have q4:=HQ4.out;have q5:=HQ5.out;omega)).trans Bg.out);exact Fl Ck (Fl Ca (Fl Cx Cg))):p:=h
theorem k8 {p:Prop} (h:p:=by
 have hlm:len<=m:=by rw[hmm];split <;> omega
 have hm':cap<=9223372036854775807:=by unfold maxLen at hm;omega
 exact Fl hlm hm'):p:=h
end Go.Proofs.YtpejepeekdjfoaaGreatDoor
namespace Go.Proofs.YtpejepeekdjfoaaGreatDoor
open Go.RowKit
namespace Rc
open Mk

theorem AY (w:World) (o p q r:Obj):((((w.alloc o).alloc p).alloc q).alloc r).heap[w.heap.size+1+1+1]?=some r:=by
 have h:=Array.getElem?_push_size (xs:=(((w.alloc o).alloc p).alloc q).heap) (x:=r);rwa [show (((w.alloc o).alloc p).alloc q).heap.size=w.heap.size+1+1+1 by simp] at h
theorem AZ (w:World) (o p q r:Obj):((((w.alloc o).alloc p).alloc q).alloc r).heap[w.heap.size+1+1]?=some q:=(Fw _ _ _ (by simp)).trans (cR w o p q)
theorem A0 (w:World) (o p q r:Obj):((((w.alloc o).alloc p).alloc q).alloc r).heap[w.heap.size+1]?=some p:=(Fw _ _ _ (by simp <;> omega)).trans (dC w o p q)
theorem A1 (w:World) (o p q r:Obj):((((w.alloc o).alloc p).alloc q).alloc r).heap[w.heap.size]?=some o:=(Fw _ _ _ (by simp <;> omega)).trans (fE w o p q)
def DiF (c:Cl) (t:ByteArray):Fact:=fun v w=> ∃a l q zs,v=.slice a l q/\ay w a l q zs/\RT zs/\∀s,s∈zs↔PBs c t c.ps.length s\/VBs c t c.vs.length s
theorem DiF.mono (c:Cl) (t:ByteArray):Fact.bD (DiF c t):=by
 rintro v w w' ⟨a,l,q,zs,h1,h2,h3⟩ hb;exact⟨a,l,q,zs,h1,h2.below hb,h3⟩
def LeF (m:Nat):Fact:=fun v _=> ∃a q,v=.slice a m q
theorem LeF.mono (m:Nat):Fact.bD (LeF m):=fun _ _ _ h _=>h
def Ey (c:Cl) (i:Nat) (p:Pd) (n:Nd) (w:World) (e:Ending) (w':World):Prop:=
 ∃(d':Ad) (c':Cl) (e0:Int),e=.returned (.tuple #[.agg #[.slice d'.a1 d'.l1 d'.c1,.slice d'.a2 d'.l2 d'.c2,.slice d'.a3 d'.l3 d'.c3,.slice d'.a4 d'.l4 d'.c4,.slice d'.a5 d'.l5 d'.c5,.int .i64 c'.now],.int .i64 e0])/\((¬p.p=0/\e0=10)\/(p.p=0/\dh c i p n c' e0))/\(e0=0->ew w' d' c'.raw (fun k=>w.heap.size<=k))/\Below w.heap.size w w'

theorem mX (d:Ad) (c:Cl) (i j:Nat) (p:Pd) (n:Nd) (w:World) (hr:aJ w d c.raw) (hT:aB c) (hp:c.ps[i]?=some p) (hn:c.ns[j]?=some n):
  Calls Tryz.prog 43 #[.agg #[.slice d.a1 d.l1 d.c1,.slice d.a2 d.l2 d.c2,.slice d.a3 d.l3 d.c3,.slice d.a4 d.l4 d.c4,.slice d.a5 d.l5 d.c5,.int .i64 c.now],.int .i64 i,.int .i64 j] w (Ey c i p n w):=by
 obtain⟨a1,l1,y1,a2,l2,y2,a3,l3,y3,a4,l4,y4,a5,l5,y5⟩:=d;dsimp only;obtain⟨HR,hl1,hm1,hl2,hm2,hl3,hm3,hl4,hm4,hl5,hm5⟩:=pL;clear hr;have HT:=aa hT;have HP:=aa hp;have HPC:=aa (fun (j:Nat) (q:Pd) (h:c.ps[j]?=some q)=>(hT.2.1.2.2.2.2.2.1 j q h).2.1);have HN:=aa hn;have HNZ:=aa (hT.2.1.1.2.1 _ _ hn).2.1;have HB:=aa (Ft w.heap.size w);have hi5:i<l5:=by have:=(Fk.1 hp).1;omega
 have hii:(i:Int)<l5:=af
 have hi0:¬(i:Int)<0:=af
 have hj1:j<l1:=by have:=(Fk.1 hn).1;omega
 have hjj:(j:Int)<l1:=af
 have hj0:¬(j:Int)<0:=af
 obtain⟨b,o,y,rfl,hbl,hy,hat⟩:=bY HR.p hi5;rw[hp] at hy;obtain rfl:=Fo hy;obtain⟨va,vl,vc,hvr,-,-,-,c0,c1,c2,c3,c4,c5⟩:=aS hat;clear hat hy;obtain⟨bn,on,y,rfl,hbn,hy,hat⟩:=cA HR.n hj1;rw[hn] at hy;obtain rfl:=Fo hy;obtain⟨ua,ul,uc,hur,-,-,d0,d1,d2,d3,d4,d5,d6⟩:=aZ hat;have HVR:=aa hvr;have hpl:p.zs.length=vl:=hvr.1;have hlc:vl<=9223372036854775807:=Nat.le_trans hvr.2.1 hvr.2.2.1;clear hat hy hvr hur hp hn hT;have hbn1:bn<w.heap.size+1:=af
 have hbn2:bn<w.heap.size+1+1:=af
 go_enter Tryz.func43,Tryz.ntmps43;by_cases hph:p.p=0;rotate_left
 ·have hpb:(p.p==0)=false:=by simpa using hph
  go_wp2;exact bodyPost_ret (v:=.tuple #[.agg #[.slice (some ⟨bn,on,none⟩) l1 y1,.slice a2 l2 y2,.slice a3 l3 y3,.slice a4 l4 y4,.slice (some ⟨b,o,none⟩) l5 y5,.int .i64 c.now],.int .i64 10]) iQ rfl ⟨⟨(some ⟨bn,on,none⟩),l1,y1,a2,l2,y2,a3,l3,y3,a4,l4,y4,(some ⟨b,o,none⟩),l5,y5⟩,c,10,rfl,.inl ⟨hph,rfl⟩,fun h=>absurd h aj,(HB.trans ((gm _ _ _ _ _).mono HB.size))⟩
 have hpb:(p.p==0)=true:=by simpa using hph
 have HPH:=aa hph;clear hph;cases hnd:n.d;rotate_left
 ·rw[hnd] at d5;go_wp2;exact bodyPost_ret (v:=.tuple #[.agg #[.slice (some ⟨bn,on,none⟩) l1 y1,.slice a2 l2 y2,.slice a3 l3 y3,.slice a4 l4 y4,.slice (some ⟨b,o,none⟩) l5 y5,.int .i64 c.now],.int .i64 11]) iQ rfl ⟨⟨(some ⟨bn,on,none⟩),l1,y1,a2,l2,y2,a3,l3,y3,a4,l4,y4,(some ⟨b,o,none⟩),l5,y5⟩,c,11,rfl,.inr ⟨HPH.out,.inl ⟨.inl hnd,rfl⟩⟩,fun h=>absurd h aj,(HB.trans ((gm _ _ _ _ _).mono HB.size))⟩
 have HND:=aa hnd;rw[hnd] at d5;clear hnd;by_cases hu:n.u<=c.now
 ·go_wp2;exact bodyPost_ret (v:=.tuple #[.agg #[.slice (some ⟨bn,on,none⟩) l1 y1,.slice a2 l2 y2,.slice a3 l3 y3,.slice a4 l4 y4,.slice (some ⟨b,o,none⟩) l5 y5,.int .i64 c.now],.int .i64 11]) iQ rfl ⟨⟨(some ⟨bn,on,none⟩),l1,y1,a2,l2,y2,a3,l3,y3,a4,l4,y4,(some ⟨b,o,none⟩),l5,y5⟩,c,11,rfl,.inr ⟨HPH.out,.inl ⟨.inr hu,rfl⟩⟩,fun h=>absurd h aj,(HB.trans ((gm _ _ _ _ _).mono HB.size))⟩
 have hub:decide (n.u<=c.now)=false:=by simpa using hu
 have HAW:Hid (¬fX c n):=fun h=>h.elim (fun h=>by rw[HND.out] at h;cases h) hu;by_cases hZ:i_ p n
 ·have hz0:=bc hZ.1;have hz1:=bB hZ.2;go_wp2;exact bodyPost_ret (v:=.tuple #[.agg #[.slice (some ⟨bn,on,none⟩) l1 y1,.slice a2 l2 y2,.slice a3 l3 y3,.slice a4 l4 y4,.slice (some ⟨b,o,none⟩) l5 y5,.int .i64 c.now],.int .i64 8]) iQ rfl ⟨⟨(some ⟨bn,on,none⟩),l1,y1,a2,l2,y2,a3,l3,y3,a4,l4,y4,(some ⟨b,o,none⟩),l5,y5⟩,c,8,rfl,.inr ⟨HPH.out,.inr ⟨HAW.out,.inl ⟨hZ,rfl⟩⟩⟩,fun h=>absurd h aj,(HB.trans ((gm _ _ _ _ _).mono HB.size))⟩
 have HZO:=aa hZ;go_upto_region 7 with fail;go_cut [39] from 23 to 49 (fun s wx=>s=.bool false/\wx=((((w.alloc (.cells (c6 (some ⟨bn,on,none⟩) l1 y1 a2 l2 y2 a3 l3 y3 a4 l4 y4 (some ⟨b,o,none⟩) l5 y5 c.now) 36)).alloc (.cells (c6 none 0 0 none 0 0 none 0 0 none 0 0 none 0 0 0) 36)).alloc (.cells (pov p va vl vc) 64)).alloc (.cells #[.string n.n,.string n.z,.int .i64 n.c,.int .i64 n.s,.int .i64 n.u,.bool false,.slice ua ul uc] 57)));case first=>
  by_cases hz0:p.z=⟨#[]⟩
  ·have hz1:=cU hz0;clear hz0;go_wp2_with fail;go_meet;exact⟨rfl,rfl⟩
  ·have hz1:=bc hz0;have hz2:=a9 (Classical.byContradiction (fun h=>HZO.out ⟨hz0,h⟩));clear hz0;go_wp2_with fail;go_meet;exact⟨rfl,rfl⟩
 case rest=>
  obtain⟨rfl,rfl⟩:=hcut;clear hZ hub hu hpb;have HL8:Hid (c.ps.length<=8):=by have h:=HT.2.1.2.2.2.2.1;show _<=_;omega
  have hU:=mB n.n HPC.out;have hl8:=HL8.out;have hu0:=hU.1;have hu1:cpuOf n.n c.ps<=8000000:=by have:=hU.2;omega
  have hnc:=(HT.2.1.1.2.1 _ _ HN.out).2.2.1;have hnc0:=hnc.1;have hnc1:=hnc.2;clear hU hnc;by_cases hCP:n.c - cpuOf n.n c.ps<p.c
  ·have hcp:decide (n.c - cpuOf n.n c.ps<p.c)=true:=by simpa using hCP
   obtain⟨hszv1,Gk,Gr,Gp,Gn,HW⟩:=D8;obtain⟨k0,k1,k2,k3,k4,k5⟩:=sl6 Gk;obtain⟨p0,p1,p2,p3,p4,p5⟩:=sl6 Gp;obtain⟨n0,n1,n2,n3,n4,n5,n6⟩:=sl7 Gn;obtain⟨hne0,HC0⟩:=Ch;go_wp2_with fail;refine ag ar ar ?_;repeat (go_big_quiet_step (first|(go_at_call 80;exact Calls.wide (HC0.out _))|fail))
   refine wpQuiet_nil ?_;rintro _ ⟨q1,rfl⟩;obtain⟨HB1,Ck⟩:=cL;have Cr:=upK Gr q1.b;have Cp:=upK Gp q1.b;have Cn:=upK Gn q1.b;clear hne0 HW HB HC0 k0 k1 k2 k3 k4 k5 p0 p1 p2 p3 p4 p5 n0 n1 n2 n3 n4 n5 n6 Gk Gr Gp Gn hszv1 c0 c1 c2 c3 c4 c5 d0 d1 d2 d3 d4 d5 d6;have HB:=HB1;clear HB1;have Bk:=Ck;clear Ck;have Br:=Cr;clear Cr;have Bp:=Cp;clear Cp;have Bn:=Cn;clear Cn;obtain⟨k0,k1,k2,k3,k4,k5⟩:=cs6 Bk;have ltk_1:=ae Bk.out;obtain⟨r0,r1,r2,r3,r4,r5⟩:=cs6 Br;have ltr_1:=ae Br.out;obtain⟨fr0,fr1,fr2,fr3,fr4,fr5⟩:=gI;have hrl:w.heap.size+1<q1.w.heap.size:=ae Br.out;go_wp2;exact bodyPost_ret (v:=.tuple #[.agg #[.slice (some ⟨bn,on,none⟩) l1 y1,.slice a2 l2 y2,.slice a3 l3 y3,.slice a4 l4 y4,.slice (some ⟨b,o,none⟩) l5 y5,.int .i64 c.now],.int .i64 9]) iQ rfl ⟨⟨(some ⟨bn,on,none⟩),l1,y1,a2,l2,y2,a3,l3,y3,a4,l4,y4,(some ⟨b,o,none⟩),l5,y5⟩,c,9,rfl,.inr ⟨HPH.out,.inr ⟨HAW.out,.inr ⟨HZO.out,.inl ⟨hCP,rfl⟩⟩⟩⟩,fun h=>absurd h aj,sb1 (sb1 (sb1 (sb1 (sb1 (sb1 (HB.out))))))⟩
  have hcp:decide (n.c - cpuOf n.n c.ps<p.c)=false:=by simpa using hCP
  have HCP:Hid (¬kJ c p n):=hCP;obtain⟨hszv1,Gk,Gr,Gp,Gn,HW⟩:=D8;obtain⟨k0,k1,k2,k3,k4,k5⟩:=sl6 Gk;obtain⟨p0,p1,p2,p3,p4,p5⟩:=sl6 Gp;obtain⟨n0,n1,n2,n3,n4,n5,n6⟩:=sl7 Gn;obtain⟨hne0,HC0⟩:=Ch;go_wp2_with fail;refine ag ar ar ?_;repeat (go_big_quiet_step (first|(go_at_call 80;exact Calls.wide (HC0.out _))|fail))
  refine wpQuiet_nil ?_;rintro _ ⟨q1,rfl⟩;obtain⟨HB1,Ck⟩:=cL;have Cr:=upK Gr q1.b;have Cp:=upK Gp q1.b;have Cn:=upK Gn q1.b;clear hne0 HW HB HC0 k0 k1 k2 k3 k4 k5 p0 p1 p2 p3 p4 p5 n0 n1 n2 n3 n4 n5 n6 Gk Gr Gp Gn hszv1 c0 c1 c2 c3 c4 c5 d0 d1 d2 d3 d4 d5 d6;have HB:=HB1;clear HB1;have Bk:=Ck;clear Ck;have Br:=Cr;clear Cr;have Bp:=Cp;clear Cp;have Bn:=Cn;clear Cn;clear hCP hcp hnc0 hnc1 hu0 hu1;obtain⟨k0,k1,k2,k3,k4,k5⟩:=cs6 Bk;have ltk_1:=ae Bk.out;go_wp2_with fail;have Qk:=Bk;have Qr:=Br;have Qp:=Bp;have Qn:=Bn;have HBQ:=HB;refine (pA ⟨(some ⟨bn,on,none⟩),l1,y1,a2,l2,y2,a3,l3,y3,a4,l4,y4,(some ⟨b,o,none⟩),l5,y5⟩ c _ (HR.below HB.out) HT.sm).mono ?_;rintro e w3 ⟨d',rfl,ho,hb⟩;have HQ2:=aa hb;clear k0 k1 k2 k3 k4 k5 ltk_1;replace Bk:=upK Bk hb;replace Br:=upK Br hb;replace Bp:=upK Bp hb;replace Bn:=upK Bn hb;replace HB:=upB HB hb;clear hb;obtain⟨x1,m1,f1,x2,m2,f2,x3,m3,f3,x4,m4,f4,x5,m5,f5⟩:=d';have into:∀{a l cp m T rs},az w3 a l cp m T rs (fun k=>q1.w.heap.size<=k)->az (w3.alloc (.cells (c6 x1 m1 f1 x2 m2 f2 x3 m3 f3 x4 m4 f4 x5 m5 f5 c.now) 36)) a l cp m T rs (fun k=>q1.w.heap.size<=k/\¬k=w3.heap.size/\k<(w3.alloc (.cells (c6 x1 m1 f1 x2 m2 f2 x3 m3 f3 x4 m4 f4 x5 m5 f5 c.now) 36)).heap.size):=fun h=>(h.bA (S':=(fun k=>q1.w.heap.size<=k/\¬k=w3.heap.size/\k<(w3.alloc (.cells (c6 x1 m1 f1 x2 m2 f2 x3 m3 f3 x4 m4 f4 x5 m5 f5 c.now) 36)).heap.size)) (fun k hk s=>⟨s,Nat.ne_of_lt hk,by rw[dH];omega⟩)).below (al w3 (.cells (c6 x1 m1 f1 x2 m2 f2 x3 m3 f3 x4 m4 f4 x5 m5 f5 c.now) 36));have HOV:Hid (ew (w3.alloc (.cells (c6 x1 m1 f1 x2 m2 f2 x3 m3 f3 x4 m4 f4 x5 m5 f5 c.now) 36)) ⟨x1,m1,f1,x2,m2,f2,x3,m3,f3,x4,m4,f4,x5,m5,f5⟩ c.raw (fun k=>q1.w.heap.size<=k/\¬k=w3.heap.size/\k<(w3.alloc (.cells (c6 x1 m1 f1 x2 m2 f2 x3 m3 f3 x4 m4 f4 x5 m5 f5 c.now) 36)).heap.size)):=⟨into ho.n,into ho.k,into ho.v,into ho.x,into ho.p⟩;have HV0:Hid (Below q1.w.heap.size q1.w (w3.alloc (.cells (c6 x1 m1 f1 x2 m2 f2 x3 m3 f3 x4 m4 f4 x5 m5 f5 c.now) 36))):=HQ2.trans ((al w3 (.cells (c6 x1 m1 f1 x2 m2 f2 x3 m3 f3 x4 m4 f4 x5 m5 f5 c.now) 36)).mono HQ2.size);clear ho into;obtain⟨k0,k1,k2,k3,k4,k5⟩:=cs6 Bk;have ltk_2:=ae Bk.out;obtain⟨p0,p1,p2,p3,p4,p5⟩:=cs6 Bp;have ltp_2:=ae Bp.out;go_wp2_with fail;clear k0 k1 k2 k3 k4 k5 ltk_2 p0 p1 p2 p3 p4 p5 ltp_2;go_loopw [11] (fun vi wr=> ∃(k:Nat) (c1:Cl) (q3:Option Addr) (g3 z3:Nat),k<=vl/\vi=.int .i64 k/\Hid (cn c n p.zs k c1)/\Hid (wr.heap[w3.heap.size]?=some (.cells (c6 x1 m1 f1 x2 m2 f2 q3 g3 z3 x4 m4 f4 x5 m5 f5 c1.now) 36 (0,0)))/\Hid (ew wr ⟨x1,m1,f1,x2,m2,f2,q3,g3,z3,x4,m4,f4,x5,m5,f5⟩ c1.raw (fun k=>q1.w.heap.size<=k/\¬k=w3.heap.size/\k<wr.heap.size))/\Hid (Below q1.w.heap.size q1.w wr)) (fun vi _=>vl - (intOf vi).toNat);case atStart=>exact⟨0,c,x3,m3,f3,by omega,rfl,rfl,heap_alloc_new w3 (.cells (c6 x1 m1 f1 x2 m2 f2 x3 m3 f3 x4 m4 f4 x5 m5 f5 c.now) 36),HOV.out,HV0.out⟩
  case round=>
   obtain⟨k,c1,q3,g3,z3,hk,rfl,HRD,HOB,HOF,HQB⟩:=hrel;replace HB:=aa (HBQ.trans (HQB.mono HBQ.size));have hRR:=cn.right HT.out HNZ.out k c1 HRD.out;have HT1:=aa hRR.1;have HR1:=aa hRR.2;clear hRR HV0 HOV;replace Bk:=aa ((HQB.block _ (ae Qk.out)).trans Qk.out);replace Br:=aa ((HQB.block _ (ae Qr.out)).trans Qr.out);replace Bp:=aa ((HQB.block _ (ae Qp.out)).trans Qp.out);replace Bn:=aa ((HQB.block _ (ae Qn.out)).trans Qn.out);have Bo:=HOB;by_cases hlt:k<vl
   ·have hk1:(k:Int)<vl:=af
    obtain⟨bz,oz,t,rfl,hbz,hx,hcz,-⟩:=(HVR.below HB.out).at hlt;have HX:=aa hx;have HHT:=aa (HR1.2.2.2.2 t ((HT.2.2.2.1.1 _ _ HP.out).1 k t hx));clear hx;obtain⟨k0,k1,k2,k3,k4,k5⟩:=cs6 Bk;have ltk_2:=ae Bk.out;obtain⟨p0,p1,p2,p3,p4,p5⟩:=cs6 Bp;have ltp_2:=ae Bp.out;obtain⟨n0,n1,n2,n3,n4,n5,n6⟩:=cs7 Bn;have ltn_2:=ae Bn.out;go_wp2_with fail;clear k0 k1 k2 k3 k4 k5 ltk_2 p0 p1 p2 p3 p4 p5 ltp_2 n0 n1 n2 n3 n4 n5 n6 ltn_2;rename_i K0 hK0;refine Gu.pb ar rfl rfl rfl ar ?_;refine' Gu.au.an _ rfl ?_ ?_;rotate_left 1
    ·exact qd
    refine' Gu.au.an _ rfl ?_ ?_;rotate_left 1
    ·refine Obl.plain rfl ?_;intro ac wg K hsz hW hf hK;clear hsz;have e72:=hf 72 aj;simp[ai,Fp] at e72;exact xe
    refine' Gu.au.an _ rfl ?_ ?_;rotate_left 1
    ·exact lU
    refine' Gu.au.an _ rfl ?_ ?_;rotate_left 1
    ·refine Obl.plain rfl ?_;intro ac wg K hsz hW hf hK;clear hsz;have e73:=hf 73 aj;simp[ai,Fp] at e73;have e74:=hf 74 aj;simp[ai,Fp] at e74;clear hf;exact aT
    refine' Gu.au.an _ rfl ?_ ?_;rotate_left 1
    ·refine Obl.plain rfl ?_;intro ac wg K hsz hW hf hK;clear hsz;have e75:=hf 75 aj;simp[ai,Fp] at e75;clear hf;have c0:wg.cell? ⟨bz,oz+k,none⟩=some (.string t):=(hW.cell hbz).trans hcz;have l0:=FC hbz hW.size;exact aT
    refine' Gu.au.an _ rfl ?_ ?_;rotate_left 1
    ·refine Obl.plain rfl ?_;intro ac wg K hsz hW hf hK;clear hsz;have e9:=hf 9 aj;simp[ai,Fp] at e9;exact qg
    refine Gu.au.done ?_;intro q wz hW hf;simp only[FJ] at hf;obtain⟨h77,h76,h75,h74,h73,h72,-⟩:=hf;have HBZ:=aa hW;have Bo6:=upK Bo hW;have HOF6:=aa (HOF.below hW);clear hW;intro K hK;rw[if_pos bJ];simp only[aE,Ge,GL,Fy,FF,FM,h77,h76,h75,h74,h73,h72];go_simp;have hC:=uI c1 t n ua ul uc (fun k=>q1.w.heap.size<=k/\¬k=w3.heap.size/\k<wr.heap.size) w3.heap.size x1 m1 f1 x2 m2 f2 q3 g3 z3 x4 m4 f4 x5 m5 f5 wz Bo6.out HOF6.out (fun k s=>⟨FC s.2.2 HBZ.size,s.2.1⟩) HT1.out HHT.out HNZ.out;rw[HND.out] at hC;refine hC.mono ?_;clear hC;rintro e w5 ⟨c2,e0,rfl,hN,hA⟩;rcases hA with ⟨he0,hb⟩|⟨rfl,q4,g4,z4,hbo,hof,hkp⟩
    ·have HV:Hid (dh c i p n c e0):=.inr ⟨HAW.out,.inr ⟨HZO.out,.inr ⟨HCP.out,c2,e0,.inr ⟨k,c1,t,HRD.out,HX.out,hN,he0⟩,.inl ⟨he0,rfl⟩⟩⟩⟩;have hq:=HBZ.trans (hb.mono HBZ.size);have heb:(e0==0)=false:=by simpa using he0
     have HE0:=aa he0;have HB5:=upB HB hq;have Bk5:=upK Bk hq;have Br5:=upK Br hq;clear hN hb hq he0 HB Bk Br Bp Bn Bo Bo6 HOF6 HOF HQB HBZ;have HB:=HB5;have Bk:=Bk5;have Br:=Br5;clear HB5 Bk5 Br5;refine hK _ _ ?_;clear hK K;intro K hK;rw[if_pos bJ];go_simp;refine hK _ _ ?_;clear hK K;refine hK0 _ _ ?_;clear hK0 K0;obtain⟨k0,k1,k2,k3,k4,k5⟩:=cs6 Bk;have ltk_5:=ae Bk.out;obtain⟨r0,r1,r2,r3,r4,r5⟩:=cs6 Br;have ltr_5:=ae Br.out;obtain⟨fr0,fr1,fr2,fr3,fr4,fr5⟩:=gI;have hrl:w.heap.size+1<w5.heap.size:=ae Br.out;go_wp2;exact bodyPost_ret (v:=.tuple #[.agg #[.slice (some ⟨bn,on,none⟩) l1 y1,.slice a2 l2 y2,.slice a3 l3 y3,.slice a4 l4 y4,.slice (some ⟨b,o,none⟩) l5 y5,.int .i64 c.now],.int .i64 e0]) iQ rfl ⟨⟨(some ⟨bn,on,none⟩),l1,y1,a2,l2,y2,a3,l3,y3,a4,l4,y4,(some ⟨b,o,none⟩),l5,y5⟩,c,e0,rfl,.inr ⟨HPH.out,HV.out⟩,fun h=>absurd h HE0.out,sb1 (sb1 (sb1 (sb1 (sb1 (sb1 (HB.out))))))⟩
    have hnw:c2.now=c1.now:=(hN.right HT1.out HNZ.out).2.2.2.2.1;have hol:=ae Bo6.out;have hq0:=HQB.size;have hq1:=HBZ.size;have hq2:=HQ2.size;have HRD2:Hid (cn c n p.zs (k+1) c2):=⟨c1,t,HRD.out,HX.out,hN⟩;have HBO2:=aa hbo;rw[<-hnw] at HBO2;have HQB2:=aa ((HQB.trans (HBZ.mono HQB.size)).trans (hkp.low (X:=q1.w.heap.size) af (fun k s=>by rcases s with s|s;exact s.1;omega)));have into:∀{a l cp m T rs},az w5 a l cp m T rs (fun k=>(fun k=>q1.w.heap.size<=k/\¬k=w3.heap.size/\k<wr.heap.size) k\/wz.heap.size<=k)->az w5 a l cp m T rs (fun k=>q1.w.heap.size<=k/\¬k=w3.heap.size/\k<w5.heap.size):=fun h=>h.bA (fun k hk s=>by rcases s with s|s;exact⟨s.1,s.2.1,hk⟩;exact⟨by omega,by omega,hk⟩);have HOF2:Hid (ew w5 ⟨x1,m1,f1,x2,m2,f2,q4,g4,z4,x4,m4,f4,x5,m5,f5⟩ c2.raw (fun k=>q1.w.heap.size<=k/\¬k=w3.heap.size/\k<w5.heap.size)):=⟨into hof.n,into hof.k,into hof.v,into hof.x,into hof.p⟩;clear into hof hbo hkp hN hnw;refine hK _ _ ?_;clear hK K;intro K hK;rw[if_pos bJ];go_simp;refine hK _ _ ?_;clear hK K;refine hK0 _ _ ?_;clear hK0 K0;go_wp2;exact⟨⟨k+1,c2,q4,g4,z4,by omega,by go_num,HRD2.out,HBO2.out,HOF2.out,HQB2.out⟩,by simp[intOf];omega⟩
   have hk1:¬(k:Int)<vl:=af
   obtain rfl:vl=k:=af
   obtain⟨p0,p1,p2,p3,p4,p5⟩:=cs6 Bp;have ltp_2:=ae Bp.out;go_wp2_with fail;clear p0 p1 p2 p3 p4 p5 ltp_2;have HP1:Hid (c1.ps[i]?=some p):=by show _=_;rw[HR1.2.2.1];exact HP.out
   have HPD:Hid (¬p.d=n.n):=by
    have h:=(HT.2.1.2.2.2.2.2.1 _ _ HP.out).2.2.2.2;rw[HPH.out] at h;show¬_;rw[(eF _).1 h];exact fun e=>gS (HT.2.1.1.2.1 _ _ HN.out).1 e.symm
   have HV8:Hid (c1.vs.length<=8):=by have h:=HT1.2.1.2.2.1.1;show _<=_;omega
   have HV3:Hid (vl<=3):=by have h:=(HT.2.1.2.2.2.2.2.1 _ _ HP.out).2.2.2.1.1;show _<=_;omega
   have HALL:Hid (oY c n p.zs c1 0):=.inl ⟨by rw[hpl];exact HRD.out,rfl⟩;obtain⟨L,hL⟩:∃L:Nat,L=(dK (plC c1 i p n.n) n.n c1.vs).length:=⟨_,rfl⟩;have HLL:=aa hL;clear hL;rename_i K0 hK0;refine bo (back:=none) ar (GC _).symm ar ?_;refine' au.an _ rfl ?_ ?_;rotate_left 1
   ·exact xq
   refine' au.an _ rfl ?_ ?_;rotate_left 1
   ·exact xq
   refine' au.an _ rfl ?_ ?_;rotate_left 1
   ·exact lY
   refine' au.an _ rfl ?_ ?_;rotate_left 1
   ·refine Obl.plain rfl ?_;intro ac wg K hsz hW hf hK;clear hsz;have e85:=hf 85 aj;simp[ai,Fp] at e85;exact qg
   refine au.step (DiF c1 n.n) rfl (DiF.mono _ _) ?_ ?_
   ·refine Obl.plain rfl ?_;intro ac wg K hsz hW hf hK;clear hsz;have e84:=hf 84 aj;simp[ai,Fp] at e84;have e86:=hf 86 aj;simp[ai,Fp] at e86;clear hf;go_simp;refine (th ⟨x1,m1,f1,x2,m2,f2,q3,g3,z3,x4,m4,f4,x5,m5,f5⟩ c1 n.n wg (HOF.row.below hW) HT1.out).mono ?_;rintro e w6 ⟨a6,l6,c6,ys,rfl,h1,h2,h3,hb6⟩;exact hK _ _ hb6 ⟨a6,l6,c6,ys,rfl,h1,h2,h3⟩
   refine' au.an _ rfl ?_ ?_;rotate_left 1
   ·refine Obl.plain rfl ?_;intro ac wg K hsz hW hf hK;clear hsz;have e8:=hf 8 aj;simp[ai,Fp] at e8;exact xe
   refine au.step (LeF L) rfl (LeF.mono _) ?_ ?_
   ·refine Obl.plain rfl ?_;intro ac wg K hsz hW hf hK;clear hsz;have e83:=hf 83 aj;simp[ai,Fp] at e83;have e87:=hf 87 aj;simp[ai,Fp] at e87;have e88:=hf 88 aj;simp[ai,Fp] at e88;clear hf;obtain⟨a6,l6,c6,ys,e87,h1,h2,h3⟩:=e87;have hys:=zN HT1.out h2 h3;have hl6:l6+vl<=60:=by
     have h4:ys.length=l6:=h1.1;have h5:ys.length<=c1.vs.length:=by rw[hys];unfold dK;rw[FR];exact List.length_filter_le _ _
     have h6:=HV8.out;have h7:=HV3.out;omega
    clear hys;go_simp;refine (kR ⟨x1,m1,f1,x2,m2,f2,q3,g3,z3,x4,m4,f4,x5,m5,f5⟩ c1 a6 l6 c6 ys p va vl vc wg (HOF.row.below hW) HT1.out h1 h2 (HVR.below (HB.trans (hW.mono HB.size))) hl6).mono ?_;rintro e w6 ⟨a7,l7,c7,ys2,rfl,k1,k2,k3,-,hb6⟩;obtain rfl:l7=L:=by
     have h8:=tA HT1.out HP1.out HPD.out k2 (fun t=>by rw[k3,h3]);have h9:ys2.length=l7:=k1.1;rw[h8] at h9;rw[<-h9];exact HLL.symm
    exact hK _ _ hb6 ⟨a7,c7,rfl⟩
   refine au.step (fun v _=>v=.int .i64 L) rfl (Fact.cv _) ?_ ?_
   ·refine Obl.plain rfl ?_;intro ac wg K hsz hW hf hK;clear hsz;have e89:=hf 89 aj;simp[ai,Fp] at e89;clear hf;obtain⟨a7,c7,e89⟩:=e89;go_simp;exact hK _ _ (Ft _ _) rfl
   refine' au.an _ rfl ?_ ?_;rotate_left 1
   ·exact lY
   refine' au.an _ rfl ?_ ?_;rotate_left 1
   ·refine Obl.plain rfl ?_;intro ac wg K hsz hW hf hK;clear hsz;have e91:=hf 91 aj;simp[ai,Fp] at e91;exact qg
   refine' au.an _ rfl ?_ ?_;rotate_left 1
   ·refine Obl.plain rfl ?_;intro ac wg K hsz hW hf hK;clear hsz;have e90:=hf 90 aj;simp[ai,Fp] at e90;have e92:=hf 92 aj;simp[ai,Fp] at e92;clear hf;exact aT
   refine au.done ?_;intro q wz hW hf;simp only[FJ] at hf;obtain⟨h93,-⟩:=hf;have hb:=hW;refine hK0 _ _ ?_;simp only[aE,Ge,GL,Fy,FF,FM,h93];clear hK0;have HOFZ:=aa (HOF.below hb);replace Bk:=upK Bk hb;replace Br:=upK Br hb;replace Bp:=upK Bp hb;replace Bn:=upK Bn hb;replace Bo:=upK Bo hb;replace HB:=upB HB hb;clear hb;by_cases hs:n.s<(L:Int)
   ·have hsb:decide (n.s<(L:Int))=true:=by simpa using hs
    have HSH:Hid (gu c1 i p n):=by show n.s<_;rw[<-HLL.out];exact hs
    obtain⟨k0,k1,k2,k3,k4,k5⟩:=cs6 Bk;have ltk_3:=ae Bk.out;obtain⟨r0,r1,r2,r3,r4,r5⟩:=cs6 Br;have ltr_3:=ae Br.out;obtain⟨fr0,fr1,fr2,fr3,fr4,fr5⟩:=gI;have hrl:w.heap.size+1<wz.heap.size:=ae Br.out;go_wp2;exact bodyPost_ret (v:=.tuple #[.agg #[.slice (some ⟨bn,on,none⟩) l1 y1,.slice a2 l2 y2,.slice a3 l3 y3,.slice a4 l4 y4,.slice (some ⟨b,o,none⟩) l5 y5,.int .i64 c.now],.int .i64 9]) iQ rfl ⟨⟨(some ⟨bn,on,none⟩),l1,y1,a2,l2,y2,a3,l3,y3,a4,l4,y4,(some ⟨b,o,none⟩),l5,y5⟩,c,9,rfl,.inr ⟨HPH.out,.inr ⟨HAW.out,.inr ⟨HZO.out,.inr ⟨HCP.out,c1,0,HALL.out,.inr ⟨rfl,.inl ⟨HSH.out,rfl⟩⟩⟩⟩⟩⟩,fun h=>absurd h aj,sb1 (sb1 (sb1 (sb1 (sb1 (sb1 (HB.out))))))⟩
   have hsb:decide (n.s<(L:Int))=false:=by simpa using hs
   have HSH:Hid (¬gu c1 i p n):=by show¬n.s<_;rw[<-HLL.out];exact hs
   obtain⟨g,hga,hS⟩:=HOFZ.p.st (aC.refl _ wz) (i:=i) (r:=pdF p) (show (c1.ps.map pdF)[i]?=some (pdF p) by rw[FA,HP1.out];rfl);have hga':x5=some ⟨g,0,none⟩:=hga;subst hga';have hgS:=(by obtain⟨⟨cur,H,h1,_⟩,_⟩:=hS;exact⟨h1.inS,ae h1.blk⟩:(fun k=>q1.w.heap.size<=k/\¬k=w3.heap.size/\k<wr.heap.size) g/\g<wz.heap.size);obtain⟨⟨hg1,hg2,-⟩,hg3⟩:=hgS;obtain⟨v4,hv4⟩:=hS.cell (i:=4) rfl;obtain⟨v5,hv5⟩:=hS.cell (i:=5) rfl;have hf4:=hS.cH (i*6+4);have hf5:=hS.cH (i*6+5);have hi6:(i:Int)<m5:=by have h6:(c1.ps.map pdF).length=m5:=HOFZ.p.1;rw[FR] at h6;have h7:=(Fk.1 HP1.out).1;omega
   have HST:=aa hS;have hqn:=ae Qn.out;have hqo:=HQ2.size;have hox:=ae Bo.out;have hne1:¬w3.heap.size=g:=fun e=>hg2 e.symm;have hne3:¬g=w.heap.size+1:=af
   have hne4:¬w.heap.size+1=g:=af
   have hne5:¬w.heap.size+1=w3.heap.size:=af
   have hne6:¬w3.heap.size=w.heap.size+1:=af
   have hne7:¬w.heap.size+1+1+1=g:=af
   clear hS hga;obtain⟨r0,r1,r2,r3,r4,r5⟩:=cs6 Br;have ltr_3:=ae Br.out;obtain⟨n0,n1,n2,n3,n4,n5,n6⟩:=cs7 Bn;have ltn_3:=ae Bn.out;obtain⟨o0,o1,o2,o3,o4,o5⟩:=cs6 Bo;have lto_3:=ae Bo.out;obtain⟨fr0,fr1,fr2,fr3,fr4,fr5⟩:=gI;go_wp2;refine bodyPost_ret (v:=.tuple #[.agg #[.slice x1 m1 f1,.slice x2 m2 f2,.slice q3 g3 z3,.slice x4 m4 f4,.slice (some ⟨g,0,none⟩) m5 f5,.int .i64 c1.now],.int .i64 0]) iQ rfl ⟨⟨x1,m1,f1,x2,m2,f2,q3,g3,z3,x4,m4,f4,(some ⟨g,0,none⟩),m5,f5⟩,plC c1 i p n.n,0,rfl,.inr ⟨HPH.out,.inr ⟨HAW.out,.inr ⟨HZO.out,.inr ⟨HCP.out,c1,0,HALL.out,.inr ⟨rfl,.inr ⟨HSH.out,rfl,rfl⟩⟩⟩⟩⟩⟩,fun _=>?_,sb1 (sb1 (sb1 (sb1 (sb1 (sb1 (ah (show w.heap.size<=g by omega) (ah (show w.heap.size<=g by omega) HB.out)))))))⟩;have hk2:∀k,q1.w.heap.size<=k->((((((((wz.setCell ⟨g,i*6+4,none⟩ (.string n.n)).setCell ⟨g,i*6+5,none⟩ (.int .i64 1)).setCell ⟨w.heap.size+1,0,none⟩ (.slice x1 m1 f1)).setCell ⟨w.heap.size+1,1,none⟩ (.slice x2 m2 f2)).setCell ⟨w.heap.size+1,2,none⟩ (.slice q3 g3 z3)).setCell ⟨w.heap.size+1,3,none⟩ (.slice x4 m4 f4)).setCell ⟨w.heap.size+1,4,none⟩ (.slice (some ⟨g,0,none⟩) m5 f5)).setCell ⟨w.heap.size+1,5,none⟩ (.int .i64 c1.now)).heap[k]?=((wz.setCell ⟨g,i*6+4,none⟩ (.string n.n)).setCell ⟨g,i*6+5,none⟩ (.int .i64 1)).heap[k]?:=fun k h1=>by rw[Fm _ _ _ _ (show k≠w.heap.size+1 by omega),Fm _ _ _ _ (show k≠w.heap.size+1 by omega),Fm _ _ _ _ (show k≠w.heap.size+1 by omega),Fm _ _ _ _ (show k≠w.heap.size+1 by omega),Fm _ _ _ _ (show k≠w.heap.size+1 by omega),Fm _ _ _ _ (show k≠w.heap.size+1 by omega)]
   have hk3:∀k,q1.w.heap.size<=k->¬k=g->((((((((wz.setCell ⟨g,i*6+4,none⟩ (.string n.n)).setCell ⟨g,i*6+5,none⟩ (.int .i64 1)).setCell ⟨w.heap.size+1,0,none⟩ (.slice x1 m1 f1)).setCell ⟨w.heap.size+1,1,none⟩ (.slice x2 m2 f2)).setCell ⟨w.heap.size+1,2,none⟩ (.slice q3 g3 z3)).setCell ⟨w.heap.size+1,3,none⟩ (.slice x4 m4 f4)).setCell ⟨w.heap.size+1,4,none⟩ (.slice (some ⟨g,0,none⟩) m5 f5)).setCell ⟨w.heap.size+1,5,none⟩ (.int .i64 c1.now)).heap[k]?=wz.heap[k]?:=fun k h1 h3=>by rw[hk2 k h1,Fm _ _ _ _ h3,Fm _ _ _ _ h3]
   obtain⟨⟨cur,H,hbk,_⟩,_⟩:=HST.out;have h2:=(HST.dt (i:=4) rfl n.n (by have h9:=(HT.2.1.1.2.1 _ _ HN.out).1.2.1;omega)).ir (i:=5) rfl 1;obtain⟨⟨cur2,H2,h3,_⟩,_,_⟩:=h2;have hps:(plC c1 i p n.n).raw.p=(c1.ps.map pdF).set i (pdF (onP p n.n)):=by
    show (c1.ps.set i (onP p n.n)).map pdF=_;rw[List.map_set]
   refine⟨?_,?_,?_,?_,?_⟩
   ·exact (HOFZ.n.gn hbk.blk aj aj).aM (w':=((((((((wz.setCell ⟨g,i*6+4,none⟩ (.string n.n)).setCell ⟨g,i*6+5,none⟩ (.int .i64 1)).setCell ⟨w.heap.size+1,0,none⟩ (.slice x1 m1 f1)).setCell ⟨w.heap.size+1,1,none⟩ (.slice x2 m2 f2)).setCell ⟨w.heap.size+1,2,none⟩ (.slice q3 g3 z3)).setCell ⟨w.heap.size+1,3,none⟩ (.slice x4 m4 f4)).setCell ⟨w.heap.size+1,4,none⟩ (.slice (some ⟨g,0,none⟩) m5 f5)).setCell ⟨w.heap.size+1,5,none⟩ (.int .i64 c1.now))) (S':=fun k=>w.heap.size<=k) (fun k hk s=>hk3 k s.1.1 s.2) (fun k _ s=>by have s1:=s.1.1;show w.heap.size<=k;omega)
   ·exact (HOFZ.k.gn hbk.blk aj aj).aM (w':=((((((((wz.setCell ⟨g,i*6+4,none⟩ (.string n.n)).setCell ⟨g,i*6+5,none⟩ (.int .i64 1)).setCell ⟨w.heap.size+1,0,none⟩ (.slice x1 m1 f1)).setCell ⟨w.heap.size+1,1,none⟩ (.slice x2 m2 f2)).setCell ⟨w.heap.size+1,2,none⟩ (.slice q3 g3 z3)).setCell ⟨w.heap.size+1,3,none⟩ (.slice x4 m4 f4)).setCell ⟨w.heap.size+1,4,none⟩ (.slice (some ⟨g,0,none⟩) m5 f5)).setCell ⟨w.heap.size+1,5,none⟩ (.int .i64 c1.now))) (S':=fun k=>w.heap.size<=k) (fun k hk s=>hk3 k s.1.1 s.2) (fun k _ s=>by have s1:=s.1.1;show w.heap.size<=k;omega)
   ·exact (HOFZ.v.gn hbk.blk aj aj).aM (w':=((((((((wz.setCell ⟨g,i*6+4,none⟩ (.string n.n)).setCell ⟨g,i*6+5,none⟩ (.int .i64 1)).setCell ⟨w.heap.size+1,0,none⟩ (.slice x1 m1 f1)).setCell ⟨w.heap.size+1,1,none⟩ (.slice x2 m2 f2)).setCell ⟨w.heap.size+1,2,none⟩ (.slice q3 g3 z3)).setCell ⟨w.heap.size+1,3,none⟩ (.slice x4 m4 f4)).setCell ⟨w.heap.size+1,4,none⟩ (.slice (some ⟨g,0,none⟩) m5 f5)).setCell ⟨w.heap.size+1,5,none⟩ (.int .i64 c1.now))) (S':=fun k=>w.heap.size<=k) (fun k hk s=>hk3 k s.1.1 s.2) (fun k _ s=>by have s1:=s.1.1;show w.heap.size<=k;omega)
   ·exact (HOFZ.x.gn hbk.blk aj aj).aM (w':=((((((((wz.setCell ⟨g,i*6+4,none⟩ (.string n.n)).setCell ⟨g,i*6+5,none⟩ (.int .i64 1)).setCell ⟨w.heap.size+1,0,none⟩ (.slice x1 m1 f1)).setCell ⟨w.heap.size+1,1,none⟩ (.slice x2 m2 f2)).setCell ⟨w.heap.size+1,2,none⟩ (.slice q3 g3 z3)).setCell ⟨w.heap.size+1,3,none⟩ (.slice x4 m4 f4)).setCell ⟨w.heap.size+1,4,none⟩ (.slice (some ⟨g,0,none⟩) m5 f5)).setCell ⟨w.heap.size+1,5,none⟩ (.int .i64 c1.now))) (S':=fun k=>w.heap.size<=k) (fun k hk s=>hk3 k s.1.1 s.2) (fun k _ s=>by have s1:=s.1.1;show w.heap.size<=k;omega)
   ·have hR:az ((wz.setCell ⟨g,i*6+4,none⟩ (.string n.n)).setCell ⟨g,i*6+5,none⟩ (.int .i64 1)) (some ⟨g,0,none⟩) m5 f5 6 64 (plC c1 i p n.n).raw.p (fun k=>q1.w.heap.size<=k/\¬k=w3.heap.size/\k<wr.heap.size):=by
     rw[hps];exact⟨by rw[List.length_set];exact HOFZ.p.1,HOFZ.p.2.1,HOFZ.p.2.2.1,.inr ⟨g,cur2,H2,rfl,h3⟩⟩
    exact hR.aM (w':=((((((((wz.setCell ⟨g,i*6+4,none⟩ (.string n.n)).setCell ⟨g,i*6+5,none⟩ (.int .i64 1)).setCell ⟨w.heap.size+1,0,none⟩ (.slice x1 m1 f1)).setCell ⟨w.heap.size+1,1,none⟩ (.slice x2 m2 f2)).setCell ⟨w.heap.size+1,2,none⟩ (.slice q3 g3 z3)).setCell ⟨w.heap.size+1,3,none⟩ (.slice x4 m4 f4)).setCell ⟨w.heap.size+1,4,none⟩ (.slice (some ⟨g,0,none⟩) m5 f5)).setCell ⟨w.heap.size+1,5,none⟩ (.int .i64 c1.now))) (S':=fun k=>w.heap.size<=k) (fun k hk s=>hk2 k s.1) (fun k _ s=>by have s1:=s.1;show w.heap.size<=k;omega)

def Ff (c:Cl) (i:Nat) (p:Pd) (w:World) (e:Ending) (w':World):Prop:=(∃r:Int,e=.returned (.int .i64 r)/\((r= -1/\fo c i p)\/∃(b:Nat) (n:Nd),r=b/\kL c i p b n))/\Below w.heap.size w w'
def D1 (c:Cl) (t:ByteArray) (p b e:Int):Prop:=(¬e=0/\∃i,kv c t i/\e=dz i)\/(e=0/\¬8000<t.size/\aB c/\∃(x:Pd) (b':Nat) (n:Nd),p=(pl Pd.n c.ps t:Nat)/\b=b'/\c.ps[pl Pd.n c.ps t]?=some x/\x.n=t/\x.p=0/\kL c (pl Pd.n c.ps t) x b' n)

theorem pE (d:Ad) (c:Cl) (i:Nat) (p:Pd) (w:World) (hr:aJ w d c.raw) (hT:aB c) (hp:c.ps[i]?=some p) (h0:p.p=0):
  Calls Tryz.prog 51 #[.agg #[.slice d.a1 d.l1 d.c1,.slice d.a2 d.l2 d.c2,.slice d.a3 d.l3 d.c3,.slice d.a4 d.l4 d.c4,.slice d.a5 d.l5 d.c5,.int .i64 c.now],.int .i64 i] w (Ff c i p w):=by
 obtain⟨a1,l1,y1,a2,l2,y2,a3,l3,y3,a4,l4,y4,a5,l5,y5⟩:=d;dsimp only;obtain⟨HR,hl1,hm1,hl2,hm2,hl3,hm3,hl4,hm4,hl5,hm5⟩:=pL;clear hr;have HT:=aa hT;have HP:=aa hp;have H0:=aa h0;have HPC:=aa (fun (j:Nat) p (hp:c.ps[j]?=some p)=>(hT.2.1.2.2.2.2.2.1 j p hp).2.1);have HL8:Hid (c.ps.length<=8):=by have h:=hT.2.1.2.2.2.2.1;show _<=_;omega
 have HPP:Hid (0<=p.c):=(HPC.out i p hp).1;clear hT hp h0;go_enter Tryz.func51,Tryz.ntmps51;go_wp2_with fail;go_loopw [5,6,7] (fun bq mq iq wr=> ∃(k:Nat) (bs ms:Int),k<=l1/\bq=.int .i64 bs/\mq=.int .i64 ms/\iq=.int .i64 k/\Hid (ee c i p k bs ms)/\Hid (Below w.heap.size w wr)/\Hid (wr.heap[w.heap.size]?=some (.cells (c6 a1 l1 y1 a2 l2 y2 a3 l3 y3 a4 l4 y4 a5 l5 y5 c.now) 36 (0,0)))) (fun _ _ iq _=>l1 - (intOf iq).toNat);case atStart=>exact⟨0,-1,-1,by omega,rfl,rfl,rfl,ee.zero,al _ _,heap_alloc_new _ _⟩
 case round=>
  obtain⟨k,bs,ms,hk,rfl,rfl,rfl,HK,HB,Bk⟩:=hrel;have ltk:=ae Bk.out;by_cases hlt:k<l1
  ·have hlt2:(k:Int)<(l1:Int):=af
   obtain⟨b,o,n,rfl,hb,hx,hat⟩:=cA (HR.n.below HB.out) hlt;obtain⟨va,vl,vc,hvr,z0,z1,c0,c1,c2,c3,c4,c5,c6⟩:=aZ hat;have HXn:=aa hx;have HTn:=aa hvr;have HZn0:=aa z0;have HZn1:=aa z1;clear hat hx z0 z1 hvr;have hU:=mB n.n HPC.out;have hl8:=HL8.out;have hu0:=hU.1;have hu1:cpuOf n.n c.ps<=8000000:=by have:=hU.2;omega
   have hnc:=(HT.2.1.1.2.1 _ _ HXn.out).2.2.1;have hnc0:=hnc.1;have hnc1:=hnc.2;have HNZ:=aa (HT.2.1.1.2.1 _ _ HXn.out).2.1;clear hU hnc;have k0:=aw Bk.out 0;clear k0;have k0:wr.cell? ⟨w.heap.size,0,none⟩=some (.slice (some ⟨b,o,none⟩) l1 y1):=aw Bk.out 0;go_wp2_with fail;clear k0;have Gk:=Bk;have HW:=HB;obtain⟨k0,k1,k2,k3,k4,k5⟩:=sl6 Gk;have e0:=fun q:Wd wr=>(q.cell hb).trans c0;have e2:=fun q:Wd wr=>(q.cell hb).trans c2;have hne0:=Wd.ne wr;have HC0:=aa (fun q:Wd wr=>ik ⟨(some ⟨b,o,none⟩),l1,y1,a2,l2,y2,a3,l3,y3,a4,l4,y4,a5,l5,y5⟩ c.now c.ps n.n q.w (HR.p.below (HW.trans (q.b.mono HW.size))) HL8.out HPC.out);go_wp2_with fail;refine ag ar ar ?_;repeat (go_big_quiet_step (first|(go_at_call 80;exact Calls.wide (HC0.out _))|fail))
   refine wpQuiet_nil ?_;rintro _ ⟨q1,rfl⟩;obtain⟨HB1,Ck⟩:=cL;clear hne0 HW HB HC0 k0 k1 k2 k3 k4 k5 e0 e2 Gk Bk c0 c1 c2 c3 c4 c5 c6;have HB:=HB1;clear HB1;have Bk:=Ck;clear Ck;by_cases hf:n.c - cpuOf n.n c.ps<=ms
   ·have hfd:decide (n.c - cpuOf n.n c.ps<=ms)=true:=by simpa using hf
    obtain⟨k0,k1,k2,k3,k4,k5⟩:=cs6 Bk;have ltk_1:=ae Bk.out;go_wp2;refine⟨⟨k+1,bs,ms,by omega,rfl,rfl,by go_num,HK.pass HXn.out HPP.out hf,HB.out,Bk.out⟩,by simp[intOf];omega⟩
   have hfd:decide (n.c - cpuOf n.n c.ps<=ms)=false:=by simpa using hf
   have HF:Hid (¬frN c n<=ms):=hf;clear hf;obtain⟨k0,k1,k2,k3,k4,k5⟩:=cs6 Bk;have ltk_1:=ae Bk.out;go_wp2_with fail;refine (mX ⟨(some ⟨b,o,none⟩),l1,y1,a2,l2,y2,a3,l3,y3,a4,l4,y4,a5,l5,y5⟩ c i k p n _ (HR.below HB.out) HT.out HP.out HXn.out).mono ?_;rintro e w4 ⟨d',c',e0,rfl,hA,-,hb⟩;clear k0 k1 k2 k3 k4 k5 ltk_1;replace Bk:=upK Bk hb;replace HB:=upB HB hb;clear hb;have HA:Hid (dh c i p n c' e0):=hA.elim (fun h=>absurd H0.out h.1) (fun h=>h.2);clear hA;have ltk4:=ae Bk.out;by_cases he:e0=0
   ·subst he;obtain⟨k0,k1,k2,k3,k4,k5⟩:=cs6 Bk;have ltk_2:=ae Bk.out;go_wp2;refine⟨⟨k+1,k,frN c n,by omega,rfl,by first|rfl|(congr 1;go_num),by go_num,HK.take HXn.out (by have h:=HF.out;omega) ⟨_,HA.out⟩,HB.alloc HB.size _,(Fw _ _ _ ltk4).trans Bk.out⟩,by simp[intOf];omega⟩
   have he2:(e0==0)=false:=by simpa using he
   have HE0:=aa he;clear he;obtain⟨k0,k1,k2,k3,k4,k5⟩:=cs6 Bk;have ltk_2:=ae Bk.out;go_wp2;refine⟨⟨k+1,bs,ms,by omega,rfl,rfl,by go_num,HK.no HXn.out (fun ⟨_,h⟩=>HE0.out (HA.same HT.out HNZ.out h).1),HB.alloc HB.size _,(Fw _ _ _ ltk4).trans Bk.out⟩,by simp[intOf];omega⟩
  ·obtain rfl:l1=k:=af
   have hlt2:¬(l1:Int)<(l1:Int):=af
   have k0:wr.cell? ⟨w.heap.size,0,none⟩=some (.slice a1 l1 y1):=aw Bk.out 0;have hl1':=HK.out;rw[<-hl1] at hl1';have HD:=aa hl1'.done;clear hl1';go_wp2;go_ret;exact⟨⟨bs,rfl,HD.out⟩,HB.out⟩

theorem tf (d:Ad) (c:Cl) (t:ByteArray) (w:World) (hr:aJ w d c.raw):
  Calls Tryz.prog 21 #[.agg #[.slice d.a1 d.l1 d.c1,.slice d.a2 d.l2 d.c2,.slice d.a3 d.l3 d.c3,.slice d.a4 d.l4 d.c4,.slice d.a5 d.l5 d.c5,.int .i64 c.now],.string t] w fun e w'=>(∃p b e0:Int,e=.returned (.tuple #[.int .i64 p,.int .i64 b,.int .i64 e0])/\D1 c t p b e0)/\Below w.heap.size w w':=by
 obtain⟨a1,l1,y1,a2,l2,y2,a3,l3,y3,a4,l4,y4,a5,l5,y5⟩:=d;dsimp only;obtain⟨HR,hl1,hm1,hl2,hm2,hl3,hm3,hl4,hm4,hl5,hm5⟩:=pL;clear hr;have HB:=aa (Ft w.heap.size w);go_enter Tryz.func21,Tryz.ntmps21;go_wp2_with fail;refine (uJ ⟨a1,l1,y1,a2,l2,y2,a3,l3,y3,a4,l4,y4,a5,l5,y5⟩ c t _ (HR.below (HB.trans ((al _ _).mono HB.size)))).mono ?_;rintro e w1 ⟨p,rfl,hp,hb⟩;obtain⟨HA0,hbx⟩:=aL hb;have Bk:=aa HA0;replace HB:=upB HB hbx;clear hb hbx HA0;have hp0:(¬p=0/\∃i,kv c t i/\p=dz i)\/(p=0/\¬8000<t.size/\aB c):=by
  rcases hp with ⟨h1,rfl⟩|⟨h1,h2,rfl⟩|⟨h1,h2,rfl⟩
  ·exact .inl ⟨by decide,0,h1,rfl⟩
  ·exact .inl ⟨by decide,1,⟨h1,h2⟩,rfl⟩
  ·exact .inr ⟨rfl,h1,h2⟩
 clear hp;rcases hp0 with ⟨hp0,hV⟩|⟨rfl,hl,hT⟩
 ·have hp1:(p==0)=false:=by simpa using hp0
  have HV:=aa hV;clear hV;obtain⟨k0,k1,k2,k3,k4,k5⟩:=cs6 Bk;have ltk_1:=ae Bk.out;go_wp2;exact bodyPost_ret (v:=.tuple #[.int .i64 0,.int .i64 0,.int .i64 p]) nr rfl ⟨⟨_,_,_,rfl,.inl ⟨hp0,HV.out⟩⟩,HB.out⟩
 have HT:=aa hT;have HLL:=aa hl;clear hT hl;obtain⟨k0,k1,k2,k3,k4,k5⟩:=cs6 Bk;have ltk_1:=ae Bk.out;go_wp2_with fail;refine (uz ⟨a1,l1,y1,a2,l2,y2,a3,l3,y3,a4,l4,y4,a5,l5,y5⟩ c.now c.ps t _ (HR.p.below HB.out)).mono ?_;rintro e w2 ⟨hb,hf⟩;clear k0 k1 k2 k3 k4 k5 ltk_1;replace Bk:=upK Bk hb;replace HB:=upB HB hb;clear hb;rcases hf with ⟨i,x,hx,hn,rfl⟩|⟨hno,rfl⟩;rotate_left
 ·have HV:=aa (DQ hno);clear hno;obtain⟨k0,k1,k2,k3,k4,k5⟩:=cs6 Bk;have ltk_2:=ae Bk.out;go_wp2;exact bodyPost_ret (v:=.tuple #[.int .i64 0,.int .i64 0,.int .i64 6]) nr rfl ⟨⟨_,_,_,rfl,.inl ⟨by decide,2,⟨HLL.out,HT.out,HV.out⟩,rfl⟩⟩,HB.out⟩
 have hri:=HT.2.1.2.2.2.2.2.2;have hpl:=(cM hri hx hn).1;have HXX:Hid (c.ps[pl Pd.n c.ps t]?=some x/\x.n=t):=⟨by rw[hpl];exact hx,hn⟩;have HXI:=aa hx;have HPL:=aa hpl;clear hpl hri hn;have hi5:i<l5:=by have:=(Fk.1 hx).1;omega
 have hi0:¬(i:Int)<0:=af
 obtain⟨b,o,y,rfl,hbl,hy,hat⟩:=bY (HR.p.below HB.out) hi5;rw[HXI.out] at hy;obtain rfl:=Fo hy;obtain⟨va,vl,vc,hvr,z0,z2,z4,c0,c1,c2,c3,c4,c5⟩:=aS hat;clear hat hvr z0 z2 z4 hy hx c0 c1 c2 c3 c4;by_cases hp:x.p=0;rotate_left
 ·have hpb:(x.p==0)=false:=by simpa using hp
  have HPH:=aa hp;obtain⟨k0,k1,k2,k3,k4,k5⟩:=cs6 Bk;have ltk_2:=ae Bk.out;go_wp2;exact bodyPost_ret (v:=.tuple #[.int .i64 0,.int .i64 0,.int .i64 10]) nr rfl ⟨⟨_,_,_,rfl,.inl ⟨by decide,8,⟨HLL.out,HT.out,x,HXX.1,HXX.2,HPH.out⟩,rfl⟩⟩,HB.out⟩
 have hpb:(x.p==0)=true:=by simpa using hp
 have HPH:=aa hp;clear hp;obtain⟨k0,k1,k2,k3,k4,k5⟩:=cs6 Bk;have ltk_2:=ae Bk.out;go_wp2_with fail;clear c5;refine (pE ⟨a1,l1,y1,a2,l2,y2,a3,l3,y3,a4,l4,y4,(some ⟨b,o,none⟩),l5,y5⟩ c i x _ (HR.below HB.out) HT.out HXI.out HPH.out).mono ?_;rintro e w3 ⟨⟨r,rfl,hf⟩,hb⟩;clear k0 k1 k2 k3 k4 k5 ltk_2;replace Bk:=upK Bk hb;replace HB:=upB HB hb;clear hb;rcases hf with ⟨rfl,hf⟩|⟨bb,nn,rfl,hf⟩
 ·have HNB:=aa hf;clear hf;obtain⟨k0,k1,k2,k3,k4,k5⟩:=cs6 Bk;have ltk_3:=ae Bk.out;go_wp2;exact bodyPost_ret (v:=.tuple #[.int .i64 0,.int .i64 0,.int .i64 11]) nr rfl ⟨⟨_,_,_,rfl,.inl ⟨by decide,7,⟨HLL.out,HT.out,x,HXX.1,HXX.2,HPH.out,by rw[HPL.out];exact HNB.out⟩,rfl⟩⟩,HB.out⟩
 have HNB:=aa hf;have hb0:¬(bb:Int)<0:=af
 clear hf;obtain⟨k0,k1,k2,k3,k4,k5⟩:=cs6 Bk;have ltk_3:=ae Bk.out;go_wp2;exact bodyPost_ret (v:=.tuple #[.int .i64 i,.int .i64 bb,.int .i64 0]) nr rfl ⟨⟨_,_,_,rfl,.inr ⟨rfl,HLL.out,HT.out,x,bb,nn,by rw[HPL.out],rfl,HXX.1,HXX.2,HPH.out,by rw[HPL.out];exact HNB.out⟩⟩,HB.out⟩

theorem zR {w w1:World} {o:Obj} (h:Below w.heap.size w w1):Below w.heap.size w (w1.alloc o).drew:=Below.eD (h.trans ((al _ _).mono h.size))

theorem py (d:Ad) (c:Cl) (t:ByteArray) (w:World) (hr:aJ w d c.raw):
  Calls Tryz.prog 14 #[.agg #[.slice d.a1 d.l1 d.c1,.slice d.a2 d.l2 d.c2,.slice d.a3 d.l3 d.c3,.slice d.a4 d.l4 d.c4,.slice d.a5 d.l5 d.c5,.int .i64 c.now],.string t] w (Fe (dE c t) w):=by
 obtain⟨a1,l1,y1,a2,l2,y2,a3,l3,y3,a4,l4,y4,a5,l5,y5⟩:=d;dsimp only;obtain⟨HR,hl1,hm1,hl2,hm2,hl3,hm3,hl4,hm4,hl5,hm5⟩:=pL;clear hr;have HB:=aa (Ft w.heap.size w);go_enter Tryz.func14,Tryz.ntmps14;go_wp2_with fail;refine (tf ⟨a1,l1,y1,a2,l2,y2,a3,l3,y3,a4,l4,y4,a5,l5,y5⟩ c t _ (HR.below (HB.trans ((aF _ _ _).mono HB.size)))).mono ?_;rintro e w1 ⟨⟨p,b0,e0,rfl,hf⟩,hb⟩;obtain⟨HA0,HA1,hbx⟩:=cG hb;have Bk:=aa HA0;have Br:=aa HA1;replace HB:=upB HB hbx;clear hb hbx HA0 HA1;rcases hf with ⟨he,i,hw,hc⟩|⟨rfl,hl,hT,x,b',n,rfl,rfl,hx,hn,hp,hB⟩
 ·have HV:Hid (dE c t (co0 e0)):=.inl ⟨i,hw,by rw[hc]⟩;clear hw hc;have hp1:(e0==0)=false:=by simpa using he
  obtain⟨k0,k1,k2,k3,k4,k5⟩:=cs6 Bk;have ltk_1:=ae Bk.out;go_wp2_with fail;refine (uG e0 _).mono ?_;rintro e w2 ⟨rfl,hb⟩;clear k0 k1 k2 k3 k4 k5 ltk_1;replace Bk:=upK Bk hb;replace Br:=upK Br hb;replace HB:=upB HB hb;clear hb;obtain⟨r0,r1,r2,r3,r4,r5,r6,r7⟩:=cs8 Br;have ltr_2:=ae Br.out;obtain⟨fr0,fr1,fr2,fr3,fr4,fr5⟩:=gI;have fr6:=av Br.out 6;have fr7:=av Br.out 7;have hrl:w.heap.size+1<w2.heap.size:=ae Br.out;go_wp2;exact bodyPost_ret (v:=.agg #[.slice none 0 0,.slice none 0 0,.slice none 0 0,.slice none 0 0,.slice none 0 0,.int .i64 0,.string ⟨#[]⟩,.int .i64 e0]) (by simp[results,Tryz.results14,go_sem, *]) rfl ⟨ad0,co0 e0,rfl,HV.out,(Du _ (fun _=>True)).row,sb1 (sb1 (sb1 (sb1 (sb1 (sb1 (sb1 (sb1 (HB.out))))))))⟩
 have HT:=aa hT;have HLL:=aa hl;have HX:=aa (Fl hx (Fl hn hp));have HBE:=aa hB;clear hT hl hx hn hp hB;have hb1:b'<l1:=by have:=(Fk.1 HBE.1).1;omega
 have hb0:¬(b':Int)<0:=af
 obtain⟨b,o,y,rfl,hbl,hy,hat⟩:=cA (HR.n.below HB.out) hb1;rw[HBE.1] at hy;obtain rfl:=Fo hy;obtain⟨va,vl,vc,hvr,z0,z1,c0,c1,c2,c3,c4,c5,c6⟩:=aZ hat;have HNZ:=aa z0;clear hat hvr z0 z1 hy c1 c2 c3 c4 c5 c6;obtain⟨k0,k1,k2,k3,k4,k5⟩:=cs6 Bk;have ltk_1:=ae Bk.out;go_wp2_with fail;refine (mX ⟨(some ⟨b,o,none⟩),l1,y1,a2,l2,y2,a3,l3,y3,a4,l4,y4,a5,l5,y5⟩ c (pl Pd.n c.ps t) b' x n _ (HR.below HB.out) HT.out HX.1 HBE.1).mono ?_;rintro e w2 ⟨d',c',e0,rfl,hA,hfr,hb⟩;have HC2:=aa ((ak hb hbl).trans c0);have hbl2:=FC hbl hb.size;clear c0;clear k0 k1 k2 k3 k4 k5 ltk_1;replace Bk:=upK Bk hb;replace Br:=upK Br hb;replace HB:=upB HB hb;clear hb;have hs:dh c (pl Pd.n c.ps t) x n c' e0:=hA.elim (fun h=>absurd HX.2.2 h.1) (fun h=>h.2);have he:e0=0:=by obtain⟨c2,h2⟩:=HBE.2.1;exact (hs.same HT.out (HT.2.1.1.2.1 _ _ HBE.1).2.1 h2).1
 subst he;have HFR:=aa (hfr rfl);have HIS:Hid (dE c t ⟨c',n.n,0⟩):=.inr ⟨HLL.out,HT.out,x,b',n,c',HX.1,HX.2.1,HX.2.2,HBE.out,hs,rfl⟩;clear hA hfr hs;obtain⟨k0,k1,k2,k3,k4,k5⟩:=cs6 Bk;have ltk_2:=ae Bk.out;go_wp2_with fail;have c2:=HC2.out;obtain⟨r0,r1,r2,r3,r4,r5,r6,r7⟩:=cs8 Br;have ltr_2:=ae Br.out;obtain⟨fr0,fr1,fr2,fr3,fr4,fr5⟩:=gI;have fr6:=av Br.out 6;have fr7:=av Br.out 7;go_region;go_wp2;exact bodyPost_ret (v:=.agg #[.slice d'.a1 d'.l1 d'.c1,.slice d'.a2 d'.l2 d'.c2,.slice d'.a3 d'.l3 d'.c3,.slice d'.a4 d'.l4 d'.c4,.slice d'.a5 d'.l5 d'.c5,.int .i64 c'.now,.string n.n,.int .i64 0]) (by simp[results,Tryz.results14,go_sem, *]) rfl ⟨d',⟨c',n.n,0⟩,rfl,HIS.out,((ew.gQ HFR.out Br.out (fun k hk=>((heap_setCell_other _ _ _ _ hk).trans ((heap_setCell_other _ _ _ _ hk).trans ((heap_setCell_other _ _ _ _ hk).trans ((heap_setCell_other _ _ _ _ hk).trans ((heap_setCell_other _ _ _ _ hk).trans ((heap_setCell_other _ _ _ _ hk).trans ((heap_setCell_other _ _ _ _ hk).trans (heap_setCell_other _ _ _ _ hk)))))))))).below (Below.eD (al _ _))).row,zR (sb1 (sb1 (sb1 (sb1 (sb1 (sb1 (sb1 (sb1 (HB.out)))))))))⟩

end Rc
end Go.Proofs.YtpejepeekdjfoaaGreatDoor

namespace Go.Proofs.YtpejepeekdjfoaaGreatDoor
open Go.RowKit Rc Mk

def ep (c:Cl):Fact:=fun v w=> ∃d:Ad,v=.agg #[.slice d.a1 d.l1 d.c1,.slice d.a2 d.l2 d.c2,.slice d.a3 d.l3 d.c3,.slice d.a4 d.l4 d.c4,.slice d.a5 d.l5 d.c5,.int .i64 c.now]/\aJ w d c.raw
theorem ep.mono (c:Cl):Fact.bD (ep c):=by
 exact qj

set_option linter.unusedVariables false in
theorem kG (d:Ad) (c:Cl) (t:ByteArray) (E:Nat->Addr) (w:World) (hr:aJ w d c.raw) (ht:t.size<=maxLen) (hG:Ers w E):
  Calls Tryz.prog 4 #[.agg #[.slice d.a1 d.l1 d.c1,.slice d.a2 d.l2 d.c2,.slice d.a3 d.l3 d.c3,.slice d.a4 d.l4 d.c4,.slice d.a5 d.l5 d.c5,.int .i64 c.now],.string t] w fun e w'=>e=.returned (.bool true)/\Below w.heap.size w w':=by
 obtain⟨HR,HE,HB⟩:=k7;clear hr hG;by_cases hlongt:1048576<t.size
 ·go_enter Tryz.func4,Tryz.ntmps4;go_wp2;go_ret;exact⟨rfl,al _ _⟩
 go_enter Tryz.func4,Tryz.ntmps4;go_wp2_with fail;refine (kD d c _ (HR.below (HB.trans ((al _ _).mono HB.size)))).mono ?_;rintro e w1 ⟨r,rfl,hi,hb⟩;obtain⟨HA0,hbx⟩:=aL hb;have Bk:=aa HA0;replace HB:=upB HB hbx;clear hb hbx HA0;rcases hi with rfl|⟨hr0,-,hft⟩
 ·obtain⟨k0,k1,k2,k3,k4,k5⟩:=cs6 Bk;go_wp2;go_ret;exact⟨rfl,HB.out⟩
 have HF:=aa hft;clear hft;obtain⟨k0,k1,k2,k3,k4,k5⟩:=cs6 Bk;go_wp2_with fail;refine (dA d c _ (HR.below HB.out) HF.out).mono ?_;rintro e w2 ⟨d1,rfl,ho,hb⟩;clear k0 k1 k2 k3 k4 k5;replace Bk:=upK Bk hb;replace HB:=upB HB hb;clear hb;have HO:=aa ho.row;clear ho;go_wp2_with fail;refine (py d1 c t _ HO.out).mono ?_;rintro e w3 ⟨dg0,o,rfl,hI,ho,hb⟩;have R0:=aa ho;have HIS:=aa hI;clear ho hI HO;replace Bk:=upK Bk hb;replace HB:=upB HB hb;clear hb;have HY:=aa (Bw.refl w3);have HQ3:=aa (show w.heap.size<w3.heap.size from ae Bk.out);obtain⟨k0,k1,k2,k3,k4,k5⟩:=cs6 Bk;have ltk_3:=ae Bk.out;go_wp2_with fail;refine (dA d c _ (HR.below (HB.trans ((al _ _).mono HB.size))) HF.out).mono ?_;rintro e w4 ⟨d2,rfl,ho,hb⟩;clear k0 k1 k2 k3 k4 k5 ltk_3;obtain⟨HA0,hbx⟩:=aL hb;replace Bk:=upK Bk hbx;have Ba:=aa HA0;replace HY:=aa (HY.below hbx);replace HB:=upB HB hbx;clear hb hbx HA0;have HQ4:Hid (w3.heap.size+1<=w4.heap.size):=by have:=HY.le;have:=ae Ba.out;show w3.heap.size+1<=_;omega
 have HO2:=aa (ho.bA (S':=fun k=>w3.heap.size+1<=k/\k<w4.heap.size) (fun k hk s=>⟨(show w3.heap.size+1<=k by simpa using s),hk⟩));clear ho;obtain⟨k0,k1,k2,k3,k4,k5⟩:=cs6 Bk;obtain⟨a0,a1,a2,a3,a4,a5,a6,a7⟩:=cs8 Ba;go_wp2_with fail;have HOX:=aa (HO2.below (al w4 (.cells (clv d2 c.now) 36)));refine (ke d2 c t E _ HOX.row (HE.below (HB.trans ((al _ _).mono HB.size)))).mono ?_;rintro e w5 ⟨dg1,o1,rfl,hI,ho,hb⟩;clear HOX;obtain rfl:=HIS.same hI;clear hI;clear k0 k1 k2 k3 k4 k5 a0 a1 a2 a3 a4 a5 a6 a7;obtain⟨HA0,hbx⟩:=aL hb;replace Bk:=upK Bk hbx;replace Ba:=upK Ba hbx;have Bx:=aa HA0;replace HY:=aa (HY.below hbx);replace HO2:=aa (HO2.below hbx);replace HB:=upB HB hbx;clear hb hbx HA0;have HQ5:Hid (w4.heap.size<w5.heap.size):=ae Bx.out;have HO1:=aa (ho.bA (S':=fun k=>w4.heap.size+1<=k/\k<w5.heap.size) (fun k hk s=>⟨(show w4.heap.size+1<=k by simpa using s),hk⟩));clear ho;have hlz:dO 1 o.c.raw<=1152921504606846976:=HIS.marks;have HH:=aa (fun (W:World) (hr:aJ W dg1 (mkC 1 o.c.raw))=>mx dg1 o 1 W hr aj hlz);obtain⟨M,hM⟩:∃M:Int,M=dO 1 o.c.raw:=⟨_,rfl⟩;have hM0:(0:Int)<M:=by rw[hM];have:=mi 1 o.c.raw;omega
 rw[<-hM] at HH;have HMM:=aa hM;clear hM;obtain⟨k0,k1,k2,k3,k4,k5⟩:=cs6 Bk;obtain⟨a0,a1,a2,a3,a4,a5,a6,a7⟩:=cs8 Ba;have lta_5:=ae Ba.out;obtain⟨x0,x1,x2,x3,x4,x5⟩:=cs6 Bx;go_wp2_with fail;refine (gj dg1 dg0 o _ (HO1.row.below (al _ _)) (R0.below (HY.below (al _ _)).out)).mono ?_;rintro e w6 ⟨rfl,hb⟩;clear k0 k1 k2 k3 k4 k5 a0 a1 a2 a3 a4 a5 a6 a7 lta_5 x0 x1 x2 x3 x4 x5;obtain⟨HA0,hbx⟩:=aL hb;replace Bk:=upK Bk hbx;replace Ba:=upK Ba hbx;replace Bx:=upK Bx hbx;have Bg:=aa HA0;replace HY:=aa (HY.below hbx);replace HO2:=aa (HO2.below hbx);replace HO1:=aa (HO1.below hbx);replace HB:=upB HB hbx;clear hb hbx HA0;obtain⟨W,hW0⟩:∃W,W=w6:=⟨_,rfl⟩;rw[<-hW0] at HB HY HO2 HO1 Bk Ba Bx Bg;go_wp2_with fail;rw[<-hW0];clear hW0;rename_i K0 hK0;refine bo (back:=none) ar (GC _).symm ar ?_;refine' au.an _ rfl ?_ ?_;rotate_left 1
 ·refine Obl.plain rfl ?_;intro ac wg K hsz hW hf hK;clear hsz;have e7:=hf 7 aj;simp[ai,Fp] at e7;clear hf;obtain⟨k0,k1,k2,k3,k4,k5⟩:=cs6 ((hW.block _ (ae Bx.out)).trans Bx.out);exact aT
 refine' au.an _ rfl ?_ ?_;rotate_left 1
 ·exact vU
 refine au.step (ep c) rfl (ep.mono c) ?_ ?_
 ·refine Obl.plain rfl ?_;intro ac wg K hsz hW hf hK;clear hsz;have e35:=hf 35 aj;simp[ai,Fp] at e35;clear hf;go_simp;refine (dA d c _ (HR.below (HB.trans (hW.mono HB.size))) HF.out).mono ?_;rintro e w6 ⟨d3,rfl,ho,hb6⟩;exact hK _ _ hb6 ⟨d3,rfl,ho.row⟩
 refine' au.an (.bool true) rfl ?_ ?_
 ·refine Obl.plain rfl ?_;intro ac wg K hsz hW hf hK;clear hsz;have e34:=hf 34 aj;simp[ai,Fp] at e34;have e36:=hf 36 aj;simp[ai,Fp] at e36;obtain⟨d3,e36,hrow⟩:=e36;clear hf;go_simp;refine (fW d2 d3 c _ (HO2.row.below hW) hrow).mono ?_;rintro e w6 ⟨rfl,hb6⟩;exact hK _ _ hb6 rfl
 refine' au.an _ rfl ?_ ?_;rotate_left 1
 ·exact xb
 refine au.done ?_;intro q wz hW hf;simp only[FJ] at hf;obtain⟨h38,-⟩:=hf;have hb:=hW;refine hK0 _ _ ?_;simp only[aE,Ge,GL,Fy,FF,FM,h38];clear hK0;replace Bk:=upK Bk hb;replace Ba:=upK Ba hb;replace Bx:=upK Bx hb;replace Bg:=upK Bg hb;replace HY:=aa (HY.below hb);replace HO2:=aa (HO2.below hb);replace HO1:=aa (HO1.below hb);replace HB:=upB HB hb;clear hb;clear hW;obtain⟨rk,hrk⟩:∃r:Int,r=dO 1 c.raw:=⟨_,rfl⟩;have hrk0:decide (rk<0)=false:=by rw[decide_eq_false_iff_not,hrk];have:=mi 1 c.raw;omega
 obtain⟨k0,k1,k2,k3,k4,k5⟩:=cs6 Bk;obtain⟨a0,a1,a2,a3,a4,a5,a6,a7⟩:=cs8 Ba;obtain⟨x0,x1,x2,x3,x4,x5⟩:=cs6 Bx;obtain⟨g0,g1,g2,g3,g4,g5,g6,g7⟩:=cs8 Bg;have ltg_7:=ae Bg.out;go_wp2_with fail;refine (eV d2 c 1 _ wz HO2.out (fun k s=>by have s2:=s.2;have q9:=HY.le;have q8:=ae Bx.out;have q3:=HQ3.out;have q4:=HQ4.out;have q5:=HQ5.out;omega) aj HF.marks).mono ?_;rintro e w8 ⟨rfl,ho,hk⟩;clear k0 k1 k2 k3 k4 k5 a0 a1 a2 a3 a4 a5 a6 a7 x0 x1 x2 x3 x4 x5 g0 g1 g2 g3 g4 g5 g6 g7 ltg_7;obtain⟨Ck,Ca,Cx,Cg⟩:=Cc;have HB8:=aa (HB.trans (hk.low (X:=w.heap.size) HB.size (fun k s=>by have s1:=s.1;have q3:=HQ3.out;have q4:=HQ4.out;have q5:=HQ5.out;omega)));have CHY:=aa (HY.kept hk (fun k s=>by have s1:=s.1;have q3:=HQ3.out;have q4:=HQ4.out;have q5:=HQ5.out;omega));have CHO1:=aa (HO1.kept hk (fun k s s'=>by have s1:=s.1;have s2:=s.2;have t1:=s'.1;have t2:=s'.2;have q3:=HQ3.out;have q4:=HQ4.out;have q5:=HQ5.out;omega));clear HB HY hk HO2 HO1 Bk Ba Bx Bg;have HB:=HB8;clear HB8;have HY:=CHY;clear CHY;have HO1:=CHO1;clear CHO1;have Bk:=Ck;clear Ck;have Ba:=Ca;clear Ca;have Bx:=Cx;clear Cx;have Bg:=Cg;clear Cg;clear ho;rw[<-hrk];clear hrk;obtain⟨k0,k1,k2,k3,k4,k5⟩:=cs6 Bk;obtain⟨a0,a1,a2,a3,a4,a5,a6,a7⟩:=cs8 Ba;obtain⟨x0,x1,x2,x3,x4,x5⟩:=cs6 Bx;obtain⟨g0,g1,g2,g3,g4,g5,g6,g7⟩:=cs8 Bg;go_wp2_with fail;refine (gj dg1 dg0 o _ (HO1.row) (R0.below HY.out)).mono ?_;rintro e w9 ⟨rfl,hb⟩;clear k0 k1 k2 k3 k4 k5 a0 a1 a2 a3 a4 a5 a6 a7 x0 x1 x2 x3 x4 x5 g0 g1 g2 g3 g4 g5 g6 g7;replace Bk:=upK Bk hb;replace Ba:=upK Ba hb;replace Bx:=upK Bx hb;replace Bg:=upK Bg hb;replace HY:=aa (HY.below hb);replace HO1:=aa (HO1.below hb);replace HB:=upB HB hb;clear hb;clear hrk0;obtain⟨k0,k1,k2,k3,k4,k5⟩:=cs6 Bk;obtain⟨a0,a1,a2,a3,a4,a5,a6,a7⟩:=cs8 Ba;obtain⟨x0,x1,x2,x3,x4,x5⟩:=cs6 Bx;obtain⟨g0,g1,g2,g3,g4,g5,g6,g7⟩:=cs8 Bg;have ltg_9:=ae Bg.out;go_wp2_with fail;refine (mj dg1 o 1 _ _ HO1.out (fun k s=>by have s2:=s.2;have q9:=HB.size;have q8:=HY.le;have q7:=ae Bg.out;have q3:=HQ3.out;have q4:=HQ4.out;have q5:=HQ5.out; omega) aj hlz).mono ?_;rintro e w10 ⟨rfl,ho,hk⟩;clear k0 k1 k2 k3 k4 k5 a0 a1 a2 a3 a4 a5 a6 a7 x0 x1 x2 x3 x4 x5 g0 g1 g2 g3 g4 g5 g6 g7 ltg_9;obtain⟨Ck,Ca,Cx,Cg⟩:=Cc;have HB10:=aa (HB.trans (hk.low (X:=w.heap.size) HB.size (fun k s=>by have s1:=s.1;have q3:=HQ3.out;have q4:=HQ4.out;have q5:=HQ5.out;omega)));have CHY:=aa (HY.kept hk (fun k s=>by have s1:=s.1;have q3:=HQ3.out;have q4:=HQ4.out;have q5:=HQ5.out;omega));clear HB HY hk HO1 Bk Ba Bx Bg;have HB:=HB10;clear HB10;have HY:=CHY;clear CHY;have Bk:=Ck;clear Ck;have Ba:=Ca;clear Ca;have Bx:=Cx;clear Cx;have Bg:=Cg;clear Cg;have HM1:=aa ho;clear ho;rw[<-HMM.out];obtain⟨k0,k1,k2,k3,k4,k5⟩:=cs6 Bk;obtain⟨a0,a1,a2,a3,a4,a5,a6,a7⟩:=cs8 Ba;obtain⟨x0,x1,x2,x3,x4,x5⟩:=cs6 Bx;obtain⟨g0,g1,g2,g3,g4,g5,g6,g7⟩:=cs8 Bg
 go_wp2_with fail;refine (HH.out _ HM1.row).mono ?_;rintro e w11 ⟨rfl,hb⟩;clear k0 k1 k2 k3 k4 k5 a0 a1 a2 a3 a4 a5 a6 a7 x0 x1 x2 x3 x4 x5 g0 g1 g2 g3 g4 g5 g6 g7;replace Bk:=upK Bk hb;replace Ba:=upK Ba hb;replace Bx:=upK Bx hb;replace Bg:=upK Bg hb;replace HY:=aa (HY.below hb);replace HM1:=aa (HM1.below hb);replace HB:=upB HB hb;clear hb;obtain⟨k0,k1,k2,k3,k4,k5⟩:=cs6 Bk;go_wp2_with fail;refine (dA d c _ (HR.below HB.out) HF.out).mono ?_;rintro e w12 ⟨d4,rfl,ho,hb⟩;clear k0 k1 k2 k3 k4 k5;replace Bk:=upK Bk hb;replace Ba:=upK Ba hb;replace Bx:=upK Bx hb;replace Bg:=upK Bg hb;replace HY:=aa (HY.below hb);replace HM1:=aa (HM1.below hb);replace HB:=upB HB hb;clear hb;have HO:=aa ho.row;clear ho;go_wp2_with fail;refine (ke d4 c t E _ HO.out (HE.below HB.out)).mono ?_;rintro e w13 ⟨dg2,o2,rfl,hI,ho,hb⟩;obtain rfl:=HIS.same hI;clear hI HO;have HR2:=aa ho.row;clear ho;replace Bk:=upK Bk hb;replace Ba:=upK Ba hb;replace Bx:=upK Bx hb;replace Bg:=upK Bg hb;replace HY:=aa (HY.below hb);replace HM1:=aa (HM1.below hb);replace HB:=upB HB hb;clear hb;obtain⟨k0,k1,k2,k3,k4,k5⟩:=cs6 Bk;obtain⟨a0,a1,a2,a3,a4,a5,a6,a7⟩:=cs8 Ba;have lta_13:=ae Ba.out;obtain⟨x0,x1,x2,x3,x4,x5⟩:=cs6 Bx;obtain⟨g0,g1,g2,g3,g4,g5,g6,g7⟩:=cs8 Bg;go_wp2_with fail;refine (gj dg2 dg0 o _ (HR2.below (al _ _)) (R0.below (HY.below (al _ _)).out)).mono ?_;rintro e w14 ⟨rfl,hb⟩;clear k0 k1 k2 k3 k4 k5 a0 a1 a2 a3 a4 a5 a6 a7 lta_13 x0 x1 x2 x3 x4 x5 g0 g1 g2 g3 g4 g5 g6 g7;obtain⟨HA0,hbx⟩:=aL hb;replace Bk:=upK Bk hbx;replace Ba:=upK Ba hbx;replace Bx:=upK Bx hbx;replace Bg:=upK Bg hbx;have Bh:=aa HA0;replace HY:=aa (HY.below hbx);replace HM1:=aa (HM1.below hbx);replace HB:=upB HB hbx;clear hb hbx HA0;obtain⟨k0,k1,k2,k3,k4,k5⟩:=cs6 Bk;obtain⟨g0,g1,g2,g3,g4,g5,g6,g7⟩:=cs8 Bg;go_wp2_with fail;refine (HH.out _ HM1.row).mono ?_;rintro e w15 ⟨rfl,hb⟩;clear k0 k1 k2 k3 k4 k5 g0 g1 g2 g3 g4 g5 g6 g7;replace Bk:=upK Bk hb;replace Ba:=upK Ba hb;replace Bx:=upK Bx hb;replace Bg:=upK Bg hb;replace Bh:=upK Bh hb;replace HY:=aa (HY.below hb);replace HM1:=aa (HM1.below hb);replace HB:=upB HB hb;clear hb;go_wp2_with fail;go_ret;exact⟨rfl,HB.out⟩

set_option linter.unusedVariables false in
theorem fi (a1:Option Addr) (l1 y1:Nat) (ns:List Nd) (a2:Option Addr) (l2 y2:Nat) (ks:List Kd) (a3:Option Addr) (l3 y3:Nat) (vs:List Vd) (a4:Option Addr) (l4 y4:Nat) (xs:List Xd) (a5:Option Addr) (l5 y5:Nat) (ps:List Pd) (now:Int) (t:ByteArray) (w:World)
  (h1:aN w a1 l1 y1 7 (ns.map ndF)) (h2:aN w a2 l2 y2 4 (ks.map kdF)) (h3:aN w a3 l3 y3 8 (vs.map vdF)) (h4:aN w a4 l4 y4 5 (xs.map xdF)) (h5:aN w a5 l5 y5 6 (ps.map pdF)) (_:(Lit.int .i64 now).wf=true) (ht:t.size<=maxLen) (hG:∃E,Ers w E):
  Calls Tryz.prog 4 #[.agg #[.slice a1 l1 y1,.slice a2 l2 y2,.slice a3 l3 y3,.slice a4 l4 y4,.slice a5 l5 y5,.int .i64 now],.string t] w fun e w'=>e=.returned (.bool true)/\Below w.heap.size w w':=
 by obtain⟨E,hG⟩:=hG;exact kG ⟨a1,l1,y1,a2,l2,y2,a3,l3,y3,a4,l4,y4,a5,l5,y5⟩ ⟨ns,ks,vs,xs,ps,now⟩ t E w ⟨h1,h2,h3,h4,h5⟩ ht hG

end Go.Proofs.YtpejepeekdjfoaaGreatDoor

namespace Go.Proofs.YtpejepeekdjfoaaGreatDoor
open Go.RowKit
namespace Rc

theorem mK: "*" ++ "errors.errorString" = "*errors.errorString":=by decide
theorem EL (u:TypeId) (h:Tryz.prog.typeName? 3 u=some "*errors.errorString"):u=266:=
 typeName_ptr_named (nm:= "errors.errorString") (by rw[mK];kernel_rfl) ar aj u (by rw[mK];exact h)

theorem re {P:Program} {W:World} {nm:String} {ti tp te ts:TypeId} {ms:Array (String×TypeId)} {f:Field} (hi:P.underlying ti=some (.interface ms)) (hrow:∀u,P.typeName? 3 u=some nm->u=tp)
  (hp:P.underlying tp=some (.pointer te)) (he:P.underlying te=some (.struct #[f])) (hft:f.type=ts) (hfo:f.offset=0) (hs:P.underlying ts=some .string) (hc:P.cellsOf te=1) (hcs:P.cellsOf ts=1):
  ∀(l:List (String×List UInt8)) (ps:List MemPlace),(∀x∈l,∃g,P.globalNamed x.1=some g/\(P.globals[g]?).map (·.type)=some ti)->
   DataW.LaidVars P W (l.map fun x=>(x.1,.iface nm (.ptr (.agg [.lit (.string x.2)])))) ps->ps.Nodup->
   (∀b off,MemPlace.cell b off∈ps->(∃c t,W.heap[b]?=some (.cells c t (0,0)))/\∀u v,W.cell? ⟨b,off,none⟩=some (.iface u v)->Value.okWide P W .any 0 u v)->
   ∃E:Nat->Addr,(∀(i:Nat) x,l[i]?=some x->W.var? P x.1=some #[.iface tp (.pointer (some (E i)))]/\MemPlace.cell (E i).block (E i).off∈ps)/\∀i j,i<l.length->j<l.length->E i=E j->i=j
 | [],ps,_,_,_,_=>⟨fun _=>⟨0,0,none⟩,fun i x h=>by simp at h,fun i j h=>by simp at h⟩
 | x ::l,ps,hT,hv,hnd,hrows=>by
  obtain⟨g,t,cs,fuel,p,q,hg,ht,hvar,hd,hq,rfl⟩:=hv;obtain⟨g',hg',ht'⟩:=hT x aR;obtain rfl:=Fo (hg.symm.trans hg');obtain rfl:=Fo (ht.symm.trans ht');have hsub:∀{y},y∈q->y∈MemPlace.row ⟨g,0,none⟩ cs.size++p++q:=fun h=>Ic _ h;obtain⟨E,hE1,hE2⟩:=re hi hrow hp he hft hfo hs hc hcs l q (fun y hy=>hT y (by simp[hy])) hq (List.Nodup.sublist (List.sublist_append_right _ _) hnd) (fun b off hm=>hrows b off (hsub hm));obtain⟨l0⟩:=cs;have ok0:∀u v,l0=[.iface u v]->Value.okWide P W .any 0 u v:=fun u v e=>by
   subst e;exact (hrows g 0 (by simp[MemPlace.row])).2 u v (by simpa using World.var?_cell hg hvar 0)
  obtain⟨a0,s0,rfl,hc0,hs0,hz0,rfl⟩:=errorString_of_trod hi hrow hp he hft hfo hs hc hcs hd ok0;have ha:MemPlace.cell a0.block a0.off∈MemPlace.row a0 1:=by simp[MemPlace.row]
  have hdis:∀i,i<l.length->¬E i=a0:=fun i hi' e=>by
   have h1:=(hE1 i _ (Fs hi')).2;rw[e] at h1;have h2:=(List.nodup_append.1 hnd).2.2 _ (Ic _ ha) _ h1;exact h2 rfl
  refine⟨fun i=>match i with|0=>a0|i+1=>E i,fun i y hy=>?_,fun i j hi' hj' e=>?_⟩
  ·cases i with
   | zero=>
    obtain rfl:x=y:=by simpa using hy
    exact⟨hvar,List.mem_append_left _ (Ic _ ha)⟩
   | succ i=>
    obtain⟨h1,h2⟩:=hE1 i y (by simpa using hy);exact⟨h1,hsub h2⟩
  ·cases i with
   | zero=>cases j with
    | zero=>rfl
    | succ j=>exact absurd e.symm (hdis j (by simpa using hj'))
   | succ i=>cases j with
    | zero=>exact absurd e (hdis i (by simpa using hi'))
    | succ j=>rw[hE2 i j (by simpa using hi') (by simpa using hj') e]

theorem mN {H:Type} {enc:TypeId×Value->H} {P:Program} {w:World} {sp:Nat->Bool} :∀(ns:List String) (gs:List (DataW H)) (ps:List MemPlace),DataW.TrodVars enc P w sp ns gs ps->gs.length=ns.length
 | [],[],_,_=>rfl
 | [],_ ::_,_,h=>h.elim
 | _ ::_,[],_,h=>h.elim
 | _ ::ns,_ ::gs,_,h=>by
  obtain⟨_,_,_,_,_,q,_,_,_,_,h1,_⟩:=h;simp[mN ns gs q h1]
theorem Fi {α:Type} :∀{l:List α},l.length=10->∃a b c d e f g h i j,l=[a,b,c,d,e,f,g,h,i,j]
 | [a,b,c,d,e,f,g,h,i,j],_=>⟨a,b,c,d,e,f,g,h,i,j,rfl⟩

end Rc
end Go.Proofs.YtpejepeekdjfoaaGreatDoor

namespace Go.Proofs.YtpejepeekdjfoaaGreatDoor
open Go.RowKit Go.ChangeShapes Go.WideShapes Go.Deep

theorem Eg {α:Type} {l:List α} (h:l.length=6):∃x0 x1 x2 x3 x4 x5,l=[x0,x1,x2,x3,x4,x5]:=by
 match l,h with
 | [x0,x1,x2,x3,x4,x5],_=>exact⟨_,_,_,_,_,_,rfl⟩
section
variable {H:Type} {enc:TypeId×Value->H} {P:Program} {w:World} {base:Nat} {spare:Nat->Bool} {held:Bool}

theorem tm {r:Reach} {b0:Nat} {t:TypeId} {fs:Array Field} {v:Value} {d:DataW H} {p:List MemPlace} (hs:P.underlying t=some (.struct fs)) (hone:oneCellFields P fs=true) (hC:P.cellsOf t=fs.size)
  (hv:Value.okWide P w r b0 t v) (h:DataW.Trod enc P w base spare held t v d p):
  ∃(cs:List Value) (n:Nat),v=.agg cs.toArray/\cs.length=fs.size/\∀(i:Nat) (f:Field),fs[i]?=some f->∃c y,cs[i]?=some c/\Hs enc P w base spare held n f.type [c]=some y:=by
 obtain⟨cs,rfl,hsz⟩:=okWide_struct hs hv;obtain⟨fuel,hf⟩:=h;obtain⟨xs,n,_,hx,hl,hlen,hf'⟩:=DataW.trod_struct hs hf;refine⟨cs.toList,n,rfl,by rw[GU];exact hsz.trans hC,fun i f hi=>?_⟩;obtain⟨o,k⟩:=hone_of hone i f hi;have hlt:i<fs.size:=(FE.1 hi).1;have hlc:i<cs.toList.length:=by rw[GU,hsz,hC];exact hlt
 have g:=hf' i f hi;rw[o,k] at g;have e:((Value.agg cs).cells.toList.drop i).take 1=[cs.toList[i]'hlc]:=by
  show (cs.toList.drop i).take 1=_;rw[GY hlc];rfl
 exact xI

theorem fc {t e:TypeId} {n:Nat} {c:Value} {y:DataW H×List MemPlace} (ht:P.underlying t=some (.slice e)) (he:P.underlying e=some .string) (hc:P.cellsOf e=1)
  (h:Hs enc P w base spare held n t [c]=some y):∃a len cap zs,c=.slice a len cap/\ay w a len cap zs:=by
 rcases open_strs ht he hc h with ⟨hcs,_⟩|⟨a,len,cap,m,Sx,hcs,hb,hl,hm,hmm,_,hx⟩
 ·exact⟨none,0,0,[],by simpa using hcs,rfl,Fq _,by omega,fun j x hx=>by simp at hx,Or.inl rfl⟩
 ·obtain⟨hlm,hm'⟩:=k8;refine⟨some a,len,cap,(Gq len).map Sx,by simpa using hcs,by simp,hl,hm',fun j x hj=>?_,?_⟩
  ·rw[FA] at hj;by_cases hjl:j<len
   ·rw[Hx hjl] at hj;obtain rfl:=Fo hj;have:=(hx j af).2;unfold maxLen at this;omega
   ·exact vC
  ·by_cases h0:len=0
   ·subst h0;exact Or.inl rfl
   right;obtain⟨b,o,spot⟩:=a;have h0':=(hx 0 af).1;have hspot:spot=none:=by simpa[Addr.add] using World.cell?_spot h0'
   subst hspot;refine⟨b,o,rfl,?_,fun j x hj=>?_⟩
   ·rw[FQ] at h0';rcases Nat.lt_or_ge b w.heap.size with h1|h1
    ·exact h1
    ·simp[Hc,Hy h1] at h0'
   ·rw[FA] at hj;by_cases hjl:j<len
    ·rw[Hx hjl] at hj;obtain rfl:=Fo hj;have:=(hx j af).1;rw[FQ] at this;exact this
    ·exact vC
end

section
variable {H:Type} {enc:TypeId×Value->H} {w:World} {base:Nat} {spare:Nat->Bool} {held:Bool}

theorem ez {P:Program} {n:Nat} {t:TypeId} {fs:Array Field} {cs:List Value} {x:DataW H×List MemPlace} (hs:P.underlying t=some (.struct fs)) (hone:oneCellFields P fs=true) (hC:P.cellsOf t=fs.size)
  (h:Hs enc P w base spare held n t cs=some x):
  ∃(n:Nat),cs.length=fs.size/\∀(i:Nat) (f:Field),fs[i]?=some f->∃c y,cs[i]?=some c/\Hs enc P w base spare held n f.type [c]=some y:=by
 obtain⟨xs,n,_,hx,hl,hlen,hf'⟩:=DataW.trod_struct hs h;refine⟨n,hl.trans hC,fun i f hi=>?_⟩;obtain⟨o,k⟩:=hone_of hone i f hi;have hlt:i<fs.size:=(FE.1 hi).1;have hlc:i<cs.length:=by rw[hl,hC];exact hlt
 have g:=hf' i f hi;rw[o,k] at g;have e:(cs.drop i).take 1=[cs[i]'hlc]:=by
  rw[GY hlc];rfl
 exact xI

end

end Go.Proofs.YtpejepeekdjfoaaGreatDoor

namespace Go.Proofs.YtpejepeekdjfoaaGreatDoor
open Go.RowKit Go.ChangeShapes Go.WideShapes Go.Deep
namespace Rc

section
variable {H:Type} {enc:TypeId×Value->H} {w:World} {base:Nat} {spare:Nat->Bool} {held:Bool}

theorem qS {b o n:Nat} {cs:List Value} {x:DataW H×List MemPlace} (hc:∀i,i<7->w.cell? ⟨b,o+i,none⟩=cs[i]?) (h:Hs enc Tryz.prog w base spare held n 85 cs=some x):∃v:Nd,RAt w b o (ndF v):=by
 obtain⟨m,hl,hf⟩:=ez Tryz.underlying85 ar ar h;obtain⟨c0,y0,e0,t0⟩:=hf 0 _ rfl;obtain⟨b0,q0,-,s0⟩:=GI Tryz.underlying9 t0;obtain rfl:c0=.string b0:=by simpa using q0
 obtain⟨c1,y1,e1,t1⟩:=hf 1 _ rfl;obtain⟨b1,q1,-,s1⟩:=GI Tryz.underlying9 t1;obtain rfl:c1=.string b1:=by simpa using q1
 obtain⟨c2,y2,e2,t2⟩:=hf 2 _ rfl;obtain⟨b2,q2,-,s2⟩:=Iw Tryz.underlying2 t2;obtain rfl:c2=.int .i64 b2:=by simpa using q2
 obtain⟨c3,y3,e3,t3⟩:=hf 3 _ rfl;obtain⟨b3,q3,-,s3⟩:=Iw Tryz.underlying2 t3;obtain rfl:c3=.int .i64 b3:=by simpa using q3
 obtain⟨c4,y4,e4,t4⟩:=hf 4 _ rfl;obtain⟨b4,q4,-,s4⟩:=Iw Tryz.underlying2 t4;obtain rfl:c4=.int .i64 b4:=by simpa using q4
 obtain⟨c5,y5,e5,t5⟩:=hf 5 _ rfl;obtain⟨b5,q5,-⟩:=ID Tryz.underlying4 t5;obtain rfl:c5=.bool b5:=by simpa using q5
 obtain⟨c6,y6,e6,t6⟩:=hf 6 _ rfl;obtain⟨b6,l6,p6,zz,rfl,r6⟩:=fc Tryz.underlying55 Tryz.underlying9 ar t6;unfold maxLen at s0 s1;refine⟨⟨b0,b1,b2,b3,b4,b5,zz⟩,fun i f hi=>?_⟩;rcases i with _|_|_|_|_|_|_|i
 ·exact j0
 ·cases hi;exact⟨_,(hc 1 af).trans e1,rfl,show b1.size<=_ by omega⟩
 ·cases hi;exact⟨_,(hc 2 af).trans e2,rfl⟩
 ·cases hi;exact⟨_,(hc 3 af).trans e3,rfl⟩
 ·cases hi;exact⟨_,(hc 4 af).trans e4,rfl⟩
 ·cases hi;exact⟨_,(hc 5 af).trans e5,rfl⟩
 ·cases hi;exact⟨_,(hc 6 af).trans e6,b6,l6,p6,rfl,r6⟩
 ·first|(cases hi;done)|(simp[ndF] at hi;done)

theorem Af {n:Nat} {c:Value} {y:DataW H×List MemPlace} (h:Hs enc Tryz.prog w base spare held n 22 [c]=some y):∃a len cap,∃xs:List Nd,c=.slice a len cap/\aN w a len cap 7 (xs.map ndF):=by
 rcases open_slice Tryz.underlying22 h with ⟨hcs,_⟩|⟨a,len,cap,m,n',D,Pl,hcs,hb,hl,hm,hmm,_,hx⟩
 ·exact jP
 obtain⟨hlm,hm'⟩:=k8;have hce:Tryz.prog.cellsOf 85=7:=ar
 rw[hce] at hx;by_cases h0:len=0
 ·exact jO
 obtain⟨b,o,spot⟩:=a;obtain⟨cs0,k1,k2⟩:=hx 0 af;have hspot:spot=none:=by
  exact jU
 subst hspot;have hblt:b<w.heap.size:=by
  exact jV
 have each:∀i,i<len->∃v:Nd,RAt w b (o+i*7) (ndF v):=fun i hi=>by
  obtain⟨cs,k1,k2⟩:=hx i af;obtain⟨_,hl0,hc0⟩:=Hu k1;refine qS (fun j hj=>?_) k2;exact jQ
 have hin:Inhabited Nd:=⟨⟨⟨#[]⟩,⟨#[]⟩,0,0,0,false,[]⟩⟩;exact oa

theorem rh {b o n:Nat} {cs:List Value} {x:DataW H×List MemPlace} (hc:∀i,i<4->w.cell? ⟨b,o+i,none⟩=cs[i]?) (h:Hs enc Tryz.prog w base spare held n 88 cs=some x):∃v:Kd,RAt w b o (kdF v):=by
 obtain⟨m,hl,hf⟩:=ez Tryz.underlying88 ar ar h;obtain⟨c0,y0,e0,t0⟩:=hf 0 _ rfl;obtain⟨b0,q0,-,s0⟩:=GI Tryz.underlying9 t0;obtain rfl:c0=.string b0:=by simpa using q0
 obtain⟨c1,y1,e1,t1⟩:=hf 1 _ rfl;obtain⟨b1,q1,-⟩:=ID Tryz.underlying4 t1;obtain rfl:c1=.bool b1:=by simpa using q1
 obtain⟨c2,y2,e2,t2⟩:=hf 2 _ rfl;obtain⟨b2,q2,-⟩:=ID Tryz.underlying4 t2;obtain rfl:c2=.bool b2:=by simpa using q2
 obtain⟨c3,y3,e3,t3⟩:=hf 3 _ rfl;obtain⟨b3,q3,-,s3⟩:=GI Tryz.underlying9 t3;obtain rfl:c3=.string b3:=by simpa using q3
 unfold maxLen at s0 s3;refine⟨⟨b0,b1,b2,b3⟩,fun i f hi=>?_⟩;rcases i with _|_|_|_|i
 ·exact j0
 ·cases hi;exact⟨_,(hc 1 af).trans e1,rfl⟩
 ·cases hi;exact⟨_,(hc 2 af).trans e2,rfl⟩
 ·cases hi;exact⟨_,(hc 3 af).trans e3,rfl,show b3.size<=_ by omega⟩
 ·first|(cases hi;done)|(simp[kdF] at hi;done)

theorem Ag {n:Nat} {c:Value} {y:DataW H×List MemPlace} (h:Hs enc Tryz.prog w base spare held n 23 [c]=some y):∃a len cap,∃xs:List Kd,c=.slice a len cap/\aN w a len cap 4 (xs.map kdF):=by
 rcases open_slice Tryz.underlying23 h with ⟨hcs,_⟩|⟨a,len,cap,m,n',D,Pl,hcs,hb,hl,hm,hmm,_,hx⟩
 ·exact jP
 obtain⟨hlm,hm'⟩:=k8;have hce:Tryz.prog.cellsOf 88=4:=ar
 rw[hce] at hx;by_cases h0:len=0
 ·exact jO
 obtain⟨b,o,spot⟩:=a;obtain⟨cs0,k1,k2⟩:=hx 0 af;have hspot:spot=none:=by
  exact jU
 subst hspot;have hblt:b<w.heap.size:=by
  exact jV
 have each:∀i,i<len->∃v:Kd,RAt w b (o+i*4) (kdF v):=fun i hi=>by
  obtain⟨cs,k1,k2⟩:=hx i af;obtain⟨_,hl0,hc0⟩:=Hu k1;refine rh (fun j hj=>?_) k2;exact jQ
 have hin:Inhabited Kd:=⟨⟨⟨#[]⟩,false,false,⟨#[]⟩⟩⟩;exact oa

theorem pg {b o n:Nat} {cs:List Value} {x:DataW H×List MemPlace} (hc:∀i,i<8->w.cell? ⟨b,o+i,none⟩=cs[i]?) (h:Hs enc Tryz.prog w base spare held n 91 cs=some x):∃v:Vd,RAt w b o (vdF v):=by
 obtain⟨m,hl,hf⟩:=ez Tryz.underlying91 ar ar h;obtain⟨c0,y0,e0,t0⟩:=hf 0 _ rfl;obtain⟨b0,q0,-,s0⟩:=GI Tryz.underlying9 t0;obtain rfl:c0=.string b0:=by simpa using q0
 obtain⟨c1,y1,e1,t1⟩:=hf 1 _ rfl;obtain⟨b1,q1,-,s1⟩:=Iw Tryz.underlying2 t1;obtain rfl:c1=.int .i64 b1:=by simpa using q1
 obtain⟨c2,y2,e2,t2⟩:=hf 2 _ rfl;obtain⟨b2,q2,-,s2⟩:=GI Tryz.underlying9 t2;obtain rfl:c2=.string b2:=by simpa using q2
 obtain⟨c3,y3,e3,t3⟩:=hf 3 _ rfl;obtain⟨b3,q3,-,s3⟩:=GI Tryz.underlying9 t3;obtain rfl:c3=.string b3:=by simpa using q3
 obtain⟨c4,y4,e4,t4⟩:=hf 4 _ rfl;obtain⟨b4,q4,-⟩:=ID Tryz.underlying4 t4;obtain rfl:c4=.bool b4:=by simpa using q4
 obtain⟨c5,y5,e5,t5⟩:=hf 5 _ rfl;obtain⟨b5,q5,-,s5⟩:=GI Tryz.underlying9 t5;obtain rfl:c5=.string b5:=by simpa using q5
 obtain⟨c6,y6,e6,t6⟩:=hf 6 _ rfl;obtain⟨b6,q6,-⟩:=ID Tryz.underlying4 t6;obtain rfl:c6=.bool b6:=by simpa using q6
 obtain⟨c7,y7,e7,t7⟩:=hf 7 _ rfl;obtain⟨b7,l7,p7,zz,rfl,r7⟩:=fc Tryz.underlying55 Tryz.underlying9 ar t7;unfold maxLen at s0 s2 s3 s5;refine⟨⟨b0,b1,b2,b3,b4,b5,b6,zz⟩,fun i f hi=>?_⟩;rcases i with _|_|_|_|_|_|_|_|i
 ·exact j0
 ·cases hi;exact⟨_,(hc 1 af).trans e1,rfl⟩
 ·exact qn
 ·cases hi;exact⟨_,(hc 3 af).trans e3,rfl,show b3.size<=_ by omega⟩
 ·cases hi;exact⟨_,(hc 4 af).trans e4,rfl⟩
 ·cases hi;exact⟨_,(hc 5 af).trans e5,rfl,show b5.size<=_ by omega⟩
 ·cases hi;exact⟨_,(hc 6 af).trans e6,rfl⟩
 ·cases hi;exact⟨_,(hc 7 af).trans e7,b7,l7,p7,rfl,r7⟩
 ·first|(cases hi;done)|(simp[vdF] at hi;done)

theorem Ab {n:Nat} {c:Value} {y:DataW H×List MemPlace} (h:Hs enc Tryz.prog w base spare held n 24 [c]=some y):∃a len cap,∃xs:List Vd,c=.slice a len cap/\aN w a len cap 8 (xs.map vdF):=by
 rcases open_slice Tryz.underlying24 h with ⟨hcs,_⟩|⟨a,len,cap,m,n',D,Pl,hcs,hb,hl,hm,hmm,_,hx⟩
 ·exact jP
 obtain⟨hlm,hm'⟩:=k8;have hce:Tryz.prog.cellsOf 91=8:=ar
 rw[hce] at hx;by_cases h0:len=0
 ·exact jO
 obtain⟨b,o,spot⟩:=a;obtain⟨cs0,k1,k2⟩:=hx 0 af;have hspot:spot=none:=by
  exact jU
 subst hspot;have hblt:b<w.heap.size:=by
  exact jV
 have each:∀i,i<len->∃v:Vd,RAt w b (o+i*8) (vdF v):=fun i hi=>by
  obtain⟨cs,k1,k2⟩:=hx i af;obtain⟨_,hl0,hc0⟩:=Hu k1;refine pg (fun j hj=>?_) k2;exact jQ
 have hin:Inhabited Vd:=⟨⟨⟨#[]⟩,0,⟨#[]⟩,⟨#[]⟩,false,⟨#[]⟩,false,[]⟩⟩;exact oa

theorem o8 {b o n:Nat} {cs:List Value} {x:DataW H×List MemPlace} (hc:∀i,i<5->w.cell? ⟨b,o+i,none⟩=cs[i]?) (h:Hs enc Tryz.prog w base spare held n 94 cs=some x):∃v:Xd,RAt w b o (xdF v):=by
 obtain⟨m,hl,hf⟩:=ez Tryz.underlying94 ar ar h;obtain⟨c0,y0,e0,t0⟩:=hf 0 _ rfl;obtain⟨b0,q0,-,s0⟩:=GI Tryz.underlying9 t0;obtain rfl:c0=.string b0:=by simpa using q0
 obtain⟨c1,y1,e1,t1⟩:=hf 1 _ rfl;obtain⟨b1,q1,-,s1⟩:=Iw Tryz.underlying2 t1;obtain rfl:c1=.int .i64 b1:=by simpa using q1
 obtain⟨c2,y2,e2,t2⟩:=hf 2 _ rfl;obtain⟨b2,q2,-,s2⟩:=GI Tryz.underlying9 t2;obtain rfl:c2=.string b2:=by simpa using q2
 obtain⟨c3,y3,e3,t3⟩:=hf 3 _ rfl;obtain⟨b3,q3,-⟩:=ID Tryz.underlying4 t3;obtain rfl:c3=.bool b3:=by simpa using q3
 obtain⟨c4,y4,e4,t4⟩:=hf 4 _ rfl;obtain⟨b4,q4,-,s4⟩:=GI Tryz.underlying9 t4;obtain rfl:c4=.string b4:=by simpa using q4
 unfold maxLen at s0 s2 s4;refine⟨⟨b0,b1,b2,b3,b4⟩,fun i f hi=>?_⟩;rcases i with _|_|_|_|_|i
 ·exact j0
 ·cases hi;exact⟨_,(hc 1 af).trans e1,rfl⟩
 ·exact qn
 ·cases hi;exact⟨_,(hc 3 af).trans e3,rfl⟩
 ·cases hi;exact⟨_,(hc 4 af).trans e4,rfl,show b4.size<=_ by omega⟩
 ·first|(cases hi;done)|(simp[xdF] at hi;done)

theorem Aa {n:Nat} {c:Value} {y:DataW H×List MemPlace} (h:Hs enc Tryz.prog w base spare held n 25 [c]=some y):∃a len cap,∃xs:List Xd,c=.slice a len cap/\aN w a len cap 5 (xs.map xdF):=by
 rcases open_slice Tryz.underlying25 h with ⟨hcs,_⟩|⟨a,len,cap,m,n',D,Pl,hcs,hb,hl,hm,hmm,_,hx⟩
 ·exact jP
 obtain⟨hlm,hm'⟩:=k8;have hce:Tryz.prog.cellsOf 94=5:=ar
 rw[hce] at hx;by_cases h0:len=0
 ·exact jO
 obtain⟨b,o,spot⟩:=a;obtain⟨cs0,k1,k2⟩:=hx 0 af;have hspot:spot=none:=by
  exact jU
 subst hspot;have hblt:b<w.heap.size:=by
  exact jV
 have each:∀i,i<len->∃v:Xd,RAt w b (o+i*5) (xdF v):=fun i hi=>by
  obtain⟨cs,k1,k2⟩:=hx i af;obtain⟨_,hl0,hc0⟩:=Hu k1;refine o8 (fun j hj=>?_) k2;exact jQ
 have hin:Inhabited Xd:=⟨⟨⟨#[]⟩,0,⟨#[]⟩,false,⟨#[]⟩⟩⟩;exact oa

theorem qN {b o n:Nat} {cs:List Value} {x:DataW H×List MemPlace} (hc:∀i,i<6->w.cell? ⟨b,o+i,none⟩=cs[i]?) (h:Hs enc Tryz.prog w base spare held n 96 cs=some x):∃v:Pd,RAt w b o (pdF v):=by
 obtain⟨m,hl,hf⟩:=ez Tryz.underlying96 ar ar h;obtain⟨c0,y0,e0,t0⟩:=hf 0 _ rfl;obtain⟨b0,q0,-,s0⟩:=GI Tryz.underlying9 t0;obtain rfl:c0=.string b0:=by simpa using q0
 obtain⟨c1,y1,e1,t1⟩:=hf 1 _ rfl;obtain⟨b1,q1,-,s1⟩:=Iw Tryz.underlying2 t1;obtain rfl:c1=.int .i64 b1:=by simpa using q1
 obtain⟨c2,y2,e2,t2⟩:=hf 2 _ rfl;obtain⟨b2,q2,-,s2⟩:=GI Tryz.underlying9 t2;obtain rfl:c2=.string b2:=by simpa using q2
 obtain⟨c3,y3,e3,t3⟩:=hf 3 _ rfl;obtain⟨b3,l3,p3,zz,rfl,r3⟩:=fc Tryz.underlying55 Tryz.underlying9 ar t3;obtain⟨c4,y4,e4,t4⟩:=hf 4 _ rfl;obtain⟨b4,q4,-,s4⟩:=GI Tryz.underlying9 t4;obtain rfl:c4=.string b4:=by simpa using q4
 obtain⟨c5,y5,e5,t5⟩:=hf 5 _ rfl;obtain⟨b5,q5,-,s5⟩:=Iw Tryz.underlying2 t5;obtain rfl:c5=.int .i64 b5:=by simpa using q5
 unfold maxLen at s0 s2 s4;refine⟨⟨b0,b1,b2,zz,b4,b5⟩,fun i f hi=>?_⟩;rcases i with _|_|_|_|_|_|i
 ·exact j0
 ·cases hi;exact⟨_,(hc 1 af).trans e1,rfl⟩
 ·exact qn
 ·cases hi;exact⟨_,(hc 3 af).trans e3,b3,l3,p3,rfl,r3⟩
 ·cases hi;exact⟨_,(hc 4 af).trans e4,rfl,show b4.size<=_ by omega⟩
 ·cases hi;exact⟨_,(hc 5 af).trans e5,rfl⟩
 ·first|(cases hi;done)|(simp[pdF] at hi;done)

theorem Ae {n:Nat} {c:Value} {y:DataW H×List MemPlace} (h:Hs enc Tryz.prog w base spare held n 26 [c]=some y):∃a len cap,∃xs:List Pd,c=.slice a len cap/\aN w a len cap 6 (xs.map pdF):=by
 rcases open_slice Tryz.underlying26 h with ⟨hcs,_⟩|⟨a,len,cap,m,n',D,Pl,hcs,hb,hl,hm,hmm,_,hx⟩
 ·exact jP
 obtain⟨hlm,hm'⟩:=k8;have hce:Tryz.prog.cellsOf 96=6:=ar
 rw[hce] at hx;by_cases h0:len=0
 ·exact jO
 obtain⟨b,o,spot⟩:=a;obtain⟨cs0,k1,k2⟩:=hx 0 af;have hspot:spot=none:=by
  exact jU
 subst hspot;have hblt:b<w.heap.size:=by
  exact jV
 have each:∀i,i<len->∃v:Pd,RAt w b (o+i*6) (pdF v):=fun i hi=>by
  obtain⟨cs,k1,k2⟩:=hx i af;obtain⟨_,hl0,hc0⟩:=Hu k1;refine qN (fun j hj=>?_) k2;exact jQ
 have hin:Inhabited Pd:=⟨⟨⟨#[]⟩,0,⟨#[]⟩,[],⟨#[]⟩,0⟩⟩;exact oa

end

end Rc
end Go.Proofs.YtpejepeekdjfoaaGreatDoor

import Derived.Test.YtpejepeekdjfoaaGreatDoorQ6
import Derived.ScopeJumps
import Derived.WalkMore
set_option maxRecDepth 100000
set_option maxHeartbeats 12800000
open And renaming intro→Fl
open Array renaming getD_eq_getD_getElem?→Fu, getElem?_push_size→FB, getElem?_eq_some_iff→FE, getElem?_setIfInBounds→FI
open Bool renaming and_eq_true→Gh
open Classical renaming byContradiction→GO
open Go.Act renaming put→GG
open Go.Addr renaming add_lit→FQ
open Go.Builtin renaming append_→Gw, copy_→GI, zeroCells→G4
open Go.Calls renaming quiet_of_same→FW
open Go.Extern.SlicesOverlaps renaming overlaps→Hj
open Go.Lib renaming run_eql_slice_nil→Hq
open Go.Region renaming binds→FY, wanted→GL
open Go.RowKit.Below renaming heap_setCell→Fm, refl→Ft, heap_alloc→Fw
open Go.Value renaming string→FH, oneCell'→GC, ownBlock→GX
open Go.World renaming cell?_of_block→F8, setCell→Gc, ownsRow_nil→Ge
open Int renaming le_trans→F6
open List renaming getElem?_eq_some_iff→Fk, lookup→Fp, getElem?_eq_getElem→Fs, setIfInBounds_toArray→Fy, getElem?_map→FA, take_of_length_le→FD, set_cons_zero→FF, forall_mem_cons→FJ, getElem?_append_left→FK, set_cons_succ→FL, length_take→FO, getElem?_take→FP, length_map→FR, mem_of_getElem?→FX, length_append→F5, getElem?_cons_zero→F7, foldr→Gd, mem_cons→Gf, getElem?_drop→Gj, range→Gl, all_eq_true→Gq, append_nil→GA, length_drop→GD, mem_of_mem_drop→GW, findIdx_le_length→G3, mem_cons_self→G6, dropLast_concat→Hg
open Nat renaming le_refl→Fq, le_trans→Fx, lt_of_lt_of_le→FC, le_succ→FT, zero_add→FV
open Option renaming map_eq_some_iff→FG
open Option.some renaming inj→Fo, injEq→Gm
namespace Go.Proofs.YtpejepeekdjfoaaGreatDoor
theorem nt {p:Prop} (h:p:=by simp[results,Tryz.results168,go_sem, *]):p:=h
end Go.Proofs.YtpejepeekdjfoaaGreatDoor
namespace Go.Proofs.YtpejepeekdjfoaaGreatDoor
theorem Dj {p:Prop} (h:p:=by
 obtain⟨rfl,rfl,rfl,rfl,rfl,rfl⟩:=hz;clear h;have ev:=(HE.below HB.out).v2;have evl2:=bg ev;have evl:=bg HE.v2;have evn:¬4=w.heap.size+1:=af
 obtain⟨r0,r1,r2,r3,r4,r5,r6,r7⟩:=cs8 Br;have ltr_2:=ae Br.out;obtain⟨fr0,fr1,fr2,fr3,fr4,fr5⟩:=gI;have fr6:=av Br.out 6;have fr7:=av Br.out 7;have hrl:w.heap.size+1<w2.heap.size:=ae Br.out;go_wp2;go_region;go_wp2;exact bodyPost_ret (v:=.tuple #[.agg #[.string ⟨#[]⟩,.int .i64 0,.string ⟨#[]⟩,.string ⟨#[]⟩,.bool false,.string ⟨#[]⟩,.bool false,.slice none 0 0],.iface 266 (.pointer (some (E 2)))]) nt rfl ⟨Below.eD (Below.alloc (sb1 (sb1 (sb1 (sb1 (sb1 (sb1 (sb1 (sb1 (HB.out))))))))) nv _),.inl ⟨HNM.out,rfl⟩⟩):p:=h
theorem xQ {p:Prop} (h:p:=by
 rintro e w3 ⟨rfl,hb⟩;clear hcc;have Br3:=upK Dr hb;have HB3:=upB HBW6 hb;clear hb;obtain⟨r0,r1,r2,r3,r4,r5,r6,r7⟩:=cs8 Br3;have fr0:=av Br3.out 0;have fr1:=av Br3.out 1;have fr2:=av Br3.out 2;have fr3:=av Br3.out 3;have fr4:=av Br3.out 4;have fr5:=av Br3.out 5;have fr6:=av Br3.out 6;have fr7:=av Br3.out 7;have hrl:w.heap.size+1+1<w3.heap.size:=ae Br3.out;go_wp2;refine iG ?_;exact bodyPost_ret (v:=.agg #[.slice none 0 0,.slice none 0 0,.slice none 0 0,.slice none 0 0,.slice none 0 0,.int .i64 0,.string ⟨#[]⟩,.int .i64 cc]) (by simp[results,Tryz.results128,go_sem, *]) rfl ⟨ad0,co0 cc,rfl,HV.out,Du _ _,sb2 (sb2 (sb2 (sb2 (sb2 (sb2 (sb2 (sb2 (HB3.out))))))))⟩):p:=h
theorem CV {p:Prop} (h:p:=by
 refine Obl.plain rfl ?_;intro ac wg K hsz hW hf hK;clear hsz;have e37:=hf 37 aj;simp[ai,Fp] at e37;have e40:=hf 40 aj;simp[ai,Fp] at e40;clear hf;go_simp;refine (tj d.a3 d.l3 d.c3 c.vs (aD++x.n) 8 E _ (HR.v.below (HBW.trans (hW.mono HBW.size))) (HE.below (HBW.trans (hW.mono HBW.size)))).mono ?_;rintro e w6 ⟨hb6,hf6⟩;rcases hf6 with ⟨i,hi9,hwhy,rfl⟩|⟨hok,rfl⟩
 ·exact hK _ _ hb6 (.inl ⟨i,hi9,hwhy.imp id (fun h9=>⟨h9.1,h9.2.1,by omega⟩),rfl⟩)
 ·exact hK _ _ hb6 (.inr ⟨hok.1,hok.2,rfl⟩)):p:=h
theorem CU {p:Prop} (h:p:=by
 go_enter Tryz.func209,Tryz.ntmps209;go_wp2_with (first|(at_builtin;refine bj rfl _ _ 201 32 rfl base 99 99 i0 (.agg #[.string ⟨#[]⟩,.int .i64 0,.string ⟨#[]⟩,.string ⟨#[]⟩,.bool false,.string ⟨#[]⟩,.bool false,.slice none 0 0]) 8 112 Tryz.underlying201 Tryz.underlying32 HI0.1 HI0.2.1 HI0.2.2.1 HI0.2.2.2 rfl aj _ _ _ rfl HO.out ⟨vb,0,none⟩ 1 1 ys rfl af HYN.out HY1.out cC af hbs ?_));exact p8):p:=h
theorem CR {p:Prop} (h:p:=by
 go_enter Tryz.func207,Tryz.ntmps207;go_wp2_with (first|(at_builtin;refine bj rfl _ _ 202 33 rfl base 105 105 i0 (.agg #[.string ⟨#[]⟩,.int .i64 0,.string ⟨#[]⟩,.bool false,.string ⟨#[]⟩]) 5 64 Tryz.underlying202 Tryz.underlying33 HI0.1 HI0.2.1 HI0.2.2.1 HI0.2.2.2 rfl aj _ _ _ rfl HO.out ⟨vb,0,none⟩ 1 1 ys rfl af HYN.out HY1.out cC af hbs ?_));exact p8):p:=h
theorem CA {p:Prop} (h:p:=by
 refine hK _ _ ?_;clear hK K;intro K hK;rw[if_pos bJ];go_simp;refine hK _ _ ?_;clear hK K;refine hK0 _ _ ?_;clear hK0 K0;go_wp2;exact⟨⟨k+1,d1,c1,by omega,by go_num,HSK.out,below_setRow HWZ.out (Fq _) _,setRow_heap _ _ _ _ _ _ Bt6.out,(setRow_other _ _ _ _ af).trans Br6.out,H3.out⟩,by simp[intOf];omega⟩):p:=h
theorem Cm {p:Prop} (h:p:=by
 refine Obl.plain rfl ?_;intro ac wg K hsz hW hf hK;clear hsz;have e1:=hf 1 aj;simp[ai,Fp] at e1;clear hf;refine wp_load_row _ _ rfl w.heap.size (by simpa[Act.eval,GG] using e1) _ _ _ _ ((hW.block _ (ae Bt3.out)).trans Bt3.out) Tryz.underlying66 rfl aQ ?_;exact hK _ _ (Ft _ _) rfl):p:=h
theorem Cj {p:Prop} (h:p:=by
 refine Obl.plain rfl ?_;intro ac wg K hsz hW hf hK;clear hsz;have e2:=hf 2 aj;simp[ai,Fp] at e2;clear hf;refine wp_load_row _ _ rfl w.heap.size (by simpa[Act.eval] using e2) _ _ _ _ ((hW.block _ (ae BtW.out)).trans BtW.out) Tryz.underlying66 rfl aQ ?_;exact hK _ _ (Ft _ _) rfl):p:=h
theorem yN {p:Prop} (h:p:=by
 refine Obl.plain rfl ?_;intro ac wg K hsz hW hf hK;clear hsz;have e34:=hf 34 aj;simp[ai,Fp] at e34;have e36:=hf 36 aj;simp[ai,Fp] at e36;clear hf;obtain⟨d',e34,ho⟩:=e34;go_simp;exact hK _ _ (Ft _ _) ⟨d',rfl,ho⟩):p:=h
theorem qj {p:Prop} (h:p:=by
 rintro v w w' ⟨d,h1,h2⟩ hb;exact⟨d,h1,h2.below hb⟩):p:=h
theorem Dl {p:Prop} (h:p:=by
 exact vP):p:=h
theorem xu {p:Prop} (h:p:=by
 clear hf;obtain⟨f0,f1,f2,f3,f4,f5,f6,f7,f8⟩:=E3 ((hW.block _ (ae BfW.out)).trans BfW.out);exact aT):p:=h
theorem xt {p:Prop} (h:p:=by
 clear hf;obtain⟨v0,v1,v2,v3,v4,v5,v6,v7⟩:=cs8 ((hW.block _ (ae Dv.out)).trans Dv.out);exact aT):p:=h
theorem qf {p:Prop} (h:p:=by
 refine Obl.plain rfl ?_;intro ac wg K hsz hW hf hK;clear hsz;have e35:=hf 35 aj;simp[ai,Fp] at e35;clear hf;exact aT):p:=h
theorem xp {p:Prop} (h:p:=by
 refine Obl.plain rfl ?_;intro ac wg K hsz hW hf hK;clear hsz;have e36:=hf 36 aj;simp[ai,Fp] at e36;clear hf;obtain⟨s0,s1,s2,s3,s4,s5,s6,s7,s8,s9,s10,s11⟩:=lB ((hW.block _ (ae BsW.out)).trans BsW.out);exact aT):p:=h
theorem xo {p:Prop} (h:p:=by
 refine Obl.plain rfl ?_;intro ac wg K hsz hW hf hK;clear hsz;have e3:=hf 3 aj;simp[ai,Fp] at e3;clear hf;obtain⟨k0,k1,k2,k3,k4,k5⟩:=cs6 ((hW.block _ (ae Dk.out)).trans Dk.out);exact aT):p:=h
theorem xn {p:Prop} (h:p:=by
 refine Obl.plain rfl ?_;intro ac wg K hsz hW hf hK;clear hsz;have e4:=hf 4 aj;simp[ai,Fp] at e4;clear hf;obtain⟨x0,x1,x2,x3,x4⟩:=cs5 ((hW.block _ (ae Dx.out)).trans Dx.out);exact aT):p:=h
theorem w_ {p:Prop} (h:p:=by
 refine Obl.plain rfl ?_;intro ac wg K hsz hW hf hK;clear hsz;have e38:=hf 38 aj;simp[ai,Fp] at e38;clear hf;exact aT):p:=h
theorem wQ {p:Prop} (h:p:=by
 clear hf;obtain⟨v0,v1,v2,v3,v4,v5,v6,v7⟩:=cs8 ((hW.block _ (ae Bv2.out)).trans Bv2.out);exact aT):p:=h
theorem wJ {p:Prop} (h:p:=by
 have HNM:Hid (¬ed x k t):=fun h9=>h ⟨HXO.out,HKO.out,HZN.out (HMY.1 h9).1⟩;exact Dj):p:=h
theorem v_ {p:Prop} (h:p:=by
 refine Obl.plain rfl ?_;intro ac wg K hsz hW hf hK;clear hsz;have e35:=hf 35 aj;simp[ai,Fp] at e35;exact xt):p:=h
theorem vY {p:Prop} (h:p:=by
 refine Obl.plain rfl ?_;intro ac wg K hsz hW hf hK;clear hsz;have e33:=hf 33 aj;simp[ai,Fp] at e33;exact xu):p:=h
theorem vX {p:Prop} (h:p:=by
 refine Obl.plain rfl ?_;intro ac wg K hsz hW hf hK;clear hsz;have e39:=hf 39 aj;simp[ai,Fp] at e39;exact xu):p:=h
theorem vW {p:Prop} (h:p:=by
 refine Obl.plain rfl ?_;intro ac wg K hsz hW hf hK;clear hsz;have e8:=hf 8 aj;simp[ai,Fp] at e8;exact Dl):p:=h
theorem vV {p:Prop} (h:p:=by
 refine Obl.plain rfl ?_;intro ac wg K hsz hW hf hK;clear hsz;have e7:=hf 7 aj;simp[ai,Fp] at e7;exact xt):p:=h
theorem Dh {p:Prop} (h:p:=by
 have hszW6:W6.heap.size=w2.heap.size:=by rw[hW6];simp
 have hlk:=ae Bk.out;have hkeep:∀q,¬q=w.heap.size+1+1+1->W6.heap[q]?=w2.heap[q]?:=fun q h9=>by rw[hW6,Fm _ _ _ _ h9,Fm _ _ _ _ h9,Fm _ _ _ _ h9,Fm _ _ _ _ h9,Fm _ _ _ _ h9,Fm _ _ _ _ h9,Fm _ _ _ _ h9,Fm _ _ _ _ h9]
 have Dk:=aa ((hkeep (w.heap.size) af).trans Bk.out);have Dx:=aa ((hkeep (w.heap.size+1) af).trans Bx.out);have Dr:=aa ((hkeep (w.heap.size+1+1) af).trans Br.out);have Ds:=aa ((hkeep (w.heap.size+1+1+1+1) af).trans Bs.out);have Dv:Hid (W6.heap[w.heap.size+1+1+1]?=some (.cells #[.string (aD++x.n),.int .i64 x.z,.string (aW t k.z),.string x.k,.bool x.x,.string x.n,.bool false,.slice none 0 0] 99 (0,0))):=by rw[hW6];exact An Bv.out _ _ _ _ _ _ _ _
 have HBW6:Hid (Below w.heap.size w W6):=by rw[hW6];exact sb3 (sb3 (sb3 (sb3 (sb3 (sb3 (sb3 (sb3 (HB.out))))))))
 have HKP:=aa hkeep;exact Fl hszW6 (Fl hlk (Fl hkeep (Fl Dk (Fl Dx (Fl Dr (Fl Ds (Fl Dv (Fl HBW6 HKP))))))))):p:=h
theorem k9 {p:Prop} (h:p:=by
 have fv0:=av Bv.out 0;have fv1:=av Bv.out 1;have fv2:=av Bv.out 2;have fv3:=av Bv.out 3;have fv4:=av Bv.out 4;have fv5:=av Bv.out 5;have fv6:=av Bv.out 6;have fv7:=av Bv.out 7;have hvl:=ae Bv.out;exact Fl fv0 (Fl fv1 (Fl fv2 (Fl fv3 (Fl fv4 (Fl fv5 (Fl fv6 (Fl fv7 hvl)))))))):p:=h
theorem B_ {p:Prop} (h:p:=by
 have hszW5:W5.heap.size=w1.heap.size:=by rw[hW5];simp
 have hlk:=ae Bk.out;have hkeep:∀q,¬q=w.heap.size+1+1+1->W5.heap[q]?=w1.heap[q]?:=fun q h9=>by rw[hW5,Fm _ _ _ _ h9,Fm _ _ _ _ h9,Fm _ _ _ _ h9,Fm _ _ _ _ h9,Fm _ _ _ _ h9,Fm _ _ _ _ h9,Fm _ _ _ _ h9,Fm _ _ _ _ h9]
 have Dk:=aa ((hkeep (w.heap.size) af).trans Bk.out);have Dx:=aa ((hkeep (w.heap.size+1) af).trans Bx.out);have Dr:=aa ((hkeep (w.heap.size+1+1) af).trans Br.out);have Ds:=aa ((hkeep (w.heap.size+1+1+1+1) af).trans Bs.out);exact Fl hszW5 (Fl hlk (Fl hkeep (Fl Dk (Fl Dx (Fl Dr Ds)))))):p:=h
theorem sk {p:Prop} (h:p:=by
 have fr0:=av Br6.out 0;have fr1:=av Br6.out 1;have fr2:=av Br6.out 2;have fr3:=av Br6.out 3;have fr4:=av Br6.out 4;have fr5:=av Br6.out 5;have fr6:=av Br6.out 6;have fr7:=av Br6.out 7;have hrl:=ae Br6.out;exact Fl fr0 (Fl fr1 (Fl fr2 (Fl fr3 (Fl fr4 (Fl fr5 (Fl fr6 (Fl fr7 hrl)))))))):p:=h
theorem BB {p:Prop} (h:p:=by
 have HWZ:=upB HB hW;have Bt6:=upK Bt hW;have Br6:=upK Br hW;have HSK:=aa (zU.next HS1.out HS2.out HX.out hn1 hv2);have H3:=aa (hown.set (b':=w.heap.size) (cs:=(trv d1 c1 p n (some ⟨b2,o2,none⟩) pl pc na nl nc)) af);exact Fl HWZ (Fl Bt6 (Fl Br6 (Fl HSK H3)))):p:=h
end Go.Proofs.YtpejepeekdjfoaaGreatDoor
namespace Go.Proofs.YtpejepeekdjfoaaGreatDoor
open Go.RowKit Go.Shelf

attribute [local go_sem] Oper.semAt_some

theorem eE.xs {w:World} {a:Option Addr} {len cap:Nat} {vs:List Vd} (h:eE w a len cap vs):∃(xl:List Vx) (b o:Nat),xl.map Vx.v=vs/\xl.length=len/\(xl=[]\/(a=some ⟨b,o,none⟩/\b<w.heap.size))/\
  ∀(j:Nat) x,xl[j]?=some x->ay w x.a x.len x.cap x.v.zs/\w.cell? ⟨b,o+j*8,none⟩=some (.string x.v.n)/\w.cell? ⟨b,o+j*8+1,none⟩=some (.int .i64 x.v.c)/\w.cell? ⟨b,o+j*8+2,none⟩=some (.string x.v.z)/\w.cell? ⟨b,o+j*8+3,none⟩=some (.string x.v.k)/\
   w.cell? ⟨b,o+j*8+4,none⟩=some (.bool x.v.x)/\w.cell? ⟨b,o+j*8+5,none⟩=some (.string x.v.m)/\w.cell? ⟨b,o+j*8+6,none⟩=some (.bool x.v.y)/\w.cell? ⟨b,o+j*8+7,none⟩=some (.slice x.a x.len x.cap):=by
 obtain⟨h1,h2,h3,h5⟩:=h;rcases h5 with rfl|⟨b,o,rfl,hlt,hc⟩
 ·exact⟨[],0,0,rfl,by simpa using h1,.inl rfl,fun j x hx=>by simp at hx⟩
 ·have hh:∀(j:Nat) v,vs[j]?=some v->∃x:Vx,x.v=v/\(ay w x.a x.len x.cap x.v.zs/\w.cell? ⟨b,o+j*8,none⟩=some (.string x.v.n)/\w.cell? ⟨b,o+j*8+1,none⟩=some (.int .i64 x.v.c)/\w.cell? ⟨b,o+j*8+2,none⟩=some (.string x.v.z)/\w.cell? ⟨b,o+j*8+3,none⟩=some (.string x.v.k)/\
    w.cell? ⟨b,o+j*8+4,none⟩=some (.bool x.v.x)/\w.cell? ⟨b,o+j*8+5,none⟩=some (.string x.v.m)/\w.cell? ⟨b,o+j*8+6,none⟩=some (.bool x.v.y)/\w.cell? ⟨b,o+j*8+7,none⟩=some (.slice x.a x.len x.cap)):=fun j v hv=>by
   obtain⟨-,a',l',c',q⟩:=hc j v hv;exact⟨⟨v,a',l',c'⟩,rfl,q⟩
  have key:∀(n:Nat),n<=vs.length->∃xl:List Vx,xl.map Vx.v=vs.take n/\∀(j:Nat) x,xl[j]?=some x->(ay w x.a x.len x.cap x.v.zs/\w.cell? ⟨b,o+j*8,none⟩=some (.string x.v.n)/\w.cell? ⟨b,o+j*8+1,none⟩=some (.int .i64 x.v.c)/\w.cell? ⟨b,o+j*8+2,none⟩=some (.string x.v.z)/\w.cell? ⟨b,o+j*8+3,none⟩=some (.string x.v.k)/\
    w.cell? ⟨b,o+j*8+4,none⟩=some (.bool x.v.x)/\w.cell? ⟨b,o+j*8+5,none⟩=some (.string x.v.m)/\w.cell? ⟨b,o+j*8+6,none⟩=some (.bool x.v.y)/\w.cell? ⟨b,o+j*8+7,none⟩=some (.slice x.a x.len x.cap)):=by
   intro n
   induction n with
   | zero=>exact fun _=>⟨[],by simp,fun j x hx=>by simp at hx⟩
   | succ n ih=>
    intro hn;obtain⟨xl,e1,e2⟩:=ih af
    have hl:xl.length=n:=by have:=congrArg List.length e1;simp at this;omega
    obtain⟨x,hxv,hx⟩:=hh n (vs[n]'(by omega)) (Fs _);refine⟨xl++[x],?_,fun j y hy=>?_⟩
    ·rw[List.take_add_one,<-e1,Fs (show n<vs.length by omega)]
     simp[hxv]
    ·by_cases e:j<xl.length
     ·rw[FK e] at hy;exact e2 j y hy
     ·rw[List.getElem?_append_right af] at hy
      have hj:j - xl.length=0:=by
       rcases Nat.eq_zero_or_pos (j - xl.length) with h|h
       ·exact h
       ·rw[List.getElem?_eq_none bF] at hy;cases hy
      rw[hj] at hy;obtain rfl:=Fo (show some x=some y from hy)
      obtain rfl:j=n:=af
      exact hx
  obtain⟨xl,e1,e2⟩:=key vs.length (Fq _);rw[List.take_length] at e1;refine⟨xl,b,o,e1,by have:=congrArg List.length e1;simp at this;omega,.inr ⟨rfl,hlt⟩,e2⟩

def e_ (acc:Option Vx) (x:Vx):Option Vx:=match acc with|none=>some x|some u=>if eY x.v u.v=true then some x else some u
def fk (xs:List Vx):Option Vx:=xs.foldl e_ none
theorem km (xs:List Vx) (x:Vx):fk (xs++[x])=e_ (fk xs) x:=by simp[fk]
theorem tY (sv:Vd->Bool) (xs:List Vx):∀acc:Option Vx,((xs.filter fun x=>sv x.v).foldl e_ acc).map Vx.v=(xs.map Vx.v).foldl (de sv) (acc.map Vx.v):=by
 induction xs with
 | nil=>intro acc;simp
 | cons x xs ih=>
  intro acc
  cases hs:sv x.v
  ·simp only[List.filter_cons,hs,Bool.false_eq_true,if_false,List.map_cons,List.foldl_cons];rw[ih acc]
   congr 1
   simp[de,hs]
  ·simp only[List.filter_cons,hs,if_true,List.map_cons,List.foldl_cons];rw[ih]
   congr 1
   cases acc with
   | none=>simp[e_,de,hs]
   | some u=>
    simp only[e_,de,hs,Option.map_some,Bool.true_and]
    split <;> simp
theorem tX (sv:Vd->Bool) (xs:List Vx):(fk (xs.filter fun x=>sv x.v)).map Vx.v=db sv (xs.map Vx.v):=tY sv xs none
theorem tZ (xs:List Vx):∀acc x,xs.foldl e_ acc=some x->x∈xs\/acc=some x:=by
 induction xs with
 | nil=>intro acc x h;exact .inr h
 | cons y ys ih=>
  intro acc x h
  rcases ih _ _ h with h1|h1
  ·exact .inl (List.mem_cons_of_mem _ h1)
  ·cases acc with
   | none=>simp[e_] at h1;subst h1;exact .inl G6
   | some u=>
    simp only[e_] at h1
    split at h1
    ·obtain rfl:=Fo h1;exact .inl G6
    ·exact .inr h1

theorem Ec {w:World} {b:Nat} {T:TypeId} {u0 u1 u2 u3 u4 u5 u6 u7 v0 v1 v2 v3 v4 v5 v6 v7:Value} (h:w.heap[b]?=some (.cells #[u0,u1,u2,u3,u4,u5,u6,u7] T (0,0))):
  ((((((((w.setCell ⟨b,0,none⟩ v0).setCell ⟨b,1,none⟩ v1).setCell ⟨b,2,none⟩ v2).setCell ⟨b,3,none⟩ v3).setCell ⟨b,4,none⟩ v4).setCell ⟨b,5,none⟩ v5).setCell ⟨b,6,none⟩ v6).setCell ⟨b,7,none⟩ v7).heap[b]?=some (.cells #[v0,v1,v2,v3,v4,v5,v6,v7] T (0,0)):=by
 have h0:(w.setCell ⟨b,0,none⟩ v0).heap[b]?=some (.cells #[v0,u1,u2,u3,u4,u5,u6,u7] T (0,0)):=aA h v0;have h1:((w.setCell ⟨b,0,none⟩ v0).setCell ⟨b,1,none⟩ v1).heap[b]?=some (.cells #[v0,v1,u2,u3,u4,u5,u6,u7] T (0,0)):=aA h0 v1;have h2:(((w.setCell ⟨b,0,none⟩ v0).setCell ⟨b,1,none⟩ v1).setCell ⟨b,2,none⟩ v2).heap[b]?=some (.cells #[v0,v1,v2,u3,u4,u5,u6,u7] T (0,0)):=aA h1 v2;have h3:((((w.setCell ⟨b,0,none⟩ v0).setCell ⟨b,1,none⟩ v1).setCell ⟨b,2,none⟩ v2).setCell ⟨b,3,none⟩ v3).heap[b]?=some (.cells #[v0,v1,v2,v3,u4,u5,u6,u7] T (0,0)):=aA h2 v3;have h4:(((((w.setCell ⟨b,0,none⟩ v0).setCell ⟨b,1,none⟩ v1).setCell ⟨b,2,none⟩ v2).setCell ⟨b,3,none⟩ v3).setCell ⟨b,4,none⟩ v4).heap[b]?=some (.cells #[v0,v1,v2,v3,v4,u5,u6,u7] T (0,0)):=aA h3 v4;have h5:((((((w.setCell ⟨b,0,none⟩ v0).setCell ⟨b,1,none⟩ v1).setCell ⟨b,2,none⟩ v2).setCell ⟨b,3,none⟩ v3).setCell ⟨b,4,none⟩ v4).setCell ⟨b,5,none⟩ v5).heap[b]?=some (.cells #[v0,v1,v2,v3,v4,v5,u6,u7] T (0,0)):=aA h4 v5;have h6:(((((((w.setCell ⟨b,0,none⟩ v0).setCell ⟨b,1,none⟩ v1).setCell ⟨b,2,none⟩ v2).setCell ⟨b,3,none⟩ v3).setCell ⟨b,4,none⟩ v4).setCell ⟨b,5,none⟩ v5).setCell ⟨b,6,none⟩ v6).heap[b]?=some (.cells #[v0,v1,v2,v3,v4,v5,v6,u7] T (0,0)):=aA h5 v6;have h7:((((((((w.setCell ⟨b,0,none⟩ v0).setCell ⟨b,1,none⟩ v1).setCell ⟨b,2,none⟩ v2).setCell ⟨b,3,none⟩ v3).setCell ⟨b,4,none⟩ v4).setCell ⟨b,5,none⟩ v5).setCell ⟨b,6,none⟩ v6).setCell ⟨b,7,none⟩ v7).heap[b]?=some (.cells #[v0,v1,v2,v3,v4,v5,v6,v7] T (0,0)):=aA h6 v7;exact h7
def DX:Option Vx->Array Value
 | none=> #[.string ⟨#[]⟩,.int .i64 0,.string ⟨#[]⟩,.string ⟨#[]⟩,.bool false,.string ⟨#[]⟩,.bool false,.slice none 0 0]
 | some x=> #[.string x.v.n,.int .i64 x.v.c,.string x.v.z,.string x.v.k,.bool x.v.x,.string x.v.m,.bool x.v.y,.slice x.a x.len x.cap]
def BI (w w5:World) (h:Nat) (pre:List Vx) (W:World):Prop:=
 (W.heap[h]?=some (.cells (DX (fk pre)) 99 (0,0))/\W.heap[h+1]?=some (.cells #[.bool (fk pre).isSome] 4 (0,0)))/\KpB h w5.heap.size w5 W/\Below w.heap.size w W
theorem BI.own (w w5:World) (h:Nat) (hh:h+1<w5.heap.size) (hw:w.heap.size<=w5.heap.size):OwnFrom w5.heap.size (BI w w5 h):=by
 intro s A B row hs hg hr;obtain⟨⟨h1,h2⟩,h3,h4⟩:=hs;have hk:∀k,k<w5.heap.size->B.heap[k]?=A.heap[k]?:=fun k hk=>hg.block k (FC hk h3.1) (fun e=>by have:=(hr k e.symm).1;omega);exact⟨⟨(hk h af).trans h1,(hk (h+1) hh).trans h2⟩,⟨Fx h3.1 hg.size,fun k q1 q2 q3=>(hk k q1).trans (h3.2 k q1 q2 q3)⟩,h4.trans ⟨hg.os,hg.tape,hg.output,hg.size,fun k q=>hk k af⟩⟩
theorem BI.below {w w5 W W':World} {h:Nat} {pre:List Vx} (hi:BI w w5 h pre W) (hh:h+1<w5.heap.size) (hw:w.heap.size<=w5.heap.size) (hb:Below W.heap.size W W'):BI w w5 h pre W':=
 BI.own w w5 h hh hw pre W W' none hi (bR hb) (fun r e=>by cases e)
theorem oE {B:Nat} {W W':World} (hb:Below W.heap.size W W'):KeepsFrom B W W':=(KeepsOthers.of_grownBy (bR hb) (fun j o h=>by cases h)).from B
theorem BI.put {w w5 W:World} {h:Nat} {pre:List Vx} {x:Vx} (hi:BI w w5 h pre W) (hw:w.heap.size<=h) (hs:e_ (fk pre) x=some x):BI w w5 h (pre++[x]) (((((((((W.setCell ⟨h,0,none⟩ (.string x.v.n)).setCell ⟨h,1,none⟩ (.int .i64 x.v.c)).setCell ⟨h,2,none⟩ (.string x.v.z)).setCell ⟨h,3,none⟩ (.string x.v.k)).setCell ⟨h,4,none⟩ (.bool x.v.x)).setCell ⟨h,5,none⟩ (.string x.v.m)).setCell ⟨h,6,none⟩ (.bool x.v.y)).setCell ⟨h,7,none⟩ (.slice x.a x.len x.cap)).setCell ⟨h+1,0,none⟩ (.bool true)):=by
 obtain⟨⟨h1,h2⟩,h3,h4⟩:=hi;have e:fk (pre++[x])=some x:=by rw[km];exact hs
 unfold BI;rw[e];have h1':∃u0 u1 u2 u3 u4 u5 u6 u7,W.heap[h]?=some (.cells #[u0,u1,u2,u3,u4,u5,u6,u7] 99 (0,0)):=by
  cases hb:fk pre with
  | none=>rw[hb] at h1;exact⟨_,_,_,_,_,_,_,_,h1⟩
  | some u=>rw[hb] at h1;exact⟨_,_,_,_,_,_,_,_,h1⟩
 obtain⟨u0,u1,u2,u3,u4,u5,u6,u7,h1'⟩:=h1';refine⟨⟨(Fm _ _ _ _ (show h≠h+1 by omega)).trans (Ec h1'),?_⟩,⟨by simpa[Gc] using h3.1,fun k q1 q2 q3=>?_⟩,?_⟩
 ·have h2':((((((((W.setCell ⟨h,0,none⟩ (.string x.v.n)).setCell ⟨h,1,none⟩ (.int .i64 x.v.c)).setCell ⟨h,2,none⟩ (.string x.v.z)).setCell ⟨h,3,none⟩ (.string x.v.k)).setCell ⟨h,4,none⟩ (.bool x.v.x)).setCell ⟨h,5,none⟩ (.string x.v.m)).setCell ⟨h,6,none⟩ (.bool x.v.y)).setCell ⟨h,7,none⟩ (.slice x.a x.len x.cap)).heap[h+1]?=W.heap[h+1]?:=by
   rw[Fm _ _ _ _ (show h+1≠h by omega),Fm _ _ _ _ (show h+1≠h by omega),Fm _ _ _ _ (show h+1≠h by omega),Fm _ _ _ _ (show h+1≠h by omega),Fm _ _ _ _ (show h+1≠h by omega),Fm _ _ _ _ (show h+1≠h by omega),Fm _ _ _ _ (show h+1≠h by omega),Fm _ _ _ _ (show h+1≠h by omega)]
  exact aA (h2'.trans h2) _
 ·rw[Fm _ _ _ _ (show k≠h+1 by omega),Fm _ _ _ _ (show k≠h by omega),Fm _ _ _ _ (show k≠h by omega),Fm _ _ _ _ (show k≠h by omega),Fm _ _ _ _ (show k≠h by omega),Fm _ _ _ _ (show k≠h by omega),Fm _ _ _ _ (show k≠h by omega),Fm _ _ _ _ (show k≠h by omega),Fm _ _ _ _ (show k≠h by omega)];exact h3.2 k q1 q2 q3
 ·exact ah af (ah hw (ah hw (ah hw (ah hw (ah hw (ah hw (ah hw (ah hw h4))))))))
theorem BI.kp {W:World} {h n₀:Nat} {x:Vx} :KpB h n₀ W (((((((((W.setCell ⟨h,0,none⟩ (.string x.v.n)).setCell ⟨h,1,none⟩ (.int .i64 x.v.c)).setCell ⟨h,2,none⟩ (.string x.v.z)).setCell ⟨h,3,none⟩ (.string x.v.k)).setCell ⟨h,4,none⟩ (.bool x.v.x)).setCell ⟨h,5,none⟩ (.string x.v.m)).setCell ⟨h,6,none⟩ (.bool x.v.y)).setCell ⟨h,7,none⟩ (.slice x.a x.len x.cap)).setCell ⟨h+1,0,none⟩ (.bool true)):=by
 refine⟨by simp[Gc],fun k q1 q2 q3=>?_⟩;rw[Fm _ _ _ _ (show k≠h+1 by omega),Fm _ _ _ _ (show k≠h by omega),Fm _ _ _ _ (show k≠h by omega),Fm _ _ _ _ (show k≠h by omega),Fm _ _ _ _ (show k≠h by omega),Fm _ _ _ _ (show k≠h by omega),Fm _ _ _ _ (show k≠h by omega),Fm _ _ _ _ (show k≠h by omega),Fm _ _ _ _ (show k≠h by omega)]
theorem BI.kf {W:World} {h B:Nat} {x:Vx} :KeepsFrom B W (((((((((W.setCell ⟨h,0,none⟩ (.string x.v.n)).setCell ⟨h,1,none⟩ (.int .i64 x.v.c)).setCell ⟨h,2,none⟩ (.string x.v.z)).setCell ⟨h,3,none⟩ (.string x.v.k)).setCell ⟨h,4,none⟩ (.bool x.v.x)).setCell ⟨h,5,none⟩ (.string x.v.m)).setCell ⟨h,6,none⟩ (.bool x.v.y)).setCell ⟨h,7,none⟩ (.slice x.a x.len x.cap)).setCell ⟨h+1,0,none⟩ (.bool true)):=
 ((((((((((KeepsOthers.setCell W ⟨h,0,none⟩ _).trans (KeepsOthers.setCell _ ⟨h,1,none⟩ _)).trans (KeepsOthers.setCell _ ⟨h,2,none⟩ _)).trans (KeepsOthers.setCell _ ⟨h,3,none⟩ _)).trans (KeepsOthers.setCell _ ⟨h,4,none⟩ _)).trans (KeepsOthers.setCell _ ⟨h,5,none⟩ _)).trans (KeepsOthers.setCell _ ⟨h,6,none⟩ _)).trans (KeepsOthers.setCell _ ⟨h,7,none⟩ _)).trans (KeepsOthers.setCell _ ⟨h+1,0,none⟩ _)).from B)

theorem en {w:World} {b k:Nat} {v0 v1 v2 v3 v4 v5 v6 v7 v8:Value} (h:¬k=b):(((((((((w.setCell ⟨b,0,none⟩ v0).setCell ⟨b,1,none⟩ v1).setCell ⟨b,2,none⟩ v2).setCell ⟨b,3,none⟩ v3).setCell ⟨b,4,none⟩ v4).setCell ⟨b,5,none⟩ v5).setCell ⟨b,6,none⟩ v6).setCell ⟨b,7,none⟩ v7).setCell ⟨b,8,none⟩ v8).heap[k]?=w.heap[k]?:=by
 rw[Fm _ _ _ _ h,Fm _ _ _ _ h,Fm _ _ _ _ h,Fm _ _ _ _ h,Fm _ _ _ _ h,Fm _ _ _ _ h,Fm _ _ _ _ h,Fm _ _ _ _ h,Fm _ _ _ _ h]
theorem Ax {zs:List ByteArray} {w X:World} {a:Option Addr} {l p D:Nat} {o:Obj} (h:Ap.bS zs w a l p X) (hK:X.heap[D]?=some (.deferred (some []))) (hD:w.heap.size<=D):Ap.bS zs w a l p (X.putObj D o):=by
 obtain⟨⟨h1,h2,h3,h4,h5⟩,h6,h7⟩:=h;have hb:Below w.heap.size w (X.putObj D o):=h7.trans (belowK_b (w:=w) (Fq _) X D _ _ hD hK rfl rfl);rcases h6 with h6|⟨g,cur,rfl,hg,hh⟩
 ·exact⟨⟨h1,h2,h3,h4,.inl h6⟩,.inl h6,hb⟩
 ·have hne:g≠D:=fun e=>by subst e;rw[hh] at hK;cases hK
  have hs:(X.putObj D o).heap[g]?=X.heap[g]?:=World.putObj_heap_other hne;refine⟨⟨h1,h2,h3,h4,?_⟩,.inr ⟨g,cur,rfl,hg,hs.trans hh⟩,hb⟩;rcases h5 with h5|⟨g',q,e,hl,hc⟩
  ·exact .inl h5
  ·cases e;exact .inr ⟨g,0,rfl,by simpa using hl,fun j x hx=>by have:=hc j x hx;simp only[World.cell?,hs] at this ⊢;exact this⟩

theorem oN (a:Option Addr) (len cap:Nat) (vs:List Vd) (n':ByteArray) (c':Int) (k':ByteArray) (x':Bool) (v':ByteArray) (t:ByteArray) (w:World) (hn':n'.size<=9223372036854775807) (hk':k'.size<=9223372036854775807) (hv':v'.size<=9223372036854775807) (ht:t.size<=9223372036854775807) (hr:eE w a len cap vs) (hl:¬(400<vs.length\/8000<t.size)) (hR:jf vs n' c' k' v' t):
  Calls Tryz.prog 185 #[.slice a len cap,.agg #[.string n',.int .i64 c',.string k',.bool x',.string v'],.string t] w (dU vs n' c' k' x' v' t w):=by
 have HR:=aa hr;have hvl:=hr.1;have hl4:¬400<len:=af
 have hl8:¬8000<t.size:=af
 have HRR:=aa hR;have HL:=aa hl;clear hr hR hl;refine (callsIn_wide (n:=6)).1 ?_;refine callsIn_of_wp_marks Tryz.func185 rfl trivial ?_ rfl;simp only[Tryz.ntmps185,List.size_toArray,List.length_cons,List.length_nil,Nat.reduceAdd,Nat.reduceSub,Array.replicate_succ,Array.replicate_zero,List.push_toArray,List.append_toArray,List.nil_append,List.cons_append];refine wpIn_wide.2 ?_;go_wp2_with fail;refine (jm t _ hl8).mono ?_;rintro e w1 ⟨rfl,rfl⟩;go_wp2_with fail;refine (eP n' c' k' x' v' _ hn' hk' hv').mono ?_;rintro e w1 ⟨r,rfl,hr,hb⟩;obtain rfl:r=true:=hr.2 HRR.1;obtain⟨g0,g1⟩:=vd;have HB:=aa ((aF w _ _).trans (hb.mono bF));have HG0:=aa g0;have HG1:=aa g1;clear g0 g1 hb hr;go_wp2_with fail;refine (cQ t _ ht).mono ?_;rintro e w2 ⟨r,rfl,hr,rfl⟩;obtain rfl:r=true:=hr.2 HRR.2.1;clear hr;go_wp2_with fail;refine (lA a len cap vs _ (HR.below HB.out)).mono ?_;rintro e w3 ⟨r,rfl,hr,hb⟩;obtain rfl:r=true:=hr.2 HRR.2.2;have HB3:=upB HB hb;have HX0:=upK HG0 hb;have HX1:=upK HG1 hb;clear hr hb HB HG0 HG1;have p2:=aF w3 (.cells #[.string ⟨#[]⟩,.int .i64 0,.string ⟨#[]⟩,.string ⟨#[]⟩,.bool false,.string ⟨#[]⟩,.bool false,.slice none 0 0] 99) (.cells #[.bool false] 4);have g0:=(p2.block _ (ae HX0.out)).trans HX0.out;have d0:=aw g0 0;have d1:=aw g0 1;have d2:=aw g0 2;have d3:=aw g0 3;have d4:=aw g0 4;simp only[List.getElem?_toArray,List.getElem?_cons_succ,F7] at d0 d1 d2 d3 d4;clear p2 g0;go_wp2_with fail;refine (m8 n' c' k' x' v' t _).mono ?_;rintro e w4 ⟨rfl,hh4,hb4⟩;simp only[World.size_alloc] at hh4 ⊢;clear d0 d1 d2 d3 d4;have p2:=aF w3 (.cells #[.string ⟨#[]⟩,.int .i64 0,.string ⟨#[]⟩,.string ⟨#[]⟩,.bool false,.string ⟨#[]⟩,.bool false,.slice none 0 0] 99) (.cells #[.bool false] 4);have G7:=aa ((hb4.block w3.heap.size bF).trans (cS _ _ _));have G8:=aa ((hb4.block (w3.heap.size+1) aR).trans (bE _ _ _));have hb34:=p2.trans (hb4.mono bF);have HB4:=upB HB3 hb34;have HX4:=upK HX1 hb34;have HH4:=aa hh4;have h34:w3.heap.size+1+1<=w4.heap.size:=by have:=hb4.size;simp at this;omega
 have HZ4:=aa (ae hh4.2);clear p2 hb4 hh4 hb34 HX0;go_wp2_with fail;refine (qL a len cap _ _ _ rfl _).mono ?_;rintro e w5 ⟨rfl,hl5,hf5,hb5⟩;have G7':=aa ((hb5.block _ (ae G7.out)).trans G7.out);have G8':=aa ((hb5.block _ (ae G8.out)).trans G8.out);have HX5:=upK HX4 hb5;have HB5:=upB HB4 hb5;have HH5:=aa (HH4.below hb5);have HL5:=aa hl5;have HF5:=aa hf5;have h45:w4.heap.size+1+1<=w5.heap.size:=by have:=ae hf5;omega
 have hw3:=ae HX1.out;clear hl5 hf5 hb5 G7 G8 HX4 HB4 HH4 HX1;obtain⟨xl,b,o,hxv,hxl,hab,hcell⟩:=(HR.out).xs;have HXV:=aa hxv;obtain⟨bb,hbb,hba,hbc⟩:∃bb,bb<w3.heap.size/\(xl=[]\/a=some ⟨bb,o,none⟩)/\∀(j:Nat) x,xl[j]?=some x->ay w x.a x.len x.cap x.v.zs/\w5.cell? ⟨bb,o+j*8,none⟩=some (.string x.v.n)/\w5.cell? ⟨bb,o+j*8+1,none⟩=some (.int .i64 x.v.c)/\w5.cell? ⟨bb,o+j*8+2,none⟩=some (.string x.v.z)/\w5.cell? ⟨bb,o+j*8+3,none⟩=some (.string x.v.k)/\
   w5.cell? ⟨bb,o+j*8+4,none⟩=some (.bool x.v.x)/\w5.cell? ⟨bb,o+j*8+5,none⟩=some (.string x.v.m)/\w5.cell? ⟨bb,o+j*8+6,none⟩=some (.bool x.v.y)/\w5.cell? ⟨bb,o+j*8+7,none⟩=some (.slice x.a x.len x.cap):=by
  rcases hab with h|⟨h,hlt⟩
  ·exact⟨w.heap.size,by omega,.inl h,fun j x hx=>by simp[h] at hx⟩
  ·refine⟨b,by omega,.inr h,fun j x hx=>?_⟩;obtain⟨q,q0,q1,q2,q3,q4,q5,q6,q7⟩:=hcell j x hx;exact⟨q,(ak HB5.out hlt).trans q0,(ak HB5.out hlt).trans q1,(ak HB5.out hlt).trans q2,(ak HB5.out hlt).trans q3,(ak HB5.out hlt).trans q4,(ak HB5.out hlt).trans q5,(ak HB5.out hlt).trans q6,(ak HB5.out hlt).trans q7⟩
 have HTX:=aa (fun (j:Nat) x hx=>(hbc j x hx).1);have HIT:Hid (z6 w5 a w3.heap.size w4.heap.size (w4.heap.size+1) (w3.heap.size+1+1) (w3.heap.size+1+1+1) bb o len cap xl n' c' k' x' v' t):=
  ⟨HL5.out,HF5.out,HH5.out,hxl,hba,by omega,⟨by omega,by omega,by omega,by omega,by omega,by omega,by omega,by omega,by omega,by omega⟩,fun j x hx=>(hbc j x hx).2⟩
 have hz4:=HZ4.out;clear hxv hcell hab hba hbc;go_wp2_with fail;rename_i K0 hK0;refine (wpIn_wide (n:=6)).1 ?_;refine wpIn_rangeFunc_ownH rfl af (gf:=213) (lb:=#[.pointer (some ⟨w4.heap.size,0,none⟩),.pointer (some ⟨w4.heap.size+1,0,none⟩)]) rfl trivial (enters_of Tryz.func213 ar rfl)
  (qM (6 - 1) af a w3.heap.size w4.heap.size (w4.heap.size+1) (w3.heap.size+1+1) (w3.heap.size+1+1+1) bb o len cap w5.heap.size xl n' c' k' x' v' t w5 af HIT.out rfl ⟨by omega,by omega,by omega,by omega,by omega⟩)
  KpB.trans (KpB.put (Fq _)) (Ft _ _) (fun _=>rfl)
  (BI w w5 w3.heap.size) (fun _ _ _=>False) (BI.own w w5 w3.heap.size af af) (fun _ _ _ _ _ hs _ _=>hs)
  ⟨⟨G7'.out,G8'.out⟩,KpB.refl _ _ _,HB5.out⟩
  (fun x a' W=> ∃Bx,w5.heap.size<=Bx/\W.heap[Bx]?=some (.cells #[.string x.v.n,.int .i64 x.v.c,.string x.v.z,.string x.v.k,.bool x.v.x,.string x.v.m,.bool x.v.y,.slice x.a x.len x.cap] 99 (0,0))/\a'={ tmps:=#[.slice a len cap,.agg #[.string n',.int .i64 c',.string k',.bool x',.string v'],.string t,undef,.pointer (some ⟨w.heap.size,0,none⟩),undef,.pointer (some ⟨w.heap.size+1,0,none⟩),.pointer (some ⟨w3.heap.size,0,none⟩),.pointer (some ⟨w3.heap.size+1,0,none⟩),.pointer (some ⟨Bx,0,none⟩),.slice a len cap,.int .i64 len,.bool (decide (400<(len:Int))),.bool (decide (400<(len:Int))),.string t,.bool false,.bool (decide (400<(len:Int))),undef,.agg #[.string n',.int .i64 c',.string k',.bool x',.string v'],.bool true,.bool false,.bool false,.string t,.bool true,.bool false,.bool false,.bool false,.slice a len cap,.bool true,.bool false,.bool false,undef,.slice a len cap,.agg #[.string n',.int .i64 c',.string k',.bool x',.string v'],.string t,.func (.func 214) #[] #[.pointer (some ⟨w3.heap.size+1+1,0,none⟩),.pointer (some ⟨w3.heap.size+1+1+1,0,none⟩)],.func (.func 213) #[] #[.pointer (some ⟨w4.heap.size,0,none⟩),.pointer (some ⟨w4.heap.size+1,0,none⟩)],x.val,undef,undef,undef,undef,undef,undef,undef,undef,undef,undef,undef,undef,undef,undef],defers:=[] })
  (fun x a' _ X Y row hs hg hr=>by
   obtain⟨Bx,h1,h2,h3⟩:=hs;refine⟨Bx,h1,(hg.block Bx (ae h2) (fun e=>?_)).trans h2,h3⟩;obtain⟨-,o,ho,hc⟩:=hr Bx e.symm;rw[h2] at ho
   cases ho
   simp[Obj.isCells] at hc)
  ?assign ?body ?done ?stop
 case assign=>
  rintro l pre x W K hi hK;dsimp only[Vx.val];gi_wp2;refine hK _ _ ((KeepsOthers.alloc _ _).from _) (KpB.below (al _ _) hi.2.1.1) (hi.below af af (al _ _)) ⟨W.heap.size,hi.2.1.1,FB,rfl⟩
 case body=>
  rintro l pre x a' W hl ⟨r,hr⟩ hi ⟨Bx,hBx,bX,rfl⟩ hlt;clear hlt hr;have HI:=aa hi;have hww:w.heap.size<=w3.heap.size:=af
  cases hbx:fk pre with
  | none=>
   obtain⟨⟨q7,q8⟩,-,-⟩:=hi;rw[hbx] at q7 q8;have q7':W.heap[w3.heap.size]?=some (.cells #[.string ⟨#[]⟩,.int .i64 0,.string ⟨#[]⟩,.string ⟨#[]⟩,.bool false,.string ⟨#[]⟩,.bool false,.slice none 0 0] 99 (0,0)):=q7;have q8':W.heap[w3.heap.size+1]?=some (.cells #[.bool false] 4 (0,0)):=q8;have m0:=ck0 q7';have mf0:=av q7' 0;have m1:=ck1 q7';have mf1:=av q7' 1;have m2:=ck2 q7';have mf2:=av q7' 2;have m3:=ck3 q7';have mf3:=av q7' 3;have m4:=ck4 q7';have mf4:=av q7' 4;have m5:=ck5 q7';have mf5:=av q7' 5;have m6:=ck6 q7';have mf6:=av q7' 6;have m7:=ck7 q7';have mf7:=av q7' 7;have f0:=ck0 q8';have ff0:=av q8' 0;have y0:=ck0 bX;have y1:=ck1 bX;have y2:=ck2 bX;have y3:=ck3 bX;have y4:=ck4 bX;have y5:=ck5 bX;have y6:=ck6 bX;have y7:=ck7 bX;have HP:=aa (HI.put (x:=x) hww (by rw[hbx];rfl));clear q7 q8 q7' q8' bX hbx
   gi_wp2
   refine⟨trivial,?_⟩
   gi_wp2
   exact⟨BI.kf,BI.kp,HP.out⟩
  | some u=>
   obtain⟨⟨q7,q8⟩,-,-⟩:=hi;rw[hbx] at q7 q8;have q7':W.heap[w3.heap.size]?=some (.cells #[.string u.v.n,.int .i64 u.v.c,.string u.v.z,.string u.v.k,.bool u.v.x,.string u.v.m,.bool u.v.y,.slice u.a u.len u.cap] 99 (0,0)):=q7;have q8':W.heap[w3.heap.size+1]?=some (.cells #[.bool true] 4 (0,0)):=q8;have m0:=ck0 q7';have mf0:=av q7' 0;have m1:=ck1 q7';have mf1:=av q7' 1;have m2:=ck2 q7';have mf2:=av q7' 2;have m3:=ck3 q7';have mf3:=av q7' 3;have m4:=ck4 q7';have mf4:=av q7' 4;have m5:=ck5 q7';have mf5:=av q7' 5;have m6:=ck6 q7';have mf6:=av q7' 6;have m7:=ck7 q7';have mf7:=av q7' 7;have f0:=ck0 q8';have ff0:=av q8' 0;have y0:=ck0 bX;have y1:=ck1 bX;have y2:=ck2 bX;have y3:=ck3 bX;have y4:=ck4 bX;have y5:=ck5 bX;have y6:=ck6 bX;have y7:=ck7 bX;clear q7 q8
   gi_wp2_with fail
   refine⟨trivial,(CallsIn.inRound l (callsIn_wide.2 (rQ x.v u.v x.a u.a x.len x.cap u.len u.cap _))).mono ?_⟩;rintro e W2 ⟨rfl,hb2⟩;have hi2:=HI.below af af hb2;have HI2:=aa hi2;have HKF:=aa (oE (B:=w5.heap.size) hb2);have HKP:=aa (KpB.below (h:=w3.heap.size) hb2 HI.2.1.1);have z7:=(hb2.block _ (ae q7')).trans q7';have z8:=(hb2.block _ (ae q8')).trans q8';have zX:=(hb2.block _ (ae bX)).trans bX;clear hi2 m0 mf0 y0 m1 mf1 y1 m2 mf2 y2 m3 mf3 y3 m4 mf4 y4 m5 mf5 y5 m6 mf6 y6 m7 mf7 y7 f0 ff0;have m0:=ck0 z7;have mf0:=av z7 0;have m1:=ck1 z7;have mf1:=av z7 1;have m2:=ck2 z7;have mf2:=av z7 2;have m3:=ck3 z7;have mf3:=av z7 3;have m4:=ck4 z7;have mf4:=av z7 4;have m5:=ck5 z7;have mf5:=av z7 5;have m6:=ck6 z7;have mf6:=av z7 6;have m7:=ck7 z7;have mf7:=av z7 7;have f0:=ck0 z8;have ff0:=av z8 0;have y0:=ck0 zX;have y1:=ck1 zX;have y2:=ck2 zX;have y3:=ck3 zX;have y4:=ck4 zX;have y5:=ck5 zX;have y6:=ck6 zX;have y7:=ck7 zX;clear hb2 z7 z8 zX q7' q8' bX
   cases hbe:eY x.v u.v
   ·have HP:Hid (BI w w5 w3.heap.size (pre++[x]) W2):=by
     have h9:=HI2.out
     show BI w w5 w3.heap.size (pre++[x]) W2
     unfold BI at h9 ⊢;rw[km,hbx];rw[hbx] at h9
     simpa[e_,hbe] using h9
    clear hbe hbx
    gi_wp2
    exact⟨HKF.out,HKP.out,HP.out⟩
   ·have HP:=aa (HI2.put (x:=x) hww (by rw[hbx];simp[e_,hbe]));clear hbe hbx
    gi_wp2
    exact⟨HKF.trans BI.kf,HKP.trans BI.kp,HP.out⟩
 case stop=>
  rintro D c pre W _ _ h _;exact h.elim
 case done=>
  rintro D ys W hD rfl hi hK;have hput:∀(X:World) (o:Obj) (q:Nat),(X.putObj D o).cell? ⟨w.heap.size+1,q,none⟩=X.cell? ⟨w.heap.size+1,q,none⟩:=fun X o q=>by
   simp only[World.cell?];rw[World.putObj_heap_other (show w.heap.size+1≠D by omega)]
  have hsame:=tX (svV c' k' x' t) xl;rw[HXV.out] at hsame;have go:=(hi.2.1.2 (w.heap.size+1) af af af).trans HX5.out;have HI:=aa hi;have HKD:=aa hK;obtain⟨⟨q7,q8⟩,-,-⟩:=hi;refine hK0 _ _ ?_;clear hK0 hK;cases hbx:fk (xl.filter fun x=>svV c' k' x' t x.v) with
  | none=>
   rw[hbx] at q8 hsame;have q8':W.heap[w3.heap.size+1]?=some (.cells #[.bool false] 4 (0,0)):=q8;have f0:=ck0 q8';have HN:Hid (db (svV c' k' x' t) vs=none):=hsame.symm;have r0:=ck0 go;have rf0:=av go 0;have r1:=ck1 go;have rf1:=av go 1;have r2:=ck2 go;have rf2:=av go 2;have r3:=ck3 go;have rf3:=av go 3;have r4:=ck4 go;have rf4:=av go 4;have r5:=ck5 go;have rf5:=av go 5;have r6:=ck6 go;have rf6:=av go 6;have r7:=ck7 go;have rf7:=av go 7;have r8:=ck8 go;have rf8:=av go 8;clear q7 q8 q8' go hbx hsame;go_wp2_with fail;refine⟨by simp,.inl ⟨_,_,rfl,run_takeDeferred ((en af).trans HKD.out),?_⟩⟩;refine⟨.agg #[.string ⟨#[]⟩,.int .i64 0,.string ⟨#[]⟩,.string ⟨#[]⟩,.bool false,.string ⟨#[]⟩,.bool false,.slice none 0 0,.int .i64 6],?_,dU.bad (.inr (.inr (.inl ⟨HL.out,HRR.out,HN.out,rfl,rfl⟩))) ((fa af HI.2.2).trans (belowK_b (w:=w) (Fq _) _ D _ _ af ((en af).trans HKD.out) rfl rfl))⟩
   simp[results,Tryz.results185,go_sem, *]
  | some x=>
   rw[hbx] at q7 q8 hsame;have q7':W.heap[w3.heap.size]?=some (.cells #[.string x.v.n,.int .i64 x.v.c,.string x.v.z,.string x.v.k,.bool x.v.x,.string x.v.m,.bool x.v.y,.slice x.a x.len x.cap] 99 (0,0)):=q7;have q8':W.heap[w3.heap.size+1]?=some (.cells #[.bool true] 4 (0,0)):=q8;have f0:=ck0 q8';have HN:Hid (db (svV c' k' x' t) vs=some x.v):=hsame.symm;have y0:=ck0 q7';have y1:=ck1 q7';have y2:=ck2 q7';have y3:=ck3 q7';have y4:=ck4 q7';have y5:=ck5 q7';have y6:=ck6 q7';have y7:=ck7 q7'
   have hmem:x∈xl:=by
    rcases tZ _ _ _ hbx with h|h
    ·exact (List.mem_filter.1 h).1
    ·cases h
   obtain⟨j,hj⟩:=List.getElem?_of_mem hmem;have HT:=aa ((HTX.out j x hj).below HI.2.2)
   have hvj:vs[j]?=some x.v:=by rw[<-HXV.out,FA,hj];rfl
   have hxl6:x.len<=8001:=by
    have h6:=tu (HRR.2.2.2 j x.v hvj).2.2.2.2.2.2;have:=HT.1
    omega
   have HGO:=aa go;clear q7 q8 q7' q8' hbx hsame go hmem hj hvj;go_wp2_with fail;refine (Ap.Em x.v.n x.v.c x.v.z x.v.k x.v.x x.v.m x.v.y x.a x.len x.cap x.v.zs _ HT.out hxl6).mono ?_;rintro e W6 ⟨a',l',p',rfl,z1,z2,hb6⟩;have go:=(hb6.block _ (ae HGO.out)).trans HGO.out;have hDl:=ae HKD.out;have HK6:=aa ((hb6.block _ hDl).trans HKD.out);have HQ:Hid (ay W6 a' l' p' x.v.zs/\(x.v.zs=[]\/∃g cur,a'=some ⟨g,0,none⟩/\W.heap.size<=g/\W6.heap[g]?=some (.cells cur 9 (0,0)))/\Below w.heap.size w W6):=⟨z1,z2,HI.2.2.trans (hb6.mono HI.2.2.size)⟩;have hol:=ae HGO.out;have r0:=ck0 go;have rf0:=av go 0;have r1:=ck1 go;have rf1:=av go 1;have r2:=ck2 go;have rf2:=av go 2;have r3:=ck3 go;have rf3:=av go 3;have r4:=ck4 go;have rf4:=av go 4;have r5:=ck5 go;have rf5:=av go 5;have r6:=ck6 go;have rf6:=av go 6;have r7:=ck7 go;have rf7:=av go 7;have r8:=ck8 go;have rf8:=av go 8;clear go z1 z2 hb6 y0 y1 y2 y3 y4 y5 y6 y7 f0;go_wp2_with fail;refine⟨by simp,.inl ⟨_,_,rfl,run_takeDeferred ((en af).trans HK6.out),?_⟩⟩;refine⟨.agg #[.string x.v.n,.int .i64 x.v.c,.string x.v.z,.string x.v.k,.bool x.v.x,.string x.v.m,.bool x.v.y,.slice a' l' p',.int .i64 0],?_,x.v,0,a',l',p',rfl,.inr (.inr (.inr ⟨HL.out,HRR.out,HN.out,rfl⟩)),Ax (yT HQ.out af hol) ((en af).trans HK6.out) af⟩
   simp[results,Tryz.results185,go_sem, *]

theorem tM (a:Option Addr) (len cap:Nat) (vs:List Vd) (n':ByteArray) (c':Int) (k':ByteArray) (x':Bool) (v':ByteArray) (t:ByteArray) (w:World) (hn':n'.size<=9223372036854775807) (hk':k'.size<=9223372036854775807) (hv':v'.size<=9223372036854775807) (ht:t.size<=9223372036854775807) (hr:eE w a len cap vs):
  Calls Tryz.prog 185 #[.slice a len cap,.agg #[.string n',.int .i64 c',.string k',.bool x',.string v'],.string t] w (dU vs n' c' k' x' v' t w):=by
 by_cases h1:400<vs.length\/8000<t.size
 ·exact ly a len cap vs n' c' k' x' v' t w hn' hk' hv' ht hr (.inl h1)
 by_cases h2:jf vs n' c' k' v' t
 ·exact oN a len cap vs n' c' k' x' v' t w hn' hk' hv' ht hr h1 h2
 ·exact ly a len cap vs n' c' k' x' v' t w hn' hk' hv' ht hr (.inr h2)

end Go.Proofs.YtpejepeekdjfoaaGreatDoor

namespace Go.Proofs.YtpejepeekdjfoaaGreatDoor
open Go.RowKit
namespace Rc
open Mk

theorem lp (a:Option Addr) (n cap i base vb:Nat) (X ys:List Value) (w:World) (ho:w.ownsRow base 99 8 (.slice a n cap) n X) (hn:n<=8) (hin:i<=n) (hbs:base<=w.heap.size) (hy:w.heap[vb]?=some (.cells ys.toArray 99 (0,0))) (hyl:ys.length=8) (hy1:∀u∈ys,u.oneCell'=true) (hX1:∀u∈X,u.oneCell'=true) (hne:∀g,a=some ⟨g,0,none⟩->¬vb=g):
  Calls Tryz.prog 209 #[.slice a n cap,.int .i64 i,.slice (some ⟨vb,0,none⟩) 1 1] w fun e w'=> ∃v',e=.returned v'/\w'.ownsRow base 99 8 v' (n+1) (X.take (i*8)++ys++X.drop (i*8))/\w.grownBy w' ((.slice a n cap:Value).ownBlock):=by
 obtain⟨i0,hi,hz0,hz1,hz2⟩:=info_parts gh;have HI0:=aa (Fl hi (Fl hz0 (Fl hz1 hz2)));clear hi hz0 hz1 hz2;have hXl:=ho.1;have hnc:n<=cap/\cap<=9223372036854775807:=by
  exact qD
 have hyn:∀(j:Nat) u,ys[j]?=some u->w.cell? ((⟨vb,0,none⟩:Addr).add j)=some u:=fun j u hu=>by
  rw[FQ,aw hy,FV];simpa using hu
 have HYN:=aa hyn;have HO:=aa ho;have HY:=aa hy;have hvl:=ae hy;have HX1:=aa hX1;have HY1:=aa hy1;clear hyn ho hy hX1 hy1;by_cases hie:i=n
 ·subst hie;have e1:X.take (i*8)++ys++X.drop (i*8)=X++ys:=by rw[FD af,List.drop_of_length_le af,GA]
  rw[e1];clear e1;have hc0:=hnc.1;have hq:cap=i\/¬cap=i:=Classical.em _;rcases hq with rfl|hcap
  ·exact CU
  ·exact CU
 have hil:i<n:=af
 obtain⟨g,cur,rfl,hbg,hg,hcs,htk⟩:∃g cur,a=some ⟨g,0,none⟩/\base<=g/\w.heap[g]?=some (.cells cur 99 (0,0))/\cur.size=cap*8/\cur.toList.take (n*8)=X:=by
  exact qJ
 have hvg:=hne g rfl;clear hne;have hcell:∀(j:Nat) u,X[j]?=some u->w.cell? ⟨g,j,none⟩=some u:=fun j u hj=>by
  exact qy
 have hdl:(X.drop (i*8)).length=(n - i)*8:=uK
 have hgl:=ae hg;by_cases hroom:n+1<=cap
 ·have hcp1:∀ty dc sc,(GI #[201,201] ty #[.slice (some ⟨g,(i+1)*8,none⟩) (n - i) dc,.slice (some ⟨g,i*8,none⟩) (n+1 - i) sc]).run Tryz.prog w.drew=.ok (goInt (Nat.min (n+1 - i) (n - i))) (w.drew.setRow g (cur.toList.take ((i+1)*8)++X.drop (i*8)++cur.toList.drop ((i+1)*8+(X.drop (i*8)).length)).toArray):=fun ty dc sc=>
   bp w.drew 201 201 ty 99 g ((i+1)*8) (n - i) dc ⟨g,i*8,none⟩ (n+1 - i) sc 8 cur 99 (X.drop (i*8)) i0 Tryz.underlying201 HI0.1 HI0.2.2.1 hg kX (fun j u hj=>by
    rw[Gj] at hj;rw[FQ]
    exact hcell _ u hj) (by rw[hdl,hcs];omega) (fun u hu=>HX1.out u (GW hu))
  obtain⟨cur1,hcur1⟩:∃c1:List Value,c1=cur.toList.take ((i+1)*8)++X.drop (i*8)++cur.toList.drop ((i+1)*8+(X.drop (i*8)).length):=⟨_,rfl⟩;rw[<-hcur1] at hcp1;have hc1l:cur1.length=cap*8:=by rw[hcur1];simp only[F5,FO,GD,hXl,Array.length_toList,hcs];omega
  obtain⟨W1,hW1⟩:∃W1,W1=w.drew.setRow g cur1.toArray:=⟨_,rfl⟩;rw[<-hW1] at hcp1;have hg1:W1.heap[g]?=some (.cells cur1.toArray 99 (0,0)):=by rw[hW1];exact setRow_heap w.drew g _ _ 99 _ hg
  have hv1:W1.heap[vb]?=w.heap[vb]?:=by rw[hW1];exact setRow_other w.drew g vb _ hvg
  have hcp2:∀ty dc,(GI #[201,32] ty #[.slice (some ⟨g,i*8,none⟩) (n+1 - i) dc,.slice (some ⟨vb,0,none⟩) 1 1]).run Tryz.prog W1=.ok (goInt (Nat.min 1 (n+1 - i))) (W1.setRow g (cur1.take (i*8)++ys++cur1.drop (i*8+ys.length)).toArray):=fun ty dc=>by
   have:=bp W1 201 32 ty 99 g (i*8) (n+1 - i) dc ⟨vb,0,none⟩ 1 1 8 cur1.toArray 99 ys i0 Tryz.underlying201 HI0.1 HI0.2.2.1 hg1 kW (fun j u hj=>by
    rw[FQ,aw (hv1.trans HY.out),FV]
    simpa using hj) uP HY1.out
   simpa using this
  have hov:∀lb cb,(callFunc 219 #[.slice (some ⟨vb,0,none⟩) 1 1,.slice (some ⟨g,(i+1)*8,none⟩) lb cb]).run Tryz.prog w=.ok (.value (.bool false)) w:=fun lb cb=>by
   rw[run_callFunc_extern Tryz.func219 ar ar ar (e:=Hj #[32,32] #[4]) ar,
    Lib.run_overlaps_apart w 32 4 99 Tryz.underlying32 8 (fun w=>by kernel_rfl) ⟨vb,0,none⟩ ⟨g,(i+1)*8,none⟩ 1 1 lb cb hvg 99 99 ys.toArray.size cur.size (by simp[World.shape?,HY.out]) (by simp[World.shape?,hg]) (Nat.ne_of_gt (by rw[hcs];omega)) (av HY.out _) (av HY.out _)]
   rfl
  obtain⟨hb2,hb4,hb6,mixed,hw1,hb1,hin,htn,hb3,HG1,HW1,HC1,HTK⟩:=vt;clear hg hg1 hW1 hcur1 htk hv1 hcell hdl hie;go_enter Tryz.func209,Tryz.ntmps209;go_wp2_with (simp only[hov]);go_region_law_o (refine cF rfl _ _ 201 201 rfl _ _ eU eU (hcp1 (3) (cap - (i+1)) (cap - i)) ?_);go_wp2_with (at_builtin;refine bV _ rfl _ _ 201 32 rfl _ _ rfl rfl (hcp2 _ _) ?_);go_ret;refine⟨_,rfl,⟨?_,Or.inr ⟨g,cap,(cur1.take (i*8)++(ys++cur1.drop (i*8+8))).toArray,rfl,hbg,setRow_heap W1 g _ _ _ _ HG1.out,hroom,by unfold maxLen;omega,?_,?_⟩⟩,?_⟩
  ·exact iB
  ·exact qx
  ·have e:=kh (a:=i*8) (b:=n*8) (c:=cap*8) (m:=8) (c1:=cur1) HTK.out (by rw[Array.length_toList,hcs]) af af hyl (by rw[HC1.out,show (i+1)*8=i*8+8 by omega]);rw[show (n+1)*8=n*8+8 by omega];simpa using e
  ·exact vI
 have hcn:cap=n:=af
 subst hcn;obtain⟨N,hN⟩:∃N,N=w.heap.size:=⟨_,rfl⟩;obtain⟨G,hG⟩:∃G,G=grownCap w (cap+1) cap 99:=⟨_,rfl⟩;obtain⟨ROW,hROW⟩:∃R:Array Value,R=(X.take (i*8)).toArray++G4 (.agg #[.string ⟨#[]⟩,.int .i64 0,.string ⟨#[]⟩,.string ⟨#[]⟩,.bool false,.string ⟨#[]⟩,.bool false,.slice none 0 0]:Value).cells (cap+1 - i)++G4 (.agg #[.string ⟨#[]⟩,.int .i64 0,.string ⟨#[]⟩,.string ⟨#[]⟩,.bool false,.string ⟨#[]⟩,.bool false,.slice none 0 0]:Value).cells (G - (cap+1)):=⟨_,rfl⟩;obtain⟨W1,hW1⟩:∃W1,W1=w.drew.alloc (.cells ROW 99):=⟨_,rfl⟩;have hGn:cap+1<=G:=by rw[hG];exact grownCap_ge w _ _ _
 have hG63:G<=9223372036854775807:=by
  have:=grownCap_le_maxLen w (cap+1) cap 99 cC;rw[<-hG] at this;unfold maxLen at this;omega
 have hRs:ROW.size=G*8:=by
  rw[hROW];simp only[Array.size_append,List.size_toArray,FO,size_zeroCells,hXl];rw[show (.agg #[.string ⟨#[]⟩,.int .i64 0,.string ⟨#[]⟩,.string ⟨#[]⟩,.bool false,.string ⟨#[]⟩,.bool false,.slice none 0 0]:Value).cells.size=8 from rfl];omega
 have hRt:ROW.toList.take (i*8)=X.take (i*8):=by
  exact qF
 have hrz:∀ty,(Gw #[201,3] ty #[.slice (some ⟨g,0,none⟩) i cap,.int .i64 ((cap:Int)+1 - (i:Int))]).run Tryz.prog w=.ok (.slice (some ⟨N,0,none⟩) (cap+1) G) W1:=fun ty=>by
  have hold:(Builtin.firstCells i0.size i (.slice (some ⟨g,0,none⟩) i cap)).run Tryz.prog w.drew=.ok (X.take (i*8)).toArray w.drew:=by
   rw[HI0.2.2.1];exact run_firstCells_some w.drew 8 i ⟨g,0,none⟩ i cap (X.take (i*8)) jI (fun j v hj=>by
    rw[FQ,FV];rw[FP] at hj
    split at hj
    ·exact hcell j v hj
    ·cases hj)
  have h:=Lib.run_append_grow_zeros w 201 3 ty 99 i0 _ .i64 .i64 Tryz.underlying201 Tryz.underlying3 HI0.1 HI0.2.1 (some ⟨g,0,none⟩) i cap (X.take (i*8)) hold (cap+1 - i) af (by rw[HI0.2.2.1];decide) af af (by rw[HI0.2.2.2];omega) uS;exact vA
 have hgN:W1.heap[N]?=some (.cells ROW 99 (0,0)):=by rw[hW1,hN];exact Go.heap_alloc_new w.drew _
 obtain⟨hg1,hv1⟩:=vg;obtain⟨R2,hR2⟩:∃R2:List Value,R2=ROW.toList.take (i*8)++ys++ROW.toList.drop (i*8+ys.length):=⟨_,rfl⟩;obtain⟨W2,hW2⟩:∃W2,W2=W1.setRow N R2.toArray:=⟨_,rfl⟩;have hcpA:∀ty dc,(GI #[201,32] ty #[.slice (some ⟨N,i*8,none⟩) (cap+1 - i) dc,.slice (some ⟨vb,0,none⟩) 1 1]).run Tryz.prog W1=.ok (goInt (Nat.min 1 (cap+1 - i))) W2:=fun ty dc=>by
  rw[hW2,hR2];exact bp W1 201 32 ty 99 N (i*8) (cap+1 - i) dc ⟨vb,0,none⟩ 1 1 8 ROW 99 ys i0 Tryz.underlying201 HI0.1 HI0.2.2.1 hgN kW (fun j u hj=>by
   rw[FQ,aw (hv1.trans HY.out),FV]
   simpa using hj) (by rw[hRs,hyl];omega) HY1.out
 have hR2l:R2.length=G*8:=by
  exact qC
 have hgN2:W2.heap[N]?=some (.cells R2.toArray 99 (0,0)):=by rw[hW2];exact setRow_heap W1 N _ _ 99 _ hgN
 obtain⟨hgn,hg2⟩:=uW;obtain⟨R3,hR3⟩:∃R3:List Value,R3=R2.take ((i+1)*8)++X.drop (i*8)++R2.drop ((i+1)*8+(X.drop (i*8)).length):=⟨_,rfl⟩;obtain⟨W3,hW3⟩:∃W3,W3=W2.drew.setRow N R3.toArray:=⟨_,rfl⟩;have hcpB:∀ty dc sc,(GI #[201,201] ty #[.slice (some ⟨N,(i+1)*8,none⟩) (cap - i) dc,.slice (some ⟨g,i*8,none⟩) (cap - i) sc]).run Tryz.prog W2.drew=.ok (goInt (Nat.min (cap - i) (cap - i))) W3:=fun ty dc sc=>by
  have:=bp W2.drew 201 201 ty 99 N ((i+1)*8) (cap - i) dc ⟨g,i*8,none⟩ (cap - i) sc 8 R2.toArray 99 (X.drop (i*8)) i0 Tryz.underlying201 HI0.1 HI0.2.2.1 hgN2 kX (fun j u hj=>by
   rw[Gj] at hj;have hc:=hcell _ u hj;rw[FQ];rw[<-hc]
   exact F8 (w:=w) (w':=W2.drew) hg2) uL (fun u hu=>HX1.out u (GW hu))
  rw[hW3,hR3];simpa only[List.toList_toArray] using this
 have hW3o:∀k,¬k=N->W3.heap[k]?=W1.heap[k]?:=fun k hk=>by rw[hW3,setRow_other W2.drew N k _ hk];exact (congrArg (fun z:World=>z.heap[k]?) hW2).trans (setRow_other W1 N k _ hk)
 have hfin:w.grownBy W3 (some g):=by
  exact wm
 have hrow:W3.ownsRow base 99 8 (.slice (some ⟨N,0,none⟩) (cap+1) G) (cap+1) (X.take (i*8)++ys++X.drop (i*8)):=by
  refine⟨?_,Or.inr ⟨N,G,R3.toArray,rfl,by omega,by rw[hW3];exact setRow_heap W2.drew N _ _ 99 _ hgN2,hGn,by unfold maxLen;omega,?_,?_⟩⟩
  ·exact iB
  ·exact qB
  ·have e:=iK (a:=i*8) (b:=cap*8) (m:=8) (R2:=R2) hRt hXl af hyl hR2 (R2.drop ((i+1)*8+(X.drop (i*8)).length));rw[hR3,show (cap+1)*8=cap*8+8 by omega,show (i+1)*8=i*8+8 by omega];rw[show (i+1)*8=i*8+8 by omega] at e;simpa using e
 obtain⟨hGi,hGim,hci,hz2,hz3,mixed,hw1,hb1,hin,htn,hb3,HF⟩:=vu;clear hN hrow hfin hW3o hW3 hW2 hR3 hg2 hgN2 hR2l hR2 hv1 hg1 hgN hRt hRs hW1 hROW hG hcell hdl hie hg htk hcs HO;go_enter Tryz.func209,Tryz.ntmps209;go_wp2_with (first
  | (at_builtin;refine Lib.wpList_append_run _ rfl _ _ _ _ rfl _ _ rfl rfl _ _ (hrz _) ?_)
  | (at_builtin;refine bV _ rfl _ _ 201 32 rfl _ _ rfl rfl (hcpA _ _) ?_))

 go_region_law_o (refine cF rfl _ _ 201 201 rfl _ _ eU eU (hcpB 3 (G - (i+1)) (cap - i)) ?_)
 go_wp2
 go_ret;exact⟨_,rfl,HF.1,HF.2⟩

theorem iY (a:Option Addr) (n cap:Nat) (X:List Value) (w:World) (hn:n<=8) (hXl:X.length=n*8) (hX1:∀u∈X,u.oneCell'=true) (hXc:∀(j:Nat) u,X[j]?=some u->∃g,a=some ⟨g,0,none⟩/\w.cell? ⟨g,j,none⟩=some u):
  Calls Tryz.prog 210 #[.slice a n cap] w fun e w'=> ∃a' c',e=.returned (.slice a' n c')/\w'.ownsRow w.heap.size 99 8 (.slice a' n c') n X/\Below w.heap.size w w':=by
 obtain⟨i0,hi,hz0,hz1,hz2⟩:=info_parts gh;have HI0:=aa (Fl hi (Fl hz0 (Fl hz1 hz2)));clear hi hz0 hz1 hz2;have HX1:=aa hX1;have HXC:=aa hXc;have heq:=fun w=>Hq w 201 99 a n cap 0 0 Tryz.underlying201;clear hX1 hXc;cases a with
 | none=>
  obtain rfl:X=[]:=by
   rcases X with _|⟨u,X⟩
   ·rfl
   ·obtain⟨g,e,_⟩:=HXC.out 0 u rfl
    cases e
  obtain rfl:n=0:=by simp at hXl;omega
  go_enter Tryz.func210,Tryz.ntmps210
  go_wp2
  go_ret;exact⟨none,0,rfl,Ge _ _ _ _,Ft _ _⟩
 | some ad=>
  obtain⟨ab,ao,asp⟩:=ad
  have hnew:∀(j:Nat) u,X[j]?=some u->(w.alloc (.cells #[] 99)).cell? ((⟨ab,ao,asp⟩:Addr).add j)=some u:=fun j u hu=>by
   obtain⟨g,e,hc⟩:=HXC.out j u hu
   cases e
   rw[FQ,FV];have hlt:=bg hc;rw[<-hc];exact F8 (heap_alloc_old w _ hlt)
  have HN:=aa hnew;have HO:Hid ((w.alloc (.cells #[] 99)).ownsRow w.heap.size 99 8 (.slice (some ⟨w.heap.size,0,none⟩) 0 0) 0 []):=World.ownsRow_made w #[] 0 (Fq _) (Nat.zero_le _) aR;clear hnew HXC
  go_enter Tryz.func210,Tryz.ntmps210
  go_wp2_with (at_builtin;refine bj rfl _ _ 201 201 rfl w.heap.size 99 99 i0 (.agg #[.string ⟨#[]⟩,.int .i64 0,.string ⟨#[]⟩,.string ⟨#[]⟩,.bool false,.string ⟨#[]⟩,.bool false,.slice none 0 0]) 8 112 Tryz.underlying201 Tryz.underlying201 HI0.1 HI0.2.1 HI0.2.2.1 HI0.2.2.2 rfl aj _ _ _ rfl HO.out ⟨ab,ao,asp⟩ n cap X rfl hXl HN.out HX1.out cC af aR ?_)
  intro v' w' h1 h2
  obtain⟨a',c',rfl⟩:∃a' c',v'=.slice a' n c':=by
   rcases h1.2 with ⟨rfl,h0⟩|⟨g,cp,cu,rfl,_⟩
   ·exact⟨none,0,by rw[h0]⟩
   ·exact⟨_,_,rfl⟩
  have H1:=aa h1;have H2:=aa h2;clear h1 h2
  go_wp2
  go_ret;refine⟨a',c',rfl,H1.out,((al w (.cells #[] 99)).grown H2.out aR (fun g hg=>?_))⟩
  simp[GX] at hg
  omega

theorem tj (a:Option Addr) (n cap:Nat) (xs:List Vd) (t:ByteArray) (most:Nat) (E:Nat->Addr) (w:World) (hr:aN w a n cap 8 (xs.map vdF)) (hG:Ers w E):
  Calls Tryz.prog 187 #[.slice a n cap,.string t,.int .i64 most] w (E7 E (fun i=>(i=3/\hit Vd.n xs t=true)\/(i=4/\hit Vd.n xs t=false/\most<=xs.length)) (hit Vd.n xs t=false/\xs.length<most) w):=by
 have hxl:xs.length=n:=dv
 have HR:=aa hr;have HE:=aa hG;clear hr hG;go_enter Tryz.func187,Tryz.ntmps187;go_wp2_with fail;refine (ff a n cap xs t _ HR.out).mono ?_;rintro e w1 ⟨rfl,hb⟩;have HB:=aa hb;have e3:=(HE.below hb).v3;have e4:=(HE.below hb).v4;clear hb;generalize pl Vd.n xs t=j;cases hh:hit Vd.n xs t
 ·have HH:=aa hh;clear hh;by_cases hm:most<=n
  ·have hm2:¬((n:Int)<(most:Int)):=af
   go_wp2;go_ret;exact⟨HB.out,.inl ⟨4,by decide,.inr ⟨rfl,HH.out,by omega⟩,rfl⟩⟩
  ·have hm2:(n:Int)<(most:Int):=af
   go_wp2;go_ret;exact⟨HB.out,.inr ⟨⟨HH.out,by omega⟩,rfl⟩⟩
 ·have HH:=aa hh;clear hh;go_wp2;go_ret;exact⟨HB.out,.inl ⟨3,by decide,.inl ⟨rfl,HH.out⟩,rfl⟩⟩

theorem pe (a:Option Addr) (n cap:Nat) (xs:List Vd) (x:Vd) (va:Option Addr) (vl vc hh:Nat) (Q Q2:Nat->Prop) (w:World) (ho:az w a n cap 8 99 (xs.map vdF) Q) (hn:n<=8) (hxf:∀(i:Nat) f,(vdF x)[i]?=some f->∃v,[.string x.n,.int .i64 x.c,.string x.z,.string x.k,.bool x.x,.string x.m,.bool x.y,.slice va vl vc][i]?=some v/\f.Fr w hh Q2 v) (hq:∀k,Q k->Q2 k->False):
  Calls Tryz.prog 191 #[.slice a n cap,.agg #[.string x.n,.int .i64 x.c,.string x.z,.string x.k,.bool x.x,.string x.m,.bool x.y,.slice va vl vc]] w fun e w'=> ∃a' l' c',e=.returned (.slice a' l' c')/\az w' a' l' c' 8 99 ((br (pl Vd.n xs x.n) x xs).map vdF) (fun k=>(Q k\/Q2 k)\/w.heap.size<=k)/\Below w.heap.size w w':=by
 have HR:=aa ho.row;have hxl:xs.length=n:=jG
 obtain⟨vss,H,hV,hcell⟩:=ho.lS;have hvl:vss.length=n:=by rw[hV.len,FR,hxl]
 have hfl:vss.flatten.length=n*8:=by rw[dr hV.all,hvl]
 have HV:=aa hV;have HC:=aa hcell;have HF:=aa hxf;have HQ:=aa hq;clear ho hV hcell hxf hq;have hmcalled:∀(v:Value) (w:World),(method 416 99 v "loop.example/g00571/impl.called").run Tryz.prog w=.ok (250,v) w:=fun _ _=>by kernel_rfl
 obtain⟨j,hj⟩:∃j,j=pl Vd.n xs x.n:=⟨_,rfl⟩;have hjn:j<=n:=by rw[hj,<-hxl];exact G3
 have HJ:=aa hj;have HFIN:Hid (∀(w4:World) v4 base,w.heap.size<=base->Below w.heap.size w w4->w4.ownsRow base 99 8 v4 (n+1) (vss.flatten.take (j*8)++[.string x.n,.int .i64 x.c,.string x.z,.string x.k,.bool x.x,.string x.m,.bool x.y,.slice va vl vc]++vss.flatten.drop (j*8))->∃a' c',v4=.slice a' (n+1) c'/\az w4 a' (n+1) c' 8 99 ((br (pl Vd.n xs x.n) x xs).map vdF) (fun k=>(Q k\/Q2 k)\/w.heap.size<=k)):=fun w4 v4 base hbs hB4 ho4=>by
  rw[<-iJ HV.all af] at ho4;have hV4:=(HV.below hB4).aM (w':=w4) (S':=fun k=>(Q k\/Q2 k)\/w.heap.size<=k) (fun _ _ _ _=>rfl) (fun _ _ s=>.inl (.inl s));obtain⟨H4,hV5⟩:=hV4.ins (p:=j) (r:=vdF x) (vs:=[.string x.n,.int .i64 x.c,.string x.z,.string x.k,.bool x.x,.string x.m,.bool x.y,.slice va vl vc]) (hh:=fun _=>hh) rfl rfl (fun i f hf=>by
   obtain⟨v,h1,h2⟩:=HF.out i f hf
   exact⟨v,h1,h2.aM (fun cu _ q=>hB4.block _ (ae q)) (fun _ s=>.inl (.inr s))⟩) (fun i zs h hz k r i2 zs2 hr2 hz2 hne e=>by
  obtain⟨v,_,h2⟩:=HF.out i _ h;obtain⟨_,_,_,_,_,_,_,_,h3⟩:=h2;have hkv:k<vss.length:=by rw[HV.len];exact (Fk.1 hr2).1
  obtain⟨v',_,h5⟩:=HV.cell k r _ hr2 (Fs hkv) i2 _ hz2;obtain⟨_,_,_,_,_,_,_,_,h6⟩:=h5;rcases h3 with h3|⟨_,h3,_⟩
  ·exact hz h3
  ·rcases h6 with h6|⟨_,h6,_⟩
   ·exact hne h6
   ·rw[e] at h6;exact HQ.out _ h6 h3) (fun i i2 zs zs2 h _ h2 _=>by
  rcases i with _|_|_|_|_|_|_|_|i <;> simp[vdF] at h <;> rcases i2 with _|_|_|_|_|_|_|_|i2 <;> simp[vdF] at h2 <;> rfl) r_
  exact CP
 have HCL:Hid (∀W,Below w.heap.size w W->∀(k:Nat) u,vss.flatten[k]?=some u->∃g,a=some ⟨g,0,none⟩/\W.cell? ⟨g,k,none⟩=some u):=fun W hW k u hu=>by
  exact qu
 have HV1:=aa HV.one;clear HV HC HF HQ hj;go_enter Tryz.func191,Tryz.ntmps191;go_wp2_with fail;refine (dR x va vl vc _).mono ?_;rintro e w1 ⟨rfl,hb1⟩;obtain⟨hn1,hbx⟩:=aL hb1;have HN1:=aa hn1;have HB1:=aa hbx;clear hb1 hn1 hbx;go_wp2_with fail;refine (ff a n cap xs x.n _ (HR.below HB1.out)).mono ?_;rintro e w2 ⟨rfl,hb2⟩;have HN2:=aa ((hb2.block w.heap.size (ae HN1.out)).trans HN1.out);have HB2:=upB HB1 hb2;clear hb2 HN1 HB1;rw[<-HJ.out];generalize hit Vd.n xs x.n=bb;have hs2:=ae HN2.out;have HBD:Hid (Below w.heap.size w w2.drew):=Below.eD HB2.out;obtain⟨n0,n1,n2,n3,n4,n5,n6,n7⟩:=cs8 (show w2.drew.heap[w.heap.size]?=_ from HN2.out);have hcl1:Calls Tryz.prog 210 #[.slice a n cap] w2.drew fun e w3=> ∃a3 c3,e=.returned (.slice a3 n c3)/\Hid (w3.ownsRow w2.heap.size 99 8 (.slice a3 n c3) n vss.flatten)/\Hid (Below w.heap.size w w3)/\w2.heap.size<=w3.heap.size/\w.heap.size<w3.heap.size/\w3.heap[w.heap.size]?=some (.cells (vov x va vl vc) 99 (0,0)):=by
  refine (iY a n cap vss.flatten w2.drew hn hfl HV1.out (HCL.out _ HBD.out)).mono ?_;exact vJ
 have hcl2:Calls Tryz.prog 210 #[.slice a n cap] (w2.alloc (.cells (vov x va vl vc) 99)).drew fun e w3=> ∃a3 c3,e=.returned (.slice a3 n c3)/\Hid (w3.ownsRow (w2.heap.size+1) 99 8 (.slice a3 n c3) n vss.flatten)/\Hid (Below w.heap.size w w3)/\w2.heap.size+1<=w3.heap.size/\Hid (w3.heap[w2.heap.size]?=some (.cells (vov x va vl vc) 99 (0,0))):=by
  have hbl:=Below.eD (HB2.alloc HB2.size (.cells (vov x va vl vc) 99));have hsz:(w2.alloc (.cells (vov x va vl vc) 99)).drew.heap.size=w2.heap.size+1:=aR
  refine (iY a n cap vss.flatten _ hn hfl HV1.out (HCL.out _ hbl)).mono ?_;rintro e w3 ⟨a3,c3,rfl,ho3,hb3⟩;have hs3:=hb3.size;rw[hsz] at ho3 hs3;exact⟨a3,c3,rfl,ho3,hbl.trans (hb3.mono hbl.size),hs3,(hb3.block w2.heap.size (by rw[hsz];omega)).trans (show (w2.alloc (.cells (vov x va vl vc) 99)).drew.heap[w2.heap.size]?=_ from heap_alloc_new w2 _)⟩
 have hin1:∀(w3:World) a3 c3,w3.ownsRow w2.heap.size 99 8 (.slice a3 n c3) n vss.flatten->Below w.heap.size w w3->w2.heap.size<=w3.heap.size->Calls Tryz.prog 209 #[.slice a3 n c3,.int .i64 j,.slice (some ⟨w3.heap.size,0,none⟩) 1 1] (w3.alloc (.cells (vov x va vl vc) 99)) fun e w4=> ∃a' c',e=.returned (.slice a' (n+1) c')/\Hid (az w4 a' (n+1) c' 8 99 ((br (pl Vd.n xs x.n) x xs).map vdF) (fun k=>(Q k\/Q2 k)\/w.heap.size<=k))/\Hid (Below w.heap.size w w4):=fun w3 a3 c3 ho3 hB3 hs3=>by
  refine (lp a3 n c3 j w2.heap.size w3.heap.size vss.flatten [.string x.n,.int .i64 x.c,.string x.z,.string x.k,.bool x.x,.string x.m,.bool x.y,.slice va vl vc] (w3.alloc (.cells (vov x va vl vc) 99)) (ho3.alloc _) hn hjn bF (heap_alloc_new w3 _) rfl eT HV1.out (fun g hg e=>by
   have h9:=(ho3.lt g (by rw[hg];rfl)).2
   omega)).mono ?_
  rintro e w4 ⟨v4,rfl,ho4,hg4⟩;have hB5:=(hB3.alloc hB3.size (.cells (vov x va vl vc) 99)).grown hg4 bF (fun g hg=>by
   have h9:=(ho3.lt g hg).1
   omega)
  exact sy
 have hin2:∀(w3:World) a3 c3,w3.ownsRow (w2.heap.size+1) 99 8 (.slice a3 n c3) n vss.flatten->Below w.heap.size w w3->w2.heap.size+1<=w3.heap.size->w3.heap[w2.heap.size]?=some (.cells (vov x va vl vc) 99 (0,0))->Calls Tryz.prog 209 #[.slice a3 n c3,.int .i64 j,.slice (some ⟨w2.heap.size,0,none⟩) 1 1] w3 fun e w4=> ∃a' c',e=.returned (.slice a' (n+1) c')/\Hid (az w4 a' (n+1) c' 8 99 ((br (pl Vd.n xs x.n) x xs).map vdF) (fun k=>(Q k\/Q2 k)\/w.heap.size<=k))/\Hid (Below w.heap.size w w4):=fun w3 a3 c3 ho3 hB3 hs3 hy3=>by
  refine (lp a3 n c3 j (w2.heap.size+1) w2.heap.size vss.flatten [.string x.n,.int .i64 x.c,.string x.z,.string x.k,.bool x.x,.string x.m,.bool x.y,.slice va vl vc] w3 ho3 hn hjn hs3 hy3 rfl eT HV1.out (fun g hg e=>by
   have h9:=(ho3.lt g (by rw[hg];rfl)).1
   omega)).mono ?_
  exact p_
 have C1:=aa hcl1;have C2:=aa hcl2;have I1:=aa hin1;have I2:=aa hin2;clear hcl1 hcl2 hin1 hin2 HFIN HCL HR HJ HBD HB2;have mixed:Tryz.prog.follows .mixedOrders=true:=ar
 go_wp2;go_region_with (first
  | (go_at_call 210;refine C1.mono ?_;rintro e w3 ⟨a3,c3,rfl,HO3,HB3,hs3,hw3l,hx3⟩;obtain⟨m0,m1,m2,m3,m4,m5,m6,m7⟩:=cs8 hx3;clear hx3)
  | (go_at_call 210;refine C2.mono ?_;rintro e w3 ⟨a3,c3,rfl,HO3,HB3,hs3,HY3⟩)
  | (go_at_call 209;refine (I1.out w3 a3 c3 HO3.out HB3.out hs3).mono ?_;rintro e w4 ⟨a',c',rfl,HR5,HB5⟩)
  | (go_at_call 209;refine (I2.out w3 a3 c3 HO3.out HB3.out hs3 HY3.out).mono ?_;rintro e w4 ⟨a',c',rfl,HR5,HB5⟩))
 all_goals (
  go_wp2
  go_ret
  exact⟨a',_,c',rfl,HR5.out,HB5.out⟩)

theorem lB {w:World} {b:Nat} {v0 v1 v2 v3 v4 v5 v6 v7 v8 v9 v10 v11:Value} {T:TypeId} (h:w.heap[b]?=some (.cells #[v0,v1,v2,v3,v4,v5,v6,v7,v8,v9,v10,v11] T (0,0))):w.cell? ⟨b,0,none⟩=some v0/\w.cell? ⟨b,1,none⟩=some v1/\w.cell? ⟨b,2,none⟩=some v2/\w.cell? ⟨b,3,none⟩=some v3/\w.cell? ⟨b,4,none⟩=some v4/\w.cell? ⟨b,5,none⟩=some v5/\w.cell? ⟨b,6,none⟩=some v6/\w.cell? ⟨b,7,none⟩=some v7/\w.cell? ⟨b,8,none⟩=some v8/\w.cell? ⟨b,9,none⟩=some v9/\w.cell? ⟨b,10,none⟩=some v10/\w.cell? ⟨b,11,none⟩=some v11:=⟨aw h 0,aw h 1,aw h 2,aw h 3,aw h 4,aw h 5,aw h 6,aw h 7,aw h 8,aw h 9,aw h 10,aw h 11⟩
theorem E3 {w:World} {b:Nat} {v0 v1 v2 v3 v4 v5 v6 v7 v8:Value} {T:TypeId} (h:w.heap[b]?=some (.cells #[v0,v1,v2,v3,v4,v5,v6,v7,v8] T (0,0))):w.cell? ⟨b,0,none⟩=some v0/\w.cell? ⟨b,1,none⟩=some v1/\w.cell? ⟨b,2,none⟩=some v2/\w.cell? ⟨b,3,none⟩=some v3/\w.cell? ⟨b,4,none⟩=some v4/\w.cell? ⟨b,5,none⟩=some v5/\w.cell? ⟨b,6,none⟩=some v6/\w.cell? ⟨b,7,none⟩=some v7/\w.cell? ⟨b,8,none⟩=some v8:=⟨aw h 0,aw h 1,aw h 2,aw h 3,aw h 4,aw h 5,aw h 6,aw h 7,aw h 8⟩
def ErF (c:Cl) (x:Xd) (E:Nat->Addr):Fact:=fun v _=>(∃i,i<9/\((i=3/\hit Vd.n c.vs (aD++x.n)=true)\/(i=4/\hit Vd.n c.vs (aD++x.n)=false/\¬c.vs.length<8))/\v=.iface 266 (.pointer (some (E i))))\/(hit Vd.n c.vs (aD++x.n)=false/\c.vs.length<8/\v=.nilIface)
theorem ErF.mono (c:Cl) (x:Xd) (E:Nat->Addr):Fact.bD (ErF c x E):=fun _ _ _ h _=>h

theorem rA (d:Ad) (c:Cl) (x:Xd) (t:ByteArray) (E:Nat->Addr) (w:World) (hr:aJ w d c.raw) (hG:Ers w E) (hR:jf c.vs x.n x.z x.k x.v t) (h8:c.vs.length<=8) (ht:t.size<=20) (z0:x.n.size<=9223372036854775807) (z2:x.k.size<=9223372036854775807) (z4:x.v.size<=9223372036854775807):
  Calls Tryz.prog 167 #[.agg #[.slice d.a1 d.l1 d.c1,.slice d.a2 d.l2 d.c2,.slice d.a3 d.l3 d.c3,.slice d.a4 d.l4 d.c4,.slice d.a5 d.l5 d.c5,.int .i64 c.now,.string x.n,.int .i64 x.z,.string x.k,.bool x.x,.string x.v,.string t]] w fun e w'=>Below w.heap.size w w'/\((db (svV x.z x.k x.x t) c.vs=none/\e=.returned (.tuple #[.agg #[.string ⟨#[]⟩,.int .i64 0,.string ⟨#[]⟩,.string ⟨#[]⟩,.bool false,.string ⟨#[]⟩,.bool false,.slice none 0 0],.iface 266 (.pointer (some (E 2)))]))\/(∃u va vl vc,db (svV x.z x.k x.x t) c.vs=some u/\e=.returned (.tuple #[.agg #[.string u.n,.int .i64 u.c,.string u.z,.string u.k,.bool u.x,.string u.m,.bool u.y,.slice va vl vc],.nilIface])/\cy w' va vl vc u.zs (fun k=>w.heap.size<=k))):=by
 have HR:=aa hr;have HE:=aa hG;have HBR:=aa hR;have HZ:=aa (Fl z0 (Fl z2 z4));have HB:=aa (Ft w.heap.size w);clear hr hG hR z0 z2 z4;go_enter Tryz.func167,Tryz.ntmps167;go_wp2_with fail;refine (tM d.a3 d.l3 d.c3 c.vs x.n x.z x.k x.x x.v t _ HZ.1 HZ.2.1 HZ.2.2 af (Bu (HR.v.below (HB.trans ((aF _ _ _).mono HB.size))))).mono ?_;rintro e w1 ⟨u,p,va,vl,vc,rfl,hIs,hT,hO,hb⟩;have HT:Hid (cy w1 va vl vc u.zs (fun k=>w.heap.size+1+1<=k)):=⟨hT,hO.imp id fun ⟨g,cur,e1,e2,e3⟩=>⟨g,cur,e1,by simpa using e2,e3⟩⟩;clear hT hO;obtain⟨HA0,HA1,hbx⟩:=cG hb;have Bs:=aa HA0;have Br:=aa HA1;replace HB:=upB HB hbx;clear hb hbx HA0 HA1;rcases hIs with ⟨h,-,-⟩|⟨-,h,-,-⟩|⟨-,-,hbv,rfl,rfl⟩|⟨-,-,hbv,rfl⟩
 ·omega
 ·exact absurd HBR.out h
 ·have HBV:=aa hbv;clear hbv;clear HT;have ev:=(HE.below HB.out).v2;have evl2:=bg ev;have evl:=bg HE.v2;have evn:¬4=w.heap.size+1:=af
  obtain⟨r0,r1,r2,r3,r4,r5,r6,r7⟩:=cs8 Br;have ltr_1:=ae Br.out;obtain⟨fr0,fr1,fr2,fr3,fr4,fr5⟩:=gI;have fr6:=av Br.out 6;have fr7:=av Br.out 7;have hrs:=ae Bs.out;have hrl:w.heap.size+1<w1.heap.size:=ae Br.out;go_wp2;go_region;go_wp2;exact bodyPost_ret (v:=.tuple #[.agg #[.string ⟨#[]⟩,.int .i64 0,.string ⟨#[]⟩,.string ⟨#[]⟩,.bool false,.string ⟨#[]⟩,.bool false,.slice none 0 0],.iface 266 (.pointer (some (E 2)))]) (by simp[results,Tryz.results167,go_sem, *]) rfl ⟨Below.eD (Below.alloc (sb1 (sb1 (sb1 (sb1 (sb1 (sb1 (sb1 (sb1 (HB.out))))))))) nv _),.inl ⟨HBV.out,rfl⟩⟩
 have HBV:=aa hbv;clear hbv;obtain⟨r0,r1,r2,r3,r4,r5,r6,r7⟩:=cs8 Br;have ltr_1:=ae Br.out;obtain⟨fr0,fr1,fr2,fr3,fr4,fr5⟩:=gI;have fr6:=av Br.out 6;have fr7:=av Br.out 7;have hrs:=ae Bs.out;have hrl:w.heap.size+1<w1.heap.size:=ae Br.out;go_wp2;exact bodyPost_ret (v:=.tuple #[.agg #[.string u.n,.int .i64 u.c,.string u.z,.string u.k,.bool u.x,.string u.m,.bool u.y,.slice va vl vc],.nilIface]) (by simp[results,Tryz.results167,go_sem, *]) rfl ⟨Below.alloc (sb1 (sb1 (sb1 (sb1 (sb1 (sb1 (sb1 (sb1 (HB.out))))))))) nv _,.inr ⟨u,va,vl,vc,HBV.out,rfl,HT.aM (fun k hk s=>by have s1:w.heap.size+1+1<=k:=s;exact (Fw _ _ _ (by simpa using hk)).trans (by rw[Fm _ _ _ _ (show k≠w.heap.size+1 by omega),Fm _ _ _ _ (show k≠w.heap.size+1 by omega),Fm _ _ _ _ (show k≠w.heap.size+1 by omega),Fm _ _ _ _ (show k≠w.heap.size+1 by omega),Fm _ _ _ _ (show k≠w.heap.size+1 by omega),Fm _ _ _ _ (show k≠w.heap.size+1 by omega),Fm _ _ _ _ (show k≠w.heap.size+1 by omega),Fm _ _ _ _ (show k≠w.heap.size+1 by omega)])) (fun k _ s=>by have s1:w.heap.size+1+1<=k:=s;show w.heap.size<=k;omega)⟩⟩

theorem tK (d:Ad) (c:Cl) (x:Xd) (t:ByteArray) (j:Nat) (k:Kd) (zo:ByteArray) (E:Nat->Addr) (w:World) (hr:aJ w d c.raw) (hG:Ers w E) (hT:aB c) (hx:fI x.n x.z x.k x.v) (hk:c.ks[j]?=some k) (hkn:k.n=x.k) (ht:t=⟨#[]⟩\/aO t) (hzo:zo=aW t k.z):
  Calls Tryz.prog 168 #[.agg #[.slice d.a1 d.l1 d.c1,.slice d.a2 d.l2 d.c2,.slice d.a3 d.l3 d.c3,.slice d.a4 d.l4 d.c4,.slice d.a5 d.l5 d.c5,.int .i64 c.now,.string x.n,.int .i64 x.z,.string x.k,.bool x.x,.string x.v,.string t]] w fun e w'=>Below w.heap.size w w'/\((¬ed x k t/\e=.returned (.tuple #[.agg #[.string ⟨#[]⟩,.int .i64 0,.string ⟨#[]⟩,.string ⟨#[]⟩,.bool false,.string ⟨#[]⟩,.bool false,.slice none 0 0],.iface 266 (.pointer (some (E 2)))]))\/(ed x k t/\((∃i,i<9/\((i=3/\hit Vd.n c.vs (aD++x.n)=true)\/(i=4/\hit Vd.n c.vs (aD++x.n)=false/\¬c.vs.length<8))/\e=.returned (.tuple #[.agg #[.string (aD++x.n),.int .i64 x.z,.string zo,.string x.k,.bool x.x,.string x.n,.bool false,.slice none 0 0],.iface 266 (.pointer (some (E i)))]))\/(hit Vd.n c.vs (aD++x.n)=false/\c.vs.length<8/\e=.returned (.tuple #[.agg #[.string (aD++x.n),.int .i64 x.z,.string zo,.string x.k,.bool x.x,.string x.n,.bool false,.slice none 0 0],.nilIface]))))):=by
 have HR:=aa hr;have HE:=aa hG;have HT:=aa hT;have HK:=aa (Fl hk hkn);have hko:=hT.2.1.2.1.2.1 j k hk;have HKO:=aa hko;have HXO:=aa hx;have HTZ:=aa ht;have HZO:=aa hzo;have HB:=aa (Ft w.heap.size w);clear hr hG hT hx hk hkn ht hzo hko;go_enter Tryz.func168,Tryz.ntmps168;go_wp2_with fail;refine (ig d c.now c.ks x.k w _ HR.k (HB.trans ((aF _ _ _).mono HB.size))).mono ?_;rintro e w1 ⟨hb,hf⟩;obtain⟨HA0,HA1,hbx⟩:=cG hb;have Bs:=aa HA0;have Br:=aa HA1;replace HB:=upB HB hbx;clear hb hbx HA0 HA1;have hit9:=cM HT.2.1.2.1.2.2 HK.1 HK.2;rcases hf with ⟨hh,n9,hx,hn9,rfl,zk0,zk3⟩|⟨hh,rfl⟩;rotate_left
 ·rw[hit9.2] at hh;cases hh
 obtain⟨-,rfl⟩:=HT.2.1.2.1.2.2.inj HK.1 hx (HK.2.trans hn9.symm);have HZK:=aa (Fl zk0 zk3);clear hx hn9 hh hit9 zk0 zk3;by_cases hte:t=⟨#[]⟩
 ·have hq:=cU hte;have hzk:zo=k.z:=by rw[HZO.out];unfold aW;rw[if_pos hte]
  have HTE:=aa hte;clear hte;subst hzk;obtain⟨s0,s1,s2,s3,s4,s5,s6,s7,s8,s9,s10,s11⟩:=lB Bs.out;have lts:=ae Bs.out;go_wp2_with fail;clear s0 s1 s2 s3 s4 s5 s6 s7 s8 s9 s10 s11 lts;have hxn:=HXO.1.2.1;have hxk:=HXO.2.2.1.2.1;have hxv:x.v.size<=9223372036854775807:=by
   rcases HXO.2.2.2 with h1|h1
   ·rw[h1];decide
   ·have h2:=h1.2.1;omega
  have hz20:(k.z).size<=20:=by
   rcases HKO.2 with h1|h1
   ·rw[h1];decide
   ·have h2:=h1.2.1;omega
  have hzn:¬k.z=⟨#[]⟩->aO k.z:=fun h9=>HKO.2.resolve_left h9;have HZN:=aa hzn;clear hzn;refine (lu x.n x.z x.k x.x x.v k.n k.x k.y k.z k.z _ af af hxv HZK.1 HZK.2 af).mono ?_;rintro e w2 ⟨n0,c0,z0,k0,x0,m0,p0,rfl,hIs,hb⟩;obtain⟨HA0,hbx⟩:=aL hb;replace Bs:=upK Bs hbx;replace Br:=upK Br hbx;have Bc:=aa HA0;replace HB:=upB HB hbx;clear hb hbx HA0;have hmay:ed x k t↔¬k.z=⟨#[]⟩/\ia x.n x.k x.v k.n k.z (k.z):=by unfold ed;rw[<-HZO.out]
  have HMY:=aa hmay;clear hmay;rcases hIs with ⟨h,-,-⟩|⟨-,h,hz,rfl⟩|⟨-,-,h,hz,rfl⟩|⟨-,hR,hM,hz,rfl⟩
  ·omega
  ·exact wJ
  ·have HNM:Hid (¬ed x k t):=fun h9=>h (HMY.1 h9).2;exact Dj
  have HMV:Hid (ed x k t):=HMY.2 ⟨fun h9=>by have h1:=hR.2.2.1;rw[h9] at h1;exact absurd h1 aj,hM⟩;obtain⟨rfl,rfl,hz0,rfl,rfl,rfl⟩:=hz;replace hz0:=hz0.symm;subst hz0;clear hR hM;obtain⟨r0,r1,r2,r3,r4,r5,r6,r7⟩:=cs8 Br;have ltr_2:=ae Br.out;obtain⟨s0,s1,s2,s3,s4,s5,s6,s7,s8,s9,s10,s11⟩:=lB Bs.out;have lts:=ae Bs.out;go_wp2_with fail;clear s0 s1 s2 s3 s4 s5 s6 s7 s8 s9 s10 s11 lts;clear r0 r1 r2 r3 r4 r5 r6 r7 ltr_2;obtain⟨W,hW0⟩:∃W,W=w2.alloc (.cells #[.string (aD++x.n),.int .i64 x.z,.string k.z,.string x.k,.bool x.x,.string x.n,.bool false,.slice none 0 0,.int .i64 0] 238):=⟨_,rfl⟩;have BsW:=aa ((Fw w2 (.cells #[.string (aD++x.n),.int .i64 x.z,.string k.z,.string x.k,.bool x.x,.string x.n,.bool false,.slice none 0 0,.int .i64 0] 238) _ (ae Bs.out)).trans Bs.out);have BrW:=aa ((Fw w2 (.cells #[.string (aD++x.n),.int .i64 x.z,.string k.z,.string x.k,.bool x.x,.string x.n,.bool false,.slice none 0 0,.int .i64 0] 238) _ (ae Br.out)).trans Br.out);have BfW:=aa (heap_alloc_new w2 (.cells #[.string (aD++x.n),.int .i64 x.z,.string k.z,.string x.k,.bool x.x,.string x.n,.bool false,.slice none 0 0,.int .i64 0] 238));have HBW:=aa (HB.trans ((al w2 (.cells #[.string (aD++x.n),.int .i64 x.z,.string k.z,.string x.k,.bool x.x,.string x.n,.bool false,.slice none 0 0,.int .i64 0] 238)).mono HB.size));rw[<-hW0] at BsW BrW BfW HBW ⊢;have h28:c.vs.length<=9223372036854775807:=by have:=HT.sm.v;omega
  clear hW0;rename_i K0 hK0;refine Gu.pb ar rfl rfl rfl ar ?_;refine' Gu.au.an _ rfl ?_ ?_;rotate_left 1
  ·exact dY
  refine' Gu.au.an _ rfl ?_ ?_;rotate_left 1
  ·exact vY
  refine' Gu.au.an _ rfl ?_ ?_;rotate_left 1
  ·exact ga
  refine' Gu.au.an _ rfl ?_ ?_;rotate_left 1
  ·exact qf
  refine' Gu.au.an _ rfl ?_ ?_;rotate_left 1
  ·exact xp
  refine' Gu.au.an _ rfl ?_ ?_;rotate_left 1
  ·exact dY
  refine' Gu.au.an _ rfl ?_ ?_;rotate_left 1
  ·exact w_
  refine' Gu.au.an _ rfl ?_ ?_;rotate_left 1
  ·exact vX
  refine Gu.au.step (ErF c x E) rfl (ErF.mono c x E) ?_ ?_
  ·exact CV
  refine Gu.au.done ?_;intro q wz hW hf;simp only[FJ] at hf;obtain⟨h41,h40,h39,h38,h37,h36,h35,h34,h33,-⟩:=hf;obtain⟨v9,hv9⟩:∃v9,q 41=v9:=⟨_,rfl⟩;have h41':ErF c x E v9 wz:=by rw[<-hv9];exact h41
  have HER:=aa h41';have HWZ:=aa hW;have Br6:=upK BrW hW;clear h41 h41' hW;obtain⟨r0,r1,r2,r3,r4,r5,r6,r7⟩:=cs8 Br6;obtain⟨fr0,fr1,fr2,fr3,fr4,fr5,fr6,fr7,hrl⟩:=sk;intro K hK;rw[if_pos bJ];simp only[aE,Gd,GG,Fy,FF,FL,h40,h39,h38,h37,h36,h35,h34,h33,hv9];go_simp;refine hK _ _ ?_;clear hK K;intro K hK;rw[if_pos bJ];go_simp;refine hK _ _ ?_;refine hK0 _ _ ?_;clear hK hK0 K K0;go_wp2;rcases HER.out with ⟨i,hi9,hwhy,rfl⟩|⟨hh,h8,rfl⟩
  ·exact bodyPost_ret (v:=.tuple #[.agg #[.string (aD++x.n),.int .i64 x.z,.string k.z,.string x.k,.bool x.x,.string x.n,.bool false,.slice none 0 0],.iface 266 (.pointer (some (E i)))]) nt rfl ⟨sb1 (sb1 (sb1 (sb1 (sb1 (sb1 (sb1 (sb1 (HBW.trans (HWZ.mono HBW.size))))))))),.inr ⟨HMV.out,.inl ⟨i,hi9,hwhy,rfl⟩⟩⟩
  ·exact bodyPost_ret (v:=.tuple #[.agg #[.string (aD++x.n),.int .i64 x.z,.string k.z,.string x.k,.bool x.x,.string x.n,.bool false,.slice none 0 0],.nilIface]) nt rfl ⟨sb1 (sb1 (sb1 (sb1 (sb1 (sb1 (sb1 (sb1 (HBW.trans (HWZ.mono HBW.size))))))))),.inr ⟨HMV.out,.inr ⟨hh,h8,rfl⟩⟩⟩
 ·have hq:=bc hte;have hzk:t=zo:=by rw[HZO.out];unfold aW;rw[if_neg hte]
  have HTE:=aa hte;clear hte;subst hzk;obtain⟨s0,s1,s2,s3,s4,s5,s6,s7,s8,s9,s10,s11⟩:=lB Bs.out;have lts:=ae Bs.out;go_wp2_with fail;clear s0 s1 s2 s3 s4 s5 s6 s7 s8 s9 s10 s11 lts;have hxn:=HXO.1.2.1;have hxk:=HXO.2.2.1.2.1;have hxv:x.v.size<=9223372036854775807:=by
   rcases HXO.2.2.2 with h1|h1
   ·rw[h1];decide
   ·have h2:=h1.2.1;omega
  have hz20:(t).size<=20:=by
   rcases HTZ.out with h1|h1
   ·rw[h1];decide
   ·have h2:=h1.2.1;omega
  have hzn:¬t=⟨#[]⟩->aO t:=fun h9=>HTZ.resolve_left h9;have HZN:=aa hzn;clear hzn;refine (lu x.n x.z x.k x.x x.v k.n k.x k.y k.z t _ af af hxv HZK.1 HZK.2 af).mono ?_;rintro e w2 ⟨n0,c0,z0,k0,x0,m0,p0,rfl,hIs,hb⟩;obtain⟨HA0,hbx⟩:=aL hb;replace Bs:=upK Bs hbx;replace Br:=upK Br hbx;have Bc:=aa HA0;replace HB:=upB HB hbx;clear hb hbx HA0;have hmay:ed x k t↔¬t=⟨#[]⟩/\ia x.n x.k x.v k.n k.z (t):=by unfold ed;rw[<-HZO.out]
  have HMY:=aa hmay;clear hmay;rcases hIs with ⟨h,-,-⟩|⟨-,h,hz,rfl⟩|⟨-,-,h,hz,rfl⟩|⟨-,hR,hM,hz,rfl⟩
  ·omega
  ·exact wJ
  ·have HNM:Hid (¬ed x k t):=fun h9=>h (HMY.1 h9).2;exact Dj
  have HMV:Hid (ed x k t):=HMY.2 ⟨fun h9=>by have h1:=hR.2.2.1;rw[h9] at h1;exact absurd h1 aj,hM⟩;obtain⟨rfl,rfl,hz0,rfl,rfl,rfl⟩:=hz;replace hz0:=hz0.symm;subst hz0;clear hR hM;obtain⟨r0,r1,r2,r3,r4,r5,r6,r7⟩:=cs8 Br;have ltr_2:=ae Br.out;obtain⟨s0,s1,s2,s3,s4,s5,s6,s7,s8,s9,s10,s11⟩:=lB Bs.out;have lts:=ae Bs.out;go_wp2_with fail;clear s0 s1 s2 s3 s4 s5 s6 s7 s8 s9 s10 s11 lts;clear r0 r1 r2 r3 r4 r5 r6 r7 ltr_2;obtain⟨W,hW0⟩:∃W,W=w2.alloc (.cells #[.string (aD++x.n),.int .i64 x.z,.string t,.string x.k,.bool x.x,.string x.n,.bool false,.slice none 0 0,.int .i64 0] 238):=⟨_,rfl⟩;have BsW:=aa ((Fw w2 (.cells #[.string (aD++x.n),.int .i64 x.z,.string t,.string x.k,.bool x.x,.string x.n,.bool false,.slice none 0 0,.int .i64 0] 238) _ (ae Bs.out)).trans Bs.out);have BrW:=aa ((Fw w2 (.cells #[.string (aD++x.n),.int .i64 x.z,.string t,.string x.k,.bool x.x,.string x.n,.bool false,.slice none 0 0,.int .i64 0] 238) _ (ae Br.out)).trans Br.out);have BfW:=aa (heap_alloc_new w2 (.cells #[.string (aD++x.n),.int .i64 x.z,.string t,.string x.k,.bool x.x,.string x.n,.bool false,.slice none 0 0,.int .i64 0] 238));have HBW:=aa (HB.trans ((al w2 (.cells #[.string (aD++x.n),.int .i64 x.z,.string t,.string x.k,.bool x.x,.string x.n,.bool false,.slice none 0 0,.int .i64 0] 238)).mono HB.size));rw[<-hW0] at BsW BrW BfW HBW ⊢;have h28:c.vs.length<=9223372036854775807:=by have:=HT.sm.v;omega
  clear hW0;rename_i K0 hK0;refine Gu.pb ar rfl rfl rfl ar ?_;refine' Gu.au.an _ rfl ?_ ?_;rotate_left 1
  ·exact dY
  refine' Gu.au.an _ rfl ?_ ?_;rotate_left 1
  ·exact vY
  refine' Gu.au.an _ rfl ?_ ?_;rotate_left 1
  ·exact ga
  refine' Gu.au.an _ rfl ?_ ?_;rotate_left 1
  ·exact qf
  refine' Gu.au.an _ rfl ?_ ?_;rotate_left 1
  ·exact xp
  refine' Gu.au.an _ rfl ?_ ?_;rotate_left 1
  ·exact dY
  refine' Gu.au.an _ rfl ?_ ?_;rotate_left 1
  ·exact w_
  refine' Gu.au.an _ rfl ?_ ?_;rotate_left 1
  ·exact vX
  refine Gu.au.step (ErF c x E) rfl (ErF.mono c x E) ?_ ?_
  ·exact CV
  refine Gu.au.done ?_;intro q wz hW hf;simp only[FJ] at hf;obtain⟨h41,h40,h39,h38,h37,h36,h35,h34,h33,-⟩:=hf;obtain⟨v9,hv9⟩:∃v9,q 41=v9:=⟨_,rfl⟩;have h41':ErF c x E v9 wz:=by rw[<-hv9];exact h41
  have HER:=aa h41';have HWZ:=aa hW;have Br6:=upK BrW hW;clear h41 h41' hW;obtain⟨r0,r1,r2,r3,r4,r5,r6,r7⟩:=cs8 Br6;obtain⟨fr0,fr1,fr2,fr3,fr4,fr5,fr6,fr7,hrl⟩:=sk;intro K hK;rw[if_pos bJ];simp only[aE,Gd,GG,Fy,FF,FL,h40,h39,h38,h37,h36,h35,h34,h33,hv9];go_simp;refine hK _ _ ?_;clear hK K;intro K hK;rw[if_pos bJ];go_simp;refine hK _ _ ?_;refine hK0 _ _ ?_;clear hK hK0 K K0;go_wp2;rcases HER.out with ⟨i,hi9,hwhy,rfl⟩|⟨hh,h8,rfl⟩
  ·exact bodyPost_ret (v:=.tuple #[.agg #[.string (aD++x.n),.int .i64 x.z,.string t,.string x.k,.bool x.x,.string x.n,.bool false,.slice none 0 0],.iface 266 (.pointer (some (E i)))]) nt rfl ⟨sb1 (sb1 (sb1 (sb1 (sb1 (sb1 (sb1 (sb1 (HBW.trans (HWZ.mono HBW.size))))))))),.inr ⟨HMV.out,.inl ⟨i,hi9,hwhy,rfl⟩⟩⟩
  ·exact bodyPost_ret (v:=.tuple #[.agg #[.string (aD++x.n),.int .i64 x.z,.string t,.string x.k,.bool x.x,.string x.n,.bool false,.slice none 0 0],.nilIface]) nt rfl ⟨sb1 (sb1 (sb1 (sb1 (sb1 (sb1 (sb1 (sb1 (HBW.trans (HWZ.mono HBW.size))))))))),.inr ⟨HMV.out,.inr ⟨hh,h8,rfl⟩⟩⟩

theorem ln (a:Option Addr) (n cap i base vb:Nat) (X ys:List Value) (w:World) (ho:w.ownsRow base 105 5 (.slice a n cap) n X) (hn:n<=8) (hin:i<=n) (hbs:base<=w.heap.size) (hy:w.heap[vb]?=some (.cells ys.toArray 105 (0,0))) (hyl:ys.length=5) (hy1:∀u∈ys,u.oneCell'=true) (hX1:∀u∈X,u.oneCell'=true) (hne:∀g,a=some ⟨g,0,none⟩->¬vb=g):
  Calls Tryz.prog 207 #[.slice a n cap,.int .i64 i,.slice (some ⟨vb,0,none⟩) 1 1] w fun e w'=> ∃v',e=.returned v'/\w'.ownsRow base 105 5 v' (n+1) (X.take (i*5)++ys++X.drop (i*5))/\w.grownBy w' ((.slice a n cap:Value).ownBlock):=by
 obtain⟨i0,hi,hz0,hz1,hz2⟩:=info_parts iH;have HI0:=aa (Fl hi (Fl hz0 (Fl hz1 hz2)));clear hi hz0 hz1 hz2;have hXl:=ho.1;have hnc:n<=cap/\cap<=9223372036854775807:=by
  exact qD
 have hyn:∀(j:Nat) u,ys[j]?=some u->w.cell? ((⟨vb,0,none⟩:Addr).add j)=some u:=fun j u hu=>by
  rw[FQ,aw hy,FV];simpa using hu
 have HYN:=aa hyn;have HO:=aa ho;have HY:=aa hy;have hvl:=ae hy;have HX1:=aa hX1;have HY1:=aa hy1;clear hyn ho hy hX1 hy1;by_cases hie:i=n
 ·subst hie;have e1:X.take (i*5)++ys++X.drop (i*5)=X++ys:=by rw[FD af,List.drop_of_length_le af,GA]
  rw[e1];clear e1;have hc0:=hnc.1;have hq:cap=i\/¬cap=i:=Classical.em _;rcases hq with rfl|hcap
  ·exact CR
  ·exact CR
 have hil:i<n:=af
 obtain⟨g,cur,rfl,hbg,hg,hcs,htk⟩:∃g cur,a=some ⟨g,0,none⟩/\base<=g/\w.heap[g]?=some (.cells cur 105 (0,0))/\cur.size=cap*5/\cur.toList.take (n*5)=X:=by
  exact qJ
 have hvg:=hne g rfl;clear hne;have hcell:∀(j:Nat) u,X[j]?=some u->w.cell? ⟨g,j,none⟩=some u:=fun j u hj=>by
  exact qy
 have hdl:(X.drop (i*5)).length=(n - i)*5:=uK
 have hgl:=ae hg;by_cases hroom:n+1<=cap
 ·have hcp1:∀ty dc sc,(GI #[202,202] ty #[.slice (some ⟨g,(i+1)*5,none⟩) (n - i) dc,.slice (some ⟨g,i*5,none⟩) (n+1 - i) sc]).run Tryz.prog w.drew=.ok (goInt (Nat.min (n+1 - i) (n - i))) (w.drew.setRow g (cur.toList.take ((i+1)*5)++X.drop (i*5)++cur.toList.drop ((i+1)*5+(X.drop (i*5)).length)).toArray):=fun ty dc sc=>
   bp w.drew 202 202 ty 105 g ((i+1)*5) (n - i) dc ⟨g,i*5,none⟩ (n+1 - i) sc 5 cur 105 (X.drop (i*5)) i0 Tryz.underlying202 HI0.1 HI0.2.2.1 hg kX (fun j u hj=>by
    rw[Gj] at hj;rw[FQ]
    exact hcell _ u hj) (by rw[hdl,hcs];omega) (fun u hu=>HX1.out u (GW hu))
  obtain⟨cur1,hcur1⟩:∃c1:List Value,c1=cur.toList.take ((i+1)*5)++X.drop (i*5)++cur.toList.drop ((i+1)*5+(X.drop (i*5)).length):=⟨_,rfl⟩;rw[<-hcur1] at hcp1;have hc1l:cur1.length=cap*5:=by rw[hcur1];simp only[F5,FO,GD,hXl,Array.length_toList,hcs];omega
  obtain⟨W1,hW1⟩:∃W1,W1=w.drew.setRow g cur1.toArray:=⟨_,rfl⟩;rw[<-hW1] at hcp1;have hg1:W1.heap[g]?=some (.cells cur1.toArray 105 (0,0)):=by rw[hW1];exact setRow_heap w.drew g _ _ 105 _ hg
  have hv1:W1.heap[vb]?=w.heap[vb]?:=by rw[hW1];exact setRow_other w.drew g vb _ hvg
  have hcp2:∀ty dc,(GI #[202,33] ty #[.slice (some ⟨g,i*5,none⟩) (n+1 - i) dc,.slice (some ⟨vb,0,none⟩) 1 1]).run Tryz.prog W1=.ok (goInt (Nat.min 1 (n+1 - i))) (W1.setRow g (cur1.take (i*5)++ys++cur1.drop (i*5+ys.length)).toArray):=fun ty dc=>by
   have:=bp W1 202 33 ty 105 g (i*5) (n+1 - i) dc ⟨vb,0,none⟩ 1 1 5 cur1.toArray 105 ys i0 Tryz.underlying202 HI0.1 HI0.2.2.1 hg1 kW (fun j u hj=>by
    rw[FQ,aw (hv1.trans HY.out),FV]
    simpa using hj) uP HY1.out
   simpa using this
  have hov:∀lb cb,(callFunc 217 #[.slice (some ⟨vb,0,none⟩) 1 1,.slice (some ⟨g,(i+1)*5,none⟩) lb cb]).run Tryz.prog w=.ok (.value (.bool false)) w:=fun lb cb=>by
   rw[run_callFunc_extern Tryz.func217 ar ar ar (e:=Hj #[33,33] #[4]) ar,
    Lib.run_overlaps_apart w 33 4 105 Tryz.underlying33 5 (fun w=>by kernel_rfl) ⟨vb,0,none⟩ ⟨g,(i+1)*5,none⟩ 1 1 lb cb hvg 105 105 ys.toArray.size cur.size (by simp[World.shape?,HY.out]) (by simp[World.shape?,hg]) (Nat.ne_of_gt (by rw[hcs];omega)) (av HY.out _) (av HY.out _)]
   rfl
  obtain⟨hb2,hb4,hb6,mixed,hw1,hb1,hin,htn,hb3,HG1,HW1,HC1,HTK⟩:=vt;clear hg hg1 hW1 hcur1 htk hv1 hcell hdl hie;go_enter Tryz.func207,Tryz.ntmps207;go_wp2_with (simp only[hov]);go_region_law_o (refine cF rfl _ _ 202 202 rfl _ _ eU eU (hcp1 (3) (cap - (i+1)) (cap - i)) ?_);go_wp2_with (at_builtin;refine bV _ rfl _ _ 202 33 rfl _ _ rfl rfl (hcp2 _ _) ?_);go_ret;refine⟨_,rfl,⟨?_,Or.inr ⟨g,cap,(cur1.take (i*5)++(ys++cur1.drop (i*5+5))).toArray,rfl,hbg,setRow_heap W1 g _ _ _ _ HG1.out,hroom,by unfold maxLen;omega,?_,?_⟩⟩,?_⟩
  ·exact iB
  ·exact qx
  ·have e:=kh (a:=i*5) (b:=n*5) (c:=cap*5) (m:=5) (c1:=cur1) HTK.out (by rw[Array.length_toList,hcs]) af af hyl (by rw[HC1.out,show (i+1)*5=i*5+5 by omega]);rw[show (n+1)*5=n*5+5 by omega];simpa using e
  ·exact vI
 have hcn:cap=n:=af
 subst hcn;obtain⟨N,hN⟩:∃N,N=w.heap.size:=⟨_,rfl⟩;obtain⟨G,hG⟩:∃G,G=grownCap w (cap+1) cap 105:=⟨_,rfl⟩;obtain⟨ROW,hROW⟩:∃R:Array Value,R=(X.take (i*5)).toArray++G4 (.agg #[.string ⟨#[]⟩,.int .i64 0,.string ⟨#[]⟩,.bool false,.string ⟨#[]⟩]:Value).cells (cap+1 - i)++G4 (.agg #[.string ⟨#[]⟩,.int .i64 0,.string ⟨#[]⟩,.bool false,.string ⟨#[]⟩]:Value).cells (G - (cap+1)):=⟨_,rfl⟩;obtain⟨W1,hW1⟩:∃W1,W1=w.drew.alloc (.cells ROW 105):=⟨_,rfl⟩;have hGn:cap+1<=G:=by rw[hG];exact grownCap_ge w _ _ _
 have hG63:G<=9223372036854775807:=by
  have:=grownCap_le_maxLen w (cap+1) cap 105 cC;rw[<-hG] at this;unfold maxLen at this;omega
 have hRs:ROW.size=G*5:=by
  rw[hROW];simp only[Array.size_append,List.size_toArray,FO,size_zeroCells,hXl];rw[show (.agg #[.string ⟨#[]⟩,.int .i64 0,.string ⟨#[]⟩,.bool false,.string ⟨#[]⟩]:Value).cells.size=5 from rfl];omega
 have hRt:ROW.toList.take (i*5)=X.take (i*5):=by
  exact qF
 have hrz:∀ty,(Gw #[202,3] ty #[.slice (some ⟨g,0,none⟩) i cap,.int .i64 ((cap:Int)+1 - (i:Int))]).run Tryz.prog w=.ok (.slice (some ⟨N,0,none⟩) (cap+1) G) W1:=fun ty=>by
  have hold:(Builtin.firstCells i0.size i (.slice (some ⟨g,0,none⟩) i cap)).run Tryz.prog w.drew=.ok (X.take (i*5)).toArray w.drew:=by
   rw[HI0.2.2.1];exact run_firstCells_some w.drew 5 i ⟨g,0,none⟩ i cap (X.take (i*5)) jI (fun j v hj=>by
    rw[FQ,FV];rw[FP] at hj
    split at hj
    ·exact hcell j v hj
    ·cases hj)
  have h:=Lib.run_append_grow_zeros w 202 3 ty 105 i0 _ .i64 .i64 Tryz.underlying202 Tryz.underlying3 HI0.1 HI0.2.1 (some ⟨g,0,none⟩) i cap (X.take (i*5)) hold (cap+1 - i) af (by rw[HI0.2.2.1];decide) af af (by rw[HI0.2.2.2];omega) uS;exact vA
 have hgN:W1.heap[N]?=some (.cells ROW 105 (0,0)):=by rw[hW1,hN];exact Go.heap_alloc_new w.drew _
 obtain⟨hg1,hv1⟩:=vg;obtain⟨R2,hR2⟩:∃R2:List Value,R2=ROW.toList.take (i*5)++ys++ROW.toList.drop (i*5+ys.length):=⟨_,rfl⟩;obtain⟨W2,hW2⟩:∃W2,W2=W1.setRow N R2.toArray:=⟨_,rfl⟩;have hcpA:∀ty dc,(GI #[202,33] ty #[.slice (some ⟨N,i*5,none⟩) (cap+1 - i) dc,.slice (some ⟨vb,0,none⟩) 1 1]).run Tryz.prog W1=.ok (goInt (Nat.min 1 (cap+1 - i))) W2:=fun ty dc=>by
  rw[hW2,hR2];exact bp W1 202 33 ty 105 N (i*5) (cap+1 - i) dc ⟨vb,0,none⟩ 1 1 5 ROW 105 ys i0 Tryz.underlying202 HI0.1 HI0.2.2.1 hgN kW (fun j u hj=>by
   rw[FQ,aw (hv1.trans HY.out),FV]
   simpa using hj) (by rw[hRs,hyl];omega) HY1.out
 have hR2l:R2.length=G*5:=by
  exact qC
 have hgN2:W2.heap[N]?=some (.cells R2.toArray 105 (0,0)):=by rw[hW2];exact setRow_heap W1 N _ _ 105 _ hgN
 obtain⟨hgn,hg2⟩:=uW;obtain⟨R3,hR3⟩:∃R3:List Value,R3=R2.take ((i+1)*5)++X.drop (i*5)++R2.drop ((i+1)*5+(X.drop (i*5)).length):=⟨_,rfl⟩;obtain⟨W3,hW3⟩:∃W3,W3=W2.drew.setRow N R3.toArray:=⟨_,rfl⟩;have hcpB:∀ty dc sc,(GI #[202,202] ty #[.slice (some ⟨N,(i+1)*5,none⟩) (cap - i) dc,.slice (some ⟨g,i*5,none⟩) (cap - i) sc]).run Tryz.prog W2.drew=.ok (goInt (Nat.min (cap - i) (cap - i))) W3:=fun ty dc sc=>by
  have:=bp W2.drew 202 202 ty 105 N ((i+1)*5) (cap - i) dc ⟨g,i*5,none⟩ (cap - i) sc 5 R2.toArray 105 (X.drop (i*5)) i0 Tryz.underlying202 HI0.1 HI0.2.2.1 hgN2 kX (fun j u hj=>by
   rw[Gj] at hj;have hc:=hcell _ u hj;rw[FQ];rw[<-hc]
   exact F8 (w:=w) (w':=W2.drew) hg2) uL (fun u hu=>HX1.out u (GW hu))
  rw[hW3,hR3];simpa only[List.toList_toArray] using this
 have hW3o:∀k,¬k=N->W3.heap[k]?=W1.heap[k]?:=fun k hk=>by rw[hW3,setRow_other W2.drew N k _ hk];exact (congrArg (fun z:World=>z.heap[k]?) hW2).trans (setRow_other W1 N k _ hk)
 have hfin:w.grownBy W3 (some g):=by
  exact wm
 have hrow:W3.ownsRow base 105 5 (.slice (some ⟨N,0,none⟩) (cap+1) G) (cap+1) (X.take (i*5)++ys++X.drop (i*5)):=by
  refine⟨?_,Or.inr ⟨N,G,R3.toArray,rfl,by omega,by rw[hW3];exact setRow_heap W2.drew N _ _ 105 _ hgN2,hGn,by unfold maxLen;omega,?_,?_⟩⟩
  ·exact iB
  ·exact qB
  ·have e:=iK (a:=i*5) (b:=cap*5) (m:=5) (R2:=R2) hRt hXl af hyl hR2 (R2.drop ((i+1)*5+(X.drop (i*5)).length));rw[hR3,show (cap+1)*5=cap*5+5 by omega,show (i+1)*5=i*5+5 by omega];rw[show (i+1)*5=i*5+5 by omega] at e;simpa using e
 obtain⟨hGi,hGim,hci,hz2,hz3,mixed,hw1,hb1,hin,htn,hb3,HF⟩:=vu;clear hN hrow hfin hW3o hW3 hW2 hR3 hg2 hgN2 hR2l hR2 hv1 hg1 hgN hRt hRs hW1 hROW hG hcell hdl hie hg htk hcs HO;go_enter Tryz.func207,Tryz.ntmps207;go_wp2_with (first
  | (at_builtin;refine Lib.wpList_append_run _ rfl _ _ _ _ rfl _ _ rfl rfl _ _ (hrz _) ?_)
  | (at_builtin;refine bV _ rfl _ _ 202 33 rfl _ _ rfl rfl (hcpA _ _) ?_))

 go_region_law_o (refine cF rfl _ _ 202 202 rfl _ _ eU eU (hcpB 3 (G - (i+1)) (cap - i)) ?_)
 go_wp2
 go_ret;exact⟨_,rfl,HF.1,HF.2⟩

theorem iX (a:Option Addr) (n cap:Nat) (X:List Value) (w:World) (hn:n<=8) (hXl:X.length=n*5) (hX1:∀u∈X,u.oneCell'=true) (hXc:∀(j:Nat) u,X[j]?=some u->∃g,a=some ⟨g,0,none⟩/\w.cell? ⟨g,j,none⟩=some u):
  Calls Tryz.prog 208 #[.slice a n cap] w fun e w'=> ∃a' c',e=.returned (.slice a' n c')/\w'.ownsRow w.heap.size 105 5 (.slice a' n c') n X/\Below w.heap.size w w':=by
 obtain⟨i0,hi,hz0,hz1,hz2⟩:=info_parts iH;have HI0:=aa (Fl hi (Fl hz0 (Fl hz1 hz2)));clear hi hz0 hz1 hz2;have HX1:=aa hX1;have HXC:=aa hXc;have heq:=fun w=>Hq w 202 105 a n cap 0 0 Tryz.underlying202;clear hX1 hXc;cases a with
 | none=>
  obtain rfl:X=[]:=by
   rcases X with _|⟨u,X⟩
   ·rfl
   ·obtain⟨g,e,_⟩:=HXC.out 0 u rfl
    cases e
  obtain rfl:n=0:=by simp at hXl;omega
  go_enter Tryz.func208,Tryz.ntmps208
  go_wp2
  go_ret;exact⟨none,0,rfl,Ge _ _ _ _,Ft _ _⟩
 | some ad=>
  obtain⟨ab,ao,asp⟩:=ad
  have hnew:∀(j:Nat) u,X[j]?=some u->(w.alloc (.cells #[] 105)).cell? ((⟨ab,ao,asp⟩:Addr).add j)=some u:=fun j u hu=>by
   obtain⟨g,e,hc⟩:=HXC.out j u hu
   cases e
   rw[FQ,FV];have hlt:=bg hc;rw[<-hc];exact F8 (heap_alloc_old w _ hlt)
  have HN:=aa hnew;have HO:Hid ((w.alloc (.cells #[] 105)).ownsRow w.heap.size 105 5 (.slice (some ⟨w.heap.size,0,none⟩) 0 0) 0 []):=World.ownsRow_made w #[] 0 (Fq _) (Nat.zero_le _) aR;clear hnew HXC
  go_enter Tryz.func208,Tryz.ntmps208
  go_wp2_with (at_builtin;refine bj rfl _ _ 202 202 rfl w.heap.size 105 105 i0 (.agg #[.string ⟨#[]⟩,.int .i64 0,.string ⟨#[]⟩,.bool false,.string ⟨#[]⟩]) 5 64 Tryz.underlying202 Tryz.underlying202 HI0.1 HI0.2.1 HI0.2.2.1 HI0.2.2.2 rfl aj _ _ _ rfl HO.out ⟨ab,ao,asp⟩ n cap X rfl hXl HN.out HX1.out cC af aR ?_)
  intro v' w' h1 h2
  obtain⟨a',c',rfl⟩:∃a' c',v'=.slice a' n c':=by
   rcases h1.2 with ⟨rfl,h0⟩|⟨g,cp,cu,rfl,_⟩
   ·exact⟨none,0,by rw[h0]⟩
   ·exact⟨_,_,rfl⟩
  have H1:=aa h1;have H2:=aa h2;clear h1 h2
  go_wp2
  go_ret;refine⟨a',c',rfl,H1.out,((al w (.cells #[] 105)).grown H2.out aR (fun g hg=>?_))⟩
  simp[GX] at hg
  omega

set_option linter.unusedVariables false in
theorem pd (a:Option Addr) (n cap:Nat) (xs:List Xd) (x:Xd) (hh:Nat) (Q Q2:Nat->Prop) (w:World) (ho:az w a n cap 5 105 (xs.map xdF) Q) (hn:n<=8) (hxf:∀(i:Nat) f,(xdF x)[i]?=some f->∃v,[.string x.n,.int .i64 x.z,.string x.k,.bool x.x,.string x.v][i]?=some v/\f.Fr w hh Q2 v) (hq:∀k,Q k->Q2 k->False):
  Calls Tryz.prog 189 #[.slice a n cap,.agg #[.string x.n,.int .i64 x.z,.string x.k,.bool x.x,.string x.v]] w fun e w'=> ∃a' l' c',e=.returned (.slice a' l' c')/\az w' a' l' c' 5 105 ((br (pl Xd.n xs x.n) x xs).map xdF) (fun k=>(Q k\/Q2 k)\/w.heap.size<=k)/\Below w.heap.size w w':=by
 have HR:=aa ho.row;have hxl:xs.length=n:=jG
 obtain⟨vss,H,hV,hcell⟩:=ho.lS;have hvl:vss.length=n:=by rw[hV.len,FR,hxl]
 have hfl:vss.flatten.length=n*5:=by rw[dr hV.all,hvl]
 have HV:=aa hV;have HC:=aa hcell;have HF:=aa hxf;clear ho hV hcell hxf hq;have hmcalled:∀(v:Value) (w:World),(method 416 105 v "loop.example/g00571/impl.called").run Tryz.prog w=.ok (254,v) w:=fun _ _=>by kernel_rfl
 obtain⟨j,hj⟩:∃j,j=pl Xd.n xs x.n:=⟨_,rfl⟩;have hjn:j<=n:=by rw[hj,<-hxl];exact G3
 have HJ:=aa hj;have HFIN:Hid (∀(w4:World) v4 base,w.heap.size<=base->Below w.heap.size w w4->w4.ownsRow base 105 5 v4 (n+1) (vss.flatten.take (j*5)++[.string x.n,.int .i64 x.z,.string x.k,.bool x.x,.string x.v]++vss.flatten.drop (j*5))->∃a' c',v4=.slice a' (n+1) c'/\az w4 a' (n+1) c' 5 105 ((br (pl Xd.n xs x.n) x xs).map xdF) (fun k=>(Q k\/Q2 k)\/w.heap.size<=k)):=fun w4 v4 base hbs hB4 ho4=>by
  rw[<-iJ HV.all af] at ho4;have hV4:=(HV.below hB4).aM (w':=w4) (S':=fun k=>(Q k\/Q2 k)\/w.heap.size<=k) (fun _ _ _ _=>rfl) (fun _ _ s=>.inl (.inl s));obtain⟨H4,hV5⟩:=hV4.ins (p:=j) (r:=xdF x) (vs:=[.string x.n,.int .i64 x.z,.string x.k,.bool x.x,.string x.v]) (hh:=fun _=>hh) rfl rfl (fun i f hf=>by
   obtain⟨v,h1,h2⟩:=HF.out i f hf
   exact⟨v,h1,h2.aM (fun cu _ q=>hB4.block _ (ae q)) (fun _ s=>.inl (.inr s))⟩) (fun i zs h _=>by rcases i with _|_|_|_|_|i <;> simp[xdF] at h) (fun i i2 zs zs2 h _ _ _=>by rcases i with _|_|_|_|_|i <;> simp[xdF] at h) r_
  have h45:aX w4 (fun k=>(Q k\/Q2 k)\/w.heap.size<=k) 5 ((br j x xs).map xdF) (br j [.string x.n,.int .i64 x.z,.string x.k,.bool x.x,.string x.v] vss) H4:=by rw[kj];exact hV5
  have hle:((br j x xs).map xdF).length=n+1:=by rw[FR,dZ af,hxl]
  exact CM
 have HCL:Hid (∀W,Below w.heap.size w W->∀(k:Nat) u,vss.flatten[k]?=some u->∃g,a=some ⟨g,0,none⟩/\W.cell? ⟨g,k,none⟩=some u):=fun W hW k u hu=>by
  exact qu
 have HV1:=aa HV.one;clear HV HC HF hj;go_enter Tryz.func189,Tryz.ntmps189;go_wp2_with fail;refine (dQ x _).mono ?_;rintro e w1 ⟨rfl,hb1⟩;obtain⟨hn1,hbx⟩:=aL hb1;have HN1:=aa hn1;have HB1:=aa hbx;clear hb1 hn1 hbx;go_wp2_with fail;refine (iU a n cap xs x.n _ (HR.below HB1.out)).mono ?_;rintro e w2 ⟨rfl,hb2⟩;have HN2:=aa ((hb2.block w.heap.size (ae HN1.out)).trans HN1.out);have HB2:=upB HB1 hb2;clear hb2 HN1 HB1;rw[<-HJ.out];generalize hit Xd.n xs x.n=bb;have hs2:=ae HN2.out;have HBD:Hid (Below w.heap.size w w2.drew):=Below.eD HB2.out;obtain⟨n0,n1,n2,n3,n4⟩:=cs5 (show w2.drew.heap[w.heap.size]?=_ from HN2.out);have hcl1:Calls Tryz.prog 208 #[.slice a n cap] w2.drew fun e w3=> ∃a3 c3,e=.returned (.slice a3 n c3)/\Hid (w3.ownsRow w2.heap.size 105 5 (.slice a3 n c3) n vss.flatten)/\Hid (Below w.heap.size w w3)/\w2.heap.size<=w3.heap.size/\w.heap.size<w3.heap.size/\w3.heap[w.heap.size]?=some (.cells (xov x) 105 (0,0)):=by
  refine (iX a n cap vss.flatten w2.drew hn hfl HV1.out (HCL.out _ HBD.out)).mono ?_;exact vJ
 have hcl2:Calls Tryz.prog 208 #[.slice a n cap] (w2.alloc (.cells (xov x) 105)).drew fun e w3=> ∃a3 c3,e=.returned (.slice a3 n c3)/\Hid (w3.ownsRow (w2.heap.size+1) 105 5 (.slice a3 n c3) n vss.flatten)/\Hid (Below w.heap.size w w3)/\w2.heap.size+1<=w3.heap.size/\Hid (w3.heap[w2.heap.size]?=some (.cells (xov x) 105 (0,0))):=by
  have hbl:=Below.eD (HB2.alloc HB2.size (.cells (xov x) 105));have hsz:(w2.alloc (.cells (xov x) 105)).drew.heap.size=w2.heap.size+1:=aR
  refine (iX a n cap vss.flatten _ hn hfl HV1.out (HCL.out _ hbl)).mono ?_;rintro e w3 ⟨a3,c3,rfl,ho3,hb3⟩;have hs3:=hb3.size;rw[hsz] at ho3 hs3;exact⟨a3,c3,rfl,ho3,hbl.trans (hb3.mono hbl.size),hs3,(hb3.block w2.heap.size (by rw[hsz];omega)).trans (show (w2.alloc (.cells (xov x) 105)).drew.heap[w2.heap.size]?=_ from heap_alloc_new w2 _)⟩
 have hin1:∀(w3:World) a3 c3,w3.ownsRow w2.heap.size 105 5 (.slice a3 n c3) n vss.flatten->Below w.heap.size w w3->w2.heap.size<=w3.heap.size->Calls Tryz.prog 207 #[.slice a3 n c3,.int .i64 j,.slice (some ⟨w3.heap.size,0,none⟩) 1 1] (w3.alloc (.cells (xov x) 105)) fun e w4=> ∃a' c',e=.returned (.slice a' (n+1) c')/\Hid (az w4 a' (n+1) c' 5 105 ((br (pl Xd.n xs x.n) x xs).map xdF) (fun k=>(Q k\/Q2 k)\/w.heap.size<=k))/\Hid (Below w.heap.size w w4):=fun w3 a3 c3 ho3 hB3 hs3=>by
  refine (ln a3 n c3 j w2.heap.size w3.heap.size vss.flatten [.string x.n,.int .i64 x.z,.string x.k,.bool x.x,.string x.v] (w3.alloc (.cells (xov x) 105)) (ho3.alloc _) hn hjn bF (heap_alloc_new w3 _) rfl eT HV1.out (fun g hg e=>by
   have h9:=(ho3.lt g (by rw[hg];rfl)).2
   omega)).mono ?_
  rintro e w4 ⟨v4,rfl,ho4,hg4⟩;have hB5:=(hB3.alloc hB3.size (.cells (xov x) 105)).grown hg4 bF (fun g hg=>by
   have h9:=(ho3.lt g hg).1
   omega)
  exact sy
 have hin2:∀(w3:World) a3 c3,w3.ownsRow (w2.heap.size+1) 105 5 (.slice a3 n c3) n vss.flatten->Below w.heap.size w w3->w2.heap.size+1<=w3.heap.size->w3.heap[w2.heap.size]?=some (.cells (xov x) 105 (0,0))->Calls Tryz.prog 207 #[.slice a3 n c3,.int .i64 j,.slice (some ⟨w2.heap.size,0,none⟩) 1 1] w3 fun e w4=> ∃a' c',e=.returned (.slice a' (n+1) c')/\Hid (az w4 a' (n+1) c' 5 105 ((br (pl Xd.n xs x.n) x xs).map xdF) (fun k=>(Q k\/Q2 k)\/w.heap.size<=k))/\Hid (Below w.heap.size w w4):=fun w3 a3 c3 ho3 hB3 hs3 hy3=>by
  refine (ln a3 n c3 j (w2.heap.size+1) w2.heap.size vss.flatten [.string x.n,.int .i64 x.z,.string x.k,.bool x.x,.string x.v] w3 ho3 hn hjn hs3 hy3 rfl eT HV1.out (fun g hg e=>by
   have h9:=(ho3.lt g (by rw[hg];rfl)).1
   omega)).mono ?_
  exact p_
 have C1:=aa hcl1;have C2:=aa hcl2;have I1:=aa hin1;have I2:=aa hin2;clear hcl1 hcl2 hin1 hin2 HFIN HCL HR HJ HBD HB2;have mixed:Tryz.prog.follows .mixedOrders=true:=ar
 go_wp2;go_region_with (first
  | (go_at_call 208;refine C1.mono ?_;rintro e w3 ⟨a3,c3,rfl,HO3,HB3,hs3,hw3l,hx3⟩;obtain⟨m0,m1,m2,m3,m4⟩:=cs5 hx3;clear hx3)
  | (go_at_call 208;refine C2.mono ?_;rintro e w3 ⟨a3,c3,rfl,HO3,HB3,hs3,HY3⟩)
  | (go_at_call 207;refine (I1.out w3 a3 c3 HO3.out HB3.out hs3).mono ?_;rintro e w4 ⟨a',c',rfl,HR5,HB5⟩)
  | (go_at_call 207;refine (I2.out w3 a3 c3 HO3.out HB3.out hs3 HY3.out).mono ?_;rintro e w4 ⟨a',c',rfl,HR5,HB5⟩))
 all_goals (
  go_wp2
  go_ret
  exact⟨a',_,c',rfl,HR5.out,HB5.out⟩)

theorem uD {w w':World} {o p q r:Obj} (h:Below ((((w.alloc o).alloc p).alloc q).alloc r).heap.size ((((w.alloc o).alloc p).alloc q).alloc r) w'):w'.heap[w.heap.size]?=some o/\w'.heap[w.heap.size+1]?=some p/\w'.heap[w.heap.size+1+1]?=some q/\w'.heap[w.heap.size+1+1+1]?=some r/\Below w.heap.size w w':=by
 obtain⟨h1,h2⟩:=aL h;obtain⟨h3,h4,h5,h6⟩:=lQ h2;exact⟨h3,h4,h5,by simpa using h1,h6⟩
def RoF (m:Nat) (T:TypeId) (rs:List (List Fv)) (S:Nat->Prop):Fact:=fun v w=> ∃a l p,v=.slice a l p/\az w a l p m T rs S
theorem RoF.mono (m:Nat) (T:TypeId) (rs:List (List Fv)) (S:Nat->Prop):Fact.bD (RoF m T rs S):=by
 rintro v w w' ⟨a,l,p,h1,h2⟩ hb;exact⟨a,l,p,h1,h2.below hb⟩

theorem iW (d:Ad) (c:Cl) (x:Xd) (v:Vd) (va:Option Addr) (vl vc B:Nat) (w:World) (hr:aJ w d c.raw) (hs:Sm c) (hv:cy w va vl vc v.zs (fun k=>B<=k/\k<w.heap.size)) (hB:B<=w.heap.size) (z0:x.n.size<=9223372036854775807) (z2:x.k.size<=9223372036854775807) (y0:v.n.size<=9223372036854775807) (y2:v.z.size<=9223372036854775807) (y3:v.k.size<=9223372036854775807):
  Calls Tryz.prog 169 #[.agg #[.slice d.a1 d.l1 d.c1,.slice d.a2 d.l2 d.c2,.slice d.a3 d.l3 d.c3,.slice d.a4 d.l4 d.c4,.slice d.a5 d.l5 d.c5,.int .i64 c.now],.agg #[.string x.n,.int .i64 x.z,.string x.k,.bool x.x,.string x.v],.agg #[.string v.n,.int .i64 v.c,.string v.z,.string v.k,.bool v.x,.string v.m,.bool v.y,.slice va vl vc]] w fun e w'=> ∃d',e=.returned (.agg #[.slice d'.a1 d'.l1 d'.c1,.slice d'.a2 d'.l2 d'.c2,.slice d'.a3 d'.l3 d'.c3,.slice d'.a4 d'.l4 d'.c4,.slice d'.a5 d'.l5 d'.c5,.int .i64 c.now])/\bU w' d' (gR c (bdX x v.n) (bdV v x.n)).raw (fun k=>B<=k)/\Below w.heap.size w w':=by
 have HR:=aa hr;have HS:=aa hs;have HV:=aa hv;have HZ:=aa (Fl z0 (Fl z2 (Fl y0 (Fl y2 y3))));have HB:=aa (Ft w.heap.size w);clear hr hs hv z0 z2 y0 y2 y3;go_enter Tryz.func169,Tryz.ntmps169;go_wp2_with fail;refine (lk d c _ (HR.below (gm _ _ _ _ _)) HS.out).mono ?_;rintro e w1 ⟨d',rfl,ho,hb⟩;have HQ2:=aa hb.size;simp only[dH] at HQ2 ho;obtain⟨HA0,HA1,HA2,HA3,hbx⟩:=uD hb;have Bx:=aa HA1;have Bv:=aa HA2;have Br:=aa HA3;replace HB:=upB HB hbx;clear hb hbx HA0 HA1 HA2 HA3;obtain⟨P,hP⟩:=ho;have HP:=aa hP;have hq2:=HQ2.out;clear hP;obtain⟨W,hW0⟩:∃W,W=w1.alloc (.cells (clv d' c.now) 36):=⟨_,rfl⟩;have hWs:W.heap.size=w1.heap.size+1:=by rw[hW0];simp
 have hb1:Below w1.heap.size w1 W:=by rw[hW0];exact al _ _
 have HB1:=aa hb1;have BxW:=upK Bx hb1;have BvW:=upK Bv hb1;have BrW:=upK Br hb1;have BoW:Hid (W.heap[w1.heap.size]?=some (.cells (clv d' c.now) 36 (0,0))):=by rw[hW0];exact heap_alloc_new w1 (.cells (clv d' c.now) 36)
 have HBW:=upB HB hb1;have hlx:d'.l4<=8:=by have h6:=HP.x.1;have h7:(c.xs.map xdF).length=d'.l4:=h6;rw[FR] at h7;have:=HS.x;omega
 have hlv:d'.l3<=8:=by have h6:=HP.v.1;have h7:(c.vs.map vdF).length=d'.l3:=h6;rw[FR] at h7;have:=HS.v;omega
 clear hb1;obtain⟨x0,x1,x2,x3,x4⟩:=cs5 Bx;obtain⟨v0,v1,v2,v3,v4,v5,v6,v7⟩:=cs8 Bv;go_wp2_with fail;clear x0 x1 x2 x3 x4 v0 v1 v2 v3 v4 v5 v6 v7;rw[<-hW0];clear hW0;rename_i K0 hK0;refine Gt.aU ar rfl rfl ar ?_;refine' au.an _ rfl ?_ ?_;rotate_left 1
 ·exact dY
 refine' au.an _ rfl ?_ ?_;rotate_left 1
 ·refine Obl.plain rfl ?_;intro ac wg K hsz hW hf hK;clear hsz;have e16:=hf 16 aj;simp[ai,Fp] at e16;clear hf;obtain⟨o0,o1,o2,o3,o4,o5⟩:=cs6 ((hW.block _ (ae BoW.out)).trans BoW.out);exact aT
 refine' au.an _ rfl ?_ ?_;rotate_left 1
 ·refine Obl.plain rfl ?_;intro ac wg K hsz hW hf hK;clear hsz;have e4:=hf 4 aj;simp[ai,Fp] at e4;clear hf;exact aT
 refine' au.an _ rfl ?_ ?_;rotate_left 1
 ·refine Obl.plain rfl ?_;intro ac wg K hsz hW hf hK;clear hsz;have e18:=hf 18 aj;simp[ai,Fp] at e18;exact pX
 refine au.step (RoF 5 105 ((wo Xd.n x.n c.xs).map xdF) (fun k=>((w.heap.size+1+1+1+1<=k/\P k=4)/\k<w1.heap.size)\/w1.heap.size+1<=k)) rfl (RoF.mono _ _ _ _) ?_ ?_
 ·refine Obl.plain rfl ?_;intro ac wg K hsz hW hf hK;clear hsz;have e17:=hf 17 aj;simp[ai,Fp] at e17;have e19:=hf 19 aj;simp[ai,Fp] at e19;clear hf;go_simp;have hs6:=hW.size;refine (tB d'.a4 d'.l4 d'.c4 c.xs x.n (fun k=>(w.heap.size+1+1+1+1<=k/\P k=4)/\k<w1.heap.size) _ (((HP.x.bA (fun k hk s=>⟨s,hk⟩)).below HB1.out).below hW) hlx).mono ?_;rintro e w6 ⟨a2,l2,p2,rfl,ho6,hb6⟩;exact hK _ _ hb6 ⟨a2,l2,p2,rfl,ho6.bA (fun k _ s=>s.imp id (fun q=>by have q1:wg.heap.size<=k:=q;omega))⟩
 refine' au.an _ rfl ?_ ?_;rotate_left 1
 ·refine Obl.plain rfl ?_;intro ac wg K hsz hW hf hK;clear hsz;have e4:=hf 4 aj;simp[ai,Fp] at e4;exact pX
 refine au.step (RoF 5 105 ((gR c (bdX x v.n) (bdV v x.n)).xs.map xdF) (fun k=>((w.heap.size+1+1+1+1<=k/\P k=4)/\k<w1.heap.size)\/w1.heap.size+1<=k)) rfl (RoF.mono _ _ _ _) ?_ ?_
 ·refine Obl.plain rfl ?_;intro ac wg K hsz hW hf hK;clear hsz;have e20:=hf 20 aj;simp[ai,Fp] at e20;have e21:=hf 21 aj;simp[ai,Fp] at e21;clear hf;obtain⟨a2,l2,p2,e20,ho2⟩:=e20;go_simp;have hs6:=hW.size;have hl2:l2<=8:=by have h6:=ho2.1;rw[FR] at h6;have h7:=kM Xd.n x.n c.xs;have:=HS.x;omega
  refine (pd a2 l2 p2 (wo Xd.n x.n c.xs) (bdX x v.n) 0 _ (fun _=>False) _ ho2 hl2 (fun i f hf=>by rcases i with _|_|_|_|_|i <;> simp[xdF,bdX] at hf <;> subst hf;exact⟨_,rfl,rfl,HZ.1⟩;exact⟨_,rfl,rfl⟩;exact⟨_,rfl,rfl,HZ.2.1⟩;exact⟨_,rfl,rfl⟩;exact⟨_,rfl,rfl,HZ.2.2.1⟩) (fun _ _ q=>q)).mono ?_;rintro e w6 ⟨a4,l4,p4,rfl,ho6,hb6⟩;exact hK _ _ hb6 ⟨a4,l4,p4,rfl,ho6.bA (fun k _ s=>by
   rcases s with (s|s)|s
   ·exact s
   ·exact s.elim
   ·have q1:wg.heap.size<=k:=s;exact .inr af)⟩
 refine' au.an _ rfl ?_ ?_;rotate_left 1
 ·exact dY
 refine au.done ?_;intro q wz hW hf;simp only[FJ] at hf;obtain⟨h23,h22,h21,-,h19,h18,h17,h16,-⟩:=hf;obtain⟨a4,l4,p4,hv22,ho22⟩:=h22;have HOX:=aa ho22;have HWZ:=aa hW;have BoZ:=upK BoW hW;obtain⟨o0,o1,o2,o3,o4,o5⟩:=cs6 BoZ;have fo3:=av BoZ.out 3;clear ho22;intro K hK;rw[if_pos bJ];simp only[aE,Gd,GG,Fy,FF,FL,h23,h21,h19,h18,h17,h16,hv22];simp only[List.getLast];go_simp;refine hK _ _ ?_;refine hK0 _ _ ?_;clear hK hK0 K K0;obtain⟨W2,hW2⟩:∃W2,W2=wz.setCell ⟨w1.heap.size,3,none⟩ (.slice a4 l4 p4):=⟨_,rfl⟩;rw[<-hW2];have hzs:=HWZ.size;have hW2s:W2.heap.size=wz.heap.size:=by rw[hW2];simp
 have hk2:∀k,¬k=w1.heap.size->W2.heap[k]?=wz.heap[k]?:=fun k h9=>by rw[hW2];exact Fm _ _ _ _ h9
 have Bo2:Hid (W2.heap[w1.heap.size]?=some (.cells (clo6 d'.a1 d'.l1 d'.c1 d'.a2 d'.l2 d'.c2 d'.a3 d'.l3 d'.c3 a4 l4 p4 d'.a5 d'.l5 d'.c5 c.now) 36 (0,0))):=by
  have h9:=aA (i:=3) BoZ.out (.slice a4 l4 p4);simp only[Fy,FF,FL] at h9;rw[hW2];exact h9
 have hvx:=ae BvW.out;have hrx:=ae BrW.out;have Bv2:=aa ((hk2 (w.heap.size+1+1) af).trans ((HWZ.block _ hvx).trans BvW.out));have Br2:=aa ((hk2 (w.heap.size+1+1+1) af).trans ((HWZ.block _ hrx).trans BrW.out));have HB2:Hid (Below w.heap.size w W2):=by rw[hW2];exact ah (show w.heap.size<=w1.heap.size by omega) (HBW.trans (HWZ.mono HBW.size))
 have HPV:Hid (az W2 d'.a3 d'.l3 d'.c3 8 99 (c.vs.map vdF) (fun k=>(w.heap.size+1+1+1+1<=k/\P k=3)/\k<w1.heap.size)):=(HP.v.bA (fun k hk s=>⟨s,hk⟩)).aM (fun k hk s=>(hk2 k af).trans ((HWZ.block k af).trans (HB1.block k hk))) (fun _ _ s=>s);have HK2:=aa hk2;clear hk2 hW2 o0 o1 o2 o3 o4 o5 fo3;go_wp2_with fail;rename_i K0 hK0;refine Gt.aU ar rfl rfl ar ?_;refine' au.an _ rfl ?_ ?_;rotate_left 1
 ·exact dY
 refine' au.an _ rfl ?_ ?_;rotate_left 1
 ·refine Obl.plain rfl ?_;intro ac wg K hsz hW hf hK;clear hsz;have e24:=hf 24 aj;simp[ai,Fp] at e24;clear hf;obtain⟨o0,o1,o2,o3,o4,o5⟩:=cs6 ((hW.block _ (ae Bo2.out)).trans Bo2.out);exact aT
 refine' au.an _ rfl ?_ ?_;rotate_left 1
 ·exact qe
 refine' au.an _ rfl ?_ ?_;rotate_left 1
 ·refine Obl.plain rfl ?_;intro ac wg K hsz hW hf hK;clear hsz;have e26:=hf 26 aj;simp[ai,Fp] at e26;exact wQ
 refine au.step (RoF 8 99 ((wo Vd.n v.n c.vs).map vdF) (fun k=>((w.heap.size+1+1+1+1<=k/\P k=3)/\k<w1.heap.size)\/W2.heap.size<=k)) rfl (RoF.mono _ _ _ _) ?_ ?_
 ·refine Obl.plain rfl ?_;intro ac wg K hsz hW hf hK;clear hsz;have e25:=hf 25 aj;simp[ai,Fp] at e25;have e27:=hf 27 aj;simp[ai,Fp] at e27;clear hf;go_simp;have hs6:=hW.size;refine (tC d'.a3 d'.l3 d'.c3 c.vs v.n _ _ (HPV.below hW) hlv).mono ?_;rintro e w6 ⟨a2,l2,p2,rfl,ho6,hb6⟩;exact hK _ _ hb6 ⟨a2,l2,p2,rfl,ho6.bA (fun k _ s=>s.imp id (fun q=>by have q1:wg.heap.size<=k:=q;show W2.heap.size<=k;omega))⟩
 refine' au.an _ rfl ?_ ?_;rotate_left 1
 ·refine Obl.plain rfl ?_;intro ac wg K hsz hW hf hK;clear hsz;have e5:=hf 5 aj;simp[ai,Fp] at e5;exact wQ
 refine au.step (RoF 8 99 ((gR c (bdX x v.n) (bdV v x.n)).vs.map vdF) (fun k=>((w.heap.size+1+1+1+1<=k/\P k=3)/\k<w1.heap.size)\/(B<=k/\k<w.heap.size)\/W2.heap.size<=k)) rfl (RoF.mono _ _ _ _) ?_ ?_
 ·refine Obl.plain rfl ?_;intro ac wg K hsz hW hf hK;clear hsz;have e28:=hf 28 aj;simp[ai,Fp] at e28;have e29:=hf 29 aj;simp[ai,Fp] at e29;clear hf;obtain⟨a2,l2,p2,e28,ho2⟩:=e28;go_simp;have hs6:=hW.size;have hl2:l2<=8:=by have h6:=ho2.1;rw[FR] at h6;have h7:=kM Vd.n v.n c.vs;have:=HS.v;omega
  obtain⟨g,hg⟩:=(HV.below (HB2.trans (hW.mono HB2.size))).fr;refine (pe a2 l2 p2 (wo Vd.n v.n c.vs) (bdV v x.n) va vl vc g _ (fun k=>B<=k/\k<w.heap.size) _ ho2 hl2 (ug (x:=bdV v x.n) HZ.2.2.1 HZ.2.2.2.1 HZ.2.2.2.2 HZ.1 hg) (fun k q1 q2=>by
   rcases q1 with q1|q1
   ·omega
   ·have q4:W2.heap.size<=k:=q1;omega)).mono ?_
  rintro e w6 ⟨a4,l4,p4,rfl,ho6,hb6⟩;exact hK _ _ hb6 ⟨a4,l4,p4,rfl,ho6.bA (fun k _ s=>by
   rcases s with (s|s)|s
   ·exact s.imp id .inr
   ·exact .inr (.inl s)
   ·have q1:wg.heap.size<=k:=s;exact .inr (.inr (show W2.heap.size<=k by omega)))⟩
 refine' au.an _ rfl ?_ ?_;rotate_left 1
 ·exact dY
 refine au.done ?_;intro q wy hW hf;simp only[FJ] at hf;obtain⟨h31,h30,h29,-,h27,h26,h25,h24,-⟩:=hf;obtain⟨a3,l3,p3,hv30,ho30⟩:=h30;have HOV:=aa ho30;have HWY:=aa hW;have BoY:=upK Bo2 hW;have BrY:=upK Br2 hW;obtain⟨o0,o1,o2,o3,o4,o5⟩:=cs6 BoY;have fo2:=av BoY.out 2;obtain⟨r0,r1,r2,r3,r4,r5⟩:=cs6 BrY;have fr0:=av BrY.out 0;have fr1:=av BrY.out 1;have fr2:=av BrY.out 2;have fr3:=av BrY.out 3;have fr4:=av BrY.out 4;have fr5:=av BrY.out 5;clear ho30;intro K hK;rw[if_pos bJ];simp only[aE,Gd,GG,Fy,FF,FL,h31,h29,h27,h26,h25,h24,hv30];simp only[List.getLast];go_simp;refine hK _ _ ?_;refine hK0 _ _ ?_;clear hK hK0 K K0;go_wp2;refine bodyPost_ret (v:=.agg #[.slice d'.a1 d'.l1 d'.c1,.slice d'.a2 d'.l2 d'.c2,.slice a3 l3 p3,.slice a4 l4 p4,.slice d'.a5 d'.l5 d'.c5,.int .i64 c.now]) (by simp[results,Tryz.results169,go_sem, *]) rfl ⟨⟨d'.a1,d'.l1,d'.c1,d'.a2,d'.l2,d'.c2,a3,l3,p3,a4,l4,p4,d'.a5,d'.l5,d'.c5⟩,rfl,?_,sb3 (sb3 (sb3 (sb3 (sb3 (sb3 (ah (show w.heap.size<=w1.heap.size by omega) (HB2.trans (HWY.mono HB2.size))))))))⟩;have hWf:∀k,¬k=w.heap.size+1+1+1->¬k=w1.heap.size->(((((((wy.setCell ⟨w1.heap.size,2,none⟩ (.slice a3 l3 p3)).setCell ⟨w.heap.size+1+1+1,0,none⟩ (.slice d'.a1 d'.l1 d'.c1)).setCell ⟨w.heap.size+1+1+1,1,none⟩ (.slice d'.a2 d'.l2 d'.c2)).setCell ⟨w.heap.size+1+1+1,2,none⟩ (.slice a3 l3 p3)).setCell ⟨w.heap.size+1+1+1,3,none⟩ (.slice a4 l4 p4)).setCell ⟨w.heap.size+1+1+1,4,none⟩ (.slice d'.a5 d'.l5 d'.c5)).setCell ⟨w.heap.size+1+1+1,5,none⟩ (.int .i64 c.now)).heap[k]?=wy.heap[k]?:=fun k h8 h9=>by rw[Fm _ _ _ _ (show k≠w.heap.size+1+1+1 by omega),Fm _ _ _ _ (show k≠w.heap.size+1+1+1 by omega),Fm _ _ _ _ (show k≠w.heap.size+1+1+1 by omega),Fm _ _ _ _ (show k≠w.heap.size+1+1+1 by omega),Fm _ _ _ _ (show k≠w.heap.size+1+1+1 by omega),Fm _ _ _ _ (show k≠w.heap.size+1+1+1 by omega),Fm _ _ _ _ (show k≠w1.heap.size by omega)]
 have hE1:∀k,k<w1.heap.size->w.heap.size+1+1+1+1<=k->(((((((wy.setCell ⟨w1.heap.size,2,none⟩ (.slice a3 l3 p3)).setCell ⟨w.heap.size+1+1+1,0,none⟩ (.slice d'.a1 d'.l1 d'.c1)).setCell ⟨w.heap.size+1+1+1,1,none⟩ (.slice d'.a2 d'.l2 d'.c2)).setCell ⟨w.heap.size+1+1+1,2,none⟩ (.slice a3 l3 p3)).setCell ⟨w.heap.size+1+1+1,3,none⟩ (.slice a4 l4 p4)).setCell ⟨w.heap.size+1+1+1,4,none⟩ (.slice d'.a5 d'.l5 d'.c5)).setCell ⟨w.heap.size+1+1+1,5,none⟩ (.int .i64 c.now)).heap[k]?=w1.heap[k]?:=fun k h8 h9=>(hWf k af af).trans ((HWY.block k af).trans ((HK2.out k af).trans ((HWZ.block k af).trans (HB1.block k h8))));have hPk:∀k,k<w1.heap.size->w.heap.size+1+1+1+1<=k->(if k<w.heap.size then 3 else if k<w1.heap.size then P k else if k<W2.heap.size then 4 else 3)=P k:=fun k h8 h9=>by rw[if_neg af,if_pos h8]
 refine⟨fun k=>if k<w.heap.size then 3 else if k<w1.heap.size then P k else if k<W2.heap.size then 4 else 3,?_,?_,?_,?_,?_⟩
 ·exact HP.n.aM (fun k hk s=>hE1 k hk s.1) (fun k hk s=>⟨by have s1:w.heap.size+1+1+1+1<=k:=s.1;show B<=k;omega,(hPk k hk s.1).trans s.2⟩)
 ·exact HP.k.aM (fun k hk s=>hE1 k hk s.1) (fun k hk s=>⟨by have s1:w.heap.size+1+1+1+1<=k:=s.1;show B<=k;omega,(hPk k hk s.1).trans s.2⟩)
 ·refine HOV.aM (fun k hk s=>?_) (fun k hk s=>?_)
  ·rcases s with s|s|s
   ·exact hWf k af af
   ·exact hWf k af af
   ·have s1:W2.heap.size<=k:=s;exact hWf k af af
  ·rcases s with s|s|s
   ·exact⟨by show B<=k;omega,(hPk k s.2 s.1.1).trans s.1.2⟩
   ·exact⟨s.1,by show (if k<w.heap.size then 3 else if k<w1.heap.size then P k else if k<W2.heap.size then 4 else 3)=3;rw[if_pos s.2]⟩
   ·have s1:W2.heap.size<=k:=s;exact⟨by show B<=k;omega,by show (if k<w.heap.size then 3 else if k<w1.heap.size then P k else if k<W2.heap.size then 4 else 3)=3;rw[if_neg af,if_neg af,if_neg af]⟩
 ·refine HOX.aM (fun k hk s=>?_) (fun k hk s=>?_)
  ·have h9:¬k=w1.heap.size/\¬k=w.heap.size+1+1+1:=by rcases s with s|s <;> omega
   exact (hWf k h9.2 h9.1).trans ((HWY.block k af).trans (HK2.out k h9.1))
  ·rcases s with s|s
   ·exact⟨by show B<=k;omega,(hPk k s.2 s.1.1).trans s.1.2⟩
   ·exact⟨by show B<=k;omega,by show (if k<w.heap.size then 3 else if k<w1.heap.size then P k else if k<W2.heap.size then 4 else 3)=4;rw[if_neg af,if_neg af,if_pos af]⟩
 ·exact HP.p.aM (fun k hk s=>hE1 k hk s.1) (fun k hk s=>⟨by have s1:w.heap.size+1+1+1+1<=k:=s.1;show B<=k;omega,(hPk k hk s.1).trans s.2⟩)

end Rc
end Go.Proofs.YtpejepeekdjfoaaGreatDoor

namespace Go.Proofs.YtpejepeekdjfoaaGreatDoor
open Go

def eX (J0 J1 J2:Act->World->Prop) (Q:Exit->Act->World->Prop):Exit->Act->World->Prop
 | .goto l,a,w=>(l=0/\J0 a w)\/(l=1/\J1 a w)\/(l=2/\J2 a w)
 | e,a,w=>Q e a w
theorem iG {J0 J1 J2:Act->World->Prop} {Q:Exit->Act->World->Prop} {a:Act} {w:World} (h:Q .ret a w):eX J0 J1 J2 Q .ret a w:=h
theorem AO {J0 J1 J2:Act->World->Prop} {Q:Exit->Act->World->Prop} {a:Act} {w:World} (h:J0 a w):eX J0 J1 J2 Q (.goto 0) a w:=.inl ⟨rfl,h⟩
theorem sG {J0 J1 J2:Act->World->Prop} {Q:Exit->Act->World->Prop} {a:Act} {w:World} (h:J1 a w):eX J0 J1 J2 Q (.goto 1) a w:=.inr (.inl ⟨rfl,h⟩)
theorem AN {J0 J1 J2:Act->World->Prop} {Q:Exit->Act->World->Prop} {a:Act} {w:World} (h:J2 a w):eX J0 J1 J2 Q (.goto 2) a w:=.inr (.inr ⟨rfl,h⟩)
theorem fu {K:Act->World->Prop} {Q:Exit->Act->World->Prop} {l:Nat} {a:Act} {w:World} (h:Q (.goto l) a w):Exit.then K Q (.goto l) a w:=h

def never:Act->World->Prop:=fun _ _=>False

def at1 (P:Program) (Q:Exit->Act->World->Prop) (r1:Code):Act->World->Prop:=fun a w=>r1.wp P (eX never never never Q) a w
def at0 (P:Program) (Q:Exit->Act->World->Prop) (r0 r1:Code):Act->World->Prop:=fun a w=>r0.wp P (eX never (at1 P Q r1) never Q) a w
def at2 (P:Program) (Q:Exit->Act->World->Prop) (r0 r1 r2:Code):Act->World->Prop:=fun a w=>r2.wp P (eX (at0 P Q r0 r1) never never Q) a w
theorem jw {P:Program} {a:Act} {w:World} {Q:Exit->Act->World->Prop} {c r0 r1 r2:Code} (h0:findLabel c 0=some r0) (h1:findLabel c 1=some r1) (h2:findLabel c 2=some r2)
  (first:c.wp P (eX never (at1 P Q r1) (at2 P Q r0 r1 r2) Q) a w):(Code.scope c).wp P Q a w:=by
 intro b k cs;have g0:gotoIn 0 (.inScope c ::k)=some (.code r0 ::.inScope c ::k):=by simp[gotoIn,h0]
 have g1:gotoIn 1 (.inScope c ::k)=some (.code r1 ::.inScope c ::k):=by simp[gotoIn,h1]
 have g2:gotoIn 2 (.inScope c ::k)=some (.code r2 ::.inScope c ::k):=by simp[gotoIn,h2]
 have key1:∀a w,at1 P Q r1 a w->∃e a' w',Q e a' w'/\Arrives P (lone (b.at a (.code r1 ::.inScope c ::k)) cs w) b k cs e a' w':=by
  intro a w hJ;obtain⟨e,a₁,w₁,hq,harr⟩:=hJ b (.inScope c ::k) cs;cases e with
  | normal=>exact⟨.normal,a₁,w₁,hq,Steps.trans harr (.one step_inScope)⟩
  | exit id=>exact⟨.exit id,a₁,w₁,hq,fun k' hk=>harr k' (by simp[exitTo,hk])⟩
  | goto l'=>
   rcases hq with ⟨e0,h⟩|⟨e1,h⟩|⟨e2,h⟩
   ·exact h.elim
   ·exact h.elim
   ·exact h.elim
  | ret=>exact⟨_,a₁,w₁,hq,harr⟩
  | panic ch=>exact⟨_,a₁,w₁,hq,harr⟩
  | outgrown=>exact⟨_,a₁,w₁,hq,harr⟩
 have key0:∀a w,at0 P Q r0 r1 a w->∃e a' w',Q e a' w'/\Arrives P (lone (b.at a (.code r0 ::.inScope c ::k)) cs w) b k cs e a' w':=by
  intro a w hJ;obtain⟨e,a₁,w₁,hq,harr⟩:=hJ b (.inScope c ::k) cs;cases e with
  | normal=>exact⟨.normal,a₁,w₁,hq,Steps.trans harr (.one step_inScope)⟩
  | exit id=>exact⟨.exit id,a₁,w₁,hq,fun k' hk=>harr k' (by simp[exitTo,hk])⟩
  | goto l'=>
   rcases hq with ⟨e0,h⟩|⟨e1,h⟩|⟨e2,h⟩
   ·exact h.elim
   ·subst e1;obtain⟨e₂,a₂,w₂,hq₂,harr₂⟩:=key1 a₁ w₁ h;exact⟨e₂,a₂,w₂,hq₂,.of_steps (harr _ g1) harr₂⟩
   ·exact h.elim
  | ret=>exact⟨_,a₁,w₁,hq,harr⟩
  | panic ch=>exact⟨_,a₁,w₁,hq,harr⟩
  | outgrown=>exact⟨_,a₁,w₁,hq,harr⟩
 have key2:∀a w,at2 P Q r0 r1 r2 a w->∃e a' w',Q e a' w'/\Arrives P (lone (b.at a (.code r2 ::.inScope c ::k)) cs w) b k cs e a' w':=by
  intro a w hJ;obtain⟨e,a₁,w₁,hq,harr⟩:=hJ b (.inScope c ::k) cs;cases e with
  | normal=>exact⟨.normal,a₁,w₁,hq,Steps.trans harr (.one step_inScope)⟩
  | exit id=>exact⟨.exit id,a₁,w₁,hq,fun k' hk=>harr k' (by simp[exitTo,hk])⟩
  | goto l'=>
   rcases hq with ⟨e0,h⟩|⟨e1,h⟩|⟨e2,h⟩
   ·subst e0;obtain⟨e₂,a₂,w₂,hq₂,harr₂⟩:=key0 a₁ w₁ h;exact⟨e₂,a₂,w₂,hq₂,.of_steps (harr _ g0) harr₂⟩
   ·exact h.elim
   ·exact h.elim
  | ret=>exact⟨_,a₁,w₁,hq,harr⟩
  | panic ch=>exact⟨_,a₁,w₁,hq,harr⟩
  | outgrown=>exact⟨_,a₁,w₁,hq,harr⟩
 obtain⟨e,a₁,w₁,hq,harr⟩:=first b (.inScope c ::k) cs
 cases e with
 | normal=>exact⟨.normal,a₁,w₁,hq,.head step_scope (Steps.trans harr (.one step_inScope))⟩
 | exit id=>exact⟨.exit id,a₁,w₁,hq,fun k' hk=>.head step_scope (harr k' (by simp[exitTo,hk]))⟩
 | goto l'=>
  rcases hq with ⟨_,h⟩|⟨rfl,h⟩|⟨rfl,h⟩
  ·exact h.elim
  ·obtain⟨e₂,a₂,w₂,hq₂,harr₂⟩:=key1 a₁ w₁ h;exact⟨e₂,a₂,w₂,hq₂,.of_steps (.head step_scope (harr _ g1)) harr₂⟩
  ·obtain⟨e₂,a₂,w₂,hq₂,harr₂⟩:=key2 a₁ w₁ h;exact⟨e₂,a₂,w₂,hq₂,.of_steps (.head step_scope (harr _ g2)) harr₂⟩
 | ret=>exact⟨_,a₁,w₁,hq,.of_steps (.one step_scope) harr⟩
 | panic ch=>exact⟨_,a₁,w₁,hq,.of_steps (.one step_scope) harr⟩
 | outgrown=>exact⟨_,a₁,w₁,hq,.of_steps (.one step_scope) harr⟩

theorem lJ {P:Program} {a:Act} {w:World} {Q:Exit->Act->World->Prop} {c r0 r1 r2:Code} (h0:findLabel c 0=some r0) (h1:findLabel c 1=some r1) (h2:findLabel c 2=some r2)
  (first:∀J1 J2:Act->World->Prop,(∀a w,r1.wp P (eX never never never Q) a w->J1 a w)->(∀a w,(∀J0:Act->World->Prop,(∀a w,r0.wp P (eX never J1 never Q) a w->J0 a w)->r2.wp P (eX J0 never never Q) a w)->J2 a w)->c.wp P (eX never J1 J2 Q) a w):(Code.scope c).wp P Q a w:=
 jw h0 h1 h2 (first _ _ (fun _ _ h=>h) (fun _ _ h=>h (at0 P Q r0 r1) (fun _ _ h=>h)))

end Go.Proofs.YtpejepeekdjfoaaGreatDoor

namespace Go.Proofs.YtpejepeekdjfoaaGreatDoor
open Go.RowKit
namespace Rc
open Mk

theorem An {w:World} {g:Nat} {T:TypeId} {c0 c1 c2 c3 c4 c5 c6 c7:Value} (h:w.heap[g]?=some (.cells #[c0,c1,c2,c3,c4,c5,c6,c7] T (0,0))) (v0 v1 v2 v3 v4 v5 v6 v7:Value):
  ((((((((w.setCell ⟨g,0,none⟩ v0).setCell ⟨g,1,none⟩ v1).setCell ⟨g,2,none⟩ v2).setCell ⟨g,3,none⟩ v3).setCell ⟨g,4,none⟩ v4).setCell ⟨g,5,none⟩ v5).setCell ⟨g,6,none⟩ v6).setCell ⟨g,7,none⟩ v7).heap[g]?=some (.cells #[v0,v1,v2,v3,v4,v5,v6,v7] T (0,0)):=by
 rw[aA (i:=7) (aA (i:=6) (aA (i:=5) (aA (i:=4) (aA (i:=3) (aA (i:=2) (aA (i:=1) (aA (i:=0) h v0) v1) v2) v3) v4) v5) v6) v7];simp only[Fy,FF,FL]

theorem zS (w:World) (o p q r s:Obj):Below w.heap.size w (((((w.alloc o).alloc p).alloc q).alloc r).alloc s):=(gm w o p q r).alloc (by simp;omega) s
theorem Da {w w':World} {o p q r s:Obj} (h:Below (((((w.alloc o).alloc p).alloc q).alloc r).alloc s).heap.size (((((w.alloc o).alloc p).alloc q).alloc r).alloc s) w'):w'.heap[w.heap.size]?=some o/\w'.heap[w.heap.size+1]?=some p/\w'.heap[w.heap.size+1+1]?=some q/\w'.heap[w.heap.size+1+1+1]?=some r/\w'.heap[w.heap.size+1+1+1+1]?=some s/\Below w.heap.size w w':=by
 obtain⟨h1,h2⟩:=aL h;obtain⟨h3,h4,h5,h6,h7⟩:=uD h2;exact⟨h3,h4,h5,h6,by simpa using h1,h7⟩
def PrF (B:Nat) (c:Cl):Fact:=fun v w=> ∃d,v=.agg #[.slice d.a1 d.l1 d.c1,.slice d.a2 d.l2 d.c2,.slice d.a3 d.l3 d.c3,.slice d.a4 d.l4 d.c4,.slice d.a5 d.l5 d.c5,.int .i64 c.now]/\bU w d c.raw (fun k=>B<=k)
theorem PrF.mono (B:Nat) (c:Cl):Fact.bD (PrF B c):=by
 exact qj
def PrO (B:Nat) (c:Cl) (n:ByteArray):Fact:=fun v w=> ∃d,v=.agg #[.slice d.a1 d.l1 d.c1,.slice d.a2 d.l2 d.c2,.slice d.a3 d.l3 d.c3,.slice d.a4 d.l4 d.c4,.slice d.a5 d.l5 d.c5,.int .i64 c.now,.string n,.int .i64 0]/\bU w d c.raw (fun k=>B<=k)
theorem PrO.mono (B:Nat) (c:Cl) (n:ByteArray):Fact.bD (PrO B c n):=by
 exact qj
theorem oM (d:Ad) (c:Cl) (x:Xd) (t:ByteArray) (i j:Nat) (k:Kd) (E:Nat->Addr) (w:World) (hr:aJ w d c.raw) (hG:Ers w E) (hT:aB c) (hx:c.xs[i]?=some x) (hxv:x.v=⟨#[]⟩) (hk:c.ks[j]?=some k) (hkn:k.n=x.k) (ht:t=⟨#[]⟩\/aO t):
  Calls Tryz.prog 128 #[.agg #[.slice d.a1 d.l1 d.c1,.slice d.a2 d.l2 d.c2,.slice d.a3 d.l3 d.c3,.slice d.a4 d.l4 d.c4,.slice d.a5 d.l5 d.c5,.int .i64 c.now],.agg #[.string x.n,.int .i64 x.z,.string x.k,.bool x.x,.string x.v],.string t] w (EC (er c i x k t) w):=by
 have HR:=aa hr;have HE:=aa hG;have HT:=aa hT;have HX:=aa (Fl hx hxv);have HK:=aa (Fl hk hkn);have HTZ:=aa ht;have HXO:=aa (hT.2.1.2.2.2.1.2.1 i x hx);have HB:=aa (Ft w.heap.size w);clear hr hG hT hx hxv hk hkn ht;go_enter Tryz.func128,Tryz.ntmps128;go_wp2_with fail;refine lJ rfl rfl rfl (fun J1 J2 hJ1 hJ2=>?_);have HJ1:=aa hJ1;have HJ2:=aa hJ2;clear hJ1 hJ2;go_wp2;go_step3;go_wp2_with fail;have h8:c.vs.length<=8:=HT.sm.v;have hbr:jf c.vs x.n x.z x.k x.v t:=⟨HXO.out,HTZ.out,h8,fun q u hu=>HT.2.1.2.2.1.2.1 q u hu⟩;have ht20:t.size<=20:=by
  rcases HTZ.out with h1|h1
  ·rw[h1];decide
  ·exact h1.2.1
 have hz0:x.n.size<=20:=HXO.1.2.1;have hz2:x.k.size<=20:=HXO.2.2.1.2.1;have hz4:x.v.size<=9223372036854775807:=by rw[HX.2];decide
 refine (rA d c x t E _ (HR.below (zS _ _ _ _ _ _)) (HE.below (zS _ _ _ _ _ _)) hbr h8 ht20 af af hz4).mono ?_;rintro e w1 ⟨hb,hf⟩;have HQ:=aa hb.size;simp only[dH] at HQ hf;obtain⟨HA0,HA1,HA2,HA3,HA4,hbx⟩:=Da hb;have Bk:=aa HA0;have Bx:=aa HA1;have Br:=aa HA2;have Bv:=aa HA3;have Bs:=aa HA4;replace HB:=upB HB hbx;clear hb hbx HA0 HA1 HA2 HA3 HA4;clear hbr hz4;rcases hf with ⟨hbn,rfl⟩|⟨u,va,vl,vc,hbs,rfl,hto⟩;rotate_left
 ·obtain⟨j9,hu9⟩:=oV hbs;have HU:=aa hu9;have huo:=HT.2.1.2.2.1.2.1 j9 u hu9;have hu0:u.n.size<=20:=huo.1.2.1;have hu2:u.z.size<=20:=huo.2.2.1.2.1;have hu3:u.k.size<=20:=huo.2.2.2.1.2.1;have HBS:=aa hbs;have HTO:=aa hto;clear hbs hto hu9 huo;obtain⟨v0,v1,v2,v3,v4,v5,v6,v7⟩:=cs8 Bv;obtain⟨fv0,fv1,fv2,fv3,fv4,fv5,fv6,fv7,hvl⟩:=k9;go_wp2;go_step3;refine fu (sG (HJ1.out _ _ ?_));clear v0 fv0 v1 fv1 v2 fv2 v3 fv3 v4 fv4 v5 fv5 v6 fv6 v7 fv7 hvl;obtain⟨W5,hW5⟩:∃W,W=((((((((w1.setCell ⟨w.heap.size+1+1+1,0,none⟩ (.string u.n)).setCell ⟨w.heap.size+1+1+1,1,none⟩ (.int .i64 u.c)).setCell ⟨w.heap.size+1+1+1,2,none⟩ (.string u.z)).setCell ⟨w.heap.size+1+1+1,3,none⟩ (.string u.k)).setCell ⟨w.heap.size+1+1+1,4,none⟩ (.bool u.x)).setCell ⟨w.heap.size+1+1+1,5,none⟩ (.string u.m)).setCell ⟨w.heap.size+1+1+1,6,none⟩ (.bool u.y)).setCell ⟨w.heap.size+1+1+1,7,none⟩ (.slice va vl vc)):=⟨_,rfl⟩;obtain⟨hszW5,hlk,hkeep,Dk,Dx,Dr,Ds⟩:=B_;have Dv:Hid (W5.heap[w.heap.size+1+1+1]?=some (.cells (vov u va vl vc) 99 (0,0))):=by rw[hW5];exact An Bv.out _ _ _ _ _ _ _ _
  have HBW5:Hid (Below w.heap.size w W5):=by rw[hW5];exact sb3 (sb3 (sb3 (sb3 (sb3 (sb3 (sb3 (sb3 (HB.out))))))))
  have HKP:=aa hkeep;clear hkeep;have hq1:w.heap.size+1+1+1+1+1<=w1.heap.size:=HQ.out;have HT5:Hid (cy W5 va vl vc u.zs (fun k=>w.heap.size+1+1+1+1+1<=k)):=HTO.aM (fun k hk s=>HKP.out k (by have s1:w.heap.size+1+1+1+1+1<=k:=s;omega)) (fun _ _ s=>s);have HCX:Hid (gR c (bdX x u.n) (bdV u x.n)=dw c i j9 x u):=oj HT.out HX.1 HU.out;go_wp2_with fail;rw[<-hW5];rename_i K0 hK0;refine aU ar rfl rfl ar ?_;refine' au.an _ rfl ?_ ?_;rotate_left 1
  ·exact xo
  refine' au.an _ rfl ?_ ?_;rotate_left 1
  ·exact xn
  refine' au.an _ rfl ?_ ?_;rotate_left 1
  ·exact vV
  refine au.step (PrF (w.heap.size+1+1+1+1+1) (dw c i j9 x u)) rfl (PrF.mono _ _) ?_ ?_
  ·refine Obl.plain rfl ?_;intro ac wg K hsz hW hf hK;clear hsz;have e31:=hf 31 aj;simp[ai,Fp] at e31;have e32:=hf 32 aj;simp[ai,Fp] at e32;have e33:=hf 33 aj;simp[ai,Fp] at e33;clear hf;go_simp;have hs6:=hW.size;refine (iW d c x u va vl vc (w.heap.size+1+1+1+1+1) _ (HR.below (HBW5.trans (hW.mono HBW5.size))) HT.sm ((HT5.below hW).aM (fun _ _ _=>rfl) (fun k hk s=>⟨s,hk⟩)) af af af af af af).mono ?_;rintro e w6 ⟨d',rfl,ho6,hb6⟩;rw[HCX.out] at ho6;exact hK _ _ hb6 ⟨d',rfl,ho6⟩
  refine' au.an _ rfl ?_ ?_;rotate_left 1
  ·exact dY
  refine' au.an _ rfl ?_ ?_;rotate_left 1
  ·exact v_
  refine au.step (PrO (w.heap.size+1+1+1+1+1) (dw c i j9 x u) (u.n)) rfl (PrO.mono _ _ _) ?_ ?_
  ·exact yN
  refine au.done ?_;intro q wz hW hf;simp only[FJ] at hf;obtain⟨h37,h36,h35,-,h33,h32,h31,-⟩:=hf;obtain⟨d',hv37,ho37⟩:=h37;have HO:=aa ho37;have HWZ:=aa hW;have Br6:=upK Dr hW;obtain⟨r0,r1,r2,r3,r4,r5,r6,r7⟩:=cs8 Br6;obtain⟨fr0,fr1,fr2,fr3,fr4,fr5,fr6,fr7,hrl⟩:=sk;clear ho37;intro K hK;rw[if_pos bJ];simp only[aE,Gd,GG,Fy,FF,FL,h36,h35,h33,h32,h31,hv37];simp only[List.getLast];go_simp;refine hK _ _ ?_;refine hK0 _ _ ?_;clear hK hK0 K K0;have HV:Hid (er c i x k t ⟨dw c i j9 x u,u.n,0⟩):=.inl ⟨j9,u,HBS.out,HU.out,rfl⟩;go_wp2;refine iG ?_;refine bodyPost_ret (v:=.agg #[.slice d'.a1 d'.l1 d'.c1,.slice d'.a2 d'.l2 d'.c2,.slice d'.a3 d'.l3 d'.c3,.slice d'.a4 d'.l4 d'.c4,.slice d'.a5 d'.l5 d'.c5,.int .i64 c.now,.string (u.n),.int .i64 0]) (by simp[results,Tryz.results128,go_sem, *];try rfl) rfl ⟨d',⟨dw c i j9 x u,u.n,0⟩,rfl,HV.out,?_,sb2 (sb2 (sb2 (sb2 (sb2 (sb2 (sb2 (sb2 (HBW5.trans (HWZ.mono HBW5.size)))))))))⟩;obtain⟨P,hP⟩:=HO.out;exact⟨P,hP.aM (w':=((((((((wz.setCell ⟨w.heap.size+1+1,0,none⟩ (.slice d'.a1 d'.l1 d'.c1)).setCell ⟨w.heap.size+1+1,1,none⟩ (.slice d'.a2 d'.l2 d'.c2)).setCell ⟨w.heap.size+1+1,2,none⟩ (.slice d'.a3 d'.l3 d'.c3)).setCell ⟨w.heap.size+1+1,3,none⟩ (.slice d'.a4 d'.l4 d'.c4)).setCell ⟨w.heap.size+1+1,4,none⟩ (.slice d'.a5 d'.l5 d'.c5)).setCell ⟨w.heap.size+1+1,5,none⟩ (.int .i64 c.now)).setCell ⟨w.heap.size+1+1,6,none⟩ (.string (u.n))).setCell ⟨w.heap.size+1+1,7,none⟩ (.int .i64 0))) (fun q hq s=>by have s1:w.heap.size+1+1+1+1+1<=q:=s;rw[Fm _ _ _ _ (show q≠w.heap.size+1+1 by omega),Fm _ _ _ _ (show q≠w.heap.size+1+1 by omega),Fm _ _ _ _ (show q≠w.heap.size+1+1 by omega),Fm _ _ _ _ (show q≠w.heap.size+1+1 by omega),Fm _ _ _ _ (show q≠w.heap.size+1+1 by omega),Fm _ _ _ _ (show q≠w.heap.size+1+1 by omega),Fm _ _ _ _ (show q≠w.heap.size+1+1 by omega),Fm _ _ _ _ (show q≠w.heap.size+1+1 by omega)]) (fun q _ s=>by have s1:w.heap.size+1+1+1+1+1<=q:=s;show w.heap.size<=q;omega)⟩
 have HBN:=aa hbn;clear hbn;obtain⟨v0,v1,v2,v3,v4,v5,v6,v7⟩:=cs8 Bv;obtain⟨fv0,fv1,fv2,fv3,fv4,fv5,fv6,fv7,hvl⟩:=k9;go_wp2;go_step3;refine fu (AN (HJ2.out _ _ (fun J0 hJ0=>?_)));have HJ0:=aa hJ0;clear hJ0;clear v0 fv0 v1 fv1 v2 fv2 v3 fv3 v4 fv4 v5 fv5 v6 fv6 v7 fv7 hvl;obtain⟨W5,hW5⟩:∃W,W=((((((((w1.setCell ⟨w.heap.size+1+1+1,0,none⟩ (.string ⟨#[]⟩)).setCell ⟨w.heap.size+1+1+1,1,none⟩ (.int .i64 0)).setCell ⟨w.heap.size+1+1+1,2,none⟩ (.string ⟨#[]⟩)).setCell ⟨w.heap.size+1+1+1,3,none⟩ (.string ⟨#[]⟩)).setCell ⟨w.heap.size+1+1+1,4,none⟩ (.bool false)).setCell ⟨w.heap.size+1+1+1,5,none⟩ (.string ⟨#[]⟩)).setCell ⟨w.heap.size+1+1+1,6,none⟩ (.bool false)).setCell ⟨w.heap.size+1+1+1,7,none⟩ (.slice none 0 0)):=⟨_,rfl⟩;obtain⟨hszW5,hlk,hkeep,Dk,Dx,Dr,Ds⟩:=B_;have Dv:Hid (W5.heap[w.heap.size+1+1+1]?=some (.cells #[.string ⟨#[]⟩,.int .i64 0,.string ⟨#[]⟩,.string ⟨#[]⟩,.bool false,.string ⟨#[]⟩,.bool false,.slice none 0 0] 99 (0,0))):=by rw[hW5];exact An Bv.out _ _ _ _ _ _ _ _
 have HBW5:Hid (Below w.heap.size w W5):=by rw[hW5];exact sb3 (sb3 (sb3 (sb3 (sb3 (sb3 (sb3 (sb3 (HB.out))))))))
 have HKP:=aa hkeep;clear hkeep;rw[<-hW5];clear hW5;obtain⟨s0,s1,s2,s3,s4,s5,s6,s7,s8,s9,s10,s11⟩:=lB Ds.out;have lts:=ae Ds.out;go_wp2;go_step3;refine fu (AO (HJ0.out _ _ ?_));go_wp2_with fail;clear s0 s1 s2 s3 s4 s5 s6 s7 s8 s9 s10 s11 lts;refine (tK d c x t j k (aW t k.z) E _ (HR.below HBW5.out) (HE.below HBW5.out) HT.out HXO.out HK.1 HK.2 HTZ.out rfl).mono ?_;rintro e w2 ⟨hb,hf⟩;have hq2:w.heap.size+1+1+1+1+1<=w2.heap.size:=by have h1:=hb.size;have h2:w.heap.size+1+1+1+1+1<=w1.heap.size:=HQ.out;omega
 replace Bk:=aa ((hb.block _ (ae Dk.out)).trans Dk.out);replace Bx:=aa ((hb.block _ (ae Dx.out)).trans Dx.out);replace Br:=aa ((hb.block _ (ae Dr.out)).trans Dr.out);replace Bv:=aa ((hb.block _ (ae Dv.out)).trans Dv.out);replace Bs:=aa ((hb.block _ (ae Ds.out)).trans Ds.out);replace HB:=upB HBW5 hb;clear hb Dk Dx Dr Dv Ds HKP HBW5 hlk hszW5;rcases hf with ⟨hm,rfl⟩|⟨hm,hf⟩
 ·have HV:Hid (er c i x k t (co0 (dz 2))):=.inr ⟨HBN.out,.inl ⟨hm,rfl⟩⟩;obtain⟨cc,hcc⟩:∃cc,cc=dz 2:=⟨_,rfl⟩;rw[<-hcc] at HV;obtain⟨v0,v1,v2,v3,v4,v5,v6,v7⟩:=cs8 Bv;obtain⟨fv0,fv1,fv2,fv3,fv4,fv5,fv6,fv7,hvl⟩:=k9;go_wp2_with fail;clear v0 fv0 v1 fv1 v2 fv2 v3 fv3 v4 fv4 v5 fv5 v6 fv6 v7 fv7 hvl;obtain⟨W6,hW6⟩:∃W,W=((((((((w2.setCell ⟨w.heap.size+1+1+1,0,none⟩ (.string ⟨#[]⟩)).setCell ⟨w.heap.size+1+1+1,1,none⟩ (.int .i64 0)).setCell ⟨w.heap.size+1+1+1,2,none⟩ (.string ⟨#[]⟩)).setCell ⟨w.heap.size+1+1+1,3,none⟩ (.string ⟨#[]⟩)).setCell ⟨w.heap.size+1+1+1,4,none⟩ (.bool false)).setCell ⟨w.heap.size+1+1+1,5,none⟩ (.string ⟨#[]⟩)).setCell ⟨w.heap.size+1+1+1,6,none⟩ (.bool false)).setCell ⟨w.heap.size+1+1+1,7,none⟩ (.slice none 0 0)):=⟨_,rfl⟩;have hszW6:W6.heap.size=w2.heap.size:=by rw[hW6];simp
  have hlk:=ae Bk.out;have hkeep:∀q,¬q=w.heap.size+1+1+1->W6.heap[q]?=w2.heap[q]?:=fun q h9=>by rw[hW6,Fm _ _ _ _ h9,Fm _ _ _ _ h9,Fm _ _ _ _ h9,Fm _ _ _ _ h9,Fm _ _ _ _ h9,Fm _ _ _ _ h9,Fm _ _ _ _ h9,Fm _ _ _ _ h9]
  have Dk:=aa ((hkeep (w.heap.size) af).trans Bk.out);have Dx:=aa ((hkeep (w.heap.size+1) af).trans Bx.out);have Dr:=aa ((hkeep (w.heap.size+1+1) af).trans Br.out);have Ds:=aa ((hkeep (w.heap.size+1+1+1+1) af).trans Bs.out);have Dv:Hid (W6.heap[w.heap.size+1+1+1]?=some (.cells #[.string ⟨#[]⟩,.int .i64 0,.string ⟨#[]⟩,.string ⟨#[]⟩,.bool false,.string ⟨#[]⟩,.bool false,.slice none 0 0] 99 (0,0))):=by rw[hW6];exact An Bv.out _ _ _ _ _ _ _ _
  have HBW6:Hid (Below w.heap.size w W6):=by rw[hW6];exact sb3 (sb3 (sb3 (sb3 (sb3 (sb3 (sb3 (sb3 (HB.out))))))))
  have HKP:=aa hkeep;clear hkeep;rw[<-hW6];clear hW6;refine (eh E 2 cc hcc _ (HE.below HBW6.out) aj).mono ?_;exact xQ
 rcases hf with ⟨i9,hi9,hwhy,rfl⟩|⟨hh,h8',rfl⟩
 ·rcases hwhy with ⟨rfl,hh⟩|⟨rfl,hh,hf8⟩
  ·have HV:Hid (er c i x k t (co0 (dz 3))):=.inr ⟨HBN.out,.inr ⟨hm,.inl ⟨hh,rfl⟩⟩⟩;obtain⟨cc,hcc⟩:∃cc,cc=dz 3:=⟨_,rfl⟩;rw[<-hcc] at HV;obtain⟨v0,v1,v2,v3,v4,v5,v6,v7⟩:=cs8 Bv;obtain⟨fv0,fv1,fv2,fv3,fv4,fv5,fv6,fv7,hvl⟩:=k9;go_wp2_with fail;clear v0 fv0 v1 fv1 v2 fv2 v3 fv3 v4 fv4 v5 fv5 v6 fv6 v7 fv7 hvl;obtain⟨W6,hW6⟩:∃W,W=((((((((w2.setCell ⟨w.heap.size+1+1+1,0,none⟩ (.string (aD++x.n))).setCell ⟨w.heap.size+1+1+1,1,none⟩ (.int .i64 x.z)).setCell ⟨w.heap.size+1+1+1,2,none⟩ (.string (aW t k.z))).setCell ⟨w.heap.size+1+1+1,3,none⟩ (.string x.k)).setCell ⟨w.heap.size+1+1+1,4,none⟩ (.bool x.x)).setCell ⟨w.heap.size+1+1+1,5,none⟩ (.string x.n)).setCell ⟨w.heap.size+1+1+1,6,none⟩ (.bool false)).setCell ⟨w.heap.size+1+1+1,7,none⟩ (.slice none 0 0)):=⟨_,rfl⟩;obtain⟨hszW6,hlk,hkeep,Dk,Dx,Dr,Ds,Dv,HBW6,HKP⟩:=Dh;clear hkeep;rw[<-hW6];clear hW6;refine (eh E 3 cc hcc _ (HE.below HBW6.out) aj).mono ?_;exact xQ
  have HV:Hid (er c i x k t (co0 (dz 4))):=.inr ⟨HBN.out,.inr ⟨hm,.inr ⟨hh,.inl ⟨hf8,rfl⟩⟩⟩⟩;obtain⟨cc,hcc⟩:∃cc,cc=dz 4:=⟨_,rfl⟩;rw[<-hcc] at HV;obtain⟨v0,v1,v2,v3,v4,v5,v6,v7⟩:=cs8 Bv;obtain⟨fv0,fv1,fv2,fv3,fv4,fv5,fv6,fv7,hvl⟩:=k9;go_wp2_with fail;clear v0 fv0 v1 fv1 v2 fv2 v3 fv3 v4 fv4 v5 fv5 v6 fv6 v7 fv7 hvl;obtain⟨W6,hW6⟩:∃W,W=((((((((w2.setCell ⟨w.heap.size+1+1+1,0,none⟩ (.string (aD++x.n))).setCell ⟨w.heap.size+1+1+1,1,none⟩ (.int .i64 x.z)).setCell ⟨w.heap.size+1+1+1,2,none⟩ (.string (aW t k.z))).setCell ⟨w.heap.size+1+1+1,3,none⟩ (.string x.k)).setCell ⟨w.heap.size+1+1+1,4,none⟩ (.bool x.x)).setCell ⟨w.heap.size+1+1+1,5,none⟩ (.string x.n)).setCell ⟨w.heap.size+1+1+1,6,none⟩ (.bool false)).setCell ⟨w.heap.size+1+1+1,7,none⟩ (.slice none 0 0)):=⟨_,rfl⟩;obtain⟨hszW6,hlk,hkeep,Dk,Dx,Dr,Ds,Dv,HBW6,HKP⟩:=Dh;clear hkeep;rw[<-hW6];clear hW6;refine (eh E 4 cc hcc _ (HE.below HBW6.out) aj).mono ?_;exact xQ
 have HMY:=aa (Fl hm (Fl hh h8'));obtain⟨v0,v1,v2,v3,v4,v5,v6,v7⟩:=cs8 Bv;obtain⟨fv0,fv1,fv2,fv3,fv4,fv5,fv6,fv7,hvl⟩:=k9;go_wp2;go_step3;refine fu (sG (HJ1.out _ _ ?_));clear hm hh h8';clear v0 fv0 v1 fv1 v2 fv2 v3 fv3 v4 fv4 v5 fv5 v6 fv6 v7 fv7 hvl;obtain⟨W6,hW6⟩:∃W,W=((((((((w2.setCell ⟨w.heap.size+1+1+1,0,none⟩ (.string (aD++x.n))).setCell ⟨w.heap.size+1+1+1,1,none⟩ (.int .i64 x.z)).setCell ⟨w.heap.size+1+1+1,2,none⟩ (.string (aW t k.z))).setCell ⟨w.heap.size+1+1+1,3,none⟩ (.string x.k)).setCell ⟨w.heap.size+1+1+1,4,none⟩ (.bool x.x)).setCell ⟨w.heap.size+1+1+1,5,none⟩ (.string x.n)).setCell ⟨w.heap.size+1+1+1,6,none⟩ (.bool false)).setCell ⟨w.heap.size+1+1+1,7,none⟩ (.slice none 0 0)):=⟨_,rfl⟩;obtain⟨hszW6,hlk,hkeep,Dk,Dx,Dr,Ds,Dv,HBW6,HKP⟩:=Dh;clear hkeep;have hxn18:x.n.size<=18:=HMY.1.2.2.2.2;have hzz:(aW t k.z).size<=20:=by
  have h1:(aW t k.z)=k.z\/(aW t k.z)=t:=by unfold aW;split <;> simp
  rcases h1 with h1|h1
  ·rw[h1];rcases (HT.2.1.2.1.2.1 j k HK.1).2 with h2|h2
   ·rw[h2];decide
   ·exact h2.2.1
  ·rw[h1];exact ht20
 have hmn:(aD++x.n).size<=20:=by
  rw[ByteArray.size_append];have h1:aD.size=2:=rfl;omega
 have HCX:Hid (gR c (bdX x (aD++x.n)) (mkV x (aW t k.z))=c_ c i x (aW t k.z)):=qP HT.out HX.1 HMY.2.1;have HMB:Hid (bdV (mkV x (aW t k.z)) x.n=mkV x (aW t k.z)):=rfl;go_wp2_with fail;rw[<-hW6];rename_i K0 hK0;refine aU ar rfl rfl ar ?_;refine' au.an _ rfl ?_ ?_;rotate_left 1
 ·exact xo
 refine' au.an _ rfl ?_ ?_;rotate_left 1
 ·exact xn
 refine' au.an _ rfl ?_ ?_;rotate_left 1
 ·exact vV
 refine au.step (PrF (w.heap.size+1+1+1+1+1) (c_ c i x (aW t k.z))) rfl (PrF.mono _ _) ?_ ?_
 ·refine Obl.plain rfl ?_;intro ac wg K hsz hW hf hK;clear hsz;have e31:=hf 31 aj;simp[ai,Fp] at e31;have e32:=hf 32 aj;simp[ai,Fp] at e32;have e33:=hf 33 aj;simp[ai,Fp] at e33;clear hf;go_simp;have hs6:=hW.size;refine (iW d c x (mkV x (aW t k.z)) none 0 0 (w.heap.size+1+1+1+1+1) _ (HR.below (HBW6.trans (hW.mono HBW6.size))) HT.sm ⟨⟨rfl,Fq _,by omega,fun q y hy=>by simp[mkV] at hy,.inl rfl⟩,.inl rfl⟩ af af af (show (aD++x.n).size<=9223372036854775807 by omega) (show (aW t k.z).size<=9223372036854775807 by omega) (show x.k.size<=9223372036854775807 by omega)).mono ?_;rintro e w6 ⟨d',rfl,ho6,hb6⟩;rw[HMB.out,show (mkV x (aW t k.z)).n=aD++x.n from rfl,HCX.out] at ho6;exact hK _ _ hb6 ⟨d',rfl,ho6⟩
 refine' au.an _ rfl ?_ ?_;rotate_left 1
 ·exact dY
 refine' au.an _ rfl ?_ ?_;rotate_left 1
 ·exact v_
 refine au.step (PrO (w.heap.size+1+1+1+1+1) (c_ c i x (aW t k.z)) ((mkV x (aW t k.z)).n)) rfl (PrO.mono _ _ _) ?_ ?_
 ·exact yN
 refine au.done ?_;intro q wz hW hf;simp only[FJ] at hf;obtain⟨h37,h36,h35,-,h33,h32,h31,-⟩:=hf;obtain⟨d',hv37,ho37⟩:=h37;have HO:=aa ho37;have HWZ:=aa hW;have Br6:=upK Dr hW;obtain⟨r0,r1,r2,r3,r4,r5,r6,r7⟩:=cs8 Br6;obtain⟨fr0,fr1,fr2,fr3,fr4,fr5,fr6,fr7,hrl⟩:=sk;clear ho37;intro K hK;rw[if_pos bJ];simp only[aE,Gd,GG,Fy,FF,FL,h36,h35,h33,h32,h31,hv37];simp only[List.getLast];go_simp;refine hK _ _ ?_;refine hK0 _ _ ?_;clear hK hK0 K K0;have HV:Hid (er c i x k t ⟨c_ c i x (aW t k.z),(mkV x (aW t k.z)).n,0⟩):=.inr ⟨HBN.out,.inr ⟨HMY.1,.inr ⟨HMY.2.1,.inr ⟨HMY.2.2,rfl⟩⟩⟩⟩;go_wp2;refine iG ?_;refine bodyPost_ret (v:=.agg #[.slice d'.a1 d'.l1 d'.c1,.slice d'.a2 d'.l2 d'.c2,.slice d'.a3 d'.l3 d'.c3,.slice d'.a4 d'.l4 d'.c4,.slice d'.a5 d'.l5 d'.c5,.int .i64 c.now,.string ((mkV x (aW t k.z)).n),.int .i64 0]) (by simp[results,Tryz.results128,go_sem, *];try rfl) rfl ⟨d',⟨c_ c i x (aW t k.z),(mkV x (aW t k.z)).n,0⟩,rfl,HV.out,?_,sb2 (sb2 (sb2 (sb2 (sb2 (sb2 (sb2 (sb2 (HBW6.trans (HWZ.mono HBW6.size)))))))))⟩;obtain⟨P,hP⟩:=HO.out;exact⟨P,hP.aM (w':=((((((((wz.setCell ⟨w.heap.size+1+1,0,none⟩ (.slice d'.a1 d'.l1 d'.c1)).setCell ⟨w.heap.size+1+1,1,none⟩ (.slice d'.a2 d'.l2 d'.c2)).setCell ⟨w.heap.size+1+1,2,none⟩ (.slice d'.a3 d'.l3 d'.c3)).setCell ⟨w.heap.size+1+1,3,none⟩ (.slice d'.a4 d'.l4 d'.c4)).setCell ⟨w.heap.size+1+1,4,none⟩ (.slice d'.a5 d'.l5 d'.c5)).setCell ⟨w.heap.size+1+1,5,none⟩ (.int .i64 c.now)).setCell ⟨w.heap.size+1+1,6,none⟩ (.string ((mkV x (aW t k.z)).n))).setCell ⟨w.heap.size+1+1,7,none⟩ (.int .i64 0))) (fun q hq s=>by have s1:w.heap.size+1+1+1+1+1<=q:=s;rw[Fm _ _ _ _ (show q≠w.heap.size+1+1 by omega),Fm _ _ _ _ (show q≠w.heap.size+1+1 by omega),Fm _ _ _ _ (show q≠w.heap.size+1+1 by omega),Fm _ _ _ _ (show q≠w.heap.size+1+1 by omega),Fm _ _ _ _ (show q≠w.heap.size+1+1 by omega),Fm _ _ _ _ (show q≠w.heap.size+1+1 by omega),Fm _ _ _ _ (show q≠w.heap.size+1+1 by omega),Fm _ _ _ _ (show q≠w.heap.size+1+1 by omega)]) (fun q _ s=>by have s1:w.heap.size+1+1+1+1+1<=q:=s;show w.heap.size<=q;omega)⟩

def Et (d:Ad) (c:Cl) (p:Pd) (n:Nd) (pa:Option Addr) (pl pc:Nat) (na:Option Addr) (nl nc:Nat) (t:ByteArray) (w:World) (e:Ending) (w':World):Prop:=∃(d':Ad) (c':Cl) (e0:Int) (hv:Value),e=.returned (.tuple #[.agg #[.slice d'.a1 d'.l1 d'.c1,.slice d'.a2 d'.l2 d'.c2,.slice d'.a3 d'.l3 d'.c3,.slice d'.a4 d'.l4 d'.c4,.slice d'.a5 d'.l5 d'.c5,.int .i64 c'.now,.string p.n,.int .i64 p.c,.string p.z,.slice pa pl pc,.string p.d,.int .i64 p.p,.string n.n,.string n.z,.int .i64 n.c,.int .i64 n.s,.int .i64 n.u,.bool n.d,.slice na nl nc],hv])/\cI c n t c' e0/\fK hv e0/\aJ w' d' c'.raw/\((d'=d/\c'=c)\/bU w' d' c'.raw (fun k=>w.heap.size<=k))/\Below w.heap.size w w'
theorem dB {W:World} {b:Nat} {cs:Array Value} :aC (fun k=>k=b) W (W.setRow b cs):=⟨rfl,rfl,rfl,by simp,fun k _ hn=>setRow_other _ _ _ _ hn⟩
def HsF (cs:Array Value):Fact:=fun v w=> ∃b,v=.slice (some ⟨b,0,none⟩) 2 2/\w.heap[b]?=some (.cells cs 112 (0,0))
theorem HsF.mono (cs:Array Value):Fact.bD (HsF cs):=by
 rintro v w w' ⟨b,h1,h2⟩ hb;exact⟨b,h1,(hb.block _ (ae h2)).trans h2⟩
def BdF (c:Cl) (n:Nd) (v:Vd):Fact:=fun r _=> ∃e0,fK r e0/\((¬v.z=n.z/\e0=8)\/(v.z=n.z/\gp c v n.n/\e0=10)\/(v.z=n.z/\¬gp c v n.n/\e0=0))
theorem BdF.mono (c:Cl) (n:Nd) (v:Vd):Fact.bD (BdF c n v):=fun _ _ _ h _=>h
theorem sI:(Tryz.prog.info? 36).map (·.size)=some 6:=by kernel_rfl
theorem ct6 {w:World} {b:Nat} {T:TypeId} {f:Nat×Nat} {v0 v1 v2 v3 v4 v5:Value} {r:List Value} (h:w.heap[b]?=some (.cells (v0::v1::v2::v3::v4::v5 ::r).toArray T f)):w.cell? ⟨b,0,none⟩=some v0/\w.cell? ⟨b,1,none⟩=some v1/\w.cell? ⟨b,2,none⟩=some v2/\w.cell? ⟨b,3,none⟩=some v3/\w.cell? ⟨b,4,none⟩=some v4/\w.cell? ⟨b,5,none⟩=some v5:=⟨aw h 0,aw h 1,aw h 2,aw h 3,aw h 4,aw h 5⟩
theorem zh (d:Ad) (c:Cl) (p:Pd) (n:Nd) (pa:Option Addr) (pl pc:Nat) (na:Option Addr) (nl nc:Nat) (t:ByteArray) (w:World) (hr:aJ w d c.raw) (hT:aB c) (ht:hit Xd.n c.xs t=true) (E:Nat->Addr) (hG:Ers w E) (hnz:aO n.z):
  Calls Tryz.prog 96 #[.agg #[.slice d.a1 d.l1 d.c1,.slice d.a2 d.l2 d.c2,.slice d.a3 d.l3 d.c3,.slice d.a4 d.l4 d.c4,.slice d.a5 d.l5 d.c5,.int .i64 c.now,.string p.n,.int .i64 p.c,.string p.z,.slice pa pl pc,.string p.d,.int .i64 p.p,.string n.n,.string n.z,.int .i64 n.c,.int .i64 n.s,.int .i64 n.u,.bool n.d,.slice na nl nc],.string t] w fun e w'=>Et d c p n pa pl pc na nl nc t w e w':=by
 have HR:=aa hr;have HT:=aa hT;have HH:=aa ht;have HE:=aa hG;have HNZ:=aa hnz;have HB:=aa (Ft w.heap.size w);clear hr hT ht hG hnz;go_enter Tryz.func96,Tryz.ntmps96;go_wp2_with fail;refine (ft d c.now c.xs t w _ HR.x (aF _ _ _)).mono ?_;rintro e w1 ⟨hb,hf⟩;obtain⟨HA0,HA1,hbx⟩:=cG hb;have Bt:=aa HA0;have Br:=aa HA1;replace HB:=upB HB hbx;clear hb hbx HA0 HA1;rcases hf with ⟨hh,x,hx,hn9,rfl,z0,z1,z2⟩|⟨hh,rfl⟩;rotate_left
 ·rw[HH.out] at hh;cases hh
 have HX:=aa hx;have HXN:=aa hn9;clear hx hn9 hh z0 z1 z2;obtain⟨t0,t1,t2,t3,t4,t5⟩:=ct6 Bt;have ltt_1:=ae Bt.out;go_wp2_with fail;refine (dV d c.now c.vs x.v w _ HR.v (HB.trans ((al _ _).mono HB.size))).mono ?_;rintro e w2 ⟨hb,hf⟩;clear t0 t1 t2 t3 t4 t5 ltt_1;obtain⟨HA0,hbx⟩:=aL hb;replace Bt:=upK Bt hbx;replace Br:=upK Br hbx;have Bx:=aa HA0;replace HB:=upB HB hbx;clear hb hbx HA0;rcases hf with ⟨hh,v,ua,ul,uc,hv,hvn,rfl,z0,z1,z2,z3,hz⟩|⟨hh,rfl⟩
 ·have HV:=aa hv;have HVN:=aa hvn;have HZ:=aa hz;clear hv hvn hh z0 z1 z2 z3 hz;obtain⟨t0,t1,t2,t3,t4,t5⟩:=ct6 Bt;have ltt_2:=ae Bt.out;go_wp2_with fail;obtain⟨W,hW0⟩:∃W,W=w2.alloc (.cells (vov v ua ul uc) 99):=⟨_,rfl⟩;have BtW:=aa ((Fw w2 (.cells (vov v ua ul uc) 99) _ (ae Bt.out)).trans Bt.out);have BrW:=aa ((Fw w2 (.cells (vov v ua ul uc) 99) _ (ae Br.out)).trans Br.out);have BvW:=aa (heap_alloc_new w2 (.cells (vov v ua ul uc) 99));have HBX:=aa (HB.trans ((al w2 (.cells (vov v ua ul uc) 99)).mono HB.size));rw[<-hW0] at BtW BrW BvW HBX ⊢;clear hW0 Bt Br HB Bx;clear t0 t1 t2 t3 t4 t5 ltt_2;rename_i K0 hK0;refine Gu.pb ar rfl rfl rfl ar ?_;refine' Gu.au.an (.agg #[.slice d.a1 d.l1 d.c1,.slice d.a2 d.l2 d.c2,.slice d.a3 d.l3 d.c3,.slice d.a4 d.l4 d.c4,.slice d.a5 d.l5 d.c5,.int .i64 c.now,.string p.n,.int .i64 p.c,.string p.z,.slice pa pl pc,.string p.d,.int .i64 p.p,.string n.n,.string n.z,.int .i64 n.c,.int .i64 n.s,.int .i64 n.u,.bool n.d,.slice na nl nc]) rfl ?_ ?_
  ·exact Cj
  refine' Gu.au.an (.agg #[.slice d.a1 d.l1 d.c1,.slice d.a2 d.l2 d.c2,.slice d.a3 d.l3 d.c3,.slice d.a4 d.l4 d.c4,.slice d.a5 d.l5 d.c5,.int .i64 c.now,.string p.n,.int .i64 p.c,.string p.z,.slice pa pl pc,.string p.d,.int .i64 p.p,.string n.n,.string n.z,.int .i64 n.c,.int .i64 n.s,.int .i64 n.u,.bool n.d,.slice na nl nc]) rfl ?_ ?_
  ·exact Cj
  refine' Gu.au.an _ rfl ?_ ?_;rotate_left 1
  ·exact vW
  refine' Gu.au.an _ rfl ?_ ?_;rotate_left 1
  ·refine Obl.plain rfl ?_;intro ac wg K hsz hW hf hK;clear hsz;have e32:=hf 32 aj;simp[ai,Fp] at e32;clear hf;exact aT
  refine' Gu.au.an _ rfl ?_ ?_;rotate_left 1
  ·refine Obl.plain rfl ?_;intro ac wg K hsz hW hf hK;clear hsz;have e33:=hf 33 aj;simp[ai,Fp] at e33;clear hf;exact aT
  refine' Gu.au.an _ rfl ?_ ?_;rotate_left 1
  ·exact vW
  refine' Gu.au.an _ rfl ?_ ?_;rotate_left 1
  ·exact qf
  refine' Gu.au.an _ rfl ?_ ?_;rotate_left 1
  ·refine Obl.plain rfl ?_;intro ac wg K hsz hW hf hK;clear hsz;have e36:=hf 36 aj;simp[ai,Fp] at e36;clear hf;exact aT
  refine Gu.au.step (HsF #[.iface 173 (.agg #[.string v.n,.int .i64 v.c,.string v.z,.string v.k,.bool v.x,.string v.m,.bool v.y,.slice ua ul uc]),.iface 174 (.agg #[.string v.n,.int .i64 v.c,.string v.z,.string v.k,.bool v.x,.string v.m,.bool v.y,.slice ua ul uc])]) rfl (HsF.mono _) ?_ ?_
  ·refine Obl.plain rfl ?_;intro ac wg K hsz hW hf hK;clear hsz;have e34:=hf 34 aj;simp[ai,Fp] at e34;have e37:=hf 37 aj;simp[ai,Fp] at e37;clear hf;go_simp;exact hK _ _ (al _ _) ⟨wg.heap.size,rfl,heap_alloc_new wg _⟩
  refine Gu.au.step (BdF c n v) rfl (BdF.mono _ _ _) ?_ ?_
  ·refine Obl.plain rfl ?_;intro ac wg K hsz hW hf hK;clear hsz;have e31:=hf 31 aj;simp[ai,Fp] at e31;have e38:=hf 38 aj;simp[ai,Fp] at e38;clear hf;obtain⟨b,e38,hb38⟩:=e38;go_simp;refine (jt _ _ _ _ _ _ _ _ _ _ _ _ _ _ _ _ _ _ _ b 2 2 [(173,.agg #[.string v.n,.int .i64 v.c,.string v.z,.string v.k,.bool v.x,.string v.m,.bool v.y,.slice ua ul uc],¬v.z=n.z),(174,.agg #[.string v.n,.int .i64 v.c,.string v.z,.string v.k,.bool v.x,.string v.m,.bool v.y,.slice ua ul uc],gp c v n.n)] wg rfl af (ae hb38) (fun j T u P hj=>by
    rcases j with _|_|j
    ·cases hj
     exact⟨aw hb38 0,zC d c p n pa pl pc na nl nc v ua ul uc _⟩
    ·cases hj
     exact⟨aw hb38 1,zB d c p n pa pl pc na nl nc v ua ul uc _ (HR.below (HBX.trans (hW.mono HBX.size))) (HZ.below (HBX.trans (hW.mono HBX.size)))⟩
    ·simp at hj)).mono ?_
   rintro e w6 ⟨⟨rr,rfl,hi⟩,hb6⟩;refine hK _ _ hb6 ?_;rcases hi with ⟨j,T,u,P,hj,hp,rfl,hlt⟩|⟨rfl,hno⟩
   ·rcases j with _|_|j
    ·cases hj;exact⟨8,.inr ⟨by decide,.inr (.inr (.inr (.inl ⟨_,rfl,rfl⟩)))⟩,.inl ⟨hp,rfl⟩⟩
    ·cases hj;have h1:=hlt 0 _ _ _ af rfl;exact⟨10,.inr ⟨by decide,.inr (.inr (.inr (.inr (.inl ⟨_,rfl,rfl⟩))))⟩,.inr (.inl ⟨Classical.not_not.1 h1,hp,rfl⟩)⟩
    ·simp at hj
   ·have h1:=hno 0 _ _ _ rfl;have h2:=hno 1 _ _ _ rfl;exact⟨0,.inl ⟨rfl,rfl⟩,.inr (.inr ⟨Classical.not_not.1 h1,h2,rfl⟩)⟩
  refine Gu.au.done ?_;intro q wz hW hf;simp only[FJ] at hf;obtain⟨⟨e0,he1,he2⟩,⟨b,h38,-⟩,h37,h36,h35,h34,h33,h32,h31,h30,-⟩:=hf;have HWZ:=upB HBX hW;have Br6:=upK BrW hW;have H1:=aa he1;have H2:=aa he2;clear hW he1 he2;have HA19:Hid ((#[.slice d.a1 d.l1 d.c1,.slice d.a2 d.l2 d.c2,.slice d.a3 d.l3 d.c3,.slice d.a4 d.l4 d.c4,.slice d.a5 d.l5 d.c5,.int .i64 c.now,.string p.n,.int .i64 p.c,.string p.z,.slice pa pl pc,.string p.d,.int .i64 p.p,.string n.n,.string n.z,.int .i64 n.c,.int .i64 n.s,.int .i64 n.u,.bool n.d,.slice na nl nc]:Array Value).all (·.oneCell')=true):=by show _=true;simp[GC]
  intro K hK;rw[if_pos bJ];simp only[aE,Gd,GG,Fy,FF,FL,h38,h37,h36,h35,h34,h33,h32,h31,h30];refine wp_store_row _ _ _ rfl (w.heap.size+1) (trv d c p n pa pl pc na nl nc) rfl rfl _ _ Br6.out aQ rfl HA19.out ?_;refine hK _ _ ?_;clear hK K;intro K hK;rw[if_pos bJ];go_simp;refine hK _ _ ?_;refine hK0 _ _ ?_;clear hK hK0 K K0;go_wp2;exact bodyPost_ret (v:=.tuple #[.agg #[.slice d.a1 d.l1 d.c1,.slice d.a2 d.l2 d.c2,.slice d.a3 d.l3 d.c3,.slice d.a4 d.l4 d.c4,.slice d.a5 d.l5 d.c5,.int .i64 c.now,.string p.n,.int .i64 p.c,.string p.z,.slice pa pl pc,.string p.d,.int .i64 p.p,.string n.n,.string n.z,.int .i64 n.c,.int .i64 n.s,.int .i64 n.u,.bool n.d,.slice na nl nc],q 39]) (results_cell_tmp rfl _ _ (w.heap.size+1) _ _ _ _ _ rfl rfl (setRow_heap _ (w.heap.size+1) _ (trv d c p n pa pl pc na nl nc) _ _ Br6.out) Tryz.underlying66 rfl aQ) rfl ⟨d,c,e0,q 39,rfl,⟨_,x,HX.out,HXN.out,.inl ⟨_,v,HV.out,HVN.out,rfl,H2.out⟩⟩,H1.out,HR.below (below_setRow HWZ.out af _),.inl ⟨rfl,rfl⟩,below_setRow HWZ.out af _⟩
 have HHV:=aa hh;clear hh;obtain⟨t0,t1,t2,t3,t4,t5⟩:=ct6 Bt;have ltt_2:=ae Bt.out;have x2:w2.cell? ⟨w1.heap.size,2,none⟩=some (.string x.k):=aw Bx.out 2;have ltx_2:=ae Bx.out;go_wp2_with fail;refine (ig d c.now c.ks x.k w _ HR.k (HB.trans ((al _ _).mono HB.size))).mono ?_;rintro e w3 ⟨hb,hf⟩;clear t0 t1 t2 t3 t4 t5 ltt_2 x2 ltx_2;obtain⟨HA0,hbx⟩:=aL hb;replace Bt:=upK Bt hbx;replace Br:=upK Br hbx;replace Bx:=upK Bx hbx;have Bv:=aa HA0;replace HB:=upB HB hbx;clear hb hbx HA0;have hkh:=(HT.2.2.1.2 _ _ HX.out).1;rcases hf with ⟨hh,k,hk,hkn,rfl,z0,z1⟩|⟨hh,rfl⟩;rotate_left
 ·rw[hkh] at hh;cases hh
 have HK:=aa hk;have HKN:=aa hkn;have HXV:Hid (x.v=⟨#[]⟩):=(HT.2.2.1.2 _ _ HX.out).2.elim id (fun h=>by
  obtain⟨i1,j1,x1,v1,-,-,a3,a4,-⟩:=h;have h9:=(cM HT.2.1.2.2.1.2.2 a3 a4).2;rw[HHV.out] at h9
  cases h9)
 clear hk hkn hh hkh z0 z1;have hr3:=ae Br.out;have t0:w3.cell? ⟨w.heap.size,0,none⟩=some (.slice d.a1 d.l1 d.c1):=aw Bt.out 0;have t1:w3.cell? ⟨w.heap.size,1,none⟩=some (.slice d.a2 d.l2 d.c2):=aw Bt.out 1;have t2:w3.cell? ⟨w.heap.size,2,none⟩=some (.slice d.a3 d.l3 d.c3):=aw Bt.out 2;have t3:w3.cell? ⟨w.heap.size,3,none⟩=some (.slice d.a4 d.l4 d.c4):=aw Bt.out 3;have t4:w3.cell? ⟨w.heap.size,4,none⟩=some (.slice d.a5 d.l5 d.c5):=aw Bt.out 4;have t5:w3.cell? ⟨w.heap.size,5,none⟩=some (.int .i64 c.now):=aw Bt.out 5;have t13:w3.cell? ⟨w.heap.size,13,none⟩=some (.string n.z):=aw Bt.out 13;have ltt_3:=ae Bt.out;obtain⟨x0,x1,x2,x3,x4⟩:=cs5 Bx;have ltx_3:=ae Bx.out;go_wp2_with fail;refine (oM d c x n.z _ _ k E _ (HR.below (HB.trans ((al _ _).mono HB.size))) (HE.below (HB.trans ((al _ _).mono HB.size))) HT.out HX.out HXV.out HK.out HKN.out (.inr HNZ.out)).mono ?_;rintro e w4 ⟨dg,o,rfl,hI,ho,hb⟩;clear t0 t1 t2 t3 t4 t5 t13 ltt_3 x0 x1 x2 x3 x4 ltx_3;obtain⟨HA0,hbx⟩:=aL hb;replace Bt:=upK Bt hbx;replace Br:=upK Br hbx;replace Bx:=upK Bx hbx;replace Bv:=upK Bv hbx;have Bq:=aa HA0;replace HB:=upB HB hbx;clear hb hbx HA0;have HO:=aa (ho.bA (S':=fun k=>w3.heap.size<=k) (fun k _ s=>by have s2:(w3.alloc _).heap.size<=k:=s;simp at s2;omega));have HBI:=aa hI;clear ho hI;obtain⟨q0,q1,q2,q3⟩:=cs4 Bq;have ltq_4:=ae Bq.out;have ht9:=ae Bt.out;have BT5:Hid ((w4.alloc (.cells #[.slice dg.a1 dg.l1 dg.c1,.slice dg.a2 dg.l2 dg.c2,.slice dg.a3 dg.l3 dg.c3,.slice dg.a4 dg.l4 dg.c4,.slice dg.a5 dg.l5 dg.c5,.int .i64 o.c.now,.string o.n,.int .i64 o.p] 38)).heap[w.heap.size]?=some (.cells (trv d c p n pa pl pc na nl nc) 66 (0,0))):=(Fw _ _ _ ht9).trans Bt.out;go_wp2_with (refine wpList_load_row (o:=⟨some 55,.load 66 (.tmp 2),_,_,_,none⟩) rfl _ _ rfl w.heap.size rfl _ _ _ _ BT5.out Tryz.underlying66 rfl aQ ?_);refine (jt _ _ _ _ _ _ _ _ _ _ _ _ _ _ _ _ _ _ _ (w4.heap.size+1) 2 2 [(116,.agg #[.string k.n,.bool k.x,.bool k.y,.string k.z],k.x=false),(179,.agg #[.int .i64 o.p],¬o.p=0)] _ rfl af aR (fun j T v P hj=>by
  rcases j with _|_|j
  ·cases hj
   exact⟨aw (bE _ _ _) 0,zD d c p n pa pl pc na nl nc k _⟩
  ·cases hj
   exact⟨aw (bE _ _ _) 1,AW d c p n pa pl pc na nl nc o.p _⟩
  ·simp at hj)).mono ?_
 rintro e w5 ⟨⟨rr,rfl,hi⟩,hb⟩;have HHV2:Hid (∃e0,fK rr e0/\((k.x=false/\e0=11)\/(k.x=true/\e0=o.p))):=by
  rcases hi with ⟨j,T,v,P,hj,hp,rfl,hlt⟩|⟨rfl,hno⟩
  ·rcases j with _|_|j
   ·cases hj;exact⟨11,.inr ⟨by decide,.inr (.inr (.inr (.inr (.inr (.inl ⟨_,rfl,rfl⟩)))))⟩,.inl ⟨hp,rfl⟩⟩
   ·cases hj;have h1:=hlt 0 _ _ _ af rfl;exact⟨o.p,.inr ⟨hp,.inr (.inr (.inr (.inr (.inr (.inr (.inl rfl))))))⟩,.inr ⟨by simpa using h1,rfl⟩⟩
   ·simp at hj
  ·have h1:=hno 0 _ _ _ rfl;have h2:=hno 1 _ _ _ rfl;exact⟨0,.inl ⟨rfl,rfl⟩,.inr ⟨by simpa using h1,(Classical.not_not.1 h2).symm⟩⟩
 clear hi;clear q0 q1 q2 q3 ltq_4;obtain⟨HA0,HA1,hbx⟩:=cG hb;replace Bt:=upK Bt hbx;replace Br:=upK Br hbx;replace Bx:=upK Bx hbx;replace Bv:=upK Bv hbx;replace Bq:=upK Bq hbx;have Bo:=aa HA0;have Bs:=aa HA1;replace HO:=aa (HO.below hbx);replace HB:=upB HB hbx;clear hb hbx HA0 HA1;obtain⟨o0,o1,o2,o3,o4,o5,o6,o7⟩:=cs8 Bo;have lto_5:=ae Bo.out;have ltt:=ae Bt.out;have BT8:=aa (setRow_heap w5 w.heap.size _ #[.slice dg.a1 dg.l1 dg.c1,.slice dg.a2 dg.l2 dg.c2,.slice dg.a3 dg.l3 dg.c3,.slice dg.a4 dg.l4 dg.c4,.slice dg.a5 dg.l5 dg.c5,.int .i64 o.c.now,.string p.n,.int .i64 p.c,.string p.z,.slice pa pl pc,.string p.d,.int .i64 p.p,.string n.n,.string n.z,.int .i64 n.c,.int .i64 n.s,.int .i64 n.u,.bool n.d,.slice na nl nc] _ _ Bt.out);have BR8:=aa ((setRow_other w5 w.heap.size (w.heap.size+1) #[.slice dg.a1 dg.l1 dg.c1,.slice dg.a2 dg.l2 dg.c2,.slice dg.a3 dg.l3 dg.c3,.slice dg.a4 dg.l4 dg.c4,.slice dg.a5 dg.l5 dg.c5,.int .i64 o.c.now,.string p.n,.int .i64 p.c,.string p.z,.slice pa pl pc,.string p.d,.int .i64 p.p,.string n.n,.string n.z,.int .i64 n.c,.int .i64 n.s,.int .i64 n.u,.bool n.d,.slice na nl nc] af).trans Br.out);have HA6:Hid ((#[.slice dg.a1 dg.l1 dg.c1,.slice dg.a2 dg.l2 dg.c2,.slice dg.a3 dg.l3 dg.c3,.slice dg.a4 dg.l4 dg.c4,.slice dg.a5 dg.l5 dg.c5,.int .i64 o.c.now]:Array Value).all (·.oneCell')=true):=by show _=true;simp[GC]
 have HA19:Hid ((#[.slice dg.a1 dg.l1 dg.c1,.slice dg.a2 dg.l2 dg.c2,.slice dg.a3 dg.l3 dg.c3,.slice dg.a4 dg.l4 dg.c4,.slice dg.a5 dg.l5 dg.c5,.int .i64 o.c.now,.string p.n,.int .i64 p.c,.string p.z,.slice pa pl pc,.string p.d,.int .i64 p.p,.string n.n,.string n.z,.int .i64 n.c,.int .i64 n.s,.int .i64 n.u,.bool n.d,.slice na nl nc]:Array Value).all (·.oneCell')=true):=by show _=true;simp[GC]
 go_wp2_with (first
  | refine eg (op:=⟨none,.store 36 (.tmp 67) (.tmp 66),_,_,_,none⟩) rfl _ _ _ rfl w.heap.size 0 #[.slice dg.a1 dg.l1 dg.c1,.slice dg.a2 dg.l2 dg.c2,.slice dg.a3 dg.l3 dg.c3,.slice dg.a4 dg.l4 dg.c4,.slice dg.a5 dg.l5 dg.c5,.int .i64 o.c.now] #[.slice dg.a1 dg.l1 dg.c1,.slice dg.a2 dg.l2 dg.c2,.slice dg.a3 dg.l3 dg.c3,.slice dg.a4 dg.l4 dg.c4,.slice dg.a5 dg.l5 dg.c5,.int .i64 o.c.now,.string p.n,.int .i64 p.c,.string p.z,.slice pa pl pc,.string p.d,.int .i64 p.p,.string n.n,.string n.z,.int .i64 n.c,.int .i64 n.s,.int .i64 n.u,.bool n.d,.slice na nl nc] rfl rfl _ _ Bt.out sI (Nat.le_of_ble_eq_true rfl) HA6.out rfl ?_
  | refine wpList_load_row (o:=⟨some 68,.load 66 (.tmp 2),_,_,_,none⟩) rfl _ _ rfl w.heap.size rfl _ _ _ _ BT8.out Tryz.underlying66 rfl aQ ?_
  | refine wpList_store_row (o:=⟨none,.store 66 (.tmp 4) (.tmp 68),_,_,_,none⟩) rfl _ _ _ rfl (w.heap.size+1) #[.slice dg.a1 dg.l1 dg.c1,.slice dg.a2 dg.l2 dg.c2,.slice dg.a3 dg.l3 dg.c3,.slice dg.a4 dg.l4 dg.c4,.slice dg.a5 dg.l5 dg.c5,.int .i64 o.c.now,.string p.n,.int .i64 p.c,.string p.z,.slice pa pl pc,.string p.d,.int .i64 p.p,.string n.n,.string n.z,.int .i64 n.c,.int .i64 n.s,.int .i64 n.u,.bool n.d,.slice na nl nc] rfl rfl _ _ BR8.out aQ rfl HA19.out ?_)
 have HOF:=aa ((HO.kept (dB (b:=w.heap.size) (cs:=#[.slice dg.a1 dg.l1 dg.c1,.slice dg.a2 dg.l2 dg.c2,.slice dg.a3 dg.l3 dg.c3,.slice dg.a4 dg.l4 dg.c4,.slice dg.a5 dg.l5 dg.c5,.int .i64 o.c.now,.string p.n,.int .i64 p.c,.string p.z,.slice pa pl pc,.string p.d,.int .i64 p.p,.string n.n,.string n.z,.int .i64 n.c,.int .i64 n.s,.int .i64 n.u,.bool n.d,.slice na nl nc])) (fun k s e=>by have s2:w3.heap.size<=k:=s;omega)).kept (dB (b:=w.heap.size+1) (cs:=#[.slice dg.a1 dg.l1 dg.c1,.slice dg.a2 dg.l2 dg.c2,.slice dg.a3 dg.l3 dg.c3,.slice dg.a4 dg.l4 dg.c4,.slice dg.a5 dg.l5 dg.c5,.int .i64 o.c.now,.string p.n,.int .i64 p.c,.string p.z,.slice pa pl pc,.string p.d,.int .i64 p.p,.string n.n,.string n.z,.int .i64 n.c,.int .i64 n.s,.int .i64 n.u,.bool n.d,.slice na nl nc])) (fun k s e=>by have s2:w3.heap.size<=k:=s;omega));obtain⟨e0,he1,he2⟩:=HHV2.out;exact bodyPost_ret (v:=.tuple #[.agg #[.slice dg.a1 dg.l1 dg.c1,.slice dg.a2 dg.l2 dg.c2,.slice dg.a3 dg.l3 dg.c3,.slice dg.a4 dg.l4 dg.c4,.slice dg.a5 dg.l5 dg.c5,.int .i64 o.c.now,.string p.n,.int .i64 p.c,.string p.z,.slice pa pl pc,.string p.d,.int .i64 p.p,.string n.n,.string n.z,.int .i64 n.c,.int .i64 n.s,.int .i64 n.u,.bool n.d,.slice na nl nc],rr]) (results_cell_tmp rfl _ _ (w.heap.size+1) _ _ _ _ _ rfl rfl (setRow_heap _ (w.heap.size+1) _ #[.slice dg.a1 dg.l1 dg.c1,.slice dg.a2 dg.l2 dg.c2,.slice dg.a3 dg.l3 dg.c3,.slice dg.a4 dg.l4 dg.c4,.slice dg.a5 dg.l5 dg.c5,.int .i64 o.c.now,.string p.n,.int .i64 p.c,.string p.z,.slice pa pl pc,.string p.d,.int .i64 p.p,.string n.n,.string n.z,.int .i64 n.c,.int .i64 n.s,.int .i64 n.u,.bool n.d,.slice na nl nc] _ _ BR8.out) Tryz.underlying66 rfl aQ) rfl ⟨dg,o.c,e0,rr,rfl,⟨_,x,HX.out,HXN.out,.inr ⟨HXV.out,_,k,o,HK.out,HKN.out,HBI.out,rfl,he2⟩⟩,he1,HOF.row,.inr (HOF.bA (fun k _ s=>by have s2:w3.heap.size<=k:=s;show w.heap.size<=k;omega)),below_setRow (below_setRow HB.out (Fq _) _) af _⟩

theorem rm (d:Ad) (c:Cl) (x:Pd) (va:Option Addr) (vl vc:Nat) (w:World) (hr:aJ w d c.raw) (hs:Sm c) (hx:ay w va vl vc x.zs) (hvl:vl<=8001) (z0:x.n.size<=9223372036854775807) (z2:x.z.size<=9223372036854775807) (z4:x.d.size<=9223372036854775807):
  Calls Tryz.prog 97 #[.agg #[.slice d.a1 d.l1 d.c1,.slice d.a2 d.l2 d.c2,.slice d.a3 d.l3 d.c3,.slice d.a4 d.l4 d.c4,.slice d.a5 d.l5 d.c5,.int .i64 c.now],.agg #[.string x.n,.int .i64 x.c,.string x.z,.slice va vl vc,.string x.d,.int .i64 x.p]] w fun e w'=> ∃d',e=.returned (.agg #[.slice d'.a1 d'.l1 d'.c1,.slice d'.a2 d'.l2 d'.c2,.slice d'.a3 d'.l3 d'.c3,.slice d'.a4 d'.l4 d'.c4,.slice d'.a5 d'.l5 d'.c5,.int .i64 c.now])/\bU w' d' (mf c x).raw (fun k=>w.heap.size<=k)/\Below w.heap.size w w':=by
 have HR:=aa hr;have HS:=aa hs;have HX:=aa hx;have HB:=aa (Ft w.heap.size w);clear hr hs hx;go_enter Tryz.func97,Tryz.ntmps97;go_wp2_with fail;refine (lk d c _ (HR.below (HB.trans ((bH _ _ _ _).mono HB.size))) HS.out).mono ?_;rintro e w1 ⟨d',rfl,ho,hb⟩;have HQ2:=aa hb.size;simp only[dH] at HQ2 ho;obtain⟨HA0,HA1,HA2,hbx⟩:=lQ hb;have Bk:=aa HA0;have Bp:=aa HA1;have Br:=aa HA2;replace HB:=upB HB hbx;clear hb hbx HA0 HA1 HA2;obtain⟨P,hP⟩:=ho;have HP:=aa hP;have hq2:w.heap.size+1+1+1<=w1.heap.size:=HQ2.out;clear hP;obtain⟨p0,p1,p2,p3,p4,p5⟩:=cs6 Bp;have ltp_1:=ae Bp.out;have h5:=(HP.p.bA (S':=(fun k=>(w.heap.size+1+1+1<=k/\P k=5)/\k<w1.heap.size)) (fun k hk s=>⟨s,hk⟩)).below (al w1 (.cells (clv d' c.now) 36));have hlen:d'.l5<=8:=by have h6:=HP.p.1;have h7:(c.ps.map pdF).length=d'.l5:=h6;rw[FR] at h7;have:=HS.p;omega
 have hbo:Below w1.heap.size w1 (w1.alloc (.cells (clv d' c.now) 36)):=al w1 (.cells (clv d' c.now) 36);have hpk:=ae Bp.out;have hc1:Calls Tryz.prog 129 #[.slice d'.a5 d'.l5 d'.c5,.string x.n] (w1.alloc (.cells (clv d' c.now) 36)).drew fun e W=> ∃a2 l2 c2,e=.returned (.slice a2 l2 c2)/\Hid (az W a2 l2 c2 6 64 ((wo Pd.n x.n c.ps).map pdF) (fun k=>(fun k=>(w.heap.size+1+1+1<=k/\P k=5)/\k<w1.heap.size) k\/w1.heap.size+1<=k))/\Hid (Below (w1.alloc (.cells (clv d' c.now) 36)).heap.size (w1.alloc (.cells (clv d' c.now) 36)) W)/\Hid (W.heap[w.heap.size+1]?=some (.cells (pov x va vl vc) 64 (0,0)))/\Hid (W.heap[w1.heap.size]?=some (.cells (clv d' c.now) 36 (0,0)))/\Hid (W.heap[w.heap.size+1+1]?=some (.cells (clo6 none 0 0 none 0 0 none 0 0 none 0 0 none 0 0 0) 36 (0,0))):=by
  refine (tD d'.a5 d'.l5 d'.c5 c.ps x.n (fun k=>(w.heap.size+1+1+1<=k/\P k=5)/\k<w1.heap.size) (w1.alloc (.cells (clv d' c.now) 36)).drew (h5.aM (fun _ _ _=>rfl) (fun _ _ s=>s)) hlen).mono ?_;rintro e W ⟨a2,l2,c2,rfl,hN,hb⟩;have hb':Below (w1.alloc (.cells (clv d' c.now) 36)).heap.size (w1.alloc (.cells (clv d' c.now) 36)) W:=⟨hb.os,hb.tape,hb.output,hb.size,hb.block⟩;have hN':=hN.bA (S':=fun k=>(fun k=>(w.heap.size+1+1+1<=k/\P k=5)/\k<w1.heap.size) k\/w1.heap.size+1<=k) (fun k _ s=>s.imp id (fun q=>by have q1:(w1.alloc (.cells (clv d' c.now) 36)).drew.heap.size<=k:=q;simpa using q1));exact⟨a2,l2,c2,rfl,hN',hb',(hb'.block _ bF).trans ((hbo.block _ hpk).trans Bp.out),(hb'.block _ aR).trans (heap_alloc_new w1 (.cells (clv d' c.now) 36)),(hb'.block _ bF).trans ((hbo.block _ af).trans Br.out)⟩
 have hc2:∀W,Below (w1.alloc (.cells (clv d' c.now) 36)).heap.size (w1.alloc (.cells (clv d' c.now) 36)) W->Hid (W.heap[w.heap.size+1]?=some (.cells (pov x va vl vc) 64 (0,0)))/\Hid (W.heap[w1.heap.size]?=some (.cells (clv d' c.now) 36 (0,0)))/\Hid (W.heap[w.heap.size+1+1]?=some (.cells (clo6 none 0 0 none 0 0 none 0 0 none 0 0 none 0 0 0) 36 (0,0)))->Calls Tryz.prog 67 #[.agg #[.string x.n,.int .i64 x.c,.string x.z,.slice va vl vc,.string x.d,.int .i64 x.p]] W fun e W3=> ∃a3 l3 c3,e=.returned (.agg #[.string x.n,.int .i64 x.c,.string x.z,.slice a3 l3 c3,.string x.d,.int .i64 x.p])/\Hid (cy W3 a3 l3 c3 x.zs (fun k=>W.heap.size<=k))/\Hid (Below W.heap.size W W3)/\Hid (W3.heap[w.heap.size+1]?=some (.cells (pov x va vl vc) 64 (0,0)))/\Hid (W3.heap[w1.heap.size]?=some (.cells (clv d' c.now) 36 (0,0)))/\Hid (W3.heap[w.heap.size+1+1]?=some (.cells (clo6 none 0 0 none 0 0 none 0 0 none 0 0 none 0 0 0) 36 (0,0))):=fun W hb hkp=>by
  refine (kg x va vl vc W (HX.below (HB.trans ((hbo.trans (hb.mono aR)).mono HB.size))) hvl).mono ?_;rintro e W3 ⟨a3,l3,c3,rfl,hO,hb3⟩;exact⟨a3,l3,c3,rfl,hO,hb3,(hb3.block _ (ae hkp.1.out)).trans hkp.1.out,(hb3.block _ (ae hkp.2.1.out)).trans hkp.2.1.out,(hb3.block _ (ae hkp.2.2.out)).trans hkp.2.2.out⟩
 have hc3:∀(W W3:World) a2 l2 c2 a3 l3 c3,Below (w1.alloc (.cells (clv d' c.now) 36)).heap.size (w1.alloc (.cells (clv d' c.now) 36)) W->az W a2 l2 c2 6 64 ((wo Pd.n x.n c.ps).map pdF) (fun k=>(fun k=>(w.heap.size+1+1+1<=k/\P k=5)/\k<w1.heap.size) k\/w1.heap.size+1<=k)->Below W.heap.size W W3->cy W3 a3 l3 c3 x.zs (fun k=>W.heap.size<=k)->Hid (W3.heap[w.heap.size+1]?=some (.cells (pov x va vl vc) 64 (0,0)))/\Hid (W3.heap[w1.heap.size]?=some (.cells (clv d' c.now) 36 (0,0)))/\Hid (W3.heap[w.heap.size+1+1]?=some (.cells (clo6 none 0 0 none 0 0 none 0 0 none 0 0 none 0 0 0) 36 (0,0)))->Calls Tryz.prog 130 #[.slice a2 l2 c2,.agg #[.string x.n,.int .i64 x.c,.string x.z,.slice a3 l3 c3,.string x.d,.int .i64 x.p]] W3 fun e W4=> ∃a4 l4 c4,e=.returned (.slice a4 l4 c4)/\Hid (az W4 a4 l4 c4 6 64 ((mf c x).ps.map pdF) (fun k=>(fun k=>(w.heap.size+1+1+1<=k/\P k=5)/\k<w1.heap.size) k\/w1.heap.size+1<=k))/\Hid (Below w1.heap.size w1 W4)/\Hid (W4.heap[w.heap.size+1]?=some (.cells (pov x va vl vc) 64 (0,0)))/\Hid (W4.heap[w1.heap.size]?=some (.cells (clv d' c.now) 36 (0,0)))/\Hid (W4.heap[w.heap.size+1+1]?=some (.cells (clo6 none 0 0 none 0 0 none 0 0 none 0 0 none 0 0 0) 36 (0,0))):=fun W W3 a2 l2 c2 a3 l3 c3 hb hO2 hb3 hO3 hkp=>by
  obtain⟨g,hg⟩:=hO3.fr;have hr2:=(hO2.bA (S':=fun k=>((fun k=>(w.heap.size+1+1+1<=k/\P k=5)/\k<w1.heap.size) k\/w1.heap.size+1<=k)/\k<W.heap.size) (fun k hk s=>⟨s,hk⟩)).below hb3;have hl2:l2<=8:=by have h6:=hO2.1;rw[FR] at h6;have h7:=kM Pd.n x.n c.ps;have:=HS.p;omega
  have hs1:=hb.size;simp only[dH] at hs1;refine (pf a2 l2 c2 (wo Pd.n x.n c.ps) x a3 l3 c3 g _ (fun k=>W.heap.size<=k) W3 hr2 hl2 (fun i f hf=>by rcases i with _|_|_|_|_|_|i <;> simp[pdF] at hf <;> subst hf;exact⟨_,rfl,rfl,z0⟩;exact⟨_,rfl,rfl⟩;exact⟨_,rfl,rfl,z2⟩;exact⟨_,rfl,hg⟩;exact⟨_,rfl,rfl,z4⟩;exact⟨_,rfl,rfl⟩) (fun k q1 q2=>by have q3:=q1.2;have q4:W.heap.size<=k:=q2;omega)).mono ?_;rintro e W4 ⟨a4,l4,c4,rfl,hN,hb4⟩;have hs3:=hb3.size;have hb14:Below w1.heap.size w1 W4:=(hbo.trans (hb.mono aR)).trans ((hb3.mono af).trans (hb4.mono af));have hN':=hN.bA (S':=fun k=>(fun k=>(w.heap.size+1+1+1<=k/\P k=5)/\k<w1.heap.size) k\/w1.heap.size+1<=k) (fun k _ s=>by
   rcases s with (s|s)|s
   ·exact s.1
   ·have s1:W.heap.size<=k:=s;exact .inr af
   ·have s1:W3.heap.size<=k:=s;exact .inr af)
  exact⟨a4,l4,c4,rfl,hN',hb14,(hb4.block _ (ae hkp.1.out)).trans hkp.1.out,(hb4.block _ (ae hkp.2.1.out)).trans hkp.2.1.out,(hb4.block _ (ae hkp.2.2.out)).trans hkp.2.2.out⟩
 have C1:=aa hc1;have C2:=aa hc2;have C3:=aa hc3;clear hc1 hc2 hc3 h5 HX;have mixed:Tryz.prog.follows .mixedOrders=true:=ar
 go_wp2;go_region_with (first
  | (go_at_call 129;refine C1.mono ?_;rintro e w2 ⟨a2,l2,c2,rfl,HO2,HB2,HKP2⟩;obtain⟨p0,p1,p2,p3,p4,p5⟩:=cs6 HKP2.1.out)
  | (go_at_call 67;refine (C2.out w2 HB2.out HKP2).mono ?_;rintro e w3 ⟨a3,l3,c3,rfl,HO3,HB3,HKP3⟩)
  | (go_at_call 130;refine (C3.out w2 w3 a2 l2 c2 a3 l3 c3 HB2.out HO2.out HB3.out HO3.out HKP3).mono ?_;rintro e w4 ⟨a4,l4,c4,rfl,HO4,HB4,HKP4⟩;obtain⟨o0,o1,o2,o3,o4,o5⟩:=cs6 HKP4.2.1.out;have hol:=ae HKP4.2.1.out;have fo4:=av HKP4.2.1.out 4))
 all_goals (
  obtain⟨r0,r1,r2,r3,r4,r5⟩:=cs6 HKP4.2.2.out;have fr0:=av HKP4.2.2.out 0;have fr1:=av HKP4.2.2.out 1;have fr2:=av HKP4.2.2.out 2;have fr3:=av HKP4.2.2.out 3;have fr4:=av HKP4.2.2.out 4;have fr5:=av HKP4.2.2.out 5;have hrl:=ae HKP4.2.2.out
  have hne:¬w.heap.size+1+1=w1.heap.size:=af
  have hne2:¬w1.heap.size=w.heap.size+1+1:=af
  go_wp2
  refine bodyPost_ret (v:=.agg #[.slice d'.a1 d'.l1 d'.c1,.slice d'.a2 d'.l2 d'.c2,.slice d'.a3 d'.l3 d'.c3,.slice d'.a4 d'.l4 d'.c4,.slice a4 l4 c4,.int .i64 c.now]) (by simp[results,Tryz.results97,go_sem, *]) rfl ⟨⟨d'.a1,d'.l1,d'.c1,d'.a2,d'.l2,d'.c2,d'.a3,d'.l3,d'.c3,d'.a4,d'.l4,d'.c4,a4,l4,c4⟩,rfl,?_,sb2 (sb2 (sb2 (sb2 (sb2 (sb2 (ah (show w.heap.size<=w1.heap.size by omega) (HB.trans (HB4.mono HB.size))))))))⟩;have h9:=HP.E1 hq2 HO4.out HB4.out (w4:=(((((((w4.setCell ⟨w1.heap.size,4,none⟩ (.slice a4 l4 c4)).setCell ⟨w.heap.size+1+1,0,none⟩ (.slice d'.a1 d'.l1 d'.c1)).setCell ⟨w.heap.size+1+1,1,none⟩ (.slice d'.a2 d'.l2 d'.c2)).setCell ⟨w.heap.size+1+1,2,none⟩ (.slice d'.a3 d'.l3 d'.c3)).setCell ⟨w.heap.size+1+1,3,none⟩ (.slice d'.a4 d'.l4 d'.c4)).setCell ⟨w.heap.size+1+1,4,none⟩ (.slice a4 l4 c4)).setCell ⟨w.heap.size+1+1,5,none⟩ (.int .i64 c.now))) (fun k h1 h2=>by rw[Fm _ _ _ _ (show k≠w.heap.size+1+1 by omega),Fm _ _ _ _ (show k≠w.heap.size+1+1 by omega),Fm _ _ _ _ (show k≠w.heap.size+1+1 by omega),Fm _ _ _ _ (show k≠w.heap.size+1+1 by omega),Fm _ _ _ _ (show k≠w.heap.size+1+1 by omega),Fm _ _ _ _ (show k≠w.heap.size+1+1 by omega),Fm _ _ _ _ (show k≠w1.heap.size by omega)])
  exact h9.bA (fun k _ s=>by have s1:w.heap.size+1+1+1<=k:=s;show w.heap.size<=k;omega))

end Rc
end Go.Proofs.YtpejepeekdjfoaaGreatDoor

namespace Go.Proofs.YtpejepeekdjfoaaGreatDoor
open Go.RowKit
namespace Gv

def nx (P:Program) (ops:Array Oper) (Q:Exit->Act->World->Prop) (o:Oper) (a:Act) (w:World) (C:Act->World->Prop):Prop:=
 ∀K:Act->World->Prop,(∀a w,C a w->K a w)->if GL o (yielded ops a.tmps)=true then o.wp P a w K Q else K (a.put o.dst undef) w
def rS (P:Program) (ops:Array Oper) (Q:Exit->Act->World->Prop) (W:World) (a0:Act) (s u t:Oper) (known:List (Tmp×Fact)):Prop:=
 ∀(x:Tmp->Value) (w:World),Below W.heap.size W w->(∀p∈known,p.2 (x p.1) w)->nx P ops Q s (aE a0 known x) w fun a1 w1=>nx P ops Q u a1 w1 fun a2 w2=>nx P ops Q t a2 w2 fun a w=>Q .normal a w
def au (P:Program) (ops:Array Oper) (Q:Exit->Act->World->Prop) (W:World) (a0:Act) (s u t:Oper):List Oper->List (Tmp×Fact)->Prop
 | [],known=>(∃φ:Fact,φ.bD/\Obl P ops Q W a0 known u φ/\Gu.Fin P ops Q W a0 s t (kn u.dst φ known))/\rS P ops Q W a0 s u t known
 | o ::rest,known=> ∃φ:Fact,φ.bD/\Obl P ops Q W a0 known o φ/\au P ops Q W a0 s u t rest (kn o.dst φ known)
section
variable {P:Program} {ops:Array Oper} {Q:Exit->Act->World->Prop} {W:World} {a0:Act} {s u t:Oper}
theorem au.step {o:Oper} {rest:List Oper} {known:List (Tmp×Fact)} {d:Tmp} (φ:Fact) (hd:o.dst=some d) (hφ:φ.bD) (ho:Obl P ops Q W a0 known o φ)
  (h:au P ops Q W a0 s u t rest ((d,φ) ::known)):au P ops Q W a0 s u t (o ::rest) known:=⟨φ,hφ,ho,(by rw[hd];exact h)⟩
theorem au.an {o:Oper} {rest:List Oper} {known:List (Tmp×Fact)} {d:Tmp} (c:Value) (hd:o.dst=some d) (ho:Obl P ops Q W a0 known o (fun v _=>v=c))
  (h:au P ops Q W a0 s u t rest ((d,fun v _=>v=c) ::known)):au P ops Q W a0 s u t (o ::rest) known:=au.step _ hd (Fact.cv c) ho h
theorem au.late {known:List (Tmp×Fact)} {d:Tmp} (φ:Fact) (hd:u.dst=some d) (hφ:φ.bD) (ho:Obl P ops Q W a0 known u φ) (h:Gu.Fin P ops Q W a0 s t ((d,φ) ::known)) (hl:rS P ops Q W a0 s u t known):au P ops Q W a0 s u t [] known:=⟨⟨φ,hφ,ho,by rw[hd];exact h⟩,hl⟩
theorem au.spec:∀(l:List Oper) (known:List (Tmp×Fact)),au P ops Q W a0 s u t l known->∃φs:List Fact,φs.length=l.length+1/\
  (∀(i:Nat) (o:Oper) (φ:Fact),(l++[u])[i]?=some o->φs[i]?=some φ->φ.bD/\Obl P ops Q W a0 (knAll known ((l++[u]).take i) (φs.take i)) o φ)/\Gu.Fin P ops Q W a0 s t (knAll known (l++[u]) φs)/\rS P ops Q W a0 s u t (knAll known l (φs.take l.length))
 | [],known,h=>by
  obtain⟨⟨φ,hφ,ho,hf⟩,hl⟩:=h;refine⟨[φ],rfl,fun i o φ' h1 h2=>?_,hf,by rw[bW];exact hl⟩
  cases i with
  | zero=>
   simp only[List.nil_append,F7,Gm] at h1 h2;subst h1;subst h2;exact⟨hφ,ho⟩
  | succ i=>simp at h2
 | o ::l,known,h=>by
  obtain⟨φ,hφ,ho,hr⟩:=h;obtain⟨φs,hl,hs,hf,hll⟩:=au.spec l _ hr;refine⟨φ ::φs,by simp[hl],?_,hf,by simpa[knAll] using hll⟩;intro i o' φ' h1 h2
  cases i with
  | zero=>
   simp only[List.cons_append,F7,Gm] at h1 h2;subst h1;subst h2;exact⟨hφ,ho⟩
  | succ i=>
   simp only[List.cons_append,List.getElem?_cons_succ] at h1 h2
   simpa[knAll] using hs i o' φ' h1 h2
def growB (n:Nat) (front:List Oper) (m:Nat) (s t:Oper):Bool:=
 let ops:=(front++[s,t]).toArray
 decide ((front.filterMap (·.dst)).Nodup) && front.all (fun o=>match o.dst with|some d=>decide (d<n)|none=>true) &&
 (Gl front.length).all (fun j=>match front[j]? with
  | some o=>(o.looksAt ops).all (fun d=>(Gl front.length).all fun i=>match front[i]? with
    | some p=>p.dst !=some d || (decide (i<j) && o.after.any fun e=>e.on==i && FY .any e)
    | none=>true)
  | none=>true) &&
 (Gl ops.size).all (fun j=>match ops[j]? with|some o=>o.after.all (fun e=> !FY .any e || decide (e.on<j))|none=>true) &&
 (Gl m).all (fun i=>Gu.waits front i 12 s.after) && t.after.any (fun e=>FY .any e && e.on==front.length) && t.after.any (fun e=>FY .any e && e.on==m) && decide (m+1=front.length)
theorem cm {n m:Nat} {front:List Oper} (h:growB n front m s t=true):
  (front.filterMap (·.dst)).Nodup/\(∀o∈front,∀d,o.dst=some d->d<n)/\
  (∀(j:Nat) (o:Oper),front[j]?=some o->∀d∈o.looksAt (front++[s,t]).toArray,∀(i:Nat) (p:Oper),front[i]?=some p->p.dst=some d->i<j/\∃e∈o.after,e.on=i/\FY .any e=true)/\
  (∀(j:Nat) o,(front++[s,t]).toArray[j]?=some o->∀e∈o.after,FY .any e=true->e.on<j)/\
  (∀i,i<m->Gu.waits front i 12 s.after=true)/\(∃e∈t.after,FY .any e=true/\e.on=front.length)/\(∃e∈t.after,FY .any e=true/\e.on=m)/\m+1=front.length:=by
 unfold growB at h;simp only[Gh,decide_eq_true_eq] at h;obtain⟨⟨⟨⟨⟨⟨⟨h1,h2⟩,h3⟩,h4⟩,h5⟩,h6⟩,h7⟩,h8⟩:=h;refine⟨h1,?_,?_,?_,?_,?_,?_,h8⟩
 ·intro o ho d hd;have:=Gq.1 h2 o ho;rw[hd] at this;simpa using this
 ·exact xw
 ·exact wS
 ·intro i hi;exact Gq.1 h5 i (List.mem_range.2 hi)
 ·obtain⟨k,hk,hx⟩:=Array.any_eq_true.1 h6;exact sr
 ·obtain⟨k,hk,hx⟩:=Array.any_eq_true.1 h7;exact sr
theorem tk {α:Type} {l:List α} {k j:Nat} {u:α} (h:(l.take k)[j]?=some u):l[j]?=some u:=by
 rw[FP] at h;split at h
 ·exact h
 ·cases h
theorem rS.last {front:List Oper} {φs:List Fact} {listed:Array Bool} {a:Act} {w:World} (hf:rS P ops Q W a0 s u t (knAll [] front φs)) (hlen:φs.length=front.length) (hin:∀o∈front,∀d,o.dst=some d->d<a0.tmps.size)
  (h:At front φs W a0 listed a w) (hall:∀i,i<front.length->listed.getD i false=true):nx P ops Q s a w fun a1 w1=>nx P ops Q u a1 w1 fun a2 w2=>nx P ops Q t a2 w2 fun a w=>Q .normal a w:=by
 exact CK
theorem oD {n fuel:Nat} {listed:Array Bool} {a:Act} {w:World} (hsz:ops.size=n+1) (hot:ops[n]?=some t) (hlt:∀(j:Nat) o,ops[j]?=some o->∀e∈o.after,FY .any e=true->e.on<j) (hz:listed.size=ops.size) (hc:listed.toList.count false<=fuel) (hl:∀i,i<n->listed.getD i false=true) (hu:listed.getD n false=false) (ht:nx P ops Q t a w fun a w=>Q .normal a w):wpAny P .any ops Q fuel listed a w:=by
 cases fuel with
 | zero=>
  have h9:=dn (by omega:listed.toList.count false=0) n af;rw[hu] at h9
  cases h9
 | succ fuel=>
  refine⟨fun hr=>?_,fun i hi=>?_⟩
  ·have h9:=Gs.d_ hz hlt hr n af;rw[hu] at h9
   cases h9
  ·obtain⟨hun2,o2,ho2,-⟩:=mem_ready.1 hi;have his:i<ops.size:=(FE.1 ho2).1
   have hie:i=n:=GO fun e=>by
    have h9:=hl i af;rw[bK af] at h9;rw[h9] at hun2
    cases hun2
   subst hie;obtain rfl:t=o2:=Fo (hot.symm.trans ho2);refine Gu.pF ho2 (ht _ (fun a3 w3 hq=>Gu.A2 fN (fun k hk=>?_) hq))
   by_cases e:i=k
   ·subst e
    simp[Fu,show i<listed.size from by omega]
   ·exact Gs.mY (hl k af)
theorem bQ {front:List Oper} {φs:List Fact} (hops:ops=(front++[s,t]).toArray) {m:Nat} {u:Oper} (hB:growB a0.tmps.size front m s t=true) (hou:front[m]?=some u) (hlen:φs.length=front.length)
  (hs:∀(i:Nat) (o:Oper) (φ:Fact),front[i]?=some o->φs[i]?=some φ->φ.bD/\Obl P ops Q W a0 (knAll [] (front.take i) (φs.take i)) o φ) (hf:Gu.Fin P ops Q W a0 s t (knAll [] front φs)) (hl:rS P ops Q W a0 s u t (knAll [] (front.take m) (φs.take m))):
  ∀(fuel:Nat) (listed:Array Bool) (a:Act) (w:World),listed.size=ops.size->listed.toList.count false<=fuel->listed.getD front.length false=false->listed.getD (front.length+1) false=false->Gt.Ac front φs W a0 listed a w->wpAny P .any ops Q fuel listed a w:=by
 obtain⟨hn,hin,hdep,hlt,hwait,⟨e2,he2,hb2,hon2⟩,⟨e3,he3,hb3,hon3⟩,hm1⟩:=cm hB;rw[<-hops] at hdep hlt;have hsz:ops.size=front.length+2:=by rw[hops];simp
 have hos:ops[front.length]?=some s:=by rw[hops];simp
 have hot:ops[front.length+1]?=some t:=by rw[hops];simp
 intro fuel;induction fuel with
 | zero=>
  intro listed a w hz hc hb hb' h;have h9:=dn (by omega:listed.toList.count false=0) front.length af;rw[hb] at h9
  cases h9
 | succ fuel ih=>
  intro listed a w hz hc hb hb' h;refine⟨fun hr=>?_,fun j hj=>?_⟩
  ·have h9:=Gs.d_ hz hlt hr front.length af;rw[hb] at h9
   cases h9
  obtain⟨hun,o,ho,hall⟩:=mem_ready.1 hj;have hjs:j<ops.size:=(FE.1 ho).1;have hcs:=count_set (listed:=listed) (i:=j) af hun
  by_cases hjf:j<front.length
  ·have hof:front[j]?=some o:=by rw[hops] at ho;simpa[FK hjf] using ho
   have hφ:φs[j]?=some (φs[j]'(by omega)):=Fs _;obtain⟨hm,hob⟩:=hs j o _ hof hφ
   have hfacts:∀t∈o.looksAt ops,ai a0 (knAll [] (front.take j) (φs.take j)) a w t:=by
    intro t ht;unfold ai
    cases hk:(knAll [] (front.take j) (φs.take j)).lookup t with
    | some φ=>
     rcases b8 _ _ _ hk with ⟨i,p,h1,h2,h3⟩|h1
     ·have hij:i<j:=by have:=(Fk.1 h1).1;simp at this;omega
      rw[FP,if_pos hij] at h1 h3;obtain⟨-,e,he,hon,hbi⟩:=hdep j o hof t ht i p h1 h2;have hl:=hall e he hbi;rw[hon] at hl;exact h.old.known i p φ h1 h3 t h2 hl
     ·simp at h1
    | none=>
     refine h.old.other t (fun i p hp hd=>?_)
     exfalso
     obtain⟨hij,-⟩:=hdep j o hof t ht i p hp hd;have hi:=(Fk.1 hp).1;exact (b_ _ _ _ hk).2 i p (φs[i]'(by omega)) kU kZ hd
   have hkeep:∀i,¬j=i->listed.getD i false=false->(listed.setIfInBounds j true).getD i false=false:=fun i e h2=>by
    simpa[Fu,FI,e] using h2
   exact Gu.pF ho (hob a w _ h.old.size h.old.below hfacts (fun v w' hbw hv=>ih _ _ _ fN af (hkeep _ af hb) (hkeep _ af hb') ⟨h.old.step hn hin (fun i o φ h1 h2=>(hs i o φ h1 h2).1) hof hφ af hbw hv,fun j' o' ho' hl e he hbe=>(by
     by_cases ej:j=j'
     ·subst ej;obtain rfl:o=o':=Fo (hof.symm.trans ho');exact Gs.mY (hall e he hbe)
     ·exact Gs.mY (h.cl j' o' ho' (Gs.kP ej hl) e he hbe))⟩))
  ·by_cases hj1:j=front.length
   ·subst hj1;obtain rfl:s=o:=Fo (hos.symm.trans ho);have hfl:=fun i hi=>Gu.jx h.cl 12 s.after (hwait i hi) (fun e he hbe=>hall e he hbe)
    have hz2:(listed.setIfInBounds front.length true).size=ops.size:=fN
    have hu2:(listed.setIfInBounds front.length true).getD (front.length+1) false=false:=by
     have e:¬front.length=front.length+1:=af
     simpa[Fu,FI,e] using hb'
    have hs2:(listed.setIfInBounds front.length true).getD front.length false=true:=by
     simp[Fu,show front.length<listed.size from by omega]
    cases hu:listed.getD m false with
    | true=>
     have hfa:∀i,i<front.length->listed.getD i false=true:=fun i hi=>by
      by_cases e:i=m
      ·rw[e];exact hu
      ·exact hfl i af
     refine Gu.pF ho (Gu.Fin.last hf hlen hin h.old hfa _ (fun a' w' ht=>?_));refine oD (n:=front.length+1) hsz hot hlt hz2 af (fun i hi=>?_) hu2 ht
     by_cases e:front.length=i
     ·rw[<-e];exact hs2
     ·exact Gs.mY (hfa i af)
    | false=>
     have hAt:At (front.take m) (φs.take m) W a0 listed a w:=⟨h.old.size,h.old.defers,h.old.below,fun i o φ h1 h2=>h.old.known i o φ (tk h1) (tk h2),fun d hd=>h.old.other d (fun i o h1 h2=>by
      by_cases e:i<m
      ·exact hd i o (by rw[FP,if_pos e];exact h1) h2
      ·have h9:=(Fk.1 h1).1
       obtain rfl:i=m:=af
       exact hu)⟩
     refine Gu.pF ho (rS.last hl (by simp[FO];omega) (fun o ho=>hin o (List.mem_of_mem_take ho)) hAt (fun i hi=>hfl i (by rw[FO] at hi;omega)) _ (fun a' w' hnu=>?_))
     have hm2:(listed.setIfInBounds front.length true).getD m false=false:=by
      have e:¬front.length=m:=af
      simpa[Fu,FI,e] using hu
     cases fuel with
     | zero=>
      have h9:=dn (by omega:(listed.setIfInBounds front.length true).toList.count false=0) m af;rw[hm2] at h9
      cases h9
     | succ fuel=>
      refine⟨fun hr=>?_,fun i hi=>?_⟩
      ·have h9:=Gs.d_ hz2 hlt hr m af;rw[hm2] at h9
       cases h9
      ·obtain⟨hun2,o2,ho2,hall2⟩:=mem_ready.1 hi;have his:i<ops.size:=(FE.1 ho2).1;have hcs2:=count_set (listed:=listed.setIfInBounds front.length true) (i:=i) af hun2
       have him:i=m:=GO fun e=>by
        by_cases e1:i=front.length+1
        ·subst e1;obtain rfl:t=o2:=Fo (hot.symm.trans ho2);have h9:=hall2 e3 he3 hb3;rw[hon3,hm2] at h9
         cases h9
        ·have h9:(listed.setIfInBounds front.length true).getD i false=true:=by
          by_cases e2:front.length=i
          ·rw[<-e2];exact hs2
          ·exact Gs.mY (hfl i af)
         rw[bK af] at h9;rw[h9] at hun2
         cases hun2
       subst him
       have hou2:ops[i]?=some u:=by rw[hops];simpa[FK (show i<front.length by omega)] using hou
       obtain rfl:u=o2:=Fo (hou2.symm.trans ho2);refine Gu.pF ho2 (hnu _ (fun a2 w2 ht=>?_));refine oD (n:=front.length+1) hsz hot hlt (by simpa using hz2) af (fun k hk=>?_) ?_ ht
       ·by_cases e:i=k
        ·subst e
         simp[Fu,show i<listed.size from by omega]
        ·refine Gs.mY ?_
         by_cases e2:front.length=k
         ·rw[<-e2];exact hs2
         ·exact Gs.mY (hfl k af)
       ·have e:¬i=front.length+1:=af
        simpa[Fu,FI,e] using hu2
   ·obtain rfl:j=front.length+1:=af
    obtain rfl:t=o:=Fo (hot.symm.trans ho);have h9:=hall e2 he2 hb2;rw[hon2,bK af] at h9;rw[bK af] at hb;rw[hb] at h9
    cases h9
end
theorem oZ {P:Program} {id:Nat} {Q:Exit->Act->World->Prop} {a0:Act} {W:World} {l:List Oper} {fr:List Oper} {u s t:Oper} (hm:P.follows .mixedOrders=true) (hfr:l.dropLast.dropLast.dropLast=fr) (huu:l.dropLast.dropLast.getLast?=some u) (hss:l.dropLast.getLast?=some s) (htt:l.getLast?=some t) (hB:growB a0.tmps.size (fr++[u]) fr.length s t=true)
  (h:au P l.toArray Q W a0 s u t fr []):(Code.region id l.toArray true).wp P Q a0 W:=by
 have hl:l=(fr++[u])++[s,t]:=by
  obtain⟨l',rfl⟩:=List.getLast?_eq_some_iff.1 htt;rw[Hg] at hfr hss huu;obtain⟨l2,rfl⟩:=List.getLast?_eq_some_iff.1 hss;rw[Hg] at hfr huu;obtain⟨l3,rfl⟩:=List.getLast?_eq_some_iff.1 huu;rw[Hg] at hfr;rw[<-hfr];simp
 obtain⟨φs,hlen,hs,hfi,hli⟩:=au.spec _ _ h;refine wp_region_any hm (bQ (front:=fr++[u]) (m:=fr.length) (u:=u) (by rw[hl]) hB aR (by simp[hlen]) hs hfi (by simpa using hli) _ _ _ _ aR ?_ ?_ ?_ ⟨⟨rfl,rfl,(Ft _ _).drew,fun i o φ h1 h2 d hd hx=>?_,fun d _=>rfl⟩,fun j o h1 hx=>?_⟩)
 ·exact ld
 ·exact a8 _ _
 ·exact a8 _ _
 ·rw[a8] at hx;cases hx
 ·rw[a8] at hx;cases hx
end Gv
end Go.Proofs.YtpejepeekdjfoaaGreatDoor

namespace Go.Proofs.YtpejepeekdjfoaaGreatDoor
open Go.RowKit
namespace Rc
open Mk

theorem fK.nil {hv:Value} {e:Int} (h:fK hv e) (h0:e=0):hv=.nilIface:=by
 rcases h with ⟨h,_⟩|⟨h,_⟩
 ·exact h
 ·exact absurd h0 h
theorem fK.some {hv:Value} {e:Int} (h:fK hv e) (h0:¬e=0):∃T v,hv=.iface T v:=by
 rcases h with ⟨_,h⟩|⟨_,⟨v,h,_⟩|⟨v,h,_⟩|⟨v,h,_⟩|⟨v,h,_⟩|⟨v,h,_⟩|⟨v,h,_⟩|h|⟨v,h,_⟩⟩
 ·exact absurd h h0
 all_goals exact⟨_,_,h⟩
def jc (c:Cl) (p:Pd) (n:Nd) (e:Int):Prop:=(fX c n/\e=11)\/(¬fX c n/\((i_ p n/\e=8)\/(¬i_ p n/\((kJ c p n/\e=9)\/(¬kJ c p n/\e=0)))))
def Alo (hv:Value):Prop:=∃v,hv=.iface 116 v
def zU (c:Cl) (p:Pd) (n:Nd) (k:Nat) (hv:Value) (ck:Cl):Prop:=(hv=.nilIface/\jc c p n 0/\cn c n p.zs k ck)\/(∃T v e0,hv=.iface T v/\fK hv e0/\¬e0=0/\((jc c p n e0/\¬Alo hv)\/(jc c p n 0/\oY c n p.zs ck e0)))
def kr (d:Ad) (c:Cl) (b:Nat) (w:World) (dk:Ad) (ck:Cl):Prop:=(dk=d/\ck=c)\/bU w dk ck.raw (fun k=>b<=k)

theorem kr.row {d:Ad} {c:Cl} {b:Nat} {w wr:World} {dk:Ad} {ck:Cl} (h:kr d c b wr dk ck) (hr:aJ w d c.raw) (hb:Below w.heap.size w wr):aJ wr dk ck.raw:=by
 rcases h with ⟨rfl,rfl⟩|h
 ·exact hr.below hb
 ·exact h.row
theorem kr.below {d:Ad} {c:Cl} {b:Nat} {w w':World} {dk:Ad} {ck:Cl} (h:kr d c b w dk ck) (hb:Below w.heap.size w w'):kr d c b w' dk ck:=h.imp id (fun h=>h.below hb)
theorem kr.set {d:Ad} {c:Cl} {b b':Nat} {cs:Array Value} {w:World} {dk:Ad} {ck:Cl} (h:kr d c b w dk ck) (hb:b'<b):kr d c b (w.setRow b' cs) dk ck:=h.imp id (fun h=>h.kept dB (fun k s e=>by have s2:b<=k:=s;omega))
theorem zU.next {c:Cl} {p:Pd} {n:Nd} {k:Nat} {ck c1:Cl} {tt:ByteArray} {e1:Int} {hv:Value} (h1:jc c p n 0) (h2:cn c n p.zs k ck) (hx:p.zs[k]?=some tt) (h3:cI ck n tt c1 e1) (h4:fK hv e1):zU c p n (k+1) hv c1:=by
 by_cases e:e1=0
 ·subst e;exact .inl ⟨h4.nil rfl,h1,ck,tt,h2,hx,h3⟩
 ·obtain⟨T,v,rfl⟩:=h4.some e;exact .inr ⟨T,v,e1,rfl,h4,e,.inr ⟨h1,.inr ⟨k,ck,tt,h2,hx,h3,e⟩⟩⟩
def Ev (_d:Ad) (c:Cl) (p:Pd) (n:Nd) (pa:Option Addr) (pl pc:Nat) (na:Option Addr) (nl nc:Nat) (i:Nat) (w:World) (e:Ending) (w':World):Prop:=∃(d':Ad) (c' c3:Cl) (p':Pd) (e0:Int) (hv:Value),e=.returned (.tuple #[.agg #[.slice d'.a1 d'.l1 d'.c1,.slice d'.a2 d'.l2 d'.c2,.slice d'.a3 d'.l3 d'.c3,.slice d'.a4 d'.l4 d'.c4,.slice d'.a5 d'.l5 d'.c5,.int .i64 c3.now,.string p'.n,.int .i64 p'.c,.string p'.z,.slice pa pl pc,.string p'.d,.int .i64 p'.p,.string n.n,.string n.z,.int .i64 n.c,.int .i64 n.s,.int .i64 n.u,.bool n.d,.slice na nl nc],hv])/\dh c i p n c' e0/\fK hv e0/\(Alo hv->jc c p n 0)/\(e0=0->c3=c'/\bU w' d' c'.raw (fun k=>w.heap.size<=k))/\Below w.heap.size w w'
theorem dh.DA {c c':Cl} {i:Nat} {p:Pd} {n:Nd} {e:Int} (h:jc c p n e) (h0:¬e=0):dh c i p n c' e:=by
 rcases h with ⟨a,b⟩|⟨a,⟨b,d⟩|⟨b,⟨d,f⟩|⟨_,f⟩⟩⟩
 ·exact .inl ⟨a,b⟩
 ·exact .inr ⟨a,.inl ⟨b,d⟩⟩
 ·exact .inr ⟨a,.inr ⟨b,.inl ⟨d,f⟩⟩⟩
 ·exact absurd f h0
theorem dh.yU {c c1 c':Cl} {i:Nat} {p:Pd} {n:Nd} {e1 e:Int} (h:jc c p n 0) (ha:oY c n p.zs c1 e1) (hz:(¬e1=0/\e=e1)\/(e1=0/\((gu c1 i p n/\e=9)\/(¬gu c1 i p n/\e=0/\c'=plC c1 i p n.n)))):dh c i p n c' e:=by
 rcases h with ⟨a,b⟩|⟨a,⟨b,d⟩|⟨b,⟨d,f⟩|⟨d,_⟩⟩⟩
 ·exact absurd b aj
 ·exact absurd d aj
 ·exact absurd f aj
 ·exact .inr ⟨a,.inr ⟨b,.inr ⟨d,c1,e1,ha,hz⟩⟩⟩
theorem oA {x:ByteArray} (h:aO x):x.size<=9223372036854775807:=by
 have:=h.2.1;omega
def HsG (cs:Array Value):Fact:=fun v w=> ∃b,v=.slice (some ⟨b,0,none⟩) 1 1/\w.heap[b]?=some (.cells cs 112 (0,0))
theorem HsG.mono (cs:Array Value):Fact.bD (HsG cs):=by
 rintro v w w' ⟨b,h1,h2⟩ hb;exact⟨b,h1,(hb.block _ (ae h2)).trans h2⟩
def SsF (P:Prop):Fact:=fun r _=> ∃e0,fK r e0/\((P/\e0=9)\/(¬P/\e0=0))
theorem SsF.mono (P:Prop):Fact.bD (SsF P):=fun _ _ _ h _=>h
def TuF (d:Ad) (c:Cl) (_dk:Ad) (ck:Cl) (p:Pd) (n:Nd) (pa:Option Addr) (pl pc:Nat) (na:Option Addr) (nl nc:Nat) (t:ByteArray) (b:Nat):Fact:=fun v w=> ∃(d':Ad) (c':Cl) (e0:Int) (hv:Value),v=.tuple #[.agg #[.slice d'.a1 d'.l1 d'.c1,.slice d'.a2 d'.l2 d'.c2,.slice d'.a3 d'.l3 d'.c3,.slice d'.a4 d'.l4 d'.c4,.slice d'.a5 d'.l5 d'.c5,.int .i64 c'.now,.string p.n,.int .i64 p.c,.string p.z,.slice pa pl pc,.string p.d,.int .i64 p.p,.string n.n,.string n.z,.int .i64 n.c,.int .i64 n.s,.int .i64 n.u,.bool n.d,.slice na nl nc],hv]/\cI ck n t c' e0/\fK hv e0/\kr d c b w d' c'
theorem TuF.mono (d:Ad) (c:Cl) (dk:Ad) (ck:Cl) (p:Pd) (n:Nd) (pa:Option Addr) (pl pc:Nat) (na:Option Addr) (nl nc:Nat) (t:ByteArray) (b:Nat):Fact.bD (TuF d c dk ck p n pa pl pc na nl nc t b):=by
 rintro v w w' ⟨d',c',e0,hv,h1,h2,h3,h4⟩ hb;exact⟨d',c',e0,hv,h1,h2,h3,h4.below hb⟩
def TrF (d:Ad) (c:Cl) (ck:Cl) (p:Pd) (n:Nd) (pa:Option Addr) (pl pc:Nat) (na:Option Addr) (nl nc:Nat) (t:ByteArray) (b:Nat):Fact:=fun v w=> ∃(d':Ad) (c':Cl) (e0:Int),v=.agg #[.slice d'.a1 d'.l1 d'.c1,.slice d'.a2 d'.l2 d'.c2,.slice d'.a3 d'.l3 d'.c3,.slice d'.a4 d'.l4 d'.c4,.slice d'.a5 d'.l5 d'.c5,.int .i64 c'.now,.string p.n,.int .i64 p.c,.string p.z,.slice pa pl pc,.string p.d,.int .i64 p.p,.string n.n,.string n.z,.int .i64 n.c,.int .i64 n.s,.int .i64 n.u,.bool n.d,.slice na nl nc]/\cI ck n t c' e0/\kr d c b w d' c'
theorem TrF.mono (d:Ad) (c:Cl) (ck:Cl) (p:Pd) (n:Nd) (pa:Option Addr) (pl pc:Nat) (na:Option Addr) (nl nc:Nat) (t:ByteArray) (b:Nat):Fact.bD (TrF d c ck p n pa pl pc na nl nc t b):=by
 rintro v w w' ⟨d',c',e0,h1,h2,h4⟩ hb;exact⟨d',c',e0,h1,h2,h4.below hb⟩
def HvF (ck:Cl) (n:Nd) (t:ByteArray):Fact:=fun v _=> ∃(c':Cl) (e0:Int),fK v e0/\cI ck n t c' e0
theorem HvF.mono (ck:Cl) (n:Nd) (t:ByteArray):Fact.bD (HvF ck n t):=fun _ _ _ h _=>h

theorem zi (d:Ad) (c:Cl) (p:Pd) (n:Nd) (pa:Option Addr) (pl pc:Nat) (na:Option Addr) (nl nc:Nat) (i:Nat) (w:World) (hr:aJ w d c.raw) (hT:aB c) (hp:c.ps[i]?=some p) (hpz:ay w pa pl pc p.zs) (E:Nat->Addr) (hG:Ers w E) (hn:ow n):
  Calls Tryz.prog 60 #[.agg #[.slice d.a1 d.l1 d.c1,.slice d.a2 d.l2 d.c2,.slice d.a3 d.l3 d.c3,.slice d.a4 d.l4 d.c4,.slice d.a5 d.l5 d.c5,.int .i64 c.now,.string p.n,.int .i64 p.c,.string p.z,.slice pa pl pc,.string p.d,.int .i64 p.p,.string n.n,.string n.z,.int .i64 n.c,.int .i64 n.s,.int .i64 n.u,.bool n.d,.slice na nl nc]] w fun e w'=>Ev d c p n pa pl pc na nl nc i w e w':=by
 have HR:=aa hr;have HT:=aa hT;have HP:=aa hp;have HPZ:=aa hpz;have HE:=aa hG;have HN:=aa hn;have HB:=aa (Ft w.heap.size w);clear hr hT hp hpz hG hn;go_enter Tryz.func60,Tryz.ntmps60;have BT2:Hid (((w.alloc (.cells (trv d c p n pa pl pc na nl nc) 66)).alloc (.cells #[.slice none 0 0,.slice none 0 0,.slice none 0 0,.slice none 0 0,.slice none 0 0,.int .i64 0,.string ⟨#[]⟩,.int .i64 0,.string ⟨#[]⟩,.slice none 0 0,.string ⟨#[]⟩,.int .i64 0,.string ⟨#[]⟩,.string ⟨#[]⟩,.int .i64 0,.int .i64 0,.int .i64 0,.bool false,.slice none 0 0] 66)).heap[w.heap.size]?=some (.cells (trv d c p n pa pl pc na nl nc) 66 (0,0))):=cS _ _ _;go_wp2_with (refine wpList_load_row (o:=⟨some 6,.load 66 (.tmp 1),_,_,_,none⟩) rfl _ _ rfl w.heap.size rfl _ _ _ _ BT2.out Tryz.underlying66 rfl aQ ?_);clear BT2;refine (jt _ _ _ _ _ _ _ _ _ _ _ _ _ _ _ _ _ _ _ (w.heap.size+1+1) 3 3 [(147,.agg #[],fX c n),(148,.agg #[],i_ p n),(149,.agg #[],kJ c p n)] _ rfl af aR (fun j T v P hj=>by
  rcases j with _|_|_|j
  ·cases hj
   exact⟨aw (cR _ _ _ _) 0,AX d c p n pa pl pc na nl nc _⟩
  ·cases hj
   exact⟨aw (cR _ _ _ _) 1,AU d c p n pa pl pc na nl nc _⟩
  ·cases hj
   exact⟨aw (cR _ _ _ _) 2,DP d c p n pa pl pc na nl nc _ (HR.below (bH _ _ _ _)) HT.out HN.2.2.1⟩
  ·simp at hj)).mono ?_
 rintro e w1 ⟨⟨h1,rfl,hi⟩,hb⟩;have HF:Hid (zU c p n 0 h1 c):=by
  rcases hi with ⟨j,T,v,P,hj,hp,rfl,hlt⟩|⟨rfl,hno⟩
  ·rcases j with _|_|_|j
   ·cases hj;exact .inr ⟨_,_,11,rfl,.inr ⟨by decide,.inl ⟨_,rfl,rfl⟩⟩,by decide,.inl ⟨.inl ⟨hp,rfl⟩,fun ⟨_,h⟩=>absurd (Value.iface.inj h).1 aj⟩⟩
   ·cases hj;exact .inr ⟨_,_,8,rfl,.inr ⟨by decide,.inr (.inl ⟨_,rfl,rfl⟩)⟩,by decide,.inl ⟨.inr ⟨hlt 0 _ _ _ af rfl,.inl ⟨hp,rfl⟩⟩,fun ⟨_,h⟩=>absurd (Value.iface.inj h).1 aj⟩⟩
   ·cases hj;exact .inr ⟨_,_,9,rfl,.inr ⟨by decide,.inr (.inr (.inl ⟨_,rfl,rfl⟩))⟩,by decide,.inl ⟨.inr ⟨hlt 0 _ _ _ af rfl,.inr ⟨hlt 1 _ _ _ af rfl,.inl ⟨hp,rfl⟩⟩⟩,fun ⟨_,h⟩=>absurd (Value.iface.inj h).1 aj⟩⟩
   ·simp at hj
  ·exact .inl ⟨rfl,.inr ⟨hno 0 _ _ _ rfl,.inr ⟨hno 1 _ _ _ rfl,.inr ⟨hno 2 _ _ _ rfl,rfl⟩⟩⟩,rfl⟩
 clear hi;obtain⟨HA0,HA1,HA2,hbx⟩:=lQ hb;have Bt:=aa HA0;have Br:=aa HA1;have Bs:=aa HA2;replace HB:=upB HB hbx;clear hb hbx HA0 HA1 HA2;have hpl:p.zs.length=pl:=HPZ.1;have hpm:pl<=9223372036854775807:=Fx HPZ.2.1 HPZ.2.2.1;go_wp2;go_loopw [4,5] (fun h i wr=> ∃(k:Nat) (dk:Ad) (ck:Cl),k<=pl/\i=.int .i64 k/\Hid (zU c p n k h ck)/\Hid (Below w.heap.size w wr)/\Hid (wr.heap[w.heap.size]?=some (.cells (trv dk ck p n pa pl pc na nl nc) 66 (0,0)))/\Hid (wr.heap[w.heap.size+1]?=some (.cells #[.slice none 0 0,.slice none 0 0,.slice none 0 0,.slice none 0 0,.slice none 0 0,.int .i64 0,.string ⟨#[]⟩,.int .i64 0,.string ⟨#[]⟩,.slice none 0 0,.string ⟨#[]⟩,.int .i64 0,.string ⟨#[]⟩,.string ⟨#[]⟩,.int .i64 0,.int .i64 0,.int .i64 0,.bool false,.slice none 0 0] 66 (0,0)))/\Hid (kr d c (w.heap.size+2) wr dk ck)) (fun _ i _=>pl - (intOf i).toNat);case atStart=>exact⟨0,d,c,by omega,rfl,HF,HB,Bt,Br,.inl ⟨rfl,rfl⟩⟩
 case round=>
  clear HF HB Bt Br Bs;obtain⟨k,dk,ck,hk,rfl,HS,HB,Bt,Br,HOK⟩:=hrel;have ltt:=ae Bt.out;have ltr:=ae Br.out;have t9:wr.cell? ⟨w.heap.size,9,none⟩=some (.slice pa pl pc):=aw Bt.out 9;rcases HS.out with ⟨rfl,hs1,hs2⟩|⟨T,v,e0,rfl,hs1,hs2,hs3⟩
  ·have HS1:=aa hs1;have HS2:=aa hs2;clear hs1 hs2 HS;by_cases hlt:k<pl
   ·have hlt2:(k:Int)<(pl:Int):=af
    obtain⟨b2,o2,tt,rfl,hb2,hx,hc,-⟩:=(HPZ.below HB.out).at hlt;have HX:=aa hx;have hRR:=cn.right HT.out HN.2.1 k ck HS2.out;have HTk:=aa hRR.1;have HHk:=aa (hRR.2.2.2.2.2 tt ((HT.2.2.2.1.1 _ _ HP.out).1 k tt hx));have HRk:=aa (HOK.row HR.out HB.out);clear hx hRR;go_wp2_with fail;rename_i K0 hK0;refine Gv.oZ ar rfl rfl rfl rfl ar ?_;refine' Gv.au.an (.agg #[.slice dk.a1 dk.l1 dk.c1,.slice dk.a2 dk.l2 dk.c2,.slice dk.a3 dk.l3 dk.c3,.slice dk.a4 dk.l4 dk.c4,.slice dk.a5 dk.l5 dk.c5,.int .i64 ck.now,.string p.n,.int .i64 p.c,.string p.z,.slice (some ⟨b2,o2,none⟩) pl pc,.string p.d,.int .i64 p.p,.string n.n,.string n.z,.int .i64 n.c,.int .i64 n.s,.int .i64 n.u,.bool n.d,.slice na nl nc]) rfl ?_ ?_
    ·refine Obl.plain rfl ?_;intro ac wg K hsz hW hf hK;clear hsz;have e1:=hf 1 aj;simp[ai,Fp] at e1;clear hf;refine wp_load_row _ _ rfl w.heap.size (by simpa[Act.eval] using e1) _ _ _ _ ((hW.block _ (ae Bt.out)).trans Bt.out) Tryz.underlying66 rfl aQ ?_;exact hK _ _ (Ft _ _) rfl
    refine' Gv.au.an _ rfl ?_ ?_;rotate_left 1
    ·exact ga
    refine' Gv.au.an _ rfl ?_ ?_;rotate_left 1
    ·refine Obl.plain rfl ?_;intro ac wg K hsz hW hf hK;clear hsz;have e29:=hf 29 aj;simp[ai,Fp] at e29;clear hf;exact aT
    refine' Gv.au.an _ rfl ?_ ?_;rotate_left 1
    ·refine Obl.plain rfl ?_;intro ac wg K hsz hW hf hK;clear hsz;have e30:=hf 30 aj;simp[ai,Fp] at e30;clear hf;have c9:wg.cell? ⟨w.heap.size,9,none⟩=some (.slice (some ⟨b2,o2,none⟩) pl pc):=(hW.cell ltt).trans t9;have l9:=FC ltt hW.size;exact aT
    refine' Gv.au.an _ rfl ?_ ?_;rotate_left 1
    ·exact qe
    refine' Gv.au.an _ rfl ?_ ?_;rotate_left 1
    ·refine Obl.plain rfl ?_;intro ac wg K hsz hW hf hK;clear hsz;have e31:=hf 31 aj;simp[ai,Fp] at e31;have e32:=hf 32 aj;simp[ai,Fp] at e32;clear hf;exact aT
    refine' Gv.au.an _ rfl ?_ ?_;rotate_left 1
    ·refine Obl.plain rfl ?_;intro ac wg K hsz hW hf hK;clear hsz;have e33:=hf 33 aj;simp[ai,Fp] at e33;clear hf;have c0:wg.cell? ⟨b2,o2+k,none⟩=some (.string tt):=(hW.cell hb2).trans hc;have l0:=FC hb2 hW.size;exact aT
    refine Gv.au.step (TuF d c dk ck p n (some ⟨b2,o2,none⟩) pl pc na nl nc tt (w.heap.size+2)) rfl (TuF.mono _ _ _ _ _ _ _ _ _ _ _ _ _ _) ?_ ?_
    ·refine Obl.plain rfl ?_;intro ac wg K hsz hW hf hK;clear hsz;have e28:=hf 28 aj;simp[ai,Fp] at e28;have e34:=hf 34 aj;simp[ai,Fp] at e34;clear hf;go_simp;refine (zh dk ck p n (some ⟨b2,o2,none⟩) pl pc na nl nc tt wg (HRk.below hW) HTk.out HHk.out E (HE.below (HB.trans (hW.mono HB.size))) HN.2.1).mono ?_;rintro e w6 ⟨d',c',e0,hv,rfl,h1,h2,h3,h4,hb6⟩;refine hK _ _ hb6 ⟨d',c',e0,hv,rfl,h1,h2,?_⟩;rcases h4 with ⟨rfl,rfl⟩|h4
     ·exact (HOK.below hW).below hb6
     ·exact .inr (h4.bA (fun j _ s=>by have s2:wg.heap.size<=j:=s;have s3:=hW.size;show w.heap.size+2<=j;omega))
    refine Gv.au.step (TuF d c dk ck p n (some ⟨b2,o2,none⟩) pl pc na nl nc tt (w.heap.size+2)) rfl (TuF.mono _ _ _ _ _ _ _ _ _ _ _ _ _ _) ?_ ?_
    ·refine Obl.plain rfl ?_;intro ac wg K hsz hW hf hK;clear hsz;have e35:=hf 35 aj;simp[ai,Fp] at e35;clear hf;obtain⟨d',c',e0,hv,e35,h1,h2,h3⟩:=e35;go_simp;exact hK _ _ (Ft _ _) ⟨d',c',e0,hv,rfl,h1,h2,h3⟩
    refine Gv.au.step (TrF d c ck p n (some ⟨b2,o2,none⟩) pl pc na nl nc tt (w.heap.size+2)) rfl (TrF.mono _ _ _ _ _ _ _ _ _ _ _ _ _) ?_ ?_
    ·refine Obl.plain rfl ?_;intro ac wg K hsz hW hf hK;clear hsz;have e27:=hf 27 aj;simp[ai,Fp] at e27;clear hf;obtain⟨d',c',e0,hv,e27,h1,h2,h3⟩:=e27;go_simp;exact hK _ _ (Ft _ _) ⟨d',c',e0,rfl,h1,h3⟩
    refine Gv.au.late (HvF ck n tt) rfl (HvF.mono _ _ _) ?_ ?_ ?_
    ·refine Obl.plain rfl ?_;intro ac wg K hsz hW hf hK;clear hsz;have e27:=hf 27 aj;simp[ai,Fp] at e27;clear hf;obtain⟨d',c',e0,hv,e27,h1,h2,h3⟩:=e27;go_simp;exact hK _ _ (Ft _ _) ⟨c',e0,h2,h1⟩
    ·intro q wz hW hf;simp only[FJ] at hf;obtain⟨⟨c2,e2,hv2,hn2⟩,⟨d1,c1,e1,h36,hn1,hown⟩,-,-,h34,h33,h32,h31,h30,h29,h28,-⟩:=hf;obtain⟨rfl,rfl⟩:=hn1.same HTk.out hn2;obtain⟨HWZ,Bt6,Br6,HSK,H3⟩:=BB;clear hW hv2 hn1 hn2 hown;have HA19:Hid ((#[.slice d1.a1 d1.l1 d1.c1,.slice d1.a2 d1.l2 d1.c2,.slice d1.a3 d1.l3 d1.c3,.slice d1.a4 d1.l4 d1.c4,.slice d1.a5 d1.l5 d1.c5,.int .i64 c1.now,.string p.n,.int .i64 p.c,.string p.z,.slice (some ⟨b2,o2,none⟩) pl pc,.string p.d,.int .i64 p.p,.string n.n,.string n.z,.int .i64 n.c,.int .i64 n.s,.int .i64 n.u,.bool n.d,.slice na nl nc]:Array Value).all (·.oneCell')=true):=by show _=true;simp[GC]
     intro K hK;rw[if_pos bJ];simp only[aE,Gd,GG,Fy,FF,FL,h36,h34,h33,h32,h31,h30,h29,h28];refine wp_store_row _ _ _ rfl w.heap.size (trv d1 c1 p n (some ⟨b2,o2,none⟩) pl pc na nl nc) rfl rfl _ _ Bt6.out aQ rfl HA19.out ?_;exact CA
    ·intro q wz hW hf;simp only[FJ] at hf;obtain⟨⟨d1,c1,e1,h36,hn1,hown⟩,⟨d2,c2,e2,hvv,h27,hn2,hv2,-⟩,-,h34,h33,h32,h31,h30,h29,h28,-⟩:=hf;obtain⟨rfl,rfl⟩:=hn1.same HTk.out hn2;obtain⟨HWZ,Bt6,Br6,HSK,H3⟩:=BB;clear hW hv2 hn1 hn2 hown;have HA19:Hid ((#[.slice d1.a1 d1.l1 d1.c1,.slice d1.a2 d1.l2 d1.c2,.slice d1.a3 d1.l3 d1.c3,.slice d1.a4 d1.l4 d1.c4,.slice d1.a5 d1.l5 d1.c5,.int .i64 c1.now,.string p.n,.int .i64 p.c,.string p.z,.slice (some ⟨b2,o2,none⟩) pl pc,.string p.d,.int .i64 p.p,.string n.n,.string n.z,.int .i64 n.c,.int .i64 n.s,.int .i64 n.u,.bool n.d,.slice na nl nc]:Array Value).all (·.oneCell')=true):=by show _=true;simp[GC]
     intro K hK;rw[if_pos bJ];simp only[aE,Gd,GG,Fy,FF,FL,h36,h27,h34,h33,h32,h31,h30,h29,h28];refine wp_store_row _ _ _ rfl w.heap.size (trv d1 c1 p n (some ⟨b2,o2,none⟩) pl pc na nl nc) rfl rfl _ _ Bt6.out aQ rfl HA19.out ?_;refine hK _ _ ?_;clear hK K;intro K hK;rw[if_pos bJ];go_simp;exact CA
   ·obtain rfl:pl=k:=af
    have HAll:Hid (oY c n p.zs ck 0):=.inl ⟨by rw[hpl];exact HS2.out,rfl⟩;have hRR:=cn.right HT.out HN.2.1 pl ck HS2.out;have HTk:=aa hRR.1;have HPk:Hid (ck.ps[i]?=some p):=by rw[hRR.2.2.2.1];exact HP.out
    have HRk:=aa (HOK.row HR.out HB.out);have HNO:Hid (c.now=ck.now):=hRR.2.2.2.2.1.symm;clear hRR t9;have t0:wr.cell? ⟨w.heap.size,0,none⟩=some (.slice dk.a1 dk.l1 dk.c1):=aw Bt.out 0;have t1:wr.cell? ⟨w.heap.size,1,none⟩=some (.slice dk.a2 dk.l2 dk.c2):=aw Bt.out 1;have t2:wr.cell? ⟨w.heap.size,2,none⟩=some (.slice dk.a3 dk.l3 dk.c3):=aw Bt.out 2;have t3:wr.cell? ⟨w.heap.size,3,none⟩=some (.slice dk.a4 dk.l4 dk.c4):=aw Bt.out 3;have t4:wr.cell? ⟨w.heap.size,4,none⟩=some (.slice dk.a5 dk.l5 dk.c5):=aw Bt.out 4;have t5:wr.cell? ⟨w.heap.size,5,none⟩=some (.int .i64 ck.now):=aw Bt.out 5;have t6:wr.cell? ⟨w.heap.size,6,none⟩=some (.string p.n):=aw Bt.out 6;have t7:wr.cell? ⟨w.heap.size,7,none⟩=some (.int .i64 p.c):=aw Bt.out 7;have t8:wr.cell? ⟨w.heap.size,8,none⟩=some (.string p.z):=aw Bt.out 8;have t9:wr.cell? ⟨w.heap.size,9,none⟩=some (.slice pa pl pc):=aw Bt.out 9;have t10:wr.cell? ⟨w.heap.size,10,none⟩=some (.string p.d):=aw Bt.out 10;have t11:wr.cell? ⟨w.heap.size,11,none⟩=some (.int .i64 p.p):=aw Bt.out 11;have t12:wr.cell? ⟨w.heap.size,12,none⟩=some (.string n.n):=aw Bt.out 12;have f10:=av Bt.out 10;have f11:=av Bt.out 11;go_wp2_with fail;have e9:(wr.setCell ⟨w.heap.size,10,none⟩ (.string n.n)).setCell ⟨w.heap.size,11,none⟩ (.int .i64 1)=wr.setRow w.heap.size #[.slice dk.a1 dk.l1 dk.c1,.slice dk.a2 dk.l2 dk.c2,.slice dk.a3 dk.l3 dk.c3,.slice dk.a4 dk.l4 dk.c4,.slice dk.a5 dk.l5 dk.c5,.int .i64 ck.now,.string p.n,.int .i64 p.c,.string p.z,.slice pa pl pc,.string n.n,.int .i64 1,.string n.n,.string n.z,.int .i64 n.c,.int .i64 n.s,.int .i64 n.u,.bool n.d,.slice na nl nc]:=by
     rw[setCell_eq_setRow _ _ _ _ _ _ _ Bt.out,setCell_eq_setRow _ _ _ _ _ _ _ (setRow_heap _ _ _ _ _ _ Bt.out),setRow_setRow];rfl
    obtain⟨W,hW0⟩:∃W,W=wr.setRow w.heap.size #[.slice dk.a1 dk.l1 dk.c1,.slice dk.a2 dk.l2 dk.c2,.slice dk.a3 dk.l3 dk.c3,.slice dk.a4 dk.l4 dk.c4,.slice dk.a5 dk.l5 dk.c5,.int .i64 ck.now,.string p.n,.int .i64 p.c,.string p.z,.slice pa pl pc,.string n.n,.int .i64 1,.string n.n,.string n.z,.int .i64 n.c,.int .i64 n.s,.int .i64 n.u,.bool n.d,.slice na nl nc]:=⟨_,rfl⟩;have BtW:=aa (setRow_heap wr w.heap.size _ #[.slice dk.a1 dk.l1 dk.c1,.slice dk.a2 dk.l2 dk.c2,.slice dk.a3 dk.l3 dk.c3,.slice dk.a4 dk.l4 dk.c4,.slice dk.a5 dk.l5 dk.c5,.int .i64 ck.now,.string p.n,.int .i64 p.c,.string p.z,.slice pa pl pc,.string n.n,.int .i64 1,.string n.n,.string n.z,.int .i64 n.c,.int .i64 n.s,.int .i64 n.u,.bool n.d,.slice na nl nc] _ _ Bt.out);have BrW:=aa ((setRow_other wr w.heap.size (w.heap.size+1) #[.slice dk.a1 dk.l1 dk.c1,.slice dk.a2 dk.l2 dk.c2,.slice dk.a3 dk.l3 dk.c3,.slice dk.a4 dk.l4 dk.c4,.slice dk.a5 dk.l5 dk.c5,.int .i64 ck.now,.string p.n,.int .i64 p.c,.string p.z,.slice pa pl pc,.string n.n,.int .i64 1,.string n.n,.string n.z,.int .i64 n.c,.int .i64 n.s,.int .i64 n.u,.bool n.d,.slice na nl nc] af).trans Br.out);have HBX:=aa (below_setRow HB.out (Fq _) #[.slice dk.a1 dk.l1 dk.c1,.slice dk.a2 dk.l2 dk.c2,.slice dk.a3 dk.l3 dk.c3,.slice dk.a4 dk.l4 dk.c4,.slice dk.a5 dk.l5 dk.c5,.int .i64 ck.now,.string p.n,.int .i64 p.c,.string p.z,.slice pa pl pc,.string n.n,.int .i64 1,.string n.n,.string n.z,.int .i64 n.c,.int .i64 n.s,.int .i64 n.u,.bool n.d,.slice na nl nc]);have HOW:=aa (HOK.set (b':=w.heap.size) (cs:=#[.slice dk.a1 dk.l1 dk.c1,.slice dk.a2 dk.l2 dk.c2,.slice dk.a3 dk.l3 dk.c3,.slice dk.a4 dk.l4 dk.c4,.slice dk.a5 dk.l5 dk.c5,.int .i64 ck.now,.string p.n,.int .i64 p.c,.string p.z,.slice pa pl pc,.string n.n,.int .i64 1,.string n.n,.string n.z,.int .i64 n.c,.int .i64 n.s,.int .i64 n.u,.bool n.d,.slice na nl nc]) af);rw[e9,<-hW0];rw[<-hW0] at BtW BrW HBX HOW;have HRW:=aa (HOW.row HR.out HBX.out);clear e9 hW0 Bt Br HB HOK HRk f10 f11 ltt ltr t0 t1 t2 t3 t4 t5 t6 t7 t8 t9 t10 t11 t12;have hpo:=HT.2.1.2.2.2.2.2.1 i p HP.out;have hp8:pl<=8001:=by have h9:=hpo.2.2.2.1.1;omega
    have hil:i<d.l5:=by
     have h8:(c.ps.map pdF).length=d.l5:=HR.p.1;rw[FR] at h8;have h9:=(Fk.1 HP.out).1;omega
    obtain⟨b3,o3,p3,-,-,hp3,hat3⟩:=bY HR.p hil;rw[HP.out] at hp3;cases hp3;obtain⟨_,_,_,-,z0,z2,z4,-⟩:=aS hat3;have zn:n.n.size<=9223372036854775807:=oA HN.1;refine (rm dk ck (onP p n.n) pa pl pc W HRW.out HTk.sm (HPZ.below HBX.out) hp8 z0 z2 zn).mono ?_;clear hpo hp8 hat3 z0 z2 z4 zn hil;rintro e w2 ⟨d2,rfl,ho,hb⟩;have HO2:=aa (ho.bA (S':=fun k=>w.heap.size+2<=k) (fun k _ s=>by have s2:W.heap.size<=k:=s;have s3:=ae BrW.out;show w.heap.size+2<=k;omega));have Bt2:=upK BtW hb;have Br2:=upK BrW hb;have HB2:=upB HBX hb;clear ho hb BtW BrW HBX HOW HRW;have HA6:Hid ((#[.slice d2.a1 d2.l1 d2.c1,.slice d2.a2 d2.l2 d2.c2,.slice d2.a3 d2.l3 d2.c3,.slice d2.a4 d2.l4 d2.c4,.slice d2.a5 d2.l5 d2.c5,.int .i64 ck.now]:Array Value).all (·.oneCell')=true):=by show _=true;simp[GC]
    go_wp2_with (refine eg (op:=⟨none,.store 36 (.tmp 54) (.tmp 53),_,_,_,none⟩) rfl _ _ _ rfl w.heap.size 0 #[.slice d2.a1 d2.l1 d2.c1,.slice d2.a2 d2.l2 d2.c2,.slice d2.a3 d2.l3 d2.c3,.slice d2.a4 d2.l4 d2.c4,.slice d2.a5 d2.l5 d2.c5,.int .i64 ck.now] #[.slice d2.a1 d2.l1 d2.c1,.slice d2.a2 d2.l2 d2.c2,.slice d2.a3 d2.l3 d2.c3,.slice d2.a4 d2.l4 d2.c4,.slice d2.a5 d2.l5 d2.c5,.int .i64 ck.now,.string p.n,.int .i64 p.c,.string p.z,.slice pa pl pc,.string n.n,.int .i64 1,.string n.n,.string n.z,.int .i64 n.c,.int .i64 n.s,.int .i64 n.u,.bool n.d,.slice na nl nc] rfl rfl _ _ Bt2.out sI (Nat.le_of_ble_eq_true rfl) HA6.out rfl ?_);obtain⟨W3,hW3⟩:∃W,W=w2.setRow w.heap.size #[.slice d2.a1 d2.l1 d2.c1,.slice d2.a2 d2.l2 d2.c2,.slice d2.a3 d2.l3 d2.c3,.slice d2.a4 d2.l4 d2.c4,.slice d2.a5 d2.l5 d2.c5,.int .i64 ck.now,.string p.n,.int .i64 p.c,.string p.z,.slice pa pl pc,.string n.n,.int .i64 1,.string n.n,.string n.z,.int .i64 n.c,.int .i64 n.s,.int .i64 n.u,.bool n.d,.slice na nl nc]:=⟨_,rfl⟩;have Bt3:=aa (setRow_heap w2 w.heap.size _ #[.slice d2.a1 d2.l1 d2.c1,.slice d2.a2 d2.l2 d2.c2,.slice d2.a3 d2.l3 d2.c3,.slice d2.a4 d2.l4 d2.c4,.slice d2.a5 d2.l5 d2.c5,.int .i64 ck.now,.string p.n,.int .i64 p.c,.string p.z,.slice pa pl pc,.string n.n,.int .i64 1,.string n.n,.string n.z,.int .i64 n.c,.int .i64 n.s,.int .i64 n.u,.bool n.d,.slice na nl nc] _ _ Bt2.out);have Br3:=aa ((setRow_other w2 w.heap.size (w.heap.size+1) #[.slice d2.a1 d2.l1 d2.c1,.slice d2.a2 d2.l2 d2.c2,.slice d2.a3 d2.l3 d2.c3,.slice d2.a4 d2.l4 d2.c4,.slice d2.a5 d2.l5 d2.c5,.int .i64 ck.now,.string p.n,.int .i64 p.c,.string p.z,.slice pa pl pc,.string n.n,.int .i64 1,.string n.n,.string n.z,.int .i64 n.c,.int .i64 n.s,.int .i64 n.u,.bool n.d,.slice na nl nc] af).trans Br2.out);have HB3:=aa (below_setRow HB2.out (Fq _) #[.slice d2.a1 d2.l1 d2.c1,.slice d2.a2 d2.l2 d2.c2,.slice d2.a3 d2.l3 d2.c3,.slice d2.a4 d2.l4 d2.c4,.slice d2.a5 d2.l5 d2.c5,.int .i64 ck.now,.string p.n,.int .i64 p.c,.string p.z,.slice pa pl pc,.string n.n,.int .i64 1,.string n.n,.string n.z,.int .i64 n.c,.int .i64 n.s,.int .i64 n.u,.bool n.d,.slice na nl nc]);have HO3:=aa (HO2.kept (dB (b:=w.heap.size) (cs:=#[.slice d2.a1 d2.l1 d2.c1,.slice d2.a2 d2.l2 d2.c2,.slice d2.a3 d2.l3 d2.c3,.slice d2.a4 d2.l4 d2.c4,.slice d2.a5 d2.l5 d2.c5,.int .i64 ck.now,.string p.n,.int .i64 p.c,.string p.z,.slice pa pl pc,.string n.n,.int .i64 1,.string n.n,.string n.z,.int .i64 n.c,.int .i64 n.s,.int .i64 n.u,.bool n.d,.slice na nl nc])) (fun k s e=>by have s2:w.heap.size+2<=k:=s;omega));rw[<-hW3] at Bt3 Br3 HB3 HO3 ⊢;clear hW3 Bt2 Br2 HB2 HO2;have HPL:Hid (mf ck (onP p n.n)=plC ck i p n.n):=Av n.n HTk.2.1.2.2.2.2.2.2 HPk.out;rename_i K0 hK0;refine Gu.pb ar rfl rfl rfl ar ?_;refine' Gu.au.an (.agg #[.slice d2.a1 d2.l1 d2.c1,.slice d2.a2 d2.l2 d2.c2,.slice d2.a3 d2.l3 d2.c3,.slice d2.a4 d2.l4 d2.c4,.slice d2.a5 d2.l5 d2.c5,.int .i64 ck.now,.string p.n,.int .i64 p.c,.string p.z,.slice pa pl pc,.string n.n,.int .i64 1,.string n.n,.string n.z,.int .i64 n.c,.int .i64 n.s,.int .i64 n.u,.bool n.d,.slice na nl nc]) rfl ?_ ?_
    ·exact Cm
    refine' Gu.au.an (.agg #[.slice d2.a1 d2.l1 d2.c1,.slice d2.a2 d2.l2 d2.c2,.slice d2.a3 d2.l3 d2.c3,.slice d2.a4 d2.l4 d2.c4,.slice d2.a5 d2.l5 d2.c5,.int .i64 ck.now,.string p.n,.int .i64 p.c,.string p.z,.slice pa pl pc,.string n.n,.int .i64 1,.string n.n,.string n.z,.int .i64 n.c,.int .i64 n.s,.int .i64 n.u,.bool n.d,.slice na nl nc]) rfl ?_ ?_
    ·exact Cm
    refine' Gu.au.an _ rfl ?_ ?_;rotate_left 1
    ·refine Obl.plain rfl ?_;intro ac wg K hsz hW hf hK;clear hsz;clear hf;exact aT
    refine' Gu.au.an _ rfl ?_ ?_;rotate_left 1
    ·refine Obl.plain rfl ?_;intro ac wg K hsz hW hf hK;clear hsz;have e57:=hf 57 aj;simp[ai,Fp] at e57;clear hf;exact aT
    refine Gu.au.step (HsG #[.iface 152 (.agg #[])]) rfl (HsG.mono _) ?_ ?_
    ·refine Obl.plain rfl ?_;intro ac wg K hsz hW hf hK;clear hsz;have e58:=hf 58 aj;simp[ai,Fp] at e58;clear hf;go_simp;exact hK _ _ (al _ _) ⟨wg.heap.size,rfl,heap_alloc_new wg _⟩
    refine Gu.au.step (SsF (gu ck i p n)) rfl (SsF.mono _) ?_ ?_
    ·refine Obl.plain rfl ?_;intro ac wg K hsz hW hf hK;clear hsz;have e56:=hf 56 aj;simp[ai,Fp] at e56;have e59:=hf 59 aj;simp[ai,Fp] at e59;clear hf;obtain⟨b,e59,hb59⟩:=e59;go_simp;have hv8:(mf ck (onP p n.n)).vs.length<=8:=HTk.sm.v;refine (jt _ _ _ _ _ _ _ _ _ _ _ _ _ _ _ _ _ _ _ b 1 1 [(152,.agg #[],n.s<((dK (mf ck (onP p n.n)) n.n (mf ck (onP p n.n)).vs).length:Int))] wg rfl af (ae hb59) (fun j T u P hj=>by
      rcases j with _|j
      ·cases hj
       exact⟨aw hb59 0,AV d2 (mf ck (onP p n.n)) (onP p n.n) n pa pl pc na nl nc _ (HO3.row.below hW) hv8⟩
      ·simp at hj)).mono ?_
     rintro e w6 ⟨⟨rr,rfl,hi⟩,hb6⟩;refine hK _ _ hb6 ?_;rw[HPL.out] at hi;rcases hi with ⟨j,T,u,P,hj,hp,rfl,hlt⟩|⟨rfl,hno⟩
     ·rcases j with _|j
      ·cases hj;exact⟨9,.inr ⟨by decide,.inr (.inr (.inr (.inr (.inr (.inr (.inr ⟨_,rfl,rfl⟩))))))⟩,.inl ⟨hp,rfl⟩⟩
      ·simp at hj
     ·exact⟨0,.inl ⟨rfl,rfl⟩,.inr ⟨hno 0 _ _ _ rfl,rfl⟩⟩
    refine Gu.au.done ?_;intro q wz hW hf;simp only[FJ] at hf;obtain⟨⟨e0,he1,he2⟩,⟨b,h59,-⟩,h58,h57,h56,h55,-⟩:=hf;have HWZ:=upB HB3 hW;have Br6:=upK Br3 hW;have HO6:=aa ((HO3.below hW).kept (dB (b:=w.heap.size+1) (cs:=#[.slice d2.a1 d2.l1 d2.c1,.slice d2.a2 d2.l2 d2.c2,.slice d2.a3 d2.l3 d2.c3,.slice d2.a4 d2.l4 d2.c4,.slice d2.a5 d2.l5 d2.c5,.int .i64 ck.now,.string p.n,.int .i64 p.c,.string p.z,.slice pa pl pc,.string n.n,.int .i64 1,.string n.n,.string n.z,.int .i64 n.c,.int .i64 n.s,.int .i64 n.u,.bool n.d,.slice na nl nc])) (fun k s e=>by have s2:w.heap.size+2<=k:=s;omega));have H1:=aa he1;have H2:=aa he2;clear hW he1 he2;have HA19:Hid ((#[.slice d2.a1 d2.l1 d2.c1,.slice d2.a2 d2.l2 d2.c2,.slice d2.a3 d2.l3 d2.c3,.slice d2.a4 d2.l4 d2.c4,.slice d2.a5 d2.l5 d2.c5,.int .i64 ck.now,.string p.n,.int .i64 p.c,.string p.z,.slice pa pl pc,.string n.n,.int .i64 1,.string n.n,.string n.z,.int .i64 n.c,.int .i64 n.s,.int .i64 n.u,.bool n.d,.slice na nl nc]:Array Value).all (·.oneCell')=true):=by show _=true;simp[GC]
    intro K hK;rw[if_pos bJ];simp only[aE,Gd,GG,Fy,FF,FL,h59,h58,h57,h56,h55];refine wp_store_row _ _ _ rfl (w.heap.size+1) #[.slice d2.a1 d2.l1 d2.c1,.slice d2.a2 d2.l2 d2.c2,.slice d2.a3 d2.l3 d2.c3,.slice d2.a4 d2.l4 d2.c4,.slice d2.a5 d2.l5 d2.c5,.int .i64 ck.now,.string p.n,.int .i64 p.c,.string p.z,.slice pa pl pc,.string n.n,.int .i64 1,.string n.n,.string n.z,.int .i64 n.c,.int .i64 n.s,.int .i64 n.u,.bool n.d,.slice na nl nc] rfl rfl _ _ Br6.out aQ rfl HA19.out ?_;refine hK _ _ ?_;clear hK K;intro K hK;rw[if_pos bJ];go_simp;refine hK _ _ ?_;refine hK0 _ _ ?_;clear hK hK0 K K0;go_wp2;rw[HPL.out] at HO6;exact bodyPost_ret (v:=.tuple #[.agg #[.slice d2.a1 d2.l1 d2.c1,.slice d2.a2 d2.l2 d2.c2,.slice d2.a3 d2.l3 d2.c3,.slice d2.a4 d2.l4 d2.c4,.slice d2.a5 d2.l5 d2.c5,.int .i64 ck.now,.string p.n,.int .i64 p.c,.string p.z,.slice pa pl pc,.string n.n,.int .i64 1,.string n.n,.string n.z,.int .i64 n.c,.int .i64 n.s,.int .i64 n.u,.bool n.d,.slice na nl nc],q 60]) (results_cell_tmp rfl _ _ (w.heap.size+1) _ _ _ _ _ rfl rfl (setRow_heap _ (w.heap.size+1) _ #[.slice d2.a1 d2.l1 d2.c1,.slice d2.a2 d2.l2 d2.c2,.slice d2.a3 d2.l3 d2.c3,.slice d2.a4 d2.l4 d2.c4,.slice d2.a5 d2.l5 d2.c5,.int .i64 ck.now,.string p.n,.int .i64 p.c,.string p.z,.slice pa pl pc,.string n.n,.int .i64 1,.string n.n,.string n.z,.int .i64 n.c,.int .i64 n.s,.int .i64 n.u,.bool n.d,.slice na nl nc] _ _ Br6.out) Tryz.underlying66 rfl aQ) rfl ⟨d2,plC ck i p n.n,plC ck i p n.n,onP p n.n,e0,q 60,rfl,dh.yU HS1.out HAll.out (.inr ⟨rfl,H2.elim (fun h=>.inl h) (fun h=>.inr ⟨h.1,h.2,rfl⟩)⟩),H1.out,fun _=>HS1.out,fun _=>⟨rfl,HO6.bA (fun k _ s=>by have s2:w.heap.size+2<=k:=s;show w.heap.size<=k;omega)⟩,below_setRow HWZ.out af _⟩
  ·have HS1:=aa hs1;have HS3:=aa hs3;have HNE:=aa hs2;clear hs1 hs2 hs3 HS;have HA19:Hid ((#[.slice dk.a1 dk.l1 dk.c1,.slice dk.a2 dk.l2 dk.c2,.slice dk.a3 dk.l3 dk.c3,.slice dk.a4 dk.l4 dk.c4,.slice dk.a5 dk.l5 dk.c5,.int .i64 ck.now,.string p.n,.int .i64 p.c,.string p.z,.slice pa pl pc,.string p.d,.int .i64 p.p,.string n.n,.string n.z,.int .i64 n.c,.int .i64 n.s,.int .i64 n.u,.bool n.d,.slice na nl nc]:Array Value).all (·.oneCell')=true):=by show _=true;simp[GC]
   go_wp2_with (first
    | refine wpList_load_row (o:=⟨some 40,.load 66 (.tmp 1),_,_,_,none⟩) rfl _ _ rfl w.heap.size rfl _ _ _ _ Bt.out Tryz.underlying66 rfl aQ ?_
    | refine wpList_store_row (o:=⟨none,.store 66 (.tmp 2) (.tmp 40),_,_,_,none⟩) rfl _ _ _ rfl (w.heap.size+1) (trv dk ck p n pa pl pc na nl nc) rfl rfl _ _ Br.out aQ rfl HA19.out ?_)
   exact bodyPost_ret (v:=.tuple #[.agg #[.slice dk.a1 dk.l1 dk.c1,.slice dk.a2 dk.l2 dk.c2,.slice dk.a3 dk.l3 dk.c3,.slice dk.a4 dk.l4 dk.c4,.slice dk.a5 dk.l5 dk.c5,.int .i64 ck.now,.string p.n,.int .i64 p.c,.string p.z,.slice pa pl pc,.string p.d,.int .i64 p.p,.string n.n,.string n.z,.int .i64 n.c,.int .i64 n.s,.int .i64 n.u,.bool n.d,.slice na nl nc],.iface T v]) (results_cell_tmp rfl _ _ (w.heap.size+1) _ _ _ _ _ rfl rfl (setRow_heap _ (w.heap.size+1) _ (trv dk ck p n pa pl pc na nl nc) _ _ Br.out) Tryz.underlying66 rfl aQ) rfl ⟨dk,ck,ck,p,e0,_,rfl,HS3.elim (fun h=>dh.DA h.1 HNE.out) (fun h=>dh.yU h.1 h.2 (.inl ⟨HNE.out,rfl⟩)),HS1.out,fun a=>HS3.elim (fun h=>absurd a h.2) (fun h=>h.1),fun h=>absurd h HNE.out,below_setRow HB.out af _⟩

end Rc
end Go.Proofs.YtpejepeekdjfoaaGreatDoor

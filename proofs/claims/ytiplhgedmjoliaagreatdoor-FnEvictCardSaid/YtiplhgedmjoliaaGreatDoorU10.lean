import Derived.Test.YtiplhgedmjoliaaGreatDoorU9
import Derived.Deep.RegionWith
import Derived.Deep.Cut
import Derived.Deep.CutRange
import Derived.Laws.StructEq
/-
 What an agent with a live lease mounts, as the specification lists it.
-/
set_option maxRecDepth 100000
set_option maxHeartbeats 12800000
open Bool renaming false→G_,true→Hb
open Go.Ending renaming returned→Ha
open Go.IntKind renaming i64→G6
open Go.Obj renaming cells→G7
open Go.Value renaming string→I,slice→J,int→GZ,bool→G8,agg→Hc,pointer→Hf,tuple→Hg
open Option renaming none→U,some→F_
open Or renaming inr→Hd,inl→He
open And renaming intro→Fk
open Array renaming getElem?_push_size→Fs, getD_eq_getD_getElem?→FD, getElem?_eq_some_iff→FJ
open Bool renaming and_eq_true→FU
open Go.Addr renaming add_lit→FC
open Go.Calls renaming quiet_of_same→FP
open Go.Region renaming wanted→F5
open Go.RowKit.Below renaming heap_setCell→Fl, refl→Ft, heap_alloc→Fy
open Go.Value renaming string→Fz, ownBlock→FX
open Go.World renaming setCell→Gb, cell?→Gc
open List renaming getElem?_eq_some_iff→Fm, lookup→Fo, getElem?_eq_getElem→Fu, length_map→FB, setIfInBounds_toArray→FF, getElem?_map→FG, forall_mem_cons→FH, mem_of_getElem?→FK, set_cons_zero→FL, set_cons_succ→FM, drop_eq_nil_of_le→FN, getElem?_take→FQ, take_of_length_le→FT, getElem?_of_mem→FV, length_take→FW, take_add_one→FZ, foldr→F7, filter_append→Gw
open Nat renaming le_refl→Fq, lt_of_lt_of_le→Fw, le_trans→FA, zero_add→FE, le_succ→FO, zero_le→FY
open Option renaming map_eq_some_iff→FR
open Option.some renaming inj→Fp
namespace Go.Proofs.YtiplhgedmjoliaaGreatDoor
variable {p:Prop}
namespace Mk
end Mk
namespace Dk
end Dk
open Go.RowKit Mk Dk
variable {α:Type} {B X cap g i j k len m:Nat} {L:List Rc.Pd} {P:Program} {Q:Exit->Act->World->Prop} {S:Nat->Prop} {T:TypeId} {W w w0 wr:World} {a:Option Addr} {a0:Act} {b:Bool} {c:Rc.Cl} {d:Rc.Ad} {known:List (Tmp×Fact)} {o:Rc.Co} {ops:Array Oper} {q:Rc.Qd} {rs:List (List Rc.Fv)} {t:ByteArray} {v:Value} {x:Rc.Pd} {xs:List Rc.Qd} {nm:α->ByteArray}
theorem rB(h:p:=by simp[results,Tryz.results31,go_sem, *]):p:=h
theorem A3(h:p:=by unfold Oper.looksAt;rw[hg];refine List.mem_append_right _ ?_;simp only[hd];simp):p:=h
theorem AZ(h:p:=by simpa using (show (c.ns.map ndF).length=l1 from HS.row.n.1)):p:=h
theorem kH(h:p:=by
 rintro e w9 ⟨g,o,rfl,hI,ho,hb⟩;have HO:=ae ho;have HD9:=ae (HD4.below hb);have Br9:=upK Br hb;have HI:=ae hI;clear hI ho hb k0 k1 k2 k3 k4 k5 ltk;obtain⟨HA8,H12⟩:=BG;go_wp2_with (refine wpList_store_row rfl _ _ _ rfl (w.heap.size+1) #[J g.a1 g.l1 g.c1,J g.a2 g.l2 g.c2,J g.a3 g.l3 g.c3,J g.a4 g.l4 g.c4,J g.a5 g.l5 g.c5,GZ G6 o.c.now,I o.n,GZ G6 o.p] rfl rfl _ _ Br9.out fq rfl HA8.out ?_);exact bodyPost_ret (v:=Hc #[J g.a1 g.l1 g.c1,J g.a2 g.l2 g.c2,J g.a3 g.l3 g.c3,J g.a4 g.l4 g.c4,J g.a5 g.l5 g.c5,GZ G6 o.c.now,I o.n,GZ G6 o.p]) (results_cell_row rfl _ _ (w.heap.size+1) _ _ _ _ rfl H12.out Tryz.underlying33 rfl fq) rfl (jV HD9.out HO.out HD4.size Br9.out af HI.nm (λh=>HI.gd h))):p:=h
theorem D5(h:p:=by
 obtain⟨d3,c3,h3,hl3⟩:=HX.out;have HE:=ae h3;have HL3:=ae hl3;clear h3 hl3 HX;have Bc:=ae HE.blk;obtain⟨k0,k1,k2,k3,k4,k5⟩:=cs6 Bc;have ltk:=aa Bc.out;have hpl3:=HE.src.kI;have HRW:Hid ((W3.alloc (G7 #[J U 0 0,J U 0 0,J U 0 0,J U 0 0,J U 0 0,GZ G6 0,I ⟨#[]⟩,GZ G6 0] 33)).drew.heap[W3.heap.size]?=F_ (G7 #[J U 0 0,J U 0 0,J U 0 0,J U 0 0,J U 0 0,GZ G6 0,I ⟨#[]⟩,GZ G6 0] 33 (0,0))):=Fs;have HEA:=ae ((HE.below (aq W3 (G7 #[J U 0 0,J U 0 0,J U 0 0,J U 0 0,J U 0 0,GZ G6 0,I ⟨#[]⟩,GZ G6 0] 33))).below (bf _));have HEB:=ae (HE.below (bf _));go_cut [8] from 44 to 48 (λs wx=>EY WA.heap.size WA p v len w.heap.size w2.heap.size d3 c3 s wx);case first=>
  go_region_with (first
   | (go_at_call 14;first
    | (refine (HEB.src.n 12 ah).mono ?_;rintro e wn ⟨m,rfl,ma,mb,hs,hg⟩;have HN:=ae (HEB.draw hs hg);have bn:=HN.blk;have kq0:=ar bn 0;have kq1:=ar bn 1;have kq2:=ar bn 2;have kq3:=ar bn 3;have kq4:=ar bn 4;have kq5:=ar bn 5;have ltn:=aa bn;clear bn)
    | (refine (HEA.src.n 12 ah).mono ?_;rintro e wn ⟨m,rfl,ma,mb,hs,hg⟩;have HN:=ae (HEA.draw hs hg);have HRN:=ae (gk hg af HRW.out);have bn:=HN.blk;have kq0:=ar bn 0;have kq1:=ar bn 1;have kq2:=ar bn 2;have kq3:=ar bn 3;have kq4:=ar bn 4;have kq5:=ar bn 5;have ltn:=aa bn;clear bn))
   | (go_at_call 13;first
    | (refine (HTI.out _ c3 _ wn HN.row).mono ?_;rintro e w9 ⟨g9,q9,rfl,⟨hgd9,hnm9⟩,ho9,hb9⟩;have HE9:=ae (HN.below hb9);first
     | (have hr9:=(hb9.block _ (aa HRN.out)).trans HRN.out;obtain⟨r0,r1,r2,r3,r4,r5,r6,r7⟩:=cs8 hr9;have hrl:=aa hr9;have fr0:=al hr9 0;have fr1:=al hr9 1;have fr2:=al hr9 2;have fr3:=al hr9 3;have fr4:=al hr9 4;have fr5:=al hr9 5;have fr6:=al hr9 6;have fr7:=al hr9 7)
     | skip)
    | (have HRM:Hid ((wn.alloc (G7 #[J U 0 0,J U 0 0,J U 0 0,J U 0 0,J U 0 0,GZ G6 0,I ⟨#[]⟩,GZ G6 0] 33)).heap[wn.heap.size]?=F_ (G7 #[J U 0 0,J U 0 0,J U 0 0,J U 0 0,J U 0 0,GZ G6 0,I ⟨#[]⟩,GZ G6 0] 33 (0,0))):=Fs;have HNA:=ae (HN.below (aq wn (G7 #[J U 0 0,J U 0 0,J U 0 0,J U 0 0,J U 0 0,GZ G6 0,I ⟨#[]⟩,GZ G6 0] 33)));refine (HTI.out _ c3 _ (wn.alloc (G7 #[J U 0 0,J U 0 0,J U 0 0,J U 0 0,J U 0 0,GZ G6 0,I ⟨#[]⟩,GZ G6 0] 33)) HNA.row).mono ?_;rintro e w9 ⟨g9,q9,rfl,⟨hgd9,hnm9⟩,ho9,hb9⟩;have HE9:=ae (HNA.below hb9);have hr9:=(hb9.block _ (aa HRM.out)).trans HRM.out;obtain⟨r0,r1,r2,r3,r4,r5,r6,r7⟩:=cs8 hr9;have hrl:=aa hr9;have fr0:=al hr9 0;have fr1:=al hr9 1;have fr2:=al hr9 2;have fr3:=al hr9 3;have fr4:=al hr9 4;have fr5:=al hr9 5;have fr6:=al hr9 6;have fr7:=al hr9 7)))
  all_goals (
   go_wp2_with fail
   go_meet
   first
    | (rw[eight hr9];exact zo HE9.out (by first|exact ltk|exact ltn) (by first|omega|(have:=HN.src.kI;omega)) hr9 ho9 hnm9 hgd9)
    | exact zp HE9.out ho9 hgd9)
 case rest=>
  obtain⟨r9,g9,q9,c4,rfl,hcs,hl4,hy,hgr,hgd,hrb9,hrp9⟩:=hcut;have HE4:=ae hcs;have HY9:=ae hy;have HGR9:=ae hgr;have HGD9:=ae hgd;have HL4:=ae (hl4.trans HL3.out);clear hcs hy hgr hgd hl4 k0 k1 k2 k3 k4 k5 ltk Bc HE HRW HEA HEB;obtain⟨r0,r1,r2,r3,r4,r5,r6,r7⟩:=cs8 HY9;have hrl:=aa HY9.out;have Bc:=ae HE4.blk;obtain⟨k0,k1,k2,k3,k4,k5⟩:=cs6 Bc;obtain⟨ltk,f0,f1,f2,f3,f4,f5⟩:=rO;by_cases hp9:q9.p=0
  ·have hp19:(q9.p==0)=Hb:=by simpa using hp9
   go_wp2_with fail;have h3:=HE4.put (g:=g9) (c':=q9.c) HGR9.out;have hl3:q9.c.ps.length=l5:=(HGD9.out hp9).trans HL3.out;generalize ((((((wc.setCell ⟨w2.heap.size,0,U⟩ (J g9.a1 g9.l1 g9.c1)).setCell ⟨w2.heap.size,1,U⟩ (J g9.a2 g9.l2 g9.c2)).setCell ⟨w2.heap.size,2,U⟩ (J g9.a3 g9.l3 g9.c3)).setCell ⟨w2.heap.size,3,U⟩ (J g9.a4 g9.l4 g9.c4)).setCell ⟨w2.heap.size,4,U⟩ (J g9.a5 g9.l5 g9.c5)).setCell ⟨w2.heap.size,5,U⟩ (GZ G6 q9.c.now))=W5 at h3 ⊢;have HX:Hid (∃d5 c5,ES WA.heap.size WA p v len w.heap.size W5 w2.heap.size d5 c5/\c5.ps.length=l5):=⟨_,_,h3,hl3⟩;clear h3 hl3 k0 k1 k2 k3 k4 k5 ltk f0 f1 f2 f3 f4 f5 r0 r1 r2 r3 r4 r5 r6 r7 hrl HE4 HY9 HGR9 HGD9 HL4 Bc;exact xh
  ·have hp19:(q9.p==0)=G_:=by simpa using hp9
   go_wp2_with fail;have h3:=HE4.out;have hl3:=HL4.out;clear k0 k1 k2 k3 k4 k5 ltk f0 f1 f2 f3 f4 f5 r0 r1 r2 r3 r4 r5 r6 r7 hrl HE4 HY9 HGR9 HGD9 HL4 Bc;generalize wc=W5 at h3 ⊢;have HX:Hid (∃d5 c5,ES WA.heap.size WA p v len w.heap.size W5 w2.heap.size d5 c5/\c5.ps.length=l5):=⟨_,_,h3,hl3⟩;clear h3 hl3;exact xh):p:=h
theorem Dd(h:p:=by
 have HDW:=HD4;have BkW:=Bk;have BrW:=Br;have HRW:=HR;go_wp2_with fail;go_region_with (first
  | (go_at_call 63;refine (Ab (cn HDW.src)).mono ?_;rintro e w5 ⟨n1,c1,z1,a1,l1,cp1,zs1,d1,ph1,rfl,hn1,hz1,hd1,htx,-,-,-,-,hd⟩;have hsz:=hd.src;have hgz:=hd.gr;have HD5:=ae (Dk.Dr.next (w:=w4.drew) (iC HDW.out) hsz hgz);have HR5:=ae (aE.bP (w:=w4.drew) (HRW.below (bf _)) (bW (cn HDW.src)) (aZ hgz));have gk5:=gk hgz bZ (show w4.drew.heap[w.heap.size]?=_ from BkW.out);have gr5:=gk hgz bZ (show w4.drew.heap[w.heap.size+1]?=_ from BrW.out);have HG5:=ae gr5;have kq0:=ar gk5 0;have kq1:=ar gk5 1;have kq2:=ar gk5 2;have kq3:=ar gk5 3;have kq4:=ar gk5 4;have kq5:=ar gk5 5;have ltk5:=aa gk5;clear gk5 gr5)
  | (go_at_call 62;refine ((ui d c ⟨n1,c1,z1,zs1,d1,ph1⟩ a1 l1 cp1 _ HR5.out htx (by show n1.size<=_;omega) (by show z1.size<=_;omega) (by show d1.size<=_;omega)).mono λ_ _ h=>h.l).mono ?_;rintro e w9 ⟨g,o,rfl,hI,ho,hb⟩;have HG9:=upK HG5 hb;obtain⟨r0,r1,r2,r3,r4,r5,r6,r7⟩:=cs8 HG9;have hrl:=aa HG9.out;have fr0:=al HG9.out 0;have fr1:=al HG9.out 1;have fr2:=al HG9.out 2;have fr3:=al HG9.out 3;have fr4:=al HG9.out 4;have fr5:=al HG9.out 5;have fr6:=al HG9.out 6;have fr7:=al HG9.out 7))
 all_goals (
  rw[eight HG9.out];have HO:=ae ho;have HD9:=ae (HD5.below hb);have HI:=ae hI;have H12:=ae (setRow_heap _ (w.heap.size+1) _ #[J g.a1 g.l1 g.c1,J g.a2 g.l2 g.c2,J g.a3 g.l3 g.c3,J g.a4 g.l4 g.c4,J g.a5 g.l5 g.c5,GZ G6 o.c.now,I o.n,GZ G6 o.p] _ _ HG9.out);clear hI ho hb k0 k1 k2 k3 k4 k5 ltk r0 fr0 r1 fr1 r2 fr2 r3 fr3 r4 fr4 r5 fr5 r6 fr6 r7 fr7;go_wp2_with fail
  exact bodyPost_ret (v:=Hc #[J g.a1 g.l1 g.c1,J g.a2 g.l2 g.c2,J g.a3 g.l3 g.c3,J g.a4 g.l4 g.c4,J g.a5 g.l5 g.c5,GZ G6 o.c.now,I o.n,GZ G6 o.p]) (results_cell_row rfl _ _ (w.heap.size+1) _ _ _ _ rfl H12.out Tryz.underlying33 rfl fq) rfl (jV HD9.out HO.out HD5.size HG9.out af HI.nm (λh=>HI.gd h)))):p:=h
theorem yQ(h:p:=by
 have HDW:=HD4;have BkW:=Bk;have BrW:=Br;have HRW:=HR;go_wp2_with fail;go_region_with (first
  | (go_at_call 61;refine (tF (cn HDW.src)).mono ?_;rintro e w5 ⟨n1,c1,j1,x1,o1,rfl,hn1,hk1,hu1,hd⟩;have hsz:=hd.src;have hgz:=hd.gr;have HD5:=ae (Dk.Dr.next (w:=w4.drew) (iC HDW.out) hsz hgz);have HR5:=ae (aE.bP (w:=w4.drew) (HRW.below (bf _)) (bW (cn HDW.src)) (aZ hgz));have gk5:=gk hgz bZ (show w4.drew.heap[w.heap.size]?=_ from BkW.out);have gr5:=gk hgz bZ (show w4.drew.heap[w.heap.size+1]?=_ from BrW.out);have HG5:=ae gr5;have kq0:=ar gk5 0;have kq1:=ar gk5 1;have kq2:=ar gk5 2;have kq3:=ar gk5 3;have kq4:=ar gk5 4;have kq5:=ar gk5 5;have ltk5:=aa gk5;clear gk5 gr5)
  | (go_at_call 60;refine ((ug d c ⟨n1,c1,j1,x1,o1⟩ _ HR5.out (by show n1.size<=_;omega) (by show j1.size<=_;omega) (by show o1.size<=_;omega)).mono λ_ _ h=>h.l).mono ?_;rintro e w9 ⟨g,o,rfl,hI,ho,hb⟩;have HG9:=upK HG5 hb;obtain⟨r0,r1,r2,r3,r4,r5,r6,r7⟩:=cs8 HG9;have hrl:=aa HG9.out;have fr0:=al HG9.out 0;have fr1:=al HG9.out 1;have fr2:=al HG9.out 2;have fr3:=al HG9.out 3;have fr4:=al HG9.out 4;have fr5:=al HG9.out 5;have fr6:=al HG9.out 6;have fr7:=al HG9.out 7))
 all_goals (
  rw[eight HG9.out];have HO:=ae ho;have HD9:=ae (HD5.below hb);have HI:=ae hI;have H12:=ae (setRow_heap _ (w.heap.size+1) _ #[J g.a1 g.l1 g.c1,J g.a2 g.l2 g.c2,J g.a3 g.l3 g.c3,J g.a4 g.l4 g.c4,J g.a5 g.l5 g.c5,GZ G6 o.c.now,I o.n,GZ G6 o.p] _ _ HG9.out);clear hI ho hb k0 k1 k2 k3 k4 k5 ltk r0 fr0 r1 fr1 r2 fr2 r3 fr3 r4 fr4 r5 fr5 r6 fr6 r7 fr7;go_wp2_with fail
  exact bodyPost_ret (v:=Hc #[J g.a1 g.l1 g.c1,J g.a2 g.l2 g.c2,J g.a3 g.l3 g.c3,J g.a4 g.l4 g.c4,J g.a5 g.l5 g.c5,GZ G6 o.c.now,I o.n,GZ G6 o.p]) (results_cell_row rfl _ _ (w.heap.size+1) _ _ _ _ rfl H12.out Tryz.underlying33 rfl fq) rfl (jV HD9.out HO.out HD5.size HG9.out af HI.nm (λh=>HI.gd h)))):p:=h
theorem CJ(h:p:=by
 rintro e w9 ⟨g,o,rfl,hI,ho,hb⟩;have HO:=ae ho;have HD9:=ae (HD5.below hb);have Br9:=upK Br hb;have HI:=ae hI;clear hI ho hb k0 k1 k2 k3 k4 k5 ltk;obtain⟨HA8,H12⟩:=BG;go_wp2_with (refine wpList_store_row rfl _ _ _ rfl (w.heap.size+1) #[J g.a1 g.l1 g.c1,J g.a2 g.l2 g.c2,J g.a3 g.l3 g.c3,J g.a4 g.l4 g.c4,J g.a5 g.l5 g.c5,GZ G6 o.c.now,I o.n,GZ G6 o.p] rfl rfl _ _ Br9.out fq rfl HA8.out ?_);exact bodyPost_ret (v:=Hc #[J g.a1 g.l1 g.c1,J g.a2 g.l2 g.c2,J g.a3 g.l3 g.c3,J g.a4 g.l4 g.c4,J g.a5 g.l5 g.c5,GZ G6 o.c.now,I o.n,GZ G6 o.p]) (results_cell_row rfl _ _ (w.heap.size+1) _ _ _ _ rfl H12.out Tryz.underlying33 rfl fq) rfl (jV HD9.out HO.out HD5.size Br9.out af HI.nm (λh=>HI.gd h))):p:=h
theorem rW(h:p:=by
 refine wpQuiet_nil ?_;rintro _ ⟨q,rfl⟩;go_wp2_with fail;exact⟨⟨k+1,by omega,by go_num,HS.below q.b⟩,by simp[intOf];omega⟩):p:=h
theorem yP(h:p:=by
 go_wp2_with fail;refine (jA a a' len len' cap cap' zs _ (HR.below (aM _ _ _)) (HR'.below (aM _ _ _))).mono ?_;rintro e w1 ⟨rfl,hb⟩;have HB:Hid (Below w.heap.size w w1):=(aM _ _ _).trans (hb.mono bD);go_wp2_with fail;go_ret;exact⟨rfl,HB.out⟩):p:=h
theorem yM(h:p:=by
 have HB:=HB41;clear HB41;have Bk:=Ck;clear Ck;have Bn:=Cn;clear Cn;have HO3:=ae (cw HO.out q1.b);rw[<-Eb HY0.out HON.out] at HO3;go_wp2;exact⟨⟨k+1,m9,by omega,by omega,by go_num,HO3,HL.trans (q1.b.mono hLs)⟩,by simp[intOf];omega⟩):p:=h
theorem pQ(h:p:=by
 go_enter Tryz.func56,Tryz.ntmps56;go_wp2;go_ret;exact⟨rfl,Ft _ _⟩):p:=h
theorem pP(h:p:=by
 exact aA.nil _ _ _ _ _ (show (0:Nat)<=9223372036854775807 by omega)):p:=h
theorem xI(h:p:=by
 obtain⟨k0,k1,k2,k3,k4,k5⟩:=cs6 Bk;have ltk:=aa Bk.out;go_wp2_with fail;go_end0;exact⟨rfl,_,_,HS.out⟩):p:=h
theorem xh(h:p:=by
 obtain⟨⟨e1,m1,n1,e2,m2,n2,e3,m3,n3,e4,m4,n4,e5,m5,n5⟩,c5,h5,hl⟩:=HX.out;have HE:=ae h5;clear HX;have hm5':c5.ps.length=m5:=by simpa using (show (c5.ps.map pdF).length=m5 from h5.row.p.1)
 obtain rfl:m5=l5:=hm5'.symm.trans hl;obtain⟨b9,o9,x9,rfl,hb9,hx9,hat9⟩:=bN h5.row.p hlt;obtain⟨va9,vl9,vc9,-,hz9,-,-,c9,-,-,-,-,-⟩:=aR hat9;clear hat9 hx9 h5 hl;have HZ9:=ae hz9;clear hz9;have Bc:=ae HE.blk;have HRS:=ae HE.res;obtain⟨k0,k1,k2,k3,k4,k5⟩:=cs6 Bc;have ltk:=aa Bc.out;obtain⟨s0,s1,s2,s3,s4,s5⟩:=cs6 HRS;have lts:=aa HRS.out;have g0_:=al HRS.out 0;have g1_:=al HRS.out 1;have g2_:=al HRS.out 2;have g3_:=al HRS.out 3;have g4_:=al HRS.out 4;have g5_:=al HRS.out 5;have hne:¬b9=w.heap.size:=λe=>by subst e;exact cE (d:=ad0) HRS.out _ _ c9
 have hne2:¬w2.heap.size=w.heap.size:=by have:=HE.lt;omega
 go_wp2_with fail;go_region;all_goals (
  have hf:=HE.fin rfl HWA.1 HWA.2;have HF:=ae (Fk (hf.1.below (bf _)) (hf.2.trans ((bf _).mono hf.2.size)));clear hf;go_wp2_with fail
  exact bodyPost_ret (v:=Hg #[Hc #[J e1 m1 n1,J e2 m2 n2,J e3 m3 n3,J e4 m4 n4,J (F_ ⟨b9,o9,U⟩) m5 n5,GZ G6 c5.now],I x9.n]) (by simp[results,Tryz.results4,go_sem, *]) rfl ⟨⟨e1,m1,n1,e2,m2,n2,e3,m3,n3,e4,m4,n4,F_ ⟨b9,o9,U⟩,m5,n5⟩,c5,x9.n,rfl,HF.1,HZ9.out,HF.2⟩)):p:=h
theorem wJ(h:p:=by
 rcases HF6.2.2.2.2.2.2 with h9|⟨g9,c9,H9,e9,h9⟩
 ·have h8:=HF6.2.2.2.1;have h7:=h2.1;rw[h9] at h8;simp at h8;omega
 ·have h7:=h2.2;rw[h7] at e9;cases e9;exact h1 h9.inS):p:=h
theorem pE(h:p:=by
 go_wp2_with fail;refine (sM d c tp _ HR.out).mono ?_;exact kH):p:=h
theorem wk(h:p:=by
 go_wp2_with fail;refine ag au au ?_;repeat (go_big_quiet_step (first|fail))
 exact rW):p:=h
theorem wb(h:p:=by
 rw[<-hns];exact⟨by rw[List.length_set];exact HNN.1,HNN.2.1,HNN.2.2.1,Hd ⟨g,cur6,H6,rfl,hat6⟩⟩):p:=h
theorem BP(h:p:=by
 have k0:=λq:Wd W=>q.slot (o:=0) Bc3.out rfl;have k1:=λq:Wd W=>q.slot (o:=1) Bc3.out rfl;have k2:=λq:Wd W=>q.slot (o:=2) Bc3.out rfl;have k3:=λq:Wd W=>q.slot (o:=3) Bc3.out rfl;have k4:=λq:Wd W=>q.slot (o:=4) Bc3.out rfl;have k5:=λq:Wd W=>q.slot (o:=5) Bc3.out rfl;have p0:∀q:Wd W,q.w.cell? ⟨g,k*6,U⟩=F_ (I x.n):=λq=>(q.cell hbl2).trans c0;have p1:∀q:Wd W,q.w.cell? ⟨g,k*6+1,U⟩=F_ (GZ G6 x.c):=λq=>(q.cell hbl2).trans c1;have p2:∀q:Wd W,q.w.cell? ⟨g,k*6+2,U⟩=F_ (I x.z):=λq=>(q.cell hbl2).trans c2;have p3:∀q:Wd W,q.w.cell? ⟨g,k*6+3,U⟩=F_ (J pa pq pc):=λq=>(q.cell hbl2).trans c3;have p4:∀q:Wd W,q.w.cell? ⟨g,k*6+4,U⟩=F_ (I x.d):=λq=>(q.cell hbl2).trans c4;have p5:∀q:Wd W,q.w.cell? ⟨g,k*6+5,U⟩=F_ (GZ G6 1):=λq=>(q.cell hbl2).trans c5;exact Fk k0 (Fk k1 (Fk k2 (Fk k3 (Fk k4 (Fk k5 (Fk p0 (Fk p1 (Fk p2 (Fk p3 (Fk p4 p5))))))))))):p:=h
theorem BK(h:p:=by
 have hlt:=h.lt;have hk9:=(((((aL.refl (λk=>k=bc) wx).set (i:=0) (v:=J g.a1 g.l1 g.c1) rfl).set (i:=1) (v:=J g.a2 g.l2 g.c2) rfl).set (i:=2) (v:=J g.a3 g.l3 g.c3) rfl).set (i:=3) (v:=J g.a4 g.l4 g.c4) rfl).set (i:=4) (v:=J g.a5 g.l5 g.c5) rfl |>.set (i:=5) (v:=GZ G6 c'.now) rfl;have h6:=az (i:=5) (az (i:=4) (az (i:=3) (az (i:=2) (az (i:=1) (az (i:=0) h.blk (J g.a1 g.l1 g.c1)) (J g.a2 g.l2 g.c2)) (J g.a3 g.l3 g.c3)) (J g.a4 g.l4 g.c4)) (J g.a5 g.l5 g.c5)) (GZ G6 c'.now);exact Fk hlt (Fk hk9 h6)):p:=h
theorem BG(h:p:=by
 have HA8:Hid ((#[J g.a1 g.l1 g.c1,J g.a2 g.l2 g.c2,J g.a3 g.l3 g.c3,J g.a4 g.l4 g.c4,J g.a5 g.l5 g.c5,GZ G6 o.c.now,I o.n,GZ G6 o.p]:Array Value).all (·.oneCell')=Hb):=by show _=Hb;simp[Value.oneCell']
 have H12:=ae (setRow_heap _ (w.heap.size+1) _ #[J g.a1 g.l1 g.c1,J g.a2 g.l2 g.c2,J g.a3 g.l3 g.c3,J g.a4 g.l4 g.c4,J g.a5 g.l5 g.c5,GZ G6 o.c.now,I o.n,GZ G6 o.p] _ _ Br9.out);exact Fk HA8 H12):p:=h
theorem rP(h:p:=by
 have hgb:¬g=b:=λe=>by subst e;exact cE Bk.out _ _ c0
 have hgp:¬g=p:=λe=>by subst e;exact bW HS.src _ _ c0
 exact Fk hgb hgp):p:=h
theorem rO(h:p:=by
 have ltk:=aa Bc.out;have f0:=al Bc.out 0;have f1:=al Bc.out 1;have f2:=al Bc.out 2;have f3:=al Bc.out 3;have f4:=al Bc.out 4;have f5:=al Bc.out 5;exact Fk ltk (Fk f0 (Fk f1 (Fk f2 (Fk f3 (Fk f4 f5)))))):p:=h
theorem BD(h:p:=by
 have n0:=λq:Wd wr=>q.slot (o:=0) Gn.out rfl;have yd:=λq:Wd wr=>(q.cell hbl).trans hc1;have von:=λq:Wd wr=>(q.cell hb3).trans hc7;have hne0:=Wd.ne wr;have HC0:=ae (λq:Wd wr=>dN ⟨a1,l1,y1,a2,l2,y2,(F_ ⟨b3,o3,U⟩),l3,y3,a4,l4,y4,a5,l5,y5⟩ c.now c.vs y.n q.w (HR.v.below (HW.trans (q.b.mono HW.size))) HT.2.1.2.2.1.2.2 HV.1 HV.2);exact Fk n0 (Fk yd (Fk von (Fk hne0 HC0)))):p:=h
theorem BC(h:p:=by
 have Bo7:=ae ((hK.block _ (aa Bo6.out) (nb _ af)).trans Bo6.out);have Br7:=ae ((hK.block _ (aa Br6.out) (nb _ af)).trans Br6.out);have g1:=HF1.beside HF6.2.2.2 hK ah;have g2:=HF6.1.beside HF6.2.2.2 hK ah;have g3:=HF6.2.1.beside HF6.2.2.2 hK ah;have g4:=HF6.2.2.1.beside HF6.2.2.2 hK ah;exact Fk Bo7 (Fk Br7 (Fk g1 (Fk g2 (Fk g3 g4))))):p:=h
theorem A_(h:p:=by
 have HG:=ae (Fk g1 (Fk g2 (Fk g3 (Fk g4 hP))));have HB7:Hid (Below w.heap.size w w7):=HB6.trans (hK.low (X:=w.heap.size) HB6.size (λk s=>Classical.byContradiction λhk=>nb k af s));exact Fk HG HB7):p:=h
theorem iV(h:p:=by
 have hv0:=aa HS.g0;have hv1:=aa HS.g1;exact Fk hv0 hv1):p:=h
namespace Rc
theorem rk(a:Option Addr) (len cap:Nat) (zs:List ByteArray) (t:ByteArray) (w:World) (hr:aD w a len cap zs) (r:Bool) (h:r=Hb↔InL zs t):
  Calls Tryz.prog 102 #[J a len cap,I t] w λe w'=>e=Ha (G8 r)/\Below w.heap.size w w':=by
 refine (bX a len cap zs t w hr).mono ?_;exact uU
def mwB(c:Cl) (t:ByteArray) (q:Qd):Bool:=(q.d.toList==t.toList) && c.vs.any λv=>(v.n.toList==q.n.toList) && inB v.zs t
def mwL(c:Cl) (t:ByteArray) (qs:List Qd):List ByteArray:=(qs.filter (mwB c t)).map Qd.n
theorem Du {x:Qd} (h:xs[k]?=F_ x) (hv:mwB c t x=Hb):mwL c t (xs.take (k+1))=mwL c t (xs.take k)++[x.n]:=by
 unfold mwL;rw[FZ,h,Gw,List.map_append];simp[hv]
theorem Eb {x:Qd} (h:xs[k]?=F_ x) (hv:mwB c t x=G_):mwL c t (xs.take (k+1))=mwL c t (xs.take k):=by
 unfold mwL;rw[FZ,h,Gw,List.map_append];simp[hv]
theorem An(h:a_ w a len cap 2 (xs.map qdF)) (j:Nat) (z:ByteArray) (hz:(mwL c t xs)[j]?=F_ z):z.size<=9223372036854775807:=by
 have hm:=FK hz;obtain⟨x,hx,rfl⟩:=List.mem_map.1 hm;obtain⟨i,hi⟩:=FV ((List.mem_filter.1 hx).1);have hl:xs.length=len:=by simpa using h.1
 obtain⟨b,o,y,-,-,hy,hat⟩:=lz h (j:=i) (by have:=(Fm.1 hi).1;omega);rw[hi] at hy;cases hy;exact (fe hat).1
theorem qg {v:Vd} (hv:aJ Vd.n c.vs) (hi:c.vs[i]?=F_ v) (hn:v.n=q.n) (hd:q.d=t):mwB c t q=Hb↔InL v.zs t:=by
 unfold mwB;rw[aW hd,Bool.true_and,List.any_eq_true];constructor
 ·rintro⟨v',hm,he⟩;obtain⟨i',hi'⟩:=FV hm;rw[FU] at he;obtain⟨_,rfl⟩:=hv.inj hi' hi ((cY he.1).trans hn.symm);exact dY.1 he.2
 ·intro h;exact⟨v,FK hi,by rw[FU];exact⟨aW hn,dY.2 h⟩⟩
theorem Dv(hd:¬q.d=t):mwB c t q=G_:=by unfold mwB;rw[bH hd];rfl
theorem aJ.Fh {xs:List α} (h:aJ nm xs):RT (xs.map nm):=by
 exact yr
theorem jf.rt(h:aJ Vd.n c.vs):RT (jf c t c.vs):=List.Pairwise.sublist (List.filter_sublist.map _) h.Fh
theorem mwL.rt {qs:List Qd} (h:RQ qs):RT (mwL c t qs):=by
 unfold mwL RT;rw[List.pairwise_map];refine List.Pairwise.imp_of_mem ?_ (List.Pairwise.filter _ h);intro a b ha hb hab;have e1:=(List.mem_filter.1 ha).2;have e2:=(List.mem_filter.1 hb).2;unfold mwB at e1 e2;rw[FU] at e1 e2;unfold du at hab;rw[Bool.or_eq_true,FU] at hab;rcases hab with h1|⟨_,h1⟩
 ·exact h1
 ·rw[cY e1.1,cY e2.1,dP] at h1;cases h1
theorem yW {ws:List Qd} (hT:ay c) (ht:¬t=⟨#[]⟩) (hr:RQ ws) (hm:∀q,q∈ws↔Wn c c.ps.length q):mwL c t ws=jf c t c.vs:=by
 have hv:=hT.2.1.2.2.1.2.2;have hx:=hT.2.1.2.2.2.1.2.2;refine (mwL.rt hr).ext (jf.rt hv) (λs=>?_);unfold mwL jf;rw[List.mem_map,List.mem_map];constructor
 ·rintro⟨q,hq,rfl⟩;obtain⟨hq1,hq2⟩:=List.mem_filter.1 hq;obtain⟨j,p,_,hp,_,k,cl,v,hk,hb,rfl⟩:=(hm q).1 hq1;have hpd:p.d=t:=by unfold mwB at hq2;rw[FU] at hq2;exact cY hq2.1
  obtain⟨i,jv,x,h1,h2,h3,h4⟩:=hb;have hon:=(qg (q:=⟨v.n,p.d⟩) hv h3 rfl hpd).1 hq2;have hne:¬x.v=⟨#[]⟩:=by rw[<-h4];exact aV.ne (hT.2.1.2.2.1.2.1 jv v h3).1
  obtain⟨i',j',x',v',k1,k2,k3,k4,k5,k6,_⟩:=(hT.2.2.1.2 i x h1).2.resolve_left hne;obtain⟨_,rfl⟩:=hv.inj k3 h3 (k4.trans h4.symm);refine⟨v',List.mem_filter.2 ⟨FK h3,?_⟩,rfl⟩;unfold Dw;rw[FU];refine⟨dY.2 hon,dA.2 ⟨j,p,hp,hpd,k,?_⟩⟩;rw[hk,k6,h2]
 ·rintro⟨v,h1,rfl⟩;obtain⟨h2,h3⟩:=List.mem_filter.1 h1;obtain⟨jv,hj⟩:=FV h2;unfold Dw at h3;rw[FU] at h3;obtain⟨j,p,hp,hd,k,hk⟩:=dA.1 h3.2;have hz:=(hT.2.1.2.2.2.2.2.1 j p hp).2.2.2.1.2;have hne:¬v.m=⟨#[]⟩:=aV.ne (hz k v.m hk).1;obtain⟨i',j',x',v',k1,k2,k3,k4,k5,k6,_⟩:=(hT.2.2.1.1 jv v hj).2.resolve_left hne;refine⟨⟨v.n,p.d⟩,List.mem_filter.2 ⟨(hm _).2 ⟨j,p,(Fm.1 hp).1,hp,by rw[hd];exact ht,k,v.m,v,hk,⟨i',jv,x',k1,k2,hj,k5.symm⟩,rfl⟩,?_⟩,rfl⟩;exact (qg (q:=⟨v.n,p.d⟩) hv hj rfl hd).2 (dY.1 h3.1)
theorem CY(h:Wn c k q):∃(i:Nat) (v:Vd),c.vs[i]?=F_ v/\v.n=q.n:=by
 obtain⟨j,p,_,_,_,i,t,v,_,⟨i2,j2,x,_,_,h3,_⟩,rfl⟩:=h;exact⟨j2,v,h3,rfl⟩
theorem tX(d:Ad) (c:Cl) (n:Nd) (na:Option Addr) (nl nc:Nat) (w:World) (hr:aE w d c.raw) (hT:ay c) (ht:¬n.n=⟨#[]⟩):
  Calls Tryz.prog 57 #[Hc #[J d.a1 d.l1 d.c1,J d.a2 d.l2 d.c2,J d.a3 d.l3 d.c3,J d.a4 d.l4 d.c4,J d.a5 d.l5 d.c5,GZ G6 c.now],Hc #[I n.n,I n.z,GZ G6 n.c,GZ G6 n.s,GZ G6 n.u,G8 n.d,J na nl nc]] w λe w'=> ∃a l q,e=Ha (J a l q)/\bQ w' a l q (jf c n.n c.vs) (λk=>w.heap.size<=k)/\Below w.heap.size w w':=by
 obtain⟨a1,l1,y1,a2,l2,y2,a3,l3,y3,a4,l4,y4,a5,l5,y5⟩:=d;dsimp only;obtain⟨HR,hl1,hm1,hl2,hm2,hl3,hm3,hl4,hm4,hl5,hm5⟩:=ew;clear hr;have HT:=ae hT;have HNE:=ae ht;have HB:=ae (Ft w.heap.size w);obtain⟨i0,hi,hz0,hz1,hz2⟩:=info_parts dI;have HI0:=ae (Fk hi (Fk hz0 (Fk hz1 hz2)));clear hi hz0 hz1 hz2 hT ht;go_enter Tryz.func57,Tryz.ntmps57;go_wp2_with fail;refine (jU ⟨a1,l1,y1,a2,l2,y2,a3,l3,y3,a4,l4,y4,a5,l5,y5⟩ c _ (HR.below (HB.trans ((aM _ _ _).mono HB.size))) HT.out).mono ?_;rintro e w1 ⟨wa,wl,wc,ws,rfl,ho,hrq,hmem,hle,hb⟩;obtain⟨HA0,HA1,hbx⟩:=bU hb;have Bk:=ae HA0;have Bn:=ae HA1;replace HB:=upB HB hbx;clear hb hbx HA0 HA1;have HER:=ae ho.row;have hwl:ws.length=wl:=by simpa using ho.row.1
 have HES:=ae (Fk hrq hmem);have hw24:wl<=24:=af
 have hn1:w.heap.size+1<w1.heap.size:=aa Bn.out;clear ho hrq hmem;go_wp2;have BeV:=ae (heap_alloc_new w1 (G7 #[] 9));have HB1:=HB;have Bk1:=Bk;have Bn1:=Bn;clear HB Bk Bn;go_loopw [6,7] (λvo vi wr=> ∃k m9:Nat,k<=wl/\m9<=k/\vi=GZ G6 k/\Hid (wr.ownsRow (w1.heap.size) 9 1 vo m9 ((mwL c n.n (ws.take k)).map Fz))/\Hid (Below w1.heap.size w1 wr)) (λ_ vi _=>wl - (intOf vi).toNat);case atStart=>exact⟨0,0,by omega,by omega,rfl,⟨rfl,Hd ⟨w1.heap.size,0,#[],rfl,Fq _,BeV.out,Fq _,by unfold maxLen;omega,rfl,rfl⟩⟩,aq _ _⟩
 case round=>
  obtain⟨k,m9,hk,hm9,rfl,HO,HL⟩:=hrel;have hLs:=HL.size;have Bk:=upK Bk1 HL.out;have Bn:=upK Bn1 HL.out;have HB:=ae (HB1.trans (HL.mono HB1.size));clear BeV;by_cases hlt:k<wl
  ·have hk1:(k:Int)<wl:=af
   have hk0:¬(k:Int)<0:=af
   obtain⟨b,o,y,rfl,hbl,hy,hat⟩:=lz (HER.below HL.out) hlt;obtain⟨-,-,hc0,hc1⟩:=fe hat;have HY0:=ae hy;obtain⟨i,v,hv,hvn⟩:=CY ((HES.2 y).1 (FK hy));have HV:=ae (Fk hv hvn);have hi3:i<l3:=by have:=(Fm.1 hv).1;omega
   have hii:(i:Int)<l3:=af
   have hi0:¬(i:Int)<0:=af
   obtain⟨b3,o3,v',rfl,hb3,hx3,hat3⟩:=bM (HR.v.below HB.out) hi3;rw[hv] at hx3;obtain rfl:=Fp hx3;obtain⟨va,vl,vc,hvr,-,-,-,-,-,-,-,-,-,-,-,hc7⟩:=aP hat3;have HVR:=ae hvr;clear hat hy hv hvn hat3 hx3 hvr;by_cases he:y.d=n.n;rotate_left
   ·have hq:=bH he;have hon:mwB c n.n y=G_:=Dv he;have HON:=ae hon;clear hon;obtain⟨k0,k1,k2,k3,k4,k5⟩:=cs6 Bk;have ltk_40:=aa Bk.out;obtain⟨n0,n1,n2,n3,n4,n5,n6⟩:=cs7 Bn;have ltn_40:=aa Bn.out;go_wp2_with fail;clear k0 k1 k2 k3 k4 k5 ltk_40 n0 n1 n2 n3 n4 n5 n6 ltn_40;have Gk:=Bk;have Gn:=Bn;have HW:=HB;obtain⟨k0,k1,k2,k3,k4,k5⟩:=sl6 Gk;have n0:=λq:Wd wr=>q.slot (o:=0) Gn.out rfl;have yd:=λq:Wd wr=>(q.cell hbl).trans hc1;have hne0:=Wd.ne wr;go_wp2_with fail;refine ag au au ?_;repeat (go_big_quiet_step (first|fail))
    refine wpQuiet_nil ?_;rintro _ ⟨q1,rfl⟩;have HB41:=upB HW q1.b;have Ck:=upK Gk q1.b;have Cn:=upK Gn q1.b;clear hne0 HW HB k0 k1 k2 k3 k4 k5 n0 yd Gk Gn Bk Bn hbl hc0 hc1 hb3 hc7 hq;exact yM
   have hq:=aW he;have HIF:=ae (qg (q:=y) HT.2.1.2.2.1.2.2 HV.1 HV.2 he);clear he;by_cases hin:InL v.zs n.n;rotate_left
   ·have HIN:=ae hin;clear hin;have hon:mwB c n.n y=G_:=by cases h:mwB c n.n y;rfl;exact absurd (HIF.1 h) HIN.out
    have HON:=ae hon;clear hon;obtain⟨k0,k1,k2,k3,k4,k5⟩:=cs6 Bk;have ltk_40:=aa Bk.out;obtain⟨n0,n1,n2,n3,n4,n5,n6⟩:=cs7 Bn;have ltn_40:=aa Bn.out;go_wp2_with fail;clear k0 k1 k2 k3 k4 k5 ltk_40 n0 n1 n2 n3 n4 n5 n6 ltn_40;have Gk:=Bk;have Gn:=Bn;have HW:=HB;obtain⟨k0,k1,k2,k3,k4,k5⟩:=sl6 Gk;obtain⟨n0,yd,von,hne0,HC0⟩:=BD;have HC1:=ae (λq:Wd wr=>rk va vl vc v.zs n.n q.w (HVR.below q.b) G_ (⟨λh=>bY,λh=>absurd h HIN.out⟩));go_wp2_with fail;refine ag au au ?_;repeat (go_big_quiet_step (first|(go_at_call 97;exact Calls.wide (HC0.out _))|(go_at_call 102;exact Calls.wide (HC1.out _))|fail))
    refine wpQuiet_nil ?_;rintro _ ⟨q1,rfl⟩;have HB41:=upB HW q1.b;have Ck:=upK Gk q1.b;have Cn:=upK Gn q1.b;clear hne0 HW HB HC0 HC1 k0 k1 k2 k3 k4 k5 n0 yd von Gk Gn Bk Bn hbl hc0 hc1 hb3 hc7 hq;exact yM
   have HON:=ae (HIF.2 hin);have HIN:=ae hin;clear hin;obtain⟨k0,k1,k2,k3,k4,k5⟩:=cs6 Bk;have ltk_40:=aa Bk.out;obtain⟨n0,n1,n2,n3,n4,n5,n6⟩:=cs7 Bn;have ltn_40:=aa Bn.out;go_wp2_with fail;clear k0 k1 k2 k3 k4 k5 ltk_40 n0 n1 n2 n3 n4 n5 n6 ltn_40;have Gk:=Bk;have Gn:=Bn;have HW:=HB;obtain⟨k0,k1,k2,k3,k4,k5⟩:=sl6 Gk;obtain⟨n0,yd,von,hne0,HC0⟩:=BD;have HC1:=ae (λq:Wd wr=>rk va vl vc v.zs n.n q.w (HVR.below q.b) Hb (⟨λ_=>HIN.out,λ_=>rfl⟩));go_wp2_with fail;refine ag au au ?_;repeat (go_big_quiet_step (first|(go_at_call 97;exact Calls.wide (HC0.out _))|(go_at_call 102;exact Calls.wide (HC1.out _))|fail))
   refine wpQuiet_nil ?_;rintro _ ⟨q1,rfl⟩;have HB41:=upB HW q1.b;have Ck:=upK Gk q1.b;have Cn:=upK Gn q1.b;clear hne0 HW HB HC0 HC1 k0 k1 k2 k3 k4 k5 n0 yd von Gk Gn Bk Bn hbl hc0 hc1 hb3 hc7 hq;have HB:=HB41;clear HB41;have Bk:=Ck;clear Ck;have Bn:=Cn;clear Cn;have HO1:=ae (cw HO.out q1.b);have hqs:=q1.b.size;go_wp2_with (first|(at_builtin;refine wpList_append_own _ rfl _ _ 36 rfl (w1.heap.size) 9 i0 (I ⟨#[]⟩) 1 16 Tryz.underlying36 HI0.1 HI0.2.1 HI0.2.2.1 HI0.2.2.2 rfl ah _ _ _ rfl (HO1.alloc _) ⟨q1.w.heap.size,0,U⟩ 1 1 [I y.n] rfl rfl ?c1 ?c2 ?c3 ?c4 ?c5 ?_));case c1=>
    exact yk
   case c2=>intro u hu;rw[List.mem_singleton.1 hu];rfl
   case c3=>unfold maxLen;omega
   case c4=>omega
   case c5=>simp;omega
   rintro v' w4 hown3 hgrow -;have HO3:Hid (w4.ownsRow (w1.heap.size) 9 1 v' (m9+1) ((mwL c n.n (ws.take (k+1))).map Fz)):=by
    show World.ownsRow _ _ _ _ _ _ _;rw[Du HY0.out HON.out,List.map_append];exact hown3
   have HL3:=ae (((HL.trans (q1.b.mono hLs)).trans ((aq q1.w _).mono (FA hLs hqs))).grown hgrow bD (λg hg=>by have:=(HO1.lt g hg).1;omega));clear hown3 hgrow;go_wp2;exact⟨⟨k+1,m9+1,by omega,by omega,by go_num,HO3,HL3⟩,by simp[intOf];omega⟩
  have hk1:¬(k:Int)<wl:=af
  have HO3:=HO;rw[FT af] at HO3;obtain⟨a',p',rfl,hT⟩:=bQ.ez HO3.out (An HER.out);rw[yW HT.out HNE.out HES.1 HES.2] at hT;have HTO:=ae hT;clear HO3 hT HO;go_wp2;go_ret;exact⟨_,_,_,rfl,HTO.bI (λk _ s=>by have s1:w1.heap.size<=k:=s;show w.heap.size<=k;omega),HB.out⟩
theorem rr(d:Ad) (c:Cl) (p:Pd) (pa:Option Addr) (pl pc:Nat) (j1:Nat) (n:Nd) (w:World) (hr:aE w d c.raw) (hn:aJ Nd.n c.ns) (hx:aJ Xd.n c.xs) (hv:aJ Vd.n c.vs) (hne:∀(j:Nat) v,c.vs[j]?=F_ v->¬v.n=⟨#[]⟩) (hp:aD w pa pl pc p.zs) (hj1:c.ns[j1]?=F_ n) (hnn:n.n=p.d) (hbd:∀(j:Nat) t,p.zs[j]?=F_ t->∃v,bh c t v) (r:Bool) (h:r=Hb↔mK c p n):
  Calls Tryz.prog 71 #[Hc #[J d.a1 d.l1 d.c1,J d.a2 d.l2 d.c2,J d.a3 d.l3 d.c3,J d.a4 d.l4 d.c4,J d.a5 d.l5 d.c5,GZ G6 c.now],Hc #[I p.n,GZ G6 p.c,I p.z,J pa pl pc,I p.d,GZ G6 p.p]] w λe w'=>e=Ha (G8 r)/\Below w.heap.size w w':=by
 refine (jY d c p pa pl pc j1 n w hr hn hx hv hne hp hj1 hnn hbd).mono ?_;exact uU
def DH(a:Option Addr) (l cp:Nat) (t:ByteArray) (f:Pd->Int) (ps:List Pd) (S:Nat->Prop) (w:World) (e:Ending) (w':World):Prop:=(∃v,e=Ha v)/\aA w' a l cp 6 40 ((ps.map (phF t f)).map pdF) S/\aL (λk=>0<l/\a=F_ ⟨k,0,U⟩) w w'
theorem aA.DV {wz:World} {l cp:Nat} (hO:aA wr (F_ ⟨g,0,U⟩) l cp 6 40 (L.map pdF) S) (hb:Below wr.heap.size wr wz) (hx:L[k]?=F_ x) (v:Int):aA (wz.setCell ⟨g,k*6+5,U⟩ (GZ G6 v)) (F_ ⟨g,0,U⟩) l cp 6 40 ((L.set k ⟨x.n,x.c,x.z,x.zs,x.d,v⟩).map pdF) S:=by
 have hLk:(L.map pdF)[k]?=F_ (pdF x):=by rw[FG,hx];rfl
 obtain⟨g',e,hS⟩:=(hO.below hb).st (aL.refl S wz) hLk;cases e;obtain⟨⟨cur2,H2,h3,_⟩,_,_⟩:=hS.sQ (i:=5) rfl v;rw[List.map_set];exact⟨by rw[List.length_set];exact hO.1,hO.2.1,hO.2.2.1,Hd ⟨g,cur2,H2,rfl,h3⟩⟩
theorem aA.Fj {l cp:Nat} (hO:aA wr (F_ ⟨g,0,U⟩) l cp 6 40 (L.map pdF) S) (hx:L[k]?=F_ x):g<wr.heap.size/\wr.frozen? ⟨g,k*6+5,U⟩=G_:=by
 have hLk:(L.map pdF)[k]?=F_ (pdF x):=by rw[FG,hx];rfl
 obtain⟨g',e,hS⟩:=hO.st (aL.refl S wr) hLk;cases e;refine⟨?_,hS.kM _⟩;obtain⟨⟨cur,H,h1,_⟩,_⟩:=hS;exact aa h1.blk
theorem tV(b:Nat) (a1:Option Addr) (l1 y1:Nat) (a2:Option Addr) (l2 y2:Nat) (a3:Option Addr) (l3 y3:Nat) (a4:Option Addr) (l4 y4:Nat) (a5:Option Addr) (l5 y5:Nat) (now:Int) (t:ByteArray) (ns:List Nd) (ks:List Kd) (vs:List Vd) (xs:List Xd) (ps:List Pd) (m:Nd) (j1:Nat) (f:Pd->Int) (S Q:Nat->Prop) (w:World) (hb:w.heap[b]?=F_ (G7 #[J a1 l1 y1,J a2 l2 y2,J a3 l3 y3,J a4 l4 y4,J a5 l5 y5,GZ G6 now] 29 (0,0))) (ho:aA w a5 l5 y5 6 40 (ps.map pdF) S) (hS:∀g,0<l5->a5=F_ ⟨g,0,U⟩->¬g=b) (q1:aA w a1 l1 y1 7 38 (ns.map ndF) Q) (q2:aA w a2 l2 y2 4 92 (ks.map kdF) Q) (q3:aA w a3 l3 y3 8 95 (vs.map vdF) Q) (q4:aA w a4 l4 y4 5 97 (xs.map xdF) Q) (rn:aJ Nd.n ns) (rx:aJ Xd.n xs) (rv:aJ Vd.n vs) (hne:∀(j:Nat) v,vs[j]?=F_ v->¬v.n=⟨#[]⟩) (hm:ns[j1]?=F_ m) (hmn:m.n=t) (hbd:∀(k:Nat) p,ps[k]?=F_ p->p.d=t->∀(j:Nat) s,p.zs[j]?=F_ s->∃v,bh ⟨ns,ks,vs,xs,ps,now⟩ s v) (hf:∀(k:Nat) p,ps[k]?=F_ p->p.d=t->(f p=2/\mK ⟨ns,ks,vs,xs,ps,now⟩ p m)\/(f p=1/\¬mK ⟨ns,ks,vs,xs,ps,now⟩ p m)):
  Calls Tryz.prog 35 #[Hf (F_ ⟨b,0,U⟩),I t,G8 Hb] w (DH a5 l5 y5 t f ps S w):=by
 have hpl:ps.length=l5:=k_
 have hlm:l5<=9223372036854775807:=FA ho.2.1 ho.2.2.1;have Bc:=ae hb;have HOW:=ae ho;have HO0:Hid (aA w a5 l5 y5 6 40 ((mpL (phF t f) ps 0).map pdF) S):=by show aA _ _ _ _ _ _ _ _;rw[yT];exact ho
 have HQ:=ae (Fk q1 (Fk q2 (Fk q3 q4)));have HRI:=ae (Fk rn (Fk rx (Fk rv hne)));have HM:=ae (Fk hm hmn);have HBD:=ae hbd;have HF:=ae hf;have HSB:=ae hS;clear hb ho q1 q2 q3 q4 rn rx rv hne hm hmn hbd hf hS;go_enter Tryz.func35,Tryz.ntmps35;go_wp2;go_loopw [6] (λvi wr=> ∃k:Nat,k<=l5/\vi=GZ G6 k/\Hid (aA wr a5 l5 y5 6 40 ((mpL (phF t f) ps k).map pdF) S)/\Hid (aL (λk=>0<l5/\a5=F_ ⟨k,0,U⟩) w wr)) (λvi _=>l5 - (intOf vi).toNat);case atStart=>exact⟨0,by omega,rfl,HO0,aL.refl _ _⟩
 case round=>
  obtain⟨k,hk,rfl,HO,HK⟩:=hrel;clear HO0;have Bc2:=ae ((HK.block _ (aa Bc.out) (λh=>HSB.out _ h.1 h.2 rfl)).trans Bc.out);by_cases hlt:k<l5
  ·obtain⟨x,hx0⟩:∃x,ps[k]?=F_ x:=⟨_,Fu af⟩;have HX0:=ae hx0;have HXL:Hid ((mpL (phF t f) ps k)[k]?=F_ x):=(yV af).trans hx0;have hLk:((mpL (phF t f) ps k).map pdF)[k]?=F_ (pdF x):=by rw[FG,HXL.out];rfl
   obtain⟨g,hg,hS2⟩:=HO.st (aL.refl S wr) hLk;subst hg;obtain⟨b2,o2,x2',hae,hbl,hx2,hat⟩:=bN HO.row hlt;cases hae;rw[HXL.out] at hx2;obtain rfl:=Fp hx2;obtain⟨pa,pq,pc,-,-,-,-,-,-,-,-,c4,c5⟩:=aR hat;have hf5:=hS2.kM (k*6+5);have hneg:¬g=b:=HSB.out g af rfl;have hneg2:¬b=g:=λe=>hneg e.symm;rw[FE] at c4 c5;have hk1:(k:Int)<l5:=af
   clear hat hx2 hx0 hS2 hLk;obtain⟨k0,k1,k2,k3,k4,k5⟩:=cs6 Bc2;have ltc:=aa Bc2.out;by_cases he:x.d=t;rotate_left
   ·have hq:=bH he;have HHE:=ae he;clear he;go_wp2;refine⟨⟨k+1,by omega,by go_num,?_,HK.out⟩,by simp[intOf];omega⟩;show aA _ _ _ _ _ _ _ _;rw[yU HX0.out (Dl HHE.out)];exact HO.out
   have hq:=aW he;have HHE:=ae he;clear he;go_wp2_with fail;have hP1:=aA.DV HO.out (Ft _ _) HXL.out 1;have hK1:aL (λk=>0<l5/\(F_ ⟨g,0,U⟩:Option Addr)=F_ ⟨k,0,U⟩) w (wr.setCell ⟨g,k*6+5,U⟩ (GZ G6 1)):=HK.set ⟨by omega,rfl⟩;have hB1:(wr.setCell ⟨g,k*6+5,U⟩ (GZ G6 1)).heap[b]?=F_ (G7 (clo6 a1 l1 y1 a2 l2 y2 a3 l3 y3 a4 l4 y4 (F_ ⟨g,0,U⟩) l5 y5 now) 29 (0,0)):=(Fl _ _ _ _ hneg2).trans Bc2.out;clear k0 k1 k2 k3 k4 k5 c4 c5 hf5 ltc;obtain⟨W,hW0⟩:∃W,W=(wr.setCell ⟨g,k*6+5,U⟩ (GZ G6 1)):=⟨_,rfl⟩;rw[<-hW0] at hP1 hK1 hB1 ⊢;clear hW0;have f1:=HQ.1.beside HOW.out hK1 ah;have f2:=HQ.2.1.beside HOW.out hK1 ah;have f3:=HQ.2.2.1.beside HOW.out hK1 ah;have f4:=HQ.2.2.2.beside HOW.out hK1 ah;have HCW:Hid (aE W ⟨a1,l1,y1,a2,l2,y2,a3,l3,y3,a4,l4,y4,F_ ⟨g,0,U⟩,l5,y5⟩ (⟨ns,ks,vs,xs,((mpL (phF t f) ps k).set k (⟨x.n,x.c,x.z,x.zs,x.d,1⟩:Pd)),now⟩:Cl).raw):=⟨f1.row,f2.row,f3.row,f4.row,hP1.row⟩;have HP1:=ae hP1;have HK1:=ae hK1;have Bc3:=ae hB1;have hLx:((mpL (phF t f) ps k).set k (⟨x.n,x.c,x.z,x.zs,x.d,1⟩:Pd))[k]?=F_ (⟨x.n,x.c,x.z,x.zs,x.d,1⟩:Pd):=by rw[dL (Fm.1 HXL.out).1,if_pos rfl]
   have HLX:=ae hLx;obtain⟨b2,o2,x3,hae,hbl2,hx3,hat⟩:=bN hP1.row hlt;cases hae;rw[hLx] at hx3;obtain rfl:=Fp hx3;obtain⟨pa,pq,pc,hpr,-,-,-,c0,c1,c2,c3,c4,c5⟩:=aR hat;rw[FE] at c0 c1 c2 c3 c4 c5;have HPR:=ae hpr;clear f1 f2 f3 f4 hP1 hK1 hB1 hLx hat hx3 hpr;rcases HF.out k x HX0.out HHE.out with ⟨hf1,hf2⟩|⟨hf1,hf2⟩
   ·have HFX:=ae hf1;have HFA:=ae hf2;clear hf1 hf2;obtain⟨k0,k1,k2,k3,k4,k5,p0,p1,p2,p3,p4,p5⟩:=BP;have HC0:=ae (λq:Wd W=>rr ⟨a1,l1,y1,a2,l2,y2,a3,l3,y3,a4,l4,y4,F_ ⟨g,0,U⟩,l5,y5⟩ (⟨ns,ks,vs,xs,((mpL (phF t f) ps k).set k (⟨x.n,x.c,x.z,x.zs,x.d,1⟩:Pd)),now⟩:Cl) (⟨x.n,x.c,x.z,x.zs,x.d,1⟩:Pd) pa pq pc j1 m q.w (HCW.below q.b) HRI.1 HRI.2.1 HRI.2.2.1 HRI.2.2.2 (HPR.below q.b) HM.1 (HM.2.trans HHE.symm) (HBD.out k x HX0.out HHE.out) Hb (⟨λ_=>HFA.out,λ_=>rfl⟩));have hne0:=Wd.ne W;clear c0 c1 c2 c3 c4 c5;refine ag au au ?_;repeat (go_big_quiet_step (first|(go_at_call 71;exact Calls.wide (HC0.out _))|fail))
    refine wpQuiet_nil ?_;rintro _ ⟨q1,rfl⟩;clear hne0 HC0 k0 p0 k1 p1 k2 p2 k3 p3 k4 p4 k5 p5;have Bc4:=upK Bc3 q1.b;obtain⟨k0,k1,k2,k3,k4,k5⟩:=cs6 Bc4;have ltc:=aa Bc4.out;obtain⟨hgl,hfz⟩:=aA.Fj (HP1.below q1.b) HLX.out;have c5:q1.w.cell? ⟨g,k*6+5,U⟩=F_ (GZ G6 1):=by
     obtain⟨b3,o3,x3,hae,_,hx3,hat⟩:=bN (HP1.below q1.b).row hlt;cases hae;rw[HLX.out] at hx3;obtain rfl:=Fp hx3;obtain⟨_,_,_,_,-,-,-,-,-,-,-,-,c5⟩:=aR hat;rw[FE] at c5;exact c5
    go_wp2;have hR:=aA.DV HP1.out q1.b HLX.out 2;rw[List.set_set] at hR;have hR2:aA (q1.w.setCell ⟨g,k*6+5,U⟩ (GZ G6 2)) (F_ ⟨g,0,U⟩) l5 y5 6 40 ((mpL (phF t f) ps (k+1)).map pdF) S:=by
     rw[kj HX0.out,r_ HHE.out,HFX.out];exact hR
    have hK2:aL (λk=>0<l5/\(F_ ⟨g,0,U⟩:Option Addr)=F_ ⟨k,0,U⟩) w (q1.w.setCell ⟨g,k*6+5,U⟩ (GZ G6 2)):=(HK1.below q1.b).set ⟨by omega,rfl⟩;exact⟨⟨k+1,by omega,by go_num,hR2,hK2⟩,by simp[intOf];omega⟩
   have HFX:=ae hf1;have HFA:=ae hf2;clear hf1 hf2;obtain⟨k0,k1,k2,k3,k4,k5,p0,p1,p2,p3,p4,p5⟩:=BP;have HC0:=ae (λq:Wd W=>rr ⟨a1,l1,y1,a2,l2,y2,a3,l3,y3,a4,l4,y4,F_ ⟨g,0,U⟩,l5,y5⟩ (⟨ns,ks,vs,xs,((mpL (phF t f) ps k).set k (⟨x.n,x.c,x.z,x.zs,x.d,1⟩:Pd)),now⟩:Cl) (⟨x.n,x.c,x.z,x.zs,x.d,1⟩:Pd) pa pq pc j1 m q.w (HCW.below q.b) HRI.1 HRI.2.1 HRI.2.2.1 HRI.2.2.2 (HPR.below q.b) HM.1 (HM.2.trans HHE.symm) (HBD.out k x HX0.out HHE.out) G_ (⟨λh=>bY,λh=>absurd h HFA.out⟩));have hne0:=Wd.ne W;clear c0 c1 c2 c3 c4 c5;refine ag au au ?_;repeat (go_big_quiet_step (first|(go_at_call 71;exact Calls.wide (HC0.out _))|fail))
   refine wpQuiet_nil ?_;rintro _ ⟨q1,rfl⟩;clear hne0 HC0 k0 p0 k1 p1 k2 p2 k3 p3 k4 p4 k5 p5;go_wp2;have hR2:aA W (F_ ⟨g,0,U⟩) l5 y5 6 40 ((mpL (phF t f) ps (k+1)).map pdF) S:=by
    rw[kj HX0.out,r_ HHE.out,HFX.out];exact HP1.out
   exact⟨⟨k+1,by omega,by go_num,hR2.below q1.b,HK1.below q1.b⟩,by simp[intOf];omega⟩
  have hk1:¬(k:Int)<l5:=af
  obtain⟨k0,k1,k2,k3,k4,k5⟩:=cs6 Bc2;have ltc:=aa Bc2.out;go_wp2;have HO2:=HO;rw[Ao af] at HO2;exact xw
theorem tZ(c:Cl) (w:World) (h0:0<=c.now) (h1:c.now<=1000000):
  Calls Tryz.prog 56 #[GZ G6 1000000,GZ G6 (c.now+10)] w λe w'=>e=Ha (GZ G6 (cP c))/\Below w.heap.size w w':=by
 unfold cP;by_cases hl:c.now+10<1000000
 ·rw[if_pos hl];have hl2:¬1000000<c.now+10:=af
  exact pQ
 ·rw[if_neg hl];by_cases he:c.now+10=1000000
  ·rw[he];exact pQ
  ·have hl2:1000000<c.now+10:=af
   exact pQ
theorem StJ.DW {N:Nat->Prop} {r:List Fv} (h:StJ g m T S N w wr rs j r) {i:Nat} {old:Fv} (hi:r[i]?=F_ old) (a:Option Addr) (q:Nat) (hq:q<=9223372036854775807):StJ g m T S N w (wr.setCell ⟨g,j*m+i,U⟩ (J a 0 q)) rs j (r.set i (.l [])):=by
 have hget:=h.get;obtain⟨⟨cur,H,h1,hN⟩,h2,h3⟩:=h;have hil:i<r.length:=(Fm.1 hi).1;have hrm:r.length=m:=h1.len j r hget;obtain⟨v0,hc0,-⟩:=h1.cell j r hget i _ hi;have hin:j*m+i<cur.size:=(FJ.1 hc0).1;have back:∀(j':Nat) r' (i':Nat) zs',(rs.set j (r.set i (.l [])))[j']?=F_ r'->r'[i']?=F_ (.l zs')->zs'≠[]->∃r0,(rs.set j r)[j']?=F_ r0/\r0[i']?=F_ (.l zs'):=by
  exact xN
 refine⟨⟨cur.setIfInBounds (j*m+i) (J a 0 q),H,⟨az h1.blk _,h1.inS,jL h3 h1.len,λj' r' hj' i' f' hi'=>?_,λj' r' i' zs' j2 r2 i2 zs2 hj' hi' hz' hj2 hi2 hz2 hH=>?_⟩,λj' r' i' zs' hj' hi' hz'=>?_⟩,h2.set h1.inS,h3⟩
 ·rcases eo h3 hil hj' hi' with ⟨rfl,rfl,rfl⟩|⟨hne,r0,q1,q2⟩
  ·exact⟨_,by rw[Array.getElem?_setIfInBounds_self_of_lt hin],⟨a,0,q,rfl,rfl,FY _,hq,λj x hx=>by simp at hx,He rfl⟩⟩
  ·exact uX
 ·exact yi
 ·obtain⟨r0,b1,b2⟩:=back j' r' i' zs' hj' hi' hz';exact hN j' r0 i' zs' b1 b2 hz'
theorem StJ.ET {r:List Fv} (h:StJ g m T S (λk=>B<=k) w wr rs j r) {i:Nat} {old:Fv} (hi:r[i]?=F_ old) {a:Option Addr} {l q:Nat} {zs:List ByteArray} (ht:bQ wr a l q zs (λk=>B<=k)) (hS:∀k,B<=k->k<wr.heap.size->S k) (hg:g<B):∃cur H,dQ (wr.setCell ⟨g,j*m+i,U⟩ (J a l q)) g m T (rs.set j (r.set i (.l zs))) S cur H:=by
 obtain⟨⟨h1,h2,h3,h4,h5⟩,h6⟩:=ht;by_cases hz:zs=[]
 ·subst hz;obtain rfl:l=0:=h1.symm;obtain⟨⟨cur,H,h7,_⟩,_⟩:=h.DW hi a q h3;exact⟨cur,H,h7⟩
 ·obtain⟨gm,cur,rfl,hm,hb⟩:=h6.resolve_left hz;have hm1:B<=gm:=hm;have hgl:=aa hb;obtain⟨b,o,e,hlt,hc⟩:=h5.resolve_left hz;cases e;obtain⟨⟨cur2,H,h7,_⟩,_⟩:=h.EU (b:=gm) hi zs (λ_=>hm1) ⟨_,l,q,rfl,h1,h2,h3,h4,Hd ⟨rfl,hS gm hm1 hgl,by omega,cur,hb,λk x hx=>by have h8:=hc k x hx;rw[FE,ar hb] at h8;exact h8⟩⟩;exact⟨cur2,H,h7⟩
theorem aJ.zY {xs:List α} {x y:α} (h:aJ nm xs) (hx:xs[k]?=F_ x) (e:nm y=nm x):aJ nm (xs.set k y):=by
 have hk:k<xs.length:=(Fm.1 hx).1;have key:∀(j:Nat) a,(xs.set k y)[j]?=F_ a->∃a',xs[j]?=F_ a'/\nm a=nm a':=λj a ha=>by
  rw[dL hk] at ha;split at ha
  ·rename_i e2;subst e2;obtain rfl:=Fp ha;exact⟨x,hx,e⟩
  ·exact⟨a,ha,rfl⟩
 intro j a b ha hb;obtain⟨a',h1,h2⟩:=key _ a ha;obtain⟨b',h3,h4⟩:=key _ b hb;rw[h2,h4];exact h j a' b' h1 h3
theorem iR(d:Ad) (c:Cl) (t:ByteArray) (w:World) (hr:aE w d c.raw):
  Calls Tryz.prog 31 #[Hc #[J d.a1 d.l1 d.c1,J d.a2 d.l2 d.c2,J d.a3 d.l3 d.c3,J d.a4 d.l4 d.c4,J d.a5 d.l5 d.c5,GZ G6 c.now],I t] w (fS (oC c t) w):=by
 obtain⟨a1,l1,y1,a2,l2,y2,a3,l3,y3,a4,l4,y4,a5,l5,y5⟩:=d;dsimp only;obtain⟨HR,hl1,hm1,hl2,hm2,hl3,hm3,hl4,hm4,hl5,hm5⟩:=ew;clear hr;have HB:=ae (Ft w.heap.size w);go_enter Tryz.func31,Tryz.ntmps31;go_wp2_with fail;refine (iQ ⟨a1,l1,y1,a2,l2,y2,a3,l3,y3,a4,l4,y4,a5,l5,y5⟩ c t _ (HR.below (HB.trans ((aM _ _ _).mono HB.size)))).mono ?_;rintro e w1 ⟨hb,hf⟩;obtain⟨HA0,HA1,hbx⟩:=bU hb;obtain⟨Bk,Br⟩:=dB;replace HB:=upB HB hbx;clear hb hbx HA0 HA1;rcases hf with ⟨i,p,hw,hpi,hp0,rfl⟩|⟨j,n,hn,hok,rfl⟩
 ·have HV:Hid (oC c t (co0 p)):=He ⟨i,hw,by rw[hpi]⟩;have hp1:(p==0)=G_:=fJ
  clear hw hpi hp0;obtain⟨k0,k1,k2,k3,k4,k5⟩:=cs6 Bk;have ltk_1:=aa Bk.out;go_wp2_with fail;refine (aI p _).mono ?_;rintro e w2 ⟨rfl,hb⟩;clear k0 k1 k2 k3 k4 k5 ltk_1;replace Bk:=upK Bk hb;replace Br:=upK Br hb;replace HB:=upB HB hb;clear hb;obtain⟨r0,r1,r2,r3,r4,r5,r6,r7⟩:=cs8 Br;have ltr_2:=aa Br.out;obtain⟨fr0,fr1,fr2,fr3,fr4,fr5,fr6,fr7⟩:=cq;have hrl:w.heap.size+1<w2.heap.size:=aa Br.out;go_wp2;exact bodyPost_ret (v:=Hc #[J U 0 0,J U 0 0,J U 0 0,J U 0 0,J U 0 0,GZ G6 0,I ⟨#[]⟩,GZ G6 p]) rB rfl ⟨ad0,co0 p,rfl,HV.out,(rl0 _ _),sb1 (sb1 (sb1 (sb1 (sb1 (sb1 (sb1 (sb1 (HB.out))))))))⟩
 have HNJ:=ae hn;have HOK:=ae hok;clear hn hok;obtain⟨HT,hj1,hj2,hj0⟩:=uA;obtain⟨b,o,y,rfl,hbl,hy,hat⟩:=bO (HR.n.below HB.out) hj1;rw[HNJ.out] at hy;obtain rfl:=Fp hy;obtain⟨ua,ul,uc,-,-,-,hd0,hd1,hd2,hd3,hd4,hd5,hd6⟩:=aU hat;clear hat hy;cases hd:n.d;rotate_left
 ·have HV:Hid (oC c t (co0 10)):=Hd ⟨n,HOK.out,He ⟨hd,rfl⟩⟩;rw[hd] at hd5;clear hd;obtain⟨k0,k1,k2,k3,k4,k5⟩:=cs6 Bk;have ltk_1:=aa Bk.out;go_wp2_with fail;refine (aI 10 _).mono ?_;rintro e w2 ⟨rfl,hb⟩;clear k0 k1 k2 k3 k4 k5 ltk_1;obtain⟨HA0,hbx⟩:=aT hb;replace Bk:=upK Bk hbx;replace Br:=upK Br hbx;have Bn:=ae HA0;replace HB:=upB HB hbx;clear hb hbx HA0;obtain⟨r0,r1,r2,r3,r4,r5,r6,r7⟩:=cs8 Br;have ltr_2:=aa Br.out;obtain⟨fr0,fr1,fr2,fr3,fr4,fr5,fr6,fr7⟩:=cq;have hrl:w.heap.size+1<w2.heap.size:=aa Br.out;go_wp2;exact bodyPost_ret (v:=Hc #[J U 0 0,J U 0 0,J U 0 0,J U 0 0,J U 0 0,GZ G6 0,I ⟨#[]⟩,GZ G6 10]) rB rfl ⟨ad0,co0 10,rfl,HV.out,(rl0 _ _),sb1 (sb1 (sb1 (sb1 (sb1 (sb1 (sb1 (sb1 (HB.out))))))))⟩
 obtain⟨f,hf⟩:=AK.ex c n;have HF:=ae hf;have HV:Hid (oC c t ⟨gD c t n f,⟨#[]⟩,0⟩):=Hd ⟨n,HOK.out,Hd ⟨hd,f,hf,rfl⟩⟩;rw[hd] at hd5;have HD:=ae hd;clear hd hf;have HQ1:Hid (w.heap.size+1<w1.heap.size):=aa Br.out;obtain⟨hn0,hn1⟩:=HT.1;obtain⟨k0,k1,k2,k3,k4,k5⟩:=cs6 Bk;have ltk_1:=aa Bk.out;go_wp2_with fail;have HLO:=ae HB.size;refine (bu ⟨(F_ ⟨b,o,U⟩),l1,y1,a2,l2,y2,a3,l3,y3,a4,l4,y4,a5,l5,y5⟩ c _ (HR.below (HB.trans ((aq _ _).mono HB.size))) HT.sm).mono ?_;rintro e w3 ⟨d',rfl,ho,hb⟩;clear hd0 hd1 hd2 hd3 hd4 hd5 hd6 hbl;have HQ2:=ae hb.size;rw[cB] at HQ2 ho;clear k0 k1 k2 k3 k4 k5 ltk_1;obtain⟨HA0,hbx⟩:=aT hb;replace Bk:=upK Bk hbx;replace Br:=upK Br hbx;have Bn:=ae HA0;replace HB:=upB HB hbx;clear hb hbx HA0;obtain⟨x1,m1,n1,x2,m2,n2,x3,m3,n3,x4,m4,n4,x5,m5,n5⟩:=d';have hm1:m1=l1:=by have h6:(c.ns.map ndF).length=m1:=ho.n.1;rw[FB] at h6;omega
 subst hm1;have hq1:w.heap.size+1<w1.heap.size:=HQ1.out;have hq2:w1.heap.size+1<=w3.heap.size:=HQ2.out;have inS:∀{a l cp m T rs},aA w3 a l cp m T rs (λk=>w1.heap.size+1<=k)->aA w3 a l cp m T rs (λk=>w1.heap.size<=k/\¬k=w3.heap.size):=λh=>h.bI (λk hk s=>⟨by have s1:w1.heap.size+1<=k:=s;omega,by omega⟩);obtain⟨g,hga,hS⟩:=(inS ho.n).st (aL.refl _ w3) (i:=j) (r:=ndF n) (show (c.ns.map ndF)[j]?=F_ (ndF n) by rw[FG,HNJ.out];rfl);have hga':x1=F_ ⟨g,0,U⟩:=hga;subst hga';have HG0:Hid (w1.heap.size+1<=g):=by
  rcases ho.n.2.2.2 with h9|⟨g9,c9,H9,e9,h9⟩
  ·have h8:(c.ns.map ndF)[j]?=F_ (ndF n):=by rw[FG,HNJ.out];rfl
   have h7:c.ns.map ndF=[]:=h9;rw[h7] at h8;cases h8
  ·cases e9;exact h9.inS
 obtain⟨curg,hg1,hg2,hgb⟩:∃curg,w1.heap.size<=g/\g<w3.heap.size/\w3.heap[g]?=F_ (G7 curg 38 (0,0)):=by
  obtain⟨⟨cur,H,h1,_⟩,_⟩:=hS;exact⟨cur,h1.inS.1,aa h1.blk,h1.blk⟩
 have HGB:=ae hgb;have HG1:Hid (w1.heap.size+1<=g):=HG0.out;have HST:=ae hS;have HOC:=ae (Fk (inS ho.k) (Fk (inS ho.v) (Fk (inS ho.x) (inS ho.p))));have HNN:Hid (aA w3 (F_ ⟨g,0,U⟩) m1 n1 7 38 (c.ns.map ndF) (λk=>w1.heap.size<=k/\¬k=w3.heap.size)):=inS ho.n;clear hS ho hga inS hgb;go_wp2_with fail;obtain⟨W,hW0⟩:∃W,W=(w3.alloc (G7 (clo6 (F_ ⟨g,0,U⟩) m1 n1 x2 m2 n2 x3 m3 n3 x4 m4 n4 x5 m5 n5 c.now) 29)):=⟨_,rfl⟩;have BkW:=ae ((Fy w3 (G7 (clo6 (F_ ⟨g,0,U⟩) m1 n1 x2 m2 n2 x3 m3 n3 x4 m4 n4 x5 m5 n5 c.now) 29) _ (aa Bk.out)).trans Bk.out);have BrW:=ae ((Fy w3 (G7 (clo6 (F_ ⟨g,0,U⟩) m1 n1 x2 m2 n2 x3 m3 n3 x4 m4 n4 x5 m5 n5 c.now) 29) _ (aa Br.out)).trans Br.out);have BnW:=ae ((Fy w3 (G7 (clo6 (F_ ⟨g,0,U⟩) m1 n1 x2 m2 n2 x3 m3 n3 x4 m4 n4 x5 m5 n5 c.now) 29) _ (aa Bn.out)).trans Bn.out);have BoW:=ae (heap_alloc_new w3 (G7 (clo6 (F_ ⟨g,0,U⟩) m1 n1 x2 m2 n2 x3 m3 n3 x4 m4 n4 x5 m5 n5 c.now) 29));have HWW:=ae (aq w3 (G7 (clo6 (F_ ⟨g,0,U⟩) m1 n1 x2 m2 n2 x3 m3 n3 x4 m4 n4 x5 m5 n5 c.now) 29));have HBW:=ae (HB.trans ((aq w3 (G7 (clo6 (F_ ⟨g,0,U⟩) m1 n1 x2 m2 n2 x3 m3 n3 x4 m4 n4 x5 m5 n5 c.now) 29)).mono HB.size));rw[<-hW0] at BkW BrW BnW BoW HWW HBW ⊢;clear hW0 Bk Br Bn HB;rename_i K0 hK0;refine Gt.aQ au rfl rfl au ?_;refine' Grow.stepC _ rfl ?_ ?_;rotate_left 1
 ·exact iY
 refine' Grow.stepC _ rfl ?_ ?_;rotate_left 1
 ·refine Obl.plain rfl ?_;intro ac wg K hsz hW hf hK;clear hsz;have e30:=hf 30 ah;simp[ai,Fo] at e30;clear hf;obtain⟨o0,o1,o2,o3,o4,o5⟩:=cs6 ((hW.block _ (aa BoW.out)).trans BoW.out);exact aO
 refine' Grow.stepC _ rfl ?_ ?_;rotate_left 1
 ·exact iZ
 refine' Grow.stepC _ rfl ?_ ?_;rotate_left 1
 ·exact iX
 refine' Grow.stepC _ rfl ?_ ?_;rotate_left 1
 ·refine Obl.plain rfl ?_;intro ac wg K hsz hW hf hK;clear hsz;have e33:=hf 33 ah;simp[ai,Fo] at e33;clear hf;obtain⟨k0,k1,k2,k3,k4,k5⟩:=cs6 ((hW.block _ (aa BkW.out)).trans BkW.out);exact aO
 refine' Grow.stepC (GZ G6 (c.now+10)) rfl ?_ ?_
 ·refine Obl.plain rfl ?_;intro ac wg K hsz hW hf hK;clear hsz;have e34:=hf 34 ah;simp[ai,Fo] at e34;clear hf;have hwr:IntKind.i64.wrap (c.now+10)=c.now+10:=by rw[IntKind.wrap_i64];omega
  exact aO
 refine Grow.step (λv _=>v=GZ G6 (cP c)) rfl (Fact.cy _) ?_ ?_
 ·refine Obl.plain rfl ?_;intro ac wg K hsz hW hf hK;clear hsz;have e35:=hf 35 ah;simp[ai,Fo] at e35;clear hf;go_simp;refine (tZ c _ hn0 hn1).mono ?_;rintro e w6 ⟨rfl,hb6⟩;exact hK _ _ hb6 rfl
 refine' Grow.stepC _ rfl ?_ ?_;rotate_left 1
 ·refine Obl.plain rfl ?_;intro ac wg K hsz hW hf hK;clear hsz;have e31:=hf 31 ah;simp[ai,Fo] at e31;have e32:=hf 32 ah;simp[ai,Fo] at e32;clear hf;exact aO
 refine' Grow.stepC _ rfl ?_ ?_;rotate_left 1
 ·refine Obl.plain rfl ?_;intro ac wg K hsz hW hf hK;clear hsz;exact pG
 refine Grow.done ?_;intro q wy hW hf;simp only[FH] at hf;obtain⟨h38,h37,h36,h35,h34,h33,h32,h31,h30,-⟩:=hf;have HWY:=upB HWW hW;have HBY:=upB HBW hW;have Bk2:=upK BkW hW;have Br2:=upK BrW hW;have Bn2:=upK BnW hW;have Bo2:=upK BoW hW;obtain⟨v9,hcz⟩:=(HST.below HWY.out).cell (i:=4) rfl;have hfz:=(HST.below HWY.out).kM (j*7+4);intro K hK;rw[if_pos cQ];simp only[aN,F7,Act.put,FF,FL,FM,h38,h37,h36,h35,h34,h33,h32,h31,h30];simp only[List.getLast];go_simp;refine hK _ _ ?_;refine hK0 _ _ ?_;clear hK hK0 K K0;have hST4:=(HST.below HWY.out).sQ (i:=4) rfl (cP c);have past:∀{a l cp m T rs},aA w3 a l cp m T rs (λk=>w1.heap.size<=k/\¬k=w3.heap.size)->¬38=T->aA (wy.setCell ⟨g,j*7+4,U⟩ (GZ G6 (cP c))) a l cp m T rs (λk=>w1.heap.size<=k/\¬k=w3.heap.size):=λh hT=>(h.dv HGB.out hT ah).aB (λk hk s=>(Fl _ _ _ _ s.2).trans (HWY.block k hk)) (λ_ _ s=>s.1);have f2:=past HOC.1 ah;have f3:=past HOC.2.1 ah;have f4:=past HOC.2.2.1 ah;have f5:=past HOC.2.2.2 ah;have hk4:(wy.setCell ⟨g,j*7+4,U⟩ (GZ G6 (cP c))).heap[w.heap.size]?=_:=(Fl _ _ _ _ (show w.heap.size≠g by omega)).trans Bk2.out;have hr4:(wy.setCell ⟨g,j*7+4,U⟩ (GZ G6 (cP c))).heap[w.heap.size+1]?=_:=(Fl _ _ _ _ (show w.heap.size+1≠g by omega)).trans Br2.out;have hgn:¬w1.heap.size=g:=by have:=HG1.out;omega
 have hn4:(wy.setCell ⟨g,j*7+4,U⟩ (GZ G6 (cP c))).heap[w1.heap.size]?=_:=(Fl _ _ _ _ (show w1.heap.size≠g from hgn)).trans Bn2.out;have ho4:(wy.setCell ⟨g,j*7+4,U⟩ (GZ G6 (cP c))).heap[w3.heap.size]?=_:=(Fl _ _ _ _ (show w3.heap.size≠g by omega)).trans Bo2.out;have hb4:Below w.heap.size w (wy.setCell ⟨g,j*7+4,U⟩ (GZ G6 (cP c))):=ak (show w.heap.size<=g by omega) HBY.out;have hs4:(wy.setCell ⟨g,j*7+4,U⟩ (GZ G6 (cP c))).heap.size=wy.heap.size:=aH
 clear hcz hfz past;obtain⟨W4,hW4⟩:∃W4,W4=(wy.setCell ⟨g,j*7+4,U⟩ (GZ G6 (cP c))):=⟨_,rfl⟩;rw[<-hW4] at hST4 f2 f3 f4 f5 hk4 hr4 hn4 ho4 hb4 hs4 ⊢;have HST4:=ae hST4;have HF4:=ae (Fk f2 (Fk f3 (Fk f4 f5)));have Bk4:=ae hk4;have Br4:=ae hr4;have Bn4:=ae hn4;have Bo4:=ae ho4;have HB4:=ae hb4;have hsz4:w3.heap.size<W4.heap.size:=aa ho4;clear hW4 hST4 f2 f3 f4 f5 hk4 hr4 hn4 ho4 hb4 hs4 Bk2 Br2 Bn2 Bo2 HBY HWY HBW HWW BkW BrW BnW BoW;obtain⟨k0,k1,k2,k3,k4,k5⟩:=cs6 Bk4;obtain⟨n0,n1',n2',n3',n4',n5',n6'⟩:=cs7 Bn4;obtain⟨o0,o1,o2,o3,o4,o5⟩:=cs6 Bo4;have ltk:=aa Bk4.out;have ltn:=aa Bn4.out;have lto:=aa Bo4.out;by_cases hlv:c.now<n.u;rotate_left
 ·have HMN:Hid (yX c n=[]):=if_neg hlv;have HF1E:Hid (f=λ_=>1):=by
   show f=_;funext p;rcases HF.out p with ⟨_,h1,_⟩|⟨h1,_⟩
   ·exact absurd h1 hlv
   ·exact h1
  have hlv2:n.u<=c.now:=af
  obtain⟨v6,hc6⟩:=HST4.cell (i:=6) rfl;have hf6:=HST4.kM (j*7+6);have hne1:¬g=w3.heap.size:=af
  have hne2:¬w3.heap.size=g:=af
  go_wp2_with fail;clear k0 k1 k2 k3 k4 k5 n0 n1' n2' n3' n4' n5' n6' o0 o1 o2 o3 o4 o5 hc6 hf6;have HGB0:Hid (∃cur,W4.heap[g]?=F_ (G7 cur 38 (0,0))):=by obtain⟨⟨cur,H,h1,_⟩,_⟩:=HST4.out;exact⟨cur,h1.blk⟩
  obtain⟨cur4,hcur4⟩:=HGB0.out;clear HGB0;have HGB0:=ae hcur4;clear hcur4;have HFX:=ae HF4.out;have BrX:=Br4;have BoX:=Bo4;have HBX:=HB4;obtain⟨cur6,H6,hat6⟩:∃cur H,dQ (W4.setCell ⟨g,j*7+6,U⟩ (J U 0 0)) g 7 38 ((c.ns.map ndF).set j (((ndF n).set 4 (.i (cP c))).set 6 (.l []))) (λk=>w1.heap.size<=k/\¬k=w3.heap.size) cur H:=by obtain⟨⟨cur,H,h1,_⟩,_⟩:=HST4.DW (i:=6) rfl U 0 ah;exact⟨cur,H,h1⟩
  have hns:(c.ns.map ndF).set j (((ndF n).set 4 (.i (cP c))).set 6 (.l []))=(gD c t n f).raw.n:=by
   show _=(c.ns.set (pl Nd.n c.ns t) (dR c n)).map ndF;rw[(bl HT.2.1.1.2.2 HNJ.out HOK.2.2.2).1,List.map_set];show _=(c.ns.map ndF).set j (ndF (dR c n));unfold dR;rw[show yX c n=[] from HMN.out];rfl
  have f1:aA (W4.setCell ⟨g,j*7+6,U⟩ (J U 0 0)) (F_ ⟨g,0,U⟩) m1 n1 7 38 (gD c t n f).raw.n (λk=>w1.heap.size<=k/\¬k=w3.heap.size):=by
   exact wb
  have past:∀{a l cp m T rs},aA W4 a l cp m T rs (λk=>w1.heap.size<=k/\¬k=w3.heap.size)->¬38=T->aA (W4.setCell ⟨g,j*7+6,U⟩ (J U 0 0)) a l cp m T rs (λk=>w1.heap.size<=k/\¬k=w3.heap.size):=λh hT=>(h.dv HGB0.out hT ah).aB (λk hk s=>Fl _ _ _ _ s.2) (λ_ _ s=>s.1);have f2:=past HFX.1 ah;have f3:=past HFX.2.1 ah;have f4:=past HFX.2.2.1 ah;have f5:=past HFX.2.2.2 ah;have hr6:(W4.setCell ⟨g,j*7+6,U⟩ (J U 0 0)).heap[w.heap.size+1]?=_:=(Fl _ _ _ _ (show w.heap.size+1≠g by omega)).trans BrX.out;have ho6:(W4.setCell ⟨g,j*7+6,U⟩ (J U 0 0)).heap[w3.heap.size]?=_:=(Fl _ _ _ _ (show w3.heap.size≠g by omega)).trans BoX.out;have hb6:Below w.heap.size w (W4.setCell ⟨g,j*7+6,U⟩ (J U 0 0)):=ak (show w.heap.size<=g by omega) HBX.out;obtain⟨W6,hW6⟩:∃W6,W6=(W4.setCell ⟨g,j*7+6,U⟩ (J U 0 0)):=⟨_,rfl⟩;rw[<-hW6] at f1 f2 f3 f4 f5 hr6 ho6 hb6 ⊢;have HF1:=ae f1;have HF6:=ae (Fk f2 (Fk f3 (Fk f4 f5)));have Br6:=ae hr6;have Bo6:=ae ho6;have HB6:=ae hb6;clear hW6 f1 f2 f3 f4 f5 hr6 ho6 hb6 past hat6 hns;have nb:∀k,¬(w1.heap.size<=k/\¬k=w3.heap.size)->¬(0<m5/\x5=F_ ⟨k,0,U⟩):=λk h1 h2=>by
   exact wJ
  refine (jX w3.heap.size (F_ ⟨g,0,U⟩) x2 x3 x4 x5 m1 n1 m2 n2 m3 n3 m4 n4 m5 n5 c.now t c.ps (λk=>w1.heap.size<=k/\¬k=w3.heap.size) _ Bo6.out HF6.2.2.2 (λg5 e0 e5 e=>nb g5 (λh=>h.2 e) ⟨e0,e5⟩)).mono ?_;rintro e w7 ⟨⟨v,rfl⟩,hP,hK⟩;obtain⟨Bo7,Br7,g1,g2,g3,g4⟩:=BC;have hps:(gD c t n f).raw.p=(c.ps.map (ph1 t)).map pdF:=by
   show (c.ps.map (phF t f)).map pdF=_;rw[HF1E.out,Af]
  rw[<-hps] at hP;obtain⟨HG,HB7⟩:=A_;clear g1 g2 g3 g4 hP hK nb HF1 HF6 Bo6 Br6 HB6;obtain⟨o0,o1,o2,o3,o4,o5⟩:=cs6 Bo7;obtain⟨r0,r1,r2,r3,r4,r5,r6,r7⟩:=cs8 Br7;have fr0:=al Br7.out 0;have fr1:=al Br7.out 1;have fr2:=al Br7.out 2;have fr3:=al Br7.out 3;have fr4:=al Br7.out 4;have fr5:=al Br7.out 5;have fr6:=al Br7.out 6;have fr7:=al Br7.out 7;have hol:=aa Bo7.out;have hrl:=aa Br7.out;obtain⟨hne5,hne6⟩:=jw;go_wp2;have hlo:=HLO.out;refine bodyPost_ret (v:=Hc #[J (F_ ⟨g,0,U⟩) m1 n1,J x2 m2 n2,J x3 m3 n3,J x4 m4 n4,J x5 m5 n5,GZ G6 c.now,I ⟨#[]⟩,GZ G6 0]) rB rfl ⟨⟨F_ ⟨g,0,U⟩,m1,n1,x2,m2,n2,x3,m3,n3,x4,m4,n4,x5,m5,n5⟩,⟨gD c t n f,⟨#[]⟩,0⟩,rfl,HV.out,?_,sb1 (sb1 (sb1 (sb1 (sb1 (sb1 (sb1 (sb1 (HB7.out))))))))⟩;have hk4:∀k,k<w7.heap.size->w1.heap.size<=k/\¬k=w3.heap.size->((((((((w7.setCell ⟨w.heap.size+1,0,U⟩ (J (F_ ⟨g,0,U⟩) m1 n1)).setCell ⟨w.heap.size+1,1,U⟩ (J x2 m2 n2)).setCell ⟨w.heap.size+1,2,U⟩ (J x3 m3 n3)).setCell ⟨w.heap.size+1,3,U⟩ (J x4 m4 n4)).setCell ⟨w.heap.size+1,4,U⟩ (J x5 m5 n5)).setCell ⟨w.heap.size+1,5,U⟩ (GZ G6 c.now)).setCell ⟨w.heap.size+1,6,U⟩ (I ⟨#[]⟩)).setCell ⟨w.heap.size+1,7,U⟩ (GZ G6 0)).heap[k]?=w7.heap[k]?:=λk _ h1=>by rw[Fl _ _ _ _ (show k≠w.heap.size+1 by omega),Fl _ _ _ _ (show k≠w.heap.size+1 by omega),Fl _ _ _ _ (show k≠w.heap.size+1 by omega),Fl _ _ _ _ (show k≠w.heap.size+1 by omega),Fl _ _ _ _ (show k≠w.heap.size+1 by omega),Fl _ _ _ _ (show k≠w.heap.size+1 by omega),Fl _ _ _ _ (show k≠w.heap.size+1 by omega),Fl _ _ _ _ (show k≠w.heap.size+1 by omega)]
  exact CA
 have HMN:Hid (yX c n=jf c n.n c.vs):=if_pos hlv;have HLV:=ae hlv;have hlv2:¬n.u<=c.now:=af
 go_wp2_with fail;have hg9:=tX ⟨(F_ ⟨b,o,U⟩),m1,y1,a2,l2,y2,a3,l3,y3,a4,l4,y4,a5,l5,y5⟩ c n ua ul uc W4 (HR.below HB4.out) HT.out (aV.ne (HT.2.1.1.2.1 _ n HOK.2.2.1).1);rw[HD.out] at hg9;refine hg9.mono ?_;clear hg9;rintro e W5 ⟨sa,sl,sq,rfl,hto,hb5⟩;clear k0 k1 k2 k3 k4 k5 n0 n1' n2' n3' n4' n5' n6' o0 o1 o2 o3 o4 o5;have HTO:=ae hto;have hsl:sl<=8:=by have h1:=hto.1.1;have h2:=yY c n.n;have h3:(c.vs.length:Int)<=8:=HT.2.1.2.2.1.1;omega
 have hsl2:¬8<(sl:Int):=af
 have HST5:=ae (HST4.fresh hb5);have HFX:Hid _:=ae (Fk (HF4.1.below hb5) (Fk (HF4.2.1.below hb5) (Fk (HF4.2.2.1.below hb5) (HF4.2.2.2.below hb5))));have BrX:=upK Br4 hb5;have BoX:=upK Bo4 hb5;have HBX:=upB HB4 hb5;have hs5:=hb5.size;obtain⟨cur4,hcur4⟩:∃cur,W5.heap[g]?=F_ (G7 cur 38 (0,0)):=by obtain⟨⟨cur,H,h1,_⟩,_⟩:=HST5.out;exact⟨cur,h1.blk⟩
 have HGB0:=ae hcur4;obtain⟨v6,hc6⟩:=HST5.cell (i:=6) rfl;have hf6:=HST5.kM (j*7+6);have hne1:¬g=w3.heap.size:=af
 have hne2:¬w3.heap.size=g:=af
 obtain⟨o0,o1,o2,o3,o4,o5⟩:=cs6 BoX;have lto5:=aa BoX.out;clear hb5 hto hcur4;go_wp2_with fail;clear o0 o1 o2 o3 o4 o5 hc6 hf6;obtain⟨cur6,H6,hat6⟩:∃cur H,dQ (W5.setCell ⟨g,j*7+6,U⟩ (J sa sl sq)) g 7 38 ((c.ns.map ndF).set j (((ndF n).set 4 (.i (cP c))).set 6 (.l (jf c n.n c.vs)))) (λk=>w1.heap.size<=k/\¬k=w3.heap.size) cur H:=HST5.ET (i:=6) rfl (HTO.out) (λk h1 h2=>⟨by omega,by omega⟩) af;have hns:(c.ns.map ndF).set j (((ndF n).set 4 (.i (cP c))).set 6 (.l (jf c n.n c.vs)))=(gD c t n f).raw.n:=by
  show _=(c.ns.set (pl Nd.n c.ns t) (dR c n)).map ndF;rw[(bl HT.2.1.1.2.2 HNJ.out HOK.2.2.2).1,List.map_set];show _=(c.ns.map ndF).set j (ndF (dR c n));unfold dR;rw[show yX c n=(jf c n.n c.vs) from HMN.out];rfl
 have f1:aA (W5.setCell ⟨g,j*7+6,U⟩ (J sa sl sq)) (F_ ⟨g,0,U⟩) m1 n1 7 38 (gD c t n f).raw.n (λk=>w1.heap.size<=k/\¬k=w3.heap.size):=by
  exact wb
 have past:∀{a l cp m T rs},aA W5 a l cp m T rs (λk=>w1.heap.size<=k/\¬k=w3.heap.size)->¬38=T->aA (W5.setCell ⟨g,j*7+6,U⟩ (J sa sl sq)) a l cp m T rs (λk=>w1.heap.size<=k/\¬k=w3.heap.size):=λh hT=>(h.dv HGB0.out hT ah).aB (λk hk s=>Fl _ _ _ _ s.2) (λ_ _ s=>s.1);have f2:=past HFX.1 ah;have f3:=past HFX.2.1 ah;have f4:=past HFX.2.2.1 ah;have f5:=past HFX.2.2.2 ah;have hr6:(W5.setCell ⟨g,j*7+6,U⟩ (J sa sl sq)).heap[w.heap.size+1]?=_:=(Fl _ _ _ _ (show w.heap.size+1≠g by omega)).trans BrX.out;have ho6:(W5.setCell ⟨g,j*7+6,U⟩ (J sa sl sq)).heap[w3.heap.size]?=_:=(Fl _ _ _ _ (show w3.heap.size≠g by omega)).trans BoX.out;have hb6:Below w.heap.size w (W5.setCell ⟨g,j*7+6,U⟩ (J sa sl sq)):=ak (show w.heap.size<=g by omega) HBX.out;obtain⟨W6,hW6⟩:∃W6,W6=(W5.setCell ⟨g,j*7+6,U⟩ (J sa sl sq)):=⟨_,rfl⟩;rw[<-hW6] at f1 f2 f3 f4 f5 hr6 ho6 hb6 ⊢;have HF1:=ae f1;have HF6:=ae (Fk f2 (Fk f3 (Fk f4 f5)));have Br6:=ae hr6;have Bo6:=ae ho6;have HB6:=ae hb6;clear hW6 f1 f2 f3 f4 f5 hr6 ho6 hb6 past hat6 hns;have nb:∀k,¬(w1.heap.size<=k/\¬k=w3.heap.size)->¬(0<m5/\x5=F_ ⟨k,0,U⟩):=λk h1 h2=>by
  exact wJ
 have hnm:(c.ns.set (pl Nd.n c.ns t) (dR c n))[j]?=F_ (dR c n):=by
  rw[(bl HT.2.1.1.2.2 HNJ.out HOK.2.2.2).1,dL (Fm.1 HNJ.out).1,if_pos rfl]
 have hnr:aJ Nd.n (c.ns.set (pl Nd.n c.ns t) (dR c n)):=by
  rw[(bl HT.2.1.1.2.2 HNJ.out HOK.2.2.2).1];exact HT.2.1.1.2.2.zY HNJ.out rfl
 refine (tV w3.heap.size (F_ ⟨g,0,U⟩) m1 n1 x2 m2 n2 x3 m3 n3 x4 m4 n4 x5 m5 n5 c.now t (c.ns.set (pl Nd.n c.ns t) (dR c n)) c.ks c.vs c.xs c.ps (dR c n) j f (λk=>w1.heap.size<=k/\¬k=w3.heap.size) (λk=>w1.heap.size<=k/\¬k=w3.heap.size) _ Bo6.out HF6.2.2.2 (λg5 e0 e5 e=>nb g5 (λh=>h.2 e) ⟨e0,e5⟩) HF1.out HF6.1 HF6.2.1 HF6.2.2.1 hnr HT.2.1.2.2.2.1.2.2 HT.2.1.2.2.1.2.2 HT.2.1.ne hnm HOK.2.2.2 (λk p hp hd=>HT.Fi hp (by rw[hd,<-HOK.2.2.2];exact aV.ne (HT.2.1.1.2.1 _ n HOK.2.2.1).1)) (λk p hp hd=>(HF.out p).imp (λh=>⟨h.1,h.2.2⟩) (λh=>⟨h.1,λh9=>h.2 ⟨HLV.out,h9⟩⟩))).mono ?_;rintro e w7 ⟨⟨v,rfl⟩,hP,hK⟩;obtain⟨Bo7,Br7,g1,g2,g3,g4⟩:=BC;have hps:(gD c t n f).raw.p=(c.ps.map (phF t f)).map pdF:=rfl;rw[<-hps] at hP;obtain⟨HG,HB7⟩:=A_;clear g1 g2 g3 g4 hP hK nb HF1 HF6 Bo6 Br6 HB6;obtain⟨o0,o1,o2,o3,o4,o5⟩:=cs6 Bo7;obtain⟨r0,r1,r2,r3,r4,r5,r6,r7⟩:=cs8 Br7;have fr0:=al Br7.out 0;have fr1:=al Br7.out 1;have fr2:=al Br7.out 2;have fr3:=al Br7.out 3;have fr4:=al Br7.out 4;have fr5:=al Br7.out 5;have fr6:=al Br7.out 6;have fr7:=al Br7.out 7;have hol:=aa Bo7.out;have hrl:=aa Br7.out;obtain⟨hne5,hne6⟩:=jw;go_wp2;have hlo:=HLO.out;refine bodyPost_ret (v:=Hc #[J (F_ ⟨g,0,U⟩) m1 n1,J x2 m2 n2,J x3 m3 n3,J x4 m4 n4,J x5 m5 n5,GZ G6 c.now,I ⟨#[]⟩,GZ G6 0]) rB rfl ⟨⟨F_ ⟨g,0,U⟩,m1,n1,x2,m2,n2,x3,m3,n3,x4,m4,n4,x5,m5,n5⟩,⟨gD c t n f,⟨#[]⟩,0⟩,rfl,HV.out,?_,sb1 (sb1 (sb1 (sb1 (sb1 (sb1 (sb1 (sb1 (HB7.out))))))))⟩;have hk4:∀k,k<w7.heap.size->w1.heap.size<=k/\¬k=w3.heap.size->((((((((w7.setCell ⟨w.heap.size+1,0,U⟩ (J (F_ ⟨g,0,U⟩) m1 n1)).setCell ⟨w.heap.size+1,1,U⟩ (J x2 m2 n2)).setCell ⟨w.heap.size+1,2,U⟩ (J x3 m3 n3)).setCell ⟨w.heap.size+1,3,U⟩ (J x4 m4 n4)).setCell ⟨w.heap.size+1,4,U⟩ (J x5 m5 n5)).setCell ⟨w.heap.size+1,5,U⟩ (GZ G6 c.now)).setCell ⟨w.heap.size+1,6,U⟩ (I ⟨#[]⟩)).setCell ⟨w.heap.size+1,7,U⟩ (GZ G6 0)).heap[k]?=w7.heap[k]?:=λk _ h1=>by rw[Fl _ _ _ _ (show k≠w.heap.size+1 by omega),Fl _ _ _ _ (show k≠w.heap.size+1 by omega),Fl _ _ _ _ (show k≠w.heap.size+1 by omega),Fl _ _ _ _ (show k≠w.heap.size+1 by omega),Fl _ _ _ _ (show k≠w.heap.size+1 by omega),Fl _ _ _ _ (show k≠w.heap.size+1 by omega),Fl _ _ _ _ (show k≠w.heap.size+1 by omega),Fl _ _ _ _ (show k≠w.heap.size+1 by omega)]
 exact vH
theorem fq:(Tryz.prog.info? 33).map (·.size)=F_ 8:=by kernel_rfl
def CT(B:Nat) (w0:World) (p:Nat) (v:Value) (len:Nat) (c:Cl) (w:World) (e:Ending) (w':World):Prop:=∃(g:Ad) (o:Co),e=Ha (Hc #[J g.a1 g.l1 g.c1,J g.a2 g.l2 g.c2,J g.a3 g.l3 g.c3,J g.a4 g.l4 g.c4,J g.a5 g.l5 g.c5,GZ G6 o.c.now,I o.n,GZ G6 o.p])/\(o.p=0->Gd c o.c)/\aE w' g o.c.raw/\Low w.heap.size w' g/\Dr B w0 p v len w w'
theorem eight {q:Nat} {c0 c1 c2 c3 c4 c5 c6 c7 v0 v1 v2 v3 v4 v5 v6 v7:Value} (h:w.heap[q]?=F_ (G7 #[c0,c1,c2,c3,c4,c5,c6,c7] T (0,0))):((((((((w.setCell ⟨q,0,U⟩ v0).setCell ⟨q,1,U⟩ v1).setCell ⟨q,2,U⟩ v2).setCell ⟨q,3,U⟩ v3).setCell ⟨q,4,U⟩ v4).setCell ⟨q,5,U⟩ v5).setCell ⟨q,6,U⟩ v6).setCell ⟨q,7,U⟩ v7)=w.setRow q #[v0,v1,v2,v3,v4,v5,v6,v7]:=by
 unfold Gb World.setRow;simp only[World.mk.injEq,and_true];apply Array.ext_getElem?;intro k;simp only[Array.getElem?_modify];by_cases e:q=k
 ·subst e;simp[h]
 ·simp[e]
theorem Dr.row {p:Nat} {wa:World} (h:Dr B w0 p v len wa w) {q:Nat} (cs:Array Value) (hq:wa.heap.size<=q):Dr B w0 p v len wa (w.setRow q cs):=by
 have hl:=h.lt;have hB:B<=p:=h.src.1;have hg:w.grownBy (w.setRow q cs) (F_ q):=⟨rfl,rfl,rfl,by simp,λk _ hn=>setRow_other _ _ _ _ (λe=>hn (by rw[e]))⟩;exact⟨h.src.aB hg (λe=>by simp at e;omega) (λk hk=>by simp at hk;omega),lG h.gr hg (λk hk=>by simp at hk;omega),h.lt⟩
theorem jV {p:Nat} {w9:World} {g:Ad} {q:Nat} (hd:Dr B w0 p v len w w9) {X:Nat} (ho:gA X w9 g o.c.raw) (hX:w.heap.size<=X) (hb:w9.heap[q]?=F_ (G7 #[J U 0 0,J U 0 0,J U 0 0,J U 0 0,J U 0 0,GZ G6 0,I ⟨#[]⟩,GZ G6 0] 33 (0,0))) (hq:w.heap.size<=q) (hn:o.n.size<=9223372036854775807) (hi:o.p=0->Gd c o.c):
  CT B w0 p v len c w (Ha (Hc #[J g.a1 g.l1 g.c1,J g.a2 g.l2 g.c2,J g.a3 g.l3 g.c3,J g.a4 g.l4 g.c4,J g.a5 g.l5 g.c5,GZ G6 o.c.now,I o.n,GZ G6 o.p])) (w9.setRow q #[J g.a1 g.l1 g.c1,J g.a2 g.l2 g.c2,J g.a3 g.l3 g.c3,J g.a4 g.l4 g.c4,J g.a5 g.l5 g.c5,GZ G6 o.c.now,I o.n,GZ G6 o.p]):=by
 obtain⟨c',hl,hr⟩:=ho.row.res (p:=q) (w':=w9.setRow q #[J g.a1 g.l1 g.c1,J g.a2 g.l2 g.c2,J g.a3 g.l3 g.c3,J g.a4 g.l4 g.c4,J g.a5 g.l5 g.c5,GZ G6 o.c.now,I o.n,GZ G6 o.p]) ⟨⟨rfl,rfl,rfl,by simp,λk _ hn=>setRow_other _ _ _ _ hn⟩,λi x h=>by
  rw[ar hb i] at h
  rcases i with _|_|_|_|_|_|_|_|i
  all_goals first
   | exact⟨by omega,λ_=>rfl⟩
   | (cases h;exact⟨by omega,λ⟨_,e⟩=>by cases e⟩)
   | (simp at h),o.n,ar (setRow_heap _ q _ #[J g.a1 g.l1 g.c1,J g.a2 g.l2 g.c2,J g.a3 g.l3 g.c3,J g.a4 g.l4 g.c4,J g.a5 g.l5 g.c5,GZ G6 o.c.now,I o.n,GZ G6 o.p] _ _ hb) 6,hn⟩
 have e:c'.now=o.c.now:=hl.2.2.2.2.2;exact⟨g,⟨c',o.n,o.p⟩,by rw[<-e],λh=>⟨hl.1.trans (hi h).1,hl.2.1.trans (hi h).2⟩,hr,ho.low.to hX (λ_ u=>u.row),Rc.Dr.row hd _ hq⟩
theorem tE {p:Nat} (h:Src B w0 p v len w) (d:Ad) (c:Cl) (hr:aE w d c.raw):
  Calls Tryz.prog 32 #[Hf (F_ ⟨p,0,U⟩),Hc #[J d.a1 d.l1 d.c1,J d.a2 d.l2 d.c2,J d.a3 d.l3 d.c3,J d.a4 d.l4 d.c4,J d.a5 d.l5 d.c5,GZ G6 c.now]] w (CT B w0 p v len c w):=by
 have HD:=ae (Dr.start h);have HP:=ae h.kI;have HN:=ae (bW h);have HR:=ae hr;clear h hr;go_enter Tryz.func32,Tryz.ntmps32;go_wp2_with fail;have HD0:=ae ((HD.alloc (G7 (clv d c.now) 29)).alloc (G7 #[J U 0 0,J U 0 0,J U 0 0,J U 0 0,J U 0 0,GZ G6 0,I ⟨#[]⟩,GZ G6 0] 33));have Bk:Hid (((w.alloc (G7 (clv d c.now) 29)).alloc (G7 #[J U 0 0,J U 0 0,J U 0 0,J U 0 0,J U 0 0,GZ G6 0,I ⟨#[]⟩,GZ G6 0] 33)).heap[w.heap.size]?=F_ (G7 (clv d c.now) 29 (0,0))):=dK _ _ _;have Br:Hid (((w.alloc (G7 (clv d c.now) 29)).alloc (G7 #[J U 0 0,J U 0 0,J U 0 0,J U 0 0,J U 0 0,GZ G6 0,I ⟨#[]⟩,GZ G6 0] 33)).heap[w.heap.size+1]?=F_ (G7 #[J U 0 0,J U 0 0,J U 0 0,J U 0 0,J U 0 0,GZ G6 0,I ⟨#[]⟩,GZ G6 0] 33 (0,0))):=heap_alloc2_new _ _ _;clear HD;go_wp2_with fail;refine (b8 HD0.src [⟨#[110,49]⟩,⟨#[110,50]⟩,⟨#[110,51]⟩] 3 _ _ aH rfl ah ah ah).mono ?_;rintro e w1 ⟨tn,rfl,htn,hs,hg⟩;have HD1:=ae (HD0.next hs hg);replace Bk:=ae (gk hg bZ Bk.out);replace Br:=ae (gk hg bZ Br.out);clear hs hg HD0;go_wp2_with fail;refine (b8 HD1.src [⟨#[112,49]⟩,⟨#[112,50]⟩,⟨#[112,51]⟩,⟨#[112,52]⟩] 4 _ _ aH rfl ah ah ah).mono ?_;rintro e w2 ⟨tp,rfl,htp,hs,hg⟩;have HD2:=ae (HD1.next hs hg);replace Bk:=ae (gk hg bZ Bk.out);replace Br:=ae (gk hg bZ Br.out);clear hs hg HD1;go_wp2_with fail;refine (b8 HD2.src [⟨#[99,49]⟩,⟨#[99,50]⟩,⟨#[99,51]⟩,⟨#[99,52]⟩] 4 _ _ aH rfl ah ah ah).mono ?_;rintro e w3 ⟨tc,rfl,htc,hs,hg⟩;have HD3:=ae (HD2.next hs hg);replace Bk:=ae (gk hg bZ Bk.out);replace Br:=ae (gk hg bZ Br.out);clear hs hg HD2;go_wp2_with fail;refine (HD3.src.n 22 ah).mono ?_;rintro e w4 ⟨r,rfl,ra,rb,hs,hg⟩;have HD4:=ae (HD3.next hs hg);replace Bk:=ae (gk hg bZ Bk.out);replace Br:=ae (gk hg bZ Br.out);clear hs hg HD3;replace HR:=ae (HR.bP HN.out (aZ HD4.gr));have hlr:=aa Br.out;have HLR:=ae hlr;obtain⟨k0,k1,k2,k3,k4,k5⟩:=cs6 Bk;have ltk:=aa Bk.out;rcases (by omega:r=0\/r=1\/r=2\/r=3\/r=4\/r=5\/r=6\/r=7\/r=8\/r=9\/r=10\/r=11\/r=12\/r=13\/r=14\/r=15\/r=16\/r=17\/r=18\/r=19\/r=20\/r=21) with rfl|rfl|rfl|rfl|rfl|rfl|rfl|rfl|rfl|rfl|rfl|rfl|rfl|rfl|rfl|rfl|rfl|rfl|rfl|rfl|rfl|rfl
 ·have HDW:=HD4;have BkW:=Bk;have BrW:=Br;have HRW:=HR;go_wp2_with fail;go_region_with (first
   | (go_at_call 59;refine (zT (cn HDW.src)).mono ?_;rintro e w5 ⟨n1,c1,z1,j1,x1,m1,y1,a1,l1,cp1,zs1,rfl,hn1,hz1,hk1,hm1,htx,-,hd⟩;have hsz:=hd.src;have hgz:=hd.gr;have HD5:=ae (Dk.Dr.next (w:=w4.drew) (iC HDW.out) hsz hgz);have HR5:=ae (aE.bP (w:=w4.drew) (HRW.below (bf _)) (bW (cn HDW.src)) (aZ hgz));have gk5:=gk hgz bZ (show w4.drew.heap[w.heap.size]?=_ from BkW.out);have gr5:=gk hgz bZ (show w4.drew.heap[w.heap.size+1]?=_ from BrW.out);have HG5:=ae gr5;have kq0:=ar gk5 0;have kq1:=ar gk5 1;have kq2:=ar gk5 2;have kq3:=ar gk5 3;have kq4:=ar gk5 4;have kq5:=ar gk5 5;have ltk5:=aa gk5;clear gk5 gr5)
   | (go_at_call 58;refine ((uh d c ⟨n1,c1,z1,j1,x1,m1,y1,zs1⟩ a1 l1 cp1 _ HR5.out htx (by show n1.size<=_;omega) (by show z1.size<=_;omega) (by show j1.size<=_;omega) (by show m1.size<=_;omega)).mono λ_ _ h=>h.l).mono ?_;rintro e w9 ⟨g,o,rfl,hI,ho,hb⟩;have HG9:=upK HG5 hb;obtain⟨r0,r1,r2,r3,r4,r5,r6,r7⟩:=cs8 HG9;have hrl:=aa HG9.out;have fr0:=al HG9.out 0;have fr1:=al HG9.out 1;have fr2:=al HG9.out 2;have fr3:=al HG9.out 3;have fr4:=al HG9.out 4;have fr5:=al HG9.out 5;have fr6:=al HG9.out 6;have fr7:=al HG9.out 7))
  all_goals (
   rw[eight HG9.out];have HO:=ae ho;have HD9:=ae (HD5.below hb);have HI:=ae hI;have H12:=ae (setRow_heap _ (w.heap.size+1) _ #[J g.a1 g.l1 g.c1,J g.a2 g.l2 g.c2,J g.a3 g.l3 g.c3,J g.a4 g.l4 g.c4,J g.a5 g.l5 g.c5,GZ G6 o.c.now,I o.n,GZ G6 o.p] _ _ HG9.out);clear hI ho hb k0 k1 k2 k3 k4 k5 ltk r0 fr0 r1 fr1 r2 fr2 r3 fr3 r4 fr4 r5 fr5 r6 fr6 r7 fr7;go_wp2_with fail
   exact bodyPost_ret (v:=Hc #[J g.a1 g.l1 g.c1,J g.a2 g.l2 g.c2,J g.a3 g.l3 g.c3,J g.a4 g.l4 g.c4,J g.a5 g.l5 g.c5,GZ G6 o.c.now,I o.n,GZ G6 o.p]) (results_cell_row rfl _ _ (w.heap.size+1) _ _ _ _ rfl H12.out Tryz.underlying33 rfl fq) rfl (jV HD9.out HO.out HD5.size HG9.out af HI.nm (λh=>HI.gd h)))
 ·exact yQ
 ·exact yQ
 ·exact yQ
 ·exact Dd
 ·exact Dd
 ·exact Dd
 ·go_wp2_with fail;refine (sW d c tp _ HR.out).mono ?_;exact kH
 ·go_wp2_with fail;refine (sU d c tc _ HR.out).mono ?_;exact kH
 ·have HDW:=ae (HD4.alloc (G7 #[I ⟨#[100,49]⟩,I ⟨#[100,50]⟩,I ⟨#[118,95,99,49]⟩] 9));have BkW:Hid ((w4.alloc (G7 #[I ⟨#[100,49]⟩,I ⟨#[100,50]⟩,I ⟨#[118,95,99,49]⟩] 9)).heap[w.heap.size]?=F_ (G7 (clv d c.now) 29 (0,0))):=(Fy _ _ _ (aa Bk.out)).trans Bk.out;have BrW:Hid ((w4.alloc (G7 #[I ⟨#[100,49]⟩,I ⟨#[100,50]⟩,I ⟨#[118,95,99,49]⟩] 9)).heap[w.heap.size+1]?=F_ (G7 #[J U 0 0,J U 0 0,J U 0 0,J U 0 0,J U 0 0,GZ G6 0,I ⟨#[]⟩,GZ G6 0] 33 (0,0))):=(Fy _ _ _ (aa Br.out)).trans Br.out;have HRW:=ae (HR.below (aq w4 (G7 #[I ⟨#[100,49]⟩,I ⟨#[100,50]⟩,I ⟨#[118,95,99,49]⟩] 9)));go_wp2_with fail;go_region_with (first
   | (go_at_call 15;refine (ey (cn HDW.src) w4.heap.size 3 [⟨#[100,49]⟩,⟨#[100,50]⟩,⟨#[118,95,99,49]⟩] _ (show (w4.alloc _).heap[w4.heap.size]?=_ from Fs) (by have:=HD4.src.kI;omega) rfl ah ah ah).mono ?_;rintro e w5 ⟨tv,rfl,htv,hsz,hgz⟩;have HD5:=ae (Dk.Dr.next (w:=(w4.alloc (G7 #[I ⟨#[100,49]⟩,I ⟨#[100,50]⟩,I ⟨#[118,95,99,49]⟩] 9)).drew) (iC HDW.out) hsz hgz);have HR5:=ae (aE.bP (w:=(w4.alloc (G7 #[I ⟨#[100,49]⟩,I ⟨#[100,50]⟩,I ⟨#[118,95,99,49]⟩] 9)).drew) (HRW.below (bf _)) (bW (cn HDW.src)) (aZ hgz));have gk5:=gk hgz bZ (show (w4.alloc (G7 #[I ⟨#[100,49]⟩,I ⟨#[100,50]⟩,I ⟨#[118,95,99,49]⟩] 9)).drew.heap[w.heap.size]?=_ from BkW.out);have gr5:=gk hgz bZ (show (w4.alloc (G7 #[I ⟨#[100,49]⟩,I ⟨#[100,50]⟩,I ⟨#[118,95,99,49]⟩] 9)).drew.heap[w.heap.size+1]?=_ from BrW.out);have HG5:=ae gr5;have kq0:=ar gk5 0;have kq1:=ar gk5 1;have kq2:=ar gk5 2;have kq3:=ar gk5 3;have kq4:=ar gk5 4;have kq5:=ar gk5 5;have ltk5:=aa gk5;clear gk5 gr5)
   | (go_at_call 66;refine (sV d c tv _ HR5.out).mono ?_;rintro e w9 ⟨g,o,rfl,hI,ho,hb⟩;have HG9:=upK HG5 hb;obtain⟨r0,r1,r2,r3,r4,r5,r6,r7⟩:=cs8 HG9;have hrl:=aa HG9.out;have fr0:=al HG9.out 0;have fr1:=al HG9.out 1;have fr2:=al HG9.out 2;have fr3:=al HG9.out 3;have fr4:=al HG9.out 4;have fr5:=al HG9.out 5;have fr6:=al HG9.out 6;have fr7:=al HG9.out 7))
  all_goals (
   rw[eight HG9.out];have HO:=ae ho;have HD9:=ae (HD5.below hb);have HI:=ae hI;have H12:=ae (setRow_heap _ (w.heap.size+1) _ #[J g.a1 g.l1 g.c1,J g.a2 g.l2 g.c2,J g.a3 g.l3 g.c3,J g.a4 g.l4 g.c4,J g.a5 g.l5 g.c5,GZ G6 o.c.now,I o.n,GZ G6 o.p] _ _ HG9.out);clear hI ho hb k0 k1 k2 k3 k4 k5 ltk r0 fr0 r1 fr1 r2 fr2 r3 fr3 r4 fr4 r5 fr5 r6 fr6 r7 fr7;go_wp2_with fail
   exact bodyPost_ret (v:=Hc #[J g.a1 g.l1 g.c1,J g.a2 g.l2 g.c2,J g.a3 g.l3 g.c3,J g.a4 g.l4 g.c4,J g.a5 g.l5 g.c5,GZ G6 o.c.now,I o.n,GZ G6 o.p]) (results_cell_row rfl _ _ (w.heap.size+1) _ _ _ _ rfl H12.out Tryz.underlying33 rfl fq) rfl (jV HD9.out HO.out HD5.size HG9.out af HI.nm (λh=>HI.gd h)))
 ·go_wp2_with fail;refine (kZ d c tc _ HR.out).mono ?_;exact kH
 ·go_wp2_with fail;refine (kZ d c tc _ HR.out).mono ?_;exact kH
 ·exact pE
 ·exact pE
 ·exact pE
 ·go_wp2_with fail;refine (kW d c tp _ HR.out).mono ?_;exact kH
 ·go_wp2_with fail;refine (rq d c _ HR.out).mono ?_;exact kH
 ·go_wp2_with fail;refine (rq d c _ HR.out).mono ?_;exact kH
 ·go_wp2_with fail;refine (iR d c tn _ HR.out).mono ?_;exact kH
 ·go_wp2_with fail;refine (iR d c tn _ HR.out).mono ?_;exact kH
 ·go_wp2_with fail;refine (cK HD4.src 3 ah).mono ?_;rintro e w5 ⟨he,hs,hg⟩;have HD5:=ae (HD4.next hs hg);replace HR:=ae (HR.bP (bW HD4.src) (aZ hg));replace Bk:=ae (gk hg bZ Bk.out);replace Br:=ae (gk hg bZ Br.out);clear hs hg k0 k1 k2 k3 k4 k5 ltk;obtain⟨k0,k1,k2,k3,k4,k5⟩:=cs6 Bk;have ltk:=aa Bk.out;obtain⟨x5,rfl⟩:=d_ he;clear he;cases x5
  ·go_wp2_with fail;refine (tR d c tn _ HR.out).mono ?_;exact CJ
  ·go_wp2_with fail;refine (m_ d c tn _ HR.out).mono ?_;exact CJ
 ·have HDW:=HD4;have BkW:=Bk;have BrW:=Br;have HRW:=HR;go_wp2_with fail;go_region_with (first
   | (go_at_call 14;refine ((cn HDW.src).n 12 ah).mono ?_;rintro e w5 ⟨m5,rfl,ma,mb,hsz,hgz⟩;have HD5:=ae (Dk.Dr.next (w:=w4.drew) (iC HDW.out) hsz hgz);have HR5:=ae (aE.bP (w:=w4.drew) (HRW.below (bf _)) (bW (cn HDW.src)) (aZ hgz));have gk5:=gk hgz bZ (show w4.drew.heap[w.heap.size]?=_ from BkW.out);have gr5:=gk hgz bZ (show w4.drew.heap[w.heap.size+1]?=_ from BrW.out);have HG5:=ae gr5;have kq0:=ar gk5 0;have kq1:=ar gk5 1;have kq2:=ar gk5 2;have kq3:=ar gk5 3;have kq4:=ar gk5 4;have kq5:=ar gk5 5;have ltk5:=aa gk5;clear gk5 gr5)
   | (go_at_call 13;refine (mV d c m5 _ HR5.out).mono ?_;rintro e w9 ⟨g,o,rfl,hI,ho,hb⟩;have HG9:=upK HG5 hb;obtain⟨r0,r1,r2,r3,r4,r5,r6,r7⟩:=cs8 HG9;have hrl:=aa HG9.out;have fr0:=al HG9.out 0;have fr1:=al HG9.out 1;have fr2:=al HG9.out 2;have fr3:=al HG9.out 3;have fr4:=al HG9.out 4;have fr5:=al HG9.out 5;have fr6:=al HG9.out 6;have fr7:=al HG9.out 7))
  all_goals (
   rw[eight HG9.out];have HO:=ae ho;have HD9:=ae (HD5.below hb);have HI:=ae hI;have H12:=ae (setRow_heap _ (w.heap.size+1) _ #[J g.a1 g.l1 g.c1,J g.a2 g.l2 g.c2,J g.a3 g.l3 g.c3,J g.a4 g.l4 g.c4,J g.a5 g.l5 g.c5,GZ G6 o.c.now,I o.n,GZ G6 o.p] _ _ HG9.out);clear hI ho hb k0 k1 k2 k3 k4 k5 ltk r0 fr0 r1 fr1 r2 fr2 r3 fr3 r4 fr4 r5 fr5 r6 fr6 r7 fr7;go_wp2_with fail
   exact bodyPost_ret (v:=Hc #[J g.a1 g.l1 g.c1,J g.a2 g.l2 g.c2,J g.a3 g.l3 g.c3,J g.a4 g.l4 g.c4,J g.a5 g.l5 g.c5,GZ G6 o.c.now,I o.n,GZ G6 o.p]) (results_cell_row rfl _ _ (w.heap.size+1) _ _ _ _ rfl H12.out Tryz.underlying33 rfl fq) rfl (jV HD9.out HO.out HD5.size HG9.out af HI.nm (λh=>HI.gd h)))
theorem a_.tail {r:List Fv} (h:a_ w a len cap m (r ::rs)) (hc:1<=cap):a_ w (a.map λx=>x.add (1*m)) (len - 1) (cap - 1) m rs:=by
 obtain⟨h1,h2,h3,h5⟩:=h;simp at h1;refine⟨by omega,by omega,by omega,?_⟩;rcases h5 with h5|⟨b,o,rfl,hl,hx⟩
 ·cases h5
 refine Hd ⟨b,o+1*m,by simp only[Option.map_some,FC],hl,λj x hj=>?_⟩;have:=hx (j+1) x hj;rw[Nat.add_mul,Nat.add_comm (j*m),<-Nat.add_assoc] at this;exact this
theorem LoA.tail(m:Nat) (h:LoA B w a len):LoA B w (a.map λx=>x.add (1*m)) (len - 1):=by
 rcases h with h|⟨b,o,rfl,h2⟩
 ·exact He af
 ·exact Hd ⟨b,o+1*m,by simp only[Option.map_some,FC],h2⟩
theorem C4(w:World) (t:ByteArray) (h:t.size<=100):aD (w.alloc (G7 #[I t] 9)) (F_ ⟨w.heap.size,0,U⟩) 1 1 [t]:=by
 refine⟨rfl,Fq _,by decide,λj x hj=>?_,Hd ⟨w.heap.size,0,rfl,by simp,λj x hj=>?_⟩⟩
 ·rcases j with _|j
  ·obtain rfl:t=x:=by simpa using hj
   omega
  ·simp at hj
 ·rcases j with _|j
  ·obtain rfl:t=x:=by simpa using hj
   exact ar (show (w.alloc (G7 #[I t] 9)).heap[w.heap.size]?=_ from Fs) 0
  ·simp at hj
theorem UF.kM(h:UF w g) (i:Nat):w.frozen? ⟨g,i,U⟩=G_:=by
 obtain⟨cs,T,h⟩:=h;exact al h i
theorem UF.zr(h:UF w g):UF w.drew g:=h
theorem gw.zr {p:Nat} {b:Nat} {w1:World} {c':Cl} (h:gw B w0 p v len X b c w w1 d c'):gw B w0 p v len X b c w w1.drew d c':=
 ⟨h.blk,h.row.below (bf _),h.low.to (Fq _) (λ_ u=>u),cn h.src,h.kept.below (bf _),h.ld⟩
theorem qO {p:Nat} (h:Src B w0 p v len w) (X b:Nat) (d:Ad) (c:Cl) (hr:aE w d c.raw) (hlo:Low X w d) (hb:w.heap[b]?=F_ (G7 #[J d.a1 d.l1 d.c1,J d.a2 d.l2 d.c2,J d.a3 d.l3 d.c3,J d.a4 d.l4 d.c4,J d.a5 d.l5 d.c5,GZ G6 c.now] 29 (0,0))) (hbp:¬b=p) (hBX:B<=X) (hXb:X<=b) (hn:2<=c.ns.length) (hk:1<=c.ks.length):
  Calls Tryz.prog 33 #[Hf (F_ ⟨p,0,U⟩),Hf (F_ ⟨b,0,U⟩)] w (λe w'=>e=Ha (Hg #[])/\∃d' c',gw B w0 p v len X b c w w' d' c'):=by
 have HS:=ae (show gw B w0 p v len X b c w w d c from ⟨hb,hr,hlo,h,aL.refl _ _,rfl⟩);have HN:=ae hn;have HK:=ae hk;have Bk:=ae hb;have hpl:=h.kI;clear h hr hlo hb hn hk;obtain⟨a1,l1,y1,a2,l2,y2,a3,l3,y3,a4,l4,y4,a5,l5,y5⟩:=d;have hl1:c.ns.length=l1:=AZ
 have hl2:c.ks.length=l2:=by simpa using (show (c.ks.map kdF).length=l2 from HS.row.k.1)
 have hl4:c.xs.length=l4:=by simpa using (show (c.xs.map xdF).length=l4 from HS.row.x.1)
 have hl5:c.ps.length=l5:=by simpa using (show (c.ps.map pdF).length=l5 from HS.row.p.1)
 go_enter Tryz.func33,Tryz.ntmps33;go_wp2_with fail;refine (HS.src.n 6 ah).mono ?_;rintro e w1 ⟨r,rfl,ra,rb,hs,hg⟩;replace HS:=ae (HS.draw hbp hs hg);replace Bk:=ae HS.blk;replace hpl:=hs.kI;clear hs hg;rcases (by omega:r=0\/r=1\/r=2\/r=3\/r=4\/r=5) with rfl|rfl|rfl|rfl|rfl|rfl
 ·obtain⟨k0,k1,k2,k3,k4,k5⟩:=cs6 Bk;have ltk:=aa Bk.out;go_wp2_with fail;have HS2:=ae (HS.alloc (G7 #[GZ G6 (-1),GZ G6 1000000,GZ G6 1000001] 2));have Bi:Hid ((w1.alloc (G7 #[GZ G6 (-1),GZ G6 1000000,GZ G6 1000001] 2)).heap[w1.heap.size]?=F_ (G7 #[GZ G6 (-1),GZ G6 1000000,GZ G6 1000001] 2 (0,0))):=Fs;refine (HS2.src.n 3 ah).mono ?_;rintro e w2 ⟨q,rfl,qa,qb,hs,hg⟩;have hbi:¬w1.heap.size=p:=af
  replace Bi:=ae (gk hg hbi Bi.out);replace HS:=ae (HS2.draw hbp hs hg);replace Bk:=ae HS.blk;clear hs hg HS2 k0 k1 k2 k3 k4 k5 ltk;obtain⟨k0,k1,k2,k3,k4,k5⟩:=cs6 Bk;have ltk:=aa Bk.out;obtain⟨i0,i1,i2⟩:=cs3 Bi;have lti:=aa Bi.out;have fk5:=al Bk.out 5;have fin:∀m:Int,∃d' c',gw B w0 p v len X b c w (w2.setCell ⟨b,5,U⟩ (GZ G6 m)) d' c':=λm=>by
   have hg9:=bL w2 b 5 (GZ G6 m);refine⟨⟨a1,l1,y1,a2,l2,y2,a3,l3,y3,a4,l4,y4,a5,l5,y5⟩,⟨c.ns,c.ks,c.vs,c.xs,c.ps,m⟩,?_,?_,HS.low.to (Fq _) (λ_ q=>q.set),HS.src.aB hg9 (λe=>hbp (Fp e)) (λk e=>by have:=Fp e;omega),HS.kept.set (Hd hXb),rfl⟩
   ·rw[az (i:=5) Bk.out];rfl
   ·exact (HS.row.bP (c:=c) (cE Bk.out) (aZ hg9):aE _ _ c.raw)
  rcases (by omega:q=0\/q=1\/q=2) with rfl|rfl|rfl;all_goals (
   go_wp2_with fail
   go_end0
   exact⟨rfl,fin _⟩)
 ·have hj:0<l1:=by have:=HN.out;omega
  obtain⟨g,o,x,rfl,hgl,-,hat⟩:=bO HS.row.n hj;obtain⟨hXg,huf⟩:=HS.low.n.at rfl (by show 0<l1;omega);rw[Nat.zero_mul,Nat.add_zero] at hat;obtain⟨va,vl,vc,-,-,-,c0,c1,c2,c3,c4,c5,c6⟩:=aU hat;obtain⟨hgb,hgp⟩:=rP;clear hat;obtain⟨k0,k1,k2,k3,k4,k5⟩:=cs6 Bk;have ltk:=aa Bk.out;have HS2:=ae (HS.alloc (G7 #[I ⟨#[100,49]⟩,I ⟨#[118,95,99,49]⟩] 9)).zr;have hbi:¬w1.heap.size=p:=af
  have Bi:Hid ((w1.alloc (G7 #[I ⟨#[100,49]⟩,I ⟨#[118,95,99,49]⟩] 9)).heap[w1.heap.size]?=F_ (G7 #[I ⟨#[100,49]⟩,I ⟨#[118,95,99,49]⟩] 9 (0,0))):=Fs;have hgs:g<(w1.alloc (G7 #[I ⟨#[100,49]⟩,I ⟨#[118,95,99,49]⟩] 9)).drew.heap.size:=by show g<(w1.alloc (G7 #[I ⟨#[100,49]⟩,I ⟨#[118,95,99,49]⟩] 9)).heap.size;simp;omega
  have HC:Hid (∀i u,w1.cell? ⟨g,i,U⟩=F_ u->(w1.alloc (G7 #[I ⟨#[100,49]⟩,I ⟨#[118,95,99,49]⟩] 9)).drew.cell? ⟨g,i,U⟩=F_ u):=λi u h=>(aj (aq w1 _) hgl).trans h;have HU:Hid (UF (w1.alloc (G7 #[I ⟨#[100,49]⟩,I ⟨#[118,95,99,49]⟩] 9)).drew g):=(huf.below (aq w1 _)).zr;go_wp2_with fail;go_region_with (go_at_call 15;refine (ey HS2.src w1.heap.size 2 [⟨#[100,49]⟩,⟨#[118,95,99,49]⟩] _ (show (w1.alloc (G7 #[I ⟨#[100,49]⟩,I ⟨#[118,95,99,49]⟩] 9)).drew.heap[w1.heap.size]?=_ from Bi.out) hbi rfl ah ah ah).mono ?_;rintro e wz ⟨t,rfl,hts,hsz,hgz⟩;have HZ:=ae (HS2.draw hbp hsz hgz);have gz:=HZ.blk;have y0:=ar gz 0;have hgw:g<wz.heap.size:=Fw hgs hgz.size;have hbw:=aa gz;have z0:wz.cell? ⟨g,o+6,U⟩=F_ (J va vl vc):=(cell_kept (aZ hgz) hgs hgp).trans (HC.out _ _ c6);have zu:=HU.draw hsz hgz;have zf:wz.frozen? ⟨g,o+6,U⟩=G_:=zu.kM _);all_goals (
   go_wp2_with fail
   go_end0
   have hc9:(wz.alloc (G7 #[I t] 9)).cell? ⟨g,o+6,U⟩=F_ (J va vl vc):=(aj (aq wz _) hgw).trans z0;obtain⟨c2,h9⟩:=(HZ.alloc (G7 #[I t] 9)).set hBX (u':=J (F_ ⟨wz.heap.size,0,U⟩) 1 1) hc9 (Hd (Hd (Hd (Hd ⟨⟨_,_,_,rfl⟩,_,_,_,[t],rfl,aD.set hc9 (λ_ e=>by cases e) (C4 wz t hts)⟩)))) hXg hgb hgp;rw[World.setCell_alloc_past _ _ _ _ hgw] at h9
   exact⟨rfl,_,c2,h9⟩)
 ·have hj:1<l1:=by have:=HN.out;omega
  obtain⟨g,o,x,rfl,hgl,-,hat⟩:=bO HS.row.n hj;obtain⟨hXg,huf⟩:=HS.low.n.at rfl (by show 0<l1;omega);obtain⟨va,vl,vc,-,-,-,c0,c1,c2,c3,c4,c5,c6⟩:=aU hat;obtain⟨hgb,hgp⟩:=rP;clear hat;obtain⟨k0,k1,k2,k3,k4,k5⟩:=cs6 Bk;have ltk:=aa Bk.out;go_wp2_with fail;go_region_with (go_at_call 14;refine ((cn HS.src).n 2 ah).mono ?_;rintro e wz ⟨q,rfl,qa,qb,hsz,hgz⟩;have HZ:=ae (HS.zr.draw hbp hsz hgz);have gz:=gk hgz hbp (show w1.drew.heap[b]?=_ from Bk.out);have y0:=ar gz 0;have z0:wz.cell? ⟨g,o+1*7+3,U⟩=F_ (GZ G6 x.s):=(cell_kept (aZ hgz) (show g<w1.drew.heap.size from hgl) hgp).trans c3;have zf:wz.frozen? ⟨g,o+1*7+3,U⟩=G_:=(huf.zr.draw hsz hgz).kM _);all_goals (
   go_wp2_with fail
   go_end0
   exact⟨rfl,_,HZ.set hBX z0 (Hd (Hd (He ⟨⟨_,rfl⟩,_,rfl⟩))) hXg hgb hgp⟩)
 ·by_cases hj:0<l4
  ·obtain⟨g,o,x,rfl,hgl,-,hat⟩:=dM HS.row.x hj;obtain⟨hXg,huf⟩:=HS.low.x.at rfl (by show 0<l4;omega);rw[Nat.zero_mul,Nat.add_zero] at hat;obtain⟨-,-,-,c0,c1,c2,c3,c4⟩:=bS hat;obtain⟨hgb,hgp⟩:=rP;clear hat;obtain⟨k0,k1,k2,k3,k4,k5⟩:=cs6 Bk;have ltk:=aa Bk.out;have HS2:=ae (HS.alloc (G7 #[I ⟨#[]⟩,I ⟨#[100,49]⟩,I ⟨#[118,95,99,50]⟩] 9)).zr;have hbi:¬w1.heap.size=p:=af
   have Bi:Hid ((w1.alloc (G7 #[I ⟨#[]⟩,I ⟨#[100,49]⟩,I ⟨#[118,95,99,50]⟩] 9)).heap[w1.heap.size]?=F_ (G7 #[I ⟨#[]⟩,I ⟨#[100,49]⟩,I ⟨#[118,95,99,50]⟩] 9 (0,0))):=Fs;have hgs:g<(w1.alloc (G7 #[I ⟨#[]⟩,I ⟨#[100,49]⟩,I ⟨#[118,95,99,50]⟩] 9)).drew.heap.size:=by show g<(w1.alloc (G7 #[I ⟨#[]⟩,I ⟨#[100,49]⟩,I ⟨#[118,95,99,50]⟩] 9)).heap.size;simp;omega
   have HC:Hid (∀i u,w1.cell? ⟨g,i,U⟩=F_ u->(w1.alloc (G7 #[I ⟨#[]⟩,I ⟨#[100,49]⟩,I ⟨#[118,95,99,50]⟩] 9)).drew.cell? ⟨g,i,U⟩=F_ u):=λi u h=>(aj (aq w1 _) hgl).trans h;have HU:Hid (UF (w1.alloc (G7 #[I ⟨#[]⟩,I ⟨#[100,49]⟩,I ⟨#[118,95,99,50]⟩] 9)).drew g):=(huf.below (aq w1 _)).zr;go_wp2_with fail;go_region_with (go_at_call 15;refine (ey HS2.src w1.heap.size 3 [⟨#[]⟩,⟨#[100,49]⟩,⟨#[118,95,99,50]⟩] _ (show (w1.alloc (G7 #[I ⟨#[]⟩,I ⟨#[100,49]⟩,I ⟨#[118,95,99,50]⟩] 9)).drew.heap[w1.heap.size]?=_ from Bi.out) hbi rfl ah ah ah).mono ?_;rintro e wz ⟨t,rfl,hts,hsz,hgz⟩;have HZ:=ae (HS2.draw hbp hsz hgz);have gz:=HZ.blk;have y3:=ar gz 3;have z0:wz.cell? ⟨g,o+4,U⟩=F_ (I x.v):=(cell_kept (aZ hgz) hgs hgp).trans (HC.out _ _ c4);have zu:=HU.draw hsz hgz;have zf:wz.frozen? ⟨g,o+4,U⟩=G_:=zu.kM _);all_goals (
    go_wp2_with fail
    go_end0
    exact⟨rfl,_,HZ.set hBX z0 (Hd (He ⟨⟨_,rfl⟩,t,rfl,by omega⟩)) hXg hgb hgp⟩)
  ·exact xI
 ·by_cases hj:0<l5
  ·obtain⟨g,o,x,rfl,hgl,-,hat⟩:=bN HS.row.p hj;obtain⟨hXg,huf⟩:=HS.low.p.at rfl (by show 0<l5;omega);rw[Nat.zero_mul,Nat.add_zero] at hat;obtain⟨va,vl,vc,-,-,-,-,c0,c1,cz,c3,c4,c5⟩:=aR hat;obtain⟨hgb,hgp⟩:=rP;clear hat;obtain⟨k0,k1,k2,k3,k4,k5⟩:=cs6 Bk;have ltk:=aa Bk.out;have HS2:=ae (HS.alloc (G7 #[I ⟨#[110,49]⟩,I ⟨#[110,51]⟩] 9)).zr;have hbi:¬w1.heap.size=p:=af
   have Bi:Hid ((w1.alloc (G7 #[I ⟨#[110,49]⟩,I ⟨#[110,51]⟩] 9)).heap[w1.heap.size]?=F_ (G7 #[I ⟨#[110,49]⟩,I ⟨#[110,51]⟩] 9 (0,0))):=Fs;have hgs:g<(w1.alloc (G7 #[I ⟨#[110,49]⟩,I ⟨#[110,51]⟩] 9)).drew.heap.size:=by show g<(w1.alloc (G7 #[I ⟨#[110,49]⟩,I ⟨#[110,51]⟩] 9)).heap.size;simp;omega
   have HC:Hid (∀i u,w1.cell? ⟨g,i,U⟩=F_ u->(w1.alloc (G7 #[I ⟨#[110,49]⟩,I ⟨#[110,51]⟩] 9)).drew.cell? ⟨g,i,U⟩=F_ u):=λi u h=>(aj (aq w1 _) hgl).trans h;have HU:Hid (UF (w1.alloc (G7 #[I ⟨#[110,49]⟩,I ⟨#[110,51]⟩] 9)).drew g):=(huf.below (aq w1 _)).zr;go_wp2_with fail;go_region_with (go_at_call 15;refine (ey HS2.src w1.heap.size 2 [⟨#[110,49]⟩,⟨#[110,51]⟩] _ (show (w1.alloc (G7 #[I ⟨#[110,49]⟩,I ⟨#[110,51]⟩] 9)).drew.heap[w1.heap.size]?=_ from Bi.out) hbi rfl ah ah ah).mono ?_;rintro e wz ⟨t,rfl,hts,hsz,hgz⟩;have HZ:=ae (HS2.draw hbp hsz hgz);have gz:=HZ.blk;have y4:=ar gz 4;have z0:wz.cell? ⟨g,o+4,U⟩=F_ (I x.d):=(cell_kept (aZ hgz) hgs hgp).trans (HC.out _ _ c4);have zu:=HU.draw hsz hgz;have zf:wz.frozen? ⟨g,o+4,U⟩=G_:=zu.kM _);all_goals (
    have hc9:(wz.setCell ⟨g,o+4,U⟩ (I t)).cell? ⟨g,o+5,U⟩=F_ (GZ G6 x.p):=(fx af).trans ((cell_kept (aZ hgz) hgs hgp).trans (HC.out _ _ c5));have hu9:UF (wz.setCell ⟨g,o+4,U⟩ (I t)) g:=zu.set;obtain⟨c2,h9⟩:=HZ.set hBX z0 (Hd (He ⟨⟨_,rfl⟩,t,rfl,by omega⟩)) hXg hgb hgp;clear k0 k1 k2 k3 k4 k5 ltk c0 c1 cz c3 c4 c5 z0 zf zu y4 gz HC HU hgs HZ HS2 HS Bi hsz hgz;go_wp2_with fail
    generalize wz.setCell ⟨g,o+4,U⟩ (I t)=W3 at hc9 hu9 h9 ⊢
    replace Bk:=ae h9.blk
    have hgw:g<W3.heap.size:=by
     obtain⟨cs,T,h⟩:=hu9;exact aa h
    obtain⟨k0,k1,k2,k3,k4,k5⟩:=cs6 Bk;have ltk:=aa Bk.out
    go_region_with (go_at_call 14;refine ((cn h9.src).n 2 ah).mono ?_;rintro e wy ⟨q,rfl,qa,qb,hsy,hgy⟩;have HY:=ae (h9.zr.draw hbp hsy hgy);have gy:=HY.blk;have y4:=ar gy 4;have z0:wy.cell? ⟨g,o+5,U⟩=F_ (GZ G6 x.p):=(cell_kept (aZ hgy) (show g<W3.drew.heap.size from hgw) hgp).trans hc9;have zf:wy.frozen? ⟨g,o+5,U⟩=G_:=(hu9.zr.draw hsy hgy).kM _)
    all_goals (
     go_wp2_with fail
     go_end0
     exact⟨rfl,_,HY.set hBX z0 (Hd (Hd (He ⟨⟨_,rfl⟩,_,rfl⟩))) hXg hgb hgp⟩))
  ·exact xI
 ·obtain⟨k0,k1,k2,k3,k4,k5⟩:=cs6 Bk;have ltk:=aa Bk.out;have hg9:=λu=>bL w1 b 1 u;obtain⟨y,ys,hys⟩:∃y ys,c.ks=y ::ys:=by
   cases hq:c.ks with
   | nil=>have:=HK.out;rw[hq] at this;simp at this
   | cons y ys=>exact⟨y,ys,rfl⟩
  have hrk:a_ w1 a2 l2 y2 4 (kdF y ::ys.map kdF):=by have h:=HS.row.k;rw[show c.raw.k=c.ks.map kdF from rfl,hys] at h;exact h
  have hcp:=hrk.2.1;have h1l:1<=l2:=by have:=HK.out;omega
  have fin:∀(a:Option Addr) (cp:Nat),a_ w1 a (l2 - 1) cp 4 (ys.map kdF)->LoA X w1 a (l2 - 1)->∃d' c',gw B w0 p v len X b c w (w1.setCell ⟨b,1,U⟩ (J a (l2 - 1) cp)) d' c':=λa cp hr hl=>by
   have hp9:=HS.row.bP (c:=c) (cE Bk.out) (aZ (hg9 (J a (l2 - 1) cp)));have hlo:=HS.low.to (B':=X) (w':=w1.setCell ⟨b,1,U⟩ (J a (l2 - 1) cp)) (Fq _) (λ_ q=>q.set);refine⟨⟨a1,l1,y1,a,l2 - 1,cp,a3,l3,y3,a4,l4,y4,a5,l5,y5⟩,⟨c.ns,ys,c.vs,c.xs,c.ps,c.now⟩,?_,⟨hp9.n,hr.bP (cr (λx=>⟨x.n,rfl⟩) ys) (cE Bk.out) (aZ (hg9 _)),hp9.v,hp9.x,hp9.p⟩,⟨hlo.n,hl.to (Fq _) (λ_ q=>q.set),hlo.v,hlo.x,hlo.p⟩,HS.src.aB (hg9 _) (λe=>hbp (Fp e)) (λk e=>by have:=Fp e;omega),HS.kept.set (Hd hXb),rfl⟩;rw[az (i:=1) Bk.out];rfl
  have fk1:=al Bk.out 1;by_cases hy:y2=1
  ·subst hy;have hl21:l2=1:=af
   have hl20:((1:Nat):Int)<=(l2:Int):=af
   go_wp2_with fail;go_end0;have hy0:ys=[]:=by have:=hrk.1;simp at this;exact List.length_eq_zero_iff.1 af
   have h20:l2 - 1=0:=af
   rw[h20] at fin;exact⟨rfl,fin a2 0 (by rw[hy0];exact a_.nil _ _ _ ah) (He rfl)⟩
  ·go_wp2_with fail;go_end0;exact⟨rfl,fin _ _ (hrk.tail af) (HS.low.k.tail 4)⟩
def bN1:ByteArray:=⟨#[110,49]⟩
def bN2:ByteArray:=⟨#[110,50]⟩
def bN3:ByteArray:=⟨#[110,51]⟩
def zB:ByteArray:=⟨#[101,97,115,116]⟩
def Ek:ByteArray:=⟨#[119,101,115,116]⟩
def Em:ByteArray:=⟨#[102,97,115,116]⟩
def El:ByteArray:=⟨#[115,108,111,119]⟩
def bE:ByteArray:=⟨#[]⟩
def jE:Cl:=⟨[⟨bN1,zB,2000,3,0,G_,[]⟩,⟨bN2,zB,1500,2,0,G_,[]⟩,⟨bN3,Ek,2000,2,0,G_,[]⟩],[⟨Em,G_,G_,zB⟩,⟨El,Hb,Hb,bE⟩],[],[],[],0⟩
theorem oI(w:World):Calls Tryz.prog 30 #[] w λe w'=> ∃d,e=Ha (Hc #[J d.a1 d.l1 d.c1,J d.a2 d.l2 d.c2,J d.a3 d.l3 d.c3,J d.a4 d.l4 d.c4,J d.a5 d.l5 d.c5,GZ G6 0])/\dz w' d jE.raw (λk=>w.heap.size<=k)/\Below w.heap.size w w':=by
 go_enter Tryz.func30,Tryz.ntmps30;go_wp2;refine bodyPost_ret (v:=Hc #[J (F_ ⟨w.heap.size+1,0,U⟩) 3 3,J (F_ ⟨w.heap.size+1+1,0,U⟩) 2 2,J U 0 0,J U 0 0,J U 0 0,GZ G6 0]) (by simp[results,Tryz.results30,go_sem]) rfl ⟨⟨F_ ⟨w.heap.size+1,0,U⟩,3,3,F_ ⟨w.heap.size+1+1,0,U⟩,2,2,U,0,0,U,0,0,U,0,0⟩,rfl,⟨λk=>if k=w.heap.size+1 then 1 else 2,?_,?_,?_,?_,?_⟩,cI _ _ _ _⟩
 ·refine⟨rfl,Fq _,show (3:Nat)<=9223372036854775807 by omega,Hd ⟨w.heap.size+1,_,λ_ _=>0,rfl,jR _ _ _ _,⟨by omega,if_pos rfl⟩,?_,?_,?_⟩⟩
  ·intro j r hj;rcases j with _|_|_|j <;> first|(cases hj;rfl)|(simp[jE,Cl.raw] at hj)
  ·intro j r hj i f hi;rcases j with _|_|_|j <;> first|cases hj|(simp[jE,Cl.raw] at hj;done)
   all_goals
    rcases i with _|_|_|_|_|_|_|i <;> first|cases hi|(simp[ndF] at hi;done)
   all_goals first|exact⟨_,rfl,rfl,by decide⟩|exact⟨_,rfl,rfl⟩|exact⟨_,rfl,U,0,0,rfl,rfl,Fq _,by decide,λj x hx=>by simp at hx,He rfl⟩
  ·intro j r i zs j' r' i' zs' hj hi hz;exfalso;rcases j with _|_|_|j <;> first|cases hj|(simp[jE,Cl.raw] at hj;done)
   all_goals
    rcases i with _|_|_|_|_|_|_|i <;> first|(cases hi;done)|(cases hi;exact hz rfl)|(simp[ndF] at hi;done)
 ·refine⟨rfl,Fq _,show (2:Nat)<=9223372036854775807 by omega,Hd ⟨w.heap.size+1+1,_,λ_ _=>0,rfl,jQ _ _ _ _,⟨by omega,if_neg af⟩,?_,?_,?_⟩⟩
  ·intro j r hj;rcases j with _|_|j <;> first|(cases hj;rfl)|(simp[jE,Cl.raw] at hj)
  ·intro j r hj i f hi;rcases j with _|_|j <;> first|cases hj|(simp[jE,Cl.raw] at hj;done)
   all_goals
    rcases i with _|_|_|_|i <;> first|cases hi|(simp[kdF] at hi;done)
   all_goals first|exact⟨_,rfl,rfl,by decide⟩|exact⟨_,rfl,rfl⟩
  ·intro j r i zs j' r' i' zs' hj hi hz;exfalso;rcases j with _|_|j <;> first|cases hj|(simp[jE,Cl.raw] at hj;done)
   all_goals
    rcases i with _|_|_|_|i <;> first|(cases hi;done)|(simp[kdF] at hi;done)
 ·exact pP
 ·exact pP
 ·exact pP
structure CS (B:Nat) (w0:World) (p:Nat) (v:Value) (len:Nat) (wa wx:World) (bc:Nat) (d:Ad) (c:Cl):Prop where
 blk:wx.heap[bc]?=F_ (G7 (clv d c.now) 29 (0,0))
 res:wx.heap[wa.heap.size]?=F_ (G7 (clo6 U 0 0 U 0 0 U 0 0 U 0 0 U 0 0 0) 29 (0,0))
 lt:wa.heap.size<bc
 row:aE wx d c.raw
 low:Low wa.heap.size wx d
 dr:Dr B w0 p v len wa wx
 ns:c.ns.length=3
 ks:c.ks.length=2
section
variable {B:Nat} {w0:World} {p:Nat} {v:Value} {len:Nat} {wa wx w2:World} {bc:Nat} {d:Ad} {c:Cl}
theorem CS.bp(h:CS B w0 p v len wa wx bc d c):¬bc=p:=by have:=h.dr.lt;have:=h.lt;omega
theorem CS.below(h:CS B w0 p v len wa wx bc d c) (hb:Below wx.heap.size wx w2):CS B w0 p v len wa w2 bc d c:=
 ⟨(hb.block _ (aa h.blk)).trans h.blk,(hb.block _ (aa h.res)).trans h.res,h.lt,h.row.below hb,h.low.to (Fq _) (λ_ u=>u.below hb),h.dr.below hb,h.ns,h.ks⟩
theorem CS.draw(h:CS B w0 p v len wa wx bc d c) (hs:Src B w0 p v len w2) (hg:wx.grownBy w2 (F_ p)):CS B w0 p v len wa w2 bc d c:=
 ⟨gk hg h.bp h.blk,gk hg (by have:=h.dr.lt;omega) h.res,h.lt,h.row.bP (bW h.dr.src) (aZ hg),h.low.to (Fq _) (λ_ u=>u.draw hs hg),h.dr.next hs hg,h.ns,h.ks⟩
theorem CS.put(h:CS B w0 p v len wa wx bc d c) {g:Ad} {c':Cl} (hr:aE wx g c'.raw) (hl:Low wa.heap.size wx g) (hn:c'.ns.length=3) (hk:c'.ks.length=2):
  CS B w0 p v len wa ((((((wx.setCell ⟨bc,0,U⟩ (J g.a1 g.l1 g.c1)).setCell ⟨bc,1,U⟩ (J g.a2 g.l2 g.c2)).setCell ⟨bc,2,U⟩ (J g.a3 g.l3 g.c3)).setCell ⟨bc,3,U⟩ (J g.a4 g.l4 g.c4)).setCell ⟨bc,4,U⟩ (J g.a5 g.l5 g.c5)).setCell ⟨bc,5,U⟩ (GZ G6 c'.now)) bc g c':=by
 obtain⟨hlt,hk9,h6⟩:=BK;have hle:wa.heap.size<=bc:=Nat.le_of_lt hlt;exact⟨h6,(hk9.block _ (aa h.res) af).trans h.res,hlt,hr.bP (cE h.blk) hk9,hl.to (Fq _) (λ_ u=>u.set.set.set.set.set.set),(((((h.dr.set _ hle).set _ hle).set _ hle).set _ hle).set _ hle).set _ hle,hn,hk⟩
end
def YS(B:Nat) (w0:World) (p:Nat) (v:Value) (len:Nat) (wa:World) (bc:Nat) (d:Ad) (c:Cl) (s:Value) (wx:World):Prop:=∃(r:Nat) (g:Ad) (o:Co),s=Hf (F_ ⟨r,0,U⟩)/\CS B w0 p v len wa wx bc d c/\wx.heap[r]?=F_ (G7 #[J g.a1 g.l1 g.c1,J g.a2 g.l2 g.c2,J g.a3 g.l3 g.c3,J g.a4 g.l4 g.c4,J g.a5 g.l5 g.c5,GZ G6 o.c.now,I o.n,GZ G6 o.p] 33 (0,0))/\aE wx g o.c.raw/\Low wa.heap.size wx g/\(o.p=0->Gd c o.c)/\¬r=bc/\¬r=p
section
variable {B:Nat} {w0:World} {p:Nat} {v:Value} {len:Nat} {wa wr w9 W:World} {bc:Nat} {d g:Ad} {c:Cl} {o:Co} {X:Nat}
theorem CW(hs:CS B w0 p v len wa wr bc d c) (hb:Below wr.heap.size wr w9) (ho:gA X w9 g o.c.raw) (hX:wa.heap.size<=X) (hg:o.p=0->Gd c o.c):YS B w0 p v len wa bc d c (Hf (F_ ⟨w9.heap.size,0,U⟩)) (w9.alloc (G7 #[J g.a1 g.l1 g.c1,J g.a2 g.l2 g.c2,J g.a3 g.l3 g.c3,J g.a4 g.l4 g.c4,J g.a5 g.l5 g.c5,GZ G6 o.c.now,I o.n,GZ G6 o.p] 33)):=by
 have h1:=aa hs.blk;have h2:=hb.size;have h3:=hs.dr.src.kI;exact⟨_,g,o,rfl,hs.below (hb.trans ((aq _ _).mono h2)),(Fs:(w9.alloc _).heap[w9.heap.size]?=_),ho.row.below (aq _ _),ho.low.to hX (λ_ u=>u.below (aq _ _)),hg,by omega,by omega⟩
theorem CV(hs:CS B w0 p v len wa wr bc d c) (hb:Below wr.heap.size wr w9) (hr:w9.heap[wr.heap.size]?=F_ (G7 #[J U 0 0,J U 0 0,J U 0 0,J U 0 0,J U 0 0,GZ G6 0,I ⟨#[]⟩,GZ G6 0] 33 (0,0))) (ho:gA X w9 g o.c.raw) (hX:wa.heap.size<=X) (hn:o.n.size<=9223372036854775807) (hg:o.p=0->Gd c o.c):YS B w0 p v len wa bc d c (Hf (F_ ⟨wr.heap.size,0,U⟩)) (w9.setRow wr.heap.size #[J g.a1 g.l1 g.c1,J g.a2 g.l2 g.c2,J g.a3 g.l3 g.c3,J g.a4 g.l4 g.c4,J g.a5 g.l5 g.c5,GZ G6 o.c.now,I o.n,GZ G6 o.p]):=by
 have h1:=aa hs.blk;have h3:=hs.dr.src.kI;obtain⟨c',hl,hr'⟩:=ho.row.res (p:=wr.heap.size) (w':=w9.setRow wr.heap.size #[J g.a1 g.l1 g.c1,J g.a2 g.l2 g.c2,J g.a3 g.l3 g.c3,J g.a4 g.l4 g.c4,J g.a5 g.l5 g.c5,GZ G6 o.c.now,I o.n,GZ G6 o.p]) ⟨⟨rfl,rfl,rfl,by simp,λk _ hn=>setRow_other _ _ _ _ hn⟩,λi x h=>by
  rw[ar hr i] at h
  rcases i with _|_|_|_|_|_|_|_|i
  all_goals first
   | exact⟨by omega,λ_=>rfl⟩
   | (cases h;exact⟨by omega,λ⟨_,e⟩=>by cases e⟩)
   | (simp at h),o.n,ar (setRow_heap _ _ _ #[J g.a1 g.l1 g.c1,J g.a2 g.l2 g.c2,J g.a3 g.l3 g.c3,J g.a4 g.l4 g.c4,J g.a5 g.l5 g.c5,GZ G6 o.c.now,I o.n,GZ G6 o.p] _ _ hr) 6,hn⟩
 have e:c'.now=o.c.now:=hl.2.2.2.2.2;have hbw:Below wr.heap.size wr (w9.setRow wr.heap.size #[J g.a1 g.l1 g.c1,J g.a2 g.l2 g.c2,J g.a3 g.l3 g.c3,J g.a4 g.l4 g.c4,J g.a5 g.l5 g.c5,GZ G6 o.c.now,I o.n,GZ G6 o.p]):=⟨hb.os,hb.tape,hb.output,by simpa using hb.size,λk hk=>(setRow_other _ _ _ _ af).trans (hb.block k hk)⟩;exact⟨_,g,⟨c',o.n,o.p⟩,rfl,hs.below hbw,by rw[show (Co.mk c' o.n o.p).c.now=o.c.now from e];exact setRow_heap _ _ _ _ _ _ hr,hr',ho.low.to hX (λ_ u=>u.row),λh=>⟨hl.1.trans (hg h).1,hl.2.1.trans (hg h).2⟩,by omega,by omega⟩
end
theorem LoA.up(h:LoA X w a len) (hr:a_ w a len cap m rs) (hN:zL rs) (hn:jG w X):LoA (X+1) w a len:=by
 by_cases hl0:len=0
 ·exact He hl0
 obtain⟨b',o',r,e,_,hx,hat⟩:=hr.at (j:=0) af;obtain⟨t,ht⟩:=hN 0 r hx;obtain⟨v,hv,rfl,_⟩:=hat 0 _ ht;rcases h with h|⟨b,o,h1,h2,h3⟩
 ·exact absurd h hl0
 rw[h1] at e;cases e;refine Hd ⟨b',o',h1,?_,h3⟩;rcases Nat.lt_or_ge X b' with h4|h4
 ·exact h4
 obtain rfl:b'=X:=af
 exact absurd hv (hn _ _)
theorem Low.up(h:Low X w d) (hr:aE w d c.raw) (hn:jG w X):Low (X+1) w d:=
 ⟨h.n.up hr.n (cr (λx=>⟨x.n,rfl⟩) c.ns) hn,h.k.up hr.k (cr (λx=>⟨x.n,rfl⟩) c.ks) hn,h.v.up hr.v (cr (λx=>⟨x.n,rfl⟩) c.vs) hn,h.x.up hr.x (cr (λx=>⟨x.n,rfl⟩) c.xs) hn,h.p.up hr.p (cr (λx=>⟨x.n,rfl⟩) c.ps) hn⟩
def zM(B:Nat) (w0:World) (p:Nat) (v:Value) (len:Nat) (w:World) (e:Ending) (w':World):Prop:=∃(d:Ad) (c:Cl),e=Ha (Hc #[J d.a1 d.l1 d.c1,J d.a2 d.l2 d.c2,J d.a3 d.l3 d.c3,J d.a4 d.l4 d.c4,J d.a5 d.l5 d.c5,GZ G6 c.now])/\aE w' d c.raw/\Low w.heap.size w' d/\Src B w0 p v len w'/\w.grownBy w' (F_ p)
theorem zx {p:Nat} {wa wx:World} (hg:wa.grownBy wx (F_ p)) (hlt:p<wa.heap.size) (hb:wx.heap[wa.heap.size]?=F_ (G7 #[J U 0 0,J U 0 0,J U 0 0,J U 0 0,J U 0 0,GZ G6 0] 29 (0,0))) (hr:aE wx d c.raw) (hl:Low wa.heap.size wx d) (hs:Src B w0 p v len wx):
  zM B w0 p v len wa (Ha (Hc #[J d.a1 d.l1 d.c1,J d.a2 d.l2 d.c2,J d.a3 d.l3 d.c3,J d.a4 d.l4 d.c4,J d.a5 d.l5 d.c5,GZ G6 c.now])) ((((((wx.setCell ⟨wa.heap.size,0,U⟩ (J d.a1 d.l1 d.c1)).setCell ⟨wa.heap.size,1,U⟩ (J d.a2 d.l2 d.c2)).setCell ⟨wa.heap.size,2,U⟩ (J d.a3 d.l3 d.c3)).setCell ⟨wa.heap.size,3,U⟩ (J d.a4 d.l4 d.c4)).setCell ⟨wa.heap.size,4,U⟩ (J d.a5 d.l5 d.c5)).setCell ⟨wa.heap.size,5,U⟩ (GZ G6 c.now)):=by
 have hk9:=(((((aL.refl (λk=>k=wa.heap.size) wx).set (i:=0) (v:=J d.a1 d.l1 d.c1) rfl).set (i:=1) (v:=J d.a2 d.l2 d.c2) rfl).set (i:=2) (v:=J d.a3 d.l3 d.c3) rfl).set (i:=3) (v:=J d.a4 d.l4 d.c4) rfl).set (i:=4) (v:=J d.a5 d.l5 d.c5) rfl |>.set (i:=5) (v:=GZ G6 c.now) rfl;have hd:=(((((((⟨hs,hg,hlt⟩:Dr B w0 p v len wa wx).set (i:=0) (J d.a1 d.l1 d.c1) (Fq _)).set (i:=1) (J d.a2 d.l2 d.c2) (Fq _)).set (i:=2) (J d.a3 d.l3 d.c3) (Fq _)).set (i:=3) (J d.a4 d.l4 d.c4) (Fq _)).set (i:=4) (J d.a5 d.l5 d.c5) (Fq _)).set (i:=5) (GZ G6 c.now) (Fq _));exact⟨d,c,rfl,hr.bP (cE (d:=ad0) hb) hk9,hl.to (Fq _) (λ_ u=>u.set.set.set.set.set.set),hd.src,hd.gr⟩
theorem lO {p:Nat} (h:Src B w0 p v len w):
  Calls Tryz.prog 10 #[Hf (F_ ⟨p,0,U⟩)] w (zM B w0 p v len w):=by
 have hag:∀(d:Ad) (c:Cl) (t:ByteArray) (w:World),aE w d c.raw->Calls Tryz.prog 31 #[Hc #[J d.a1 d.l1 d.c1,J d.a2 d.l2 d.c2,J d.a3 d.l3 d.c3,J d.a4 d.l4 d.c4,J d.a5 d.l5 d.c5,GZ G6 c.now],I t] w (fS (λo=>(o.p=0->Gd c o.c)/\o.n.size<=9223372036854775807) w):=λd c t w hr=>(iR d c t w hr).mono λe w' ⟨g,o,h1,h2,h3,h4⟩=>⟨g,o,h1,⟨h2.gd,h2.nm⟩,h3,h4⟩;have hds:=λ(B:Nat) (w0:World) (p:Nat) (v:Value) (len:Nat) (w:World) (h:Src B w0 p v len w)=>tE h;have HAG:=ae hag;have HDS:=ae hds;have HD:=ae (Dr.start h);clear h hag hds;go_enter Tryz.func10,Tryz.ntmps10;go_wp2_with fail;refine (oI _).mono ?_;rintro e w1 ⟨d,rfl,ho,hb⟩;have HD1:=ae ((HD.alloc (G7 (clo6 U 0 0 U 0 0 U 0 0 U 0 0 U 0 0 0) 29)).below hb);obtain⟨HA0,hbx⟩:=aT hb;have hl1:=ho.lo (B:=w.heap.size) (λk s=>by simp at s;omega);have hba:=aq w1 (G7 (clv d 0) 29);have HS:Hid (∃d' c,CS B w0 p v len w (w1.alloc (G7 (clv d 0) 29)) w1.heap.size d' c):=⟨d,jE,⟨(Fs:(w1.alloc _).heap[w1.heap.size]?=_),(hba.block _ (aa HA0)).trans HA0,aa HA0,ho.row.below hba,hl1.to (Fq _) (λ_ u=>u.below hba),HD1.below hba,rfl,rfl⟩⟩;clear ho hb hbx HA0 hl1 HD1 hba;go_wp2;go_loopw [4] (λi wr=> ∃k:Nat,k<=3/\i=GZ G6 k/\Hid (∃d c,CS B w0 p v len w wr w1.heap.size d c)) (λi _=>3 - (intOf i).toNat);case atStart=>exact⟨0,by omega,rfl,HS⟩
 case round=>
  clear HS;obtain⟨k,hk,rfl,HX⟩:=hrel;obtain⟨d,c,hs⟩:=HX.out;have HS:=ae hs;clear HX hs;have Bc:=ae HS.blk;obtain⟨k0,k1,k2,k3,k4,k5⟩:=cs6 Bc;have ltk:=aa Bc.out;by_cases hlt:k<3
  ·obtain⟨a1,l1,y1,a2,l2,y2,a3,l3,y3,a4,l4,y4,a5,l5,y5⟩:=d;have hl1:c.ns.length=l1:=AZ
   obtain rfl:3=l1:=HS.ns.symm.trans hl1;obtain⟨b,o,x,rfl,hb,hx,hat⟩:=bO (HS.row.n) hlt;obtain⟨va,vl,vc,-,-,-,c0,c1,c2,c3,c4,c5,c6⟩:=aU hat;clear hat hx c1 c2 c3 c4 c5 c6;have HRW:Hid ((wr.alloc (G7 #[J U 0 0,J U 0 0,J U 0 0,J U 0 0,J U 0 0,GZ G6 0,I ⟨#[]⟩,GZ G6 0] 33)).drew.heap[wr.heap.size]?=F_ (G7 #[J U 0 0,J U 0 0,J U 0 0,J U 0 0,J U 0 0,GZ G6 0,I ⟨#[]⟩,GZ G6 0] 33 (0,0))):=Fs;go_wp2_with fail;go_cut [5] from 13 to 20 (λs wx=>YS B w0 p v len w w1.heap.size ⟨F_ ⟨b,o,U⟩,3,y1,a2,l2,y2,a3,l3,y3,a4,l4,y4,a5,l5,y5⟩ c s wx);case first=>
    go_region_with (go_at_call 31;first
     | (refine (HAG.out _ c _ wr.drew (HS.row.below (bf _))).mono ?_;rintro e w9 ⟨g,o,rfl,⟨hgd,hnm⟩,ho,hb⟩)
     | (refine (HAG.out _ c _ (wr.alloc (G7 #[J U 0 0,J U 0 0,J U 0 0,J U 0 0,J U 0 0,GZ G6 0,I ⟨#[]⟩,GZ G6 0] 33)).drew (HS.row.below ((aq _ _).trans ((bf _).mono aH)))).mono ?_;rintro e w9 ⟨g,o,rfl,⟨hgd,hnm⟩,ho,hb⟩;have hr9:=(hb.block _ (aa HRW.out)).trans HRW.out;obtain⟨r0,r1,r2,r3,r4,r5,r6,r7⟩:=cs8 hr9;have hrl:=aa hr9;have fr0:=al hr9 0;have fr1:=al hr9 1;have fr2:=al hr9 2;have fr3:=al hr9 3;have fr4:=al hr9 4;have fr5:=al hr9 5;have fr6:=al hr9 6;have fr7:=al hr9 7))
    all_goals (
     go_wp2_with fail
     go_meet
     first
      | (rw[eight hr9];exact CV HS.out (((aq _ _).trans ((bf _).mono aH)).trans (hb.mono (show wr.heap.size<=(wr.alloc _).heap.size by simp))) hr9 ho (FA HS.dr.size (show wr.heap.size<=(wr.alloc _).heap.size by simp)) hnm hgd)
      | exact CW HS.out ((bf _).trans (hb.mono (Fq _))) ho HS.dr.size hgd)
   case rest=>
    obtain⟨r,g,q,rfl,hcs,hy,hgr,hgl,hgd,hrb,hrp⟩:=hcut;generalize (⟨F_ ⟨b,o,U⟩,3,y1,a2,l2,y2,a3,l3,y3,a4,l4,y4,a5,l5,y5⟩:Ad)=d9 at hcs;clear k0 k1 k2 k3 k4 k5 ltk c0 Bc HS HRW hb;have HS:=ae hcs;have HY:=ae hy;have HGR:=ae hgr;have HGL:=ae hgl;have HGD:=ae hgd;clear hcs hy hgr hgl hgd;obtain⟨r0,r1,r2,r3,r4,r5,r6,r7⟩:=cs8 HY;have hrl:=aa HY.out;by_cases hp:q.p=0
    ·have hp1:(q.p==0)=Hb:=et
     go_wp2_with fail;refine (cK HS.dr.src 4 ah).mono ?_;rintro e w4 ⟨he,hs,hg⟩;obtain⟨bb,rfl⟩:=d_ he;replace HGR:=ae (HGR.bP (bW HS.dr.src) (aZ hg));replace HGL:=ae (HGL.to (Fq _) (λ_ u=>u.draw hs hg));replace HS:=ae (HS.draw hs hg);replace HY:=ae (gk hg hrp HY.out);clear he hs hg r0 r1 r2 r3 r4 r5 r6 r7 hrl;obtain⟨r0,r1,r2,r3,r4,r5,r6,r7⟩:=cs8 HY;have hrl:=aa HY.out;have Bc:=ae HS.blk;obtain⟨k0,k1,k2,k3,k4,k5⟩:=cs6 Bc;obtain⟨ltk,f0,f1,f2,f3,f4,f5⟩:=rO;have hgd:=HGD.out hp;have hn3:=hgd.1.trans HS.ns;have hk2:=hgd.2.trans HS.ks;have HN3:=ae hn3;have HK2:=ae hk2;clear hgd hn3 hk2;cases bb
     ·go_wp2;exact⟨⟨k+1,by omega,by go_num,g,q.c,HS.put HGR.out HGL.out HN3.out HK2.out⟩,by simp[intOf];omega⟩
     ·go_wp2;exact⟨⟨k+1,by omega,by go_num,d9,c,HS.out⟩,by simp[intOf];omega⟩
    ·have hp1:(q.p==0)=G_:=et
     go_wp2;exact⟨⟨k+1,by omega,by go_num,d9,c,HS.out⟩,by simp[intOf];omega⟩
  ·obtain rfl:3=k:=af
   obtain⟨_,_,_,_,_,kq,mq,sz,hkq,hm0,hm1,hs0,hs1,hblk⟩:=HS.dr.src;have q3:=ar hblk 3;clear hblk hkq hm0 hm1;have hpl:=HS.dr.src.kI;go_wp2_with fail;refine (HS.dr.src.n (14+sz) af).mono ?_;rintro e w4 ⟨r,rfl,ra,rb,hs,hg⟩;have HX:Hid (∃d c,CS B w0 p v len w w4 w1.heap.size d c):=⟨d,c,HS.draw hs hg⟩;clear hs hg HS q3 k0 k1 k2 k3 k4 k5 ltk Bc hpl;go_wp2;go_loopw [6] (λi wr=> ∃m:Int,0<=m/\m<=29/\i=GZ G6 m/\Hid (∃d c,CS B w0 p v len w wr w1.heap.size d c)) (λi _=>(intOf i).toNat);case atStart=>exact⟨4+r,by omega,by omega,by go_num,HX⟩
   case round=>
    clear HX;obtain⟨m,hm0,hm1,rfl,HX⟩:=hrel;obtain⟨d,c,hs⟩:=HX.out;have HS:=ae hs;clear HX hs;have Bc:=ae HS.blk;obtain⟨k0,k1,k2,k3,k4,k5⟩:=cs6 Bc;have ltk:=aa Bc.out;by_cases hlt:0<m
    ·go_wp2_with fail;refine (HDS.out B w0 p v len wr HS.dr.src d c HS.row).mono ?_;rintro e w9 ⟨g,q,rfl,hgd,hgr,hgl,hd9⟩;have HGR:=ae hgr;have HGL:=ae (hgl.to HS.dr.size (λ_ u=>u));have HGD:=ae hgd;replace HS:=ae (HS.draw hd9.src hd9.gr);replace Bc:=ae HS.blk;clear hgr hgl hgd hd9 k0 k1 k2 k3 k4 k5 ltk;obtain⟨k0,k1,k2,k3,k4,k5⟩:=cs6 Bc;obtain⟨ltk,f0,f1,f2,f3,f4,f5⟩:=rO;by_cases hp:q.p=0
     ·have hp1:(q.p==0)=Hb:=et
      have HN3:=ae ((HGD.out hp).1.trans HS.ns);have HK2:=ae ((HGD.out hp).2.trans HS.ks);go_wp2;exact⟨⟨m - 1,by omega,by omega,by go_num,g,q.c,(HS.put HGR.out HGL.out HN3.out HK2.out).below (aq _ _)⟩,by simp[intOf];omega⟩
     ·have hp1:(q.p==0)=G_:=et
      go_wp2;exact⟨⟨m - 1,by omega,by omega,by go_num,d,c,HS.below (aq _ _)⟩,by simp[intOf];omega⟩
    ·obtain rfl:m=0:=af
     go_wp2_with fail;refine (cK HS.dr.src 15 ah).mono ?_;rintro e w5 ⟨he,hs,hg⟩;obtain⟨bb,rfl⟩:=d_ he;replace HS:=ae (HS.draw hs hg);clear he hs hg k0 k1 k2 k3 k4 k5 ltk Bc;cases bb
     ·have Bc:=ae HS.blk;have HRS:=ae HS.res;obtain⟨k0,k1,k2,k3,k4,k5⟩:=cs6 Bc;have ltk:=aa Bc.out;obtain⟨s0,s1,s2,s3,s4,s5⟩:=cs6 HRS;have lts:=aa HRS.out;have g0:=al HRS.out 0;have g1:=al HRS.out 1;have g2:=al HRS.out 2;have g3:=al HRS.out 3;have g4:=al HRS.out 4;have g5:=al HRS.out 5;go_wp2;exact bodyPost_ret (v:=Hc #[J d.a1 d.l1 d.c1,J d.a2 d.l2 d.c2,J d.a3 d.l3 d.c3,J d.a4 d.l4 d.c4,J d.a5 d.l5 d.c5,GZ G6 c.now]) (by simp[results,Tryz.results10,go_sem, *]) rfl (zx HS.dr.gr HS.dr.lt HS.res HS.row HS.low HS.dr.src)
     ·have Bc:=ae HS.blk;obtain⟨k0,k1,k2,k3,k4,k5⟩:=cs6 Bc;have ltk:=aa Bc.out;go_wp2_with fail;refine (qO HS.dr.src (w.heap.size+1) w1.heap.size d c HS.row (HS.low.up HS.row (cE (d:=ad0) HS.res)) HS.blk HS.bp (by have:=HS.dr.src.1;have:=HS.dr.lt;omega) HS.lt (by have:=HS.ns;omega) (by have:=HS.ks;omega)).mono ?_;rintro e w6 ⟨rfl,d6,c6,hsp⟩;have HSP:=ae hsp;have HRS:=ae ((hsp.kept.block _ (aa HS.res) (by have:=HS.dr.lt;omega)).trans HS.res);clear hsp k0 k1 k2 k3 k4 k5 ltk Bc;have Bc:=ae HSP.blk;obtain⟨k0,k1,k2,k3,k4,k5⟩:=cs6 Bc;have ltk:=aa Bc.out;obtain⟨s0,s1,s2,s3,s4,s5⟩:=cs6 HRS;have lts:=aa HRS.out;have g0:=al HRS.out 0;have g1:=al HRS.out 1;have g2:=al HRS.out 2;have g3:=al HRS.out 3;have g4:=al HRS.out 4;have g5:=al HRS.out 5;have hg6:w.grownBy w6 (F_ p):=⟨HSP.kept.os.trans HS.dr.gr.os,HSP.kept.tape.trans HS.dr.gr.tape,HSP.kept.output.trans HS.dr.gr.output,FA HS.dr.gr.size HSP.kept.size,λk hk hn=>(HSP.kept.block k (Fw hk HS.dr.gr.size) (λe=>by rcases e with e|e;exact hn (by rw[e]);omega)).trans (HS.dr.gr.block k hk hn)⟩;have HG6:=ae hg6;clear hg6;go_wp2;exact bodyPost_ret (v:=Hc #[J d6.a1 d6.l1 d6.c1,J d6.a2 d6.l2 d6.c2,J d6.a3 d6.l3 d6.c3,J d6.a4 d6.l4 d6.c4,J d6.a5 d6.l5 d6.c5,GZ G6 c6.now]) (by simp[results,Tryz.results10,go_sem, *]) rfl (zx HG6.out HS.dr.lt HRS.out HSP.row (HSP.low.to (FO _) (λ_ u=>u)) HSP.src)
structure ES (B:Nat) (w0:World) (p:Nat) (v:Value) (len:Nat) (r0:Nat) (wx:World) (bc:Nat) (d:Ad) (c:Cl):Prop where
 blk:wx.heap[bc]?=F_ (G7 (clv d c.now) 29 (0,0))
 res:wx.heap[r0]?=F_ (G7 (clo6 U 0 0 U 0 0 U 0 0 U 0 0 U 0 0 0) 29 (0,0))
 row:aE wx d c.raw
 src:Src B w0 p v len wx
 lt:r0<bc
 bp:¬bc=p
 rp:¬r0=p
 lo:B<=bc
section
variable {B:Nat} {w0:World} {p:Nat} {v:Value} {len:Nat} {r0:Nat} {wx w2:World} {bc:Nat} {d:Ad} {c:Cl}
theorem kS {w':World} (h:Src B w0 p v len w) (hb:Below w.heap.size w w'):Src B w0 p v len w':=h.aB (row:=U) ⟨hb.os,hb.tape,hb.output,hb.size,λk hk _=>hb.block k hk⟩ (by simp) (by simp)
theorem ES.below(h:ES B w0 p v len r0 wx bc d c) (hb:Below wx.heap.size wx w2):ES B w0 p v len r0 w2 bc d c:=
 ⟨(hb.block _ (aa h.blk)).trans h.blk,(hb.block _ (aa h.res)).trans h.res,h.row.below hb,kS h.src hb,h.lt,h.bp,h.rp,h.lo⟩
theorem ES.draw(h:ES B w0 p v len r0 wx bc d c) (hs:Src B w0 p v len w2) (hg:wx.grownBy w2 (F_ p)):ES B w0 p v len r0 w2 bc d c:=
 ⟨gk hg h.bp h.blk,gk hg h.rp h.res,h.row.bP (bW h.src) (aZ hg),hs,h.lt,h.bp,h.rp,h.lo⟩
theorem ES.put(h:ES B w0 p v len r0 wx bc d c) {g:Ad} {c':Cl} (hr:aE wx g c'.raw):
  ES B w0 p v len r0 ((((((wx.setCell ⟨bc,0,U⟩ (J g.a1 g.l1 g.c1)).setCell ⟨bc,1,U⟩ (J g.a2 g.l2 g.c2)).setCell ⟨bc,2,U⟩ (J g.a3 g.l3 g.c3)).setCell ⟨bc,3,U⟩ (J g.a4 g.l4 g.c4)).setCell ⟨bc,4,U⟩ (J g.a5 g.l5 g.c5)).setCell ⟨bc,5,U⟩ (GZ G6 c'.now)) bc g c':=by
 obtain⟨hlt,hk9,h6⟩:=BK;have hg9:wx.grownBy ((((((wx.setCell ⟨bc,0,U⟩ (J g.a1 g.l1 g.c1)).setCell ⟨bc,1,U⟩ (J g.a2 g.l2 g.c2)).setCell ⟨bc,2,U⟩ (J g.a3 g.l3 g.c3)).setCell ⟨bc,3,U⟩ (J g.a4 g.l4 g.c4)).setCell ⟨bc,4,U⟩ (J g.a5 g.l5 g.c5)).setCell ⟨bc,5,U⟩ (GZ G6 c'.now)) (F_ bc):=⟨hk9.os,hk9.tape,hk9.output,hk9.size,λk hk hn=>hk9.block k hk (λe=>hn (by rw[e]))⟩;exact⟨h6,(hk9.block _ (aa h.res) af).trans h.res,hr.bP (cE h.blk) hk9,h.src.aB hg9 (λe=>h.bp (Fp e)) (λk e=>by have:=h.lo;have:=Fp e;omega),hlt,h.bp,h.rp,h.lo⟩
theorem ES.fin(h:ES B w0 p v len r0 wx bc d c) {w:World} (hw:w.heap.size=r0) (hB:w.heap.size<=B) (hW:Below w.heap.size w w0):aE ((((((wx.setCell ⟨r0,0,U⟩ (J d.a1 d.l1 d.c1)).setCell ⟨r0,1,U⟩ (J d.a2 d.l2 d.c2)).setCell ⟨r0,2,U⟩ (J d.a3 d.l3 d.c3)).setCell ⟨r0,3,U⟩ (J d.a4 d.l4 d.c4)).setCell ⟨r0,4,U⟩ (J d.a5 d.l5 d.c5)).setCell ⟨r0,5,U⟩ (GZ G6 c.now)) d c.raw/\Below w.heap.size w ((((((wx.setCell ⟨r0,0,U⟩ (J d.a1 d.l1 d.c1)).setCell ⟨r0,1,U⟩ (J d.a2 d.l2 d.c2)).setCell ⟨r0,2,U⟩ (J d.a3 d.l3 d.c3)).setCell ⟨r0,3,U⟩ (J d.a4 d.l4 d.c4)).setCell ⟨r0,4,U⟩ (J d.a5 d.l5 d.c5)).setCell ⟨r0,5,U⟩ (GZ G6 c.now)):=by
 subst hw;have hk9:=(((((aL.refl (λk=>k=w.heap.size) wx).set (i:=0) (v:=J d.a1 d.l1 d.c1) rfl).set (i:=1) (v:=J d.a2 d.l2 d.c2) rfl).set (i:=2) (v:=J d.a3 d.l3 d.c3) rfl).set (i:=3) (v:=J d.a4 d.l4 d.c4) rfl).set (i:=4) (v:=J d.a5 d.l5 d.c5) rfl |>.set (i:=5) (v:=GZ G6 c.now) rfl;have hb:=hW.trans (h.src.2.2.1.mono hB);exact⟨h.row.bP (cE (d:=ad0) h.res) hk9,hb.trans (hk9.low hb.size (λk e=>by omega))⟩
end
def EY(B:Nat) (w0:World) (p:Nat) (v:Value) (len:Nat) (r0 bc:Nat) (d:Ad) (c:Cl) (s:Value) (wx:World):Prop:=∃(r:Nat) (g:Ad) (o:Co) (c2:Cl),s=Hf (F_ ⟨r,0,U⟩)/\ES B w0 p v len r0 wx bc d c2/\c2.ps.length=c.ps.length/\wx.heap[r]?=F_ (G7 #[J g.a1 g.l1 g.c1,J g.a2 g.l2 g.c2,J g.a3 g.l3 g.c3,J g.a4 g.l4 g.c4,J g.a5 g.l5 g.c5,GZ G6 o.c.now,I o.n,GZ G6 o.p] 33 (0,0))/\aE wx g o.c.raw/\(o.p=0->o.c.ps.length=c.ps.length)/\¬r=bc/\¬r=p
section
variable {B:Nat} {w0:World} {p:Nat} {v:Value} {len:Nat} {r0 r:Nat} {w9:World} {bc:Nat} {d g:Ad} {c:Cl} {o:Co} {X:Nat}
theorem zp(hs:ES B w0 p v len r0 w9 bc d c) (ho:gA X w9 g o.c.raw) (hg:o.p=0->o.c.ps.length=c.ps.length):EY B w0 p v len r0 bc d c (Hf (F_ ⟨w9.heap.size,0,U⟩)) (w9.alloc (G7 #[J g.a1 g.l1 g.c1,J g.a2 g.l2 g.c2,J g.a3 g.l3 g.c3,J g.a4 g.l4 g.c4,J g.a5 g.l5 g.c5,GZ G6 o.c.now,I o.n,GZ G6 o.p] 33)):=by
 have h1:=aa hs.blk;have h3:=hs.src.kI;exact⟨_,g,o,c,rfl,hs.below (aq _ _),rfl,(Fs:(w9.alloc _).heap[w9.heap.size]?=_),ho.row.below (aq _ _),hg,by omega,by omega⟩
theorem zo(hs:ES B w0 p v len r0 w9 bc d c) (h1:bc<r) (h2:¬r=p) (hr:w9.heap[r]?=F_ (G7 #[J U 0 0,J U 0 0,J U 0 0,J U 0 0,J U 0 0,GZ G6 0,I ⟨#[]⟩,GZ G6 0] 33 (0,0))) (ho:gA X w9 g o.c.raw) (hn:o.n.size<=9223372036854775807) (hg:o.p=0->o.c.ps.length=c.ps.length):EY B w0 p v len r0 bc d c (Hf (F_ ⟨r,0,U⟩)) (w9.setRow r #[J g.a1 g.l1 g.c1,J g.a2 g.l2 g.c2,J g.a3 g.l3 g.c3,J g.a4 g.l4 g.c4,J g.a5 g.l5 g.c5,GZ G6 o.c.now,I o.n,GZ G6 o.p]):=by
 have hR:zJ r w9 (w9.setRow r #[J g.a1 g.l1 g.c1,J g.a2 g.l2 g.c2,J g.a3 g.l3 g.c3,J g.a4 g.l4 g.c4,J g.a5 g.l5 g.c5,GZ G6 o.c.now,I o.n,GZ G6 o.p]):=⟨⟨rfl,rfl,rfl,by simp,λk _ hn=>setRow_other _ _ _ _ hn⟩,λi x h=>by
  rw[ar hr i] at h
  rcases i with _|_|_|_|_|_|_|_|i
  all_goals first
   | exact⟨by omega,λ_=>rfl⟩
   | (cases h;exact⟨by omega,λ⟨_,e⟩=>by cases e⟩)
   | (simp at h),o.n,ar (setRow_heap _ _ _ #[J g.a1 g.l1 g.c1,J g.a2 g.l2 g.c2,J g.a3 g.l3 g.c3,J g.a4 g.l4 g.c4,J g.a5 g.l5 g.c5,GZ G6 o.c.now,I o.n,GZ G6 o.p] _ _ hr) 6,hn⟩
 obtain⟨c',hl,hr'⟩:=ho.row.res hR;obtain⟨c2,hl2,hr2⟩:=hs.row.res hR;have e:c'.now=o.c.now:=hl.2.2.2.2.2;have e2:c2.now=c.now:=hl2.2.2.2.2.2;have hlt:=hs.lt;have hlo:=hs.lo;have hg9:w9.grownBy (w9.setRow r #[J g.a1 g.l1 g.c1,J g.a2 g.l2 g.c2,J g.a3 g.l3 g.c3,J g.a4 g.l4 g.c4,J g.a5 g.l5 g.c5,GZ G6 o.c.now,I o.n,GZ G6 o.p]) (F_ r):=⟨rfl,rfl,rfl,by simp,λk _ hn=>setRow_other _ _ _ _ (λe=>hn (by rw[e]))⟩;exact⟨_,g,⟨c',o.n,o.p⟩,c2,rfl,⟨by rw[setRow_other _ _ _ _ af,e2];exact hs.blk,(setRow_other _ _ _ _ af).trans hs.res,hr2,hs.src.aB hg9 (λe=>h2 (Fp e)) (λk e=>by have:=Fp e;omega),hs.lt,hs.bp,hs.rp,hs.lo⟩,hl2.2.2.2.2.1,by rw[show (Co.mk c' o.n o.p).c.now=o.c.now from e];exact setRow_heap _ _ _ _ _ _ hr,hr',λh=>hl.2.2.2.2.1.trans (hg h),by omega,h2⟩
end
theorem zS {Why:Nat->Prop} (h9:∀i,9<i->¬Why i) {c:Cl} {o:Co} (h:∃i,Why i/\o=co0 (bF i)) (h0:o.p=0):o.c.ps.length=c.ps.length:=by
 exact yA
theorem eQ.E2(h:eQ c t o) (h0:o.p=0):o.c.ps.length=c.ps.length:=by
 rcases h with h|⟨n,_,⟨_,rfl⟩|⟨_,rfl⟩⟩
 ·exact zS mw h h0
 ·cases h0
 ·simp[km]
theorem eE.E2 {n:Int} (h:eE c n o) (h0:o.p=0):o.c.ps.length=c.ps.length:=by
 rcases h with ⟨_,rfl⟩|⟨_,_,rfl⟩|⟨_,_,rfl⟩
 ·cases h0
 ·cases h0
 ·rfl
theorem kO(v:Value) (len:Nat) (w:World) (hR:fE w.heap.size w v len):
  Calls Tryz.prog 4 #[v] w (λe w'=> ∃(d:Ad) (c:Cl) (t:ByteArray),e=Ha (Hg #[Hc #[J d.a1 d.l1 d.c1,J d.a2 d.l2 d.c2,J d.a3 d.l3 d.c3,J d.a4 d.l4 d.c4,J d.a5 d.l5 d.c5,GZ G6 c.now],I t])/\aE w' d c.raw/\t.size<=9223372036854775807/\Below w.heap.size w w'):=by
 have hcl:=λ(B:Nat) (w0:World) (p:Nat) (v:Value) (len:Nat) (w:World) (h:Src B w0 p v len w)=>lO h;have hki:∀(d:Ad) (c:Cl) (t:ByteArray) (w:World),aE w d c.raw->Calls Tryz.prog 12 #[Hc #[J d.a1 d.l1 d.c1,J d.a2 d.l2 d.c2,J d.a3 d.l3 d.c3,J d.a4 d.l4 d.c4,J d.a5 d.l5 d.c5,GZ G6 c.now],I t] w (fS (λo=>(o.p=0->o.c.ps.length=c.ps.length)/\o.n.size<=9223372036854775807) w):=λd c t w hr=>(m_ d c t w hr).mono λe w' ⟨g,o,h1,h2,h3,h4⟩=>⟨g,o,h1,⟨h2.E2,h2.nm⟩,h3,h4⟩;have hti:∀(d:Ad) (c:Cl) (n:Int) (w:World),aE w d c.raw->Calls Tryz.prog 13 #[Hc #[J d.a1 d.l1 d.c1,J d.a2 d.l2 d.c2,J d.a3 d.l3 d.c3,J d.a4 d.l4 d.c4,J d.a5 d.l5 d.c5,GZ G6 c.now],GZ G6 n] w (fS (λo=>(o.p=0->o.c.ps.length=c.ps.length)/\o.n.size<=9223372036854775807) w):=λd c n w hr=>(mV d c n w hr).mono λe w' ⟨g,o,h1,h2,h3,h4⟩=>⟨g,o,h1,⟨h2.E2,h2.nm⟩,h3,h4⟩;have HCL:=ae hcl;have HKI:=ae hki;have HTI:=ae hti;have hR1:fE (w.alloc (G7 (clo6 U 0 0 U 0 0 U 0 0 U 0 0 U 0 0 0) 29)).heap.size (w.alloc (G7 (clo6 U 0 0 U 0 0 U 0 0 U 0 0 U 0 0 0) 29)) v len:=by
  obtain⟨h1,a0,cap,h2,h3⟩:=hR.below (aq w (G7 (clo6 U 0 0 U 0 0 U 0 0 U 0 0 U 0 0 0) 29));exact⟨h1,a0,cap,h2,λj hj=>by obtain⟨b,off,z,h4,h5,h6⟩:=h3 j hj;exact⟨b,off,z,h4,by simp;omega,h6⟩⟩
 have HR:=ae hR1;have HRES:Hid ((w.alloc (G7 (clo6 U 0 0 U 0 0 U 0 0 U 0 0 U 0 0 0) 29)).heap[w.heap.size]?=F_ (G7 (clo6 U 0 0 U 0 0 U 0 0 U 0 0 U 0 0 0) 29 (0,0))):=Fs;clear hR hR1 hcl hki hti;go_enter Tryz.func4,Tryz.ntmps4;go_wp2_with fail;refine (oJ v len _ HR.out).mono ?_;rintro e w1 ⟨p,rfl,hs1⟩;have HS1:=ae hs1;have HR1:=upK HRES hs1.2.2.1;clear hs1;go_wp2_with fail;refine (HCL.out _ _ _ _ _ _ HS1.out).mono ?_;rintro e w2 ⟨d,c,rfl,hr,-,hs,hg⟩;have hba:=aq w2 (G7 (clv d c.now) 29);have hrp:¬w.heap.size=p:=by have:=HS1.1;simp at this;omega
 have hr2:=gk hg hrp HR1.out;have HE:Hid (ES (w.alloc (G7 (clo6 U 0 0 U 0 0 U 0 0 U 0 0 U 0 0 0) 29)).heap.size (w.alloc (G7 (clo6 U 0 0 U 0 0 U 0 0 U 0 0 U 0 0 0) 29)) p v len w.heap.size (w2.alloc (G7 (clv d c.now) 29)) w2.heap.size d c):=⟨(Fs:(w2.alloc _).heap[w2.heap.size]?=_),(hba.block _ (aa hr2)).trans hr2,hr.below hba,kS hs hba,aa hr2,by have:=hs.kI;omega,hrp,by have:=aa hr2;simp;omega⟩;clear hr hs hg hba hr2 HS1 HR1 HRES HR;have hW9:w.heap.size<=(w.alloc (G7 (clo6 U 0 0 U 0 0 U 0 0 U 0 0 U 0 0 0) 29)).heap.size/\Below w.heap.size w (w.alloc (G7 (clo6 U 0 0 U 0 0 U 0 0 U 0 0 U 0 0 0) 29)):=⟨by simp,aq _ _⟩;generalize (w.alloc (G7 (clo6 U 0 0 U 0 0 U 0 0 U 0 0 U 0 0 0) 29))=WA at HE hW9;have HWA:=ae hW9;clear hW9;go_wp2;obtain⟨a1,l1,y1,a2,l2,y2,a3,l3,y3,a4,l4,y4,a5,l5,y5⟩:=d;have hl5:c.ps.length=l5:=by simpa using (show (c.ps.map pdF).length=l5 from HE.row.p.1)
 have hm5:l5<=9223372036854775807:=FA HE.row.p.2.1 HE.row.p.2.2.1;go_loopw [6] (λi wr=> ∃(k:Nat),k<=l5/\i=GZ G6 k/\Hid (ES WA.heap.size WA p v len w.heap.size wr w2.heap.size ⟨a1,l1,y1,a2,l2,y2,a3,l3,y3,a4,l4,y4,a5,l5,y5⟩ c)) (λi _=>l5 - (intOf i).toNat);case atStart=>exact⟨0,by omega,rfl,HE⟩
 case round=>
  clear HE;obtain⟨k,hk,rfl,HE⟩:=hrel;have Bc:=ae HE.blk;obtain⟨k0,k1,k2,k3,k4,k5⟩:=cs6 Bc;have ltk:=aa Bc.out;by_cases hlt:k<l5
  ·obtain⟨b,o,x,rfl,hb,hx,hat⟩:=bN (HE.row.p) hlt;obtain⟨va,vl,vc,-,-,-,-,c0,c1,c2,c3,c4,c5⟩:=aR hat;clear hat c0 c1 c2 c3 c5;by_cases hxd:x.d=⟨#[]⟩
   ·have hxe:=cC hxd;go_wp2_with fail;exact⟨⟨k+1,by omega,by go_num,HE.out⟩,by simp[intOf];omega⟩
   have hxe:=bg hxd;go_wp2_with fail;refine (cK HE.src 3 ah).mono ?_;rintro e w4 ⟨he,hs,hg⟩;obtain⟨bb,rfl⟩:=d_ he;have hc4:=(cell_kept (aZ hg) hb (λe=>by subst e;exact bW HE.src _ _ c4)).trans c4;have hb4:=Fw hb hg.size;replace HE:=ae (HE.draw hs hg);clear he hs hg k0 k1 k2 k3 k4 k5 ltk Bc c4 hb;have Bc:=ae HE.blk;obtain⟨k0,k1,k2,k3,k4,k5⟩:=cs6 Bc;have ltk:=aa Bc.out;cases bb;case true=>
    go_wp2_with fail;exact⟨⟨k+1,by omega,by go_num,HE.out⟩,by simp[intOf];omega⟩
   have HRW:Hid ((w4.alloc (G7 #[J U 0 0,J U 0 0,J U 0 0,J U 0 0,J U 0 0,GZ G6 0,I ⟨#[]⟩,GZ G6 0] 33)).drew.heap[w4.heap.size]?=F_ (G7 #[J U 0 0,J U 0 0,J U 0 0,J U 0 0,J U 0 0,GZ G6 0,I ⟨#[]⟩,GZ G6 0] 33 (0,0))):=Fs;go_wp2_with fail;go_cut [7] from 31 to 38 (λs wx=>EY WA.heap.size WA p v len w.heap.size w2.heap.size ⟨a1,l1,y1,a2,l2,y2,a3,l3,y3,a4,l4,y4,F_ ⟨b,o,U⟩,l5,y5⟩ c s wx);case first=>
    go_region_with (go_at_call 12;first
     | (refine (HKI.out _ c _ w4.drew (HE.row.below (bf _))).mono ?_;rintro e w9 ⟨g,q,rfl,⟨hgd,hnm⟩,ho,hb⟩;have HE9:=ae (HE.below ((bf _).trans (hb.mono (Fq _)))))
     | (refine (HKI.out _ c _ (w4.alloc (G7 #[J U 0 0,J U 0 0,J U 0 0,J U 0 0,J U 0 0,GZ G6 0,I ⟨#[]⟩,GZ G6 0] 33)).drew (HE.row.below ((aq _ _).trans ((bf _).mono aH)))).mono ?_;rintro e w9 ⟨g,q,rfl,⟨hgd,hnm⟩,ho,hb⟩;have HE9:=ae (HE.below (((aq _ _).trans ((bf _).mono aH)).trans (hb.mono (show w4.heap.size<=(w4.alloc _).heap.size by simp))));have hr9:=(hb.block _ (aa HRW.out)).trans HRW.out;obtain⟨r0,r1,r2,r3,r4,r5,r6,r7⟩:=cs8 hr9;have hrl:=aa hr9;have fr0:=al hr9 0;have fr1:=al hr9 1;have fr2:=al hr9 2;have fr3:=al hr9 3;have fr4:=al hr9 4;have fr5:=al hr9 5;have fr6:=al hr9 6;have fr7:=al hr9 7))
    all_goals (
     go_wp2_with fail
     go_meet
     first
      | (rw[eight hr9];exact zo HE9.out ltk (by have:=HE.src.kI;omega) hr9 ho hnm hgd)
      | exact zp HE9.out ho hgd)
   case rest=>
    obtain⟨r,g,q,c2,rfl,hcs,hl2,hy,hgr,hgd,hrb,hrp⟩:=hcut;have HE2:=ae hcs;have HY:=ae hy;have HGR:=ae hgr;have HGD:=ae hgd;have HL2:=ae (hl2.trans hl5);clear hcs hy hgr hgd hl2 k0 k1 k2 k3 k4 k5 ltk Bc HE HRW hc4 hb4 hxe;obtain⟨r0,r1,r2,r3,r4,r5,r6,r7⟩:=cs8 HY;have hrl:=aa HY.out;have Bc:=ae HE2.blk;obtain⟨k0,k1,k2,k3,k4,k5⟩:=cs6 Bc;obtain⟨ltk,f0,f1,f2,f3,f4,f5⟩:=rO;by_cases hp:q.p=0
    ·have hp1:(q.p==0)=Hb:=et
     go_wp2_with fail;have h3:=HE2.put (g:=g) (c':=q.c) HGR.out;have hl3:q.c.ps.length=l5:=(HGD.out hp).trans hl5;generalize ((((((wc.setCell ⟨w2.heap.size,0,U⟩ (J g.a1 g.l1 g.c1)).setCell ⟨w2.heap.size,1,U⟩ (J g.a2 g.l2 g.c2)).setCell ⟨w2.heap.size,2,U⟩ (J g.a3 g.l3 g.c3)).setCell ⟨w2.heap.size,3,U⟩ (J g.a4 g.l4 g.c4)).setCell ⟨w2.heap.size,4,U⟩ (J g.a5 g.l5 g.c5)).setCell ⟨w2.heap.size,5,U⟩ (GZ G6 q.c.now))=W3 at h3 ⊢;have HX:Hid (∃d3 c3,ES WA.heap.size WA p v len w.heap.size W3 w2.heap.size d3 c3/\c3.ps.length=l5):=⟨_,_,h3,hl3⟩;clear h3 hl3 k0 k1 k2 k3 k4 k5 ltk f0 f1 f2 f3 f4 f5 r0 r1 r2 r3 r4 r5 r6 r7 hrl HE2 HY HGR HGD HL2 Bc;exact D5
    ·have hp1:(q.p==0)=G_:=et
     go_wp2_with fail;have h3:=HE2.out;have hl3:=HL2.out;clear k0 k1 k2 k3 k4 k5 ltk f0 f1 f2 f3 f4 f5 r0 r1 r2 r3 r4 r5 r6 r7 hrl HE2 HY HGR HGD HL2 Bc;generalize wc=W3 at h3 ⊢;have HX:Hid (∃d3 c3,ES WA.heap.size WA p v len w.heap.size W3 w2.heap.size d3 c3/\c3.ps.length=l5):=⟨_,_,h3,hl3⟩;clear h3 hl3;exact D5
  ·obtain rfl:l5=k:=af
   have hplr:=HE.src.kI;have HEA:=ae ((HE.below (aq wr (G7 #[I ⟨#[112,49]⟩,I ⟨#[112,50]⟩,I ⟨#[112,57]⟩] 9))).below (bf _));have HBI:Hid ((wr.alloc (G7 #[I ⟨#[112,49]⟩,I ⟨#[112,50]⟩,I ⟨#[112,57]⟩] 9)).drew.heap[wr.heap.size]?=F_ (G7 #[I ⟨#[112,49]⟩,I ⟨#[112,50]⟩,I ⟨#[112,57]⟩] 9 (0,0))):=Fs;have HRS:=ae HE.res;obtain⟨s0,s1,s2,s3,s4,s5⟩:=cs6 HRS;have lts:=aa HRS.out;have g0_:=al HRS.out 0;have g1_:=al HRS.out 1;have g2_:=al HRS.out 2;have g3_:=al HRS.out 3;have g4_:=al HRS.out 4;have g5_:=al HRS.out 5;have hne2:¬w2.heap.size=w.heap.size:=by have:=HE.lt;omega
   go_wp2_with fail;go_region_with (go_at_call 15;refine (ey HEA.src wr.heap.size 3 [⟨#[112,49]⟩,⟨#[112,50]⟩,⟨#[112,57]⟩] _ HBI.out af rfl ah ah ah).mono ?_;rintro e wz ⟨tz,rfl,htz,hsz,hgz⟩;have HZ:=ae (HEA.draw hsz hgz);have bz:=HZ.blk;have rz:=HZ.res;obtain⟨z0,z1,z2,z3,z4,z5⟩:=cs6 bz;have ltz:=aa bz;obtain⟨y0_,y1_,y2_,y3_,y4_,y5_⟩:=cs6 rz;have ltzr:=aa rz;have h0_:=al rz 0;have h1_:=al rz 1;have h2_:=al rz 2;have h3_:=al rz 3;have h4_:=al rz 4;have h5_:=al rz 5);all_goals (
    have hf:=HZ.fin rfl HWA.1 HWA.2;have HF:=ae hf;clear hf;go_wp2_with fail
    exact bodyPost_ret (v:=Hg #[Hc #[J a1 l1 y1,J a2 l2 y2,J a3 l3 y3,J a4 l4 y4,J a5 l5 y5,GZ G6 c.now],I tz]) (by simp[results,Tryz.results4,go_sem, *]) rfl ⟨⟨a1,l1,y1,a2,l2,y2,a3,l3,y3,a4,l4,y4,a5,l5,y5⟩,c,tz,rfl,HF.1,by omega,HF.2⟩)
theorem kv(ht:¬t=⟨#[]⟩):∀(ps:List Pd) (k:Nat) (x:Pd),ps[k]?=F_ x->0<=x.c->cpuOf t (ps.set k (idle x))<=cpuOf t ps
 | [],_,_,h,_=>by cases h
 | p ::ps,0,x,h,h0=>by
  obtain rfl:p=x:=hM
  have e:¬(idle p).d=t:=λe=>ht e.symm;simp only[FL,cpuOf,if_neg e]
  split <;> omega
 | p ::ps,k+1,x,h,h0=>by
  have:=kv ht ps k x hM h0;simp only[FM,cpuOf]
  omega
theorem eh {ps:List Pd} {y:Pd} (hx:ps[k]?=F_ x) (h:(ps.set k (idle x))[j]?=F_ y):(j=k/\y=idle x)\/ps[j]?=F_ y:=by
 by_cases e:k=j
 ·subst e;rw[List.getElem?_set_self (Fm.1 hx).1] at h;exact He ⟨rfl,(Fp h).symm⟩
 ·rw[List.getElem?_set_ne e] at h;exact Hd h
theorem lI(h:ay c) (hx:c.ps[pl Pd.n c.ps t]?=F_ x):ay (evC c t x):=by
 obtain⟨h1,⟨r1,r2,r3,r4,r5,r6,r7⟩,h3,⟨p1,p2,p3⟩,h5,⟨m1,m2⟩⟩:=h;have hx5:su x.n x.c x.z x.zs x.d x.p:=r6 _ _ hx;refine⟨h1,⟨r1,r2,r3,r4,?_,?_,?_⟩,h3,⟨?_,?_,?_⟩,h5,⟨m1,?_⟩⟩
 ·show ((c.ps.set _ _).length:Int)<=8;rw[List.length_set];exact r5
 ·intro j y hj;rcases eh hx hj with ⟨_,rfl⟩|hj
  ·exact⟨hx5.1,hx5.2.1,hx5.2.2.1,hx5.2.2.2.1,(en _).2 rfl⟩
  ·exact r6 j y hj
 ·intro j y z hy hz;have hn:∀{j:Nat} {y:Pd},(c.ps.set (pl Pd.n c.ps t) (idle x))[j]?=F_ y->∃y0,c.ps[j]?=F_ y0/\y0.n=y.n:=fun {j y} hj=>by
   rcases eh hx hj with ⟨rfl,rfl⟩|hj
   ·exact⟨x,hx,rfl⟩
   ·exact⟨y,hj,rfl⟩
  obtain⟨y0,e1,e2⟩:=hn hy;obtain⟨z0,e3,e4⟩:=hn hz;rw[<-e2,<-e4];exact r7 j y0 z0 e1 e3
 ·intro j y hj;rcases eh hx hj with ⟨_,rfl⟩|hj
  ·exact⟨(p1 _ _ hx).1,He rfl⟩
  ·exact p1 j y hj
 ·intro j n hj;have hn:aV n.n:=(r1.2.1 j n hj).1;have hne:¬n.n=⟨#[]⟩:=λe=>by rw[e] at hn;exact absurd hn.1 ah
  exact Int.le_trans (kv hne c.ps _ x hx hx5.2.1.1) (p2 j n hj)
 ·intro j v hj hs hm i k p q hp hq hp0 hq0 hip hiq;rcases eh hx hp with ⟨_,rfl⟩|hp
  ·exact absurd rfl hp0
  rcases eh hx hq with ⟨_,rfl⟩|hq
  ·exact absurd rfl hq0
  exact p3 j v hj hs hm i k p q hp hq hp0 hq0 hip hiq
 ·intro j y hj h2;rcases eh hx hj with ⟨_,rfl⟩|hj
  ·cases h2
  ·exact m2 j y hj h2
theorem bC.right(h:bC c t o) (h0:o.p=0):ay o.c:=by
 rcases h with ⟨i,a,rfl⟩|⟨_,hr,x,hx,_,_,_,rfl⟩
 ·rcases a.cases with ⟨rfl,_⟩|⟨rfl,_⟩|⟨rfl,_⟩|⟨rfl,_⟩|⟨rfl,_⟩ <;> cases h0
 ·exact lI hr hx
end Rc
theorem jA(a a':Option Addr) (len len' cap cap':Nat) (zs:List ByteArray) (w:World) (hr:aD w a len cap zs) (hr':aD w a' len' cap' zs):
  Calls Tryz.prog 89 #[J a len cap,J a' len' cap'] w λe w'=>e=Ha (G8 Hb)/\Below w.heap.size w w':=by
 obtain rfl:len=len':=hr.1.symm.trans hr'.1;have HR:Hid (aD w a len cap zs):=hr;have HR':Hid (aD w a' len cap' zs):=hr';have hlc:len<=9223372036854775807:=FA hr.2.1 hr.2.2.1;clear hr hr';go_enter Tryz.func89,Tryz.ntmps89;go_wp2;go_loopw [5] (λi wr=> ∃k:Nat,k<=len/\i=GZ G6 k/\Hid (Below w.heap.size w wr)) (λi _=>len - (intOf i).toNat);case atStart=>exact⟨0,by omega,rfl,Ft _ _⟩
 case round=>
  obtain⟨k,hk,rfl,HB⟩:=hrel;by_cases hlt:k<len
  ·obtain⟨b,o,x,rfl,hb,hx,hc,hsz⟩:=(HR.below HB.out).at hlt;obtain⟨b',o',x',rfl,hb',hx',hc',hsz'⟩:=(HR'.below HB.out).at hlt;obtain rfl:x=x':=Fp (hx.symm.trans hx');go_wp2;go_quiet (fail);go_wp2;exact⟨⟨k+1,by omega,by go_num,below_drewN HB.out _⟩,by simp[intOf];omega⟩
  ·obtain rfl:k=len:=af
   go_wp2;go_ret;exact⟨rfl,HB.out⟩
theorem lZ(n:ByteArray) (c:Int) (z:ByteArray) (k:ByteArray) (x:Bool) (m:ByteArray) (y:Bool) (a:Option Addr) (len cap:Nat) (zs:List ByteArray) (a':Option Addr) (len' cap':Nat) (w:World) (hr:aD w a len cap zs) (hr':aD w a' len' cap' zs):
  Calls Tryz.prog 47 #[Hc #[I n,GZ G6 c,I z,I k,G8 x,I m,G8 y,J a len cap],Hc #[I n,GZ G6 c,I z,I k,G8 x,I m,G8 y,J a' len' cap']] w λe w'=>e=Ha (G8 Hb)/\Below w.heap.size w w':=by
 have HR:Hid (aD w a len cap zs):=hr;have HR':Hid (aD w a' len' cap' zs):=hr';clear hr hr';go_enter Tryz.func47,Tryz.ntmps47;exact yP
theorem Obl.guarded {o:Oper} {φ:Fact} {t:Tmp} (hg:o.guard=F_ (i,b)) (hd:(ops[i]?).bind (·.dst)=F_ t)
  (ht:∀(a:Act) (w:World),ai a0 known a w t->a.tmps.getD t undef=G8 b)
  (h:∀(a:Act) (w:World) (K:Act->World->Prop),a.tmps.size=a0.tmps.size->Below W.heap.size W w->(∀t∈iw o,ai a0 known a w t)->(∀v w',Below w.heap.size w w'->φ v w'->K (a.put o.dst v) w')->o.wp P a w K Q):Obl P ops Q W a0 known o φ:=by
 intro a w K h1 h2 h3 h4;have ha:=ht a w (h3 t A3);have hw:F5 o (yielded ops a.tmps)=Hb:=by
  unfold F5;rw[hg];simp only[yielded,hd,Option.bind_some];have:a.tmps[t]?=F_ (G8 b):=by
   rw[FD] at ha;cases hx:a.tmps[t]? with
   | none=>rw[hx] at ha;cases ha
   | some v=>rw[hx] at ha;exact congrArg F_ ha
  rw[this];simp
 exact xx
theorem Obl.cj {o:Oper} {t:Tmp} (hg:o.guard=F_ (i,b)) (hd:(ops[i]?).bind (·.dst)=F_ t)
  (ht:∀(a:Act) (w:World),ai a0 known a w t->a.tmps.getD t undef≠G8 b):Obl P ops Q W a0 known o (λv _=>v=undef):=by
 intro a w K h1 h2 h3 h4;have ha:=ht a w (h3 t A3);have hw:¬F5 o (yielded ops a.tmps)=Hb:=by
  unfold F5;rw[hg];simp only[yielded,hd,Option.bind_some];intro h;apply ha;rw[FD];cases hx:a.tmps[t]? with
  | none=>rw[hx] at h;simp at h
  | some v=>
   rw[hx] at h
   cases v <;> simp at h
   rw[h]
   rfl
 rw[if_neg hw];exact h4 _ _ (Ft _ _) rfl
namespace Rc
theorem qm(n z:ByteArray) (c s u:Int) (x:Bool) (a:Option Addr) (len cap:Nat) (zs:List ByteArray) (a':Option Addr) (len' cap':Nat) (w:World) (hr:aD w a len cap zs) (hr':aD w a' len' cap' zs):
  Calls Tryz.prog 46 #[Hc #[I n,I z,GZ G6 c,GZ G6 s,GZ G6 u,G8 x,J a len cap],Hc #[I n,I z,GZ G6 c,GZ G6 s,GZ G6 u,G8 x,J a' len' cap']] w λe w'=>e=Ha (G8 Hb)/\Below w.heap.size w w':=by
 have HR:Hid (aD w a len cap zs):=hr;have HR':Hid (aD w a' len' cap' zs):=hr';clear hr hr';go_enter Tryz.func46,Tryz.ntmps46;exact yP
theorem qk(n:ByteArray) (c:Int) (z d:ByteArray) (p:Int) (a:Option Addr) (len cap:Nat) (zs:List ByteArray) (a':Option Addr) (len' cap':Nat) (w:World) (hr:aD w a len cap zs) (hr':aD w a' len' cap' zs):
  Calls Tryz.prog 48 #[Hc #[I n,GZ G6 c,I z,J a len cap,I d,GZ G6 p],Hc #[I n,GZ G6 c,I z,J a' len' cap',I d,GZ G6 p]] w λe w'=>e=Ha (G8 Hb)/\Below w.heap.size w w':=by
 have HR:Hid (aD w a len cap zs):=hr;have HR':Hid (aD w a' len' cap' zs):=hr';clear hr hr';go_enter Tryz.func48,Tryz.ntmps48;have HW:Hid (Below w.heap.size w ((w.alloc (G7 #[I n,GZ G6 c,I z,J a len cap,I d,GZ G6 p] 40)).alloc (G7 #[I n,GZ G6 c,I z,J a' len' cap',I d,GZ G6 p] 40))):=aM _ _ _;go_wp2_with fail;refine (jA a a' len len' cap cap' zs _ (HR.below (aM _ _ _)) (HR'.below (aM _ _ _))).mono ?_;rintro e w1 ⟨rfl,hb⟩;obtain⟨HA0,HA1,hbx⟩:=bU hb;obtain⟨k0,k1,k2,k3,k4,k5⟩:=cs6 HA0;obtain⟨m0,m1,m2,m3,m4,m5⟩:=cs6 HA1;have l0:=aa HA0;have l1:=aa HA1;have HB:Hid (Below w.heap.size w w1):=(aM _ _ _).trans (hb.mono bD);clear hb hbx HW HA0 HA1;go_wp2_with (first|go_quiet (fail)|fail);first
  | (go_ret;exact⟨rfl,HB.out⟩)
  | (go_ret;exact⟨rfl,HB.trans ((Below.jD (Ft _ _)).mono HB.size)⟩)
theorem Eg(n:ByteArray) (x:Bool) (y:Bool) (z:ByteArray) (w:World):(Op.equalIn 10000 92 (Hc #[I n,G8 x,G8 y,I z]) (Hc #[I n,G8 x,G8 y,I z])).run Tryz.prog w=.ok Hb w:=by
 have u3:=Tryz.underlying9;have u5:=Tryz.underlying4;have hS:Tryz.prog.underlying 92=F_ (.struct (Tryz.prog.fieldsOf 92)):=au
 have hp:Tryz.prog.stoodInHeld 92=G_:=au
 rw[show (10000:Nat)=9999+1 from rfl,run_equalIn_agg w 9999 92 _ _ hS hp];simp only[Program.fieldsOf,Tryz.underlying92];go_simp
theorem Ef(n:ByteArray) (z:Int) (k:ByteArray) (x:Bool) (v:ByteArray) (w:World):(Op.equalIn 10000 97 (Hc #[I n,GZ G6 z,I k,G8 x,I v]) (Hc #[I n,GZ G6 z,I k,G8 x,I v])).run Tryz.prog w=.ok Hb w:=by
 have u3:=Tryz.underlying9;have u4:=Tryz.underlying2;have u5:=Tryz.underlying4;have hS:Tryz.prog.underlying 97=F_ (.struct (Tryz.prog.fieldsOf 97)):=au
 have hp:Tryz.prog.stoodInHeld 97=G_:=au
 rw[show (10000:Nat)=9999+1 from rfl,run_equalIn_agg w 9999 97 _ _ hS hp];simp only[Program.fieldsOf,Tryz.underlying97];go_simp
structure LwS (w:World) (d d':Ad) (c:Cl) (wr:World):Prop where
 hb:Below w.heap.size w wr
 g0:wr.heap[w.heap.size]?=F_ (G7 (clv d c.now) 29 (0,0))
 g1:wr.heap[w.heap.size+1]?=F_ (G7 (clv d' c.now) 29 (0,0))
 r:aE wr d c.raw
 r':aE wr d' c.raw
theorem LwS.below {w2:World} {d':Ad} (h:LwS w d d' c wr) (hb:Below wr.heap.size wr w2):LwS w d d' c w2:=
 ⟨h.hb.trans (hb.mono h.hb.size),(hb.block _ (aa h.g0)).trans h.g0,(hb.block _ (aa h.g1)).trans h.g1,h.r.below hb,h.r'.below hb⟩
theorem kJ(d d':Ad) (c:Cl) (w:World) (hr:aE w d c.raw) (hr':aE w d' c.raw):
  Calls Tryz.prog 22 #[Hc #[J d.a1 d.l1 d.c1,J d.a2 d.l2 d.c2,J d.a3 d.l3 d.c3,J d.a4 d.l4 d.c4,J d.a5 d.l5 d.c5,GZ G6 c.now],Hc #[J d'.a1 d'.l1 d'.c1,J d'.a2 d'.l2 d'.c2,J d'.a3 d'.l3 d'.c3,J d'.a4 d'.l4 d'.c4,J d'.a5 d'.l5 d'.c5,GZ G6 c.now]] w λe w'=>e=Ha (G8 Hb)/\Below w.heap.size w w':=by
 obtain⟨a1,l1,y1,a2,l2,y2,a3,l3,y3,a4,l4,y4,a5,l5,y5⟩:=d;obtain⟨p1,q1,z1,p2,q2,z2,p3,q3,z3,p4,q4,z4,p5,q5,z5⟩:=d';obtain rfl:l1=q1:=hr.n.1.symm.trans hr'.n.1;obtain rfl:l2=q2:=hr.k.1.symm.trans hr'.k.1;obtain rfl:l3=q3:=hr.v.1.symm.trans hr'.v.1;obtain rfl:l4=q4:=hr.x.1.symm.trans hr'.x.1;obtain rfl:l5=q5:=hr.p.1.symm.trans hr'.p.1;have hl1:l1<=9223372036854775807:=FA hr.n.2.1 hr.n.2.2.1;have hl2:l2<=9223372036854775807:=FA hr.k.2.1 hr.k.2.2.1;have hl3:l3<=9223372036854775807:=FA hr.v.2.1 hr.v.2.2.1;have hl4:l4<=9223372036854775807:=FA hr.x.2.1 hr.x.2.2.1;have hl5:l5<=9223372036854775807:=FA hr.p.2.1 hr.p.2.2.1;have HS:Hid (LwS w ⟨a1,l1,y1,a2,l2,y2,a3,l3,y3,a4,l4,y4,a5,l5,y5⟩ ⟨p1,l1,z1,p2,l2,z2,p3,l3,z3,p4,l4,z4,p5,l5,z5⟩ c _):=⟨aM w (G7 (clo6 a1 l1 y1 a2 l2 y2 a3 l3 y3 a4 l4 y4 a5 l5 y5 c.now) 29) (G7 (clo6 p1 l1 z1 p2 l2 z2 p3 l3 z3 p4 l4 z4 p5 l5 z5 c.now) 29),dK _ _ _,cL _ _ _,hr.below (aM _ _ _),hr'.below (aM _ _ _)⟩;clear hr hr';dsimp only;go_enter Tryz.func22,Tryz.ntmps22;go_wp2;go_loopw [5] (λi wr=> ∃k:Nat,k<=l1/\i=GZ G6 k/\Hid (LwS w ⟨a1,l1,y1,a2,l2,y2,a3,l3,y3,a4,l4,y4,a5,l5,y5⟩ ⟨p1,l1,z1,p2,l2,z2,p3,l3,z3,p4,l4,z4,p5,l5,z5⟩ c wr)) (λi _=>l1 - (intOf i).toNat);case atStart=>exact⟨0,by omega,rfl,HS.out⟩
 case round=>
  obtain⟨k,hk,rfl,HS⟩:=hrel;have s0:=ar HS.g0 0;have s1:=ar HS.g1 0;obtain⟨hv0,hv1⟩:=iV;by_cases hlt:k<l1
  ·obtain⟨b,o,v,rfl,hb,hv,hat⟩:=bO (HS.r.n) hlt;obtain⟨b',o',v',rfl,hb',hv',hat'⟩:=bO (HS.r'.n) hlt;rw[hv] at hv';obtain rfl:=Fp hv';clear hv hv';obtain⟨va,vl,vc,hvr,-,-,c0,c1,c2,c3,c4,c5,c6⟩:=aU hat;obtain⟨va',vl',vc',hvr',-,-,d0,d1,d2,d3,d4,d5,d6⟩:=aU hat';clear hat hat';have hne:=Wd.ne wr;have g0:=λq:Wd wr=>q.slot (o:=0) HS.g0 rfl;have g1:=λq:Wd wr=>q.slot (o:=0) HS.g1 rfl;have HT:=ae hvr;have HT':=ae hvr';clear hvr hvr';have HE:=ae (λq:Wd wr=>qm v.n v.z v.c v.s v.u v.d va vl vc v.zs va' vl' vc' q.w (HT.below q.b) (HT'.below q.b));have e0:∀q:Wd wr,q.w.cell? ⟨b,o+k*7,U⟩=F_ (I v.n):=λq=>(q.cell hb).trans c0;have f0:∀q:Wd wr,q.w.cell? ⟨b',o'+k*7,U⟩=F_ (I v.n):=λq=>(q.cell hb').trans d0;have e1:∀q:Wd wr,q.w.cell? ⟨b,o+k*7+1,U⟩=F_ (I v.z):=λq=>(q.cell hb).trans c1;have f1:∀q:Wd wr,q.w.cell? ⟨b',o'+k*7+1,U⟩=F_ (I v.z):=λq=>(q.cell hb').trans d1;have e2:∀q:Wd wr,q.w.cell? ⟨b,o+k*7+2,U⟩=F_ (GZ G6 v.c):=λq=>(q.cell hb).trans c2;have f2:∀q:Wd wr,q.w.cell? ⟨b',o'+k*7+2,U⟩=F_ (GZ G6 v.c):=λq=>(q.cell hb').trans d2;have e3:∀q:Wd wr,q.w.cell? ⟨b,o+k*7+3,U⟩=F_ (GZ G6 v.s):=λq=>(q.cell hb).trans c3;have f3:∀q:Wd wr,q.w.cell? ⟨b',o'+k*7+3,U⟩=F_ (GZ G6 v.s):=λq=>(q.cell hb').trans d3;have e4:∀q:Wd wr,q.w.cell? ⟨b,o+k*7+4,U⟩=F_ (GZ G6 v.u):=λq=>(q.cell hb).trans c4;have f4:∀q:Wd wr,q.w.cell? ⟨b',o'+k*7+4,U⟩=F_ (GZ G6 v.u):=λq=>(q.cell hb').trans d4;have e5:∀q:Wd wr,q.w.cell? ⟨b,o+k*7+5,U⟩=F_ (G8 v.d):=λq=>(q.cell hb).trans c5;have f5:∀q:Wd wr,q.w.cell? ⟨b',o'+k*7+5,U⟩=F_ (G8 v.d):=λq=>(q.cell hb').trans d5;have e6:∀q:Wd wr,q.w.cell? ⟨b,o+k*7+6,U⟩=F_ (J va vl vc):=λq=>(q.cell hb).trans c6;have f6:∀q:Wd wr,q.w.cell? ⟨b',o'+k*7+6,U⟩=F_ (J va' vl' vc'):=λq=>(q.cell hb').trans d6;clear c0 d0 c1 d1 c2 d2 c3 d3 c4 d4 c5 d5 c6 d6;go_wp2_with fail;refine ag au au ?_;repeat (go_big_quiet_step (first|(go_at_call 46;exact Calls.wide (HE.out _))|fail))
   exact rW
  ·obtain rfl:l1=k:=af
   go_wp2;go_loopw [6] (λi wr=> ∃k:Nat,k<=l2/\i=GZ G6 k/\Hid (LwS w ⟨a1,l1,y1,a2,l2,y2,a3,l3,y3,a4,l4,y4,a5,l5,y5⟩ ⟨p1,l1,z1,p2,l2,z2,p3,l3,z3,p4,l4,z4,p5,l5,z5⟩ c wr)) (λi _=>l2 - (intOf i).toNat);case atStart=>exact⟨0,by omega,rfl,HS.out⟩
   case round=>
    obtain⟨k,hk,rfl,HS⟩:=hrel;have s0:=ar HS.g0 1;have s1:=ar HS.g1 1;obtain⟨hv0,hv1⟩:=iV;by_cases hlt:k<l2
    ·obtain⟨b,o,v,rfl,hb,hv,hat⟩:=fD (HS.r.k) hlt;obtain⟨b',o',v',rfl,hb',hv',hat'⟩:=fD (HS.r'.k) hlt;rw[hv] at hv';obtain rfl:=Fp hv';clear hv hv';obtain⟨-,-,c0,c1,c2,c3⟩:=cU hat;obtain⟨-,-,d0,d1,d2,d3⟩:=cU hat';clear hat hat';have hne:=Wd.ne wr;have g0:=λq:Wd wr=>q.slot (o:=1) HS.g0 rfl;have g1:=λq:Wd wr=>q.slot (o:=1) HS.g1 rfl;have hqe:=λW=>Eg v.n v.x v.y v.z W;have hge:Tryz.prog.eqGuardType Tryz.prog.depth 92=G_:=au
     have e0:∀q:Wd wr,q.w.cell? ⟨b,o+k*4,U⟩=F_ (I v.n):=λq=>(q.cell hb).trans c0;have f0:∀q:Wd wr,q.w.cell? ⟨b',o'+k*4,U⟩=F_ (I v.n):=λq=>(q.cell hb').trans d0;have e1:∀q:Wd wr,q.w.cell? ⟨b,o+k*4+1,U⟩=F_ (G8 v.x):=λq=>(q.cell hb).trans c1;have f1:∀q:Wd wr,q.w.cell? ⟨b',o'+k*4+1,U⟩=F_ (G8 v.x):=λq=>(q.cell hb').trans d1;have e2:∀q:Wd wr,q.w.cell? ⟨b,o+k*4+2,U⟩=F_ (G8 v.y):=λq=>(q.cell hb).trans c2;have f2:∀q:Wd wr,q.w.cell? ⟨b',o'+k*4+2,U⟩=F_ (G8 v.y):=λq=>(q.cell hb').trans d2;have e3:∀q:Wd wr,q.w.cell? ⟨b,o+k*4+3,U⟩=F_ (I v.z):=λq=>(q.cell hb).trans c3;have f3:∀q:Wd wr,q.w.cell? ⟨b',o'+k*4+3,U⟩=F_ (I v.z):=λq=>(q.cell hb').trans d3;clear c0 d0 c1 d1 c2 d2 c3 d3;exact wk
    ·obtain rfl:l2=k:=af
     go_wp2;go_loopw [7] (λi wr=> ∃k:Nat,k<=l3/\i=GZ G6 k/\Hid (LwS w ⟨a1,l1,y1,a2,l2,y2,a3,l3,y3,a4,l4,y4,a5,l5,y5⟩ ⟨p1,l1,z1,p2,l2,z2,p3,l3,z3,p4,l4,z4,p5,l5,z5⟩ c wr)) (λi _=>l3 - (intOf i).toNat);case atStart=>exact⟨0,by omega,rfl,HS.out⟩
     case round=>
      obtain⟨k,hk,rfl,HS⟩:=hrel;have s0:=ar HS.g0 2;have s1:=ar HS.g1 2;obtain⟨hv0,hv1⟩:=iV;by_cases hlt:k<l3
      ·obtain⟨b,o,v,rfl,hb,hv,hat⟩:=bM (HS.r.v) hlt;obtain⟨b',o',v',rfl,hb',hv',hat'⟩:=bM (HS.r'.v) hlt;rw[hv] at hv';obtain rfl:=Fp hv';clear hv hv';obtain⟨va,vl,vc,hvr,-,-,-,-,c0,c1,c2,c3,c4,c5,c6,c7⟩:=aP hat;obtain⟨va',vl',vc',hvr',-,-,-,-,d0,d1,d2,d3,d4,d5,d6,d7⟩:=aP hat';clear hat hat';have hne:=Wd.ne wr;have g0:=λq:Wd wr=>q.slot (o:=2) HS.g0 rfl;have g1:=λq:Wd wr=>q.slot (o:=2) HS.g1 rfl;have HT:=ae hvr;have HT':=ae hvr';clear hvr hvr';have HE:=ae (λq:Wd wr=>lZ v.n v.c v.z v.k v.x v.m v.y va vl vc v.zs va' vl' vc' q.w (HT.below q.b) (HT'.below q.b));have e0:∀q:Wd wr,q.w.cell? ⟨b,o+k*8,U⟩=F_ (I v.n):=λq=>(q.cell hb).trans c0;have f0:∀q:Wd wr,q.w.cell? ⟨b',o'+k*8,U⟩=F_ (I v.n):=λq=>(q.cell hb').trans d0;have e1:∀q:Wd wr,q.w.cell? ⟨b,o+k*8+1,U⟩=F_ (GZ G6 v.c):=λq=>(q.cell hb).trans c1;have f1:∀q:Wd wr,q.w.cell? ⟨b',o'+k*8+1,U⟩=F_ (GZ G6 v.c):=λq=>(q.cell hb').trans d1;have e2:∀q:Wd wr,q.w.cell? ⟨b,o+k*8+2,U⟩=F_ (I v.z):=λq=>(q.cell hb).trans c2;have f2:∀q:Wd wr,q.w.cell? ⟨b',o'+k*8+2,U⟩=F_ (I v.z):=λq=>(q.cell hb').trans d2;have e3:∀q:Wd wr,q.w.cell? ⟨b,o+k*8+3,U⟩=F_ (I v.k):=λq=>(q.cell hb).trans c3;have f3:∀q:Wd wr,q.w.cell? ⟨b',o'+k*8+3,U⟩=F_ (I v.k):=λq=>(q.cell hb').trans d3;have e4:∀q:Wd wr,q.w.cell? ⟨b,o+k*8+4,U⟩=F_ (G8 v.x):=λq=>(q.cell hb).trans c4;have f4:∀q:Wd wr,q.w.cell? ⟨b',o'+k*8+4,U⟩=F_ (G8 v.x):=λq=>(q.cell hb').trans d4;have e5:∀q:Wd wr,q.w.cell? ⟨b,o+k*8+5,U⟩=F_ (I v.m):=λq=>(q.cell hb).trans c5;have f5:∀q:Wd wr,q.w.cell? ⟨b',o'+k*8+5,U⟩=F_ (I v.m):=λq=>(q.cell hb').trans d5;have e6:∀q:Wd wr,q.w.cell? ⟨b,o+k*8+6,U⟩=F_ (G8 v.y):=λq=>(q.cell hb).trans c6;have f6:∀q:Wd wr,q.w.cell? ⟨b',o'+k*8+6,U⟩=F_ (G8 v.y):=λq=>(q.cell hb').trans d6;have e7:∀q:Wd wr,q.w.cell? ⟨b,o+k*8+7,U⟩=F_ (J va vl vc):=λq=>(q.cell hb).trans c7;have f7:∀q:Wd wr,q.w.cell? ⟨b',o'+k*8+7,U⟩=F_ (J va' vl' vc'):=λq=>(q.cell hb').trans d7;clear c0 d0 c1 d1 c2 d2 c3 d3 c4 d4 c5 d5 c6 d6 c7 d7;go_wp2_with fail;refine ag au au ?_;repeat (go_big_quiet_step (first|(go_at_call 47;exact Calls.wide (HE.out _))|fail))
       exact rW
      ·obtain rfl:l3=k:=af
       go_wp2;go_loopw [8] (λi wr=> ∃k:Nat,k<=l4/\i=GZ G6 k/\Hid (LwS w ⟨a1,l1,y1,a2,l2,y2,a3,l3,y3,a4,l4,y4,a5,l5,y5⟩ ⟨p1,l1,z1,p2,l2,z2,p3,l3,z3,p4,l4,z4,p5,l5,z5⟩ c wr)) (λi _=>l4 - (intOf i).toNat);case atStart=>exact⟨0,by omega,rfl,HS.out⟩
       case round=>
        obtain⟨k,hk,rfl,HS⟩:=hrel;have s0:=ar HS.g0 3;have s1:=ar HS.g1 3;obtain⟨hv0,hv1⟩:=iV;by_cases hlt:k<l4
        ·obtain⟨b,o,v,rfl,hb,hv,hat⟩:=dM (HS.r.x) hlt;obtain⟨b',o',v',rfl,hb',hv',hat'⟩:=dM (HS.r'.x) hlt;rw[hv] at hv';obtain rfl:=Fp hv';clear hv hv';obtain⟨-,-,-,c0,c1,c2,c3,c4⟩:=bS hat;obtain⟨-,-,-,d0,d1,d2,d3,d4⟩:=bS hat';clear hat hat';have hne:=Wd.ne wr;have g0:=λq:Wd wr=>q.slot (o:=3) HS.g0 rfl;have g1:=λq:Wd wr=>q.slot (o:=3) HS.g1 rfl;have hqe:=λW=>Ef v.n v.z v.k v.x v.v W;have hge:Tryz.prog.eqGuardType Tryz.prog.depth 97=G_:=au
         have e0:∀q:Wd wr,q.w.cell? ⟨b,o+k*5,U⟩=F_ (I v.n):=λq=>(q.cell hb).trans c0;have f0:∀q:Wd wr,q.w.cell? ⟨b',o'+k*5,U⟩=F_ (I v.n):=λq=>(q.cell hb').trans d0;have e1:∀q:Wd wr,q.w.cell? ⟨b,o+k*5+1,U⟩=F_ (GZ G6 v.z):=λq=>(q.cell hb).trans c1;have f1:∀q:Wd wr,q.w.cell? ⟨b',o'+k*5+1,U⟩=F_ (GZ G6 v.z):=λq=>(q.cell hb').trans d1;have e2:∀q:Wd wr,q.w.cell? ⟨b,o+k*5+2,U⟩=F_ (I v.k):=λq=>(q.cell hb).trans c2;have f2:∀q:Wd wr,q.w.cell? ⟨b',o'+k*5+2,U⟩=F_ (I v.k):=λq=>(q.cell hb').trans d2;have e3:∀q:Wd wr,q.w.cell? ⟨b,o+k*5+3,U⟩=F_ (G8 v.x):=λq=>(q.cell hb).trans c3;have f3:∀q:Wd wr,q.w.cell? ⟨b',o'+k*5+3,U⟩=F_ (G8 v.x):=λq=>(q.cell hb').trans d3;have e4:∀q:Wd wr,q.w.cell? ⟨b,o+k*5+4,U⟩=F_ (I v.v):=λq=>(q.cell hb).trans c4;have f4:∀q:Wd wr,q.w.cell? ⟨b',o'+k*5+4,U⟩=F_ (I v.v):=λq=>(q.cell hb').trans d4;clear c0 d0 c1 d1 c2 d2 c3 d3 c4 d4;exact wk
        ·obtain rfl:l4=k:=af
         go_wp2;go_loopw [9] (λi wr=> ∃k:Nat,k<=l5/\i=GZ G6 k/\Hid (LwS w ⟨a1,l1,y1,a2,l2,y2,a3,l3,y3,a4,l4,y4,a5,l5,y5⟩ ⟨p1,l1,z1,p2,l2,z2,p3,l3,z3,p4,l4,z4,p5,l5,z5⟩ c wr)) (λi _=>l5 - (intOf i).toNat);case atStart=>exact⟨0,by omega,rfl,HS.out⟩
         case round=>
          obtain⟨k,hk,rfl,HS⟩:=hrel;have s0:=ar HS.g0 4;have s1:=ar HS.g1 4;obtain⟨hv0,hv1⟩:=iV;by_cases hlt:k<l5
          ·obtain⟨b,o,v,rfl,hb,hv,hat⟩:=bN (HS.r.p) hlt;obtain⟨b',o',v',rfl,hb',hv',hat'⟩:=bN (HS.r'.p) hlt;rw[hv] at hv';obtain rfl:=Fp hv';clear hv hv';obtain⟨va,vl,vc,hvr,-,-,-,c0,c1,c2,c3,c4,c5⟩:=aR hat;obtain⟨va',vl',vc',hvr',-,-,-,d0,d1,d2,d3,d4,d5⟩:=aR hat';clear hat hat';have hne:=Wd.ne wr;have g0:=λq:Wd wr=>q.slot (o:=4) HS.g0 rfl;have g1:=λq:Wd wr=>q.slot (o:=4) HS.g1 rfl;have HT:=ae hvr;have HT':=ae hvr';clear hvr hvr';have HE:=ae (λq:Wd wr=>qk v.n v.c v.z v.d v.p va vl vc v.zs va' vl' vc' q.w (HT.below q.b) (HT'.below q.b));have e0:∀q:Wd wr,q.w.cell? ⟨b,o+k*6,U⟩=F_ (I v.n):=λq=>(q.cell hb).trans c0;have f0:∀q:Wd wr,q.w.cell? ⟨b',o'+k*6,U⟩=F_ (I v.n):=λq=>(q.cell hb').trans d0;have e1:∀q:Wd wr,q.w.cell? ⟨b,o+k*6+1,U⟩=F_ (GZ G6 v.c):=λq=>(q.cell hb).trans c1;have f1:∀q:Wd wr,q.w.cell? ⟨b',o'+k*6+1,U⟩=F_ (GZ G6 v.c):=λq=>(q.cell hb').trans d1;have e2:∀q:Wd wr,q.w.cell? ⟨b,o+k*6+2,U⟩=F_ (I v.z):=λq=>(q.cell hb).trans c2;have f2:∀q:Wd wr,q.w.cell? ⟨b',o'+k*6+2,U⟩=F_ (I v.z):=λq=>(q.cell hb').trans d2;have e3:∀q:Wd wr,q.w.cell? ⟨b,o+k*6+3,U⟩=F_ (J va vl vc):=λq=>(q.cell hb).trans c3;have f3:∀q:Wd wr,q.w.cell? ⟨b',o'+k*6+3,U⟩=F_ (J va' vl' vc'):=λq=>(q.cell hb').trans d3;have e4:∀q:Wd wr,q.w.cell? ⟨b,o+k*6+4,U⟩=F_ (I v.d):=λq=>(q.cell hb).trans c4;have f4:∀q:Wd wr,q.w.cell? ⟨b',o'+k*6+4,U⟩=F_ (I v.d):=λq=>(q.cell hb').trans d4;have e5:∀q:Wd wr,q.w.cell? ⟨b,o+k*6+5,U⟩=F_ (GZ G6 v.p):=λq=>(q.cell hb).trans c5;have f5:∀q:Wd wr,q.w.cell? ⟨b',o'+k*6+5,U⟩=F_ (GZ G6 v.p):=λq=>(q.cell hb').trans d5;clear c0 d0 c1 d1 c2 d2 c3 d3 c4 d4 c5 d5;go_wp2_with fail;refine ag au au ?_;repeat (go_big_quiet_step (first|(go_at_call 48;exact Calls.wide (HE.out _))|fail))
           exact rW
          ·obtain rfl:l5=k:=af
           go_wp2;go_ret;exact⟨rfl,HS.hb⟩
def qV(c:Cl) (t:ByteArray) (x:Pd):Prop:=(∃j:Nat,c.ps[j]?=F_ x/\x.n=t)\/((∀(j:Nat) y,c.ps[j]?=F_ y->¬y.n=t)/\x=⟨⟨#[]⟩,0,⟨#[]⟩,[],⟨#[]⟩,0⟩)
theorem qV.is {y:Pd} (h:qV c t x) (hr:aJ Pd.n c.ps) (hy:c.ps[j]?=F_ y) (hn:y.n=t):x=y:=by
 rcases h with ⟨i,h1,h2⟩|⟨h1,_⟩
 ·exact (hr.inj h1 hy (h2.trans hn.symm)).2
 ·exact absurd hn (h1 j y hy)
structure PoS (w:World) (d:Ad) (c:Cl) (wr:World):Prop where
 hb:Below w.heap.size w wr
 g0:wr.heap[w.heap.size]?=F_ (G7 (clv d c.now) 29 (0,0))
 g1:wr.heap[w.heap.size+1]?=F_ (G7 #[I ⟨#[]⟩,GZ G6 0,I ⟨#[]⟩,J U 0 0,I ⟨#[]⟩,GZ G6 0] 40 (0,0))
 r:aE wr d c.raw
theorem fO(d:Ad) (c:Cl) (t:ByteArray) (w:World) (hr:aE w d c.raw):
  Calls Tryz.prog 8 #[Hc #[J d.a1 d.l1 d.c1,J d.a2 d.l2 d.c2,J d.a3 d.l3 d.c3,J d.a4 d.l4 d.c4,J d.a5 d.l5 d.c5,GZ G6 c.now],I t] w λe w'=> ∃(x:Pd) (a:Option Addr) (l cp:Nat),e=Ha (Hc #[I x.n,GZ G6 x.c,I x.z,J a l cp,I x.d,GZ G6 x.p])/\qV c t x/\aD w' a l cp x.zs/\Below w.heap.size w w':=by
 obtain⟨a1,l1,y1,a2,l2,y2,a3,l3,y3,a4,l4,y4,a5,l5,y5⟩:=d;dsimp only;obtain⟨hl5,hm5⟩:=jx;have HS:Hid (PoS w ⟨a1,l1,y1,a2,l2,y2,a3,l3,y3,a4,l4,y4,a5,l5,y5⟩ c _):=⟨aM w (G7 (clo6 a1 l1 y1 a2 l2 y2 a3 l3 y3 a4 l4 y4 a5 l5 y5 c.now) 29) (G7 #[I ⟨#[]⟩,GZ G6 0,I ⟨#[]⟩,J U 0 0,I ⟨#[]⟩,GZ G6 0] 40),dK _ _ _,cL _ _ _,hr.below (aM _ _ _)⟩;have HR:=ae hr;clear hr;go_enter Tryz.func8,Tryz.ntmps8;go_wp2;go_loopw [5] (λi wr=> ∃k:Nat,k<=l5/\i=GZ G6 k/\Hid (∀(j:Nat) y,j<k->c.ps[j]?=F_ y->¬y.n=t)/\Hid (PoS w ⟨a1,l1,y1,a2,l2,y2,a3,l3,y3,a4,l4,y4,a5,l5,y5⟩ c wr)) (λi _=>l5 - (intOf i).toNat);case atStart=>exact⟨0,by omega,rfl,λj y h=>by omega,HS.out⟩
 case round=>
  obtain⟨k,hk,rfl,HN,HS⟩:=hrel;have s0:=ar HS.g0 4;obtain⟨hv0,hv1⟩:=iV;by_cases hlt:k<l5
  ·obtain⟨b,o,x,rfl,hbw,hx,hat⟩:=bN (HR.p) hlt;obtain⟨va,vl,vc,hvr,-,-,-,w0,w1,w2,w3,w4,w5⟩:=aR hat;have hb:b<wr.heap.size:=Fw hbw HS.hb.size;have c0:=(aj HS.hb hbw).trans w0;have c1:=(aj HS.hb hbw).trans w1;have c2:=(aj HS.hb hbw).trans w2;have c3:=(aj HS.hb hbw).trans w3;have c4:=(aj HS.hb hbw).trans w4;have c5:=(aj HS.hb hbw).trans w5;clear w0 w1 w2 w3 w4 w5;have HX:=ae hx;have HT:=ae hvr;clear hat hvr hx;by_cases hn:x.n=t
   ·subst hn;have he:=aW (rfl:x.n=x.n);obtain⟨r0,r1,r2,r3,r4,r5⟩:=cs6 HS.g1;have f0:=al HS.g1 0;have f1:=al HS.g1 1;have f2:=al HS.g1 2;have f3:=al HS.g1 3;have f4:=al HS.g1 4;have f5:=al HS.g1 5;go_wp2;refine bodyPost_ret (v:=Hc #[I x.n,GZ G6 x.c,I x.z,J va vl vc,I x.d,GZ G6 x.p]) (by simp[results,Tryz.results8,go_sem, *]) rfl ⟨x,va,vl,vc,rfl,He ⟨k,HX.out,rfl⟩,(λh=>⟨HT.below h,h⟩) ?_⟩;exact sb1 (sb1 (sb1 (sb1 (sb1 (sb1 (HS.hb))))))
   ·have he:=bH hn;go_wp2;refine⟨⟨k+1,by omega,by go_num,λj y hj hy=>?_,HS.out⟩,by simp[intOf];omega⟩;by_cases e:j=k
    ·subst e;rw[HX.out] at hy;obtain rfl:=Fp hy;exact hn
    ·exact HN.out j y af hy
  ·obtain rfl:l5=k:=af
   obtain⟨r0,r1,r2,r3,r4,r5⟩:=cs6 HS.g1;have f0:=al HS.g1 0;have f1:=al HS.g1 1;have f2:=al HS.g1 2;have f3:=al HS.g1 3;have f4:=al HS.g1 4;have f5:=al HS.g1 5;go_wp2;refine bodyPost_ret (v:=Hc #[I ⟨#[]⟩,GZ G6 0,I ⟨#[]⟩,J U 0 0,I ⟨#[]⟩,GZ G6 0]) (by simp[results,Tryz.results8,go_sem, *]) rfl ⟨⟨⟨#[]⟩,0,⟨#[]⟩,[],⟨#[]⟩,0⟩,U,0,0,rfl,Hd ⟨λj y hy=>HN.out j y h_ hy,rfl⟩,⟨rfl,Fq _,by decide,λj x h=>by simp at h,He rfl⟩,?_⟩;exact sb1 (sb1 (sb1 (sb1 (sb1 (sb1 (HS.hb))))))
theorem td(g g':Ad) (o:Co) (w:World) (hr:aE w g o.c.raw) (hr':aE w g' o.c.raw) (h:o.p=0->ay o.c):
  Calls Tryz.prog 6 #[Hc #[J g.a1 g.l1 g.c1,J g.a2 g.l2 g.c2,J g.a3 g.l3 g.c3,J g.a4 g.l4 g.c4,J g.a5 g.l5 g.c5,GZ G6 o.c.now,I o.n,GZ G6 o.p],Hc #[J g'.a1 g'.l1 g'.c1,J g'.a2 g'.l2 g'.c2,J g'.a3 g'.l3 g'.c3,J g'.a4 g'.l4 g'.c4,J g'.a5 g'.l5 g'.c5,GZ G6 o.c.now,I o.n,GZ G6 o.p]] w λe w'=>e=Ha (G8 Hb)/\Below w.heap.size w w':=by
 have HR:=ae hr;have HR':=ae hr';have HI:=ae h;have HB:=ae (Ft w.heap.size w);clear hr hr' h;go_enter Tryz.func6,Tryz.ntmps6;go_wp2_with fail;refine (kJ g g' o.c _ (HR.below (HB.trans ((aM _ _ _).mono HB.size))) (HR'.below (HB.trans ((aM _ _ _).mono HB.size)))).mono ?_;rintro e w1 ⟨rfl,hb⟩;obtain⟨HA0,HA1,hbx⟩:=bU hb;have Ba:=ae HA0;have Bb:=ae HA1;replace HB:=upB HB hbx;clear hb hbx HA0 HA1;obtain⟨a0,a1,a2,a3,a4,a5,a6,a7⟩:=cs8 Ba;obtain⟨b0,b1,b2,b3,b4,b5,b6,b7⟩:=cs8 Bb;by_cases hp:o.p=0
 ·have hp1:(o.p==0)=Hb:=et
  go_wp2_with fail;refine ((cv g o.c _ (HR.below HB.out)).mono λ_ _ q=>av.yes q (HI.out hp)).mono ?_;rintro e w2 ⟨rfl,hb⟩;replace HB:=upB HB hb;go_wp2;go_ret;exact⟨rfl,HB.out⟩
 ·have hp1:(o.p==0)=G_:=et
  go_wp2;go_ret;exact⟨rfl,HB.out⟩
end Rc
def sx(k:IntKind) (w:World) (a:Option Addr) (len cap:Nat) (zs:List Int):Prop:=
 (a=U/\len=0/\cap=0/\zs=[])\/
 ∃x,a=F_ x/\len<=cap/\cap<=maxLen/\zs.length=cap/\(∀i,i<zs.length->w.cell? (x.add i)=F_ (GZ k (zs.getD i 0)))/\∀n∈zs,(Lit.int k n).wf=Hb
theorem sx.DY {zs:List Int} (h:sx .u8 w a len cap zs) (hl:len<=1048576):fE w.heap.size w (J a len cap) len:=by
 refine⟨by omega,a,cap,rfl,λj hj=>?_⟩;rcases h with ⟨rfl,rfl,rfl,rfl⟩|⟨x,rfl,hlc,_,hz,hcell,hwf⟩
 ·omega
 ·obtain⟨b,off,spot⟩:=x;have hc:=hcell j af;have hspot:spot=U:=by
   have h0:=hcell 0 af;simpa[Addr.add] using World.cell?_spot h0
  subst hspot;rw[FC] at hc;have hb:b<w.heap.size:=by
   rcases Nat.lt_or_ge b w.heap.size with h1|h1
   ·exact h1
   ·simp[Gc,Array.getElem?_eq_none h1] at hc
  have hmem:zs.getD j 0∈zs:=by
   rw[List.getD_eq_getElem?_getD,Fu af];simp
  have hw:=hwf _ hmem;simp[Lit.wf,IntKind.min,IntKind.max,IntKind.signed,IntKind.bits] at hw;have e:zs.getD j 0=zs[j]?.getD 0:=List.getD_eq_getElem?_getD ..;exact⟨b,off,zs.getD j 0,rfl,hb,hc,by rw[e];omega,by rw[e];omega⟩
end Go.Proofs.YtiplhgedmjoliaaGreatDoor

import Derived.Test.YtpejepeekdjfoaaGreatDoorQ4
import Derived.RegionTactic
/-
 A claim bound to a disk that is there, or to one that is made for it: what is told.
-/
set_option maxRecDepth 100000
set_option maxHeartbeats 12800000
open And renaming intro→Fl
open Array renaming getD_eq_getD_getElem?→Fu, getElem?_eq_some_iff→FE, getElem?_setIfInBounds→FI, length_toList→GU, any_eq_true→Hb, getElem_mem→Ih
open Bool renaming and_eq_true→Gj, or_eq_true→Hf
open Classical renaming byContradiction→GZ
open Go.Act renaming put→GL
open Go.Addr renaming add_lit→FQ
open Go.Builtin renaming append_→GD, copy_→GO, zeroCells→Hl, firstCells→Hq
open Go.Code renaming region→Ix
open Go.Extern.SlicesOverlaps renaming overlaps→Iu
open Go.Lib renaming run_eql_slice_nil→IF
open Go.Op renaming bytesLess→Fz
open Go.Region renaming binds→FY, ready→F9, wanted→GS
open Go.RowKit.Below renaming refl→Ft, heap_alloc→Fw, alloc→Ik
open Go.Value renaming string→FH, ownBlock→G5
open Go.World renaming cell?_of_block→F8, ownsRow_nil→Gf, ownsRow_made→Ia
open List renaming getElem?_eq_some_iff→Fk, lookup→Fp, getElem?_eq_getElem→Fs, setIfInBounds_toArray→Fy, getElem?_map→FA, take_of_length_le→FD, set_cons_zero→FF, forall_mem_cons→FJ, getElem?_append_left→FK, set_cons_succ→FM, length_take→FO, getElem?_take→FP, length_map→FR, getElem?_of_mem→FU, mem_of_getElem?→FX, take_add_one→FZ, length_append→F5, getElem?_cons_zero→F7, getElem?_append_right→Gd, foldr→Ge, mem_cons→Gh, getElem?_drop→Gm, range→Gq, all_eq_true→GA, append_nil→GC, length_drop→GH, drop_eq_nil_of_le→GJ, mem_singleton→G0, getLast→G1, take_append_drop→G3, mem_of_mem_drop→G6, length_cons→G9, getLast?_eq_some_iff→Ha, size_toArray→Hd, mem_append→Hh, mem_range→Hk, findIdx_le_length→Hm, filter_append→Hp, mem_cons_self→Hr, pairwise_append→Ht, length_set→Hv, mem_filter→Hw, map_cons→H9, getElem?_set→Ii, getElem?_append→Ij, flatten_cons→Io, dropLast_concat→Ip, take_length→Iv, take_left'→IC, mem_cons_of_mem→IJ, mem_map→IL
open Nat renaming le_refl→Fq, le_trans→Fx, zero_add→FV, zero_le→H8
open Option.some renaming inj→Fo, injEq→Gw
namespace Go.Proofs.YtpejepeekdjfoaaGreatDoor
theorem kF {p:Prop} (h:p:=by first|exact Ft _ _|exact al _ _|exact aF _ _ _|exact bH _ _ _ _):p:=h
theorem eU {p:Prop} (h:p:=by simp[Act.eval,GL]):p:=h
theorem eT {p:Prop} (h:p:=by simp[Value.oneCell']):p:=h
theorem kX {p:Prop} (h:p:=by rw[hdl];simp only[Nat.min_def];split <;> omega):p:=h
theorem kW {p:Prop} (h:p:=by rw[hyl];simp only[Nat.min_def];split <;> omega):p:=h
theorem nv {p:Prop} (h:p:=by simp[World.setCell];have:=HB.size;omega):p:=h
theorem uS {p:Prop} (h:p:=by rw[HI0.2.2.2];exact growslice_fits (by omega) (by omega)):p:=h
theorem se {p:Prop} (h:p:=by simp[results,Tryz.results58,go_sem, *]):p:=h
theorem uP {p:Prop} (h:p:=by simp only[Hd];rw[hc1l,hyl];omega):p:=h
theorem kT {p:Prop} (h:p:=by simpa using hown5):p:=h
theorem uO {p:Prop} (h:p:=by rw[FR,FO];omega):p:=h
theorem uN {p:Prop} (h:p:=by rw[FR,GH];omega):p:=h
theorem r_ {p:Prop} (h:p:=by rw[FR];omega):p:=h
theorem uL {p:Prop} (h:p:=by rw[hdl,Hd,hR2l];omega):p:=h
theorem uK {p:Prop} (h:p:=by rw[GH,hXl,Nat.sub_mul]):p:=h
end Go.Proofs.YtpejepeekdjfoaaGreatDoor
namespace Go.Proofs.YtpejepeekdjfoaaGreatDoor
theorem wm {p:Prop} (h:p:=by
 have h0:w.grownBy w.drew (some g):=⟨rfl,rfl,rfl,Fq _,fun _ _ _=>rfl⟩;have h1:w.grownBy W1 (some g):=by rw[hW1];exact h0.trans (World.grownBy_alloc w.drew _ _)
 refine⟨?_,?_,?_,?_,fun k hk hkg=>(hW3o k af).trans (h1.block k hk hkg)⟩
 ·rw[hW3,hW2];exact h1.os
 ·rw[hW3,hW2];exact h1.tape
 ·rw[hW3,hW2];exact h1.output
 ·rw[hW3,hW2];exact Fx h1.size (by simp[World.setRow])):p:=h
theorem Eb {p:Prop} (h:p:=by
 exact xg):p:=h
theorem CS {p:Prop} (h:p:=by
 go_enter Tryz.func170,Tryz.ntmps170;go_wp2_with (first|(at_builtin;refine bj rfl _ _ 138 34 rfl base 64 64 i0 (.agg #[.string ⟨#[]⟩,.int .i64 0,.string ⟨#[]⟩,.slice none 0 0,.string ⟨#[]⟩,.int .i64 0]) 6 88 Tryz.underlying138 Tryz.underlying34 HI0.1 HI0.2.1 HI0.2.2.1 HI0.2.2.2 rfl aj _ _ _ rfl HO.out ⟨vb,0,none⟩ 1 1 ys rfl af HYN.out HY1.out cC af hbs ?_));exact p8):p:=h
theorem CN {p:Prop} (h:p:=by
 rintro e w1 ⟨r,rfl,hi,hb1⟩;have HI:=aa hi;have HB1:=upB HB hb1;clear hi hb1 c0 c1 c2 c3 c4 c5;cases r
 ·go_wp2;refine⟨⟨k+1,by omega,by go_num,fun j z hj hz=>?_,HB1.out⟩,by simp[intOf];omega⟩;by_cases e:j=k
  ·subst e;rw[HX.out] at hz;obtain rfl:=Fo hz;exact fun q=>(by have:=HI.2 q;cases this)
  ·exact HE.out j z af hz
 ·go_wp2;go_ret;exact⟨⟨k,rfl,.inl ⟨by omega,k,p,HX.out,HI.1 ct⟩⟩,HB1.out⟩):p:=h
theorem vJ {p:Prop} (h:p:=by
 rintro e w3 ⟨a3,c3,rfl,ho3,hb3⟩;have hs3:w2.heap.size<=w3.heap.size:=hb3.size;exact⟨a3,c3,rfl,ho3,HBD.trans (hb3.mono HBD.size),hs3,by omega,(hb3.block w.heap.size hs2).trans (show w2.drew.heap[w.heap.size]?=_ from HN2.out)⟩):p:=h
theorem CM {p:Prop} (h:p:=by
 exact xf):p:=h
theorem vI {p:Prop} (h:p:=by
 have h1:w.grownBy w.drew (some g):=⟨rfl,rfl,rfl,Fq _,fun _ _ _=>rfl⟩;have h2:w.drew.grownBy W1 (some g):=by rw[HW1.out];exact gY w.drew g _
 exact (h1.trans h2).trans (gY W1 g _)):p:=h
theorem sy {p:Prop} (h:p:=by
 obtain⟨a',c',rfl,hR⟩:=HFIN.out w4 v4 _ af hB5 ho4;exact⟨a',c',rfl,hR,hB5⟩):p:=h
theorem CK {p:Prop} (h:p:=by
 have h9:∃x,a=aE a0 (knAll [] front φs) x/\∀p∈knAll [] front φs,p.2 (x p.1) w:=Go.Proofs.YtpejepeekdjfoaaGreatDoor.Fin.last (P:=P) (ops:=ops) (Q:=fun _ a' w'=> ∃x,a'=aE a0 (knAll [] front φs) x/\∀p∈knAll [] front φs,p.2 (x p.1) w') (back:=none) (fun x _ _ h2=>⟨x,rfl,h2⟩) hlen hin h hall;obtain⟨x,e,h2⟩:=h9;have h3:=hf x w h.below h2;rw[<-e] at h3;exact h3):p:=h
theorem CJ {p:Prop} (h:p:=by
 have Bk3:Hid (w3.heap[w.heap.size]?=some (.cells (c6 a1 l1 y1 a2 l2 y2 (some ⟨b,o,none⟩) l3 y3 a4 l4 y4 a5 l5 y5 c.now) 36 (0,0))):=by
  exact (hgrow.block _ bF (fun e=>by have:=(HO1.lt _ e.symm).1;omega)).trans ((Fw _ _ _ (ae Bk.out)).trans Bk.out)
 clear hown3 hgrow;go_wp2;exact⟨⟨k+1,n+1,by omega,by omega,by go_num,HO3,HB3,Bk3⟩,by simp[intOf];omega⟩):p:=h
theorem CF {p:Prop} (h:p:=by
 have:=GA.1 h4 j (Hk.2 hj);rw[ho] at this;have:=Array.all_eq_true.1 this;obtain⟨k,hk,rfl⟩:=Array.mem_iff_getElem.1 he;have h9:=this k hk;rw[hbe] at h9;simpa using h9):p:=h
theorem Cq {p:Prop} (h:p:=by
 rcases hown.2 with ⟨rfl,rfl⟩|⟨g,cap,cur,rfl,_,_,hnc,_⟩
 ·cases ax <;> simp[GD,run_underlying ht,sizeOf,typeInfo,hi,Builtin.lenOf,Hq,loadCells,loadCellsFrom]
 ·cases ax <;> simp[GD,run_underlying ht,sizeOf,typeInfo,hi,Builtin.lenOf,Hq,hnc,storeCells,loadCells,loadCellsFrom]):p:=h
theorem vB {p:Prop} (h:p:=by
 obtain rfl:len=k:=af
 go_wp2;go_ret;exact⟨⟨-1,rfl,.inr ⟨rfl,fun j p hj=>HE.out j p ny hj⟩⟩,HB.out⟩):p:=h
theorem vA {p:Prop} (h:p:=by
 rw[show i+(cap+1 - i)=cap+1 by omega,<-hG,<-hROW,<-hW1,<-hN] at h;rw[show (cap:Int)+1 - (i:Int)=((cap+1 - i:Nat):Int) by omega];exact h):p:=h
theorem iB {p:Prop} (h:p:=by
 simp only[F5,FO,GH];omega):p:=h
theorem yO {p:Prop} (h:p:=by
 have h4:ps.take k++ps.drop (k+1)=ps.take k:=by rw[GJ af,GC]
 rw[h4];rw[h4] at hlt;have h1:(ps.take k).length=k:=by rw[FO];omega
 rw[gd (fun j z hz=>hlt j z cZ hz),h1]):p:=h
theorem yM {p:Prop} (h:p:=by
 rintro e w1 ⟨⟨r,rfl,hi⟩,hb⟩;have HB:=aa hb;clear hb;rcases hi with ⟨h0,h1⟩|⟨rfl,h1⟩
 ·have H1:=aa h1;clear h1;go_wp2;go_ret;exact aq.t H1.out HB.out
 ·have H1:=aa h1;clear h1;go_wp2;go_ret;exact aq.f (fun ⟨j,p,h2,h3⟩=>H1.out j p h2 h3) HB.out):p:=h
theorem qJ {p:Prop} (h:p:=by
 rcases HO.2 with ⟨h1,h2⟩|⟨g,cp,cur,h1,h2,h3,h4,h5,h6,h7⟩
 ·cases h1;omega
 ·cases h1;exact⟨g,cur,rfl,h2,h3,h6,h7⟩):p:=h
theorem yG {p:Prop} (h:p:=by
 constructor
 ·rintro⟨j,q,h1,h2,h3,h4⟩;by_cases e:j=k
  ·subst e;rw[hp] at h2;obtain rfl:=Fo h2;exact absurd h3 hd
  ·exact⟨j,q,by omega,h2,h3,h4⟩
 ·rintro⟨j,q,h1,h2,h3,h4⟩;exact⟨j,q,by omega,h2,h3,h4⟩):p:=h
theorem qF {p:Prop} (h:p:=by
 rw[hROW,Array.toList_append,Array.toList_append,List.append_assoc];exact IC jI):p:=h
theorem yA {p:Prop} (h:p:=by
 unfold Oper.wp execOp;simp only[ho,resolve,invoke,builtin,Sem.run_bind,Sem.run_pure,Result.andThen_ok,List.map_toArray,H9,List.map_nil,hs,hx,hr];exact hK _ _ (h v w (by simpa using hown) (World.grownBy.refl _ _))):p:=h
theorem qD {p:Prop} (h:p:=by
 rcases ho.2 with ⟨h1,h2⟩|⟨g,cp,cur,h1,_,_,h4,h5,_⟩
 ·cases h1;omega
 ·cases h1;unfold maxLen at h5;omega):p:=h
theorem yy {p:Prop} (h:p:=by
 intro _ _ i1 i2 p q hp hq hpd hqd hpi hqi;obtain⟨k1,hk1⟩:=hpi;obtain⟨i3,n,b1,b2,b3,b4⟩:=(hT.2.2.2.1.1 _ _ hp).2.resolve_left hpd;obtain⟨v,b5,b6⟩:=b4 k1 _ hk1;exact absurd rfl (j7 hT hx hxv b5)):p:=h
theorem qC {p:Prop} (h:p:=by
 rw[hR2];simp only[F5,FO,GH,GU,hRs,hyl];omega):p:=h
theorem qB {p:Prop} (h:p:=by
 rw[hR3];simp only[Hd,F5,FO,GH,hR2l];omega):p:=h
theorem yq {p:Prop} (h:p:=by
 rintro e w1 ⟨r,rfl,hi,hb⟩;obtain⟨HA0,HA1,HA2,hbx⟩:=lQ hb;replace HB:=upB HB hbx;clear hb hbx HA0 HA1 HA2;have HI:=aa hi;clear hi;go_wp2;go_ret;exact⟨r,rfl,HI.out,HB.out⟩):p:=h
theorem yp {p:Prop} (h:p:=by
 have h1:(ps.take k).length=k:=by rw[FO];omega
 rw[FK af,FP,if_pos hj] at hz;have:=hr.lt hj hz hx;rw[hn] at this;exact this):p:=h
theorem qy {p:Prop} (h:p:=by
 rw[aw hg];rw[<-htk,FP] at hj;split at hj
 ·simpa using hj
 ·cases hj):p:=h
theorem qx {p:Prop} (h:p:=by
 simp only[Hd,F5,FO,GH,hc1l];omega):p:=h
theorem qu {p:Prop} (h:p:=by
 obtain⟨g,h1,_,h3⟩:=HC.out k u hu;exact⟨g,h1,(ak hW (bg h3)).trans h3⟩):p:=h
theorem x_ {p:Prop} (h:p:=by
 go_wp2;go_ret;exact aq.t H1.out kF):p:=h
theorem xX {p:Prop} (h:p:=by
 refine⟨v,Hw.2 ⟨FX h2,?_⟩,rfl⟩;unfold onB;rw[Hf];exact .inl (eO.2 h3)):p:=h
theorem xU {p:Prop} (h:p:=by
 refine⟨i1,n,b1,b2,b3,fun q t ht=>?_⟩;obtain⟨v,b5,b6⟩:=b4 q t ht;exact⟨v,tG hT hx hxv hu hum b5,b6⟩):p:=h
theorem xO {p:Prop} (h:p:=by
 cases hq:j - ms.length with
 | zero=>rw[hq] at hj;cases hj;exact⟨rfl,rfl⟩
 | succ q=>rw[hq] at hj;simp at hj):p:=h
theorem xN {p:Prop} (h:p:=by
 have h1:=gW x.toList t.toList;rw[h] at h1;have h2:=bB (fun e=>hn e.symm);rw[h2] at h1;simpa using h1):p:=h
theorem xM {p:Prop} (h:p:=by
 refine⟨i1,n,b1,b2,b3,fun q r hr=>?_⟩;obtain⟨v,b5,b6⟩:=b4 q r hr;exact⟨v,tF hT hx hxv b5,b6⟩):p:=h
theorem xL {p:Prop} (h:p:=by
 subst e;rw[hx] at a1;obtain rfl:=Fo a1;exact cW.ne hT.2.1 _ _ a3 (a4.trans (a5.symm.trans hxv))):p:=h
theorem xK {p:Prop} (h:p:=by
 rw[Gd af,h1,Nat.sub_self,Gm];exact Fs he):p:=h
theorem dY {p:Prop} (h:p:=by
 refine Obl.plain rfl ?_;intro ac wg K hsz hW hf hK;clear hsz;have e7:=hf 7 aj;simp[ai,Fp] at e7;clear hf;exact aT):p:=h
theorem xw {p:Prop} (h:p:=by
 intro j o ho d hd i p hp hpd;have hj:j<front.length:=(Fk.1 ho).1;have hi:i<front.length:=(Fk.1 hp).1;have:=GA.1 h3 j (Hk.2 hj);rw[ho] at this;have:=GA.1 this d hd;have:=GA.1 this i (Hk.2 hi);rw[hp] at this;simp only[hpd,bne_self_eq_false,Bool.false_or,Gj,decide_eq_true_eq] at this;exact Eb):p:=h
theorem qe {p:Prop} (h:p:=by
 refine Obl.plain rfl ?_;intro ac wg K hsz hW hf hK;clear hsz;have e5:=hf 5 aj;simp[ai,Fp] at e5;clear hf;exact aT):p:=h
theorem p_ {p:Prop} (h:p:=by
 rintro e w4 ⟨v4,rfl,ho4,hg4⟩;have hB5:=hB3.grown hg4 af (fun g hg=>by
  have h9:=(ho3.lt g hg).1
  omega)
 exact sy):p:=h
theorem p8 {p:Prop} (h:p:=by
 intro v' w' h1 h2;have H1:=aa h1;have H2:=aa h2;clear h1 h2;go_wp2;go_ret;exact⟨v',rfl,H1.out,H2.out⟩):p:=h
theorem xj {p:Prop} (h:p:=by
 intro j u hu;cases j with
 | zero=>
  simp only[F7,Gw] at hu;subst hu;rw[FQ];exact aw (heap_alloc_new _ _) 0
 | succ j=>simp at hu):p:=h
theorem xi {p:Prop} (h:p:=by
 rw[hpl,hw];unfold br;have h1:(ps.take k).length=k:=by rw[FO];omega
 rw[IC h1,List.drop_left' h1,List.set_eq_take_append_cons_drop,if_pos hk];simp):p:=h
theorem xf {p:Prop} (h:p:=by
 obtain⟨a',c',e,hR⟩:=h45.own ho4 hle.symm aj (fun g hg=>.inr (by have:=(ho4.lt g hg).1;omega));rw[hle] at e hR;rw[hj] at hR;exact⟨a',c',e,hR⟩):p:=h
theorem wS {p:Prop} (h:p:=by
 intro j o ho e he hbe;have hj:j<(front++[s,t]).toArray.size:=(FE.1 ho).1;exact CF):p:=h
theorem vU {p:Prop} (h:p:=by
 refine Obl.plain rfl ?_;intro ac wg K hsz hW hf hK;clear hsz;have e2:=hf 2 aj;simp[ai,Fp] at e2;exact jT):p:=h
theorem vu {p:Prop} (h:p:=by
 have hGi:¬G=i:=af
 have hGim:¬G=i+1:=af
 have hci:¬cap=i:=af
 have hz2:¬((i:Int)=(cap:Int)):=af
 have hz3:(cap:Int)<(cap:Int)+1:=af
 have mixed:Tryz.prog.follows .mixedOrders=true:=ar
 have hw1:IntKind.i64.wrap ((i:Int)+1)=(i:Int)+1:=by rw[IntKind.wrap_i64];omega
 have hb1:(0:Int)<=(i:Int)+1:=af
 have hin:i<=cap:=af
 have htn:((i:Int)+1).toNat=i+1:=af
 have hb3:(i:Int)<=(cap:Int):=af
 have HF:=aa (Fl hrow hfin);exact Fl hGi (Fl hGim (Fl hci (Fl hz2 (Fl hz3 (Fl mixed (Fl hw1 (Fl hb1 (Fl hin (Fl htn (Fl hb3 HF))))))))))):p:=h
theorem vt {p:Prop} (h:p:=by
 have hb2:¬cap=i+1:=af
 have hb4:¬cap=i:=af
 have hb6:¬((cap:Int)<(n:Int)+1):=af
 have mixed:Tryz.prog.follows .mixedOrders=true:=ar
 have hw1:IntKind.i64.wrap ((i:Int)+1)=(i:Int)+1:=by rw[IntKind.wrap_i64];omega
 have hb1:(0:Int)<=(i:Int)+1:=af
 have hin:i<=n:=af
 have htn:((i:Int)+1).toNat=i+1:=af
 have hb3:(i:Int)<=(n:Int)+1:=af
 have HG1:=aa hg1;have HW1:=aa hW1;have HC1:=aa hcur1;have HTK:=aa htk;exact Fl hb2 (Fl hb4 (Fl hb6 (Fl mixed (Fl hw1 (Fl hb1 (Fl hin (Fl htn (Fl hb3 (Fl HG1 (Fl HW1 (Fl HC1 HTK)))))))))))):p:=h
theorem vg {p:Prop} (h:p:=by
 have hg1:W1.heap[g]?=w.heap[g]?:=by rw[hW1];exact Go.heap_alloc_old w.drew _ hgl
 have hv1:W1.heap[vb]?=w.heap[vb]?:=by rw[hW1];exact Go.heap_alloc_old w.drew _ hvl
 exact Fl hg1 hv1):p:=h
theorem BM {p:Prop} (h:p:=by
 have HOW:Hid ((w.alloc (.cells #[] 9)).ownsRow w.heap.size 9 1 (.slice (some ⟨w.heap.size,0,none⟩) 0 0) 0 []):=Ia w #[] 0 (Fq _) (H8 _) aR;have hik:(k:Int)<=cap:=af
 have hkn:k<=cap:=af
 exact Fl HOW (Fl hik hkn)):p:=h
theorem uZ {p:Prop} (h:p:=by
 have h5:=ck5 Bh;have t0:=ck0 Bt;have t1:=ck1 Bt;have t2:=ck2 Bt;have t3:=ck3 Bt;have t4:=ck4 Bt;have t5:=ck5 Bt;have t12:=Ep Bt.out;exact Fl h5 (Fl t0 (Fl t1 (Fl t2 (Fl t3 (Fl t4 (Fl t5 t12))))))):p:=h
theorem uW {p:Prop} (h:p:=by
 have hgn:¬g=N:=af
 have hg2:W2.heap[g]?=w.heap[g]?:=by rw[hW2,setRow_other W1 N g _ hgn];exact hg1
 exact Fl hgn hg2):p:=h
end Go.Proofs.YtpejepeekdjfoaaGreatDoor
namespace Go.Proofs.YtpejepeekdjfoaaGreatDoor
open Go.RowKit
namespace Rc
open Mk

theorem me {α:Type} {nm:α->ByteArray} {ps:List α} {t:ByteArray} {k:Nat} {x y:α} (hr:aP nm ps) (hx:ps[k]?=some x) (hn:nm x=t):br (pl nm (wo nm t ps) t) y (wo nm t ps)=ps.set k y:=by
 have hk:k<ps.length:=(Fk.1 hx).1;have hw:=mL hr hx hn;have hpl:pl nm (wo nm t ps) t=k:=by
  rw[hw];have hlt:∀(j:Nat) z,j<k->(ps.take k++ps.drop (k+1))[j]?=some z->Fz (nm z).toList t.toList=true:=fun j z hj hz=>by
   exact yp
  by_cases he:k+1<ps.length
  ·have h1:(ps.take k).length=k:=by rw[FO];omega
   have h2:(ps.take k++ps.drop (k+1))[k]?=some ps[k+1]:=by
    exact xK
   refine oi hlt h2 ?_;have h3:=hr.lt (Nat.lt_succ_self k) hx (Fs he);rw[hn] at h3;cases h9:Fz (nm ps[k+1]).toList t.toList
   ·rfl
   ·have h8:=cg _ _ _ h3 h9;rw[da] at h8;cases h8
  ·exact yO
 exact xi
theorem Bu {w:World} {a:Option Addr} {len cap:Nat} {vs:List Vd} (h:aN w a len cap 8 (vs.map vdF)):eE w a len cap vs:=by
 obtain⟨h1,h2,h3,h5⟩:=h;refine⟨by simpa using h1,h2,h3,?_⟩;rcases h5 with h5|⟨b,o,rfl,hlt,hc⟩
 ·exact .inl (by simpa using h5)
 ·refine .inr ⟨b,o,rfl,hlt,fun j v hv=>?_⟩;obtain⟨va,vl,vc,hvr,z0,z2,z3,z5,c0,c1,c2,c3,c4,c5,c6,c7⟩:=aK (hc j (vdF v) (by rw[FA,hv];rfl));exact⟨⟨z0,z2,z3,z5⟩,va,vl,vc,hvr,c0,c1,c2,c3,c4,c5,c6,c7⟩
def bdX (x:Xd) (n:ByteArray):Xd:=⟨x.n,x.z,x.k,x.x,n⟩
def bdV (v:Vd) (n:ByteArray):Vd:=⟨v.n,v.c,v.z,v.k,v.x,n,v.y,v.zs⟩
def dw (c:Cl) (i j:Nat) (x:Xd) (u:Vd):Cl:=⟨c.ns,c.ks,c.vs.set j (bdV u x.n),c.xs.set i (bdX x u.n),c.ps,c.now⟩
def mkV (x:Xd) (t:ByteArray):Vd:=⟨aD++x.n,x.z,t,x.k,x.x,x.n,false,[]⟩
def c_ (c:Cl) (i:Nat) (x:Xd) (t:ByteArray):Cl:=⟨c.ns,c.ks,br (pl Vd.n c.vs (aD++x.n)) (mkV x t) c.vs,c.xs.set i (bdX x (aD++x.n)),c.ps,c.now⟩
def gR (c:Cl) (x:Xd) (v:Vd):Cl:=⟨c.ns,c.ks,br (pl Vd.n (wo Vd.n v.n c.vs) v.n) v (wo Vd.n v.n c.vs),br (pl Xd.n (wo Xd.n x.n c.xs) x.n) x (wo Xd.n x.n c.xs),c.ps,c.now⟩
theorem Ah {α:Type} {nm:α->ByteArray} {t:ByteArray} {xs:List α} (h:∀(j:Nat) x,xs[j]?=some x->¬nm x=t):wo nm t xs=xs:=List.filter_eq_self.2 fun y hy=>by
 obtain⟨j,hj⟩:=FU hy;simp[bB (h j y hj)]
theorem oj {c:Cl} {i j:Nat} {x:Xd} {u:Vd} (hr:aB c) (hx:c.xs[i]?=some x) (hu:c.vs[j]?=some u):gR c (bdX x u.n) (bdV u x.n)=dw c i j x u:=by
 unfold gR dw;rw[show (bdX x u.n).n=x.n from rfl,show (bdV u x.n).n=u.n from rfl,me (y:=bdV u x.n) hr.2.1.2.2.1.2.2 hu rfl,me (y:=bdX x u.n) hr.2.1.2.2.2.1.2.2 hx rfl]
theorem qP {c:Cl} {i:Nat} {x:Xd} {t:ByteArray} (hr:aB c) (hx:c.xs[i]?=some x) (hh:hit Vd.n c.vs (aD++x.n)=false):gR c (bdX x (aD++x.n)) (mkV x t)=c_ c i x t:=by
 unfold gR c_;have h1:wo Vd.n (aD++x.n) c.vs=c.vs:=Ah (fun j v hv e=>by
  have:=(cM hr.2.1.2.2.1.2.2 hv e).2;rw[hh] at this
  cases this)
 rw[show (bdX x (aD++x.n)).n=x.n from rfl,show (mkV x t).n=aD++x.n from rfl,h1,me (y:=bdX x (aD++x.n)) hr.2.1.2.2.2.1.2.2 hx rfl]
def aW (t z:ByteArray):ByteArray:=if t=⟨#[]⟩ then z else t
def ed (x:Xd) (k:Kd) (t:ByteArray):Prop:=¬aW t k.z=⟨#[]⟩/\ia x.n x.k x.v k.n k.z (aW t k.z)
def er (c:Cl) (i:Nat) (x:Xd) (k:Kd) (t:ByteArray) (o:Co):Prop:=
 (∃j u,db (svV x.z x.k x.x t) c.vs=some u/\c.vs[j]?=some u/\o=⟨dw c i j x u,u.n,0⟩)\/
 (db (svV x.z x.k x.x t) c.vs=none/\((¬ed x k t/\o=co0 6)\/(ed x k t/\((hit Vd.n c.vs (aD++x.n)=true/\o=co0 7)\/(hit Vd.n c.vs (aD++x.n)=false/\((¬c.vs.length<8/\o=co0 9)\/(c.vs.length<8/\o=⟨c_ c i x (aW t k.z),aD++x.n,0⟩)))))))
theorem er.same {c:Cl} {i:Nat} {x:Xd} {k:Kd} {t:ByteArray} {o o':Co} (hr:aB c) (h:er c i x k t o) (h':er c i x k t o'):o=o':=by
 rcases h with ⟨j,u,a1,a2,rfl⟩|⟨a1,a⟩ <;> rcases h' with ⟨j',u',b1,b2,rfl⟩|⟨b1,b⟩
 ·rw[a1] at b1;obtain rfl:=Fo b1;obtain⟨rfl,-⟩:=hr.2.1.2.2.1.2.2.inj a2 b2 rfl;rfl
 ·rw[a1] at b1;cases b1
 ·rw[a1] at b1;cases b1
 ·rcases a with ⟨a2,rfl⟩|⟨a2,a⟩ <;> rcases b with ⟨b2,rfl⟩|⟨b2,b⟩
  ·rfl
  ·exact absurd b2 a2
  ·exact absurd a2 b2
  ·rcases a with ⟨a3,rfl⟩|⟨a3,a⟩ <;> rcases b with ⟨b3,rfl⟩|⟨b3,b⟩
   ·rfl
   ·rw[a3] at b3;cases b3
   ·rw[a3] at b3;cases b3
   ·rcases a with ⟨a4,rfl⟩|⟨a4,rfl⟩ <;> rcases b with ⟨b4,rfl⟩|⟨b4,rfl⟩
    ·rfl
    ·exact absurd b4 a4
    ·exact absurd a4 b4
    ·rfl
theorem gw.only {c:Cl} {t:ByteArray} {n m:Nat} (h:gw c t n) (h':gw c t m):n=m:=by
 rcases n with _|_|_|n <;> rcases m with _|_|_|m <;> simp only[gw] at h h' <;> first|rfl|exact absurd h h'.1|exact absurd h' h.1|exact absurd h'.2.1 h.2|exact absurd h.2.1 h'.2
theorem gw.not {c:Cl} {t:ByteArray} {n:Nat} {i:Nat} {x:Xd} (h:gw c t n) (h1:¬8000<t.size) (h2:aB c) (hx:c.xs[i]?=some x) (hn:x.n=t):False:=by
 rcases n with _|_|_|n <;> simp only[gw] at h
 ·exact h1 h
 ·exact h.2 h2
 ·exact h.2.2 ⟨i,x,hx,hn⟩

theorem cY {α:Type} {xs:List α} {j k:Nat} {u y z:α} (_hu:xs[j]?=some u) (h:(xs.set j y)[k]?=some z):(k=j/\z=y)\/(¬k=j/\xs[k]?=some z):=by
 rw[Ii] at h;by_cases e:j=k
 ·rw[if_pos e] at h;split at h
  ·exact .inl ⟨e.symm,(Fo h).symm⟩
  ·cases h
 ·rw[if_neg e] at h;exact .inr ⟨fun q=>e q.symm,h⟩
theorem fy {α:Type} {xs:List α} {j:Nat} {u y:α} (hu:xs[j]?=some u):(xs.set j y)[j]?=some y:=by
 rw[Ii,if_pos rfl,if_pos (Fk.1 hu).1]
theorem cO {α:Type} {xs:List α} {j k:Nat} {y z:α} (hk:¬k=j) (h:xs[k]?=some z):(xs.set j y)[k]?=some z:=by
 rw[Ii,if_neg (fun e=>hk e.symm)];exact h
theorem gG {α:Type} {nm:α->ByteArray} {xs:List α} {k:Nat} {x y:α} (h:aP nm xs) (hx:xs[k]?=some x) (e:nm y=nm x):aP nm (xs.set k y):=by
 intro j a b ha hb;have hn:∀(q:Nat) z,(xs.set k y)[q]?=some z->∃z',xs[q]?=some z'/\nm z=nm z':=fun q z hz=>by
  rcases cY hx hz with ⟨rfl,rfl⟩|⟨_,hz⟩
  ·exact⟨x,hx,e⟩
  ·exact⟨z,hz,rfl⟩
 obtain⟨a',ha',ea⟩:=hn _ _ ha;obtain⟨b',hb',eb⟩:=hn _ _ hb;rw[ea,eb];exact h j a' b' ha' hb'
theorem ju {α:Type} {nm:α->ByteArray} {xs:List α} {k:Nat} {x y:α} {t:ByteArray} (h:aP nm xs) (hx:xs[k]?=some x) (e:nm y=nm x) (hh:hit nm xs t=true):hit nm (xs.set k y) t=true:=by
 obtain⟨z,hz,hn⟩:=dq hh;generalize pl nm xs t=q at hz;by_cases hq:q=k
 ·subst hq;rw[hx] at hz;obtain rfl:=Fo hz;exact (cM (gG h hx e) (fy hx) (e.trans hn)).2
 ·exact (cM (gG h hx e) (cO hq hz) hn).2
theorem oq (t:ByteArray):∀(vs:List Vd) (j:Nat) (u y:Vd),vs[j]?=some u->y.zs=u.zs->onOf t (vs.set j y)=onOf t vs
 | [],_,_,_,h,_=>by simp at h
 | v ::vs,0,u,y,h,e=>by
  obtain rfl:v=u:=iP
  rw[FF];unfold onOf;rw[e]
 | v ::vs,j+1,u,y,h,e=>by
  have h':vs[j]?=some u:=iP
  simp[onOf,oq t vs j u y h' e]

theorem jq {α:Type} {p j:Nat} {x y:α} {xs:List α} (h:(br p x xs)[j]?=some y):y=x\/∃i:Nat,xs[i]?=some y:=by
 have h1:=FX h;unfold br at h1;simp only[Hh,G0] at h1;rcases h1 with (h1|h1)|h1
 ·exact .inr (FU (List.mem_of_mem_take h1))
 ·exact .inl h1
 ·exact .inr (FU (G6 h1))
theorem DO {α:Type} (p:Nat) (x:α) (xs:List α):∃j:Nat,(br p x xs)[j]?=some x:=FU (by unfold br;simp)
theorem ki {α:Type} (p:Nat) (x:α) {j:Nat} {y:α} {xs:List α} (h:xs[j]?=some y):∃i:Nat,(br p x xs)[i]?=some y:=by
 refine FU ?_;have h1:=FX h;rw[<-G3 p xs,Hh] at h1;unfold br;simp only[Hh,G0];exact h1.elim (fun h=>.inl (.inl h)) .inr
theorem AG (t:ByteArray) (p:Nat) (y:Vd) (vs:List Vd) (e:y.zs=[]):onOf t (br p y vs)=onOf t vs:=by
 have h0:¬InL y.zs t:=fun ⟨k,hk⟩=>by rw[e] at hk;simp at hk
 have h1:onOf t [y]=0:=by
  unfold onOf;rw[if_neg h0];simp[onOf]
 have h2:=dI t (vs.take p) (vs.drop p);rw[G3] at h2;unfold br;rw[dI,dI,h1,h2];omega
theorem tz {x t:ByteArray} (h:Fz x.toList t.toList=false) (hn:¬x=t):Fz t.toList x.toList=true:=by
 exact xN
theorem oy (b:Bool):dF [] (if b=true then 1 else 6):=⟨by cases b <;> decide,fun i x h=>by simp at h⟩
theorem Dd {α:Type} {nm:α->ByteArray} {xs:List α} {y:α} {t:ByteArray} (h:aP nm xs) (hn:nm y=t) (hh:hit nm xs t=false):aP nm (br (pl nm xs t) y xs):=by
 have hp:pl nm xs t<=xs.length:=Hm;have lo:∀(q:Nat) z,q<pl nm xs t->xs[q]?=some z->Fz (nm z).toList t.toList=true:=fun q z hq hz=>by
  have h1:=List.not_of_lt_findIdx (p:=fun x=> !Fz (nm x).toList t.toList) (xs:=xs) hq;obtain⟨h2,rfl⟩:=Fk.1 hz;simpa using h1
 have hi:∀(q:Nat) z,pl nm xs t<=q->xs[q]?=some z->Fz t.toList (nm z).toList=true:=fun q z hq hz=>by
  have hl:=(Fk.1 hz).1;have h1:=List.findIdx_getElem (p:=fun x=> !Fz (nm x).toList t.toList) (xs:=xs) (w:=Nat.lt_of_le_of_lt hq hl);have h2:xs[pl nm xs t]?=some (xs[pl nm xs t]'(Nat.lt_of_le_of_lt hq hl)):=Fs _;have h3:Fz (nm (xs[pl nm xs t]'(Nat.lt_of_le_of_lt hq hl))).toList t.toList=false:=by simpa[pl] using h1
  have h4:=tz h3 (fun e=>by
   have:=(cM h h2 e).2;rw[hh] at this
   cases this)
  rcases Nat.lt_or_eq_of_le hq with k|k
  ·exact cg _ _ _ h4 (h.lt k h2 hz)
  ·rw[<-k,h2] at hz;obtain rfl:=Fo hz;exact h4
 intro j a b ha hb;have ja:j+1<xs.length+1:=by
  have:=(Fk.1 ha).1;rw[dZ hp] at this;exact this
 rw[jr hp _ ja] at ha;rw[jr hp _ af] at hb;generalize pl nm xs t=p at*;rcases Nat.lt_trichotomy (j+1) p with k|k|k
 ·rw[if_pos k,FK af] at ha;rw[if_pos af,FK af] at hb;exact h j a b ha hb
 ·rw[if_neg af,if_pos k] at ha;rw[if_pos af,FK af] at hb;obtain rfl:y=a:=by simpa using ha
  rw[hn];exact lo j b af hb
 ·rw[if_neg af,if_neg af,Nat.add_sub_cancel,FK af] at ha;rw[if_neg af] at hb;by_cases e:j=p
  ·rw[if_pos e] at hb;obtain rfl:y=b:=by simpa using hb
   rw[hn];exact hi j a af ha
  ·rw[if_neg e,FK af] at hb;obtain⟨q,rfl⟩:∃q,j=q+1:=⟨j - 1,by omega⟩;exact h q a b ha hb

section
variable {c:Cl} {i j:Nat} {x:Xd} {u:Vd}
theorem lF (hT:aB c) (hx:c.xs[i]?=some x) (hxv:x.v=⟨#[]⟩) (hu:c.vs[j]?=some u) (hum:u.m=⟨#[]⟩) {t s:ByteArray} (h:kK c t s):kK (dw c i j x u) t s:=by
 obtain⟨i1,j1,x1,v1,a1,a2,a3,a4,a5,a6,a7⟩:=h;refine⟨i1,j1,x1,v1,cO (fun e=>?_) a1,a2,cO (fun e=>?_) a3,a4,a5,a6,a7⟩
 ·exact xL
 ·subst e;rw[hu] at a3;obtain rfl:=Fo a3;have h1:=(hT.2.1.2.2.2.1.2.1 _ _ a1).1.1;rw[a2,<-a6,hum] at h1;exact absurd h1 aj
theorem tG (hT:aB c) (hx:c.xs[i]?=some x) (hxv:x.v=⟨#[]⟩) (hu:c.vs[j]?=some u) (hum:u.m=⟨#[]⟩) {t:ByteArray} {v:Vd} (h:bI c t v):bI (dw c i j x u) t v:=by
 have hb:=h;obtain⟨i1,j1,x1,a1,a2,a3,a4⟩:=h;have h0:¬x1.v=⟨#[]⟩:=fun e=>cW.ne hT.2.1 _ _ a3 (a4.trans e);have hB:=((hT.2.2.1.2 _ _ a1).2.resolve_left h0);obtain⟨i2,j2,x2,v2,c1,c2,c3,c4,c5,c6,-⟩:=hB;obtain⟨rfl,rfl⟩:=hT.2.1.2.2.1.2.2.inj a3 c3 (a4.trans c4.symm);refine⟨i1,j1,x1,cO (fun e=>?_) a1,a2,cO (fun e=>?_) a3,a4⟩
 ·subst e;rw[hx] at a1;obtain rfl:=Fo a1;exact h0 hxv
 ·subst e;rw[hu] at a3;obtain rfl:=Fo a3;have h1:=(hT.2.1.2.2.2.1.2.1 _ _ a1).1.1;rw[<-c6,hum] at h1;exact absurd h1 aj
theorem j7 {t:ByteArray} {v:Vd} (hT:aB c) (hx:c.xs[i]?=some x) (hxv:x.v=⟨#[]⟩) (h:bI c t v):¬t=x.n:=fun e=>by
 obtain⟨i1,j1,x1,a1,a2,a3,a4⟩:=h;obtain⟨-,rfl⟩:=hT.2.1.2.2.2.1.2.2.inj a1 hx (a2.trans e);exact cW.ne hT.2.1 _ _ a3 (a4.trans hxv)
theorem tV (hx:c.xs[i]?=some x) (hu:c.vs[j]?=some u) (hz:x.z<=u.c) (hk:u.k=x.k) (hxx:u.x=x.x):kK (dw c i j x u) x.n u.n:=
 ⟨i,j,bdX x u.n,bdV u x.n,fy hx,rfl,fy hu,rfl,rfl,rfl,hz,hk,hxx⟩
theorem rP (hT:aB c) (hx:c.xs[i]?=some x) (hxv:x.v=⟨#[]⟩) (hu:c.vs[j]?=some u) (hum:u.m=⟨#[]⟩) (huy:u.y=false) (hz:x.z<=u.c) (hk:u.k=x.k) (hxx:u.x=x.x):aB (dw c i j x u):=by
 have hV:=hT.2.1.2.2.1;have hX:=hT.2.1.2.2.2.1;have hux:=hV.2.1 _ _ hu;have hxo:=hX.2.1 _ _ hx;have hB:=tV hx hu hz hk hxx;refine⟨hT.1,⟨hT.2.1.1,hT.2.1.2.1,⟨?_,?_,gG hV.2.2 hu rfl⟩,⟨?_,?_,gG hX.2.2 hx rfl⟩,hT.2.1.2.2.2.2⟩,⟨?_,?_⟩,⟨?_,hT.2.2.2.1.2.1,?_⟩,⟨?_,?_⟩,?_,?_⟩
 ·rw[show (dw c i j x u).vs=c.vs.set j (bdV u x.n) from rfl,Hv];exact hV.1
 ·intro k v hv;rcases cY hu hv with ⟨-,rfl⟩|⟨-,hv⟩
  ·exact⟨hux.1,hux.2.1,hux.2.2.1,hux.2.2.2.1,.inr hxo.1,fun e=>absurd (show u.y=true from e) (by rw[huy];exact Bool.noConfusion),hux.2.2.2.2.2.2⟩
  ·exact hV.2.1 _ _ hv
 ·rw[show (dw c i j x u).xs=c.xs.set i (bdX x u.n) from rfl,Hv];exact hX.1
 ·intro k v hv;rcases cY hx hv with ⟨-,rfl⟩|⟨-,hv⟩
  ·exact⟨hxo.1,hxo.2.1,hxo.2.2.1,.inr hux.1⟩
  ·exact hX.2.1 _ _ hv
 ·intro k v hv;rcases cY hu hv with ⟨-,rfl⟩|⟨-,hv⟩
  ·exact⟨(hT.2.2.1.1 _ _ hu).1,.inr hB⟩
  ·exact⟨(hT.2.2.1.1 _ _ hv).1,(hT.2.2.1.1 _ _ hv).2.imp id (lF hT hx hxv hu hum)⟩
 ·intro k v hv;rcases cY hx hv with ⟨-,rfl⟩|⟨-,hv⟩
  ·exact⟨(hT.2.2.1.2 _ _ hx).1,.inr hB⟩
  ·exact⟨(hT.2.2.1.2 _ _ hv).1,(hT.2.2.1.2 _ _ hv).2.imp id (lF hT hx hxv hu hum)⟩
 ·intro k p hp;have h1:=hT.2.2.2.1.1 k p hp;refine⟨fun q t ht=>ju hX.2.2 hx rfl (h1.1 q t ht),h1.2.imp id ?_⟩;rintro⟨i1,n,b1,b2,b3,b4⟩;exact xU
 ·intro k v hv;rcases cY hu hv with ⟨-,rfl⟩|⟨-,hv⟩
  ·exact yy
  ·exact hT.2.2.2.1.2.2 _ _ hv
 ·intro k v hv;rcases cY hu hv with ⟨-,rfl⟩|⟨-,hv⟩
  ·exact (hT.2.2.2.2.1.1 j u hu:AQ1 c u)
  ·exact hT.2.2.2.2.1.1 _ _ hv
 ·intro k n hn;have h1:onOf n.n c.vs<=n.s:=hT.2.2.2.2.1.2 k n hn;show onOf n.n (c.vs.set j (bdV u x.n))<=n.s;rw[oq n.n c.vs j u (bdV u x.n) hu rfl];exact h1
 ·intro k n hn q t ht;obtain⟨i1,v,b1,b2,b3⟩:=hT.2.2.2.2.2.1 k n hn q t ht;by_cases e:i1=j
  ·subst e;rw[hu] at b1;obtain rfl:=Fo b1;exact⟨i1,bdV u x.n,fy hu,b2,b3⟩
  ·exact⟨i1,v,cO e b1,b2,b3⟩
 ·intro k p hp h2;obtain⟨i1,n,b1,b2,b3,b4⟩:=hT.2.2.2.2.2.2 k p hp h2;exact xU
end

section
variable {c:Cl} {i:Nat} {x:Xd} {t:ByteArray}
theorem lE (hT:aB c) (hx:c.xs[i]?=some x) (hxv:x.v=⟨#[]⟩) {r s:ByteArray} (h:kK c r s):kK (c_ c i x t) r s:=by
 obtain⟨i1,j1,x1,v1,a1,a2,a3,a4,a5,a6,a7⟩:=h;obtain⟨j2,a3'⟩:=ki (pl Vd.n c.vs (aD++x.n)) (mkV x t) a3;refine⟨i1,j2,x1,v1,cO (fun e=>?_) a1,a2,a3',a4,a5,a6,a7⟩;exact xL
theorem tF (hT:aB c) (hx:c.xs[i]?=some x) (hxv:x.v=⟨#[]⟩) {r:ByteArray} {v:Vd} (h:bI c r v):bI (c_ c i x t) r v:=by
 obtain⟨i1,j1,x1,a1,a2,a3,a4⟩:=h;obtain⟨j2,a3'⟩:=ki (pl Vd.n c.vs (aD++x.n)) (mkV x t) a3;refine⟨i1,j2,x1,cO (fun e=>?_) a1,a2,a3',a4⟩;subst e;rw[hx] at a1;obtain rfl:=Fo a1;exact cW.ne hT.2.1 _ _ a3 (a4.trans hxv)
theorem tx (hx:c.xs[i]?=some x):kK (c_ c i x t) x.n (aD++x.n):=by
 obtain⟨j,hj⟩:=DO (pl Vd.n c.vs (aD++x.n)) (mkV x t) c.vs;exact⟨i,j,bdX x (aD++x.n),mkV x t,fy hx,rfl,hj,rfl,rfl,rfl,Int.le_refl _,rfl,rfl⟩
theorem qZ (hT:aB c) (hx:c.xs[i]?=some x) (hxv:x.v=⟨#[]⟩) (hh:hit Vd.n c.vs (aD++x.n)=false) (hl:c.vs.length<8) (hnm:aO (aD++x.n)) (ht:aO t):aB (c_ c i x t):=by
 have hV:=hT.2.1.2.2.1;have hX:=hT.2.1.2.2.2.1;have hxo:=hX.2.1 _ _ hx;have hB:kK (c_ c i x t) x.n (aD++x.n):=tx hx;refine⟨hT.1,⟨hT.2.1.1,hT.2.1.2.1,⟨?_,?_,Dd hV.2.2 rfl hh⟩,⟨?_,?_,gG hX.2.2 hx rfl⟩,hT.2.1.2.2.2.2⟩,⟨?_,?_⟩,⟨?_,hT.2.2.2.1.2.1,?_⟩,⟨?_,?_⟩,?_,?_⟩
 ·rw[show (c_ c i x t).vs=br (pl Vd.n c.vs (aD++x.n)) (mkV x t) c.vs from rfl,dZ (show pl Vd.n c.vs (aD++x.n)<=c.vs.length from Hm)];omega
 ·intro k v hv;rcases jq hv with rfl|⟨k1,hv⟩
  ·exact⟨hnm,hxo.2.1,ht,hxo.2.2.1,.inr hxo.1,fun e=>absurd (show false=true from e) Bool.noConfusion,oy x.x⟩
  ·exact hV.2.1 _ _ hv
 ·rw[show (c_ c i x t).xs=c.xs.set i (bdX x (aD++x.n)) from rfl,Hv];exact hX.1
 ·intro k v hv;rcases cY hx hv with ⟨-,rfl⟩|⟨-,hv⟩
  ·exact⟨hxo.1,hxo.2.1,hxo.2.2.1,.inr hnm⟩
  ·exact hX.2.1 _ _ hv
 ·intro k v hv;rcases jq hv with rfl|⟨k1,hv⟩
  ·exact⟨(hT.2.2.1.2 _ _ hx).1,.inr hB⟩
  ·exact⟨(hT.2.2.1.1 _ _ hv).1,(hT.2.2.1.1 _ _ hv).2.imp id (lE hT hx hxv)⟩
 ·intro k v hv;rcases cY hx hv with ⟨-,rfl⟩|⟨-,hv⟩
  ·exact⟨(hT.2.2.1.2 _ _ hx).1,.inr hB⟩
  ·exact⟨(hT.2.2.1.2 _ _ hv).1,(hT.2.2.1.2 _ _ hv).2.imp id (lE hT hx hxv)⟩
 ·intro k p hp;have h1:=hT.2.2.2.1.1 k p hp;refine⟨fun q r hr=>ju hX.2.2 hx rfl (h1.1 q r hr),h1.2.imp id ?_⟩;rintro⟨i1,n,b1,b2,b3,b4⟩;exact xM
 ·intro k v hv;rcases jq hv with rfl|⟨k1,hv⟩
  ·exact yy
  ·exact hT.2.2.2.1.2.2 _ _ hv
 ·intro k v hv;rcases jq hv with rfl|⟨k1,hv⟩
  ·intro q r hr;simp[mkV] at hr
  ·exact hT.2.2.2.2.1.1 _ _ hv
 ·intro k n hn;have h1:onOf n.n c.vs<=n.s:=hT.2.2.2.2.1.2 k n hn;show onOf n.n (br (pl Vd.n c.vs (aD++x.n)) (mkV x t) c.vs)<=n.s;rw[AG _ _ _ _ rfl];exact h1
 ·intro k n hn q r hr;obtain⟨i1,v,b1,b2,b3⟩:=hT.2.2.2.2.2.1 k n hn q r hr;obtain⟨i2,b1'⟩:=ki (pl Vd.n c.vs (aD++x.n)) (mkV x t) b1;exact⟨i2,v,b1',b2,b3⟩
 ·intro k p hp h2;obtain⟨i1,n,b1,b2,b3,b4⟩:=hT.2.2.2.2.2.2 k p hp h2;exact xM
end

theorem q_ (s:ByteArray):(aD++s).size=2+s.size:=by rw[ByteArray.size_append];rfl
theorem rb {s:ByteArray} (h:aO s) (hs:s.size<=18):aO (aD++s):=by
 obtain⟨h1,-,h3⟩:=h;have hz:=q_ s;refine⟨by omega,by omega,fun i hi=>?_⟩;by_cases h2:i<2
 ·have e:(aD++s)[i]'hi=aD[i]'(by exact h2):=ByteArray.getElem_append_left h2;rw[e];match i,h2 with
  | 0,_=>rfl
  | 1,_=>rfl
 ·have e:(aD++s)[i]'hi=s[i - 2]'(by omega):=ByteArray.getElem_append_right (by show 2<=i;omega);rw[e];have:=h3 (i - 2) af;revert this;generalize (s[i - 2]'(by omega)).toNat=b;intro h;have hi0:¬i=0:=af
  unfold okB at h ⊢;rw[if_neg hi0];by_cases h4:i - 2=0
  ·rw[if_pos h4] at h;simp[nbB,h]
  ·rw[if_neg h4] at h;exact h
theorem Aj (sv:Vd->Bool) (acc:Option Vd) (v:Vd):de sv acc v=acc\/(de sv acc v=some v/\sv v=true):=by
 unfold de;exact (Decidable.em _).elim (fun h=>.inr ⟨if_pos h,(Bool.and_eq_true_iff.1 h).1⟩) (fun h=>.inl (if_neg h))
theorem sO (sv:Vd->Bool) {u:Vd} :∀(vs:List Vd) (acc:Option Vd),vs.foldl (de sv) acc=some u->acc=some u\/sv u=true
 | [],_,h=>.inl h
 | v ::vs,acc,h=>by
  rcases sO sv vs (de sv acc v) h with h1|h1
  ·rcases Aj sv acc v with h2|⟨h2,h3⟩
   ·rw[h2] at h1;exact .inl h1
   ·rw[h2] at h1;obtain rfl:=Fo h1;exact .inr h3
  ·exact .inr h1
theorem sX {t z:ByteArray} (ht:cV t) (hz:cV z) (h:¬aW t z=⟨#[]⟩):aO (aW t z):=by
 unfold aW at h ⊢;by_cases e:t=⟨#[]⟩
 ·rw[if_pos e] at h ⊢;exact hz.resolve_left h
 ·rw[if_neg e];exact ht.resolve_left e
theorem tW {c:Cl} {i j:Nat} {x:Xd} {k:Kd} {t:ByteArray} {o:Co} (hT:aB c) (hx:c.xs[i]?=some x) (hxv:x.v=⟨#[]⟩) (hk:c.ks[j]?=some k) (ht:cV t) (h:er c i x k t o) (h0:o.p=0):aB o.c:=by
 rcases h with ⟨j1,u,a1,a2,rfl⟩|⟨-,⟨-,rfl⟩|⟨a2,⟨-,rfl⟩|⟨a3,⟨-,rfl⟩|⟨a4,rfl⟩⟩⟩⟩
 ·have h1:=(sO _ _ _ a1).resolve_left (fun e=>by cases e);unfold svV svB at h1;simp only[Bool.and_eq_true_iff] at h1;obtain⟨⟨⟨⟨⟨b1,b2⟩,b3⟩,b4⟩,b5⟩,-⟩:=h1;exact rP hT hx hxv a2 ((dP _).1 b4) (by simpa using b3) (of_decide_eq_true b5) (fZ b1) (eq_of_beq b2)
 ·exact absurd h0 aj
 ·exact absurd h0 aj
 ·exact absurd h0 aj
 ·exact qZ hT hx hxv a3 a4 (rb (hT.2.1.2.2.2.1.2.1 _ _ hx).1 a2.2.2.2.2) (sX ht (hT.2.1.2.1.2.1 _ _ hk).2 a2.1)

def gp (c:Cl) (v:Vd) (s:ByteArray):Prop:=v.x=true/\((∃(j:Nat) (t:ByteArray),v.zs[j]?=some t/\¬t=s)\/∃(j:Nat) (p:Pd),c.ps[j]?=some p/\¬p.d=⟨#[]⟩/\¬p.d=s/\InL p.zs v.m)
def cI (c:Cl) (n:Nd) (t:ByteArray) (c':Cl) (e:Int):Prop:=∃(i:Nat) (x:Xd),c.xs[i]?=some x/\x.n=t/\
 ((∃(j:Nat) (v:Vd),c.vs[j]?=some v/\v.n=x.v/\c'=c/\((¬v.z=n.z/\e=8)\/(v.z=n.z/\gp c v n.n/\e=10)\/(v.z=n.z/\¬gp c v n.n/\e=0)))\/
  (x.v=⟨#[]⟩/\∃(j:Nat) (k:Kd) (o:Co),c.ks[j]?=some k/\k.n=x.k/\er c i x k n.z o/\c'=o.c/\((k.x=false/\e=11)\/(k.x=true/\e=o.p))))
theorem cI.same {c c1 c2:Cl} {n:Nd} {t:ByteArray} {e1 e2:Int} (hT:aB c) (h:cI c n t c1 e1) (h':cI c n t c2 e2):c1=c2/\e1=e2:=by
 obtain⟨i,x,a1,a2,a⟩:=h;obtain⟨i',x',b1,b2,b⟩:=h';obtain⟨rfl,rfl⟩:=hT.2.1.2.2.2.1.2.2.inj a1 b1 (a2.trans b2.symm);rcases a with ⟨j,v,a3,a4,rfl,a⟩|⟨a3,j,k,o,a4,a5,a6,rfl,a⟩ <;> rcases b with ⟨j',v',b3,b4,rfl,b⟩|⟨b3,j',k',o',b4,b5,b6,rfl,b⟩
 ·obtain⟨-,rfl⟩:=hT.2.1.2.2.1.2.2.inj a3 b3 (a4.trans b4.symm);refine⟨rfl,?_⟩;rcases a with ⟨p1,rfl⟩|⟨p1,p2,rfl⟩|⟨p1,p2,rfl⟩ <;> rcases b with ⟨q1,rfl⟩|⟨q1,q2,rfl⟩|⟨q1,q2,rfl⟩ <;> first|rfl|exact absurd q1 p1|exact absurd p1 q1|exact absurd q2 p2|exact absurd p2 q2
 ·exact absurd (a4.trans b3) (cW.ne hT.2.1 _ _ a3)
 ·exact absurd (b4.trans a3) (cW.ne hT.2.1 _ _ b3)
 ·obtain⟨-,rfl⟩:=hT.2.1.2.1.2.2.inj a4 b4 (a5.trans b5.symm);obtain rfl:=a6.same hT b6;refine⟨rfl,?_⟩;rcases a with ⟨p1,rfl⟩|⟨p1,rfl⟩ <;> rcases b with ⟨q1,rfl⟩|⟨q1,rfl⟩
  ·rfl
  ·rw[p1] at q1;cases q1
  ·rw[p1] at q1;cases q1
  ·rfl
theorem er.keeps {c:Cl} {i:Nat} {x:Xd} {k:Kd} {t:ByteArray} {o:Co} (hT:aB c) (hx:c.xs[i]?=some x) (h:er c i x k t o) (h0:o.p=0):o.c.ns=c.ns/\o.c.ks=c.ks/\o.c.ps=c.ps/\o.c.now=c.now/\∀s,hit Xd.n c.xs s=true->hit Xd.n o.c.xs s=true:=by
 rcases h with ⟨j1,u,-,-,rfl⟩|⟨-,⟨-,rfl⟩|⟨-,⟨-,rfl⟩|⟨-,⟨-,rfl⟩|⟨-,rfl⟩⟩⟩⟩
 ·exact⟨rfl,rfl,rfl,rfl,fun s hs=>ju hT.2.1.2.2.2.1.2.2 hx rfl hs⟩
 ·exact absurd h0 aj
 ·exact absurd h0 aj
 ·exact absurd h0 aj
 ·exact⟨rfl,rfl,rfl,rfl,fun s hs=>ju hT.2.1.2.2.2.1.2.2 hx rfl hs⟩
theorem cI.right {c c':Cl} {n:Nd} {t:ByteArray} (hT:aB c) (hn:aO n.z) (h:cI c n t c' 0):aB c'/\c'.ns=c.ns/\c'.ks=c.ks/\c'.ps=c.ps/\c'.now=c.now/\∀s,hit Xd.n c.xs s=true->hit Xd.n c'.xs s=true:=by
 obtain⟨i,x,a1,-,a⟩:=h;rcases a with ⟨j,v,-,-,rfl,-⟩|⟨a3,j,k,o,a4,-,a6,rfl,a⟩
 ·exact⟨hT,rfl,rfl,rfl,rfl,fun _ h=>h⟩
 ·rcases a with ⟨-,e⟩|⟨-,e⟩
  ·exact absurd e aj
  ·exact⟨tW hT a1 a3 a4 (.inr hn) a6 e.symm,a6.keeps hT a1 e.symm⟩
def cn (c:Cl) (n:Nd) (ts:List ByteArray):Nat->Cl->Prop
 | 0,c'=>c'=c
 | k+1,c'=> ∃(c1:Cl) (t:ByteArray),cn c n ts k c1/\ts[k]?=some t/\cI c1 n t c' 0
theorem cn.right {c:Cl} {n:Nd} {ts:List ByteArray} (hT:aB c) (hn:aO n.z):∀(k:Nat) (c':Cl),cn c n ts k c'->aB c'/\c'.ns=c.ns/\c'.ks=c.ks/\c'.ps=c.ps/\c'.now=c.now/\∀s,hit Xd.n c.xs s=true->hit Xd.n c'.xs s=true
 | 0,c',h=>by
  obtain rfl:c'=c:=h;exact⟨hT,rfl,rfl,rfl,rfl,fun _ h=>h⟩
 | k+1,c',h=>by
  obtain⟨c1,t,h1,-,h3⟩:=h;obtain⟨r1,r2,r3,r4,r5,r6⟩:=cn.right hT hn k c1 h1;obtain⟨q1,q2,q3,q4,q5,q6⟩:=h3.right r1 hn;exact⟨q1,q2.trans r2,q3.trans r3,q4.trans r4,q5.trans r5,fun s hs=>q6 s (r6 s hs)⟩
theorem cn.same {c:Cl} {n:Nd} {ts:List ByteArray} (hT:aB c) (hn:aO n.z):∀(k:Nat) (c1 c2:Cl),cn c n ts k c1->cn c n ts k c2->c1=c2
 | 0,_,_,h,h'=>Eq.trans h (Eq.symm h')
 | k+1,c1,c2,h,h'=>by
  obtain⟨d1,t,h1,h2,h3⟩:=h;obtain⟨d2,t',g1,g2,g3⟩:=h';obtain rfl:=cn.same hT hn k d1 d2 h1 g1;rw[h2] at g2;obtain rfl:=Fo g2;exact (h3.same (cn.right hT hn k _ h1).1 g3).1
theorem cn.less {c:Cl} {n:Nd} {ts:List ByteArray} :∀(k j:Nat) (c':Cl),j<=k->cn c n ts k c'->∃c1,cn c n ts j c1
 | 0,j,c',h,r=>by
  obtain rfl:j=0:=af
  exact⟨c',r⟩
 | k+1,j,c',h,r=>by
  by_cases e:j=k+1
  ·subst e;exact⟨c',r⟩
  ·obtain⟨c1,t,r1,-,-⟩:=r;exact cn.less k j c1 af r1
def oY (c:Cl) (n:Nd) (ts:List ByteArray) (c':Cl) (e:Int):Prop:=(cn c n ts ts.length c'/\e=0)\/∃(k:Nat) (c1:Cl) (t:ByteArray),cn c n ts k c1/\ts[k]?=some t/\cI c1 n t c' e/\¬e=0
theorem oY.same {c c1 c2:Cl} {n:Nd} {ts:List ByteArray} {e1 e2:Int} (hT:aB c) (hn:aO n.z) (h:oY c n ts c1 e1) (h':oY c n ts c2 e2):c1=c2/\e1=e2:=by
 have gen:∀{k k':Nat} {d d' d1:Cl} {t:ByteArray} {e:Int},cn c n ts k d->ts[k]?=some t->cI d n t d1 e->¬e=0->cn c n ts k' d'->k'<=k:=fun {k k' d d' d1 t e} r ht hd he r'=>by
  rcases Nat.lt_or_ge k k' with hk|hk
  ·obtain⟨f,r2⟩:=cn.less k' (k+1) d' hk r';obtain⟨g,t',r3,ht',hd'⟩:=r2;obtain rfl:=cn.same hT hn k _ _ r r3;rw[ht] at ht';obtain rfl:=Fo ht';exact absurd (hd.same (cn.right hT hn k _ r).1 hd').2 he
  ·exact hk
 rcases h with ⟨a1,rfl⟩|⟨k,d,t,a1,a2,a3,a4⟩ <;> rcases h' with ⟨b1,rfl⟩|⟨k',d',t',b1,b2,b3,b4⟩
 ·exact⟨cn.same hT hn _ _ _ a1 b1,rfl⟩
 ·have h1:=gen b1 b2 b3 b4 a1;have h2:=(Fk.1 b2).1;omega
 ·have h1:=gen a1 a2 a3 a4 b1;have h2:=(Fk.1 a2).1;omega
 ·have h1:=gen b1 b2 b3 b4 a1;have h2:=gen a1 a2 a3 a4 b1;obtain rfl:k=k':=af
  obtain rfl:=cn.same hT hn k _ _ a1 b1;rw[a2] at b2;obtain rfl:=Fo b2;exact a3.same (cn.right hT hn k _ a1).1 b3

def iN (W:World) (nb vb:Nat) (t:ByteArray) (v:Vd) (ua:Option Addr) (ul uc:Nat):Prop:=W.heap[nb]?=some (.cells #[.string t] 9 (0,0))/\W.heap[vb]?=some (.cells #[.string v.n,.int .i64 v.c,.string v.z,.string v.k,.bool v.x,.string v.m,.bool v.y,.slice ua ul uc] 99 (0,0))
theorem iN.below {W W':World} {nb vb:Nat} {t:ByteArray} {v:Vd} {ua:Option Addr} {ul uc:Nat} (h:iN W nb vb t v ua ul uc) (hb:Below W.heap.size W W'):iN W' nb vb t v ua ul uc:=
 ⟨(hb.block _ (ae h.1)).trans h.1,(hb.block _ (ae h.2)).trans h.2⟩
def jb (p:Pd) (t m:ByteArray):Prop:=p.d=t/\InL p.zs m

theorem As (p:Pd) (va:Option Addr) (vl vc nb vb:Nat) (t:ByteArray) (v:Vd) (ua:Option Addr) (ul uc:Nat) (w:World) (hr:ay w va vl vc p.zs) (hh:iN w nb vb t v ua ul uc):
  Calls Tryz.prog 267 #[.agg #[.string p.n,.int .i64 p.c,.string p.z,.slice va vl vc,.string p.d,.int .i64 p.p],.pointer (some ⟨nb,0,none⟩),.pointer (some ⟨vb,0,none⟩)] w (aq (jb p t v.m) w):=by
 have HR:=aa hr;obtain⟨h1,h2⟩:=hh;have n0:=cs1 h1;have hnl:=ae h1;obtain⟨v0,v1,v2,v3,v4,v5,v6,v7⟩:=cs8 h2;have hvl:=ae h2;clear hr h1 h2;by_cases he:p.d=t
 ·have hq:=a9 he;have HE:=aa he;clear he;go_enter Tryz.func267,Tryz.ntmps267;go_wp2_with fail;refine (cj va vl vc p.zs v.m _ (HR.below (al _ _))).mono ?_;rintro e w1 ⟨r,rfl,hi,hb⟩;have HB:=aa ((al w _).trans (hb.mono aR));clear hb;go_wp2;go_ret;exact⟨r,rfl,⟨fun h=>⟨HE.out,hi.1 h⟩,fun h=>hi.2 h.2⟩,HB.out⟩
 ·have hq:=bB he;have HE:=aa he;clear he;go_enter Tryz.func267,Tryz.ntmps267;go_wp2;go_ret;exact aq.f (fun h=>HE.out h.1) (al _ _)

theorem Aq (a:Option Addr) (len cap:Nat) (ps:List Pd) (nb vb:Nat) (t:ByteArray) (v:Vd) (ua:Option Addr) (ul uc:Nat) (w:World) (hr:aN w a len cap 6 (ps.map pdF)) (hh:iN w nb vb t v ua ul uc):
  Calls Tryz.prog 268 #[.slice a len cap,.func (.func 267) #[] #[.pointer (some ⟨nb,0,none⟩),.pointer (some ⟨vb,0,none⟩)]] w fun e w'=>(∃r:Int,e=.returned (.int .i64 r)/\((0<=r/\∃(j:Nat) (p:Pd),ps[j]?=some p/\jb p t v.m)\/(r= -1/\∀(j:Nat) (p:Pd),ps[j]?=some p->¬jb p t v.m)))/\Below w.heap.size w w':=by
 have HR:=aa hr;have HH:=aa hh;have hlc:=Fx hr.2.1 hr.2.2.1;have hxl:ps.length=len:=dv
 clear hr hh;go_enter Tryz.func268,Tryz.ntmps268;go_wp2;go_loopw [8] (fun i wr=> ∃k:Nat,k<=len/\i=.int .i64 k/\Hid (∀(j:Nat) p,j<k->ps[j]?=some p->¬jb p t v.m)/\Hid (Below w.heap.size w wr)) (fun i _=>len - (intOf i).toNat);case atStart=>exact⟨0,by omega,rfl,fun _ _ h=>absurd h af,Ft _ _⟩
 case round=>
  obtain⟨k,hk,rfl,HE,HB⟩:=hrel;by_cases hlt:k<len
  ·obtain⟨b,o,p,rfl,hb,hx,hat⟩:=bY (HR.below HB.out) hlt;obtain⟨va,vl,vc,hvr,z0,z2,z4,c0,c1,c2,c3,c4,c5⟩:=aS hat;have HX:=aa hx;have HV:=aa hvr;clear hat hx hvr z0 z2 z4;go_wp2_with fail;refine (As p va vl vc nb vb t v ua ul uc _ HV.out (HH.below HB.out)).mono ?_;exact CN
  ·exact vB

theorem Ar (a:Option Addr) (len cap:Nat) (ps:List Pd) (nb vb:Nat) (t:ByteArray) (v:Vd) (ua:Option Addr) (ul uc:Nat) (w:World) (hr:aN w a len cap 6 (ps.map pdF)) (hh:iN w nb vb t v ua ul uc):
  Calls Tryz.prog 266 #[.slice a len cap,.func (.func 267) #[] #[.pointer (some ⟨nb,0,none⟩),.pointer (some ⟨vb,0,none⟩)]] w (aq (∃(j:Nat) (p:Pd),ps[j]?=some p/\jb p t v.m) w):=by
 have HR:=aa hr;have HH:=aa hh;clear hr hh;go_enter Tryz.func266,Tryz.ntmps266;go_wp2_with fail;refine (Aq a len cap ps nb vb t v ua ul uc _ HR.out HH.out).mono ?_;exact yM

theorem AP (d:Ad) (c:Cl) (v:Vd) (ua:Option Addr) (ul uc:Nat) (t:ByteArray) (w:World) (hr:aJ w d c.raw):
  Calls Tryz.prog 265 #[.agg #[.slice d.a1 d.l1 d.c1,.slice d.a2 d.l2 d.c2,.slice d.a3 d.l3 d.c3,.slice d.a4 d.l4 d.c4,.slice d.a5 d.l5 d.c5,.int .i64 c.now],.agg #[.string v.n,.int .i64 v.c,.string v.z,.string v.k,.bool v.x,.string v.m,.bool v.y,.slice ua ul uc],.string t] w (aq (∃(j:Nat) (p:Pd),c.ps[j]?=some p/\jb p t v.m) w):=by
 obtain⟨HR,HB⟩:=gJ;clear hr;go_enter Tryz.func265,Tryz.ntmps265;go_wp2_with fail;refine (Ar d.a5 d.l5 d.c5 c.ps (w.heap.size+1+1) (w.heap.size+1) t v ua ul uc _ (HR.p.below (HB.trans ((bH _ _ _ _).mono HB.size))) ⟨cR _ _ _ _,dC _ _ _ _⟩).mono ?_;exact yq

def inB (zs:List ByteArray) (t:ByteArray):Bool:=zs.any fun z=>z.toList==t.toList
theorem eO {zs:List ByteArray} {t:ByteArray} :inB zs t=true↔InL zs t:=by
 unfold inB;rw[List.any_eq_true];constructor
 ·rintro⟨z,hz,he⟩;obtain⟨j,hj⟩:=FU hz;exact⟨j,by rw[hj,fZ he]⟩
 ·rintro⟨j,hj⟩;exact⟨t,FX hj,a9 rfl⟩
def rX (c:Cl) (t m:ByteArray):Bool:=c.ps.any fun p=>(p.d.toList==t.toList) && inB p.zs m
theorem dx {c:Cl} {t m:ByteArray} :rX c t m=true↔∃(j:Nat) (p:Pd),c.ps[j]?=some p/\jb p t m:=by
 unfold rX;rw[List.any_eq_true];constructor
 ·rintro⟨p,hp,he⟩;obtain⟨j,hj⟩:=FU hp;rw[Gj] at he;exact⟨j,p,hj,fZ he.1,eO.1 he.2⟩
 ·rintro⟨j,p,hj,h1,h2⟩;exact⟨p,FX hj,by rw[Gj];exact⟨a9 h1,eO.2 h2⟩⟩
def onB (c:Cl) (t:ByteArray) (v:Vd):Bool:=inB v.zs t || rX c t v.m
def dK (c:Cl) (t:ByteArray) (vs:List Vd):List ByteArray:=(vs.filter (onB c t)).map Vd.n
theorem sL {c:Cl} {t:ByteArray} {xs:List Vd} {k:Nat} {x:Vd} (h:xs[k]?=some x) (hv:onB c t x=true):dK c t (xs.take (k+1))=dK c t (xs.take k)++[x.n]:=by
 unfold dK;rw[FZ,h,Hp,List.map_append];simp[hv]
theorem DV {c:Cl} {t:ByteArray} {xs:List Vd} {k:Nat} {x:Vd} (h:xs[k]?=some x) (hv:onB c t x=false):dK c t (xs.take (k+1))=dK c t (xs.take k):=by
 unfold dK;rw[FZ,h,Hp,List.map_append];simp[hv]
theorem zM {c:Cl} {t:ByteArray} {w:World} {a:Option Addr} {len cap:Nat} {xs:List Vd} (h:aN w a len cap 8 (xs.map vdF)) (j:Nat) (z:ByteArray) (hz:(dK c t xs)[j]?=some z):z.size<=9223372036854775807:=by
 have hm:=FX hz;obtain⟨x,hx,rfl⟩:=IL.1 hm;obtain⟨i,hi⟩:=FU ((Hw.1 hx).1);have hl:xs.length=len:=by simpa using h.1
 obtain⟨b,o,y,-,-,hy,hat⟩:=bN h (j:=i) (by have:=(Fk.1 hi).1;omega);rw[hi] at hy;cases hy;obtain⟨_,_,_,_,z0,_⟩:=aK hat;exact z0

theorem zA (d:Ad) (c:Cl) (t:ByteArray) (w:World) (hr:aJ w d c.raw) (h8:c.vs.length<=8):
  Calls Tryz.prog 264 #[.agg #[.slice d.a1 d.l1 d.c1,.slice d.a2 d.l2 d.c2,.slice d.a3 d.l3 d.c3,.slice d.a4 d.l4 d.c4,.slice d.a5 d.l5 d.c5,.int .i64 c.now],.string t] w fun e w'=> ∃a l p,e=.returned (.slice a l p)/\cy w' a l p (dK c t c.vs) (fun k=>w.heap.size<=k)/\Below w.heap.size w w':=by
 obtain⟨a1,l1,y1,a2,l2,y2,a3,l3,y3,a4,l4,y4,a5,l5,y5⟩:=d;dsimp only;obtain⟨HR,hl3⟩:=uT;clear hr;obtain⟨i0,hi,hz0,hz1,hz2⟩:=info_parts fC;have HI0:=aa (Fl hi (Fl hz0 (Fl hz1 hz2)));clear hi hz0 hz1 hz2;go_enter Tryz.func264,Tryz.ntmps264;go_wp2;go_loopw [5,11] (fun vo vi wr=> ∃k n:Nat,k<=l3/\n<=k/\vi=.int .i64 k/\Hid (wr.ownsRow (w.heap.size+1) 9 1 vo n ((dK c t (c.vs.take k)).map FH))/\Hid (Below w.heap.size w wr)/\Hid (wr.heap[w.heap.size]?=some (.cells (c6 a1 l1 y1 a2 l2 y2 a3 l3 y3 a4 l4 y4 a5 l5 y5 c.now) 36 (0,0)))) (fun _ vi _=>l3 - (intOf vi).toNat);case atStart=>exact⟨0,0,by omega,by omega,rfl,Gf _ _ _ _,al w _,heap_alloc_new w _⟩
 case round=>
  obtain⟨k,n,hk,hn,rfl,HO,HB,Bk⟩:=hrel;by_cases hlt:k<l3
  ·obtain⟨b,o,v,rfl,hb,hx,hat⟩:=bN (HR.v.below HB.out) hlt;obtain⟨va,vl,vc,hvr,z0,z2,z3,z5,c0,c1,c2,c3,c4,c5,c6,c7⟩:=aK hat;have HXv:=aa hx;have HTv:=aa hvr;clear hat hx z0 z2 z3 z5 hvr;obtain⟨k0,k1,k2,k3,k4,k5⟩:=cs6 Bk;have HY:=aa (Bw.refl wr);go_wp2_with fail;refine (cj va vl vc v.zs t _ (HTv.below (al _ _))).mono ?_;rintro e w1 ⟨r,rfl,hi,hb⟩;clear k0 k1 k2 k3 k4 k5;obtain⟨HA0,hbx⟩:=aL hb;replace Bk:=upK Bk hbx;have Bg:=aa HA0;replace HY:=aa (HY.below hbx);replace HB:=upB HB hbx;clear hb hbx HA0;have HI:=aa hi;clear hi c0 c1 c2 c3 c4 c5 c6 c7;cases r
   ·obtain⟨k0,k1,k2,k3,k4,k5⟩:=cs6 Bk;have ltk_1:=ae Bk.out;obtain⟨g0,g1,g2,g3,g4,g5,g6,g7⟩:=cs8 Bg;go_wp2_with fail;refine (AP ⟨a1,l1,y1,a2,l2,y2,(some ⟨b,o,none⟩),l3,y3,a4,l4,y4,a5,l5,y5⟩ c v va vl vc t _ (HR.below HB.out)).mono ?_;rintro e w2 ⟨r,rfl,hi2,hb⟩;clear k0 k1 k2 k3 k4 k5 ltk_1 g0 g1 g2 g3 g4 g5 g6 g7;replace Bk:=upK Bk hb;replace Bg:=upK Bg hb;replace HY:=aa (HY.below hb);replace HB:=upB HB hb;clear hb;have HI2:=aa hi2;clear hi2;cases r
    ·have hon:onB c t v=false:=by
      unfold onB;rw[Bool.or_eq_false_iff];exact⟨by cases h:inB v.zs t;rfl;(have:=HI.2 (eO.1 h);cases this),by cases h:rX c t v.m;rfl;(have:=HI2.2 (dx.1 h);cases this)⟩
     have HO3:=aa (bM HO.out HY.out);rw[<-DV HXv.out hon] at HO3;obtain⟨k0,k1,k2,k3,k4,k5⟩:=cs6 Bk;have ltk_2:=ae Bk.out;obtain⟨g0,g1,g2,g3,g4,g5,g6,g7⟩:=cs8 Bg;go_wp2;exact⟨⟨k+1,n,by omega,by omega,by go_num,HO3,HB,Bk⟩,by simp[intOf];omega⟩
    ·have hon:onB c t v=true:=by unfold onB;rw[dx.2 (HI2.1 ct)];simp
     have HO1:=aa (bM HO.out HY.out);have hBs1:=HB.size;obtain⟨k0,k1,k2,k3,k4,k5⟩:=cs6 Bk;have ltk_2:=ae Bk.out;obtain⟨g0,g1,g2,g3,g4,g5,g6,g7⟩:=cs8 Bg;go_wp2_with (first|(at_builtin;refine wpList_append_own _ rfl _ _ 55 rfl (w.heap.size+1) 9 i0 (.string ⟨#[]⟩) 1 16 Tryz.underlying55 HI0.1 HI0.2.1 HI0.2.2.1 HI0.2.2.2 rfl aj _ _ _ rfl (HO1.alloc _) ⟨w2.heap.size,0,none⟩ 1 1 [.string v.n] rfl rfl ?c1 ?c2 ?c3 ?c4 ?c5 ?_));case c1=>
      exact xj
     case c2=>intro u hu;rw[G0.1 hu];rfl
     case c3=>unfold maxLen;omega
     case c4=>omega
     case c5=>simp;omega
     rintro v' w3 hown3 hgrow -;have HO3:Hid (w3.ownsRow (w.heap.size+1) 9 1 v' (n+1) ((dK c t (c.vs.take (k+1))).map FH)):=by
      show World.ownsRow _ _ _ _ _ _ _;rw[sL HXv.out hon,List.map_append];exact hown3
     have HB3:=aa ((HB.trans ((al w2 _).mono hBs1)).grown hgrow bF (fun g hg=>by have:=(HO1.lt g hg).1;omega));exact CJ
   ·have hon:onB c t v=true:=by unfold onB;rw[eO.2 (HI.1 ct)];rfl
    have HO1:=aa (bM HO.out HY.out);have hBs1:=HB.size;obtain⟨k0,k1,k2,k3,k4,k5⟩:=cs6 Bk;have ltk_1:=ae Bk.out;obtain⟨g0,g1,g2,g3,g4,g5,g6,g7⟩:=cs8 Bg;go_wp2_with (first|(at_builtin;refine wpList_append_own _ rfl _ _ 55 rfl (w.heap.size+1) 9 i0 (.string ⟨#[]⟩) 1 16 Tryz.underlying55 HI0.1 HI0.2.1 HI0.2.2.1 HI0.2.2.2 rfl aj _ _ _ rfl (HO1.alloc _) ⟨w1.heap.size,0,none⟩ 1 1 [.string v.n] rfl rfl ?c1 ?c2 ?c3 ?c4 ?c5 ?_));case c1=>
     exact xj
    case c2=>intro u hu;rw[G0.1 hu];rfl
    case c3=>unfold maxLen;omega
    case c4=>omega
    case c5=>simp;omega
    rintro v' w3 hown3 hgrow -;have HO3:Hid (w3.ownsRow (w.heap.size+1) 9 1 v' (n+1) ((dK c t (c.vs.take (k+1))).map FH)):=by
     show World.ownsRow _ _ _ _ _ _ _;rw[sL HXv.out hon,List.map_append];exact hown3
    have HB3:=aa ((HB.trans ((al w1 _).mono hBs1)).grown hgrow bF (fun g hg=>by have:=(HO1.lt g hg).1;omega));exact CJ
  ·have hkl:k=l3:=af
   have HO3:=HO;rw[FD af] at HO3;obtain⟨a',p',rfl,hT⟩:=cy.j6 HO3.out (zM HR.v);have HTO:=aa hT;clear HO3 hT HO;go_wp2;go_ret;exact⟨_,_,_,rfl,HTO.bA (fun k _ s=>by have:w.heap.size+1<=k:=s;show w.heap.size<=k;omega),HB.out⟩

theorem gE (w:World) (t t' ty e e':TypeId) (i:TypeInfo) (ht:Tryz.prog.underlying t=some (.slice e)) (ht':Tryz.prog.underlying t'=some (.slice e')) (hi:Tryz.prog.info? e=some i) (a:Option Addr) (l c:Nat) (b:Value):(GD #[t,t'] ty #[.slice a l c,b]).run Tryz.prog w=(GD #[t,t] ty #[.slice a l c,b]).run Tryz.prog w:=by
 simp[GD,run_underlying ht,run_underlying ht',sizeOf,typeInfo,hi]
theorem fY {w:World} {ops:Array Oper} {rest:List Oper} {o:Oper} {a:Act} {Q:Exit->Act->World->Prop} (hgd:o.guard=none) (s x:Operand) (t t':TypeId)
  (ho:o.op=.call { callee:=.builtin .append,args:=#[s,x],argTypes:=#[t,t'] })
  (base:Nat) (e e':TypeId) (i:TypeInfo) (z:Value) (size bytes:Nat) (ht:Tryz.prog.underlying t=some (.slice e)) (ht':Tryz.prog.underlying t'=some (.slice e')) (hi:Tryz.prog.info? e=some i) (hz:i.zero=some z)
  (hsize:i.size=size) (hby:i.bytes=bytes) (hzs:z.cells.size=size) (hsz:0<size)
  (v:Value) (n:Nat) (xs:List Value) (hs:a.eval s=v) (hown:w.ownsRow base e size v n xs)
  (ad:Addr) (m c:Nat) (news:List Value) (hx:a.eval x=.slice (some ad) m c) (hl:news.length=m*size) (hnews:∀j u,news[j]?=some u->w.cell? (ad.add j)=some u) (h1:∀u∈news,u.oneCell'=true)
  (h63:n+m<=maxLen) (hbytes:(n+m)*bytes<=140737488355328) (hbase:base<=w.heap.size)
  (h:∀v' w',w'.ownsRow base e size v' (n+m) (xs++news)->w.grownBy w' v.ownBlock->wpList Tryz.prog ops Q rest (a.put o.dst v') w'):wpList Tryz.prog ops Q (o ::rest) a w:=by
 refine wpList_plain hgd fun K hK=>?_;obtain⟨v',w',hr,h2,h3,h4⟩:=run_append_own (P:=Tryz.prog) w base t o.type e i z size bytes ht hi hz hsize hby hzs hsz v n xs hown ad m c news hl hnews h1 h63 hbytes hbase;obtain⟨va,vl,vc,rfl⟩:∃a l c,v=.slice a l c:=by
  exact wL
 rw[<-gE w t t' o.type e e' i ht ht' hi] at hr;exact ym
theorem gF {w:World} {base:Nat} {t ty e:TypeId} {i:TypeInfo} {size:Nat} (ht:Tryz.prog.underlying t=some (.slice e)) (hi:Tryz.prog.info? e=some i) {v:Value} {n:Nat} {xs:List Value} (hown:w.ownsRow base e size v n xs) (ax:Option Addr) (cx:Nat):
  (GD #[t,t] ty #[v,.slice ax 0 cx]).run Tryz.prog w=.ok v w:=by
 exact Cq
theorem ba {w:World} {ops:Array Oper} {rest:List Oper} {o:Oper} {a:Act} {Q:Exit->Act->World->Prop} (hgd:o.guard=none) (s x:Operand) (t:TypeId)
  (ho:o.op=.call { callee:=.builtin .append,args:=#[s,x],argTypes:=#[t,t] })
  (base:Nat) (e:TypeId) (i:TypeInfo) (z:Value) (size bytes:Nat) (ht:Tryz.prog.underlying t=some (.slice e)) (hi:Tryz.prog.info? e=some i) (hz:i.zero=some z)
  (hsize:i.size=size) (hby:i.bytes=bytes) (hzs:z.cells.size=size) (hsz:0<size)
  (v:Value) (n:Nat) (xs:List Value) (hs:a.eval s=v) (hown:w.ownsRow base e size v n xs)
  (ax:Option Addr) (l c:Nat) (news:List Value) (hx:a.eval x=.slice ax l c) (hl:news.length=l*size) (hnews:∀(j:Nat) u,news[j]?=some u->∃ad:Addr,ax=some ad/\w.cell? (ad.add j)=some u) (h1:∀u∈news,u.oneCell'=true)
  (h63:n+l<=maxLen) (hbytes:(n+l)*bytes<=140737488355328) (hbase:base<=w.heap.size)
  (h:∀v' w',w'.ownsRow base e size v' (n+l) (xs++news)->w.grownBy w' v.ownBlock->wpList Tryz.prog ops Q rest (a.put o.dst v') w'):wpList Tryz.prog ops Q (o ::rest) a w:=by
 rcases news with _|⟨u,news⟩
 ·have hl0:l=0:=by
   rcases Nat.eq_zero_or_pos l with e|e
   ·exact e
   ·have:=Nat.mul_pos e hsz;simp at hl;omega
  subst hl0;refine wpList_plain hgd fun K hK=>?_;have hr:=gF (ty:=o.type) ht hi hown ax c;exact yA
 ·obtain⟨ad,rfl,_⟩:=hnews 0 u rfl;exact fY hgd s x t t ho base e e i z size bytes ht ht hi hz hsize hby hzs hsz v n xs hs hown ad l c (u ::news) hx hl (fun j y hy=>by
   obtain⟨ad',e,h2⟩:=hnews j y hy
   cases e
   exact h2) h1 h63 hbytes hbase h

def RT (zs:List ByteArray):Prop:=zs.Pairwise fun a b=>Fz a.toList b.toList=true
theorem zg {x t:ByteArray} (h:Fz x.toList t.toList=false) (hn:¬x=t):Fz t.toList x.toList=true:=by
 exact xN
def Put (t:ByteArray) (zs zs':List ByteArray):Prop:=(t∈zs/\zs'=zs)\/∃k,k<=zs.length/\zs'=zs.take k++[t]++zs.drop k/\(∀(j:Nat) y,j<k->zs[j]?=some y->Fz y.toList t.toList=true)/\∀y,zs[k]?=some y->Fz t.toList y.toList=true
theorem Put.mem {t:ByteArray} {zs zs':List ByteArray} (h:Put t zs zs') (s:ByteArray):s∈zs'↔s∈zs\/s=t:=by
 rcases h with ⟨h,rfl⟩|⟨k,_,rfl,_,_⟩
 ·exact⟨.inl,fun h1=>h1.elim id (fun e=>e ▸ h)⟩
 ·have h1:s∈zs↔s∈zs.take k\/s∈zs.drop k:=by rw[<-Hh,G3]
  rw[Hh,Hh,G0,h1];constructor
  ·rintro ((h|h)|h)
   ·exact .inl (.inl h)
   ·exact .inr h
   ·exact .inl (.inr h)
  ·rintro ((h|h)|h)
   ·exact .inl (.inl h)
   ·exact .inr h
   ·exact .inl (.inr h)
theorem Put.len {t:ByteArray} {zs zs':List ByteArray} (h:Put t zs zs'):zs'.length<=zs.length+1:=by
 rcases h with ⟨_,rfl⟩|⟨k,hk,rfl,_,_⟩
 ·omega
 ·simp only[F5,FO,GH,List.length_singleton];omega
theorem Put.Fh {t:ByteArray} {zs zs':List ByteArray} (h:Put t zs zs') (hr:RT zs):RT zs':=by
 rcases h with ⟨_,rfl⟩|⟨k,hk,rfl,hlt,hgt⟩
 ·exact hr
 ·have h1:RT (zs.take k++zs.drop k):=by rw[G3];exact hr
  obtain⟨h2,h3,h4⟩:=Ht.1 h1;have h5:∀a∈zs.take k,Fz a.toList t.toList=true:=fun a ha=>by
   obtain⟨j,hj⟩:=FU ha;rw[FP] at hj;split at hj
   ·next hjk=>exact hlt j a hjk hj
   ·cases hj
  have h6:∀a∈zs.drop k,Fz t.toList a.toList=true:=fun a ha=>by
   cases hd:zs.drop k with
   | nil=>rw[hd] at ha;cases ha
   | cons b r=>
    have hb:zs[k]?=some b:=by rw[<-Nat.add_zero k,<-Gm,hd];rfl
    have h7:=hgt b hb;rw[hd] at ha h3
    rcases Gh.1 ha with rfl|ha
    ·exact h7
    ·exact cg _ _ _ h7 ((List.pairwise_cons.1 h3).1 a ha)
  refine Ht.2 ⟨Ht.2 ⟨h2,List.pairwise_singleton _ _,fun a ha b hb=>?_⟩,h3,fun a ha b hb=>?_⟩
  ·rw[G0.1 hb];exact h5 a ha
  ·rcases Hh.1 ha with ha|ha
   ·exact cg _ _ _ (h5 a ha) (h6 b hb)
   ·rw[G0.1 ha];exact h6 b hb
def DY (t:ByteArray) (zs:List ByteArray) (w:World) (e:Ending) (w':World):Prop:=∃a' l' c' zs',e=.returned (.slice a' l' c')/\ay w' a' l' c' zs'/\Put t zs zs'/\Below w.heap.size w w'
theorem RT.ext:∀{xs ys:List ByteArray},RT xs->RT ys->(∀s,s∈xs↔s∈ys)->xs=ys
 | [],[],_,_,_=>rfl
 | [],b ::ys,_,_,h=>by have:=(h b).2 (Hr ..);cases this
 | a ::xs,[],_,_,h=>by have:=(h a).1 (Hr ..);cases this
 | a ::xs,b ::ys,hx,hy,h=>by
  obtain⟨x1,x2⟩:=List.pairwise_cons.1 hx;obtain⟨y1,y2⟩:=List.pairwise_cons.1 hy;have hab:a=b:=by
   rcases Gh.1 ((h a).1 (Hr ..)) with e|ha
   ·exact e
   ·rcases Gh.1 ((h b).2 (Hr ..)) with e|hb
    ·exact e.symm
    ·have h9:=cg _ _ _ (y1 a ha) (x1 b hb);rw[da] at h9;cases h9
  subst hab;have ne:∀{l:List ByteArray},(∀s∈l,Fz a.toList s.toList=true)->∀s∈l,¬s=a:=fun hl s hs e=>by
   have h9:=hl s hs;rw[e,da] at h9;cases h9
  rw[RT.ext x2 y2 (fun s=>⟨fun hs=>(Gh.1 ((h s).1 (IJ _ hs))).resolve_left (ne x1 s hs),fun hs=>(Gh.1 ((h s).2 (IJ _ hs))).resolve_left (ne y1 s hs)⟩)]

theorem jy {α:Type} {l:List α} {k j:Nat} {u:α} (h:(l.take k)[j]?=some u):l[j]?=some u:=by
 rw[FP] at h;split at h
 ·exact h
 ·cases h

theorem kO (a:Option Addr) (len cap:Nat) (zs:List ByteArray) (t:ByteArray) (w:World) (hr:ay w a len cap zs) (hl:len<=64) (ht:t.size<=9223372036854775807):
  Calls Tryz.prog 107 #[.slice a len cap,.string t] w (DY t zs w):=by
 have HR:=aa hr;have hlc:=hr.2.1;have hcm:=hr.2.2.1;have hzl:=hr.1;obtain⟨i0,hi,hz0,hz1,hz2⟩:=info_parts fC;have HI0:=aa (Fl hi (Fl hz0 (Fl hz1 hz2)));clear hi hz0 hz1 hz2;have HC:Hid (∀(j:Nat) u,(zs.map FH)[j]?=some u->∃g o9,a=some ⟨g,o9,none⟩/\g<w.heap.size/\w.cell? ⟨g,o9+j,none⟩=some u):=fun j u hu=>by
  rw[FA,Option.map_eq_some_iff] at hu;obtain⟨z,hz,rfl⟩:=hu;obtain⟨b,o,x,rfl,hb,hx,hc,hsz⟩:=hr.at (k:=j) cZ;rw[hz] at hx;cases hx;exact⟨b,o,rfl,hb,hc⟩
 have HZS:Hid (∀(k j:Nat) z,(zs.take k++[t]++zs.drop k)[j]?=some z->z.size<=9223372036854775807):=fun k j z hz=>by
  have h1:=FX hz;simp only[Hh,G0] at h1;rcases h1 with (h1|rfl)|h1
  ·obtain⟨i,hi⟩:=FU (List.mem_of_mem_take h1);exact hr.2.2.2.1 i z hi
  ·exact ht
  ·obtain⟨i,hi⟩:=FU (G6 h1);exact hr.2.2.2.1 i z hi
 have HON:Hid (∀(l:List ByteArray) u,u∈l.map FH->u.oneCell'=true):=fun l u hu=>by obtain⟨z,_,rfl⟩:=IL.1 hu;rfl
 have HW:Hid (Below w.heap.size w w):=Ft _ _;clear hr;go_enter Tryz.func107,Tryz.ntmps107;go_wp2;go_loop [5] (fun i=> ∃k:Nat,k<=len/\i=.int .i64 k/\Hid (∀(j:Nat) y,j<k->zs[j]?=some y->Fz y.toList t.toList=true)) (fun i=>len - (intOf i).toNat);case atStart=>exact⟨0,by omega,rfl,fun j y hj=>by omega⟩
 case round=>
  obtain⟨k,hk,rfl,HE⟩:=hrel;by_cases hlt:k<len
  ·obtain⟨b,o,x,rfl,hb,hx,hc,hsz⟩:=HR.at hlt;have HX:=aa hx;clear hx hsz;have hk1:(k:Int)<len:=af
   cases hless:Fz x.toList t.toList
   ·by_cases he:x=t
    ·have HP:Hid (Put t zs zs):=.inl ⟨he ▸ FX HX.out,rfl⟩;have hq:=a9 he;clear he;go_wp2;go_ret;exact⟨_,_,_,_,rfl,HR.out,HP.out,HW.out⟩
    have HP:Hid (Put t zs (zs.take k++[t]++zs.drop k)):=.inr ⟨k,by omega,rfl,HE.out,fun y hy=>by rw[HX.out] at hy;cases hy;exact zg hless he⟩;have hq:=bB he;clear he;obtain⟨HOW,hik,hkn⟩:=BM;have hcap:¬cap=k:=af
    all_goals (
     go_wp2_with (first|(at_builtin;refine ba rfl _ _ 55 rfl w.heap.size 9 i0 (.string ⟨#[]⟩) 1 16 Tryz.underlying55 HI0.1 HI0.2.1 HI0.2.2.1 HI0.2.2.2 rfl aj _ _ _ rfl (HOW.out) _ k _ ((zs.take k).map FH) rfl uO (fun j u hu=>by rw[List.map_take] at hu;obtain⟨g9,o9,e,hgl,h3⟩:=HC.out j u (jy hu);cases e <;> exact⟨_,rfl,by simp only[FQ];exact (ak (al w _) hgl).trans h3⟩) (HON.out _) cC af aR ?_))
     intro v5 w5 hown5 hgr5
     replace hown5:w5.ownsRow w.heap.size 9 1 v5 k ((zs.take k).map FH):=kT
     have hb5:=(al w (.cells #[] 9)).grown hgr5 aR (fun g hg=>by simp[G5] at hg;omega);obtain⟨s1,s2,s3,rfl⟩:=bu hown5;have HO5:=aa hown5;have H5:=aa hb5;have hs5:=hb5.size;clear hown5 hgr5 hb5 HOW
     go_wp2_with (first|(at_builtin;refine ba rfl _ _ 55 rfl w.heap.size 9 i0 (.string ⟨#[]⟩) 1 16 Tryz.underlying55 HI0.1 HI0.2.1 HI0.2.2.1 HI0.2.2.2 rfl aj _ _ _ rfl (HO5.alloc _) _ 1 _ [.string t] rfl rfl (fun j u hu=>⟨_,rfl,by rw[FQ,FV,aw (heap_alloc_new w5 _)];simpa using hu⟩) eT cC af bF ?_))
     intro v6 w6 hown6 hgr6;have hb6:=(H5.alloc H5.size _).grown hgr6 bF (fun g hg=>(HO5.lt g hg).1);obtain⟨r1,r2,r3,rfl⟩:=bu hown6;have HO6:=aa hown6;have H6:=aa hb6;have hs6:=hb6.size;clear hown6 hgr6 hb6
     go_wp2_with (first|(at_builtin;refine ba rfl _ _ 55 rfl w.heap.size 9 i0 (.string ⟨#[]⟩) 1 16 Tryz.underlying55 HI0.1 HI0.2.1 HI0.2.2.1 HI0.2.2.2 rfl aj _ _ _ rfl (HO6.out) _ (len - k) _ ((zs.drop k).map FH) rfl uN (fun j u hu=>by first|(rw[GJ af] at hu;simp at hu;done)|(rw[List.map_drop,Gm] at hu;obtain⟨g9,o9,e,hgl,h3⟩:=HC.out _ u hu;cases e <;> exact⟨_,rfl,by simp only[FQ,Nat.add_assoc];exact (ak H6.out hgl).trans h3⟩)) (HON.out _) cC af af ?_))
     intro v7 w7 hown7 hgr7;have hb7:=H6.grown hgr7 af (fun g hg=>(HO6.lt g hg).1)
     replace hown7:w7.ownsRow w.heap.size 9 1 v7 (len+1) ((zs.take k++[t]++zs.drop k).map FH):=by
      have e9:k+1+(len - k)=len+1:=af
      try rw[e9] at hown7
      simpa using hown7
     obtain⟨a',p',rfl,hT⟩:=cy.j6 hown7 (HZS.out k);have HT7:=aa hT;have HB7:=aa hb7;clear hown7 hgr7 hb7 hT hik hkn
     go_wp2
     go_ret
     exact⟨_,_,_,_,rfl,HT7.row,HP.out,HB7.out⟩)
   ·go_wp2;refine⟨⟨k+1,by omega,by go_num,fun j z hj hz=>?_⟩,by simp[intOf];omega⟩;by_cases e:j=k
    ·subst e;rw[HX.out] at hz;obtain rfl:=Fo hz;exact hless
    ·exact HE.out j z af hz
  ·have hk1:¬(k:Int)<len:=af
   have HP:Hid (Put t zs (zs.take k++[t]++zs.drop k)):=.inr ⟨k,by omega,rfl,HE.out,fun y hy=>by have:=(Fk.1 hy).1;omega⟩;obtain⟨HOW,hik,hkn⟩:=BM;rcases a with _|⟨b,o,sp⟩
   ·have hl0:len=0:=GZ fun hne0=>by
     obtain⟨g9,o9,e,_⟩:=HC.out 0 _ (by rw[FA,Fs (show 0<zs.length by omega)];rfl);cases e
    obtain rfl:k=0:=af
    subst hl0;by_cases hcap:cap=0;all_goals (
     go_wp2_with (first|(at_builtin;refine ba rfl _ _ 55 rfl w.heap.size 9 i0 (.string ⟨#[]⟩) 1 16 Tryz.underlying55 HI0.1 HI0.2.1 HI0.2.2.1 HI0.2.2.2 rfl aj _ _ _ rfl (HOW.out) _ 0 _ ((zs.take 0).map FH) rfl uO (fun j u hu=>by rw[List.map_take] at hu;obtain⟨g9,o9,e,hgl,h3⟩:=HC.out j u (jy hu);cases e <;> exact⟨_,rfl,by simp only[FQ];exact (ak (al w _) hgl).trans h3⟩) (HON.out _) cC af aR ?_))
     intro v5 w5 hown5 hgr5
     replace hown5:w5.ownsRow w.heap.size 9 1 v5 0 ((zs.take 0).map FH):=kT
     have hb5:=(al w (.cells #[] 9)).grown hgr5 aR (fun g hg=>by simp[G5] at hg;omega);obtain⟨s1,s2,s3,rfl⟩:=bu hown5;have HO5:=aa hown5;have H5:=aa hb5;have hs5:=hb5.size;clear hown5 hgr5 hb5 HOW
     go_wp2_with (first|(at_builtin;refine ba rfl _ _ 55 rfl w.heap.size 9 i0 (.string ⟨#[]⟩) 1 16 Tryz.underlying55 HI0.1 HI0.2.1 HI0.2.2.1 HI0.2.2.2 rfl aj _ _ _ rfl (HO5.alloc _) _ 1 _ [.string t] rfl rfl (fun j u hu=>⟨_,rfl,by rw[FQ,FV,aw (heap_alloc_new w5 _)];simpa using hu⟩) eT cC af bF ?_))
     intro v6 w6 hown6 hgr6;have hb6:=(H5.alloc H5.size _).grown hgr6 bF (fun g hg=>(HO5.lt g hg).1);obtain⟨r1,r2,r3,rfl⟩:=bu hown6;have HO6:=aa hown6;have H6:=aa hb6;have hs6:=hb6.size;clear hown6 hgr6 hb6
     go_wp2_with (first|(at_builtin;refine ba rfl _ _ 55 rfl w.heap.size 9 i0 (.string ⟨#[]⟩) 1 16 Tryz.underlying55 HI0.1 HI0.2.1 HI0.2.2.1 HI0.2.2.2 rfl aj _ _ _ rfl (HO6.out) _ (0 - 0) _ ((zs.drop 0).map FH) rfl uN (fun j u hu=>by first|(rw[GJ af] at hu;simp at hu;done)|(rw[List.map_drop,Gm] at hu;obtain⟨g9,o9,e,hgl,h3⟩:=HC.out _ u hu;cases e <;> exact⟨_,rfl,by simp only[FQ,Nat.add_assoc];exact (ak H6.out hgl).trans h3⟩)) (HON.out _) cC af af ?_))
     intro v7 w7 hown7 hgr7;have hb7:=H6.grown hgr7 af (fun g hg=>(HO6.lt g hg).1)
     replace hown7:w7.ownsRow w.heap.size 9 1 v7 (0+1) ((zs.take 0++[t]++zs.drop 0).map FH):=by
      have e9:0+1+(0 - 0)=0+1:=af
      try rw[e9] at hown7
      simpa using hown7
     obtain⟨a',p',rfl,hT⟩:=cy.j6 hown7 (HZS.out 0);have HT7:=aa hT;have HB7:=aa hb7;clear hown7 hgr7 hb7 hT hik hkn
     go_wp2
     go_ret
     exact⟨_,_,_,_,rfl,HT7.row,HP.out,HB7.out⟩)
   by_cases hcap:cap=k;all_goals (
    go_wp2_with (first|(at_builtin;refine ba rfl _ _ 55 rfl w.heap.size 9 i0 (.string ⟨#[]⟩) 1 16 Tryz.underlying55 HI0.1 HI0.2.1 HI0.2.2.1 HI0.2.2.2 rfl aj _ _ _ rfl (HOW.out) _ k _ ((zs.take k).map FH) rfl uO (fun j u hu=>by rw[List.map_take] at hu;obtain⟨g9,o9,e,hgl,h3⟩:=HC.out j u (jy hu);cases e <;> exact⟨_,rfl,by simp only[FQ];exact (ak (al w _) hgl).trans h3⟩) (HON.out _) cC af aR ?_))
    intro v5 w5 hown5 hgr5
    replace hown5:w5.ownsRow w.heap.size 9 1 v5 k ((zs.take k).map FH):=kT
    have hb5:=(al w (.cells #[] 9)).grown hgr5 aR (fun g hg=>by simp[G5] at hg;omega);obtain⟨s1,s2,s3,rfl⟩:=bu hown5;have HO5:=aa hown5;have H5:=aa hb5;have hs5:=hb5.size;clear hown5 hgr5 hb5 HOW
    go_wp2_with (first|(at_builtin;refine ba rfl _ _ 55 rfl w.heap.size 9 i0 (.string ⟨#[]⟩) 1 16 Tryz.underlying55 HI0.1 HI0.2.1 HI0.2.2.1 HI0.2.2.2 rfl aj _ _ _ rfl (HO5.alloc _) _ 1 _ [.string t] rfl rfl (fun j u hu=>⟨_,rfl,by rw[FQ,FV,aw (heap_alloc_new w5 _)];simpa using hu⟩) eT cC af bF ?_))
    intro v6 w6 hown6 hgr6;have hb6:=(H5.alloc H5.size _).grown hgr6 bF (fun g hg=>(HO5.lt g hg).1);obtain⟨r1,r2,r3,rfl⟩:=bu hown6;have HO6:=aa hown6;have H6:=aa hb6;have hs6:=hb6.size;clear hown6 hgr6 hb6
    go_wp2_with (first|(at_builtin;refine ba rfl _ _ 55 rfl w.heap.size 9 i0 (.string ⟨#[]⟩) 1 16 Tryz.underlying55 HI0.1 HI0.2.1 HI0.2.2.1 HI0.2.2.2 rfl aj _ _ _ rfl (HO6.out) _ (len - k) _ ((zs.drop k).map FH) rfl uN (fun j u hu=>by first|(rw[GJ af] at hu;simp at hu;done)|(rw[List.map_drop,Gm] at hu;obtain⟨g9,o9,e,hgl,h3⟩:=HC.out _ u hu;cases e <;> exact⟨_,rfl,by simp only[FQ,Nat.add_assoc];exact (ak H6.out hgl).trans h3⟩)) (HON.out _) cC af af ?_))
    intro v7 w7 hown7 hgr7;have hb7:=H6.grown hgr7 af (fun g hg=>(HO6.lt g hg).1)
    replace hown7:w7.ownsRow w.heap.size 9 1 v7 (len+1) ((zs.take k++[t]++zs.drop k).map FH):=by
     have e9:k+1+(len - k)=len+1:=af
     try rw[e9] at hown7
     simpa using hown7
    obtain⟨a',p',rfl,hT⟩:=cy.j6 hown7 (HZS.out k);have HT7:=aa hT;have HB7:=aa hb7;clear hown7 hgr7 hb7 hT hik hkn
    go_wp2
    go_ret
    exact⟨_,_,_,_,rfl,HT7.row,HP.out,HB7.out⟩)

def fL (c:Cl) (zs:List ByteArray) (s:ByteArray):Prop:=∃(j:Nat) (t:ByteArray) (v:Vd),zs[j]?=some t/\bI c t v/\v.n=s
theorem bI.name {c:Cl} {t:ByteArray} {v v':Vd} (hx:aP Xd.n c.xs) (h:bI c t v) (h':bI c t v'):v.n=v'.n:=by
 obtain⟨i,j,x,h1,h2,h3,h4⟩:=h;obtain⟨i',j',x',k1,k2,k3,k4⟩:=h';obtain⟨_,rfl⟩:=hx.inj h1 k1 (h2.trans k2.symm);rw[h4,k4]
theorem fL.snoc {c:Cl} {cs:List ByteArray} {t s:ByteArray} :fL c (cs++[t]) s↔fL c cs s\/∃v,bI c t v/\v.n=s:=by
 constructor
 ·rintro⟨j,t',v,h1,h2,h3⟩;rw[Ij] at h1;split at h1
  ·exact .inl ⟨j,t',v,h1,h2,h3⟩
  ·have h4:=FX h1;rw[G0] at h4;subst h4;exact .inr ⟨v,h2,h3⟩
 ·rintro (⟨j,t',v,h1,h2,h3⟩|⟨v,h2,h3⟩)
  ·exact⟨j,t',v,by rw[FK (Fk.1 h1).1];exact h1,h2,h3⟩
  ·exact⟨cs.length,t,v,by simp,h2,h3⟩
theorem zT {c:Cl} {cs zs:List ByteArray} {t:ByteArray} {v:Vd} {s:ByteArray} (hx:aP Xd.n c.xs) (hb:bI c t v):((s∈zs\/fL c cs s)\/s=v.n)↔(s∈zs\/fL c (cs++[t]) s):=by
 rw[fL.snoc];constructor
 ·rintro ((h|h)|rfl)
  ·exact .inl h
  ·exact .inr (.inl h)
  ·exact .inr (.inr ⟨v,hb,rfl⟩)
 ·rintro (h|h|⟨v',h1,rfl⟩)
  ·exact .inl (.inl h)
  ·exact .inl (.inr h)
  ·exact .inr (h1.name hx hb)
theorem A9 {c:Cl} {cs zs:List ByteArray} {t s:ByteArray} (hb:∀v,¬bI c t v):(s∈zs\/fL c cs s)↔(s∈zs\/fL c (cs++[t]) s):=by
 rw[fL.snoc];constructor
 ·rintro (h|h)
  ·exact .inl h
  ·exact .inr (.inl h)
 ·rintro (h|h|⟨v',h1,_⟩)
  ·exact .inl h
  ·exact .inr h
  ·exact absurd h1 (hb v')
theorem kQ (d:Ad) (c:Cl) (t:ByteArray) (w:World) (hr:aJ w d c.raw) (hT:aB c) {j:Nat} {v:Vd} (hv:c.vs[j]?=some v) (hb:bI c t v):
  Calls Tryz.prog 102 #[.agg #[.slice d.a1 d.l1 d.c1,.slice d.a2 d.l2 d.c2,.slice d.a3 d.l3 d.c3,.slice d.a4 d.l4 d.c4,.slice d.a5 d.l5 d.c5,.int .i64 c.now],.string t] w fun e w'=>e=.returned (.int .i64 j)/\Below w.heap.size w w':=by
 refine (fA d c t w hr hT.2.1.2.2.2.1.2.2 hT.2.1.2.2.1.2.2 (fun j v hv e=>by have h9:=(hT.2.1.2.2.1.2.1 j v hv).1;rw[e] at h9;have h8:=h9.1;revert h8;decide)).mono ?_;rintro e w' ⟨hb2,⟨j',v',h1,h2,rfl⟩|⟨hno,rfl⟩⟩
 ·obtain⟨rfl,_⟩:=hT.2.1.2.2.1.2.2.inj h1 hv (h2.name hT.2.1.2.2.2.1.2.2 hb);exact⟨rfl,hb2⟩
 ·exact absurd hb (hno v)
theorem m_ (d:Ad) (c:Cl) (t:ByteArray) (w:World) (hr:aJ w d c.raw) (hT:aB c) (hno:∀v,¬bI c t v):
  Calls Tryz.prog 102 #[.agg #[.slice d.a1 d.l1 d.c1,.slice d.a2 d.l2 d.c2,.slice d.a3 d.l3 d.c3,.slice d.a4 d.l4 d.c4,.slice d.a5 d.l5 d.c5,.int .i64 c.now],.string t] w fun e w'=>e=.returned (.int .i64 (-1))/\Below w.heap.size w w':=by
 refine (fA d c t w hr hT.2.1.2.2.2.1.2.2 hT.2.1.2.2.1.2.2 (fun j v hv e=>by have h9:=(hT.2.1.2.2.1.2.1 j v hv).1;rw[e] at h9;have h8:=h9.1;revert h8;decide)).mono ?_;rintro e w' ⟨hb2,⟨j',v',h1,h2,rfl⟩|⟨_,rfl⟩⟩
 ·exact absurd h2 (hno v')
 ·exact⟨rfl,hb2⟩
def D3 (c:Cl) (zs cs:List ByteArray) (w:World) (e:Ending) (w':World):Prop:=∃a' l' c' zs',e=.returned (.slice a' l' c')/\ay w' a' l' c' zs'/\RT zs'/\(∀s,s∈zs'↔s∈zs\/fL c cs s)/\zs'.length<=zs.length+cs.length/\Below w.heap.size w w'

theorem kR (d:Ad) (c:Cl) (a:Option Addr) (len cap:Nat) (zs:List ByteArray) (p:Pd) (va:Option Addr) (vl vc:Nat) (w:World) (hr:aJ w d c.raw) (hT:aB c) (hz:ay w a len cap zs) (hri:RT zs) (hp:ay w va vl vc p.zs) (hl:len+vl<=60):
  Calls Tryz.prog 82 #[.agg #[.slice d.a1 d.l1 d.c1,.slice d.a2 d.l2 d.c2,.slice d.a3 d.l3 d.c3,.slice d.a4 d.l4 d.c4,.slice d.a5 d.l5 d.c5,.int .i64 c.now],.slice a len cap,.agg #[.string p.n,.int .i64 p.c,.string p.z,.slice va vl vc,.string p.d,.int .i64 p.p]] w (D3 c zs p.zs w):=by
 obtain⟨a1,l1,y1,a2,l2,y2,a3,l3,y3,a4,l4,y4,a5,l5,y5⟩:=d;dsimp only;have HR:=aa hr;have HT:=aa hT;have HP:=aa hp;have hpl:=hp.1;have hzl:=hz.1;have HZ0:=aa hz;have HRI:=aa hri;have hll:c.vs.length=l3:=kY
 clear hr hT hp hz hri;go_enter Tryz.func82,Tryz.ntmps82;go_wp2;go_loopw [1,7] (fun vl0 vi wr=> ∃(k:Nat) (ca:Option Addr) (cl cc:Nat) (ys:List ByteArray),k<=vl/\vi=.int .i64 k/\vl0=.slice ca cl cc/\Hid (ay wr ca cl cc ys/\RT ys/\(∀s,s∈ys↔s∈zs\/fL c (p.zs.take k) s)/\ys.length<=zs.length+k)/\Hid (Below ((w.alloc (.cells #[.slice a1 l1 y1,.slice a2 l2 y2,.slice a3 l3 y3,.slice a4 l4 y4,.slice a5 l5 y5,.int .i64 c.now] 36)).alloc (.cells #[.string p.n,.int .i64 p.c,.string p.z,.slice va vl vc,.string p.d,.int .i64 p.p] 64)).heap.size ((w.alloc (.cells #[.slice a1 l1 y1,.slice a2 l2 y2,.slice a3 l3 y3,.slice a4 l4 y4,.slice a5 l5 y5,.int .i64 c.now] 36)).alloc (.cells #[.string p.n,.int .i64 p.c,.string p.z,.slice va vl vc,.string p.d,.int .i64 p.p] 64)) wr)) (fun _ vi _=>vl - (intOf vi).toNat);case atStart=>exact⟨0,a,len,cap,zs,by omega,rfl,rfl,⟨HZ0.below (aF _ _ _),HRI.out,fun s=>⟨.inl,fun h=>h.elim id (fun ⟨j,t,v,h,_⟩=>by simp at h)⟩,by omega⟩,Ft _ _⟩
 case round=>
  obtain⟨k,ca,cl,cc,ys,hk,rfl,rfl,HQ,HL⟩:=hrel;have hb0:=HL.out;obtain⟨HA0,HA1,hbx⟩:=cG hb0;have Bk:=aa HA0;have Bp:=aa HA1;have HB:=aa hbx;clear hb0 HA0 HA1 hbx;have hyl:=HQ.1.1;have hyb:=HQ.2.2.2;by_cases hlt:k<vl
  ·have hk1:(k:Int)<vl:=af
   obtain⟨b,o,t,rfl,hb,hx,hc,hsz⟩:=(HP.below HB.out).at hlt;have HX:=aa hx;clear hx hsz;have HL2:Hid (Bw wr wr):=Bw.refl _;rcases Classical.em (∃v,bI c t v) with ⟨v,hbd⟩|hno
   ·obtain⟨i9,j,x9,h91,h92,hv,h94⟩:=hbd;have hbd:bI c t v:=⟨i9,j,x9,h91,h92,hv,h94⟩;have HVJ:=aa hv;have HBD:=aa hbd;clear h91 h92 h94 hbd hv;obtain⟨k0,k1,k2,k3,k4,k5⟩:=cs6 Bk;obtain⟨p0,p1,p2,p3,p4,p5⟩:=cs6 Bp;go_wp2_with fail;clear k0 k1 k2 k3 k4 k5 p0 p1 p2 p3 p4 p5;have Gk:=Bk;have Gp:=Bp;have HW:=HB;obtain⟨k0,k1,k2,k3,k4,k5⟩:=sl6 Gk;obtain⟨p0,p1,p2,p3,p4,p5⟩:=sl6 Gp;have tc:=fun q:Wd wr=>(q.cell hb).trans hc;have hne0:=Wd.ne wr;have HC0:=aa (fun q:Wd wr=>kQ ⟨a1,l1,y1,a2,l2,y2,a3,l3,y3,a4,l4,y4,a5,l5,y5⟩ c t q.w (HR.below (HW.trans (q.b.mono HW.size))) HT.out HVJ.out HBD.out);go_wp2_with fail;refine ag ar ar ?_;repeat (go_big_quiet_step (first|(go_at_call 102;exact Calls.wide (HC0.out _))|fail))
    refine wpQuiet_nil ?_;rintro _ ⟨q1,rfl⟩;obtain⟨HB1,Ck⟩:=cL;have Cp:=upK Gp q1.b;have CHL2:=aa ((HL2.out).below q1.b);clear hne0 HW HB HC0 k0 k1 k2 k3 k4 k5 p0 p1 p2 p3 p4 p5 tc Gk Gp Bk Bp HL2 hb hc;have HB:=HB1;clear HB1;have HL2:=CHL2;clear CHL2;have Bk:=Ck;clear Ck;have Bp:=Cp;clear Cp;have hv:=HVJ.out;have hj3:j<l3:=by have:=(Fk.1 hv).1;omega
    have hj1:(0:Int)<=j:=af
    have hj2:(j:Int)<l3:=af
    obtain⟨b3,o3,y,rfl,hb3,hy,hat⟩:=bN (HR.v.below HB.out) hj3;rw[hv] at hy;obtain rfl:=Fo hy;obtain⟨ya,yl,yc,-,hz0,-,-,-,hc0,-,-,-,-,-,-,-⟩:=aK hat;clear hv hy hat;obtain⟨k0,k1,k2,k3,k4,k5⟩:=cs6 Bk;obtain⟨p0,p1,p2,p3,p4,p5⟩:=cs6 Bp;go_wp2_with fail;refine (kO ca cl cc ys v.n _ (HQ.1.below HL2.out) af hz0).mono ?_;rintro e w2 ⟨sa,sl,sc,zs2,rfl,htx,hput,hb2⟩;clear k0 k1 k2 k3 k4 k5 p0 p1 p2 p3 p4 p5;replace Bk:=upK Bk hb2;replace Bp:=upK Bp hb2;replace HL2:=aa (HL2.below hb2);replace HB:=upB HB hb2;clear hb2;have HTX:=aa htx;have HPU:=aa hput;clear htx hput hc0 hz0 hb3;obtain⟨k0,k1,k2,k3,k4,k5⟩:=cs6 Bk;obtain⟨p0,p1,p2,p3,p4,p5⟩:=cs6 Bp;go_wp2;refine⟨⟨k+1,sa,sl,sc,zs2,by omega,by go_num,rfl,⟨HTX.out,HPU.Fh HQ.2.1,fun s=>?_,by have h9:=HPU.len;omega⟩,HL.trans (HL2.out.mono HL.size)⟩,by simp[intOf];omega⟩;rw[HPU.mem,HQ.2.2.1,FZ,HX.out,Option.toList_some];exact zT HT.2.1.2.2.2.1.2.2 HBD.out
   ·have HNO:Hid (∀v,¬bI c t v):=fun v h=>hno ⟨v,h⟩;clear hno;obtain⟨k0,k1,k2,k3,k4,k5⟩:=cs6 Bk;obtain⟨p0,p1,p2,p3,p4,p5⟩:=cs6 Bp;go_wp2_with fail;clear k0 k1 k2 k3 k4 k5 p0 p1 p2 p3 p4 p5;have Gk:=Bk;have Gp:=Bp;have HW:=HB;obtain⟨k0,k1,k2,k3,k4,k5⟩:=sl6 Gk;obtain⟨p0,p1,p2,p3,p4,p5⟩:=sl6 Gp;have tc:=fun q:Wd wr=>(q.cell hb).trans hc;have hne0:=Wd.ne wr;have HC0:=aa (fun q:Wd wr=>m_ ⟨a1,l1,y1,a2,l2,y2,a3,l3,y3,a4,l4,y4,a5,l5,y5⟩ c t q.w (HR.below (HW.trans (q.b.mono HW.size))) HT.out HNO.out);go_wp2_with fail;refine ag ar ar ?_;repeat (go_big_quiet_step (first|(go_at_call 102;exact Calls.wide (HC0.out _))|fail))
    refine wpQuiet_nil ?_;rintro _ ⟨q1,rfl⟩;obtain⟨HB1,Ck⟩:=cL;have Cp:=upK Gp q1.b;have CHL2:=aa ((HL2.out).below q1.b);clear hne0 HW HB HC0 k0 k1 k2 k3 k4 k5 p0 p1 p2 p3 p4 p5 tc Gk Gp Bk Bp HL2 hb hc;have HB:=HB1;clear HB1;have HL2:=CHL2;clear CHL2;have Bk:=Ck;clear Ck;have Bp:=Cp;clear Cp;obtain⟨k0,k1,k2,k3,k4,k5⟩:=cs6 Bk;obtain⟨p0,p1,p2,p3,p4,p5⟩:=cs6 Bp;go_wp2;refine⟨⟨k+1,ca,cl,cc,ys,by omega,by go_num,rfl,⟨HQ.1.below HL2.out,HQ.2.1,fun s=>?_,by omega⟩,HL.trans (HL2.out.mono HL.size)⟩,by simp[intOf];omega⟩;rw[HQ.2.2.1,FZ,HX.out,Option.toList_some];exact A9 HNO.out
  have hk1:¬(k:Int)<vl:=af
  have HQ2:=HQ;rw[FD (show p.zs.length<=k by omega)] at HQ2;obtain⟨k0,k1,k2,k3,k4,k5⟩:=cs6 Bk;obtain⟨p0,p1,p2,p3,p4,p5⟩:=cs6 Bp;go_wp2;go_ret;exact⟨_,_,_,ys,rfl,HQ2.1,HQ2.2.1,HQ2.2.2.1,by have:=HQ2.2.2.2;omega,HB.out⟩

def PBs (c:Cl) (t:ByteArray) (k:Nat) (s:ByteArray):Prop:=∃(j:Nat) (p:Pd),j<k/\c.ps[j]?=some p/\p.d=t/\fL c p.zs s
def VBs (c:Cl) (t:ByteArray) (k:Nat) (s:ByteArray):Prop:=∃(j:Nat) (v:Vd),j<k/\c.vs[j]?=some v/\InL v.zs t/\v.n=s
theorem PBs.yes {c:Cl} {t s:ByteArray} {k:Nat} {p:Pd} (hp:c.ps[k]?=some p) (hd:p.d=t):PBs c t (k+1) s↔PBs c t k s\/fL c p.zs s:=by
 constructor
 ·rintro⟨j,q,h1,h2,h3,h4⟩;by_cases e:j=k
  ·subst e;rw[hp] at h2;obtain rfl:=Fo h2;exact .inr h4
  ·exact .inl ⟨j,q,by omega,h2,h3,h4⟩
 ·rintro (⟨j,q,h1,h2,h3,h4⟩|h)
  ·exact⟨j,q,by omega,h2,h3,h4⟩
  ·exact⟨k,p,by omega,hp,hd,h⟩
theorem PBs.no {c:Cl} {t s:ByteArray} {k:Nat} {p:Pd} (hp:c.ps[k]?=some p) (hd:¬p.d=t):PBs c t (k+1) s↔PBs c t k s:=by
 exact yG
theorem VBs.yes {c:Cl} {t s:ByteArray} {k:Nat} {v:Vd} (hp:c.vs[k]?=some v) (hd:InL v.zs t):VBs c t (k+1) s↔VBs c t k s\/s=v.n:=by
 constructor
 ·rintro⟨j,q,h1,h2,h3,h4⟩;by_cases e:j=k
  ·subst e;rw[hp] at h2;obtain rfl:=Fo h2;exact .inr h4.symm
  ·exact .inl ⟨j,q,by omega,h2,h3,h4⟩
 ·rintro (⟨j,q,h1,h2,h3,h4⟩|h)
  ·exact⟨j,q,by omega,h2,h3,h4⟩
  ·exact⟨k,v,by omega,hp,hd,h.symm⟩
theorem VBs.no {c:Cl} {t s:ByteArray} {k:Nat} {v:Vd} (hp:c.vs[k]?=some v) (hd:¬InL v.zs t):VBs c t (k+1) s↔VBs c t k s:=by
 exact yG
def AdF (c:Cl) (zs cs:List ByteArray):Fact:=fun v w=> ∃a' l' c' zs',v=.slice a' l' c'/\ay w a' l' c' zs'/\RT zs'/\(∀s,s∈zs'↔s∈zs\/fL c cs s)/\zs'.length<=zs.length+cs.length
theorem AdF.mono {c:Cl} {zs cs:List ByteArray} :Fact.bD (AdF c zs cs):=by
 rintro v w w' ⟨a',l',c',zs',h1,h2,h3⟩ hb;exact⟨a',l',c',zs',h1,h2.below hb,h3⟩
def D2 (c:Cl) (t:ByteArray) (w:World) (e:Ending) (w':World):Prop:=∃a' l' c' zs',e=.returned (.slice a' l' c')/\ay w' a' l' c' zs'/\RT zs'/\(∀s,s∈zs'↔PBs c t c.ps.length s\/VBs c t c.vs.length s)/\Below w.heap.size w w'

theorem th (d:Ad) (c:Cl) (t:ByteArray) (w:World) (hr:aJ w d c.raw) (hT:aB c):
  Calls Tryz.prog 83 #[.agg #[.slice d.a1 d.l1 d.c1,.slice d.a2 d.l2 d.c2,.slice d.a3 d.l3 d.c3,.slice d.a4 d.l4 d.c4,.slice d.a5 d.l5 d.c5,.int .i64 c.now],.string t] w (D2 c t w):=by
 obtain⟨a1,l1,y1,a2,l2,y2,a3,l3,y3,a4,l4,y4,a5,l5,y5⟩:=d;dsimp only;have HR:=aa hr;have hl2:c.ks.length=l2:=by simpa using (show (c.ks.map kdF).length=l2 from hr.k.1)
 have hl3:c.vs.length=l3:=kY
 have hm3:l3<=9223372036854775807:=Fx hr.v.2.1 hr.v.2.2.1;obtain⟨hl5,hm5⟩:=jL;clear hr;have HT:=aa hT;clear hT;have h58:c.ps.length<=8:=by have:=HT.sm.p;omega
 have h38:c.vs.length<=8:=by have:=HT.sm.v;omega
 go_enter Tryz.func83,Tryz.ntmps83;go_wp2;go_loopw [5,6] (fun vo vi wr=> ∃(k:Nat) (ca:Option Addr) (cl cc:Nat) (ys:List ByteArray),k<=l5/\vi=.int .i64 k/\vo=.slice ca cl cc/\Hid (ay wr ca cl cc ys/\RT ys/\(∀s,s∈ys↔PBs c t k s)/\ys.length<=3*k)/\Hid (Below (w.heap.size+1) (w.alloc (.cells #[.slice a1 l1 y1,.slice a2 l2 y2,.slice a3 l3 y3,.slice a4 l4 y4,.slice a5 l5 y5,.int .i64 c.now] 36)) wr)) (fun _ vi _=>l5 - (intOf vi).toNat);case atStart=>exact⟨0,_,0,0,[],by omega,rfl,rfl,⟨⟨rfl,Fq _,by omega,fun j x hx=>by simp at hx,.inl rfl⟩,List.Pairwise.nil,fun s=>⟨fun h=>by simp at h,fun ⟨j,p,h,_⟩=>by omega⟩,by simp⟩,by first|exact Ft _ _|exact (al _ _).mono aR⟩
 case round=>
  obtain⟨k,ca,cl,cc,ys,hk,rfl,rfl,HQ,HL⟩:=hrel;have Bk:=aa ((HL.block w.heap.size af).trans (heap_alloc_new w (.cells (c6 a1 l1 y1 a2 l2 y2 a3 l3 y3 a4 l4 y4 a5 l5 y5 c.now) 36)));have HB:=aa ((al w (.cells (c6 a1 l1 y1 a2 l2 y2 a3 l3 y3 a4 l4 y4 a5 l5 y5 c.now) 36)).trans (HL.mono af));have hyl:=HQ.1.1;have hyb:=HQ.2.2.2;by_cases hlt:k<l5
  ·obtain⟨b,o,x,rfl,hb,hx,hat⟩:=bY (HR.p.below HB.out) hlt;obtain⟨va,vl,vc,hvr,z0,z2,z4,c0,c1,c2,c3,c4,c5⟩:=aS hat;have HXx:=aa hx;have HTx:=aa hvr;have HZx0:=aa z0;clear hat hx z0 z2 z4 hvr;have hbw:=hb;clear hb;have hk1:(k:Int)<l5:=af
   have HL2:Hid (Bw wr wr):=Bw.refl _;by_cases he:x.d=t
   ·have hq:=a9 he;have HHE:=aa he;clear he;obtain⟨k0,k1,k2,k3,k4,k5⟩:=cs6 Bk;go_wp2_with fail;have hv3:vl<=3:=by have h9:(x.zs.length:Int)<=3:=(HT.2.1.2.2.2.2.2.1 k x HXx.out).2.2.2.1.1;have h8:x.zs.length=vl:=HTx.1;omega
    have HCS:=aa (Fl c0 (Fl c1 (Fl c2 (Fl c3 (Fl c4 c5)))));have HBW:=aa hbw;clear c0 c1 c2 c3 c4 c5 hbw;clear k0 k1 k2 k3 k4 k5;rename_i K0 hK0;refine aU ar rfl rfl ar ?_;refine' au.an _ rfl ?_ ?_;rotate_left 1
    ·exact vU
    refine' au.an _ rfl ?_ ?_;rotate_left 1
    ·exact qe
    refine' au.an _ rfl ?_ ?_;rotate_left 1
    ·exact qb
    refine' au.an _ rfl ?_ ?_;rotate_left 1
    ·refine Obl.plain rfl ?_;intro ac wg K hsz hW hf hK;clear hsz;have e26:=hf 26 aj;simp[ai,Fp] at e26;exact jT
    refine' au.an _ rfl ?_ ?_;rotate_left 1
    ·refine Obl.plain rfl ?_;intro ac wg K hsz hW hf hK;clear hsz;have e6:=hf 6 aj;simp[ai,Fp] at e6;clear hf;exact aT
    refine' au.an _ rfl ?_ ?_;rotate_left 1
    ·refine Obl.plain rfl ?_;intro ac wg K hsz hW hf hK;clear hsz;have e27:=hf 27 aj;simp[ai,Fp] at e27;have e28:=hf 28 aj;simp[ai,Fp] at e28;clear hf;have hk1:(k:Int)<l5:=af
     exact aT
    refine' au.an _ rfl ?_ ?_;rotate_left 1
    ·refine Obl.plain rfl ?_;intro ac wg K hsz hW hf hK;clear hsz;have e29:=hf 29 aj;simp[ai,Fp] at e29;clear hf;obtain⟨d0,d1,d2,d3,d4,d5⟩:=HCS.out;replace d0:=(ak hW HBW.out).trans d0;replace d1:=(ak hW HBW.out).trans d1;replace d2:=(ak hW HBW.out).trans d2;replace d3:=(ak hW HBW.out).trans d3;replace d4:=(ak hW HBW.out).trans d4;replace d5:=(ak hW HBW.out).trans d5;exact aT
    refine au.step (AdF c ys x.zs) rfl (AdF.mono) ?_ ?_
    ·refine Obl.plain rfl ?_;intro ac wg K hsz hW hf hK;clear hsz;have e24:=hf 24 aj;simp[ai,Fp] at e24;have e25:=hf 25 aj;simp[ai,Fp] at e25;have e30:=hf 30 aj;simp[ai,Fp] at e30;clear hf;go_simp;refine (kR ⟨a1,l1,y1,a2,l2,y2,a3,l3,y3,a4,l4,y4,(some ⟨b,o,none⟩),l5,y5⟩ c ca cl cc ys x va vl vc _ (HR.below (HB.trans (hW.mono HB.size))) HT.out (HQ.1.below hW) HQ.2.1 (HTx.below hW) af).mono ?_;rintro e w6 ⟨sa,sl,sc,zs2,rfl,htx,hri2,hmm2,hl2,hb6⟩;exact hK _ _ hb6 ⟨sa,sl,sc,zs2,rfl,htx,hri2,hmm2,hl2⟩
    refine au.done ?_;intro q w1 hW hf;simp only[FJ] at hf;obtain⟨⟨sa,sl,sc,zs2,h31,htx,hri2,hmm2,hl2⟩,-⟩:=hf;have hb2:=hW;intro K hK;rw[if_pos bJ];simp only[aE,Ge,GL,Fy,FF,FM,h31];simp only[G1];go_simp;refine hK _ _ ?_;refine hK0 _ _ ?_;clear hK hK0 K K0;replace Bk:=upK Bk hb2;replace HL2:=aa (HL2.below hb2);replace HB:=upB HB hb2;clear hb2;clear hW HCS HBW;have HTX:=aa (Fl htx (Fl hri2 hmm2));have hxz:=HTx.1;clear htx hri2 hmm2;obtain⟨k0,k1,k2,k3,k4,k5⟩:=cs6 Bk;go_wp2;refine⟨⟨k+1,sa,sl,sc,zs2,by omega,by go_num,rfl,⟨HTX.1,HTX.2.1,fun s=>?_,by omega⟩,HL.trans (HL2.out.mono (by have h8:=HL.size;rw[dH] at h8;exact h8))⟩,by simp[intOf];omega⟩;rw[HTX.2.2,HQ.2.2.1,PBs.yes HXx.out HHE.out]
   have hq:=bB he;have HHE:=aa he;clear he;obtain⟨k0,k1,k2,k3,k4,k5⟩:=cs6 Bk;go_wp2;refine⟨⟨k+1,ca,cl,cc,ys,by omega,by go_num,rfl,⟨HQ.1,HQ.2.1,fun s=>?_,by omega⟩,HL.out⟩,by simp[intOf];omega⟩;rw[HQ.2.2.1,PBs.no HXx.out HHE.out]
  have hkl:k=l5:=af
  have hk1:¬(k:Int)<l5:=af
  clear hlt HL;obtain⟨W1,hW1⟩:∃W1,W1=wr:=⟨_,rfl⟩;subst hW1;obtain⟨k0,k1,k2,k3,k4,k5⟩:=cs6 Bk;go_wp2;clear k0 k1 k2 k3 k4 k5;go_loopw [5,7] (fun vo vi wr=> ∃(m2:Nat) (ca:Option Addr) (cl cc:Nat) (ys:List ByteArray),m2<=l3/\vi=.int .i64 m2/\vo=.slice ca cl cc/\Hid (ay wr ca cl cc ys/\RT ys/\(∀s,s∈ys↔PBs c t k s\/VBs c t m2 s)/\ys.length<=3*k+m2)/\Hid (Below W1.heap.size W1 wr)) (fun _ vi _=>l3 - (intOf vi).toNat);case atStart=>exact⟨0,_,_,_,ys,by omega,rfl,rfl,⟨HQ.1,HQ.2.1,fun s=>by rw[HQ.2.2.1];exact⟨.inl,fun h=>h.elim id (fun ⟨j,p,h,_⟩=>by omega)⟩,by omega⟩,Ft _ _⟩
  case round=>
   clear HQ hyl hyb;obtain⟨m2,ca,cl,cc,ys,hmm2,rfl,rfl,HQ,HL⟩:=hrel;replace Bk:=aa ((HL.block _ (ae Bk.out)).trans Bk.out);replace HB:=aa (HB.trans (HL.mono HB.size));have hyl:=HQ.1.1;have hyb:=HQ.2.2.2;by_cases hlt:m2<l3
   ·obtain⟨b,o,x,rfl,hb,hx,hat⟩:=bN (HR.v.below HB.out) hlt;obtain⟨va,vl,vc,hvr,z0,z2,z3,z5,c0,c1,c2,c3,c4,c5,c6,c7⟩:=aK hat;have HXx:=aa hx;have HTx:=aa hvr;have HZx0:=aa z0;clear hat hx z0 z2 z3 z5 hvr;have hbw:=hb;clear hb;have hk3:(m2:Int)<l3:=af
    have HL2:Hid (Bw wr wr):=Bw.refl _;obtain⟨k0,k1,k2,k3,k4,k5⟩:=cs6 Bk;go_wp2_with fail;refine (di va vl vc x.zs t _ HTx.out).mono ?_;rintro e w1 ⟨r,rfl,hh,hb2⟩;have hc0:=(ak hb2 hbw).trans c0;clear c0 c1 c2 c3 c4 c5 c6 c7 hbw;clear k0 k1 k2 k3 k4 k5;replace Bk:=upK Bk hb2;replace HL2:=aa (HL2.below hb2);replace HB:=upB HB hb2;clear hb2;cases r
    ·have HHN:Hid (¬InL x.zs t):=fun h=>(by have h9:=hh.2 h;cases h9);clear hh;obtain⟨k0,k1,k2,k3,k4,k5⟩:=cs6 Bk;go_wp2;refine⟨⟨m2+1,ca,cl,cc,ys,by omega,by go_num,rfl,⟨HQ.1.below HL2.out,HQ.2.1,fun s=>?_,by omega⟩,HL.trans (HL2.out.mono HL.size)⟩,by simp[intOf];omega⟩;rw[HQ.2.2.1,VBs.no HXx.out HHN.out]
    have HHN:Hid (InL x.zs t):=hh.1 ct;clear hh;obtain⟨k0,k1,k2,k3,k4,k5⟩:=cs6 Bk;go_wp2_with fail;refine (kO ca cl cc ys x.n _ (HQ.1.below HL2.out) af HZx0.out).mono ?_;rintro e w2 ⟨sa,sl,sc,zs2,rfl,htx,hput,hb2⟩;clear k0 k1 k2 k3 k4 k5;replace Bk:=upK Bk hb2;replace HL2:=aa (HL2.below hb2);replace HB:=upB HB hb2;clear hb2;have HTX:=aa htx;have HPU:=aa hput;clear htx hput hc0;obtain⟨k0,k1,k2,k3,k4,k5⟩:=cs6 Bk;go_wp2;refine⟨⟨m2+1,sa,sl,sc,zs2,by omega,by go_num,rfl,⟨HTX.out,HPU.Fh HQ.2.1,fun s=>?_,by have h9:=HPU.len;omega⟩,HL.trans (HL2.out.mono HL.size)⟩,by simp[intOf];omega⟩;rw[HPU.mem,HQ.2.2.1,VBs.yes HXx.out HHN.out,or_assoc]
   have hk3:¬(m2:Int)<l3:=af
   have hkl2:m2=l3:=af
   obtain⟨k0,k1,k2,k3,k4,k5⟩:=cs6 Bk;go_wp2;go_ret;exact⟨_,_,_,ys,rfl,HQ.1,HQ.2.1,by rw[hl5,hl3,<-hkl,<-hkl2];exact HQ.2.2.1,HB.out⟩

theorem aP.rt {α:Type} {nm:α->ByteArray} {xs:List α} (h:aP nm xs):RT (xs.map nm):=by
 unfold RT;rw[List.pairwise_iff_getElem];intro i j hi hj hij;rw[List.getElem_map,List.getElem_map];rw[FR] at hi hj;exact h.lt hij (Fs hi) (Fs hj)
theorem dK.rt {c:Cl} {t:ByteArray} (h:aP Vd.n c.vs):RT (dK c t c.vs):=List.Pairwise.sublist (List.filter_sublist.map _) h.rt
theorem gS {x:ByteArray} (h:aO x):¬x=⟨#[]⟩:=fun e=>by
 rw[e] at h;have h8:=h.1;revert h8;decide
theorem zN {c:Cl} {t:ByteArray} {zs:List ByteArray} (hT:aB c) (hr:RT zs) (hm:∀s,s∈zs↔PBs c t c.ps.length s\/VBs c t c.vs.length s):zs=dK c t c.vs:=by
 have hv:=hT.2.1.2.2.1.2.2;refine hr.ext (dK.rt hv) (fun s=>?_);rw[hm];unfold dK;rw[IL];constructor
 ·rintro (⟨j,p,_,hp,hd,k,cl,v,hk,hb,rfl⟩|⟨j,v,_,h2,h3,rfl⟩)
  ·obtain⟨i,jv,x,h1,h2,h3,h4⟩:=hb;have hne:¬x.v=⟨#[]⟩:=by rw[<-h4];exact gS (hT.2.1.2.2.1.2.1 jv v h3).1
   obtain⟨i',j',x',v',k1,k2,k3,k4,k5,k6,_⟩:=(hT.2.2.1.2 i x h1).2.resolve_left hne;obtain⟨_,rfl⟩:=hv.inj k3 h3 (k4.trans h4.symm);refine⟨v',Hw.2 ⟨FX h3,?_⟩,rfl⟩;unfold onB;rw[Hf];refine .inr (dx.2 ⟨j,p,hp,hd,k,?_⟩);rw[hk,k6,h2]
  ·exact xX
 ·rintro⟨v,h1,rfl⟩;obtain⟨h2,h3⟩:=Hw.1 h1;obtain⟨jv,hj⟩:=FU h2;unfold onB at h3;rw[Hf] at h3;rcases h3 with h3|h3
  ·exact .inr ⟨jv,v,(Fk.1 hj).1,hj,eO.1 h3,rfl⟩
  ·obtain⟨j,p,hp,hd,k,hk⟩:=dx.1 h3;have hz:=(hT.2.1.2.2.2.2.2.1 j p hp).2.2.2.1.2;have hne:=gS (hz k v.m hk).1;obtain⟨i',j',x',v',k1,k2,k3,k4,k5,k6,_⟩:=(hT.2.2.1.1 jv v hj).2.resolve_left hne;exact .inl ⟨j,p,(Fk.1 hp).1,hp,hd,k,v.m,v,hk,⟨i',jv,x',k1,k2,hj,k5.symm⟩,rfl⟩

def Bm (c:Cl) (t:ByteArray):Nat->Prop
 | 0=>8000<t.size
 | 1=>¬8000<t.size/\¬aB c
 | 2=>¬8000<t.size/\aB c/\hit Pd.n c.ps t=false
 | _=>False
def EI (c:Cl) (t:ByteArray) (E:Nat->Addr) (w:World) (e:Ending) (w':World):Prop:=
 Below w.heap.size w w'/\((∃i,i<9/\Bm c t i/\e=.returned (.tuple #[.agg #[.string ⟨#[]⟩,.int .i64 0,.string ⟨#[]⟩,.slice none 0 0,.string ⟨#[]⟩,.int .i64 0],.iface 266 (.pointer (some (E i)))]))\/
  (¬8000<t.size/\aB c/\∃(x:Pd) (va:Option Addr) (vl vc:Nat),c.ps[pl Pd.n c.ps t]?=some x/\x.n=t/\e=.returned (.tuple #[.agg #[.string x.n,.int .i64 x.c,.string x.z,.slice va vl vc,.string x.d,.int .i64 x.p],.nilIface])/\ay w va vl vc x.zs))

theorem tN (d:Ad) (c:Cl) (t:ByteArray) (E:Nat->Addr) (w:World) (hr:aJ w d c.raw) (hG:Ers w E):
  Calls Tryz.prog 58 #[.agg #[.slice d.a1 d.l1 d.c1,.slice d.a2 d.l2 d.c2,.slice d.a3 d.l3 d.c3,.slice d.a4 d.l4 d.c4,.slice d.a5 d.l5 d.c5,.int .i64 c.now],.string t] w (EI c t E w):=by
 obtain⟨HR,HE,HB⟩:=k7;clear hr hG;by_cases hl:8000<t.size
 ·have ev:=(HE.below (aF w (.cells (clv d c.now) 36) (.cells #[.string ⟨#[]⟩,.int .i64 0,.string ⟨#[]⟩,.slice none 0 0,.string ⟨#[]⟩,.int .i64 0] 64))).v0;go_enter Tryz.func58,Tryz.ntmps58;go_wp2_with fail;refine (kb t _ hl).mono ?_;rintro e w1 ⟨rfl,rfl⟩;go_wp2;go_region;go_wp2;exact bodyPost_ret (v:=.tuple #[.agg #[.string ⟨#[]⟩,.int .i64 0,.string ⟨#[]⟩,.slice none 0 0,.string ⟨#[]⟩,.int .i64 0],.iface 266 (.pointer (some (E 0)))]) se rfl ⟨Below.eD (aF _ _ _),.inl ⟨0,by decide,hl,rfl⟩⟩
 go_enter Tryz.func58,Tryz.ntmps58;go_wp2_with fail;refine (jm t _ hl).mono ?_;rintro e w1 ⟨rfl,rfl⟩;go_wp2_with fail;refine (rp d c _ (HR.below (HB.trans ((aF _ _ _).mono HB.size))) (HE.below (HB.trans ((aF _ _ _).mono HB.size))).ens).mono ?_;rintro e w1 ⟨r,rfl,hi,hb⟩;obtain⟨HA0,HA1,hbx⟩:=cG hb;have Bk:=aa HA0;have Br:=aa HA1;replace HB:=upB HB hbx;clear hb hbx HA0 HA1;have HI:=aa hi;clear hi;cases r
 ·obtain⟨k0,k1,k2,k3,k4,k5⟩:=cs6 Bk;obtain⟨r0,r1,r2,r3,r4,r5⟩:=cs6 Br;obtain⟨fr0,fr1,fr2,fr3,fr4,fr5⟩:=gI;have ev:=(HE.below HB.out).v1;have evl:=bg HE.v1;go_wp2;go_region;go_wp2;exact bodyPost_ret (v:=.tuple #[.agg #[.string ⟨#[]⟩,.int .i64 0,.string ⟨#[]⟩,.slice none 0 0,.string ⟨#[]⟩,.int .i64 0],.iface 266 (.pointer (some (E 1)))]) se rfl ⟨Below.eD (sb1 (sb1 (sb1 (sb1 (sb1 (sb1 (HB.out))))))),.inl ⟨1,by decide,⟨hl,fun h=>(by have:=HI.2 h;cases this)⟩,rfl⟩⟩
 have HT:=aa (HI.1 ct);clear HI;obtain⟨k0,k1,k2,k3,k4,k5⟩:=cs6 Bk;go_wp2_with fail;refine (rJ d.a5 d.l5 d.c5 c.ps t w _ HR.p HB.out).mono ?_;rintro e w2 ⟨hb,hf⟩;clear k0 k1 k2 k3 k4 k5;replace Bk:=upK Bk hb;replace Br:=upK Br hb;replace HB:=upB HB hb;clear hb;rcases hf with ⟨hh,x,va,vl,vc,hx,hn,rfl,z0,z2,z4,hvr⟩|⟨hh,rfl⟩
 ·have HX:=aa (Fl hx (Fl hn hvr));clear hx hn z0 z2 z4 hh hvr;obtain⟨k0,k1,k2,k3,k4,k5⟩:=cs6 Bk;obtain⟨r0,r1,r2,r3,r4,r5⟩:=cs6 Br;have ltr_2:=ae Br.out;obtain⟨fr0,fr1,fr2,fr3,fr4,fr5⟩:=gI;go_wp2;exact bodyPost_ret (v:=.tuple #[.agg #[.string x.n,.int .i64 x.c,.string x.z,.slice va vl vc,.string x.d,.int .i64 x.p],.nilIface]) se rfl ⟨Ik (sb1 (sb1 (sb1 (sb1 (sb1 (sb1 (HB.out))))))) nv _,.inr ⟨hl,HT.out,x,va,vl,vc,HX.1,HX.2.1,rfl,HX.2.2⟩⟩
 ·have HH:=aa hh;clear hh;obtain⟨k0,k1,k2,k3,k4,k5⟩:=cs6 Bk;obtain⟨r0,r1,r2,r3,r4,r5⟩:=cs6 Br;have ltr_2:=ae Br.out;obtain⟨fr0,fr1,fr2,fr3,fr4,fr5⟩:=gI;have ev:=(HE.below HB.out).v2;have evl:=bg HE.v2;have evl2:=bg ev;go_wp2;go_region;go_wp2;exact bodyPost_ret (v:=.tuple #[.agg #[.string ⟨#[]⟩,.int .i64 0,.string ⟨#[]⟩,.slice none 0 0,.string ⟨#[]⟩,.int .i64 0],.iface 266 (.pointer (some (E 2)))]) se rfl ⟨Below.eD (Ik (sb1 (sb1 (sb1 (sb1 (sb1 (sb1 (HB.out))))))) nv _),.inl ⟨2,by decide,⟨hl,HT.out,HH.out⟩,rfl⟩⟩

theorem lq (a:Option Addr) (n cap i base vb:Nat) (X ys:List Value) (w:World) (ho:w.ownsRow base 64 6 (.slice a n cap) n X) (hn:n<=8) (hin:i<=n) (hbs:base<=w.heap.size) (hy:w.heap[vb]?=some (.cells ys.toArray 64 (0,0))) (hyl:ys.length=6) (hy1:∀u∈ys,u.oneCell'=true) (hX1:∀u∈X,u.oneCell'=true) (hne:∀g,a=some ⟨g,0,none⟩->¬vb=g):
  Calls Tryz.prog 170 #[.slice a n cap,.int .i64 i,.slice (some ⟨vb,0,none⟩) 1 1] w fun e w'=> ∃v',e=.returned v'/\w'.ownsRow base 64 6 v' (n+1) (X.take (i*6)++ys++X.drop (i*6))/\w.grownBy w' ((.slice a n cap:Value).ownBlock):=by
 obtain⟨i0,hi,hz0,hz1,hz2⟩:=info_parts iI;have HI0:=aa (Fl hi (Fl hz0 (Fl hz1 hz2)));clear hi hz0 hz1 hz2;have hXl:=ho.1;have hnc:n<=cap/\cap<=9223372036854775807:=by
  exact qD
 have hyn:∀(j:Nat) u,ys[j]?=some u->w.cell? ((⟨vb,0,none⟩:Addr).add j)=some u:=fun j u hu=>by
  rw[FQ,aw hy,FV];simpa using hu
 have HYN:=aa hyn;have HO:=aa ho;have HY:=aa hy;have hvl:=ae hy;have HX1:=aa hX1;have HY1:=aa hy1;clear hyn ho hy hX1 hy1;by_cases hie:i=n
 ·subst hie;have e1:X.take (i*6)++ys++X.drop (i*6)=X++ys:=by rw[FD af,List.drop_of_length_le af,GC]
  rw[e1];clear e1;have hc0:=hnc.1;have hq:cap=i\/¬cap=i:=Classical.em _;rcases hq with rfl|hcap
  ·exact CS
  ·exact CS
 have hil:i<n:=af
 obtain⟨g,cur,rfl,hbg,hg,hcs,htk⟩:∃g cur,a=some ⟨g,0,none⟩/\base<=g/\w.heap[g]?=some (.cells cur 64 (0,0))/\cur.size=cap*6/\cur.toList.take (n*6)=X:=by
  exact qJ
 have hvg:=hne g rfl;clear hne;have hcell:∀(j:Nat) u,X[j]?=some u->w.cell? ⟨g,j,none⟩=some u:=fun j u hj=>by
  exact qy
 have hdl:(X.drop (i*6)).length=(n - i)*6:=uK
 have hgl:=ae hg;by_cases hroom:n+1<=cap
 ·have hcp1:∀ty dc sc,(GO #[138,138] ty #[.slice (some ⟨g,(i+1)*6,none⟩) (n - i) dc,.slice (some ⟨g,i*6,none⟩) (n+1 - i) sc]).run Tryz.prog w.drew=.ok (goInt (Nat.min (n+1 - i) (n - i))) (w.drew.setRow g (cur.toList.take ((i+1)*6)++X.drop (i*6)++cur.toList.drop ((i+1)*6+(X.drop (i*6)).length)).toArray):=fun ty dc sc=>
   bp w.drew 138 138 ty 64 g ((i+1)*6) (n - i) dc ⟨g,i*6,none⟩ (n+1 - i) sc 6 cur 64 (X.drop (i*6)) i0 Tryz.underlying138 HI0.1 HI0.2.2.1 hg kX (fun j u hj=>by
    rw[Gm] at hj;rw[FQ]
    exact hcell _ u hj) (by rw[hdl,hcs];omega) (fun u hu=>HX1.out u (G6 hu))
  obtain⟨cur1,hcur1⟩:∃c1:List Value,c1=cur.toList.take ((i+1)*6)++X.drop (i*6)++cur.toList.drop ((i+1)*6+(X.drop (i*6)).length):=⟨_,rfl⟩;rw[<-hcur1] at hcp1;have hc1l:cur1.length=cap*6:=by rw[hcur1];simp only[F5,FO,GH,hXl,GU,hcs];omega
  obtain⟨W1,hW1⟩:∃W1,W1=w.drew.setRow g cur1.toArray:=⟨_,rfl⟩;rw[<-hW1] at hcp1;have hg1:W1.heap[g]?=some (.cells cur1.toArray 64 (0,0)):=by rw[hW1];exact setRow_heap w.drew g _ _ 64 _ hg
  have hv1:W1.heap[vb]?=w.heap[vb]?:=by rw[hW1];exact setRow_other w.drew g vb _ hvg
  have hcp2:∀ty dc,(GO #[138,34] ty #[.slice (some ⟨g,i*6,none⟩) (n+1 - i) dc,.slice (some ⟨vb,0,none⟩) 1 1]).run Tryz.prog W1=.ok (goInt (Nat.min 1 (n+1 - i))) (W1.setRow g (cur1.take (i*6)++ys++cur1.drop (i*6+ys.length)).toArray):=fun ty dc=>by
   have:=bp W1 138 34 ty 64 g (i*6) (n+1 - i) dc ⟨vb,0,none⟩ 1 1 6 cur1.toArray 64 ys i0 Tryz.underlying138 HI0.1 HI0.2.2.1 hg1 kW (fun j u hj=>by
    rw[FQ,aw (hv1.trans HY.out),FV]
    simpa using hj) uP HY1.out
   simpa using this
  have hov:∀lb cb,(callFunc 192 #[.slice (some ⟨vb,0,none⟩) 1 1,.slice (some ⟨g,(i+1)*6,none⟩) lb cb]).run Tryz.prog w=.ok (.value (.bool false)) w:=fun lb cb=>by
   rw[run_callFunc_extern Tryz.func192 ar ar ar (e:=Iu #[34,34] #[4]) ar,
    Lib.run_overlaps_apart w 34 4 64 Tryz.underlying34 6 (fun w=>by kernel_rfl) ⟨vb,0,none⟩ ⟨g,(i+1)*6,none⟩ 1 1 lb cb hvg 64 64 ys.toArray.size cur.size (by simp[World.shape?,HY.out]) (by simp[World.shape?,hg]) (Nat.ne_of_gt (by rw[hcs];omega)) (av HY.out _) (av HY.out _)]
   rfl
  obtain⟨hb2,hb4,hb6,mixed,hw1,hb1,hin,htn,hb3,HG1,HW1,HC1,HTK⟩:=vt;clear hg hg1 hW1 hcur1 htk hv1 hcell hdl hie;go_enter Tryz.func170,Tryz.ntmps170;go_wp2_with (simp only[hov]);go_region_law_o (refine cF rfl _ _ 138 138 rfl _ _ eU eU (hcp1 (3) (cap - (i+1)) (cap - i)) ?_);go_wp2_with (at_builtin;refine bV _ rfl _ _ 138 34 rfl _ _ rfl rfl (hcp2 _ _) ?_);go_ret;refine⟨_,rfl,⟨?_,Or.inr ⟨g,cap,(cur1.take (i*6)++(ys++cur1.drop (i*6+6))).toArray,rfl,hbg,setRow_heap W1 g _ _ _ _ HG1.out,hroom,by unfold maxLen;omega,?_,?_⟩⟩,?_⟩
  ·exact iB
  ·exact qx
  ·have e:=kh (a:=i*6) (b:=n*6) (c:=cap*6) (m:=6) (c1:=cur1) HTK.out (by rw[GU,hcs]) af af hyl (by rw[HC1.out,show (i+1)*6=i*6+6 by omega]);rw[show (n+1)*6=n*6+6 by omega];simpa using e
  ·exact vI
 have hcn:cap=n:=af
 subst hcn;obtain⟨N,hN⟩:∃N,N=w.heap.size:=⟨_,rfl⟩;obtain⟨G,hG⟩:∃G,G=grownCap w (cap+1) cap 64:=⟨_,rfl⟩;obtain⟨ROW,hROW⟩:∃R:Array Value,R=(X.take (i*6)).toArray++Hl (.agg #[.string ⟨#[]⟩,.int .i64 0,.string ⟨#[]⟩,.slice none 0 0,.string ⟨#[]⟩,.int .i64 0]:Value).cells (cap+1 - i)++Hl (.agg #[.string ⟨#[]⟩,.int .i64 0,.string ⟨#[]⟩,.slice none 0 0,.string ⟨#[]⟩,.int .i64 0]:Value).cells (G - (cap+1)):=⟨_,rfl⟩;obtain⟨W1,hW1⟩:∃W1,W1=w.drew.alloc (.cells ROW 64):=⟨_,rfl⟩;have hGn:cap+1<=G:=by rw[hG];exact grownCap_ge w _ _ _
 have hG63:G<=9223372036854775807:=by
  have:=grownCap_le_maxLen w (cap+1) cap 64 cC;rw[<-hG] at this;unfold maxLen at this;omega
 have hRs:ROW.size=G*6:=by
  rw[hROW];simp only[Array.size_append,Hd,FO,size_zeroCells,hXl];rw[show (.agg #[.string ⟨#[]⟩,.int .i64 0,.string ⟨#[]⟩,.slice none 0 0,.string ⟨#[]⟩,.int .i64 0]:Value).cells.size=6 from rfl];omega
 have hRt:ROW.toList.take (i*6)=X.take (i*6):=by
  exact qF
 have hrz:∀ty,(GD #[138,3] ty #[.slice (some ⟨g,0,none⟩) i cap,.int .i64 ((cap:Int)+1 - (i:Int))]).run Tryz.prog w=.ok (.slice (some ⟨N,0,none⟩) (cap+1) G) W1:=fun ty=>by
  have hold:(Hq i0.size i (.slice (some ⟨g,0,none⟩) i cap)).run Tryz.prog w.drew=.ok (X.take (i*6)).toArray w.drew:=by
   rw[HI0.2.2.1];exact run_firstCells_some w.drew 6 i ⟨g,0,none⟩ i cap (X.take (i*6)) jI (fun j v hj=>by
    rw[FQ,FV];rw[FP] at hj
    split at hj
    ·exact hcell j v hj
    ·cases hj)
  have h:=Lib.run_append_grow_zeros w 138 3 ty 64 i0 _ .i64 .i64 Tryz.underlying138 Tryz.underlying3 HI0.1 HI0.2.1 (some ⟨g,0,none⟩) i cap (X.take (i*6)) hold (cap+1 - i) af (by rw[HI0.2.2.1];decide) af af (by rw[HI0.2.2.2];omega) uS;exact vA
 have hgN:W1.heap[N]?=some (.cells ROW 64 (0,0)):=by rw[hW1,hN];exact Go.heap_alloc_new w.drew _
 obtain⟨hg1,hv1⟩:=vg;obtain⟨R2,hR2⟩:∃R2:List Value,R2=ROW.toList.take (i*6)++ys++ROW.toList.drop (i*6+ys.length):=⟨_,rfl⟩;obtain⟨W2,hW2⟩:∃W2,W2=W1.setRow N R2.toArray:=⟨_,rfl⟩;have hcpA:∀ty dc,(GO #[138,34] ty #[.slice (some ⟨N,i*6,none⟩) (cap+1 - i) dc,.slice (some ⟨vb,0,none⟩) 1 1]).run Tryz.prog W1=.ok (goInt (Nat.min 1 (cap+1 - i))) W2:=fun ty dc=>by
  rw[hW2,hR2];exact bp W1 138 34 ty 64 N (i*6) (cap+1 - i) dc ⟨vb,0,none⟩ 1 1 6 ROW 64 ys i0 Tryz.underlying138 HI0.1 HI0.2.2.1 hgN kW (fun j u hj=>by
   rw[FQ,aw (hv1.trans HY.out),FV]
   simpa using hj) (by rw[hRs,hyl];omega) HY1.out
 have hR2l:R2.length=G*6:=by
  exact qC
 have hgN2:W2.heap[N]?=some (.cells R2.toArray 64 (0,0)):=by rw[hW2];exact setRow_heap W1 N _ _ 64 _ hgN
 obtain⟨hgn,hg2⟩:=uW;obtain⟨R3,hR3⟩:∃R3:List Value,R3=R2.take ((i+1)*6)++X.drop (i*6)++R2.drop ((i+1)*6+(X.drop (i*6)).length):=⟨_,rfl⟩;obtain⟨W3,hW3⟩:∃W3,W3=W2.drew.setRow N R3.toArray:=⟨_,rfl⟩;have hcpB:∀ty dc sc,(GO #[138,138] ty #[.slice (some ⟨N,(i+1)*6,none⟩) (cap - i) dc,.slice (some ⟨g,i*6,none⟩) (cap - i) sc]).run Tryz.prog W2.drew=.ok (goInt (Nat.min (cap - i) (cap - i))) W3:=fun ty dc sc=>by
  have:=bp W2.drew 138 138 ty 64 N ((i+1)*6) (cap - i) dc ⟨g,i*6,none⟩ (cap - i) sc 6 R2.toArray 64 (X.drop (i*6)) i0 Tryz.underlying138 HI0.1 HI0.2.2.1 hgN2 kX (fun j u hj=>by
   rw[Gm] at hj;have hc:=hcell _ u hj;rw[FQ];rw[<-hc]
   exact F8 (w:=w) (w':=W2.drew) hg2) uL (fun u hu=>HX1.out u (G6 hu))
  rw[hW3,hR3];simpa only[List.toList_toArray] using this
 have hW3o:∀k,¬k=N->W3.heap[k]?=W1.heap[k]?:=fun k hk=>by rw[hW3,setRow_other W2.drew N k _ hk];exact (congrArg (fun z:World=>z.heap[k]?) hW2).trans (setRow_other W1 N k _ hk)
 have hfin:w.grownBy W3 (some g):=by
  exact wm
 have hrow:W3.ownsRow base 64 6 (.slice (some ⟨N,0,none⟩) (cap+1) G) (cap+1) (X.take (i*6)++ys++X.drop (i*6)):=by
  refine⟨?_,Or.inr ⟨N,G,R3.toArray,rfl,by omega,by rw[hW3];exact setRow_heap W2.drew N _ _ 64 _ hgN2,hGn,by unfold maxLen;omega,?_,?_⟩⟩
  ·exact iB
  ·exact qB
  ·have e:=iK (a:=i*6) (b:=cap*6) (m:=6) (R2:=R2) hRt hXl af hyl hR2 (R2.drop ((i+1)*6+(X.drop (i*6)).length));rw[hR3,show (cap+1)*6=cap*6+6 by omega,show (i+1)*6=i*6+6 by omega];rw[show (i+1)*6=i*6+6 by omega] at e;simpa using e
 obtain⟨hGi,hGim,hci,hz2,hz3,mixed,hw1,hb1,hin,htn,hb3,HF⟩:=vu;clear hN hrow hfin hW3o hW3 hW2 hR3 hg2 hgN2 hR2l hR2 hv1 hg1 hgN hRt hRs hW1 hROW hG hcell hdl hie hg htk hcs HO;go_enter Tryz.func170,Tryz.ntmps170;go_wp2_with (first
  | (at_builtin;refine Lib.wpList_append_run _ rfl _ _ _ _ rfl _ _ rfl rfl _ _ (hrz _) ?_)
  | (at_builtin;refine bV _ rfl _ _ 138 34 rfl _ _ rfl rfl (hcpA _ _) ?_))

 go_region_law_o (refine cF rfl _ _ 138 138 rfl _ _ eU eU (hcpB 3 (G - (i+1)) (cap - i)) ?_)
 go_wp2
 go_ret;exact⟨_,rfl,HF.1,HF.2⟩

theorem iZ (a:Option Addr) (n cap:Nat) (X:List Value) (w:World) (hn:n<=8) (hXl:X.length=n*6) (hX1:∀u∈X,u.oneCell'=true) (hXc:∀(j:Nat) u,X[j]?=some u->∃g,a=some ⟨g,0,none⟩/\w.cell? ⟨g,j,none⟩=some u):
  Calls Tryz.prog 171 #[.slice a n cap] w fun e w'=> ∃a' c',e=.returned (.slice a' n c')/\w'.ownsRow w.heap.size 64 6 (.slice a' n c') n X/\Below w.heap.size w w':=by
 obtain⟨i0,hi,hz0,hz1,hz2⟩:=info_parts iI;have HI0:=aa (Fl hi (Fl hz0 (Fl hz1 hz2)));clear hi hz0 hz1 hz2;have HX1:=aa hX1;have HXC:=aa hXc;have heq:=fun w=>IF w 138 64 a n cap 0 0 Tryz.underlying138;clear hX1 hXc;cases a with
 | none=>
  obtain rfl:X=[]:=by
   rcases X with _|⟨u,X⟩
   ·rfl
   ·obtain⟨g,e,_⟩:=HXC.out 0 u rfl
    cases e
  obtain rfl:n=0:=by simp at hXl;omega
  go_enter Tryz.func171,Tryz.ntmps171
  go_wp2
  go_ret;exact⟨none,0,rfl,Gf _ _ _ _,Ft _ _⟩
 | some ad=>
  obtain⟨ab,ao,asp⟩:=ad
  have hnew:∀(j:Nat) u,X[j]?=some u->(w.alloc (.cells #[] 64)).cell? ((⟨ab,ao,asp⟩:Addr).add j)=some u:=fun j u hu=>by
   obtain⟨g,e,hc⟩:=HXC.out j u hu
   cases e
   rw[FQ,FV];have hlt:=bg hc;rw[<-hc];exact F8 (heap_alloc_old w _ hlt)
  have HN:=aa hnew;have HO:Hid ((w.alloc (.cells #[] 64)).ownsRow w.heap.size 64 6 (.slice (some ⟨w.heap.size,0,none⟩) 0 0) 0 []):=Ia w #[] 0 (Fq _) (H8 _) aR;clear hnew HXC
  go_enter Tryz.func171,Tryz.ntmps171
  go_wp2_with (at_builtin;refine bj rfl _ _ 138 138 rfl w.heap.size 64 64 i0 (.agg #[.string ⟨#[]⟩,.int .i64 0,.string ⟨#[]⟩,.slice none 0 0,.string ⟨#[]⟩,.int .i64 0]) 6 88 Tryz.underlying138 Tryz.underlying138 HI0.1 HI0.2.1 HI0.2.2.1 HI0.2.2.2 rfl aj _ _ _ rfl HO.out ⟨ab,ao,asp⟩ n cap X rfl hXl HN.out HX1.out cC af aR ?_)
  intro v' w' h1 h2
  obtain⟨a',c',rfl⟩:∃a' c',v'=.slice a' n c':=by
   rcases h1.2 with ⟨rfl,h0⟩|⟨g,cp,cu,rfl,_⟩
   ·exact⟨none,0,by rw[h0]⟩
   ·exact⟨_,_,rfl⟩
  have H1:=aa h1;have H2:=aa h2;clear h1 h2
  go_wp2
  go_ret;refine⟨a',c',rfl,H1.out,((al w (.cells #[] 64)).grown H2.out aR (fun g hg=>?_))⟩
  simp[G5] at hg
  omega

theorem pf (a:Option Addr) (n cap:Nat) (xs:List Pd) (x:Pd) (va:Option Addr) (vl vc hh:Nat) (Q Q2:Nat->Prop) (w:World) (ho:az w a n cap 6 64 (xs.map pdF) Q) (hn:n<=8) (hxf:∀(i:Nat) f,(pdF x)[i]?=some f->∃v,[.string x.n,.int .i64 x.c,.string x.z,.slice va vl vc,.string x.d,.int .i64 x.p][i]?=some v/\f.Fr w hh Q2 v) (hq:∀k,Q k->Q2 k->False):
  Calls Tryz.prog 130 #[.slice a n cap,.agg #[.string x.n,.int .i64 x.c,.string x.z,.slice va vl vc,.string x.d,.int .i64 x.p]] w fun e w'=> ∃a' l' c',e=.returned (.slice a' l' c')/\az w' a' l' c' 6 64 ((br (pl Pd.n xs x.n) x xs).map pdF) (fun k=>(Q k\/Q2 k)\/w.heap.size<=k)/\Below w.heap.size w w':=by
 have HR:=aa ho.row;have hxl:xs.length=n:=jG
 obtain⟨vss,H,hV,hcell⟩:=ho.lS;have hvl:vss.length=n:=by rw[hV.len,FR,hxl]
 have hfl:vss.flatten.length=n*6:=by rw[dr hV.all,hvl]
 have HV:=aa hV;have HC:=aa hcell;have HF:=aa hxf;have HQ:=aa hq;clear ho hV hcell hxf hq;have hmcalled:∀(v:Value) (w:World),(method 416 64 v "loop.example/g00571/impl.called").run Tryz.prog w=.ok (246,v) w:=fun _ _=>by kernel_rfl
 obtain⟨j,hj⟩:∃j,j=pl Pd.n xs x.n:=⟨_,rfl⟩;have hjn:j<=n:=by rw[hj,<-hxl];exact Hm
 have HJ:=aa hj;have HFIN:Hid (∀(w4:World) v4 base,w.heap.size<=base->Below w.heap.size w w4->w4.ownsRow base 64 6 v4 (n+1) (vss.flatten.take (j*6)++[.string x.n,.int .i64 x.c,.string x.z,.slice va vl vc,.string x.d,.int .i64 x.p]++vss.flatten.drop (j*6))->∃a' c',v4=.slice a' (n+1) c'/\az w4 a' (n+1) c' 6 64 ((br (pl Pd.n xs x.n) x xs).map pdF) (fun k=>(Q k\/Q2 k)\/w.heap.size<=k)):=fun w4 v4 base hbs hB4 ho4=>by
  rw[<-iJ HV.all af] at ho4;have hV4:=(HV.below hB4).aM (w':=w4) (S':=fun k=>(Q k\/Q2 k)\/w.heap.size<=k) (fun _ _ _ _=>rfl) (fun _ _ s=>.inl (.inl s));obtain⟨H4,hV5⟩:=hV4.ins (p:=j) (r:=pdF x) (vs:=[.string x.n,.int .i64 x.c,.string x.z,.slice va vl vc,.string x.d,.int .i64 x.p]) (hh:=fun _=>hh) rfl rfl (fun i f hf=>by
   obtain⟨v,h1,h2⟩:=HF.out i f hf
   exact⟨v,h1,h2.aM (fun cu _ q=>hB4.block _ (ae q)) (fun _ s=>.inl (.inr s))⟩) (fun i zs h hz k r i2 zs2 hr2 hz2 hne e=>by
  obtain⟨v,_,h2⟩:=HF.out i _ h;obtain⟨_,_,_,_,_,_,_,_,h3⟩:=h2;have hkv:k<vss.length:=by rw[HV.len];exact (Fk.1 hr2).1
  obtain⟨v',_,h5⟩:=HV.cell k r _ hr2 (Fs hkv) i2 _ hz2;obtain⟨_,_,_,_,_,_,_,_,h6⟩:=h5;rcases h3 with h3|⟨_,h3,_⟩
  ·exact hz h3
  ·rcases h6 with h6|⟨_,h6,_⟩
   ·exact hne h6
   ·rw[e] at h6;exact HQ.out _ h6 h3) (fun i i2 zs zs2 h _ h2 _=>by
  rcases i with _|_|_|_|_|_|i <;> simp[pdF] at h <;> rcases i2 with _|_|_|_|_|_|i2 <;> simp[pdF] at h2 <;> rfl) r_
  have h45:aX w4 (fun k=>(Q k\/Q2 k)\/w.heap.size<=k) 6 ((br j x xs).map pdF) (br j [.string x.n,.int .i64 x.c,.string x.z,.slice va vl vc,.string x.d,.int .i64 x.p] vss) H4:=by rw[kj];exact hV5
  have hle:((br j x xs).map pdF).length=n+1:=by rw[FR,dZ af,hxl]
  exact CM
 have HCL:Hid (∀W,Below w.heap.size w W->∀(k:Nat) u,vss.flatten[k]?=some u->∃g,a=some ⟨g,0,none⟩/\W.cell? ⟨g,k,none⟩=some u):=fun W hW k u hu=>by
  exact qu
 have HV1:=aa HV.one;clear HV HC HF HQ hj;go_enter Tryz.func130,Tryz.ntmps130;go_wp2_with fail;refine (dS x va vl vc _).mono ?_;rintro e w1 ⟨rfl,hb1⟩;obtain⟨hn1,hbx⟩:=aL hb1;have HN1:=aa hn1;have HB1:=aa hbx;clear hb1 hn1 hbx;go_wp2_with fail;refine (iV a n cap xs x.n _ (HR.below HB1.out)).mono ?_;rintro e w2 ⟨rfl,hb2⟩;have HN2:=aa ((hb2.block w.heap.size (ae HN1.out)).trans HN1.out);have HB2:=upB HB1 hb2;clear hb2 HN1 HB1;rw[<-HJ.out];generalize hit Pd.n xs x.n=bb;have hs2:=ae HN2.out;have HBD:Hid (Below w.heap.size w w2.drew):=Below.eD HB2.out;obtain⟨n0,n1,n2,n3,n4,n5⟩:=cs6 (show w2.drew.heap[w.heap.size]?=_ from HN2.out);have hcl1:Calls Tryz.prog 171 #[.slice a n cap] w2.drew fun e w3=> ∃a3 c3,e=.returned (.slice a3 n c3)/\Hid (w3.ownsRow w2.heap.size 64 6 (.slice a3 n c3) n vss.flatten)/\Hid (Below w.heap.size w w3)/\w2.heap.size<=w3.heap.size/\w.heap.size<w3.heap.size/\w3.heap[w.heap.size]?=some (.cells (pov x va vl vc) 64 (0,0)):=by
  refine (iZ a n cap vss.flatten w2.drew hn hfl HV1.out (HCL.out _ HBD.out)).mono ?_;exact vJ
 have hcl2:Calls Tryz.prog 171 #[.slice a n cap] (w2.alloc (.cells (pov x va vl vc) 64)).drew fun e w3=> ∃a3 c3,e=.returned (.slice a3 n c3)/\Hid (w3.ownsRow (w2.heap.size+1) 64 6 (.slice a3 n c3) n vss.flatten)/\Hid (Below w.heap.size w w3)/\w2.heap.size+1<=w3.heap.size/\Hid (w3.heap[w2.heap.size]?=some (.cells (pov x va vl vc) 64 (0,0))):=by
  have hbl:=Below.eD (HB2.alloc HB2.size (.cells (pov x va vl vc) 64));have hsz:(w2.alloc (.cells (pov x va vl vc) 64)).drew.heap.size=w2.heap.size+1:=aR
  refine (iZ a n cap vss.flatten _ hn hfl HV1.out (HCL.out _ hbl)).mono ?_;rintro e w3 ⟨a3,c3,rfl,ho3,hb3⟩;have hs3:=hb3.size;rw[hsz] at ho3 hs3;exact⟨a3,c3,rfl,ho3,hbl.trans (hb3.mono hbl.size),hs3,(hb3.block w2.heap.size (by rw[hsz];omega)).trans (show (w2.alloc (.cells (pov x va vl vc) 64)).drew.heap[w2.heap.size]?=_ from heap_alloc_new w2 _)⟩
 have hin1:∀(w3:World) a3 c3,w3.ownsRow w2.heap.size 64 6 (.slice a3 n c3) n vss.flatten->Below w.heap.size w w3->w2.heap.size<=w3.heap.size->Calls Tryz.prog 170 #[.slice a3 n c3,.int .i64 j,.slice (some ⟨w3.heap.size,0,none⟩) 1 1] (w3.alloc (.cells (pov x va vl vc) 64)) fun e w4=> ∃a' c',e=.returned (.slice a' (n+1) c')/\Hid (az w4 a' (n+1) c' 6 64 ((br (pl Pd.n xs x.n) x xs).map pdF) (fun k=>(Q k\/Q2 k)\/w.heap.size<=k))/\Hid (Below w.heap.size w w4):=fun w3 a3 c3 ho3 hB3 hs3=>by
  refine (lq a3 n c3 j w2.heap.size w3.heap.size vss.flatten [.string x.n,.int .i64 x.c,.string x.z,.slice va vl vc,.string x.d,.int .i64 x.p] (w3.alloc (.cells (pov x va vl vc) 64)) (ho3.alloc _) hn hjn bF (heap_alloc_new w3 _) rfl eT HV1.out (fun g hg e=>by
   have h9:=(ho3.lt g (by rw[hg];rfl)).2
   omega)).mono ?_
  rintro e w4 ⟨v4,rfl,ho4,hg4⟩;have hB5:=(hB3.alloc hB3.size (.cells (pov x va vl vc) 64)).grown hg4 bF (fun g hg=>by
   have h9:=(ho3.lt g hg).1
   omega)
  exact sy
 have hin2:∀(w3:World) a3 c3,w3.ownsRow (w2.heap.size+1) 64 6 (.slice a3 n c3) n vss.flatten->Below w.heap.size w w3->w2.heap.size+1<=w3.heap.size->w3.heap[w2.heap.size]?=some (.cells (pov x va vl vc) 64 (0,0))->Calls Tryz.prog 170 #[.slice a3 n c3,.int .i64 j,.slice (some ⟨w2.heap.size,0,none⟩) 1 1] w3 fun e w4=> ∃a' c',e=.returned (.slice a' (n+1) c')/\Hid (az w4 a' (n+1) c' 6 64 ((br (pl Pd.n xs x.n) x xs).map pdF) (fun k=>(Q k\/Q2 k)\/w.heap.size<=k))/\Hid (Below w.heap.size w w4):=fun w3 a3 c3 ho3 hB3 hs3 hy3=>by
  refine (lq a3 n c3 j (w2.heap.size+1) w2.heap.size vss.flatten [.string x.n,.int .i64 x.c,.string x.z,.slice va vl vc,.string x.d,.int .i64 x.p] w3 ho3 hn hjn hs3 hy3 rfl eT HV1.out (fun g hg e=>by
   have h9:=(ho3.lt g (by rw[hg];rfl)).1
   omega)).mono ?_
  exact p_
 have C1:=aa hcl1;have C2:=aa hcl2;have I1:=aa hin1;have I2:=aa hin2;clear hcl1 hcl2 hin1 hin2 HFIN HCL HR HJ HBD HB2;have mixed:Tryz.prog.follows .mixedOrders=true:=ar
 go_wp2;go_region_with (first
  | (go_at_call 171;refine C1.mono ?_;rintro e w3 ⟨a3,c3,rfl,HO3,HB3,hs3,hw3l,hx3⟩;obtain⟨m0,m1,m2,m3,m4,m5⟩:=cs6 hx3;clear hx3)
  | (go_at_call 171;refine C2.mono ?_;rintro e w3 ⟨a3,c3,rfl,HO3,HB3,hs3,HY3⟩)
  | (go_at_call 170;refine (I1.out w3 a3 c3 HO3.out HB3.out hs3).mono ?_;rintro e w4 ⟨a',c',rfl,HR5,HB5⟩)
  | (go_at_call 170;refine (I2.out w3 a3 c3 HO3.out HB3.out hs3 HY3.out).mono ?_;rintro e w4 ⟨a',c',rfl,HR5,HB5⟩))
 all_goals (
  go_wp2
  go_ret
  exact⟨a',_,c',rfl,HR5.out,HB5.out⟩)

def EF (c:Cl) (x:Pd):Prop:=∃n:Nd,c.ns[pl Nd.n c.ns x.d]?=some n/\n.n=x.d/\n.d=true/\n.u+5<c.now
def mf (c:Cl) (x:Pd):Cl:=⟨c.ns,c.ks,c.vs,c.xs,br (pl Pd.n (wo Pd.n x.n c.ps) x.n) x (wo Pd.n x.n c.ps),c.now⟩
def z9 (c:Cl) (t:ByteArray):Nat->Prop
 | 0=>8000<t.size
 | 1=>¬8000<t.size/\¬aB c
 | 2=>¬8000<t.size/\aB c/\hit Pd.n c.ps t=false
 | 8=>¬8000<t.size/\aB c/\∃x,c.ps[pl Pd.n c.ps t]?=some x/\x.n=t/\x.p=0
 | 7=>¬8000<t.size/\aB c/\∃x,c.ps[pl Pd.n c.ps t]?=some x/\x.n=t/\¬x.p=0/\¬EF c x
 | _=>False
theorem z9.cases {c:Cl} {t:ByteArray} {i:Nat} (h:z9 c t i):(i=0/\8000<t.size)\/(i=1/\¬8000<t.size/\¬aB c)\/(i=2/\¬8000<t.size/\aB c/\hit Pd.n c.ps t=false)\/(i=8/\¬8000<t.size/\aB c/\∃x,c.ps[pl Pd.n c.ps t]?=some x/\x.n=t/\x.p=0)\/(i=7/\¬8000<t.size/\aB c/\∃x,c.ps[pl Pd.n c.ps t]?=some x/\x.n=t/\¬x.p=0/\¬EF c x):=by
 rcases i with _|_|_|_|_|_|_|_|_|i <;> simp only[z9] at h
 ·exact .inl ⟨rfl,h⟩
 ·exact .inr (.inl ⟨rfl,h⟩)
 ·exact .inr (.inr (.inl ⟨rfl,h⟩))
 ·exact .inr (.inr (.inr (.inr ⟨rfl,h⟩)))
 ·exact .inr (.inr (.inr (.inl ⟨rfl,h⟩)))
theorem my {c:Cl} {t:ByteArray} {x:Pd} (hr:aB c) (h:c.ps[pl Pd.n c.ps t]?=some x) (hn:x.n=t):hit Pd.n c.ps t=true:=(cM hr.2.1.2.2.2.2.2.2 h hn).2
theorem aB.node {c:Cl} {x:Pd} {i:Nat} (h:aB c) (hx:c.ps[i]?=some x) (hp:¬x.p=0):∃(j:Nat) (n:Nd),c.ns[j]?=some n/\n.n=x.d/\Inn n.u 0 1000000:=by
 have h1:=h.2.1.2.2.2.2.2.1 i x hx;have h2:=(h.2.2.2.1.1 i x hx).2;have hd:¬x.d=⟨#[]⟩:=fun e=>by
  have h3:=h1.2.2.2.2;rw[e] at h3;rcases h3 with ⟨h3,_⟩|⟨_,h3⟩
  ·exact hp h3
  ·have h5:=h3.1;revert h5;decide
 obtain⟨j,n,h3,h4,_⟩:=h2.resolve_left hd;exact⟨j,n,h3,h4,(h.2.1.1.2.1 j n h3).2.2.2.2.1⟩
theorem Au {ps:List Pd} {t:ByteArray} {k:Nat} {x y:Pd} (hr:aP Pd.n ps) (hx:ps[k]?=some x) (hn:x.n=t):br (pl Pd.n (wo Pd.n t ps) t) y (wo Pd.n t ps)=ps.set k y:=by
 have hk:k<ps.length:=(Fk.1 hx).1;have hw:=mL hr hx hn;have hpl:pl Pd.n (wo Pd.n t ps) t=k:=by
  rw[hw];have hlt:∀(j:Nat) z,j<k->(ps.take k++ps.drop (k+1))[j]?=some z->Fz z.n.toList t.toList=true:=fun j z hj hz=>by
   exact yp
  by_cases he:k+1<ps.length
  ·have h1:(ps.take k).length=k:=by rw[FO];omega
   have h2:(ps.take k++ps.drop (k+1))[k]?=some ps[k+1]:=by
    exact xK
   refine oi hlt h2 ?_;have h3:=hr.lt (Nat.lt_succ_self k) hx (Fs he);rw[hn] at h3;cases h9:Fz ps[k+1].n.toList t.toList
   ·rfl
   ·have h8:=cg _ _ _ h3 h9;rw[da] at h8;cases h8
  ·exact yO
 exact xi

theorem ry (d:Ad) (now:Int) (n z:ByteArray) (p s u:Int) (y:Bool) (va:Option Addr) (vl vc:Nat) (w:World)  :
  Calls Tryz.prog 259 #[.agg #[.slice d.a1 d.l1 d.c1,.slice d.a2 d.l2 d.c2,.slice d.a3 d.l3 d.c3,.slice d.a4 d.l4 d.c4,.slice d.a5 d.l5 d.c5,.int .i64 now],.agg #[.string n,.string z,.int .i64 p,.int .i64 s,.int .i64 u,.bool y,.slice va vl vc]] w fun e w'=>e=.returned (.agg #[.int .i64 u,.int .i64 now])/\Below w.heap.size w w':=by
 go_enter Tryz.func259,Tryz.ntmps259;go_wp2;exact bodyPost_ret (v:=.agg #[.int .i64 u,.int .i64 now]) (by simp[results,Tryz.results259,go_sem]) rfl ⟨rfl,bH _ _ _ _⟩

def onP (p:Pd) (s:ByteArray):Pd:=⟨p.n,p.c,p.z,p.zs,s,1⟩
def plC (c:Cl) (i:Nat) (p:Pd) (s:ByteArray):Cl:=⟨c.ns,c.ks,c.vs,c.xs,c.ps.set i (onP p s),c.now⟩
theorem Av {c:Cl} {i:Nat} {p:Pd} (s:ByteArray) (hr:aP Pd.n c.ps) (hp:c.ps[i]?=some p):mf c (onP p s)=plC c i p s:=by
 unfold mf plC;rw[show br (pl Pd.n (wo Pd.n (onP p s).n c.ps) (onP p s).n) (onP p s) (wo Pd.n (onP p s).n c.ps)=c.ps.set i (onP p s) from Au hr hp rfl]
theorem ko {c:Cl} {zs:List ByteArray} {s:ByteArray} (hT:aB c) (hz:∀(k:Nat) z,zs[k]?=some z->aO z):fL c zs s↔∃(j:Nat) (v:Vd),c.vs[j]?=some v/\v.n=s/\InL zs v.m:=by
 have hv:=hT.2.1.2.2.1.2.2;constructor
 ·rintro⟨k,cl,v,hk,⟨i,jv,x,h1,h2,h3,h4⟩,rfl⟩;have hne:¬x.v=⟨#[]⟩:=by rw[<-h4];exact gS (hT.2.1.2.2.1.2.1 jv v h3).1
  obtain⟨i',j',x',v',k1,k2,k3,k4,k5,k6,_⟩:=(hT.2.2.1.2 i x h1).2.resolve_left hne;obtain⟨_,rfl⟩:=hv.inj k3 h3 (k4.trans h4.symm);exact⟨jv,v',h3,rfl,k,by rw[hk,k6,h2]⟩
 ·rintro⟨jv,v,hj,rfl,k,hk⟩;have hne:=gS (hz k v.m hk);obtain⟨i',j',x',v',k1,k2,k3,k4,k5,k6,_⟩:=(hT.2.2.1.1 jv v hj).2.resolve_left hne;exact⟨k,v.m,v,hk,⟨i',jv,x',k1,k2,hj,k5.symm⟩,rfl⟩
theorem Aw {c:Cl} {t s:ByteArray} (hT:aB c):PBs c t c.ps.length s↔∃(j:Nat) (v:Vd),c.vs[j]?=some v/\v.n=s/\∃(k:Nat) (p:Pd),c.ps[k]?=some p/\jb p t v.m:=by
 constructor
 ·rintro⟨j,p,_,hp,hd,hb⟩;obtain⟨jv,v,h1,h2,h3⟩:=(ko hT (fun k z hk=>((hT.2.1.2.2.2.2.2.1 j p hp).2.2.2.1.2 k z hk).1)).1 hb;exact⟨jv,v,h1,h2,j,p,hp,hd,h3⟩
 ·rintro⟨jv,v,h1,h2,j,p,hp,hd,h3⟩;exact⟨j,p,(Fk.1 hp).1,hp,hd,(ko hT (fun k z hk=>((hT.2.1.2.2.2.2.2.1 j p hp).2.2.2.1.2 k z hk).1)).2 ⟨jv,v,h1,h2,h3⟩⟩
theorem tA {c:Cl} {i:Nat} {p:Pd} {s:ByteArray} {zs:List ByteArray} (hT:aB c) (hp:c.ps[i]?=some p) (hd:¬p.d=s) (hr:RT zs) (hm:∀t,t∈zs↔(PBs c s c.ps.length t\/VBs c s c.vs.length t)\/fL c p.zs t):zs=dK (plC c i p s) s c.vs:=by
 have hv:=hT.2.1.2.2.1.2.2;refine hr.ext (List.Pairwise.sublist (List.filter_sublist.map _) hv.rt) (fun t=>?_);rw[hm,Aw hT,ko hT (fun k z hk=>((hT.2.1.2.2.2.2.2.1 i p hp).2.2.2.1.2 k z hk).1)];unfold dK;rw[IL];constructor
 ·rintro ((⟨j,v,h1,rfl,k,q,hq,hw⟩|⟨j,v,_,h2,h3,rfl⟩)|⟨j,v,h1,rfl,h3⟩)
  ·refine⟨v,Hw.2 ⟨FX h1,?_⟩,rfl⟩;unfold onB;rw[Hf];refine .inr (dx.2 ⟨k,q,cO (fun e=>?_) hq,hw⟩);subst e;rw[hp] at hq;obtain rfl:=Fo hq;exact hd hw.1
  ·exact xX
  ·refine⟨v,Hw.2 ⟨FX h1,?_⟩,rfl⟩;unfold onB;rw[Hf];exact .inr (dx.2 ⟨i,onP p s,fy hp,rfl,h3⟩)
 ·rintro⟨v,h1,rfl⟩;obtain⟨h2,h3⟩:=Hw.1 h1;obtain⟨jv,hj⟩:=FU h2;unfold onB at h3;rw[Hf] at h3;rcases h3 with h3|h3
  ·exact .inl (.inr ⟨jv,v,(Fk.1 hj).1,hj,eO.1 h3,rfl⟩)
  ·obtain⟨k,q,hq,hw⟩:=dx.1 h3;rcases cY hp hq with ⟨-,rfl⟩|⟨-,hq⟩
   ·exact .inr ⟨jv,v,hj,rfl,hw.2⟩
   ·exact .inl (.inl ⟨jv,v,hj,rfl,k,q,hq,hw⟩)

def fX (c:Cl) (n:Nd):Prop:=n.d=true\/n.u<=c.now
def i_ (p:Pd) (n:Nd):Prop:=¬p.z=⟨#[]⟩/\¬p.z=n.z
def kJ (c:Cl) (p:Pd) (n:Nd):Prop:=n.c - cpuOf n.n c.ps<p.c
def gu (c:Cl) (i:Nat) (p:Pd) (n:Nd):Prop:=n.s<((dK (plC c i p n.n) n.n c.vs).length:Int)
def dh (c:Cl) (i:Nat) (p:Pd) (n:Nd) (c':Cl) (e:Int):Prop:=
 (fX c n/\e=11)\/(¬fX c n/\((i_ p n/\e=8)\/(¬i_ p n/\((kJ c p n/\e=9)\/(¬kJ c p n/\∃c1 e1,oY c n p.zs c1 e1/\
  ((¬e1=0/\e=e1)\/(e1=0/\((gu c1 i p n/\e=9)\/(¬gu c1 i p n/\e=0/\c'=plC c1 i p n.n)))))))))
theorem dh.same {c c1 c2:Cl} {i:Nat} {p:Pd} {n:Nd} {e1 e2:Int} (hT:aB c) (hn:aO n.z) (h:dh c i p n c1 e1) (h':dh c i p n c2 e2):e1=e2/\(e1=0->c1=c2):=by
 rcases h with ⟨a1,rfl⟩|⟨a1,⟨a2,rfl⟩|⟨a2,⟨a3,rfl⟩|⟨a3,d1,f1,a4,a5⟩⟩⟩ <;> rcases h' with ⟨b1,rfl⟩|⟨b1,⟨b2,rfl⟩|⟨b2,⟨b3,rfl⟩|⟨b3,d2,f2,b4,b5⟩⟩⟩
 all_goals first
  | exact⟨rfl,fun e=>absurd e aj⟩
  | exact absurd a1 b1
  | exact absurd b1 a1
  | exact absurd a2 b2
  | exact absurd b2 a2
  | exact absurd a3 b3
  | exact absurd b3 a3
  | skip
 obtain⟨rfl,rfl⟩:=a4.same hT hn b4;rcases a5 with ⟨a5,rfl⟩|⟨a5,⟨a6,rfl⟩|⟨a6,rfl,rfl⟩⟩ <;> rcases b5 with ⟨b5,rfl⟩|⟨b5,⟨b6,rfl⟩|⟨b6,rfl,rfl⟩⟩
 all_goals first
  | exact⟨rfl,fun e=>absurd e a5⟩
  | exact absurd a5 b5
  | exact absurd b5 a5
  | exact⟨rfl,fun e=>absurd e aj⟩
  | exact absurd a6 b6
  | exact absurd b6 a6
  | exact⟨rfl,fun _=>rfl⟩

def iO (W:World) (nb vb:Nat) (t m:ByteArray):Prop:=W.heap[nb]?=some (.cells #[.string t] 9 (0,0))/\W.heap[vb]?=some (.cells #[.string m] 9 (0,0))
theorem iO.below {W W':World} {nb vb:Nat} {t m:ByteArray} (h:iO W nb vb t m) (hb:Below W.heap.size W W'):iO W' nb vb t m:=
 ⟨(hb.block _ (ae h.1)).trans h.1,(hb.block _ (ae h.2)).trans h.2⟩
def OtP (p:Pd) (t m:ByteArray):Prop:=¬p.d=⟨#[]⟩/\¬p.d=t/\InL p.zs m

theorem AB (p:Pd) (va:Option Addr) (vl vc nb vb:Nat) (t m:ByteArray) (w:World) (hr:ay w va vl vc p.zs) (hh:iO w nb vb t m):
  Calls Tryz.prog 275 #[.agg #[.string p.n,.int .i64 p.c,.string p.z,.slice va vl vc,.string p.d,.int .i64 p.p],.pointer (some ⟨nb,0,none⟩),.pointer (some ⟨vb,0,none⟩)] w (aq (OtP p t m) w):=by
 have HR:=aa hr;obtain⟨h1,h2⟩:=hh;have n0:=cs1 h1;have hnl:=ae h1;have v0:=cs1 h2;have hvl:=ae h2;clear hr h1 h2;by_cases h0:p.d=⟨#[]⟩
 ·have hq:=cU h0;have HE:=aa h0;clear h0;go_enter Tryz.func275,Tryz.ntmps275;go_wp2;go_ret;exact aq.f (fun h=>h.1 HE.out) (al _ _)
 have hq0:=bc h0;have H0:=aa h0;clear h0;by_cases he:p.d=t
 ·have hq:=a9 he;have HE:=aa he;clear he;go_enter Tryz.func275,Tryz.ntmps275;go_wp2;go_ret;exact aq.f (fun h=>h.2.1 HE.out) (al _ _)
 ·have hq:=bB he;have HE:=aa he;clear he;go_enter Tryz.func275,Tryz.ntmps275;go_wp2_with fail;refine (cj va vl vc p.zs m _ (HR.below (al _ _))).mono ?_;rintro e w1 ⟨r,rfl,hi,hb⟩;have HB:=aa ((al w _).trans (hb.mono aR));clear hb;go_wp2;go_ret;exact⟨r,rfl,⟨fun h=>⟨H0.out,HE.out,hi.1 h⟩,fun h=>hi.2 h.2.2⟩,HB.out⟩

theorem Az (a:Option Addr) (len cap:Nat) (ps:List Pd) (nb vb:Nat) (t m:ByteArray) (w:World) (hr:aN w a len cap 6 (ps.map pdF)) (hh:iO w nb vb t m):
  Calls Tryz.prog 268 #[.slice a len cap,.func (.func 275) #[] #[.pointer (some ⟨nb,0,none⟩),.pointer (some ⟨vb,0,none⟩)]] w fun e w'=>(∃r:Int,e=.returned (.int .i64 r)/\((0<=r/\∃(j:Nat) (p:Pd),ps[j]?=some p/\OtP p t m)\/(r= -1/\∀(j:Nat) (p:Pd),ps[j]?=some p->¬OtP p t m)))/\Below w.heap.size w w':=by
 have HR:=aa hr;have HH:=aa hh;have hlc:=Fx hr.2.1 hr.2.2.1;have hxl:ps.length=len:=dv
 clear hr hh;go_enter Tryz.func268,Tryz.ntmps268;go_wp2;go_loopw [8] (fun i wr=> ∃k:Nat,k<=len/\i=.int .i64 k/\Hid (∀(j:Nat) p,j<k->ps[j]?=some p->¬OtP p t m)/\Hid (Below w.heap.size w wr)) (fun i _=>len - (intOf i).toNat);case atStart=>exact⟨0,by omega,rfl,fun _ _ h=>absurd h af,Ft _ _⟩
 case round=>
  obtain⟨k,hk,rfl,HE,HB⟩:=hrel;by_cases hlt:k<len
  ·obtain⟨b,o,p,rfl,hb,hx,hat⟩:=bY (HR.below HB.out) hlt;obtain⟨va,vl,vc,hvr,z0,z2,z4,c0,c1,c2,c3,c4,c5⟩:=aS hat;have HX:=aa hx;have HV:=aa hvr;clear hat hx hvr z0 z2 z4;go_wp2_with fail;refine (AB p va vl vc nb vb t m _ HV.out (HH.below HB.out)).mono ?_;exact CN
  ·exact vB

theorem AA (a:Option Addr) (len cap:Nat) (ps:List Pd) (nb vb:Nat) (t m:ByteArray) (w:World) (hr:aN w a len cap 6 (ps.map pdF)) (hh:iO w nb vb t m):
  Calls Tryz.prog 266 #[.slice a len cap,.func (.func 275) #[] #[.pointer (some ⟨nb,0,none⟩),.pointer (some ⟨vb,0,none⟩)]] w (aq (∃(j:Nat) (p:Pd),ps[j]?=some p/\OtP p t m) w):=by
 have HR:=aa hr;have HH:=aa hh;clear hr hh;go_enter Tryz.func266,Tryz.ntmps266;go_wp2_with fail;refine (Az a len cap ps nb vb t m _ HR.out HH.out).mono ?_;exact yM

theorem zu (d:Ad) (c:Cl) (m t:ByteArray) (w:World) (hr:aJ w d c.raw):
  Calls Tryz.prog 272 #[.agg #[.slice d.a1 d.l1 d.c1,.slice d.a2 d.l2 d.c2,.slice d.a3 d.l3 d.c3,.slice d.a4 d.l4 d.c4,.slice d.a5 d.l5 d.c5,.int .i64 c.now],.string m,.string t] w (aq (∃(j:Nat) (p:Pd),c.ps[j]?=some p/\OtP p t m) w):=by
 obtain⟨HR,HB⟩:=gJ;clear hr;go_enter Tryz.func272,Tryz.ntmps272;go_wp2_with fail;refine (AA d.a5 d.l5 d.c5 c.ps (w.heap.size+1+1) (w.heap.size+1) t m _ (HR.p.below (HB.trans ((bH _ _ _ _).mono HB.size))) ⟨cR _ _ _ _,dC _ _ _ _⟩).mono ?_;exact yq

theorem AF (x t:ByteArray) (nb:Nat) (w:World) (hh:w.heap[nb]?=some (.cells #[.string t] 9 (0,0))):
  Calls Tryz.prog 274 #[.string x,.pointer (some ⟨nb,0,none⟩)] w (aq (¬x=t) w):=by
 have n0:=cs1 hh;clear hh;by_cases he:x=t
 ·have hq:=a9 he;have HE:=aa he;clear he;go_enter Tryz.func274,Tryz.ntmps274;go_wp2;go_ret;exact aq.f (fun h=>h HE.out) (Ft _ _)
 ·have hq:=bB he;have HE:=aa he;clear he;go_enter Tryz.func274,Tryz.ntmps274;go_wp2;go_ret;exact aq.t HE.out (Ft _ _)

theorem AD (a:Option Addr) (len cap:Nat) (zs:List ByteArray) (t:ByteArray) (nb:Nat) (w:World) (hr:ay w a len cap zs) (hh:w.heap[nb]?=some (.cells #[.string t] 9 (0,0))):
  Calls Tryz.prog 276 #[.slice a len cap,.func (.func 274) #[] #[.pointer (some ⟨nb,0,none⟩)]] w fun e w'=>(∃r:Int,e=.returned (.int .i64 r)/\((0<=r/\∃(j:Nat) (x:ByteArray),zs[j]?=some x/\¬x=t)\/(r= -1/\∀(j:Nat) x,zs[j]?=some x->x=t)))/\Below w.heap.size w w':=by
 have HR:=aa hr;have HH:=aa hh;have hlc:=Fx hr.2.1 hr.2.2.1;have hxl:=hr.1;clear hr hh;go_enter Tryz.func276,Tryz.ntmps276;go_wp2;go_loopw [8] (fun i wr=> ∃k:Nat,k<=len/\i=.int .i64 k/\Hid (∀(j:Nat) x,j<k->zs[j]?=some x->x=t)/\Hid (Below w.heap.size w wr)) (fun i _=>len - (intOf i).toNat);case atStart=>exact⟨0,by omega,rfl,fun _ _ h=>absurd h af,Ft _ _⟩
 case round=>
  obtain⟨k,hk,rfl,HE,HB⟩:=hrel;by_cases hlt:k<len
  ·obtain⟨b,o,x,rfl,hb,hx,hc,hsz⟩:=(HR.below HB.out).at hlt;have HX:=aa hx;clear hx hsz;go_wp2_with fail;refine (AF x t nb _ ((HB.block _ (ae HH.out)).trans HH.out)).mono ?_;rintro e w1 ⟨r,rfl,hi,hb1⟩;have HI:=aa hi;have HB1:=upB HB hb1;clear hi hb1 hc;cases r
   ·go_wp2;refine⟨⟨k+1,by omega,by go_num,fun j z hj hz=>?_,HB1.out⟩,by simp[intOf];omega⟩;by_cases e:j=k
    ·subst e;rw[HX.out] at hz;obtain rfl:=Fo hz;exact GZ fun q=>(by have:=HI.2 q;cases this)
    ·exact HE.out j z af hz
   ·go_wp2;go_ret;exact⟨⟨k,rfl,.inl ⟨by omega,k,x,HX.out,HI.1 ct⟩⟩,HB1.out⟩
  ·exact vB

theorem AE (a:Option Addr) (len cap:Nat) (zs:List ByteArray) (t:ByteArray) (nb:Nat) (w:World) (hr:ay w a len cap zs) (hh:w.heap[nb]?=some (.cells #[.string t] 9 (0,0))):
  Calls Tryz.prog 273 #[.slice a len cap,.func (.func 274) #[] #[.pointer (some ⟨nb,0,none⟩)]] w (aq (∃(j:Nat) (x:ByteArray),zs[j]?=some x/\¬x=t) w):=by
 have HR:=aa hr;have HH:=aa hh;clear hr hh;go_enter Tryz.func273,Tryz.ntmps273;go_wp2_with fail;refine (AD a len cap zs t nb _ HR.out HH.out).mono ?_;rintro e w1 ⟨⟨r,rfl,hi⟩,hb⟩;have HB:=aa hb;clear hb;rcases hi with ⟨h0,h1⟩|⟨rfl,h1⟩
 ·have H1:=aa h1;clear h1;go_wp2;go_ret;exact aq.t H1.out HB.out
 ·have H1:=aa h1;clear h1;go_wp2;go_ret;exact aq.f (fun ⟨j,p,h2,h3⟩=>h3 (H1.out j p h2)) HB.out

theorem AQ (v:Vd) (ua:Option Addr) (ul uc:Nat) (t:ByteArray) (w:World) (hr:ay w ua ul uc v.zs):
  Calls Tryz.prog 271 #[.agg #[.string v.n,.int .i64 v.c,.string v.z,.string v.k,.bool v.x,.string v.m,.bool v.y,.slice ua ul uc],.string t] w (aq (∃(j:Nat) (x:ByteArray),v.zs[j]?=some x/\¬x=t) w):=by
 have HR:=aa hr;clear hr;go_enter Tryz.func271,Tryz.ntmps271;go_wp2_with fail;refine (AE ua ul uc v.zs t (w.heap.size+1) _ (HR.below (aF _ _ _)) (bE _ _ _)).mono ?_;rintro e w1 ⟨r,rfl,hi,hb⟩;have HI:=aa hi;have HB:=aa ((aF w _ _).trans (hb.mono bF));clear hi hb;go_wp2;go_ret;exact⟨r,rfl,HI.out,HB.out⟩

theorem Eh (u v:Int) (w:World):Calls Tryz.prog 260 #[.agg #[.int .i64 u,.int .i64 v]] w (aq (v<u) w):=by
 by_cases h:v<u
 ·have hq:decide (v<u)=true:=iP
  have H1:=aa h;clear h;go_enter Tryz.func260,Tryz.ntmps260;exact x_
 ·have hq:decide (v<u)=false:=iP
  go_enter Tryz.func260,Tryz.ntmps260;go_wp2;go_ret;exact aq.f af kF

theorem El (d:Ad) (c:Cl) (p:Pd) (n:Nd) (pa:Option Addr) (pl pc:Nat) (na:Option Addr) (nl nc:Nat) (w:World):
  Calls Tryz.prog 258 #[.agg #[],.agg #[.slice d.a1 d.l1 d.c1,.slice d.a2 d.l2 d.c2,.slice d.a3 d.l3 d.c3,.slice d.a4 d.l4 d.c4,.slice d.a5 d.l5 d.c5,.int .i64 c.now,.string p.n,.int .i64 p.c,.string p.z,.slice pa pl pc,.string p.d,.int .i64 p.p,.string n.n,.string n.z,.int .i64 n.c,.int .i64 n.s,.int .i64 n.u,.bool n.d,.slice na nl nc]] w (aq (fX c n) w):=by
 cases hd:n.d
 ·go_enter Tryz.func258,Tryz.ntmps258;go_wp2_with fail;refine (ry d c.now n.n n.z n.c n.s n.u false na nl nc _).mono ?_;rintro e w1 ⟨rfl,hb⟩;have HB:=aa ((aF w _ _).trans (hb.mono bF));clear hb;go_wp2_with fail;refine (Eh _ _ _).mono ?_;rintro e w2 ⟨r,rfl,hi,hb⟩;have HI:=aa hi;replace HB:=upB HB hb;clear hi hb;cases r
  ·go_wp2;go_ret;exact aq.t (.inr (Int.not_lt.1 fun h=>by have:=HI.2 h;cases this)) HB.out
  ·go_wp2;go_ret;exact aq.f (fun h=>by
    rcases h with h|h
    ·rw[hd] at h;cases h
    ·have:=HI.1 ct;omega) HB.out
 ·go_enter Tryz.func258,Tryz.ntmps258;go_wp2;go_ret;exact aq.t (.inl hd) kF

theorem Ei (d:Ad) (c:Cl) (p:Pd) (n:Nd) (pa:Option Addr) (pl pc:Nat) (na:Option Addr) (nl nc:Nat) (w:World):
  Calls Tryz.prog 261 #[.agg #[],.agg #[.slice d.a1 d.l1 d.c1,.slice d.a2 d.l2 d.c2,.slice d.a3 d.l3 d.c3,.slice d.a4 d.l4 d.c4,.slice d.a5 d.l5 d.c5,.int .i64 c.now,.string p.n,.int .i64 p.c,.string p.z,.slice pa pl pc,.string p.d,.int .i64 p.p,.string n.n,.string n.z,.int .i64 n.c,.int .i64 n.s,.int .i64 n.u,.bool n.d,.slice na nl nc]] w (aq (i_ p n) w):=by
 by_cases h0:p.z=⟨#[]⟩
 ·have hq:=cU h0;have H0:=aa h0;clear h0;go_enter Tryz.func261,Tryz.ntmps261;go_wp2;go_ret;exact aq.f (fun h=>h.1 H0.out) kF
 have hq0:=bc h0;have H0:=aa h0;clear h0;by_cases h1:p.z=n.z
 ·have hq:=a9 h1;have H1:=aa h1;clear h1;go_enter Tryz.func261,Tryz.ntmps261;go_wp2;go_ret;exact aq.f (fun h=>h.2 H1.out) kF
 ·have hq:=bB h1;have H1:=aa h1;clear h1;go_enter Tryz.func261,Tryz.ntmps261;go_wp2;go_ret;exact aq.t (Fl H0.out H1.out) kF

theorem mB (t:ByteArray):∀{ps:List Pd},(∀(j:Nat) p,ps[j]?=some p->0<=p.c/\p.c<=1000000)->0<=cpuOf t ps/\cpuOf t ps<=ps.length*1000000
 | [],_=>by simp[cpuOf]
 | p ::ps,h=>by
  have h1:=h 0 p rfl;have h2:=mB t (ps:=ps) (fun j q hq=>h (j+1) q (by simpa using hq));simp only[cpuOf,G9];split <;> omega
theorem lv (d:Ad) (c:Cl) (n:Nd) (na:Option Addr) (nl nc:Nat) (w:World) (hr:aJ w d c.raw) (hT:aB c) (hc:0<=n.c/\n.c<=1000000):
  Calls Tryz.prog 94 #[.agg #[.slice d.a1 d.l1 d.c1,.slice d.a2 d.l2 d.c2,.slice d.a3 d.l3 d.c3,.slice d.a4 d.l4 d.c4,.slice d.a5 d.l5 d.c5,.int .i64 c.now],.agg #[.string n.n,.string n.z,.int .i64 n.c,.int .i64 n.s,.int .i64 n.u,.bool n.d,.slice na nl nc]] w fun e w'=>e=.returned (.int .i64 (n.c - cpuOf n.n c.ps))/\Below w.heap.size w w':=by
 have HR:=aa hr;have h8:c.ps.length<=8:=by have:=hT.2.1.2.2.2.2.1;omega
 have HP:=aa (fun (j:Nat) p (hp:c.ps[j]?=some p)=>(hT.2.1.2.2.2.2.2.1 j p hp).2.1);have HU:=aa (mB n.n HP.out);obtain⟨hc0,hc1⟩:=hc;obtain⟨hu0,hu1⟩:=HU.out;have HB:=aa (Ft w.heap.size w);clear hr hT HU;go_enter Tryz.func94,Tryz.ntmps94;go_wp2_with fail;have Gk:Hid (((w.alloc (.cells (clv d c.now) 36)).alloc (.cells (nov n na nl nc) 57)).heap[w.heap.size]?=some (.cells (clv d c.now) 36 (0,0))):=cS _ _ _;have Gn:Hid (((w.alloc (.cells (clv d c.now) 36)).alloc (.cells (nov n na nl nc) 57)).heap[w.heap.size+1]?=some (.cells (nov n na nl nc) 57 (0,0))):=bE _ _ _;have HW:Hid (Below w.heap.size w ((w.alloc (.cells (clv d c.now) 36)).alloc (.cells (nov n na nl nc) 57))):=(HB.trans ((aF _ _ _).mono HB.size));obtain⟨k0,k1,k2,k3,k4,k5⟩:=sl6 Gk;have n0:=fun q:Wd ((w.alloc (.cells (clv d c.now) 36)).alloc (.cells (nov n na nl nc) 57))=>q.slot (o:=0) Gn.out rfl;have n2:=fun q:Wd ((w.alloc (.cells (clv d c.now) 36)).alloc (.cells (nov n na nl nc) 57))=>q.slot (o:=2) Gn.out rfl;have hne0:=Wd.ne ((w.alloc (.cells (clv d c.now) 36)).alloc (.cells (nov n na nl nc) 57));have HC0:=aa (fun q:Wd ((w.alloc (.cells (clv d c.now) 36)).alloc (.cells (nov n na nl nc) 57))=>gX d c.now c.ps n.n q.w (HR.p.below (HW.trans (q.b.mono HW.size))) h8 HP.out);go_wp2_with fail;refine ag ar ar ?_;repeat (go_big_quiet_step (first|(go_at_call 124;exact Calls.wide (HC0.out _))|fail))
 refine wpQuiet_nil ?_;rintro _ ⟨q1,rfl⟩;obtain⟨HB1,Ck⟩:=cL;have Cn:=upK Gn q1.b;clear hne0 HW HB HC0 k0 k1 k2 k3 k4 k5 n0 n2 Gk Gn;have HB:=HB1;clear HB1;clear Ck;clear Cn;go_wp2;go_ret;exact⟨by first|rfl|(congr 2;go_num),HB.out⟩

theorem E2 (d:Ad) (c:Cl) (p:Pd) (n:Nd) (pa:Option Addr) (pl pc:Nat) (na:Option Addr) (nl nc:Nat) (w:World) (hr:aJ w d c.raw) (hT:aB c) (hc:0<=n.c/\n.c<=1000000):
  Calls Tryz.prog 262 #[.agg #[],.agg #[.slice d.a1 d.l1 d.c1,.slice d.a2 d.l2 d.c2,.slice d.a3 d.l3 d.c3,.slice d.a4 d.l4 d.c4,.slice d.a5 d.l5 d.c5,.int .i64 c.now,.string p.n,.int .i64 p.c,.string p.z,.slice pa pl pc,.string p.d,.int .i64 p.p,.string n.n,.string n.z,.int .i64 n.c,.int .i64 n.s,.int .i64 n.u,.bool n.d,.slice na nl nc]] w (aq (kJ c p n) w):=by
 have HR:=aa hr;have HT:=aa hT;have HC:=aa hc;have HB:=aa (Ft w.heap.size w);clear hr hT hc;go_enter Tryz.func262,Tryz.ntmps262;go_wp2_with fail;have Gz:Hid (((w.alloc (.cells #[] 149)).alloc (.cells (trv d c p n pa pl pc na nl nc) 66)).heap[w.heap.size]?=some (.cells #[] 149 (0,0))):=cS _ _ _;have Gt:Hid (((w.alloc (.cells #[] 149)).alloc (.cells (trv d c p n pa pl pc na nl nc) 66)).heap[w.heap.size+1]?=some (.cells (trv d c p n pa pl pc na nl nc) 66 (0,0))):=bE _ _ _;have HW:Hid (Below w.heap.size w ((w.alloc (.cells #[] 149)).alloc (.cells (trv d c p n pa pl pc na nl nc) 66))):=(HB.trans ((aF _ _ _).mono HB.size));have t0:=fun q:Wd ((w.alloc (.cells #[] 149)).alloc (.cells (trv d c p n pa pl pc na nl nc) 66))=>q.slot (o:=0) Gt.out rfl;have t1:=fun q:Wd ((w.alloc (.cells #[] 149)).alloc (.cells (trv d c p n pa pl pc na nl nc) 66))=>q.slot (o:=1) Gt.out rfl;have t2:=fun q:Wd ((w.alloc (.cells #[] 149)).alloc (.cells (trv d c p n pa pl pc na nl nc) 66))=>q.slot (o:=2) Gt.out rfl;have t3:=fun q:Wd ((w.alloc (.cells #[] 149)).alloc (.cells (trv d c p n pa pl pc na nl nc) 66))=>q.slot (o:=3) Gt.out rfl;have t4:=fun q:Wd ((w.alloc (.cells #[] 149)).alloc (.cells (trv d c p n pa pl pc na nl nc) 66))=>q.slot (o:=4) Gt.out rfl;have t5:=fun q:Wd ((w.alloc (.cells #[] 149)).alloc (.cells (trv d c p n pa pl pc na nl nc) 66))=>q.slot (o:=5) Gt.out rfl;have t7:=fun q:Wd ((w.alloc (.cells #[] 149)).alloc (.cells (trv d c p n pa pl pc na nl nc) 66))=>q.slot (o:=7) Gt.out rfl;have t12:=fun q:Wd ((w.alloc (.cells #[] 149)).alloc (.cells (trv d c p n pa pl pc na nl nc) 66))=>q.slot (o:=12) Gt.out rfl;have t13:=fun q:Wd ((w.alloc (.cells #[] 149)).alloc (.cells (trv d c p n pa pl pc na nl nc) 66))=>q.slot (o:=13) Gt.out rfl;have t14:=fun q:Wd ((w.alloc (.cells #[] 149)).alloc (.cells (trv d c p n pa pl pc na nl nc) 66))=>q.slot (o:=14) Gt.out rfl;have t15:=fun q:Wd ((w.alloc (.cells #[] 149)).alloc (.cells (trv d c p n pa pl pc na nl nc) 66))=>q.slot (o:=15) Gt.out rfl;have t16:=fun q:Wd ((w.alloc (.cells #[] 149)).alloc (.cells (trv d c p n pa pl pc na nl nc) 66))=>q.slot (o:=16) Gt.out rfl;have t17:=fun q:Wd ((w.alloc (.cells #[] 149)).alloc (.cells (trv d c p n pa pl pc na nl nc) 66))=>q.slot (o:=17) Gt.out rfl;have t18:=fun q:Wd ((w.alloc (.cells #[] 149)).alloc (.cells (trv d c p n pa pl pc na nl nc) 66))=>q.slot (o:=18) Gt.out rfl;have hne0:=Wd.ne ((w.alloc (.cells #[] 149)).alloc (.cells (trv d c p n pa pl pc na nl nc) 66));have HC0:=aa (fun q:Wd ((w.alloc (.cells #[] 149)).alloc (.cells (trv d c p n pa pl pc na nl nc) 66))=>lv d c n na nl nc q.w (HR.below (HW.trans (q.b.mono HW.size))) HT.out HC.out);go_wp2_with fail;refine ag ar ar ?_;repeat (go_big_quiet_step (first|(go_at_call 94;exact Calls.wide (HC0.out _))|fail))
 refine wpQuiet_nil ?_;rintro _ ⟨q1,rfl⟩;have HB1:=upB HW q1.b;have Cz:=upK Gz q1.b;have Ct:=upK Gt q1.b;clear hne0 HW HB HC0 t0 t1 t2 t3 t4 t5 t7 t12 t13 t14 t15 t16 t17 t18 Gz Gt;have HB:=HB1;clear HB1;clear Cz;clear Ct;go_wp2;go_ret;exact⟨_,rfl,by simp[kJ],HB.out⟩

theorem DM (d:Ad) (c:Cl) (p:Pd) (n:Nd) (pa:Option Addr) (pl pc:Nat) (na:Option Addr) (nl nc:Nat) (v:Vd) (ua:Option Addr) (ul uc:Nat) (w:World):
  Calls Tryz.prog 269 #[.agg #[.string v.n,.int .i64 v.c,.string v.z,.string v.k,.bool v.x,.string v.m,.bool v.y,.slice ua ul uc],.agg #[.slice d.a1 d.l1 d.c1,.slice d.a2 d.l2 d.c2,.slice d.a3 d.l3 d.c3,.slice d.a4 d.l4 d.c4,.slice d.a5 d.l5 d.c5,.int .i64 c.now,.string p.n,.int .i64 p.c,.string p.z,.slice pa pl pc,.string p.d,.int .i64 p.p,.string n.n,.string n.z,.int .i64 n.c,.int .i64 n.s,.int .i64 n.u,.bool n.d,.slice na nl nc]] w (aq (¬v.z=n.z) w):=by
 by_cases h1:v.z=n.z
 ·have hq:=a9 h1;have H1:=aa h1;clear h1;go_enter Tryz.func269,Tryz.ntmps269;go_wp2;go_ret;exact aq.f (fun h=>h H1.out) kF
 ·have hq:=bB h1;have H1:=aa h1;clear h1;go_enter Tryz.func269,Tryz.ntmps269;exact x_

theorem DL (d:Ad) (c:Cl) (p:Pd) (n:Nd) (pa:Option Addr) (pl pc:Nat) (na:Option Addr) (nl nc:Nat) (v:Vd) (ua:Option Addr) (ul uc:Nat) (w:World) (hr:aJ w d c.raw) (hv:ay w ua ul uc v.zs):
  Calls Tryz.prog 270 #[.agg #[.string v.n,.int .i64 v.c,.string v.z,.string v.k,.bool v.x,.string v.m,.bool v.y,.slice ua ul uc],.agg #[.slice d.a1 d.l1 d.c1,.slice d.a2 d.l2 d.c2,.slice d.a3 d.l3 d.c3,.slice d.a4 d.l4 d.c4,.slice d.a5 d.l5 d.c5,.int .i64 c.now,.string p.n,.int .i64 p.c,.string p.z,.slice pa pl pc,.string p.d,.int .i64 p.p,.string n.n,.string n.z,.int .i64 n.c,.int .i64 n.s,.int .i64 n.u,.bool n.d,.slice na nl nc]] w (aq (gp c v n.n) w):=by
 cases hx:v.x
 ·go_enter Tryz.func270,Tryz.ntmps270;go_wp2;go_ret;exact aq.f (fun h=>by have h9:=h.1;rw[hx] at h9;cases h9) kF
 ·have HR:=aa hr;have HV:=aa hv;have HX:=aa hx;have HB:=aa (Ft w.heap.size w);have hz:=fun W h=>AQ v ua ul uc n.n W h;rw[hx] at hz;have HZ:=aa hz;clear hr hv hz hx;go_enter Tryz.func270,Tryz.ntmps270;go_wp2_with fail;refine (HZ.out _ (HV.below (aF _ _ _))).mono ?_;rintro e w1 ⟨r,rfl,hi,hb⟩;obtain⟨HA0,HA1,hbx⟩:=cG hb;have Bh:=aa HA0;have Bt:=aa HA1;replace HB:=upB HB hbx;clear hb hbx HA0 HA1;have HI:=aa hi;clear hi;cases r;rotate_left
  ·obtain⟨h5,t0,t1,t2,t3,t4,t5,t12⟩:=uZ;go_wp2;go_ret;exact aq.t ⟨HX.out,.inl (HI.1 ct)⟩ HB.out
  obtain⟨h5,t0,t1,t2,t3,t4,t5,t12⟩:=uZ;go_wp2_with fail;refine (zu d c v.m n.n _ (HR.below HB.out)).mono ?_;rintro e w2 ⟨r2,rfl,hi2,hb⟩;clear h5 t0 t1 t2 t3 t4 t5 t12;replace Bh:=upK Bh hb;replace Bt:=upK Bt hb;replace HB:=upB HB hb;clear hb;have HI2:=aa hi2;clear hi2;obtain⟨h5,t0,t1,t2,t3,t4,t5,t12⟩:=uZ;go_wp2;go_ret;refine⟨r2,rfl,⟨fun h=>⟨HX.out,.inr (HI2.1 h)⟩,fun h=>?_⟩,HB.out⟩;rcases h.2 with h1|h1
  ·have:=HI.2 h1;cases this
  ·exact HI2.2 h1

theorem DN (d:Ad) (c:Cl) (p:Pd) (n:Nd) (pa:Option Addr) (pl pc:Nat) (na:Option Addr) (nl nc:Nat) (k:Kd) (w:World):
  Calls Tryz.prog 256 #[.agg #[.string k.n,.bool k.x,.bool k.y,.string k.z],.agg #[.slice d.a1 d.l1 d.c1,.slice d.a2 d.l2 d.c2,.slice d.a3 d.l3 d.c3,.slice d.a4 d.l4 d.c4,.slice d.a5 d.l5 d.c5,.int .i64 c.now,.string p.n,.int .i64 p.c,.string p.z,.slice pa pl pc,.string p.d,.int .i64 p.p,.string n.n,.string n.z,.int .i64 n.c,.int .i64 n.s,.int .i64 n.u,.bool n.d,.slice na nl nc]] w (aq (k.x=false) w):=by
 cases hk:k.x
 ·go_enter Tryz.func256,Tryz.ntmps256;go_wp2;go_ret;exact aq.t ct kF
 ·go_enter Tryz.func256,Tryz.ntmps256;go_wp2;go_ret;exact aq.f (fun h=>Bool.noConfusion h) kF

theorem Ek (d:Ad) (c:Cl) (p:Pd) (n:Nd) (pa:Option Addr) (pl pc:Nat) (na:Option Addr) (nl nc:Nat) (e:Int) (w:World):
  Calls Tryz.prog 277 #[.agg #[.int .i64 e],.agg #[.slice d.a1 d.l1 d.c1,.slice d.a2 d.l2 d.c2,.slice d.a3 d.l3 d.c3,.slice d.a4 d.l4 d.c4,.slice d.a5 d.l5 d.c5,.int .i64 c.now,.string p.n,.int .i64 p.c,.string p.z,.slice pa pl pc,.string p.d,.int .i64 p.p,.string n.n,.string n.z,.int .i64 n.c,.int .i64 n.s,.int .i64 n.u,.bool n.d,.slice na nl nc]] w (aq (¬e=0) w):=by
 go_enter Tryz.func277,Tryz.ntmps277;go_wp2;go_ret;exact⟨_,rfl,by simp,by first|exact aF _ _ _|exact bH _ _ _ _⟩

theorem fH (v:Nv):v.enc.length=7:=rfl
theorem mh:∀(ms:List Nv) (j:Nat) (u:Value),(ms.map Nv.enc).flatten[j]?=some u->∃(k:Nat) (v:Nv) (i:Nat),ms[k]?=some v/\v.enc[i]?=some u/\j=k*7+i
 | [],j,u,h=>by simp at h
 | v ::ms,j,u,h=>by
  rw[H9,Io] at h;by_cases hj:j<7
  ·rw[FK (by rw[fH];exact hj)] at h;exact⟨0,v,j,rfl,h,by omega⟩
  ·rw[Gd (by rw[fH];omega),fH] at h;obtain⟨k,x,i,h1,h2,h3⟩:=mh ms (j - 7) u h;exact⟨k+1,x,i,h1,h2,by omega⟩
theorem AH (ms:List Nv) {j i:Nat} {v:Nv} {u:Value} (hv:ms[j]?=some v) (hu:v.enc[i]?=some u):(ms.map Nv.enc).flatten[j*7+i]?=some u:=
 fG (fun k vs hk=>by
  rw[FA] at hk;cases hm:ms[k]? with
  | none=>rw[hm] at hk;cases hk
  | some x=>rw[hm] at hk;cases hk;rfl) (by rw[FA,hv];rfl) hu
theorem sA:∀ms:List Nv,(ms.map Nv.enc).flatten.length=ms.length*7
 | []=>rfl
 | v ::ms=>by
  rw[H9,Io,F5,sA ms,fH,G9];omega
theorem C4 {w:World} {a:Option Addr} {len cap:Nat} {ns:List Nd} (h:aN w a len cap 7 (ns.map ndF)):∀k,k<=len->∃ms:List Nv,ms.map Nv.n=ns.take k/\(∀(j:Nat) v,ms[j]?=some v->ay w v.a v.l v.c v.n.zs)/\∀(j:Nat) v (i:Nat) u,ms[j]?=some v->v.enc[i]?=some u->∃b o,a=some ⟨b,o,none⟩/\b<w.heap.size/\w.cell? ⟨b,o+(j*7+i),none⟩=some u
 | 0,_=>⟨[],rfl,fun j v h=>by simp at h,fun j v i u h=>by simp at h⟩
 | k+1,hk=>by
  obtain⟨ms,h1,h2,h3⟩:=C4 h k af;obtain⟨b,o,x,ha,hb,hx,hat⟩:=cA h (show k<len by omega);obtain⟨va,vl,vc,hvr,-,-,c0,c1,c2,c3,c4,c5,c6⟩:=aZ hat;have hl:ms.length=k:=by
   have:=congrArg List.length h1;have hn:ns.length=len:=by simpa using h.1
   simp at this;omega
  refine⟨ms++[⟨x,va,vl,vc⟩],by rw[List.map_append,h1,FZ,hx];rfl,fun j v hj=>?_,fun j v i u hj hu=>?_⟩
  ·rw[Ij] at hj;split at hj
   ·exact h2 j v hj
   ·rename_i hlt;obtain⟨e,rfl⟩:j - ms.length=0/\v=⟨x,va,vl,vc⟩:=by
     exact xO
    exact hvr
  ·rw[Ij] at hj;split at hj
   ·exact h3 j v i u hj hu
   ·rename_i hlt;obtain⟨e,rfl⟩:j - ms.length=0/\v=⟨x,va,vl,vc⟩:=by
     exact xO
    obtain rfl:j=k:=af
    refine⟨b,o,ha,hb,?_⟩;rcases i with _|_|_|_|_|_|_|i;all_goals first
     | (cases hu;rw[<-Nat.add_assoc];assumption)
     | (exfalso;have:=(Fk.1 hu).1;rw[fH] at this;omega)
theorem A3 (ms:List Nv):∀u∈(ms.map Nv.enc).flatten,u.oneCell'=true:=by
 intro u hu;obtain⟨j,hj⟩:=FU hu;obtain⟨k,v,i,_,h2,_⟩:=mh ms j u hj;rcases i with _|_|_|_|_|_|_|i;all_goals first
  | (cases h2;rfl)
  | (exfalso;have:=(Fk.1 h2).1;rw[fH] at this;omega)

theorem rO (a:Option Addr) (n cap:Nat) (X:List Value) (w:World) (hn:n<=8) (hXl:X.length=n*7) (hX1:∀u∈X,u.oneCell'=true) (hXc:∀(j:Nat) u,X[j]?=some u->∃b o,a=some ⟨b,o,none⟩/\b<w.heap.size/\w.cell? ⟨b,o+j,none⟩=some u):
  Calls Tryz.prog 90 #[.slice a n cap] w fun e w'=> ∃a' c',e=.returned (.slice a' n c')/\w'.ownsRow w.heap.size 57 7 (.slice a' n c') n X/\Below w.heap.size w w':=by
 obtain⟨i0,hi,hz0,hz1,hz2⟩:=info_parts mv;have HI0:=aa (Fl hi (Fl hz0 (Fl hz1 hz2)));clear hi hz0 hz1 hz2;have HX1:=aa hX1;have HXC:=aa hXc;have heq:=fun w=>IF w 30 57 a n cap 0 0 Tryz.underlying30;clear hX1 hXc;cases a with
 | none=>
  obtain rfl:X=[]:=by
   rcases X with _|⟨u,X⟩
   ·rfl
   ·obtain⟨g,o,e,_⟩:=HXC.out 0 u rfl
    cases e
  obtain rfl:n=0:=by simp at hXl;omega
  go_enter Tryz.func90,Tryz.ntmps90
  go_wp2
  go_ret;exact⟨none,0,rfl,Gf _ _ _ _,Ft _ _⟩
 | some ad=>
  obtain⟨ab,ao,asp⟩:=ad
  have hnew:∀(j:Nat) u,X[j]?=some u->(w.alloc (.cells #[] 57)).cell? ((⟨ab,ao,asp⟩:Addr).add j)=some u:=fun j u hu=>by
   obtain⟨b,o,e,hlt,hc⟩:=HXC.out j u hu
   cases e
   rw[FQ];rw[<-hc];exact F8 (heap_alloc_old w _ hlt)
  have HN:=aa hnew;have HO:Hid ((w.alloc (.cells #[] 57)).ownsRow w.heap.size 57 7 (.slice (some ⟨w.heap.size,0,none⟩) 0 0) 0 []):=Ia w #[] 0 (Fq _) (H8 _) aR;clear hnew HXC
  go_enter Tryz.func90,Tryz.ntmps90
  go_wp2_with (at_builtin;refine bj rfl _ _ 30 30 rfl w.heap.size 57 57 i0 (.agg #[.string ⟨#[]⟩,.string ⟨#[]⟩,.int .i64 0,.int .i64 0,.int .i64 0,.bool false,.slice none 0 0]) 7 88 Tryz.underlying30 Tryz.underlying30 HI0.1 HI0.2.1 HI0.2.2.1 HI0.2.2.2 rfl aj _ _ _ rfl HO.out ⟨ab,ao,asp⟩ n cap X rfl hXl HN.out HX1.out cC af aR ?_)
  intro v' w' h1 h2
  obtain⟨a',c',rfl⟩:∃a' c',v'=.slice a' n c':=by
   rcases h1.2 with ⟨rfl,h0⟩|⟨g,cp,cu,rfl,_⟩
   ·exact⟨none,0,by rw[h0]⟩
   ·exact⟨_,_,rfl⟩
  have H1:=aa h1;have H2:=aa h2;clear h1 h2
  go_wp2
  go_ret;refine⟨a',c',rfl,H1.out,((al w (.cells #[] 57)).grown H2.out aR (fun g hg=>?_))⟩
  simp[G5] at hg
  omega

theorem AS (a b:Nv) (cb:Nat) (d:Ad) (c:Cl) (w:World) (hr:aJ w d c.raw) (hT:aB c) (ha:0<=a.n.c/\a.n.c<=1000000) (hb:0<=b.n.c/\b.n.c<=1000000) (hk:w.heap[cb]?=some (.cells #[.slice d.a1 d.l1 d.c1,.slice d.a2 d.l2 d.c2,.slice d.a3 d.l3 d.c3,.slice d.a4 d.l4 d.c4,.slice d.a5 d.l5 d.c5,.int .i64 c.now] 36 (0,0))):
  Calls Tryz.prog 92 #[.agg #[.string a.n.n,.string a.n.z,.int .i64 a.n.c,.int .i64 a.n.s,.int .i64 a.n.u,.bool a.n.d,.slice a.a a.l a.c],.agg #[.string b.n.n,.string b.n.z,.int .i64 b.n.c,.int .i64 b.n.s,.int .i64 b.n.u,.bool b.n.d,.slice b.a b.l b.c],.pointer (some ⟨cb,0,none⟩)] w fun e w'=>e=.returned (.int .i64 (jj (frV c b) (frV c a)))/\Below w.heap.size w w':=by
 have HR:=aa hr;have HT:=aa hT;have HA:=aa ha;have HBB:=aa hb;have HB:=aa (Ft w.heap.size w);clear hr hT ha hb;have Bk:=aa (hk);clear hk;go_enter Tryz.func92,Tryz.ntmps92;go_wp2_with fail;have Gk:Hid (((w.alloc (.cells (nov a.n a.a a.l a.c) 57)).alloc (.cells (nov b.n b.a b.l b.c) 57)).heap[cb]?=some (.cells (clv d c.now) 36 (0,0))):=(Fw _ _ _ (by simp;have:=ae Bk.out;omega)).trans ((Fw _ _ _ (ae Bk.out)).trans (Bk.out));have Ga:Hid (((w.alloc (.cells (nov a.n a.a a.l a.c) 57)).alloc (.cells (nov b.n b.a b.l b.c) 57)).heap[w.heap.size]?=some (.cells (nov a.n a.a a.l a.c) 57 (0,0))):=cS _ _ _;have Gb:Hid (((w.alloc (.cells (nov a.n a.a a.l a.c) 57)).alloc (.cells (nov b.n b.a b.l b.c) 57)).heap[w.heap.size+1]?=some (.cells (nov b.n b.a b.l b.c) 57 (0,0))):=bE _ _ _;have HW:Hid (Below w.heap.size w ((w.alloc (.cells (nov a.n a.a a.l a.c) 57)).alloc (.cells (nov b.n b.a b.l b.c) 57))):=(HB.trans ((aF _ _ _).mono HB.size));obtain⟨k0,k1,k2,k3,k4,k5⟩:=sl6 Gk;obtain⟨a0,a1,a2,a3,a4,a5,a6⟩:=sl7 Ga;obtain⟨b0,b1,b2,b3,b4,b5,b6⟩:=sl7 Gb;have hne0:=Wd.ne ((w.alloc (.cells (nov a.n a.a a.l a.c) 57)).alloc (.cells (nov b.n b.a b.l b.c) 57));have HC0:=aa (fun q:Wd ((w.alloc (.cells (nov a.n a.a a.l a.c) 57)).alloc (.cells (nov b.n b.a b.l b.c) 57))=>(fun (n:Nd) (na:Option Addr) (nl nc:Nat) (hc:0<=n.c/\n.c<=1000000)=>lv d c n na nl nc q.w (HR.below (HW.trans (q.b.mono HW.size))) HT.out hc));have HC1:=aa (fun q:Wd ((w.alloc (.cells (nov a.n a.a a.l a.c) 57)).alloc (.cells (nov b.n b.a b.l b.c) 57))=>tL (b.n.c - cpuOf b.n.n c.ps) (a.n.c - cpuOf a.n.n c.ps) q.w);go_wp2_with fail;refine ag ar ar ?_;repeat (go_big_quiet_step (first|(go_at_call 94;exact Calls.wide (HC0.out _ _ _ _ _ (by first|exact HA.out|exact HBB.out)))|(go_at_call 93;exact Calls.wide (HC1.out _))|fail))
 refine wpQuiet_nil ?_;rintro _ ⟨q1,rfl⟩;obtain⟨HB1,Ck⟩:=cL;have Ca:=upK Ga q1.b;have Cb:=upK Gb q1.b;clear hne0 HW HB HC0 HC1 k0 k1 k2 k3 k4 k5 a0 a1 a2 a3 a4 a5 a6 b0 b1 b2 b3 b4 b5 b6 Gk Ga Gb Bk;have HB:=HB1;clear HB1;have Bk:=Ck;clear Ck;clear Ca;clear Cb;go_wp2;go_ret;exact⟨rfl,HB.out⟩

def EB (c:Cl) (w:World) (e:Ending) (w':World):Prop:=∃(ms ls:List Nv) (a:Option Addr) (g cap:Nat),e=.returned (.slice a c.ns.length cap)/\ms.map Nv.n=c.ns/\(∀(j:Nat) v,ms[j]?=some v->ay w v.a v.l v.c v.n.zs)/\ef (frV c) ltN ms ls ms.length/\cr w' g ls/\(0<c.ns.length->a=some ⟨g,0,none⟩)/\Below w.heap.size w w'
theorem cr.Dy {w:World} {base n:Nat} {a:Option Addr} {cap:Nat} {ms:List Nv} (h:w.ownsRow base 57 7 (.slice a n cap) n (ms.map Nv.enc).flatten) (hn:ms.length=n):∃g,cr w g ms/\(0<n->a=some ⟨g,0,none⟩)/\base<=g:=by
 rcases h.2 with ⟨_,rfl⟩|⟨g,cp,cur,hv,hb,hg,_,_,_,hX⟩
 ·exact⟨base,.inl (List.length_eq_zero_iff.1 hn),fun h=>absurd h af,Fq _⟩
 ·cases hv;refine⟨g,.inr ⟨cur,hg,fun j v hj i u hu=>?_⟩,fun _=>rfl,hb⟩;have h1:=AH ms hj hu;have hi:i<7:=(Fk.1 hu).1;have hj2:=(Fk.1 hj).1;rw[<-hX,FP,if_pos af] at h1;simpa using h1

theorem tI (d:Ad) (c:Cl) (w:World) (hr:aJ w d c.raw) (hT:aB c):
  Calls Tryz.prog 59 #[.agg #[.slice d.a1 d.l1 d.c1,.slice d.a2 d.l2 d.c2,.slice d.a3 d.l3 d.c3,.slice d.a4 d.l4 d.c4,.slice d.a5 d.l5 d.c5,.int .i64 c.now]] w (EB c w):=by
 have HR:=aa hr;have HT:=aa hT;have HB:=aa (Ft w.heap.size w);have hl1:c.ns.length=d.l1:=uR
 have h8:d.l1<=8:=by have:=hT.2.1.1.1;omega
 obtain⟨ms,hm,htx,hce⟩:=C4 hr.n d.l1 (Fq _);rw[FD af] at hm;have hml:ms.length=d.l1:=by rw[<-hl1,<-hm,FR]
 have HM:=aa hm;have HTX:=aa htx;have HML:=aa hml;have HCE:Hid (∀(j:Nat) u,(ms.map Nv.enc).flatten[j]?=some u->∃b o,d.a1=some ⟨b,o,none⟩/\b<w.heap.size/\w.cell? ⟨b,o+j,none⟩=some u):=fun j u hu=>by
  obtain⟨k,v,i,h1,h2,rfl⟩:=mh ms j u hu;exact hce k v i u h1 h2
 clear hr hT hm htx hce hml;go_enter Tryz.func59,Tryz.ntmps59;go_wp2_with fail;refine (rO d.a1 d.l1 d.c1 (ms.map Nv.enc).flatten _ h8 (by rw[sA,HML.out]) (A3 ms) (fun j u hu=>by obtain⟨b,o,h1,h2,h3⟩:=HCE.out j u hu;exact⟨b,o,h1,by simp;omega,(F8 (heap_alloc_old w _ h2)).trans h3⟩)).mono ?_;rintro e w1 ⟨a',c',rfl,ho,hb⟩;obtain⟨HA0,hbx⟩:=aL hb;have Bk:=aa HA0;replace HB:=upB HB hbx;clear hb hbx HA0;obtain⟨g,hs,hga,hgb⟩:=cr.Dy ho HML.out;have HS:=aa hs;have HGA:=aa hga;clear hs hga ho HCE;obtain⟨k0,k1,k2,k3,k4,k5⟩:=cs6 Bk;go_wp2_with fail;have hgb2:w.heap.size+1<=g:=by simpa using hgb
 have HGB:=aa hgb2;clear hgb hgb2;have HCC:Hid (∀W,aC (fun k=>k=g) w1 W->∀a b:Nv,a∈ms->b∈ms->Calls Tryz.prog 92 #[.agg #[.string a.n.n,.string a.n.z,.int .i64 a.n.c,.int .i64 a.n.s,.int .i64 a.n.u,.bool a.n.d,.slice a.a a.l a.c],.agg #[.string b.n.n,.string b.n.z,.int .i64 b.n.c,.int .i64 b.n.s,.int .i64 b.n.u,.bool b.n.d,.slice b.a b.l b.c],.pointer (some ⟨w.heap.size,0,none⟩)] W fun e W'=>e=.returned (.int .i64 (jj (frV c b) (frV c a)))/\Below W.heap.size W W'):=fun W hW a b ha hb=>by
  have hg:=HGB.out;have hbw:=HB.trans (hW.low HB.size (fun k hk=>by have h:k=g:=hk;omega));have hin:∀v:Nv,v∈ms->0<=v.n.c/\v.n.c<=1000000:=fun v hv=>by
   obtain⟨j,hj⟩:=FU hv;exact (HT.2.1.1.2.1 j v.n (by rw[<-HM.out,FA,hj];rfl)).2.2.1
  exact AS a b w.heap.size d c W (HR.below hbw) HT.out (hin a ha) (hin b hb) ((hW.block _ (ae Bk.out) (fun e=>by have h:w.heap.size=g:=e;omega)).trans Bk.out)
 have HLT:Hid (∀(i j:Nat) a b,i<j->ms[i]?=some a->ms[j]?=some b->ltN a b):=fun i j a b hij ha hb=>HT.2.1.1.2.2.lt hij (by rw[<-HM.out,FA,ha];rfl) (by rw[<-HM.out,FA,hb];rfl);refine (zk a' g d.l1 c' w.heap.size c ms w1 HGA.out HML.out h8 HS.out HLT.out HCC.out).mono ?_;rintro e w2 ⟨rfl,ls,h1,h2,h3⟩;have HQ:=aa h1;have HS2:=aa h2;have HB2:Hid (Below w.heap.size w w2):=HB.trans (h3.low HB.size (fun k hk=>by have h:k=g:=hk;have:=HGB.out;omega));clear h1 h2 h3 HCC HLT;go_wp2;go_ret;exact⟨ms,ls,a',g,c',by rw[hl1];rfl,HM.out,HTX.out,by rw[HML.out];exact HQ.out,HS2.out,fun h=>HGA.out af,HB2.out⟩

def ib (c:Cl) (i:Nat) (p:Pd) (n:Nd):Prop:=∃c',dh c i p n c' 0
def fo (c:Cl) (i:Nat) (p:Pd):Prop:=∀(j:Nat) n,c.ns[j]?=some n->¬ib c i p n
def kL (c:Cl) (i:Nat) (p:Pd) (b:Nat) (n:Nd):Prop:=c.ns[b]?=some n/\ib c i p n/\∀(j:Nat) m,c.ns[j]?=some m->ib c i p m->frN c m<frN c n\/(frN c m=frN c n/\b<=j)
theorem kL.same {c:Cl} {i:Nat} {p:Pd} {b b':Nat} {n n':Nd} (h:kL c i p b n) (h':kL c i p b' n'):b=b'/\n=n':=by
 have h1:=h.2.2 b' n' h'.1 h'.2.1;have h2:=h'.2.2 b n h.1 h.2.1;obtain rfl:b=b':=af
 exact⟨rfl,Fo (h.1.symm.trans h'.1)⟩
theorem fo.not {c:Cl} {i:Nat} {p:Pd} {b:Nat} {n:Nd} (h:fo c i p) (h':kL c i p b n):False:=h b n h'.1 h'.2.1
theorem ib.EN {c:Cl} {i:Nat} {p:Pd} {n:Nd} (h:ib c i p n):p.c<=frN c n:=by
 obtain⟨c',h⟩:=h;rcases h with ⟨_,h⟩|⟨_,⟨_,h⟩|⟨_,⟨_,h⟩|⟨h,_⟩⟩⟩
 ·exact absurd h aj
 ·exact absurd h aj
 ·exact absurd h aj
 ·unfold kJ at h;unfold frN;omega
def ee (c:Cl) (i:Nat) (p:Pd) (k:Nat) (best most:Int):Prop:=
 (best= -1/\most= -1/\∀(j:Nat) n,j<k->c.ns[j]?=some n->¬ib c i p n)\/
 ∃(b:Nat) (n:Nd),best=b/\b<k/\most=frN c n/\c.ns[b]?=some n/\ib c i p n/\∀(j:Nat) m,j<k->c.ns[j]?=some m->ib c i p m->frN c m<frN c n\/(frN c m=frN c n/\b<=j)
theorem ee.zero {c:Cl} {i:Nat} {p:Pd} :ee c i p 0 (-1) (-1):=.inl ⟨rfl,rfl,fun _ _ h=>absurd h (by omega)⟩
theorem ee.pass {c:Cl} {i:Nat} {p:Pd} {k:Nat} {best most:Int} {n:Nd} (h:ee c i p k best most) (hn:c.ns[k]?=some n) (hp:0<=p.c) (hf:frN c n<=most):ee c i p (k+1) best most:=by
 rcases h with ⟨h1,h2,h3⟩|⟨b,m,h1,h2,h3,h4,h5,h6⟩
 ·refine .inl ⟨h1,h2,fun j x hj hx hF=>?_⟩;by_cases e:j=k
  ·subst e;rw[hn] at hx;obtain rfl:=Fo hx;have:=hF.EN;omega
  ·exact h3 j x af hx hF
 ·refine .inr ⟨b,m,h1,by omega,h3,h4,h5,fun j x hj hx hF=>?_⟩;by_cases e:j=k
  ·subst e;rw[hn] at hx;obtain rfl:=Fo hx;omega
  ·exact h6 j x af hx hF
theorem ee.no {c:Cl} {i:Nat} {p:Pd} {k:Nat} {best most:Int} {n:Nd} (h:ee c i p k best most) (hn:c.ns[k]?=some n) (hf:¬ib c i p n):ee c i p (k+1) best most:=by
 rcases h with ⟨h1,h2,h3⟩|⟨b,m,h1,h2,h3,h4,h5,h6⟩
 ·refine .inl ⟨h1,h2,fun j x hj hx hF=>?_⟩;by_cases e:j=k
  ·subst e;rw[hn] at hx;obtain rfl:=Fo hx;exact hf hF
  ·exact h3 j x af hx hF
 ·refine .inr ⟨b,m,h1,by omega,h3,h4,h5,fun j x hj hx hF=>?_⟩;by_cases e:j=k
  ·subst e;rw[hn] at hx;obtain rfl:=Fo hx;exact absurd hF hf
  ·exact h6 j x af hx hF
theorem ee.take {c:Cl} {i:Nat} {p:Pd} {k:Nat} {best most:Int} {n:Nd} (h:ee c i p k best most) (hn:c.ns[k]?=some n) (hf:¬frN c n<=most) (hF:ib c i p n):ee c i p (k+1) k (frN c n):=by
 refine .inr ⟨k,n,rfl,by omega,rfl,hn,hF,fun j x hj hx hG=>?_⟩;by_cases e:j=k
 ·subst e;rw[hn] at hx;obtain rfl:=Fo hx;exact .inr ⟨rfl,by omega⟩
 ·rcases h with ⟨_,_,h3⟩|⟨b,m,_,h2,h3,h4,h5,h6⟩
  ·exact absurd hG (h3 j x af hx)
  ·have:=h6 j x af hx hG;exact .inl af
theorem ee.done {c:Cl} {i:Nat} {p:Pd} {best most:Int} (h:ee c i p c.ns.length best most):(best= -1/\fo c i p)\/∃(b:Nat) (n:Nd),best=b/\kL c i p b n:=by
 rcases h with ⟨h1,_,h3⟩|⟨b,n,h1,_,_,h4,h5,h6⟩
 ·exact .inl ⟨h1,fun j n hn=>h3 j n (Fk.1 hn).1 hn⟩
 ·exact .inr ⟨b,n,h1,h4,h5,fun j m hm=>h6 j m (Fk.1 hm).1 hm⟩

theorem oU {c:Cl} {i:Nat} {p:Pd} {ms ls:List Nv} {k:Nat} {v:Nv} (hm:ms.map Nv.n=c.ns) (hr:aP Nd.n c.ns) (hs:ef (frV c) ltN ms ls ms.length) (hk:ls[k]?=some v) (hF:ib c i p v.n) (hno:∀(j:Nat) u,j<k->ls[j]?=some u->¬ib c i p u.n):∃b,kL c i p b v.n:=by
 obtain⟨P,rfl,_,h2,h3⟩:=hs;rw[List.drop_length,GC] at hk hno;rw[Iv] at h2;have hv:=h2.mem_iff.1 (FX hk);obtain⟨b,hb⟩:=FU hv;have hb':c.ns[b]?=some v.n:=by rw[<-hm,FA,hb];rfl
 refine⟨b,hb',hF,fun j m hj hG=>?_⟩;have hj':(ms.map Nv.n)[j]?=some m:=by rw[hm];exact hj
 rw[FA] at hj';cases hu:ms[j]? with
 | none=>rw[hu] at hj';cases hj'
 | some u=>
  rw[hu] at hj';obtain rfl:u.n=m:=Fo hj';obtain⟨q,hq⟩:=FU (h2.mem_iff.2 (FX hu))
  have hqk:k<=q:=by
   have:=hno q u
   by_cases hlt:q<k
   ·exact absurd hG (this hlt hq)
   ·omega
  by_cases e:k=q
  ·subst e;rw[hk] at hq;obtain rfl:=Fo hq;exact .inr ⟨rfl,by rw[(hr.inj hb' hj rfl).1];exact Fq _⟩
  ·have hlt:k<q:=af
   have hR:=List.pairwise_iff_getElem.1 h3 k q (Fk.1 hk).1 (Fk.1 hq).1 hlt;rw[(Fk.1 hk).2,(Fk.1 hq).2] at hR
   rcases hR with hR|⟨hR,hL⟩
   ·exact .inl hR
   ·refine .inr ⟨hR.symm,?_⟩
    by_cases hbj:b<=j
    ·exact hbj
    ·have h9:=hr.lt (show j<b by omega) hj hb';have h8:=cg _ _ _ hL h9;rw[da] at h8
     cases h8
theorem tn {c:Cl} {i:Nat} {p:Pd} {ms ls:List Nv} (hm:ms.map Nv.n=c.ns) (hs:ef (frV c) ltN ms ls ms.length) (hno:∀(j:Nat) u,ls[j]?=some u->¬ib c i p u.n):fo c i p:=by
 obtain⟨P,rfl,_,h2,h3⟩:=hs;rw[List.drop_length,GC] at hno;rw[Iv] at h2;intro j n hj hF;rw[<-hm,FA] at hj;cases hu:ms[j]? with
 | none=>rw[hu] at hj;cases hj
 | some u=>
  rw[hu] at hj;obtain rfl:u.n=n:=Fo hj;obtain⟨q,hq⟩:=FU (h2.mem_iff.2 (FX hu));exact hno q u hq hF

def oX (c:Cl) (t:ByteArray):Prop:=∃(i j:Nat) (x:Xd) (k:Kd),c.xs[i]?=some x/\x.n=t/\x.v=⟨#[]⟩/\c.ks[j]?=some k/\k.n=x.k/\k.x=false
def Aln (c:Cl) (p:Pd):Prop:=∃(m:Nat) (t:ByteArray),p.zs[m]?=some t/\oX c t
theorem oX.of {c c':Cl} {n:Nd} {t:ByteArray} (h:cI c n t c' 11):oX c t:=by
 obtain⟨i,x,h1,h2,h⟩:=h;rcases h with ⟨_,_,_,_,_,⟨_,e⟩|⟨_,_,e⟩|⟨_,_,e⟩⟩|⟨h3,j,k,o,h4,h5,h6,_,⟨h7,_⟩|⟨_,e⟩⟩
 ·exact absurd e aj
 ·exact absurd e aj
 ·exact absurd e aj
 ·exact⟨i,j,x,k,h1,h2,h3,h4,h5,h7⟩
 ·rcases h6 with ⟨_,_,_,_,rfl⟩|⟨_,⟨_,rfl⟩|⟨_,⟨_,rfl⟩|⟨_,⟨_,rfl⟩|⟨_,rfl⟩⟩⟩⟩ <;> first|exact absurd (show (11:Int)=0 from e) aj|exact absurd e aj
theorem oX.not {c c':Cl} {n:Nd} {t:ByteArray} (hT:aB c) (h:oX c t) (h':cI c n t c' 0):False:=by
 obtain⟨i,j,x,k,h1,h2,h3,h4,h5,h6⟩:=h;obtain⟨i',x',g1,g2,g⟩:=h';obtain⟨rfl,rfl⟩:=hT.2.1.2.2.2.1.2.2.inj h1 g1 (h2.trans g2.symm);rcases g with ⟨a,v,g3,g4,_⟩|⟨_,a,k',o,g4,g5,_,_,⟨_,e⟩|⟨g7,_⟩⟩
 ·have hn:=(hT.2.1.2.2.1.2.1 a v g3).1;rw[g4,h3] at hn;exact absurd hn.1 aj
 ·exact absurd e aj
 ·obtain⟨rfl,rfl⟩:=hT.2.1.2.1.2.2.inj h4 g4 (h5.trans g5.symm);rw[h6] at g7;cases g7
theorem cI.oF {c c':Cl} {n:Nd} {t:ByteArray} (h:cI c n t c' 0) {i:Nat} {x:Xd} (hx:c.xs[i]?=some x) (hn:¬x.n=t):c'.xs[i]?=some x:=by
 obtain⟨i',x',g1,g2,g⟩:=h;have hne:¬i'=i:=fun e=>by
  subst e;rw[hx] at g1;obtain rfl:=Fo g1;exact hn g2
 rcases g with ⟨_,_,_,_,rfl,_⟩|⟨_,_,_,o,_,_,h6,rfl,⟨_,e⟩|⟨_,e⟩⟩
 ·exact hx
 ·exact absurd e aj
 ·rcases h6 with ⟨_,_,_,_,rfl⟩|⟨_,⟨_,rfl⟩|⟨_,⟨_,rfl⟩|⟨_,⟨_,rfl⟩|⟨_,rfl⟩⟩⟩⟩
  ·exact (List.getElem?_set_ne hne).trans hx
  ·exact absurd e aj
  ·exact absurd e aj
  ·exact absurd e aj
  ·exact (List.getElem?_set_ne hne).trans hx
theorem cn.oF {c:Cl} {n:Nd} {ts:List ByteArray} {i:Nat} {x:Xd} (hx:c.xs[i]?=some x):∀(k:Nat) (c':Cl),cn c n ts k c'->(∀(j:Nat) t,j<k->ts[j]?=some t->¬x.n=t)->c'.xs[i]?=some x
 | 0,c',h,_=>by
  obtain rfl:c'=c:=h;exact hx
 | k+1,c',h,hn=>by
  obtain⟨c1,t,h1,h2,h3⟩:=h;exact h3.oF (cn.oF hx k c1 h1 (fun j s hj=>hn j s af)) (hn k t af h2)
theorem kS {zs:List ByteArray} (h:fm zs) {i:Nat} :∀(j:Nat) {x y:ByteArray},i<j->zs[i]?=some x->zs[j]?=some y->Fz x.toList y.toList=true
 | 0,_,_,hij,_,_=>absurd hij af
 | j+1,x,y,hij,hx,hy=>by
  have hj:j<zs.length:=by have:=(Fk.1 hy).1;omega
  have h1:=(h (j+1) y hy).2 zs[j] af (Fs hj);by_cases e:i=j
  ·subst e;rw[Fs hj] at hx;obtain rfl:=Fo hx;exact h1
  ·exact cg _ _ _ (kS h j af hx (Fs hj)) h1
theorem cn.Fj {c c':Cl} {n:Nd} {ts:List ByteArray} {k m:Nat} {t:ByteArray} (hT:aB c) (hn:aO n.z) (hz:fm ts) (hr:cn c n ts k c') (ht:ts[m]?=some t) (hk:k<=m) (hh:hit Xd.n c.xs t=true):oX c' t↔oX c t:=by
 have hR:=cn.right hT hn k c' hr;have hne:∀{x:Xd},x.n=t->∀(j:Nat) s,j<k->ts[j]?=some s->¬x.n=s:=fun {x} hx j s hj hs e=>by
  have h9:=kS hz m (show j<m by omega) hs ht;rw[<-hx,<-e,da] at h9;cases h9
 constructor
 ·rintro⟨i,j,x,y,h1,h2,h3,h4,h5,h6⟩;obtain⟨i0,x0,hx0,hn0⟩:=Bj.Dz hh;have h7:=cn.oF hx0 k c' hr (hne hn0);obtain⟨rfl,rfl⟩:=hR.1.2.1.2.2.2.1.2.2.inj h1 h7 (h2.trans hn0.symm);exact⟨i,j,x,y,hx0,h2,h3,by rw[<-hR.2.2.1];exact h4,h5,h6⟩
 ·rintro⟨i,j,x,y,h1,h2,h3,h4,h5,h6⟩;exact⟨i,j,x,y,cn.oF h1 k c' hr (hne h2),h2,h3,by rw[hR.2.2.1];exact h4,h5,h6⟩
theorem Aln.none {c:Cl} {i:Nat} {p:Pd} (hT:aB c) (hp:c.ps[i]?=some p) (h:Aln c p):fo c i p:=by
 obtain⟨m,t,ht,ha⟩:=h;have hz:=(hT.2.1.2.2.2.2.2.1 i p hp).2.2.2.1.2;have hh:=(hT.2.2.2.1.1 _ _ hp).1 m t ht;have hm:=(Fk.1 ht).1;rintro j n hn ⟨c',hs⟩;have hnz:=(hT.2.1.1.2.1 j n hn).2.1;rcases hs with ⟨_,e⟩|⟨_,⟨_,e⟩|⟨_,⟨_,e⟩|⟨_,c1,e1,hA,hE⟩⟩⟩
 ·exact absurd e aj
 ·exact absurd e aj
 ·exact absurd e aj
 have e0:e1=0:=by
  rcases hE with ⟨h1,h2⟩|⟨h1,_⟩
  ·exact h2.symm
  ·exact h1
 subst e0;rcases hA with ⟨hR,_⟩|⟨_,_,_,_,_,_,hne⟩
 ·obtain⟨c2,c3,s,r1,r2,r3⟩:=cn.less p.zs.length (m+1) c1 af hR;rw[ht] at r2;obtain rfl:=Fo r2;exact ((cn.Fj hT hnz hz r1 ht (Fq _) hh).2 ha).not (cn.right hT hnz m c3 r1).1 r3
 ·exact hne rfl
theorem Aln.of {c c':Cl} {i j:Nat} {p:Pd} {n:Nd} {e:Int} (hT:aB c) (hp:c.ps[i]?=some p) (hn:c.ns[j]?=some n) (h:dh c i p n c' e) (he:e=11) (ha:¬fX c n):Aln c p:=by
 subst he;have hz:=(hT.2.1.2.2.2.2.2.1 i p hp).2.2.2.1.2;have hnz:=(hT.2.1.1.2.1 j n hn).2.1;rcases h with ⟨h,_⟩|⟨_,⟨_,e⟩|⟨_,⟨_,e⟩|⟨_,c1,e1,hA,hE⟩⟩⟩
 ·exact absurd h ha
 ·exact absurd e aj
 ·exact absurd e aj
 have e1:e1=11:=by
  rcases hE with ⟨_,h2⟩|⟨_,⟨_,e⟩|⟨_,e,_⟩⟩
  ·exact h2.symm
  ·exact absurd e aj
  ·exact absurd e aj
 subst e1;rcases hA with ⟨_,e⟩|⟨k,c2,t,h1,h2,h3,_⟩
 ·exact absurd e aj
 ·exact⟨k,t,h2,(cn.Fj hT hnz hz h1 h2 (Fq _) ((hT.2.2.2.1.1 _ _ hp).1 k t h2)).1 (oX.of h3)⟩

def kv (c:Cl) (t:ByteArray):Nat->Prop
 | 0=>8000<t.size
 | 1=>¬8000<t.size/\¬aB c
 | 2=>¬8000<t.size/\aB c/\hit Pd.n c.ps t=false
 | 7=>¬8000<t.size/\aB c/\∃x,c.ps[pl Pd.n c.ps t]?=some x/\x.n=t/\x.p=0/\fo c (pl Pd.n c.ps t) x
 | 8=>¬8000<t.size/\aB c/\∃x,c.ps[pl Pd.n c.ps t]?=some x/\x.n=t/\¬x.p=0
 | _=>False
def z_ (R:Cl->Nat->Pd->Nd->Cl->Prop) (c:Cl) (t:ByteArray) (o:Co):Prop:=(∃i,kv c t i/\o=co0 (dz i))\/(¬8000<t.size/\aB c/\∃x b n c',c.ps[pl Pd.n c.ps t]?=some x/\x.n=t/\x.p=0/\kL c (pl Pd.n c.ps t) x b n/\R c (pl Pd.n c.ps t) x n c'/\o=⟨c',n.n,0⟩)
def dE:Cl->ByteArray->Co->Prop:=z_ fun c i p n c'=>dh c i p n c' 0
theorem kv.cases {c:Cl} {t:ByteArray} {i:Nat} (h:kv c t i):(i=0/\8000<t.size)\/(i=1/\¬8000<t.size/\¬aB c)\/(i=2/\¬8000<t.size/\aB c/\hit Pd.n c.ps t=false)\/(i=8/\¬8000<t.size/\aB c/\∃x,c.ps[pl Pd.n c.ps t]?=some x/\x.n=t/\¬x.p=0)\/(i=7/\¬8000<t.size/\aB c/\∃x,c.ps[pl Pd.n c.ps t]?=some x/\x.n=t/\x.p=0/\fo c (pl Pd.n c.ps t) x):=by
 rcases i with _|_|_|_|_|_|_|_|_|i;all_goals first
  | exact False.elim h
  | exact .inl ⟨rfl,h⟩
  | exact .inr (.inl ⟨rfl,h⟩)
  | exact .inr (.inr (.inl ⟨rfl,h⟩))
  | exact .inr (.inr (.inr (.inl ⟨rfl,h⟩)))
  | exact .inr (.inr (.inr (.inr ⟨rfl,h⟩)))
theorem z_.same {R:Cl->Nat->Pd->Nd->Cl->Prop} (hR:∀c i p n c1 c2,aB c->aO n.z->R c i p n c1->R c i p n c2->c1=c2) {c:Cl} {t:ByteArray} {o o':Co} (h:z_ R c t o) (h':z_ R c t o'):o=o':=by
 rcases h with ⟨i,a,rfl⟩|⟨a1,a2,x,b,n,c1,a3,a4,a5,a6,a7,rfl⟩ <;> rcases h' with ⟨i',b0,rfl⟩|⟨b1,b2,x',b',n',c2,b3,b4,b5,b6,b7,rfl⟩
 ·rcases a.cases with ⟨rfl,a1⟩|⟨rfl,a1,a2⟩|⟨rfl,a1,a2,a3⟩|⟨rfl,a1,a2,x,a3,a4,a5⟩|⟨rfl,a1,a2,x,a3,a4,a5,a6⟩ <;> rcases b0.cases with ⟨rfl,b1⟩|⟨rfl,b1,b2⟩|⟨rfl,b1,b2,b3⟩|⟨rfl,b1,b2,y,b3,b4,b5⟩|⟨rfl,b1,b2,y,b3,b4,b5,b6⟩
  all_goals first
   | rfl
   | exact absurd a1 b1
   | exact absurd b1 a1
   | exact absurd a2 b2
   | exact absurd b2 a2
   | exact absurd (my b2 b3 b4) (by rw[a3];decide)
   | exact absurd (my a2 a3 a4) (by rw[b3];decide)
   | (rw[a3] at b3;obtain rfl:=Fo b3;first|exact absurd a5 b5|exact absurd b5 a5)
 ·rcases a.cases with ⟨rfl,a1⟩|⟨rfl,a1,a2⟩|⟨rfl,a1,a2,a3⟩|⟨rfl,a1,a2,x,a3,a4,a5⟩|⟨rfl,a1,a2,x,a3,a4,a5,a6⟩;all_goals first
   | exact absurd a1 b1
   | exact absurd b2 a2
   | exact absurd (my b2 b3 b4) (by rw[a3];decide)
   | (rw[a3] at b3;obtain rfl:=Fo b3;first|exact absurd b5 a5|exact (a6.not b6).elim)
 ·rcases b0.cases with ⟨rfl,b1⟩|⟨rfl,b1,b2⟩|⟨rfl,b1,b2,b3⟩|⟨rfl,b1,b2,y,b3,b4,b5⟩|⟨rfl,b1,b2,y,b3,b4,b5,b6⟩;all_goals first
   | exact absurd b1 a1
   | exact absurd a2 b2
   | exact absurd (my a2 a3 a4) (by rw[b3];decide)
   | (rw[a3] at b3;obtain rfl:=Fo b3;first|exact absurd a5 b5|exact (b6.not a6).elim)
 ·rw[a3] at b3;obtain rfl:=Fo b3;obtain⟨rfl,rfl⟩:=a6.same b6;rw[hR c _ _ _ _ _ a2 (a2.2.1.1.2.1 _ _ a6.1).2.1 a7 b7]
theorem dE.same {c:Cl} {t:ByteArray} {o o':Co} (h:dE c t o) (h':dE c t o'):o=o':=z_.same (fun _ _ _ _ _ _ hT hn h1 h2=>(h1.same hT hn h2).2 rfl) h h'
theorem Sm.fit {c:Cl} (h:Sm c):je c:=⟨by have:=h.n;omega,fun j x hx=>by have:=h.ns j x hx;omega,by have:=h.k;omega,by have:=h.v;omega,fun j x hx=>by have:=h.vs j x hx;omega,by have:=h.x;omega,by have:=h.p;omega,fun j x hx=>by have:=h.ps j x hx;omega⟩
theorem dE.marks {c:Cl} {t:ByteArray} {o:Co} (h:dE c t o):dO 1 o.c.raw<=1152921504606846976:=by
 rcases h with ⟨i,_,rfl⟩|⟨_,hT,x,b,n,c',h3,_,_,h4,h5,rfl⟩
 ·exact tU _
 ·have hn:=(hT.2.1.1.2.1 _ _ h4.1).2.1;rcases h5 with ⟨_,e⟩|⟨_,⟨_,e⟩|⟨_,⟨_,e⟩|⟨_,c1,e1,hA,⟨h1,e⟩|⟨rfl,⟨_,e⟩|⟨_,_,rfl⟩⟩⟩⟩⟩
  ·exact absurd e aj
  ·exact absurd e aj
  ·exact absurd e aj
  ·exact absurd e.symm h1
  ·exact absurd e aj
  rcases hA with ⟨hR,_⟩|⟨_,_,_,_,_,_,hne⟩
  ·obtain⟨q1,_,_,q4,_⟩:=cn.right hT hn _ c1 hR;have hs:=q1.sm;refine je.marks (c:=plC c1 (pl Pd.n c.ps t) x n.n) (Sm.fit ⟨hs.n,hs.ns,hs.k,hs.v,hs.vs,hs.x,?_,fun j y hy=>?_⟩)
   ·show (c1.ps.set _ _).length<=_;rw[Hv];exact hs.p
   ·have hy':(c1.ps.set (pl Pd.n c.ps t) (onP x n.n))[j]?=some y:=hy;have h3:c1.ps[pl Pd.n c.ps t]?=some x:=by rw[q4];exact h3
    rw[dD (Fk.1 h3).1] at hy';split at hy'
    ·obtain rfl:=Fo hy';exact hs.ps _ x h3
    ·exact hs.ps j y hy'
  ·exact absurd rfl hne

def SlF (L:Nat):Fact:=fun v _=> ∃a p,v=.slice a L p
theorem SlF.mono (L:Nat):Fact.bD (SlF L):=fun _ _ _ h _=>h
theorem Ej (d:Ad) (c:Cl) (p:Pd) (n:Nd) (pa:Option Addr) (pl pc:Nat) (na:Option Addr) (nl nc:Nat) (w:World) (hr:aJ w d c.raw) (hv:c.vs.length<=8):
  Calls Tryz.prog 263 #[.agg #[],.agg #[.slice d.a1 d.l1 d.c1,.slice d.a2 d.l2 d.c2,.slice d.a3 d.l3 d.c3,.slice d.a4 d.l4 d.c4,.slice d.a5 d.l5 d.c5,.int .i64 c.now,.string p.n,.int .i64 p.c,.string p.z,.slice pa pl pc,.string p.d,.int .i64 p.p,.string n.n,.string n.z,.int .i64 n.c,.int .i64 n.s,.int .i64 n.u,.bool n.d,.slice na nl nc]] w (aq (n.s<((dK c n.n c.vs).length:Int)) w):=by
 have HR:=aa hr;have h8:=hv;clear hr hv;go_enter Tryz.func263,Tryz.ntmps263;go_wp2_with fail;have GT:Hid (((w.alloc (.cells #[] 152)).alloc (.cells (trv d c p n pa pl pc na nl nc) 66)).heap[w.heap.size+1]?=some (.cells (trv d c p n pa pl pc na nl nc) 66 (0,0))):=bE _ _ _;have HV:Hid (Below w.heap.size w ((w.alloc (.cells #[] 152)).alloc (.cells (trv d c p n pa pl pc na nl nc) 66))):=aF _ _ _;rename_i K0 hK0;refine aU ar rfl rfl ar ?_;refine' au.an _ rfl ?_ ?_;rotate_left 1
 ·exact lX
 refine' au.an _ rfl ?_ ?_;rotate_left 1
 ·refine Obl.plain rfl ?_;intro ac wg K hsz hW hf hK;clear hsz;have e5:=hf 5 aj;simp[ai,Fp] at e5;clear hf;have t0:=ck0 ((hW.block _ (ae GT.out)).trans GT.out);have t1:=ck1 ((hW.block _ (ae GT.out)).trans GT.out);have t2:=ck2 ((hW.block _ (ae GT.out)).trans GT.out);have t3:=ck3 ((hW.block _ (ae GT.out)).trans GT.out);have t4:=ck4 ((hW.block _ (ae GT.out)).trans GT.out);have t5:=ck5 ((hW.block _ (ae GT.out)).trans GT.out);exact aT
 refine' au.an _ rfl ?_ ?_;rotate_left 1
 ·exact lX
 refine' au.an _ rfl ?_ ?_;rotate_left 1
 ·exact dY
 refine' au.an _ rfl ?_ ?_;rotate_left 1
 ·refine Obl.plain rfl ?_;intro ac wg K hsz hW hf hK;clear hsz;have e8:=hf 8 aj;simp[ai,Fp] at e8;clear hf;have t12:=Ep ((hW.block _ (ae GT.out)).trans GT.out);exact aT
 refine au.step (SlF (dK c n.n c.vs).length) rfl (SlF.mono _) ?_ ?_
 ·refine Obl.plain rfl ?_;intro ac wg K hsz hW hf hK;clear hsz;have e6:=hf 6 aj;simp[ai,Fp] at e6;have e9:=hf 9 aj;simp[ai,Fp] at e9;clear hf;go_simp;refine (zA d c n.n wg (HR.below (HV.trans (hW.mono HV.size))) h8).mono ?_;rintro e w1 ⟨a,l,p,rfl,ho,hb⟩;exact hK _ _ hb ⟨a,p,by rw[ho.row.1]⟩
 refine' au.an _ rfl ?_ ?_;rotate_left 1
 ·refine Obl.plain rfl ?_;intro ac wg K hsz hW hf hK;clear hsz;have e10:=hf 10 aj;simp[ai,Fp] at e10;obtain⟨a,p,e10⟩:=e10;clear hf;exact aT
 refine' au.an _ rfl ?_ ?_;rotate_left 1
 ·exact lX
 refine' au.an _ rfl ?_ ?_;rotate_left 1
 ·refine Obl.plain rfl ?_;intro ac wg K hsz hW hf hK;clear hsz;have e12:=hf 12 aj;simp[ai,Fp] at e12;clear hf;exact aT
 refine' au.an _ rfl ?_ ?_;rotate_left 1
 ·refine Obl.plain rfl ?_;intro ac wg K hsz hW hf hK;clear hsz;have e13:=hf 13 aj;simp[ai,Fp] at e13;clear hf;have t15:=E4 ((hW.block _ (ae GT.out)).trans GT.out);exact aT
 refine' au.an _ rfl ?_ ?_;rotate_left 1
 ·refine Obl.plain rfl ?_;intro ac wg K hsz hW hf hK;clear hsz;have e11:=hf 11 aj;simp[ai,Fp] at e11;have e14:=hf 14 aj;simp[ai,Fp] at e14;clear hf;exact aT
 refine au.done ?_;intro q wz hW hf;simp only[FJ] at hf;obtain⟨h15,h14,h13,h12,h11,⟨a,p9,h10⟩,h9,h8x,h7,h6,h5,-⟩:=hf;intro K hK;rw[if_pos bJ];simp only[aE,Ge,GL,Fy,FF,FM,h15,h14,h13,h12,h11,h10,h9,h8x,h7,h6,h5];simp only[G1];go_simp;refine hK _ _ ?_;refine hK0 _ _ ?_;clear hK hK0 K K0;have HZ:=upB HV hW;go_wp2;go_ret;exact⟨_,rfl,by simp,HZ.out⟩

end Rc
end Go.Proofs.YtpejepeekdjfoaaGreatDoor

namespace Go.Proofs.YtpejepeekdjfoaaGreatDoor
open Go.RowKit
namespace Gs

def jd (SR:World->World->Prop) (φ:Fact):Prop:=φ.bD/\∀v w w',φ v w->SR w w'->φ v w'
theorem oP (SR:World->World->Prop) (c:Value):jd SR (fun v _=>v=c):=⟨Fact.cv c,fun _ _ _ h _=>h⟩
def lG (SR:World->World->Prop) (t4:Tmp) (Ψ:Fact) (P:Program) (ops:Array Oper) (Q:Exit->Act->World->Prop) (W:World) (a0:Act) (known:List (Tmp×Fact)) (o:Oper):Prop:=
 ∀(a:Act) (w:World) (K:Act->World->Prop),a.tmps.size=a0.tmps.size->Below W.heap.size W w->(∀t∈o.looksAt ops,ai a0 known a w t)->
  (∀v w',SR w w'->Ψ (a.tmps.getD t4 undef) w'->K (a.put o.dst v) w')->if GS o (yielded ops a.tmps)=true then o.wp P a w K Q else K (a.put o.dst undef) w
theorem lG.plain {SR:World->World->Prop} {t4:Tmp} {Ψ:Fact} {P:Program} {ops:Array Oper} {Q:Exit->Act->World->Prop} {W:World} {a0:Act} {known:List (Tmp×Fact)} {o:Oper} (hg:o.guard=none)
  (h:∀(a:Act) (w:World) (K:Act->World->Prop),a.tmps.size=a0.tmps.size->Below W.heap.size W w->(∀t∈eM o,ai a0 known a w t)->(∀v w',SR w w'->Ψ (a.tmps.getD t4 undef) w'->K (a.put o.dst v) w')->o.wp P a w K Q):lG SR t4 Ψ P ops Q W a0 known o:=by
 exact yz
def Fin (t4:Tmp) (Ψ:Fact) (P:Program) (ops:Array Oper) (Q:Exit->Act->World->Prop) (W:World) (a0:Act) (back:Option Oper) (known:List (Tmp×Fact)):Prop:=
 ∀(x:Tmp->Value) (w:World),Below W.heap.size W w->(∀p∈known,p.2 (x p.1) w)->Ψ ((aE a0 known x).tmps.getD t4 undef) w->eC P ops Q back (aE a0 known x) w
def au (SR:World->World->Prop) (t4:Tmp) (Ψ:Fact) (P:Program) (ops:Array Oper) (Q:Exit->Act->World->Prop) (W:World) (a0:Act) (back:Option Oper):List Oper->List (Tmp×Fact)->Prop
 | [],known=>Fin t4 Ψ P ops Q W a0 back known
 | o ::rest,known=> ∃φ:Fact,jd SR φ/\(¬o.dst=none->Obl P ops Q W a0 known o φ)/\(o.dst=none->lG SR t4 Ψ P ops Q W a0 known o)/\au SR t4 Ψ P ops Q W a0 back rest (kn o.dst φ known)
section
variable {SR:World->World->Prop} {t4:Tmp} {Ψ:Fact} {P:Program} {ops:Array Oper} {Q:Exit->Act->World->Prop} {W:World} {a0:Act} {back:Option Oper}
theorem au.step {o:Oper} {rest:List Oper} {known:List (Tmp×Fact)} {t:Tmp} (φ:Fact) (hd:o.dst=some t) (hφ:jd SR φ) (ho:Obl P ops Q W a0 known o φ)
  (h:au SR t4 Ψ P ops Q W a0 back rest ((t,φ) ::known)):au SR t4 Ψ P ops Q W a0 back (o ::rest) known:=⟨φ,hφ,fun _=>ho,fun e=>(by rw[hd] at e;cases e),(by rw[hd];exact h)⟩
theorem au.an {o:Oper} {rest:List Oper} {known:List (Tmp×Fact)} {t:Tmp} (c:Value) (hd:o.dst=some t) (ho:Obl P ops Q W a0 known o (fun v _=>v=c))
  (h:au SR t4 Ψ P ops Q W a0 back rest ((t,fun v _=>v=c) ::known)):au SR t4 Ψ P ops Q W a0 back (o ::rest) known:=au.step _ hd (oP SR c) ho h
theorem au.store {o:Oper} {rest:List Oper} {known:List (Tmp×Fact)} (hd:o.dst=none) (ho:lG SR t4 Ψ P ops Q W a0 known o)
  (h:au SR t4 Ψ P ops Q W a0 back rest known):au SR t4 Ψ P ops Q W a0 back (o ::rest) known:=⟨fun v _=>v=undef,oP SR undef,fun e=>absurd hd e,fun _=>ho,(by rw[hd];exact h)⟩
theorem au.done {known:List (Tmp×Fact)} (h:Fin t4 Ψ P ops Q W a0 back known):au SR t4 Ψ P ops Q W a0 back [] known:=h
def growB (t4:Tmp) (n:Nat) (front:List Oper) (back:Option Oper):Bool:=
 let ops:=(front++back.toList).toArray
 decide ((front.filterMap (·.dst)).Nodup) && front.all (fun o=>match o.dst with|some t=>decide (t<n)|none=>decide (t4∈eM o)) &&
 (Gq front.length).all (fun j=>match front[j]? with
  | some o=>(o.looksAt ops).all (fun t=>(Gq front.length).all fun i=>match front[i]? with
    | some p=>p.dst !=some t || (decide (i<j) && o.after.any fun e=>e.on==i && FY .any e)
    | none=>true)
  | none=>true) &&
 (Gq ops.size).all (fun j=>match ops[j]? with|some o=>o.after.all (fun e=> !FY .any e || decide (e.on<j))|none=>true) &&
 (match back with|some o=>(Gq front.length).all (fun i=>o.after.any fun e=>e.on==i && FY .any e)|none=>true) && front.any (fun o=>o.dst.isNone)
theorem cm {n:Nat} {front:List Oper} {back:Option Oper} (h:growB t4 n front back=true):
  (front.filterMap (·.dst)).Nodup/\(∀o∈front,∀t,o.dst=some t->t<n)/\(∀o∈front,o.dst=none->t4∈eM o)/\
  (∀(j:Nat) (o:Oper),front[j]?=some o->∀t∈o.looksAt (front++back.toList).toArray,∀(i:Nat) (p:Oper),front[i]?=some p->p.dst=some t->i<j/\∃e∈o.after,e.on=i/\FY .any e=true)/\
  (∀(j:Nat) o,(front++back.toList).toArray[j]?=some o->∀e∈o.after,FY .any e=true->e.on<j)/\
  (∀o,back=some o->∀i,i<front.length->∃e∈o.after,e.on=i/\FY .any e=true)/\∃(i:Nat) (o:Oper),front[i]?=some o/\o.dst=none:=by
 unfold growB at h;simp only[Gj,decide_eq_true_eq] at h;obtain⟨⟨⟨⟨⟨h1,h2⟩,h3⟩,h4⟩,h5⟩,h6⟩:=h;refine⟨h1,?_,?_,?_,?_,?_,?_⟩
 ·intro o ho t ht;exact lZ
 ·intro o ho ht;exact lZ
 ·exact xx
 ·intro j o ho e he hbe;have hj:j<(front++back.toList).toArray.size:=(FE.1 ho).1;exact CF
 ·exact wY
 ·obtain⟨o,ho,hx⟩:=List.any_eq_true.1 h6;obtain⟨i,hi⟩:=FU ho;exact⟨i,o,hi,by simpa using hx⟩

theorem au.spec:∀(l:List Oper) (known:List (Tmp×Fact)),au SR t4 Ψ P ops Q W a0 back l known->∃φs:List Fact,φs.length=l.length/\
  (∀(i:Nat) (o:Oper) (φ:Fact),l[i]?=some o->φs[i]?=some φ->jd SR φ/\(¬o.dst=none->Obl P ops Q W a0 (knAll known (l.take i) (φs.take i)) o φ)/\(o.dst=none->lG SR t4 Ψ P ops Q W a0 (knAll known (l.take i) (φs.take i)) o))/\Fin t4 Ψ P ops Q W a0 back (knAll known l φs)
 | [],known,h=>⟨[],rfl,fun i o φ h=>by simp at h,by rw[bW];exact h⟩
 | o ::l,known,h=>by
  obtain⟨φ,hφ,ho,ho2,hr⟩:=h;obtain⟨φs,hl,hs,hf⟩:=au.spec l _ hr;refine⟨φ ::φs,by simp[hl],?_,hf⟩;intro i o' φ' h1 h2;cases i with
  | zero=>
   simp only[F7,Gw] at h1 h2;subst h1;subst h2;exact⟨hφ,ho,ho2⟩
  | succ i=>
   simp only[List.getElem?_cons_succ] at h1 h2
   simpa[knAll] using hs i o' φ' h1 h2

theorem d_ {listed:Array Bool} (hs:listed.size=ops.size) (hlt:∀(j:Nat) o,ops[j]?=some o->∀e∈o.after,FY .any e=true->e.on<j) (hr:F9 .any ops listed=[]):∀i,i<ops.size->listed.getD i false=true:=by
 intro i;induction i using Nat.strongRecOn with
 | _ i ih=>
  intro hi
  cases hb:listed.getD i false with
  | true=>rfl
  | false=>
   have ho:ops[i]?=some ops[i]:=Array.getElem?_eq_getElem hi;have hm:i∈F9 .any ops listed:=mem_ready.2 ⟨by rw[<-bK af];exact hb,_,ho,fun e he hbe=>ih e.on (hlt i _ ho e he hbe) (Nat.lt_trans (hlt i _ ho e he hbe) hi)⟩;rw[hr] at hm
   cases hm

structure At (t4:Tmp) (Ψ:Fact) (front:List Oper) (φs:List Fact) (W:World) (a0:Act) (listed:Array Bool) (a:Act) (w:World):Prop where
 old:Go.Proofs.YtpejepeekdjfoaaGreatDoor.At front φs W a0 listed a w
 sto:∀(i:Nat) (o:Oper),front[i]?=some o->o.dst=none->listed.getD i false=true->Ψ (a.tmps.getD t4 undef) w/\∀(i':Nat) (p:Oper),front[i']?=some p->p.dst=some t4->listed.getD i' false=true

theorem mY {listed:Array Bool} {i j:Nat} (h:listed.getD i false=true):(listed.setIfInBounds j true).getD i false=true:=by
 by_cases e:j=i
 ·subst e;simp only[Fu,FI];split
  ·split
   ·rfl
   ·simp[Fu] at h;next hx=>
     have:listed[j]?=none:=Array.getElem?_eq_none_iff.2 af;rw[this] at h
     cases h
  ·contradiction
 ·simpa[Fu,FI,e] using h
theorem kP {listed:Array Bool} {i j:Nat} (e:¬j=i) (h:(listed.setIfInBounds j true).getD i false=true):listed.getD i false=true:=by
 simpa[Fu,FI,e] using h

theorem At.step {front:List Oper} {φs:List Fact} {listed:Array Bool} {a:Act} {w w':World} {j:Nat} {o:Oper} {φ:Fact} {v:Value} (hΨ:Ψ.bD) (h:At t4 Ψ front φs W a0 listed a w)
  (hn:(front.filterMap (·.dst)).Nodup) (hin:∀o∈front,∀t,o.dst=some t->t<a0.tmps.size) (hmono:∀(i:Nat) (o:Oper) (φ:Fact),front[i]?=some o->φs[i]?=some φ->jd SR φ)
  (ho:front[j]?=some o) (hφ:φs[j]?=some φ) (hj:j<listed.size) (hun:listed.getD j false=false) (hd:¬o.dst=none) (hb:Below w.heap.size w w') (hv:φ v w'):At t4 Ψ front φs W a0 (listed.setIfInBounds j true) (a.put o.dst v) w':=by
 refine⟨h.old.step hn hin (fun i o φ h1 h2=>(hmono i o φ h1 h2).1) ho hφ hj hb hv,fun i p hp hpd hl=>?_⟩;have hij:¬j=i:=fun e=>by subst e;obtain rfl:=Fo (ho.symm.trans hp);exact hd hpd
 obtain⟨h1,h2⟩:=h.sto i p hp hpd (kP hij hl);refine⟨?_,fun i' p' hp' hd'=>mY (h2 i' p' hp' hd')⟩;cases ht:o.dst with
 | none=>exact absurd ht hd
 | some d=>
  rw[fh,if_neg (fun hx=>?_)]
  ·exact hΨ _ _ _ h1 hb
  ·have h3:=h2 j o ho (ht.trans (by rw[hx.1]));rw[hun] at h3
   cases h3
theorem At.store {front:List Oper} {φs:List Fact} {listed:Array Bool} {a:Act} {w w':World} {j:Nat} {o:Oper} {v:Value} (hSR:∀{a b},SR a b->Below W.heap.size a b) (h:At t4 Ψ front φs W a0 listed a w)
  (hmono:∀(i:Nat) (o:Oper) (φ:Fact),front[i]?=some o->φs[i]?=some φ->jd SR φ) (hone:∀(i:Nat) (p:Oper),front[i]?=some p->p.dst=some t4->listed.getD i false=true)
  (ho:front[j]?=some o) (hd:o.dst=none) (hb:SR w w') (hv:Ψ (a.tmps.getD t4 undef) w'):At t4 Ψ front φs W a0 (listed.setIfInBounds j true) (a.put o.dst v) w':=by
 have e:a.put o.dst v=a:=by rw[hd];rfl
 rw[e];have hne:∀(i:Nat) (p:Oper) t,front[i]?=some p->p.dst=some t->¬j=i:=fun i p t hp ht e=>by
  subst e;obtain rfl:=Fo (ho.symm.trans hp);rw[hd] at ht;cases ht
 refine⟨⟨h.old.size,h.old.defers,h.old.below.trans (hSR hb),fun i p ψ hp hψ t ht hl=>?_,fun t ht=>?_⟩,fun i p hp hpd hl=>⟨hv,fun i' p' hp' hd'=>mY (hone i' p' hp' hd')⟩⟩
 ·exact (hmono i p ψ hp hψ).2 _ _ _ (h.old.known i p ψ hp hψ t ht (kP (hne i p t hp ht) hl)) hb
 ·refine h.old.other t (fun i p hp hpd=>?_);have h1:=ht i p hp hpd;have e9:=hne i p t hp hpd;simpa[Fu,FI,e9] using h1

theorem Fin.last {front:List Oper} {φs:List Fact} {listed:Array Bool} {a:Act} {w:World} (hf:Fin t4 Ψ P ops Q W a0 back (knAll [] front φs)) (hlen:φs.length=front.length) (hin:∀o∈front,∀t,o.dst=some t->t<a0.tmps.size) (hst:∃(i:Nat) (o:Oper),front[i]?=some o/\o.dst=none)
  (h:At t4 Ψ front φs W a0 listed a w) (hall:∀i,i<front.length->listed.getD i false=true):eC P ops Q back a w:=by
 obtain⟨i,o,hi,hd⟩:=hst;have hΨ:=(h.sto i o hi hd (hall i (Fk.1 hi).1)).1;have h9:∃x,a=aE a0 (knAll [] front φs) x/\∀p∈knAll [] front φs,p.2 (x p.1) w:=Go.Proofs.YtpejepeekdjfoaaGreatDoor.Fin.last (P:=P) (ops:=ops) (Q:=fun _ a' w'=> ∃x,a'=aE a0 (knAll [] front φs) x/\∀p∈knAll [] front φs,p.2 (x p.1) w') (back:=none) (fun x _ _ h2=>⟨x,rfl,h2⟩) hlen hin h.old hall;obtain⟨x,e,h2⟩:=h9;have h3:=hf x w h.old.below h2 (by rw[<-e];exact hΨ);rw[<-e] at h3;exact h3
theorem bQ {front:List Oper} {φs:List Fact} (hΨ:Ψ.bD) (hSR:∀{a b},SR a b->Below W.heap.size a b) (hops:ops=(front++back.toList).toArray) (hB:growB t4 a0.tmps.size front back=true) (hlen:φs.length=front.length)
  (hs:∀(i:Nat) (o:Oper) (φ:Fact),front[i]?=some o->φs[i]?=some φ->jd SR φ/\(¬o.dst=none->Obl P ops Q W a0 (knAll [] (front.take i) (φs.take i)) o φ)/\(o.dst=none->lG SR t4 Ψ P ops Q W a0 (knAll [] (front.take i) (φs.take i)) o)) (hf:Fin t4 Ψ P ops Q W a0 back (knAll [] front φs)):
  ∀(fuel:Nat) (listed:Array Bool) (a:Act) (w:World),listed.size=ops.size->listed.toList.count false<=fuel->(∀o,back=some o->listed.getD front.length false=false)->At t4 Ψ front φs W a0 listed a w->wpAny P .any ops Q fuel listed a w:=by
 obtain⟨hn,hin,hlk,hdep,hlt,hback,hst⟩:=cm hB;rw[<-hops] at hdep hlt;have hsz:ops.size=front.length+back.toList.length:=by rw[hops];simp
 have hend:∀(listed:Array Bool) (a:Act) (w:World),listed.size=ops.size->(∀i,i<ops.size->listed.getD i false=true)->(∀o,back=some o->listed.getD front.length false=false)->At t4 Ψ front φs W a0 listed a w->Q .normal a w:=by
  intro listed a w hz hall hb h;have h1:=hf.last hlen hin hst h (fun i hi=>hall i af);exact sx
 intro fuel;induction fuel with
 | zero=>
  intro listed a w hz hc hb h;have hall:∀i,i<ops.size->listed.getD i false=true:=fun i hi=>dn af i af;refine⟨?_,hend listed a w hz hall hb h⟩
  cases hr:F9 .any ops listed with
  | nil=>rfl
  | cons j js=>
   have hm:j∈F9 .any ops listed:=by rw[hr];simp
   obtain⟨h1,o,ho,-⟩:=mem_ready.1 hm;have hj:=(FE.1 ho).1;rw[<-bK af,hall j hj] at h1
   cases h1
 | succ fuel ih=>
  intro listed a w hz hc hb h;refine⟨fun hr=>hend listed a w hz (d_ hz hlt hr) hb h,fun j hj=>?_⟩;obtain⟨hun,o,ho,hall⟩:=mem_ready.1 hj;have hjs:j<ops.size:=(FE.1 ho).1;have hcs:=count_set (listed:=listed) (i:=j) af hun
  by_cases hjf:j<front.length
  ·have hof:front[j]?=some o:=by rw[hops] at ho;simpa[FK hjf] using ho
   have hφ:φs[j]?=some (φs[j]'(by omega)):=Fs _;obtain⟨hm,hob,hob2⟩:=hs j o _ hof hφ
   have hfacts:∀t∈o.looksAt ops,ai a0 (knAll [] (front.take j) (φs.take j)) a w t:=by
    intro t ht;unfold ai
    cases hk:(knAll [] (front.take j) (φs.take j)).lookup t with
    | some φ=>
     rcases b8 _ _ _ hk with ⟨i,p,h1,h2,h3⟩|h1
     ·have hij:i<j:=by have:=(Fk.1 h1).1;simp at this;omega
      rw[FP,if_pos hij] at h1 h3;obtain⟨-,e,he,hon,hbi⟩:=hdep j o hof t ht i p h1 h2;have hl:=hall e he hbi;rw[hon] at hl;exact h.old.known i p φ h1 h3 t h2 hl
     ·simp at h1
    | none=>
     refine h.old.other t (fun i p hp hd=>?_)
     exfalso
     obtain⟨hij,-⟩:=hdep j o hof t ht i p hp hd;have hi:=(Fk.1 hp).1;exact (b_ _ _ _ hk).2 i p (φs[i]'(by omega)) kU kZ hd
   have hnext:∀o',back=some o'->(listed.setIfInBounds j true).getD front.length false=false:=fun o' ho'=>by
    have h2:=hb o' ho'
    have e:¬j=front.length:=af
    simpa[Fu,FI,e] using h2
   have h1:if GS o (yielded ops a.tmps)=true then o.wp P a w (wpAny P .any ops Q fuel (listed.setIfInBounds j true)) Q else wpAny P .any ops Q fuel (listed.setIfInBounds j true) (a.put o.dst undef) w:=by
    by_cases hd:o.dst=none
    ·refine hob2 hd a w _ h.old.size h.old.below hfacts (fun v w' hsr hv=>?_);refine ih _ _ _ fN af hnext (h.store hSR (fun i o φ h1 h2=>(hs i o φ h1 h2).1) (fun i p hp hpd=>?_) hof hd hsr hv)
     have hlook:t4∈o.looksAt ops:=by unfold Oper.looksAt;exact List.mem_append_left _ (hlk o (FX hof) hd)
     obtain⟨-,e,he,hon,hbi⟩:=hdep j o hof t4 hlook i p hp hpd;have hl:=hall e he hbi;rw[hon] at hl;exact hl
    ·exact hob hd a w _ h.old.size h.old.below hfacts (fun v w' hbw hv=>ih _ _ _ fN af hnext (h.step hΨ hn hin (fun i o φ h1 h2=>(hs i o φ h1 h2).1) hof hφ af (by rw[bK af];exact hun) hd hbw hv))
   unfold wpOp;rw[ho]
   simp only
   split
   ·rename_i hw;rw[if_pos hw] at h1;exact .inl h1
   ·rename_i hw;rw[if_neg hw] at h1;exact h1
  ·cases hk:back with
   | none=>rw[hk] at hsz;simp at hsz;omega
   | some b=>
    have hjn:j=front.length:=by rw[hk] at hsz;simp at hsz;omega
    subst hjn
    have hob:o=b:=by
     rw[hops,hk] at ho
     simp at ho
     exact ho.symm
    subst hob
    have hfl:∀i,i<front.length->listed.getD i false=true:=fun i hi=>by
     obtain⟨e,he,hon,hbi⟩:=hback o hk i hi;have:=hall e he hbi
     rwa [hon] at this
    have h1:=hf.last hlen hin hst h hfl;rw[hk] at h1
    have h2:=h1 (wpAny P .any ops Q fuel (listed.setIfInBounds front.length true)) (fun a' w' hq=>by
     have hr:F9 .any ops (listed.setIfInBounds front.length true)=[]:=by
      cases hr:F9 .any ops (listed.setIfInBounds front.length true) with
      | nil=>rfl
      | cons i is=>
       have hm:i∈F9 .any ops (listed.setIfInBounds front.length true):=by rw[hr];simp
       obtain⟨h3,o',ho',-⟩:=mem_ready.1 hm;have hi:=(FE.1 ho').1
       exfalso
       by_cases e:front.length=i
       ·subst e
        simp[Fu,show front.length<listed.size from by omega] at h3
       ·have h4:=hfl i sb;rw[bK af] at h4
        simp[Fu,e] at h3 h4
        rw[h3] at h4
        cases h4
     cases fuel with
     | zero=>exact⟨hr,hq⟩
     | succ fuel=>exact⟨fun _=>hq,fun i hi=>by rw[hr] at hi;cases hi⟩)
    unfold wpOp;rw[ho]
    simp only
    split
    ·rename_i hw;rw[if_pos hw] at h2;exact .inl h2
    ·rename_i hw;rw[if_neg hw] at h2;exact h2
end
theorem aU {SR:World->World->Prop} (t4:Tmp) (Ψ:Fact) {P:Program} {id:Nat} {Q:Exit->Act->World->Prop} {a0:Act} {W:World} {l:List Oper} {front:List Oper} {last:Oper} (hΨ:Ψ.bD) (hSR:∀{a b},SR a b->Below W.heap.size a b) (hm:P.follows .mixedOrders=true) (hf:l.dropLast=front) (hb:l.getLast?=some last) (hB:growB t4 a0.tmps.size front (some last)=true)
  (h:au SR t4 Ψ P l.toArray Q W a0 (some last) front []):(Ix id l.toArray true).wp P Q a0 W:=by
 obtain⟨φs,hlen,hs,hfi⟩:=au.spec _ _ h;have hl:l=front++(some last).toList:=by
  exact mb
 refine wp_region_any hm (bQ hΨ hSR (by rw[hl]) hB hlen hs hfi _ _ _ _ aR ?_ (fun o ho=>?_) ⟨⟨rfl,rfl,(Ft _ _).drew,fun i o φ h1 h2 t ht hx=>?_,fun t _=>rfl⟩,fun i o h1 h2 hx=>?_⟩)
 ·exact ld
 ·exact a8 _ _
 ·rw[a8] at hx;cases hx
 ·rw[a8] at hx;cases hx
structure Form (W w w':World):Prop where
 low:Below W.heap.size w w'
 form:∀(k:Nat) (cs:Array Value) (T:TypeId),w.heap[k]?=some (.cells cs T (0,0))->∃cs',cs'.size=cs.size/\w'.heap[k]?=some (.cells cs' T (0,0))
def ED (W:World) (m:Nat) (T:TypeId):Fact:=fun v w=> ∃g cs,v=.pointer (some ⟨g,0,none⟩)/\W.heap.size<=g/\cs.size=m/\w.heap[g]?=some (.cells cs T (0,0))
theorem ED.mono (W:World) (m:Nat) (T:TypeId):jd (Form W) (ED W m T):=by
 refine⟨?_,?_⟩
 ·rintro v w w' ⟨g,cs,h1,h2,h3,h4⟩ hb;exact⟨g,cs,h1,h2,h3,(hb.block g (FE.1 h4).1).trans h4⟩
 ·rintro v w w' ⟨g,cs,h1,h2,h3,h4⟩ hb;obtain⟨cs',h5,h6⟩:=hb.form g cs T h4;exact⟨g,cs',h1,h2,h5.trans h3,h6⟩
end Gs
namespace Gt

def growB (n:Nat) (front:List Oper) (back:Option Oper):Bool:=
 let ops:=(front++back.toList).toArray
 decide ((front.filterMap (·.dst)).Nodup) && front.all (fun o=>match o.dst with|some t=>decide (t<n)|none=>true) &&
 (Gq front.length).all (fun j=>match front[j]? with
  | some o=>(o.looksAt ops).all (fun t=>(Gq front.length).all fun i=>match front[i]? with
    | some p=>p.dst !=some t || (decide (i<j) && o.after.any fun e=>e.on==i && FY .any e)
    | none=>true)
  | none=>true) &&
 (Gq ops.size).all (fun j=>match ops[j]? with|some o=>o.after.all (fun e=>decide (e.on<j))|none=>true) &&
 (match back with|some o=>(Gq front.length).all (fun i=>o.after.any fun e=>FY .any e && (e.on==i || match front[e.on]? with|some p=>p.after.any (fun e'=>e'.on==i && FY .any e')|none=>false))|none=>true)

section
variable {P:Program} {ops:Array Oper} {Q:Exit->Act->World->Prop} {W:World} {a0:Act} {back:Option Oper}
theorem cm {n:Nat} {front:List Oper} {back:Option Oper} (h:growB n front back=true):
  (front.filterMap (·.dst)).Nodup/\(∀o∈front,∀t,o.dst=some t->t<n)/\
  (∀(j:Nat) (o:Oper),front[j]?=some o->∀t∈o.looksAt (front++back.toList).toArray,∀(i:Nat) (p:Oper),front[i]?=some p->p.dst=some t->i<j/\∃e∈o.after,e.on=i/\FY .any e=true)/\
  (∀(j:Nat) o,(front++back.toList).toArray[j]?=some o->∀e∈o.after,e.on<j)/\
  (∀o,back=some o->∀i,i<front.length->∃e∈o.after,FY .any e=true/\(e.on=i\/∃p,front[e.on]?=some p/\∃e'∈p.after,e'.on=i/\FY .any e'=true)):=by
 unfold growB at h;simp only[Gj,decide_eq_true_eq] at h;obtain⟨⟨⟨⟨h1,h2⟩,h3⟩,h4⟩,h5⟩:=h;refine⟨h1,?_,?_,?_,?_⟩
 ·intro o ho t ht;exact lZ
 ·exact xx
 ·exact yL
 ·intro o ho i hi;subst ho;have:=GA.1 h5 i (Hk.2 hi);obtain⟨k,hk,hx⟩:=Hb.1 this;simp only[Gj,Hf,beq_iff_eq] at hx;refine⟨_,Ih hk,hx.1,hx.2.imp id fun h9=>?_⟩;split at h9
  ·next p hp=>
   obtain⟨k',hk',hx'⟩:=Hb.1 h9;simp only[Gj,beq_iff_eq] at hx';exact⟨p,hp,_,Ih hk',hx'.1,hx'.2⟩
  ·cases h9

structure Ac (front:List Oper) (φs:List Fact) (W:World) (a0:Act) (listed:Array Bool) (a:Act) (w:World):Prop where
 old:At front φs W a0 listed a w
 cl:∀(j:Nat) (o:Oper),front[j]?=some o->listed.getD j false=true->∀e∈o.after,FY .any e=true->listed.getD e.on false=true
theorem bQ {front:List Oper} {φs:List Fact} (hops:ops=(front++back.toList).toArray) (hB:growB a0.tmps.size front back=true) (hlen:φs.length=front.length)
  (hs:∀(i:Nat) (o:Oper) (φ:Fact),front[i]?=some o->φs[i]?=some φ->φ.bD/\Obl P ops Q W a0 (knAll [] (front.take i) (φs.take i)) o φ) (hf:Fin P ops Q W a0 back (knAll [] front φs)):
  ∀(fuel:Nat) (listed:Array Bool) (a:Act) (w:World),listed.size=ops.size->listed.toList.count false<=fuel->(∀o,back=some o->listed.getD front.length false=false)->Ac front φs W a0 listed a w->wpAny P .any ops Q fuel listed a w:=by
 obtain⟨hn,hin,hdep,hlt,hback⟩:=cm hB;rw[<-hops] at hdep hlt;have hsz:ops.size=front.length+back.toList.length:=by rw[hops];simp
 have hend:∀(listed:Array Bool) (a:Act) (w:World),listed.size=ops.size->(∀i,i<ops.size->listed.getD i false=true)->(∀o,back=some o->listed.getD front.length false=false)->Ac front φs W a0 listed a w->Q .normal a w:=by
  intro listed a w hz hall hb h;have h1:=Fin.last hf hlen hin h.old (fun i hi=>hall i af);exact sx
 intro fuel;induction fuel with
 | zero=>
  intro listed a w hz hc hb h;have hall:∀i,i<ops.size->listed.getD i false=true:=fun i hi=>dn af i af;refine⟨?_,hend listed a w hz hall hb h⟩
  cases hr:F9 .any ops listed with
  | nil=>rfl
  | cons j js=>
   have hm:j∈F9 .any ops listed:=by rw[hr];simp
   obtain⟨h1,o,ho,-⟩:=mem_ready.1 hm;have hj:=(FE.1 ho).1;rw[<-bK af,hall j hj] at h1
   cases h1
 | succ fuel ih=>
  intro listed a w hz hc hb h;refine⟨fun hr=>hend listed a w hz (d_ hz hlt hr) hb h,fun j hj=>?_⟩;obtain⟨hun,o,ho,hall⟩:=mem_ready.1 hj;have hjs:j<ops.size:=(FE.1 ho).1;have hcs:=count_set (listed:=listed) (i:=j) af hun
  by_cases hjf:j<front.length
  ·have hof:front[j]?=some o:=by rw[hops] at ho;simpa[FK hjf] using ho
   have hφ:φs[j]?=some (φs[j]'(by omega)):=Fs _;obtain⟨hm,hob⟩:=hs j o _ hof hφ
   have hfacts:∀t∈o.looksAt ops,ai a0 (knAll [] (front.take j) (φs.take j)) a w t:=by
    intro t ht;unfold ai
    cases hk:(knAll [] (front.take j) (φs.take j)).lookup t with
    | some φ=>
     rcases b8 _ _ _ hk with ⟨i,p,h1,h2,h3⟩|h1
     ·have hij:i<j:=by have:=(Fk.1 h1).1;simp at this;omega
      rw[FP,if_pos hij] at h1 h3;obtain⟨-,e,he,hon,hbi⟩:=hdep j o hof t ht i p h1 h2;have hl:=hall e he hbi;rw[hon] at hl;exact h.old.known i p φ h1 h3 t h2 hl
     ·simp at h1
    | none=>
     refine h.old.other t (fun i p hp hd=>?_)
     exfalso
     obtain⟨hij,-⟩:=hdep j o hof t ht i p hp hd;have hi:=(Fk.1 hp).1;exact (b_ _ _ _ hk).2 i p (φs[i]'(by omega)) kU kZ hd
   have h1:=hob a w (wpAny P .any ops Q fuel (listed.setIfInBounds j true)) h.old.size h.old.below hfacts (fun v w' hbw hv=>by
    refine ih _ _ _ fN af (fun o' ho'=>?_) ⟨h.old.step hn hin (fun i o φ h1 h2=>(hs i o φ h1 h2).1) hof hφ af hbw hv,fun j' o' ho' hl e he hbe=>(by
     by_cases ej:j=j'
     ·subst ej;obtain rfl:o=o':=Fo (hof.symm.trans ho');exact Gs.mY (hall e he hbe)
     ·exact Gs.mY (h.cl j' o' ho' (Gs.kP ej hl) e he hbe))⟩
    have h2:=hb o' ho'
    have e:¬j=front.length:=af
    simpa[Fu,FI,e] using h2)
   unfold wpOp;rw[ho]
   simp only
   split
   ·rename_i hw;rw[if_pos hw] at h1;exact .inl h1
   ·rename_i hw;rw[if_neg hw] at h1;exact h1
  ·cases hk:back with
   | none=>rw[hk] at hsz;simp at hsz;omega
   | some b=>
    have hjn:j=front.length:=by rw[hk] at hsz;simp at hsz;omega
    subst hjn
    have hob:o=b:=by
     rw[hops,hk] at ho
     simp at ho
     exact ho.symm
    subst hob
    have hfl:∀i,i<front.length->listed.getD i false=true:=fun i hi=>by
     obtain⟨e,he,hbi,hon⟩:=hback o hk i hi;have hl:=hall e he hbi
     rcases hon with hon|⟨p,hp,e',he',hon,hbi'⟩
     ·rwa [hon] at hl
     ·have:=h.cl e.on p hp hl e' he' hbi'
      rwa [hon] at this
    have h1:=Fin.last hf hlen hin h.old hfl;rw[hk] at h1
    have h2:=h1 (wpAny P .any ops Q fuel (listed.setIfInBounds front.length true)) (fun a' w' hq=>by
     have hr:F9 .any ops (listed.setIfInBounds front.length true)=[]:=by
      cases hr:F9 .any ops (listed.setIfInBounds front.length true) with
      | nil=>rfl
      | cons i is=>
       have hm:i∈F9 .any ops (listed.setIfInBounds front.length true):=by rw[hr];simp
       obtain⟨h3,o',ho',-⟩:=mem_ready.1 hm;have hi:=(FE.1 ho').1
       exfalso
       by_cases e:front.length=i
       ·subst e
        simp[Fu,show front.length<listed.size from by omega] at h3
       ·have h4:=hfl i sb;rw[bK af] at h4
        simp[Fu,e] at h3 h4
        rw[h3] at h4
        cases h4
     cases fuel with
     | zero=>exact⟨hr,hq⟩
     | succ fuel=>exact⟨fun _=>hq,fun i hi=>by rw[hr] at hi;cases hi⟩)
    unfold wpOp;rw[ho]
    simp only
    split
    ·rename_i hw;rw[if_pos hw] at h2;exact .inl h2
    ·rename_i hw;rw[if_neg hw] at h2;exact h2
end
theorem aU {P:Program} {id:Nat} {Q:Exit->Act->World->Prop} {a0:Act} {W:World} {l:List Oper} {front:List Oper} {last:Oper} (hm:P.follows .mixedOrders=true) (hf:l.dropLast=front) (hb:l.getLast?=some last) (hB:growB a0.tmps.size front (some last)=true)
  (h:au P l.toArray Q W a0 (some last) front []):(Ix id l.toArray true).wp P Q a0 W:=by
 obtain⟨φs,hlen,hs,hfi⟩:=au.spec _ _ h;have hl:l=front++(some last).toList:=by
  exact mb
 refine wp_region_any hm (bQ (by rw[hl]) hB hlen hs hfi _ _ _ _ aR ?_ (fun o ho=>?_) ⟨⟨rfl,rfl,(Ft _ _).drew,fun i o φ h1 h2 t ht hx=>?_,fun t _=>rfl⟩,fun j o h1 hx=>?_⟩)
 ·exact ld
 ·exact a8 _ _
 ·rw[a8] at hx;cases hx
 ·rw[a8] at hx;cases hx
end Gt
namespace Gu

def waits (front:List Oper) (i:Nat):Nat->Array Edge->Bool
 | 0,after=>after.any fun e=>FY .any e && e.on==i
 | f+1,after=>after.any fun e=>FY .any e && (e.on==i || match front[e.on]? with|some p=>waits front i f p.after|none=>false)
theorem jx {front:List Oper} {i:Nat} {listed:Array Bool} (hc:∀(j:Nat) (o:Oper),front[j]?=some o->listed.getD j false=true->∀e∈o.after,FY .any e=true->listed.getD e.on false=true):∀(f:Nat) (after:Array Edge),waits front i f after=true->(∀e∈after,FY .any e=true->listed.getD e.on false=true)->listed.getD i false=true
 | 0,after,h,ha=>by
  obtain⟨k,hk,hx⟩:=Hb.1 h;simp only[Gj,beq_iff_eq] at hx;have:=ha _ (Ih hk) hx.1
  rwa [hx.2] at this
 | f+1,after,h,ha=>by
  obtain⟨k,hk,hx⟩:=Hb.1 h;simp only[Gj,Hf,beq_iff_eq] at hx;have h1:=ha _ (Ih hk) hx.1
  rcases hx.2 with h2|h2
  ·rwa [h2] at h1
  ·split at h2
   ·next p hp=>exact jx hc f p.after h2 (fun e he hb=>hc _ p hp h1 e he hb)
   ·cases h2
def sE (P:Program) (ops:Array Oper) (Q:Exit->Act->World->Prop) (s t:Oper) (a:Act) (w:World):Prop:=
 ∀K:Act->World->Prop,(∀a' w',(∀K':Act->World->Prop,(∀a w,Q .normal a w->K' a w)->if GS t (yielded ops a'.tmps)=true then t.wp P a' w' K' Q else K' (a'.put t.dst undef) w')->K a' w')->if GS s (yielded ops a.tmps)=true then s.wp P a w K Q else K (a.put s.dst undef) w
def Fin (P:Program) (ops:Array Oper) (Q:Exit->Act->World->Prop) (W:World) (a0:Act) (s t:Oper) (known:List (Tmp×Fact)):Prop:=
 ∀(x:Tmp->Value) (w:World),Below W.heap.size W w->(∀p∈known,p.2 (x p.1) w)->sE P ops Q s t (aE a0 known x) w
def au (P:Program) (ops:Array Oper) (Q:Exit->Act->World->Prop) (W:World) (a0:Act) (s t:Oper):List Oper->List (Tmp×Fact)->Prop
 | [],known=>Fin P ops Q W a0 s t known
 | o ::rest,known=> ∃φ:Fact,φ.bD/\Obl P ops Q W a0 known o φ/\au P ops Q W a0 s t rest (kn o.dst φ known)
section
variable {P:Program} {ops:Array Oper} {Q:Exit->Act->World->Prop} {W:World} {a0:Act} {s t:Oper}
theorem au.step {o:Oper} {rest:List Oper} {known:List (Tmp×Fact)} {d:Tmp} (φ:Fact) (hd:o.dst=some d) (hφ:φ.bD) (ho:Obl P ops Q W a0 known o φ)
  (h:au P ops Q W a0 s t rest ((d,φ) ::known)):au P ops Q W a0 s t (o ::rest) known:=⟨φ,hφ,ho,(by rw[hd];exact h)⟩
theorem au.an {o:Oper} {rest:List Oper} {known:List (Tmp×Fact)} {d:Tmp} (c:Value) (hd:o.dst=some d) (ho:Obl P ops Q W a0 known o (fun v _=>v=c))
  (h:au P ops Q W a0 s t rest ((d,fun v _=>v=c) ::known)):au P ops Q W a0 s t (o ::rest) known:=au.step _ hd (Fact.cv c) ho h
theorem au.done {known:List (Tmp×Fact)} (h:Fin P ops Q W a0 s t known):au P ops Q W a0 s t [] known:=h
theorem au.spec:∀(l:List Oper) (known:List (Tmp×Fact)),au P ops Q W a0 s t l known->∃φs:List Fact,φs.length=l.length/\
  (∀(i:Nat) (o:Oper) (φ:Fact),l[i]?=some o->φs[i]?=some φ->φ.bD/\Obl P ops Q W a0 (knAll known (l.take i) (φs.take i)) o φ)/\Fin P ops Q W a0 s t (knAll known l φs)
 | [],known,h=>⟨[],rfl,fun i o φ h=>by simp at h,by rw[bW];exact h⟩
 | o ::l,known,h=>by
  exact vN
def growB (n:Nat) (front:List Oper) (s t:Oper):Bool:=
 let ops:=(front++[s,t]).toArray
 decide ((front.filterMap (·.dst)).Nodup) && front.all (fun o=>match o.dst with|some d=>decide (d<n)|none=>true) &&
 (Gq front.length).all (fun j=>match front[j]? with
  | some o=>(o.looksAt ops).all (fun d=>(Gq front.length).all fun i=>match front[i]? with
    | some p=>p.dst !=some d || (decide (i<j) && o.after.any fun e=>e.on==i && FY .any e)
    | none=>true)
  | none=>true) &&
 (Gq ops.size).all (fun j=>match ops[j]? with|some o=>o.after.all (fun e=> !FY .any e || decide (e.on<j))|none=>true) &&
 (Gq front.length).all (fun i=>waits front i 12 s.after) && t.after.any (fun e=>FY .any e && e.on==front.length)
theorem cm {n:Nat} {front:List Oper} (h:growB n front s t=true):
  (front.filterMap (·.dst)).Nodup/\(∀o∈front,∀d,o.dst=some d->d<n)/\
  (∀(j:Nat) (o:Oper),front[j]?=some o->∀d∈o.looksAt (front++[s,t]).toArray,∀(i:Nat) (p:Oper),front[i]?=some p->p.dst=some d->i<j/\∃e∈o.after,e.on=i/\FY .any e=true)/\
  (∀(j:Nat) o,(front++[s,t]).toArray[j]?=some o->∀e∈o.after,FY .any e=true->e.on<j)/\
  (∀i,i<front.length->waits front i 12 s.after=true)/\∃e∈t.after,FY .any e=true/\e.on=front.length:=by
 unfold growB at h;simp only[Gj,decide_eq_true_eq] at h;obtain⟨⟨⟨⟨⟨h1,h2⟩,h3⟩,h4⟩,h5⟩,h6⟩:=h;refine⟨h1,?_,?_,?_,?_,?_⟩
 ·intro o ho d hd;have:=GA.1 h2 o ho;rw[hd] at this;simpa using this
 ·exact xw
 ·exact wS
 ·intro i hi;exact GA.1 h5 i (Hk.2 hi)
 ·obtain⟨k,hk,hx⟩:=Hb.1 h6;exact sr
theorem Fin.last {front:List Oper} {φs:List Fact} {listed:Array Bool} {a:Act} {w:World} (hf:Fin P ops Q W a0 s t (knAll [] front φs)) (hlen:φs.length=front.length) (hin:∀o∈front,∀d,o.dst=some d->d<a0.tmps.size)
  (h:At front φs W a0 listed a w) (hall:∀i,i<front.length->listed.getD i false=true):sE P ops Q s t a w:=by
 exact CK
theorem pF {fuel:Nat} {listed:Array Bool} {a:Act} {w:World} {j:Nat} {o:Oper} (ho:ops[j]?=some o) (h1:if GS o (yielded ops a.tmps)=true then o.wp P a w (wpAny P .any ops Q fuel (listed.setIfInBounds j true)) Q else wpAny P .any ops Q fuel (listed.setIfInBounds j true) (a.put o.dst undef) w):wpOp P ops Q j (wpAny P .any ops Q fuel (listed.setIfInBounds j true)) a w:=by
 unfold wpOp;rw[ho];simp only;split
 ·rename_i hw;rw[if_pos hw] at h1;exact .inl h1
 ·rename_i hw;rw[if_neg hw] at h1;exact h1
theorem qQ {listed:Array Bool} (hz:listed.size=ops.size) (hall:∀i,i<ops.size->listed.getD i false=true):F9 .any ops listed=[]:=by
 cases hr:F9 .any ops listed with
 | nil=>rfl
 | cons j js=>
  have hm:j∈F9 .any ops listed:=by rw[hr];simp
  obtain⟨h1,o,ho,-⟩:=mem_ready.1 hm;have hj:=(FE.1 ho).1;rw[<-bK af,hall j hj] at h1
  cases h1
theorem A2 {fuel:Nat} {listed:Array Bool} {a:Act} {w:World} (hz:listed.size=ops.size) (hall:∀i,i<ops.size->listed.getD i false=true) (hq:Q .normal a w):wpAny P .any ops Q fuel listed a w:=by
 have hr:=qQ hz hall;cases fuel with
 | zero=>exact⟨hr,hq⟩
 | succ fuel=>exact⟨fun _=>hq,fun i hi=>by rw[hr] at hi;cases hi⟩
theorem bQ {front:List Oper} {φs:List Fact} (hops:ops=(front++[s,t]).toArray) (hB:growB a0.tmps.size front s t=true) (hlen:φs.length=front.length)
  (hs:∀(i:Nat) (o:Oper) (φ:Fact),front[i]?=some o->φs[i]?=some φ->φ.bD/\Obl P ops Q W a0 (knAll [] (front.take i) (φs.take i)) o φ) (hf:Fin P ops Q W a0 s t (knAll [] front φs)):
  ∀(fuel:Nat) (listed:Array Bool) (a:Act) (w:World),listed.size=ops.size->listed.toList.count false<=fuel->listed.getD front.length false=false->listed.getD (front.length+1) false=false->Gt.Ac front φs W a0 listed a w->wpAny P .any ops Q fuel listed a w:=by
 obtain⟨hn,hin,hdep,hlt,hwait,e2,he2,hb2,hon2⟩:=cm hB;rw[<-hops] at hdep hlt;have hsz:ops.size=front.length+2:=by rw[hops];simp
 have hos:ops[front.length]?=some s:=by rw[hops];simp
 have hot:ops[front.length+1]?=some t:=by rw[hops];simp
 intro fuel;induction fuel with
 | zero=>
  intro listed a w hz hc hb hb' h;have h9:=dn (by omega:listed.toList.count false=0) front.length af;rw[hb] at h9
  cases h9
 | succ fuel ih=>
  intro listed a w hz hc hb hb' h;refine⟨fun hr=>?_,fun j hj=>?_⟩
  ·have h9:=Gs.d_ hz hlt hr front.length af;rw[hb] at h9
   cases h9
  obtain⟨hun,o,ho,hall⟩:=mem_ready.1 hj;have hjs:j<ops.size:=(FE.1 ho).1;have hcs:=count_set (listed:=listed) (i:=j) af hun
  by_cases hjf:j<front.length
  ·have hof:front[j]?=some o:=by rw[hops] at ho;simpa[FK hjf] using ho
   have hφ:φs[j]?=some (φs[j]'(by omega)):=Fs _;obtain⟨hm,hob⟩:=hs j o _ hof hφ
   have hfacts:∀t∈o.looksAt ops,ai a0 (knAll [] (front.take j) (φs.take j)) a w t:=by
    intro t ht;unfold ai
    cases hk:(knAll [] (front.take j) (φs.take j)).lookup t with
    | some φ=>
     rcases b8 _ _ _ hk with ⟨i,p,h1,h2,h3⟩|h1
     ·have hij:i<j:=by have:=(Fk.1 h1).1;simp at this;omega
      rw[FP,if_pos hij] at h1 h3;obtain⟨-,e,he,hon,hbi⟩:=hdep j o hof t ht i p h1 h2;have hl:=hall e he hbi;rw[hon] at hl;exact h.old.known i p φ h1 h3 t h2 hl
     ·simp at h1
    | none=>
     refine h.old.other t (fun i p hp hd=>?_)
     exfalso
     obtain⟨hij,-⟩:=hdep j o hof t ht i p hp hd;have hi:=(Fk.1 hp).1;exact (b_ _ _ _ hk).2 i p (φs[i]'(by omega)) kU kZ hd
   have hkeep:∀i,¬j=i->listed.getD i false=false->(listed.setIfInBounds j true).getD i false=false:=fun i e h2=>by
    simpa[Fu,FI,e] using h2
   exact pF ho (hob a w _ h.old.size h.old.below hfacts (fun v w' hbw hv=>ih _ _ _ fN af (hkeep _ af hb) (hkeep _ af hb') ⟨h.old.step hn hin (fun i o φ h1 h2=>(hs i o φ h1 h2).1) hof hφ af hbw hv,fun j' o' ho' hl e he hbe=>(by
     by_cases ej:j=j'
     ·subst ej;obtain rfl:o=o':=Fo (hof.symm.trans ho');exact Gs.mY (hall e he hbe)
     ·exact Gs.mY (h.cl j' o' ho' (Gs.kP ej hl) e he hbe))⟩))
  ·by_cases hj1:j=front.length
   ·subst hj1;obtain rfl:s=o:=Fo (hos.symm.trans ho);have hfl:=fun i hi=>jx h.cl 12 s.after (hwait i hi) (fun e he hbe=>hall e he hbe);refine pF ho (Fin.last hf hlen hin h.old hfl _ (fun a' w' ht=>?_))
    have hz2:(listed.setIfInBounds front.length true).size=ops.size:=fN
    have hl2:∀i,i<front.length+1->(listed.setIfInBounds front.length true).getD i false=true:=fun i hi=>by
     by_cases e:front.length=i
     ·subst e
      simp[Fu,show front.length<listed.size from by omega]
     ·exact Gs.mY (hfl i af)
    have hu2:(listed.setIfInBounds front.length true).getD (front.length+1) false=false:=by
     have e:¬front.length=front.length+1:=af
     simpa[Fu,FI,e] using hb'
    cases fuel with
    | zero=>
     have h9:=dn (by omega:(listed.setIfInBounds front.length true).toList.count false=0) (front.length+1) af;rw[hu2] at h9
     cases h9
    | succ fuel=>
     refine⟨fun hr=>?_,fun i hi=>?_⟩
     ·have h9:=Gs.d_ hz2 hlt hr (front.length+1) af;rw[hu2] at h9
      cases h9
     ·obtain⟨hun2,o2,ho2,-⟩:=mem_ready.1 hi;have his:i<ops.size:=(FE.1 ho2).1
      have hie:i=front.length+1:=GZ fun e=>by
       have h9:=hl2 i af;rw[bK af] at h9;rw[h9] at hun2
       cases hun2
      subst hie;obtain rfl:t=o2:=Fo (hot.symm.trans ho2);refine pF ho2 (ht _ (fun a3 w3 hq=>A2 (by simpa using hz2) (fun i hi=>?_) hq))
      by_cases e:front.length+1=i
      ·subst e
       simp[Fu,show front.length+1<listed.size from by omega]
      ·exact Gs.mY (hl2 i af)
   ·obtain rfl:j=front.length+1:=af
    obtain rfl:t=o:=Fo (hot.symm.trans ho);have h9:=hall e2 he2 hb2;rw[hon2,bK af] at h9;rw[bK af] at hb;rw[hb] at h9
    cases h9
end
theorem pb {P:Program} {id:Nat} {Q:Exit->Act->World->Prop} {a0:Act} {W:World} {l:List Oper} {front:List Oper} {s t:Oper} (hm:P.follows .mixedOrders=true) (hfr:l.dropLast.dropLast=front) (hss:l.dropLast.getLast?=some s) (htt:l.getLast?=some t) (hB:growB a0.tmps.size front s t=true)
  (h:au P l.toArray Q W a0 s t front []):(Ix id l.toArray true).wp P Q a0 W:=by
 have hl:l=front++[s,t]:=by
  obtain⟨l',rfl⟩:=Ha.1 htt;rw[Ip] at hfr hss;obtain⟨l2,rfl⟩:=Ha.1 hss;rw[Ip] at hfr;rw[<-hfr];simp
 obtain⟨φs,hlen,hs,hfi⟩:=au.spec _ _ h;refine wp_region_any hm (bQ (by rw[hl]) hB hlen hs hfi _ _ _ _ aR ?_ ?_ ?_ ⟨⟨rfl,rfl,(Ft _ _).drew,fun i o φ h1 h2 d hd hx=>?_,fun d _=>rfl⟩,fun j o h1 hx=>?_⟩)
 ·exact ld
 ·exact a8 _ _
 ·exact a8 _ _
 ·rw[a8] at hx;cases hx
 ·rw[a8] at hx;cases hx
end Gu
end Go.Proofs.YtpejepeekdjfoaaGreatDoor

namespace Go.Proofs.YtpejepeekdjfoaaGreatDoor
open Go.RowKit
namespace Rc

theorem aQ:(Tryz.prog.info? 66).map (·.size)=some 19:=by kernel_rfl
def HOf (w:World) (T:TypeId) (v tri:Value) (P:Prop):Prop:=∃f:FuncId,(∀W,(Go.method 416 T v "loop.example/g00571/impl.keeps").run Tryz.prog W=.ok (f,v) W)/\(∀args W,(callFunc f args).run Tryz.prog W=.ok (.enter f args) W)/\∀W,Below w.heap.size w W->Calls Tryz.prog f #[v,tri] W fun e W'=> ∃b:Bool,e=.returned (.bool b)/\(b=true↔P)/\Below W.heap.size W W'

theorem jt (x0 x1 x2 x3 x4 x5 x6 x7 x8 x9 x10 x11 x12 x13 x14 x15 x16 x17 x18:Value) (b len cap:Nat) (hs:List (TypeId×Value×Prop)) (w:World) (hl:hs.length=len) (hm:len<=3) (hb:b<w.heap.size)
  (hc:∀(j:Nat) T v P,hs[j]?=some (T,v,P)->w.cell? ⟨b,j,none⟩=some (.iface T v)/\HOf w T v (.agg #[x0,x1,x2,x3,x4,x5,x6,x7,x8,x9,x10,x11,x12,x13,x14,x15,x16,x17,x18]) P):
  Calls Tryz.prog 95 #[.agg #[x0,x1,x2,x3,x4,x5,x6,x7,x8,x9,x10,x11,x12,x13,x14,x15,x16,x17,x18],.slice (some ⟨b,0,none⟩) len cap] w fun e w'=>(∃r,e=.returned r/\((∃(k:Nat) (T:TypeId) (v:Value) (P:Prop),hs[k]?=some (T,v,P)/\P/\r=.iface T v/\∀(j:Nat) T' v' P',j<k->hs[j]?=some (T',v',P')->¬P')\/(r=.nilIface/\∀(j:Nat) T' v' P',hs[j]?=some (T',v',P')->¬P')))/\Below w.heap.size w w':=by
 have HC:=aa hc;clear hc;go_enter Tryz.func95,Tryz.ntmps95;go_wp2;go_loopw [9] (fun i wr=> ∃k:Nat,k<=len/\i=.int .i64 k/\Hid (∀(j:Nat) T' v' P',j<k->hs[j]?=some (T',v',P')->¬P')/\Hid (Below w.heap.size w wr)/\Hid (wr.heap[w.heap.size]?=some (.cells #[x0,x1,x2,x3,x4,x5,x6,x7,x8,x9,x10,x11,x12,x13,x14,x15,x16,x17,x18] 66 (0,0)))) (fun i _=>len - (intOf i).toNat);case atStart=>exact⟨0,by omega,rfl,fun _ _ _ _ h=>absurd h af,al _ _,Array.getElem?_push_size⟩
 case round=>
  obtain⟨k,hk,rfl,HE,HB,Bk⟩:=hrel;by_cases hlt:k<len
  ·obtain⟨T,v,P,hx⟩:∃T v P,hs[k]?=some (T,v,P):=⟨_,_,_,Fs af⟩;obtain⟨h1,f,hm1,hm2,hm3⟩:=HC.out k T v P hx;have c0:=(HB.cell hb).trans h1;have HX:=aa hx;have HM:=aa hm3;have ltk:=ae Bk.out;clear h1 hx hm3;go_wp2_with (refine wpList_load_row (o:=⟨some 14,.load 66 (.tmp 2),_,_,_,none⟩) rfl _ _ rfl w.heap.size rfl _ _ _ _ Bk.out Tryz.underlying66 rfl aQ ?_);refine (HM.out wr HB.out).mono ?_;rintro e w1 ⟨r,rfl,hi,hb1⟩;have HI:=aa hi;have Bk1:=aa ((hb1.block _ ltk).trans Bk.out);have HB1:=upB HB hb1;clear hi hb1 c0 Bk HB;cases r
   ·go_wp2;refine⟨⟨k+1,by omega,by go_num,fun j T' v' P' hj hz=>?_,HB1.out,Bk1.out⟩,by simp[intOf];omega⟩;by_cases e:j=k
    ·subst e;rw[HX.out] at hz;cases hz;exact fun q=>(by have:=HI.2 q;cases this)
    ·exact HE.out j T' v' P' af hz
   ·go_wp2;go_ret;exact⟨⟨_,rfl,.inl ⟨k,T,v,P,HX.out,HI.1 ct,rfl,HE.out⟩⟩,HB1.out⟩
  ·obtain rfl:len=k:=af
   go_wp2;go_ret;exact⟨⟨_,rfl,.inr ⟨rfl,fun j T' v' P' hz=>HE.out j T' v' P' cZ hz⟩⟩,HB.out⟩

end Rc
end Go.Proofs.YtpejepeekdjfoaaGreatDoor

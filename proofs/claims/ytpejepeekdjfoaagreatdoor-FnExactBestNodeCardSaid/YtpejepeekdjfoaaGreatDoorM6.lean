import Derived.Test.YtpejepeekdjfoaaGreatDoorM5
import Derived.Lib.Overlaps
import Derived.Lib.SliceRun
import Derived.Lib.AppendZerosOnto
import Derived.Deep.RegionLaw
import Derived.Shelf.RegionOpenPlain
import Derived.Test.YtpejepeekdjfoaaGreatDoorRows
import Derived.WalkKit
import Derived.WalkSpells
import Derived.OwnWalk
import Derived.Outline
import Derived.Lib.BufferWrite
import Derived.Laws.CopyOwn
import Derived.Laws.IdiomStrings
import Derived.Laws.CopyRow
import Derived.Laws.Tables
import Derived.Laws.Rows
import Derived.RangeFuncNested
import Derived.RangeFuncBound
import Derived.RangeFuncCalls
import Derived.RangeFuncLeaves
import Derived.Shelf.Abstract
import Derived.Shelf.RegionOpen
import Derived.OwnWalkIn
import Derived.TacticsInMore
import Derived.LoopNIn
import Derived.LoopIn
set_option maxRecDepth 100000
set_option maxHeartbeats 12800000
open And renaming intro→Fo
open Array renaming getD_eq_getD_getElem?→Fx, getElem?_push_size→FD, getElem?_eq_some_iff→FG, getElem?_setIfInBounds→FL
open Bool renaming and_eq_true→Gl
open Go.Act renaming put→GI
open Go.Addr renaming add_lit→FT
open Go.Builtin renaming append_→GC, copy_→GL, zeroCells→G6
open Go.Calls renaming quiet_of_same→FY
open Go.Extern.SlicesOverlaps renaming overlaps→Hl
open Go.Lib renaming byteCells→GX, run_eql_slice_nil→Hs
open Go.Op renaming bytesLess→FB
open Go.Region renaming binds→F5, ready→Ge, wanted→GO
open Go.RowKit.Below renaming heap_setCell→Fp, refl→Fw, heap_alloc→Fy
open Go.Value renaming string→FK, oneCell'→GF, ownBlock→GZ
open Go.World renaming cell?_of_block→Gc, setCell→Gf, ownsRow_nil→Gh
open Int renaming le_trans→F8
open List renaming getElem?_eq_some_iff→Fm, lookup→Fs, getElem?_eq_getElem→Fu, setIfInBounds_toArray→Fz, getElem?_map→FC, take_of_length_le→FF, set_cons_zero→FH, forall_mem_cons→FI, set_cons_succ→FM, getElem?_append_left→FN, length_take→FQ, getElem?_take→FR, length_map→FU, getElem?_of_mem→FW, mem_of_getElem?→FZ, take_add_one→F6, length_append→F7, getElem?_cons_zero→F9, foldr→Gd, mem_cons→Gj, getElem?_drop→Gm, range→Gq, all_eq_true→GA, append_nil→GD, length_drop→GG, not_mem_nil→GM, mem_singleton→GW, mem_of_mem_drop→GY, length_cons→G0, getElem?_toArray→G9, filter_append→Hb, flatten_cons→Hh, getElem?_append→Hj, ext_getElem?→Ht
open Nat renaming le_refl→Ft, le_trans→FA, lt_of_lt_of_le→FE, le_succ→FV, zero_add→FX
open Option renaming map_eq_some_iff→FJ
open Option.some renaming inj→Fq, injEq→Gw
open Prod.mk renaming injEq→Hr
namespace Go.Proofs.YtpejepeekdjfoaaGreatDoor
theorem kI {p:Prop} (h:p:=by first|exact Fw _ _|exact al _ _|exact aF _ _ _|exact bI _ _ _ _):p:=h
theorem eU {p:Prop} (h:p:=by simp[Act.eval,GI]):p:=h
theorem jL {p:Prop} (h:p:=by simp[results,Tryz.results186,go_sem, *]):p:=h
theorem k7 {p:Prop} (h:p:=by rw[hdl];simp only[Nat.min_def];split <;> omega):p:=h
theorem kZ {p:Prop} (h:p:=by rw[hyl];simp only[Nat.min_def];split <;> omega):p:=h
theorem nz {p:Prop} (h:p:=by simp[Gf];have:=HB.size;omega):p:=h
theorem uV {p:Prop} (h:p:=by rw[HI0.2.2.2];exact growslice_fits (by omega) (by omega)):p:=h
theorem se {p:Prop} (h:p:=by simp[results,Tryz.results58,go_sem, *]):p:=h
theorem uU {p:Prop} (h:p:=by simpa using (show (c.ns.map ndF).length=d.l1 from hr.n.1)):p:=h
theorem uS {p:Prop} (h:p:=by simp only[List.size_toArray];rw[hc1l,hyl];omega):p:=h
theorem uO {p:Prop} (h:p:=by rw[hdl,List.size_toArray,hR2l];omega):p:=h
theorem uN {p:Prop} (h:p:=by rw[GG,hXl,Nat.sub_mul]):p:=h
theorem BC {p:Prop} (h:p:=by simp only[F7,FQ,GG];omega):p:=h
end Go.Proofs.YtpejepeekdjfoaaGreatDoor
namespace Go.Proofs.YtpejepeekdjfoaaGreatDoor
theorem vJ {p:Prop} (h:p:=by
 skip;cases h4:t.toList.isEmpty
 ·cases h5:(z.toList==t.toList)
  ·skip;exact lY
  ·skip;exact lY
 ·skip;exact lY):p:=h
theorem Dl {p:Prop} (h:p:=by
 exact lY):p:=h
theorem wS {p:Prop} (h:p:=by
 obtain rfl:len=k:=af
 have h5:=HF.out;have HO5:=HO;rw[FF af] at h5 HO5;have h6:=(h5.lU (HV.below HB.out)).aM (w':=wr) (S':=fun k=>Q k\/w.heap.size<=k) (fun _ _ _ _=>rfl) (fun _ _ s=>.inl s);obtain⟨a',c',e,hR⟩:=h6.own HO5.out aS aj (fun g hg=>.inr (HO5.lt g hg).1);subst e;have HR5:=aa hR;clear h5 h6 hR HF HO HO5;go_wp2;go_ret;exact⟨a',_,c',rfl,by simpa using HR5.out,HB.out⟩):p:=h
theorem wA {p:Prop} (h:p:=by
 have h0:w.grownBy w.drew (some g):=⟨rfl,rfl,rfl,Ft _,fun _ _ _=>rfl⟩;have h1:w.grownBy W1 (some g):=by rw[hW1];exact h0.trans (World.grownBy_alloc w.drew _ _)
 refine⟨?_,?_,?_,?_,fun k hk hkg=>(hW3o k af).trans (h1.block k hk hkg)⟩
 ·rw[hW3,hW2];exact h1.os
 ·rw[hW3,hW2];exact h1.tape
 ·rw[hW3,hW2];exact h1.output
 ·rw[hW3,hW2];exact FA h1.size (by simp[World.setRow])):p:=h
theorem vP {p:Prop} (h:p:=by
 have hF:=HF.push HX.out HVK.out;rw[<-uh HX.out hq] at hF;have HF3:=aa hF;have HB3:=aa ((HB1.trans ((al _ _).mono HB1.size)).grown hgrow bG (fun g hg=>(HO1.lt g hg).1));clear hown3 hgrow hF;go_wp2;exact⟨⟨k+1,_,_,by omega,by go_num,HO3,HF3,HB3⟩,by simp[intOf];omega⟩):p:=h
theorem CU {p:Prop} (h:p:=by
 go_enter Tryz.func170,Tryz.ntmps170;go_wp2_with (first|(at_builtin;refine bj rfl _ _ 138 34 rfl base 64 64 i0 (.agg #[.string ⟨#[]⟩,.int .i64 0,.string ⟨#[]⟩,.slice none 0 0,.string ⟨#[]⟩,.int .i64 0]) 6 88 Tryz.underlying138 Tryz.underlying34 HI0.1 HI0.2.1 HI0.2.2.1 HI0.2.2.2 rfl aj _ _ _ rfl HO.out ⟨vb,0,none⟩ 1 1 ys rfl af HYN.out HY1.out cD af hbs ?_));exact p_):p:=h
theorem CP {p:Prop} (h:p:=by
 rintro e w1 ⟨r,rfl,hi,hb1⟩;have HI:=aa hi;have HB1:=upB HB hb1;clear hi hb1 c0 c1 c2 c3 c4 c5;cases r
 ·go_wp2;refine⟨⟨k+1,by omega,by go_num,fun j z hj hz=>?_,HB1.out⟩,by simp[intOf];omega⟩;by_cases e:j=k
  ·subst e;rw[HX.out] at hz;obtain rfl:=Fq hz;exact fun q=>(by have:=HI.2 q;cases this)
  ·exact HE.out j z af hz
 ·go_wp2;go_ret;exact⟨⟨k,rfl,.inl ⟨by omega,k,p,HX.out,HI.1 cr⟩⟩,HB1.out⟩):p:=h
theorem vM {p:Prop} (h:p:=by
 rintro e w3 ⟨a3,c3,rfl,ho3,hb3⟩;have hs3:w2.heap.size<=w3.heap.size:=hb3.size;exact⟨a3,c3,rfl,ho3,HBD.trans (hb3.mono HBD.size),hs3,by omega,(hb3.block w.heap.size hs2).trans (show w2.drew.heap[w.heap.size]?=_ from HN2.out)⟩):p:=h
theorem CO {p:Prop} (h:p:=by
 exact xi):p:=h
theorem vL {p:Prop} (h:p:=by
 have h1:w.grownBy w.drew (some g):=⟨rfl,rfl,rfl,Ft _,fun _ _ _=>rfl⟩;have h2:w.drew.grownBy W1 (some g):=by rw[HW1.out];exact gZ w.drew g _
 exact (h1.trans h2).trans (gZ W1 g _)):p:=h
theorem sy {p:Prop} (h:p:=by
 obtain⟨a',c',rfl,hR⟩:=HFIN.out w4 v4 _ af hB5 ho4;exact⟨a',c',rfl,hR,hB5⟩):p:=h
theorem vK {p:Prop} (h:p:=by
 have hq2:(x.n.toList !=t.toList)=false:=by simp[bne,hq]
 have HF3:=aa HF.up;rw[<-D7 HX.out hq] at HF3 HO1;go_wp2;exact⟨⟨k+1,ws,f,by omega,by go_num,HO1,HF3,HB1⟩,by simp[intOf];omega⟩):p:=h
theorem CL {p:Prop} (h:p:=by
 have Bk3:Hid (w3.heap[w.heap.size]?=some (.cells (clo6 a1 l1 y1 a2 l2 y2 (some ⟨b,o,none⟩) l3 y3 a4 l4 y4 a5 l5 y5 c.now) 36 (0,0))):=by
  exact (hgrow.block _ bG (fun e=>by have:=(HO1.lt _ e.symm).1;omega)).trans ((Fy _ _ _ (ae Bk.out)).trans Bk.out)
 clear hown3 hgrow;go_wp2;exact⟨⟨k+1,n+1,by omega,by omega,by go_num,HO3,HB3,Bk3⟩,by simp[intOf];omega⟩):p:=h
theorem CF {p:Prop} (h:p:=by
 have hrf:r=false:=by simpa using hq
 clear hr;go_wp2_with fail;exact bodyPost_ret (v:=.agg #[.string ⟨#[]⟩,.int .i64 0,.string ⟨#[]⟩,.string ⟨#[]⟩,.bool false,.string ⟨#[]⟩,.bool false,.slice none 0 0,.int .i64 1]) (by simp[results,Tryz.results185,go_sem, *]) rfl (dV.bad (.inr (.inl ⟨HL.out,HBR.out,rfl,rfl⟩)) (fc af HB.out))):p:=h
theorem CD {p:Prop} (h:p:=by
 obtain⟨h1,h2⟩:=h;rcases h2 with ⟨h3,_⟩|⟨g',cap,cur,hv,hB,hh,_,_,hsz,htk⟩
 ·cases h3
 ·simp only[Value.slice.injEq,Gw,Addr.mk.injEq] at hv;obtain⟨⟨rfl,_,_⟩,_,rfl⟩:=hv;have hl:cur.toList.length<=n*1:=by simp[hsz]
  rw[FF hl] at htk;subst htk;exact⟨by simpa using hh,by simpa using hsz,hB⟩):p:=h
theorem vF {p:Prop} (h:p:=by
 obtain rfl:len=k:=af
 go_wp2;go_ret;exact⟨⟨-1,rfl,.inr ⟨rfl,fun j p hj=>HE.out j p nA hj⟩⟩,HB.out⟩):p:=h
theorem vD {p:Prop} (h:p:=by
 rw[show i+(cap+1 - i)=cap+1 by omega,<-hG,<-hROW,<-hW1,<-hN] at h;rw[show (cap:Int)+1 - (i:Int)=((cap+1 - i:Nat):Int) by omega];exact h):p:=h
theorem vC {p:Prop} (h:p:=by
 have h2:0<(vss[k]).length:=by rw[HV.all k _ h1];decide
 obtain⟨g,e,_,_⟩:=HC.out _ _ (fH HV.all h1 (Fu h2));cases e;rfl):p:=h
theorem iC {p:Prop} (h:p:=by
 simp only[F7,FQ,GG];omega):p:=h
theorem yR {p:Prop} (h:p:=by
 have h4:ps.take k++ps.drop (k+1)=ps.take k:=by rw[List.drop_eq_nil_of_le af,GD]
 rw[h4];rw[h4] at hlt;have h1:(ps.take k).length=k:=by rw[FQ];omega
 rw[gg (fun j z hz=>hlt j z c_ hz),h1]):p:=h
theorem yP {p:Prop} (h:p:=by
 rintro e w1 ⟨⟨r,rfl,hi⟩,hb⟩;have HB:=aa hb;clear hb;rcases hi with ⟨h0,h1⟩|⟨rfl,h1⟩
 ·have H1:=aa h1;clear h1;go_wp2;go_ret;exact ar.t H1.out HB.out
 ·have H1:=aa h1;clear h1;go_wp2;go_ret;exact ar.f (fun ⟨j,p,h2,h3⟩=>H1.out j p h2 h3) HB.out):p:=h
theorem yN {p:Prop} (h:p:=by
 go_wp2_with fail;exact bodyPost_ret (v:=.agg #[.string ⟨#[]⟩,.int .i64 0,.string ⟨#[]⟩,.string ⟨#[]⟩,.bool false,.string ⟨#[]⟩,.bool false,.slice none 0 0,.int .i64 2]) (by simp[results,Tryz.results185,go_sem]) rfl (dV.bad HL.out (aF _ _ _))):p:=h
theorem qJ {p:Prop} (h:p:=by
 rcases HO.2 with ⟨h1,h2⟩|⟨g,cp,cur,h1,h2,h3,h4,h5,h6,h7⟩
 ·cases h1;omega
 ·cases h1;exact⟨g,cur,rfl,h2,h3,h6,h7⟩):p:=h
theorem qF {p:Prop} (h:p:=by
 rw[hROW,Array.toList_append,Array.toList_append,List.append_assoc];exact List.take_left' jK):p:=h
theorem qE {p:Prop} (h:p:=by
 rintro e w6 ⟨a',c',rfl,ho,hb6⟩;exact hK _ _ hb6 ⟨a',c',rfl,ho.bA (fun k hk s=>⟨s,hk⟩),Below.size hW⟩):p:=h
theorem qD {p:Prop} (h:p:=by
 rcases ho.2 with ⟨h1,h2⟩|⟨g,cp,cur,h1,_,_,h4,h5,_⟩
 ·cases h1;omega
 ·cases h1;unfold maxLen at h5;omega):p:=h
theorem qC {p:Prop} (h:p:=by
 rw[hR2];simp only[F7,FQ,GG,Array.length_toList,hRs,hyl];omega):p:=h
theorem qB {p:Prop} (h:p:=by
 rw[hR3];simp only[List.size_toArray,F7,FQ,GG,hR2l];omega):p:=h
theorem yu {p:Prop} (h:p:=by
 rintro e w1 ⟨r,rfl,hi,hb⟩;obtain⟨HA0,HA1,HA2,hbx⟩:=lS hb;replace HB:=upB HB hbx;clear hb hbx HA0 HA1 HA2;have HI:=aa hi;clear hi;go_wp2;go_ret;exact⟨r,rfl,HI.out,HB.out⟩):p:=h
theorem yt {p:Prop} (h:p:=by
 have h1:(ps.take k).length=k:=by rw[FQ];omega
 rw[FN af,FR,if_pos hj] at hz;have:=hr.lt hj hz hx;rw[hn] at this;exact this):p:=h
theorem qy {p:Prop} (h:p:=by
 rw[aw hg];rw[<-htk,FR] at hj;split at hj
 ·simpa using hj
 ·cases hj):p:=h
theorem qx {p:Prop} (h:p:=by
 simp only[List.size_toArray,F7,FQ,GG,hc1l];omega):p:=h
theorem qu {p:Prop} (h:p:=by
 obtain⟨g,h1,_,h3⟩:=HC.out k u hu;exact⟨g,h1,(ak hW (bg h3)).trans h3⟩):p:=h
theorem ye {p:Prop} (h:p:=by
 go_wp2;go_ret;exact ar.t H1.out kI):p:=h
theorem qm {p:Prop} (h:p:=by
 rw[List.getElem?_eq_none af,List.getElem?_eq_none aS]):p:=h
theorem xR {p:Prop} (h:p:=by
 cases hq:j - ms.length with
 | zero=>rw[hq] at hj;cases hj;exact⟨rfl,rfl⟩
 | succ q=>rw[hq] at hj;simp at hj):p:=h
theorem xN {p:Prop} (h:p:=by
 rw[List.getElem?_append_right af,h1,Nat.sub_self,Gm];exact Fu he):p:=h
theorem xI {p:Prop} (h:p:=by
 clear h;go_enter Tryz.func202,Tryz.ntmps202;go_wp2_with fail;go_ret;exact⟨Dh HX.out,HB.out⟩):p:=h
theorem dZ {p:Prop} (h:p:=by
 refine Obl.plain rfl ?_;intro ac wg K hsz hW hf hK;clear hsz;have e7:=hf 7 aj;simp[ai,Fs] at e7;clear hf;exact aU):p:=h
theorem iA {p:Prop} (h:p:=by
 refine Gi.Obl.plain rfl ?_;intro ac wg K lo hi hsz hW hpr hf hap hK;clear hsz hap hpr;have e1:=hf 1 aj;simp[Gi.ai,Fs] at e1;clear hf;exact aU):p:=h
theorem iz {p:Prop} (h:p:=by
 clear hf;obtain⟨k0,k1,k2,k3,k4,k5⟩:=cs6 ((Below.block hW _ (ae Bk.out)).trans Bk.out);exact aU):p:=h
theorem lY {p:Prop} (h:p:=by
 go_enter Tryz.func214,Tryz.ntmps214;go_wp2_with fail;go_ret;exact⟨Dg aS,HB.out⟩):p:=h
theorem qb {p:Prop} (h:p:=by
 rintro e w4 ⟨v4,rfl,ho4,hg4⟩;have hB5:=hB3.grown hg4 af (fun g hg=>by
  have h9:=(ho3.lt g hg).1
  omega)
 exact sy):p:=h
theorem p_ {p:Prop} (h:p:=by
 intro v' w' h1 h2;have H1:=aa h1;have H2:=aa h2;clear h1 h2;go_wp2;go_ret;exact⟨v',rfl,H1.out,H2.out⟩):p:=h
theorem p8 {p:Prop} (h:p:=by
 show World.ownsRow _ _ _ _ _ _ _;rw[uh HX.out hq,F7,List.flatten_append];simpa using hown3):p:=h
theorem xo {p:Prop} (h:p:=by
 intro j u hu;cases j with
 | zero=>
  simp only[F9,Gw] at hu;subst hu;rw[FT];exact aw (heap_alloc_new _ _) 0
 | succ j=>simp at hu):p:=h
theorem xn {p:Prop} (h:p:=by
 rw[hpl,hw];unfold br;have h1:(ps.take k).length=k:=by rw[FQ];omega
 rw[List.take_left' h1,List.drop_left' h1,List.set_eq_take_append_cons_drop,if_pos hk];simp):p:=h
theorem wN {p:Prop} (h:p:=by
 skip;by_cases h3:c'<=c
 ·rw[decide_eq_true h3];exact Dl
 ·rw[decide_eq_false h3];exact Dl):p:=h
theorem wL {p:Prop} (h:p:=by
 cases h0:(k.toList==k'.toList)
 ·exact vJ
 ·cases h1:(x==x')
  ·exact vJ
  ·exact vJ):p:=h
theorem sq {p:Prop} (h:p:=by
 have HG0:=aa g0;have HG1:=aa g1;have HG2:=aa g2;have d0:=ck0 g0;have d1:=ck1 g0;have d2:=ck2 g0;have d3:=ck3 g0;have d4:=ck4 g0;have e0:=ck0 g1;have e1:=ck1 g1;have e2:=ck2 g1;have e3:=ck3 g1;have r0:=ck0 g2;have r1:=ck1 g2;have r2:=ck2 g2;have r3:=ck3 g2;have r4:=ck4 g2;have r5:=ck5 g2;have r6:=ck6 g2;have r7:=ck7 g2;have r8:=ck8 g2;have q0:=av g2 0;have q1:=av g2 1;have q2:=av g2 2;have q3:=av g2 3;have q4:=av g2 4;have q5:=av g2 5;have q6:=av g2 6;have q7:=av g2 7;have q8:=av g2 8;exact Fo HG0 (Fo HG1 (Fo HG2 (Fo d0 (Fo d1 (Fo d2 (Fo d3 (Fo d4 (Fo e0 (Fo e1 (Fo e2 (Fo e3 (Fo r0 (Fo r1 (Fo r2 (Fo r3 (Fo r4 (Fo r5 (Fo r6 (Fo r7 (Fo r8 (Fo q0 (Fo q1 (Fo q2 (Fo q3 (Fo q4 (Fo q5 (Fo q6 (Fo q7 q8))))))))))))))))))))))))))))):p:=h
theorem vy {p:Prop} (h:p:=by
 have hGi:¬G=i:=af
 have hGim:¬G=i+1:=af
 have hci:¬cap=i:=af
 have hz2:¬((i:Int)=(cap:Int)):=af
 have hz3:(cap:Int)<(cap:Int)+1:=af
 have mixed:Tryz.prog.follows .mixedOrders=true:=aq
 have hw1:IntKind.i64.wrap ((i:Int)+1)=(i:Int)+1:=by rw[IntKind.wrap_i64];omega
 have hb1:(0:Int)<=(i:Int)+1:=af
 have hin:i<=cap:=af
 have htn:((i:Int)+1).toNat=i+1:=af
 have hb3:(i:Int)<=(cap:Int):=af
 have HF:=aa (Fo hrow hfin);exact Fo hGi (Fo hGim (Fo hci (Fo hz2 (Fo hz3 (Fo mixed (Fo hw1 (Fo hb1 (Fo hin (Fo htn (Fo hb3 HF))))))))))):p:=h
theorem vx {p:Prop} (h:p:=by
 have hb2:¬cap=i+1:=af
 have hb4:¬cap=i:=af
 have hb6:¬((cap:Int)<(n:Int)+1):=af
 have mixed:Tryz.prog.follows .mixedOrders=true:=aq
 have hw1:IntKind.i64.wrap ((i:Int)+1)=(i:Int)+1:=by rw[IntKind.wrap_i64];omega
 have hb1:(0:Int)<=(i:Int)+1:=af
 have hin:i<=n:=af
 have htn:((i:Int)+1).toNat=i+1:=af
 have hb3:(i:Int)<=(n:Int)+1:=af
 have HG1:=aa hg1;have HW1:=aa hW1;have HC1:=aa hcur1;have HTK:=aa htk;exact Fo hb2 (Fo hb4 (Fo hb6 (Fo mixed (Fo hw1 (Fo hb1 (Fo hin (Fo htn (Fo hb3 (Fo HG1 (Fo HW1 (Fo HC1 HTK)))))))))))):p:=h
theorem vq {p:Prop} (h:p:=by
 have g0:=(hb.block _ (ae HG0.out)).trans HG0.out;have g1:=(hb.block _ (ae HG1.out)).trans HG1.out;have g2:=(hb.block _ (ae HG2.out)).trans HG2.out;have HB':=aa (HB.trans (hb.mono HB.size));exact Fo g0 (Fo g1 (Fo g2 HB'))):p:=h
theorem vm {p:Prop} (h:p:=by
 have hg1:W1.heap[g]?=w.heap[g]?:=by rw[hW1];exact Go.heap_alloc_old w.drew _ hgl
 have hv1:W1.heap[vb]?=w.heap[vb]?:=by rw[hW1];exact Go.heap_alloc_old w.drew _ hvl
 exact Fo hg1 hv1):p:=h
theorem ve {p:Prop} (h:p:=by
 have h5:=ck5 Bh;have t0:=ck0 Bt;have t1:=ck1 Bt;have t2:=ck2 Bt;have t3:=ck3 Bt;have t4:=ck4 Bt;have t5:=ck5 Bt;have t12:=Es Bt.out;exact Fo h5 (Fo t0 (Fo t1 (Fo t2 (Fo t3 (Fo t4 (Fo t5 t12))))))):p:=h
theorem uZ {p:Prop} (h:p:=by
 have hgn:¬g=N:=af
 have hg2:W2.heap[g]?=w.heap[g]?:=by rw[hW2,setRow_other W1 N g _ hgn];exact hg1
 exact Fo hgn hg2):p:=h
end Go.Proofs.YtpejepeekdjfoaaGreatDoor
namespace Go.Proofs.YtpejepeekdjfoaaGreatDoor
open Go.RowKit
namespace Rc
open Mk

section
variable {w:World} {a:Option Addr} {len cap m:Nat} {rs:List (List Fv)}
end
theorem rW {o:Oper} {a:Act} {w:World} {K:Act->World->Prop} {Q:Exit->Act->World->Prop} (s x:Operand) (t T:TypeId) (ho:o.op=.call { callee:=.builtin .append,args:=#[s,x],argTypes:=#[t,t] }) (i:TypeInfo) (z:Value) (m bytes:Nat) (ht:Tryz.prog.underlying t=some (.slice T)) (hi:Tryz.prog.info? T=some i) (hz:i.zero=some z)
  (hsize:i.size=m) (hby:i.bytes=bytes) (hzs:z.cells.size=m) (hsz:0<m) (hT:¬T=9) (base:Nat) (v0:Value) (hs:a.eval s=v0) (hown:w.ownsRow base T m v0 0 []) (hbw:base<=w.heap.size) {ad:Addr} {len cap:Nat} {rs:List (List Fv)} (hx:a.eval x=.slice (some ad) len cap) (hr:aN w (some ad) len cap m rs) (hm:∀(j:Nat) r,rs[j]?=some r->r.length=m/\fq r) (hl:len<=8) (hb8:bytes<=1000)
  (h:∀a' c' w',az w' a' len c' m T rs (fun k=>base<=k/\k<w'.heap.size)->w.grownBy w' v0.ownBlock->K (a.put o.dst (.slice a' len c')) w'):o.wp Tryz.prog a w K Q:=by
 have hlen:((rs.map dM).flatten).length=len*m:=by rw[dr (g_ fun j r hj=>(hm j r hj).1),FU,hr.1]
 have hne:rs=[]\/∃b o,ad=(⟨b,o,none⟩:Addr):=by
  rcases hr.2.2.2 with h1|⟨b,o,e,_⟩
  ·exact .inl h1
  ·cases e;exact .inr ⟨b,o,rfl⟩
 have hnews:∀(j:Nat) u,((rs.map dM).flatten)[j]?=some u->w.cell? (ad.add j)=some u:=by
  rcases hne with rfl|⟨b,o,rfl⟩
  ·intro j u hu;simp at hu
  ·exact lB hr hm
 refine wp_append_own w s x t ho base T i z m bytes ht hi hz hsize hby hzs hsz v0 0 [] hs hown ad len cap (rs.map dM).flatten hx hlen hnews (fG hr hm w (fun _=>True)).one cD (by have:(0+len)*bytes<=8*1000:=Nat.mul_le_mul af hb8;omega) hbw ?_;intro v' w' ho' hg' _;rw[FX,List.nil_append] at ho';obtain⟨a',c',rfl,hR⟩:=(fG hr hm w' (fun k=>base<=k/\k<w'.heap.size)).own ho' hr.1.symm hT (fun g hg=>ho'.lt g hg);rw[hr.1] at hR ⊢;exact h a' c' w' hR hg'
def jm (B:Nat) (len m:Nat) (T:TypeId) (rs:List (List Fv)):Gi.Fact:=fun v w l h=> ∃a c,v=.slice a len c/\az w a len c m T rs (fun k=>l<=k/\k<h)/\B<=l
theorem jm.mono (ex:Gi.Ex) (s:Option Tmp) (B len m:Nat) (T:TypeId) (rs:List (List Fv)):Gi.Fact.bB (fun _=>Gi.Bel) ex s (jm B len m T rs):=by
 rintro s' _ _ _ v w w' l h ⟨a,c,h1,h2,h3⟩ hb;exact⟨a,c,h1,h2.below hb,h3⟩
def ClF (B:Nat) (c:Cl):Gi.Fact:=fun v w _ _=> ∃d:Ad,v=.agg #[.slice d.a1 d.l1 d.c1,.slice d.a2 d.l2 d.c2,.slice d.a3 d.l3 d.c3,.slice d.a4 d.l4 d.c4,.slice d.a5 d.l5 d.c5,.int .i64 c.now]/\bQ w d c.raw (fun k=>B<=k)
theorem ClF.mono (ex:Gi.Ex) (s:Option Tmp) (B:Nat) (c:Cl):Gi.Fact.bB (fun _=>Gi.Bel) ex s (ClF B c):=by
 rintro s' _ _ _ v w w' l h ⟨d,h1,h2⟩ hb;exact⟨d,h1,h2.below hb⟩

theorem iI (d:Ad) (c:Cl) (w:World) (hr:aJ w d c.raw) (hs:Sm c):
  Calls Tryz.prog 31 #[.agg #[.slice d.a1 d.l1 d.c1,.slice d.a2 d.l2 d.c2,.slice d.a3 d.l3 d.c3,.slice d.a4 d.l4 d.c4,.slice d.a5 d.l5 d.c5,.int .i64 c.now]] w fun e w'=> ∃d',e=.returned (.agg #[.slice d'.a1 d'.l1 d'.c1,.slice d'.a2 d'.l2 d'.c2,.slice d'.a3 d'.l3 d'.c3,.slice d'.a4 d'.l4 d'.c4,.slice d'.a5 d'.l5 d'.c5,.int .i64 c.now])/\bQ w' d' c.raw (fun k=>w.heap.size<=k)/\Below w.heap.size w w':=by
 have HR:=aa hr;have HS:=aa hs;have hl1:c.ns.length=d.l1:=uU
 have hl2:c.ks.length=d.l2:=by simpa using (show (c.ks.map kdF).length=d.l2 from hr.k.1)
 have hl3:c.vs.length=d.l3:=by simpa using (show (c.vs.map vdF).length=d.l3 from hr.v.1)
 have hl4:c.xs.length=d.l4:=by simpa using (show (c.xs.map xdF).length=d.l4 from hr.x.1)
 have hl5:c.ps.length=d.l5:=by simpa using (show (c.ps.map pdF).length=d.l5 from hr.p.1)
 clear hr hs;obtain⟨i2,hi2⟩:=FJ.1 rv;obtain⟨i4,hi4⟩:=FJ.1 iJ;have HI2:=aa hi2;have HI4:=aa hi4;clear hi2 hi4;obtain⟨W,hW0⟩:∃W,W=(w.alloc (.cells (clv d c.now) 36)).alloc (.cells (clo6 none 0 0 none 0 0 none 0 0 none 0 0 none 0 0 0) 36):=⟨_,rfl⟩;have HB:Hid (Below w.heap.size w W):=by rw[hW0];exact aF _ _ _
 have Bk:Hid (W.heap[w.heap.size]?=some (.cells (clv d c.now) 36 (0,0))):=by rw[hW0];exact cU _ _ _
 obtain⟨Br,hWs⟩:=BK;go_enter Tryz.func31,Tryz.ntmps31;go_wp2_with fail;rw[<-hW0];clear hW0;rename_i K0 hK0;refine Gi.aR (ex:=fun _=>none) (Gi.Bel.rel 0) aq rfl rfl aq aq ?_;refine' Gi.au.an _ rfl ?_ ?_;rotate_left 1
 ·exact iA
 refine' Gi.au.an _ rfl ?_ ?_;rotate_left 1
 ·refine Gi.Obl.plain rfl ?_;intro ac wg K lo hi hsz hW hpr hf hap hK;clear hsz hap hpr;have e3:=hf 3 aj;simp[Gi.ai,Fs] at e3;exact iz
 refine Gi.au.step (jm W.heap.size d.l1 7 57 (c.ns.map ndF)) rfl (jm.mono _ _ _ _ _ _ _) ?_ ?_
 ·refine Gi.Obl.plain rfl ?_;intro ac wg K lo hi hsz hW hpr hf hap hK;clear hsz hpr hap;have e4:=hf 4 aj;simp[Gi.ai,Fs] at e4;clear hf;go_simp;refine (mx d.a1 d.l1 d.c1 c.ns _ (HR.n.below (HB.trans (Below.mono hW HB.size))) (by have:=HS.n;omega) HS.ns).mono ?_;exact qE
 refine' Gi.au.an _ rfl ?_ ?_;rotate_left 1
 ·exact iA
 refine' Gi.au.an _ rfl ?_ ?_;rotate_left 1
 ·refine Gi.Obl.plain rfl ?_;intro ac wg K lo hi hsz hW hpr hf hap hK;clear hsz hap hpr;have e6:=hf 6 aj;simp[Gi.ai,Fs] at e6;exact iz
 refine Gi.au.step (jm W.heap.size d.l2 4 102 (c.ks.map kdF)) rfl (jm.mono _ _ _ _ _ _ _) ?_ ?_
 ·refine Gi.Obl.plain rfl ?_;intro ac wg K lo hi hsz hW hpr hf hap hK;clear hsz hpr hap;have e7:=hf 7 aj;simp[Gi.ai,Fs] at e7;clear hf;cases hq:d.a2 with
  | none=>
   have h0:c.ks=[]:=by
    rcases HR.k.2.2.2 with h|⟨b,o,e,_⟩
    ·have h9:c.ks.map kdF=[]:=h
     simpa using h9
    ·rw[hq] at e;cases e
   have hl0:d.l2=0:=by rw[<-hl2,h0];rfl
   rw[hq,hl0] at e7;go_simp;refine hK _ _ (Fw _ _) ⟨none,0,by rw[hl0],?_,Below.size hW⟩;rw[hl0,h0];exact az.nil _ _ _ _ _ af
  | some ad=>
   rw[hq] at e7;have hin:=HR.k.below (HB.trans (Below.mono hW HB.size));have hin2:aN wg d.a2 d.l2 d.c2 4 (c.ks.map kdF):=hin;rw[hq] at hin2
   have hz:i2.zero=some (.agg #[.string ⟨#[]⟩,.bool false,.bool false,.string ⟨#[]⟩])/\i2.size=4/\i2.bytes=40:=by have:=HI2.2;simp only[Hr] at this;exact this
   refine rW _ (.tmp 7) 31 102 rfl i2 (.agg #[.string ⟨#[]⟩,.bool false,.bool false,.string ⟨#[]⟩]) 4 40 Tryz.underlying31 HI2.1 hz.1 hz.2.1 hz.2.2 rfl aj aj wg.heap.size (.slice none 0 0) rfl (Gh _ _ _ _) (Ft _) (by simpa[Act.eval] using e7) hin2 (gW sF _) (by have:=HS.k;omega) aj ?_;intro a' c' w' hR hg;exact hK _ _ ((Fw _ _).grown hg (Ft _) (fun k hk=>by cases hk)) ⟨a',c',rfl,hR,Below.size hW⟩
 refine' Gi.au.an _ rfl ?_ ?_;rotate_left 1
 ·exact iA
 refine' Gi.au.an _ rfl ?_ ?_;rotate_left 1
 ·refine Gi.Obl.plain rfl ?_;intro ac wg K lo hi hsz hW hpr hf hap hK;clear hsz hap hpr;have e9:=hf 9 aj;simp[Gi.ai,Fs] at e9;exact iz
 refine Gi.au.step (jm W.heap.size d.l3 8 99 (c.vs.map vdF)) rfl (jm.mono _ _ _ _ _ _ _) ?_ ?_
 ·refine Gi.Obl.plain rfl ?_;intro ac wg K lo hi hsz hW hpr hf hap hK;clear hsz hpr hap;have e10:=hf 10 aj;simp[Gi.ai,Fs] at e10;clear hf;go_simp;refine (mv d.a3 d.l3 d.c3 c.vs _ (HR.v.below (HB.trans (Below.mono hW HB.size))) (by have:=HS.v;omega) HS.vs).mono ?_;exact qE
 refine' Gi.au.an _ rfl ?_ ?_;rotate_left 1
 ·exact iA
 refine' Gi.au.an _ rfl ?_ ?_;rotate_left 1
 ·refine Gi.Obl.plain rfl ?_;intro ac wg K lo hi hsz hW hpr hf hap hK;clear hsz hap hpr;have e12:=hf 12 aj;simp[Gi.ai,Fs] at e12;exact iz
 refine Gi.au.step (jm W.heap.size d.l4 5 105 (c.xs.map xdF)) rfl (jm.mono _ _ _ _ _ _ _) ?_ ?_
 ·refine Gi.Obl.plain rfl ?_;intro ac wg K lo hi hsz hW hpr hf hap hK;clear hsz hpr hap;have e13:=hf 13 aj;simp[Gi.ai,Fs] at e13;clear hf;cases hq:d.a4 with
  | none=>
   have h0:c.xs=[]:=by
    rcases HR.x.2.2.2 with h|⟨b,o,e,_⟩
    ·have h9:c.xs.map xdF=[]:=h
     simpa using h9
    ·rw[hq] at e;cases e
   have hl0:d.l4=0:=by rw[<-hl4,h0];rfl
   rw[hq,hl0] at e13;go_simp;refine hK _ _ (Fw _ _) ⟨none,0,by rw[hl0],?_,Below.size hW⟩;rw[hl0,h0];exact az.nil _ _ _ _ _ af
  | some ad=>
   rw[hq] at e13;have hin:=HR.x.below (HB.trans (Below.mono hW HB.size));have hin2:aN wg d.a4 d.l4 d.c4 5 (c.xs.map xdF):=hin;rw[hq] at hin2
   have hz:i4.zero=some (.agg #[.string ⟨#[]⟩,.int .i64 0,.string ⟨#[]⟩,.bool false,.string ⟨#[]⟩])/\i4.size=5/\i4.bytes=64:=by have:=HI4.2;simp only[Hr] at this;exact this
   refine rW _ (.tmp 13) 33 105 rfl i4 (.agg #[.string ⟨#[]⟩,.int .i64 0,.string ⟨#[]⟩,.bool false,.string ⟨#[]⟩]) 5 64 Tryz.underlying33 HI4.1 hz.1 hz.2.1 hz.2.2 rfl aj aj wg.heap.size (.slice none 0 0) rfl (Gh _ _ _ _) (Ft _) (by simpa[Act.eval] using e13) hin2 (gW rV _) (by have:=HS.x;omega) aj ?_;intro a' c' w' hR hg;exact hK _ _ ((Fw _ _).grown hg (Ft _) (fun k hk=>by cases hk)) ⟨a',c',rfl,hR,Below.size hW⟩
 refine' Gi.au.an _ rfl ?_ ?_;rotate_left 1
 ·exact iA
 refine' Gi.au.an _ rfl ?_ ?_;rotate_left 1
 ·refine Gi.Obl.plain rfl ?_;intro ac wg K lo hi hsz hW hpr hf hap hK;clear hsz hap hpr;have e15:=hf 15 aj;simp[Gi.ai,Fs] at e15;exact iz
 refine Gi.au.step (jm W.heap.size d.l5 6 64 (c.ps.map pdF)) rfl (jm.mono _ _ _ _ _ _ _) ?_ ?_
 ·refine Gi.Obl.plain rfl ?_;intro ac wg K lo hi hsz hW hpr hf hap hK;clear hsz hpr hap;have e16:=hf 16 aj;simp[Gi.ai,Fs] at e16;clear hf;go_simp;refine (mw d.a5 d.l5 d.c5 c.ps _ (HR.p.below (HB.trans (Below.mono hW HB.size))) (by have:=HS.p;omega) HS.ps).mono ?_;exact qE
 refine' Gi.au.an _ rfl ?_ ?_;rotate_left 1
 ·exact iA
 refine' Gi.au.an _ rfl ?_ ?_;rotate_left 1
 ·refine Gi.Obl.plain rfl ?_;intro ac wg K lo hi hsz hW hpr hf hap hK;clear hsz hap hpr;have e18:=hf 18 aj;simp[Gi.ai,Fs] at e18;exact iz
 refine Gi.au.step (ClF W.heap.size c) rfl (ClF.mono _ _ _ _) ?_ ?_
 ·refine Gi.Obl.plain rfl ?_;intro ac wg K lo hi hsz hW hpr hf hap hK;clear hsz hpr;have e5:=hf 5 aj;simp[Gi.ai,Fs] at e5;have e8:=hf 8 aj;simp[Gi.ai,Fs] at e8;have e11:=hf 11 aj;simp[Gi.ai,Fs] at e11;have e14:=hf 14 aj;simp[Gi.ai,Fs] at e14;have e17:=hf 17 aj;simp[Gi.ai,Fs] at e17;have e19:=hf 19 aj;simp[Gi.ai,Fs] at e19;clear hf;obtain⟨a1,c1,e5,ho1,hB1⟩:=e5;obtain⟨a2,c2,e8,ho2,hB2⟩:=e8;obtain⟨a3,c3,e11,ho3,hB3⟩:=e11;obtain⟨a4,c4,e14,ho4,hB4⟩:=e14;obtain⟨a5,c5,e17,ho5,hB5⟩:=e17;have hap2:∀t∈[5,8,11,14,17],∀t'∈[5,8,11,14,17],¬t=t'->hi t<=lo t'\/hi t'<=lo t:=by
   intro t ht t' ht' hne;refine hap t ?_ t' ?_ ?_ ?_ hne
   ·simp only[Gj,GM,or_false] at ht;rcases ht with rfl|rfl|rfl|rfl|rfl <;> decide
   ·simp only[Gj,GM,or_false] at ht';rcases ht' with rfl|rfl|rfl|rfl|rfl <;> decide
   ·simp only[Gj,GM,or_false] at ht;rcases ht with rfl|rfl|rfl|rfl|rfl <;> rfl
   ·simp only[Gj,GM,or_false] at ht';rcases ht' with rfl|rfl|rfl|rfl|rfl <;> rfl
  clear hap;have q01:=hap2 5 aj 8 aj aj;have q02:=hap2 5 aj 11 aj aj;have q03:=hap2 5 aj 14 aj aj;have q04:=hap2 5 aj 17 aj aj;have q12:=hap2 8 aj 11 aj aj;have q13:=hap2 8 aj 14 aj aj;have q14:=hap2 8 aj 17 aj aj;have q23:=hap2 11 aj 14 aj aj;have q24:=hap2 11 aj 17 aj aj;have q34:=hap2 14 aj 17 aj aj;clear hap2;have hC:bQ wg ⟨a1,d.l1,c1,a2,d.l2,c2,a3,d.l3,c3,a4,d.l4,c4,a5,d.l5,c5⟩ c.raw (fun k=>W.heap.size<=k):=by
   refine⟨fun k=>if lo 5<=k/\k<hi 5 then 1 else if lo 8<=k/\k<hi 8 then 2 else if lo 11<=k/\k<hi 11 then 3 else if lo 14<=k/\k<hi 14 then 4 else 5,?_,?_,?_,?_,?_⟩
   ·exact ho1.bA (fun k _ s=>⟨by have s1:lo 5<=k:=s.1;show W.heap.size<=k;omega,by have s1:lo 5<=k:=s.1;have s2:k<hi 5:=s.2;show (if lo 5<=k/\k<hi 5 then 1 else if lo 8<=k/\k<hi 8 then 2 else if lo 11<=k/\k<hi 11 then 3 else if lo 14<=k/\k<hi 14 then 4 else 5)=1;rw[if_pos ⟨s1,s2⟩]⟩)
   ·exact ho2.bA (fun k _ s=>⟨by have s1:lo 8<=k:=s.1;show W.heap.size<=k;omega,by have s1:lo 8<=k:=s.1;have s2:k<hi 8:=s.2;show (if lo 5<=k/\k<hi 5 then 1 else if lo 8<=k/\k<hi 8 then 2 else if lo 11<=k/\k<hi 11 then 3 else if lo 14<=k/\k<hi 14 then 4 else 5)=2;rw[if_neg af];rw[if_pos ⟨s1,s2⟩]⟩)
   ·exact ho3.bA (fun k _ s=>⟨by have s1:lo 11<=k:=s.1;show W.heap.size<=k;omega,by have s1:lo 11<=k:=s.1;have s2:k<hi 11:=s.2;show (if lo 5<=k/\k<hi 5 then 1 else if lo 8<=k/\k<hi 8 then 2 else if lo 11<=k/\k<hi 11 then 3 else if lo 14<=k/\k<hi 14 then 4 else 5)=3;rw[if_neg af];rw[if_neg af];rw[if_pos ⟨s1,s2⟩]⟩)
   ·exact ho4.bA (fun k _ s=>⟨by have s1:lo 14<=k:=s.1;show W.heap.size<=k;omega,by have s1:lo 14<=k:=s.1;have s2:k<hi 14:=s.2;show (if lo 5<=k/\k<hi 5 then 1 else if lo 8<=k/\k<hi 8 then 2 else if lo 11<=k/\k<hi 11 then 3 else if lo 14<=k/\k<hi 14 then 4 else 5)=4;rw[if_neg af];rw[if_neg af];rw[if_neg af];rw[if_pos ⟨s1,s2⟩]⟩)
   ·exact ho5.bA (fun k _ s=>⟨by have s1:lo 17<=k:=s.1;show W.heap.size<=k;omega,by have s1:lo 17<=k:=s.1;have s2:k<hi 17:=s.2;show (if lo 5<=k/\k<hi 5 then 1 else if lo 8<=k/\k<hi 8 then 2 else if lo 11<=k/\k<hi 11 then 3 else if lo 14<=k/\k<hi 14 then 4 else 5)=5;rw[if_neg af];rw[if_neg af];rw[if_neg af];rw[if_neg af]⟩)
  have HC:=aa hC;clear hC ho1 ho2 ho3 ho4 ho5 q01 q02 q03 q04 q12 q13 q14 q23 q24 q34 hB1 hB2 hB3 hB4 hB5;go_simp;exact hK _ _ (Fw _ _) ⟨_,rfl,HC.out⟩
 refine Gi.au.done ?_;intro q wz lo hi hW hf hap;clear hap;simp only[FI] at hf;obtain⟨hf20,-⟩:=hf;obtain⟨d',h20,ho⟩:=hf20 cr;have HO:=aa ho;have HBz:=aa (HB.trans (Below.mono hW HB.size));have gr:=(Below.block hW _ (ae Br.out)).trans Br.out;obtain⟨r0,r1,r2,r3,r4,r5⟩:=cs6 gr;have f0:=av gr 0;have f1:=av gr 1;have f2:=av gr 2;have f3:=av gr 3;have f4:=av gr 4;have f5:=av gr 5;clear gr ho hW;intro K hK;rw[if_pos bF];simp only[Gi.aE,Gd,GI,Fz,FH,FM,h20];simp only[List.getLast];go_simp;refine hK _ _ ?_;refine hK0 _ _ ?_;clear hK hK0 K K0;go_wp2_with fail;refine bodyPost_ret (v:=.agg #[.slice d'.a1 d'.l1 d'.c1,.slice d'.a2 d'.l2 d'.c2,.slice d'.a3 d'.l3 d'.c3,.slice d'.a4 d'.l4 d'.c4,.slice d'.a5 d'.l5 d'.c5,.int .i64 c.now]) (by simp[results,Tryz.results31,go_sem, *]) rfl ⟨d',rfl,?_,sb1 (sb1 (sb1 (sb1 (sb1 (sb1 (HBz.out))))))⟩;obtain⟨P,hP⟩:=HO.out;exact⟨P,hP.aM (fun k _ s=>by have s1:W.heap.size<=k:=s;rw[Fp _ _ _ _ (show k≠w.heap.size+1 by omega),Fp _ _ _ _ (show k≠w.heap.size+1 by omega),Fp _ _ _ _ (show k≠w.heap.size+1 by omega),Fp _ _ _ _ (show k≠w.heap.size+1 by omega),Fp _ _ _ _ (show k≠w.heap.size+1 by omega),Fp _ _ _ _ (show k≠w.heap.size+1 by omega)]) (fun k _ s=>by have s1:W.heap.size<=k:=s;show w.heap.size<=k;omega)⟩

def EE (Is:Co->Prop) (w:World) (e:Ending) (w':World):Prop:=∃g o,e=.returned (.agg #[.slice g.a1 g.l1 g.c1,.slice g.a2 g.l2 g.c2,.slice g.a3 g.l3 g.c3,.slice g.a4 g.l4 g.c4,.slice g.a5 g.l5 g.c5,.int .i64 o.c.now,.string o.n,.int .i64 o.p])/\Is o/\bQ w' g o.c.raw (fun k=>w.heap.size<=k)/\Below w.heap.size w w'

def wo {α:Type} (nm:α->ByteArray) (t:ByteArray) (xs:List α):List α:=xs.filter fun x=> !((nm x).toList==t.toList)
theorem uh {α:Type} {nm:α->ByteArray} {t:ByteArray} {xs:List α} {k:Nat} {x:α} (h:xs[k]?=some x) (hn:((nm x).toList==t.toList)=false):wo nm t (xs.take (k+1))=wo nm t (xs.take k)++[x]:=by
 unfold wo;rw[F6,h,Hb];simp[hn]
theorem D7 {α:Type} {nm:α->ByteArray} {t:ByteArray} {xs:List α} {k:Nat} {x:α} (h:xs[k]?=some x) (hn:((nm x).toList==t.toList)=true):wo nm t (xs.take (k+1))=wo nm t (xs.take k):=by
 unfold wo;rw[F6,h,Hb];simp[hn]
theorem kP {α:Type} (nm:α->ByteArray) (t:ByteArray) (xs:List α):(wo nm t xs).length<=xs.length:=List.length_filter_le _ _
structure Sel {α β:Type} (xs ys:List α) (vss ws:List β) (k:Nat) (f:Nat->Nat):Prop where
 len:ws.length=ys.length
 y:∀j,j<ys.length->ys[j]?=xs[f j]?
 v:∀j,j<ys.length->ws[j]?=vss[f j]?
 lt:∀j,j<ys.length->f j<k
 inj:∀i j,i<ys.length->j<ys.length->f i=f j->i=j
theorem Sel.nil {α β:Type} (xs:List α) (vss:List β) (k:Nat) (f:Nat->Nat):Sel xs [] vss [] k f:=⟨rfl,fun j h=>by simp at h,fun j h=>by simp at h,fun j h=>by simp at h,fun i j h=>by simp at h⟩
theorem Sel.up {α β:Type} {xs ys:List α} {vss ws:List β} {k:Nat} {f:Nat->Nat} (h:Sel xs ys vss ws k f):Sel xs ys vss ws (k+1) f:=⟨h.len,h.y,h.v,fun j hj=>Nat.lt_succ_of_lt (h.lt j hj),h.inj⟩
theorem Sel.push {α β:Type} {xs ys:List α} {vss ws:List β} {k:Nat} {f:Nat->Nat} (h:Sel xs ys vss ws k f) {x:α} {u:β} (hx:xs[k]?=some x) (hu:vss[k]?=some u):Sel xs (ys++[x]) vss (ws++[u]) (k+1) (fun j=>if j=ys.length then k else f j):=by
 have hl:=h.len;refine⟨by simp[hl],fun j hj=>?_,fun j hj=>?_,fun j hj=>?_,fun i j hi hj e=>?_⟩
 ·by_cases e:j=ys.length
  ·subst e;simp[hx]
  ·have hj':j<ys.length:=by simp at hj;omega
   rw[FN hj',if_neg e];exact h.y j hj'
 ·by_cases e:j=ys.length
  ·subst e;rw[if_pos rfl,hu,List.getElem?_append_right af,hl,Nat.sub_self];rfl
  ·have hj':j<ys.length:=by simp at hj;omega
   rw[FN af,if_neg e];exact h.v j hj'
 ·by_cases e:j=ys.length
  ·simp only[if_pos e];omega
  ·have hj':j<ys.length:=by simp at hj;omega
   simp only[if_neg e];have:=h.lt j hj';omega
 ·by_cases e1:i=ys.length <;> by_cases e2:j=ys.length
  ·omega
  ·have hj':j<ys.length:=by simp at hj;omega
   simp only[if_pos e1,if_neg e2] at e;have:=h.lt j hj';omega
  ·have hi':i<ys.length:=by simp at hi;omega
   simp only[if_pos e2,if_neg e1] at e;have:=h.lt i hi';omega
  ·simp only[if_neg e1,if_neg e2] at e;exact h.inj i j (by simp at hi;omega) (by simp at hj;omega) e
theorem Sel.lU {w:World} {S:Nat->Prop} {m k:Nat} {α:Type} {F:α->List Fv} {xs ys:List α} {vss ws:List (List Value)} {H:Nat->Nat->Nat} {f:Nat->Nat} (h:Sel xs ys vss ws k f) (hv:aX w S m (xs.map F) vss H):aX w S m (ys.map F) ws (fun j=>H (f j)):=
 hv.Fi f (by rw[h.len,FU]) (fun j hj=>by rw[FU] at hj;rw[FC,FC,h.y j hj]) (fun j hj=>by rw[FU] at hj;exact h.v j hj) (fun i j hi hj e=>h.inj i j (by simpa using hi) (by simpa using hj) e)
theorem um {vs:List Value} {a0 a1 a2 a3 a4:Value} (hl:vs.length=5) (h0:vs[0]?=some a0) (h1:vs[1]?=some a1) (h2:vs[2]?=some a2) (h3:vs[3]?=some a3) (h4:vs[4]?=some a4):vs=[a0,a1,a2,a3,a4]:=by
 apply Ht;intro i;rcases i with _|_|_|_|_|i
 ·exact h0
 ·exact h1
 ·exact h2
 ·exact h3
 ·exact h4
 ·exact qm
theorem uk {vs:List Value} {a0 a1 a2 a3 a4 a5:Value} (hl:vs.length=6) (h0:vs[0]?=some a0) (h1:vs[1]?=some a1) (h2:vs[2]?=some a2) (h3:vs[3]?=some a3) (h4:vs[4]?=some a4) (h5:vs[5]?=some a5):vs=[a0,a1,a2,a3,a4,a5]:=by
 apply Ht;intro i;rcases i with _|_|_|_|_|_|i
 ·exact h0
 ·exact h1
 ·exact h2
 ·exact h3
 ·exact h4
 ·exact h5
 ·exact qm
theorem uj {vs:List Value} {a0 a1 a2 a3 a4 a5 a6 a7:Value} (hl:vs.length=8) (h0:vs[0]?=some a0) (h1:vs[1]?=some a1) (h2:vs[2]?=some a2) (h3:vs[3]?=some a3) (h4:vs[4]?=some a4) (h5:vs[5]?=some a5) (h6:vs[6]?=some a6) (h7:vs[7]?=some a7):vs=[a0,a1,a2,a3,a4,a5,a6,a7]:=by
 apply Ht;intro i;rcases i with _|_|_|_|_|_|_|_|i
 ·exact h0
 ·exact h1
 ·exact h2
 ·exact h3
 ·exact h4
 ·exact h5
 ·exact h6
 ·exact h7
 ·exact qm
theorem bP {w:World} {S:Nat->Prop} {m g:Nat} {rs:List (List Fv)} {vss:List (List Value)} {H:Nat->Nat->Nat} (hV:aX w S m rs vss H) (hc:∀(k:Nat) u,vss.flatten[k]?=some u->w.cell? ⟨g,k,none⟩=some u) {k:Nat} {vs:List Value} (hk:vss[k]?=some vs) {i:Nat} {u:Value} (hi:i<m) (hu:w.cell? ⟨g,k*m+i,none⟩=some u):vs[i]?=some u:=by
 have hl:=hV.all k vs hk;have h1:vs[i]?=some (vs[i]'(by omega)):=Fu _;have h2:=hc _ _ (fH hV.all hk h1);rw[hu] at h2;rw[h1];exact h2.symm

theorem tF (a:Option Addr) (len cap:Nat) (xs:List Pd) (t:ByteArray) (Q:Nat->Prop) (w:World) (ho:az w a len cap 6 64 (xs.map pdF) Q) (hl:len<=8):
  Calls Tryz.prog 129 #[.slice a len cap,.string t] w fun e w'=> ∃a' l' c',e=.returned (.slice a' l' c')/\az w' a' l' c' 6 64 ((wo Pd.n t xs).map pdF) (fun k=>Q k\/w.heap.size<=k)/\Below w.heap.size w w':=by
 have HR:=aa ho.row;have hxl:xs.length=len:=jI
 obtain⟨vss,H,hV,hcell⟩:=ho.lU;have HV:=aa hV;have HC:=aa hcell;have hvl:vss.length=xs.length:=by rw[hV.len,FU]
 clear ho hV hcell;obtain⟨i0,hi,hz0,hz1,hz2⟩:=info_parts iK;have HI0:=aa (Fo hi (Fo hz0 (Fo hz1 hz2)));clear hi hz0 hz1 hz2;have hmcalled:∀(v:Value) (w:World),(method 416 64 v "loop.example/g00571/impl.called").run Tryz.prog w=.ok (246,v) w:=fun _ _=>by kernel_rfl
 go_enter Tryz.func129,Tryz.ntmps129;go_wp2;go_loopw [5,10] (fun vo vi wr=> ∃(k:Nat) (ws:List (List Value)) (f:Nat->Nat),k<=len/\vi=.int .i64 k/\Hid (wr.ownsRow w.heap.size 64 6 vo (wo Pd.n t (xs.take k)).length ws.flatten)/\Hid (Sel xs (wo Pd.n t (xs.take k)) vss ws k f)/\Hid (Below w.heap.size w wr)) (fun _ vi _=>len - (intOf vi).toNat);case atStart=>exact⟨0,[],fun _=>0,by omega,rfl,Gh _ _ _ _,Sel.nil _ _ _ _,Fw _ _⟩
 case round=>
  obtain⟨k,ws,f,hk,rfl,HO,HF,HB⟩:=hrel;have hBs:=HB.size;by_cases hlt:k<len
  ·obtain⟨b,o,x,rfl,hb,hx,hat⟩:=bY HR.out hlt;obtain⟨va,vl,vc,hvr,z0,z2,z4,c0,c1,c2,c3,c4,c5⟩:=aT hat;have hvk:vss[k]?=some [.string x.n,.int .i64 x.c,.string x.z,.slice va vl vc,.string x.d,.int .i64 x.p]:=by
    have hkv:k<vss.length:=af
    have h1:=Fu hkv;have hoz:o=0:=by
     exact vC
    subst hoz;have hc2:∀(j:Nat) u,vss.flatten[j]?=some u->w.cell? ⟨b,j,none⟩=some u:=fun j u hj=>by
     obtain⟨g,e,_,h3⟩:=HC.out j u hj;cases e;exact h3
    rw[h1];refine congrArg some (uk (HV.all k _ h1) (bP HV.out hc2 h1 aj (by simpa using c0)) (bP HV.out hc2 h1 aj (by simpa using c1)) (bP HV.out hc2 h1 aj (by simpa using c2)) (bP HV.out hc2 h1 aj (by simpa using c3)) (bP HV.out hc2 h1 aj (by simpa using c4)) (bP HV.out hc2 h1 aj (by simpa using c5)))
   have HX:=aa hx;have HVK:=aa hvk;replace c0:=(ak HB.out hb).trans c0;replace c1:=(ak HB.out hb).trans c1;replace c2:=(ak HB.out hb).trans c2;replace c3:=(ak HB.out hb).trans c3;replace c4:=(ak HB.out hb).trans c4;replace c5:=(ak HB.out hb).trans c5;clear hat hx hvk hvr z0 z2 z4;have hn8:=kP Pd.n t (xs.take k);have hn9:(wo Pd.n t (xs.take k)).length<=k:=by rw[FQ] at hn8;omega
   go_wp2_with fail;refine (dU x va vl vc _).mono ?_;rintro e w1 ⟨rfl,hb1⟩;obtain⟨hn1,hbx⟩:=aL hb1;obtain⟨n0,n1,n2,n3,n4,n5⟩:=cs6 hn1;have hs1:=ae hn1;have HO1:=aa (bM HO.out hbx);have HB1:=aa (HB.trans (hbx.mono hBs));clear hb1 hbx hn1 c0 c1 c2 c3 c4 c5;cases hq:(x.n.toList==t.toList)
   ·have hq2:(x.n.toList !=t.toList)=true:=by simp[bne,hq]
    go_wp2_with (first|(at_builtin;refine wpList_append_own _ rfl _ _ 138 rfl w.heap.size 64 i0 (.agg #[.string ⟨#[]⟩,.int .i64 0,.string ⟨#[]⟩,.slice none 0 0,.string ⟨#[]⟩,.int .i64 0]) 6 88 Tryz.underlying138 HI0.1 HI0.2.1 HI0.2.2.1 HI0.2.2.2 rfl aj _ _ _ rfl (HO1.alloc _) ⟨w1.heap.size,0,none⟩ 1 1 [.string x.n,.int .i64 x.c,.string x.z,.slice va vl vc,.string x.d,.int .i64 x.p] rfl rfl ?c1 ?c2 ?c3 ?c4 ?c5 ?_));case c1=>exact de _ _ _
    case c2=>intro u hu;simp only[Gj,GM,or_false] at hu;rcases hu with rfl|rfl|rfl|rfl|rfl|rfl <;> rfl
    case c3=>unfold maxLen;omega
    case c4=>omega
    case c5=>simp;omega
    rintro v' w3 hown3 hgrow -;have HO3:Hid (w3.ownsRow w.heap.size 64 6 v' (wo Pd.n t (xs.take (k+1))).length (ws++([[.string x.n,.int .i64 x.c,.string x.z,.slice va vl vc,.string x.d,.int .i64 x.p]]:List (List Value))).flatten):=by
     exact p8
    exact vP
   ·exact vK
  ·exact wS

theorem tD (a:Option Addr) (len cap:Nat) (xs:List Xd) (t:ByteArray) (Q:Nat->Prop) (w:World) (ho:az w a len cap 5 105 (xs.map xdF) Q) (hl:len<=8):
  Calls Tryz.prog 188 #[.slice a len cap,.string t] w fun e w'=> ∃a' l' c',e=.returned (.slice a' l' c')/\az w' a' l' c' 5 105 ((wo Xd.n t xs).map xdF) (fun k=>Q k\/w.heap.size<=k)/\Below w.heap.size w w':=by
 have HR:=aa ho.row;have hxl:xs.length=len:=jI
 obtain⟨vss,H,hV,hcell⟩:=ho.lU;have HV:=aa hV;have HC:=aa hcell;have hvl:vss.length=xs.length:=by rw[hV.len,FU]
 clear ho hV hcell;obtain⟨i0,hi,hz0,hz1,hz2⟩:=info_parts iJ;have HI0:=aa (Fo hi (Fo hz0 (Fo hz1 hz2)));clear hi hz0 hz1 hz2;have hmcalled:∀(v:Value) (w:World),(method 416 105 v "loop.example/g00571/impl.called").run Tryz.prog w=.ok (254,v) w:=fun _ _=>by kernel_rfl
 go_enter Tryz.func188,Tryz.ntmps188;go_wp2;go_loopw [5,10] (fun vo vi wr=> ∃(k:Nat) (ws:List (List Value)) (f:Nat->Nat),k<=len/\vi=.int .i64 k/\Hid (wr.ownsRow w.heap.size 105 5 vo (wo Xd.n t (xs.take k)).length ws.flatten)/\Hid (Sel xs (wo Xd.n t (xs.take k)) vss ws k f)/\Hid (Below w.heap.size w wr)) (fun _ vi _=>len - (intOf vi).toNat);case atStart=>exact⟨0,[],fun _=>0,by omega,rfl,Gh _ _ _ _,Sel.nil _ _ _ _,Fw _ _⟩
 case round=>
  obtain⟨k,ws,f,hk,rfl,HO,HF,HB⟩:=hrel;have hBs:=HB.size;by_cases hlt:k<len
  ·obtain⟨b,o,x,rfl,hb,hx,hat⟩:=dF HR.out hlt;obtain⟨z0,z2,z4,c0,c1,c2,c3,c4⟩:=bw hat;have hvk:vss[k]?=some [.string x.n,.int .i64 x.z,.string x.k,.bool x.x,.string x.v]:=by
    have hkv:k<vss.length:=af
    have h1:=Fu hkv;have hoz:o=0:=by
     exact vC
    subst hoz;have hc2:∀(j:Nat) u,vss.flatten[j]?=some u->w.cell? ⟨b,j,none⟩=some u:=fun j u hj=>by
     obtain⟨g,e,_,h3⟩:=HC.out j u hj;cases e;exact h3
    rw[h1];refine congrArg some (um (HV.all k _ h1) (bP HV.out hc2 h1 aj (by simpa using c0)) (bP HV.out hc2 h1 aj (by simpa using c1)) (bP HV.out hc2 h1 aj (by simpa using c2)) (bP HV.out hc2 h1 aj (by simpa using c3)) (bP HV.out hc2 h1 aj (by simpa using c4)))
   have HX:=aa hx;have HVK:=aa hvk;replace c0:=(ak HB.out hb).trans c0;replace c1:=(ak HB.out hb).trans c1;replace c2:=(ak HB.out hb).trans c2;replace c3:=(ak HB.out hb).trans c3;replace c4:=(ak HB.out hb).trans c4;clear hat hx hvk z0 z2 z4;have hn8:=kP Xd.n t (xs.take k);have hn9:(wo Xd.n t (xs.take k)).length<=k:=by rw[FQ] at hn8;omega
   go_wp2_with fail;refine (dR x _).mono ?_;rintro e w1 ⟨rfl,hb1⟩;obtain⟨hn1,hbx⟩:=aL hb1;obtain⟨n0,n1,n2,n3,n4⟩:=cs5 hn1;have hs1:=ae hn1;have HO1:=aa (bM HO.out hbx);have HB1:=aa (HB.trans (hbx.mono hBs));clear hb1 hbx hn1 c0 c1 c2 c3 c4;cases hq:(x.n.toList==t.toList)
   ·have hq2:(x.n.toList !=t.toList)=true:=by simp[bne,hq]
    go_wp2_with (first|(at_builtin;refine wpList_append_own _ rfl _ _ 202 rfl w.heap.size 105 i0 (.agg #[.string ⟨#[]⟩,.int .i64 0,.string ⟨#[]⟩,.bool false,.string ⟨#[]⟩]) 5 64 Tryz.underlying202 HI0.1 HI0.2.1 HI0.2.2.1 HI0.2.2.2 rfl aj _ _ _ rfl (HO1.alloc _) ⟨w1.heap.size,0,none⟩ 1 1 [.string x.n,.int .i64 x.z,.string x.k,.bool x.x,.string x.v] rfl rfl ?c1 ?c2 ?c3 ?c4 ?c5 ?_));case c1=>exact de _ _ _
    case c2=>intro u hu;simp only[Gj,GM,or_false] at hu;rcases hu with rfl|rfl|rfl|rfl|rfl <;> rfl
    case c3=>unfold maxLen;omega
    case c4=>omega
    case c5=>simp;omega
    rintro v' w3 hown3 hgrow -;have HO3:Hid (w3.ownsRow w.heap.size 105 5 v' (wo Xd.n t (xs.take (k+1))).length (ws++([[.string x.n,.int .i64 x.z,.string x.k,.bool x.x,.string x.v]]:List (List Value))).flatten):=by
     exact p8
    exact vP
   ·exact vK
  ·exact wS

theorem tE (a:Option Addr) (len cap:Nat) (xs:List Vd) (t:ByteArray) (Q:Nat->Prop) (w:World) (ho:az w a len cap 8 99 (xs.map vdF) Q) (hl:len<=8):
  Calls Tryz.prog 190 #[.slice a len cap,.string t] w fun e w'=> ∃a' l' c',e=.returned (.slice a' l' c')/\az w' a' l' c' 8 99 ((wo Vd.n t xs).map vdF) (fun k=>Q k\/w.heap.size<=k)/\Below w.heap.size w w':=by
 have HR:=aa ho.row;have hxl:xs.length=len:=jI
 obtain⟨vss,H,hV,hcell⟩:=ho.lU;have HV:=aa hV;have HC:=aa hcell;have hvl:vss.length=xs.length:=by rw[hV.len,FU]
 clear ho hV hcell;obtain⟨i0,hi,hz0,hz1,hz2⟩:=info_parts gi;have HI0:=aa (Fo hi (Fo hz0 (Fo hz1 hz2)));clear hi hz0 hz1 hz2;have hmcalled:∀(v:Value) (w:World),(method 416 99 v "loop.example/g00571/impl.called").run Tryz.prog w=.ok (250,v) w:=fun _ _=>by kernel_rfl
 go_enter Tryz.func190,Tryz.ntmps190;go_wp2;go_loopw [5,10] (fun vo vi wr=> ∃(k:Nat) (ws:List (List Value)) (f:Nat->Nat),k<=len/\vi=.int .i64 k/\Hid (wr.ownsRow w.heap.size 99 8 vo (wo Vd.n t (xs.take k)).length ws.flatten)/\Hid (Sel xs (wo Vd.n t (xs.take k)) vss ws k f)/\Hid (Below w.heap.size w wr)) (fun _ vi _=>len - (intOf vi).toNat);case atStart=>exact⟨0,[],fun _=>0,by omega,rfl,Gh _ _ _ _,Sel.nil _ _ _ _,Fw _ _⟩
 case round=>
  obtain⟨k,ws,f,hk,rfl,HO,HF,HB⟩:=hrel;have hBs:=HB.size;by_cases hlt:k<len
  ·obtain⟨b,o,x,rfl,hb,hx,hat⟩:=bN HR.out hlt;obtain⟨va,vl,vc,hvr,z0,z2,z3,z5,c0,c1,c2,c3,c4,c5,c6,c7⟩:=aK hat;have hvk:vss[k]?=some [.string x.n,.int .i64 x.c,.string x.z,.string x.k,.bool x.x,.string x.m,.bool x.y,.slice va vl vc]:=by
    have hkv:k<vss.length:=af
    have h1:=Fu hkv;have hoz:o=0:=by
     exact vC
    subst hoz;have hc2:∀(j:Nat) u,vss.flatten[j]?=some u->w.cell? ⟨b,j,none⟩=some u:=fun j u hj=>by
     obtain⟨g,e,_,h3⟩:=HC.out j u hj;cases e;exact h3
    rw[h1];refine congrArg some (uj (HV.all k _ h1) (bP HV.out hc2 h1 aj (by simpa using c0)) (bP HV.out hc2 h1 aj (by simpa using c1)) (bP HV.out hc2 h1 aj (by simpa using c2)) (bP HV.out hc2 h1 aj (by simpa using c3)) (bP HV.out hc2 h1 aj (by simpa using c4)) (bP HV.out hc2 h1 aj (by simpa using c5)) (bP HV.out hc2 h1 aj (by simpa using c6)) (bP HV.out hc2 h1 aj (by simpa using c7)))
   have HX:=aa hx;have HVK:=aa hvk;replace c0:=(ak HB.out hb).trans c0;replace c1:=(ak HB.out hb).trans c1;replace c2:=(ak HB.out hb).trans c2;replace c3:=(ak HB.out hb).trans c3;replace c4:=(ak HB.out hb).trans c4;replace c5:=(ak HB.out hb).trans c5;replace c6:=(ak HB.out hb).trans c6;replace c7:=(ak HB.out hb).trans c7;clear hat hx hvk hvr z0 z2 z3 z5;have hn8:=kP Vd.n t (xs.take k);have hn9:(wo Vd.n t (xs.take k)).length<=k:=by rw[FQ] at hn8;omega
   go_wp2_with fail;refine (dS x va vl vc _).mono ?_;rintro e w1 ⟨rfl,hb1⟩;obtain⟨hn1,hbx⟩:=aL hb1;obtain⟨n0,n1,n2,n3,n4,n5,n6,n7⟩:=cs8 hn1;have hs1:=ae hn1;have HO1:=aa (bM HO.out hbx);have HB1:=aa (HB.trans (hbx.mono hBs));clear hb1 hbx hn1 c0 c1 c2 c3 c4 c5 c6 c7;cases hq:(x.n.toList==t.toList)
   ·have hq2:(x.n.toList !=t.toList)=true:=by simp[bne,hq]
    go_wp2_with (first|(at_builtin;refine wpList_append_own _ rfl _ _ 201 rfl w.heap.size 99 i0 (.agg #[.string ⟨#[]⟩,.int .i64 0,.string ⟨#[]⟩,.string ⟨#[]⟩,.bool false,.string ⟨#[]⟩,.bool false,.slice none 0 0]) 8 112 Tryz.underlying201 HI0.1 HI0.2.1 HI0.2.2.1 HI0.2.2.2 rfl aj _ _ _ rfl (HO1.alloc _) ⟨w1.heap.size,0,none⟩ 1 1 [.string x.n,.int .i64 x.c,.string x.z,.string x.k,.bool x.x,.string x.m,.bool x.y,.slice va vl vc] rfl rfl ?c1 ?c2 ?c3 ?c4 ?c5 ?_));case c1=>exact de _ _ _
    case c2=>intro u hu;simp only[Gj,GM,or_false] at hu;rcases hu with rfl|rfl|rfl|rfl|rfl|rfl|rfl|rfl <;> rfl
    case c3=>unfold maxLen;omega
    case c4=>omega
    case c5=>simp;omega
    rintro v' w3 hown3 hgrow -;have HO3:Hid (w3.ownsRow w.heap.size 99 8 v' (wo Vd.n t (xs.take (k+1))).length (ws++([[.string x.n,.int .i64 x.c,.string x.z,.string x.k,.bool x.x,.string x.m,.bool x.y,.slice va vl vc]]:List (List Value))).flatten):=by
     exact p8
    exact vP
   ·exact vK
  ·exact wS

theorem ft.E3 {w2 w3 w4:World} {d:Ad} {c:Cr} {B:Nat} {P:Nat->Nat} (h:ft w2 d c (fun k=>B<=k) P) (hB:B<=w2.heap.size) {a:Option Addr} {l cp:Nat} {rs:List (List Fv)} (hN:az w3 a l cp 6 64 rs (fun k=>((B<=k/\P k=5)/\k<w2.heap.size)\/w2.heap.size+1<=k)) (hb:Below w2.heap.size w2 w3) (hk:∀k,B<=k->¬k=w2.heap.size->w4.heap[k]?=w3.heap[k]?):bQ w4 ⟨d.a1,d.l1,d.c1,d.a2,d.l2,d.c2,d.a3,d.l3,d.c3,d.a4,d.l4,d.c4,a,l,cp⟩ ⟨c.n,c.k,c.v,c.x,rs⟩ (fun k=>B<=k):=by
 refine⟨fun k=>if w2.heap.size+1<=k then 5 else P k,?_,?_,?_,?_,?_⟩
 ·exact h.n.aM (fun k hl s=>(hk k s.1 af).trans (hb.block k hl)) (fun k hl s=>⟨s.1,by show (if w2.heap.size+1<=k then 5 else P k)=1;rw[if_neg af];exact s.2⟩)
 ·exact h.k.aM (fun k hl s=>(hk k s.1 af).trans (hb.block k hl)) (fun k hl s=>⟨s.1,by show (if w2.heap.size+1<=k then 5 else P k)=2;rw[if_neg af];exact s.2⟩)
 ·exact h.v.aM (fun k hl s=>(hk k s.1 af).trans (hb.block k hl)) (fun k hl s=>⟨s.1,by show (if w2.heap.size+1<=k then 5 else P k)=3;rw[if_neg af];exact s.2⟩)
 ·exact h.x.aM (fun k hl s=>(hk k s.1 af).trans (hb.block k hl)) (fun k hl s=>⟨s.1,by show (if w2.heap.size+1<=k then 5 else P k)=4;rw[if_neg af];exact s.2⟩)
 ·refine hN.aM (fun k _ s=>hk k (by rcases s with s|s;exact s.1.1;omega) (by rcases s with s|s <;> omega)) (fun k _ s=>?_);rcases s with s|s
  ·exact⟨s.1.1,by show (if w2.heap.size+1<=k then 5 else P k)=5;rw[if_neg af];exact s.1.2⟩
  ·exact⟨by show B<=k;omega,if_pos s⟩

def E9 (E:Nat->Addr) (Why:Nat->Prop) (ok:Prop) (w:World) (e:Ending) (w':World):Prop:=Below w.heap.size w w'/\((∃i,i<9/\Why i/\e=.returned (.iface 266 (.pointer (some (E i)))))\/(ok/\e=.returned .nilIface))

theorem mO {α:Type} {nm:α->ByteArray} {t:ByteArray} {xs:List α} {k:Nat} {x:α} (hr:aP nm xs) (hx:xs[k]?=some x) (hn:nm x=t):wo nm t xs=xs.take k++xs.drop (k+1):=by
 have hk:k<xs.length:=(Fm.1 hx).1;have e:xs=xs.take k++x ::xs.drop (k+1):=by
  have h1:xs.drop k=x ::xs.drop (k+1):=by rw[List.drop_eq_getElem_cons hk];congr 1;exact (Fm.1 hx).2
  rw[<-h1,List.take_append_drop]
 have hno:∀(j:Nat) y,xs[j]?=some y->¬j=k->(!((nm y).toList==t.toList))=true:=fun j y hj hne=>by
  have:¬nm y=t:=fun q=>hne (hr.inj hj hx (q.trans hn.symm)).1;simp[bC this]
 have h1:(xs.take k).filter (fun x=> !((nm x).toList==t.toList))=xs.take k:=List.filter_eq_self.2 fun y hy=>by
  obtain⟨j,hj⟩:=FW hy;rw[FR] at hj;split at hj
  ·exact hno j y hj af
  ·cases hj
 have h2:(xs.drop (k+1)).filter (fun x=> !((nm x).toList==t.toList))=xs.drop (k+1):=List.filter_eq_self.2 fun y hy=>by
  obtain⟨j,hj⟩:=FW hy;rw[Gm] at hj;exact hno _ y hj af
 unfold wo;conv=>lhs;rw[e]
 rw[Hb,List.filter_cons,h1,h2,a9 hn];rfl

theorem bp (w:World) (dT sT ty elem:TypeId) (g o dLen dCap:Nat) (a:Addr) (sLen sCap m:Nat) (cur:Array Value) (t:TypeId) (cs:List Value) (i:TypeInfo)
  (hu:Tryz.prog.underlying dT=some (.slice elem)) (hi:Tryz.prog.info? elem=some i) (hs:i.size=m)
  (hg:w.heap[g]?=some (.cells cur t (0,0))) (hn:cs.length=Nat.min sLen dLen*m)
  (hsrc:∀j v,cs[j]?=some v->w.cell? (a.add j)=some v) (hfit:o+cs.length<=cur.size) (h1:∀v∈cs,v.oneCell'=true):
  (GL #[dT,sT] ty #[.slice (some ⟨g,o,none⟩) dLen dCap,.slice (some a) sLen sCap]).run Tryz.prog w=
   .ok (goInt (Nat.min sLen dLen)) (w.setRow g (cur.toList.take o++cs++cur.toList.drop (o+cs.length)).toArray):=by
 have hl:=run_loadCells_list (P:=Tryz.prog) w a cs hsrc;have hst:=run_storeCells_at Tryz.prog g o t cs 0 cur w hg (by simpa using hfit) h1;rw[hn] at hl;simp[GL,run_underlying hu,Builtin.lenOf,Builtin.firstCells,sizeOf,typeInfo,hi,hs,hl,hst]
theorem ki {a b c m:Nat} {X ys cur c1:List Value} (hX:cur.take b=X) (hc:cur.length=c) (h1:a+m<=b) (h2:b+m<=c) (hy:ys.length=m) (h:c1=cur.take (a+m)++X.drop a++cur.drop (a+m+(X.drop a).length)):(c1.take a++(ys++c1.drop (a+m))).take (b+m)=X.take a++ys++X.drop a:=by
 have hXl:X.length=b:=by rw[<-hX,FQ];omega
 have e1:c1.take a=X.take a:=by
  rw[h,List.append_assoc,List.take_append_of_le_length jK,List.take_take,<-hX,List.take_take];congr 1;omega
 have e2:c1.drop (a+m)=X.drop a++cur.drop (a+m+(X.drop a).length):=by
  rw[h,List.append_assoc];exact List.drop_left' jK
 rw[e1,e2,<-List.append_assoc,<-List.append_assoc];exact List.take_left' BC
theorem iM {a b m:Nat} {X ys R R2 S:List Value} (hX:R.take a=X.take a) (hXl:X.length=b) (h1:a<=b) (hy:ys.length=m) (h:R2=R.take a++ys++S) (T:List Value):(R2.take (a+m)++X.drop a++T).take (b+m)=X.take a++ys++X.drop a:=by
 have e1:R2.take (a+m)=X.take a++ys:=by
  rw[h,hX];exact List.take_left' (by simp only[F7,FQ];omega)
 rw[e1];exact List.take_left' BC
theorem gZ (w:World) (g:Nat) (cs:Array Value):w.grownBy (w.setRow g cs) (some g):=⟨rfl,rfl,rfl,by simp[World.setRow],fun k _ h=>setRow_other w g k cs (fun e=>h (by rw[e]))⟩
theorem cG {ops:Array Oper} {o:Oper} {a:Act} {w:World} {K:Act->World->Prop} {Q:Exit->Act->World->Prop} {E:Prop}
  (hg:o.guard=none) (d x:Operand) (dT sT:TypeId) (hop:o.op=Op.call { callee:=Callee.builtin Builtin.copy,args:=#[d,x],argTypes:=#[dT,sT] })
  (v u:Value) (hd:a.eval d=v) (hx:a.eval x=u) {v':Value} {w':World} (hr:(GL #[dT,sT] o.type #[v,u]).run Tryz.prog w=.ok v' w') (hK:K (a.put o.dst v') w'):
  if GO o (yielded ops a.tmps)=true then Oper.wp Tryz.prog o a w K Q else E:=by
 have hw:GO o (yielded ops a.tmps)=true:=by simp[GO,hg]
 rw[if_pos hw];unfold Oper.wp;simp[execOp,hop,resolve,invoke,builtin,hd,hx,hr,Result.andThen];exact hK

theorem iL {α:Type} {m p:Nat} {vss:List (List α)} (h:∀(j:Nat) vs,vss[j]?=some vs->vs.length=m) (hp:p<=vss.length) (vs:List α):(br p vs vss).flatten=vss.flatten.take (p*m)++vs++vss.flatten.drop (p*m):=by
 have hl:((vss.take p).flatten).length=p*m:=by
  rw[dr (m:=m) (fun j v hv=>by
   rw[FR] at hv
   split at hv
   ·exact h j v hv
   ·cases hv),FQ,Nat.min_eq_left hp]
 have e:vss.flatten=(vss.take p).flatten++(vss.drop p).flatten:=sg
 have e1:vss.flatten.take (p*m)=(vss.take p).flatten:=by rw[e];exact List.take_left' hl
 have e2:vss.flatten.drop (p*m)=(vss.drop p).flatten:=by rw[e];exact List.drop_left' hl
 rw[e1,e2];simp[br]
end Rc
end Go.Proofs.YtpejepeekdjfoaaGreatDoor

namespace Go.Proofs.YtpejepeekdjfoaaGreatDoor
open Go.RowKit

theorem Dg {a b:Bool} (h:a=b):Ending.returned (.bool a)=.returned (.bool b):=by rw[h]

def iO (w:World) (cb zb:Nat) (n':ByteArray) (c':Int) (k':ByteArray) (x':Bool) (v':ByteArray) (t:ByteArray):Prop:=
 w.heap[cb]?=some (.cells #[.string n',.int .i64 c',.string k',.bool x',.string v'] 105 (0,0))/\w.heap[zb]?=some (.cells #[.string t] 9 (0,0))
theorem iO.below {w w1:World} {cb zb:Nat} {n':ByteArray} {c':Int} {k':ByteArray} {x':Bool} {v' t:ByteArray} (h:iO w cb zb n' c' k' x' v' t) (hb:Below w.heap.size w w1):iO w1 cb zb n' c' k' x' v' t:=
 ⟨(hb.block _ (ae h.1)).trans h.1,(hb.block _ (ae h.2)).trans h.2⟩

theorem A_ (n:ByteArray) (c:Int) (z:ByteArray) (k:ByteArray) (x:Bool) (m:ByteArray) (y:Bool) (a:Option Addr) (len cap:Nat) (cb zb:Nat) (n':ByteArray) (c':Int) (k':ByteArray) (x':Bool) (v':ByteArray) (t:ByteArray) (w:World) (hh:iO w cb zb n' c' k' x' v' t):
  Calls Tryz.prog 214 #[.agg #[.string n,.int .i64 c,.string z,.string k,.bool x,.string m,.bool y,.slice a len cap],.pointer (some ⟨cb,0,none⟩),.pointer (some ⟨zb,0,none⟩)] w fun e w'=>e=.returned (.bool (svB c z k x m y c' k' x' t))/\Below w.heap.size w w':=by
 have hh1:=hh.below (al w (.cells #[.string n,.int .i64 c,.string z,.string k,.bool x,.string m,.bool y,.slice a len cap] 99));have HB:=aa (al w (.cells #[.string n,.int .i64 c,.string z,.string k,.bool x,.string m,.bool y,.slice a len cap] 99));have c1:=aw hh1.1 1;have c2:=aw hh1.1 2;have c3:=aw hh1.1 3;have c4:=aw hh1.2 0;simp only[G9,List.getElem?_cons_succ,F9] at c1 c2 c3 c4;clear hh hh1;unfold svB;cases y;case true=>
  exact wL
 case false=>
  cases h2:m.toList.isEmpty
  ·skip;exact wL
  ·skip;cases h0:(k.toList==k'.toList)
   ·exact vJ
   ·cases h1:(x==x')
    ·exact vJ
    ·skip;cases h4:t.toList.isEmpty
     ·cases h5:(z.toList==t.toList)
      ·skip;exact Dl
      ·exact wN
     ·exact wN

theorem m_ (n':ByteArray) (c':Int) (k':ByteArray) (x':Bool) (v':ByteArray) (t:ByteArray) (w:World):
  Calls Tryz.prog 201 #[.agg #[.string n',.int .i64 c',.string k',.bool x',.string v'],.string t] w fun e w'=>e=.returned (.func (.func 214) #[] #[.pointer (some ⟨w.heap.size,0,none⟩),.pointer (some ⟨w.heap.size+1,0,none⟩)])/\iO w' w.heap.size (w.heap.size+1) n' c' k' x' v' t/\Below w.heap.size w w':=by
 go_enter Tryz.func201,Tryz.ntmps201;go_wp2;go_ret;exact⟨rfl,⟨cU _ _ _,bE _ _ _⟩,aF _ _ _⟩

def Vd.Ok (v:Vd):Prop:=sQ v.n v.c v.z v.k v.x v.m v.y v.zs
def vZ:Vd:=⟨⟨#[]⟩,0,⟨#[]⟩,⟨#[]⟩,false,⟨#[]⟩,false,[]⟩
def jg (vs:List Vd) (n':ByteArray) (c':Int) (k' v' t:ByteArray):Prop:=fJ n' c' k' v'/\cW t/\vs.length<=8/\∀(j:Nat) v,vs[j]?=some v->v.Ok
def mK (vs:List Vd) (n':ByteArray) (c':Int) (k':ByteArray) (x':Bool) (v':ByteArray) (t:ByteArray) (u:Vd) (p:Int):Prop:=
 ((400<vs.length\/8000<t.size)/\u=vZ/\p=2)\/(¬(400<vs.length\/8000<t.size)/\¬jg vs n' c' k' v' t/\u=vZ/\p=1)\/
 (¬(400<vs.length\/8000<t.size)/\jg vs n' c' k' v' t/\dd (svV c' k' x' t) vs=none/\u=vZ/\p=6)\/
 (¬(400<vs.length\/8000<t.size)/\jg vs n' c' k' v' t/\dd (svV c' k' x' t) vs=some u/\p=0)
def dV (vs:List Vd) (n':ByteArray) (c':Int) (k':ByteArray) (x':Bool) (v':ByteArray) (t:ByteArray) (w:World) (e:Ending) (w':World):Prop:=
 ∃u p a l c,e=.returned (.agg #[.string u.n,.int .i64 u.c,.string u.z,.string u.k,.bool u.x,.string u.m,.bool u.y,.slice a l c,.int .i64 p])/\mK vs n' c' k' x' v' t u p/\Ap.bT u.zs w a l c w'
theorem AA {w w':World} (hb:Below w.heap.size w w'):Ap.bT [] w none 0 0 w':=⟨⟨rfl,Ft _,by omega,fun j x hx=>by simp at hx,.inl rfl⟩,.inl rfl,hb⟩
theorem dV.bad {vs:List Vd} {n':ByteArray} {c':Int} {k':ByteArray} {x':Bool} {v' t:ByteArray} {w w':World} {p:Int} (h:mK vs n' c' k' x' v' t vZ p) (hb:Below w.heap.size w w'):
  dV vs n' c' k' x' v' t w (.returned (.agg #[.string ⟨#[]⟩,.int .i64 0,.string ⟨#[]⟩,.string ⟨#[]⟩,.bool false,.string ⟨#[]⟩,.bool false,.slice none 0 0,.int .i64 p])) w':=⟨vZ,p,none,0,0,rfl,h,AA hb⟩
theorem fc {w w1:World} {B b:Nat} {v0 v1 v2 v3 v4 v5 v6 v7 v8:Value} (hB:B<=b) (h:Below B w w1):
  Below B w (((((((((w1.setCell ⟨b,0,none⟩ (v0)).setCell ⟨b,1,none⟩ (v1)).setCell ⟨b,2,none⟩ (v2)).setCell ⟨b,3,none⟩ (v3)).setCell ⟨b,4,none⟩ (v4)).setCell ⟨b,5,none⟩ (v5)).setCell ⟨b,6,none⟩ (v6)).setCell ⟨b,7,none⟩ (v7)).setCell ⟨b,8,none⟩ (v8)):=
 ((((((((h.setCell (p:=⟨b,0,none⟩) hB v0).setCell (p:=⟨b,1,none⟩) hB v1).setCell (p:=⟨b,2,none⟩) hB v2).setCell (p:=⟨b,3,none⟩) hB v3).setCell (p:=⟨b,4,none⟩) hB v4).setCell (p:=⟨b,5,none⟩) hB v5).setCell (p:=⟨b,6,none⟩) hB v6).setCell (p:=⟨b,7,none⟩) hB v7).setCell (p:=⟨b,8,none⟩) hB v8
theorem yW {zs:List ByteArray} {w w':World} {a:Option Addr} {l p b X:Nat} {v0 v1 v2 v3 v4 v5 v6 v7 v8:Value} (h:ay w' a l p zs/\(zs=[]\/∃g cur,a=some ⟨g,0,none⟩/\X<=g/\w'.heap[g]?=some (.cells cur 9 (0,0)))/\Below w.heap.size w w') (hb:w.heap.size<=b) (hX:b<X):
  Ap.bT zs w a l p (((((((((w'.setCell ⟨b,0,none⟩ (v0)).setCell ⟨b,1,none⟩ (v1)).setCell ⟨b,2,none⟩ (v2)).setCell ⟨b,3,none⟩ (v3)).setCell ⟨b,4,none⟩ (v4)).setCell ⟨b,5,none⟩ (v5)).setCell ⟨b,6,none⟩ (v6)).setCell ⟨b,7,none⟩ (v7)).setCell ⟨b,8,none⟩ (v8)):=by
 have h9:=Ap.bT.set (Ap.bT.set (Ap.bT.set (Ap.bT.set (Ap.bT.set (Ap.bT.set (Ap.bT.set (Ap.bT.set (Ap.bT.set h hb hX (i:=0) (v:=v0)) hb hX (i:=1) (v:=v1)) hb hX (i:=2) (v:=v2)) hb hX (i:=3) (v:=v3)) hb hX (i:=4) (v:=v4)) hb hX (i:=5) (v:=v5)) hb hX (i:=6) (v:=v6)) hb hX (i:=7) (v:=v7)) hb hX (i:=8) (v:=v8);refine⟨h9.1,?_,h9.2.2⟩;rcases h9.2.1 with h|⟨g,cur,h1,h2,h3⟩
 ·exact .inl h
 ·exact .inr ⟨g,cur,h1,by omega,h3⟩
theorem tx {zs:List ByteArray} {x:Bool} (h:dD zs (if x=true then 1 else 6)):zs.length<=6:=by
 have:=(iE h).1;omega

def EG (n z t:ByteArray):Prop:=ie n z/\aO t/\(z=⟨#[]⟩\/z=t)

theorem zC (n:ByteArray) (x y:Bool) (z t:ByteArray) (w:World) (hn:n.size<=9223372036854775807) (hz:z.size<=9223372036854775807) (ht:t.size<=9223372036854775807):
  Calls Tryz.prog 205 #[.agg #[.string n,.bool x,.bool y,.string z],.string t] w (ar (EG n z t) w):=by
 go_enter Tryz.func205,Tryz.ntmps205;go_wp2_with fail;refine (gj n z x y _ hn hz).mono ?_;rintro e w1 ⟨r,rfl,hr,hb⟩;obtain⟨g,hb1,-⟩:=cE hb;have HB:=aa hb1;have c3:=ck3 g;clear g hb hb1;by_cases hq:r=true;case neg=>
  have HN:=aa (fun h=>hq (hr.2 h));clear hr;go_wp2_with fail;go_ret;exact⟨false,rfl,⟨fun h=>bU,fun h=>(HN.out h.1).elim⟩,HB.out⟩
 have h0:=aa (hr.1 hq);subst hq;clear hr;go_wp2_with fail;refine (a_ t _ ht).mono ?_;rintro e w2 ⟨r,rfl,hr,rfl⟩;by_cases hq:r=true;case neg=>
  have HN:=aa (fun h=>hq (hr.2 h));clear hr;go_wp2_with fail;go_ret;exact⟨false,rfl,⟨fun h=>bU,fun h=>(HN.out h.2.1).elim⟩,HB.out⟩
 have h1:=aa (hr.1 hq);subst hq;clear hr;by_cases hz0:z=⟨#[]⟩
 ·subst hz0;go_wp2_with fail;go_ret;exact⟨true,rfl,⟨fun _=>⟨h0.out,h1.out,.inl rfl⟩,fun _=>rfl⟩,HB.out⟩
 have HZ:=aa hz0;have hq9:=bc hz0;by_cases hzt:z=t
 ·have hq8:=a9 hzt;have HT:=aa hzt;clear hzt hz0;go_wp2_with fail;go_ret;exact⟨true,rfl,⟨fun _=>⟨h0.out,h1.out,.inr HT.out⟩,fun _=>rfl⟩,HB.out⟩
 ·have hq8:=bC hzt;have HT:=aa hzt;clear hzt hz0;go_wp2_with fail;go_ret;exact⟨false,rfl,⟨fun h=>bU,fun h=>(h.2.2.elim HZ.out HT.out).elim⟩,HB.out⟩

theorem lv:(Tryz.prog.info? 5).map (fun i=>(i.zero,i.size,i.bytes))=some (some (.int .u8 0),1,1):=by kernel_rfl
theorem ir:(Tryz.prog.info? 5).map (·.size)=some 1:=by kernel_rfl

theorem eu {P:Program} {w:World} (dT sT ty:TypeId) (elem:TypeId) (hu:P.underlying dT=some (.slice elem)) (hsz:(P.info? elem).map (·.size)=some 1)
  (dp:Option Addr) (dLen dCap:Nat) (t:ByteArray)
  (g off:Nat) (cur:List Value) (e:TypeId) (hg:w.heap[g]?=some (.cells cur.toArray e (0,0))) (hle:t.size<=dLen) (hpos:0<t.size->dp=some ⟨g,off,none⟩)
  (hfit:off+t.size<=cur.length) (B:Nat) (w0:World) (hb:Below B w0 w) (hBg:B<=g):
  ∃w',(GL #[dT,sT] ty #[.slice dp dLen dCap,.string t]).run P w=.ok (.int .i64 (t.size:Nat)) w'/\
   Hid (w'.heap[g]?=some (.cells (splice cur off (GX t.data.toList)).toArray e (0,0)))/\Below B w0 w':=by
 have hlen:(GX t.data.toList).length=t.size:=by rw[Lib.byteCells_length,<-Lib.size_eq]
 by_cases h0:t.size=0
 ·have hrun:=Lib.run_copy_empty_string (P:=P) w dT sT ty elem dp dLen dCap t hu (by rw[hsz];rfl) h0;have hc:GX t.data.toList=[]:=List.eq_nil_of_length_eq_zero af;rw[h0];exact⟨w,hrun,show _=_ by rw[hc];simpa[splice] using hg,hb⟩
 ·obtain rfl:=hpos af;have hrun:=Lib.run_copy_row_string (P:=P) w dT sT ty elem g off dLen dCap t cur.toArray e hu hsz hg hle (by simpa using hfit);refine⟨_,hrun,?_,below_setRow hb hBg _⟩;show _=_;rw[setRow_heap w g _ _ e _ hg];simp[splice,hlen]

theorem oQ {w:World} {B g n:Nat} {e:TypeId} {xs:List Value} (h:w.ownsRow B e 1 (.slice (some ⟨g,0,none⟩) n n) n xs):
  w.heap[g]?=some (.cells xs.toArray e (0,0))/\xs.length=n/\B<=g:=by
 exact CD

theorem pz {Z X Y:List Value} (h:Z.length=X.length+Y.length):splice (splice Z 0 X) X.length Y=X++Y:=by
 unfold splice;have h1:List.drop (X.length+Y.length) Z=[]:=List.drop_eq_nil_of_le af;simp[<-List.append_assoc,h1]

theorem oU {w:World} {g:Nat} (l:List UInt8) {n cap:Nat} (hn:l.length=n) (h:w.heap[g]?=some (.cells (GX l).toArray 5 (0,0))):
  (convert 155 9 (.slice (some ⟨g,0,none⟩) n cap)).run Tryz.prog w=.ok (.string ⟨l.toArray⟩) w:=by
 subst hn;exact run_convert_bytes_back (P:=Tryz.prog) w 155 9 5 ⟨g,0,none⟩ cap l Tryz.underlying155 Tryz.underlying5 Tryz.underlying9 (fun j hj=>by
  rw[FT]
  simp[World.cell?,h,GX,hj])
theorem eC (s:ByteArray):(GX s.data.toList).length=s.size:=by rw[Lib.byteCells_length,<-Lib.size_eq]
theorem oK (x:ByteArray) (w:World) (h:x.size<=1073741824):
  Calls Tryz.prog 206 #[.string x,.string ByteArray.empty] w fun e w'=>e=.returned (.string x)/\Below w.heap.size w w':=by
 obtain⟨i0,hi,hz0,hz1,hz2⟩:=info_parts lv;go_enter Tryz.func206,Tryz.ntmps206;go_wp2_with (at_make;refine wpList_make_full _ rfl _ _ 155 rfl w.heap.size 5 i0 (.int .u8 0) 1 Tryz.underlying155 hi hz0 hz1 _ _ _ _ x.size rfl rfl af af gI cD (Ft _) ?_);intro w1 hown hgrow;obtain⟨hg1,hz,-⟩:=oQ hown;obtain⟨Z,hZ⟩:∃Z,Z=(madeCells #[Value.int IntKind.u8 0] x.size).toList:=⟨_,rfl⟩;have hnx1:=(Fw _ _).grown hgrow (Ft _) (fun k hk=>by cases hk);rw[<-hZ] at hg1 hz;obtain⟨w2,hcp,HG2,hnx2⟩:=eu (P:=Tryz.prog) 155 9 3 5 Tryz.underlying155 ir (some ⟨w.heap.size,0,none⟩) x.size x.size x w.heap.size 0 Z 5 hg1 af (fun _=>rfl) af w.heap.size w hnx1 (Ft _);have hs2:splice Z 0 (GX x.data.toList)=GX x.data.toList:=by
  unfold splice;have h1:List.drop (0+(GX x.data.toList).length) Z=[]:=List.drop_eq_nil_of_le (by rw[eC];omega);rw[h1];simp
 rw[hs2] at HG2;have hcp2:=Lib.run_copy_empty_string (P:=Tryz.prog) w2 155 9 3 5 (some ⟨w.heap.size,0,none⟩) 0 0 ByteArray.empty Tryz.underlying155 aq rfl;have hcv:=oU (cap:=x.size) x.data.toList (Lib.size_eq x).symm HG2.out;clear hs2 hZ hown hgrow hg1 hi hz0 hz1 hz2 HG2 hnx1;go_wp2;go_ret;exact⟨rfl,hnx2⟩

theorem oJ (x y:ByteArray) (w:World) (h:x.size+y.size<=1073741824) (hy:¬y=ByteArray.empty):
  Calls Tryz.prog 206 #[.string x,.string y] w fun e w'=>e=.returned (.string ⟨(x.data.toList++y.data.toList).toArray⟩)/\Below w.heap.size w w':=by
 obtain⟨i0,hi,hz0,hz1,hz2⟩:=info_parts lv;go_enter Tryz.func206,Tryz.ntmps206;go_wp2_with (at_make;refine wpList_make_full _ rfl _ _ 155 rfl w.heap.size 5 i0 (.int .u8 0) 1 Tryz.underlying155 hi hz0 hz1 _ _ _ _ (x.size+y.size) rfl rfl af af gI cD (Ft _) ?_);intro w1 hown hgrow;obtain⟨hg1,hz,-⟩:=oQ hown;obtain⟨Z,hZ⟩:∃Z,Z=(madeCells #[Value.int IntKind.u8 0] (x.size+y.size)).toList:=⟨_,rfl⟩;have hnx1:=(Fw _ _).grown hgrow (Ft _) (fun k hk=>by cases hk);rw[<-hZ] at hg1 hz;obtain⟨w2,hcp,HG2,hnx2⟩:=eu (P:=Tryz.prog) 155 9 3 5 Tryz.underlying155 ir (some ⟨w.heap.size,0,none⟩) (x.size+y.size) (x.size+y.size) x w.heap.size 0 Z 5 hg1 af (fun _=>rfl) af w.heap.size w hnx1 (Ft _);obtain⟨w3,hcp2,HG3,hnx3⟩:=eu (P:=Tryz.prog) 155 9 3 5 Tryz.underlying155 ir (some ⟨w.heap.size,x.size,none⟩) y.size y.size y w.heap.size x.size _ 5 HG2.out af (fun _=>rfl) (by rw[length_splice _ _ _ (by rw[eC];omega)];omega) w.heap.size w hnx2 (Ft _);have hs2:splice (splice Z 0 (GX x.data.toList)) x.size (GX y.data.toList)=GX (x.data.toList++y.data.toList):=by
  have h1:=pz (Z:=Z) (X:=GX x.data.toList) (Y:=GX y.data.toList) (by rw[eC,eC];exact hz);rw[eC] at h1;rw[h1,Lib.byteCells_append]
 rw[hs2] at HG3;have hcv:=oU (n:=x.size+y.size) (cap:=x.size+y.size) (x.data.toList++y.data.toList) (by rw[F7,<-Lib.size_eq,<-Lib.size_eq]) HG3.out;clear hs2 hZ hown hgrow hg1 hi hz0 hz1 hz2 HG2 hnx1 HG3;go_wp2;go_ret;exact⟨rfl,hnx3⟩

theorem mF (x y:ByteArray):x++y=⟨(x.data.toList++y.data.toList).toArray⟩:=by
 apply ByteArray.ext;simp

theorem rj (x y:ByteArray) (w:World) (h:x.size+y.size<=1073741824):
  Calls Tryz.prog 206 #[.string x,.string y] w fun e w'=>e=.returned (.string (x++y))/\Below w.heap.size w w':=by
 by_cases hy:y=ByteArray.empty
 ·subst hy;have:=oK x w af;rw[show x++ByteArray.empty=x from by simp];exact this
 ·rw[mF];exact oJ x y w h hy

def z9 (n':ByteArray) (c':Int) (k' v' n z t:ByteArray):Prop:=fJ n' c' k' v'/\ie n z/\aO t
def z6 (n0:ByteArray) (c0:Int) (z0 k0:ByteArray) (x0:Bool) (m0:ByteArray):Prop:=n0=⟨#[]⟩/\c0=0/\z0=⟨#[]⟩/\k0=⟨#[]⟩/\x0=false/\m0=⟨#[]⟩
def D2 (n':ByteArray) (c':Int) (k':ByteArray) (x':Bool) (v' n z t:ByteArray) (n0:ByteArray) (c0:Int) (z0 k0:ByteArray) (x0:Bool) (m0:ByteArray) (p0:Int):Prop:=
 (8000<t.size/\z6 n0 c0 z0 k0 x0 m0/\p0=2)\/(¬8000<t.size/\¬z9 n' c' k' v' n z t/\z6 n0 c0 z0 k0 x0 m0/\p0=1)\/
 (¬8000<t.size/\z9 n' c' k' v' n z t/\¬ib n' k' v' n z t/\z6 n0 c0 z0 k0 x0 m0/\p0=10)\/
 (¬8000<t.size/\z9 n' c' k' v' n z t/\ib n' k' v' n z t/\(n0=aD++n'/\c0=c'/\z0=t/\k0=k'/\x0=x'/\m0=n')/\p0=0)
def Bj (n':ByteArray) (c':Int) (k':ByteArray) (x':Bool) (v':ByteArray) (n z:ByteArray) (t:ByteArray) (w:World) (e:Ending) (w':World):Prop:=
 ∃n0 c0 z0 k0 x0 m0 p0,e=.returned (.agg #[.string n0,.int .i64 c0,.string z0,.string k0,.bool x0,.string m0,.bool false,.slice none 0 0,.int .i64 p0])/\D2 n' c' k' x' v' n z t n0 c0 z0 k0 x0 m0 p0/\Below w.heap.size w w'
theorem cL {w w1:World} {B b:Nat} {v0 v1 v2 v3 v4 v5 v6 v7 v8:Value} (hB:B<=b) (h:Below B w w1):
  Below B w (((((((((w1.setCell ⟨b,0,none⟩ (v0)).setCell ⟨b,1,none⟩ (v1)).setCell ⟨b,2,none⟩ (v2)).setCell ⟨b,3,none⟩ (v3)).setCell ⟨b,4,none⟩ (v4)).setCell ⟨b,5,none⟩ (v5)).setCell ⟨b,6,none⟩ (v6)).setCell ⟨b,7,none⟩ (v7)).setCell ⟨b,8,none⟩ (v8)):=
 ((((((((h.setCell (p:=⟨b,0,none⟩) hB v0).setCell (p:=⟨b,1,none⟩) hB v1).setCell (p:=⟨b,2,none⟩) hB v2).setCell (p:=⟨b,3,none⟩) hB v3).setCell (p:=⟨b,4,none⟩) hB v4).setCell (p:=⟨b,5,none⟩) hB v5).setCell (p:=⟨b,6,none⟩) hB v6).setCell (p:=⟨b,7,none⟩) hB v7).setCell (p:=⟨b,8,none⟩) hB v8
theorem lx (n':ByteArray) (c':Int) (k':ByteArray) (x':Bool) (v':ByteArray) (n:ByteArray) (x:Bool) (y:Bool) (z:ByteArray) (t:ByteArray) (w:World) (hn':n'.size<=9223372036854775807) (hk':k'.size<=9223372036854775807) (hv':v'.size<=9223372036854775807) (hn:n.size<=9223372036854775807) (hz:z.size<=9223372036854775807) (ht:t.size<=9223372036854775807):
  Calls Tryz.prog 186 #[.agg #[.string n',.int .i64 c',.string k',.bool x',.string v'],.agg #[.string n,.bool x,.bool y,.string z],.string t] w (Bj n' c' k' x' v' n z t w):=by
 by_cases hl:8000<t.size
 ·have HL:=aa hl;go_enter Tryz.func186,Tryz.ntmps186;go_wp2_with fail;refine (ke t _ hl).mono ?_;rintro e w1 ⟨rfl,rfl⟩;go_wp2_with fail;exact bodyPost_ret (v:=.agg #[.string ⟨#[]⟩,.int .i64 0,.string ⟨#[]⟩,.string ⟨#[]⟩,.bool false,.string ⟨#[]⟩,.bool false,.slice none 0 0,.int .i64 2]) (by simp[results,Tryz.results186,go_sem]) rfl ⟨_,_,_,_,_,_,_,rfl,.inl ⟨HL.out,⟨rfl,rfl,rfl,rfl,rfl,rfl⟩,rfl⟩,bI _ _ _ _⟩
 have HL:=aa hl;go_enter Tryz.func186,Tryz.ntmps186;go_wp2_with fail;refine (jo t _ hl).mono ?_;rintro e w1 ⟨rfl,rfl⟩;go_wp2_with fail;refine (eP n' c' k' x' v' _ hn' hk' hv').mono ?_;rintro e w1 ⟨r,rfl,hr,hb⟩;have g0:=(hb.block w.heap.size bG).trans (fF _ _ _ _);have g1:=(hb.block (w.heap.size+1) aS).trans (dC _ _ _ _);have g2:=(hb.block (w.heap.size+1+1) aS).trans (cS _ _ _ _);have HB:=aa ((bI w _ _ _).trans (hb.mono bG));obtain⟨HG0,HG1,HG2,d0,d1,d2,d3,d4,e0,e1,e2,e3,r0,r1,r2,r3,r4,r5,r6,r7,r8,q0,q1,q2,q3,q4,q5,q6,q7,q8⟩:=sq;clear g0 g1 g2 hb;by_cases hq:r=true;case neg=>
  have HN:=aa (fun h=>hq (hr.2 h));clear hr;go_wp2_with fail;exact bodyPost_ret (v:=.agg #[.string ⟨#[]⟩,.int .i64 0,.string ⟨#[]⟩,.string ⟨#[]⟩,.bool false,.string ⟨#[]⟩,.bool false,.slice none 0 0,.int .i64 1]) jL rfl ⟨_,_,_,_,_,_,_,rfl,.inr (.inl ⟨HL.out,fun h=>HN.out h.1,⟨rfl,rfl,rfl,rfl,rfl,rfl⟩,rfl⟩),cL af HB.out⟩
 have h0:=aa (hr.1 hq);subst hq;clear hr;go_wp2_with fail;refine (gj n z x y _ hn hz).mono ?_;rintro e w2 ⟨r,rfl,hr,hb⟩;obtain⟨g0,g1,g2,HB'⟩:=vq;clear HB HG0 HG1 HG2 d0 d1 d2 d3 d4 e0 e1 e2 e3 r0 r1 r2 r3 r4 r5 r6 r7 r8 q0 q1 q2 q3 q4 q5 q6 q7 q8;have HB:=HB';clear HB';obtain⟨HG0,HG1,HG2,d0,d1,d2,d3,d4,e0,e1,e2,e3,r0,r1,r2,r3,r4,r5,r6,r7,r8,q0,q1,q2,q3,q4,q5,q6,q7,q8⟩:=sq;clear g0 g1 g2 hb;by_cases hq:r=true;case neg=>
  have HN:=aa (fun h=>hq (hr.2 h));clear hr;go_wp2_with fail;exact bodyPost_ret (v:=.agg #[.string ⟨#[]⟩,.int .i64 0,.string ⟨#[]⟩,.string ⟨#[]⟩,.bool false,.string ⟨#[]⟩,.bool false,.slice none 0 0,.int .i64 1]) jL rfl ⟨_,_,_,_,_,_,_,rfl,.inr (.inl ⟨HL.out,fun h=>HN.out h.2.1,⟨rfl,rfl,rfl,rfl,rfl,rfl⟩,rfl⟩),cL af HB.out⟩
 have h1:=aa (hr.1 hq);subst hq;clear hr;go_wp2_with fail;refine (a_ t _ ht).mono ?_;rintro e w3 ⟨r,rfl,hr,rfl⟩;by_cases hq:r=true;case neg=>
  have HN:=aa (fun h=>hq (hr.2 h));clear hr;go_wp2_with fail;exact bodyPost_ret (v:=.agg #[.string ⟨#[]⟩,.int .i64 0,.string ⟨#[]⟩,.string ⟨#[]⟩,.bool false,.string ⟨#[]⟩,.bool false,.slice none 0 0,.int .i64 1]) jL rfl ⟨_,_,_,_,_,_,_,rfl,.inr (.inl ⟨HL.out,fun h=>HN.out h.2.2,⟨rfl,rfl,rfl,rfl,rfl,rfl⟩,rfl⟩),cL af HB.out⟩
 have h2:=aa (hr.1 hq);subst hq;clear hr;by_cases m0:k'=n;case neg=>
  have q90:=bC m0;have M0:=aa m0;clear m0;go_wp2_with fail;exact bodyPost_ret (v:=.agg #[.string ⟨#[]⟩,.int .i64 0,.string ⟨#[]⟩,.string ⟨#[]⟩,.bool false,.string ⟨#[]⟩,.bool false,.slice none 0 0,.int .i64 10]) jL rfl ⟨_,_,_,_,_,_,_,rfl,.inr (.inr (.inl ⟨HL.out,⟨h0.out,h1.out,h2.out⟩,fun h=>M0.out h.1,⟨rfl,rfl,rfl,rfl,rfl,rfl⟩,rfl⟩)),cL af HB.out⟩
 have q90:=a9 m0;have M0:=aa m0;clear m0;by_cases m1:v'=⟨#[]⟩;case neg=>
  have q91:=bc m1;have M1:=aa m1;clear m1;go_wp2_with fail;exact bodyPost_ret (v:=.agg #[.string ⟨#[]⟩,.int .i64 0,.string ⟨#[]⟩,.string ⟨#[]⟩,.bool false,.string ⟨#[]⟩,.bool false,.slice none 0 0,.int .i64 10]) jL rfl ⟨_,_,_,_,_,_,_,rfl,.inr (.inr (.inl ⟨HL.out,⟨h0.out,h1.out,h2.out⟩,fun h=>M1.out h.2.1,⟨rfl,rfl,rfl,rfl,rfl,rfl⟩,rfl⟩)),cL af HB.out⟩
 have q91:=(dP v').2 m1;have M1:=aa m1;clear m1;go_wp2_with fail;refine (zC n x y z t _ hn hz ht).mono ?_;rintro e w4 ⟨r,rfl,hr,hb⟩;obtain⟨g0,g1,g2,HB'⟩:=vq;clear HB HG0 HG1 HG2 d0 d1 d2 d3 d4 e0 e1 e2 e3 r0 r1 r2 r3 r4 r5 r6 r7 r8 q0 q1 q2 q3 q4 q5 q6 q7 q8;have HB:=HB';clear HB';obtain⟨HG0,HG1,HG2,d0,d1,d2,d3,d4,e0,e1,e2,e3,r0,r1,r2,r3,r4,r5,r6,r7,r8,q0,q1,q2,q3,q4,q5,q6,q7,q8⟩:=sq;clear g0 g1 g2 hb;by_cases hq:r=true;case neg=>
  have HN:=aa (fun h=>hq (hr.2 h));clear hr;go_wp2_with fail;exact bodyPost_ret (v:=.agg #[.string ⟨#[]⟩,.int .i64 0,.string ⟨#[]⟩,.string ⟨#[]⟩,.bool false,.string ⟨#[]⟩,.bool false,.slice none 0 0,.int .i64 10]) jL rfl ⟨_,_,_,_,_,_,_,rfl,.inr (.inr (.inl ⟨HL.out,⟨h0.out,h1.out,h2.out⟩,fun h=>HN.out ⟨h1.out,h2.out,h.2.2.1⟩,⟨rfl,rfl,rfl,rfl,rfl,rfl⟩,rfl⟩)),cL af HB.out⟩
 have M2:=aa (hr.1 hq).2.2;subst hq;clear hr;by_cases m3:18<n'.size
 ·have M3:=aa m3;go_wp2_with fail;exact bodyPost_ret (v:=.agg #[.string ⟨#[]⟩,.int .i64 0,.string ⟨#[]⟩,.string ⟨#[]⟩,.bool false,.string ⟨#[]⟩,.bool false,.slice none 0 0,.int .i64 10]) jL rfl ⟨_,_,_,_,_,_,_,rfl,.inr (.inr (.inl ⟨HL.out,⟨h0.out,h1.out,h2.out⟩,fun h=>by have h9:=h.2.2.2;have h8:=M3.out;omega,⟨rfl,rfl,rfl,rfl,rfl,rfl⟩,rfl⟩)),cL af HB.out⟩
 go_wp2_with fail;refine (rj ⟨#[118,95]⟩ n' _ (by rw[show (⟨#[118,95]⟩:ByteArray).size=2 from rfl];omega)).mono ?_;rintro e w5 ⟨rfl,hb⟩;obtain⟨g0,g1,g2,HB'⟩:=vq;clear HB HG0 HG1 HG2 d0 d1 d2 d3 d4 e0 e1 e2 e3 r0 r1 r2 r3 r4 r5 r6 r7 r8 q0 q1 q2 q3 q4 q5 q6 q7 q8;have HB:=HB';clear HB';obtain⟨HG0,HG1,HG2,d0,d1,d2,d3,d4,e0,e1,e2,e3,r0,r1,r2,r3,r4,r5,r6,r7,r8,q0,q1,q2,q3,q4,q5,q6,q7,q8⟩:=sq;clear g0 g1 g2 hb;go_wp2_with fail;exact bodyPost_ret (v:=.agg #[.string (aD++n'),.int .i64 c',.string t,.string k',.bool x',.string n',.bool false,.slice none 0 0,.int .i64 0]) (by simp[results,Tryz.results186,go_sem,aD, *]) rfl ⟨_,_,_,_,_,_,_,rfl,.inr (.inr (.inr ⟨HL.out,⟨h0.out,h1.out,h2.out⟩,⟨M0.out,M1.out,M2.out,by omega⟩,⟨rfl,rfl,rfl,rfl,rfl,rfl⟩,rfl⟩)),cL af HB.out⟩

end Go.Proofs.YtpejepeekdjfoaaGreatDoor

namespace Go.Proofs.YtpejepeekdjfoaaGreatDoor
open Go.RowKit
namespace Rc
open Mk

theorem mh {α:Type} {nm:α->ByteArray} {ps:List α} {t:ByteArray} {k:Nat} {x y:α} (hr:aP nm ps) (hx:ps[k]?=some x) (hn:nm x=t):br (pl nm (wo nm t ps) t) y (wo nm t ps)=ps.set k y:=by
 have hk:k<ps.length:=(Fm.1 hx).1;have hw:=mO hr hx hn;have hpl:pl nm (wo nm t ps) t=k:=by
  rw[hw];have hlt:∀(j:Nat) z,j<k->(ps.take k++ps.drop (k+1))[j]?=some z->FB (nm z).toList t.toList=true:=fun j z hj hz=>by
   exact yt
  by_cases he:k+1<ps.length
  ·have h1:(ps.take k).length=k:=by rw[FQ];omega
   have h2:(ps.take k++ps.drop (k+1))[k]?=some ps[k+1]:=by
    exact xN
   refine om hlt h2 ?_;have h3:=hr.lt (Nat.lt_succ_self k) hx (Fu he);rw[hn] at h3;cases h9:FB (nm ps[k+1]).toList t.toList
   ·rfl
   ·have h8:=cg _ _ _ h3 h9;rw[db] at h8;cases h8
  ·exact yR
 exact xn
def gS (c:Cl) (x:Xd) (v:Vd):Cl:=⟨c.ns,c.ks,br (pl Vd.n (wo Vd.n v.n c.vs) v.n) v (wo Vd.n v.n c.vs),br (pl Xd.n (wo Xd.n x.n c.xs) x.n) x (wo Xd.n x.n c.xs),c.ps,c.now⟩
theorem Aj {α:Type} {nm:α->ByteArray} {t:ByteArray} {xs:List α} (h:∀(j:Nat) x,xs[j]?=some x->¬nm x=t):wo nm t xs=xs:=List.filter_eq_self.2 fun y hy=>by
 obtain⟨j,hj⟩:=FW hy;simp[bC (h j y hj)]
theorem oq {c:Cl} {i j:Nat} {x:Xd} {u:Vd} (hr:aB c) (hx:c.xs[i]?=some x) (hu:c.vs[j]?=some u):gS c (bdX x u.n) (bdV u x.n)=dw c i j x u:=by
 unfold gS dw;rw[show (bdX x u.n).n=x.n from rfl,show (bdV u x.n).n=u.n from rfl,mh (y:=bdV u x.n) hr.2.1.2.2.1.2.2 hu rfl,mh (y:=bdX x u.n) hr.2.1.2.2.2.1.2.2 hx rfl]
theorem qP {c:Cl} {i:Nat} {x:Xd} {t:ByteArray} (hr:aB c) (hx:c.xs[i]?=some x) (hh:hit Vd.n c.vs (aD++x.n)=false):gS c (bdX x (aD++x.n)) (mkV x t)=da c i x t:=by
 unfold gS da;have h1:wo Vd.n (aD++x.n) c.vs=c.vs:=Aj (fun j v hv e=>by
  have:=(cN hr.2.1.2.2.1.2.2 hv e).2;rw[hh] at this
  cases this)
 rw[show (bdX x (aD++x.n)).n=x.n from rfl,show (mkV x t).n=aD++x.n from rfl,h1,mh (y:=bdX x (aD++x.n)) hr.2.1.2.2.2.1.2.2 hx rfl]
theorem gy.only {c:Cl} {t:ByteArray} {n m:Nat} (h:gy c t n) (h':gy c t m):n=m:=by
 rcases n with _|_|_|n <;> rcases m with _|_|_|m <;> simp only[gy] at h h' <;> first|rfl|exact absurd h h'.1|exact absurd h' h.1|exact absurd h'.2.1 h.2|exact absurd h.2.1 h'.2
theorem gy.not {c:Cl} {t:ByteArray} {n:Nat} {i:Nat} {x:Xd} (h:gy c t n) (h1:¬8000<t.size) (h2:aB c) (hx:c.xs[i]?=some x) (hn:x.n=t):False:=by
 rcases n with _|_|_|n <;> simp only[gy] at h
 ·exact h1 h
 ·exact h.2 h2
 ·exact h.2.2 ⟨i,x,hx,hn⟩

def iP (W:World) (nb vb:Nat) (t:ByteArray) (v:Vd) (ua:Option Addr) (ul uc:Nat):Prop:=W.heap[nb]?=some (.cells #[.string t] 9 (0,0))/\W.heap[vb]?=some (.cells #[.string v.n,.int .i64 v.c,.string v.z,.string v.k,.bool v.x,.string v.m,.bool v.y,.slice ua ul uc] 99 (0,0))
theorem iP.below {W W':World} {nb vb:Nat} {t:ByteArray} {v:Vd} {ua:Option Addr} {ul uc:Nat} (h:iP W nb vb t v ua ul uc) (hb:Below W.heap.size W W'):iP W' nb vb t v ua ul uc:=
 ⟨(hb.block _ (ae h.1)).trans h.1,(hb.block _ (ae h.2)).trans h.2⟩
theorem Av (p:Pd) (va:Option Addr) (vl vc nb vb:Nat) (t:ByteArray) (v:Vd) (ua:Option Addr) (ul uc:Nat) (w:World) (hr:ay w va vl vc p.zs) (hh:iP w nb vb t v ua ul uc):
  Calls Tryz.prog 267 #[.agg #[.string p.n,.int .i64 p.c,.string p.z,.slice va vl vc,.string p.d,.int .i64 p.p],.pointer (some ⟨nb,0,none⟩),.pointer (some ⟨vb,0,none⟩)] w (ar (jd p t v.m) w):=by
 have HR:=aa hr;obtain⟨h1,h2⟩:=hh;have n0:=cs1 h1;have hnl:=ae h1;obtain⟨v0,v1,v2,v3,v4,v5,v6,v7⟩:=cs8 h2;have hvl:=ae h2;clear hr h1 h2;by_cases he:p.d=t
 ·have hq:=a9 he;have HE:=aa he;clear he;go_enter Tryz.func267,Tryz.ntmps267;go_wp2_with fail;refine (cj va vl vc p.zs v.m _ (HR.below (al _ _))).mono ?_;rintro e w1 ⟨r,rfl,hi,hb⟩;have HB:=aa ((al w _).trans (hb.mono aS));clear hb;go_wp2;go_ret;exact⟨r,rfl,⟨fun h=>⟨HE.out,hi.1 h⟩,fun h=>hi.2 h.2⟩,HB.out⟩
 ·have hq:=bC he;have HE:=aa he;clear he;go_enter Tryz.func267,Tryz.ntmps267;go_wp2;go_ret;exact ar.f (fun h=>HE.out h.1) (al _ _)

theorem As (a:Option Addr) (len cap:Nat) (ps:List Pd) (nb vb:Nat) (t:ByteArray) (v:Vd) (ua:Option Addr) (ul uc:Nat) (w:World) (hr:aN w a len cap 6 (ps.map pdF)) (hh:iP w nb vb t v ua ul uc):
  Calls Tryz.prog 268 #[.slice a len cap,.func (.func 267) #[] #[.pointer (some ⟨nb,0,none⟩),.pointer (some ⟨vb,0,none⟩)]] w fun e w'=>(∃r:Int,e=.returned (.int .i64 r)/\((0<=r/\∃(j:Nat) (p:Pd),ps[j]?=some p/\jd p t v.m)\/(r= -1/\∀(j:Nat) (p:Pd),ps[j]?=some p->¬jd p t v.m)))/\Below w.heap.size w w':=by
 have HR:=aa hr;have HH:=aa hh;have hlc:=FA hr.2.1 hr.2.2.1;have hxl:ps.length=len:=dv
 clear hr hh;go_enter Tryz.func268,Tryz.ntmps268;go_wp2;go_loopw [8] (fun i wr=> ∃k:Nat,k<=len/\i=.int .i64 k/\Hid (∀(j:Nat) p,j<k->ps[j]?=some p->¬jd p t v.m)/\Hid (Below w.heap.size w wr)) (fun i _=>len - (intOf i).toNat);case atStart=>exact⟨0,by omega,rfl,fun _ _ h=>absurd h af,Fw _ _⟩
 case round=>
  obtain⟨k,hk,rfl,HE,HB⟩:=hrel;by_cases hlt:k<len
  ·obtain⟨b,o,p,rfl,hb,hx,hat⟩:=bY (HR.below HB.out) hlt;obtain⟨va,vl,vc,hvr,z0,z2,z4,c0,c1,c2,c3,c4,c5⟩:=aT hat;have HX:=aa hx;have HV:=aa hvr;clear hat hx hvr z0 z2 z4;go_wp2_with fail;refine (Av p va vl vc nb vb t v ua ul uc _ HV.out (HH.below HB.out)).mono ?_;exact CP
  ·exact vF

theorem Au (a:Option Addr) (len cap:Nat) (ps:List Pd) (nb vb:Nat) (t:ByteArray) (v:Vd) (ua:Option Addr) (ul uc:Nat) (w:World) (hr:aN w a len cap 6 (ps.map pdF)) (hh:iP w nb vb t v ua ul uc):
  Calls Tryz.prog 266 #[.slice a len cap,.func (.func 267) #[] #[.pointer (some ⟨nb,0,none⟩),.pointer (some ⟨vb,0,none⟩)]] w (ar (∃(j:Nat) (p:Pd),ps[j]?=some p/\jd p t v.m) w):=by
 have HR:=aa hr;have HH:=aa hh;clear hr hh;go_enter Tryz.func266,Tryz.ntmps266;go_wp2_with fail;refine (As a len cap ps nb vb t v ua ul uc _ HR.out HH.out).mono ?_;exact yP

theorem AR (d:Ad) (c:Cl) (v:Vd) (ua:Option Addr) (ul uc:Nat) (t:ByteArray) (w:World) (hr:aJ w d c.raw):
  Calls Tryz.prog 265 #[.agg #[.slice d.a1 d.l1 d.c1,.slice d.a2 d.l2 d.c2,.slice d.a3 d.l3 d.c3,.slice d.a4 d.l4 d.c4,.slice d.a5 d.l5 d.c5,.int .i64 c.now],.agg #[.string v.n,.int .i64 v.c,.string v.z,.string v.k,.bool v.x,.string v.m,.bool v.y,.slice ua ul uc],.string t] w (ar (∃(j:Nat) (p:Pd),c.ps[j]?=some p/\jd p t v.m) w):=by
 obtain⟨HR,HB⟩:=gK;clear hr;go_enter Tryz.func265,Tryz.ntmps265;go_wp2_with fail;refine (Au d.a5 d.l5 d.c5 c.ps (w.heap.size+1+1) (w.heap.size+1) t v ua ul uc _ (HR.p.below (HB.trans ((bI _ _ _ _).mono HB.size))) ⟨cS _ _ _ _,dC _ _ _ _⟩).mono ?_;exact yu

theorem sL {c:Cl} {t:ByteArray} {xs:List Vd} {k:Nat} {x:Vd} (h:xs[k]?=some x) (hv:onB c t x=true):dJ c t (xs.take (k+1))=dJ c t (xs.take k)++[x.n]:=by
 unfold dJ;rw[F6,h,Hb,List.map_append];simp[hv]
theorem DX {c:Cl} {t:ByteArray} {xs:List Vd} {k:Nat} {x:Vd} (h:xs[k]?=some x) (hv:onB c t x=false):dJ c t (xs.take (k+1))=dJ c t (xs.take k):=by
 unfold dJ;rw[F6,h,Hb,List.map_append];simp[hv]
theorem zP {c:Cl} {t:ByteArray} {w:World} {a:Option Addr} {len cap:Nat} {xs:List Vd} (h:aN w a len cap 8 (xs.map vdF)) (j:Nat) (z:ByteArray) (hz:(dJ c t xs)[j]?=some z):z.size<=9223372036854775807:=by
 have hm:=FZ hz;obtain⟨x,hx,rfl⟩:=List.mem_map.1 hm;obtain⟨i,hi⟩:=FW ((List.mem_filter.1 hx).1);have hl:xs.length=len:=by simpa using h.1
 obtain⟨b,o,y,-,-,hy,hat⟩:=bN h (j:=i) (by have:=(Fm.1 hi).1;omega);rw[hi] at hy;cases hy;obtain⟨_,_,_,_,z0,_⟩:=aK hat;exact z0

theorem zD (d:Ad) (c:Cl) (t:ByteArray) (w:World) (hr:aJ w d c.raw) (h8:c.vs.length<=8):
  Calls Tryz.prog 264 #[.agg #[.slice d.a1 d.l1 d.c1,.slice d.a2 d.l2 d.c2,.slice d.a3 d.l3 d.c3,.slice d.a4 d.l4 d.c4,.slice d.a5 d.l5 d.c5,.int .i64 c.now],.string t] w fun e w'=> ∃a l p,e=.returned (.slice a l p)/\cA w' a l p (dJ c t c.vs) (fun k=>w.heap.size<=k)/\Below w.heap.size w w':=by
 obtain⟨a1,l1,y1,a2,l2,y2,a3,l3,y3,a4,l4,y4,a5,l5,y5⟩:=d;dsimp only;obtain⟨HR,hl3⟩:=uW;clear hr;obtain⟨i0,hi,hz0,hz1,hz2⟩:=info_parts fD;have HI0:=aa (Fo hi (Fo hz0 (Fo hz1 hz2)));clear hi hz0 hz1 hz2;go_enter Tryz.func264,Tryz.ntmps264;go_wp2;go_loopw [5,11] (fun vo vi wr=> ∃k n:Nat,k<=l3/\n<=k/\vi=.int .i64 k/\Hid (wr.ownsRow (w.heap.size+1) 9 1 vo n ((dJ c t (c.vs.take k)).map FK))/\Hid (Below w.heap.size w wr)/\Hid (wr.heap[w.heap.size]?=some (.cells (clo6 a1 l1 y1 a2 l2 y2 a3 l3 y3 a4 l4 y4 a5 l5 y5 c.now) 36 (0,0)))) (fun _ vi _=>l3 - (intOf vi).toNat);case atStart=>exact⟨0,0,by omega,by omega,rfl,Gh _ _ _ _,al w _,heap_alloc_new w _⟩
 case round=>
  obtain⟨k,n,hk,hn,rfl,HO,HB,Bk⟩:=hrel;by_cases hlt:k<l3
  ·obtain⟨b,o,v,rfl,hb,hx,hat⟩:=bN (HR.v.below HB.out) hlt;obtain⟨va,vl,vc,hvr,z0,z2,z3,z5,c0,c1,c2,c3,c4,c5,c6,c7⟩:=aK hat;have HXv:=aa hx;have HTv:=aa hvr;clear hat hx z0 z2 z3 z5 hvr;obtain⟨k0,k1,k2,k3,k4,k5⟩:=cs6 Bk;have HY:=aa (Bw.refl wr);go_wp2_with fail;refine (cj va vl vc v.zs t _ (HTv.below (al _ _))).mono ?_;rintro e w1 ⟨r,rfl,hi,hb⟩;clear k0 k1 k2 k3 k4 k5;obtain⟨HA0,hbx⟩:=aL hb;replace Bk:=upK Bk hbx;have Bg:=aa HA0;replace HY:=aa (HY.below hbx);replace HB:=upB HB hbx;clear hb hbx HA0;have HI:=aa hi;clear hi c0 c1 c2 c3 c4 c5 c6 c7;cases r
   ·obtain⟨k0,k1,k2,k3,k4,k5⟩:=cs6 Bk;have ltk_1:=ae Bk.out;obtain⟨g0,g1,g2,g3,g4,g5,g6,g7⟩:=cs8 Bg;go_wp2_with fail;refine (AR ⟨a1,l1,y1,a2,l2,y2,(some ⟨b,o,none⟩),l3,y3,a4,l4,y4,a5,l5,y5⟩ c v va vl vc t _ (HR.below HB.out)).mono ?_;rintro e w2 ⟨r,rfl,hi2,hb⟩;clear k0 k1 k2 k3 k4 k5 ltk_1 g0 g1 g2 g3 g4 g5 g6 g7;replace Bk:=upK Bk hb;replace Bg:=upK Bg hb;replace HY:=aa (HY.below hb);replace HB:=upB HB hb;clear hb;have HI2:=aa hi2;clear hi2;cases r
    ·have hon:onB c t v=false:=by
      unfold onB;rw[Bool.or_eq_false_iff];exact⟨by cases h:inB v.zs t;rfl;(have:=HI.2 (eO.1 h);cases this),by cases h:rX c t v.m;rfl;(have:=HI2.2 (dy.1 h);cases this)⟩
     have HO3:=aa (bM HO.out HY.out);rw[<-DX HXv.out hon] at HO3;obtain⟨k0,k1,k2,k3,k4,k5⟩:=cs6 Bk;have ltk_2:=ae Bk.out;obtain⟨g0,g1,g2,g3,g4,g5,g6,g7⟩:=cs8 Bg;go_wp2;exact⟨⟨k+1,n,by omega,by omega,by go_num,HO3,HB,Bk⟩,by simp[intOf];omega⟩
    ·have hon:onB c t v=true:=by unfold onB;rw[dy.2 (HI2.1 cr)];simp
     have HO1:=aa (bM HO.out HY.out);have hBs1:=HB.size;obtain⟨k0,k1,k2,k3,k4,k5⟩:=cs6 Bk;have ltk_2:=ae Bk.out;obtain⟨g0,g1,g2,g3,g4,g5,g6,g7⟩:=cs8 Bg;go_wp2_with (first|(at_builtin;refine wpList_append_own _ rfl _ _ 55 rfl (w.heap.size+1) 9 i0 (.string ⟨#[]⟩) 1 16 Tryz.underlying55 HI0.1 HI0.2.1 HI0.2.2.1 HI0.2.2.2 rfl aj _ _ _ rfl (HO1.alloc _) ⟨w2.heap.size,0,none⟩ 1 1 [.string v.n] rfl rfl ?c1 ?c2 ?c3 ?c4 ?c5 ?_));case c1=>
      exact xo
     case c2=>intro u hu;rw[GW.1 hu];rfl
     case c3=>unfold maxLen;omega
     case c4=>omega
     case c5=>simp;omega
     rintro v' w3 hown3 hgrow -;have HO3:Hid (w3.ownsRow (w.heap.size+1) 9 1 v' (n+1) ((dJ c t (c.vs.take (k+1))).map FK)):=by
      show World.ownsRow _ _ _ _ _ _ _;rw[sL HXv.out hon,List.map_append];exact hown3
     have HB3:=aa ((HB.trans ((al w2 _).mono hBs1)).grown hgrow bG (fun g hg=>by have:=(HO1.lt g hg).1;omega));exact CL
   ·have hon:onB c t v=true:=by unfold onB;rw[eO.2 (HI.1 cr)];rfl
    have HO1:=aa (bM HO.out HY.out);have hBs1:=HB.size;obtain⟨k0,k1,k2,k3,k4,k5⟩:=cs6 Bk;have ltk_1:=ae Bk.out;obtain⟨g0,g1,g2,g3,g4,g5,g6,g7⟩:=cs8 Bg;go_wp2_with (first|(at_builtin;refine wpList_append_own _ rfl _ _ 55 rfl (w.heap.size+1) 9 i0 (.string ⟨#[]⟩) 1 16 Tryz.underlying55 HI0.1 HI0.2.1 HI0.2.2.1 HI0.2.2.2 rfl aj _ _ _ rfl (HO1.alloc _) ⟨w1.heap.size,0,none⟩ 1 1 [.string v.n] rfl rfl ?c1 ?c2 ?c3 ?c4 ?c5 ?_));case c1=>
     exact xo
    case c2=>intro u hu;rw[GW.1 hu];rfl
    case c3=>unfold maxLen;omega
    case c4=>omega
    case c5=>simp;omega
    rintro v' w3 hown3 hgrow -;have HO3:Hid (w3.ownsRow (w.heap.size+1) 9 1 v' (n+1) ((dJ c t (c.vs.take (k+1))).map FK)):=by
     show World.ownsRow _ _ _ _ _ _ _;rw[sL HXv.out hon,List.map_append];exact hown3
    have HB3:=aa ((HB.trans ((al w1 _).mono hBs1)).grown hgrow bG (fun g hg=>by have:=(HO1.lt g hg).1;omega));exact CL
  ·have hkl:k=l3:=af
   have HO3:=HO;rw[FF af] at HO3;obtain⟨a',p',rfl,hT⟩:=cA.j8 HO3.out (zP HR.v);have HTO:=aa hT;clear HO3 hT HO;go_wp2;go_ret;exact⟨_,_,_,rfl,HTO.bA (fun k _ s=>by have:w.heap.size+1<=k:=s;show w.heap.size<=k;omega),HB.out⟩

def Bz (c:Cl) (t:ByteArray):Nat->Prop
 | 0=>8000<t.size
 | 1=>¬8000<t.size/\¬aB c
 | 2=>¬8000<t.size/\aB c/\hit Pd.n c.ps t=false
 | _=>False
def EK (c:Cl) (t:ByteArray) (E:Nat->Addr) (w:World) (e:Ending) (w':World):Prop:=
 Below w.heap.size w w'/\((∃i,i<9/\Bz c t i/\e=.returned (.tuple #[.agg #[.string ⟨#[]⟩,.int .i64 0,.string ⟨#[]⟩,.slice none 0 0,.string ⟨#[]⟩,.int .i64 0],.iface 266 (.pointer (some (E i)))]))\/
  (¬8000<t.size/\aB c/\∃(x:Pd) (va:Option Addr) (vl vc:Nat),c.ps[pl Pd.n c.ps t]?=some x/\x.n=t/\e=.returned (.tuple #[.agg #[.string x.n,.int .i64 x.c,.string x.z,.slice va vl vc,.string x.d,.int .i64 x.p],.nilIface])/\ay w va vl vc x.zs))

theorem tP (d:Ad) (c:Cl) (t:ByteArray) (E:Nat->Addr) (w:World) (hr:aJ w d c.raw) (hG:Ers w E):
  Calls Tryz.prog 58 #[.agg #[.slice d.a1 d.l1 d.c1,.slice d.a2 d.l2 d.c2,.slice d.a3 d.l3 d.c3,.slice d.a4 d.l4 d.c4,.slice d.a5 d.l5 d.c5,.int .i64 c.now],.string t] w (EK c t E w):=by
 obtain⟨HR,HE,HB⟩:=k_;clear hr hG;by_cases hl:8000<t.size
 ·have ev:=(HE.below (aF w (.cells (clv d c.now) 36) (.cells #[.string ⟨#[]⟩,.int .i64 0,.string ⟨#[]⟩,.slice none 0 0,.string ⟨#[]⟩,.int .i64 0] 64))).v0;go_enter Tryz.func58,Tryz.ntmps58;go_wp2_with fail;refine (ke t _ hl).mono ?_;rintro e w1 ⟨rfl,rfl⟩;go_wp2;go_region;go_wp2;exact bodyPost_ret (v:=.tuple #[.agg #[.string ⟨#[]⟩,.int .i64 0,.string ⟨#[]⟩,.slice none 0 0,.string ⟨#[]⟩,.int .i64 0],.iface 266 (.pointer (some (E 0)))]) se rfl ⟨Below.eY (aF _ _ _),.inl ⟨0,by decide,hl,rfl⟩⟩
 go_enter Tryz.func58,Tryz.ntmps58;go_wp2_with fail;refine (jo t _ hl).mono ?_;rintro e w1 ⟨rfl,rfl⟩;go_wp2_with fail;refine (rp d c _ (HR.below (HB.trans ((aF _ _ _).mono HB.size))) (HE.below (HB.trans ((aF _ _ _).mono HB.size))).ens).mono ?_;rintro e w1 ⟨r,rfl,hi,hb⟩;obtain⟨HA0,HA1,hbx⟩:=cH hb;have Bk:=aa HA0;have Br:=aa HA1;replace HB:=upB HB hbx;clear hb hbx HA0 HA1;have HI:=aa hi;clear hi;cases r
 ·obtain⟨k0,k1,k2,k3,k4,k5⟩:=cs6 Bk;obtain⟨r0,r1,r2,r3,r4,r5⟩:=cs6 Br;obtain⟨fr0,fr1,fr2,fr3,fr4,fr5⟩:=gJ;have ev:=(HE.below HB.out).v1;have evl:=bg HE.v1;go_wp2;go_region;go_wp2;exact bodyPost_ret (v:=.tuple #[.agg #[.string ⟨#[]⟩,.int .i64 0,.string ⟨#[]⟩,.slice none 0 0,.string ⟨#[]⟩,.int .i64 0],.iface 266 (.pointer (some (E 1)))]) se rfl ⟨Below.eY (sb1 (sb1 (sb1 (sb1 (sb1 (sb1 (HB.out))))))),.inl ⟨1,by decide,⟨hl,fun h=>(by have:=HI.2 h;cases this)⟩,rfl⟩⟩
 have HT:=aa (HI.1 cr);clear HI;obtain⟨k0,k1,k2,k3,k4,k5⟩:=cs6 Bk;go_wp2_with fail;refine (rJ d.a5 d.l5 d.c5 c.ps t w _ HR.p HB.out).mono ?_;rintro e w2 ⟨hb,hf⟩;clear k0 k1 k2 k3 k4 k5;replace Bk:=upK Bk hb;replace Br:=upK Br hb;replace HB:=upB HB hb;clear hb;rcases hf with ⟨hh,x,va,vl,vc,hx,hn,rfl,z0,z2,z4,hvr⟩|⟨hh,rfl⟩
 ·have HX:=aa (Fo hx (Fo hn hvr));clear hx hn z0 z2 z4 hh hvr;obtain⟨k0,k1,k2,k3,k4,k5⟩:=cs6 Bk;obtain⟨r0,r1,r2,r3,r4,r5⟩:=cs6 Br;have ltr_2:=ae Br.out;obtain⟨fr0,fr1,fr2,fr3,fr4,fr5⟩:=gJ;go_wp2;exact bodyPost_ret (v:=.tuple #[.agg #[.string x.n,.int .i64 x.c,.string x.z,.slice va vl vc,.string x.d,.int .i64 x.p],.nilIface]) se rfl ⟨Below.alloc (sb1 (sb1 (sb1 (sb1 (sb1 (sb1 (HB.out))))))) nz _,.inr ⟨hl,HT.out,x,va,vl,vc,HX.1,HX.2.1,rfl,HX.2.2⟩⟩
 ·have HH:=aa hh;clear hh;obtain⟨k0,k1,k2,k3,k4,k5⟩:=cs6 Bk;obtain⟨r0,r1,r2,r3,r4,r5⟩:=cs6 Br;have ltr_2:=ae Br.out;obtain⟨fr0,fr1,fr2,fr3,fr4,fr5⟩:=gJ;have ev:=(HE.below HB.out).v2;have evl:=bg HE.v2;have evl2:=bg ev;go_wp2;go_region;go_wp2;exact bodyPost_ret (v:=.tuple #[.agg #[.string ⟨#[]⟩,.int .i64 0,.string ⟨#[]⟩,.slice none 0 0,.string ⟨#[]⟩,.int .i64 0],.iface 266 (.pointer (some (E 2)))]) se rfl ⟨Below.eY (Below.alloc (sb1 (sb1 (sb1 (sb1 (sb1 (sb1 (HB.out))))))) nz _),.inl ⟨2,by decide,⟨hl,HT.out,HH.out⟩,rfl⟩⟩

theorem lu (a:Option Addr) (n cap i base vb:Nat) (X ys:List Value) (w:World) (ho:w.ownsRow base 64 6 (.slice a n cap) n X) (hn:n<=8) (hin:i<=n) (hbs:base<=w.heap.size) (hy:w.heap[vb]?=some (.cells ys.toArray 64 (0,0))) (hyl:ys.length=6) (hy1:∀u∈ys,u.oneCell'=true) (hX1:∀u∈X,u.oneCell'=true) (hne:∀g,a=some ⟨g,0,none⟩->¬vb=g):
  Calls Tryz.prog 170 #[.slice a n cap,.int .i64 i,.slice (some ⟨vb,0,none⟩) 1 1] w fun e w'=> ∃v',e=.returned v'/\w'.ownsRow base 64 6 v' (n+1) (X.take (i*6)++ys++X.drop (i*6))/\w.grownBy w' ((.slice a n cap:Value).ownBlock):=by
 obtain⟨i0,hi,hz0,hz1,hz2⟩:=info_parts iK;have HI0:=aa (Fo hi (Fo hz0 (Fo hz1 hz2)));clear hi hz0 hz1 hz2;have hXl:=ho.1;have hnc:n<=cap/\cap<=9223372036854775807:=by
  exact qD
 have hyn:∀(j:Nat) u,ys[j]?=some u->w.cell? ((⟨vb,0,none⟩:Addr).add j)=some u:=fun j u hu=>by
  rw[FT,aw hy,FX];simpa using hu
 have HYN:=aa hyn;have HO:=aa ho;have HY:=aa hy;have hvl:=ae hy;have HX1:=aa hX1;have HY1:=aa hy1;clear hyn ho hy hX1 hy1;by_cases hie:i=n
 ·subst hie;have e1:X.take (i*6)++ys++X.drop (i*6)=X++ys:=by rw[FF af,List.drop_of_length_le af,GD]
  rw[e1];clear e1;have hc0:=hnc.1;have hq:cap=i\/¬cap=i:=Classical.em _;rcases hq with rfl|hcap
  ·exact CU
  ·exact CU
 have hil:i<n:=af
 obtain⟨g,cur,rfl,hbg,hg,hcs,htk⟩:∃g cur,a=some ⟨g,0,none⟩/\base<=g/\w.heap[g]?=some (.cells cur 64 (0,0))/\cur.size=cap*6/\cur.toList.take (n*6)=X:=by
  exact qJ
 have hvg:=hne g rfl;clear hne;have hcell:∀(j:Nat) u,X[j]?=some u->w.cell? ⟨g,j,none⟩=some u:=fun j u hj=>by
  exact qy
 have hdl:(X.drop (i*6)).length=(n - i)*6:=uN
 have hgl:=ae hg;by_cases hroom:n+1<=cap
 ·have hcp1:∀ty dc sc,(GL #[138,138] ty #[.slice (some ⟨g,(i+1)*6,none⟩) (n - i) dc,.slice (some ⟨g,i*6,none⟩) (n+1 - i) sc]).run Tryz.prog w.drew=.ok (goInt (Nat.min (n+1 - i) (n - i))) (w.drew.setRow g (cur.toList.take ((i+1)*6)++X.drop (i*6)++cur.toList.drop ((i+1)*6+(X.drop (i*6)).length)).toArray):=fun ty dc sc=>
   bp w.drew 138 138 ty 64 g ((i+1)*6) (n - i) dc ⟨g,i*6,none⟩ (n+1 - i) sc 6 cur 64 (X.drop (i*6)) i0 Tryz.underlying138 HI0.1 HI0.2.2.1 hg k7 (fun j u hj=>by
    rw[Gm] at hj;rw[FT]
    exact hcell _ u hj) (by rw[hdl,hcs];omega) (fun u hu=>HX1.out u (GY hu))
  obtain⟨cur1,hcur1⟩:∃c1:List Value,c1=cur.toList.take ((i+1)*6)++X.drop (i*6)++cur.toList.drop ((i+1)*6+(X.drop (i*6)).length):=⟨_,rfl⟩;rw[<-hcur1] at hcp1;have hc1l:cur1.length=cap*6:=by rw[hcur1];simp only[F7,FQ,GG,hXl,Array.length_toList,hcs];omega
  obtain⟨W1,hW1⟩:∃W1,W1=w.drew.setRow g cur1.toArray:=⟨_,rfl⟩;rw[<-hW1] at hcp1;have hg1:W1.heap[g]?=some (.cells cur1.toArray 64 (0,0)):=by rw[hW1];exact setRow_heap w.drew g _ _ 64 _ hg
  have hv1:W1.heap[vb]?=w.heap[vb]?:=by rw[hW1];exact setRow_other w.drew g vb _ hvg
  have hcp2:∀ty dc,(GL #[138,34] ty #[.slice (some ⟨g,i*6,none⟩) (n+1 - i) dc,.slice (some ⟨vb,0,none⟩) 1 1]).run Tryz.prog W1=.ok (goInt (Nat.min 1 (n+1 - i))) (W1.setRow g (cur1.take (i*6)++ys++cur1.drop (i*6+ys.length)).toArray):=fun ty dc=>by
   have:=bp W1 138 34 ty 64 g (i*6) (n+1 - i) dc ⟨vb,0,none⟩ 1 1 6 cur1.toArray 64 ys i0 Tryz.underlying138 HI0.1 HI0.2.2.1 hg1 kZ (fun j u hj=>by
    rw[FT,aw (hv1.trans HY.out),FX]
    simpa using hj) uS HY1.out
   simpa using this
  have hov:∀lb cb,(callFunc 192 #[.slice (some ⟨vb,0,none⟩) 1 1,.slice (some ⟨g,(i+1)*6,none⟩) lb cb]).run Tryz.prog w=.ok (.value (.bool false)) w:=fun lb cb=>by
   rw[run_callFunc_extern Tryz.func192 aq aq aq (e:=Hl #[34,34] #[4]) aq,
    Lib.run_overlaps_apart w 34 4 64 Tryz.underlying34 6 (fun w=>by kernel_rfl) ⟨vb,0,none⟩ ⟨g,(i+1)*6,none⟩ 1 1 lb cb hvg 64 64 ys.toArray.size cur.size (by simp[World.shape?,HY.out]) (by simp[World.shape?,hg]) (Nat.ne_of_gt (by rw[hcs];omega)) (av HY.out _) (av HY.out _)]
   rfl
  obtain⟨hb2,hb4,hb6,mixed,hw1,hb1,hin,htn,hb3,HG1,HW1,HC1,HTK⟩:=vx;clear hg hg1 hW1 hcur1 htk hv1 hcell hdl hie;go_enter Tryz.func170,Tryz.ntmps170;go_wp2_with (simp only[hov]);go_region_law_o (refine cG rfl _ _ 138 138 rfl _ _ eU eU (hcp1 (3) (cap - (i+1)) (cap - i)) ?_);go_wp2_with (at_builtin;refine bV _ rfl _ _ 138 34 rfl _ _ rfl rfl (hcp2 _ _) ?_);go_ret;refine⟨_,rfl,⟨?_,Or.inr ⟨g,cap,(cur1.take (i*6)++(ys++cur1.drop (i*6+6))).toArray,rfl,hbg,setRow_heap W1 g _ _ _ _ HG1.out,hroom,by unfold maxLen;omega,?_,?_⟩⟩,?_⟩
  ·exact iC
  ·exact qx
  ·have e:=ki (a:=i*6) (b:=n*6) (c:=cap*6) (m:=6) (c1:=cur1) HTK.out (by rw[Array.length_toList,hcs]) af af hyl (by rw[HC1.out,show (i+1)*6=i*6+6 by omega]);rw[show (n+1)*6=n*6+6 by omega];simpa using e
  ·exact vL
 have hcn:cap=n:=af
 subst hcn;obtain⟨N,hN⟩:∃N,N=w.heap.size:=⟨_,rfl⟩;obtain⟨G,hG⟩:∃G,G=grownCap w (cap+1) cap 64:=⟨_,rfl⟩;obtain⟨ROW,hROW⟩:∃R:Array Value,R=(X.take (i*6)).toArray++G6 (.agg #[.string ⟨#[]⟩,.int .i64 0,.string ⟨#[]⟩,.slice none 0 0,.string ⟨#[]⟩,.int .i64 0]:Value).cells (cap+1 - i)++G6 (.agg #[.string ⟨#[]⟩,.int .i64 0,.string ⟨#[]⟩,.slice none 0 0,.string ⟨#[]⟩,.int .i64 0]:Value).cells (G - (cap+1)):=⟨_,rfl⟩;obtain⟨W1,hW1⟩:∃W1,W1=w.drew.alloc (.cells ROW 64):=⟨_,rfl⟩;have hGn:cap+1<=G:=by rw[hG];exact grownCap_ge w _ _ _
 have hG63:G<=9223372036854775807:=by
  have:=grownCap_le_maxLen w (cap+1) cap 64 cD;rw[<-hG] at this;unfold maxLen at this;omega
 have hRs:ROW.size=G*6:=by
  rw[hROW];simp only[Array.size_append,List.size_toArray,FQ,size_zeroCells,hXl];rw[show (.agg #[.string ⟨#[]⟩,.int .i64 0,.string ⟨#[]⟩,.slice none 0 0,.string ⟨#[]⟩,.int .i64 0]:Value).cells.size=6 from rfl];omega
 have hRt:ROW.toList.take (i*6)=X.take (i*6):=by
  exact qF
 have hrz:∀ty,(GC #[138,3] ty #[.slice (some ⟨g,0,none⟩) i cap,.int .i64 ((cap:Int)+1 - (i:Int))]).run Tryz.prog w=.ok (.slice (some ⟨N,0,none⟩) (cap+1) G) W1:=fun ty=>by
  have hold:(Builtin.firstCells i0.size i (.slice (some ⟨g,0,none⟩) i cap)).run Tryz.prog w.drew=.ok (X.take (i*6)).toArray w.drew:=by
   rw[HI0.2.2.1];exact run_firstCells_some w.drew 6 i ⟨g,0,none⟩ i cap (X.take (i*6)) jK (fun j v hj=>by
    rw[FT,FX];rw[FR] at hj
    split at hj
    ·exact hcell j v hj
    ·cases hj)
  have h:=Lib.run_append_grow_zeros w 138 3 ty 64 i0 _ .i64 .i64 Tryz.underlying138 Tryz.underlying3 HI0.1 HI0.2.1 (some ⟨g,0,none⟩) i cap (X.take (i*6)) hold (cap+1 - i) af (by rw[HI0.2.2.1];decide) af af (by rw[HI0.2.2.2];omega) uV;exact vD
 have hgN:W1.heap[N]?=some (.cells ROW 64 (0,0)):=by rw[hW1,hN];exact Go.heap_alloc_new w.drew _
 obtain⟨hg1,hv1⟩:=vm;obtain⟨R2,hR2⟩:∃R2:List Value,R2=ROW.toList.take (i*6)++ys++ROW.toList.drop (i*6+ys.length):=⟨_,rfl⟩;obtain⟨W2,hW2⟩:∃W2,W2=W1.setRow N R2.toArray:=⟨_,rfl⟩;have hcpA:∀ty dc,(GL #[138,34] ty #[.slice (some ⟨N,i*6,none⟩) (cap+1 - i) dc,.slice (some ⟨vb,0,none⟩) 1 1]).run Tryz.prog W1=.ok (goInt (Nat.min 1 (cap+1 - i))) W2:=fun ty dc=>by
  rw[hW2,hR2];exact bp W1 138 34 ty 64 N (i*6) (cap+1 - i) dc ⟨vb,0,none⟩ 1 1 6 ROW 64 ys i0 Tryz.underlying138 HI0.1 HI0.2.2.1 hgN kZ (fun j u hj=>by
   rw[FT,aw (hv1.trans HY.out),FX]
   simpa using hj) (by rw[hRs,hyl];omega) HY1.out
 have hR2l:R2.length=G*6:=by
  exact qC
 have hgN2:W2.heap[N]?=some (.cells R2.toArray 64 (0,0)):=by rw[hW2];exact setRow_heap W1 N _ _ 64 _ hgN
 obtain⟨hgn,hg2⟩:=uZ;obtain⟨R3,hR3⟩:∃R3:List Value,R3=R2.take ((i+1)*6)++X.drop (i*6)++R2.drop ((i+1)*6+(X.drop (i*6)).length):=⟨_,rfl⟩;obtain⟨W3,hW3⟩:∃W3,W3=W2.drew.setRow N R3.toArray:=⟨_,rfl⟩;have hcpB:∀ty dc sc,(GL #[138,138] ty #[.slice (some ⟨N,(i+1)*6,none⟩) (cap - i) dc,.slice (some ⟨g,i*6,none⟩) (cap - i) sc]).run Tryz.prog W2.drew=.ok (goInt (Nat.min (cap - i) (cap - i))) W3:=fun ty dc sc=>by
  have:=bp W2.drew 138 138 ty 64 N ((i+1)*6) (cap - i) dc ⟨g,i*6,none⟩ (cap - i) sc 6 R2.toArray 64 (X.drop (i*6)) i0 Tryz.underlying138 HI0.1 HI0.2.2.1 hgN2 k7 (fun j u hj=>by
   rw[Gm] at hj;have hc:=hcell _ u hj;rw[FT];rw[<-hc]
   exact Gc (w:=w) (w':=W2.drew) hg2) uO (fun u hu=>HX1.out u (GY hu))
  rw[hW3,hR3];simpa only[List.toList_toArray] using this
 have hW3o:∀k,¬k=N->W3.heap[k]?=W1.heap[k]?:=fun k hk=>by rw[hW3,setRow_other W2.drew N k _ hk];exact (congrArg (fun z:World=>z.heap[k]?) hW2).trans (setRow_other W1 N k _ hk)
 have hfin:w.grownBy W3 (some g):=by
  exact wA
 have hrow:W3.ownsRow base 64 6 (.slice (some ⟨N,0,none⟩) (cap+1) G) (cap+1) (X.take (i*6)++ys++X.drop (i*6)):=by
  refine⟨?_,Or.inr ⟨N,G,R3.toArray,rfl,by omega,by rw[hW3];exact setRow_heap W2.drew N _ _ 64 _ hgN2,hGn,by unfold maxLen;omega,?_,?_⟩⟩
  ·exact iC
  ·exact qB
  ·have e:=iM (a:=i*6) (b:=cap*6) (m:=6) (R2:=R2) hRt hXl af hyl hR2 (R2.drop ((i+1)*6+(X.drop (i*6)).length));rw[hR3,show (cap+1)*6=cap*6+6 by omega,show (i+1)*6=i*6+6 by omega];rw[show (i+1)*6=i*6+6 by omega] at e;simpa using e
 obtain⟨hGi,hGim,hci,hz2,hz3,mixed,hw1,hb1,hin,htn,hb3,HF⟩:=vy;clear hN hrow hfin hW3o hW3 hW2 hR3 hg2 hgN2 hR2l hR2 hv1 hg1 hgN hRt hRs hW1 hROW hG hcell hdl hie hg htk hcs HO;go_enter Tryz.func170,Tryz.ntmps170;go_wp2_with (first
  | (at_builtin;refine Lib.wpList_append_run _ rfl _ _ _ _ rfl _ _ rfl rfl _ _ (hrz _) ?_)
  | (at_builtin;refine bV _ rfl _ _ 138 34 rfl _ _ rfl rfl (hcpA _ _) ?_))

 go_region_law_o (refine cG rfl _ _ 138 138 rfl _ _ eU eU (hcpB 3 (G - (i+1)) (cap - i)) ?_)
 go_wp2
 go_ret;exact⟨_,rfl,HF.1,HF.2⟩

theorem jb (a:Option Addr) (n cap:Nat) (X:List Value) (w:World) (hn:n<=8) (hXl:X.length=n*6) (hX1:∀u∈X,u.oneCell'=true) (hXc:∀(j:Nat) u,X[j]?=some u->∃g,a=some ⟨g,0,none⟩/\w.cell? ⟨g,j,none⟩=some u):
  Calls Tryz.prog 171 #[.slice a n cap] w fun e w'=> ∃a' c',e=.returned (.slice a' n c')/\w'.ownsRow w.heap.size 64 6 (.slice a' n c') n X/\Below w.heap.size w w':=by
 obtain⟨i0,hi,hz0,hz1,hz2⟩:=info_parts iK;have HI0:=aa (Fo hi (Fo hz0 (Fo hz1 hz2)));clear hi hz0 hz1 hz2;have HX1:=aa hX1;have HXC:=aa hXc;have heq:=fun w=>Hs w 138 64 a n cap 0 0 Tryz.underlying138;clear hX1 hXc;cases a with
 | none=>
  obtain rfl:X=[]:=by
   rcases X with _|⟨u,X⟩
   ·rfl
   ·obtain⟨g,e,_⟩:=HXC.out 0 u rfl
    cases e
  obtain rfl:n=0:=by simp at hXl;omega
  go_enter Tryz.func171,Tryz.ntmps171
  go_wp2
  go_ret;exact⟨none,0,rfl,Gh _ _ _ _,Fw _ _⟩
 | some ad=>
  obtain⟨ab,ao,asp⟩:=ad
  have hnew:∀(j:Nat) u,X[j]?=some u->(w.alloc (.cells #[] 64)).cell? ((⟨ab,ao,asp⟩:Addr).add j)=some u:=fun j u hu=>by
   obtain⟨g,e,hc⟩:=HXC.out j u hu
   cases e
   rw[FT,FX];have hlt:=bg hc;rw[<-hc];exact Gc (heap_alloc_old w _ hlt)
  have HN:=aa hnew;have HO:Hid ((w.alloc (.cells #[] 64)).ownsRow w.heap.size 64 6 (.slice (some ⟨w.heap.size,0,none⟩) 0 0) 0 []):=World.ownsRow_made w #[] 0 (Ft _) (Nat.zero_le _) aS;clear hnew HXC
  go_enter Tryz.func171,Tryz.ntmps171
  go_wp2_with (at_builtin;refine bj rfl _ _ 138 138 rfl w.heap.size 64 64 i0 (.agg #[.string ⟨#[]⟩,.int .i64 0,.string ⟨#[]⟩,.slice none 0 0,.string ⟨#[]⟩,.int .i64 0]) 6 88 Tryz.underlying138 Tryz.underlying138 HI0.1 HI0.2.1 HI0.2.2.1 HI0.2.2.2 rfl aj _ _ _ rfl HO.out ⟨ab,ao,asp⟩ n cap X rfl hXl HN.out HX1.out cD af aS ?_)
  intro v' w' h1 h2
  obtain⟨a',c',rfl⟩:∃a' c',v'=.slice a' n c':=by
   rcases h1.2 with ⟨rfl,h0⟩|⟨g,cp,cu,rfl,_⟩
   ·exact⟨none,0,by rw[h0]⟩
   ·exact⟨_,_,rfl⟩
  have H1:=aa h1;have H2:=aa h2;clear h1 h2
  go_wp2
  go_ret;refine⟨a',c',rfl,H1.out,((al w (.cells #[] 64)).grown H2.out aS (fun g hg=>?_))⟩
  simp[GZ] at hg
  omega

theorem ph (a:Option Addr) (n cap:Nat) (xs:List Pd) (x:Pd) (va:Option Addr) (vl vc hh:Nat) (Q Q2:Nat->Prop) (w:World) (ho:az w a n cap 6 64 (xs.map pdF) Q) (hn:n<=8) (hxf:∀(i:Nat) f,(pdF x)[i]?=some f->∃v,[.string x.n,.int .i64 x.c,.string x.z,.slice va vl vc,.string x.d,.int .i64 x.p][i]?=some v/\f.Fr w hh Q2 v) (hq:∀k,Q k->Q2 k->False):
  Calls Tryz.prog 130 #[.slice a n cap,.agg #[.string x.n,.int .i64 x.c,.string x.z,.slice va vl vc,.string x.d,.int .i64 x.p]] w fun e w'=> ∃a' l' c',e=.returned (.slice a' l' c')/\az w' a' l' c' 6 64 ((br (pl Pd.n xs x.n) x xs).map pdF) (fun k=>(Q k\/Q2 k)\/w.heap.size<=k)/\Below w.heap.size w w':=by
 have HR:=aa ho.row;have hxl:xs.length=n:=jI
 obtain⟨vss,H,hV,hcell⟩:=ho.lU;have hvl:vss.length=n:=by rw[hV.len,FU,hxl]
 have hfl:vss.flatten.length=n*6:=by rw[dr hV.all,hvl]
 have HV:=aa hV;have HC:=aa hcell;have HF:=aa hxf;have HQ:=aa hq;clear ho hV hcell hxf hq;have hmcalled:∀(v:Value) (w:World),(method 416 64 v "loop.example/g00571/impl.called").run Tryz.prog w=.ok (246,v) w:=fun _ _=>by kernel_rfl
 obtain⟨j,hj⟩:∃j,j=pl Pd.n xs x.n:=⟨_,rfl⟩;have hjn:j<=n:=by rw[hj,<-hxl];exact List.findIdx_le_length
 have HJ:=aa hj;have HFIN:Hid (∀(w4:World) v4 base,w.heap.size<=base->Below w.heap.size w w4->w4.ownsRow base 64 6 v4 (n+1) (vss.flatten.take (j*6)++[.string x.n,.int .i64 x.c,.string x.z,.slice va vl vc,.string x.d,.int .i64 x.p]++vss.flatten.drop (j*6))->∃a' c',v4=.slice a' (n+1) c'/\az w4 a' (n+1) c' 6 64 ((br (pl Pd.n xs x.n) x xs).map pdF) (fun k=>(Q k\/Q2 k)\/w.heap.size<=k)):=fun w4 v4 base hbs hB4 ho4=>by
  rw[<-iL HV.all af] at ho4;have hV4:=(HV.below hB4).aM (w':=w4) (S':=fun k=>(Q k\/Q2 k)\/w.heap.size<=k) (fun _ _ _ _=>rfl) (fun _ _ s=>.inl (.inl s));obtain⟨H4,hV5⟩:=hV4.ins (p:=j) (r:=pdF x) (vs:=[.string x.n,.int .i64 x.c,.string x.z,.slice va vl vc,.string x.d,.int .i64 x.p]) (hh:=fun _=>hh) rfl rfl (fun i f hf=>by
   obtain⟨v,h1,h2⟩:=HF.out i f hf
   exact⟨v,h1,h2.aM (fun cu _ q=>hB4.block _ (ae q)) (fun _ s=>.inl (.inr s))⟩) (fun i zs h hz k r i2 zs2 hr2 hz2 hne e=>by
  obtain⟨v,_,h2⟩:=HF.out i _ h;obtain⟨_,_,_,_,_,_,_,_,h3⟩:=h2;have hkv:k<vss.length:=by rw[HV.len];exact (Fm.1 hr2).1
  obtain⟨v',_,h5⟩:=HV.cell k r _ hr2 (Fu hkv) i2 _ hz2;obtain⟨_,_,_,_,_,_,_,_,h6⟩:=h5;rcases h3 with h3|⟨_,h3,_⟩
  ·exact hz h3
  ·rcases h6 with h6|⟨_,h6,_⟩
   ·exact hne h6
   ·rw[e] at h6;exact HQ.out _ h6 h3) (fun i i2 zs zs2 h _ h2 _=>by
  rcases i with _|_|_|_|_|_|i <;> simp[pdF] at h <;> rcases i2 with _|_|_|_|_|_|i2 <;> simp[pdF] at h2 <;> rfl) r_
  have h45:aX w4 (fun k=>(Q k\/Q2 k)\/w.heap.size<=k) 6 ((br j x xs).map pdF) (br j [.string x.n,.int .i64 x.c,.string x.z,.slice va vl vc,.string x.d,.int .i64 x.p] vss) H4:=by rw[kl];exact hV5
  have hle:((br j x xs).map pdF).length=n+1:=by rw[FU,d_ af,hxl]
  exact CO
 have HCL:Hid (∀W,Below w.heap.size w W->∀(k:Nat) u,vss.flatten[k]?=some u->∃g,a=some ⟨g,0,none⟩/\W.cell? ⟨g,k,none⟩=some u):=fun W hW k u hu=>by
  exact qu
 have HV1:=aa HV.one;clear HV HC HF HQ hj;go_enter Tryz.func130,Tryz.ntmps130;go_wp2_with fail;refine (dU x va vl vc _).mono ?_;rintro e w1 ⟨rfl,hb1⟩;obtain⟨hn1,hbx⟩:=aL hb1;have HN1:=aa hn1;have HB1:=aa hbx;clear hb1 hn1 hbx;go_wp2_with fail;refine (iX a n cap xs x.n _ (HR.below HB1.out)).mono ?_;rintro e w2 ⟨rfl,hb2⟩;have HN2:=aa ((hb2.block w.heap.size (ae HN1.out)).trans HN1.out);have HB2:=upB HB1 hb2;clear hb2 HN1 HB1;rw[<-HJ.out];generalize hit Pd.n xs x.n=bb;have hs2:=ae HN2.out;have HBD:Hid (Below w.heap.size w w2.drew):=Below.eY HB2.out;obtain⟨n0,n1,n2,n3,n4,n5⟩:=cs6 (show w2.drew.heap[w.heap.size]?=_ from HN2.out);have hcl1:Calls Tryz.prog 171 #[.slice a n cap] w2.drew fun e w3=> ∃a3 c3,e=.returned (.slice a3 n c3)/\Hid (w3.ownsRow w2.heap.size 64 6 (.slice a3 n c3) n vss.flatten)/\Hid (Below w.heap.size w w3)/\w2.heap.size<=w3.heap.size/\w.heap.size<w3.heap.size/\w3.heap[w.heap.size]?=some (.cells (pov x va vl vc) 64 (0,0)):=by
  refine (jb a n cap vss.flatten w2.drew hn hfl HV1.out (HCL.out _ HBD.out)).mono ?_;exact vM
 have hcl2:Calls Tryz.prog 171 #[.slice a n cap] (w2.alloc (.cells (pov x va vl vc) 64)).drew fun e w3=> ∃a3 c3,e=.returned (.slice a3 n c3)/\Hid (w3.ownsRow (w2.heap.size+1) 64 6 (.slice a3 n c3) n vss.flatten)/\Hid (Below w.heap.size w w3)/\w2.heap.size+1<=w3.heap.size/\Hid (w3.heap[w2.heap.size]?=some (.cells (pov x va vl vc) 64 (0,0))):=by
  have hbl:=Below.eY (HB2.alloc HB2.size (.cells (pov x va vl vc) 64));have hsz:(w2.alloc (.cells (pov x va vl vc) 64)).drew.heap.size=w2.heap.size+1:=aS
  refine (jb a n cap vss.flatten _ hn hfl HV1.out (HCL.out _ hbl)).mono ?_;rintro e w3 ⟨a3,c3,rfl,ho3,hb3⟩;have hs3:=hb3.size;rw[hsz] at ho3 hs3;exact⟨a3,c3,rfl,ho3,hbl.trans (hb3.mono hbl.size),hs3,(hb3.block w2.heap.size (by rw[hsz];omega)).trans (show (w2.alloc (.cells (pov x va vl vc) 64)).drew.heap[w2.heap.size]?=_ from heap_alloc_new w2 _)⟩
 have hin1:∀(w3:World) a3 c3,w3.ownsRow w2.heap.size 64 6 (.slice a3 n c3) n vss.flatten->Below w.heap.size w w3->w2.heap.size<=w3.heap.size->Calls Tryz.prog 170 #[.slice a3 n c3,.int .i64 j,.slice (some ⟨w3.heap.size,0,none⟩) 1 1] (w3.alloc (.cells (pov x va vl vc) 64)) fun e w4=> ∃a' c',e=.returned (.slice a' (n+1) c')/\Hid (az w4 a' (n+1) c' 6 64 ((br (pl Pd.n xs x.n) x xs).map pdF) (fun k=>(Q k\/Q2 k)\/w.heap.size<=k))/\Hid (Below w.heap.size w w4):=fun w3 a3 c3 ho3 hB3 hs3=>by
  refine (lu a3 n c3 j w2.heap.size w3.heap.size vss.flatten [.string x.n,.int .i64 x.c,.string x.z,.slice va vl vc,.string x.d,.int .i64 x.p] (w3.alloc (.cells (pov x va vl vc) 64)) (ho3.alloc _) hn hjn bG (heap_alloc_new w3 _) rfl eT HV1.out (fun g hg e=>by
   have h9:=(ho3.lt g (by rw[hg];rfl)).2
   omega)).mono ?_
  rintro e w4 ⟨v4,rfl,ho4,hg4⟩;have hB5:=(hB3.alloc hB3.size (.cells (pov x va vl vc) 64)).grown hg4 bG (fun g hg=>by
   have h9:=(ho3.lt g hg).1
   omega)
  exact sy
 have hin2:∀(w3:World) a3 c3,w3.ownsRow (w2.heap.size+1) 64 6 (.slice a3 n c3) n vss.flatten->Below w.heap.size w w3->w2.heap.size+1<=w3.heap.size->w3.heap[w2.heap.size]?=some (.cells (pov x va vl vc) 64 (0,0))->Calls Tryz.prog 170 #[.slice a3 n c3,.int .i64 j,.slice (some ⟨w2.heap.size,0,none⟩) 1 1] w3 fun e w4=> ∃a' c',e=.returned (.slice a' (n+1) c')/\Hid (az w4 a' (n+1) c' 6 64 ((br (pl Pd.n xs x.n) x xs).map pdF) (fun k=>(Q k\/Q2 k)\/w.heap.size<=k))/\Hid (Below w.heap.size w w4):=fun w3 a3 c3 ho3 hB3 hs3 hy3=>by
  refine (lu a3 n c3 j (w2.heap.size+1) w2.heap.size vss.flatten [.string x.n,.int .i64 x.c,.string x.z,.slice va vl vc,.string x.d,.int .i64 x.p] w3 ho3 hn hjn hs3 hy3 rfl eT HV1.out (fun g hg e=>by
   have h9:=(ho3.lt g (by rw[hg];rfl)).1
   omega)).mono ?_
  exact qb
 have C1:=aa hcl1;have C2:=aa hcl2;have I1:=aa hin1;have I2:=aa hin2;clear hcl1 hcl2 hin1 hin2 HFIN HCL HR HJ HBD HB2;have mixed:Tryz.prog.follows .mixedOrders=true:=aq
 go_wp2;go_region_with (first
  | (go_at_call 171;refine C1.mono ?_;rintro e w3 ⟨a3,c3,rfl,HO3,HB3,hs3,hw3l,hx3⟩;obtain⟨m0,m1,m2,m3,m4,m5⟩:=cs6 hx3;clear hx3)
  | (go_at_call 171;refine C2.mono ?_;rintro e w3 ⟨a3,c3,rfl,HO3,HB3,hs3,HY3⟩)
  | (go_at_call 170;refine (I1.out w3 a3 c3 HO3.out HB3.out hs3).mono ?_;rintro e w4 ⟨a',c',rfl,HR5,HB5⟩)
  | (go_at_call 170;refine (I2.out w3 a3 c3 HO3.out HB3.out hs3 HY3.out).mono ?_;rintro e w4 ⟨a',c',rfl,HR5,HB5⟩))
 all_goals (
  go_wp2
  go_ret
  exact⟨a',_,c',rfl,HR5.out,HB5.out⟩)

def mi (c:Cl) (x:Pd):Cl:=⟨c.ns,c.ks,c.vs,c.xs,br (pl Pd.n (wo Pd.n x.n c.ps) x.n) x (wo Pd.n x.n c.ps),c.now⟩
theorem Aw {ps:List Pd} {t:ByteArray} {k:Nat} {x y:Pd} (hr:aP Pd.n ps) (hx:ps[k]?=some x) (hn:x.n=t):br (pl Pd.n (wo Pd.n t ps) t) y (wo Pd.n t ps)=ps.set k y:=by
 have hk:k<ps.length:=(Fm.1 hx).1;have hw:=mO hr hx hn;have hpl:pl Pd.n (wo Pd.n t ps) t=k:=by
  rw[hw];have hlt:∀(j:Nat) z,j<k->(ps.take k++ps.drop (k+1))[j]?=some z->FB z.n.toList t.toList=true:=fun j z hj hz=>by
   exact yt
  by_cases he:k+1<ps.length
  ·have h1:(ps.take k).length=k:=by rw[FQ];omega
   have h2:(ps.take k++ps.drop (k+1))[k]?=some ps[k+1]:=by
    exact xN
   refine om hlt h2 ?_;have h3:=hr.lt (Nat.lt_succ_self k) hx (Fu he);rw[hn] at h3;cases h9:FB ps[k+1].n.toList t.toList
   ·rfl
   ·have h8:=cg _ _ _ h3 h9;rw[db] at h8;cases h8
  ·exact yR
 exact xn

theorem ry (d:Ad) (now:Int) (n z:ByteArray) (p s u:Int) (y:Bool) (va:Option Addr) (vl vc:Nat) (w:World)  :
  Calls Tryz.prog 259 #[.agg #[.slice d.a1 d.l1 d.c1,.slice d.a2 d.l2 d.c2,.slice d.a3 d.l3 d.c3,.slice d.a4 d.l4 d.c4,.slice d.a5 d.l5 d.c5,.int .i64 now],.agg #[.string n,.string z,.int .i64 p,.int .i64 s,.int .i64 u,.bool y,.slice va vl vc]] w fun e w'=>e=.returned (.agg #[.int .i64 u,.int .i64 now])/\Below w.heap.size w w':=by
 go_enter Tryz.func259,Tryz.ntmps259;go_wp2;exact bodyPost_ret (v:=.agg #[.int .i64 u,.int .i64 now]) (by simp[results,Tryz.results259,go_sem]) rfl ⟨rfl,bI _ _ _ _⟩

theorem Ax {c:Cl} {i:Nat} {p:Pd} (s:ByteArray) (hr:aP Pd.n c.ps) (hp:c.ps[i]?=some p):mi c (onP p s)=plC c i p s:=by
 unfold mi plC;rw[show br (pl Pd.n (wo Pd.n (onP p s).n c.ps) (onP p s).n) (onP p s) (wo Pd.n (onP p s).n c.ps)=c.ps.set i (onP p s) from Aw hr hp rfl]

def iQ (W:World) (nb vb:Nat) (t m:ByteArray):Prop:=W.heap[nb]?=some (.cells #[.string t] 9 (0,0))/\W.heap[vb]?=some (.cells #[.string m] 9 (0,0))
theorem iQ.below {W W':World} {nb vb:Nat} {t m:ByteArray} (h:iQ W nb vb t m) (hb:Below W.heap.size W W'):iQ W' nb vb t m:=
 ⟨(hb.block _ (ae h.1)).trans h.1,(hb.block _ (ae h.2)).trans h.2⟩
theorem AE (p:Pd) (va:Option Addr) (vl vc nb vb:Nat) (t m:ByteArray) (w:World) (hr:ay w va vl vc p.zs) (hh:iQ w nb vb t m):
  Calls Tryz.prog 275 #[.agg #[.string p.n,.int .i64 p.c,.string p.z,.slice va vl vc,.string p.d,.int .i64 p.p],.pointer (some ⟨nb,0,none⟩),.pointer (some ⟨vb,0,none⟩)] w (ar (OtP p t m) w):=by
 have HR:=aa hr;obtain⟨h1,h2⟩:=hh;have n0:=cs1 h1;have hnl:=ae h1;have v0:=cs1 h2;have hvl:=ae h2;clear hr h1 h2;by_cases h0:p.d=⟨#[]⟩
 ·have hq:=cV h0;have HE:=aa h0;clear h0;go_enter Tryz.func275,Tryz.ntmps275;go_wp2;go_ret;exact ar.f (fun h=>h.1 HE.out) (al _ _)
 have hq0:=bc h0;have H0:=aa h0;clear h0;by_cases he:p.d=t
 ·have hq:=a9 he;have HE:=aa he;clear he;go_enter Tryz.func275,Tryz.ntmps275;go_wp2;go_ret;exact ar.f (fun h=>h.2.1 HE.out) (al _ _)
 ·have hq:=bC he;have HE:=aa he;clear he;go_enter Tryz.func275,Tryz.ntmps275;go_wp2_with fail;refine (cj va vl vc p.zs m _ (HR.below (al _ _))).mono ?_;rintro e w1 ⟨r,rfl,hi,hb⟩;have HB:=aa ((al w _).trans (hb.mono aS));clear hb;go_wp2;go_ret;exact⟨r,rfl,⟨fun h=>⟨H0.out,HE.out,hi.1 h⟩,fun h=>hi.2 h.2.2⟩,HB.out⟩

theorem AB (a:Option Addr) (len cap:Nat) (ps:List Pd) (nb vb:Nat) (t m:ByteArray) (w:World) (hr:aN w a len cap 6 (ps.map pdF)) (hh:iQ w nb vb t m):
  Calls Tryz.prog 268 #[.slice a len cap,.func (.func 275) #[] #[.pointer (some ⟨nb,0,none⟩),.pointer (some ⟨vb,0,none⟩)]] w fun e w'=>(∃r:Int,e=.returned (.int .i64 r)/\((0<=r/\∃(j:Nat) (p:Pd),ps[j]?=some p/\OtP p t m)\/(r= -1/\∀(j:Nat) (p:Pd),ps[j]?=some p->¬OtP p t m)))/\Below w.heap.size w w':=by
 have HR:=aa hr;have HH:=aa hh;have hlc:=FA hr.2.1 hr.2.2.1;have hxl:ps.length=len:=dv
 clear hr hh;go_enter Tryz.func268,Tryz.ntmps268;go_wp2;go_loopw [8] (fun i wr=> ∃k:Nat,k<=len/\i=.int .i64 k/\Hid (∀(j:Nat) p,j<k->ps[j]?=some p->¬OtP p t m)/\Hid (Below w.heap.size w wr)) (fun i _=>len - (intOf i).toNat);case atStart=>exact⟨0,by omega,rfl,fun _ _ h=>absurd h af,Fw _ _⟩
 case round=>
  obtain⟨k,hk,rfl,HE,HB⟩:=hrel;by_cases hlt:k<len
  ·obtain⟨b,o,p,rfl,hb,hx,hat⟩:=bY (HR.below HB.out) hlt;obtain⟨va,vl,vc,hvr,z0,z2,z4,c0,c1,c2,c3,c4,c5⟩:=aT hat;have HX:=aa hx;have HV:=aa hvr;clear hat hx hvr z0 z2 z4;go_wp2_with fail;refine (AE p va vl vc nb vb t m _ HV.out (HH.below HB.out)).mono ?_;exact CP
  ·exact vF

theorem AD (a:Option Addr) (len cap:Nat) (ps:List Pd) (nb vb:Nat) (t m:ByteArray) (w:World) (hr:aN w a len cap 6 (ps.map pdF)) (hh:iQ w nb vb t m):
  Calls Tryz.prog 266 #[.slice a len cap,.func (.func 275) #[] #[.pointer (some ⟨nb,0,none⟩),.pointer (some ⟨vb,0,none⟩)]] w (ar (∃(j:Nat) (p:Pd),ps[j]?=some p/\OtP p t m) w):=by
 have HR:=aa hr;have HH:=aa hh;clear hr hh;go_enter Tryz.func266,Tryz.ntmps266;go_wp2_with fail;refine (AB a len cap ps nb vb t m _ HR.out HH.out).mono ?_;exact yP

theorem zx (d:Ad) (c:Cl) (m t:ByteArray) (w:World) (hr:aJ w d c.raw):
  Calls Tryz.prog 272 #[.agg #[.slice d.a1 d.l1 d.c1,.slice d.a2 d.l2 d.c2,.slice d.a3 d.l3 d.c3,.slice d.a4 d.l4 d.c4,.slice d.a5 d.l5 d.c5,.int .i64 c.now],.string m,.string t] w (ar (∃(j:Nat) (p:Pd),c.ps[j]?=some p/\OtP p t m) w):=by
 obtain⟨HR,HB⟩:=gK;clear hr;go_enter Tryz.func272,Tryz.ntmps272;go_wp2_with fail;refine (AD d.a5 d.l5 d.c5 c.ps (w.heap.size+1+1) (w.heap.size+1) t m _ (HR.p.below (HB.trans ((bI _ _ _ _).mono HB.size))) ⟨cS _ _ _ _,dC _ _ _ _⟩).mono ?_;exact yu

theorem AH (x t:ByteArray) (nb:Nat) (w:World) (hh:w.heap[nb]?=some (.cells #[.string t] 9 (0,0))):
  Calls Tryz.prog 274 #[.string x,.pointer (some ⟨nb,0,none⟩)] w (ar (¬x=t) w):=by
 have n0:=cs1 hh;clear hh;by_cases he:x=t
 ·have hq:=a9 he;have HE:=aa he;clear he;go_enter Tryz.func274,Tryz.ntmps274;go_wp2;go_ret;exact ar.f (fun h=>h HE.out) (Fw _ _)
 ·have hq:=bC he;have HE:=aa he;clear he;go_enter Tryz.func274,Tryz.ntmps274;go_wp2;go_ret;exact ar.t HE.out (Fw _ _)

theorem AF (a:Option Addr) (len cap:Nat) (zs:List ByteArray) (t:ByteArray) (nb:Nat) (w:World) (hr:ay w a len cap zs) (hh:w.heap[nb]?=some (.cells #[.string t] 9 (0,0))):
  Calls Tryz.prog 276 #[.slice a len cap,.func (.func 274) #[] #[.pointer (some ⟨nb,0,none⟩)]] w fun e w'=>(∃r:Int,e=.returned (.int .i64 r)/\((0<=r/\∃(j:Nat) (x:ByteArray),zs[j]?=some x/\¬x=t)\/(r= -1/\∀(j:Nat) x,zs[j]?=some x->x=t)))/\Below w.heap.size w w':=by
 have HR:=aa hr;have HH:=aa hh;have hlc:=FA hr.2.1 hr.2.2.1;have hxl:=hr.1;clear hr hh;go_enter Tryz.func276,Tryz.ntmps276;go_wp2;go_loopw [8] (fun i wr=> ∃k:Nat,k<=len/\i=.int .i64 k/\Hid (∀(j:Nat) x,j<k->zs[j]?=some x->x=t)/\Hid (Below w.heap.size w wr)) (fun i _=>len - (intOf i).toNat);case atStart=>exact⟨0,by omega,rfl,fun _ _ h=>absurd h af,Fw _ _⟩
 case round=>
  obtain⟨k,hk,rfl,HE,HB⟩:=hrel;by_cases hlt:k<len
  ·obtain⟨b,o,x,rfl,hb,hx,hc,hsz⟩:=(HR.below HB.out).at hlt;have HX:=aa hx;clear hx hsz;go_wp2_with fail;refine (AH x t nb _ ((HB.block _ (ae HH.out)).trans HH.out)).mono ?_;rintro e w1 ⟨r,rfl,hi,hb1⟩;have HI:=aa hi;have HB1:=upB HB hb1;clear hi hb1 hc;cases r
   ·go_wp2;refine⟨⟨k+1,by omega,by go_num,fun j z hj hz=>?_,HB1.out⟩,by simp[intOf];omega⟩;by_cases e:j=k
    ·subst e;rw[HX.out] at hz;obtain rfl:=Fq hz;exact Classical.byContradiction fun q=>(by have:=HI.2 q;cases this)
    ·exact HE.out j z af hz
   ·go_wp2;go_ret;exact⟨⟨k,rfl,.inl ⟨by omega,k,x,HX.out,HI.1 cr⟩⟩,HB1.out⟩
  ·exact vF

theorem AG (a:Option Addr) (len cap:Nat) (zs:List ByteArray) (t:ByteArray) (nb:Nat) (w:World) (hr:ay w a len cap zs) (hh:w.heap[nb]?=some (.cells #[.string t] 9 (0,0))):
  Calls Tryz.prog 273 #[.slice a len cap,.func (.func 274) #[] #[.pointer (some ⟨nb,0,none⟩)]] w (ar (∃(j:Nat) (x:ByteArray),zs[j]?=some x/\¬x=t) w):=by
 have HR:=aa hr;have HH:=aa hh;clear hr hh;go_enter Tryz.func273,Tryz.ntmps273;go_wp2_with fail;refine (AF a len cap zs t nb _ HR.out HH.out).mono ?_;rintro e w1 ⟨⟨r,rfl,hi⟩,hb⟩;have HB:=aa hb;clear hb;rcases hi with ⟨h0,h1⟩|⟨rfl,h1⟩
 ·have H1:=aa h1;clear h1;go_wp2;go_ret;exact ar.t H1.out HB.out
 ·have H1:=aa h1;clear h1;go_wp2;go_ret;exact ar.f (fun ⟨j,p,h2,h3⟩=>h3 (H1.out j p h2)) HB.out

theorem AS (v:Vd) (ua:Option Addr) (ul uc:Nat) (t:ByteArray) (w:World) (hr:ay w ua ul uc v.zs):
  Calls Tryz.prog 271 #[.agg #[.string v.n,.int .i64 v.c,.string v.z,.string v.k,.bool v.x,.string v.m,.bool v.y,.slice ua ul uc],.string t] w (ar (∃(j:Nat) (x:ByteArray),v.zs[j]?=some x/\¬x=t) w):=by
 have HR:=aa hr;clear hr;go_enter Tryz.func271,Tryz.ntmps271;go_wp2_with fail;refine (AG ua ul uc v.zs t (w.heap.size+1) _ (HR.below (aF _ _ _)) (bE _ _ _)).mono ?_;rintro e w1 ⟨r,rfl,hi,hb⟩;have HI:=aa hi;have HB:=aa ((aF w _ _).trans (hb.mono bG));clear hi hb;go_wp2;go_ret;exact⟨r,rfl,HI.out,HB.out⟩

theorem Ej (u v:Int) (w:World):Calls Tryz.prog 260 #[.agg #[.int .i64 u,.int .i64 v]] w (ar (v<u) w):=by
 by_cases h:v<u
 ·have hq:decide (v<u)=true:=iR
  have H1:=aa h;clear h;go_enter Tryz.func260,Tryz.ntmps260;exact ye
 ·have hq:decide (v<u)=false:=iR
  go_enter Tryz.func260,Tryz.ntmps260;go_wp2;go_ret;exact ar.f af kI

theorem En (d:Ad) (c:Cl) (p:Pd) (n:Nd) (pa:Option Addr) (pl pc:Nat) (na:Option Addr) (nl nc:Nat) (w:World):
  Calls Tryz.prog 258 #[.agg #[],.agg #[.slice d.a1 d.l1 d.c1,.slice d.a2 d.l2 d.c2,.slice d.a3 d.l3 d.c3,.slice d.a4 d.l4 d.c4,.slice d.a5 d.l5 d.c5,.int .i64 c.now,.string p.n,.int .i64 p.c,.string p.z,.slice pa pl pc,.string p.d,.int .i64 p.p,.string n.n,.string n.z,.int .i64 n.c,.int .i64 n.s,.int .i64 n.u,.bool n.d,.slice na nl nc]] w (ar (fY c n) w):=by
 cases hd:n.d
 ·go_enter Tryz.func258,Tryz.ntmps258;go_wp2_with fail;refine (ry d c.now n.n n.z n.c n.s n.u false na nl nc _).mono ?_;rintro e w1 ⟨rfl,hb⟩;have HB:=aa ((aF w _ _).trans (hb.mono bG));clear hb;go_wp2_with fail;refine (Ej _ _ _).mono ?_;rintro e w2 ⟨r,rfl,hi,hb⟩;have HI:=aa hi;replace HB:=upB HB hb;clear hi hb;cases r
  ·go_wp2;go_ret;exact ar.t (.inr (Int.not_lt.1 fun h=>by have:=HI.2 h;cases this)) HB.out
  ·go_wp2;go_ret;exact ar.f (fun h=>by
    rcases h with h|h
    ·rw[hd] at h;cases h
    ·have:=HI.1 cr;omega) HB.out
 ·go_enter Tryz.func258,Tryz.ntmps258;go_wp2;go_ret;exact ar.t (.inl hd) kI

theorem Ek (d:Ad) (c:Cl) (p:Pd) (n:Nd) (pa:Option Addr) (pl pc:Nat) (na:Option Addr) (nl nc:Nat) (w:World):
  Calls Tryz.prog 261 #[.agg #[],.agg #[.slice d.a1 d.l1 d.c1,.slice d.a2 d.l2 d.c2,.slice d.a3 d.l3 d.c3,.slice d.a4 d.l4 d.c4,.slice d.a5 d.l5 d.c5,.int .i64 c.now,.string p.n,.int .i64 p.c,.string p.z,.slice pa pl pc,.string p.d,.int .i64 p.p,.string n.n,.string n.z,.int .i64 n.c,.int .i64 n.s,.int .i64 n.u,.bool n.d,.slice na nl nc]] w (ar (jc p n) w):=by
 by_cases h0:p.z=⟨#[]⟩
 ·have hq:=cV h0;have H0:=aa h0;clear h0;go_enter Tryz.func261,Tryz.ntmps261;go_wp2;go_ret;exact ar.f (fun h=>h.1 H0.out) kI
 have hq0:=bc h0;have H0:=aa h0;clear h0;by_cases h1:p.z=n.z
 ·have hq:=a9 h1;have H1:=aa h1;clear h1;go_enter Tryz.func261,Tryz.ntmps261;go_wp2;go_ret;exact ar.f (fun h=>h.2 H1.out) kI
 ·have hq:=bC h1;have H1:=aa h1;clear h1;go_enter Tryz.func261,Tryz.ntmps261;go_wp2;go_ret;exact ar.t (Fo H0.out H1.out) kI

theorem ly (d:Ad) (c:Cl) (n:Nd) (na:Option Addr) (nl nc:Nat) (w:World) (hr:aJ w d c.raw) (hT:aB c) (hc:0<=n.c/\n.c<=1000000):
  Calls Tryz.prog 94 #[.agg #[.slice d.a1 d.l1 d.c1,.slice d.a2 d.l2 d.c2,.slice d.a3 d.l3 d.c3,.slice d.a4 d.l4 d.c4,.slice d.a5 d.l5 d.c5,.int .i64 c.now],.agg #[.string n.n,.string n.z,.int .i64 n.c,.int .i64 n.s,.int .i64 n.u,.bool n.d,.slice na nl nc]] w fun e w'=>e=.returned (.int .i64 (n.c - cpuOf n.n c.ps))/\Below w.heap.size w w':=by
 have HR:=aa hr;have h8:c.ps.length<=8:=by have:=hT.2.1.2.2.2.2.1;omega
 have HP:=aa (fun (j:Nat) p (hp:c.ps[j]?=some p)=>(hT.2.1.2.2.2.2.2.1 j p hp).2.1);have HU:=aa (mE n.n HP.out);obtain⟨hc0,hc1⟩:=hc;obtain⟨hu0,hu1⟩:=HU.out;have HB:=aa (Fw w.heap.size w);clear hr hT HU;go_enter Tryz.func94,Tryz.ntmps94;go_wp2_with fail;have Gk:Hid (((w.alloc (.cells (clv d c.now) 36)).alloc (.cells (nov n na nl nc) 57)).heap[w.heap.size]?=some (.cells (clv d c.now) 36 (0,0))):=cU _ _ _;have Gn:Hid (((w.alloc (.cells (clv d c.now) 36)).alloc (.cells (nov n na nl nc) 57)).heap[w.heap.size+1]?=some (.cells (nov n na nl nc) 57 (0,0))):=bE _ _ _;have HW:Hid (Below w.heap.size w ((w.alloc (.cells (clv d c.now) 36)).alloc (.cells (nov n na nl nc) 57))):=(HB.trans ((aF _ _ _).mono HB.size));obtain⟨k0,k1,k2,k3,k4,k5⟩:=sl6 Gk;have n0:=fun q:Wd ((w.alloc (.cells (clv d c.now) 36)).alloc (.cells (nov n na nl nc) 57))=>q.slot (o:=0) Gn.out rfl;have n2:=fun q:Wd ((w.alloc (.cells (clv d c.now) 36)).alloc (.cells (nov n na nl nc) 57))=>q.slot (o:=2) Gn.out rfl;have hne0:=Wd.ne ((w.alloc (.cells (clv d c.now) 36)).alloc (.cells (nov n na nl nc) 57));have HC0:=aa (fun q:Wd ((w.alloc (.cells (clv d c.now) 36)).alloc (.cells (nov n na nl nc) 57))=>gY d c.now c.ps n.n q.w (HR.p.below (HW.trans (q.b.mono HW.size))) h8 HP.out);go_wp2_with fail;refine ag aq aq ?_;repeat (go_big_quiet_step (first|(go_at_call 124;exact Calls.wide (HC0.out _))|fail))
 refine wpQuiet_nil ?_;rintro _ ⟨q1,rfl⟩;obtain⟨HB1,Ck⟩:=cM;have Cn:=upK Gn q1.b;clear hne0 HW HB HC0 k0 k1 k2 k3 k4 k5 n0 n2 Gk Gn;have HB:=HB1;clear HB1;clear Ck;clear Cn;go_wp2;go_ret;exact⟨by first|rfl|(congr 2;go_num),HB.out⟩

theorem E4 (d:Ad) (c:Cl) (p:Pd) (n:Nd) (pa:Option Addr) (pl pc:Nat) (na:Option Addr) (nl nc:Nat) (w:World) (hr:aJ w d c.raw) (hT:aB c) (hc:0<=n.c/\n.c<=1000000):
  Calls Tryz.prog 262 #[.agg #[],.agg #[.slice d.a1 d.l1 d.c1,.slice d.a2 d.l2 d.c2,.slice d.a3 d.l3 d.c3,.slice d.a4 d.l4 d.c4,.slice d.a5 d.l5 d.c5,.int .i64 c.now,.string p.n,.int .i64 p.c,.string p.z,.slice pa pl pc,.string p.d,.int .i64 p.p,.string n.n,.string n.z,.int .i64 n.c,.int .i64 n.s,.int .i64 n.u,.bool n.d,.slice na nl nc]] w (ar (kM c p n) w):=by
 have HR:=aa hr;have HT:=aa hT;have HC:=aa hc;have HB:=aa (Fw w.heap.size w);clear hr hT hc;go_enter Tryz.func262,Tryz.ntmps262;go_wp2_with fail;have Gz:Hid (((w.alloc (.cells #[] 149)).alloc (.cells (trv d c p n pa pl pc na nl nc) 66)).heap[w.heap.size]?=some (.cells #[] 149 (0,0))):=cU _ _ _;have Gt:Hid (((w.alloc (.cells #[] 149)).alloc (.cells (trv d c p n pa pl pc na nl nc) 66)).heap[w.heap.size+1]?=some (.cells (trv d c p n pa pl pc na nl nc) 66 (0,0))):=bE _ _ _;have HW:Hid (Below w.heap.size w ((w.alloc (.cells #[] 149)).alloc (.cells (trv d c p n pa pl pc na nl nc) 66))):=(HB.trans ((aF _ _ _).mono HB.size));have t0:=fun q:Wd ((w.alloc (.cells #[] 149)).alloc (.cells (trv d c p n pa pl pc na nl nc) 66))=>q.slot (o:=0) Gt.out rfl;have t1:=fun q:Wd ((w.alloc (.cells #[] 149)).alloc (.cells (trv d c p n pa pl pc na nl nc) 66))=>q.slot (o:=1) Gt.out rfl;have t2:=fun q:Wd ((w.alloc (.cells #[] 149)).alloc (.cells (trv d c p n pa pl pc na nl nc) 66))=>q.slot (o:=2) Gt.out rfl;have t3:=fun q:Wd ((w.alloc (.cells #[] 149)).alloc (.cells (trv d c p n pa pl pc na nl nc) 66))=>q.slot (o:=3) Gt.out rfl;have t4:=fun q:Wd ((w.alloc (.cells #[] 149)).alloc (.cells (trv d c p n pa pl pc na nl nc) 66))=>q.slot (o:=4) Gt.out rfl;have t5:=fun q:Wd ((w.alloc (.cells #[] 149)).alloc (.cells (trv d c p n pa pl pc na nl nc) 66))=>q.slot (o:=5) Gt.out rfl;have t7:=fun q:Wd ((w.alloc (.cells #[] 149)).alloc (.cells (trv d c p n pa pl pc na nl nc) 66))=>q.slot (o:=7) Gt.out rfl;have t12:=fun q:Wd ((w.alloc (.cells #[] 149)).alloc (.cells (trv d c p n pa pl pc na nl nc) 66))=>q.slot (o:=12) Gt.out rfl;have t13:=fun q:Wd ((w.alloc (.cells #[] 149)).alloc (.cells (trv d c p n pa pl pc na nl nc) 66))=>q.slot (o:=13) Gt.out rfl;have t14:=fun q:Wd ((w.alloc (.cells #[] 149)).alloc (.cells (trv d c p n pa pl pc na nl nc) 66))=>q.slot (o:=14) Gt.out rfl;have t15:=fun q:Wd ((w.alloc (.cells #[] 149)).alloc (.cells (trv d c p n pa pl pc na nl nc) 66))=>q.slot (o:=15) Gt.out rfl;have t16:=fun q:Wd ((w.alloc (.cells #[] 149)).alloc (.cells (trv d c p n pa pl pc na nl nc) 66))=>q.slot (o:=16) Gt.out rfl;have t17:=fun q:Wd ((w.alloc (.cells #[] 149)).alloc (.cells (trv d c p n pa pl pc na nl nc) 66))=>q.slot (o:=17) Gt.out rfl;have t18:=fun q:Wd ((w.alloc (.cells #[] 149)).alloc (.cells (trv d c p n pa pl pc na nl nc) 66))=>q.slot (o:=18) Gt.out rfl;have hne0:=Wd.ne ((w.alloc (.cells #[] 149)).alloc (.cells (trv d c p n pa pl pc na nl nc) 66));have HC0:=aa (fun q:Wd ((w.alloc (.cells #[] 149)).alloc (.cells (trv d c p n pa pl pc na nl nc) 66))=>ly d c n na nl nc q.w (HR.below (HW.trans (q.b.mono HW.size))) HT.out HC.out);go_wp2_with fail;refine ag aq aq ?_;repeat (go_big_quiet_step (first|(go_at_call 94;exact Calls.wide (HC0.out _))|fail))
 refine wpQuiet_nil ?_;rintro _ ⟨q1,rfl⟩;have HB1:=upB HW q1.b;have Cz:=upK Gz q1.b;have Ct:=upK Gt q1.b;clear hne0 HW HB HC0 t0 t1 t2 t3 t4 t5 t7 t12 t13 t14 t15 t16 t17 t18 Gz Gt;have HB:=HB1;clear HB1;clear Cz;clear Ct;go_wp2;go_ret;exact⟨_,rfl,by simp[kM],HB.out⟩

theorem DO (d:Ad) (c:Cl) (p:Pd) (n:Nd) (pa:Option Addr) (pl pc:Nat) (na:Option Addr) (nl nc:Nat) (v:Vd) (ua:Option Addr) (ul uc:Nat) (w:World):
  Calls Tryz.prog 269 #[.agg #[.string v.n,.int .i64 v.c,.string v.z,.string v.k,.bool v.x,.string v.m,.bool v.y,.slice ua ul uc],.agg #[.slice d.a1 d.l1 d.c1,.slice d.a2 d.l2 d.c2,.slice d.a3 d.l3 d.c3,.slice d.a4 d.l4 d.c4,.slice d.a5 d.l5 d.c5,.int .i64 c.now,.string p.n,.int .i64 p.c,.string p.z,.slice pa pl pc,.string p.d,.int .i64 p.p,.string n.n,.string n.z,.int .i64 n.c,.int .i64 n.s,.int .i64 n.u,.bool n.d,.slice na nl nc]] w (ar (¬v.z=n.z) w):=by
 by_cases h1:v.z=n.z
 ·have hq:=a9 h1;have H1:=aa h1;clear h1;go_enter Tryz.func269,Tryz.ntmps269;go_wp2;go_ret;exact ar.f (fun h=>h H1.out) kI
 ·have hq:=bC h1;have H1:=aa h1;clear h1;go_enter Tryz.func269,Tryz.ntmps269;exact ye

theorem DN (d:Ad) (c:Cl) (p:Pd) (n:Nd) (pa:Option Addr) (pl pc:Nat) (na:Option Addr) (nl nc:Nat) (v:Vd) (ua:Option Addr) (ul uc:Nat) (w:World) (hr:aJ w d c.raw) (hv:ay w ua ul uc v.zs):
  Calls Tryz.prog 270 #[.agg #[.string v.n,.int .i64 v.c,.string v.z,.string v.k,.bool v.x,.string v.m,.bool v.y,.slice ua ul uc],.agg #[.slice d.a1 d.l1 d.c1,.slice d.a2 d.l2 d.c2,.slice d.a3 d.l3 d.c3,.slice d.a4 d.l4 d.c4,.slice d.a5 d.l5 d.c5,.int .i64 c.now,.string p.n,.int .i64 p.c,.string p.z,.slice pa pl pc,.string p.d,.int .i64 p.p,.string n.n,.string n.z,.int .i64 n.c,.int .i64 n.s,.int .i64 n.u,.bool n.d,.slice na nl nc]] w (ar (gq c v n.n) w):=by
 cases hx:v.x
 ·go_enter Tryz.func270,Tryz.ntmps270;go_wp2;go_ret;exact ar.f (fun h=>by have h9:=h.1;rw[hx] at h9;cases h9) kI
 ·have HR:=aa hr;have HV:=aa hv;have HX:=aa hx;have HB:=aa (Fw w.heap.size w);have hz:=fun W h=>AS v ua ul uc n.n W h;rw[hx] at hz;have HZ:=aa hz;clear hr hv hz hx;go_enter Tryz.func270,Tryz.ntmps270;go_wp2_with fail;refine (HZ.out _ (HV.below (aF _ _ _))).mono ?_;rintro e w1 ⟨r,rfl,hi,hb⟩;obtain⟨HA0,HA1,hbx⟩:=cH hb;have Bh:=aa HA0;have Bt:=aa HA1;replace HB:=upB HB hbx;clear hb hbx HA0 HA1;have HI:=aa hi;clear hi;cases r;rotate_left
  ·obtain⟨h5,t0,t1,t2,t3,t4,t5,t12⟩:=ve;go_wp2;go_ret;exact ar.t ⟨HX.out,.inl (HI.1 cr)⟩ HB.out
  obtain⟨h5,t0,t1,t2,t3,t4,t5,t12⟩:=ve;go_wp2_with fail;refine (zx d c v.m n.n _ (HR.below HB.out)).mono ?_;rintro e w2 ⟨r2,rfl,hi2,hb⟩;clear h5 t0 t1 t2 t3 t4 t5 t12;replace Bh:=upK Bh hb;replace Bt:=upK Bt hb;replace HB:=upB HB hb;clear hb;have HI2:=aa hi2;clear hi2;obtain⟨h5,t0,t1,t2,t3,t4,t5,t12⟩:=ve;go_wp2;go_ret;refine⟨r2,rfl,⟨fun h=>⟨HX.out,.inr (HI2.1 h)⟩,fun h=>?_⟩,HB.out⟩;rcases h.2 with h1|h1
  ·have:=HI.2 h1;cases this
  ·exact HI2.2 h1

theorem DP (d:Ad) (c:Cl) (p:Pd) (n:Nd) (pa:Option Addr) (pl pc:Nat) (na:Option Addr) (nl nc:Nat) (k:Kd) (w:World):
  Calls Tryz.prog 256 #[.agg #[.string k.n,.bool k.x,.bool k.y,.string k.z],.agg #[.slice d.a1 d.l1 d.c1,.slice d.a2 d.l2 d.c2,.slice d.a3 d.l3 d.c3,.slice d.a4 d.l4 d.c4,.slice d.a5 d.l5 d.c5,.int .i64 c.now,.string p.n,.int .i64 p.c,.string p.z,.slice pa pl pc,.string p.d,.int .i64 p.p,.string n.n,.string n.z,.int .i64 n.c,.int .i64 n.s,.int .i64 n.u,.bool n.d,.slice na nl nc]] w (ar (k.x=false) w):=by
 cases hk:k.x
 ·go_enter Tryz.func256,Tryz.ntmps256;go_wp2;go_ret;exact ar.t cr kI
 ·go_enter Tryz.func256,Tryz.ntmps256;go_wp2;go_ret;exact ar.f (fun h=>Bool.noConfusion h) kI

theorem Em (d:Ad) (c:Cl) (p:Pd) (n:Nd) (pa:Option Addr) (pl pc:Nat) (na:Option Addr) (nl nc:Nat) (e:Int) (w:World):
  Calls Tryz.prog 277 #[.agg #[.int .i64 e],.agg #[.slice d.a1 d.l1 d.c1,.slice d.a2 d.l2 d.c2,.slice d.a3 d.l3 d.c3,.slice d.a4 d.l4 d.c4,.slice d.a5 d.l5 d.c5,.int .i64 c.now,.string p.n,.int .i64 p.c,.string p.z,.slice pa pl pc,.string p.d,.int .i64 p.p,.string n.n,.string n.z,.int .i64 n.c,.int .i64 n.s,.int .i64 n.u,.bool n.d,.slice na nl nc]] w (ar (¬e=0) w):=by
 go_enter Tryz.func277,Tryz.ntmps277;go_wp2;go_ret;exact⟨_,rfl,by simp,by first|exact aF _ _ _|exact bI _ _ _ _⟩

theorem fI (v:Nv):v.enc.length=7:=rfl
theorem mm:∀(ms:List Nv) (j:Nat) (u:Value),(ms.map Nv.enc).flatten[j]?=some u->∃(k:Nat) (v:Nv) (i:Nat),ms[k]?=some v/\v.enc[i]?=some u/\j=k*7+i
 | [],j,u,h=>by simp at h
 | v ::ms,j,u,h=>by
  rw[List.map_cons,Hh] at h;by_cases hj:j<7
  ·rw[FN (by rw[fI];exact hj)] at h;exact⟨0,v,j,rfl,h,by omega⟩
  ·rw[List.getElem?_append_right (by rw[fI];omega),fI] at h;obtain⟨k,x,i,h1,h2,h3⟩:=mm ms (j - 7) u h;exact⟨k+1,x,i,h1,h2,by omega⟩
theorem AJ (ms:List Nv) {j i:Nat} {v:Nv} {u:Value} (hv:ms[j]?=some v) (hu:v.enc[i]?=some u):(ms.map Nv.enc).flatten[j*7+i]?=some u:=
 fH (fun k vs hk=>by
  rw[FC] at hk;cases hm:ms[k]? with
  | none=>rw[hm] at hk;cases hk
  | some x=>rw[hm] at hk;cases hk;rfl) (by rw[FC,hv];rfl) hu
theorem sA:∀ms:List Nv,(ms.map Nv.enc).flatten.length=ms.length*7
 | []=>rfl
 | v ::ms=>by
  rw[List.map_cons,Hh,F7,sA ms,fI,G0];omega
theorem C6 {w:World} {a:Option Addr} {len cap:Nat} {ns:List Nd} (h:aN w a len cap 7 (ns.map ndF)):∀k,k<=len->∃ms:List Nv,ms.map Nv.n=ns.take k/\(∀(j:Nat) v,ms[j]?=some v->ay w v.a v.l v.c v.n.zs)/\∀(j:Nat) v (i:Nat) u,ms[j]?=some v->v.enc[i]?=some u->∃b o,a=some ⟨b,o,none⟩/\b<w.heap.size/\w.cell? ⟨b,o+(j*7+i),none⟩=some u
 | 0,_=>⟨[],rfl,fun j v h=>by simp at h,fun j v i u h=>by simp at h⟩
 | k+1,hk=>by
  obtain⟨ms,h1,h2,h3⟩:=C6 h k af;obtain⟨b,o,x,ha,hb,hx,hat⟩:=cB h (show k<len by omega);obtain⟨va,vl,vc,hvr,-,-,c0,c1,c2,c3,c4,c5,c6⟩:=aZ hat;have hl:ms.length=k:=by
   have:=congrArg List.length h1;have hn:ns.length=len:=by simpa using h.1
   simp at this;omega
  refine⟨ms++[⟨x,va,vl,vc⟩],by rw[List.map_append,h1,F6,hx];rfl,fun j v hj=>?_,fun j v i u hj hu=>?_⟩
  ·rw[Hj] at hj;split at hj
   ·exact h2 j v hj
   ·rename_i hlt;obtain⟨e,rfl⟩:j - ms.length=0/\v=⟨x,va,vl,vc⟩:=by
     exact xR
    exact hvr
  ·rw[Hj] at hj;split at hj
   ·exact h3 j v i u hj hu
   ·rename_i hlt;obtain⟨e,rfl⟩:j - ms.length=0/\v=⟨x,va,vl,vc⟩:=by
     exact xR
    obtain rfl:j=k:=af
    refine⟨b,o,ha,hb,?_⟩;rcases i with _|_|_|_|_|_|_|i;all_goals first
     | (cases hu;rw[<-Nat.add_assoc];assumption)
     | (exfalso;have:=(Fm.1 hu).1;rw[fI] at this;omega)
theorem A5 (ms:List Nv):∀u∈(ms.map Nv.enc).flatten,u.oneCell'=true:=by
 intro u hu;obtain⟨j,hj⟩:=FW hu;obtain⟨k,v,i,_,h2,_⟩:=mm ms j u hj;rcases i with _|_|_|_|_|_|_|i;all_goals first
  | (cases h2;rfl)
  | (exfalso;have:=(Fm.1 h2).1;rw[fI] at this;omega)

theorem rO (a:Option Addr) (n cap:Nat) (X:List Value) (w:World) (hn:n<=8) (hXl:X.length=n*7) (hX1:∀u∈X,u.oneCell'=true) (hXc:∀(j:Nat) u,X[j]?=some u->∃b o,a=some ⟨b,o,none⟩/\b<w.heap.size/\w.cell? ⟨b,o+j,none⟩=some u):
  Calls Tryz.prog 90 #[.slice a n cap] w fun e w'=> ∃a' c',e=.returned (.slice a' n c')/\w'.ownsRow w.heap.size 57 7 (.slice a' n c') n X/\Below w.heap.size w w':=by
 obtain⟨i0,hi,hz0,hz1,hz2⟩:=info_parts my;have HI0:=aa (Fo hi (Fo hz0 (Fo hz1 hz2)));clear hi hz0 hz1 hz2;have HX1:=aa hX1;have HXC:=aa hXc;have heq:=fun w=>Hs w 30 57 a n cap 0 0 Tryz.underlying30;clear hX1 hXc;cases a with
 | none=>
  obtain rfl:X=[]:=by
   rcases X with _|⟨u,X⟩
   ·rfl
   ·obtain⟨g,o,e,_⟩:=HXC.out 0 u rfl
    cases e
  obtain rfl:n=0:=by simp at hXl;omega
  go_enter Tryz.func90,Tryz.ntmps90
  go_wp2
  go_ret;exact⟨none,0,rfl,Gh _ _ _ _,Fw _ _⟩
 | some ad=>
  obtain⟨ab,ao,asp⟩:=ad
  have hnew:∀(j:Nat) u,X[j]?=some u->(w.alloc (.cells #[] 57)).cell? ((⟨ab,ao,asp⟩:Addr).add j)=some u:=fun j u hu=>by
   obtain⟨b,o,e,hlt,hc⟩:=HXC.out j u hu
   cases e
   rw[FT];rw[<-hc];exact Gc (heap_alloc_old w _ hlt)
  have HN:=aa hnew;have HO:Hid ((w.alloc (.cells #[] 57)).ownsRow w.heap.size 57 7 (.slice (some ⟨w.heap.size,0,none⟩) 0 0) 0 []):=World.ownsRow_made w #[] 0 (Ft _) (Nat.zero_le _) aS;clear hnew HXC
  go_enter Tryz.func90,Tryz.ntmps90
  go_wp2_with (at_builtin;refine bj rfl _ _ 30 30 rfl w.heap.size 57 57 i0 (.agg #[.string ⟨#[]⟩,.string ⟨#[]⟩,.int .i64 0,.int .i64 0,.int .i64 0,.bool false,.slice none 0 0]) 7 88 Tryz.underlying30 Tryz.underlying30 HI0.1 HI0.2.1 HI0.2.2.1 HI0.2.2.2 rfl aj _ _ _ rfl HO.out ⟨ab,ao,asp⟩ n cap X rfl hXl HN.out HX1.out cD af aS ?_)
  intro v' w' h1 h2
  obtain⟨a',c',rfl⟩:∃a' c',v'=.slice a' n c':=by
   rcases h1.2 with ⟨rfl,h0⟩|⟨g,cp,cu,rfl,_⟩
   ·exact⟨none,0,by rw[h0]⟩
   ·exact⟨_,_,rfl⟩
  have H1:=aa h1;have H2:=aa h2;clear h1 h2
  go_wp2
  go_ret;refine⟨a',c',rfl,H1.out,((al w (.cells #[] 57)).grown H2.out aS (fun g hg=>?_))⟩
  simp[GZ] at hg
  omega

theorem AU (a b:Nv) (cb:Nat) (d:Ad) (c:Cl) (w:World) (hr:aJ w d c.raw) (hT:aB c) (ha:0<=a.n.c/\a.n.c<=1000000) (hb:0<=b.n.c/\b.n.c<=1000000) (hk:w.heap[cb]?=some (.cells #[.slice d.a1 d.l1 d.c1,.slice d.a2 d.l2 d.c2,.slice d.a3 d.l3 d.c3,.slice d.a4 d.l4 d.c4,.slice d.a5 d.l5 d.c5,.int .i64 c.now] 36 (0,0))):
  Calls Tryz.prog 92 #[.agg #[.string a.n.n,.string a.n.z,.int .i64 a.n.c,.int .i64 a.n.s,.int .i64 a.n.u,.bool a.n.d,.slice a.a a.l a.c],.agg #[.string b.n.n,.string b.n.z,.int .i64 b.n.c,.int .i64 b.n.s,.int .i64 b.n.u,.bool b.n.d,.slice b.a b.l b.c],.pointer (some ⟨cb,0,none⟩)] w fun e w'=>e=.returned (.int .i64 (jl (frV c b) (frV c a)))/\Below w.heap.size w w':=by
 have HR:=aa hr;have HT:=aa hT;have HA:=aa ha;have HBB:=aa hb;have HB:=aa (Fw w.heap.size w);clear hr hT ha hb;have Bk:=aa (hk);clear hk;go_enter Tryz.func92,Tryz.ntmps92;go_wp2_with fail;have Gk:Hid (((w.alloc (.cells (nov a.n a.a a.l a.c) 57)).alloc (.cells (nov b.n b.a b.l b.c) 57)).heap[cb]?=some (.cells (clv d c.now) 36 (0,0))):=(Fy _ _ _ (by simp;have:=ae Bk.out;omega)).trans ((Fy _ _ _ (ae Bk.out)).trans (Bk.out));have Ga:Hid (((w.alloc (.cells (nov a.n a.a a.l a.c) 57)).alloc (.cells (nov b.n b.a b.l b.c) 57)).heap[w.heap.size]?=some (.cells (nov a.n a.a a.l a.c) 57 (0,0))):=cU _ _ _;have Gb:Hid (((w.alloc (.cells (nov a.n a.a a.l a.c) 57)).alloc (.cells (nov b.n b.a b.l b.c) 57)).heap[w.heap.size+1]?=some (.cells (nov b.n b.a b.l b.c) 57 (0,0))):=bE _ _ _;have HW:Hid (Below w.heap.size w ((w.alloc (.cells (nov a.n a.a a.l a.c) 57)).alloc (.cells (nov b.n b.a b.l b.c) 57))):=(HB.trans ((aF _ _ _).mono HB.size));obtain⟨k0,k1,k2,k3,k4,k5⟩:=sl6 Gk;obtain⟨a0,a1,a2,a3,a4,a5,a6⟩:=sl7 Ga;obtain⟨b0,b1,b2,b3,b4,b5,b6⟩:=sl7 Gb;have hne0:=Wd.ne ((w.alloc (.cells (nov a.n a.a a.l a.c) 57)).alloc (.cells (nov b.n b.a b.l b.c) 57));have HC0:=aa (fun q:Wd ((w.alloc (.cells (nov a.n a.a a.l a.c) 57)).alloc (.cells (nov b.n b.a b.l b.c) 57))=>(fun (n:Nd) (na:Option Addr) (nl nc:Nat) (hc:0<=n.c/\n.c<=1000000)=>ly d c n na nl nc q.w (HR.below (HW.trans (q.b.mono HW.size))) HT.out hc));have HC1:=aa (fun q:Wd ((w.alloc (.cells (nov a.n a.a a.l a.c) 57)).alloc (.cells (nov b.n b.a b.l b.c) 57))=>tN (b.n.c - cpuOf b.n.n c.ps) (a.n.c - cpuOf a.n.n c.ps) q.w);go_wp2_with fail;refine ag aq aq ?_;repeat (go_big_quiet_step (first|(go_at_call 94;exact Calls.wide (HC0.out _ _ _ _ _ (by first|exact HA.out|exact HBB.out)))|(go_at_call 93;exact Calls.wide (HC1.out _))|fail))
 refine wpQuiet_nil ?_;rintro _ ⟨q1,rfl⟩;obtain⟨HB1,Ck⟩:=cM;have Ca:=upK Ga q1.b;have Cb:=upK Gb q1.b;clear hne0 HW HB HC0 HC1 k0 k1 k2 k3 k4 k5 a0 a1 a2 a3 a4 a5 a6 b0 b1 b2 b3 b4 b5 b6 Gk Ga Gb Bk;have HB:=HB1;clear HB1;have Bk:=Ck;clear Ck;clear Ca;clear Cb;go_wp2;go_ret;exact⟨rfl,HB.out⟩

def ED (c:Cl) (w:World) (e:Ending) (w':World):Prop:=∃(ms ls:List Nv) (a:Option Addr) (g cap:Nat),e=.returned (.slice a c.ns.length cap)/\ms.map Nv.n=c.ns/\(∀(j:Nat) v,ms[j]?=some v->ay w v.a v.l v.c v.n.zs)/\eg (frV c) ltN ms ls ms.length/\cq w' g ls/\(0<c.ns.length->a=some ⟨g,0,none⟩)/\Below w.heap.size w w'
theorem cq.DA {w:World} {base n:Nat} {a:Option Addr} {cap:Nat} {ms:List Nv} (h:w.ownsRow base 57 7 (.slice a n cap) n (ms.map Nv.enc).flatten) (hn:ms.length=n):∃g,cq w g ms/\(0<n->a=some ⟨g,0,none⟩)/\base<=g:=by
 rcases h.2 with ⟨_,rfl⟩|⟨g,cp,cur,hv,hb,hg,_,_,_,hX⟩
 ·exact⟨base,.inl (List.length_eq_zero_iff.1 hn),fun h=>absurd h af,Ft _⟩
 ·cases hv;refine⟨g,.inr ⟨cur,hg,fun j v hj i u hu=>?_⟩,fun _=>rfl,hb⟩;have h1:=AJ ms hj hu;have hi:i<7:=(Fm.1 hu).1;have hj2:=(Fm.1 hj).1;rw[<-hX,FR,if_pos af] at h1;simpa using h1

theorem tK (d:Ad) (c:Cl) (w:World) (hr:aJ w d c.raw) (hT:aB c):
  Calls Tryz.prog 59 #[.agg #[.slice d.a1 d.l1 d.c1,.slice d.a2 d.l2 d.c2,.slice d.a3 d.l3 d.c3,.slice d.a4 d.l4 d.c4,.slice d.a5 d.l5 d.c5,.int .i64 c.now]] w (ED c w):=by
 have HR:=aa hr;have HT:=aa hT;have HB:=aa (Fw w.heap.size w);have hl1:c.ns.length=d.l1:=uU
 have h8:d.l1<=8:=by have:=hT.2.1.1.1;omega
 obtain⟨ms,hm,htx,hce⟩:=C6 hr.n d.l1 (Ft _);rw[FF af] at hm;have hml:ms.length=d.l1:=by rw[<-hl1,<-hm,FU]
 have HM:=aa hm;have HTX:=aa htx;have HML:=aa hml;have HCE:Hid (∀(j:Nat) u,(ms.map Nv.enc).flatten[j]?=some u->∃b o,d.a1=some ⟨b,o,none⟩/\b<w.heap.size/\w.cell? ⟨b,o+j,none⟩=some u):=fun j u hu=>by
  obtain⟨k,v,i,h1,h2,rfl⟩:=mm ms j u hu;exact hce k v i u h1 h2
 clear hr hT hm htx hce hml;go_enter Tryz.func59,Tryz.ntmps59;go_wp2_with fail;refine (rO d.a1 d.l1 d.c1 (ms.map Nv.enc).flatten _ h8 (by rw[sA,HML.out]) (A5 ms) (fun j u hu=>by obtain⟨b,o,h1,h2,h3⟩:=HCE.out j u hu;exact⟨b,o,h1,by simp;omega,(Gc (heap_alloc_old w _ h2)).trans h3⟩)).mono ?_;rintro e w1 ⟨a',c',rfl,ho,hb⟩;obtain⟨HA0,hbx⟩:=aL hb;have Bk:=aa HA0;replace HB:=upB HB hbx;clear hb hbx HA0;obtain⟨g,hs,hga,hgb⟩:=cq.DA ho HML.out;have HS:=aa hs;have HGA:=aa hga;clear hs hga ho HCE;obtain⟨k0,k1,k2,k3,k4,k5⟩:=cs6 Bk;go_wp2_with fail;have hgb2:w.heap.size+1<=g:=by simpa using hgb
 have HGB:=aa hgb2;clear hgb hgb2;have HCC:Hid (∀W,aC (fun k=>k=g) w1 W->∀a b:Nv,a∈ms->b∈ms->Calls Tryz.prog 92 #[.agg #[.string a.n.n,.string a.n.z,.int .i64 a.n.c,.int .i64 a.n.s,.int .i64 a.n.u,.bool a.n.d,.slice a.a a.l a.c],.agg #[.string b.n.n,.string b.n.z,.int .i64 b.n.c,.int .i64 b.n.s,.int .i64 b.n.u,.bool b.n.d,.slice b.a b.l b.c],.pointer (some ⟨w.heap.size,0,none⟩)] W fun e W'=>e=.returned (.int .i64 (jl (frV c b) (frV c a)))/\Below W.heap.size W W'):=fun W hW a b ha hb=>by
  have hg:=HGB.out;have hbw:=HB.trans (hW.low HB.size (fun k hk=>by have h:k=g:=hk;omega));have hin:∀v:Nv,v∈ms->0<=v.n.c/\v.n.c<=1000000:=fun v hv=>by
   obtain⟨j,hj⟩:=FW hv;exact (HT.2.1.1.2.1 j v.n (by rw[<-HM.out,FC,hj];rfl)).2.2.1
  exact AU a b w.heap.size d c W (HR.below hbw) HT.out (hin a ha) (hin b hb) ((hW.block _ (ae Bk.out) (fun e=>by have h:w.heap.size=g:=e;omega)).trans Bk.out)
 have HLT:Hid (∀(i j:Nat) a b,i<j->ms[i]?=some a->ms[j]?=some b->ltN a b):=fun i j a b hij ha hb=>HT.2.1.1.2.2.lt hij (by rw[<-HM.out,FC,ha];rfl) (by rw[<-HM.out,FC,hb];rfl);refine (zp a' g d.l1 c' w.heap.size c ms w1 HGA.out HML.out h8 HS.out HLT.out HCC.out).mono ?_;rintro e w2 ⟨rfl,ls,h1,h2,h3⟩;have HQ:=aa h1;have HS2:=aa h2;have HB2:Hid (Below w.heap.size w w2):=HB.trans (h3.low HB.size (fun k hk=>by have h:k=g:=hk;have:=HGB.out;omega));clear h1 h2 h3 HCC HLT;go_wp2;go_ret;exact⟨ms,ls,a',g,c',by rw[hl1];rfl,HM.out,HTX.out,by rw[HML.out];exact HQ.out,HS2.out,fun h=>HGA.out af,HB2.out⟩

theorem oW {c:Cl} {i:Nat} {p:Pd} {ms ls:List Nv} {k:Nat} {v:Nv} (hm:ms.map Nv.n=c.ns) (hr:aP Nd.n c.ns) (hs:eg (frV c) ltN ms ls ms.length) (hk:ls[k]?=some v) (hF:ic c i p v.n) (hno:∀(j:Nat) u,j<k->ls[j]?=some u->¬ic c i p u.n):∃b,kO c i p b v.n:=by
 obtain⟨P,rfl,_,h2,h3⟩:=hs;rw[List.drop_length,GD] at hk hno;rw[List.take_length] at h2;have hv:=h2.mem_iff.1 (FZ hk);obtain⟨b,hb⟩:=FW hv;have hb':c.ns[b]?=some v.n:=by rw[<-hm,FC,hb];rfl
 refine⟨b,hb',hF,fun j m hj hG=>?_⟩;have hj':(ms.map Nv.n)[j]?=some m:=by rw[hm];exact hj
 rw[FC] at hj';cases hu:ms[j]? with
 | none=>rw[hu] at hj';cases hj'
 | some u=>
  rw[hu] at hj';obtain rfl:u.n=m:=Fq hj';obtain⟨q,hq⟩:=FW (h2.mem_iff.2 (FZ hu))
  have hqk:k<=q:=by
   have:=hno q u
   by_cases hlt:q<k
   ·exact absurd hG (this hlt hq)
   ·omega
  by_cases e:k=q
  ·subst e;rw[hk] at hq;obtain rfl:=Fq hq;exact .inr ⟨rfl,by rw[(hr.inj hb' hj rfl).1];exact Ft _⟩
  ·have hlt:k<q:=af
   have hR:=List.pairwise_iff_getElem.1 h3 k q (Fm.1 hk).1 (Fm.1 hq).1 hlt;rw[(Fm.1 hk).2,(Fm.1 hq).2] at hR
   rcases hR with hR|⟨hR,hL⟩
   ·exact .inl hR
   ·refine .inr ⟨hR.symm,?_⟩
    by_cases hbj:b<=j
    ·exact hbj
    ·have h9:=hr.lt (show j<b by omega) hj hb';have h8:=cg _ _ _ hL h9;rw[db] at h8
     cases h8
theorem tr {c:Cl} {i:Nat} {p:Pd} {ms ls:List Nv} (hm:ms.map Nv.n=c.ns) (hs:eg (frV c) ltN ms ls ms.length) (hno:∀(j:Nat) u,ls[j]?=some u->¬ic c i p u.n):fp c i p:=by
 obtain⟨P,rfl,_,h2,h3⟩:=hs;rw[List.drop_length,GD] at hno;rw[List.take_length] at h2;intro j n hj hF;rw[<-hm,FC] at hj;cases hu:ms[j]? with
 | none=>rw[hu] at hj;cases hj
 | some u=>
  rw[hu] at hj;obtain rfl:u.n=n:=Fq hj;obtain⟨q,hq⟩:=FW (h2.mem_iff.2 (FZ hu));exact hno q u hq hF

def oZ (c:Cl) (t:ByteArray):Prop:=∃(i j:Nat) (x:Xd) (k:Kd),c.xs[i]?=some x/\x.n=t/\x.v=⟨#[]⟩/\c.ks[j]?=some k/\k.n=x.k/\k.x=false
def Aln (c:Cl) (p:Pd):Prop:=∃(m:Nat) (t:ByteArray),p.zs[m]?=some t/\oZ c t
theorem oZ.of {c c':Cl} {n:Nd} {t:ByteArray} (h:cJ c n t c' 11):oZ c t:=by
 obtain⟨i,x,h1,h2,h⟩:=h;rcases h with ⟨_,_,_,_,_,⟨_,e⟩|⟨_,_,e⟩|⟨_,_,e⟩⟩|⟨h3,j,k,o,h4,h5,h6,_,⟨h7,_⟩|⟨_,e⟩⟩
 ·exact absurd e aj
 ·exact absurd e aj
 ·exact absurd e aj
 ·exact⟨i,j,x,k,h1,h2,h3,h4,h5,h7⟩
 ·rcases h6 with ⟨_,_,_,_,rfl⟩|⟨_,⟨_,rfl⟩|⟨_,⟨_,rfl⟩|⟨_,⟨_,rfl⟩|⟨_,rfl⟩⟩⟩⟩ <;> first|exact absurd (show (11:Int)=0 from e) aj|exact absurd e aj
theorem oZ.not {c c':Cl} {n:Nd} {t:ByteArray} (hT:aB c) (h:oZ c t) (h':cJ c n t c' 0):False:=by
 obtain⟨i,j,x,k,h1,h2,h3,h4,h5,h6⟩:=h;obtain⟨i',x',g1,g2,g⟩:=h';obtain⟨rfl,rfl⟩:=hT.2.1.2.2.2.1.2.2.inj h1 g1 (h2.trans g2.symm);rcases g with ⟨a,v,g3,g4,_⟩|⟨_,a,k',o,g4,g5,_,_,⟨_,e⟩|⟨g7,_⟩⟩
 ·have hn:=(hT.2.1.2.2.1.2.1 a v g3).1;rw[g4,h3] at hn;exact absurd hn.1 aj
 ·exact absurd e aj
 ·obtain⟨rfl,rfl⟩:=hT.2.1.2.1.2.2.inj h4 g4 (h5.trans g5.symm);rw[h6] at g7;cases g7
theorem cJ.oH {c c':Cl} {n:Nd} {t:ByteArray} (h:cJ c n t c' 0) {i:Nat} {x:Xd} (hx:c.xs[i]?=some x) (hn:¬x.n=t):c'.xs[i]?=some x:=by
 obtain⟨i',x',g1,g2,g⟩:=h;have hne:¬i'=i:=fun e=>by
  subst e;rw[hx] at g1;obtain rfl:=Fq g1;exact hn g2
 rcases g with ⟨_,_,_,_,rfl,_⟩|⟨_,_,_,o,_,_,h6,rfl,⟨_,e⟩|⟨_,e⟩⟩
 ·exact hx
 ·exact absurd e aj
 ·rcases h6 with ⟨_,_,_,_,rfl⟩|⟨_,⟨_,rfl⟩|⟨_,⟨_,rfl⟩|⟨_,⟨_,rfl⟩|⟨_,rfl⟩⟩⟩⟩
  ·exact (List.getElem?_set_ne hne).trans hx
  ·exact absurd e aj
  ·exact absurd e aj
  ·exact absurd e aj
  ·exact (List.getElem?_set_ne hne).trans hx
theorem cv.oH {c:Cl} {n:Nd} {ts:List ByteArray} {i:Nat} {x:Xd} (hx:c.xs[i]?=some x):∀(k:Nat) (c':Cl),cv c n ts k c'->(∀(j:Nat) t,j<k->ts[j]?=some t->¬x.n=t)->c'.xs[i]?=some x
 | 0,c',h,_=>by
  obtain rfl:c'=c:=h;exact hx
 | k+1,c',h,hn=>by
  obtain⟨c1,t,h1,h2,h3⟩:=h;exact h3.oH (cv.oH hx k c1 h1 (fun j s hj=>hn j s af)) (hn k t af h2)
theorem kV {zs:List ByteArray} (h:fo zs) {i:Nat} :∀(j:Nat) {x y:ByteArray},i<j->zs[i]?=some x->zs[j]?=some y->FB x.toList y.toList=true
 | 0,_,_,hij,_,_=>absurd hij af
 | j+1,x,y,hij,hx,hy=>by
  have hj:j<zs.length:=by have:=(Fm.1 hy).1;omega
  have h1:=(h (j+1) y hy).2 zs[j] af (Fu hj);by_cases e:i=j
  ·subst e;rw[Fu hj] at hx;obtain rfl:=Fq hx;exact h1
  ·exact cg _ _ _ (kV h j af hx (Fu hj)) h1
theorem cv.Fl {c c':Cl} {n:Nd} {ts:List ByteArray} {k m:Nat} {t:ByteArray} (hT:aB c) (hn:aO n.z) (hz:fo ts) (hr:cv c n ts k c') (ht:ts[m]?=some t) (hk:k<=m) (hh:hit Xd.n c.xs t=true):oZ c' t↔oZ c t:=by
 have hR:=cv.right hT hn k c' hr;have hne:∀{x:Xd},x.n=t->∀(j:Nat) s,j<k->ts[j]?=some s->¬x.n=s:=fun {x} hx j s hj hs e=>by
  have h9:=kV hz m (show j<m by omega) hs ht;rw[<-hx,<-e,db] at h9;cases h9
 constructor
 ·rintro⟨i,j,x,y,h1,h2,h3,h4,h5,h6⟩;obtain⟨i0,x0,hx0,hn0⟩:=Bm.DB hh;have h7:=cv.oH hx0 k c' hr (hne hn0);obtain⟨rfl,rfl⟩:=hR.1.2.1.2.2.2.1.2.2.inj h1 h7 (h2.trans hn0.symm);exact⟨i,j,x,y,hx0,h2,h3,by rw[<-hR.2.2.1];exact h4,h5,h6⟩
 ·rintro⟨i,j,x,y,h1,h2,h3,h4,h5,h6⟩;exact⟨i,j,x,y,cv.oH h1 k c' hr (hne h2),h2,h3,by rw[hR.2.2.1];exact h4,h5,h6⟩
theorem Aln.none {c:Cl} {i:Nat} {p:Pd} (hT:aB c) (hp:c.ps[i]?=some p) (h:Aln c p):fp c i p:=by
 obtain⟨m,t,ht,ha⟩:=h;have hz:=(hT.2.1.2.2.2.2.2.1 i p hp).2.2.2.1.2;have hh:=(hT.2.2.2.1.1 _ _ hp).1 m t ht;have hm:=(Fm.1 ht).1;rintro j n hn ⟨c',hs⟩;have hnz:=(hT.2.1.1.2.1 j n hn).2.1;rcases hs with ⟨_,e⟩|⟨_,⟨_,e⟩|⟨_,⟨_,e⟩|⟨_,c1,e1,hA,hE⟩⟩⟩
 ·exact absurd e aj
 ·exact absurd e aj
 ·exact absurd e aj
 have e0:e1=0:=by
  rcases hE with ⟨h1,h2⟩|⟨h1,_⟩
  ·exact h2.symm
  ·exact h1
 subst e0;rcases hA with ⟨hR,_⟩|⟨_,_,_,_,_,_,hne⟩
 ·obtain⟨c2,c3,s,r1,r2,r3⟩:=cv.less p.zs.length (m+1) c1 af hR;rw[ht] at r2;obtain rfl:=Fq r2;exact ((cv.Fl hT hnz hz r1 ht (Ft _) hh).2 ha).not (cv.right hT hnz m c3 r1).1 r3
 ·exact hne rfl
theorem Aln.of {c c':Cl} {i j:Nat} {p:Pd} {n:Nd} {e:Int} (hT:aB c) (hp:c.ps[i]?=some p) (hn:c.ns[j]?=some n) (h:dx c i p n c' e) (he:e=11) (ha:¬fY c n):Aln c p:=by
 subst he;have hz:=(hT.2.1.2.2.2.2.2.1 i p hp).2.2.2.1.2;have hnz:=(hT.2.1.1.2.1 j n hn).2.1;rcases h with ⟨h,_⟩|⟨_,⟨_,e⟩|⟨_,⟨_,e⟩|⟨_,c1,e1,hA,hE⟩⟩⟩
 ·exact absurd h ha
 ·exact absurd e aj
 ·exact absurd e aj
 have e1:e1=11:=by
  rcases hE with ⟨_,h2⟩|⟨_,⟨_,e⟩|⟨_,e,_⟩⟩
  ·exact h2.symm
  ·exact absurd e aj
  ·exact absurd e aj
 subst e1;rcases hA with ⟨_,e⟩|⟨k,c2,t,h1,h2,h3,_⟩
 ·exact absurd e aj
 ·exact⟨k,t,h2,(cv.Fl hT hnz hz h1 h2 (Ft _) ((hT.2.2.2.1.1 _ _ hp).1 k t h2)).1 (oZ.of h3)⟩

def SlF (L:Nat):Fact:=fun v _=> ∃a p,v=.slice a L p
theorem SlF.mono (L:Nat):Fact.bB (SlF L):=fun _ _ _ h _=>h
theorem El (d:Ad) (c:Cl) (p:Pd) (n:Nd) (pa:Option Addr) (pl pc:Nat) (na:Option Addr) (nl nc:Nat) (w:World) (hr:aJ w d c.raw) (hv:c.vs.length<=8):
  Calls Tryz.prog 263 #[.agg #[],.agg #[.slice d.a1 d.l1 d.c1,.slice d.a2 d.l2 d.c2,.slice d.a3 d.l3 d.c3,.slice d.a4 d.l4 d.c4,.slice d.a5 d.l5 d.c5,.int .i64 c.now,.string p.n,.int .i64 p.c,.string p.z,.slice pa pl pc,.string p.d,.int .i64 p.p,.string n.n,.string n.z,.int .i64 n.c,.int .i64 n.s,.int .i64 n.u,.bool n.d,.slice na nl nc]] w (ar (n.s<((dJ c n.n c.vs).length:Int)) w):=by
 have HR:=aa hr;have h8:=hv;clear hr hv;go_enter Tryz.func263,Tryz.ntmps263;go_wp2_with fail;have GT:Hid (((w.alloc (.cells #[] 152)).alloc (.cells (trv d c p n pa pl pc na nl nc) 66)).heap[w.heap.size+1]?=some (.cells (trv d c p n pa pl pc na nl nc) 66 (0,0))):=bE _ _ _;have HV:Hid (Below w.heap.size w ((w.alloc (.cells #[] 152)).alloc (.cells (trv d c p n pa pl pc na nl nc) 66))):=aF _ _ _;rename_i K0 hK0;refine aR aq rfl rfl aq ?_;refine' au.an _ rfl ?_ ?_;rotate_left 1
 ·exact lZ
 refine' au.an _ rfl ?_ ?_;rotate_left 1
 ·refine Obl.plain rfl ?_;intro ac wg K hsz hW hf hK;clear hsz;have e5:=hf 5 aj;simp[ai,Fs] at e5;clear hf;have t0:=ck0 ((hW.block _ (ae GT.out)).trans GT.out);have t1:=ck1 ((hW.block _ (ae GT.out)).trans GT.out);have t2:=ck2 ((hW.block _ (ae GT.out)).trans GT.out);have t3:=ck3 ((hW.block _ (ae GT.out)).trans GT.out);have t4:=ck4 ((hW.block _ (ae GT.out)).trans GT.out);have t5:=ck5 ((hW.block _ (ae GT.out)).trans GT.out);exact aU
 refine' au.an _ rfl ?_ ?_;rotate_left 1
 ·exact lZ
 refine' au.an _ rfl ?_ ?_;rotate_left 1
 ·exact dZ
 refine' au.an _ rfl ?_ ?_;rotate_left 1
 ·refine Obl.plain rfl ?_;intro ac wg K hsz hW hf hK;clear hsz;have e8:=hf 8 aj;simp[ai,Fs] at e8;clear hf;have t12:=Es ((hW.block _ (ae GT.out)).trans GT.out);exact aU
 refine au.step (SlF (dJ c n.n c.vs).length) rfl (SlF.mono _) ?_ ?_
 ·refine Obl.plain rfl ?_;intro ac wg K hsz hW hf hK;clear hsz;have e6:=hf 6 aj;simp[ai,Fs] at e6;have e9:=hf 9 aj;simp[ai,Fs] at e9;clear hf;go_simp;refine (zD d c n.n wg (HR.below (HV.trans (hW.mono HV.size))) h8).mono ?_;rintro e w1 ⟨a,l,p,rfl,ho,hb⟩;exact hK _ _ hb ⟨a,p,by rw[ho.row.1]⟩
 refine' au.an _ rfl ?_ ?_;rotate_left 1
 ·refine Obl.plain rfl ?_;intro ac wg K hsz hW hf hK;clear hsz;have e10:=hf 10 aj;simp[ai,Fs] at e10;obtain⟨a,p,e10⟩:=e10;clear hf;exact aU
 refine' au.an _ rfl ?_ ?_;rotate_left 1
 ·exact lZ
 refine' au.an _ rfl ?_ ?_;rotate_left 1
 ·refine Obl.plain rfl ?_;intro ac wg K hsz hW hf hK;clear hsz;have e12:=hf 12 aj;simp[ai,Fs] at e12;clear hf;exact aU
 refine' au.an _ rfl ?_ ?_;rotate_left 1
 ·refine Obl.plain rfl ?_;intro ac wg K hsz hW hf hK;clear hsz;have e13:=hf 13 aj;simp[ai,Fs] at e13;clear hf;have t15:=E6 ((hW.block _ (ae GT.out)).trans GT.out);exact aU
 refine' au.an _ rfl ?_ ?_;rotate_left 1
 ·refine Obl.plain rfl ?_;intro ac wg K hsz hW hf hK;clear hsz;have e11:=hf 11 aj;simp[ai,Fs] at e11;have e14:=hf 14 aj;simp[ai,Fs] at e14;clear hf;exact aU
 refine au.done ?_;intro q wz hW hf;simp only[FI] at hf;obtain⟨h15,h14,h13,h12,h11,⟨a,p9,h10⟩,h9,h8x,h7,h6,h5,-⟩:=hf;intro K hK;rw[if_pos bF];simp only[aE,Gd,GI,Fz,FH,FM,h15,h14,h13,h12,h11,h10,h9,h8x,h7,h6,h5];simp only[List.getLast];go_simp;refine hK _ _ ?_;refine hK0 _ _ ?_;clear hK hK0 K K0;have HZ:=upB HV hW;go_wp2;go_ret;exact⟨_,rfl,by simp,HZ.out⟩

end Rc
end Go.Proofs.YtpejepeekdjfoaaGreatDoor

namespace Go.Proofs.YtpejepeekdjfoaaGreatDoor
open Go.RowKit
namespace Gs

def jf (SR:World->World->Prop) (φ:Fact):Prop:=φ.bB/\∀v w w',φ v w->SR w w'->φ v w'
theorem oR (SR:World->World->Prop) (c:Value):jf SR (fun v _=>v=c):=⟨Fact.cw c,fun _ _ _ h _=>h⟩
def lI (SR:World->World->Prop) (t4:Tmp) (Ψ:Fact) (P:Program) (ops:Array Oper) (Q:Exit->Act->World->Prop) (W:World) (a0:Act) (known:List (Tmp×Fact)) (o:Oper):Prop:=
 ∀(a:Act) (w:World) (K:Act->World->Prop),a.tmps.size=a0.tmps.size->Below W.heap.size W w->(∀t∈o.looksAt ops,ai a0 known a w t)->
  (∀v w',SR w w'->Ψ (a.tmps.getD t4 undef) w'->K (a.put o.dst v) w')->if GO o (yielded ops a.tmps)=true then o.wp P a w K Q else K (a.put o.dst undef) w
theorem lI.plain {SR:World->World->Prop} {t4:Tmp} {Ψ:Fact} {P:Program} {ops:Array Oper} {Q:Exit->Act->World->Prop} {W:World} {a0:Act} {known:List (Tmp×Fact)} {o:Oper} (hg:o.guard=none)
  (h:∀(a:Act) (w:World) (K:Act->World->Prop),a.tmps.size=a0.tmps.size->Below W.heap.size W w->(∀t∈eM o,ai a0 known a w t)->(∀v w',SR w w'->Ψ (a.tmps.getD t4 undef) w'->K (a.put o.dst v) w')->o.wp P a w K Q):lI SR t4 Ψ P ops Q W a0 known o:=by
 exact yC
def Fin (t4:Tmp) (Ψ:Fact) (P:Program) (ops:Array Oper) (Q:Exit->Act->World->Prop) (W:World) (a0:Act) (back:Option Oper) (known:List (Tmp×Fact)):Prop:=
 ∀(x:Tmp->Value) (w:World),Below W.heap.size W w->(∀p∈known,p.2 (x p.1) w)->Ψ ((aE a0 known x).tmps.getD t4 undef) w->eD P ops Q back (aE a0 known x) w
def au (SR:World->World->Prop) (t4:Tmp) (Ψ:Fact) (P:Program) (ops:Array Oper) (Q:Exit->Act->World->Prop) (W:World) (a0:Act) (back:Option Oper):List Oper->List (Tmp×Fact)->Prop
 | [],known=>Fin t4 Ψ P ops Q W a0 back known
 | o ::rest,known=> ∃φ:Fact,jf SR φ/\(¬o.dst=none->Obl P ops Q W a0 known o φ)/\(o.dst=none->lI SR t4 Ψ P ops Q W a0 known o)/\au SR t4 Ψ P ops Q W a0 back rest (kn o.dst φ known)
section
variable {SR:World->World->Prop} {t4:Tmp} {Ψ:Fact} {P:Program} {ops:Array Oper} {Q:Exit->Act->World->Prop} {W:World} {a0:Act} {back:Option Oper}
theorem au.step {o:Oper} {rest:List Oper} {known:List (Tmp×Fact)} {t:Tmp} (φ:Fact) (hd:o.dst=some t) (hφ:jf SR φ) (ho:Obl P ops Q W a0 known o φ)
  (h:au SR t4 Ψ P ops Q W a0 back rest ((t,φ) ::known)):au SR t4 Ψ P ops Q W a0 back (o ::rest) known:=⟨φ,hφ,fun _=>ho,fun e=>(by rw[hd] at e;cases e),(by rw[hd];exact h)⟩
theorem au.an {o:Oper} {rest:List Oper} {known:List (Tmp×Fact)} {t:Tmp} (c:Value) (hd:o.dst=some t) (ho:Obl P ops Q W a0 known o (fun v _=>v=c))
  (h:au SR t4 Ψ P ops Q W a0 back rest ((t,fun v _=>v=c) ::known)):au SR t4 Ψ P ops Q W a0 back (o ::rest) known:=au.step _ hd (oR SR c) ho h
theorem au.store {o:Oper} {rest:List Oper} {known:List (Tmp×Fact)} (hd:o.dst=none) (ho:lI SR t4 Ψ P ops Q W a0 known o)
  (h:au SR t4 Ψ P ops Q W a0 back rest known):au SR t4 Ψ P ops Q W a0 back (o ::rest) known:=⟨fun v _=>v=undef,oR SR undef,fun e=>absurd hd e,fun _=>ho,(by rw[hd];exact h)⟩
theorem au.done {known:List (Tmp×Fact)} (h:Fin t4 Ψ P ops Q W a0 back known):au SR t4 Ψ P ops Q W a0 back [] known:=h
def growB (t4:Tmp) (n:Nat) (front:List Oper) (back:Option Oper):Bool:=
 let ops:=(front++back.toList).toArray
 decide ((front.filterMap (·.dst)).Nodup) && front.all (fun o=>match o.dst with|some t=>decide (t<n)|none=>decide (t4∈eM o)) &&
 (Gq front.length).all (fun j=>match front[j]? with
  | some o=>(o.looksAt ops).all (fun t=>(Gq front.length).all fun i=>match front[i]? with
    | some p=>p.dst !=some t || (decide (i<j) && o.after.any fun e=>e.on==i && F5 .any e)
    | none=>true)
  | none=>true) &&
 (Gq ops.size).all (fun j=>match ops[j]? with|some o=>o.after.all (fun e=> !F5 .any e || decide (e.on<j))|none=>true) &&
 (match back with|some o=>(Gq front.length).all (fun i=>o.after.any fun e=>e.on==i && F5 .any e)|none=>true) && front.any (fun o=>o.dst.isNone)
theorem cm {n:Nat} {front:List Oper} {back:Option Oper} (h:growB t4 n front back=true):
  (front.filterMap (·.dst)).Nodup/\(∀o∈front,∀t,o.dst=some t->t<n)/\(∀o∈front,o.dst=none->t4∈eM o)/\
  (∀(j:Nat) (o:Oper),front[j]?=some o->∀t∈o.looksAt (front++back.toList).toArray,∀(i:Nat) (p:Oper),front[i]?=some p->p.dst=some t->i<j/\∃e∈o.after,e.on=i/\F5 .any e=true)/\
  (∀(j:Nat) o,(front++back.toList).toArray[j]?=some o->∀e∈o.after,F5 .any e=true->e.on<j)/\
  (∀o,back=some o->∀i,i<front.length->∃e∈o.after,e.on=i/\F5 .any e=true)/\∃(i:Nat) (o:Oper),front[i]?=some o/\o.dst=none:=by
 unfold growB at h;simp only[Gl,decide_eq_true_eq] at h;obtain⟨⟨⟨⟨⟨h1,h2⟩,h3⟩,h4⟩,h5⟩,h6⟩:=h;refine⟨h1,?_,?_,?_,?_,?_,?_⟩
 ·intro o ho t ht;exact mb
 ·intro o ho ht;exact mb
 ·exact xA
 ·intro j o ho e he hbe;have hj:j<(front++back.toList).toArray.size:=(FG.1 ho).1;exact CH
 ·exact xb
 ·obtain⟨o,ho,hx⟩:=List.any_eq_true.1 h6;obtain⟨i,hi⟩:=FW ho;exact⟨i,o,hi,by simpa using hx⟩

theorem au.spec:∀(l:List Oper) (known:List (Tmp×Fact)),au SR t4 Ψ P ops Q W a0 back l known->∃φs:List Fact,φs.length=l.length/\
  (∀(i:Nat) (o:Oper) (φ:Fact),l[i]?=some o->φs[i]?=some φ->jf SR φ/\(¬o.dst=none->Obl P ops Q W a0 (knAll known (l.take i) (φs.take i)) o φ)/\(o.dst=none->lI SR t4 Ψ P ops Q W a0 (knAll known (l.take i) (φs.take i)) o))/\Fin t4 Ψ P ops Q W a0 back (knAll known l φs)
 | [],known,h=>⟨[],rfl,fun i o φ h=>by simp at h,by rw[bW];exact h⟩
 | o ::l,known,h=>by
  obtain⟨φ,hφ,ho,ho2,hr⟩:=h;obtain⟨φs,hl,hs,hf⟩:=au.spec l _ hr;refine⟨φ ::φs,by simp[hl],?_,hf⟩;intro i o' φ' h1 h2;cases i with
  | zero=>
   simp only[F9,Gw] at h1 h2;subst h1;subst h2;exact⟨hφ,ho,ho2⟩
  | succ i=>
   simp only[List.getElem?_cons_succ] at h1 h2
   simpa[knAll] using hs i o' φ' h1 h2

structure At (t4:Tmp) (Ψ:Fact) (front:List Oper) (φs:List Fact) (W:World) (a0:Act) (listed:Array Bool) (a:Act) (w:World):Prop where
 old:Go.Proofs.YtpejepeekdjfoaaGreatDoor.At front φs W a0 listed a w
 sto:∀(i:Nat) (o:Oper),front[i]?=some o->o.dst=none->listed.getD i false=true->Ψ (a.tmps.getD t4 undef) w/\∀(i':Nat) (p:Oper),front[i']?=some p->p.dst=some t4->listed.getD i' false=true

theorem At.step {front:List Oper} {φs:List Fact} {listed:Array Bool} {a:Act} {w w':World} {j:Nat} {o:Oper} {φ:Fact} {v:Value} (hΨ:Ψ.bB) (h:At t4 Ψ front φs W a0 listed a w)
  (hn:(front.filterMap (·.dst)).Nodup) (hin:∀o∈front,∀t,o.dst=some t->t<a0.tmps.size) (hmono:∀(i:Nat) (o:Oper) (φ:Fact),front[i]?=some o->φs[i]?=some φ->jf SR φ)
  (ho:front[j]?=some o) (hφ:φs[j]?=some φ) (hj:j<listed.size) (hun:listed.getD j false=false) (hd:¬o.dst=none) (hb:Below w.heap.size w w') (hv:φ v w'):At t4 Ψ front φs W a0 (listed.setIfInBounds j true) (a.put o.dst v) w':=by
 refine⟨h.old.step hn hin (fun i o φ h1 h2=>(hmono i o φ h1 h2).1) ho hφ hj hb hv,fun i p hp hpd hl=>?_⟩;have hij:¬j=i:=fun e=>by subst e;obtain rfl:=Fq (ho.symm.trans hp);exact hd hpd
 obtain⟨h1,h2⟩:=h.sto i p hp hpd (kS hij hl);refine⟨?_,fun i' p' hp' hd'=>m8 (h2 i' p' hp' hd')⟩;cases ht:o.dst with
 | none=>exact absurd ht hd
 | some d=>
  rw[fi,if_neg (fun hx=>?_)]
  ·exact hΨ _ _ _ h1 hb
  ·have h3:=h2 j o ho (ht.trans (by rw[hx.1]));rw[hun] at h3
   cases h3
theorem At.store {front:List Oper} {φs:List Fact} {listed:Array Bool} {a:Act} {w w':World} {j:Nat} {o:Oper} {v:Value} (hSR:∀{a b},SR a b->Below W.heap.size a b) (h:At t4 Ψ front φs W a0 listed a w)
  (hmono:∀(i:Nat) (o:Oper) (φ:Fact),front[i]?=some o->φs[i]?=some φ->jf SR φ) (hone:∀(i:Nat) (p:Oper),front[i]?=some p->p.dst=some t4->listed.getD i false=true)
  (ho:front[j]?=some o) (hd:o.dst=none) (hb:SR w w') (hv:Ψ (a.tmps.getD t4 undef) w'):At t4 Ψ front φs W a0 (listed.setIfInBounds j true) (a.put o.dst v) w':=by
 have e:a.put o.dst v=a:=by rw[hd];rfl
 rw[e];have hne:∀(i:Nat) (p:Oper) t,front[i]?=some p->p.dst=some t->¬j=i:=fun i p t hp ht e=>by
  subst e;obtain rfl:=Fq (ho.symm.trans hp);rw[hd] at ht;cases ht
 refine⟨⟨h.old.size,h.old.defers,h.old.below.trans (hSR hb),fun i p ψ hp hψ t ht hl=>?_,fun t ht=>?_⟩,fun i p hp hpd hl=>⟨hv,fun i' p' hp' hd'=>m8 (hone i' p' hp' hd')⟩⟩
 ·exact (hmono i p ψ hp hψ).2 _ _ _ (h.old.known i p ψ hp hψ t ht (kS (hne i p t hp ht) hl)) hb
 ·refine h.old.other t (fun i p hp hpd=>?_);have h1:=ht i p hp hpd;have e9:=hne i p t hp hpd;simpa[Fx,FL,e9] using h1

theorem Fin.last {front:List Oper} {φs:List Fact} {listed:Array Bool} {a:Act} {w:World} (hf:Fin t4 Ψ P ops Q W a0 back (knAll [] front φs)) (hlen:φs.length=front.length) (hin:∀o∈front,∀t,o.dst=some t->t<a0.tmps.size) (hst:∃(i:Nat) (o:Oper),front[i]?=some o/\o.dst=none)
  (h:At t4 Ψ front φs W a0 listed a w) (hall:∀i,i<front.length->listed.getD i false=true):eD P ops Q back a w:=by
 obtain⟨i,o,hi,hd⟩:=hst;have hΨ:=(h.sto i o hi hd (hall i (Fm.1 hi).1)).1;have h9:∃x,a=aE a0 (knAll [] front φs) x/\∀p∈knAll [] front φs,p.2 (x p.1) w:=Go.Proofs.YtpejepeekdjfoaaGreatDoor.Fin.last (P:=P) (ops:=ops) (Q:=fun _ a' w'=> ∃x,a'=aE a0 (knAll [] front φs) x/\∀p∈knAll [] front φs,p.2 (x p.1) w') (back:=none) (fun x _ _ h2=>⟨x,rfl,h2⟩) hlen hin h.old hall;obtain⟨x,e,h2⟩:=h9;have h3:=hf x w h.old.below h2 (by rw[<-e];exact hΨ);rw[<-e] at h3;exact h3
theorem bR {front:List Oper} {φs:List Fact} (hΨ:Ψ.bB) (hSR:∀{a b},SR a b->Below W.heap.size a b) (hops:ops=(front++back.toList).toArray) (hB:growB t4 a0.tmps.size front back=true) (hlen:φs.length=front.length)
  (hs:∀(i:Nat) (o:Oper) (φ:Fact),front[i]?=some o->φs[i]?=some φ->jf SR φ/\(¬o.dst=none->Obl P ops Q W a0 (knAll [] (front.take i) (φs.take i)) o φ)/\(o.dst=none->lI SR t4 Ψ P ops Q W a0 (knAll [] (front.take i) (φs.take i)) o)) (hf:Fin t4 Ψ P ops Q W a0 back (knAll [] front φs)):
  ∀(fuel:Nat) (listed:Array Bool) (a:Act) (w:World),listed.size=ops.size->listed.toList.count false<=fuel->(∀o,back=some o->listed.getD front.length false=false)->At t4 Ψ front φs W a0 listed a w->wpAny P .any ops Q fuel listed a w:=by
 obtain⟨hn,hin,hlk,hdep,hlt,hback,hst⟩:=cm hB;rw[<-hops] at hdep hlt;have hsz:ops.size=front.length+back.toList.length:=by rw[hops];simp
 have hend:∀(listed:Array Bool) (a:Act) (w:World),listed.size=ops.size->(∀i,i<ops.size->listed.getD i false=true)->(∀o,back=some o->listed.getD front.length false=false)->At t4 Ψ front φs W a0 listed a w->Q .normal a w:=by
  intro listed a w hz hall hb h;have h1:=hf.last hlen hin hst h (fun i hi=>hall i af);exact sx
 intro fuel;induction fuel with
 | zero=>
  intro listed a w hz hc hb h;have hall:∀i,i<ops.size->listed.getD i false=true:=fun i hi=>dn af i af;refine⟨?_,hend listed a w hz hall hb h⟩
  cases hr:Ge .any ops listed with
  | nil=>rfl
  | cons j js=>
   have hm:j∈Ge .any ops listed:=by rw[hr];simp
   obtain⟨h1,o,ho,-⟩:=mem_ready.1 hm;have hj:=(FG.1 ho).1;rw[<-bK af,hall j hj] at h1
   cases h1
 | succ fuel ih=>
  intro listed a w hz hc hb h;refine⟨fun hr=>hend listed a w hz (ec hz hlt hr) hb h,fun j hj=>?_⟩;obtain⟨hun,o,ho,hall⟩:=mem_ready.1 hj;have hjs:j<ops.size:=(FG.1 ho).1;have hcs:=count_set (listed:=listed) (i:=j) af hun
  by_cases hjf:j<front.length
  ·have hof:front[j]?=some o:=by rw[hops] at ho;simpa[FN hjf] using ho
   have hφ:φs[j]?=some (φs[j]'(by omega)):=Fu _;obtain⟨hm,hob,hob2⟩:=hs j o _ hof hφ
   have hfacts:∀t∈o.looksAt ops,ai a0 (knAll [] (front.take j) (φs.take j)) a w t:=by
    intro t ht;unfold ai
    cases hk:(knAll [] (front.take j) (φs.take j)).lookup t with
    | some φ=>
     rcases b8 _ _ _ hk with ⟨i,p,h1,h2,h3⟩|h1
     ·have hij:i<j:=by have:=(Fm.1 h1).1;simp at this;omega
      rw[FR,if_pos hij] at h1 h3;obtain⟨-,e,he,hon,hbi⟩:=hdep j o hof t ht i p h1 h2;have hl:=hall e he hbi;rw[hon] at hl;exact h.old.known i p φ h1 h3 t h2 hl
     ·simp at h1
    | none=>
     refine h.old.other t (fun i p hp hd=>?_)
     exfalso
     obtain⟨hij,-⟩:=hdep j o hof t ht i p hp hd;have hi:=(Fm.1 hp).1;exact (b_ _ _ _ hk).2 i p (φs[i]'(by omega)) kX k9 hd
   have hnext:∀o',back=some o'->(listed.setIfInBounds j true).getD front.length false=false:=fun o' ho'=>by
    have h2:=hb o' ho'
    have e:¬j=front.length:=af
    simpa[Fx,FL,e] using h2
   have h1:if GO o (yielded ops a.tmps)=true then o.wp P a w (wpAny P .any ops Q fuel (listed.setIfInBounds j true)) Q else wpAny P .any ops Q fuel (listed.setIfInBounds j true) (a.put o.dst undef) w:=by
    by_cases hd:o.dst=none
    ·refine hob2 hd a w _ h.old.size h.old.below hfacts (fun v w' hsr hv=>?_);refine ih _ _ _ fO af hnext (h.store hSR (fun i o φ h1 h2=>(hs i o φ h1 h2).1) (fun i p hp hpd=>?_) hof hd hsr hv)
     have hlook:t4∈o.looksAt ops:=by unfold Oper.looksAt;exact List.mem_append_left _ (hlk o (FZ hof) hd)
     obtain⟨-,e,he,hon,hbi⟩:=hdep j o hof t4 hlook i p hp hpd;have hl:=hall e he hbi;rw[hon] at hl;exact hl
    ·exact hob hd a w _ h.old.size h.old.below hfacts (fun v w' hbw hv=>ih _ _ _ fO af hnext (h.step hΨ hn hin (fun i o φ h1 h2=>(hs i o φ h1 h2).1) hof hφ af (by rw[bK af];exact hun) hd hbw hv))
   unfold wpOp;rw[ho]
   simp only
   split
   ·rename_i hw;rw[if_pos hw] at h1;exact .inl h1
   ·rename_i hw;rw[if_neg hw] at h1;exact h1
  ·cases hk:back with
   | none=>rw[hk] at hsz;simp at hsz;omega
   | some b=>
    have hjn:j=front.length:=by rw[hk] at hsz;simp at hsz;omega
    subst hjn
    have hob:o=b:=by
     rw[hops,hk] at ho
     simp at ho
     exact ho.symm
    subst hob
    have hfl:∀i,i<front.length->listed.getD i false=true:=fun i hi=>by
     obtain⟨e,he,hon,hbi⟩:=hback o hk i hi;have:=hall e he hbi
     rwa [hon] at this
    have h1:=hf.last hlen hin hst h hfl;rw[hk] at h1
    have h2:=h1 (wpAny P .any ops Q fuel (listed.setIfInBounds front.length true)) (fun a' w' hq=>by
     have hr:Ge .any ops (listed.setIfInBounds front.length true)=[]:=by
      cases hr:Ge .any ops (listed.setIfInBounds front.length true) with
      | nil=>rfl
      | cons i is=>
       have hm:i∈Ge .any ops (listed.setIfInBounds front.length true):=by rw[hr];simp
       obtain⟨h3,o',ho',-⟩:=mem_ready.1 hm;have hi:=(FG.1 ho').1
       exfalso
       by_cases e:front.length=i
       ·subst e
        simp[Fx,show front.length<listed.size from by omega] at h3
       ·have h4:=hfl i sb;rw[bK af] at h4
        simp[Fx,e] at h3 h4
        rw[h3] at h4
        cases h4
     cases fuel with
     | zero=>exact⟨hr,hq⟩
     | succ fuel=>exact⟨fun _=>hq,fun i hi=>by rw[hr] at hi;cases hi⟩)
    unfold wpOp;rw[ho]
    simp only
    split
    ·rename_i hw;rw[if_pos hw] at h2;exact .inl h2
    ·rename_i hw;rw[if_neg hw] at h2;exact h2
end
theorem aR {SR:World->World->Prop} (t4:Tmp) (Ψ:Fact) {P:Program} {id:Nat} {Q:Exit->Act->World->Prop} {a0:Act} {W:World} {l:List Oper} {front:List Oper} {last:Oper} (hΨ:Ψ.bB) (hSR:∀{a b},SR a b->Below W.heap.size a b) (hm:P.follows .mixedOrders=true) (hf:l.dropLast=front) (hb:l.getLast?=some last) (hB:growB t4 a0.tmps.size front (some last)=true)
  (h:au SR t4 Ψ P l.toArray Q W a0 (some last) front []):(Code.region id l.toArray true).wp P Q a0 W:=by
 obtain⟨φs,hlen,hs,hfi⟩:=au.spec _ _ h;have hl:l=front++(some last).toList:=by
  exact mg
 refine wp_region_any hm (bR hΨ hSR (by rw[hl]) hB hlen hs hfi _ _ _ _ aS ?_ (fun o ho=>?_) ⟨⟨rfl,rfl,(Fw _ _).drew,fun i o φ h1 h2 t ht hx=>?_,fun t _=>rfl⟩,fun i o h1 h2 hx=>?_⟩)
 ·exact lh
 ·exact a8 _ _
 ·rw[a8] at hx;cases hx
 ·rw[a8] at hx;cases hx
structure Form (W w w':World):Prop where
 low:Below W.heap.size w w'
 form:∀(k:Nat) (cs:Array Value) (T:TypeId),w.heap[k]?=some (.cells cs T (0,0))->∃cs',cs'.size=cs.size/\w'.heap[k]?=some (.cells cs' T (0,0))
def EF (W:World) (m:Nat) (T:TypeId):Fact:=fun v w=> ∃g cs,v=.pointer (some ⟨g,0,none⟩)/\W.heap.size<=g/\cs.size=m/\w.heap[g]?=some (.cells cs T (0,0))
theorem EF.mono (W:World) (m:Nat) (T:TypeId):jf (Form W) (EF W m T):=by
 refine⟨?_,?_⟩
 ·rintro v w w' ⟨g,cs,h1,h2,h3,h4⟩ hb;exact⟨g,cs,h1,h2,h3,(hb.block g (FG.1 h4).1).trans h4⟩
 ·rintro v w w' ⟨g,cs,h1,h2,h3,h4⟩ hb;obtain⟨cs',h5,h6⟩:=hb.form g cs T h4;exact⟨g,cs',h1,h2,h5.trans h3,h6⟩
end Gs
end Go.Proofs.YtpejepeekdjfoaaGreatDoor

namespace Go.Proofs.YtpejepeekdjfoaaGreatDoor
open Go.RowKit
namespace Rc

theorem aQ:(Tryz.prog.info? 66).map (·.size)=some 19:=by kernel_rfl
def HOf (w:World) (T:TypeId) (v tri:Value) (P:Prop):Prop:=∃f:FuncId,(∀W,(Go.method 416 T v "loop.example/g00571/impl.keeps").run Tryz.prog W=.ok (f,v) W)/\(∀args W,(callFunc f args).run Tryz.prog W=.ok (.enter f args) W)/\∀W,Below w.heap.size w W->Calls Tryz.prog f #[v,tri] W fun e W'=> ∃b:Bool,e=.returned (.bool b)/\(b=true↔P)/\Below W.heap.size W W'

theorem ju (x0 x1 x2 x3 x4 x5 x6 x7 x8 x9 x10 x11 x12 x13 x14 x15 x16 x17 x18:Value) (b len cap:Nat) (hs:List (TypeId×Value×Prop)) (w:World) (hl:hs.length=len) (hm:len<=3) (hb:b<w.heap.size)
  (hc:∀(j:Nat) T v P,hs[j]?=some (T,v,P)->w.cell? ⟨b,j,none⟩=some (.iface T v)/\HOf w T v (.agg #[x0,x1,x2,x3,x4,x5,x6,x7,x8,x9,x10,x11,x12,x13,x14,x15,x16,x17,x18]) P):
  Calls Tryz.prog 95 #[.agg #[x0,x1,x2,x3,x4,x5,x6,x7,x8,x9,x10,x11,x12,x13,x14,x15,x16,x17,x18],.slice (some ⟨b,0,none⟩) len cap] w fun e w'=>(∃r,e=.returned r/\((∃(k:Nat) (T:TypeId) (v:Value) (P:Prop),hs[k]?=some (T,v,P)/\P/\r=.iface T v/\∀(j:Nat) T' v' P',j<k->hs[j]?=some (T',v',P')->¬P')\/(r=.nilIface/\∀(j:Nat) T' v' P',hs[j]?=some (T',v',P')->¬P')))/\Below w.heap.size w w':=by
 have HC:=aa hc;clear hc;go_enter Tryz.func95,Tryz.ntmps95;go_wp2;go_loopw [9] (fun i wr=> ∃k:Nat,k<=len/\i=.int .i64 k/\Hid (∀(j:Nat) T' v' P',j<k->hs[j]?=some (T',v',P')->¬P')/\Hid (Below w.heap.size w wr)/\Hid (wr.heap[w.heap.size]?=some (.cells #[x0,x1,x2,x3,x4,x5,x6,x7,x8,x9,x10,x11,x12,x13,x14,x15,x16,x17,x18] 66 (0,0)))) (fun i _=>len - (intOf i).toNat);case atStart=>exact⟨0,by omega,rfl,fun _ _ _ _ h=>absurd h af,al _ _,FD⟩
 case round=>
  obtain⟨k,hk,rfl,HE,HB,Bk⟩:=hrel;by_cases hlt:k<len
  ·obtain⟨T,v,P,hx⟩:∃T v P,hs[k]?=some (T,v,P):=⟨_,_,_,Fu af⟩;obtain⟨h1,f,hm1,hm2,hm3⟩:=HC.out k T v P hx;have c0:=(HB.cell hb).trans h1;have HX:=aa hx;have HM:=aa hm3;have ltk:=ae Bk.out;clear h1 hx hm3;go_wp2_with (refine wpList_load_row (o:=⟨some 14,.load 66 (.tmp 2),_,_,_,none⟩) rfl _ _ rfl w.heap.size rfl _ _ _ _ Bk.out Tryz.underlying66 rfl aQ ?_);refine (HM.out wr HB.out).mono ?_;rintro e w1 ⟨r,rfl,hi,hb1⟩;have HI:=aa hi;have Bk1:=aa ((hb1.block _ ltk).trans Bk.out);have HB1:=upB HB hb1;clear hi hb1 c0 Bk HB;cases r
   ·go_wp2;refine⟨⟨k+1,by omega,by go_num,fun j T' v' P' hj hz=>?_,HB1.out,Bk1.out⟩,by simp[intOf];omega⟩;by_cases e:j=k
    ·subst e;rw[HX.out] at hz;cases hz;exact fun q=>(by have:=HI.2 q;cases this)
    ·exact HE.out j T' v' P' af hz
   ·go_wp2;go_ret;exact⟨⟨_,rfl,.inl ⟨k,T,v,P,HX.out,HI.1 cr,rfl,HE.out⟩⟩,HB1.out⟩
  ·obtain rfl:len=k:=af
   go_wp2;go_ret;exact⟨⟨_,rfl,.inr ⟨rfl,fun j T' v' P' hz=>HE.out j T' v' P' c_ hz⟩⟩,HB.out⟩

end Rc
end Go.Proofs.YtpejepeekdjfoaaGreatDoor

namespace Go.Proofs.YtpejepeekdjfoaaGreatDoor
open Go.RowKit
namespace Rc
open Mk

theorem DG (v:Value) (W:World):(Go.method 416 147 v "loop.example/g00571/impl.keeps").run Tryz.prog W=.ok (258,v) W:=by kernel_rfl
theorem DW (args:Array Value) (W:World):(callFunc 258 args).run Tryz.prog W=.ok (.enter 258 args) W:=by kernel_rfl
theorem AZ (d:Ad) (c:Cl) (p:Pd) (n:Nd) (pa:Option Addr) (pl pc:Nat) (na:Option Addr) (nl nc:Nat) (w:World):HOf w 147 (.agg #[]) (.agg #[.slice d.a1 d.l1 d.c1,.slice d.a2 d.l2 d.c2,.slice d.a3 d.l3 d.c3,.slice d.a4 d.l4 d.c4,.slice d.a5 d.l5 d.c5,.int .i64 c.now,.string p.n,.int .i64 p.c,.string p.z,.slice pa pl pc,.string p.d,.int .i64 p.p,.string n.n,.string n.z,.int .i64 n.c,.int .i64 n.s,.int .i64 n.u,.bool n.d,.slice na nl nc]) (fY c n):=
 ⟨258,DG _,DW,fun W _=>En d c p n pa pl pc na nl nc W⟩

theorem DD (v:Value) (W:World):(Go.method 416 148 v "loop.example/g00571/impl.keeps").run Tryz.prog W=.ok (261,v) W:=by kernel_rfl
theorem DT (args:Array Value) (W:World):(callFunc 261 args).run Tryz.prog W=.ok (.enter 261 args) W:=by kernel_rfl
theorem AW (d:Ad) (c:Cl) (p:Pd) (n:Nd) (pa:Option Addr) (pl pc:Nat) (na:Option Addr) (nl nc:Nat) (w:World):HOf w 148 (.agg #[]) (.agg #[.slice d.a1 d.l1 d.c1,.slice d.a2 d.l2 d.c2,.slice d.a3 d.l3 d.c3,.slice d.a4 d.l4 d.c4,.slice d.a5 d.l5 d.c5,.int .i64 c.now,.string p.n,.int .i64 p.c,.string p.z,.slice pa pl pc,.string p.d,.int .i64 p.p,.string n.n,.string n.z,.int .i64 n.c,.int .i64 n.s,.int .i64 n.u,.bool n.d,.slice na nl nc]) (jc p n):=
 ⟨261,DD _,DT,fun W _=>Ek d c p n pa pl pc na nl nc W⟩

theorem Eh (v:Value) (W:World):(Go.method 416 149 v "loop.example/g00571/impl.keeps").run Tryz.prog W=.ok (262,v) W:=by kernel_rfl
theorem Ep (args:Array Value) (W:World):(callFunc 262 args).run Tryz.prog W=.ok (.enter 262 args) W:=by kernel_rfl
theorem DR (d:Ad) (c:Cl) (p:Pd) (n:Nd) (pa:Option Addr) (pl pc:Nat) (na:Option Addr) (nl nc:Nat) (w:World) (hr:aJ w d c.raw) (hT:aB c) (hc:0<=n.c/\n.c<=1000000):HOf w 149 (.agg #[]) (.agg #[.slice d.a1 d.l1 d.c1,.slice d.a2 d.l2 d.c2,.slice d.a3 d.l3 d.c3,.slice d.a4 d.l4 d.c4,.slice d.a5 d.l5 d.c5,.int .i64 c.now,.string p.n,.int .i64 p.c,.string p.z,.slice pa pl pc,.string p.d,.int .i64 p.p,.string n.n,.string n.z,.int .i64 n.c,.int .i64 n.s,.int .i64 n.u,.bool n.d,.slice na nl nc]) (kM c p n):=
 ⟨262,Eh _,Ep,fun W h=>E4 d c p n pa pl pc na nl nc W (hr.below h) hT hc⟩

theorem AL (v:Value) (W:World):(Go.method 416 173 v "loop.example/g00571/impl.keeps").run Tryz.prog W=.ok (269,v) W:=by kernel_rfl
theorem A7 (args:Array Value) (W:World):(callFunc 269 args).run Tryz.prog W=.ok (.enter 269 args) W:=by kernel_rfl
theorem zF (d:Ad) (c:Cl) (p:Pd) (n:Nd) (pa:Option Addr) (pl pc:Nat) (na:Option Addr) (nl nc:Nat) (v:Vd) (ua:Option Addr) (ul uc:Nat) (w:World):HOf w 173 (.agg #[.string v.n,.int .i64 v.c,.string v.z,.string v.k,.bool v.x,.string v.m,.bool v.y,.slice ua ul uc]) (.agg #[.slice d.a1 d.l1 d.c1,.slice d.a2 d.l2 d.c2,.slice d.a3 d.l3 d.c3,.slice d.a4 d.l4 d.c4,.slice d.a5 d.l5 d.c5,.int .i64 c.now,.string p.n,.int .i64 p.c,.string p.z,.slice pa pl pc,.string p.d,.int .i64 p.p,.string n.n,.string n.z,.int .i64 n.c,.int .i64 n.s,.int .i64 n.u,.bool n.d,.slice na nl nc]) (¬v.z=n.z):=
 ⟨269,AL _,A7,fun W _=>DO d c p n pa pl pc na nl nc v ua ul uc W⟩

theorem AK (v:Value) (W:World):(Go.method 416 174 v "loop.example/g00571/impl.keeps").run Tryz.prog W=.ok (270,v) W:=by kernel_rfl
theorem A6 (args:Array Value) (W:World):(callFunc 270 args).run Tryz.prog W=.ok (.enter 270 args) W:=by kernel_rfl
theorem zE (d:Ad) (c:Cl) (p:Pd) (n:Nd) (pa:Option Addr) (pl pc:Nat) (na:Option Addr) (nl nc:Nat) (v:Vd) (ua:Option Addr) (ul uc:Nat) (w:World) (hr:aJ w d c.raw) (hv:ay w ua ul uc v.zs):HOf w 174 (.agg #[.string v.n,.int .i64 v.c,.string v.z,.string v.k,.bool v.x,.string v.m,.bool v.y,.slice ua ul uc]) (.agg #[.slice d.a1 d.l1 d.c1,.slice d.a2 d.l2 d.c2,.slice d.a3 d.l3 d.c3,.slice d.a4 d.l4 d.c4,.slice d.a5 d.l5 d.c5,.int .i64 c.now,.string p.n,.int .i64 p.c,.string p.z,.slice pa pl pc,.string p.d,.int .i64 p.p,.string n.n,.string n.z,.int .i64 n.c,.int .i64 n.s,.int .i64 n.u,.bool n.d,.slice na nl nc]) (gq c v n.n):=
 ⟨270,AK _,A6,fun W h=>DN d c p n pa pl pc na nl nc v ua ul uc W (hr.below h) (hv.below h)⟩

theorem AM (v:Value) (W:World):(Go.method 416 116 v "loop.example/g00571/impl.keeps").run Tryz.prog W=.ok (256,v) W:=by kernel_rfl
theorem A8 (args:Array Value) (W:World):(callFunc 256 args).run Tryz.prog W=.ok (.enter 256 args) W:=by kernel_rfl
theorem zG (d:Ad) (c:Cl) (p:Pd) (n:Nd) (pa:Option Addr) (pl pc:Nat) (na:Option Addr) (nl nc:Nat) (k:Kd) (w:World):HOf w 116 (.agg #[.string k.n,.bool k.x,.bool k.y,.string k.z]) (.agg #[.slice d.a1 d.l1 d.c1,.slice d.a2 d.l2 d.c2,.slice d.a3 d.l3 d.c3,.slice d.a4 d.l4 d.c4,.slice d.a5 d.l5 d.c5,.int .i64 c.now,.string p.n,.int .i64 p.c,.string p.z,.slice pa pl pc,.string p.d,.int .i64 p.p,.string n.n,.string n.z,.int .i64 n.c,.int .i64 n.s,.int .i64 n.u,.bool n.d,.slice na nl nc]) (k.x=false):=
 ⟨256,AM _,A8,fun W _=>DP d c p n pa pl pc na nl nc k W⟩

theorem DF (v:Value) (W:World):(Go.method 416 179 v "loop.example/g00571/impl.keeps").run Tryz.prog W=.ok (277,v) W:=by kernel_rfl
theorem DV (args:Array Value) (W:World):(callFunc 277 args).run Tryz.prog W=.ok (.enter 277 args) W:=by kernel_rfl
theorem AY (d:Ad) (c:Cl) (p:Pd) (n:Nd) (pa:Option Addr) (pl pc:Nat) (na:Option Addr) (nl nc:Nat) (e:Int) (w:World):HOf w 179 (.agg #[.int .i64 e]) (.agg #[.slice d.a1 d.l1 d.c1,.slice d.a2 d.l2 d.c2,.slice d.a3 d.l3 d.c3,.slice d.a4 d.l4 d.c4,.slice d.a5 d.l5 d.c5,.int .i64 c.now,.string p.n,.int .i64 p.c,.string p.z,.slice pa pl pc,.string p.d,.int .i64 p.p,.string n.n,.string n.z,.int .i64 n.c,.int .i64 n.s,.int .i64 n.u,.bool n.d,.slice na nl nc]) (¬e=0):=
 ⟨277,DF _,DV,fun W _=>Em d c p n pa pl pc na nl nc e W⟩

theorem DE (v:Value) (W:World):(Go.method 416 152 v "loop.example/g00571/impl.keeps").run Tryz.prog W=.ok (263,v) W:=by kernel_rfl
theorem DU (args:Array Value) (W:World):(callFunc 263 args).run Tryz.prog W=.ok (.enter 263 args) W:=by kernel_rfl
theorem AX (d:Ad) (c:Cl) (p:Pd) (n:Nd) (pa:Option Addr) (pl pc:Nat) (na:Option Addr) (nl nc:Nat) (w:World) (hr:aJ w d c.raw) (hv:c.vs.length<=8):HOf w 152 (.agg #[]) (.agg #[.slice d.a1 d.l1 d.c1,.slice d.a2 d.l2 d.c2,.slice d.a3 d.l3 d.c3,.slice d.a4 d.l4 d.c4,.slice d.a5 d.l5 d.c5,.int .i64 c.now,.string p.n,.int .i64 p.c,.string p.z,.slice pa pl pc,.string p.d,.int .i64 p.p,.string n.n,.string n.z,.int .i64 n.c,.int .i64 n.s,.int .i64 n.u,.bool n.d,.slice na nl nc]) (n.s<((dJ c n.n c.vs).length:Int)):=
 ⟨263,DE _,DU,fun W h=>El d c p n pa pl pc na nl nc W (hr.below h) hv⟩

def fL (hv:Value) (e:Int):Prop:=(hv=.nilIface/\e=0)\/(¬e=0/\((∃v,hv=.iface 147 v/\e=11)\/(∃v,hv=.iface 148 v/\e=8)\/(∃v,hv=.iface 149 v/\e=9)\/(∃v,hv=.iface 173 v/\e=8)\/(∃v,hv=.iface 174 v/\e=10)\/(∃v,hv=.iface 116 v/\e=11)\/hv=.iface 179 (.agg #[.int .i64 e])\/(∃v,hv=.iface 152 v/\e=9)))

end Rc
end Go.Proofs.YtpejepeekdjfoaaGreatDoor

namespace Go.Proofs.YtpejepeekdjfoaaGreatDoor
open Go.RowKit
namespace Rc

section
variable {P:Program}
theorem jH (w:World) (g o:Nat) (t ty:TypeId) (cur cells new:Array Value) (hg:w.heap[g]?=some (.cells cur t (0,0))) (hi:(P.info? ty).map (·.size)=some cells.size)
  (hl:o+cells.size<=cur.size) (h1:cells.all (·.oneCell')=true) (hn:(cur.toList.take o++cells.toList++cur.toList.drop (o+cells.size)).toArray=new):
  (storeVar ty ⟨g,o,none⟩ (.agg cells)).run P w=.ok () (w.setRow g new):=by
 have:=run_storeCells_at P g o t cells.toList 0 cur w hg (by simpa using hl) (fun v hv=>(Array.all_eq_true_iff_forall_mem.1 h1) v (by simpa using hv));simp only[Nat.add_zero,Array.length_toList,hn] at this;cases hq:P.info? ty with
 | none=>simp[hq] at hi
 | some i=>
  have hs:cells.size=i.size:=by simp[hq] at hi;omega
  simp[storeVar,sizeOf,typeInfo,hq,Value.cells,hs,this]
theorem eh {ops:Array Oper} {rest:List Oper} {op:Oper} {a:Act} {w:World} {Q:Exit->Act->World->Prop} (hgd:op.guard=none) (ty:TypeId) (x y:Operand) (ho:op.op=.store ty x y)
  (g o:Nat) (cells new:Array Value) (hx:a.eval x=.pointer (some ⟨g,o,none⟩)) (hy:a.eval y=.agg cells)
  (t:TypeId) (cur:Array Value) (hg:w.heap[g]?=some (.cells cur t (0,0))) (hi:(P.info? ty).map (·.size)=some cells.size)
  (hl:o+cells.size<=cur.size) (h1:cells.all (·.oneCell')=true) (hn:(cur.toList.take o++cells.toList++cur.toList.drop (o+cells.size)).toArray=new)
  (h:wpList P ops Q rest (a.put op.dst undef) (w.setRow g new)):wpList P ops Q (op ::rest) a w:=by
 refine wpList_plain hgd fun K hK=>?_;unfold Oper.wp execOp;simp only[ho,hx,hy,Instr.storeAt,Instr.sureAddr,Sem.run_bind,Sem.run_pure,Result.andThen_ok,jH w g o t ty cur cells new hg hi hl h1 hn];exact hK _ _ h
theorem results_cell_tmp {fn:Func} {p q:Tmp} {ty:TypeId} (h:fn.results=#[.cell p ty,.tmp q]) (tmps:Array Value) (w:World) (g:Nat) (t:TypeId) (cs:Array Value) (v:Value) (fr:Nat×Nat) (d:TypeDesc)
  (hp:tmps.getD p undef=.pointer (some ⟨g,0,none⟩)) (hv:tmps.getD q undef=v) (hg:w.heap[g]?=some (.cells cs t fr))
  (hu:P.underlying ty=some d) (hd:(match d with | .struct _ | .array _ _=>true|_=>false)=true) (hi:(P.info? ty).map (·.size)=some cs.size):
  (results fn tmps).run P w=.ok (.tuple #[.agg cs,v]) w:=by
 have hp':tmps[p]?.getD undef=.pointer (some ⟨g,0,none⟩):=by simpa using hp
 have hv':tmps[q]?.getD undef=v:=by simpa using hv
 simp[results,h,hp',hv',asAddr,run_loadVar_row w g t ty cs fr d hg hu hd hi]
end

end Rc
end Go.Proofs.YtpejepeekdjfoaaGreatDoor

namespace Go.Proofs.YtpejepeekdjfoaaGreatDoor
open Go.RowKit

theorem Dh {a b:Bool} (h:a=b):Ending.returned (.bool a)=.returned (.bool b):=by rw[h]

theorem rQ (v u:Vd) (va ua:Option Addr) (vl vc ul uc:Nat) (w:World):
  Calls Tryz.prog 202 #[.agg #[.string v.n,.int .i64 v.c,.string v.z,.string v.k,.bool v.x,.string v.m,.bool v.y,.slice va vl vc],.agg #[.string u.n,.int .i64 u.c,.string u.z,.string u.k,.bool u.x,.string u.m,.bool u.y,.slice ua ul uc]] w fun e w'=>e=.returned (.bool (eZ v u))/\Below w.heap.size w w':=by
 have HB:=aa (aF w (.cells #[.string v.n,.int .i64 v.c,.string v.z,.string v.k,.bool v.x,.string v.m,.bool v.y,.slice va vl vc] 99) (.cells #[.string u.n,.int .i64 u.c,.string u.z,.string u.k,.bool u.x,.string u.m,.bool u.y,.slice ua ul uc] 99));by_cases h:v.c=u.c
 ·have h1:(v.c !=u.c)=false:=by simp[h]
  have HX:=aa (show FB v.n.toList u.n.toList=eZ v u by simp[eZ,h]);exact xI
 ·have h1:(v.c !=u.c)=true:=by simp[h]
  have HX:=aa (show decide (v.c<u.c)=eZ v u by simp[eZ,h]);exact xI

theorem lC (a:Option Addr) (len cap:Nat) (vs:List Vd) (w:World) (hr:eE w a len cap vs):
  Calls Tryz.prog 199 #[.slice a len cap] w (ar (vs.length<=8/\∀(j:Nat) v,vs[j]?=some v->v.Ok) w):=by
 have HR:=aa hr;have hvl:=hr.1;have hlc:=FA hr.2.1 hr.2.2.1;clear hr;by_cases h8:8<len
 ·go_enter Tryz.func199,Tryz.ntmps199;go_wp2;go_ret;exact⟨false,rfl,⟨fun h=>bU,fun h=>absurd h.1 af⟩,Fw _ _⟩
 go_enter Tryz.func199,Tryz.ntmps199;go_wp2;go_loopw [10] (fun vi wr=> ∃(i:Nat),i<=len/\vi=.int .i64 i/\Hid (∀(j:Nat) v,j<i->vs[j]?=some v->v.Ok)/\Hid (Below w.heap.size w wr)) (fun vi _=>len - (intOf vi).toNat);case atStart=>exact⟨0,by omega,rfl,fun j v hj=>by omega,Fw _ _⟩
 case round=>
  obtain⟨i,hi,rfl,HA,HB⟩:=hrel;by_cases hlt:i<len
  ·obtain⟨b,o,v,rfl,hb,hv,hf,va,vl,vc,hvr,c0,c1,c2,c3,c4,c5,c6,c7⟩:=(HR.below HB.out).at hlt;have HV:=aa hv;have HT:=aa hvr;have HF:=aa hf;clear hv hvr hf;go_wp2_with fail;refine (oL v.n v.c v.z v.k v.x v.m v.y va vl vc v.zs _ HF.1 HF.2.1 HF.2.2.1 HF.2.2.2 (HT.below (al _ _))).mono ?_;rintro e w3 ⟨r,rfl,hr,hb3⟩;have HB3:=aa (HB.trans ((cE hb3).2.1.mono HB.size));by_cases hq:r=true;case neg=>
    have HN:=aa (fun h=>hq (hr.2 h));clear hr hb3 c0 c1 c2 c3 c4 c5 c6 c7;go_wp2_with fail;go_ret;exact⟨false,rfl,⟨fun h=>bU,fun h=>(HN.out (h.2 i v HV.out)).elim⟩,HB3.out⟩
   have hok:=hr.1 hq;subst hq;clear hr hb3 c0 c1 c2 c3 c4 c5 c6 c7;go_wp2_with fail;refine⟨⟨i+1,by omega,by go_num,fun j u hj hu=>?_,HB3⟩,by simp[intOf];omega⟩;by_cases e:j=i
   ·subst e;rw[HV.out] at hu;obtain rfl:=Fq hu;exact hok
   ·exact HA.out j u af hu
  ·obtain rfl:i=len:=af
   go_wp2;go_ret;exact⟨true,rfl,⟨fun _=>⟨by omega,fun j v hv=>HA.out j v (by have:=(Fm.1 hv).1;omega) hv⟩,fun _=>rfl⟩,HB.out⟩

theorem lA (a:Option Addr) (len cap:Nat) (vs:List Vd) (n':ByteArray) (c':Int) (k':ByteArray) (x':Bool) (v':ByteArray) (t:ByteArray) (w:World) (hn':n'.size<=9223372036854775807) (hk':k'.size<=9223372036854775807) (hv':v'.size<=9223372036854775807) (ht:t.size<=9223372036854775807) (hr:eE w a len cap vs) (hbad:(400<vs.length\/8000<t.size)\/¬jg vs n' c' k' v' t):
  Calls Tryz.prog 185 #[.slice a len cap,.agg #[.string n',.int .i64 c',.string k',.bool x',.string v'],.string t] w (dV vs n' c' k' x' v' t w):=by
 have HR:=aa hr;have hvl:=hr.1;have hlc:=FA hr.2.1 hr.2.2.1;have HBAD:=aa hbad;clear hr hbad;by_cases hl4:400<len
 ·have HL:=aa (show mK vs n' c' k' x' v' t vZ 2 from .inl ⟨.inl af,rfl,rfl⟩);go_enter Tryz.func185,Tryz.ntmps185;exact yN
 by_cases hl8:8000<t.size
 ·have HL:=aa (show mK vs n' c' k' x' v' t vZ 2 from .inl ⟨.inr hl8,rfl,rfl⟩);go_enter Tryz.func185,Tryz.ntmps185;go_wp2_with fail;refine (ke t _ hl8).mono ?_;rintro e w1 ⟨rfl,rfl⟩;exact yN
 have HL:=aa (show¬(400<vs.length\/8000<t.size) by omega);have HBR:=aa (HBAD.resolve_left HL.out);go_enter Tryz.func185,Tryz.ntmps185;go_wp2_with fail;refine (jo t _ hl8).mono ?_;rintro e w1 ⟨rfl,rfl⟩;go_wp2_with fail;refine (eP n' c' k' x' v' _ hn' hk' hv').mono ?_;rintro e w1 ⟨r,rfl,hr,hb⟩;have g1:=(hb.block (w.heap.size+1) aS).trans (bE _ _ _);have HB:=aa ((aF w _ _).trans (hb.mono bG));have HG1:=aa g1;have r0:=ck0 g1;have r1:=ck1 g1;have r2:=ck2 g1;have r3:=ck3 g1;have r4:=ck4 g1;have r5:=ck5 g1;have r6:=ck6 g1;have r7:=ck7 g1;have r8:=ck8 g1;have q0:=av g1 0;have q1:=av g1 1;have q2:=av g1 2;have q3:=av g1 3;have q4:=av g1 4;have q5:=av g1 5;have q6:=av g1 6;have q7:=av g1 7;have q8:=av g1 8;clear g1 hb;by_cases hq:r=true;case neg=>
  exact CF
 have h0:=aa (hr.1 hq);subst hq;clear hr;go_wp2_with fail;refine (cR t _ ht).mono ?_;rintro e w2 ⟨r,rfl,hr,rfl⟩;by_cases hq:r=true;case neg=>
  exact CF
 have h1:=aa (hr.1 hq);subst hq;clear hr r0 q0 r1 q1 r2 q2 r3 q3 r4 q4 r5 q5 r6 q6 r7 q7 r8 q8;go_wp2_with fail;refine (lC a len cap vs _ (HR.below HB.out)).mono ?_;rintro e w3 ⟨r,rfl,hr,hb⟩;have hrf:r=false:=by
  cases r with
  | false=>rfl
  | true=>exact absurd ⟨h0.out,h1.out,(hr.1 rfl).1,(hr.1 rfl).2⟩ HBR.out
 subst hrf;have g1:=(hb.block _ (ae HG1.out)).trans HG1.out;have HB2:=upB HB hb;have r0:=ck0 g1;have r1:=ck1 g1;have r2:=ck2 g1;have r3:=ck3 g1;have r4:=ck4 g1;have r5:=ck5 g1;have r6:=ck6 g1;have r7:=ck7 g1;have r8:=ck8 g1;have q0:=av g1 0;have q1:=av g1 1;have q2:=av g1 2;have q3:=av g1 3;have q4:=av g1 4;have q5:=av g1 5;have q6:=av g1 6;have q7:=av g1 7;have q8:=av g1 8;clear hr hb g1;go_wp2_with fail;exact bodyPost_ret (v:=.agg #[.string ⟨#[]⟩,.int .i64 0,.string ⟨#[]⟩,.string ⟨#[]⟩,.bool false,.string ⟨#[]⟩,.bool false,.slice none 0 0,.int .i64 1]) (by simp[results,Tryz.results185,go_sem, *]) rfl (dV.bad (.inr (.inl ⟨HL.out,HBR.out,rfl,rfl⟩)) (fc af HB2.out))

theorem qL (a:Option Addr) (len cap:Nat) (v:Value) (fs:Array Value) (fn:Fn) (hv:v=.func fn #[] fs) (w:World):
  Calls Tryz.prog 200 #[.slice a len cap,v] w fun e w'=>e=.returned (.func (.func 213) #[] #[.pointer (some ⟨w.heap.size,0,none⟩),.pointer (some ⟨w.heap.size+1,0,none⟩)])/\
   w'.heap[w.heap.size]?=some (.cells #[.slice a len cap] 32 (0,0))/\w'.heap[w.heap.size+1]?=some (.cells #[v] 193 (0,0))/\Below w.heap.size w w':=by
 subst hv;go_enter Tryz.func200,Tryz.ntmps200;go_wp2;go_ret;exact⟨rfl,cU _ _ _,bE _ _ _,aF _ _ _⟩

end Go.Proofs.YtpejepeekdjfoaaGreatDoor

namespace Go.Proofs.YtpejepeekdjfoaaGreatDoor
open Go.RowKit Go.Shelf

attribute [local go_sem] Oper.semAt_some

structure Vx where
 v:Vd
 a:Option Addr
 len:Nat
 cap:Nat
def Vx.val (x:Vx):Value:=.agg #[.string x.v.n,.int .i64 x.v.c,.string x.v.z,.string x.v.k,.bool x.v.x,.string x.v.m,.bool x.v.y,.slice x.a x.len x.cap]
def KpB (h n₀:Nat) (W W':World):Prop:=W.heap.size<=W'.heap.size/\∀k,k<n₀->¬k=h->¬k=h+1->W'.heap[k]?=W.heap[k]?
theorem KpB.refl (h n₀:Nat) (W:World):KpB h n₀ W W:=⟨Ft _,fun _ _ _ _=>rfl⟩
theorem KpB.trans {h n₀:Nat} {A B C:World} (p:KpB h n₀ A B) (q:KpB h n₀ B C):KpB h n₀ A C:=⟨FA p.1 q.1,fun k h1 h2 h3=>(q.2 k h1 h2 h3).trans (p.2 k h1 h2 h3)⟩
theorem KpB.below {h n₀:Nat} {A B:World} (q:Below A.heap.size A B) (hn:n₀<=A.heap.size):KpB h n₀ A B:=⟨q.size,fun k h1 _ _=>q.block k (by omega)⟩
theorem KpB.put {h n₀:Nat} {w:World} (hn:n₀<=w.heap.size) (W:World) (l:Nat) (o o':Obj) (hl:w.heap.size<=l) (_:W.heap[l]?=some o) (_:o.isCells=false) (_:o.isWalk=false):KpB h n₀ W (W.putObj l o'):=
 ⟨by simp,fun k h1 _ _=>World.putObj_heap_other (fun e=>by omega)⟩
theorem bS {w w':World} (h:Below w.heap.size w w'):w.grownBy w' none:=⟨h.os,h.tape,h.output,h.size,fun k hk _=>h.block k hk⟩
structure z_ (W:World) (a:Option Addr) (h lb fb cb zb b o len cap:Nat) (xl:List Vx) (n':ByteArray) (c':Int) (k':ByteArray) (x':Bool) (v':ByteArray) (t:ByteArray):Prop where
 l0:W.heap[lb]?=some (.cells #[.slice a len cap] 32 (0,0))
 f0:W.heap[fb]?=some (.cells #[.func (.func 214) #[] #[.pointer (some ⟨cb,0,none⟩),.pointer (some ⟨zb,0,none⟩)]] 193 (0,0))
 held:iO W cb zb n' c' k' x' v' t
 ll:xl.length=len
 ha:xl=[]\/a=some ⟨b,o,none⟩
 bl:b<W.heap.size
 ne:¬lb=h/\¬lb=h+1/\¬fb=h/\¬fb=h+1/\¬cb=h/\¬cb=h+1/\¬zb=h/\¬zb=h+1/\¬b=h/\¬b=h+1
 cell:∀(j:Nat) x,xl[j]?=some x->W.cell? ⟨b,o+j*8,none⟩=some (.string x.v.n)/\W.cell? ⟨b,o+j*8+1,none⟩=some (.int .i64 x.v.c)/\W.cell? ⟨b,o+j*8+2,none⟩=some (.string x.v.z)/\W.cell? ⟨b,o+j*8+3,none⟩=some (.string x.v.k)/\
  W.cell? ⟨b,o+j*8+4,none⟩=some (.bool x.v.x)/\W.cell? ⟨b,o+j*8+5,none⟩=some (.string x.v.m)/\W.cell? ⟨b,o+j*8+6,none⟩=some (.bool x.v.y)/\W.cell? ⟨b,o+j*8+7,none⟩=some (.slice x.a x.len x.cap)
theorem z_.kept {W W':World} {a:Option Addr} {h lb fb cb zb b o len cap n₀:Nat} {xl:List Vx} {n':ByteArray} {c':Int} {k':ByteArray} {x':Bool} {v' t:ByteArray} (i:z_ W a h lb fb cb zb b o len cap xl n' c' k' x' v' t) (hn:lb<n₀/\fb<n₀/\cb<n₀/\zb<n₀/\b<n₀) (k:KpB h n₀ W W'):
  z_ W' a h lb fb cb zb b o len cap xl n' c' k' x' v' t:=by
 obtain⟨e1,e2,e3,e4,e5,e6,e7,e8,e9,e10⟩:=i.ne;have hc:∀j,W'.cell? ⟨b,j,none⟩=W.cell? ⟨b,j,none⟩:=fun j=>by simp[World.cell?,k.2 b hn.2.2.2.2 e9 e10]
 refine⟨(k.2 _ hn.1 e1 e2).trans i.l0,(k.2 _ hn.2.1 e3 e4).trans i.f0,⟨(k.2 _ hn.2.2.1 e5 e6).trans i.held.1,(k.2 _ hn.2.2.2.1 e7 e8).trans i.held.2⟩,i.ll,i.ha,FE i.bl k.1,i.ne,fun j x hx=>?_⟩;simp only[hc];exact i.cell j x hx

theorem qM (n:Nat) (hn1:1<=n) (a:Option Addr) (h lb fb cb zb b o len cap n₀:Nat) (xl:List Vx) (n':ByteArray) (c':Int) (k':ByteArray) (x':Bool) (v':ByteArray) (t:ByteArray) (w:World) (hlen:len<=1000) (hi:z_ w a h lb fb cb zb b o len cap xl n' c' k' x' v' t) (hw:n₀=w.heap.size) (hn:lb<n₀/\fb<n₀/\cb<n₀/\zb<n₀/\b<n₀):
  SeqStopsK Fence.wide n Tryz.prog 213 #[.pointer (some ⟨lb,0,none⟩),.pointer (some ⟨fb,0,none⟩)] (fun x:Vx=> #[x.val]) (KpB h n₀) (fun xs=>xs=xl.filter fun x=>svV c' k' x' t x.v) (fun _=>True) len w:=fun l J Jx W hW hJ hJx hY h0=>by
 have hiW:=hi.kept hn (KpB.below hW af);have hz:n₀<=W.heap.size:=by have:=hW.size;omega
 clear hi hW;have HI:=aa hiW;have HAJ:=aa hJ;have HY:=aa hY;clear hJ hJx hY;have c0:=aw hiW.l0 0;simp only[G9,F9] at c0;clear hiW;refine callsIn_of_wp Tryz.func213 rfl trivial ?_ rfl;simp only[Tryz.ntmps213,List.size_toArray,G0,List.length_nil,Nat.reduceAdd,Nat.reduceSub,Array.replicate_succ,Array.replicate_zero,List.push_toArray,List.append_toArray,List.nil_append,List.cons_append];gi_wp2;gi_loopw [8] (fun p wr=> ∃i:Nat,i<=len/\p=.int .i64 i/\Hid (KpB h n₀ W wr)/\Hid (J ((xl.take i).filter fun x=>svV c' k' x' t x.v) wr)) (fun p _=>len - (intOf p).toNat);case atStart=>exact⟨0,by omega,rfl,KpB.refl _ _ _,h0⟩
 case round=>
  obtain⟨i,hi,rfl,HK,HJ⟩:=hrel;have hI:=HI.kept hn HK.out;have hzr:=FA hz HK.1;by_cases hlt:i<len;case neg=>
   obtain rfl:i=len:=af
   have HE:Hid (J (xl.filter fun x=>svV c' k' x' t x.v) wr):=by have:=HJ.out;rw[FF (by have:=hI.ll;omega)] at this;exact this
   clear hI c0;gi_wp2;go_end0;exact⟨⟨_,rfl⟩,.inl ⟨_,rfl,HE.out⟩⟩
  have hxl:=hI.ll;obtain rfl:a=some ⟨b,o,none⟩:=by
   rcases hI.ha with h|h
   ·rw[h] at hxl;simp at hxl;omega
   ·exact h
  obtain⟨x,hx⟩:∃x,xl[i]?=some x:=⟨_,Fu af⟩;obtain⟨p0,p1,p2,p3,p4,p5,p6,p7⟩:=hI.cell i x hx;have hbf:=al wr (.cells #[.string x.v.n,.int .i64 x.v.c,.string x.v.z,.string x.v.k,.bool x.v.x,.string x.v.m,.bool x.v.y,.slice x.a x.len x.cap] 99);have f0:=(ak hbf (ae hI.f0)).trans (aw hI.f0 0);simp only[G9,F9] at f0;have HH:=aa hI.held;have HX:=aa hx;have hlt':(i:Int)<len:=af
  clear hI hx hbf c0;gi_wp2_with fail;refine⟨trivial,(callsIn_wide.2 (A_ x.v.n x.v.c x.v.z x.v.k x.v.x x.v.m x.v.y x.a x.len x.cap cb zb n' c' k' x' v' t _ (HH.below (al _ _)))).mono ?_⟩;rintro e w2 ⟨rfl,hb2⟩;obtain⟨gv,hb3,-⟩:=cE hb2;have y0:=ck0 gv;have y1:=ck1 gv;have y2:=ck2 gv;have y3:=ck3 gv;have y4:=ck4 gv;have y5:=ck5 gv;have y6:=ck6 gv;have y7:=ck7 gv;have HK2:=aa (HK.trans (KpB.below (h:=h) hb3 hzr));have HJ2:=aa (HAJ.out _ _ _ _ HJ.out (bS hb3) (fun r e=>by cases e));clear gv hb2 hb3 HK HJ p0 p1 p2 p3 p4 p5 p6 p7 f0;have hsv:svB x.v.c x.v.z x.v.k x.v.x x.v.m x.v.y c' k' x' t=svV c' k' x' t x.v:=rfl;rw[hsv];clear hsv;cases hs:svV c' k' x' t x.v
  ·have he:J ((xl.take (i+1)).filter fun x=>svV c' k' x' t x.v) w2:=by have:=HJ2.out;rw[F6,HX.out,Hb];simpa[hs] using this
   have HE:=aa he;clear hs he;gi_wp2;refine⟨fun _ h=>bU,?_⟩;gi_wp2;go_roundw;case rel=>exact⟨i+1,by omega,by go_num,HK2,HE⟩
   case measure=>simp[intOf];omega
  have hfl:((xl.take i).filter fun x=>svV c' k' x' t x.v).length<len:=by
   have h1:=List.length_filter_le (fun x:Vx=>svV c' k' x' t x.v) (xl.take i);have h2:(xl.take i).length<=i:=List.length_take_le _ _;omega
  obtain⟨fn,tmps,assign,body,hy,hR⟩:=HY.out _ x w2 HJ2.out hfl;dsimp only[Vx.val] at hy;have HS:=aa hs;clear hs;gi_wp2;refine hR.mono ?_;rintro e W3 (⟨rfl,hJ3,hk3⟩|⟨rfl,hJx3⟩)
  ·have he:J ((xl.take (i+1)).filter fun x=>svV c' k' x' t x.v) W3:=by rw[F6,HX.out,Hb];simpa[HS.out] using hJ3
   have HE:=aa he;clear he;have HK3:=aa (HK2.trans hk3);clear hJ3 hk3 hR hy y0 y1 y2 y3 y4 y5 y6 y7;gi_wp2;go_roundw;case rel=>exact⟨i+1,by omega,by go_num,HK3,HE⟩
   case measure=>simp[intOf];omega
  ·have HE:=aa hJx3;clear hJx3 hR hy y0 y1 y2 y3 y4 y5 y6 y7;gi_wp2;refine bodyPost_ret (results_none rfl _ _ _) rfl ?_;exact⟨⟨_,rfl⟩,.inr ⟨_,trivial,HE.out⟩⟩

end Go.Proofs.YtpejepeekdjfoaaGreatDoor

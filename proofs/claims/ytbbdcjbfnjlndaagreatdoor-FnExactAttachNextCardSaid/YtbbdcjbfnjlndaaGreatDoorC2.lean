import Derived.Test.YtbbdcjbfnjlndaaGreatDoorC1
import Derived.Lib.Bytealg
import Derived.Laws.AppendOwn
import Derived.Laws.AppendOwnNone
import Derived.Deep.AppendLies
import Derived.Deep.RegionWith
/-
 Pairs compared, and searched among others, as the program does it.
-/
set_option maxRecDepth 100000
set_option maxHeartbeats 12800000
open And renaming intro→xf
open Array renaming getElem?_push_size→xt, getD_eq_getD_getElem?→xv, getElem?_eq_some_iff→xA, getElem?_setIfInBounds→xJ, getElem?_range→yR, getElem?_map→yW
open Bool renaming and_eq_true→yk
open Go.Act renaming put→yx
open Go.Addr renaming add_lit→xB
open Go.Builtin renaming append_→xU
open Go.Calls renaming quiet_of_same→xI
open Go.Lib renaming compareBytes→yK
open Go.Op renaming bytesLess→xn
open Go.Region renaming wanted→yA
open Go.RowKit.Below renaming heap_setCell→xi, refl→xj, heap_alloc→xM
open Go.Value renaming string→xo
open Go.Value.slice renaming injEq→yQ
open Go.World renaming setCell→xZ, block_lt_of_cell?→x8, ownsRow_nil→yq
open Int renaming le_trans→xQ, add_assoc→yv
open List renaming getElem?_eq_some_iff→xe, lookup→xg, getElem?_eq_getElem→xm, getElem?_map→xq, take_of_length_le→xw, replicate→xz, mem_of_getElem?→xD, length_take→xE, getElem?_take→xF, eq_nil_of_length_eq_zero→xN, length_append→xO, getElem?_append_left→xP, length_map→xR, getElem?_of_mem→xS, mem_cons→xV, take_add_one→yb, getElem?_append_right→ye, length_drop→yf, getElem?_eq_none→yi, range→yt, not_mem_nil→yu, length_cons→yU
open Nat renaming le_refl→xk, le_trans→xp, lt_of_lt_of_le→xr, le_succ→xC, zero_add→xL, add_zero→yC
open Option renaming map_eq_some_iff→xu
open Option.some renaming inj→xh, injEq→ym
namespace Go.Proofs.YtbbdcjbfnjlndaaGreatDoor
theorem aj {p:Prop} (h:p:=by decide):p:=h
theorem ch {p:Prop} (h:p:=by have:=(xe.1 hz).1;omega):p:=h
theorem bA {p:Prop} (h:p:=by first|trivial|rfl):p:=h
theorem iz {p:Prop} (h:p:=by have:=(xe.1 hj).1;omega):p:=h
theorem nz {p:Prop} (h:p:=by simpa using (show (c.vs.map vdF).length=l3 from hr.v.1)):p:=h
theorem nx {p:Prop} (h:p:=by have:=(xe.1 hy).1;omega):p:=h
theorem nv {p:Prop} (h:p:=by have:=(xe.1 ht).1;omega):p:=h
theorem iy {p:Prop} (h:p:=by simp[xZ];omega):p:=h
theorem fW {p:Prop} (h:p:=by simpa using hr0):p:=h
theorem pS {p:Prop} (h:p:=by simpa using (show (c.xs.map xdF).length=l4 from hr.x.1)):p:=h
theorem pQ {p:Prop} (h:p:=by simp[results,Tryz.results161,go_sem, *]):p:=h
theorem nk {p:Prop} (h:p:=by rw[<-HRR.out];exact hr0):p:=h
theorem pP {p:Prop} (h:p:=by simp[results,Tryz.results146,go_sem]):p:=h
end Go.Proofs.YtbbdcjbfnjlndaaGreatDoor
namespace Go.Proofs.YtbbdcjbfnjlndaaGreatDoor
theorem bx {p:Prop} (h:p:=by
 go_simp;refine hK _ _ (xj _ _) ?_;with_reducible rfl):p:=h
theorem qu {p:Prop} (h:p:=by
 go_wp2_with fail;refine⟨⟨k+1,x.n,by omega,rfl,by go_num,fun h=>absurd h af,fun z _ hz=>?_,fun j z hj hz=>?_,fun j z u hj hz hu=>?_,HB4.out⟩,by simp[intOf];omega⟩
 ·rw[Nat.add_sub_cancel,HX.out] at hz;rw[xh hz]
 ·by_cases e:j=k
  ·subst e;rw[HX.out] at hz;obtain rfl:=xh hz;exact HOK.out
  ·exact HE.out j z af hz
 ·by_cases e:j+1=k
  ·subst e;rw[HX.out] at hz;obtain rfl:=xh hz;have:=H1.out u af (by rw[Nat.add_sub_cancel];exact hu);rw[this];exact hless
  ·exact HO.out j z u af hz hu):p:=h
theorem qh {p:Prop} (h:p:=by
 rw[hless] at htri;go_wp2;go_ret;refine aq.f (fun h=>?_) HB3.out;by_cases hk0:0<k
 ·have hz:xs[k - 1]?=some (xs[k - 1]'(by omega)):=xm _;have h2:=H1.out _ hk0 hz;have h3:=h.2.2 (k - 1) x _ (by rw[Nat.sub_add_cancel hk0];exact HX.out) hz;rw[h2,hless] at h3;cases h3
 ·have:=H0.out af;subst this;have hnm:=HOK.1.1;rw[kX hnm] at hless;cases hless):p:=h
theorem nR {p:Prop} (h:p:=by
 by_cases hn:x.n=t
 ·have hq:=a_ hn;have HN:=aa hn;clear hn;go_wp2;go_ret;exact⟨al _ _,.inl ⟨k,x,HX.out,HN.out,rfl⟩⟩
 ·have hq:=bL hn;have HN:=aa hn;clear hn;go_wp2;refine⟨⟨k+1,by omega,by go_num,by rw[ha],fun j z hj hz=>?_⟩,by simp[intOf];omega⟩;exact qH):p:=h
theorem kO {p:Prop} (h:p:=by
 obtain rfl:k=len:=af
 go_wp2;go_ret;refine aq.t ⟨by omega,fun j z hz=>HE.out j z ch hz,fun j z u hz hu=>HO.out j z u ch hz hu⟩ HB.out):p:=h
theorem kN {p:Prop} (h:p:=by
 obtain rfl:len=k:=af
 go_wp2;go_ret;refine⟨rfl,?_,HB.out⟩;have h5:=HP.out;rw[xw af,List.drop_of_length_le aT,List.append_nil] at h5;exact h5):p:=h
theorem u_ {p:Prop} (h:p:=by
 have F3:Hid (∀w,Calls Tryz.prog 207 #[.string k] w fun e w'=>e=.returned (.bool false)/\w'=w):=fun w=>(aV k w hk).mono fun _ _ h=>h.no p3;have HP:=aa p3;clear p3;go_enter Tryz.func206,Tryz.ntmps206;go_wp2_with fail;go_quiet ((first|(go_at_call_of 207 (xo n);exact xI (F0.out _))|(go_at_call_of 77 (Value.int .i64 c);exact xI (F1.out _))|(go_at_call_of 207 (xo z);exact xI (F2.out _))|(go_at_call_of 207 (xo k);exact xI (F3.out _))));go_wp2_with fail;go_ret;exact⟨false,rfl,⟨fun h=>bM,fun h=>(HP.out (h.2.2.2.1)).elim⟩,below_drewN (al _ _) _⟩):p:=h
theorem nQ {p:Prop} (h:p:=by
 go_wp2_with fail;refine⟨⟨k+1,by omega,by go_num,fun j y hj hy=>?_,HB2.out⟩,by simp[intOf];omega⟩;by_cases e:j=k
 ·subst e;rw[HX.out] at hy;obtain rfl:=xh hy;exact hless
 ·exact HE.out j y af hy):p:=h
theorem u9 {p:Prop} (h:p:=by
 have F2:Hid (∀w,Calls Tryz.prog 207 #[.string z] w fun e w'=>e=.returned (.bool false)/\w'=w):=fun w=>(aV z w hz).mono fun _ _ h=>h.no p2;have HP:=aa p2;clear p2;go_enter Tryz.func206,Tryz.ntmps206;go_wp2_with fail;go_quiet ((first|(go_at_call_of 207 (xo n);exact xI (F0.out _))|(go_at_call_of 77 (Value.int .i64 c);exact xI (F1.out _))|(go_at_call_of 207 (xo z);exact xI (F2.out _))));go_wp2_with fail;go_ret;exact⟨false,rfl,⟨fun h=>bM,fun h=>(HP.out (h.2.2.1)).elim⟩,below_drewN (al _ _) _⟩):p:=h
theorem u6 {p:Prop} (h:p:=by
 have F1:Hid (∀w,Calls Tryz.prog 77 #[.int .i64 c,.int .i64 1,.int .i64 1048576] w fun e w'=>e=.returned (.bool false)/\w'=w):=fun w=>(bC c 1 1048576 w).mono fun _ _ h=>h.no p1;have HP:=aa p1;clear p1;go_enter Tryz.func206,Tryz.ntmps206;go_wp2_with fail;go_quiet ((first|(go_at_call_of 207 (xo n);exact xI (F0.out _))|(go_at_call_of 77 (Value.int .i64 c);exact xI (F1.out _))));go_wp2_with fail;go_ret;exact⟨false,rfl,⟨fun h=>bM,fun h=>(HP.out (h.2.1)).elim⟩,below_drewN (al _ _) _⟩):p:=h
theorem eI {p:Prop} (h:p:=by
 obtain⟨h1,h2⟩:=xe.1 hx;simpa using h2.symm):p:=h
theorem kJ {p:Prop} (h:p:=by
 rintro e w1 ⟨r,rfl,hr1,hb⟩;have HB:=aa (cm hb).2.1;have HI:=aa hr1;clear hb hr1;go_wp2;go_ret;exact⟨r,rfl,HI.out,HB.out⟩):p:=h
theorem qx {p:Prop} (h:p:=by
 rw[<-e1] at hV;have HV3:=aa hV;have HB3:=aa ((HB.trans (hb23.mono hBs)).grown hgrow bX (fun g hg=>(HO2.lt g hg).1));clear hown3 hgrow hb23 hV e1;go_wp2;exact⟨⟨k+1,_,_,by omega,by go_num,HO3,HV3,HB3⟩,by simp[intOf];omega⟩):p:=h
theorem kI {p:Prop} (h:p:=by
 rw[h3] at h4;exact⟨by rw[xR,eC hZl af];simp,xk _,by omega,.inr ⟨_,cur,H,rfl,h4⟩⟩):p:=h
theorem uW {p:Prop} (h:p:=by
 have F0:Hid (∀w,Calls Tryz.prog 207 #[.string n] w fun e w'=>e=.returned (.bool false)/\w'=w):=fun w=>(aV n w hn).mono fun _ _ h=>h.no p0;have HP:=aa p0;clear p0;go_enter Tryz.func206,Tryz.ntmps206;go_wp2_with fail;go_quiet ((first|(go_at_call_of 207 (xo n);exact xI (F0.out _))));go_wp2_with fail;go_ret;exact⟨false,rfl,⟨fun h=>bM,fun h=>(HP.out (h.1)).elim⟩,below_drewN (al _ _) _⟩):p:=h
theorem nN {p:Prop} (h:p:=by
 go_wp2;go_ret;exact⟨al _ _,.inr ⟨fun j z hz=>HE.out j z ch hz,rfl⟩⟩):p:=h
theorem kH {p:Prop} (h:p:=by
 intro j r hr;rw[xq] at hr;obtain⟨x,hx,rfl⟩:=xu.1 hr;rfl):p:=h
theorem kF {p:Prop} (h:p:=by
 go_wp2;go_ret;exact aq.f (fun h=>by have:=HI.2 (h.2.1 k x HX.out);cases this) HB2.out):p:=h
theorem kE {p:Prop} (h:p:=by
 obtain⟨k0,k1,k2,k3,k4,k5⟩:=cs6 Bk;go_wp2;go_ret;exact⟨-1,rfl,.inl rfl,HB.out⟩):p:=h
theorem qt {p:Prop} (h:p:=by
 rw[yi bX] at hj;cases hj):p:=h
theorem qo {p:Prop} (h:p:=by
 go_wp2;go_ret;exact⟨congrArg (fun z=>Ending.returned (.int .i64 z)) (HS.trans (by rw[xw af])),HB.out⟩):p:=h
theorem kB {p:Prop} (h:p:=by
 go_wp2;go_ret;exact aq.f (fun h=>by have:=h.1;omega) (xj _ _)):p:=h
theorem uF {p:Prop} (h:p:=by
 rw[xL,aD hg];have hj:j<n:=by have:=(xe.1 hx).1;omega
 have e1:(cur.toList.take (n*1))[j]?=some (.string x):=by rw[htk];simp[hx]
 rw[xF,if_pos af] at e1;simpa using e1):p:=h
theorem uC {p:Prop} (h:p:=by
 obtain⟨x0,x1,x2,x3,x4⟩:=cs5 Bx;have ltx_2:=ae Bx.out;go_wp2;go_ret;refine aq.f (fun ⟨i,j,x',v',e1,e2,e3,e4,_⟩=>?_) (HB.alloc HB.size _);have:=(cV HX.out e1 e2).2;rw[HH1.out] at this;cases this):p:=h
theorem uA {p:Prop} (h:p:=by
 exact ah (xC _) (ah (xC _) (ah (xC _) (ah (xC _) (ah (xC _) (ah (xC _) (ah (xC _) (ah (xC _) (HB.out))))))))):p:=h
theorem uo {p:Prop} (h:p:=by
 exact ah (xC _) (ah (xC _) (ah (xC _) (ah (xC _) (ah (xC _) (ah (xC _) (ah (xC _) (HB.out)))))))):p:=h
theorem l8 {p:Prop} (h:p:=by
 rw[hl5] at HR5;rw[hl5];clear h5 hR HV HO;go_wp2;go_ret;exact⟨a',c',rfl,HR5.out,HB.out⟩):p:=h
theorem je {p:Prop} (h:p:=by
 clear HQ;go_wp2;go_ret;exact aq.t ⟨HQ1.out,HQ2.out⟩ HB.out):p:=h
theorem lZ {p:Prop} (h:p:=by
 obtain rfl:=xh hz;exact⟨HH.out,.inr (HI.1 bA)⟩):p:=h
theorem lY {p:Prop} (h:p:=by
 go_wp2;refine wp_loop_rounds 1 ?_;rw[rounds_succ];go_wp2;go_ret;exact⟨rfl,rfl⟩):p:=h
theorem rI {p:Prop} (h:p:=by
 exact ah (xC _) (ah (xC _) (ah (xC _) (ah (xC _) (ah (xC _) (HB.out)))))):p:=h
theorem rD {p:Prop} (h:p:=by
 go_wp2_with fail;go_ret;exact⟨false,rfl,⟨fun h=>bM,fun h=>(HP.out (h.2.2.2.2.1)).elim⟩,below_drewN (al _ _) _⟩):p:=h
theorem rq {p:Prop} (h:p:=by
 exact ah (xC _) (ah (xC _) (ah (xC _) (ah (xC _) (HB.out))))):p:=h
theorem lV {p:Prop} (h:p:=by
 obtain rfl:=xh hz;exact⟨HH.out,.inl HEm.out⟩):p:=h
theorem lU {p:Prop} (h:p:=by
 rintro e w6 ⟨rfl,rfl⟩;exact hK _ _ (xj _ _) rfl):p:=h
theorem lR {p:Prop} (h:p:=by
 have hgl:=ae (HS.own.choose_spec.choose_spec.1.blk);refine⟨_,_,_,rfl,HVZ.out,xk _,by omega,HT.2.2.2.1,.inr ⟨rfl,by show w.heap.size<=_;omega,by omega,_,hG,fun j x hx=>?_⟩⟩;simp[hx]):p:=h
theorem jb {p:Prop} (h:p:=by
 refine Obl.plain rfl ?_;intro ac wg K hsz hW hf hK;clear hsz;have e3:=hf 3 aj;simp[ak,xg] at e3;clear hf;exact bx):p:=h
theorem gT {p:Prop} (h:p:=by
 rw[xq,cf hZl af,List.getElem?_replicate,if_pos hlt];rfl):p:=h
theorem qP {p:Prop} (h:p:=by
 refine Obl.plain rfl ?_;intro ac wg K hsz hW hf hK;clear hsz;have e2:=hf 2 aj;simp[ak,xg] at e2;clear hf;exact bx):p:=h
theorem lQ {p:Prop} (h:p:=by
 show World.ownsRow _ _ _ _ _ _ _;rw[List.flatten_append];simpa using hown3):p:=h
theorem qH {p:Prop} (h:p:=by
 by_cases e:j=k
 ·subst e;rw[HX.out] at hz;obtain rfl:=xh hz;exact HN.out
 ·exact HE.out j z af hz):p:=h
theorem sM {p:Prop} (h:p:=by
 have hbw:=xr hbl HRW.size;have e0:=(ai hb1 hbw).trans ((ai HRW.out hbl).trans c0);have e1:=(ai hb1 hbw).trans ((ai HRW.out hbl).trans c1);have e2:=(ai hb1 hbw).trans ((ai HRW.out hbl).trans c2);have e3:=(ai hb1 hbw).trans ((ai HRW.out hbl).trans c3);exact xf hbw (xf e0 (xf e1 (xf e2 e3)))):p:=h
theorem kv {p:Prop} (h:p:=by
 have HB3:=aa (HB2.trans (hb2.mono (xp HB.size (xp (xC _) hs1))));have g2:=(hb2.block wr.heap.size af).trans HG.out;have hs2:=hb2.size;have htri:=eg y.toList x.n.toList;exact xf HB3 (xf g2 (xf hs2 htri))):p:=h
theorem iD {p:Prop} (h:p:=by
 have hl5:c.ps.length=l5:=by simpa using (show (c.ps.map pdF).length=l5 from hr.p.1)
 have hm5:l5<=9223372036854775807:=xp hr.p.2.1 hr.p.2.2.1;exact xf hl5 hm5):p:=h
theorem gf {p:Prop} (h:p:=by
 have d0:=ck0 g1;have f0:=aw g1 0;have d1:=ck1 g1;have f1:=aw g1 1;have d2:=ck2 g1;have f2:=aw g1 2;have d3:=ck3 g1;have f3:=aw g1 3;exact xf d0 (xf f0 (xf d1 (xf f1 (xf d2 (xf f2 (xf d3 f3))))))):p:=h
theorem ff {p:Prop} (h:p:=by
 have HR:=aa hr;have hxl:xs.length=len:=dA
 have hlc:=xp hr.2.1 hr.2.2.1;exact xf HR (xf hxl hlc)):p:=h
theorem iC {p:Prop} (h:p:=by
 have fr0:=aw Br.out 0;have fr1:=aw Br.out 1;have fr2:=aw Br.out 2;have fr3:=aw Br.out 3;have fr4:=aw Br.out 4;have fr5:=aw Br.out 5;exact xf fr0 (xf fr1 (xf fr2 (xf fr3 (xf fr4 fr5))))):p:=h
theorem iA {p:Prop} (h:p:=by
 have yn:=fun q:Wd wr=>(q.cell hb).trans hc0;have yd:=fun q:Wd wr=>(q.cell hb).trans hc1;have hne0:=Wd.ne wr;exact xf yn (xf yd hne0)):p:=h
theorem fe {p:Prop} (h:p:=by
 have HB2:=upB HB1 hb1;have d0:=ck0 g1;have d1:=ck1 g1;have d2:=ck2 g1;have d3:=ck3 g1;exact xf HB2 (xf d0 (xf d1 (xf d2 d3)))):p:=h
theorem kt {p:Prop} (h:p:=by
 have hnx1:=(xj _ _).grown hgrow (xk _) (fun k hk=>by cases hk);have HB:Hid (Below w.heap.size w w1):=hnx1;exact xf hnx1 HB):p:=h
theorem p_ {p:Prop} (h:p:=by
 have HB:=aa ((al w (.cells #[.string x.n,.string x.d] 58)).trans (HL.mono af));have Bx:=aa ((HL.block w.heap.size af).trans (heap_alloc_new w (.cells #[.string x.n,.string x.d] 58)));exact xf HB Bx):p:=h
theorem nF {p:Prop} (h:p:=by
 have HB3:=aa (HB2.trans (hb2.mono (xp HB.size (xp (xC _) hs1))));have hp:=rO HE.out HX.out hless;exact xf HB3 hp):p:=h
theorem kr {p:Prop} (h:p:=by
 have HR:=aa hr;have hl3:c.vs.length=l3:=nz
 exact xf HR hl3):p:=h
theorem pZ {p:Prop} (h:p:=by
 have HG:=aa hg;have HX2:=aa hbx;have HO2:=aa (br HO.out hbx);have hs2:wr.heap.size<w2.heap.size:=by have:=hb2.size;rw[cB] at this;omega
 exact xf HG (xf HX2 (xf HO2 hs2))):p:=h
theorem pX {p:Prop} (h:p:=by
 have fr0:=aw Bs.out 0;have fr1:=aw Bs.out 1;have fr2:=aw Bs.out 2;have fr3:=aw Bs.out 3;have fr4:=aw Bs.out 4;have fr5:=aw Bs.out 5;have fr6:=aw Bs.out 6;have fr7:=aw Bs.out 7;exact xf fr0 (xf fr1 (xf fr2 (xf fr3 (xf fr4 (xf fr5 (xf fr6 fr7))))))):p:=h
theorem kj {p:Prop} (h:p:=by
 have hlc:len<=cap:=hr.2.1;have hcm:cap<=9223372036854775807:=hr.2.2.1;exact xf hlc hcm):p:=h
theorem gL {p:Prop} (h:p:=by
 have HR:=aa hr;have HB:=aa (xj w.heap.size w);exact xf HR HB):p:=h
theorem nC {p:Prop} (h:p:=by
 have d4:=ck4 g1;have f4:=aw g1 4;have d5:=ck5 g1;have f5:=aw g1 5;have d6:=ck6 g1;have f6:=aw g1 6;exact xf d4 (xf f4 (xf d5 (xf f5 (xf d6 f6))))):p:=h
theorem tJ {p:Prop} (h:p:=by
 have e4:=(ai hb1 hbw).trans ((ai HRW.out hbl).trans c4);have e5:=(ai hb1 hbw).trans ((ai HRW.out hbl).trans c5);have e6:=(ai hb1 hbw).trans ((ai HRW.out hbl).trans c6);exact xf e4 (xf e5 e6)):p:=h
theorem pW {p:Prop} (h:p:=by
 have HT:=aa hvr;have hvl2:vl<=1048576:=by have:=HF.out k v hv;rw[hvr.1] at this;exact this
 have hvz:=hvr.1;have HVZ:=aa hvz;exact xf HT (xf hvl2 (xf hvz HVZ))):p:=h
theorem fY {p:Prop} (h:p:=by
 have HX:=aa hx;have HV:=aa hv;have HNE:=aa hne;exact xf HX (xf HV HNE)):p:=h
theorem pU {p:Prop} (h:p:=by
 have hz8:vl<=8001:=by have h1:=hvr.1;have h2:=HS.out k x hx;omega
 have HX:=aa hx;have HT:=aa hvr;have HZz0:=aa z0;exact xf hz8 (xf HX (xf HT HZz0))):p:=h
end Go.Proofs.YtbbdcjbfnjlndaaGreatDoor
namespace Go.Proofs.YtbbdcjbfnjlndaaGreatDoor
open Go.RowKit
namespace Rc
open Mk

def cb (a b:ByteArray):Int:=yK a.data.toList b.data.toList
theorem fS:∀x y:List UInt8,(yK x y<0↔xn x y=true)/\(yK x y=0↔x=y)
 | [],[]=>by simp[yK,xn]
 | [],_ ::_=>by simp[yK,xn]
 | _ ::_,[]=>by simp[yK,xn]
 | a ::x,b ::y=>by
  have ih:=fS x y;unfold yK;by_cases h1:a<b
  ·rw[if_pos h1];have hne:¬a=b:=fun e=>by rw[e] at h1;exact absurd h1 (UInt8.lt_irrefl b)
   simp[xn,h1,hne]
  ·rw[if_neg h1];by_cases h2:b<a
   ·rw[if_pos h2];have hne:¬a=b:=fun e=>by rw[e] at h2;exact absurd h2 (UInt8.lt_irrefl b)
    simp[xn,h1,hne]
   ·rw[if_neg h2];have e:a=b:=UInt8.le_antisymm (UInt8.not_lt.1 h2) (UInt8.not_lt.1 h1);subst e;simp[xn,h1,ih.1,ih.2]
theorem gC (a b:ByteArray):cb a b<0↔xn a.toList b.toList=true:=by
 unfold cb;rw[(fS _ _).1];simp[ByteArray.toList_eq]
theorem dS (a b:ByteArray):cb a b=0↔a=b:=by
 unfold cb;rw[(fS _ _).2];constructor
 ·intro h;have h2:a.toList=b.toList:=by simp[ByteArray.toList_eq,h]
  exact dw (by simp[h2])
 ·intro h;rw[h]
def cq (a b:Qd):Int:=if cb a.n b.n=0 then cb a.d b.d else cb a.n b.n
theorem oc (a b:Qd):cq a b<0↔bl a b=true:=by
 unfold cq bl;rw[Bool.or_eq_true,yk];by_cases h:cb a.n b.n=0
 ·rw[if_pos h,gC];have e:=(dS _ _).1 h;rw[e];simp[bN]
 ·rw[if_neg h,gC];have e:(a.n.toList==b.n.toList)=false:=bL (fun e=>h ((dS _ _).2 e));simp[e]
theorem ob (a b:Qd):cq a b=0↔a=b:=by
 unfold cq;by_cases h:cb a.n b.n=0
 ·rw[if_pos h,dS];have e:=(dS _ _).1 h;obtain⟨a1,a2⟩:=a;obtain⟨b1,b2⟩:=b;simp only at e;subst e;simp
 ·rw[if_neg h];exact⟨fun e=>absurd e h,fun e=>absurd (by rw[e];exact (dS _ _).2 rfl) h⟩

theorem oT (a b:ByteArray) (w:World):Calls Tryz.prog 94 #[.string a,.string b] w fun e w'=>e=.returned (.int .i64 (cb a b))/\w'=w:=by
 go_enter Tryz.func94,Tryz.ntmps94;go_wp2;rw[run_callFunc_extern Tryz.func157 an an an (e:=Extern.BytealgCompare.compare) an,Lib.run_compareString];simp only[Result.andThen];rw[Oper.upon_value];go_wp2;go_ret;exact⟨rfl,rfl⟩

theorem fQ (a b:ByteArray) (w:World):Calls Tryz.prog 38 #[.string a,.string b] w fun e w'=>e=.returned (.int .i64 (cb a b))/\w'=w:=by
 go_enter Tryz.func38,Tryz.ntmps38;go_wp2_with fail;refine (oT a b _).mono ?_;rintro e w1 ⟨rfl,rfl⟩;go_wp2;go_ret;exact⟨rfl,rfl⟩

theorem sW (b:Nat) (u v:Int) (w:World) (h0:w.cell? ⟨b,0,none⟩=some (.int .i64 u)) (h1:w.cell? ⟨b,1,none⟩=some (.int .i64 v)):
  Calls Tryz.prog 147 #[.slice (some ⟨b,0,none⟩) 2 2] w fun e w'=>e=.returned (.int .i64 (if u=0 then v else u))/\w'=w:=by
 by_cases hu:u=0
 ·subst hu;rw[if_pos rfl];by_cases hv:v=0
  ·subst hv;go_enter Tryz.func147,Tryz.ntmps147;go_wp2;refine wp_loop_rounds 3 ?_;rw[rounds_succ];go_wp2;rw[rounds_succ];go_wp2;rw[rounds_succ];go_wp2;go_ret;exact⟨rfl,rfl⟩
  ·have hv1:(v==0)=false:=by simpa using hv
   go_enter Tryz.func147,Tryz.ntmps147;go_wp2;refine wp_loop_rounds 2 ?_;rw[rounds_succ];go_wp2;rw[rounds_succ];go_wp2;go_ret;exact⟨rfl,rfl⟩
 ·rw[if_neg hu];have hu1:(u==0)=false:=by simpa using hu
  go_enter Tryz.func147,Tryz.ntmps147;exact lY

def TwN (u v:Int):Fact:=fun x w=> ∃b,x=.slice (some ⟨b,0,none⟩) 2 2/\w.cell? ⟨b,0,none⟩=some (.int .i64 u)/\w.cell? ⟨b,1,none⟩=some (.int .i64 v)
theorem TwN.mono (u v:Int):Fact.bw (TwN u v):=by
 rintro x w w' ⟨b,h1,h3,h4⟩ hb;exact⟨b,h1,(ai hb (x8 _ _ h3)).trans h3,(ai hb (x8 _ _ h4)).trans h4⟩

theorem sY (a b:Qd) (w:World):Calls Tryz.prog 87 #[.agg #[.string a.n,.string a.d],.agg #[.string b.n,.string b.d]] w fun e w'=>e=.returned (.int .i64 (cq a b))/\Below w.heap.size w w':=by
 have HB:=aa (xj w.heap.size w);go_enter Tryz.func87,Tryz.ntmps87;go_wp2_with fail;obtain⟨W,hW0⟩:∃W,W=((w.alloc (.cells #[.string a.n,.string a.d] 58)).alloc (.cells #[.string b.n,.string b.d] 58)):=⟨_,rfl⟩;have Ba:Hid (W.heap[w.heap.size]?=some (.cells #[.string a.n,.string a.d] 58 (0,0))):=by rw[hW0];exact cL _ _ _
 have Bb:Hid (W.heap[w.heap.size+1]?=some (.cells #[.string b.n,.string b.d] 58 (0,0))):=by rw[hW0];exact bV _ _ _
 have HBW:Hid (Below w.heap.size w W):=by rw[hW0];exact aM _ _ _
 rw[<-hW0];clear hW0;rename_i K0 hK0;refine bY (back:=none) an (List.append_nil _).symm an ?_;refine' Grow.ar _ rfl ?_ ?_;rotate_left 1
 ·exact qP
 refine' Grow.ar _ rfl ?_ ?_;rotate_left 1
 ·refine Obl.plain rfl ?_;intro ac wg K hsz hW hf hK;clear hsz;have e5:=hf 5 aj;simp[ak,xg] at e5;clear hf;obtain⟨k0,k1⟩:=cs2 ((hW.block _ (ae Ba.out)).trans Ba.out);exact bx
 refine' Grow.ar _ rfl ?_ ?_;rotate_left 1
 ·exact jb
 refine' Grow.ar _ rfl ?_ ?_;rotate_left 1
 ·refine Obl.plain rfl ?_;intro ac wg K hsz hW hf hK;clear hsz;have e7:=hf 7 aj;simp[ak,xg] at e7;clear hf;obtain⟨k0,k1⟩:=cs2 ((hW.block _ (ae Bb.out)).trans Bb.out);exact bx
 refine' Grow.ar (.int .i64 (cb a.n b.n)) rfl ?_ ?_
 ·refine Obl.plain rfl ?_;intro ac wg K hsz hW hf hK;clear hsz;have e6:=hf 6 aj;simp[ak,xg] at e6;have e8:=hf 8 aj;simp[ak,xg] at e8;clear hf;go_simp;refine (fQ a.n b.n _).mono ?_;exact lU
 refine' Grow.ar _ rfl ?_ ?_;rotate_left 1
 ·exact qP
 refine' Grow.ar _ rfl ?_ ?_;rotate_left 1
 ·refine Obl.plain rfl ?_;intro ac wg K hsz hW hf hK;clear hsz;have e10:=hf 10 aj;simp[ak,xg] at e10;clear hf;obtain⟨k0,k1⟩:=cs2 ((hW.block _ (ae Ba.out)).trans Ba.out);exact bx
 refine' Grow.ar _ rfl ?_ ?_;rotate_left 1
 ·exact jb
 refine' Grow.ar _ rfl ?_ ?_;rotate_left 1
 ·refine Obl.plain rfl ?_;intro ac wg K hsz hW hf hK;clear hsz;have e12:=hf 12 aj;simp[ak,xg] at e12;clear hf;obtain⟨k0,k1⟩:=cs2 ((hW.block _ (ae Bb.out)).trans Bb.out);exact bx
 refine' Grow.ar (.int .i64 (cb a.d b.d)) rfl ?_ ?_
 ·refine Obl.plain rfl ?_;intro ac wg K hsz hW hf hK;clear hsz;have e11:=hf 11 aj;simp[ak,xg] at e11;have e13:=hf 13 aj;simp[ak,xg] at e13;clear hf;go_simp;refine (fQ a.d b.d _).mono ?_;exact lU
 refine Grow.step (TwN (cb a.n b.n) (cb a.d b.d)) rfl (TwN.mono _ _) ?_ ?_
 ·refine Obl.plain rfl ?_;intro ac wg K hsz hW hf hK;clear hsz;have e9:=hf 9 aj;simp[ak,xg] at e9;have e14:=hf 14 aj;simp[ak,xg] at e14;clear hf;go_simp;refine hK _ _ (al _ _) ⟨_,rfl,?_,?_⟩
  ·rw[aD (heap_alloc_new wg _)];rfl
  ·rw[aD (heap_alloc_new wg _)];rfl
 refine' Grow.ar (.int .i64 (cq a b)) rfl ?_ ?_
 ·refine Obl.plain rfl ?_;intro ac wg K hsz hW hf hK;clear hsz;have e15:=hf 15 aj;simp[ak,xg] at e15;clear hf;obtain⟨b9,e15,h0,h1⟩:=e15;go_simp;refine (sW b9 _ _ _ h0 h1).mono ?_;exact lU
 refine' Grow.ar _ rfl ?_ ?_;rotate_left 1
 ·refine Obl.plain rfl ?_;intro ac wg K hsz hW hf hK;clear hsz;have e16:=hf 16 aj;simp[ak,xg] at e16;clear hf;exact bx
 refine Grow.done ?_;intro q wz hW hf;simp only[List.forall_mem_cons] at hf;obtain⟨h4,-⟩:=hf;have HW2:=aa hW;refine hK0 _ _ ?_;simp only[aI,List.foldr,yx,List.setIfInBounds_toArray,List.set_cons_zero,List.set_cons_succ,h4];clear hK0;go_wp2;go_ret;exact⟨rfl,HBW.trans (HW2.mono HBW.size)⟩

theorem ju (a b:Qd) (w:World) (r:Int) (h:r=cq a b):Calls Tryz.prog 87 #[.agg #[.string a.n,.string a.d],.agg #[.string b.n,.string b.d]] w fun e w'=>e=.returned (.int .i64 r)/\Below w.heap.size w w':=by
 rw[h];exact sY a b w
def wA (zs:List Qd) (x:Qd) (w:World) (e:Ending) (w':World):Prop:=∃(k:Nat) (f:Bool),e=.returned (.tuple #[.int .i64 k,.bool f])/\k<=zs.length/\(∀(j:Nat) y,j<k->zs[j]?=some y->bl y x=true)/\((f=true/\zs[k]?=some x)\/(f=false/\∀y,zs[k]?=some y->bl x y=true))/\Below w.heap.size w w'
theorem RQ.le {zs:List Qd} {x y z:Qd} {i j:Nat} (h:RQ zs) (hij:i<=j) (hi:zs[i]?=some y) (hj:zs[j]?=some z) (hl:bl z x=true):bl y x=true:=by
 rcases Nat.lt_or_ge i j with hlt|hge
 ·have h1:=xe.1 hi;have h2:=xe.1 hj;obtain⟨i1,rfl⟩:=h1;obtain⟨j1,rfl⟩:=h2;exact dq (List.pairwise_iff_getElem.1 h i j i1 j1 hlt) hl
 ·obtain rfl:i=j:=af
  rw[hi] at hj;obtain rfl:=xh hj;exact hl

theorem sZ (a:Option Addr) (len cap:Nat) (zs:List Qd) (x:Qd) (w:World) (hr:aF w a len cap 2 (zs.map qdF)) (hri:RQ zs) (hl:len<=64):
  Calls Tryz.prog 146 #[.slice a len cap,.agg #[.string x.n,.string x.d],.func (.func 87) #[] #[]] w (wA zs x w):=by
 have HR:=aa hr;have hzl:zs.length=len:=dA
 obtain⟨hlc,hcm⟩:=kj;have HRI:=aa hri;clear hr hri;go_enter Tryz.func146,Tryz.ntmps146;go_wp2;go_loopw [9,10] (fun vi vj wr=> ∃(i j:Nat),i<=j/\j<=len/\vi=.int .i64 i/\vj=.int .i64 j/\Hid (∀(q:Nat) y,q<i->zs[q]?=some y->bl y x=true)/\Hid (∀(q:Nat) y,j<=q->zs[q]?=some y->bl y x=false)/\Hid (Below (w.heap.size+1) (w.alloc (.cells #[.string x.n,.string x.d] 58)) wr)) (fun vi vj _=>(intOf vj).toNat - (intOf vi).toNat);case atStart=>exact⟨0,len,by omega,by omega,rfl,rfl,fun q y h=>by omega,fun q y h hy=>by have:=(xe.1 hy).1;omega,xj _ _⟩
 case round=>
  obtain⟨i,j,hij,hj,rfl,rfl,HI,HJ,HL⟩:=hrel;have hLs:w.heap.size+1<=wr.heap.size:=by have h8:=HL.size;rw[cB] at h8;exact h8
  obtain⟨HB,Bx⟩:=p_;by_cases hlt:i<j
  ·have hk1:(i:Int)<j:=af
   obtain⟨m,hm⟩:∃m,m=(i+j) / 2:=⟨_,rfl⟩;have hm1:m<j:=af
   have hm2:i<=m:=af
   have hml:m<len:=af
   obtain⟨b,o,y,rfl,hb,hy,hat⟩:=eJ (HR.below HB.out) hml;obtain⟨-,-,hc0,hc1⟩:=b8 hat;have HY:=aa hy;clear hat hy;have hmi:((i:Int)+j) / 2=(m:Int):=af
   have hm0:¬(m:Int)<0:=af
   have hm3:(m:Int)<len:=af
   obtain⟨r,hr⟩:∃r,r=cq y x:=⟨_,rfl⟩;have HRR:=aa hr;clear hr hm;by_cases hr0:r<0
   ·have hr1:decide (r<0)=true:=fW
    obtain⟨x0,x1⟩:=cs2 Bx;have ltx_0:=ae Bx.out;go_wp2_with fail;clear x0 x1 ltx_0;have Gx:=Bx;have HW:=HB;obtain⟨x0,x1⟩:=sl2 Gx;obtain⟨yn,yd,hne0⟩:=iA;have HC0:=aa (fun q:Wd wr=>ju y x q.w r HRR.out);go_wp2_with fail;refine ag an an ?_;repeat (go_big_quiet_step (first|(go_at_call 87;exact Calls.wide (HC0.out _))|fail))
    refine wpQuiet_nil ?_;rintro _ ⟨q1,rfl⟩;have HB1:=upB HW q1.b;have Cx:=upK Gx q1.b;clear hne0 HW HB HC0 x0 x1 yn yd Gx Bx hb hc0 hc1;have HB:=HB1;clear HB1;have Bx:=Cx;clear Cx;have HLS:Hid (bl y x=true):=(oc _ _).1 nk;go_wp2;refine⟨⟨m+1,j,by omega,by omega,by go_num,rfl,fun q z hq hz=>HRI.le af hz HY.out HLS.out,HJ.out,HL.trans (q1.b.mono af)⟩,by simp[intOf];omega⟩
   ·have hr1:decide (r<0)=false:=fW
    obtain⟨x0,x1⟩:=cs2 Bx;have ltx_0:=ae Bx.out;go_wp2_with fail;clear x0 x1 ltx_0;have Gx:=Bx;have HW:=HB;obtain⟨x0,x1⟩:=sl2 Gx;obtain⟨yn,yd,hne0⟩:=iA;have HC0:=aa (fun q:Wd wr=>ju y x q.w r HRR.out);go_wp2_with fail;refine ag an an ?_;repeat (go_big_quiet_step (first|(go_at_call 87;exact Calls.wide (HC0.out _))|fail))
    refine wpQuiet_nil ?_;rintro _ ⟨q1,rfl⟩;have HB1:=upB HW q1.b;have Cx:=upK Gx q1.b;clear hne0 HW HB HC0 x0 x1 yn yd Gx Bx hb hc0 hc1;have HB:=HB1;clear HB1;have Bx:=Cx;clear Cx;have HLS:Hid (bl y x=false):=by
     show bl y x=false;cases h9:bl y x
     ·rfl
     ·have h8:=(oc y x).2 h9;rw[<-HRR.out] at h8;omega
    go_wp2;refine⟨⟨i,m,by omega,by omega,rfl,rfl,HI.out,fun q z hq hz=>?_,HL.trans (q1.b.mono af)⟩,by simp[intOf];omega⟩;cases h9:bl z x
    ·rfl
    ·have h8:=HRI.le hq HY.out hz h9;rw[HLS.out] at h8;cases h8
  have HIJ:Hid (i=j):=by show i=j;omega
  have hk1:¬(i:Int)<j:=af
  by_cases hil:i<len
  ·have hk2:(i:Int)<len:=af
   have hk3:decide ((i:Int)<len)=true:=by simp;omega
   obtain⟨b,o,y,rfl,hb,hy,hat⟩:=eJ (HR.below HB.out) hil;obtain⟨-,-,hc0,hc1⟩:=b8 hat;have HY:=aa hy;clear hat hy;obtain⟨r,hr⟩:∃r,r=cq y x:=⟨_,rfl⟩;have HRR:=aa hr;clear hr;by_cases hr0:r=0
   ·have hr1:(r==0)=true:=fW
    obtain⟨x0,x1⟩:=cs2 Bx;have ltx_0:=ae Bx.out;go_wp2_with fail;clear x0 x1 ltx_0;have Gx:=Bx;have HW:=HB;obtain⟨x0,x1⟩:=sl2 Gx;obtain⟨yn,yd,hne0⟩:=iA;have HC0:=aa (fun q:Wd wr=>ju y x q.w r HRR.out);go_wp2_with fail;refine ag an an ?_;repeat (go_big_quiet_step (first|(go_at_call 87;exact Calls.wide (HC0.out _))|fail))
    refine wpQuiet_nil ?_;rintro _ ⟨q1,rfl⟩;have HB1:=upB HW q1.b;have Cx:=upK Gx q1.b;clear hne0 HW HB HC0 x0 x1 yn yd Gx Bx hb hc0 hc1;have HB:=HB1;clear HB1;have Bx:=Cx;clear Cx;have HEQ:Hid (zs[i]?=some x):=by
     have h9:y=x:=(ob _ _).1 nk;rw[<-h9];exact HY.out
    go_wp2;exact bodyPost_ret (v:=.tuple #[.int .i64 i,.bool true]) pP rfl ⟨i,true,rfl,by omega,HI.out,.inl ⟨rfl,HEQ.out⟩,HB.out⟩
   ·have hr1:(r==0)=false:=fW
    obtain⟨x0,x1⟩:=cs2 Bx;have ltx_0:=ae Bx.out;go_wp2_with fail;clear x0 x1 ltx_0;have Gx:=Bx;have HW:=HB;obtain⟨x0,x1⟩:=sl2 Gx;obtain⟨yn,yd,hne0⟩:=iA;have HC0:=aa (fun q:Wd wr=>ju y x q.w r HRR.out);go_wp2_with fail;refine ag an an ?_;repeat (go_big_quiet_step (first|(go_at_call 87;exact Calls.wide (HC0.out _))|fail))
    refine wpQuiet_nil ?_;rintro _ ⟨q1,rfl⟩;have HB1:=upB HW q1.b;have Cx:=upK Gx q1.b;clear hne0 HW HB HC0 x0 x1 yn yd Gx Bx hb hc0 hc1;have HB:=HB1;clear HB1;have Bx:=Cx;clear Cx;have HGT:Hid (∀z,zs[i]?=some z->bl x z=true):=fun z hz=>by
     rw[HY.out] at hz;obtain rfl:=xh hz;exact iI (HJ.out i y (by have:=HIJ.out;omega) HY.out) (fun e=>hr0 (by rw[HRR.out];exact (ob _ _).2 e))
    go_wp2;exact bodyPost_ret (v:=.tuple #[.int .i64 i,.bool false]) pP rfl ⟨i,false,rfl,by omega,HI.out,.inr ⟨rfl,HGT.out⟩,HB.out⟩
  have hk2:¬(i:Int)<len:=af
  have hk3:decide ((i:Int)<len)=false:=by simp;omega
  obtain⟨x0,x1⟩:=cs2 Bx;have ltx_0:=ae Bx.out;go_wp2_with fail;clear x0 x1 ltx_0;have Gx:=Bx;have HW:=HB;obtain⟨x0,x1⟩:=sl2 Gx;have hne0:=Wd.ne wr;go_wp2_with fail;refine ag an an ?_;repeat (go_big_quiet_step (first|fail))
  refine wpQuiet_nil ?_;rintro _ ⟨q1,rfl⟩;have HB1:=upB HW q1.b;have Cx:=upK Gx q1.b;clear hne0 HW HB x0 x1 Gx Bx;have HB:=HB1;clear HB1;have Bx:=Cx;clear Cx;go_wp2;exact bodyPost_ret (v:=.tuple #[.int .i64 i,.bool false]) pP rfl ⟨i,false,rfl,by omega,HI.out,.inr ⟨rfl,fun z hz=>by have:=(xe.1 hz).1;omega⟩,HB.out⟩

theorem mE:(Tryz.prog.info? 103).map (fun i=>(i.zero,i.size,i.bytes))=some (some (.agg #[.string ⟨#[]⟩,.string ⟨#[]⟩,.int .i64 0,.int .i64 0,.int .i64 0,.bool false,.slice none 0 0]),7,88):=by kernel_rfl
def ndZ:Nd:=⟨⟨#[]⟩,⟨#[]⟩,0,0,0,false,[]⟩

theorem vL {w:World} {g len:Nat} (h:w.heap[g]?=some (.cells (madeCells #[.string ⟨#[]⟩,.string ⟨#[]⟩,.int .i64 0,.int .i64 0,.int .i64 0,.bool false,.slice none 0 0] (len*7)) 103 (0,0))) (hl:len<=1048576) (S:Nat->Prop) (hS:S g):
  az w (some ⟨g,0,none⟩) len len 7 103 ((xz len ndZ).map ndF) S:=by
 refine⟨by simp,xk _,by omega,.inr ⟨g,_,fun _ _=>0,rfl,h,hS,?_,?_,?_⟩⟩
 ·exact kH
 ·intro j r hr i f hi;rw[xq] at hr;obtain⟨x,hx,rfl⟩:=xu.1 hr;have hj:j<len:=by have:=(xe.1 hx).1;simpa using this
  obtain rfl:x=ndZ:=by
   exact eI
  have him:i<7:=(xe.1 hi).1;have hlt:j*7+i<len*7:=af
  have hcell:(madeCells #[.string ⟨#[]⟩,.string ⟨#[]⟩,.int .i64 0,.int .i64 0,.int .i64 0,.bool false,.slice none 0 0] (len*7))[j*7+i]?=some (#[.string ⟨#[]⟩,.string ⟨#[]⟩,.int .i64 0,.int .i64 0,.int .i64 0,.bool false,.slice none 0 0][i]!):=by
   unfold madeCells;rw[yW,yR];rw[if_pos hlt];have:(j*7+i) % 7=i:=af
   simp[this]
  refine⟨_,hcell,?_⟩;rcases i with _|_|_|_|_|_|_|i
  ·cases hi;exact⟨rfl,by decide⟩
  ·cases hi;exact⟨rfl,by decide⟩
  ·cases hi;exact rfl
  ·cases hi;exact rfl
  ·cases hi;exact rfl
  ·cases hi;exact rfl
  ·cases hi;exact⟨none,0,0,rfl,rfl,xk _,by decide,fun j x hx=>by simp[ndZ] at hx,.inl rfl⟩
  ·omega
 ·intro j r i zs j' r' i' zs' hr hi hz;exfalso;rw[xq] at hr;obtain⟨x,hx,rfl⟩:=xu.1 hr;obtain rfl:x=ndZ:=by
   exact eI
  have him:i<7:=(xe.1 hi).1;rcases i with _|_|_|_|_|_|_|i
  ·cases hi
  ·cases hi
  ·cases hi
  ·cases hi
  ·cases hi
  ·cases hi
  ·cases hi;exact hz rfl
  ·omega

theorem pB (a:Option Addr) (len cap:Nat) (xs:List Nd) (w:World) (hr:aF w a len cap 7 (xs.map ndF)) (hl:len<=1048576) (hf:∀(j:Nat) x,xs[j]?=some x->x.zs.length<=1048576):
  Calls Tryz.prog 27 #[.slice a len cap] w fun e w'=>e=.returned (.slice (some ⟨w.heap.size,0,none⟩) len len)/\az w' (some ⟨w.heap.size,0,none⟩) len len 7 103 (xs.map ndF) (fun k=>w.heap.size<=k)/\Below w.heap.size w w':=by
 obtain⟨HR,hvl⟩:=eG;have HF:=aa hf;clear hr hf;obtain⟨i0,hi,hz0,hz1,hz2⟩:=info_parts mE;go_enter Tryz.func27,Tryz.ntmps27;go_wp2_with (at_make;refine wpList_make_full _ rfl _ _ 30 rfl w.heap.size 103 i0 (.agg #[.string ⟨#[]⟩,.string ⟨#[]⟩,.int .i64 0,.int .i64 0,.int .i64 0,.bool false,.slice none 0 0]) 7 Tryz.underlying30 hi hz0 hz1 _ _ _ _ len rfl rfl af af gK bJ (xk _) ?_);intro w1 hown hgrow;obtain⟨hnx1,HB⟩:=kt;have hc1:w1.heap[w.heap.size]?=some (.cells (madeCells #[.string ⟨#[]⟩,.string ⟨#[]⟩,.int .i64 0,.int .i64 0,.int .i64 0,.bool false,.slice none 0 0] (len*7)) 103 (0,0)):=by
  obtain⟨h1,h2⟩:=hown;rcases h2 with ⟨h3,_⟩|⟨g',cap',cur,hv,hB,hh,_,_,hsz,htk⟩
  ·cases h3
  ·simp only[yQ,ym,Addr.mk.injEq] at hv;obtain⟨⟨rfl,_,_⟩,_,rfl⟩:=hv;rw[xw (by simp[hsz])] at htk;have:cur=madeCells #[.string ⟨#[]⟩,.string ⟨#[]⟩,.int .i64 0,.int .i64 0,.int .i64 0,.bool false,.slice none 0 0] (len*7):=by apply Array.ext';simpa using htk
   rw[this] at hh;simpa using hh
 have HP:Hid (az w1 (some ⟨w.heap.size,0,none⟩) len len 7 103 ((xs.take 0++(xz len ndZ).drop 0).map ndF) (fun k=>w.heap.size<=k)):=by
  have:=vL hc1 hl (fun k=>w.heap.size<=k) (xk _);simpa[Hid] using this
 have hZl:xs.length=(xz len ndZ).length:=by simpa using hvl
 clear hown hgrow hi hz0 hz1 hz2 hnx1 hc1;go_wp2;go_loopw [4] (fun i wr=> ∃k:Nat,k<=len/\i=.int .i64 k/\Hid (az wr (some ⟨w.heap.size,0,none⟩) len len 7 103 ((xs.take k++(xz len ndZ).drop k).map ndF) (fun k=>w.heap.size<=k))/\Hid (Below w.heap.size w wr)) (fun i _=>len - (intOf i).toNat);case atStart=>exact⟨0,by omega,rfl,HP,HB⟩
 case round=>
  obtain⟨k,hk,rfl,HP,HB⟩:=hrel;by_cases hlt:k<len
  ·obtain⟨b,o,v,rfl,hb,hv,hat⟩:=bU (HR.below HB.out) hlt;obtain⟨va,vl,vc,hvr,z0,z1,c0,c1,c2,c3,c4,c5,c6⟩:=aQ hat;have HV:=aa hv;have Hz0:=aa z0;have Hz1:=aa z1;obtain⟨HT,hvl2,hvz,HVZ⟩:=pW;clear hvr hvz;clear hat hv z0 z1;have hzk:((xs.take k++(xz len ndZ).drop k).map ndF)[k]?=some (ndF ndZ):=by
    exact gT
   obtain⟨g,hg,hs⟩:=HP.st (aG.refl _ _) hzk;cases hg;have HS:=aa hs;clear hs hzk HP;go_wp2_with fail;refine (lB v.n v.z v.c v.s v.u v.d va vl vc v.zs _ HT.out hvl2).mono ?_;rintro e w2 ⟨rfl,hG,hb2⟩;have HB2:=upB HB hb2;have h1:StJ w.heap.size 7 103 (fun k=>w.heap.size<=k) (fun k=>wr.heap.size<=k) wr w2 ((xs.take k++(xz len ndZ).drop k).map ndF) k [.s ndZ.n,.s ndZ.z,.i ndZ.c,.i ndZ.s,.i ndZ.u,.b ndZ.d,.l ndZ.zs]:=HS.fresh hb2;have hL:jD w2 (wr.heap.size+1+1+1) (fun k=>w.heap.size<=k) w.heap.size v.zs (.slice (some ⟨wr.heap.size+1+1+1,0,none⟩) vl vl):=by
    exact lR
   have HL:=aa hL;clear hG hL;obtain⟨q0,e0⟩:=h1.cell (i:=0) rfl;have f0:=h1.cA (k*7);obtain⟨q1,e1⟩:=h1.cell (i:=1) rfl;have f1:=h1.cA (k*7+1);obtain⟨q2,e2⟩:=h1.cell (i:=2) rfl;have f2:=h1.cA (k*7+2);obtain⟨q3,e3⟩:=h1.cell (i:=3) rfl;have f3:=h1.cA (k*7+3);obtain⟨q4,e4⟩:=h1.cell (i:=4) rfl;have f4:=h1.cA (k*7+4);obtain⟨q5,e5⟩:=h1.cell (i:=5) rfl;have f5:=h1.cA (k*7+5);obtain⟨q6,e6⟩:=h1.cell (i:=6) rfl;have f6:=h1.cA (k*7+6);rw[yC] at e0;have HZ:=aa ((((((((h1).cP (i:=0) rfl v.n Hz0.out).cP (i:=1) rfl v.z Hz1.out).gm (i:=2) rfl v.c).gm (i:=3) rfl v.s).gm (i:=4) rfl v.u).gn (i:=5) rfl v.d).vu (i:=6) rfl v.zs (fun _=>by show wr.heap.size<=_;omega) (Fv.Own.aZ (u:=.l v.zs) (Fv.Own.aZ (u:=.l v.zs) (Fv.Own.aZ (u:=.l v.zs) (Fv.Own.aZ (u:=.l v.zs) (Fv.Own.aZ (u:=.l v.zs) (Fv.Own.aZ (u:=.l v.zs) (HL.out))))))));clear h1 hb2 c0 c1 c2 c3 c4 c5 c6 hb;go_wp2_with fail;refine⟨⟨k+1,by omega,by go_num,?_,ah (xk _) (ah (xk _) (ah (xk _) (ah (xk _) (ah (xk _) (ah (xk _) (ah (xk _) (HB2.out)))))))⟩,by simp[intOf];omega⟩;obtain⟨⟨cur,H,h2,-⟩,-,-⟩:=HZ.out;have h3:(((xs.take k++(xz len ndZ).drop k).map ndF).set k (ndF v))=(xs.take (k+1)++(xz len ndZ).drop (k+1)).map ndF:=by
    rw[<-List.map_set,bQ hZl HV.out]
   have h4:cy _ w.heap.size 7 103 (((xs.take k++(xz len ndZ).drop k).map ndF).set k (ndF v)) (fun k=>w.heap.size<=k) cur H:=h2;exact kI
  ·exact kN

theorem mF:(Tryz.prog.info? 111).map (fun i=>(i.zero,i.size,i.bytes))=some (some (.agg #[.string ⟨#[]⟩,.bool false,.bool false,.string ⟨#[]⟩]),4,40):=by kernel_rfl
def kdZ:Kd:=⟨⟨#[]⟩,false,false,⟨#[]⟩⟩

theorem vM {w:World} {g len:Nat} (h:w.heap[g]?=some (.cells (madeCells #[.string ⟨#[]⟩,.bool false,.bool false,.string ⟨#[]⟩] (len*4)) 111 (0,0))) (hl:len<=1048576) (S:Nat->Prop) (hS:S g):
  az w (some ⟨g,0,none⟩) len len 4 111 ((xz len kdZ).map kdF) S:=by
 refine⟨by simp,xk _,by omega,.inr ⟨g,_,fun _ _=>0,rfl,h,hS,?_,?_,?_⟩⟩
 ·exact kH
 ·intro j r hr i f hi;rw[xq] at hr;obtain⟨x,hx,rfl⟩:=xu.1 hr;have hj:j<len:=by have:=(xe.1 hx).1;simpa using this
  obtain rfl:x=kdZ:=by
   exact eI
  have him:i<4:=(xe.1 hi).1;have hlt:j*4+i<len*4:=af
  have hcell:(madeCells #[.string ⟨#[]⟩,.bool false,.bool false,.string ⟨#[]⟩] (len*4))[j*4+i]?=some (#[.string ⟨#[]⟩,.bool false,.bool false,.string ⟨#[]⟩][i]!):=by
   unfold madeCells;rw[yW,yR];rw[if_pos hlt];have:(j*4+i) % 4=i:=af
   simp[this]
  refine⟨_,hcell,?_⟩;rcases i with _|_|_|_|i
  ·cases hi;exact⟨rfl,by decide⟩
  ·cases hi;exact rfl
  ·cases hi;exact rfl
  ·cases hi;exact⟨rfl,by decide⟩
  ·omega
 ·intro j r i zs j' r' i' zs' hr hi hz;exfalso;rw[xq] at hr;obtain⟨x,hx,rfl⟩:=xu.1 hr;obtain rfl:x=kdZ:=by
   exact eI
  have him:i<4:=(xe.1 hi).1;rcases i with _|_|_|_|i
  ·cases hi
  ·cases hi
  ·cases hi
  ·cases hi
  ·omega

theorem pC (a:Option Addr) (len cap:Nat) (xs:List Kd) (w:World) (hr:aF w a len cap 4 (xs.map kdF)) (hl:len<=1048576):
  Calls Tryz.prog 28 #[.slice a len cap] w fun e w'=>e=.returned (.slice (some ⟨w.heap.size,0,none⟩) len len)/\az w' (some ⟨w.heap.size,0,none⟩) len len 4 111 (xs.map kdF) (fun k=>w.heap.size<=k)/\Below w.heap.size w w':=by
 obtain⟨HR,hvl⟩:=eG;skip;clear hr;obtain⟨i0,hi,hz0,hz1,hz2⟩:=info_parts mF;go_enter Tryz.func28,Tryz.ntmps28;go_wp2_with (at_make;refine wpList_make_full _ rfl _ _ 31 rfl w.heap.size 111 i0 (.agg #[.string ⟨#[]⟩,.bool false,.bool false,.string ⟨#[]⟩]) 4 Tryz.underlying31 hi hz0 hz1 _ _ _ _ len rfl rfl af af gK bJ (xk _) ?_);intro w1 hown hgrow;obtain⟨hnx1,HB⟩:=kt;have hc1:w1.heap[w.heap.size]?=some (.cells (madeCells #[.string ⟨#[]⟩,.bool false,.bool false,.string ⟨#[]⟩] (len*4)) 111 (0,0)):=by
  obtain⟨h1,h2⟩:=hown;rcases h2 with ⟨h3,_⟩|⟨g',cap',cur,hv,hB,hh,_,_,hsz,htk⟩
  ·cases h3
  ·simp only[yQ,ym,Addr.mk.injEq] at hv;obtain⟨⟨rfl,_,_⟩,_,rfl⟩:=hv;rw[xw (by simp[hsz])] at htk;have:cur=madeCells #[.string ⟨#[]⟩,.bool false,.bool false,.string ⟨#[]⟩] (len*4):=by apply Array.ext';simpa using htk
   rw[this] at hh;simpa using hh
 have HP:Hid (az w1 (some ⟨w.heap.size,0,none⟩) len len 4 111 ((xs.take 0++(xz len kdZ).drop 0).map kdF) (fun k=>w.heap.size<=k)):=by
  have:=vM hc1 hl (fun k=>w.heap.size<=k) (xk _);simpa[Hid] using this
 have hZl:xs.length=(xz len kdZ).length:=by simpa using hvl
 clear hown hgrow hi hz0 hz1 hz2 hnx1 hc1;go_wp2;go_loopw [4] (fun i wr=> ∃k:Nat,k<=len/\i=.int .i64 k/\Hid (az wr (some ⟨w.heap.size,0,none⟩) len len 4 111 ((xs.take k++(xz len kdZ).drop k).map kdF) (fun k=>w.heap.size<=k))/\Hid (Below w.heap.size w wr)) (fun i _=>len - (intOf i).toNat);case atStart=>exact⟨0,by omega,rfl,HP,HB⟩
 case round=>
  obtain⟨k,hk,rfl,HP,HB⟩:=hrel;by_cases hlt:k<len
  ·obtain⟨b,o,v,rfl,hb,hv,hat⟩:=eL (HR.below HB.out) hlt;obtain⟨z0,z3,c0,c1,c2,c3⟩:=bO hat;have HV:=aa hv;have Hz0:=aa z0;have Hz3:=aa z3;clear hat hv z0 z3;have hzk:((xs.take k++(xz len kdZ).drop k).map kdF)[k]?=some (kdF kdZ):=by
    exact gT
   obtain⟨g,hg,hs⟩:=HP.st (aG.refl _ _) hzk;cases hg;have HS:=aa hs;clear hs hzk HP;go_wp2_with fail;refine (jO v.n v.x v.y v.z _).mono ?_;rintro e w2 ⟨rfl,hb2⟩;have HB2:=upB HB hb2;have h1:StJ w.heap.size 4 111 (fun k=>w.heap.size<=k) (fun k=>wr.heap.size<=k) wr w2 ((xs.take k++(xz len kdZ).drop k).map kdF) k [.s kdZ.n,.b kdZ.x,.b kdZ.y,.s kdZ.z]:=HS.fresh hb2;obtain⟨q0,e0⟩:=h1.cell (i:=0) rfl;have f0:=h1.cA (k*4);obtain⟨q1,e1⟩:=h1.cell (i:=1) rfl;have f1:=h1.cA (k*4+1);obtain⟨q2,e2⟩:=h1.cell (i:=2) rfl;have f2:=h1.cA (k*4+2);obtain⟨q3,e3⟩:=h1.cell (i:=3) rfl;have f3:=h1.cA (k*4+3);rw[yC] at e0;have HZ:=aa (((((h1).cP (i:=0) rfl v.n Hz0.out).gn (i:=1) rfl v.x).gn (i:=2) rfl v.y).cP (i:=3) rfl v.z Hz3.out);clear h1 hb2 c0 c1 c2 c3 hb;go_wp2_with fail;refine⟨⟨k+1,by omega,by go_num,?_,ah (xk _) (ah (xk _) (ah (xk _) (ah (xk _) (HB2.out))))⟩,by simp[intOf];omega⟩;obtain⟨⟨cur,H,h2,-⟩,-,-⟩:=HZ.out;have h3:(((xs.take k++(xz len kdZ).drop k).map kdF).set k (kdF v))=(xs.take (k+1)++(xz len kdZ).drop (k+1)).map kdF:=by
    rw[<-List.map_set,bQ hZl HV.out]
   have h4:cy _ w.heap.size 4 111 (((xs.take k++(xz len kdZ).drop k).map kdF).set k (kdF v)) (fun k=>w.heap.size<=k) cur H:=h2;exact kI
  ·exact kN

theorem fP:(Tryz.prog.info? 62).map (fun i=>(i.zero,i.size,i.bytes))=some (some (.agg #[.string ⟨#[]⟩,.int .i64 0,.string ⟨#[]⟩,.string ⟨#[]⟩,.bool false,.string ⟨#[]⟩,.bool false,.slice none 0 0]),8,112):=by kernel_rfl
def vdZ:Vd:=⟨⟨#[]⟩,0,⟨#[]⟩,⟨#[]⟩,false,⟨#[]⟩,false,[]⟩

theorem vJ {w:World} {g len:Nat} (h:w.heap[g]?=some (.cells (madeCells #[.string ⟨#[]⟩,.int .i64 0,.string ⟨#[]⟩,.string ⟨#[]⟩,.bool false,.string ⟨#[]⟩,.bool false,.slice none 0 0] (len*8)) 62 (0,0))) (hl:len<=1048576) (S:Nat->Prop) (hS:S g):
  az w (some ⟨g,0,none⟩) len len 8 62 ((xz len vdZ).map vdF) S:=by
 refine⟨by simp,xk _,by omega,.inr ⟨g,_,fun _ _=>0,rfl,h,hS,?_,?_,?_⟩⟩
 ·exact kH
 ·intro j r hr i f hi;rw[xq] at hr;obtain⟨x,hx,rfl⟩:=xu.1 hr;have hj:j<len:=by have:=(xe.1 hx).1;simpa using this
  obtain rfl:x=vdZ:=by
   exact eI
  have him:i<8:=(xe.1 hi).1;have hlt:j*8+i<len*8:=af
  have hcell:(madeCells #[.string ⟨#[]⟩,.int .i64 0,.string ⟨#[]⟩,.string ⟨#[]⟩,.bool false,.string ⟨#[]⟩,.bool false,.slice none 0 0] (len*8))[j*8+i]?=some (#[.string ⟨#[]⟩,.int .i64 0,.string ⟨#[]⟩,.string ⟨#[]⟩,.bool false,.string ⟨#[]⟩,.bool false,.slice none 0 0][i]!):=by
   unfold madeCells;rw[yW,yR];rw[if_pos hlt];have:(j*8+i) % 8=i:=af
   simp[this]
  refine⟨_,hcell,?_⟩;rcases i with _|_|_|_|_|_|_|_|i
  ·cases hi;exact⟨rfl,by decide⟩
  ·cases hi;exact rfl
  ·cases hi;exact⟨rfl,by decide⟩
  ·cases hi;exact⟨rfl,by decide⟩
  ·cases hi;exact rfl
  ·cases hi;exact⟨rfl,by decide⟩
  ·cases hi;exact rfl
  ·cases hi;exact⟨none,0,0,rfl,rfl,xk _,by decide,fun j x hx=>by simp[vdZ] at hx,.inl rfl⟩
  ·omega
 ·intro j r i zs j' r' i' zs' hr hi hz;exfalso;rw[xq] at hr;obtain⟨x,hx,rfl⟩:=xu.1 hr;obtain rfl:x=vdZ:=by
   exact eI
  have him:i<8:=(xe.1 hi).1;rcases i with _|_|_|_|_|_|_|_|i
  ·cases hi
  ·cases hi
  ·cases hi
  ·cases hi
  ·cases hi
  ·cases hi
  ·cases hi
  ·cases hi;exact hz rfl
  ·omega

theorem pz (a:Option Addr) (len cap:Nat) (xs:List Vd) (w:World) (hr:aF w a len cap 8 (xs.map vdF)) (hl:len<=1048576) (hf:∀(j:Nat) x,xs[j]?=some x->x.zs.length<=1048576):
  Calls Tryz.prog 29 #[.slice a len cap] w fun e w'=>e=.returned (.slice (some ⟨w.heap.size,0,none⟩) len len)/\az w' (some ⟨w.heap.size,0,none⟩) len len 8 62 (xs.map vdF) (fun k=>w.heap.size<=k)/\Below w.heap.size w w':=by
 obtain⟨HR,hvl⟩:=eG;have HF:=aa hf;clear hr hf;obtain⟨i0,hi,hz0,hz1,hz2⟩:=info_parts fP;go_enter Tryz.func29,Tryz.ntmps29;go_wp2_with (at_make;refine wpList_make_full _ rfl _ _ 32 rfl w.heap.size 62 i0 (.agg #[.string ⟨#[]⟩,.int .i64 0,.string ⟨#[]⟩,.string ⟨#[]⟩,.bool false,.string ⟨#[]⟩,.bool false,.slice none 0 0]) 8 Tryz.underlying32 hi hz0 hz1 _ _ _ _ len rfl rfl af af gK bJ (xk _) ?_);intro w1 hown hgrow;obtain⟨hnx1,HB⟩:=kt;have hc1:w1.heap[w.heap.size]?=some (.cells (madeCells #[.string ⟨#[]⟩,.int .i64 0,.string ⟨#[]⟩,.string ⟨#[]⟩,.bool false,.string ⟨#[]⟩,.bool false,.slice none 0 0] (len*8)) 62 (0,0)):=by
  obtain⟨h1,h2⟩:=hown;rcases h2 with ⟨h3,_⟩|⟨g',cap',cur,hv,hB,hh,_,_,hsz,htk⟩
  ·cases h3
  ·simp only[yQ,ym,Addr.mk.injEq] at hv;obtain⟨⟨rfl,_,_⟩,_,rfl⟩:=hv;rw[xw (by simp[hsz])] at htk;have:cur=madeCells #[.string ⟨#[]⟩,.int .i64 0,.string ⟨#[]⟩,.string ⟨#[]⟩,.bool false,.string ⟨#[]⟩,.bool false,.slice none 0 0] (len*8):=by apply Array.ext';simpa using htk
   rw[this] at hh;simpa using hh
 have HP:Hid (az w1 (some ⟨w.heap.size,0,none⟩) len len 8 62 ((xs.take 0++(xz len vdZ).drop 0).map vdF) (fun k=>w.heap.size<=k)):=by
  have:=vJ hc1 hl (fun k=>w.heap.size<=k) (xk _);simpa[Hid] using this
 have hZl:xs.length=(xz len vdZ).length:=by simpa using hvl
 clear hown hgrow hi hz0 hz1 hz2 hnx1 hc1;go_wp2;go_loopw [4] (fun i wr=> ∃k:Nat,k<=len/\i=.int .i64 k/\Hid (az wr (some ⟨w.heap.size,0,none⟩) len len 8 62 ((xs.take k++(xz len vdZ).drop k).map vdF) (fun k=>w.heap.size<=k))/\Hid (Below w.heap.size w wr)) (fun i _=>len - (intOf i).toNat);case atStart=>exact⟨0,by omega,rfl,HP,HB⟩
 case round=>
  obtain⟨k,hk,rfl,HP,HB⟩:=hrel;by_cases hlt:k<len
  ·obtain⟨b,o,v,rfl,hb,hv,hat⟩:=bq (HR.below HB.out) hlt;obtain⟨va,vl,vc,hvr,z0,z2,z3,z5,c0,c1,c2,c3,c4,c5,c6,c7⟩:=aE hat;have HV:=aa hv;have Hz0:=aa z0;have Hz2:=aa z2;have Hz3:=aa z3;have Hz5:=aa z5;obtain⟨HT,hvl2,hvz,HVZ⟩:=pW;clear hvr hvz;clear hat hv z0 z2 z3 z5;have hzk:((xs.take k++(xz len vdZ).drop k).map vdF)[k]?=some (vdF vdZ):=by
    exact gT
   obtain⟨g,hg,hs⟩:=HP.st (aG.refl _ _) hzk;cases hg;have HS:=aa hs;clear hs hzk HP;go_wp2_with fail;refine (iV v.n v.c v.z v.k v.x v.m v.y va vl vc v.zs _ HT.out hvl2).mono ?_;rintro e w2 ⟨rfl,hG,hb2⟩;have HB2:=upB HB hb2;have h1:StJ w.heap.size 8 62 (fun k=>w.heap.size<=k) (fun k=>wr.heap.size<=k) wr w2 ((xs.take k++(xz len vdZ).drop k).map vdF) k [.s vdZ.n,.i vdZ.c,.s vdZ.z,.s vdZ.k,.b vdZ.x,.s vdZ.m,.b vdZ.y,.l vdZ.zs]:=HS.fresh hb2;have hL:jD w2 (wr.heap.size+1+1+1) (fun k=>w.heap.size<=k) w.heap.size v.zs (.slice (some ⟨wr.heap.size+1+1+1,0,none⟩) vl vl):=by
    exact lR
   have HL:=aa hL;clear hG hL;obtain⟨q0,e0⟩:=h1.cell (i:=0) rfl;have f0:=h1.cA (k*8);obtain⟨q1,e1⟩:=h1.cell (i:=1) rfl;have f1:=h1.cA (k*8+1);obtain⟨q2,e2⟩:=h1.cell (i:=2) rfl;have f2:=h1.cA (k*8+2);obtain⟨q3,e3⟩:=h1.cell (i:=3) rfl;have f3:=h1.cA (k*8+3);obtain⟨q4,e4⟩:=h1.cell (i:=4) rfl;have f4:=h1.cA (k*8+4);obtain⟨q5,e5⟩:=h1.cell (i:=5) rfl;have f5:=h1.cA (k*8+5);obtain⟨q6,e6⟩:=h1.cell (i:=6) rfl;have f6:=h1.cA (k*8+6);obtain⟨q7,e7⟩:=h1.cell (i:=7) rfl;have f7:=h1.cA (k*8+7);rw[yC] at e0;have HZ:=aa (((((((((h1).cP (i:=0) rfl v.n Hz0.out).gm (i:=1) rfl v.c).cP (i:=2) rfl v.z Hz2.out).cP (i:=3) rfl v.k Hz3.out).gn (i:=4) rfl v.x).cP (i:=5) rfl v.m Hz5.out).gn (i:=6) rfl v.y).vu (i:=7) rfl v.zs (fun _=>by show wr.heap.size<=_;omega) (Fv.Own.aZ (u:=.l v.zs) (Fv.Own.aZ (u:=.l v.zs) (Fv.Own.aZ (u:=.l v.zs) (Fv.Own.aZ (u:=.l v.zs) (Fv.Own.aZ (u:=.l v.zs) (Fv.Own.aZ (u:=.l v.zs) (Fv.Own.aZ (u:=.l v.zs) (HL.out)))))))));clear h1 hb2 c0 c1 c2 c3 c4 c5 c6 c7 hb;go_wp2_with fail;refine⟨⟨k+1,by omega,by go_num,?_,ah (xk _) (ah (xk _) (ah (xk _) (ah (xk _) (ah (xk _) (ah (xk _) (ah (xk _) (ah (xk _) (HB2.out))))))))⟩,by simp[intOf];omega⟩;obtain⟨⟨cur,H,h2,-⟩,-,-⟩:=HZ.out;have h3:(((xs.take k++(xz len vdZ).drop k).map vdF).set k (vdF v))=(xs.take (k+1)++(xz len vdZ).drop (k+1)).map vdF:=by
    rw[<-List.map_set,bQ hZl HV.out]
   have h4:cy _ w.heap.size 8 62 (((xs.take k++(xz len vdZ).drop k).map vdF).set k (vdF v)) (fun k=>w.heap.size<=k) cur H:=h2;exact kI
  ·exact kN

theorem mB:(Tryz.prog.info? 114).map (fun i=>(i.zero,i.size,i.bytes))=some (some (.agg #[.string ⟨#[]⟩,.int .i64 0,.string ⟨#[]⟩,.bool false,.string ⟨#[]⟩]),5,64):=by kernel_rfl
def xdZ:Xd:=⟨⟨#[]⟩,0,⟨#[]⟩,false,⟨#[]⟩⟩

theorem vI {w:World} {g len:Nat} (h:w.heap[g]?=some (.cells (madeCells #[.string ⟨#[]⟩,.int .i64 0,.string ⟨#[]⟩,.bool false,.string ⟨#[]⟩] (len*5)) 114 (0,0))) (hl:len<=1048576) (S:Nat->Prop) (hS:S g):
  az w (some ⟨g,0,none⟩) len len 5 114 ((xz len xdZ).map xdF) S:=by
 refine⟨by simp,xk _,by omega,.inr ⟨g,_,fun _ _=>0,rfl,h,hS,?_,?_,?_⟩⟩
 ·exact kH
 ·intro j r hr i f hi;rw[xq] at hr;obtain⟨x,hx,rfl⟩:=xu.1 hr;have hj:j<len:=by have:=(xe.1 hx).1;simpa using this
  obtain rfl:x=xdZ:=by
   exact eI
  have him:i<5:=(xe.1 hi).1;have hlt:j*5+i<len*5:=af
  have hcell:(madeCells #[.string ⟨#[]⟩,.int .i64 0,.string ⟨#[]⟩,.bool false,.string ⟨#[]⟩] (len*5))[j*5+i]?=some (#[.string ⟨#[]⟩,.int .i64 0,.string ⟨#[]⟩,.bool false,.string ⟨#[]⟩][i]!):=by
   unfold madeCells;rw[yW,yR];rw[if_pos hlt];have:(j*5+i) % 5=i:=af
   simp[this]
  refine⟨_,hcell,?_⟩;rcases i with _|_|_|_|_|i
  ·cases hi;exact⟨rfl,by decide⟩
  ·cases hi;exact rfl
  ·cases hi;exact⟨rfl,by decide⟩
  ·cases hi;exact rfl
  ·cases hi;exact⟨rfl,by decide⟩
  ·omega
 ·intro j r i zs j' r' i' zs' hr hi hz;exfalso;rw[xq] at hr;obtain⟨x,hx,rfl⟩:=xu.1 hr;obtain rfl:x=xdZ:=by
   exact eI
  have him:i<5:=(xe.1 hi).1;rcases i with _|_|_|_|_|i
  ·cases hi
  ·cases hi
  ·cases hi
  ·cases hi
  ·cases hi
  ·omega

theorem py (a:Option Addr) (len cap:Nat) (xs:List Xd) (w:World) (hr:aF w a len cap 5 (xs.map xdF)) (hl:len<=1048576):
  Calls Tryz.prog 30 #[.slice a len cap] w fun e w'=>e=.returned (.slice (some ⟨w.heap.size,0,none⟩) len len)/\az w' (some ⟨w.heap.size,0,none⟩) len len 5 114 (xs.map xdF) (fun k=>w.heap.size<=k)/\Below w.heap.size w w':=by
 obtain⟨HR,hvl⟩:=eG;skip;clear hr;obtain⟨i0,hi,hz0,hz1,hz2⟩:=info_parts mB;go_enter Tryz.func30,Tryz.ntmps30;go_wp2_with (at_make;refine wpList_make_full _ rfl _ _ 33 rfl w.heap.size 114 i0 (.agg #[.string ⟨#[]⟩,.int .i64 0,.string ⟨#[]⟩,.bool false,.string ⟨#[]⟩]) 5 Tryz.underlying33 hi hz0 hz1 _ _ _ _ len rfl rfl af af gK bJ (xk _) ?_);intro w1 hown hgrow;obtain⟨hnx1,HB⟩:=kt;have hc1:w1.heap[w.heap.size]?=some (.cells (madeCells #[.string ⟨#[]⟩,.int .i64 0,.string ⟨#[]⟩,.bool false,.string ⟨#[]⟩] (len*5)) 114 (0,0)):=by
  obtain⟨h1,h2⟩:=hown;rcases h2 with ⟨h3,_⟩|⟨g',cap',cur,hv,hB,hh,_,_,hsz,htk⟩
  ·cases h3
  ·simp only[yQ,ym,Addr.mk.injEq] at hv;obtain⟨⟨rfl,_,_⟩,_,rfl⟩:=hv;rw[xw (by simp[hsz])] at htk;have:cur=madeCells #[.string ⟨#[]⟩,.int .i64 0,.string ⟨#[]⟩,.bool false,.string ⟨#[]⟩] (len*5):=by apply Array.ext';simpa using htk
   rw[this] at hh;simpa using hh
 have HP:Hid (az w1 (some ⟨w.heap.size,0,none⟩) len len 5 114 ((xs.take 0++(xz len xdZ).drop 0).map xdF) (fun k=>w.heap.size<=k)):=by
  have:=vI hc1 hl (fun k=>w.heap.size<=k) (xk _);simpa[Hid] using this
 have hZl:xs.length=(xz len xdZ).length:=by simpa using hvl
 clear hown hgrow hi hz0 hz1 hz2 hnx1 hc1;go_wp2;go_loopw [4] (fun i wr=> ∃k:Nat,k<=len/\i=.int .i64 k/\Hid (az wr (some ⟨w.heap.size,0,none⟩) len len 5 114 ((xs.take k++(xz len xdZ).drop k).map xdF) (fun k=>w.heap.size<=k))/\Hid (Below w.heap.size w wr)) (fun i _=>len - (intOf i).toNat);case atStart=>exact⟨0,by omega,rfl,HP,HB⟩
 case round=>
  obtain⟨k,hk,rfl,HP,HB⟩:=hrel;by_cases hlt:k<len
  ·obtain⟨b,o,v,rfl,hb,hv,hat⟩:=dn (HR.below HB.out) hlt;obtain⟨z0,z2,z4,c0,c1,c2,c3,c4⟩:=bg hat;have HV:=aa hv;have Hz0:=aa z0;have Hz2:=aa z2;have Hz4:=aa z4;clear hat hv z0 z2 z4;have hzk:((xs.take k++(xz len xdZ).drop k).map xdF)[k]?=some (xdF xdZ):=by
    exact gT
   obtain⟨g,hg,hs⟩:=HP.st (aG.refl _ _) hzk;cases hg;have HS:=aa hs;clear hs hzk HP;go_wp2_with fail;refine (jP v.n v.z v.k v.x v.v _).mono ?_;rintro e w2 ⟨rfl,hb2⟩;have HB2:=upB HB hb2;have h1:StJ w.heap.size 5 114 (fun k=>w.heap.size<=k) (fun k=>wr.heap.size<=k) wr w2 ((xs.take k++(xz len xdZ).drop k).map xdF) k [.s xdZ.n,.i xdZ.z,.s xdZ.k,.b xdZ.x,.s xdZ.v]:=HS.fresh hb2;obtain⟨q0,e0⟩:=h1.cell (i:=0) rfl;have f0:=h1.cA (k*5);obtain⟨q1,e1⟩:=h1.cell (i:=1) rfl;have f1:=h1.cA (k*5+1);obtain⟨q2,e2⟩:=h1.cell (i:=2) rfl;have f2:=h1.cA (k*5+2);obtain⟨q3,e3⟩:=h1.cell (i:=3) rfl;have f3:=h1.cA (k*5+3);obtain⟨q4,e4⟩:=h1.cell (i:=4) rfl;have f4:=h1.cA (k*5+4);rw[yC] at e0;have HZ:=aa ((((((h1).cP (i:=0) rfl v.n Hz0.out).gm (i:=1) rfl v.z).cP (i:=2) rfl v.k Hz2.out).gn (i:=3) rfl v.x).cP (i:=4) rfl v.v Hz4.out);clear h1 hb2 c0 c1 c2 c3 c4 hb;go_wp2_with fail;refine⟨⟨k+1,by omega,by go_num,?_,ah (xk _) (ah (xk _) (ah (xk _) (ah (xk _) (ah (xk _) (HB2.out)))))⟩,by simp[intOf];omega⟩;obtain⟨⟨cur,H,h2,-⟩,-,-⟩:=HZ.out;have h3:(((xs.take k++(xz len xdZ).drop k).map xdF).set k (xdF v))=(xs.take (k+1)++(xz len xdZ).drop (k+1)).map xdF:=by
    rw[<-List.map_set,bQ hZl HV.out]
   have h4:cy _ w.heap.size 5 114 (((xs.take k++(xz len xdZ).drop k).map xdF).set k (xdF v)) (fun k=>w.heap.size<=k) cur H:=h2;exact kI
  ·exact kN

theorem mD:(Tryz.prog.info? 105).map (fun i=>(i.zero,i.size,i.bytes))=some (some (.agg #[.string ⟨#[]⟩,.int .i64 0,.string ⟨#[]⟩,.slice none 0 0,.string ⟨#[]⟩,.int .i64 0]),6,88):=by kernel_rfl
def pdZ:Pd:=⟨⟨#[]⟩,0,⟨#[]⟩,[],⟨#[]⟩,0⟩

theorem vK {w:World} {g len:Nat} (h:w.heap[g]?=some (.cells (madeCells #[.string ⟨#[]⟩,.int .i64 0,.string ⟨#[]⟩,.slice none 0 0,.string ⟨#[]⟩,.int .i64 0] (len*6)) 105 (0,0))) (hl:len<=1048576) (S:Nat->Prop) (hS:S g):
  az w (some ⟨g,0,none⟩) len len 6 105 ((xz len pdZ).map pdF) S:=by
 refine⟨by simp,xk _,by omega,.inr ⟨g,_,fun _ _=>0,rfl,h,hS,?_,?_,?_⟩⟩
 ·exact kH
 ·intro j r hr i f hi;rw[xq] at hr;obtain⟨x,hx,rfl⟩:=xu.1 hr;have hj:j<len:=by have:=(xe.1 hx).1;simpa using this
  obtain rfl:x=pdZ:=by
   exact eI
  have him:i<6:=(xe.1 hi).1;have hlt:j*6+i<len*6:=af
  have hcell:(madeCells #[.string ⟨#[]⟩,.int .i64 0,.string ⟨#[]⟩,.slice none 0 0,.string ⟨#[]⟩,.int .i64 0] (len*6))[j*6+i]?=some (#[.string ⟨#[]⟩,.int .i64 0,.string ⟨#[]⟩,.slice none 0 0,.string ⟨#[]⟩,.int .i64 0][i]!):=by
   unfold madeCells;rw[yW,yR];rw[if_pos hlt];have:(j*6+i) % 6=i:=af
   simp[this]
  refine⟨_,hcell,?_⟩;rcases i with _|_|_|_|_|_|i
  ·cases hi;exact⟨rfl,by decide⟩
  ·cases hi;exact rfl
  ·cases hi;exact⟨rfl,by decide⟩
  ·cases hi;exact⟨none,0,0,rfl,rfl,xk _,by decide,fun j x hx=>by simp[pdZ] at hx,.inl rfl⟩
  ·cases hi;exact⟨rfl,by decide⟩
  ·cases hi;exact rfl
  ·omega
 ·intro j r i zs j' r' i' zs' hr hi hz;exfalso;rw[xq] at hr;obtain⟨x,hx,rfl⟩:=xu.1 hr;obtain rfl:x=pdZ:=by
   exact eI
  have him:i<6:=(xe.1 hi).1;rcases i with _|_|_|_|_|_|i
  ·cases hi
  ·cases hi
  ·cases hi
  ·cases hi;exact hz rfl
  ·cases hi
  ·cases hi
  ·omega

theorem pA (a:Option Addr) (len cap:Nat) (xs:List Pd) (w:World) (hr:aF w a len cap 6 (xs.map pdF)) (hl:len<=1048576) (hf:∀(j:Nat) x,xs[j]?=some x->x.zs.length<=1048576):
  Calls Tryz.prog 31 #[.slice a len cap] w fun e w'=>e=.returned (.slice (some ⟨w.heap.size,0,none⟩) len len)/\az w' (some ⟨w.heap.size,0,none⟩) len len 6 105 (xs.map pdF) (fun k=>w.heap.size<=k)/\Below w.heap.size w w':=by
 obtain⟨HR,hvl⟩:=eG;have HF:=aa hf;clear hr hf;obtain⟨i0,hi,hz0,hz1,hz2⟩:=info_parts mD;go_enter Tryz.func31,Tryz.ntmps31;go_wp2_with (at_make;refine wpList_make_full _ rfl _ _ 34 rfl w.heap.size 105 i0 (.agg #[.string ⟨#[]⟩,.int .i64 0,.string ⟨#[]⟩,.slice none 0 0,.string ⟨#[]⟩,.int .i64 0]) 6 Tryz.underlying34 hi hz0 hz1 _ _ _ _ len rfl rfl af af gK bJ (xk _) ?_);intro w1 hown hgrow;obtain⟨hnx1,HB⟩:=kt;have hc1:w1.heap[w.heap.size]?=some (.cells (madeCells #[.string ⟨#[]⟩,.int .i64 0,.string ⟨#[]⟩,.slice none 0 0,.string ⟨#[]⟩,.int .i64 0] (len*6)) 105 (0,0)):=by
  obtain⟨h1,h2⟩:=hown;rcases h2 with ⟨h3,_⟩|⟨g',cap',cur,hv,hB,hh,_,_,hsz,htk⟩
  ·cases h3
  ·simp only[yQ,ym,Addr.mk.injEq] at hv;obtain⟨⟨rfl,_,_⟩,_,rfl⟩:=hv;rw[xw (by simp[hsz])] at htk;have:cur=madeCells #[.string ⟨#[]⟩,.int .i64 0,.string ⟨#[]⟩,.slice none 0 0,.string ⟨#[]⟩,.int .i64 0] (len*6):=by apply Array.ext';simpa using htk
   rw[this] at hh;simpa using hh
 have HP:Hid (az w1 (some ⟨w.heap.size,0,none⟩) len len 6 105 ((xs.take 0++(xz len pdZ).drop 0).map pdF) (fun k=>w.heap.size<=k)):=by
  have:=vK hc1 hl (fun k=>w.heap.size<=k) (xk _);simpa[Hid] using this
 have hZl:xs.length=(xz len pdZ).length:=by simpa using hvl
 clear hown hgrow hi hz0 hz1 hz2 hnx1 hc1;go_wp2;go_loopw [4] (fun i wr=> ∃k:Nat,k<=len/\i=.int .i64 k/\Hid (az wr (some ⟨w.heap.size,0,none⟩) len len 6 105 ((xs.take k++(xz len pdZ).drop k).map pdF) (fun k=>w.heap.size<=k))/\Hid (Below w.heap.size w wr)) (fun i _=>len - (intOf i).toNat);case atStart=>exact⟨0,by omega,rfl,HP,HB⟩
 case round=>
  obtain⟨k,hk,rfl,HP,HB⟩:=hrel;by_cases hlt:k<len
  ·obtain⟨b,o,v,rfl,hb,hv,hat⟩:=cj (HR.below HB.out) hlt;obtain⟨va,vl,vc,hvr,z0,z2,z4,c0,c1,c2,c3,c4,c5⟩:=aS hat;have HV:=aa hv;have Hz0:=aa z0;have Hz2:=aa z2;have Hz4:=aa z4;obtain⟨HT,hvl2,hvz,HVZ⟩:=pW;clear hvr hvz;clear hat hv z0 z2 z4;have hzk:((xs.take k++(xz len pdZ).drop k).map pdF)[k]?=some (pdF pdZ):=by
    exact gT
   obtain⟨g,hg,hs⟩:=HP.st (aG.refl _ _) hzk;cases hg;have HS:=aa hs;clear hs hzk HP;go_wp2_with fail;refine (ot v.n v.c v.z va vl vc v.zs v.d v.p _ HT.out hvl2).mono ?_;rintro e w2 ⟨rfl,hG,hb2⟩;have HB2:=upB HB hb2;have h1:StJ w.heap.size 6 105 (fun k=>w.heap.size<=k) (fun k=>wr.heap.size<=k) wr w2 ((xs.take k++(xz len pdZ).drop k).map pdF) k [.s pdZ.n,.i pdZ.c,.s pdZ.z,.l pdZ.zs,.s pdZ.d,.i pdZ.p]:=HS.fresh hb2;have hL:jD w2 (wr.heap.size+1+1+1) (fun k=>w.heap.size<=k) w.heap.size v.zs (.slice (some ⟨wr.heap.size+1+1+1,0,none⟩) vl vl):=by
    exact lR
   have HL:=aa hL;clear hG hL;obtain⟨q0,e0⟩:=h1.cell (i:=0) rfl;have f0:=h1.cA (k*6);obtain⟨q1,e1⟩:=h1.cell (i:=1) rfl;have f1:=h1.cA (k*6+1);obtain⟨q2,e2⟩:=h1.cell (i:=2) rfl;have f2:=h1.cA (k*6+2);obtain⟨q3,e3⟩:=h1.cell (i:=3) rfl;have f3:=h1.cA (k*6+3);obtain⟨q4,e4⟩:=h1.cell (i:=4) rfl;have f4:=h1.cA (k*6+4);obtain⟨q5,e5⟩:=h1.cell (i:=5) rfl;have f5:=h1.cA (k*6+5);rw[yC] at e0;have HZ:=aa (((((((h1).cP (i:=0) rfl v.n Hz0.out).gm (i:=1) rfl v.c).cP (i:=2) rfl v.z Hz2.out).vu (i:=3) rfl v.zs (fun _=>by show wr.heap.size<=_;omega) (Fv.Own.aZ (u:=.l v.zs) (Fv.Own.aZ (u:=.l v.zs) (Fv.Own.aZ (u:=.l v.zs) (HL.out))))).cP (i:=4) rfl v.d Hz4.out).gm (i:=5) rfl v.p);clear h1 hb2 c0 c1 c2 c3 c4 c5 hb;go_wp2_with fail;refine⟨⟨k+1,by omega,by go_num,?_,ah (xk _) (ah (xk _) (ah (xk _) (ah (xk _) (ah (xk _) (ah (xk _) (HB2.out))))))⟩,by simp[intOf];omega⟩;obtain⟨⟨cur,H,h2,-⟩,-,-⟩:=HZ.out;have h3:(((xs.take k++(xz len pdZ).drop k).map pdF).set k (pdF v))=(xs.take (k+1)++(xz len pdZ).drop (k+1)).map pdF:=by
    rw[<-List.map_set,bQ hZl HV.out]
   have h4:cy _ w.heap.size 6 105 (((xs.take k++(xz len pdZ).drop k).map pdF).set k (pdF v)) (fun k=>w.heap.size<=k) cur H:=h2;exact kI
  ·exact kN

structure fD (c:Cl):Prop where
 l1:c.ns.length<=1048576
 f1:∀(j:Nat) x,c.ns[j]?=some x->x.zs.length<=1048576
 l2:c.ks.length<=1048576
 l3:c.vs.length<=1048576
 f3:∀(j:Nat) x,c.vs[j]?=some x->x.zs.length<=1048576
 l4:c.xs.length<=1048576
 l5:c.ps.length<=1048576
 f5:∀(j:Nat) x,c.ps[j]?=some x->x.zs.length<=1048576

theorem ig (d:Ad) (c:Cl) (w:World) (hr:aK w d c.raw):
  Calls Tryz.prog 4 #[.agg #[.slice d.a1 d.l1 d.c1,.slice d.a2 d.l2 d.c2,.slice d.a3 d.l3 d.c3,.slice d.a4 d.l4 d.c4,.slice d.a5 d.l5 d.c5,.int .i64 c.now],.int .i64 1048576] w (SzB 1048576 (fD c) w):=by
 obtain⟨HR,HB⟩:=gL;clear hr;go_enter Tryz.func4,Tryz.ntmps4;go_wp2_with fail;refine (pG d.a1 d.l1 d.c1 c.ns 1048576 _ (HR.n.below (HB.trans ((al _ _).mono HB.size))) af af).mono ?_;rintro e w1 ⟨r1,rfl,hi,hb⟩;obtain⟨HA0,hbx⟩:=aH hb;have Bk:=aa HA0;replace HB:=upB HB hbx;clear hb hbx HA0;rcases hi with rfl|⟨hr10,hr11,hz1⟩
 ·exact kE
 have HZ1:=aa hz1;clear hz1;obtain⟨k0,k1,k2,k3,k4,k5⟩:=cs6 Bk;go_wp2_with fail;refine (pH d.a2 d.l2 d.c2 c.ks r1 _ (HR.k.below HB.out) af af).mono ?_;rintro e w2 ⟨r2,rfl,hi,hb⟩;clear k0 k1 k2 k3 k4 k5;replace Bk:=upK Bk hb;replace HB:=upB HB hb;clear hb;rcases hi with rfl|⟨hr20,hr21,hz2⟩
 ·exact kE
 have HZ2:=aa hz2;clear hz2;obtain⟨k0,k1,k2,k3,k4,k5⟩:=cs6 Bk;go_wp2_with fail;refine (pE d.a3 d.l3 d.c3 c.vs r2 _ (HR.v.below HB.out) af af).mono ?_;rintro e w3 ⟨r3,rfl,hi,hb⟩;clear k0 k1 k2 k3 k4 k5;replace Bk:=upK Bk hb;replace HB:=upB HB hb;clear hb;rcases hi with rfl|⟨hr30,hr31,hz3⟩
 ·exact kE
 have HZ3:=aa hz3;clear hz3;obtain⟨k0,k1,k2,k3,k4,k5⟩:=cs6 Bk;go_wp2_with fail;refine (pD d.a4 d.l4 d.c4 c.xs r3 _ (HR.x.below HB.out) af af).mono ?_;rintro e w4 ⟨r4,rfl,hi,hb⟩;clear k0 k1 k2 k3 k4 k5;replace Bk:=upK Bk hb;replace HB:=upB HB hb;clear hb;rcases hi with rfl|⟨hr40,hr41,hz4⟩
 ·exact kE
 have HZ4:=aa hz4;clear hz4;obtain⟨k0,k1,k2,k3,k4,k5⟩:=cs6 Bk;go_wp2_with fail;refine (pF d.a5 d.l5 d.c5 c.ps r4 _ (HR.p.below HB.out) af af).mono ?_;rintro e w5 ⟨r5,rfl,hi,hb⟩;clear k0 k1 k2 k3 k4 k5;replace Bk:=upK Bk hb;replace HB:=upB HB hb;clear hb;rcases hi with rfl|⟨hr50,hr51,hz5⟩
 ·exact kE
 have HZ5:=aa hz5;clear hz5;go_wp2;go_ret;refine⟨r5,rfl,.inr ⟨by omega,by omega,?_⟩,HB.out⟩;have e1:c.ns.length=d.l1:=by simpa using (show (c.ns.map ndF).length=d.l1 from HR.n.1)
 have e2:c.ks.length=d.l2:=by simpa using (show (c.ks.map kdF).length=d.l2 from HR.k.1)
 have e3:c.vs.length=d.l3:=by simpa using (show (c.vs.map vdF).length=d.l3 from HR.v.1)
 have e4:c.xs.length=d.l4:=by simpa using (show (c.xs.map xdF).length=d.l4 from HR.x.1)
 have e5:c.ps.length=d.l5:=by simpa using (show (c.ps.map pdF).length=d.l5 from HR.p.1)
 exact⟨by rw[e1];exact HZ1.1,HZ1.2,by rw[e2];exact HZ2.out,by rw[e3];exact HZ3.1,HZ3.2,by rw[e4];exact HZ4.out,by rw[e5];exact HZ5.1,HZ5.2⟩

theorem cK (d:Ad) (c:Cl) (w:World) (hr:aK w d c.raw) (hf:fD c):
  Calls Tryz.prog 6 #[.agg #[.slice d.a1 d.l1 d.c1,.slice d.a2 d.l2 d.c2,.slice d.a3 d.l3 d.c3,.slice d.a4 d.l4 d.c4,.slice d.a5 d.l5 d.c5,.int .i64 c.now]] w fun e w'=> ∃d':Ad,e=.returned (.agg #[.slice d'.a1 d'.l1 d'.c1,.slice d'.a2 d'.l2 d'.c2,.slice d'.a3 d'.l3 d'.c3,.slice d'.a4 d'.l4 d'.c4,.slice d'.a5 d'.l5 d'.c5,.int .i64 c.now])/\bP w' d' c.raw (fun k=>w.heap.size<=k)/\Below w.heap.size w w':=by
 have HR:=aa hr;have HF:=aa hf;have e1:c.ns.length=d.l1:=by simpa using (show (c.ns.map ndF).length=d.l1 from hr.n.1)
 have hL1:d.l1<=1048576:=by rw[<-e1];exact hf.l1
 have e2:c.ks.length=d.l2:=by simpa using (show (c.ks.map kdF).length=d.l2 from hr.k.1)
 have hL2:d.l2<=1048576:=by rw[<-e2];exact hf.l2
 have e3:c.vs.length=d.l3:=by simpa using (show (c.vs.map vdF).length=d.l3 from hr.v.1)
 have hL3:d.l3<=1048576:=by rw[<-e3];exact hf.l3
 have e4:c.xs.length=d.l4:=by simpa using (show (c.xs.map xdF).length=d.l4 from hr.x.1)
 have hL4:d.l4<=1048576:=by rw[<-e4];exact hf.l4
 have e5:c.ps.length=d.l5:=by simpa using (show (c.ps.map pdF).length=d.l5 from hr.p.1)
 have hL5:d.l5<=1048576:=by rw[<-e5];exact hf.l5
 clear hr hf e1 e2 e3 e4 e5;obtain⟨X0,hX0⟩:∃X,X=((w.alloc (.cells (clv d c.now) 28)).alloc (.cells (clo6 none 0 0 none 0 0 none 0 0 none 0 0 none 0 0 0) 36)).alloc (.cells (clo6 none 0 0 none 0 0 none 0 0 none 0 0 none 0 0 0) 36):=⟨_,rfl⟩;have B0:Hid (Below w.heap.size w X0):=by rw[hX0];exact bS _ _ _ _
 have bx0:Hid (X0.heap[w.heap.size]?=some (.cells (clv d c.now) 28 (0,0))):=by rw[hX0];exact gA _ _ _ _
 have br0:Hid (X0.heap[w.heap.size+1]?=some (.cells (clo6 none 0 0 none 0 0 none 0 0 none 0 0 none 0 0 0) 36 (0,0))):=by rw[hX0];exact dO _ _ _ _
 have bl0:Hid (X0.heap[w.heap.size+1+1]?=some (.cells (clo6 none 0 0 none 0 0 none 0 0 none 0 0 none 0 0 0) 36 (0,0))):=by rw[hX0];exact dN _ _ _ _
 have hs0:=ae bl0.out;go_enter Tryz.func6,Tryz.ntmps6;go_wp2_with fail;rw[<-hX0];clear hX0;refine (pB d.a1 d.l1 d.c1 c.ns _ (HR.n.below B0.out) hL1 HF.f1).mono ?_;rintro e w1 ⟨rfl,ho,hb⟩;have hsz1:=hb.size;have gx:=(hb.block _ (ae bx0.out)).trans bx0.out;have gr:=(hb.block _ (ae br0.out)).trans br0.out;have gl:=(hb.block _ (ae bl0.out)).trans bl0.out;have gB:=B0.trans (hb.mono B0.size);have P1:=aa ho;clear ho hb bx0 br0 bl0 B0;have pl:=ck0 gl;have fl:=aw gl 0;have px:=ck1 gx;obtain⟨X1,hX1⟩:∃X,X=w1.setCell ⟨w.heap.size+1+1,0,none⟩ (.slice (some ⟨X0.heap.size,0,none⟩) d.l1 d.l1):=⟨_,rfl⟩;have hxa1:X1.heap.size<=w1.heap.size:=by rw[hX1];simp[xZ]
 have hxb1:w1.heap.size<=X1.heap.size:=by rw[hX1];simp[xZ]
 have bx1:Hid (X1.heap[w.heap.size]?=some (.cells (clv d c.now) 28 (0,0))):=by rw[hX1];exact aL af gx
 have br1:Hid (X1.heap[w.heap.size+1]?=some (.cells (clo6 none 0 0 none 0 0 none 0 0 none 0 0 none 0 0 0) 36 (0,0))):=by rw[hX1];exact aL af gr
 have bl1:Hid (X1.heap[w.heap.size+1+1]?=some (.cells (clo6 (some ⟨X0.heap.size,0,none⟩) d.l1 d.l1 none 0 0 none 0 0 none 0 0 none 0 0 0) 36 (0,0))):=by rw[hX1];have:=au (i:=0) gl (.slice (some ⟨X0.heap.size,0,none⟩) d.l1 d.l1);simpa[Hid] using this
 have B1:Hid (Below w.heap.size w X1):=by rw[hX1];exact ah af gB
 have O1:=aa (P1.aN (w':=X1) (fun k hk s=>by rw[hX1];exact xi _ _ _ _ (show k≠w.heap.size+1+1 by have h9:X0.heap.size<=k:=s;omega)) (fun k hk s=>(⟨s,hk⟩:X0.heap.size<=k/\k<w1.heap.size)));clear gx gr gl gB P1;go_wp2_with fail;rw[<-hX1];clear hX1;clear pl fl px;refine (pC d.a2 d.l2 d.c2 c.ks _ (HR.k.below B1.out) hL2).mono ?_;rintro e w2 ⟨rfl,ho,hb⟩;have hsz2:=hb.size;have gx:=(hb.block _ (ae bx1.out)).trans bx1.out;have gr:=(hb.block _ (ae br1.out)).trans br1.out;have gl:=(hb.block _ (ae bl1.out)).trans bl1.out;have gB:=B1.trans (hb.mono B1.size);have P2:=aa ho;have Q1:=aa (O1.below hb);clear ho hb bx1 br1 bl1 B1 O1;have pl:=ck1 gl;have fl:=aw gl 1;have px:=ck2 gx;obtain⟨X2,hX2⟩:∃X,X=w2.setCell ⟨w.heap.size+1+1,1,none⟩ (.slice (some ⟨X1.heap.size,0,none⟩) d.l2 d.l2):=⟨_,rfl⟩;have hxa2:X2.heap.size<=w2.heap.size:=by rw[hX2];simp[xZ]
 have hxb2:w2.heap.size<=X2.heap.size:=by rw[hX2];simp[xZ]
 have bx2:Hid (X2.heap[w.heap.size]?=some (.cells (clv d c.now) 28 (0,0))):=by rw[hX2];exact aL af gx
 have br2:Hid (X2.heap[w.heap.size+1]?=some (.cells (clo6 none 0 0 none 0 0 none 0 0 none 0 0 none 0 0 0) 36 (0,0))):=by rw[hX2];exact aL af gr
 have bl2:Hid (X2.heap[w.heap.size+1+1]?=some (.cells (clo6 (some ⟨X0.heap.size,0,none⟩) d.l1 d.l1 (some ⟨X1.heap.size,0,none⟩) d.l2 d.l2 none 0 0 none 0 0 none 0 0 0) 36 (0,0))):=by rw[hX2];have:=au (i:=1) gl (.slice (some ⟨X1.heap.size,0,none⟩) d.l2 d.l2);simpa[Hid] using this
 have B2:Hid (Below w.heap.size w X2):=by rw[hX2];exact ah af gB
 have O1:=aa (Q1.aN (w':=X2) (fun k hk s=>by rw[hX2];exact xi _ _ _ _ (show k≠w.heap.size+1+1 by have h9:X0.heap.size<=k:=s.1;omega)) (fun k hk s=>s));have O2:=aa (P2.aN (w':=X2) (fun k hk s=>by rw[hX2];exact xi _ _ _ _ (show k≠w.heap.size+1+1 by have h9:X1.heap.size<=k:=s;omega)) (fun k hk s=>(⟨s,hk⟩:X1.heap.size<=k/\k<w2.heap.size)));clear gx gr gl gB P2 Q1;go_wp2_with fail;rw[<-hX2];clear hX2;clear pl fl px;refine (pz d.a3 d.l3 d.c3 c.vs _ (HR.v.below B2.out) hL3 HF.f3).mono ?_;rintro e w3 ⟨rfl,ho,hb⟩;have hsz3:=hb.size;have gx:=(hb.block _ (ae bx2.out)).trans bx2.out;have gr:=(hb.block _ (ae br2.out)).trans br2.out;have gl:=(hb.block _ (ae bl2.out)).trans bl2.out;have gB:=B2.trans (hb.mono B2.size);have P3:=aa ho;have Q1:=aa (O1.below hb);have Q2:=aa (O2.below hb);clear ho hb bx2 br2 bl2 B2 O1 O2;have pl:=ck2 gl;have fl:=aw gl 2;have px:=ck3 gx;obtain⟨X3,hX3⟩:∃X,X=w3.setCell ⟨w.heap.size+1+1,2,none⟩ (.slice (some ⟨X2.heap.size,0,none⟩) d.l3 d.l3):=⟨_,rfl⟩;have hxa3:X3.heap.size<=w3.heap.size:=by rw[hX3];simp[xZ]
 have hxb3:w3.heap.size<=X3.heap.size:=by rw[hX3];simp[xZ]
 have bx3:Hid (X3.heap[w.heap.size]?=some (.cells (clv d c.now) 28 (0,0))):=by rw[hX3];exact aL af gx
 have br3:Hid (X3.heap[w.heap.size+1]?=some (.cells (clo6 none 0 0 none 0 0 none 0 0 none 0 0 none 0 0 0) 36 (0,0))):=by rw[hX3];exact aL af gr
 have bl3:Hid (X3.heap[w.heap.size+1+1]?=some (.cells (clo6 (some ⟨X0.heap.size,0,none⟩) d.l1 d.l1 (some ⟨X1.heap.size,0,none⟩) d.l2 d.l2 (some ⟨X2.heap.size,0,none⟩) d.l3 d.l3 none 0 0 none 0 0 0) 36 (0,0))):=by rw[hX3];have:=au (i:=2) gl (.slice (some ⟨X2.heap.size,0,none⟩) d.l3 d.l3);simpa[Hid] using this
 have B3:Hid (Below w.heap.size w X3):=by rw[hX3];exact ah af gB
 have O1:=aa (Q1.aN (w':=X3) (fun k hk s=>by rw[hX3];exact xi _ _ _ _ (show k≠w.heap.size+1+1 by have h9:X0.heap.size<=k:=s.1;omega)) (fun k hk s=>s));have O2:=aa (Q2.aN (w':=X3) (fun k hk s=>by rw[hX3];exact xi _ _ _ _ (show k≠w.heap.size+1+1 by have h9:X1.heap.size<=k:=s.1;omega)) (fun k hk s=>s));have O3:=aa (P3.aN (w':=X3) (fun k hk s=>by rw[hX3];exact xi _ _ _ _ (show k≠w.heap.size+1+1 by have h9:X2.heap.size<=k:=s;omega)) (fun k hk s=>(⟨s,hk⟩:X2.heap.size<=k/\k<w3.heap.size)));clear gx gr gl gB P3 Q1 Q2;go_wp2_with fail;rw[<-hX3];clear hX3;clear pl fl px;refine (py d.a4 d.l4 d.c4 c.xs _ (HR.x.below B3.out) hL4).mono ?_;rintro e w4 ⟨rfl,ho,hb⟩;have hsz4:=hb.size;have gx:=(hb.block _ (ae bx3.out)).trans bx3.out;have gr:=(hb.block _ (ae br3.out)).trans br3.out;have gl:=(hb.block _ (ae bl3.out)).trans bl3.out;have gB:=B3.trans (hb.mono B3.size);have P4:=aa ho;have Q1:=aa (O1.below hb);have Q2:=aa (O2.below hb);have Q3:=aa (O3.below hb);clear ho hb bx3 br3 bl3 B3 O1 O2 O3;have pl:=ck3 gl;have fl:=aw gl 3;have px:=ck4 gx;obtain⟨X4,hX4⟩:∃X,X=w4.setCell ⟨w.heap.size+1+1,3,none⟩ (.slice (some ⟨X3.heap.size,0,none⟩) d.l4 d.l4):=⟨_,rfl⟩;have hxa4:X4.heap.size<=w4.heap.size:=by rw[hX4];simp[xZ]
 have hxb4:w4.heap.size<=X4.heap.size:=by rw[hX4];simp[xZ]
 have bx4:Hid (X4.heap[w.heap.size]?=some (.cells (clv d c.now) 28 (0,0))):=by rw[hX4];exact aL af gx
 have br4:Hid (X4.heap[w.heap.size+1]?=some (.cells (clo6 none 0 0 none 0 0 none 0 0 none 0 0 none 0 0 0) 36 (0,0))):=by rw[hX4];exact aL af gr
 have bl4:Hid (X4.heap[w.heap.size+1+1]?=some (.cells (clo6 (some ⟨X0.heap.size,0,none⟩) d.l1 d.l1 (some ⟨X1.heap.size,0,none⟩) d.l2 d.l2 (some ⟨X2.heap.size,0,none⟩) d.l3 d.l3 (some ⟨X3.heap.size,0,none⟩) d.l4 d.l4 none 0 0 0) 36 (0,0))):=by rw[hX4];have:=au (i:=3) gl (.slice (some ⟨X3.heap.size,0,none⟩) d.l4 d.l4);simpa[Hid] using this
 have B4:Hid (Below w.heap.size w X4):=by rw[hX4];exact ah af gB
 have O1:=aa (Q1.aN (w':=X4) (fun k hk s=>by rw[hX4];exact xi _ _ _ _ (show k≠w.heap.size+1+1 by have h9:X0.heap.size<=k:=s.1;omega)) (fun k hk s=>s));have O2:=aa (Q2.aN (w':=X4) (fun k hk s=>by rw[hX4];exact xi _ _ _ _ (show k≠w.heap.size+1+1 by have h9:X1.heap.size<=k:=s.1;omega)) (fun k hk s=>s));have O3:=aa (Q3.aN (w':=X4) (fun k hk s=>by rw[hX4];exact xi _ _ _ _ (show k≠w.heap.size+1+1 by have h9:X2.heap.size<=k:=s.1;omega)) (fun k hk s=>s));have O4:=aa (P4.aN (w':=X4) (fun k hk s=>by rw[hX4];exact xi _ _ _ _ (show k≠w.heap.size+1+1 by have h9:X3.heap.size<=k:=s;omega)) (fun k hk s=>(⟨s,hk⟩:X3.heap.size<=k/\k<w4.heap.size)));clear gx gr gl gB P4 Q1 Q2 Q3;go_wp2_with fail;rw[<-hX4];clear hX4;clear pl fl px;refine (pA d.a5 d.l5 d.c5 c.ps _ (HR.p.below B4.out) hL5 HF.f5).mono ?_;rintro e w5 ⟨rfl,ho,hb⟩;have gx:=(hb.block _ (ae bx4.out)).trans bx4.out;have gr:=(hb.block _ (ae br4.out)).trans br4.out;have gl:=(hb.block _ (ae bl4.out)).trans bl4.out;have gB:=B4.trans (hb.mono B4.size);have P5:=aa ho;have Q1:=aa (O1.below hb);have Q2:=aa (O2.below hb);have Q3:=aa (O3.below hb);have Q4:=aa (O4.below hb);clear ho hb bx4 br4 bl4 B4 O1 O2 O3 O4;have l4:=ck4 gl;have l5:=ck5 gl;have l0:=ck0 gl;have l1:=ck1 gl;have l2:=ck2 gl;have l3:=ck3 gl;have r0:=ck0 gr;have fr0:=aw gr 0;have r1:=ck1 gr;have fr1:=aw gr 1;have r2:=ck2 gr;have fr2:=aw gr 2;have r3:=ck3 gr;have fr3:=aw gr 3;have fl4:=aw gl 4;have r4:=ck4 gr;have fr4:=aw gr 4;have fl5:=aw gl 5;have r5:=ck5 gr;have fr5:=aw gr 5;have px:=ck5 gx;have GB:=aa gB;clear gx gr gl gB;go_wp2;refine bodyPost_ret (v:=.agg #[.slice (some ⟨X0.heap.size,0,none⟩) d.l1 d.l1,.slice (some ⟨X1.heap.size,0,none⟩) d.l2 d.l2,.slice (some ⟨X2.heap.size,0,none⟩) d.l3 d.l3,.slice (some ⟨X3.heap.size,0,none⟩) d.l4 d.l4,.slice (some ⟨X4.heap.size,0,none⟩) d.l5 d.l5,.int .i64 c.now]) (by simp[results,Tryz.results6,go_sem, *]) rfl ⟨⟨some ⟨X0.heap.size,0,none⟩,d.l1,d.l1,some ⟨X1.heap.size,0,none⟩,d.l2,d.l2,some ⟨X2.heap.size,0,none⟩,d.l3,d.l3,some ⟨X3.heap.size,0,none⟩,d.l4,d.l4,some ⟨X4.heap.size,0,none⟩,d.l5,d.l5⟩,rfl,?_,sb1 (sb1 (sb1 (sb1 (sb1 (sb1 (sb2 (sb2 (GB.out))))))))⟩;have same:∀k,w.heap.size+1+1<k->((((((((w5.setCell ⟨w.heap.size+1+1,4,none⟩ (.slice (some ⟨X4.heap.size,0,none⟩) d.l5 d.l5)).setCell ⟨w.heap.size+1+1,5,none⟩ (.int .i64 c.now)).setCell ⟨w.heap.size+1,0,none⟩ (.slice (some ⟨X0.heap.size,0,none⟩) d.l1 d.l1)).setCell ⟨w.heap.size+1,1,none⟩ (.slice (some ⟨X1.heap.size,0,none⟩) d.l2 d.l2)).setCell ⟨w.heap.size+1,2,none⟩ (.slice (some ⟨X2.heap.size,0,none⟩) d.l3 d.l3)).setCell ⟨w.heap.size+1,3,none⟩ (.slice (some ⟨X3.heap.size,0,none⟩) d.l4 d.l4)).setCell ⟨w.heap.size+1,4,none⟩ (.slice (some ⟨X4.heap.size,0,none⟩) d.l5 d.l5)).setCell ⟨w.heap.size+1,5,none⟩ (.int .i64 c.now)).heap[k]?=w5.heap[k]?:=fun k hk=>by
  rw[xi _ _ _ _ (show k≠w.heap.size+1 by omega),xi _ _ _ _ (show k≠w.heap.size+1 by omega),xi _ _ _ _ (show k≠w.heap.size+1 by omega),xi _ _ _ _ (show k≠w.heap.size+1 by omega),xi _ _ _ _ (show k≠w.heap.size+1 by omega),xi _ _ _ _ (show k≠w.heap.size+1 by omega),xi _ _ _ _ (show k≠w.heap.size+1+1 by omega),xi _ _ _ _ (show k≠w.heap.size+1+1 by omega)]
 refine⟨fun k=>if k<w1.heap.size then 1 else if k<w2.heap.size then 2 else if k<w3.heap.size then 3 else if k<w4.heap.size then 4 else 5,?_,?_,?_,?_,?_⟩
 ·refine Q1.aN (fun k hk s=>same k (by have h9:X0.heap.size<=k:=s.1;omega)) (fun k hk s=>⟨?_,?_⟩)
  ·have h9:=s.1;show w.heap.size<=k;omega
  ·have h9:=s.1;have h8:=s.2;show (if k<w1.heap.size then 1 else if k<w2.heap.size then 2 else if k<w3.heap.size then 3 else if k<w4.heap.size then 4 else 5)=1;rw[if_pos h8]
 ·refine Q2.aN (fun k hk s=>same k (by have h9:X1.heap.size<=k:=s.1;omega)) (fun k hk s=>⟨?_,?_⟩)
  ·have h9:=s.1;show w.heap.size<=k;omega
  ·have h9:=s.1;have h8:=s.2;show (if k<w1.heap.size then 1 else if k<w2.heap.size then 2 else if k<w3.heap.size then 3 else if k<w4.heap.size then 4 else 5)=2;rw[if_neg af];rw[if_pos h8]
 ·refine Q3.aN (fun k hk s=>same k (by have h9:X2.heap.size<=k:=s.1;omega)) (fun k hk s=>⟨?_,?_⟩)
  ·have h9:=s.1;show w.heap.size<=k;omega
  ·have h9:=s.1;have h8:=s.2;show (if k<w1.heap.size then 1 else if k<w2.heap.size then 2 else if k<w3.heap.size then 3 else if k<w4.heap.size then 4 else 5)=3;rw[if_neg af];rw[if_neg af];rw[if_pos h8]
 ·refine Q4.aN (fun k hk s=>same k (by have h9:X3.heap.size<=k:=s.1;omega)) (fun k hk s=>⟨?_,?_⟩)
  ·have h9:=s.1;show w.heap.size<=k;omega
  ·have h9:=s.1;have h8:=s.2;show (if k<w1.heap.size then 1 else if k<w2.heap.size then 2 else if k<w3.heap.size then 3 else if k<w4.heap.size then 4 else 5)=4;rw[if_neg af];rw[if_neg af];rw[if_neg af];rw[if_pos h8]
 ·refine P5.aN (fun k hk s=>same k (by have h9:X4.heap.size<=k:=s;omega)) (fun k hk s=>⟨?_,?_⟩)
  ·have h9:=s;show w.heap.size<=k;omega
  ·have h9:=s;show (if k<w1.heap.size then 1 else if k<w2.heap.size then 2 else if k<w3.heap.size then 3 else if k<w4.heap.size then 4 else 5)=5;rw[if_neg af];rw[if_neg af];rw[if_neg af];rw[if_neg af];skip

def LFr (w:World) (h:Nat) (S:Nat->Prop) (zs:List ByteArray) (v:Value):Prop:=
 ∃a len cap,v=.slice a len cap/\zs.length=len/\len<=cap/\cap<=9223372036854775807/\(∀(j:Nat) x,zs[j]?=some x->x.size<=9223372036854775807)/\
  (zs=[]\/(a=some ⟨h,0,none⟩/\S h/\∃cu,w.heap[h]?=some (.cells cu 9 (0,0))/\∀(j:Nat) x,zs[j]?=some x->cu[j]?=some (.string x)))
theorem LFr.aN {w w':World} {h:Nat} {S S':Nat->Prop} {zs:List ByteArray} {v:Value} (k:LFr w h S zs v) (hk:∀cu,S h->w.heap[h]?=some (.cells cu 9 (0,0))->w'.heap[h]?=w.heap[h]?) (hs:h<w.heap.size->S h->S' h):LFr w' h S' zs v:=by
 obtain⟨a',l',c',h1,h2,h3,h4,h5,h6⟩:=k;refine⟨a',l',c',h1,h2,h3,h4,h5,h6.imp id ?_⟩;rintro⟨q1,q2,cu,q4,q5⟩;exact⟨q1,hs (ae q4) q2,cu,(hk cu q2 q4).trans q4,q5⟩
def Fv.Fr (w:World) (h:Nat) (S:Nat->Prop):Fv->Value->Prop
 | .s t,v=>v=.string t/\t.size<=9223372036854775807
 | .i n,v=>v=.int .i64 n
 | .b x,v=>v=.bool x
 | .l zs,v=>LFr w h S zs v
theorem Fv.Fr.aN {w w':World} {h:Nat} {S S':Nat->Prop} {f:Fv} {v:Value} (k:f.Fr w h S v) (hk:∀cu,S h->w.heap[h]?=some (.cells cu 9 (0,0))->w'.heap[h]?=w.heap[h]?) (hs:h<w.heap.size->S h->S' h):f.Fr w' h S' v:=by
 cases f with
 | l zs=>exact LFr.aN k hk hs
 | _=>exact k
theorem Fv.Fr.own {w:World} {h g:Nat} {S:Nat->Prop} {f:Fv} {v:Value} {cur:Array Value} {T:TypeId} (k:f.Fr w h S v) (hg:w.heap[g]?=some (.cells cur T (0,0))) (hT:¬T=9):f.Own w h S g v:=by
 cases f with
 | l zs=>
  obtain⟨a',l',c',h1,h2,h3,h4,h5,h6⟩:=k;refine⟨a',l',c',h1,h2,h3,h4,h5,h6.imp id ?_⟩;rintro⟨q1,q2,cu,q4,q5⟩;refine⟨q1,q2,?_,cu,q4,q5⟩;rintro rfl;rw[hg] at q4
  cases q4
  exact hT rfl
 | _=>exact k
theorem Fv.Own.fr {w:World} {h g:Nat} {S:Nat->Prop} {f:Fv} {v:Value} (k:f.Own w h S g v):f.Fr w h S v:=by
 cases f with
 | l zs=>
  obtain⟨a',l',c',h1,h2,h3,h4,h5,h6⟩:=k;refine⟨a',l',c',h1,h2,h3,h4,h5,h6.imp id ?_⟩;rintro⟨q1,q2,q3,cu,q4,q5⟩;exact⟨q1,q2,cu,q4,q5⟩
 | _=>exact k
theorem Fv.Fr.one {w:World} {h:Nat} {S:Nat->Prop} {f:Fv} {v:Value} (k:f.Fr w h S v):v.oneCell'=true:=by
 cases f with
 | l zs=>obtain⟨a',l',c',rfl,_⟩:=k;rfl
 | s t=>obtain⟨rfl,_⟩:=k;rfl
 | i n=>cases (show v=.int .i64 n from k);rfl
 | b x=>cases (show v=.bool x from k);rfl

structure aP (w:World) (S:Nat->Prop) (m:Nat) (rs:List (List Fv)) (vss:List (List Value)) (H:Nat->Nat->Nat):Prop where
 len:vss.length=rs.length
 all:∀(j:Nat) vs,vss[j]?=some vs->vs.length=m
 rl:∀(j:Nat) r,rs[j]?=some r->r.length=m
 cell:∀(j:Nat) r vs,rs[j]?=some r->vss[j]?=some vs->∀(i:Nat) f,r[i]?=some f->∃v,vs[i]?=some v/\f.Fr w (H j i) S v
 inj:∀(j:Nat) r (i:Nat) zs (j':Nat) r' (i':Nat) zs',rs[j]?=some r->r[i]?=some (.l zs)->zs≠[]->rs[j']?=some r'->r'[i']?=some (.l zs')->zs'≠[]->H j i=H j' i'->j=j'/\i=i'

section
variable {w w':World} {S S':Nat->Prop} {m:Nat} {rs:List (List Fv)} {vss:List (List Value)} {H:Nat->Nat->Nat}
theorem aP.nil (w:World) (S:Nat->Prop) (m:Nat) (H:Nat->Nat->Nat):aP w S m [] [] H:=⟨rfl,fun j vs h=>by simp at h,fun j r h=>by simp at h,fun j r vs h=>by simp at h,fun j r i zs j' r' i' zs' h=>by simp at h⟩
theorem aP.aN (h:aP w S m rs vss H) (hk:∀k cu,S k->w.heap[k]?=some (.cells cu 9 (0,0))->w'.heap[k]?=w.heap[k]?) (hs:∀k,k<w.heap.size->S k->S' k):aP w' S' m rs vss H:=
 ⟨h.len,h.all,h.rl,fun j r vs h1 h2 i f h3=>by
  obtain⟨v,h4,h5⟩:=h.cell j r vs h1 h2 i f h3;exact⟨v,h4,h5.aN (hk _) (hs _)⟩,h.inj⟩
theorem aP.below (h:aP w S m rs vss H) (hb:Below w.heap.size w w'):aP w' S m rs vss H:=h.aN (fun k _ _ q=>hb.block k (ae q)) (fun _ _ s=>s)
theorem aP.grown (h:aP w S m rs vss H) {base n:Nat} {T:TypeId} {v:Value} {xs:List Value} (ho:w.ownsRow base T m v n xs) (hT:¬T=9) (hg:w.grownBy w' v.ownBlock):aP w' S m rs vss H:=by
 refine h.aN (fun k cu _ q=>hg.block k (ae q) (fun e=>?_)) (fun _ _ s=>s);rcases ho.2 with ⟨rfl,_⟩|⟨g,cap,cur,rfl,_,hgg,_⟩
 ·cases e
 ·cases e;simp only[] at q;rw[hgg] at q;cases q;exact hT rfl
theorem aP.lt (h:aP w S m rs vss H) {j:Nat} {r:List Fv} {i:Nat} {zs:List ByteArray} (h1:rs[j]?=some r) (h2:r[i]?=some (.l zs)) (h3:zs≠[]):H j i<w.heap.size:=by
 have hj:j<vss.length:=by rw[h.len];exact (xe.1 h1).1
 obtain⟨v,_,a,len,cap,_,_,_,_,_,h9⟩:=h.cell j r _ h1 (xm hj) i _ h2;rcases h9 with h9|⟨_,_,cu,q4,_⟩
 ·exact absurd h9 h3
 ·exact ae q4
theorem aP.w_ (h:aP w S m rs vss H) {rs':List (List Fv)} {vss':List (List Value)} (f:Nat->Nat) (hl:vss'.length=rs'.length) (hr:∀j,j<rs'.length->rs'[j]?=rs[f j]?) (hv:∀j,j<rs'.length->vss'[j]?=vss[f j]?)
  (hf:∀j j',j<rs'.length->j'<rs'.length->f j=f j'->j=j'):aP w S m rs' vss' (fun j=>H (f j)):=by
 have lt1:∀{j:Nat} {r},rs'[j]?=some r->j<rs'.length:=fun h=>(xe.1 h).1;have lt2:∀{j:Nat} {r},vss'[j]?=some r->j<rs'.length:=fun h=>by rw[<-hl];exact (xe.1 h).1
 refine⟨hl,fun j vs h1=>h.all (f j) vs (by rw[<-hv j (lt2 h1)];exact h1),fun j r h1=>h.rl (f j) r (by rw[<-hr j (lt1 h1)];exact h1),fun j r vs h1 h2=>h.cell (f j) r vs (by rw[<-hr j (lt1 h1)];exact h1) (by rw[<-hv j (lt1 h1)];exact h2),?_⟩;intro j r i zs j' r' i' zs' h1 h2 h3 h4 h5 h6 h7;obtain⟨e1,e2⟩:=h.inj (f j) r i zs (f j') r' i' zs' (by rw[<-hr j (lt1 h1)];exact h1) h2 h3 (by rw[<-hr j' (lt1 h4)];exact h4) h5 h6 h7;exact⟨hf j j' (lt1 h1) (lt1 h4) e1,e2⟩
theorem aP.push (h:aP w S m rs vss H) {r:List Fv} {vs:List Value} {hh:Nat->Nat} (hr:r.length=m) (hvs:vs.length=m) (hc:∀(i:Nat) f,r[i]?=some f->∃v,vs[i]?=some v/\f.Fr w (hh i) S v)
  (hn:∀(i:Nat) zs,r[i]?=some (.l zs)->zs≠[]->∀(j:Nat) r' (i':Nat) zs',rs[j]?=some r'->r'[i']?=some (.l zs')->zs'≠[]->¬H j i'=hh i)
  (h1:∀(i i':Nat) zs zs',r[i]?=some (.l zs)->zs≠[]->r[i']?=some (.l zs')->zs'≠[]->i=i'):
  aP w S m (rs++[r]) (vss++[vs]) (fun j=>if j=rs.length then hh else H j):=by
 have at1:∀{α:Type} {l:List α} {x y:α} {j:Nat},(l++[x])[j]?=some y->(j=l.length/\y=x)\/(j<l.length/\l[j]?=some y):=by
  intro α l x y j hj;by_cases e:j<l.length
  ·rw[xP e] at hj;exact .inr ⟨e,hj⟩
  ·rw[ye af] at hj;rcases Nat.eq_zero_or_pos (j - l.length) with e0|e0
   ·rw[e0] at hj;exact .inl ⟨by omega,by simpa using hj.symm⟩
   ·exact qt
 refine⟨by simp[h.len],fun j v hv=>?_,fun j r' hj=>?_,fun j r' v hj hv i f hf=>?_,fun j r1 i zs j' r2 i' zs' a1 a2 a3 b1 b2 b3 e=>?_⟩
 ·rcases at1 hv with ⟨_,rfl⟩|⟨_,hv⟩
  ·exact hvs
  ·exact h.all j v hv
 ·rcases at1 hj with ⟨_,rfl⟩|⟨_,hj⟩
  ·exact hr
  ·exact h.rl j r' hj
 ·rcases at1 hj with ⟨e1,rfl⟩|⟨e1,hj⟩
  ·rcases at1 hv with ⟨_,rfl⟩|⟨e2,hv⟩
   ·simp only[e1,if_true];exact hc i f hf
   ·have:=h.len;omega
  ·rcases at1 hv with ⟨e2,rfl⟩|⟨e2,hv⟩
   ·have:=h.len;omega
   ·simp only[if_neg (show¬j=rs.length by omega)];exact h.cell j r' v hj hv i f hf
 ·rcases at1 a1 with ⟨e1,rfl⟩|⟨e1,a4⟩ <;> rcases at1 b1 with ⟨e2,rfl⟩|⟨e2,b4⟩
  ·exact⟨by omega,h1 _ _ _ _ a2 a3 b2 b3⟩
  ·simp only[e1,if_true,if_neg (show¬j'=rs.length by omega)] at e;exact absurd e.symm (hn i zs a2 a3 j' r2 i' zs' b4 b2 b3)
  ·simp only[e2,if_true,if_neg (show¬j=rs.length by omega)] at e;exact absurd e (hn i' zs' b2 b3 j r1 i zs a4 a2 a3)
  ·simp only[if_neg (show¬j=rs.length by omega),if_neg (show¬j'=rs.length by omega)] at e;exact h.inj j r1 i zs j' r2 i' zs' a4 a2 a3 b4 b2 b3 e
end

theorem cM {α:Type} {m:Nat} :∀{vss:List (List α)},(∀(j:Nat) vs,vss[j]?=some vs->vs.length=m)->∀{j:Nat} {vs:List α} {i:Nat} {u:α},vss[j]?=some vs->vs[i]?=some u->vss.flatten[j*m+i]?=some u
 | [],_,j,vs,i,u,h,_=>by simp at h
 | x ::vss,hl,0,vs,i,u,h,hu=>by
  obtain rfl:x=vs:=by simpa using h
  have hx:=hl 0 x rfl;have hi:=(xe.1 hu).1;rw[List.flatten_cons,xP af,Nat.zero_mul,xL];exact hu
 | x ::vss,hl,j+1,vs,i,u,h,hu=>by
  have hx:=hl 0 x rfl;rw[List.flatten_cons,ye (by rw[hx,Nat.succ_mul];omega),hx,show (j+1)*m+i - m=j*m+i by rw[Nat.succ_mul];omega];exact cM (fun j' vs' h'=>hl (j'+1) vs' (by simpa using h')) (by simpa using h) hu
theorem fw {α:Type} {m:Nat} :∀{vss:List (List α)},(∀(j:Nat) vs,vss[j]?=some vs->vs.length=m)->∀{k:Nat} {u:α},vss.flatten[k]?=some u->∃(j i:Nat) (vs:List α),vss[j]?=some vs/\vs[i]?=some u/\k=j*m+i
 | [],_,k,u,h=>by simp at h
 | x ::vss,hl,k,u,h=>by
  have hx:=hl 0 x rfl;rw[List.flatten_cons] at h;by_cases e:k<m
  ·rw[xP af] at h;exact⟨0,k,x,rfl,h,by omega⟩
  ·rw[ye af,hx] at h;obtain⟨j,i,vs,h1,h2,h3⟩:=fw (fun j' vs' h'=>hl (j'+1) vs' (by simpa using h')) h;exact⟨j+1,i,vs,by simpa using h1,h2,by rw[Nat.succ_mul];omega⟩
theorem dj {α:Type} {m:Nat} :∀{vss:List (List α)},(∀(j:Nat) vs,vss[j]?=some vs->vs.length=m)->vss.flatten.length=vss.length*m
 | [],_=>by simp
 | x ::vss,hl=>by
  have hx:=hl 0 x rfl;rw[List.flatten_cons,xO,dj (fun j' vs' h'=>hl (j'+1) vs' (by simpa using h')),hx,yU,Nat.succ_mul];omega
theorem aP.one {w:World} {S:Nat->Prop} {m:Nat} {rs:List (List Fv)} {vss:List (List Value)} {H:Nat->Nat->Nat} (h:aP w S m rs vss H):∀u∈vss.flatten,u.oneCell'=true:=by
 intro u hu;obtain⟨k,hk,rfl⟩:=List.mem_iff_getElem.1 hu;obtain⟨j,i,vs,h1,h2,_⟩:=fw h.all (xm hk);have hj:j<rs.length:=by rw[<-h.len];exact (xe.1 h1).1
 have hr:=xm hj;have hi:i<(rs[j]).length:=by rw[h.rl j _ hr,<-h.all j vs h1];exact (xe.1 h2).1
 obtain⟨v,h3,h4⟩:=h.cell j _ vs hr h1 i _ (xm hi);rw[h2] at h3;cases h3;exact h4.one

theorem aP.own {w:World} {S:Nat->Prop} {m:Nat} {T:TypeId} {rs:List (List Fv)} {vss:List (List Value)} {H:Nat->Nat->Nat} (h:aP w S m rs vss H) {base n:Nat} {v:Value} (ho:w.ownsRow base T m v n vss.flatten) (hn:n=rs.length) (hT:¬T=9) (hS:∀g,v.ownBlock=some g->S g):
  ∃a cap,v=.slice a rs.length cap/\az w a rs.length cap m T rs S:=by
 subst hn;rcases ho.2 with ⟨rfl,h0⟩|⟨g,cap,cur,rfl,_,hgg,h1,h2,h3,h4⟩
 ·obtain rfl:rs=[]:=xN h0;exact⟨none,0,rfl,az.nil _ _ _ _ _ af⟩
 ·refine⟨_,cap,rfl,rfl,h1,by unfold maxLen at h2;omega,.inr ⟨g,cur,H,rfl,hgg,hS g rfl,h.rl,fun j r hj i f hi=>?_,h.inj⟩⟩;have hjl:j<vss.length:=by rw[h.len];exact (xe.1 hj).1
  have hv:=xm hjl;obtain⟨u,h5,h6⟩:=h.cell j r _ hj hv i f hi;have h7:=cM h.all hv h5;rw[<-h4,xF] at h7;split at h7
  ·exact⟨u,by simpa using h7,h6.own hgg hT⟩
  ·cases h7
theorem az.oC {w:World} {S:Nat->Prop} {m:Nat} {T:TypeId} {a:Option Addr} {len cap:Nat} {rs:List (List Fv)} (h:az w a len cap m T rs S):
  ∃vss H,aP w S m rs vss H/\∀(k:Nat) u,vss.flatten[k]?=some u->∃g,a=some ⟨g,0,none⟩/\S g/\w.cell? ⟨g,k,none⟩=some u:=by
 obtain⟨h1,h2,h3,h4⟩:=h;rcases h4 with rfl|⟨g,cur,H,rfl,h5⟩
 ·exact⟨[],fun _ _=>0,aP.nil _ _ _ _,fun k u hu=>by simp at hu⟩
 ·have hget:∀(j i:Nat),((yt rs.length).map fun j=>(yt m).map fun i=>cur.getD (j*m+i) undef)[j]?=if j<rs.length then some ((yt m).map fun i=>cur.getD (j*m+i) undef) else none:=by
   intro j _;rw[xq];split
   ·next e=>rw[List.getElem?_range e];rfl
   ·next e=>rw[yi (by simpa using e)];rfl
  have hval:∀(j:Nat) r,rs[j]?=some r->∀(i:Nat),i<m->∃f v,r[i]?=some f/\cur[j*m+i]?=some v/\f.Own w (H j i) S g v/\((yt m).map fun i=>cur.getD (j*m+i) undef)[i]?=some v:=by
   intro j r hr i hi;have hl:=h5.len j r hr;have hf:=xm (l:=r) (i:=i) af;obtain⟨v,q1,q2⟩:=h5.cell j r hr i _ hf;refine⟨_,v,hf,q1,q2,?_⟩;rw[xq,List.getElem?_range hi];simp[xv,q1]
  have hvrecs:aP w S m rs ((yt rs.length).map fun j=>(yt m).map fun i=>cur.getD (j*m+i) undef) H:=by
   refine⟨by simp,fun j vs hv=>?_,h5.len,fun j r vs hr hv i f hf=>?_,h5.inj⟩
   ·rw[hget j 0] at hv;split at hv
    ·cases hv;simp
    ·cases hv
   ·rw[hget j 0,if_pos (xe.1 hr).1] at hv;cases hv;have hi:i<m:=by rw[<-h5.len j r hr];exact (xe.1 hf).1
    obtain⟨f',v,q1,q2,q3,q4⟩:=hval j r hr i hi;rw[hf] at q1;cases q1;exact⟨v,q4,q3.fr⟩
  refine⟨_,H,hvrecs,fun k u hu=>⟨g,rfl,h5.inS,?_⟩⟩;obtain⟨j,i,vs,e1,e2,rfl⟩:=fw hvrecs.all hu;rw[hget j 0] at e1;split at e1
  ·next e=>
   cases e1;have hi:i<m:=by have:=(xe.1 e2).1;simpa using this
   obtain⟨f',v,q1,q2,q3,q4⟩:=hval j _ (xm e) i hi;rw[e2] at q4;cases q4;exact (aD h5.blk _).trans q2
  ·cases e1

def Bw (y W:World):Prop:=Below y.heap.size y W
theorem Bw.refl (y:World):Bw y y:=xj _ _
theorem Bw.below {y W W':World} (h:Bw y W) (hb:Below W.heap.size W W'):Bw y W':=Below.trans h (hb.mono (Below.size h))
theorem Bw.kept {y W W':World} {S:Nat->Prop} (h:Bw y W) (hk:aG S W W') (hs:∀k,S k->y.heap.size<=k):Bw y W':=Below.trans h (hk.low (Below.size h) hs)
theorem Bw.out {y W:World} (h:Bw y W):Below y.heap.size y W:=h
theorem Bw.le {y W:World} (h:Bw y W):y.heap.size<=W.heap.size:=Below.size h

def bK (w:World) (a:Option Addr) (l c:Nat) (zs:List ByteArray) (S:Nat->Prop):Prop:=
 av w a l c zs/\(zs=[]\/∃g cur,a=some ⟨g,0,none⟩/\S g/\w.heap[g]?=some (.cells cur 9 (0,0)))
theorem bK.aN {w w':World} {a:Option Addr} {l c:Nat} {zs:List ByteArray} {S S':Nat->Prop} (h:bK w a l c zs S) (hk:∀k,k<w.heap.size->S k->w'.heap[k]?=w.heap[k]?) (hs:∀k,k<w.heap.size->S k->S' k):bK w' a l c zs S':=by
 obtain⟨⟨h1,h2,h3,h4,h5⟩,h6⟩:=h;rcases h6 with rfl|⟨g,cur,rfl,hS,hg⟩
 ·exact⟨⟨h1,h2,h3,h4,.inl rfl⟩,.inl rfl⟩
 ·have hg':=(hk g (ae hg) hS).trans hg;refine⟨⟨h1,h2,h3,h4,h5.imp id ?_⟩,.inr ⟨g,cur,rfl,hs g (ae hg) hS,hg'⟩⟩;rintro⟨b,o,e,hlt,hc⟩;cases e;exact⟨g,0,rfl,ae hg',fun j x hx=>by have:=hc j x hx;rw[aD hg] at this;rw[aD hg'];exact this⟩
theorem bK.below {w w':World} {a:Option Addr} {l c:Nat} {zs:List ByteArray} {S:Nat->Prop} (h:bK w a l c zs S) (hb:Below w.heap.size w w'):bK w' a l c zs S:=h.aN (fun k hk _=>hb.block k hk) (fun _ _ s=>s)
theorem bK.dX {w:World} {a:Option Addr} {l c:Nat} {zs:List ByteArray} {S S':Nat->Prop} (h:bK w a l c zs S) (hs:∀k,k<w.heap.size->S k->S' k):bK w a l c zs S':=h.aN (fun _ _ _=>rfl) hs
theorem bK.row {w:World} {a:Option Addr} {l c:Nat} {zs:List ByteArray} {S:Nat->Prop} (h:bK w a l c zs S):av w a l c zs:=h.1
theorem bK.gZ {w:World} {base n:Nat} {v:Value} {zs:List ByteArray} (h:w.ownsRow base 9 1 v n (zs.map xo)) (hs:∀(j:Nat) x,zs[j]?=some x->x.size<=9223372036854775807):∃a c,v=.slice a n c/\bK w a n c zs (fun k=>base<=k):=by
 obtain⟨hl,h⟩:=h;have hl':zs.length=n:=by simpa using hl
 rcases h with ⟨rfl,rfl⟩|⟨g,cap,cur,rfl,hbg,hg,hnc,hcm,hsz,htk⟩
 ·obtain rfl:zs=[]:=xN hl';exact⟨none,0,rfl,⟨rfl,xk _,by omega,fun j x hx=>by simp at hx,.inl rfl⟩,.inl rfl⟩
 ·refine⟨some ⟨g,0,none⟩,cap,rfl,⟨hl',hnc,by unfold maxLen at hcm;omega,hs,.inr ⟨g,0,rfl,ae hg,fun j x hx=>?_⟩⟩,.inr ⟨g,cur,rfl,hbg,hg⟩⟩;exact uF
theorem br {w w':World} {base n m:Nat} {T:TypeId} {v:Value} {xs:List Value} (h:w.ownsRow base T m v n xs) (hb:Below w.heap.size w w'):w'.ownsRow base T m v n xs:=by
 refine⟨h.1,h.2.imp id ?_⟩;rintro⟨g,cap,cur,h1,h2,h3,h4⟩;exact⟨g,cap,cur,h1,h2,(hb.block _ (ae h3)).trans h3,h4⟩

theorem rQ:∀(r:List Fv) (k:Int),(∀(i:Nat) zs,r[i]?=some (.l zs)->zs.length<=1048576)->mkN k r<=k+r.length*1048577
 | [],k,_=>by simp[mkN]
 | f ::r,k,h=>by
  have h1:=rQ r (mkN1 k f) (fun i zs hi=>h (i+1) zs (by simpa using hi));have h2:mkN1 k f<=k+1048577:=by
   cases f with
   | l zs=>have:=h 0 zs rfl;simp only[mkN1];omega
   | _=>simp only[mkN1];omega
  simp only[mkN,yU];omega
theorem nU {m:Nat} :∀(rs:List (List Fv)) (k:Int),(∀(j:Nat) r,rs[j]?=some r->r.length<=m/\∀(i:Nat) zs,r[i]?=some (.l zs)->zs.length<=1048576)->aC k rs<=k+rs.length*(m*1048577)
 | [],k,_=>by simp[aC]
 | r ::rs,k,h=>by
  have h1:=nU rs (mkN k r) (fun j r' hj=>h (j+1) r' (by simpa using hj));obtain⟨h2,h3⟩:=h 0 r rfl;have h4:=rQ r k h3;have h5:r.length*1048577<=m*1048577:=Nat.mul_le_mul_right _ h2;have h6:((rs.length+1:Nat):Int)*(m*1048577)=rs.length*(m*1048577)+m*1048577:=by
   rw[Int.natCast_add];simp[Int.add_mul]
  simp only[aC,yU];rw[h6];omega
theorem ei {α:Type} {F:α->List Fv} {xs:List α} {m:Nat} (hm:∀x,(F x).length<=m) (hl:∀(j:Nat) x,xs[j]?=some x->∀(i:Nat) zs,(F x)[i]?=some (.l zs)->zs.length<=1048576) (hx:xs.length<=1048576) (hm8:m<=8) (k:Int):aC k (xs.map F)<=k+8796101410816:=by
 have h:=nU (m:=m) (xs.map F) k (fun j r hj=>by
  rw[xq] at hj;obtain⟨x,h1,rfl⟩:=xu.1 hj
  exact⟨hm x,hl j x h1⟩)
 rw[xR] at h;have h2:xs.length*(m*1048577)<=1048576*(8*1048577):=Nat.mul_le_mul hx (Nat.mul_le_mul_right _ hm8);have h3:((xs.length*(m*1048577):Nat):Int)=(xs.length:Int)*((m:Int)*1048577):=by rw[Int.natCast_mul,Int.natCast_mul];rfl
 rw[<-h3] at h;omega
theorem fD.vH {c:Cl} (h:fD c):cS 1 c.raw<=1000000000000000:=by
 have one:∀{zs zs':List ByteArray},zs.length<=1048576->some (Fv.l zs)=some (.l zs')->zs'.length<=1048576:=fun h e=>by cases e;exact h
 have a1:=fun k=>ei (F:=ndF) (m:=7) (xs:=c.ns) (fun _=>xk _) (fun j x hx i zs hi=>by
  rcases i with _|_|_|_|_|_|_|i <;> first|(simp[ndF] at hi;done)|exact one (h.f1 j x hx) hi) h.l1 aj k
 have a2:=fun k=>ei (F:=kdF) (m:=4) (xs:=c.ks) (fun _=>xk _) (fun j x hx i zs hi=>by
  rcases i with _|_|_|_|i <;> (simp[kdF] at hi)) h.l2 aj k
 have a3:=fun k=>ei (F:=vdF) (m:=8) (xs:=c.vs) (fun _=>xk _) (fun j x hx i zs hi=>by
  rcases i with _|_|_|_|_|_|_|_|i <;> first|(simp[vdF] at hi;done)|exact one (h.f3 j x hx) hi) h.l3 aj k
 have a4:=fun k=>ei (F:=xdF) (m:=5) (xs:=c.xs) (fun _=>xk _) (fun j x hx i zs hi=>by
  rcases i with _|_|_|_|_|i <;> (simp[xdF] at hi)) h.l4 aj k
 have a5:=fun k=>ei (F:=pdF) (m:=6) (xs:=c.ps) (fun _=>xk _) (fun j x hx i zs hi=>by
  rcases i with _|_|_|_|_|_|i <;> first|(simp[pdF] at hi;done)|exact one (h.f5 j x hx) hi) h.l5 aj k
 unfold cS Cl.raw;have b1:=a1 1;have b2:=a2 (aC 1 (c.ns.map ndF));have b3:=a3 (aC (aC 1 (c.ns.map ndF)) (c.ks.map kdF));have b4:=a4 (aC (aC (aC 1 (c.ns.map ndF)) (c.ks.map kdF)) (c.vs.map vdF));have b5:=a5 (aC (aC (aC (aC 1 (c.ns.map ndF)) (c.ks.map kdF)) (c.vs.map vdF)) (c.xs.map xdF));simp only[];omega
theorem fD.marks {c:Cl} (h:fD c):cS 1 c.raw<=1152921504606846976:=xQ h.vH (by decide)

end Rc
end Go.Proofs.YtbbdcjbfnjlndaaGreatDoor

namespace Go.Proofs.YtbbdcjbfnjlndaaGreatDoor
open Go.RowKit
namespace Ap

def bu (zs:List ByteArray) (w:World) (a:Option Addr) (len cap:Nat) (w':World):Prop:=
 av w' a len cap zs/\(zs=[]\/∃g cur,a=some ⟨g,0,none⟩/\w.heap.size<=g/\w'.heap[g]?=some (.cells cur 9 (0,0)))/\Below w.heap.size w w'
theorem vF {w w0:World} {base n:Nat} {v:Value} {zs:List ByteArray} (h:w.ownsRow base 9 1 v n (zs.map xo)) (hb:Below base w0 w) (hB:base=w0.heap.size) (hs:∀(j:Nat) x,zs[j]?=some x->x.size<=9223372036854775807):
  ∃a l c,v=.slice a l c/\bu zs w0 a l c w:=by
 subst hB;obtain⟨hl,h⟩:=h;have hl':zs.length=n:=by simpa using hl
 rcases h with ⟨rfl,rfl⟩|⟨g,cap,cur,rfl,hbg,hg,hnc,hcm,hsz,htk⟩
 ·obtain rfl:zs=[]:=xN hl';exact⟨none,0,0,rfl,⟨rfl,xk _,by omega,fun j x hx=>by simp at hx,.inl rfl⟩,.inl rfl,hb⟩
 ·refine⟨some ⟨g,0,none⟩,n,cap,rfl,⟨hl',hnc,by unfold maxLen at hcm;omega,hs,.inr ⟨g,0,rfl,ae hg,fun j x hx=>?_⟩⟩,.inr ⟨g,cur,rfl,hbg,hg⟩,hb⟩;exact uF
theorem nT {w:World} {ad:Addr} {len cap:Nat} {zs:List ByteArray} (h:av w (some ad) len cap zs):∀j u,(zs.map xo)[j]?=some u->w.cell? (ad.add j)=some u:=by
 intro j u hu;rw[xq] at hu;obtain⟨x,hx,rfl⟩:=xu.1 hu;rcases h.2.2.2.2 with h|⟨b,o,e,_,hc⟩
 ·subst h;simp at hx
 ·cases e;rw[xB];exact hc j x hx

theorem jg (a:Option Addr) (len cap:Nat) (zs:List ByteArray) (w:World) (hr:av w a len cap zs) (hl:len<=8001):
  Calls Tryz.prog 156 #[.slice a len cap] w fun e w'=> ∃a' l c,e=.returned (.slice a' l c)/\bu zs w a' l c w':=by
 cases a with
 | none=>
  obtain rfl:zs=[]:=by
   rcases hr.2.2.2.2 with h|⟨b,o,e,_⟩
   ·exact h
   ·cases e
  obtain rfl:len=0:=by have:=hr.1;simpa using this.symm
  clear hr
  go_enter Tryz.func156,Tryz.ntmps156
  go_wp2
  go_ret;exact⟨_,_,_,rfl,⟨rfl,xk _,by omega,fun j x hx=>by simp at hx,.inl rfl⟩,.inl rfl,xj _ _⟩
 | some ad=>
  have HN:=aa (nT hr);have HZ:=aa hr.2.2.2.1;have hzl:=hr.1;clear hr;obtain⟨i0,hi,hz0,hz1,hz2⟩:=info_parts dt
  go_enter Tryz.func156,Tryz.ntmps156
  go_wp2_with (first|(at_builtin;refine wpList_append_own _ rfl _ _ 59 rfl w.heap.size 9 i0 (.string ⟨#[]⟩) 1 16 Tryz.underlying59 hi hz0 hz1 hz2 rfl aj _ 0 _ rfl (yq w w.heap.size 9 1) ad len cap (zs.map xo) rfl ?c1 HN.out ?c3 ?c4 ?c5 (xk _) ?_))
  case c1=>simpa using hzl
  case c3=>intro u hu;obtain⟨x,_,rfl⟩:=List.mem_map.1 hu;rfl
  case c4=>unfold maxLen;omega
  case c5=>omega
  intro v' w3 hown3 hgrow hv;have HB3:=aa ((xj w.heap.size w).grown hgrow (xk _) (fun k hk=>by cases hk));have HO:=aa hown3;clear hown3 hgrow hv
  go_wp2
  go_ret;obtain⟨a',l,c,rfl,h2⟩:=vF HO.out HB3.out rfl HZ.out;exact⟨a',l,c,rfl,h2⟩

theorem bu.set {zs:List ByteArray} {w w':World} {a:Option Addr} {l p b i X:Nat} {v:Value} (h:av w' a l p zs/\(zs=[]\/∃g cur,a=some ⟨g,0,none⟩/\X<=g/\w'.heap[g]?=some (.cells cur 9 (0,0)))/\Below w.heap.size w w') (hb:w.heap.size<=b) (hX:b<X):
  av (w'.setCell ⟨b,i,none⟩ v) a l p zs/\(zs=[]\/∃g cur,a=some ⟨g,0,none⟩/\X<=g/\(w'.setCell ⟨b,i,none⟩ v).heap[g]?=some (.cells cur 9 (0,0)))/\Below w.heap.size w (w'.setCell ⟨b,i,none⟩ v):=by
 obtain⟨⟨h1,h2,h3,h4,h5⟩,h6,h7⟩:=h;refine⟨⟨h1,h2,h3,h4,?_⟩,?_,h7.setCell hb v⟩
 ·rcases h6 with h6|⟨g,cur,rfl,hg,hh⟩
  ·exact .inl h6
  ·rcases h5 with h5|⟨g',o,e,hl,hc⟩
   ·exact .inl h5
   ·cases e;have hs:(w'.setCell ⟨b,i,none⟩ v).heap[g]?=w'.heap[g]?:=xi _ _ _ _ (show g≠b by omega);exact .inr ⟨g,0,rfl,by simpa[xZ] using hl,fun j x hx=>by have:=hc j x hx;simp only[World.cell?,hs] at this ⊢;exact this⟩
 ·rcases h6 with h6|⟨g,cur,rfl,hg,hh⟩
  ·exact .inl h6
  ·exact .inr ⟨g,cur,rfl,hg,(xi _ _ _ _ (show g≠b by omega)).trans hh⟩

theorem vV (n:ByteArray) (c:Int) (z:ByteArray) (k:ByteArray) (x:Bool) (m:ByteArray) (y:Bool) (a:Option Addr) (len cap:Nat) (zs:List ByteArray) (w:World) (hr:av w a len cap zs) (hl:len<=8001):
  Calls Tryz.prog 64 #[.agg #[.string n,.int .i64 c,.string z,.string k,.bool x,.string m,.bool y,.slice a len cap]] w fun e w'=> ∃a' l p,e=.returned (.agg #[.string n,.int .i64 c,.string z,.string k,.bool x,.string m,.bool y,.slice a' l p])/\bu zs w a' l p w':=by
 have hown:(((w.alloc (.cells #[.string n,.int .i64 c,.string z,.string k,.bool x,.string m,.bool y,.slice a len cap] 62)).alloc (.cells #[.string ⟨#[]⟩,.int .i64 0,.string ⟨#[]⟩,.string ⟨#[]⟩,.bool false,.string ⟨#[]⟩,.bool false,.slice none 0 0] 62)).alloc (.cells #[] 9)).ownsRow (w.heap.size+1+1) 9 1 (.slice (some ⟨w.heap.size+1+1,0,none⟩) 0 0) 0 []:=⟨rfl,.inr ⟨w.heap.size+1+1,0,#[],rfl,xk _,dN _ _ _ _,xk _,by unfold maxLen;omega,rfl,rfl⟩⟩;have HOW:=aa hown;have hr3:=hr.below (bS w (.cells #[.string n,.int .i64 c,.string z,.string k,.bool x,.string m,.bool y,.slice a len cap] 62) (.cells #[.string ⟨#[]⟩,.int .i64 0,.string ⟨#[]⟩,.string ⟨#[]⟩,.bool false,.string ⟨#[]⟩,.bool false,.slice none 0 0] 62) (.cells #[] 9));have HZ:=aa hr.2.2.2.1;have hzl:=hr.1;have HR3:=aa hr3;clear hown hr3;obtain⟨i0,hi,hz0,hz1,hz2⟩:=info_parts dt;cases a with
 | none=>
  obtain rfl:zs=[]:=by
   rcases hr.2.2.2.2 with h|⟨b,o,e,_⟩
   ·exact h
   ·cases e
  obtain rfl:len=0:=by simpa using hzl.symm
  clear hr HOW HR3 hi hz0 hz1 hz2
  go_enter Tryz.func64,Tryz.ntmps64
  go_wp2
  exact bodyPost_ret (v:=.agg #[.string n,.int .i64 c,.string z,.string k,.bool x,.string m,.bool y,.slice (some ⟨w.heap.size+1+1,0,none⟩) 0 0]) (by simp[results,Tryz.results64,go_sem]) rfl ⟨_,_,_,rfl,⟨rfl,xk _,by omega,fun j x hx=>by simp at hx,.inl rfl⟩,.inl rfl,bS _ _ _ _⟩
 | some ad=>
  have HN:=aa (nT HR3.out);clear hr
  go_enter Tryz.func64,Tryz.ntmps64
  go_wp2_with (first|(at_builtin;refine wpList_append_own _ rfl _ _ 59 rfl (w.heap.size+1+1) 9 i0 (.string ⟨#[]⟩) 1 16 Tryz.underlying59 hi hz0 hz1 hz2 rfl aj _ 0 _ rfl HOW.out ad len cap (zs.map xo) rfl ?c1 HN.out ?c3 ?c4 ?c5 aT ?_))
  case c1=>simpa using hzl
  case c3=>intro u hu;obtain⟨x,_,rfl⟩:=List.mem_map.1 hu;rfl
  case c4=>unfold maxLen;omega
  case c5=>omega
  intro v' w3 hown3 hgrow hv;have hb3:=(xj (w.heap.size+1+1) _).grown hgrow aT (fun k hk=>by simp[Value.ownBlock] at hk;omega);have g0:=(hb3.block w.heap.size af).trans (gA _ _ _ _);have g1:=(hb3.block (w.heap.size+1) af).trans (dO _ _ _ _)
  obtain⟨a',l,p,rfl,hq⟩:∃a' l p,v'=.slice a' l p/\(av w3 a' l p zs/\(zs=[]\/∃g cur,a'=some ⟨g,0,none⟩/\w.heap.size+1+1<=g/\w3.heap[g]?=some (.cells cur 9 (0,0)))/\Below w.heap.size w w3):=by
   have hbw:=(bS w _ _ _).trans (hb3.mono af);have ho:=hown3;obtain⟨hl1,h⟩:=ho;have hl':=hzl
   rcases h with ⟨rfl,h0⟩|⟨g,cp,cur,rfl,hbg,hg,hnc,hcm,hsz,htk⟩
   ·obtain rfl:zs=[]:=xN af;exact⟨none,0,0,rfl,⟨rfl,xk _,by omega,fun j x hx=>by simp at hx,.inl rfl⟩,.inl rfl,hbw⟩
   ·refine⟨some ⟨g,0,none⟩,len,cp,rfl,⟨hl',hnc,by unfold maxLen at hcm;omega,HZ.out,.inr ⟨g,0,rfl,ae hg,fun j x hx=>?_⟩⟩,.inr ⟨g,cur,rfl,hbg,hg⟩,hbw⟩;rw[xL,aD hg]
    have hj:j<len:=by have:=(xe.1 hx).1;omega
    have e1:(cur.toList.take (len*1))[j]?=some (.string x):=by rw[htk];simp[hx]
    rw[xF,if_pos af] at e1
    simpa using e1
  have HQ:=aa hq;have d0:=ck0 g0;have d1:=ck1 g0;have d2:=ck2 g0;have d3:=ck3 g0;have d4:=ck4 g0;have d5:=ck5 g0;have d6:=ck6 g0;have d7:=ck7 g0;have df7:=aw g0 7;have e0:=ck0 g1;have ef0:=aw g1 0;have e1:=ck1 g1;have ef1:=aw g1 1;have e2:=ck2 g1;have ef2:=aw g1 2;have e3:=ck3 g1;have ef3:=aw g1 3;have e4:=ck4 g1;have ef4:=aw g1 4;have e5:=ck5 g1;have ef5:=aw g1 5;have e6:=ck6 g1;have ef6:=aw g1 6;have e7:=ck7 g1;have ef7:=aw g1 7;have HQ2:=aa (bu.set (bu.set (bu.set (bu.set (bu.set (bu.set (bu.set (bu.set (bu.set HQ.out (b:=w.heap.size) (i:=7) af af (v:=.slice a' l p)) (b:=w.heap.size+1) (i:=0) af af (v:=(.string n))) (b:=w.heap.size+1) (i:=1) af af (v:=(.int .i64 c))) (b:=w.heap.size+1) (i:=2) af af (v:=(.string z))) (b:=w.heap.size+1) (i:=3) af af (v:=(.string k))) (b:=w.heap.size+1) (i:=4) af af (v:=(.bool x))) (b:=w.heap.size+1) (i:=5) af af (v:=(.string m))) (b:=w.heap.size+1) (i:=6) af af (v:=(.bool y))) (b:=w.heap.size+1) (i:=7) af af (v:=(.slice a' l p)));clear hown3 hgrow hv hb3 g0 g1 hq;go_wp2_with fail;refine bodyPost_ret (v:=.agg #[.string n,.int .i64 c,.string z,.string k,.bool x,.string m,.bool y,.slice a' l p]) (by simp[results,Tryz.results64,go_sem, *]) rfl ⟨a',l,p,rfl,HQ2.1,?_,HQ2.2.2⟩
  rcases HQ2.2.1 with h|⟨g,cur,h1,h2,h3⟩
  ·exact .inl h
  ·exact .inr ⟨g,cur,h1,by omega,h3⟩

theorem wi (n:ByteArray) (c:Int) (z:ByteArray) (k:ByteArray) (x:Bool) (m:ByteArray) (y:Bool) (a:Option Addr) (len cap:Nat) (zs:List ByteArray) (w:World) (hr:av w a len cap zs) (hl:len<=8001):
  Calls Tryz.prog 92 #[.agg #[.string n,.int .i64 c,.string z,.string k,.bool x,.string m,.bool y,.slice a len cap]] w fun e w'=> ∃a' l p,e=.returned (.agg #[.string n,.int .i64 c,.string z,.string k,.bool x,.string m,.bool y,.slice a' l p])/\bu zs w a' l p w':=by
 have HR:=aa (hr.below (aM w (.cells #[.string n,.int .i64 c,.string z,.string k,.bool x,.string m,.bool y,.slice a len cap] 62) (.cells #[.string ⟨#[]⟩,.int .i64 0,.string ⟨#[]⟩,.string ⟨#[]⟩,.bool false,.string ⟨#[]⟩,.bool false,.slice none 0 0] 62)));clear hr;go_enter Tryz.func92,Tryz.ntmps92;go_wp2_with fail;refine (jg a len cap zs _ HR.out hl).mono ?_;rintro e w3 ⟨a',l,p,rfl,h1,h2,hb⟩;have g0:=(hb.block w.heap.size bX).trans (cL _ _ _);have g1:=(hb.block (w.heap.size+1) aT).trans (bV _ _ _);have HQ:Hid (av w3 a' l p zs/\(zs=[]\/∃g cur,a'=some ⟨g,0,none⟩/\w.heap.size+1+1<=g/\w3.heap[g]?=some (.cells cur 9 (0,0)))/\Below w.heap.size w w3):=⟨h1,by simpa using h2,(aM w _ _).trans (hb.mono bX)⟩;have d0:=ck0 g0;have d1:=ck1 g0;have d2:=ck2 g0;have d3:=ck3 g0;have d4:=ck4 g0;have d5:=ck5 g0;have d6:=ck6 g0;have d7:=ck7 g0;have df7:=aw g0 7;have e0:=ck0 g1;have ef0:=aw g1 0;have e1:=ck1 g1;have ef1:=aw g1 1;have e2:=ck2 g1;have ef2:=aw g1 2;have e3:=ck3 g1;have ef3:=aw g1 3;have e4:=ck4 g1;have ef4:=aw g1 4;have e5:=ck5 g1;have ef5:=aw g1 5;have e6:=ck6 g1;have ef6:=aw g1 6;have e7:=ck7 g1;have ef7:=aw g1 7;have HQ2:=aa (bu.set (bu.set (bu.set (bu.set (bu.set (bu.set (bu.set (bu.set (bu.set HQ.out (b:=w.heap.size) (i:=7) af af (v:=.slice a' l p)) (b:=w.heap.size+1) (i:=0) af af (v:=.string n)) (b:=w.heap.size+1) (i:=1) af af (v:=.int .i64 c)) (b:=w.heap.size+1) (i:=2) af af (v:=.string z)) (b:=w.heap.size+1) (i:=3) af af (v:=.string k)) (b:=w.heap.size+1) (i:=4) af af (v:=.bool x)) (b:=w.heap.size+1) (i:=5) af af (v:=.string m)) (b:=w.heap.size+1) (i:=6) af af (v:=.bool y)) (b:=w.heap.size+1) (i:=7) af af (v:=.slice a' l p));clear h1 h2 hb g0 g1;go_wp2_with fail;refine bodyPost_ret (v:=.agg #[.string n,.int .i64 c,.string z,.string k,.bool x,.string m,.bool y,.slice a' l p]) (by simp[results,Tryz.results92,go_sem, *]) rfl ⟨a',l,p,rfl,HQ2.1,?_,HQ2.2.2⟩;rcases HQ2.2.1 with h|⟨g,cur,h1,h2,h3⟩
 ·exact .inl h
 ·exact .inr ⟨g,cur,h1,by omega,h3⟩

end Ap
end Go.Proofs.YtbbdcjbfnjlndaaGreatDoor

namespace Go.Proofs.YtbbdcjbfnjlndaaGreatDoor
open Go.RowKit
namespace Rc
open Mk

theorem bK.fr {w:World} {a:Option Addr} {l c:Nat} {zs:List ByteArray} {S:Nat->Prop} (h:bK w a l c zs S):∃g,LFr w g S zs (.slice a l c):=by
 obtain⟨⟨h1,h2,h3,h4,h5⟩,h6⟩:=h;rcases h6 with rfl|⟨g,cur,rfl,hS,hg⟩
 ·exact⟨0,_,_,_,rfl,h1,h2,h3,h4,.inl rfl⟩
 ·refine⟨g,_,_,_,rfl,h1,h2,h3,h4,h5.imp id ?_⟩;rintro⟨b,o,e,hlt,hc⟩;cases e;exact⟨rfl,hS,cur,hg,fun j x hx=>by have:=hc j x hx;rw[aD hg,xL] at this;exact this⟩
theorem LFr.lt {w:World} {h:Nat} {S:Nat->Prop} {zs:List ByteArray} {v:Value} (k:LFr w h S zs v) (hz:zs≠[]):S h/\h<w.heap.size:=by
 obtain⟨a',l',c',h1,h2,h3,h4,h5,h6⟩:=k;rcases h6 with h6|⟨_,q2,cu,q4,_⟩
 ·exact absurd h6 hz
 ·exact⟨q2,ae q4⟩
theorem cG (w:World) (vs:List Value) (T:TypeId):∀(j:Nat) u,vs[j]?=some u->(w.alloc (.cells vs.toArray T)).cell? ((⟨w.heap.size,0,none⟩:Addr).add j)=some u:=by
 intro j u hu;rw[xB,aD (heap_alloc_new w _),xL];simpa using hu
theorem aP.app {w W w':World} {S:Nat->Prop} {m:Nat} {rs:List (List Fv)} {vss:List (List Value)} {H:Nat->Nat->Nat} {base n:Nat} {T:TypeId} {v:Value} {xs:List Value} (h:aP w S m rs vss H) (hb:Below w.heap.size w W) (ho:W.ownsRow base T m v n xs) (hT:¬T=9) (hg:W.grownBy w' v.ownBlock)
  {r:List Fv} {vs:List Value} {hh:Nat} (hr:r.length=m) (hvs:vs.length=m) (hc:∀(i:Nat) f,r[i]?=some f->∃v,vs[i]?=some v/\f.Fr W hh S v) (hfr:∀(i:Nat) zs,r[i]?=some (.l zs)->zs≠[]->w.heap.size<=hh)
  (h1:∀(i i':Nat) zs zs',r[i]?=some (.l zs)->zs≠[]->r[i']?=some (.l zs')->zs'≠[]->i=i'):aP w' S m (rs++[r]) (vss++[vs]) (fun j=>if j=rs.length then fun _=>hh else H j):=
 ((h.below hb).push hr hvs hc (fun i zs a b j r' i' zs' c d e q=>by have q1:=h.lt c d e;have q2:=hfr i zs a b;omega) h1).grown ho hT hg

theorem oG {x:Nd} {i:Nat} {zs:List ByteArray} (h:(ndF x)[i]?=some (.l zs)):i=6/\zs=x.zs:=by
 rcases i with _|_|_|_|_|_|_|i
 ·cases h
 ·cases h
 ·cases h
 ·cases h
 ·cases h
 ·cases h
 ·cases h;exact⟨rfl,rfl⟩
 ·simp[ndF] at h
theorem vg {w:World} {x:Nd} {g:Nat} {Q:Nat->Prop} {a:Option Addr} {l c:Nat} (hn:x.n.size<=9223372036854775807) (hz:x.z.size<=9223372036854775807) (hl:LFr w g Q x.zs (.slice a l c)):∀(i:Nat) f,(ndF x)[i]?=some f->∃v,[.string x.n,.string x.z,.int .i64 x.c,.int .i64 x.s,.int .i64 x.u,.bool x.d,.slice a l c][i]?=some v/\f.Fr w g Q v:=by
 intro i f h;rcases i with _|_|_|_|_|_|_|i
 ·cases h;exact⟨_,rfl,rfl,hn⟩
 ·cases h;exact⟨_,rfl,rfl,hz⟩
 ·cases h;exact⟨_,rfl,rfl⟩
 ·cases h;exact⟨_,rfl,rfl⟩
 ·cases h;exact⟨_,rfl,rfl⟩
 ·cases h;exact⟨_,rfl,rfl⟩
 ·cases h;exact⟨_,rfl,hl⟩
 ·simp[ndF] at h

theorem mA (x:Nd) (va:Option Addr) (vl vc:Nat) (w:World) (hr:av w va vl vc x.zs) (hl:vl<=8001):
  Calls Tryz.prog 150 #[.agg #[.string x.n,.string x.z,.int .i64 x.c,.int .i64 x.s,.int .i64 x.u,.bool x.d,.slice va vl vc]] w fun e w'=> ∃a' l' c',e=.returned (.agg #[.string x.n,.string x.z,.int .i64 x.c,.int .i64 x.s,.int .i64 x.u,.bool x.d,.slice a' l' c'])/\bK w' a' l' c' x.zs (fun k=>w.heap.size<=k)/\Below w.heap.size w w':=by
 obtain⟨HR,HB⟩:=gL;clear hr;go_enter Tryz.func150,Tryz.ntmps150;go_wp2_with fail;refine (Ap.jg va vl vc x.zs _ (HR.below (HB.trans ((aM _ _ _).mono HB.size))) hl).mono ?_;rintro e w1 ⟨a',l',c',rfl,h1,h2,hb⟩;obtain⟨HA0,HA1,hbx⟩:=de hb;have Bp:=aa HA0;have Br:=aa HA1;replace HB:=upB HB hbx;clear hb hbx HA0 HA1;have HO:Hid (bK w1 a' l' c' x.zs (fun k=>w.heap.size+1+1<=k)):=⟨h1,h2.imp id fun ⟨g,cur,e1,e2,e3⟩=>⟨g,cur,e1,by simpa using e2,e3⟩⟩;clear h1 h2;obtain⟨p0,p1,p2,p3,p4,p5,p6⟩:=cs7 Bp;obtain⟨r0,r1,r2,r3,r4,r5,r6⟩:=cs7 Br;obtain⟨fr0,fr1,fr2,fr3,fr4,fr5⟩:=iC;have fp6:=aw Bp.out 6;have fr6:=aw Br.out 6;go_wp2_with fail;refine bodyPost_ret (v:=.agg #[.string x.n,.string x.z,.int .i64 x.c,.int .i64 x.s,.int .i64 x.u,.bool x.d,.slice a' l' c']) (by simp[results,Tryz.results150,go_sem, *]) rfl ⟨a',l',c',rfl,HO.aN (fun k _ s=>by have s1:w.heap.size+1+1<=k:=s;rw[xi _ _ _ _ (show k≠w.heap.size+1 by omega),xi _ _ _ _ (show k≠w.heap.size+1 by omega),xi _ _ _ _ (show k≠w.heap.size+1 by omega),xi _ _ _ _ (show k≠w.heap.size+1 by omega),xi _ _ _ _ (show k≠w.heap.size+1 by omega),xi _ _ _ _ (show k≠w.heap.size+1 by omega),xi _ _ _ _ (show k≠w.heap.size+1 by omega),xi _ _ _ _ (show k≠w.heap.size by omega)]) (fun k _ s=>by have s1:w.heap.size+1+1<=k:=s;show w.heap.size<=k;omega),sb1 (sb1 (sb1 (sb1 (sb1 (sb1 (sb1 (ah (xk _) (HB.out))))))))⟩

theorem jr (a:Option Addr) (len cap:Nat) (xs:List Nd) (w:World) (hr:aF w a len cap 7 (xs.map ndF)) (hl:len<=8) (hs:∀(j:Nat) x,xs[j]?=some x->x.zs.length<=8001):
  Calls Tryz.prog 149 #[.slice a len cap,.func (.func 150) #[] #[]] w fun e w'=> ∃a' c',e=.returned (.slice a' len c')/\az w' a' len c' 7 103 (xs.map ndF) (fun k=>w.heap.size<=k)/\Below w.heap.size w w':=by
 have HR:=aa hr;have HS:=aa hs;have hxl:xs.length=len:=dA
 clear hr hs;obtain⟨i0,hi,hz0,hz1,hz2⟩:=info_parts mE;have HI0:=aa (xf hi (xf hz0 (xf hz1 hz2)));clear hi hz0 hz1 hz2;go_enter Tryz.func149,Tryz.ntmps149;go_wp2;go_loopw [5,10] (fun vo vi wr=> ∃(k:Nat) (vss:List (List Value)) (H:Nat->Nat->Nat),k<=len/\vi=.int .i64 k/\Hid (wr.ownsRow w.heap.size 103 7 vo k vss.flatten)/\Hid (aP wr (fun k=>w.heap.size<=k) 7 ((xs.take k).map ndF) vss H)/\Hid (Below w.heap.size w wr)) (fun _ vi _=>len - (intOf vi).toNat);case atStart=>exact⟨0,[],fun _ _=>0,by omega,rfl,yq _ _ _ _,aP.nil _ _ _ _,xj _ _⟩
 case round=>
  obtain⟨k,vss,H,hk,rfl,HO,HV,HB⟩:=hrel;have hBs:=HB.size;by_cases hlt:k<len
  ·obtain⟨b,o,x,rfl,hb,hx,hat⟩:=bU (HR.below HB.out) hlt;obtain⟨va,vl,vc,hvr,z0,z1,c0,c1,c2,c3,c4,c5,c6⟩:=aQ hat;obtain⟨hz8,HX,HT,HZz0⟩:=pU;have HZz1:=aa z1;clear hat hx hvr z0 z1;go_wp2_with fail;refine (mA x va vl vc _ (HT.below (al _ _)) hz8).mono ?_;rintro e w2 ⟨a',l',c',rfl,ho,hb2⟩;obtain⟨-,hbx⟩:=aH hb2;rw[cB] at ho;obtain⟨g,hg⟩:=ho.fr;obtain⟨HG,HX2,HO2,hs2⟩:=pZ;clear ho hb2 hbx hg hb c0 c1 c2 c3 c4 c5 c6;go_wp2_with (first|(at_builtin;refine wpList_append_own _ rfl _ _ 30 rfl w.heap.size 103 i0 (.agg #[.string ⟨#[]⟩,.string ⟨#[]⟩,.int .i64 0,.int .i64 0,.int .i64 0,.bool false,.slice none 0 0]) 7 88 Tryz.underlying30 HI0.1 HI0.2.1 HI0.2.2.1 HI0.2.2.2 rfl aj _ _ _ rfl (HO2.alloc _) ⟨w2.heap.size,0,none⟩ 1 1 [.string x.n,.string x.z,.int .i64 x.c,.int .i64 x.s,.int .i64 x.u,.bool x.d,.slice a' l' c'] rfl rfl ?c1 ?c2 ?c3 ?c4 ?c5 ?_));case c1=>exact cG _ _ _
   case c2=>intro u hu;simp only[xV,yu,or_false] at hu;rcases hu with rfl|rfl|rfl|rfl|rfl|rfl|rfl <;> rfl
   case c3=>unfold maxLen;omega
   case c4=>omega
   case c5=>simp;omega
   rintro v' w3 hown3 hgrow -;have HO3:Hid (w3.ownsRow w.heap.size 103 7 v' (k+1) (vss++([[.string x.n,.string x.z,.int .i64 x.c,.int .i64 x.s,.int .i64 x.u,.bool x.d,.slice a' l' c']]:List (List Value))).flatten):=by
    exact lQ
   have hb23:Below wr.heap.size wr (w2.alloc (.cells (nov x a' l' c') 103)):=HX2.trans ((al _ _).mono (Nat.le_of_lt hs2));have hV:=HV.app (r:=ndF x) (vs:=[.string x.n,.string x.z,.int .i64 x.c,.int .i64 x.s,.int .i64 x.u,.bool x.d,.slice a' l' c']) (hh:=g) hb23 (HO2.alloc _) aj hgrow rfl rfl
    (vg HZz0.out HZz1.out (HG.aN (S':=fun k=>w.heap.size<=k) (fun cu _ q=>xM _ _ _ (ae q)) (fun _ s=>by have s1:wr.heap.size+1<=g:=s;show w.heap.size<=g;omega)))
    (fun i zs hi hz=>by obtain⟨_,rfl⟩:=oG hi;have s1:wr.heap.size+1<=g:=(HG.lt hz).1;omega) (fun i i' zs zs' h1 _ h2 _=>(oG h1).1.trans (oG h2).1.symm)
   have e1:(xs.take (k+1)).map ndF=(xs.take k).map ndF++[ndF x]:=by rw[yb,HX.out];simp
   exact qx
  ·obtain rfl:len=k:=af
   have h5:=HV.out;rw[xw af] at h5;obtain⟨a',c',rfl,hR⟩:=h5.own HO.out (by simp[hxl]) aj (fun g hg=>(HO.lt g hg).1);have HR5:=aa hR;have hl5:(xs.map ndF).length=len:=by simpa using hxl
   exact l8

theorem oq {x:Vd} {i:Nat} {zs:List ByteArray} (h:(vdF x)[i]?=some (.l zs)):i=7/\zs=x.zs:=by
 rcases i with _|_|_|_|_|_|_|_|i
 ·cases h
 ·cases h
 ·cases h
 ·cases h
 ·cases h
 ·cases h
 ·cases h
 ·cases h;exact⟨rfl,rfl⟩
 ·simp[vdF] at h
theorem pt {w:World} {x:Vd} {g:Nat} {Q:Nat->Prop} {a:Option Addr} {l c:Nat} (hn:x.n.size<=9223372036854775807) (hz:x.z.size<=9223372036854775807) (hk:x.k.size<=9223372036854775807) (hm:x.m.size<=9223372036854775807) (hl:LFr w g Q x.zs (.slice a l c)):∀(i:Nat) f,(vdF x)[i]?=some f->∃v,[.string x.n,.int .i64 x.c,.string x.z,.string x.k,.bool x.x,.string x.m,.bool x.y,.slice a l c][i]?=some v/\f.Fr w g Q v:=by
 intro i f h;rcases i with _|_|_|_|_|_|_|_|i
 ·cases h;exact⟨_,rfl,rfl,hn⟩
 ·cases h;exact⟨_,rfl,rfl⟩
 ·cases h;exact⟨_,rfl,rfl,hz⟩
 ·cases h;exact⟨_,rfl,rfl,hk⟩
 ·cases h;exact⟨_,rfl,rfl⟩
 ·cases h;exact⟨_,rfl,rfl,hm⟩
 ·cases h;exact⟨_,rfl,rfl⟩
 ·cases h;exact⟨_,rfl,hl⟩
 ·simp[vdF] at h

theorem hY (x:Vd) (va:Option Addr) (vl vc:Nat) (w:World) (hr:av w va vl vc x.zs) (hl:vl<=8001):
  Calls Tryz.prog 92 #[.agg #[.string x.n,.int .i64 x.c,.string x.z,.string x.k,.bool x.x,.string x.m,.bool x.y,.slice va vl vc]] w fun e w'=> ∃a' l' c',e=.returned (.agg #[.string x.n,.int .i64 x.c,.string x.z,.string x.k,.bool x.x,.string x.m,.bool x.y,.slice a' l' c'])/\bK w' a' l' c' x.zs (fun k=>w.heap.size<=k)/\Below w.heap.size w w':=by
 refine (Ap.wi x.n x.c x.z x.k x.x x.m x.y va vl vc x.zs w hr hl).mono ?_;rintro e w' ⟨a',l',c',rfl,h1,h2,hb⟩;exact⟨a',l',c',rfl,⟨h1,h2⟩,hb⟩

theorem jo (a:Option Addr) (len cap:Nat) (xs:List Vd) (w:World) (hr:aF w a len cap 8 (xs.map vdF)) (hl:len<=8) (hs:∀(j:Nat) x,xs[j]?=some x->x.zs.length<=8001):
  Calls Tryz.prog 151 #[.slice a len cap,.func (.func 92) #[] #[]] w fun e w'=> ∃a' c',e=.returned (.slice a' len c')/\az w' a' len c' 8 62 (xs.map vdF) (fun k=>w.heap.size<=k)/\Below w.heap.size w w':=by
 have HR:=aa hr;have HS:=aa hs;have hxl:xs.length=len:=dA
 clear hr hs;obtain⟨i0,hi,hz0,hz1,hz2⟩:=info_parts fP;have HI0:=aa (xf hi (xf hz0 (xf hz1 hz2)));clear hi hz0 hz1 hz2;go_enter Tryz.func151,Tryz.ntmps151;go_wp2;go_loopw [5,10] (fun vo vi wr=> ∃(k:Nat) (vss:List (List Value)) (H:Nat->Nat->Nat),k<=len/\vi=.int .i64 k/\Hid (wr.ownsRow w.heap.size 62 8 vo k vss.flatten)/\Hid (aP wr (fun k=>w.heap.size<=k) 8 ((xs.take k).map vdF) vss H)/\Hid (Below w.heap.size w wr)) (fun _ vi _=>len - (intOf vi).toNat);case atStart=>exact⟨0,[],fun _ _=>0,by omega,rfl,yq _ _ _ _,aP.nil _ _ _ _,xj _ _⟩
 case round=>
  obtain⟨k,vss,H,hk,rfl,HO,HV,HB⟩:=hrel;have hBs:=HB.size;by_cases hlt:k<len
  ·obtain⟨b,o,x,rfl,hb,hx,hat⟩:=bq (HR.below HB.out) hlt;obtain⟨va,vl,vc,hvr,z0,z2,z3,z5,c0,c1,c2,c3,c4,c5,c6,c7⟩:=aE hat;obtain⟨hz8,HX,HT,HZz0⟩:=pU;have HZz2:=aa z2;have HZz3:=aa z3;have HZz5:=aa z5;clear hat hx hvr z0 z2 z3 z5;go_wp2_with fail;refine (hY x va vl vc _ (HT.below (al _ _)) hz8).mono ?_;rintro e w2 ⟨a',l',c',rfl,ho,hb2⟩;obtain⟨-,hbx⟩:=aH hb2;rw[cB] at ho;obtain⟨g,hg⟩:=ho.fr;obtain⟨HG,HX2,HO2,hs2⟩:=pZ;clear ho hb2 hbx hg hb c0 c1 c2 c3 c4 c5 c6 c7;go_wp2_with (first|(at_builtin;refine wpList_append_own _ rfl _ _ 32 rfl w.heap.size 62 i0 (.agg #[.string ⟨#[]⟩,.int .i64 0,.string ⟨#[]⟩,.string ⟨#[]⟩,.bool false,.string ⟨#[]⟩,.bool false,.slice none 0 0]) 8 112 Tryz.underlying32 HI0.1 HI0.2.1 HI0.2.2.1 HI0.2.2.2 rfl aj _ _ _ rfl (HO2.alloc _) ⟨w2.heap.size,0,none⟩ 1 1 [.string x.n,.int .i64 x.c,.string x.z,.string x.k,.bool x.x,.string x.m,.bool x.y,.slice a' l' c'] rfl rfl ?c1 ?c2 ?c3 ?c4 ?c5 ?_));case c1=>exact cG _ _ _
   case c2=>intro u hu;simp only[xV,yu,or_false] at hu;rcases hu with rfl|rfl|rfl|rfl|rfl|rfl|rfl|rfl <;> rfl
   case c3=>unfold maxLen;omega
   case c4=>omega
   case c5=>simp;omega
   rintro v' w3 hown3 hgrow -;have HO3:Hid (w3.ownsRow w.heap.size 62 8 v' (k+1) (vss++([[.string x.n,.int .i64 x.c,.string x.z,.string x.k,.bool x.x,.string x.m,.bool x.y,.slice a' l' c']]:List (List Value))).flatten):=by
    exact lQ
   have hb23:Below wr.heap.size wr (w2.alloc (.cells (vov x a' l' c') 62)):=HX2.trans ((al _ _).mono (Nat.le_of_lt hs2));have hV:=HV.app (r:=vdF x) (vs:=[.string x.n,.int .i64 x.c,.string x.z,.string x.k,.bool x.x,.string x.m,.bool x.y,.slice a' l' c']) (hh:=g) hb23 (HO2.alloc _) aj hgrow rfl rfl
    (pt HZz0.out HZz2.out HZz3.out HZz5.out (HG.aN (S':=fun k=>w.heap.size<=k) (fun cu _ q=>xM _ _ _ (ae q)) (fun _ s=>by have s1:wr.heap.size+1<=g:=s;show w.heap.size<=g;omega)))
    (fun i zs hi hz=>by obtain⟨_,rfl⟩:=oq hi;have s1:wr.heap.size+1<=g:=(HG.lt hz).1;omega) (fun i i' zs zs' h1 _ h2 _=>(oq h1).1.trans (oq h2).1.symm)
   have e1:(xs.take (k+1)).map vdF=(xs.take k).map vdF++[vdF x]:=by rw[yb,HX.out];simp
   exact qx
  ·obtain rfl:len=k:=af
   have h5:=HV.out;rw[xw af] at h5;obtain⟨a',c',rfl,hR⟩:=h5.own HO.out (by simp[hxl]) aj (fun g hg=>(HO.lt g hg).1);have HR5:=aa hR;have hl5:(xs.map vdF).length=len:=by simpa using hxl
   exact l8

theorem oD {x:Pd} {i:Nat} {zs:List ByteArray} (h:(pdF x)[i]?=some (.l zs)):i=3/\zs=x.zs:=by
 rcases i with _|_|_|_|_|_|i
 ·cases h
 ·cases h
 ·cases h
 ·cases h;exact⟨rfl,rfl⟩
 ·cases h
 ·cases h
 ·simp[pdF] at h
theorem vf {w:World} {x:Pd} {g:Nat} {Q:Nat->Prop} {a:Option Addr} {l c:Nat} (hn:x.n.size<=9223372036854775807) (hz:x.z.size<=9223372036854775807) (hd:x.d.size<=9223372036854775807) (hl:LFr w g Q x.zs (.slice a l c)):∀(i:Nat) f,(pdF x)[i]?=some f->∃v,[.string x.n,.int .i64 x.c,.string x.z,.slice a l c,.string x.d,.int .i64 x.p][i]?=some v/\f.Fr w g Q v:=by
 intro i f h;rcases i with _|_|_|_|_|_|i
 ·cases h;exact⟨_,rfl,rfl,hn⟩
 ·cases h;exact⟨_,rfl,rfl⟩
 ·cases h;exact⟨_,rfl,rfl,hz⟩
 ·cases h;exact⟨_,rfl,hl⟩
 ·cases h;exact⟨_,rfl,rfl,hd⟩
 ·cases h;exact⟨_,rfl,rfl⟩
 ·simp[pdF] at h

theorem mz (x:Pd) (va:Option Addr) (vl vc:Nat) (w:World) (hr:av w va vl vc x.zs) (hl:vl<=8001):
  Calls Tryz.prog 153 #[.agg #[.string x.n,.int .i64 x.c,.string x.z,.slice va vl vc,.string x.d,.int .i64 x.p]] w fun e w'=> ∃a' l' c',e=.returned (.agg #[.string x.n,.int .i64 x.c,.string x.z,.slice a' l' c',.string x.d,.int .i64 x.p])/\bK w' a' l' c' x.zs (fun k=>w.heap.size<=k)/\Below w.heap.size w w':=by
 obtain⟨HR,HB⟩:=gL;clear hr;go_enter Tryz.func153,Tryz.ntmps153;go_wp2_with fail;refine (Ap.jg va vl vc x.zs _ (HR.below (HB.trans ((aM _ _ _).mono HB.size))) hl).mono ?_;rintro e w1 ⟨a',l',c',rfl,h1,h2,hb⟩;obtain⟨HA0,HA1,hbx⟩:=de hb;have Bp:=aa HA0;have Br:=aa HA1;replace HB:=upB HB hbx;clear hb hbx HA0 HA1;have HO:Hid (bK w1 a' l' c' x.zs (fun k=>w.heap.size+1+1<=k)):=⟨h1,h2.imp id fun ⟨g,cur,e1,e2,e3⟩=>⟨g,cur,e1,by simpa using e2,e3⟩⟩;clear h1 h2;obtain⟨p0,p1,p2,p3,p4,p5⟩:=cs6 Bp;obtain⟨r0,r1,r2,r3,r4,r5⟩:=cs6 Br;have fr0:=aw Br.out 0;have fr1:=aw Br.out 1;have fr2:=aw Br.out 2;have fp3:=aw Bp.out 3;have fr3:=aw Br.out 3;have fr4:=aw Br.out 4;have fr5:=aw Br.out 5;go_wp2_with fail;refine bodyPost_ret (v:=.agg #[.string x.n,.int .i64 x.c,.string x.z,.slice a' l' c',.string x.d,.int .i64 x.p]) (by simp[results,Tryz.results153,go_sem, *]) rfl ⟨a',l',c',rfl,HO.aN (fun k _ s=>by have s1:w.heap.size+1+1<=k:=s;rw[xi _ _ _ _ (show k≠w.heap.size+1 by omega),xi _ _ _ _ (show k≠w.heap.size+1 by omega),xi _ _ _ _ (show k≠w.heap.size+1 by omega),xi _ _ _ _ (show k≠w.heap.size+1 by omega),xi _ _ _ _ (show k≠w.heap.size+1 by omega),xi _ _ _ _ (show k≠w.heap.size+1 by omega),xi _ _ _ _ (show k≠w.heap.size by omega)]) (fun k _ s=>by have s1:w.heap.size+1+1<=k:=s;show w.heap.size<=k;omega),sb1 (sb1 (sb1 (sb1 (sb1 (sb1 (ah (xk _) (HB.out)))))))⟩

theorem jq (a:Option Addr) (len cap:Nat) (xs:List Pd) (w:World) (hr:aF w a len cap 6 (xs.map pdF)) (hl:len<=8) (hs:∀(j:Nat) x,xs[j]?=some x->x.zs.length<=8001):
  Calls Tryz.prog 152 #[.slice a len cap,.func (.func 153) #[] #[]] w fun e w'=> ∃a' c',e=.returned (.slice a' len c')/\az w' a' len c' 6 105 (xs.map pdF) (fun k=>w.heap.size<=k)/\Below w.heap.size w w':=by
 have HR:=aa hr;have HS:=aa hs;have hxl:xs.length=len:=dA
 clear hr hs;obtain⟨i0,hi,hz0,hz1,hz2⟩:=info_parts mD;have HI0:=aa (xf hi (xf hz0 (xf hz1 hz2)));clear hi hz0 hz1 hz2;go_enter Tryz.func152,Tryz.ntmps152;go_wp2;go_loopw [5,10] (fun vo vi wr=> ∃(k:Nat) (vss:List (List Value)) (H:Nat->Nat->Nat),k<=len/\vi=.int .i64 k/\Hid (wr.ownsRow w.heap.size 105 6 vo k vss.flatten)/\Hid (aP wr (fun k=>w.heap.size<=k) 6 ((xs.take k).map pdF) vss H)/\Hid (Below w.heap.size w wr)) (fun _ vi _=>len - (intOf vi).toNat);case atStart=>exact⟨0,[],fun _ _=>0,by omega,rfl,yq _ _ _ _,aP.nil _ _ _ _,xj _ _⟩
 case round=>
  obtain⟨k,vss,H,hk,rfl,HO,HV,HB⟩:=hrel;have hBs:=HB.size;by_cases hlt:k<len
  ·obtain⟨b,o,x,rfl,hb,hx,hat⟩:=cj (HR.below HB.out) hlt;obtain⟨va,vl,vc,hvr,z0,z2,z4,c0,c1,c2,c3,c4,c5⟩:=aS hat;obtain⟨hz8,HX,HT,HZz0⟩:=pU;have HZz2:=aa z2;have HZz4:=aa z4;clear hat hx hvr z0 z2 z4;go_wp2_with fail;refine (mz x va vl vc _ (HT.below (al _ _)) hz8).mono ?_;rintro e w2 ⟨a',l',c',rfl,ho,hb2⟩;obtain⟨-,hbx⟩:=aH hb2;rw[cB] at ho;obtain⟨g,hg⟩:=ho.fr;obtain⟨HG,HX2,HO2,hs2⟩:=pZ;clear ho hb2 hbx hg hb c0 c1 c2 c3 c4 c5;go_wp2_with (first|(at_builtin;refine wpList_append_own _ rfl _ _ 34 rfl w.heap.size 105 i0 (.agg #[.string ⟨#[]⟩,.int .i64 0,.string ⟨#[]⟩,.slice none 0 0,.string ⟨#[]⟩,.int .i64 0]) 6 88 Tryz.underlying34 HI0.1 HI0.2.1 HI0.2.2.1 HI0.2.2.2 rfl aj _ _ _ rfl (HO2.alloc _) ⟨w2.heap.size,0,none⟩ 1 1 [.string x.n,.int .i64 x.c,.string x.z,.slice a' l' c',.string x.d,.int .i64 x.p] rfl rfl ?c1 ?c2 ?c3 ?c4 ?c5 ?_));case c1=>exact cG _ _ _
   case c2=>intro u hu;simp only[xV,yu,or_false] at hu;rcases hu with rfl|rfl|rfl|rfl|rfl|rfl <;> rfl
   case c3=>unfold maxLen;omega
   case c4=>omega
   case c5=>simp;omega
   rintro v' w3 hown3 hgrow -;have HO3:Hid (w3.ownsRow w.heap.size 105 6 v' (k+1) (vss++([[.string x.n,.int .i64 x.c,.string x.z,.slice a' l' c',.string x.d,.int .i64 x.p]]:List (List Value))).flatten):=by
    exact lQ
   have hb23:Below wr.heap.size wr (w2.alloc (.cells (pov x a' l' c') 105)):=HX2.trans ((al _ _).mono (Nat.le_of_lt hs2));have hV:=HV.app (r:=pdF x) (vs:=[.string x.n,.int .i64 x.c,.string x.z,.slice a' l' c',.string x.d,.int .i64 x.p]) (hh:=g) hb23 (HO2.alloc _) aj hgrow rfl rfl
    (vf HZz0.out HZz2.out HZz4.out (HG.aN (S':=fun k=>w.heap.size<=k) (fun cu _ q=>xM _ _ _ (ae q)) (fun _ s=>by have s1:wr.heap.size+1<=g:=s;show w.heap.size<=g;omega)))
    (fun i zs hi hz=>by obtain⟨_,rfl⟩:=oD hi;have s1:wr.heap.size+1<=g:=(HG.lt hz).1;omega) (fun i i' zs zs' h1 _ h2 _=>(oD h1).1.trans (oD h2).1.symm)
   have e1:(xs.take (k+1)).map pdF=(xs.take k).map pdF++[pdF x]:=by rw[yb,HX.out];simp
   exact qx
  ·obtain rfl:len=k:=af
   have h5:=HV.out;rw[xw af] at h5;obtain⟨a',c',rfl,hR⟩:=h5.own HO.out (by simp[hxl]) aj (fun g hg=>(HO.lt g hg).1);have HR5:=aa hR;have hl5:(xs.map pdF).length=len:=by simpa using hxl
   exact l8

end Rc
end Go.Proofs.YtbbdcjbfnjlndaaGreatDoor

namespace Go.Proofs.YtbbdcjbfnjlndaaGreatDoor
open Go.RowKit

theorem r8 (n:ByteArray) (c:Int) (z k:ByteArray) (x:Bool) (m:ByteArray) (y:Bool) (a:Option Addr) (len cap:Nat) (zs:List ByteArray) (w:World) (hn:n.size<=9223372036854775807) (hz:z.size<=9223372036854775807) (hk:k.size<=9223372036854775807) (hm:m.size<=9223372036854775807) (hr:av w a len cap zs):
  Calls Tryz.prog 206 #[.agg #[.string n,.int .i64 c,.string z,.string k,.bool x,.string m,.bool y,.slice a len cap]] w (aq (sz n c z k x m y zs) w):=by
 have HR:Hid (av w a len cap zs):=hr;clear hr;cases y
 ·have HY:Hid (false=true->m=⟨#[]⟩):=fun h=>bM;by_cases p0:bc n;case neg=>
   exact uW
  have F0:Hid (∀w,Calls Tryz.prog 207 #[.string n] w fun e w'=>e=.returned (.bool true)/\w'=w):=fun w=>(aV n w hn).mono fun _ _ h=>h.yes p0;by_cases p1:Inn c 1 1048576;case neg=>
   exact u6
  have F1:Hid (∀w,Calls Tryz.prog 77 #[.int .i64 c,.int .i64 1,.int .i64 1048576] w fun e w'=>e=.returned (.bool true)/\w'=w):=fun w=>(bC c 1 1048576 w).mono fun _ _ h=>h.yes p1;by_cases p2:bc z;case neg=>
   exact u9
  have F2:Hid (∀w,Calls Tryz.prog 207 #[.string z] w fun e w'=>e=.returned (.bool true)/\w'=w):=fun w=>(aV z w hz).mono fun _ _ h=>h.yes p2;by_cases p3:bc k;case neg=>
   exact u_
  have F3:Hid (∀w,Calls Tryz.prog 207 #[.string k] w fun e w'=>e=.returned (.bool true)/\w'=w):=fun w=>(aV k w hk).mono fun _ _ h=>h.yes p3;by_cases p4:cW m;case neg=>
   have F4:Hid (∀w,Calls Tryz.prog 208 #[.string m] w fun e w'=>e=.returned (.bool false)/\w'=w):=fun w=>(cI m w hm).mono fun _ _ h=>h.no p4;have HP:=aa p4;clear p4;go_enter Tryz.func206,Tryz.ntmps206;go_wp2_with fail;go_quiet ((first|(go_at_call_of 207 (xo n);exact xI (F0.out _))|(go_at_call_of 77 (Value.int .i64 c);exact xI (F1.out _))|(go_at_call_of 207 (xo z);exact xI (F2.out _))|(go_at_call_of 207 (xo k);exact xI (F3.out _))|(go_at_call_of 208 (xo m);exact xI (F4.out _))));exact rD
  have F4:Hid (∀w,Calls Tryz.prog 208 #[.string m] w fun e w'=>e=.returned (.bool true)/\w'=w):=fun w=>(cI m w hm).mono fun _ _ h=>h.yes p4;obtain⟨q,hq⟩:∃q:Int,q=if x=true then 1 else 6:=⟨_,rfl⟩;have HM:Hid (∀w,Calls Tryz.prog 210 #[.agg #[.string n,.int .i64 c,.string z,.string k,.bool x,.string m,.bool false,.slice a len cap]] w fun e w'=>e=.returned (.int .i64 q)/\Below w.heap.size w w'):=fun w=>by rw[hq];exact hE n c z k x m false a len cap w
  have HQ:Hid (q=if x=true then 1 else 6):=hq;clear hq;go_enter Tryz.func206,Tryz.ntmps206;go_wp2_with fail;go_region_with (first|(go_at_call_of 207 (xo n);refine (F0.out _).mono ?_;rintro e w1 ⟨rfl,rfl⟩)|(go_at_call_of 77 (Value.int .i64 c);refine (F1.out _).mono ?_;rintro e w1 ⟨rfl,rfl⟩)|(go_at_call_of 207 (xo z);refine (F2.out _).mono ?_;rintro e w1 ⟨rfl,rfl⟩)|(go_at_call_of 207 (xo k);refine (F3.out _).mono ?_;rintro e w1 ⟨rfl,rfl⟩)|(go_at_call_of 208 (xo m);refine (F4.out _).mono ?_;rintro e w1 ⟨rfl,rfl⟩)|(go_at_call 210;refine (HM.out _).mono ?_;rintro e w1 ⟨rfl,hb⟩;have hc7:=aD (fF hb).1 7;simp only[List.getElem?_toArray,List.getElem?_cons_succ,List.getElem?_cons_zero] at hc7)|(go_at_call 209;refine (dM a len cap zs _ _ (HR.below (fF hb).2.1)).mono ?_;rintro e w2 ⟨r,rfl,hr,rfl⟩));all_goals (
   go_wp2_with fail;go_ret
   exact⟨r,rfl,⟨fun h=>⟨p0,p1,p2,p3,p4,HY.out,HQ.out ▸ hr.1 h⟩,fun h=>hr.2 (HQ.out ▸ h.2.2.2.2.2.2)⟩,(fF hb).2.1⟩)
 by_cases hm0:m=⟨#[]⟩
 ·subst hm0;have HY:Hid True:=trivial;by_cases p0:bc n;case neg=>
   exact uW
  have F0:Hid (∀w,Calls Tryz.prog 207 #[.string n] w fun e w'=>e=.returned (.bool true)/\w'=w):=fun w=>(aV n w hn).mono fun _ _ h=>h.yes p0;by_cases p1:Inn c 1 1048576;case neg=>
   exact u6
  have F1:Hid (∀w,Calls Tryz.prog 77 #[.int .i64 c,.int .i64 1,.int .i64 1048576] w fun e w'=>e=.returned (.bool true)/\w'=w):=fun w=>(bC c 1 1048576 w).mono fun _ _ h=>h.yes p1;by_cases p2:bc z;case neg=>
   exact u9
  have F2:Hid (∀w,Calls Tryz.prog 207 #[.string z] w fun e w'=>e=.returned (.bool true)/\w'=w):=fun w=>(aV z w hz).mono fun _ _ h=>h.yes p2;by_cases p3:bc k;case neg=>
   exact u_
  have F3:Hid (∀w,Calls Tryz.prog 207 #[.string k] w fun e w'=>e=.returned (.bool true)/\w'=w):=fun w=>(aV k w hk).mono fun _ _ h=>h.yes p3;by_cases p4:cW (⟨#[]⟩:ByteArray);case neg=>
   have F4:Hid (∀w,Calls Tryz.prog 208 #[.string (⟨#[]⟩:ByteArray)] w fun e w'=>e=.returned (.bool false)/\w'=w):=fun w=>(cI (⟨#[]⟩:ByteArray) w hm).mono fun _ _ h=>h.no p4;have HP:=aa p4;clear p4;go_enter Tryz.func206,Tryz.ntmps206;go_wp2_with fail;go_quiet ((first|(go_at_call_of 207 (xo n);exact xI (F0.out _))|(go_at_call_of 77 (Value.int .i64 c);exact xI (F1.out _))|(go_at_call_of 207 (xo z);exact xI (F2.out _))|(go_at_call_of 207 (xo k);exact xI (F3.out _))|(go_at_call_of 208 (xo (⟨#[]⟩:ByteArray));exact xI (F4.out _))));exact rD
  have F4:Hid (∀w,Calls Tryz.prog 208 #[.string (⟨#[]⟩:ByteArray)] w fun e w'=>e=.returned (.bool true)/\w'=w):=fun w=>(cI (⟨#[]⟩:ByteArray) w hm).mono fun _ _ h=>h.yes p4;obtain⟨q,hq⟩:∃q:Int,q=if x=true then 1 else 6:=⟨_,rfl⟩;have HM:Hid (∀w,Calls Tryz.prog 210 #[.agg #[.string n,.int .i64 c,.string z,.string k,.bool x,.string (⟨#[]⟩:ByteArray),.bool true,.slice a len cap]] w fun e w'=>e=.returned (.int .i64 q)/\Below w.heap.size w w'):=fun w=>by rw[hq];exact hE n c z k x (⟨#[]⟩:ByteArray) true a len cap w
  have HQ:Hid (q=if x=true then 1 else 6):=hq;clear hq;go_enter Tryz.func206,Tryz.ntmps206;go_wp2_with fail;go_region_with (first|(go_at_call_of 207 (xo n);refine (F0.out _).mono ?_;rintro e w1 ⟨rfl,rfl⟩)|(go_at_call_of 77 (Value.int .i64 c);refine (F1.out _).mono ?_;rintro e w1 ⟨rfl,rfl⟩)|(go_at_call_of 207 (xo z);refine (F2.out _).mono ?_;rintro e w1 ⟨rfl,rfl⟩)|(go_at_call_of 207 (xo k);refine (F3.out _).mono ?_;rintro e w1 ⟨rfl,rfl⟩)|(go_at_call_of 208 (xo (⟨#[]⟩:ByteArray));refine (F4.out _).mono ?_;rintro e w1 ⟨rfl,rfl⟩)|(go_at_call 210;refine (HM.out _).mono ?_;rintro e w1 ⟨rfl,hb⟩;have hc7:=aD (fF hb).1 7;simp only[List.getElem?_toArray,List.getElem?_cons_succ,List.getElem?_cons_zero] at hc7)|(go_at_call 209;refine (dM a len cap zs _ _ (HR.below (fF hb).2.1)).mono ?_;rintro e w2 ⟨r,rfl,hr,rfl⟩));all_goals (
   go_wp2_with fail;go_ret
   exact⟨r,rfl,⟨fun h=>⟨p0,p1,p2,p3,p4,(fun _=>rfl),HQ.out ▸ hr.1 h⟩,fun h=>hr.2 (HQ.out ▸ h.2.2.2.2.2.2)⟩,(fF hb).2.1⟩)
 have hq9:=bo hm0;go_enter Tryz.func206,Tryz.ntmps206;exact qG

end Go.Proofs.YtbbdcjbfnjlndaaGreatDoor

namespace Go.Proofs.YtbbdcjbfnjlndaaGreatDoor
open Go.RowKit
namespace Rc
open Mk

theorem fB (x:Nd) (va:Option Addr) (vl vc:Nat) (w:World):
  Calls Tryz.prog 213 #[.agg #[.string x.n,.string x.z,.int .i64 x.c,.int .i64 x.s,.int .i64 x.u,.bool x.d,.slice va vl vc]] w fun e w'=>e=.returned (.string x.n)/\Below w.heap.size w w':=by
 go_enter Tryz.func213,Tryz.ntmps213;go_wp2;go_ret;exact⟨rfl,al _ _⟩

theorem j7 (x:Nd) (va:Option Addr) (vl vc:Nat) (w:World) (hn:x.n.size<=9223372036854775807) (hz:x.z.size<=9223372036854775807) (hr:av w va vl vc x.zs):
  Calls Tryz.prog 214 #[.agg #[.string x.n,.string x.z,.int .i64 x.c,.int .i64 x.s,.int .i64 x.u,.bool x.d,.slice va vl vc]] w (aq (mg x) w):=by
 have HR:=aa (hr.below (al w (.cells (nov x va vl vc) 103)));clear hr;go_enter Tryz.func214,Tryz.ntmps214;go_wp2_with fail;refine (oP x.n x.z x.c x.s x.u x.d va vl vc x.zs _ hn hz HR.out).mono ?_;exact kJ

theorem kR (a:Option Addr) (len cap:Nat) (xs:List Nd) (t:ByteArray) (w:World) (hr:aF w a len cap 7 (xs.map ndF)):
  Calls Tryz.prog 182 #[.slice a len cap,.string t] w fun e w'=>e=.returned (.tuple #[.int .i64 (pl Nd.n xs t:Nat),.bool (hit Nd.n xs t)])/\Below w.heap.size w w':=by
 obtain⟨HR,hxl,hlc⟩:=ff;clear hr;have hmcalled:∀(v:Value) (w:World),(method 362 103 v "loop.example/g00571/impl.called").run Tryz.prog w=.ok (213,v) w:=fun _ _=>by kernel_rfl
 go_enter Tryz.func182,Tryz.ntmps182;go_wp2;go_loopw [10] (fun i wr=> ∃k:Nat,k<=len/\i=.int .i64 k/\Hid (∀(j:Nat) y,j<k->xs[j]?=some y->xn y.n.toList t.toList=true)/\Hid (Below w.heap.size w wr)) (fun i _=>len - (intOf i).toNat);case atStart=>exact⟨0,by omega,rfl,fun j y hj=>by omega,xj _ _⟩
 case round=>
  obtain⟨k,hk,rfl,HE,HB⟩:=hrel;by_cases hlt:k<len
  ·obtain⟨b,o,x,rfl,hb,hx,hat⟩:=bU (HR.below HB.out) hlt;obtain⟨va,vl,vc,hvr,z0,z1,c0,c1,c2,c3,c4,c5,c6⟩:=aQ hat;have HX:=aa hx;clear hat hx z0 z1 hvr;have HC:=aa (fun v:World=>fB x va vl vc v);have HB1:=aa (HB.alloc HB.size (.cells (nov x va vl vc) 103));go_wp2_with fail;refine (HC.out _).mono ?_;rintro e w1 ⟨rfl,hb1⟩;obtain⟨g1,-,-⟩:=cm hb1;have hs1:=hb1.size;rw[show (wr.alloc (.cells (nov x va vl vc) 103)).heap.size=wr.heap.size+1 from by simp] at hs1;obtain⟨HB2,d0,d1,d2,d3⟩:=fe;have d4:=ck4 g1;have d5:=ck5 g1;have d6:=ck6 g1;clear g1 hb1 c0 c1 c2 c3 c4 c5 c6 HB1;cases hless:xn x.n.toList t.toList
   ·go_wp2_with fail;refine (HC.out _).mono ?_;rintro e w2 ⟨rfl,hb2⟩;obtain⟨HB3,hp⟩:=nF;clear hb2;go_wp2_with fail;refine bodyPost_ret (v:=.tuple #[.int .i64 k,.bool (x.n.toList==t.toList)]) (by simp[results,Tryz.results182,go_sem]) rfl ⟨?_,HB3.out⟩;unfold hit;rw[hp,HX.out]
   ·exact nQ
  ·obtain rfl:k=len:=af
   have hp:pl Nd.n xs t=xs.length:=gX (fun j y hy=>HE.out j y nx hy);have hh:hit Nd.n xs t=false:=by unfold hit;rw[hp,yi (xk _)]
   have HP:=aa hp;have HH:=aa hh;clear hp hh;go_wp2;exact bodyPost_ret (v:=.tuple #[.int .i64 k,.bool false]) (by simp[results,Tryz.results182,go_sem]) rfl ⟨by rw[HP.out,HH.out,hxl],HB.out⟩

def oj (xs:List Nd) (t:ByteArray) (r w:World) (e:Ending) (w':World):Prop:=
 Below w.heap.size w w'/\((hit Nd.n xs t=true/\∃(x:Nd) (va:Option Addr) (vl vc:Nat),xs[pl Nd.n xs t]?=some x/\x.n=t/\e=.returned (.tuple #[.agg #[.string x.n,.string x.z,.int .i64 x.c,.int .i64 x.s,.int .i64 x.u,.bool x.d,.slice va vl vc],.bool true])/\x.n.size<=9223372036854775807/\x.z.size<=9223372036854775807/\av r va vl vc x.zs)\/(hit Nd.n xs t=false/\e=.returned (.tuple #[.agg #[.string ⟨#[]⟩,.string ⟨#[]⟩,.int .i64 0,.int .i64 0,.int .i64 0,.bool false,.slice none 0 0],.bool false])))

theorem mS (a:Option Addr) (len cap:Nat) (xs:List Nd) (t:ByteArray) (r w:World) (hr:aF r a len cap 7 (xs.map ndF)) (hrw:Below r.heap.size r w):
  Calls Tryz.prog 171 #[.slice a len cap,.string t] w (oj xs t r w):=by
 have HR:=aa hr;have HRW:=aa hrw;have hxl:xs.length=len:=dA
 have HR1:=aa ((hr.below hrw).below (al w (.cells #[.string ⟨#[]⟩,.string ⟨#[]⟩,.int .i64 0,.int .i64 0,.int .i64 0,.bool false,.slice none 0 0] 103)));clear hr hrw;go_enter Tryz.func171,Tryz.ntmps171;go_wp2_with fail;refine (kR a len cap xs t _ HR1.out).mono ?_;rintro e w1 ⟨rfl,hb⟩;obtain⟨g1,hb1,-⟩:=cm hb;obtain⟨d0,f0,d1,f1,d2,f2,d3,f3⟩:=gf;obtain⟨d4,f4,d5,f5,d6,f6⟩:=nC;have HB:=aa hb1;have hs1:=hb.size;rw[show (w.alloc (.cells #[.string ⟨#[]⟩,.string ⟨#[]⟩,.int .i64 0,.int .i64 0,.int .i64 0,.bool false,.slice none 0 0] 103)).heap.size=w.heap.size+1 from by simp] at hs1;have hlt1:w.heap.size<w1.heap.size:=af
 clear hb g1 HR1 hs1;cases hh:hit Nd.n xs t
 ·generalize pl Nd.n xs t=j;have HH:=aa hh;clear hh hb1 HR hxl;go_wp2;refine bodyPost_ret (v:=.tuple #[.agg #[.string ⟨#[]⟩,.string ⟨#[]⟩,.int .i64 0,.int .i64 0,.int .i64 0,.bool false,.slice none 0 0],.bool false]) (by simp[results,Tryz.results171,go_sem, *]) rfl ⟨?_,.inr ⟨HH.out,rfl⟩⟩;exact Below.alloc (ah (xk _) (ah (xk _) (ah (xk _) (ah (xk _) (ah (xk _) (ah (xk _) (ah (xk _) (HB.out)))))))) iy _
 ·obtain⟨x,hx,hn⟩:=fu hh;have hj:pl Nd.n xs t<len:=by have:=(xe.1 hx).1;omega
  obtain⟨b,o,y,rfl,hbl,hy,hat⟩:=bU HR.out hj;rw[hx] at hy;obtain rfl:=xh hy;obtain⟨va,vl,vc,hvr,z0,z1,c0,c1,c2,c3,c4,c5,c6⟩:=aQ hat;obtain⟨hbw,e0,e1,e2,e3⟩:=sM;obtain⟨e4,e5,e6⟩:=tJ;have HI:Hid (oj xs t r w (.returned (.tuple #[.agg #[.string x.n,.string x.z,.int .i64 x.c,.int .i64 x.s,.int .i64 x.u,.bool x.d,.slice va vl vc],.bool true])) w):=⟨xj _ _,.inl ⟨hh,x,va,vl,vc,hx,hn,rfl,z0,z1,hvr⟩⟩;clear c0 c1 c2 c3 c4 c5 c6 hat hx hn hy hh z0 z1 hvr HR HRW hb1;obtain⟨j,hjj⟩:∃j,pl Nd.n xs t=j:=⟨_,rfl⟩;rw[hjj] at hj;simp only[hjj] at*;clear hjj;go_wp2;refine bodyPost_ret (v:=.tuple #[.agg #[.string x.n,.string x.z,.int .i64 x.c,.int .i64 x.s,.int .i64 x.u,.bool x.d,.slice va vl vc],.bool true]) (by simp[results,Tryz.results171,go_sem, *]) rfl ⟨?_,HI.2⟩;exact ah (xk _) (ah (xk _) (ah (xk _) (ah (xk _) (ah (xk _) (ah (xk _) (ah (xk _) (HB.out)))))))

theorem dz (d:Ad) (now:Int) (xs:List Nd) (t:ByteArray) (r w:World) (hr:aF r d.a1 d.l1 d.c1 7 (xs.map ndF)) (hrw:Below r.heap.size r w):
  Calls Tryz.prog 136 #[.agg #[.slice d.a1 d.l1 d.c1,.slice d.a2 d.l2 d.c2,.slice d.a3 d.l3 d.c3,.slice d.a4 d.l4 d.c4,.slice d.a5 d.l5 d.c5,.int .i64 now],.string t] w (oj xs t r w):=by
 have HR:=aa hr;have HRW:=aa (hrw.trans ((aM w (.cells (clv d now) 36) (.cells #[.string ⟨#[]⟩,.string ⟨#[]⟩,.int .i64 0,.int .i64 0,.int .i64 0,.bool false,.slice none 0 0] 103)).mono hrw.size));clear hr hrw;go_enter Tryz.func136,Tryz.ntmps136;go_wp2_with fail;refine (mS _ _ _ xs t r _ HR.out HRW.out).mono ?_;rintro e w1 ⟨hb,hf⟩;have g1:=(hb.block (w.heap.size+1) aT).trans (bV _ _ _);obtain⟨d0,f0,d1,f1,d2,f2,d3,f3⟩:=gf;obtain⟨d4,f4,d5,f5,d6,f6⟩:=nC;have HB:Hid (Below w.heap.size w w1):=(aM _ _ _).trans (hb.mono bX);clear g1 hb HR HRW;rcases hf with ⟨hh,x,va,vl,vc,hx,hn,rfl,z0,z1,hvr⟩|⟨hh,rfl⟩
 ·have HI:Hid (oj xs t r w (.returned (.tuple #[.agg #[.string x.n,.string x.z,.int .i64 x.c,.int .i64 x.s,.int .i64 x.u,.bool x.d,.slice va vl vc],.bool true])) w):=⟨xj _ _,.inl ⟨hh,x,va,vl,vc,hx,hn,rfl,z0,z1,hvr⟩⟩;clear hx hn hh z0 z1 hvr;go_wp2;refine bodyPost_ret (v:=.tuple #[.agg #[.string x.n,.string x.z,.int .i64 x.c,.int .i64 x.s,.int .i64 x.u,.bool x.d,.slice va vl vc],.bool true]) (by simp[results,Tryz.results136,go_sem, *]) rfl ⟨?_,HI.2⟩;exact uo
 ·have HH:=aa hh;clear hh;go_wp2;refine bodyPost_ret (v:=.tuple #[.agg #[.string ⟨#[]⟩,.string ⟨#[]⟩,.int .i64 0,.int .i64 0,.int .i64 0,.bool false,.slice none 0 0],.bool false]) (by simp[results,Tryz.results136,go_sem, *]) rfl ⟨?_,.inr ⟨HH.out,rfl⟩⟩;exact uo

theorem lN (a:Option Addr) (len cap:Nat) (xs:List Nd) (most:Int) (w:World) (hr:aF w a len cap 7 (xs.map ndF)):
  Calls Tryz.prog 125 #[.slice a len cap,.int .i64 most] w (aq (dm mg Nd.n xs most) w):=by
 obtain⟨HR,hxl,hlc⟩:=ff;clear hr;have hmcalled:∀(v:Value) (w:World),(method 362 103 v "loop.example/g00571/impl.called").run Tryz.prog w=.ok (213,v) w:=fun _ _=>by kernel_rfl
 have hmright:∀(v:Value) (w:World),(method 362 103 v "loop.example/g00571/impl.right").run Tryz.prog w=.ok (214,v) w:=fun _ _=>by kernel_rfl
 by_cases hmo:most<(len:Int)
 ·go_enter Tryz.func125,Tryz.ntmps125;exact kB
 go_enter Tryz.func125,Tryz.ntmps125;go_wp2;go_loopw [5,14] (fun q i wr=> ∃(k:Nat) (y:ByteArray),k<=len/\q=.string y/\i=.int .i64 k/\Hid (k=0->y=⟨#[]⟩)/\Hid (∀z,0<k->xs[k - 1]?=some z->z.n=y)/\Hid (∀(j:Nat) z,j<k->xs[j]?=some z->mg z)/\Hid (∀(j:Nat) z u,j+1<k->xs[j+1]?=some z->xs[j]?=some u->xn u.n.toList z.n.toList=true)/\Hid (Below w.heap.size w wr)) (fun _ i _=>len - (intOf i).toNat);case atStart=>exact⟨0,_,by omega,rfl,rfl,fun _=>rfl,fun _ h=>absurd h af,fun _ _ h=>absurd h af,fun _ _ _ h=>absurd h af,xj _ _⟩
 case round=>
  obtain⟨k,y,hk,rfl,rfl,H0,H1,HE,HO,HB⟩:=hrel;by_cases hlt:k<len
  ·obtain⟨b,o,x,rfl,hb,hx,hat⟩:=bU (HR.below HB.out) hlt;obtain⟨va,vl,vc,hvr,z0,z1,c0,c1,c2,c3,c4,c5,c6⟩:=aQ hat;have HX:=aa hx;have HC:=aa (fun v:World=>fB x va vl vc v);have HB1:=aa (HB.alloc HB.size (.cells (nov x va vl vc) 103));have HRt:=aa (j7 x va vl vc (wr.alloc (.cells (nov x va vl vc) 103)) z0 z1 (hvr.below (al _ _)));clear hat hx z0 z1 hvr;go_wp2_with fail;refine HRt.mono ?_;rintro e w1 ⟨r,rfl,hrt,hb1⟩;obtain⟨g1,-,-⟩:=cm hb1;have hs1:=hb1.size;rw[show (wr.alloc (.cells (nov x va vl vc) 103)).heap.size=wr.heap.size+1 from by simp] at hs1;obtain⟨HB2,d0,d1,d2,d3⟩:=fe;have d4:=ck4 g1;have d5:=ck5 g1;have d6:=ck6 g1;have HG:=aa g1;have HI:=aa hrt;clear g1 hb1 HB1 HRt hrt c0 c1 c2 c3 c4 c5 c6;cases r
   ·exact kF
   have HOK:=aa (HI.1 rfl);clear HI;go_wp2_with fail;refine (HC.out _).mono ?_;rintro e w2 ⟨rfl,hb2⟩;obtain⟨HB3,g2,hs2,htri⟩:=kv;clear HG hb2 HB2 d0 d1 d2 d3 d4 d5 d6;have d0:=ck0 g2;have d1:=ck1 g2;have d2:=ck2 g2;have d3:=ck3 g2;have d4:=ck4 g2;have d5:=ck5 g2;have d6:=ck6 g2;clear g2;cases hless:xn y.toList x.n.toList
   ·exact qh
   ·rw[hless] at htri;go_wp2_with fail;refine (HC.out _).mono ?_;rintro e w3 ⟨rfl,hb3⟩;have HB4:=aa (HB3.trans (hb3.mono (xp HB.size af)));clear hb3 d0 d1 d2 d3 d4 d5 d6;exact qu
  ·exact kO

def wX (xs:List Nd) (t:ByteArray) (w:World) (e:Ending) (w':World):Prop:=
 Below w.heap.size w w'/\((∃(j:Nat) (x:Nd),xs[j]?=some x/\x.n=t/\e=.returned (.int .i64 j))\/((∀(j:Nat) x,xs[j]?=some x->¬x.n=t)/\e=.returned (.int .i64 (-1))))

theorem gI (d:Ad) (now:Int) (xs:List Nd) (t:ByteArray) (w:World) (hr:aF w d.a1 d.l1 d.c1 7 (xs.map ndF)):
  Calls Tryz.prog 71 #[.agg #[.slice d.a1 d.l1 d.c1,.slice d.a2 d.l2 d.c2,.slice d.a3 d.l3 d.c3,.slice d.a4 d.l4 d.c4,.slice d.a5 d.l5 d.c5,.int .i64 now],.string t] w (wX xs t w):=by
 have HR:=aa hr;have hxl:xs.length=d.l1:=dA
 have hlc:=xp hr.2.1 hr.2.2.1;clear hr;go_enter Tryz.func71,Tryz.ntmps71;go_wp2;go_loopw [5] (fun i wr=> ∃k:Nat,k<=d.l1/\i=.int .i64 k/\wr=w.alloc (.cells #[.slice d.a1 d.l1 d.c1,.slice d.a2 d.l2 d.c2,.slice d.a3 d.l3 d.c3,.slice d.a4 d.l4 d.c4,.slice d.a5 d.l5 d.c5,.int .i64 now] 36)/\Hid (∀(j:Nat) z,j<k->xs[j]?=some z->¬z.n=t)) (fun i _=>d.l1 - (intOf i).toNat);case atStart=>exact⟨0,by omega,rfl,rfl,fun _ _ h=>absurd h af⟩
 case round=>
  obtain⟨k,hk,rfl,rfl,HE⟩:=hrel;by_cases hlt:k<d.l1
  ·obtain⟨b,o,x,ha,hb,hx,hat⟩:=bU HR.out hlt;obtain⟨va,vl,vc,hvr,-,-,c0,-,-,-,-,-,-⟩:=aQ hat;have HX:=aa hx;clear hat hx hvr;exact nR
  ·obtain rfl:k=d.l1:=af
   exact nN

theorem fC (x:Kd)  (w:World):
  Calls Tryz.prog 220 #[.agg #[.string x.n,.bool x.x,.bool x.y,.string x.z]] w fun e w'=>e=.returned (.string x.n)/\Below w.heap.size w w':=by
 go_enter Tryz.func220,Tryz.ntmps220;go_wp2;go_ret;exact⟨rfl,al _ _⟩

theorem j8 (x:Kd)  (w:World) (hn:x.n.size<=9223372036854775807) (hz:x.z.size<=9223372036854775807):
  Calls Tryz.prog 221 #[.agg #[.string x.n,.bool x.x,.bool x.y,.string x.z]] w (aq (mu x) w):=by
 skip;skip;go_enter Tryz.func221,Tryz.ntmps221;go_wp2_with fail;refine (mH x.n x.z x.x x.y _ hn hz).mono ?_;exact kJ

theorem kS (a:Option Addr) (len cap:Nat) (xs:List Kd) (t:ByteArray) (w:World) (hr:aF w a len cap 4 (xs.map kdF)):
  Calls Tryz.prog 186 #[.slice a len cap,.string t] w fun e w'=>e=.returned (.tuple #[.int .i64 (pl Kd.n xs t:Nat),.bool (hit Kd.n xs t)])/\Below w.heap.size w w':=by
 obtain⟨HR,hxl,hlc⟩:=ff;clear hr;have hmcalled:∀(v:Value) (w:World),(method 362 111 v "loop.example/g00571/impl.called").run Tryz.prog w=.ok (220,v) w:=fun _ _=>by kernel_rfl
 go_enter Tryz.func186,Tryz.ntmps186;go_wp2;go_loopw [10] (fun i wr=> ∃k:Nat,k<=len/\i=.int .i64 k/\Hid (∀(j:Nat) y,j<k->xs[j]?=some y->xn y.n.toList t.toList=true)/\Hid (Below w.heap.size w wr)) (fun i _=>len - (intOf i).toNat);case atStart=>exact⟨0,by omega,rfl,fun j y hj=>by omega,xj _ _⟩
 case round=>
  obtain⟨k,hk,rfl,HE,HB⟩:=hrel;by_cases hlt:k<len
  ·obtain⟨b,o,x,rfl,hb,hx,hat⟩:=eL (HR.below HB.out) hlt;obtain⟨z0,z3,c0,c1,c2,c3⟩:=bO hat;have HX:=aa hx;clear hat hx z0 z3;have HC:=aa (fun v:World=>fC x v);have HB1:=aa (HB.alloc HB.size (.cells #[.string x.n,.bool x.x,.bool x.y,.string x.z] 111));go_wp2_with fail;refine (HC.out _).mono ?_;rintro e w1 ⟨rfl,hb1⟩;obtain⟨g1,-,-⟩:=cm hb1;have hs1:=hb1.size;rw[show (wr.alloc (.cells #[.string x.n,.bool x.x,.bool x.y,.string x.z] 111)).heap.size=wr.heap.size+1 from by simp] at hs1;obtain⟨HB2,d0,d1,d2,d3⟩:=fe;clear g1 hb1 c0 c1 c2 c3 HB1;cases hless:xn x.n.toList t.toList
   ·go_wp2_with fail;refine (HC.out _).mono ?_;rintro e w2 ⟨rfl,hb2⟩;obtain⟨HB3,hp⟩:=nF;clear hb2;go_wp2_with fail;refine bodyPost_ret (v:=.tuple #[.int .i64 k,.bool (x.n.toList==t.toList)]) (by simp[results,Tryz.results186,go_sem]) rfl ⟨?_,HB3.out⟩;unfold hit;rw[hp,HX.out]
   ·exact nQ
  ·obtain rfl:k=len:=af
   have hp:pl Kd.n xs t=xs.length:=gX (fun j y hy=>HE.out j y nx hy);have hh:hit Kd.n xs t=false:=by unfold hit;rw[hp,yi (xk _)]
   have HP:=aa hp;have HH:=aa hh;clear hp hh;go_wp2;exact bodyPost_ret (v:=.tuple #[.int .i64 k,.bool false]) (by simp[results,Tryz.results186,go_sem]) rfl ⟨by rw[HP.out,HH.out,hxl],HB.out⟩

def om (xs:List Kd) (t:ByteArray) (_r w:World) (e:Ending) (w':World):Prop:=
 Below w.heap.size w w'/\((hit Kd.n xs t=true/\∃(x:Kd),xs[pl Kd.n xs t]?=some x/\x.n=t/\e=.returned (.tuple #[.agg #[.string x.n,.bool x.x,.bool x.y,.string x.z],.bool true])/\x.n.size<=9223372036854775807/\x.z.size<=9223372036854775807)\/(hit Kd.n xs t=false/\e=.returned (.tuple #[.agg #[.string ⟨#[]⟩,.bool false,.bool false,.string ⟨#[]⟩],.bool false])))

theorem mT (a:Option Addr) (len cap:Nat) (xs:List Kd) (t:ByteArray) (r w:World) (hr:aF r a len cap 4 (xs.map kdF)) (hrw:Below r.heap.size r w):
  Calls Tryz.prog 180 #[.slice a len cap,.string t] w (om xs t r w):=by
 have HR:=aa hr;have HRW:=aa hrw;have hxl:xs.length=len:=dA
 have HR1:=aa ((hr.below hrw).below (al w (.cells #[.string ⟨#[]⟩,.bool false,.bool false,.string ⟨#[]⟩] 111)));clear hr hrw;go_enter Tryz.func180,Tryz.ntmps180;go_wp2_with fail;refine (kS a len cap xs t _ HR1.out).mono ?_;rintro e w1 ⟨rfl,hb⟩;obtain⟨g1,hb1,-⟩:=cm hb;obtain⟨d0,f0,d1,f1,d2,f2,d3,f3⟩:=gf;have HB:=aa hb1;have hs1:=hb.size;rw[show (w.alloc (.cells #[.string ⟨#[]⟩,.bool false,.bool false,.string ⟨#[]⟩] 111)).heap.size=w.heap.size+1 from by simp] at hs1;have hlt1:w.heap.size<w1.heap.size:=af
 clear hb g1 HR1 hs1;cases hh:hit Kd.n xs t
 ·generalize pl Kd.n xs t=j;have HH:=aa hh;clear hh hb1 HR hxl;go_wp2;refine bodyPost_ret (v:=.tuple #[.agg #[.string ⟨#[]⟩,.bool false,.bool false,.string ⟨#[]⟩],.bool false]) (by simp[results,Tryz.results180,go_sem, *]) rfl ⟨?_,.inr ⟨HH.out,rfl⟩⟩;exact Below.alloc (ah (xk _) (ah (xk _) (ah (xk _) (ah (xk _) (HB.out))))) iy _
 ·obtain⟨x,hx,hn⟩:=fu hh;have hj:pl Kd.n xs t<len:=by have:=(xe.1 hx).1;omega
  obtain⟨b,o,y,rfl,hbl,hy,hat⟩:=eL HR.out hj;rw[hx] at hy;obtain rfl:=xh hy;obtain⟨z0,z3,c0,c1,c2,c3⟩:=bO hat;obtain⟨hbw,e0,e1,e2,e3⟩:=sM;have HI:Hid (om xs t r w (.returned (.tuple #[.agg #[.string x.n,.bool x.x,.bool x.y,.string x.z],.bool true])) w):=⟨xj _ _,.inl ⟨hh,x,hx,hn,rfl,z0,z3⟩⟩;clear c0 c1 c2 c3 hat hx hn hy hh z0 z3 HR HRW hb1;obtain⟨j,hjj⟩:∃j,pl Kd.n xs t=j:=⟨_,rfl⟩;rw[hjj] at hj;simp only[hjj] at*;clear hjj;go_wp2;refine bodyPost_ret (v:=.tuple #[.agg #[.string x.n,.bool x.x,.bool x.y,.string x.z],.bool true]) (by simp[results,Tryz.results180,go_sem, *]) rfl ⟨?_,HI.2⟩;exact ah (xk _) (ah (xk _) (ah (xk _) (ah (xk _) (HB.out))))

theorem ou (d:Ad) (now:Int) (xs:List Kd) (t:ByteArray) (r w:World) (hr:aF r d.a2 d.l2 d.c2 4 (xs.map kdF)) (hrw:Below r.heap.size r w):
  Calls Tryz.prog 169 #[.agg #[.slice d.a1 d.l1 d.c1,.slice d.a2 d.l2 d.c2,.slice d.a3 d.l3 d.c3,.slice d.a4 d.l4 d.c4,.slice d.a5 d.l5 d.c5,.int .i64 now],.string t] w (om xs t r w):=by
 have HR:=aa hr;have HRW:=aa (hrw.trans ((aM w (.cells (clv d now) 36) (.cells #[.string ⟨#[]⟩,.bool false,.bool false,.string ⟨#[]⟩] 111)).mono hrw.size));clear hr hrw;go_enter Tryz.func169,Tryz.ntmps169;go_wp2_with fail;refine (mT _ _ _ xs t r _ HR.out HRW.out).mono ?_;rintro e w1 ⟨hb,hf⟩;have g1:=(hb.block (w.heap.size+1) aT).trans (bV _ _ _);obtain⟨d0,f0,d1,f1,d2,f2,d3,f3⟩:=gf;have HB:Hid (Below w.heap.size w w1):=(aM _ _ _).trans (hb.mono bX);clear g1 hb HR HRW;rcases hf with ⟨hh,x,hx,hn,rfl,z0,z3⟩|⟨hh,rfl⟩
 ·have HI:Hid (om xs t r w (.returned (.tuple #[.agg #[.string x.n,.bool x.x,.bool x.y,.string x.z],.bool true])) w):=⟨xj _ _,.inl ⟨hh,x,hx,hn,rfl,z0,z3⟩⟩;clear hx hn hh z0 z3;go_wp2;refine bodyPost_ret (v:=.tuple #[.agg #[.string x.n,.bool x.x,.bool x.y,.string x.z],.bool true]) (by simp[results,Tryz.results169,go_sem, *]) rfl ⟨?_,HI.2⟩;exact rq
 ·have HH:=aa hh;clear hh;go_wp2;refine bodyPost_ret (v:=.tuple #[.agg #[.string ⟨#[]⟩,.bool false,.bool false,.string ⟨#[]⟩],.bool false]) (by simp[results,Tryz.results169,go_sem, *]) rfl ⟨?_,.inr ⟨HH.out,rfl⟩⟩;exact rq

theorem lO (a:Option Addr) (len cap:Nat) (xs:List Kd) (most:Int) (w:World) (hr:aF w a len cap 4 (xs.map kdF)):
  Calls Tryz.prog 126 #[.slice a len cap,.int .i64 most] w (aq (dm mu Kd.n xs most) w):=by
 obtain⟨HR,hxl,hlc⟩:=ff;clear hr;have hmcalled:∀(v:Value) (w:World),(method 362 111 v "loop.example/g00571/impl.called").run Tryz.prog w=.ok (220,v) w:=fun _ _=>by kernel_rfl
 have hmright:∀(v:Value) (w:World),(method 362 111 v "loop.example/g00571/impl.right").run Tryz.prog w=.ok (221,v) w:=fun _ _=>by kernel_rfl
 by_cases hmo:most<(len:Int)
 ·go_enter Tryz.func126,Tryz.ntmps126;exact kB
 go_enter Tryz.func126,Tryz.ntmps126;go_wp2;go_loopw [5,14] (fun q i wr=> ∃(k:Nat) (y:ByteArray),k<=len/\q=.string y/\i=.int .i64 k/\Hid (k=0->y=⟨#[]⟩)/\Hid (∀z,0<k->xs[k - 1]?=some z->z.n=y)/\Hid (∀(j:Nat) z,j<k->xs[j]?=some z->mu z)/\Hid (∀(j:Nat) z u,j+1<k->xs[j+1]?=some z->xs[j]?=some u->xn u.n.toList z.n.toList=true)/\Hid (Below w.heap.size w wr)) (fun _ i _=>len - (intOf i).toNat);case atStart=>exact⟨0,_,by omega,rfl,rfl,fun _=>rfl,fun _ h=>absurd h af,fun _ _ h=>absurd h af,fun _ _ _ h=>absurd h af,xj _ _⟩
 case round=>
  obtain⟨k,y,hk,rfl,rfl,H0,H1,HE,HO,HB⟩:=hrel;by_cases hlt:k<len
  ·obtain⟨b,o,x,rfl,hb,hx,hat⟩:=eL (HR.below HB.out) hlt;obtain⟨z0,z3,c0,c1,c2,c3⟩:=bO hat;have HX:=aa hx;have HC:=aa (fun v:World=>fC x v);have HB1:=aa (HB.alloc HB.size (.cells #[.string x.n,.bool x.x,.bool x.y,.string x.z] 111));have HRt:=aa (j8 x (wr.alloc (.cells #[.string x.n,.bool x.x,.bool x.y,.string x.z] 111)) z0 z3);clear hat hx z0 z3;go_wp2_with fail;refine HRt.mono ?_;rintro e w1 ⟨r,rfl,hrt,hb1⟩;obtain⟨g1,-,-⟩:=cm hb1;have hs1:=hb1.size;rw[show (wr.alloc (.cells #[.string x.n,.bool x.x,.bool x.y,.string x.z] 111)).heap.size=wr.heap.size+1 from by simp] at hs1;obtain⟨HB2,d0,d1,d2,d3⟩:=fe;have HG:=aa g1;have HI:=aa hrt;clear g1 hb1 HB1 HRt hrt c0 c1 c2 c3;cases r
   ·exact kF
   have HOK:=aa (HI.1 rfl);clear HI;go_wp2_with fail;refine (HC.out _).mono ?_;rintro e w2 ⟨rfl,hb2⟩;obtain⟨HB3,g2,hs2,htri⟩:=kv;clear HG hb2 HB2 d0 d1 d2 d3;have d0:=ck0 g2;have d1:=ck1 g2;have d2:=ck2 g2;have d3:=ck3 g2;clear g2;cases hless:xn y.toList x.n.toList
   ·exact qh
   ·rw[hless] at htri;go_wp2_with fail;refine (HC.out _).mono ?_;rintro e w3 ⟨rfl,hb3⟩;have HB4:=aa (HB3.trans (hb3.mono (xp HB.size af)));clear hb3 d0 d1 d2 d3;exact qu
  ·exact kO

def wY (xs:List Kd) (t:ByteArray) (w:World) (e:Ending) (w':World):Prop:=
 Below w.heap.size w w'/\((∃(j:Nat) (x:Kd),xs[j]?=some x/\x.n=t/\e=.returned (.int .i64 j))\/((∀(j:Nat) x,xs[j]?=some x->¬x.n=t)/\e=.returned (.int .i64 (-1))))

theorem jS (d:Ad) (now:Int) (xs:List Kd) (t:ByteArray) (w:World) (hr:aF w d.a2 d.l2 d.c2 4 (xs.map kdF)):
  Calls Tryz.prog 118 #[.agg #[.slice d.a1 d.l1 d.c1,.slice d.a2 d.l2 d.c2,.slice d.a3 d.l3 d.c3,.slice d.a4 d.l4 d.c4,.slice d.a5 d.l5 d.c5,.int .i64 now],.string t] w (wY xs t w):=by
 have HR:=aa hr;have hxl:xs.length=d.l2:=dA
 have hlc:=xp hr.2.1 hr.2.2.1;clear hr;go_enter Tryz.func118,Tryz.ntmps118;go_wp2;go_loopw [5] (fun i wr=> ∃k:Nat,k<=d.l2/\i=.int .i64 k/\wr=w.alloc (.cells #[.slice d.a1 d.l1 d.c1,.slice d.a2 d.l2 d.c2,.slice d.a3 d.l3 d.c3,.slice d.a4 d.l4 d.c4,.slice d.a5 d.l5 d.c5,.int .i64 now] 36)/\Hid (∀(j:Nat) z,j<k->xs[j]?=some z->¬z.n=t)) (fun i _=>d.l2 - (intOf i).toNat);case atStart=>exact⟨0,by omega,rfl,rfl,fun _ _ h=>absurd h af⟩
 case round=>
  obtain⟨k,hk,rfl,rfl,HE⟩:=hrel;by_cases hlt:k<d.l2
  ·obtain⟨b,o,x,ha,hb,hx,hat⟩:=eL HR.out hlt;obtain⟨-,-,c0,-,-,-⟩:=bO hat;have HX:=aa hx;clear hat hx;exact nR
  ·obtain rfl:k=d.l2:=af
   exact nN

theorem db (x:Vd) (va:Option Addr) (vl vc:Nat) (w:World):
  Calls Tryz.prog 204 #[.agg #[.string x.n,.int .i64 x.c,.string x.z,.string x.k,.bool x.x,.string x.m,.bool x.y,.slice va vl vc]] w fun e w'=>e=.returned (.string x.n)/\Below w.heap.size w w':=by
 go_enter Tryz.func204,Tryz.ntmps204;go_wp2;go_ret;exact⟨rfl,al _ _⟩

theorem j5 (x:Vd) (va:Option Addr) (vl vc:Nat) (w:World) (hn:x.n.size<=9223372036854775807) (hz:x.z.size<=9223372036854775807) (hk:x.k.size<=9223372036854775807) (hm:x.m.size<=9223372036854775807) (hr:av w va vl vc x.zs):
  Calls Tryz.prog 205 #[.agg #[.string x.n,.int .i64 x.c,.string x.z,.string x.k,.bool x.x,.string x.m,.bool x.y,.slice va vl vc]] w (aq (lA x) w):=by
 have HR:=aa (hr.below (al w (.cells (vov x va vl vc) 62)));clear hr;go_enter Tryz.func205,Tryz.ntmps205;go_wp2_with fail;refine (r8 x.n x.c x.z x.k x.x x.m x.y va vl vc x.zs _ hn hz hk hm HR.out).mono ?_;exact kJ

theorem gg (a:Option Addr) (len cap:Nat) (xs:List Vd) (t:ByteArray) (w:World) (hr:aF w a len cap 8 (xs.map vdF)):
  Calls Tryz.prog 148 #[.slice a len cap,.string t] w fun e w'=>e=.returned (.tuple #[.int .i64 (pl Vd.n xs t:Nat),.bool (hit Vd.n xs t)])/\Below w.heap.size w w':=by
 obtain⟨HR,hxl,hlc⟩:=ff;clear hr;have hmcalled:∀(v:Value) (w:World),(method 362 62 v "loop.example/g00571/impl.called").run Tryz.prog w=.ok (204,v) w:=fun _ _=>by kernel_rfl
 go_enter Tryz.func148,Tryz.ntmps148;go_wp2;go_loopw [10] (fun i wr=> ∃k:Nat,k<=len/\i=.int .i64 k/\Hid (∀(j:Nat) y,j<k->xs[j]?=some y->xn y.n.toList t.toList=true)/\Hid (Below w.heap.size w wr)) (fun i _=>len - (intOf i).toNat);case atStart=>exact⟨0,by omega,rfl,fun j y hj=>by omega,xj _ _⟩
 case round=>
  obtain⟨k,hk,rfl,HE,HB⟩:=hrel;by_cases hlt:k<len
  ·obtain⟨b,o,x,rfl,hb,hx,hat⟩:=bq (HR.below HB.out) hlt;obtain⟨va,vl,vc,hvr,z0,z2,z3,z5,c0,c1,c2,c3,c4,c5,c6,c7⟩:=aE hat;have HX:=aa hx;clear hat hx z0 z2 z3 z5 hvr;have HC:=aa (fun v:World=>db x va vl vc v);have HB1:=aa (HB.alloc HB.size (.cells (vov x va vl vc) 62));go_wp2_with fail;refine (HC.out _).mono ?_;rintro e w1 ⟨rfl,hb1⟩;obtain⟨g1,-,-⟩:=cm hb1;have hs1:=hb1.size;rw[show (wr.alloc (.cells (vov x va vl vc) 62)).heap.size=wr.heap.size+1 from by simp] at hs1;obtain⟨HB2,d0,d1,d2,d3⟩:=fe;have d4:=ck4 g1;have d5:=ck5 g1;have d6:=ck6 g1;have d7:=ck7 g1;clear g1 hb1 c0 c1 c2 c3 c4 c5 c6 c7 HB1;cases hless:xn x.n.toList t.toList
   ·go_wp2_with fail;refine (HC.out _).mono ?_;rintro e w2 ⟨rfl,hb2⟩;obtain⟨HB3,hp⟩:=nF;clear hb2;go_wp2_with fail;refine bodyPost_ret (v:=.tuple #[.int .i64 k,.bool (x.n.toList==t.toList)]) (by simp[results,Tryz.results148,go_sem]) rfl ⟨?_,HB3.out⟩;unfold hit;rw[hp,HX.out]
   ·exact nQ
  ·obtain rfl:k=len:=af
   have hp:pl Vd.n xs t=xs.length:=gX (fun j y hy=>HE.out j y nx hy);have hh:hit Vd.n xs t=false:=by unfold hit;rw[hp,yi (xk _)]
   have HP:=aa hp;have HH:=aa hh;clear hp hh;go_wp2;exact bodyPost_ret (v:=.tuple #[.int .i64 k,.bool false]) (by simp[results,Tryz.results148,go_sem]) rfl ⟨by rw[HP.out,HH.out,hxl],HB.out⟩

def oi (xs:List Vd) (t:ByteArray) (r w:World) (e:Ending) (w':World):Prop:=
 Below w.heap.size w w'/\((hit Vd.n xs t=true/\∃(x:Vd) (va:Option Addr) (vl vc:Nat),xs[pl Vd.n xs t]?=some x/\x.n=t/\e=.returned (.tuple #[.agg #[.string x.n,.int .i64 x.c,.string x.z,.string x.k,.bool x.x,.string x.m,.bool x.y,.slice va vl vc],.bool true])/\x.n.size<=9223372036854775807/\x.z.size<=9223372036854775807/\x.k.size<=9223372036854775807/\x.m.size<=9223372036854775807/\av r va vl vc x.zs)\/(hit Vd.n xs t=false/\e=.returned (.tuple #[.agg #[.string ⟨#[]⟩,.int .i64 0,.string ⟨#[]⟩,.string ⟨#[]⟩,.bool false,.string ⟨#[]⟩,.bool false,.slice none 0 0],.bool false])))

theorem mQ (a:Option Addr) (len cap:Nat) (xs:List Vd) (t:ByteArray) (r w:World) (hr:aF r a len cap 8 (xs.map vdF)) (hrw:Below r.heap.size r w):
  Calls Tryz.prog 88 #[.slice a len cap,.string t] w (oi xs t r w):=by
 have HR:=aa hr;have HRW:=aa hrw;have hxl:xs.length=len:=dA
 have HR1:=aa ((hr.below hrw).below (al w (.cells #[.string ⟨#[]⟩,.int .i64 0,.string ⟨#[]⟩,.string ⟨#[]⟩,.bool false,.string ⟨#[]⟩,.bool false,.slice none 0 0] 62)));clear hr hrw;go_enter Tryz.func88,Tryz.ntmps88;go_wp2_with fail;refine (gg a len cap xs t _ HR1.out).mono ?_;rintro e w1 ⟨rfl,hb⟩;obtain⟨g1,hb1,-⟩:=cm hb;obtain⟨d0,f0,d1,f1,d2,f2,d3,f3⟩:=gf;obtain⟨d4,f4,d5,f5,d6,f6⟩:=nC;have d7:=ck7 g1;have f7:=aw g1 7;have HB:=aa hb1;have hs1:=hb.size;rw[show (w.alloc (.cells #[.string ⟨#[]⟩,.int .i64 0,.string ⟨#[]⟩,.string ⟨#[]⟩,.bool false,.string ⟨#[]⟩,.bool false,.slice none 0 0] 62)).heap.size=w.heap.size+1 from by simp] at hs1;have hlt1:w.heap.size<w1.heap.size:=af
 clear hb g1 HR1 hs1;cases hh:hit Vd.n xs t
 ·generalize pl Vd.n xs t=j;have HH:=aa hh;clear hh hb1 HR hxl;go_wp2;refine bodyPost_ret (v:=.tuple #[.agg #[.string ⟨#[]⟩,.int .i64 0,.string ⟨#[]⟩,.string ⟨#[]⟩,.bool false,.string ⟨#[]⟩,.bool false,.slice none 0 0],.bool false]) (by simp[results,Tryz.results88,go_sem, *]) rfl ⟨?_,.inr ⟨HH.out,rfl⟩⟩;exact Below.alloc (ah (xk _) (ah (xk _) (ah (xk _) (ah (xk _) (ah (xk _) (ah (xk _) (ah (xk _) (ah (xk _) (HB.out))))))))) iy _
 ·obtain⟨x,hx,hn⟩:=fu hh;have hj:pl Vd.n xs t<len:=by have:=(xe.1 hx).1;omega
  obtain⟨b,o,y,rfl,hbl,hy,hat⟩:=bq HR.out hj;rw[hx] at hy;obtain rfl:=xh hy;obtain⟨va,vl,vc,hvr,z0,z2,z3,z5,c0,c1,c2,c3,c4,c5,c6,c7⟩:=aE hat;obtain⟨hbw,e0,e1,e2,e3⟩:=sM;obtain⟨e4,e5,e6⟩:=tJ;have e7:=(ai hb1 hbw).trans ((ai HRW.out hbl).trans c7);have HI:Hid (oi xs t r w (.returned (.tuple #[.agg #[.string x.n,.int .i64 x.c,.string x.z,.string x.k,.bool x.x,.string x.m,.bool x.y,.slice va vl vc],.bool true])) w):=⟨xj _ _,.inl ⟨hh,x,va,vl,vc,hx,hn,rfl,z0,z2,z3,z5,hvr⟩⟩;clear c0 c1 c2 c3 c4 c5 c6 c7 hat hx hn hy hh z0 z2 z3 z5 hvr HR HRW hb1;obtain⟨j,hjj⟩:∃j,pl Vd.n xs t=j:=⟨_,rfl⟩;rw[hjj] at hj;simp only[hjj] at*;clear hjj;go_wp2;refine bodyPost_ret (v:=.tuple #[.agg #[.string x.n,.int .i64 x.c,.string x.z,.string x.k,.bool x.x,.string x.m,.bool x.y,.slice va vl vc],.bool true]) (by simp[results,Tryz.results88,go_sem, *]) rfl ⟨?_,HI.2⟩;exact ah (xk _) (ah (xk _) (ah (xk _) (ah (xk _) (ah (xk _) (ah (xk _) (ah (xk _) (ah (xk _) (HB.out))))))))

theorem cD (d:Ad) (now:Int) (xs:List Vd) (t:ByteArray) (r w:World) (hr:aF r d.a3 d.l3 d.c3 8 (xs.map vdF)) (hrw:Below r.heap.size r w):
  Calls Tryz.prog 35 #[.agg #[.slice d.a1 d.l1 d.c1,.slice d.a2 d.l2 d.c2,.slice d.a3 d.l3 d.c3,.slice d.a4 d.l4 d.c4,.slice d.a5 d.l5 d.c5,.int .i64 now],.string t] w (oi xs t r w):=by
 have HR:=aa hr;have HRW:=aa (hrw.trans ((aM w (.cells (clv d now) 36) (.cells #[.string ⟨#[]⟩,.int .i64 0,.string ⟨#[]⟩,.string ⟨#[]⟩,.bool false,.string ⟨#[]⟩,.bool false,.slice none 0 0] 62)).mono hrw.size));clear hr hrw;go_enter Tryz.func35,Tryz.ntmps35;go_wp2_with fail;refine (mQ _ _ _ xs t r _ HR.out HRW.out).mono ?_;rintro e w1 ⟨hb,hf⟩;have g1:=(hb.block (w.heap.size+1) aT).trans (bV _ _ _);obtain⟨d0,f0,d1,f1,d2,f2,d3,f3⟩:=gf;obtain⟨d4,f4,d5,f5,d6,f6⟩:=nC;have d7:=ck7 g1;have f7:=aw g1 7;have HB:Hid (Below w.heap.size w w1):=(aM _ _ _).trans (hb.mono bX);clear g1 hb HR HRW;rcases hf with ⟨hh,x,va,vl,vc,hx,hn,rfl,z0,z2,z3,z5,hvr⟩|⟨hh,rfl⟩
 ·have HI:Hid (oi xs t r w (.returned (.tuple #[.agg #[.string x.n,.int .i64 x.c,.string x.z,.string x.k,.bool x.x,.string x.m,.bool x.y,.slice va vl vc],.bool true])) w):=⟨xj _ _,.inl ⟨hh,x,va,vl,vc,hx,hn,rfl,z0,z2,z3,z5,hvr⟩⟩;clear hx hn hh z0 z2 z3 z5 hvr;go_wp2;refine bodyPost_ret (v:=.tuple #[.agg #[.string x.n,.int .i64 x.c,.string x.z,.string x.k,.bool x.x,.string x.m,.bool x.y,.slice va vl vc],.bool true]) (by simp[results,Tryz.results35,go_sem, *]) rfl ⟨?_,HI.2⟩;exact uA
 ·have HH:=aa hh;clear hh;go_wp2;refine bodyPost_ret (v:=.tuple #[.agg #[.string ⟨#[]⟩,.int .i64 0,.string ⟨#[]⟩,.string ⟨#[]⟩,.bool false,.string ⟨#[]⟩,.bool false,.slice none 0 0],.bool false]) (by simp[results,Tryz.results35,go_sem, *]) rfl ⟨?_,.inr ⟨HH.out,rfl⟩⟩;exact uA

theorem lL (a:Option Addr) (len cap:Nat) (xs:List Vd) (most:Int) (w:World) (hr:aF w a len cap 8 (xs.map vdF)):
  Calls Tryz.prog 127 #[.slice a len cap,.int .i64 most] w (aq (dm lA Vd.n xs most) w):=by
 obtain⟨HR,hxl,hlc⟩:=ff;clear hr;have hmcalled:∀(v:Value) (w:World),(method 362 62 v "loop.example/g00571/impl.called").run Tryz.prog w=.ok (204,v) w:=fun _ _=>by kernel_rfl
 have hmright:∀(v:Value) (w:World),(method 362 62 v "loop.example/g00571/impl.right").run Tryz.prog w=.ok (205,v) w:=fun _ _=>by kernel_rfl
 by_cases hmo:most<(len:Int)
 ·go_enter Tryz.func127,Tryz.ntmps127;exact kB
 go_enter Tryz.func127,Tryz.ntmps127;go_wp2;go_loopw [5,14] (fun q i wr=> ∃(k:Nat) (y:ByteArray),k<=len/\q=.string y/\i=.int .i64 k/\Hid (k=0->y=⟨#[]⟩)/\Hid (∀z,0<k->xs[k - 1]?=some z->z.n=y)/\Hid (∀(j:Nat) z,j<k->xs[j]?=some z->lA z)/\Hid (∀(j:Nat) z u,j+1<k->xs[j+1]?=some z->xs[j]?=some u->xn u.n.toList z.n.toList=true)/\Hid (Below w.heap.size w wr)) (fun _ i _=>len - (intOf i).toNat);case atStart=>exact⟨0,_,by omega,rfl,rfl,fun _=>rfl,fun _ h=>absurd h af,fun _ _ h=>absurd h af,fun _ _ _ h=>absurd h af,xj _ _⟩
 case round=>
  obtain⟨k,y,hk,rfl,rfl,H0,H1,HE,HO,HB⟩:=hrel;by_cases hlt:k<len
  ·obtain⟨b,o,x,rfl,hb,hx,hat⟩:=bq (HR.below HB.out) hlt;obtain⟨va,vl,vc,hvr,z0,z2,z3,z5,c0,c1,c2,c3,c4,c5,c6,c7⟩:=aE hat;have HX:=aa hx;have HC:=aa (fun v:World=>db x va vl vc v);have HB1:=aa (HB.alloc HB.size (.cells (vov x va vl vc) 62));have HRt:=aa (j5 x va vl vc (wr.alloc (.cells (vov x va vl vc) 62)) z0 z2 z3 z5 (hvr.below (al _ _)));clear hat hx z0 z2 z3 z5 hvr;go_wp2_with fail;refine HRt.mono ?_;rintro e w1 ⟨r,rfl,hrt,hb1⟩;obtain⟨g1,-,-⟩:=cm hb1;have hs1:=hb1.size;rw[show (wr.alloc (.cells (vov x va vl vc) 62)).heap.size=wr.heap.size+1 from by simp] at hs1;obtain⟨HB2,d0,d1,d2,d3⟩:=fe;have d4:=ck4 g1;have d5:=ck5 g1;have d6:=ck6 g1;have d7:=ck7 g1;have HG:=aa g1;have HI:=aa hrt;clear g1 hb1 HB1 HRt hrt c0 c1 c2 c3 c4 c5 c6 c7;cases r
   ·exact kF
   have HOK:=aa (HI.1 rfl);clear HI;go_wp2_with fail;refine (HC.out _).mono ?_;rintro e w2 ⟨rfl,hb2⟩;obtain⟨HB3,g2,hs2,htri⟩:=kv;clear HG hb2 HB2 d0 d1 d2 d3 d4 d5 d6 d7;have d0:=ck0 g2;have d1:=ck1 g2;have d2:=ck2 g2;have d3:=ck3 g2;have d4:=ck4 g2;have d5:=ck5 g2;have d6:=ck6 g2;have d7:=ck7 g2;clear g2;cases hless:xn y.toList x.n.toList
   ·exact qh
   ·rw[hless] at htri;go_wp2_with fail;refine (HC.out _).mono ?_;rintro e w3 ⟨rfl,hb3⟩;have HB4:=aa (HB3.trans (hb3.mono (xp HB.size af)));clear hb3 d0 d1 d2 d3 d4 d5 d6 d7;exact qu
  ·exact kO

def wW (xs:List Vd) (t:ByteArray) (w:World) (e:Ending) (w':World):Prop:=
 Below w.heap.size w w'/\((∃(j:Nat) (x:Vd),xs[j]?=some x/\x.n=t/\e=.returned (.int .i64 j))\/((∀(j:Nat) x,xs[j]?=some x->¬x.n=t)/\e=.returned (.int .i64 (-1))))

theorem gH (d:Ad) (now:Int) (xs:List Vd) (t:ByteArray) (w:World) (hr:aF w d.a3 d.l3 d.c3 8 (xs.map vdF)):
  Calls Tryz.prog 22 #[.agg #[.slice d.a1 d.l1 d.c1,.slice d.a2 d.l2 d.c2,.slice d.a3 d.l3 d.c3,.slice d.a4 d.l4 d.c4,.slice d.a5 d.l5 d.c5,.int .i64 now],.string t] w (wW xs t w):=by
 have HR:=aa hr;have hxl:xs.length=d.l3:=dA
 have hlc:=xp hr.2.1 hr.2.2.1;clear hr;go_enter Tryz.func22,Tryz.ntmps22;go_wp2;go_loopw [5] (fun i wr=> ∃k:Nat,k<=d.l3/\i=.int .i64 k/\wr=w.alloc (.cells #[.slice d.a1 d.l1 d.c1,.slice d.a2 d.l2 d.c2,.slice d.a3 d.l3 d.c3,.slice d.a4 d.l4 d.c4,.slice d.a5 d.l5 d.c5,.int .i64 now] 36)/\Hid (∀(j:Nat) z,j<k->xs[j]?=some z->¬z.n=t)) (fun i _=>d.l3 - (intOf i).toNat);case atStart=>exact⟨0,by omega,rfl,rfl,fun _ _ h=>absurd h af⟩
 case round=>
  obtain⟨k,hk,rfl,rfl,HE⟩:=hrel;by_cases hlt:k<d.l3
  ·obtain⟨b,o,x,ha,hb,hx,hat⟩:=bq HR.out hlt;obtain⟨va,vl,vc,hvr,-,-,-,-,c0,-,-,-,-,-,-,-⟩:=aE hat;have HX:=aa hx;clear hat hx hvr;exact nR
  ·obtain rfl:k=d.l3:=af
   exact nN

theorem fA (x:Xd)  (w:World):
  Calls Tryz.prog 223 #[.agg #[.string x.n,.int .i64 x.z,.string x.k,.bool x.x,.string x.v]] w fun e w'=>e=.returned (.string x.n)/\Below w.heap.size w w':=by
 go_enter Tryz.func223,Tryz.ntmps223;go_wp2;go_ret;exact⟨rfl,al _ _⟩

theorem j0 (x:Xd)  (w:World) (hn:x.n.size<=9223372036854775807) (hk:x.k.size<=9223372036854775807) (hv:x.v.size<=9223372036854775807):
  Calls Tryz.prog 224 #[.agg #[.string x.n,.int .i64 x.z,.string x.k,.bool x.x,.string x.v]] w (aq (lu x) w):=by
 skip;skip;go_enter Tryz.func224,Tryz.ntmps224;go_wp2_with fail;refine (mI x.n x.z x.k x.x x.v _ hn hk hv).mono ?_;exact kJ

theorem kQ (a:Option Addr) (len cap:Nat) (xs:List Xd) (t:ByteArray) (w:World) (hr:aF w a len cap 5 (xs.map xdF)):
  Calls Tryz.prog 187 #[.slice a len cap,.string t] w fun e w'=>e=.returned (.tuple #[.int .i64 (pl Xd.n xs t:Nat),.bool (hit Xd.n xs t)])/\Below w.heap.size w w':=by
 obtain⟨HR,hxl,hlc⟩:=ff;clear hr;have hmcalled:∀(v:Value) (w:World),(method 362 114 v "loop.example/g00571/impl.called").run Tryz.prog w=.ok (223,v) w:=fun _ _=>by kernel_rfl
 go_enter Tryz.func187,Tryz.ntmps187;go_wp2;go_loopw [10] (fun i wr=> ∃k:Nat,k<=len/\i=.int .i64 k/\Hid (∀(j:Nat) y,j<k->xs[j]?=some y->xn y.n.toList t.toList=true)/\Hid (Below w.heap.size w wr)) (fun i _=>len - (intOf i).toNat);case atStart=>exact⟨0,by omega,rfl,fun j y hj=>by omega,xj _ _⟩
 case round=>
  obtain⟨k,hk,rfl,HE,HB⟩:=hrel;by_cases hlt:k<len
  ·obtain⟨b,o,x,rfl,hb,hx,hat⟩:=dn (HR.below HB.out) hlt;obtain⟨z0,z2,z4,c0,c1,c2,c3,c4⟩:=bg hat;have HX:=aa hx;clear hat hx z0 z2 z4;have HC:=aa (fun v:World=>fA x v);have HB1:=aa (HB.alloc HB.size (.cells (xov x) 114));go_wp2_with fail;refine (HC.out _).mono ?_;rintro e w1 ⟨rfl,hb1⟩;obtain⟨g1,-,-⟩:=cm hb1;have hs1:=hb1.size;rw[show (wr.alloc (.cells (xov x) 114)).heap.size=wr.heap.size+1 from by simp] at hs1;obtain⟨HB2,d0,d1,d2,d3⟩:=fe;have d4:=ck4 g1;clear g1 hb1 c0 c1 c2 c3 c4 HB1;cases hless:xn x.n.toList t.toList
   ·go_wp2_with fail;refine (HC.out _).mono ?_;rintro e w2 ⟨rfl,hb2⟩;obtain⟨HB3,hp⟩:=nF;clear hb2;go_wp2_with fail;refine bodyPost_ret (v:=.tuple #[.int .i64 k,.bool (x.n.toList==t.toList)]) (by simp[results,Tryz.results187,go_sem]) rfl ⟨?_,HB3.out⟩;unfold hit;rw[hp,HX.out]
   ·exact nQ
  ·obtain rfl:k=len:=af
   have hp:pl Xd.n xs t=xs.length:=gX (fun j y hy=>HE.out j y nx hy);have hh:hit Xd.n xs t=false:=by unfold hit;rw[hp,yi (xk _)]
   have HP:=aa hp;have HH:=aa hh;clear hp hh;go_wp2;exact bodyPost_ret (v:=.tuple #[.int .i64 k,.bool false]) (by simp[results,Tryz.results187,go_sem]) rfl ⟨by rw[HP.out,HH.out,hxl],HB.out⟩

def oh (xs:List Xd) (t:ByteArray) (_r w:World) (e:Ending) (w':World):Prop:=
 Below w.heap.size w w'/\((hit Xd.n xs t=true/\∃(x:Xd),xs[pl Xd.n xs t]?=some x/\x.n=t/\e=.returned (.tuple #[.agg #[.string x.n,.int .i64 x.z,.string x.k,.bool x.x,.string x.v],.bool true])/\x.n.size<=9223372036854775807/\x.k.size<=9223372036854775807/\x.v.size<=9223372036854775807)\/(hit Xd.n xs t=false/\e=.returned (.tuple #[.agg #[.string ⟨#[]⟩,.int .i64 0,.string ⟨#[]⟩,.bool false,.string ⟨#[]⟩],.bool false])))

theorem mP (a:Option Addr) (len cap:Nat) (xs:List Xd) (t:ByteArray) (r w:World) (hr:aF r a len cap 5 (xs.map xdF)) (hrw:Below r.heap.size r w):
  Calls Tryz.prog 181 #[.slice a len cap,.string t] w (oh xs t r w):=by
 have HR:=aa hr;have HRW:=aa hrw;have hxl:xs.length=len:=dA
 have HR1:=aa ((hr.below hrw).below (al w (.cells #[.string ⟨#[]⟩,.int .i64 0,.string ⟨#[]⟩,.bool false,.string ⟨#[]⟩] 114)));clear hr hrw;go_enter Tryz.func181,Tryz.ntmps181;go_wp2_with fail;refine (kQ a len cap xs t _ HR1.out).mono ?_;rintro e w1 ⟨rfl,hb⟩;obtain⟨g1,hb1,-⟩:=cm hb;obtain⟨d0,f0,d1,f1,d2,f2,d3,f3⟩:=gf;have d4:=ck4 g1;have f4:=aw g1 4;have HB:=aa hb1;have hs1:=hb.size;rw[show (w.alloc (.cells #[.string ⟨#[]⟩,.int .i64 0,.string ⟨#[]⟩,.bool false,.string ⟨#[]⟩] 114)).heap.size=w.heap.size+1 from by simp] at hs1;have hlt1:w.heap.size<w1.heap.size:=af
 clear hb g1 HR1 hs1;cases hh:hit Xd.n xs t
 ·generalize pl Xd.n xs t=j;have HH:=aa hh;clear hh hb1 HR hxl;go_wp2;refine bodyPost_ret (v:=.tuple #[.agg #[.string ⟨#[]⟩,.int .i64 0,.string ⟨#[]⟩,.bool false,.string ⟨#[]⟩],.bool false]) (by simp[results,Tryz.results181,go_sem, *]) rfl ⟨?_,.inr ⟨HH.out,rfl⟩⟩;exact Below.alloc (ah (xk _) (ah (xk _) (ah (xk _) (ah (xk _) (ah (xk _) (HB.out)))))) iy _
 ·obtain⟨x,hx,hn⟩:=fu hh;have hj:pl Xd.n xs t<len:=by have:=(xe.1 hx).1;omega
  obtain⟨b,o,y,rfl,hbl,hy,hat⟩:=dn HR.out hj;rw[hx] at hy;obtain rfl:=xh hy;obtain⟨z0,z2,z4,c0,c1,c2,c3,c4⟩:=bg hat;obtain⟨hbw,e0,e1,e2,e3⟩:=sM;have e4:=(ai hb1 hbw).trans ((ai HRW.out hbl).trans c4);have HI:Hid (oh xs t r w (.returned (.tuple #[.agg #[.string x.n,.int .i64 x.z,.string x.k,.bool x.x,.string x.v],.bool true])) w):=⟨xj _ _,.inl ⟨hh,x,hx,hn,rfl,z0,z2,z4⟩⟩;clear c0 c1 c2 c3 c4 hat hx hn hy hh z0 z2 z4 HR HRW hb1;obtain⟨j,hjj⟩:∃j,pl Xd.n xs t=j:=⟨_,rfl⟩;rw[hjj] at hj;simp only[hjj] at*;clear hjj;go_wp2;refine bodyPost_ret (v:=.tuple #[.agg #[.string x.n,.int .i64 x.z,.string x.k,.bool x.x,.string x.v],.bool true]) (by simp[results,Tryz.results181,go_sem, *]) rfl ⟨?_,HI.2⟩;exact ah (xk _) (ah (xk _) (ah (xk _) (ah (xk _) (ah (xk _) (HB.out)))))

theorem fE (d:Ad) (now:Int) (xs:List Xd) (t:ByteArray) (r w:World) (hr:aF r d.a4 d.l4 d.c4 5 (xs.map xdF)) (hrw:Below r.heap.size r w):
  Calls Tryz.prog 170 #[.agg #[.slice d.a1 d.l1 d.c1,.slice d.a2 d.l2 d.c2,.slice d.a3 d.l3 d.c3,.slice d.a4 d.l4 d.c4,.slice d.a5 d.l5 d.c5,.int .i64 now],.string t] w (oh xs t r w):=by
 have HR:=aa hr;have HRW:=aa (hrw.trans ((aM w (.cells (clv d now) 36) (.cells #[.string ⟨#[]⟩,.int .i64 0,.string ⟨#[]⟩,.bool false,.string ⟨#[]⟩] 114)).mono hrw.size));clear hr hrw;go_enter Tryz.func170,Tryz.ntmps170;go_wp2_with fail;refine (mP _ _ _ xs t r _ HR.out HRW.out).mono ?_;rintro e w1 ⟨hb,hf⟩;have g1:=(hb.block (w.heap.size+1) aT).trans (bV _ _ _);obtain⟨d0,f0,d1,f1,d2,f2,d3,f3⟩:=gf;have d4:=ck4 g1;have f4:=aw g1 4;have HB:Hid (Below w.heap.size w w1):=(aM _ _ _).trans (hb.mono bX);clear g1 hb HR HRW;rcases hf with ⟨hh,x,hx,hn,rfl,z0,z2,z4⟩|⟨hh,rfl⟩
 ·have HI:Hid (oh xs t r w (.returned (.tuple #[.agg #[.string x.n,.int .i64 x.z,.string x.k,.bool x.x,.string x.v],.bool true])) w):=⟨xj _ _,.inl ⟨hh,x,hx,hn,rfl,z0,z2,z4⟩⟩;clear hx hn hh z0 z2 z4;go_wp2;refine bodyPost_ret (v:=.tuple #[.agg #[.string x.n,.int .i64 x.z,.string x.k,.bool x.x,.string x.v],.bool true]) (by simp[results,Tryz.results170,go_sem, *]) rfl ⟨?_,HI.2⟩;exact rI
 ·have HH:=aa hh;clear hh;go_wp2;refine bodyPost_ret (v:=.tuple #[.agg #[.string ⟨#[]⟩,.int .i64 0,.string ⟨#[]⟩,.bool false,.string ⟨#[]⟩],.bool false]) (by simp[results,Tryz.results170,go_sem, *]) rfl ⟨?_,.inr ⟨HH.out,rfl⟩⟩;exact rI

theorem lK (a:Option Addr) (len cap:Nat) (xs:List Xd) (most:Int) (w:World) (hr:aF w a len cap 5 (xs.map xdF)):
  Calls Tryz.prog 128 #[.slice a len cap,.int .i64 most] w (aq (dm lu Xd.n xs most) w):=by
 obtain⟨HR,hxl,hlc⟩:=ff;clear hr;have hmcalled:∀(v:Value) (w:World),(method 362 114 v "loop.example/g00571/impl.called").run Tryz.prog w=.ok (223,v) w:=fun _ _=>by kernel_rfl
 have hmright:∀(v:Value) (w:World),(method 362 114 v "loop.example/g00571/impl.right").run Tryz.prog w=.ok (224,v) w:=fun _ _=>by kernel_rfl
 by_cases hmo:most<(len:Int)
 ·go_enter Tryz.func128,Tryz.ntmps128;exact kB
 go_enter Tryz.func128,Tryz.ntmps128;go_wp2;go_loopw [5,14] (fun q i wr=> ∃(k:Nat) (y:ByteArray),k<=len/\q=.string y/\i=.int .i64 k/\Hid (k=0->y=⟨#[]⟩)/\Hid (∀z,0<k->xs[k - 1]?=some z->z.n=y)/\Hid (∀(j:Nat) z,j<k->xs[j]?=some z->lu z)/\Hid (∀(j:Nat) z u,j+1<k->xs[j+1]?=some z->xs[j]?=some u->xn u.n.toList z.n.toList=true)/\Hid (Below w.heap.size w wr)) (fun _ i _=>len - (intOf i).toNat);case atStart=>exact⟨0,_,by omega,rfl,rfl,fun _=>rfl,fun _ h=>absurd h af,fun _ _ h=>absurd h af,fun _ _ _ h=>absurd h af,xj _ _⟩
 case round=>
  obtain⟨k,y,hk,rfl,rfl,H0,H1,HE,HO,HB⟩:=hrel;by_cases hlt:k<len
  ·obtain⟨b,o,x,rfl,hb,hx,hat⟩:=dn (HR.below HB.out) hlt;obtain⟨z0,z2,z4,c0,c1,c2,c3,c4⟩:=bg hat;have HX:=aa hx;have HC:=aa (fun v:World=>fA x v);have HB1:=aa (HB.alloc HB.size (.cells (xov x) 114));have HRt:=aa (j0 x (wr.alloc (.cells (xov x) 114)) z0 z2 z4);clear hat hx z0 z2 z4;go_wp2_with fail;refine HRt.mono ?_;rintro e w1 ⟨r,rfl,hrt,hb1⟩;obtain⟨g1,-,-⟩:=cm hb1;have hs1:=hb1.size;rw[show (wr.alloc (.cells (xov x) 114)).heap.size=wr.heap.size+1 from by simp] at hs1;obtain⟨HB2,d0,d1,d2,d3⟩:=fe;have d4:=ck4 g1;have HG:=aa g1;have HI:=aa hrt;clear g1 hb1 HB1 HRt hrt c0 c1 c2 c3 c4;cases r
   ·exact kF
   have HOK:=aa (HI.1 rfl);clear HI;go_wp2_with fail;refine (HC.out _).mono ?_;rintro e w2 ⟨rfl,hb2⟩;obtain⟨HB3,g2,hs2,htri⟩:=kv;clear HG hb2 HB2 d0 d1 d2 d3 d4;have d0:=ck0 g2;have d1:=ck1 g2;have d2:=ck2 g2;have d3:=ck3 g2;have d4:=ck4 g2;clear g2;cases hless:xn y.toList x.n.toList
   ·exact qh
   ·rw[hless] at htri;go_wp2_with fail;refine (HC.out _).mono ?_;rintro e w3 ⟨rfl,hb3⟩;have HB4:=aa (HB3.trans (hb3.mono (xp HB.size af)));clear hb3 d0 d1 d2 d3 d4;exact qu
  ·exact kO

def wV (xs:List Xd) (t:ByteArray) (w:World) (e:Ending) (w':World):Prop:=
 Below w.heap.size w w'/\((∃(j:Nat) (x:Xd),xs[j]?=some x/\x.n=t/\e=.returned (.int .i64 j))\/((∀(j:Nat) x,xs[j]?=some x->¬x.n=t)/\e=.returned (.int .i64 (-1))))

theorem eW (d:Ad) (now:Int) (xs:List Xd) (t:ByteArray) (w:World) (hr:aF w d.a4 d.l4 d.c4 5 (xs.map xdF)):
  Calls Tryz.prog 117 #[.agg #[.slice d.a1 d.l1 d.c1,.slice d.a2 d.l2 d.c2,.slice d.a3 d.l3 d.c3,.slice d.a4 d.l4 d.c4,.slice d.a5 d.l5 d.c5,.int .i64 now],.string t] w (wV xs t w):=by
 have HR:=aa hr;have hxl:xs.length=d.l4:=dA
 have hlc:=xp hr.2.1 hr.2.2.1;clear hr;go_enter Tryz.func117,Tryz.ntmps117;go_wp2;go_loopw [5] (fun i wr=> ∃k:Nat,k<=d.l4/\i=.int .i64 k/\wr=w.alloc (.cells #[.slice d.a1 d.l1 d.c1,.slice d.a2 d.l2 d.c2,.slice d.a3 d.l3 d.c3,.slice d.a4 d.l4 d.c4,.slice d.a5 d.l5 d.c5,.int .i64 now] 36)/\Hid (∀(j:Nat) z,j<k->xs[j]?=some z->¬z.n=t)) (fun i _=>d.l4 - (intOf i).toNat);case atStart=>exact⟨0,by omega,rfl,rfl,fun _ _ h=>absurd h af⟩
 case round=>
  obtain⟨k,hk,rfl,rfl,HE⟩:=hrel;by_cases hlt:k<d.l4
  ·obtain⟨b,o,x,ha,hb,hx,hat⟩:=dn HR.out hlt;obtain⟨-,-,-,c0,-,-,-,-⟩:=bg hat;have HX:=aa hx;clear hat hx;exact nR
  ·obtain rfl:k=d.l4:=af
   exact nN

theorem jz (x:Pd) (va:Option Addr) (vl vc:Nat) (w:World):
  Calls Tryz.prog 216 #[.agg #[.string x.n,.int .i64 x.c,.string x.z,.slice va vl vc,.string x.d,.int .i64 x.p]] w fun e w'=>e=.returned (.string x.n)/\Below w.heap.size w w':=by
 go_enter Tryz.func216,Tryz.ntmps216;go_wp2;go_ret;exact⟨rfl,al _ _⟩

theorem j6 (x:Pd) (va:Option Addr) (vl vc:Nat) (w:World) (hn:x.n.size<=9223372036854775807) (hz:x.z.size<=9223372036854775807) (hd:x.d.size<=9223372036854775807) (hr:av w va vl vc x.zs):
  Calls Tryz.prog 217 #[.agg #[.string x.n,.int .i64 x.c,.string x.z,.slice va vl vc,.string x.d,.int .i64 x.p]] w (aq (l_ x) w):=by
 have HR:=aa (hr.below (al w (.cells (pov x va vl vc) 105)));clear hr;go_enter Tryz.func217,Tryz.ntmps217;go_wp2_with fail;refine (sf x.n x.c x.z va vl vc x.zs x.d x.p _ hn hz hd HR.out).mono ?_;exact kJ

theorem lM (a:Option Addr) (len cap:Nat) (xs:List Pd) (most:Int) (w:World) (hr:aF w a len cap 6 (xs.map pdF)):
  Calls Tryz.prog 129 #[.slice a len cap,.int .i64 most] w (aq (dm l_ Pd.n xs most) w):=by
 obtain⟨HR,hxl,hlc⟩:=ff;clear hr;have hmcalled:∀(v:Value) (w:World),(method 362 105 v "loop.example/g00571/impl.called").run Tryz.prog w=.ok (216,v) w:=fun _ _=>by kernel_rfl
 have hmright:∀(v:Value) (w:World),(method 362 105 v "loop.example/g00571/impl.right").run Tryz.prog w=.ok (217,v) w:=fun _ _=>by kernel_rfl
 by_cases hmo:most<(len:Int)
 ·go_enter Tryz.func129,Tryz.ntmps129;exact kB
 go_enter Tryz.func129,Tryz.ntmps129;go_wp2;go_loopw [5,14] (fun q i wr=> ∃(k:Nat) (y:ByteArray),k<=len/\q=.string y/\i=.int .i64 k/\Hid (k=0->y=⟨#[]⟩)/\Hid (∀z,0<k->xs[k - 1]?=some z->z.n=y)/\Hid (∀(j:Nat) z,j<k->xs[j]?=some z->l_ z)/\Hid (∀(j:Nat) z u,j+1<k->xs[j+1]?=some z->xs[j]?=some u->xn u.n.toList z.n.toList=true)/\Hid (Below w.heap.size w wr)) (fun _ i _=>len - (intOf i).toNat);case atStart=>exact⟨0,_,by omega,rfl,rfl,fun _=>rfl,fun _ h=>absurd h af,fun _ _ h=>absurd h af,fun _ _ _ h=>absurd h af,xj _ _⟩
 case round=>
  obtain⟨k,y,hk,rfl,rfl,H0,H1,HE,HO,HB⟩:=hrel;by_cases hlt:k<len
  ·obtain⟨b,o,x,rfl,hb,hx,hat⟩:=cj (HR.below HB.out) hlt;obtain⟨va,vl,vc,hvr,z0,z2,z4,c0,c1,c2,c3,c4,c5⟩:=aS hat;have HX:=aa hx;have HC:=aa (fun v:World=>jz x va vl vc v);have HB1:=aa (HB.alloc HB.size (.cells (pov x va vl vc) 105));have HRt:=aa (j6 x va vl vc (wr.alloc (.cells (pov x va vl vc) 105)) z0 z2 z4 (hvr.below (al _ _)));clear hat hx z0 z2 z4 hvr;go_wp2_with fail;refine HRt.mono ?_;rintro e w1 ⟨r,rfl,hrt,hb1⟩;obtain⟨g1,-,-⟩:=cm hb1;have hs1:=hb1.size;rw[show (wr.alloc (.cells (pov x va vl vc) 105)).heap.size=wr.heap.size+1 from by simp] at hs1;obtain⟨HB2,d0,d1,d2,d3⟩:=fe;have d4:=ck4 g1;have d5:=ck5 g1;have HG:=aa g1;have HI:=aa hrt;clear g1 hb1 HB1 HRt hrt c0 c1 c2 c3 c4 c5;cases r
   ·exact kF
   have HOK:=aa (HI.1 rfl);clear HI;go_wp2_with fail;refine (HC.out _).mono ?_;rintro e w2 ⟨rfl,hb2⟩;obtain⟨HB3,g2,hs2,htri⟩:=kv;clear HG hb2 HB2 d0 d1 d2 d3 d4 d5;have d0:=ck0 g2;have d1:=ck1 g2;have d2:=ck2 g2;have d3:=ck3 g2;have d4:=ck4 g2;have d5:=ck5 g2;clear g2;cases hless:xn y.toList x.n.toList
   ·exact qh
   ·rw[hless] at htri;go_wp2_with fail;refine (HC.out _).mono ?_;rintro e w3 ⟨rfl,hb3⟩;have HB4:=aa (HB3.trans (hb3.mono (xp HB.size af)));clear hb3 d0 d1 d2 d3 d4 d5;exact qu
  ·exact kO

def ens (w:World):Prop:=∃T v,w.cell? ⟨1,0,none⟩=some (.iface T v)
theorem ens.lt {w:World} (h:ens w):1<w.heap.size:=by
 obtain⟨T,v,h⟩:=h;rcases Nat.lt_or_ge (1) w.heap.size with h1|h1
 ·exact h1
 ·simp[World.cell?,Array.getElem?_eq_none h1] at h
theorem ens.below {w w':World} (h:ens w) (hb:Below w.heap.size w w'):ens w':=by
 have hl:=h.lt;obtain⟨T,v,h⟩:=h;exact⟨T,v,(ai hb hl).trans h⟩
theorem dh {s:ByteArray} (h:s=⟨#[]⟩):s.toList.isEmpty=true:=by rw[h];exact nZ
def wm (p:Prop) (w:World) (e:Ending) (w':World):Prop:=Below w.heap.size w w'/\((p/\e=.returned .nilIface)\/(¬p/\∃T v,e=.returned (.iface T v)))

theorem eM (d:Ad) (now:Int) (xs:List Kd) (t:ByteArray) (w:World) (hr:aF w d.a2 d.l2 d.c2 4 (xs.map kdF)) (hG:ens w):
  Calls Tryz.prog 130 #[.agg #[.slice d.a1 d.l1 d.c1,.slice d.a2 d.l2 d.c2,.slice d.a3 d.l3 d.c3,.slice d.a4 d.l4 d.c4,.slice d.a5 d.l5 d.c5,.int .i64 now],.string t] w (wm (hit Kd.n xs t=true) w):=by
 have HR:=aa hr;have HE:=aa hG;have HB:=aa (xj w.heap.size w);clear hr hG;go_enter Tryz.func130,Tryz.ntmps130;go_wp2_with fail;refine (ou d now xs t w _ HR.out (al _ _)).mono ?_;rintro e w1 ⟨hb,hf⟩;obtain⟨HA0,hbx⟩:=aH hb;replace HB:=upB HB hbx;clear hb hbx HA0;obtain⟨T,v,hv⟩:=HE.below HB.out;have hl:=(HE.below HB.out).lt;clear HE HR;rcases hf with ⟨hh,x,hx,hn,rfl,z0,z3⟩|⟨hh,rfl⟩
 ·have HH:=aa hh;clear hh hx hn z0 z3;go_wp2;go_ret;exact⟨(HB.alloc HB.size _),.inl ⟨HH.out,rfl⟩⟩
 ·have HH:=aa hh;clear hh;go_wp2;go_ret;exact⟨(HB.alloc HB.size _),.inr ⟨by rw[HH.out];decide,T,v,rfl⟩⟩

def vU (c:Cl) (t s:ByteArray):Prop:=∃(i j:Nat) (x:Xd) (v:Vd),c.xs[i]?=some x/\x.n=t/\c.vs[j]?=some v/\v.n=s/\x.v=s/\v.m=t/\x.z<=v.c/\v.k=x.k/\v.x=x.x

theorem iN (d:Ad) (c:Cl) (t s:ByteArray) (w:World) (hr:aK w d c.raw) (hx:aJ Xd.n c.xs) (hv:aJ Vd.n c.vs):
  Calls Tryz.prog 131 #[.agg #[.slice d.a1 d.l1 d.c1,.slice d.a2 d.l2 d.c2,.slice d.a3 d.l3 d.c3,.slice d.a4 d.l4 d.c4,.slice d.a5 d.l5 d.c5,.int .i64 c.now],.string t,.string s] w (aq (vU c t s) w):=by
 obtain⟨HR,HB⟩:=gL;have HX:=aa hx;have HV:=aa hv;clear hr hx hv;go_enter Tryz.func131,Tryz.ntmps131;go_wp2_with fail;refine (fE d c.now c.xs t w _ HR.x (al _ _)).mono ?_;rintro e w1 ⟨hb,hf⟩;obtain⟨HA0,hbx⟩:=aH hb;have Bk:=aa HA0;replace HB:=upB HB hbx;clear hb hbx HA0;rcases hf with ⟨hh,x,hx,hn,rfl,z0,z2,z4⟩|⟨hh,rfl⟩
 ·have HX1:=aa hx;have HN1:=aa hn;clear hx hn hh z0 z2 z4;obtain⟨k0,k1,k2,k3,k4,k5⟩:=cs6 Bk;have ltk_1:=ae Bk.out;go_wp2_with fail;refine (cD d c.now c.vs s w _ HR.v (HB.trans ((al _ _).mono HB.size))).mono ?_;rintro e w2 ⟨hb,hf⟩;clear k0 k1 k2 k3 k4 k5 ltk_1;obtain⟨HA0,hbx⟩:=aH hb;replace Bk:=upK Bk hbx;have Bx:=aa HA0;replace HB:=upB HB hbx;clear hb hbx HA0;rcases hf with ⟨hh,v,va,vl,vc,hx,hn,rfl,z0,z2,z3,z5,hvr⟩|⟨hh,rfl⟩
  ·have HX2:=aa hx;have HN2:=aa hn;clear hx hn hh z0 z2 z3 z5 hvr;obtain⟨x0,x1,x2,x3,x4⟩:=cs5 Bx;have ltx_2:=ae Bx.out;cases q1:(x.v.toList==s.toList)
   ·go_wp2;go_ret;refine aq.f (fun ⟨i,j,x',v',e1,e2,e3,e4,e5,_⟩=>?_) (HB.alloc HB.size _);obtain⟨_,rfl⟩:=HX.inj e1 HX1.out (e2.trans HN1.symm);rw[a_ e5] at q1;cases q1
   cases q2:(v.m.toList==t.toList)
   ·go_wp2;go_ret;refine aq.f (fun ⟨i,j,x',v',e1,e2,e3,e4,e5,e6,_⟩=>?_) (HB.alloc HB.size _);obtain⟨_,rfl⟩:=HV.inj e3 HX2.out (e4.trans HN2.symm);rw[a_ e6] at q2;cases q2
   by_cases q3:x.z<=v.c;rotate_left
   ·go_wp2;go_ret;refine aq.f (fun ⟨i,j,x',v',e1,e2,e3,e4,e5,e6,e7,_⟩=>?_) (HB.alloc HB.size _);obtain⟨_,rfl⟩:=HX.inj e1 HX1.out (e2.trans HN1.symm);obtain⟨_,rfl⟩:=HV.inj e3 HX2.out (e4.trans HN2.symm);omega
   cases q4:(v.k.toList==x.k.toList)
   ·go_wp2;go_ret;refine aq.f (fun ⟨i,j,x',v',e1,e2,e3,e4,e5,e6,e7,e8,_⟩=>?_) (HB.alloc HB.size _);obtain⟨_,rfl⟩:=HX.inj e1 HX1.out (e2.trans HN1.symm);obtain⟨_,rfl⟩:=HV.inj e3 HX2.out (e4.trans HN2.symm);rw[a_ e8] at q4;cases q4
   cases q5:(v.x==x.x)
   ·go_wp2;go_ret;refine aq.f (fun ⟨i,j,x',v',e1,e2,e3,e4,e5,e6,e7,e8,e9⟩=>?_) (HB.alloc HB.size _);obtain⟨_,rfl⟩:=HX.inj e1 HX1.out (e2.trans HN1.symm);obtain⟨_,rfl⟩:=HV.inj e3 HX2.out (e4.trans HN2.symm);rw[e9] at q5;simp at q5
   ·go_wp2;go_ret;exact aq.t ⟨_,_,x,v,HX1.out,HN1.out,HX2.out,HN2.out,dw q1,dw q2,q3,dw q4,by simpa using q5⟩ (HB.alloc HB.size _)
  ·have HH2:=aa hh;clear hh;obtain⟨x0,x1,x2,x3,x4⟩:=cs5 Bx;have ltx_2:=ae Bx.out;go_wp2;go_ret;refine aq.f (fun ⟨i,j,x',v',e1,e2,e3,e4,_⟩=>?_) (HB.alloc HB.size _);have:=(cV HV.out e3 e4).2;rw[HH2.out] at this;cases this
 ·have HH1:=aa hh;clear hh;obtain⟨k0,k1,k2,k3,k4,k5⟩:=cs6 Bk;have ltk_1:=ae Bk.out;go_wp2_with fail;refine (cD d c.now c.vs s w _ HR.v (HB.trans ((al _ _).mono HB.size))).mono ?_;rintro e w2 ⟨hb,hf⟩;clear k0 k1 k2 k3 k4 k5 ltk_1;obtain⟨HA0,hbx⟩:=aH hb;replace Bk:=upK Bk hbx;have Bx:=aa HA0;replace HB:=upB HB hbx;clear hb hbx HA0;rcases hf with ⟨hh,v,va,vl,vc,hx,hn,rfl,z0,z2,z3,z5,hvr⟩|⟨hh,rfl⟩
  ·have HX2:=aa hx;have HN2:=aa hn;clear hx hn hh z0 z2 z3 z5 hvr;exact uC
  ·have HH2:=aa hh;clear hh;exact uC

def QV (c:Cl) (v:Vd):Prop:=hit Kd.n c.ks v.k=true/\(v.m=⟨#[]⟩\/vU c v.m v.n)
def QX (c:Cl) (x:Xd):Prop:=hit Kd.n c.ks x.k=true/\(x.v=⟨#[]⟩\/vU c x.n x.v)
def mY (c:Cl):Prop:=(∀(j:Nat) v,c.vs[j]?=some v->QV c v)/\(∀(j:Nat) x,c.xs[j]?=some x->QX c x)

theorem mJ (d:Ad) (c:Cl) (w:World) (hr:aK w d c.raw) (hxr:aJ Xd.n c.xs) (hvr:aJ Vd.n c.vs) (hG:ens w):
  Calls Tryz.prog 79 #[.agg #[.slice d.a1 d.l1 d.c1,.slice d.a2 d.l2 d.c2,.slice d.a3 d.l3 d.c3,.slice d.a4 d.l4 d.c4,.slice d.a5 d.l5 d.c5,.int .i64 c.now]] w (aq (mY c) w):=by
 obtain⟨a1,l1,y1,a2,l2,y2,a3,l3,y3,a4,l4,y4,a5,l5,y5⟩:=d;dsimp only;obtain⟨HR,hl3⟩:=kr;have hm3:l3<=9223372036854775807:=xp hr.v.2.1 hr.v.2.2.1;have hl4:c.xs.length=l4:=pS
 have hm4:l4<=9223372036854775807:=xp hr.x.2.1 hr.x.2.2.1;clear hr;have HE:=aa hG;have HXR:=aa hxr;have HVR:=aa hvr;clear hG hxr hvr;go_enter Tryz.func79,Tryz.ntmps79;go_wp2;go_loopw [10] (fun i wr=> ∃k:Nat,k<=l3/\i=.int .i64 k/\Hid (∀(j:Nat) z,j<k->c.vs[j]?=some z->QV c z)/\Hid (Below w.heap.size w wr)/\Hid (wr.heap[w.heap.size]?=some (.cells (clo6 a1 l1 y1 a2 l2 y2 a3 l3 y3 a4 l4 y4 a5 l5 y5 c.now) 36 (0,0)))) (fun i _=>l3 - (intOf i).toNat);case atStart=>exact⟨0,by omega,rfl,fun _ _ h=>absurd h af,al _ _,xt⟩
 case round=>
  obtain⟨k,hk,rfl,HQ,HB,Bk⟩:=hrel;by_cases hlt:k<l3
  ·obtain⟨b,o,v,rfl,hb,hx,hat⟩:=bq (HR.v.below HB.out) hlt;obtain⟨va,vl,vc,hvr,z0,z2,z3,z5,c0,c1,c2,c3,c4,c5,c6,c7⟩:=aE hat;have HXv:=aa hx;clear hat hx z0 z2 z3 z5 hvr;obtain⟨k0,k1,k2,k3,k4,k5⟩:=cs6 Bk;have ltk_0:=ae Bk.out;go_wp2_with fail;refine (eM ⟨a1,l1,y1,a2,l2,y2,(some ⟨b,o,none⟩),l3,y3,a4,l4,y4,a5,l5,y5⟩ c.now c.ks v.k _ (HR.k.below (HB.trans ((al _ _).mono HB.size))) (HE.below (HB.trans ((al _ _).mono HB.size)))).mono ?_;rintro e w1 ⟨hb2,hf⟩;clear k0 k1 k2 k3 k4 k5 ltk_0;obtain⟨HA0,hbx⟩:=aH hb2;replace Bk:=upK Bk hbx;have Br:=aa HA0;replace HB:=upB HB hbx;clear hb2 hbx HA0;clear hb c0 c1 c2 c3 c4 c5 c6 c7;rcases hf with ⟨hh,rfl⟩|⟨hh,T,q,rfl⟩;rotate_left
   ·have HH:=aa hh;clear hh;obtain⟨k0,k1,k2,k3,k4,k5⟩:=cs6 Bk;obtain⟨r0,r1,r2,r3,r4,r5,r6,r7⟩:=cs8 Br;go_wp2;go_ret;exact aq.f (fun h=>HH.out (h.1 k v HXv.out).1) HB.out
   have HH:=aa hh;clear hh;by_cases he:v.m=⟨#[]⟩
   ·have hq:=dh he;have HEm:=aa he;clear he;obtain⟨k0,k1,k2,k3,k4,k5⟩:=cs6 Bk;obtain⟨r0,r1,r2,r3,r4,r5,r6,r7⟩:=cs8 Br;go_wp2_with fail;refine⟨⟨k+1,by omega,by go_num,fun j z hj hz=>?_,HB.out,Bk.out⟩,by simp[intOf];omega⟩;by_cases e:j=k
    ·subst e;rw[HXv.out] at hz;exact lV
    ·exact HQ.out j z af hz
   ·have hq:=bo he;have HEm:=aa he;clear he;obtain⟨k0,k1,k2,k3,k4,k5⟩:=cs6 Bk;obtain⟨r0,r1,r2,r3,r4,r5,r6,r7⟩:=cs8 Br;go_wp2_with fail;refine (iN ⟨a1,l1,y1,a2,l2,y2,(some ⟨b,o,none⟩),l3,y3,a4,l4,y4,a5,l5,y5⟩ c v.m v.n _ (HR.below HB.out) HXR.out HVR.out).mono ?_;rintro e w2 ⟨r,rfl,hi,hb3⟩;clear k0 k1 k2 k3 k4 k5 r0 r1 r2 r3 r4 r5 r6 r7;replace Bk:=upK Bk hb3;replace Br:=upK Br hb3;replace HB:=upB HB hb3;clear hb3;have HI:=aa hi;clear hi;cases r
    ·go_wp2;go_ret;refine aq.f (fun h=>?_) HB.out;rcases (h.1 k v HXv.out).2 with h2|h2
     ·exact HEm.out h2
     ·have:=HI.2 h2;cases this
    ·go_wp2_with fail;refine⟨⟨k+1,by omega,by go_num,fun j z hj hz=>?_,HB.out,Bk.out⟩,by simp[intOf];omega⟩;by_cases e:j=k
     ·subst e;rw[HXv.out] at hz;exact lZ
     ·exact HQ.out j z af hz
  ·obtain rfl:l3=k:=af
   have HQ1:Hid (∀(j:Nat) z,c.vs[j]?=some z->QV c z):=fun j z hz=>HQ.out j z ch hz;clear HQ;have k3:=ck3 Bk;go_wp2;go_loopw [37] (fun i wr=> ∃k:Nat,k<=l4/\i=.int .i64 k/\Hid (∀(j:Nat) z,j<k->c.xs[j]?=some z->QX c z)/\Hid (Below w.heap.size w wr)/\Hid (wr.heap[w.heap.size]?=some (.cells (clo6 a1 l1 y1 a2 l2 y2 a3 l3 y3 a4 l4 y4 a5 l5 y5 c.now) 36 (0,0)))) (fun i _=>l4 - (intOf i).toNat);case atStart=>exact⟨0,by omega,rfl,fun _ _ h=>absurd h af,HB.out,Bk.out⟩
   case round=>
    obtain⟨k,hk,rfl,HQ,HB,Bk⟩:=hrel;by_cases hlt:k<l4
    ·obtain⟨b,o,x,rfl,hb,hx,hat⟩:=dn (HR.x.below HB.out) hlt;obtain⟨z0,z2,z4,c0,c1,c2,c3,c4⟩:=bg hat;have HXx:=aa hx;clear hat hx z0 z2 z4;obtain⟨k0,k1,k2,k3,k4,k5⟩:=cs6 Bk;have ltk_0:=ae Bk.out;go_wp2_with fail;refine (eM ⟨a1,l1,y1,a2,l2,y2,a3,l3,y3,(some ⟨b,o,none⟩),l4,y4,a5,l5,y5⟩ c.now c.ks x.k _ (HR.k.below (HB.trans ((al _ _).mono HB.size))) (HE.below (HB.trans ((al _ _).mono HB.size)))).mono ?_;rintro e w1 ⟨hb2,hf⟩;clear k0 k1 k2 k3 k4 k5 ltk_0;obtain⟨HA0,hbx⟩:=aH hb2;replace Bk:=upK Bk hbx;have Br:=aa HA0;replace HB:=upB HB hbx;clear hb2 hbx HA0;clear hb c0 c1 c2 c3 c4;rcases hf with ⟨hh,rfl⟩|⟨hh,T,q,rfl⟩;rotate_left
     ·have HH:=aa hh;clear hh;obtain⟨k0,k1,k2,k3,k4,k5⟩:=cs6 Bk;obtain⟨r0,r1,r2,r3,r4⟩:=cs5 Br;go_wp2;go_ret;exact aq.f (fun h=>HH.out (h.2 k x HXx.out).1) HB.out
     have HH:=aa hh;clear hh;by_cases he:x.v=⟨#[]⟩
     ·have hq:=dh he;have HEm:=aa he;clear he;obtain⟨k0,k1,k2,k3,k4,k5⟩:=cs6 Bk;obtain⟨r0,r1,r2,r3,r4⟩:=cs5 Br;go_wp2_with fail;refine⟨⟨k+1,by omega,by go_num,fun j z hj hz=>?_,HB.out,Bk.out⟩,by simp[intOf];omega⟩;by_cases e:j=k
      ·subst e;rw[HXx.out] at hz;exact lV
      ·exact HQ.out j z af hz
     ·have hq:=bo he;have HEm:=aa he;clear he;obtain⟨k0,k1,k2,k3,k4,k5⟩:=cs6 Bk;obtain⟨r0,r1,r2,r3,r4⟩:=cs5 Br;go_wp2_with fail;refine (iN ⟨a1,l1,y1,a2,l2,y2,a3,l3,y3,(some ⟨b,o,none⟩),l4,y4,a5,l5,y5⟩ c x.n x.v _ (HR.below HB.out) HXR.out HVR.out).mono ?_;rintro e w2 ⟨r,rfl,hi,hb3⟩;clear k0 k1 k2 k3 k4 k5 r0 r1 r2 r3 r4;replace Bk:=upK Bk hb3;replace Br:=upK Br hb3;replace HB:=upB HB hb3;clear hb3;have HI:=aa hi;clear hi;cases r
      ·go_wp2;go_ret;refine aq.f (fun h=>?_) HB.out;rcases (h.2 k x HXx.out).2 with h2|h2
       ·exact HEm.out h2
       ·have:=HI.2 h2;cases this
      ·go_wp2_with fail;refine⟨⟨k+1,by omega,by go_num,fun j z hj hz=>?_,HB.out,Bk.out⟩,by simp[intOf];omega⟩;by_cases e:j=k
       ·subst e;rw[HXx.out] at hz;exact lZ
       ·exact HQ.out j z af hz
    ·obtain rfl:l4=k:=af
     have HQ2:Hid (∀(j:Nat) z,c.xs[j]?=some z->QX c z):=fun j z hz=>HQ.out j z ch hz;exact je

def InL (zs:List ByteArray) (t:ByteArray):Prop:=∃j:Nat,zs[j]?=some t

theorem mG (a:Option Addr) (len cap:Nat) (zs:List ByteArray) (t:ByteArray) (w:World) (hr:av w a len cap zs):
  Calls Tryz.prog 175 #[.slice a len cap,.string t] w fun e w'=>(∃r:Int,e=.returned (.int .i64 r)/\((0<=r/\InL zs t)\/(r= -1/\¬InL zs t)))/\w'=w:=by
 have HR:=aa hr;have hlc:=xp hr.2.1 hr.2.2.1;have hzl:=hr.1;clear hr;go_enter Tryz.func175,Tryz.ntmps175;go_wp2;go_loop [8] (fun i=> ∃k:Nat,k<=len/\i=.int .i64 k/\Hid (∀(j:Nat) x,j<k->zs[j]?=some x->¬x=t)) (fun i=>len - (intOf i).toNat);case atStart=>exact⟨0,by omega,rfl,fun _ _ h=>absurd h af⟩
 case round=>
  obtain⟨k,hk,rfl,HE⟩:=hrel;by_cases hlt:k<len
  ·obtain⟨b,o,x,rfl,hb,hx,hc,hsz⟩:=HR.at hlt;have HX:=aa hx;clear hx;by_cases hn:t=x
   ·have hq:=a_ hn;have HN:=aa hn;clear hn;go_wp2;go_ret;exact⟨⟨k,rfl,.inl ⟨by omega,k,by rw[HX.out,HN.out]⟩⟩,rfl⟩
   ·have hq:=bL hn;have HN:=aa hn;clear hn;go_wp2;refine⟨⟨k+1,by omega,by go_num,fun j z hj hz=>?_⟩,by simp[intOf];omega⟩;by_cases e:j=k
    ·subst e;rw[HX.out] at hz;obtain rfl:=xh hz;exact fun q=>HN.out q.symm
    ·exact HE.out j z af hz
  ·obtain rfl:len=k:=af
   go_wp2;go_ret;exact⟨⟨-1,rfl,.inr ⟨rfl,fun ⟨j,hj⟩=>HE.out j t iz hj rfl⟩⟩,rfl⟩

theorem bE (a:Option Addr) (len cap:Nat) (zs:List ByteArray) (t:ByteArray) (w:World) (hr:av w a len cap zs):
  Calls Tryz.prog 143 #[.slice a len cap,.string t] w (aq (InL zs t) w):=by
 have HR:=aa hr;clear hr;go_enter Tryz.func143,Tryz.ntmps143;go_wp2_with fail;refine (mG a len cap zs t _ HR.out).mono ?_;rintro e w1 ⟨⟨r,rfl,hr⟩,rfl⟩;rcases hr with ⟨h0,hi⟩|⟨rfl,hi⟩
 ·go_wp2;go_ret;exact aq.t hi (xj _ _)
 ·go_wp2;go_ret;exact aq.f hi (xj _ _)

theorem h_ (d:Ad) (now:Int) (xs:List Xd) (a:Option Addr) (len cap:Nat) (zs:List ByteArray) (w:World) (hr:aF w d.a4 d.l4 d.c4 5 (xs.map xdF)) (hz:av w a len cap zs) (hG:ens w):
  Calls Tryz.prog 132 #[.agg #[.slice d.a1 d.l1 d.c1,.slice d.a2 d.l2 d.c2,.slice d.a3 d.l3 d.c3,.slice d.a4 d.l4 d.c4,.slice d.a5 d.l5 d.c5,.int .i64 now],.slice a len cap] w (wm (∀(j:Nat) t,zs[j]?=some t->hit Xd.n xs t=true) w):=by
 have HR:=aa hr;have HE:=aa hG;have HZ:=aa hz;have hlc:=xp hz.2.1 hz.2.2.1;have hzl:=hz.1;clear hr hG hz;go_enter Tryz.func132,Tryz.ntmps132;go_wp2;go_loopw [11] (fun i wr=> ∃k:Nat,k<=len/\i=.int .i64 k/\Hid (∀(j:Nat) t,j<k->zs[j]?=some t->hit Xd.n xs t=true)/\Hid (Below w.heap.size w wr)/\Hid (wr.heap[w.heap.size]?=some (.cells (clv d now) 36 (0,0)))) (fun i _=>len - (intOf i).toNat);case atStart=>exact⟨0,by omega,rfl,fun _ _ h=>absurd h af,al _ _,xt⟩
 case round=>
  obtain⟨k,hk,rfl,HQ,HB,Bk⟩:=hrel;by_cases hlt:k<len
  ·obtain⟨b,o,t,rfl,hb,hx,hc,hsz⟩:=(HZ.below HB.out).at hlt;have HX:=aa hx;clear hx;obtain⟨k0,k1,k2,k3,k4,k5⟩:=cs6 Bk;go_wp2_with fail;refine (fE d now xs t w _ HR.out HB.out).mono ?_;rintro e w1 ⟨hb2,hf⟩;clear k0 k1 k2 k3 k4 k5;replace Bk:=upK Bk hb2;replace HB:=upB HB hb2;clear hb2;clear hb hc hsz;obtain⟨T,q,hv⟩:=HE.below HB.out;have hl:=(HE.below HB.out).lt;rcases hf with ⟨hh,x,hx,hn,rfl,z0,z2,z4⟩|⟨hh,rfl⟩
   ·have HH:=aa hh;clear hh hx hn z0 z2 z4 hv hl;go_wp2;refine⟨⟨k+1,by omega,by go_num,fun j z hj hz=>?_,HB.alloc HB.size _,(xM _ _ _ (ae Bk.out)).trans Bk.out⟩,by simp[intOf];omega⟩;by_cases e:j=k
    ·subst e;rw[HX.out] at hz;obtain rfl:=xh hz;exact HH.out
    ·exact HQ.out j z af hz
   ·have HH:=aa hh;clear hh;go_wp2;go_ret;exact⟨HB.alloc HB.size _,.inr ⟨fun h=>(by have:=h k t HX.out;rw[HH.out] at this;cases this),T,q,rfl⟩⟩
  ·obtain rfl:len=k:=af
   go_wp2;go_ret;exact⟨HB.out,.inl ⟨fun j t ht=>HQ.out j t nv ht,rfl⟩⟩

def bp (c:Cl) (t:ByteArray) (v:Vd):Prop:=∃(i j:Nat) (x:Xd),c.xs[i]?=some x/\x.n=t/\c.vs[j]?=some v/\v.n=x.v
def wB (c:Cl) (t:ByteArray) (r w:World) (e:Ending) (w':World):Prop:=
 Below w.heap.size w w'/\((∃(v:Vd) (va:Option Addr) (vl vc:Nat),bp c t v/\e=.returned (.tuple #[.agg #[.string v.n,.int .i64 v.c,.string v.z,.string v.k,.bool v.x,.string v.m,.bool v.y,.slice va vl vc],.bool true])/\v.n.size<=9223372036854775807/\v.z.size<=9223372036854775807/\av r va vl vc v.zs)\/((∀v,¬bp c t v)/\e=.returned (.tuple #[.agg #[.string ⟨#[]⟩,.int .i64 0,.string ⟨#[]⟩,.string ⟨#[]⟩,.bool false,.string ⟨#[]⟩,.bool false,.slice none 0 0],.bool false])))

theorem jw (d:Ad) (c:Cl) (t:ByteArray) (r:World) (w:World) (hr:aK r d c.raw) (hrw:Below r.heap.size r w) (hx:aJ Xd.n c.xs) (hv:aJ Vd.n c.vs) (hne:∀(j:Nat) v,c.vs[j]?=some v->¬v.n=⟨#[]⟩):
  Calls Tryz.prog 161 #[.agg #[.slice d.a1 d.l1 d.c1,.slice d.a2 d.l2 d.c2,.slice d.a3 d.l3 d.c3,.slice d.a4 d.l4 d.c4,.slice d.a5 d.l5 d.c5,.int .i64 c.now],.string t] w (wB c t r w):=by
 have HR:=aa hr;have HRW:=aa hrw;obtain⟨HX,HV,HNE⟩:=fY;have HB:=aa (xj w.heap.size w);clear hr hx hv hrw hne;go_enter Tryz.func161,Tryz.ntmps161;go_wp2_with fail;refine (fE d c.now c.xs t r _ HR.x (HRW.trans ((aM _ _ _).mono HRW.size))).mono ?_;rintro e w1 ⟨hb,hf⟩;obtain⟨HA0,HA1,hbx⟩:=de hb;have Bk:=aa HA0;have Bs:=aa HA1;replace HB:=upB HB hbx;clear hb hbx HA0 HA1;rcases hf with ⟨hh,x,hx,hn,rfl,z0,z2,z4⟩|⟨hh,rfl⟩
 ·have HX1:=aa hx;have HN1:=aa hn;clear hx hn hh z0 z2 z4;obtain⟨k0,k1,k2,k3,k4,k5⟩:=cs6 Bk;have ltk_1:=ae Bk.out;go_wp2_with fail;refine (cD d c.now c.vs x.v r _ HR.v (HRW.trans ((HB.trans ((al _ _).mono HB.size)).mono HRW.size))).mono ?_;rintro e w2 ⟨hb,hf⟩;clear k0 k1 k2 k3 k4 k5 ltk_1;obtain⟨HA0,hbx⟩:=aH hb;replace Bk:=upK Bk hbx;replace Bs:=upK Bs hbx;have Bx:=aa HA0;replace HB:=upB HB hbx;clear hb hbx HA0;rcases hf with ⟨hh,v,va,vl,vc,hx,hn,rfl,z0,z2,z3,z5,hvr⟩|⟨hh,rfl⟩
  ·have HX2:=aa hx;have HN2:=aa hn;have HT:=aa hvr;have HZ0:=aa z0;have HZ2:=aa z2;clear hx hn hh z0 z2 z3 z5 hvr;obtain⟨s0,s1,s2,s3,s4,s5,s6,s7⟩:=cs8 Bs;obtain⟨fr0,fr1,fr2,fr3,fr4,fr5,fr6,fr7⟩:=pX;go_wp2;refine bodyPost_ret (v:=.tuple #[.agg #[.string v.n,.int .i64 v.c,.string v.z,.string v.k,.bool v.x,.string v.m,.bool v.y,.slice va vl vc],.bool true]) pQ rfl ⟨ah (xC _) (ah (xC _) (ah (xC _) (ah (xC _) (ah (xC _) (ah (xC _) (ah (xC _) (ah (xC _) (HB.out)))))))),.inl ⟨v,va,vl,vc,⟨_,_,x,HX1.out,HN1.out,HX2.out,HN2.out⟩,rfl,HZ0.out,HZ2.out,HT.out⟩⟩
  ·have HH2:=aa hh;clear hh;obtain⟨s0,s1,s2,s3,s4,s5,s6,s7⟩:=cs8 Bs;obtain⟨fr0,fr1,fr2,fr3,fr4,fr5,fr6,fr7⟩:=pX;go_wp2;refine bodyPost_ret (v:=.tuple #[.agg #[.string ⟨#[]⟩,.int .i64 0,.string ⟨#[]⟩,.string ⟨#[]⟩,.bool false,.string ⟨#[]⟩,.bool false,.slice none 0 0],.bool false]) pQ rfl ⟨ah (xC _) (ah (xC _) (ah (xC _) (ah (xC _) (ah (xC _) (ah (xC _) (ah (xC _) (ah (xC _) (HB.out)))))))),.inr ⟨fun v ⟨i,j,x2,e1,e2,e3,e4⟩=>(by obtain⟨_,rfl⟩:=HX.inj e1 HX1.out (e2.trans HN1.symm);have:=(cV HV.out e3 e4).2;rw[HH2.out] at this;cases this),rfl⟩⟩
 ·have HH1:=aa hh;clear hh;obtain⟨k0,k1,k2,k3,k4,k5⟩:=cs6 Bk;have ltk_1:=ae Bk.out;go_wp2_with fail;refine (cD d c.now c.vs ⟨#[]⟩ r _ HR.v (HRW.trans ((HB.trans ((al _ _).mono HB.size)).mono HRW.size))).mono ?_;rintro e w2 ⟨hb,hf⟩;clear k0 k1 k2 k3 k4 k5 ltk_1;obtain⟨HA0,hbx⟩:=aH hb;replace Bk:=upK Bk hbx;replace Bs:=upK Bs hbx;have Bx:=aa HA0;replace HB:=upB HB hbx;clear hb hbx HA0;rcases hf with ⟨hh,v,va,vl,vc,hx,hn,rfl,z0,z2,z3,z5,hvr⟩|⟨hh,rfl⟩
  ·have HX2:=aa hx;have HN2:=aa hn;have HT:=aa hvr;have HZ0:=aa z0;have HZ2:=aa z2;clear hx hn hh z0 z2 z3 z5 hvr;exact absurd HN2.out (HNE.out _ _ HX2.out)
  ·have HH2:=aa hh;clear hh;obtain⟨s0,s1,s2,s3,s4,s5,s6,s7⟩:=cs8 Bs;obtain⟨fr0,fr1,fr2,fr3,fr4,fr5,fr6,fr7⟩:=pX;go_wp2;refine bodyPost_ret (v:=.tuple #[.agg #[.string ⟨#[]⟩,.int .i64 0,.string ⟨#[]⟩,.string ⟨#[]⟩,.bool false,.string ⟨#[]⟩,.bool false,.slice none 0 0],.bool false]) pQ rfl ⟨ah (xC _) (ah (xC _) (ah (xC _) (ah (xC _) (ah (xC _) (ah (xC _) (ah (xC _) (ah (xC _) (HB.out)))))))),.inr ⟨fun v ⟨i,j,x2,e1,e2,e3,e4⟩=>(by have:=(cV HX.out e1 e2).2;rw[HH1.out] at this;cases this),rfl⟩⟩

def cpuOf (t:ByteArray):List Pd->Int
 | []=>0
 | p ::ps=>(if p.d=t then p.c else 0)+cpuOf t ps
theorem fz (t:ByteArray):∀ps qs:List Pd,cpuOf t (ps++qs)=cpuOf t ps+cpuOf t qs
 | [],qs=>by simp[cpuOf]
 | p ::ps,qs=>by simp[cpuOf,fz t ps];omega
theorem dR {t:ByteArray} {ps:List Pd} {k:Nat} {p:Pd} (h:ps[k]?=some p):cpuOf t (ps.take (k+1))=cpuOf t (ps.take k)+(if p.d=t then p.c else 0):=by
 rw[yb,h,fz];simp[cpuOf]

theorem jk (d:Ad) (now:Int) (ps:List Pd) (t:ByteArray) (w:World) (hr:aF w d.a5 d.l5 d.c5 6 (ps.map pdF)) (hl:ps.length<=8) (hp:∀(j:Nat) p,ps[j]?=some p->0<=p.c/\p.c<=1000000):
  Calls Tryz.prog 134 #[.agg #[.slice d.a1 d.l1 d.c1,.slice d.a2 d.l2 d.c2,.slice d.a3 d.l3 d.c3,.slice d.a4 d.l4 d.c4,.slice d.a5 d.l5 d.c5,.int .i64 now],.string t] w fun e w'=>e=.returned (.int .i64 (cpuOf t ps))/\Below w.heap.size w w':=by
 obtain⟨a1,l1,y1,a2,l2,y2,a3,l3,y3,a4,l4,y4,a5,l5,y5⟩:=d;dsimp only at hr ⊢;have HR:=aa hr;have hxl:ps.length=l5:=dA
 have HP:=aa hp;clear hr hp;go_enter Tryz.func134,Tryz.ntmps134;go_wp2;go_loopw [5,11] (fun q i wr=> ∃(k:Nat) (s:Int),k<=l5/\q=.int .i64 s/\i=.int .i64 k/\Hid (s=cpuOf t (ps.take k))/\0<=s/\s<=k*1000000/\Hid (Below w.heap.size w wr)) (fun _ i _=>l5 - (intOf i).toNat);case atStart=>exact⟨0,0,by omega,rfl,rfl,rfl,by omega,by omega,al _ _⟩
 case round=>
  obtain⟨k,s,hk,rfl,rfl,HS,hs0,hs1,HB⟩:=hrel;by_cases hlt:k<l5
  ·obtain⟨b,o,p,rfl,hb,hx,hat⟩:=cj (HR.below HB.out) hlt;obtain⟨va,vl,vc,hvr,z0,z2,z4,c0,c1,c2,c3,c4,c5⟩:=aS hat;have HX:=aa hx;have hpc:=HP.out k p hx;clear hat hx z0 z2 z4 hvr;by_cases hn:p.d=t
   ·have hq:=a_ hn;have HN:=aa hn;clear hn;go_wp2;refine⟨⟨k+1,s+p.c,by omega,by go_num,by go_num,?_,by omega,by omega,HB.alloc HB.size _⟩,by simp[intOf];omega⟩;show _=_;rw[dR HX.out,if_pos HN.out,<-HS.out]
   ·have hq:=bL hn;have HN:=aa hn;clear hn;go_wp2;refine⟨⟨k+1,s,by omega,rfl,by go_num,?_,by omega,by omega,HB.alloc HB.size _⟩,by simp[intOf];omega⟩;show _=_;rw[dR HX.out,if_neg HN.out,<-HS.out,Int.add_zero]
  ·obtain rfl:l5=k:=af
   exact qo

def og (c:Cl) (t:ByteArray):Prop:=∀(i j:Nat) p q,c.ps[i]?=some p->c.ps[j]?=some q->¬p.d=⟨#[]⟩->¬q.d=⟨#[]⟩->InL p.zs t->InL q.zs t->p.d=q.d

theorem sg (d:Ad) (c:Cl) (t:ByteArray) (w:World) (hr:aK w d c.raw):
  Calls Tryz.prog 135 #[.agg #[.slice d.a1 d.l1 d.c1,.slice d.a2 d.l2 d.c2,.slice d.a3 d.l3 d.c3,.slice d.a4 d.l4 d.c4,.slice d.a5 d.l5 d.c5,.int .i64 c.now],.string t] w (aq (og c t) w):=by
 obtain⟨a1,l1,y1,a2,l2,y2,a3,l3,y3,a4,l4,y4,a5,l5,y5⟩:=d;dsimp only;have HR:=aa hr;obtain⟨hl5,hm5⟩:=iD;clear hr;go_enter Tryz.func135,Tryz.ntmps135;go_wp2;go_loopw [5,11] (fun q i wr=> ∃(k:Nat) (s:ByteArray),k<=l5/\q=.string s/\i=.int .i64 k/\Hid (∀(j:Nat) p,j<k->c.ps[j]?=some p->¬p.d=⟨#[]⟩->InL p.zs t->p.d=s)/\Hid (s=⟨#[]⟩\/∃(j:Nat) (p:Pd),j<k/\c.ps[j]?=some p/\¬p.d=⟨#[]⟩/\InL p.zs t/\p.d=s)/\Hid (Below w.heap.size w wr)) (fun _ i _=>l5 - (intOf i).toNat);case atStart=>exact⟨0,_,by omega,rfl,rfl,fun _ _ h=>absurd h af,.inl rfl,al _ _⟩
 case round=>
  obtain⟨k,s,hk,rfl,rfl,HQ,HS,HB⟩:=hrel;by_cases hlt:k<l5
  ·obtain⟨b,o,p,rfl,hb,hx,hat⟩:=cj (HR.p.below HB.out) hlt;obtain⟨va,vl,vc,hvr,z0,z2,z4,c0,c1,c2,c3,c4,c5⟩:=aS hat;have HX:=aa hx;have HT:=aa hvr;clear hat hx z0 z2 z4 hvr;have skip:(p.d=⟨#[]⟩\/¬InL p.zs t)->∀(j:Nat) q,j<k+1->c.ps[j]?=some q->¬q.d=⟨#[]⟩->InL q.zs t->q.d=s:=by
    intro h j q hj hq h1 h2;by_cases e:j=k
    ·subst e;rw[HX.out] at hq;obtain rfl:=xh hq;rcases h with h|h
     ·exact absurd h h1
     ·exact absurd h2 h
    ·exact HQ.out j q af hq h1 h2
   have SK:=aa skip;clear skip;have keepS:s=⟨#[]⟩\/∃(j:Nat) (p:Pd),j<k+1/\c.ps[j]?=some p/\¬p.d=⟨#[]⟩/\InL p.zs t/\p.d=s:=HS.imp id (fun ⟨j,p,h1,h2⟩=>⟨j,p,by omega,h2⟩);have KS:=aa keepS;clear keepS;by_cases he:p.d=⟨#[]⟩
   ·have hq:=dh he;have HEm:=aa he;clear he;go_wp2;exact⟨⟨k+1,s,by omega,rfl,by go_num,SK.out (.inl HEm.out),KS.out,HB.alloc HB.size _⟩,by simp[intOf];omega⟩
   ·have hq:=bo he;have HEm:=aa he;clear he;go_wp2_with fail;refine (bE va vl vc p.zs t _ (HT.below (al _ _))).mono ?_;rintro e w1 ⟨r,rfl,hi,hb2⟩;obtain⟨HA0,hbx⟩:=aH hb2;have Br:=aa HA0;replace HB:=upB HB hbx;clear hb2 hbx HA0;have HI:=aa hi;clear hi c0 c1 c2 c3 c4 c5 hb;cases r
    ·obtain⟨r0,r1,r2,r3,r4,r5⟩:=cs6 Br;go_wp2;exact⟨⟨k+1,s,by omega,rfl,by go_num,SK.out (.inr (fun h=>by have:=HI.2 h;cases this)),KS.out,HB.out⟩,by simp[intOf];omega⟩
    ·have HIn:=aa (HI.1 bA);clear HI;by_cases hs:s=⟨#[]⟩
     ·have hq2:=dh hs;have HSe:=aa hs;clear hs;obtain⟨r0,r1,r2,r3,r4,r5⟩:=cs6 Br;go_wp2_with fail;refine⟨⟨k+1,p.d,by omega,rfl,by go_num,fun j q hj hq h1 h2=>?_,.inr ⟨k,p,by omega,HX.out,HEm.out,HIn.out,rfl⟩,HB.out⟩,by simp[intOf];omega⟩;by_cases e:j=k
      ·subst e;rw[HX.out] at hq;obtain rfl:=xh hq;rfl
      ·exact absurd (HSe.out ▸ HQ.out j q af hq h1 h2) h1
     ·have hq2:=bo hs;have HSe:=aa hs;clear hs;by_cases hd:p.d=s
      ·have hq3:=a_ hd;have HD:=aa hd;clear hd;obtain⟨r0,r1,r2,r3,r4,r5⟩:=cs6 Br;go_wp2_with fail;refine⟨⟨k+1,p.d,by omega,rfl,by go_num,fun j q hj hq h1 h2=>?_,.inr ⟨k,p,by omega,HX.out,HEm.out,HIn.out,rfl⟩,HB.out⟩,by simp[intOf];omega⟩;by_cases e:j=k
       ·subst e;rw[HX.out] at hq;obtain rfl:=xh hq;rfl
       ·exact (HQ.out j q af hq h1 h2).trans HD.symm
      ·have hq3:=bL hd;have HD:=aa hd;clear hd;obtain⟨r0,r1,r2,r3,r4,r5⟩:=cs6 Br;go_wp2;go_ret;refine aq.f (fun h=>?_) HB.out;rcases HS.out with h1|⟨j,q,h1,h2,h3,h4,h5⟩
       ·exact HSe.out h1
       ·exact HD.out ((h k j p q HX.out h2 HEm.out h3 HIn.out h4).trans h5)
  ·obtain rfl:l5=k:=af
   go_wp2;go_ret;refine aq.t (fun i j p q hi hj h1 h2 h3 h4=>?_) HB.out;rw[HQ.out i p (by have:=(xe.1 hi).1;omega) hi h1 h3,HQ.out j q iz hj h2 h4]

end Rc
end Go.Proofs.YtbbdcjbfnjlndaaGreatDoor

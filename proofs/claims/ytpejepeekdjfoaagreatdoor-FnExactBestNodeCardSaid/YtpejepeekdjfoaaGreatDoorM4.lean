import Derived.Test.YtpejepeekdjfoaaGreatDoorM3
import Derived.Laws.AppendOwn
import Derived.Laws.AppendOwnNone
import Derived.Deep.AppendLies
import Derived.Lib.Overlaps
import Derived.Lib.SliceRun
import Derived.Lib.AppendZerosOnto
import Derived.Deep.RegionLaw
import Derived.Shelf.RegionOpenPlain
import Derived.Test.YtpejepeekdjfoaaGreatDoorRows
import Derived.WalkKit
import Derived.WalkSpells
import Derived.OwnWalk
import Derived.Outline
import Derived.Lib.BufferWrite
import Derived.Laws.CopyOwn
import Derived.Laws.IdiomStrings
/-
 Lists of records that are put together by append, in memory of their own: the values, and what they say.
-/
set_option maxRecDepth 100000
set_option maxHeartbeats 12800000
open And renaming intro→Fo
open Array renaming getD_eq_getD_getElem?→Fx, getElem?_push_size→FD, getElem?_eq_some_iff→FG, getElem?_setIfInBounds→FL
open Go.Act renaming put→GO, eval→Iu
open Go.Addr renaming add_lit→FT
open Go.Builtin renaming append_→GG, copy_→GS, zeroCells→Hn, firstCells→Hs
open Go.Code renaming region→Iy
open Go.Lib renaming byteCells→G4
open Go.Op renaming bytesLess→FB
open Go.Region renaming ready→Ge, wanted→GW
open Go.Result renaming andThen_ok→Io
open Go.RowKit.Below renaming heap_setCell→Fp, refl→Fw, heap_alloc→Fy, size→Ir
open Go.Value renaming string→FK, ownBlock→G9
open Go.World renaming cell?_of_block→Gc, setCell→Gf, ownsRow_nil→Gj, cell?→He
open List renaming getElem?_eq_some_iff→Fm, lookup→Fs, getElem?_eq_getElem→Fu, setIfInBounds_toArray→Fz, getElem?_map→FC, take_of_length_le→FF, set_cons_zero→FH, forall_mem_cons→FI, set_cons_succ→FM, getElem?_append_left→FN, length_take→FQ, getElem?_take→FR, length_map→FU, getElem?_of_mem→FW, take_add_one→F6, length_append→F7, foldr→Gd, getElem?_append_right→Gh, mem_cons→Gl, getElem?_eq_none→Gq, getElem?_drop→Gw, range→GA, length_drop→GJ, drop_eq_nil_of_le→GM, eq_nil_of_length_eq_zero→GQ, not_mem_nil→GU, getLast→G3, take_append_drop→G5, append_assoc→G6, length_cons→Hb, mem_append_left→Hk, filter_append→Hr, getElem?_range→Hy, map_cons→Ia, flatten_cons→Ip, flatten_append→It, nil_append→IC, take_left'→ID, ext_getElem?→IH, map_toArray→IL, mem_map→IM
open Nat renaming le_refl→Ft, le_trans→FA, lt_of_lt_of_le→FE, zero_add→FX, eq_zero_or_pos→Hq, zero_le→H9, min_eq_left→IB
open Option renaming map_eq_some_iff→FJ
open Option.some renaming inj→Fq
open Prod.mk renaming injEq→IF
namespace Go.Proofs.YtpejepeekdjfoaaGreatDoor
theorem jL {p:Prop} (h:p:=by simp[results,Tryz.results186,go_sem, *]):p:=h
theorem jK {p:Prop} (h:p:=by rw[FQ];omega):p:=h
theorem sg {p:Prop} (h:p:=by rw[<-It,G5]):p:=h
theorem jI {p:Prop} (h:p:=by simpa using ho.1):p:=h
theorem BC {p:Prop} (h:p:=by simp only[F7,FQ,GJ];omega):p:=h
end Go.Proofs.YtpejepeekdjfoaaGreatDoor
namespace Go.Proofs.YtpejepeekdjfoaaGreatDoor
theorem vJ {p:Prop} (h:p:=by
 skip;cases h4:t.toList.isEmpty
 ·cases h5:(z.toList==t.toList)
  ·skip;exact lY
  ·skip;exact lY
 ·skip;exact lY):p:=h
theorem Dl {p:Prop} (h:p:=by
 exact lY):p:=h
theorem lk {p:Prop} (h:p:=by
 go_enter Tryz.func135,Tryz.ntmps135;go_wp2_with fail;exact bodyPost_ret (v:=.tuple #[.agg #[.string ⟨#[]⟩,.int .i64 0,.string ⟨#[]⟩,.string ⟨#[]⟩,.bool false,.string ⟨#[]⟩,.bool false,.slice none 0 0],.bool false]) (by simp[results,Tryz.results135,go_sem]) rfl ⟨rfl,bI _ _ _ _⟩):p:=h
theorem wS {p:Prop} (h:p:=by
 obtain rfl:len=k:=af
 have h5:=HF.out;have HO5:=HO;rw[FF af] at h5 HO5;have h6:=(h5.lU (HV.below HB.out)).aM (w':=wr) (S':=fun k=>Q k\/w.heap.size<=k) (fun _ _ _ _=>rfl) (fun _ _ s=>.inl s);obtain⟨a',c',e,hR⟩:=h6.own HO5.out aS aj (fun g hg=>.inr (HO5.lt g hg).1);subst e;have HR5:=aa hR;clear h5 h6 hR HF HO HO5;go_wp2;go_ret;exact⟨a',_,c',rfl,by simpa using HR5.out,HB.out⟩):p:=h
theorem vP {p:Prop} (h:p:=by
 have hF:=HF.push HX.out HVK.out;rw[<-uh HX.out hq] at hF;have HF3:=aa hF;have HB3:=aa ((HB1.trans ((al _ _).mono HB1.size)).grown hgrow bG (fun g hg=>(HO1.lt g hg).1));clear hown3 hgrow hF;go_wp2;exact⟨⟨k+1,_,_,by omega,by go_num,HO3,HF3,HB3⟩,by simp[intOf];omega⟩):p:=h
theorem jO {p:Prop} (h:p:=by
 go_simp;refine hK _ _ (Rv.other aj (Fw _ _)) ?_;with_reducible rfl):p:=h
theorem vN {p:Prop} (h:p:=by
 rw[<-e1] at hV;have HV3:=aa hV;have HB3:=aa ((HB.trans (hb23.mono hBs)).grown hgrow bG (fun g hg=>(HO2.lt g hg).1));clear hown3 hgrow hb23 hV e1;go_wp2;exact⟨⟨k+1,_,_,by omega,by go_num,HO3,HV3,HB3⟩,by simp[intOf];omega⟩):p:=h
theorem vK {p:Prop} (h:p:=by
 have hq2:(x.n.toList !=t.toList)=false:=by simp[bne,hq]
 have HF3:=aa HF.up;rw[<-D7 HX.out hq] at HF3 HO1;go_wp2;exact⟨⟨k+1,ws,f,by omega,by go_num,HO1,HF3,HB1⟩,by simp[intOf];omega⟩):p:=h
theorem CK {p:Prop} (h:p:=by
 clear h2;go_wp2_with fail;refine ag aq aq ?_;repeat (go_big_quiet_step (first|(go_at_call 172;exact Calls.wide (HF.out _))|fail))
 refine wpQuiet_nil ?_;rintro _ ⟨q,rfl⟩;go_wp2_with fail;exact⟨⟨i+1,_,by omega,rfl,by go_num,cY.old HU.out HBU.out HV.out HX.out,(q.b.block _ hgl).trans HG.out,HB.trans (q.b.mono HB.size)⟩,by simp[intOf];omega⟩):p:=h
theorem CJ {p:Prop} (h:p:=by
 go_wp2_with fail;refine ag aq aq ?_;repeat (go_big_quiet_step (first|(go_at_call 172;exact Calls.wide (HF.out _))|fail))
 refine wpQuiet_nil ?_;rintro _ ⟨q,rfl⟩;go_wp2_with fail;exact⟨⟨i+1,_,by omega,rfl,by go_num,cY.new HBU.out HV.out HS.out HX.out,(q.b.block _ hgl).trans HG.out,HB.trans (q.b.mono HB.size)⟩,by simp[intOf];omega⟩):p:=h
theorem lg {p:Prop} (h:p:=by
 go_enter Tryz.func172,Tryz.ntmps172;go_wp2_with fail;go_ret;exact⟨rfl,HB.out⟩):p:=h
theorem vG {p:Prop} (h:p:=by
 rw[Gq bG] at hj;cases hj):p:=h
theorem Cw {p:Prop} (h:p:=by
 rw[<-e1] at hs3;have HS1:=aa hs1;have HS2:=aa hs2';have HS3:=aa hs3;have HS4:=aa hs4;obtain⟨o0,o1,o2,o3,o4,o5⟩:=cs6 bo5;have fo0:=av bo5 0;have fo2:=av bo5 2;have fo4:=av bo5 4;clear hs1 hs2' hs3 hs4 bo5 hown5 hgrow e1;go_wp2;exact⟨⟨k+1,_,H',_,by omega,by go_num,HS1,HS2,HS3,HS4⟩,by simp[intOf];omega⟩):p:=h
theorem vC {p:Prop} (h:p:=by
 have h2:0<(vss[k]).length:=by rw[HV.all k _ h1];decide
 obtain⟨g,e,_,_⟩:=HC.out _ _ (fH HV.all h1 (Fu h2));cases e;rfl):p:=h
theorem yV {p:Prop} (h:p:=by
 clear h4 h2;go_enter Tryz.func135,Tryz.ntmps135;go_wp2_with fail;exact bodyPost_ret (v:=.tuple #[.agg #[.string (aD++n'),.int .i64 c',.string t,.string k',.bool x',.string n',.bool false,.slice none 0 0],.bool true]) (by simp[results,Tryz.results135,go_sem,aD]) rfl ⟨rfl,bI _ _ _ _⟩):p:=h
theorem yK {p:Prop} (h:p:=by
 rw[FX,aw hg];have hj:j<n:=by have:=(Fm.1 hx).1;omega
 have e1:(cur.toList.take (n*1))[j]?=some (.string x):=by rw[htk];simp[hx]
 rw[FR,if_pos af] at e1;simpa using e1):p:=h
theorem qE {p:Prop} (h:p:=by
 rintro e w6 ⟨a',c',rfl,ho,hb6⟩;exact hK _ _ hb6 ⟨a',c',rfl,ho.bA (fun k hk s=>⟨s,hk⟩),Ir hW⟩):p:=h
theorem yq {p:Prop} (h:p:=by
 unfold Oper.wp execOp;simp only[ho,resolve,invoke,builtin,Sem.run_bind,Sem.run_pure,Io,IL,Ia,List.map_nil,hs,hx,hr];exact hK _ _ (h v' w' h2 h3)):p:=h
theorem qA {p:Prop} (h:p:=by
 rw[hl5] at HR5;rw[hl5];clear h5 hR HV HO;go_wp2;go_ret;exact⟨a',c',rfl,HR5.out,HB.out⟩):p:=h
theorem qt {p:Prop} (h:p:=by
 rintro v w w' ⟨b,h1,h2,h3⟩ hb;exact⟨b,h1,h2,(hb.block _ (ae h3)).trans h3⟩):p:=h
theorem yo {p:Prop} (h:p:=by
 intro a' c' w' hR hb6;have hsw:=hW.size;exact hK _ _ hb6 ⟨a',c',rfl,hR.bA (fun k _ s=>by show W.heap.size<=k;rcases s with rfl|s <;> omega)⟩):p:=h
theorem qm {p:Prop} (h:p:=by
 rw[Gq af,Gq aS]):p:=h
theorem gd {p:Prop} (h:p:=by
 exact we):p:=h
theorem iA {p:Prop} (h:p:=by
 refine Gi.Obl.plain rfl ?_;intro ac wg K lo hi hsz hW hpr hf hap hK;clear hsz hap hpr;have e1:=hf 1 aj;simp[Gi.ai,Fs] at e1;clear hf;exact aU):p:=h
theorem iz {p:Prop} (h:p:=by
 clear hf;obtain⟨k0,k1,k2,k3,k4,k5⟩:=cs6 ((Below.block hW _ (ae Bk.out)).trans Bk.out);exact aU):p:=h
theorem jV {p:Prop} (h:p:=by
 clear hf;obtain⟨k0,k1,k2,k3,k4,k5⟩:=cs6 ((hW.block _ (ae Bk.out)).trans Bk.out);exact aU):p:=h
theorem lY {p:Prop} (h:p:=by
 go_enter Tryz.func214,Tryz.ntmps214;go_wp2_with fail;go_ret;exact⟨Dg aS,HB.out⟩):p:=h
theorem p8 {p:Prop} (h:p:=by
 show World.ownsRow _ _ _ _ _ _ _;rw[uh HX.out hq,F7,It];simpa using hown3):p:=h
theorem xp {p:Prop} (h:p:=by
 refine Gi.Obl.plain rfl ?_;intro ac wg K lo hi hsz hW hpr hf hap hK;clear hsz hap hpr;have hW:wr.grownBy wg v.ownBlock:=hW;have e3:=hf 3 aj;simp[Gi.ai,Fs] at e3;clear hf;exact jO):p:=h
theorem pX {p:Prop} (h:p:=by
 show World.ownsRow _ _ _ _ _ _ _;rw[It];simpa using hown3):p:=h
theorem wO {p:Prop} (h:p:=by
 rcases hown.2 with ⟨rfl,_⟩|⟨g,cap,cur,rfl,_⟩
 ·exact⟨_,_,_,rfl⟩
 ·exact⟨_,_,_,rfl⟩):p:=h
theorem wN {p:Prop} (h:p:=by
 skip;by_cases h3:c'<=c
 ·rw[decide_eq_true h3];exact Dl
 ·rw[decide_eq_false h3];exact Dl):p:=h
theorem wL {p:Prop} (h:p:=by
 cases h0:(k.toList==k'.toList)
 ·exact vJ
 ·cases h1:(x==x')
  ·exact vJ
  ·exact vJ):p:=h
theorem we {p:Prop} (h:p:=by
 refine Obl.plain rfl ?_;intro ac wg K hsz hW hf hK;clear hsz;have e1:=hf 1 aj;simp[ai,Fs] at e1;clear hf;exact aU):p:=h
theorem gJ {p:Prop} (h:p:=by
 have fr0:=av Br.out 0;have fr1:=av Br.out 1;have fr2:=av Br.out 2;have fr3:=av Br.out 3;have fr4:=av Br.out 4;have fr5:=av Br.out 5;exact Fo fr0 (Fo fr1 (Fo fr2 (Fo fr3 (Fo fr4 fr5))))):p:=h
theorem sq {p:Prop} (h:p:=by
 have HG0:=aa g0;have HG1:=aa g1;have HG2:=aa g2;have d0:=ck0 g0;have d1:=ck1 g0;have d2:=ck2 g0;have d3:=ck3 g0;have d4:=ck4 g0;have e0:=ck0 g1;have e1:=ck1 g1;have e2:=ck2 g1;have e3:=ck3 g1;have r0:=ck0 g2;have r1:=ck1 g2;have r2:=ck2 g2;have r3:=ck3 g2;have r4:=ck4 g2;have r5:=ck5 g2;have r6:=ck6 g2;have r7:=ck7 g2;have r8:=ck8 g2;have q0:=av g2 0;have q1:=av g2 1;have q2:=av g2 2;have q3:=av g2 3;have q4:=av g2 4;have q5:=av g2 5;have q6:=av g2 6;have q7:=av g2 7;have q8:=av g2 8;exact Fo HG0 (Fo HG1 (Fo HG2 (Fo d0 (Fo d1 (Fo d2 (Fo d3 (Fo d4 (Fo e0 (Fo e1 (Fo e2 (Fo e3 (Fo r0 (Fo r1 (Fo r2 (Fo r3 (Fo r4 (Fo r5 (Fo r6 (Fo r7 (Fo r8 (Fo q0 (Fo q1 (Fo q2 (Fo q3 (Fo q4 (Fo q5 (Fo q6 (Fo q7 q8))))))))))))))))))))))))))))):p:=h
theorem vt {p:Prop} (h:p:=by
 have hXs:=HBX.size;have HBW:=aa (HBX.trans (HK.low (X:=w.heap.size) hXs (fun k s=>by rcases s with rfl|s <;> omega)));have BkR:=aa ((HK.block w.heap.size af (fun s=>by rcases s with s|s <;> omega)).trans Bk.out);have hKs:=HK.size;exact Fo hXs (Fo HBW (Fo BkR hKs))):p:=h
theorem vq {p:Prop} (h:p:=by
 have g0:=(hb.block _ (ae HG0.out)).trans HG0.out;have g1:=(hb.block _ (ae HG1.out)).trans HG1.out;have g2:=(hb.block _ (ae HG2.out)).trans HG2.out;have HB':=aa (HB.trans (hb.mono HB.size));exact Fo g0 (Fo g1 (Fo g2 HB'))):p:=h
theorem vf {p:Prop} (h:p:=by
 have HG:=aa hg;have HX2:=aa hbx;have HO2:=aa (bM HO.out hbx);have hs2:wr.heap.size<w2.heap.size:=by have:=hb2.size;rw[dG] at this;omega
 exact Fo HG (Fo HX2 (Fo HO2 hs2))):p:=h
theorem BK {p:Prop} (h:p:=by
 have Br:Hid (W.heap[w.heap.size+1]?=some (.cells (c6 none 0 0 none 0 0 none 0 0 none 0 0 none 0 0 0) 36 (0,0))):=by rw[hW0];exact bE _ _ _
 have hWs:W.heap.size=w.heap.size+1+1:=by rw[hW0];simp
 exact Fo Br hWs):p:=h
theorem BE {p:Prop} (h:p:=by
 have hs2:wr.heap.size+1<w2.heap.size:=by have:=hb2.size;simp at this;omega
 have hsl:∀k,(k=wr.heap.size+1\/wr.heap.size+1+1<=k)->wr.heap.size+1<=k:=fun k s=>by omega
 exact Fo hs2 hsl):p:=h
theorem uX {p:Prop} (h:p:=by
 have hz8:vl<=8001:=by have h1:=hvr.1;have h2:=HS.out k x hx;omega
 have HX:=aa hx;have HT:=aa hvr;have HZz0:=aa z0;exact Fo hz8 (Fo HX (Fo HT HZz0))):p:=h
theorem vA {p:Prop} (h:p:=by
 have HG:Hid (∀zs:List ByteArray,x.zs=zs->zs≠[]->wr.heap.size<=g):=fun zs e hz=>by subst e;have:=hsl _ (hg.lt hz).1;omega
 have HB4:=aa hb4;have HO4:=aa (bM HO.out hb4);exact Fo HG (Fo HB4 HO4)):p:=h
end Go.Proofs.YtpejepeekdjfoaaGreatDoor
namespace Go.Proofs.YtpejepeekdjfoaaGreatDoor
open Go.RowKit
namespace Rc
open Mk

def LFr (w:World) (h:Nat) (S:Nat->Prop) (zs:List ByteArray) (v:Value):Prop:=
 ∃a len cap,v=.slice a len cap/\zs.length=len/\len<=cap/\cap<=9223372036854775807/\(∀(j:Nat) x,zs[j]?=some x->x.size<=9223372036854775807)/\
  (zs=[]\/(a=some ⟨h,0,none⟩/\S h/\∃cu,w.heap[h]?=some (.cells cu 9 (0,0))/\∀(j:Nat) x,zs[j]?=some x->cu[j]?=some (.string x)))
theorem LFr.aM {w w':World} {h:Nat} {S S':Nat->Prop} {zs:List ByteArray} {v:Value} (k:LFr w h S zs v) (hk:∀cu,S h->w.heap[h]?=some (.cells cu 9 (0,0))->w'.heap[h]?=w.heap[h]?) (hs:h<w.heap.size->S h->S' h):LFr w' h S' zs v:=by
 obtain⟨a',l',c',h1,h2,h3,h4,h5,h6⟩:=k;refine⟨a',l',c',h1,h2,h3,h4,h5,h6.imp id ?_⟩;rintro⟨q1,q2,cu,q4,q5⟩;exact⟨q1,hs (ae q4) q2,cu,(hk cu q2 q4).trans q4,q5⟩
def Fv.Fr (w:World) (h:Nat) (S:Nat->Prop):Fv->Value->Prop
 | .s t,v=>v=.string t/\t.size<=9223372036854775807
 | .i n,v=>v=.int .i64 n
 | .b x,v=>v=.bool x
 | .l zs,v=>LFr w h S zs v
theorem Fv.Fr.aM {w w':World} {h:Nat} {S S':Nat->Prop} {f:Fv} {v:Value} (k:f.Fr w h S v) (hk:∀cu,S h->w.heap[h]?=some (.cells cu 9 (0,0))->w'.heap[h]?=w.heap[h]?) (hs:h<w.heap.size->S h->S' h):f.Fr w' h S' v:=by
 cases f with
 | l zs=>exact LFr.aM k hk hs
 | _=>exact k
theorem Fv.Fr.own {w:World} {h g:Nat} {S:Nat->Prop} {f:Fv} {v:Value} {cur:Array Value} {T:TypeId} (k:f.Fr w h S v) (hg:w.heap[g]?=some (.cells cur T (0,0))) (hT:¬T=9):f.Own w h S g v:=by
 cases f with
 | l zs=>
  obtain⟨a',l',c',h1,h2,h3,h4,h5,h6⟩:=k;refine⟨a',l',c',h1,h2,h3,h4,h5,h6.imp id ?_⟩;rintro⟨q1,q2,cu,q4,q5⟩;refine⟨q1,q2,?_,cu,q4,q5⟩;rintro rfl;rw[hg] at q4
  cases q4
  exact hT rfl
 | _=>exact k
theorem Fv.Own.fr {w:World} {h g:Nat} {S:Nat->Prop} {f:Fv} {v:Value} (k:f.Own w h S g v):f.Fr w h S v:=by
 cases f with
 | l zs=>
  obtain⟨a',l',c',h1,h2,h3,h4,h5,h6⟩:=k;refine⟨a',l',c',h1,h2,h3,h4,h5,h6.imp id ?_⟩;rintro⟨q1,q2,q3,cu,q4,q5⟩;exact⟨q1,q2,cu,q4,q5⟩
 | _=>exact k
theorem Fv.Fr.one {w:World} {h:Nat} {S:Nat->Prop} {f:Fv} {v:Value} (k:f.Fr w h S v):v.oneCell'=true:=by
 cases f with
 | l zs=>obtain⟨a',l',c',rfl,_⟩:=k;rfl
 | s t=>obtain⟨rfl,_⟩:=k;rfl
 | i n=>cases (show v=.int .i64 n from k);rfl
 | b x=>cases (show v=.bool x from k);rfl

structure aX (w:World) (S:Nat->Prop) (m:Nat) (rs:List (List Fv)) (vss:List (List Value)) (H:Nat->Nat->Nat):Prop where
 len:vss.length=rs.length
 all:∀(j:Nat) vs,vss[j]?=some vs->vs.length=m
 rl:∀(j:Nat) r,rs[j]?=some r->r.length=m
 cell:∀(j:Nat) r vs,rs[j]?=some r->vss[j]?=some vs->∀(i:Nat) f,r[i]?=some f->∃v,vs[i]?=some v/\f.Fr w (H j i) S v
 inj:∀(j:Nat) r (i:Nat) zs (j':Nat) r' (i':Nat) zs',rs[j]?=some r->r[i]?=some (.l zs)->zs≠[]->rs[j']?=some r'->r'[i']?=some (.l zs')->zs'≠[]->H j i=H j' i'->j=j'/\i=i'

section
variable {w w':World} {S S':Nat->Prop} {m:Nat} {rs:List (List Fv)} {vss:List (List Value)} {H:Nat->Nat->Nat}
theorem aX.nil (w:World) (S:Nat->Prop) (m:Nat) (H:Nat->Nat->Nat):aX w S m [] [] H:=⟨rfl,fun j vs h=>by simp at h,fun j r h=>by simp at h,fun j r vs h=>by simp at h,fun j r i zs j' r' i' zs' h=>by simp at h⟩
theorem aX.aM (h:aX w S m rs vss H) (hk:∀k cu,S k->w.heap[k]?=some (.cells cu 9 (0,0))->w'.heap[k]?=w.heap[k]?) (hs:∀k,k<w.heap.size->S k->S' k):aX w' S' m rs vss H:=
 ⟨h.len,h.all,h.rl,fun j r vs h1 h2 i f h3=>by
  obtain⟨v,h4,h5⟩:=h.cell j r vs h1 h2 i f h3;exact⟨v,h4,h5.aM (hk _) (hs _)⟩,h.inj⟩
theorem aX.below (h:aX w S m rs vss H) (hb:Below w.heap.size w w'):aX w' S m rs vss H:=h.aM (fun k _ _ q=>hb.block k (ae q)) (fun _ _ s=>s)
theorem aX.grown (h:aX w S m rs vss H) {base n:Nat} {T:TypeId} {v:Value} {xs:List Value} (ho:w.ownsRow base T m v n xs) (hT:¬T=9) (hg:w.grownBy w' v.ownBlock):aX w' S m rs vss H:=by
 refine h.aM (fun k cu _ q=>hg.block k (ae q) (fun e=>?_)) (fun _ _ s=>s);rcases ho.2 with ⟨rfl,_⟩|⟨g,cap,cur,rfl,_,hgg,_⟩
 ·cases e
 ·cases e;simp only[] at q;rw[hgg] at q;cases q;exact hT rfl
theorem aX.lt (h:aX w S m rs vss H) {j:Nat} {r:List Fv} {i:Nat} {zs:List ByteArray} (h1:rs[j]?=some r) (h2:r[i]?=some (.l zs)) (h3:zs≠[]):H j i<w.heap.size:=by
 have hj:j<vss.length:=by rw[h.len];exact (Fm.1 h1).1
 obtain⟨v,_,a,len,cap,_,_,_,_,_,h9⟩:=h.cell j r _ h1 (Fu hj) i _ h2;rcases h9 with h9|⟨_,_,cu,q4,_⟩
 ·exact absurd h9 h3
 ·exact ae q4
theorem aX.Fi (h:aX w S m rs vss H) {rs':List (List Fv)} {vss':List (List Value)} (f:Nat->Nat) (hl:vss'.length=rs'.length) (hr:∀j,j<rs'.length->rs'[j]?=rs[f j]?) (hv:∀j,j<rs'.length->vss'[j]?=vss[f j]?)
  (hf:∀j j',j<rs'.length->j'<rs'.length->f j=f j'->j=j'):aX w S m rs' vss' (fun j=>H (f j)):=by
 have lt1:∀{j:Nat} {r},rs'[j]?=some r->j<rs'.length:=fun h=>(Fm.1 h).1;have lt2:∀{j:Nat} {r},vss'[j]?=some r->j<rs'.length:=fun h=>by rw[<-hl];exact (Fm.1 h).1
 refine⟨hl,fun j vs h1=>h.all (f j) vs (by rw[<-hv j (lt2 h1)];exact h1),fun j r h1=>h.rl (f j) r (by rw[<-hr j (lt1 h1)];exact h1),fun j r vs h1 h2=>h.cell (f j) r vs (by rw[<-hr j (lt1 h1)];exact h1) (by rw[<-hv j (lt1 h1)];exact h2),?_⟩;intro j r i zs j' r' i' zs' h1 h2 h3 h4 h5 h6 h7;obtain⟨e1,e2⟩:=h.inj (f j) r i zs (f j') r' i' zs' (by rw[<-hr j (lt1 h1)];exact h1) h2 h3 (by rw[<-hr j' (lt1 h4)];exact h4) h5 h6 h7;exact⟨hf j j' (lt1 h1) (lt1 h4) e1,e2⟩
theorem aX.push (h:aX w S m rs vss H) {r:List Fv} {vs:List Value} {hh:Nat->Nat} (hr:r.length=m) (hvs:vs.length=m) (hc:∀(i:Nat) f,r[i]?=some f->∃v,vs[i]?=some v/\f.Fr w (hh i) S v)
  (hn:∀(i:Nat) zs,r[i]?=some (.l zs)->zs≠[]->∀(j:Nat) r' (i':Nat) zs',rs[j]?=some r'->r'[i']?=some (.l zs')->zs'≠[]->¬H j i'=hh i)
  (h1:∀(i i':Nat) zs zs',r[i]?=some (.l zs)->zs≠[]->r[i']?=some (.l zs')->zs'≠[]->i=i'):
  aX w S m (rs++[r]) (vss++[vs]) (fun j=>if j=rs.length then hh else H j):=by
 have at1:∀{α:Type} {l:List α} {x y:α} {j:Nat},(l++[x])[j]?=some y->(j=l.length/\y=x)\/(j<l.length/\l[j]?=some y):=by
  intro α l x y j hj;by_cases e:j<l.length
  ·rw[FN e] at hj;exact .inr ⟨e,hj⟩
  ·rw[Gh af] at hj;rcases Hq (j - l.length) with e0|e0
   ·rw[e0] at hj;exact .inl ⟨by omega,by simpa using hj.symm⟩
   ·exact vG
 refine⟨by simp[h.len],fun j v hv=>?_,fun j r' hj=>?_,fun j r' v hj hv i f hf=>?_,fun j r1 i zs j' r2 i' zs' a1 a2 a3 b1 b2 b3 e=>?_⟩
 ·rcases at1 hv with ⟨_,rfl⟩|⟨_,hv⟩
  ·exact hvs
  ·exact h.all j v hv
 ·rcases at1 hj with ⟨_,rfl⟩|⟨_,hj⟩
  ·exact hr
  ·exact h.rl j r' hj
 ·rcases at1 hj with ⟨e1,rfl⟩|⟨e1,hj⟩
  ·rcases at1 hv with ⟨_,rfl⟩|⟨e2,hv⟩
   ·simp only[e1,if_true];exact hc i f hf
   ·have:=h.len;omega
  ·rcases at1 hv with ⟨e2,rfl⟩|⟨e2,hv⟩
   ·have:=h.len;omega
   ·simp only[if_neg (show¬j=rs.length by omega)];exact h.cell j r' v hj hv i f hf
 ·rcases at1 a1 with ⟨e1,rfl⟩|⟨e1,a4⟩ <;> rcases at1 b1 with ⟨e2,rfl⟩|⟨e2,b4⟩
  ·exact⟨by omega,h1 _ _ _ _ a2 a3 b2 b3⟩
  ·simp only[e1,if_true,if_neg (show¬j'=rs.length by omega)] at e;exact absurd e.symm (hn i zs a2 a3 j' r2 i' zs' b4 b2 b3)
  ·simp only[e2,if_true,if_neg (show¬j=rs.length by omega)] at e;exact absurd e (hn i' zs' b2 b3 j r1 i zs a4 a2 a3)
  ·simp only[if_neg (show¬j=rs.length by omega),if_neg (show¬j'=rs.length by omega)] at e;exact h.inj j r1 i zs j' r2 i' zs' a4 a2 a3 b4 b2 b3 e
end

theorem fH {α:Type} {m:Nat} :∀{vss:List (List α)},(∀(j:Nat) vs,vss[j]?=some vs->vs.length=m)->∀{j:Nat} {vs:List α} {i:Nat} {u:α},vss[j]?=some vs->vs[i]?=some u->vss.flatten[j*m+i]?=some u
 | [],_,j,vs,i,u,h,_=>by simp at h
 | x ::vss,hl,0,vs,i,u,h,hu=>by
  obtain rfl:x=vs:=iR
  have hx:=hl 0 x rfl;have hi:=(Fm.1 hu).1;rw[Ip,FN af,Nat.zero_mul,FX];exact hu
 | x ::vss,hl,j+1,vs,i,u,h,hu=>by
  have hx:=hl 0 x rfl;rw[Ip,Gh (by rw[hx,Nat.succ_mul];omega),hx,show (j+1)*m+i - m=j*m+i by rw[Nat.succ_mul];omega];exact fH (fun j' vs' h'=>hl (j'+1) vs' (by simpa using h')) iR hu
theorem g8 {α:Type} {m:Nat} :∀{vss:List (List α)},(∀(j:Nat) vs,vss[j]?=some vs->vs.length=m)->∀{k:Nat} {u:α},vss.flatten[k]?=some u->∃(j i:Nat) (vs:List α),vss[j]?=some vs/\vs[i]?=some u/\k=j*m+i
 | [],_,k,u,h=>by simp at h
 | x ::vss,hl,k,u,h=>by
  have hx:=hl 0 x rfl;rw[Ip] at h;by_cases e:k<m
  ·rw[FN af] at h;exact⟨0,k,x,rfl,h,by omega⟩
  ·rw[Gh af,hx] at h;obtain⟨j,i,vs,h1,h2,h3⟩:=g8 (fun j' vs' h'=>hl (j'+1) vs' (by simpa using h')) h;exact⟨j+1,i,vs,by simpa using h1,h2,by rw[Nat.succ_mul];omega⟩
theorem dr {α:Type} {m:Nat} :∀{vss:List (List α)},(∀(j:Nat) vs,vss[j]?=some vs->vs.length=m)->vss.flatten.length=vss.length*m
 | [],_=>by simp
 | x ::vss,hl=>by
  have hx:=hl 0 x rfl;rw[Ip,F7,dr (fun j' vs' h'=>hl (j'+1) vs' (by simpa using h')),hx,Hb,Nat.succ_mul];omega
theorem aX.one {w:World} {S:Nat->Prop} {m:Nat} {rs:List (List Fv)} {vss:List (List Value)} {H:Nat->Nat->Nat} (h:aX w S m rs vss H):∀u∈vss.flatten,u.oneCell'=true:=by
 intro u hu;obtain⟨k,hk,rfl⟩:=List.mem_iff_getElem.1 hu;obtain⟨j,i,vs,h1,h2,_⟩:=g8 h.all (Fu hk);have hj:j<rs.length:=by rw[<-h.len];exact (Fm.1 h1).1
 have hr:=Fu hj;have hi:i<(rs[j]).length:=by rw[h.rl j _ hr,<-h.all j vs h1];exact (Fm.1 h2).1
 obtain⟨v,h3,h4⟩:=h.cell j _ vs hr h1 i _ (Fu hi);rw[h2] at h3;cases h3;exact h4.one

theorem aX.own {w:World} {S:Nat->Prop} {m:Nat} {T:TypeId} {rs:List (List Fv)} {vss:List (List Value)} {H:Nat->Nat->Nat} (h:aX w S m rs vss H) {base n:Nat} {v:Value} (ho:w.ownsRow base T m v n vss.flatten) (hn:n=rs.length) (hT:¬T=9) (hS:∀g,v.ownBlock=some g->S g):
  ∃a cap,v=.slice a rs.length cap/\az w a rs.length cap m T rs S:=by
 subst hn;rcases ho.2 with ⟨rfl,h0⟩|⟨g,cap,cur,rfl,_,hgg,h1,h2,h3,h4⟩
 ·obtain rfl:rs=[]:=GQ h0;exact⟨none,0,rfl,az.nil _ _ _ _ _ af⟩
 ·refine⟨_,cap,rfl,rfl,h1,by unfold maxLen at h2;omega,.inr ⟨g,cur,H,rfl,hgg,hS g rfl,h.rl,fun j r hj i f hi=>?_,h.inj⟩⟩;have hjl:j<vss.length:=by rw[h.len];exact (Fm.1 hj).1
  have hv:=Fu hjl;obtain⟨u,h5,h6⟩:=h.cell j r _ hj hv i f hi;have h7:=fH h.all hv h5;rw[<-h4,FR] at h7;split at h7
  ·exact⟨u,by simpa using h7,h6.own hgg hT⟩
  ·cases h7
theorem az.lU {w:World} {S:Nat->Prop} {m:Nat} {T:TypeId} {a:Option Addr} {len cap:Nat} {rs:List (List Fv)} (h:az w a len cap m T rs S):
  ∃vss H,aX w S m rs vss H/\∀(k:Nat) u,vss.flatten[k]?=some u->∃g,a=some ⟨g,0,none⟩/\S g/\w.cell? ⟨g,k,none⟩=some u:=by
 obtain⟨h1,h2,h3,h4⟩:=h;rcases h4 with rfl|⟨g,cur,H,rfl,h5⟩
 ·exact⟨[],fun _ _=>0,aX.nil _ _ _ _,fun k u hu=>by simp at hu⟩
 ·have hget:∀(j i:Nat),((GA rs.length).map fun j=>(GA m).map fun i=>cur.getD (j*m+i) undef)[j]?=if j<rs.length then some ((GA m).map fun i=>cur.getD (j*m+i) undef) else none:=by
   intro j _;rw[FC];split
   ·next e=>rw[Hy e];rfl
   ·next e=>rw[Gq (by simpa using e)];rfl
  have hval:∀(j:Nat) r,rs[j]?=some r->∀(i:Nat),i<m->∃f v,r[i]?=some f/\cur[j*m+i]?=some v/\f.Own w (H j i) S g v/\((GA m).map fun i=>cur.getD (j*m+i) undef)[i]?=some v:=by
   intro j r hr i hi;have hl:=h5.len j r hr;have hf:=Fu (l:=r) (i:=i) af;obtain⟨v,q1,q2⟩:=h5.cell j r hr i _ hf;refine⟨_,v,hf,q1,q2,?_⟩;rw[FC,Hy hi];simp[Fx,q1]
  have hvrecs:aX w S m rs ((GA rs.length).map fun j=>(GA m).map fun i=>cur.getD (j*m+i) undef) H:=by
   refine⟨by simp,fun j vs hv=>?_,h5.len,fun j r vs hr hv i f hf=>?_,h5.inj⟩
   ·rw[hget j 0] at hv;split at hv
    ·cases hv;simp
    ·cases hv
   ·rw[hget j 0,if_pos (Fm.1 hr).1] at hv;cases hv;have hi:i<m:=by rw[<-h5.len j r hr];exact (Fm.1 hf).1
    obtain⟨f',v,q1,q2,q3,q4⟩:=hval j r hr i hi;rw[hf] at q1;cases q1;exact⟨v,q4,q3.fr⟩
  refine⟨_,H,hvrecs,fun k u hu=>⟨g,rfl,h5.inS,?_⟩⟩;obtain⟨j,i,vs,e1,e2,rfl⟩:=g8 hvrecs.all hu;rw[hget j 0] at e1;split at e1
  ·next e=>
   cases e1;have hi:i<m:=by have:=(Fm.1 e2).1;simpa using this
   obtain⟨f',v,q1,q2,q3,q4⟩:=hval j _ (Fu e) i hi;rw[e2] at q4;cases q4;exact (aw h5.blk _).trans q2
  ·cases e1

def Bw (y W:World):Prop:=Below y.heap.size y W
theorem Bw.refl (y:World):Bw y y:=Fw _ _
theorem Bw.below {y W W':World} (h:Bw y W) (hb:Below W.heap.size W W'):Bw y W':=Below.trans h (hb.mono (Ir h))
theorem Bw.kept {y W W':World} {S:Nat->Prop} (h:Bw y W) (hk:aC S W W') (hs:∀k,S k->y.heap.size<=k):Bw y W':=Below.trans h (hk.low (Ir h) hs)
theorem Bw.out {y W:World} (h:Bw y W):Below y.heap.size y W:=h
theorem Bw.le {y W:World} (h:Bw y W):y.heap.size<=W.heap.size:=Ir h

def cA (w:World) (a:Option Addr) (l c:Nat) (zs:List ByteArray) (S:Nat->Prop):Prop:=
 ay w a l c zs/\(zs=[]\/∃g cur,a=some ⟨g,0,none⟩/\S g/\w.heap[g]?=some (.cells cur 9 (0,0)))
theorem cA.aM {w w':World} {a:Option Addr} {l c:Nat} {zs:List ByteArray} {S S':Nat->Prop} (h:cA w a l c zs S) (hk:∀k,k<w.heap.size->S k->w'.heap[k]?=w.heap[k]?) (hs:∀k,k<w.heap.size->S k->S' k):cA w' a l c zs S':=by
 obtain⟨⟨h1,h2,h3,h4,h5⟩,h6⟩:=h;rcases h6 with rfl|⟨g,cur,rfl,hS,hg⟩
 ·exact⟨⟨h1,h2,h3,h4,.inl rfl⟩,.inl rfl⟩
 ·have hg':=(hk g (ae hg) hS).trans hg;refine⟨⟨h1,h2,h3,h4,h5.imp id ?_⟩,.inr ⟨g,cur,rfl,hs g (ae hg) hS,hg'⟩⟩;rintro⟨b,o,e,hlt,hc⟩;cases e;exact⟨g,0,rfl,ae hg',fun j x hx=>by have:=hc j x hx;rw[aw hg] at this;rw[aw hg'];exact this⟩
theorem cA.below {w w':World} {a:Option Addr} {l c:Nat} {zs:List ByteArray} {S:Nat->Prop} (h:cA w a l c zs S) (hb:Below w.heap.size w w'):cA w' a l c zs S:=h.aM (fun k hk _=>hb.block k hk) (fun _ _ s=>s)
theorem cA.bA {w:World} {a:Option Addr} {l c:Nat} {zs:List ByteArray} {S S':Nat->Prop} (h:cA w a l c zs S) (hs:∀k,k<w.heap.size->S k->S' k):cA w a l c zs S':=h.aM (fun _ _ _=>rfl) hs
theorem cA.row {w:World} {a:Option Addr} {l c:Nat} {zs:List ByteArray} {S:Nat->Prop} (h:cA w a l c zs S):ay w a l c zs:=h.1
theorem cA.j8 {w:World} {base n:Nat} {v:Value} {zs:List ByteArray} (h:w.ownsRow base 9 1 v n (zs.map FK)) (hs:∀(j:Nat) x,zs[j]?=some x->x.size<=9223372036854775807):∃a c,v=.slice a n c/\cA w a n c zs (fun k=>base<=k):=by
 obtain⟨hl,h⟩:=h;have hl':zs.length=n:=by simpa using hl
 rcases h with ⟨rfl,rfl⟩|⟨g,cap,cur,rfl,hbg,hg,hnc,hcm,hsz,htk⟩
 ·obtain rfl:zs=[]:=GQ hl';exact⟨none,0,rfl,⟨rfl,Ft _,by omega,fun j x hx=>by simp at hx,.inl rfl⟩,.inl rfl⟩
 ·refine⟨some ⟨g,0,none⟩,cap,rfl,⟨hl',hnc,by unfold maxLen at hcm;omega,hs,.inr ⟨g,0,rfl,ae hg,fun j x hx=>?_⟩⟩,.inr ⟨g,cur,rfl,hbg,hg⟩⟩;exact yK
theorem bM {w w':World} {base n m:Nat} {T:TypeId} {v:Value} {xs:List Value} (h:w.ownsRow base T m v n xs) (hb:Below w.heap.size w w'):w'.ownsRow base T m v n xs:=by
 refine⟨h.1,h.2.imp id ?_⟩;rintro⟨g,cap,cur,h1,h2,h3,h4⟩;exact⟨g,cap,cur,h1,h2,(hb.block _ (ae h3)).trans h3,h4⟩

theorem y9:∀(r:List Fv) (k:Int),(∀(i:Nat) zs,r[i]?=some (.l zs)->zs.length<=1048576)->mkN k r<=k+r.length*1048577
 | [],k,_=>by simp[mkN]
 | f ::r,k,h=>by
  have h1:=y9 r (mkN1 k f) (fun i zs hi=>h (i+1) zs (by simpa using hi));have h2:mkN1 k f<=k+1048577:=by
   cases f with
   | l zs=>have:=h 0 zs rfl;simp only[mkN1];omega
   | _=>simp only[mkN1];omega
  simp only[mkN,Hb];omega
theorem sC {m:Nat} :∀(rs:List (List Fv)) (k:Int),(∀(j:Nat) r,rs[j]?=some r->r.length<=m/\∀(i:Nat) zs,r[i]?=some (.l zs)->zs.length<=1048576)->aI k rs<=k+rs.length*(m*1048577)
 | [],k,_=>by simp[aI]
 | r ::rs,k,h=>by
  have h1:=sC rs (mkN k r) (fun j r' hj=>h (j+1) r' (by simpa using hj));obtain⟨h2,h3⟩:=h 0 r rfl;have h4:=y9 r k h3;have h5:r.length*1048577<=m*1048577:=Nat.mul_le_mul_right _ h2;have h6:((rs.length+1:Nat):Int)*(m*1048577)=rs.length*(m*1048577)+m*1048577:=by
   rw[Int.natCast_add];simp[Int.add_mul]
  simp only[aI,Hb];rw[h6];omega
theorem fk {α:Type} {F:α->List Fv} {xs:List α} {m:Nat} (hm:∀x,(F x).length<=m) (hl:∀(j:Nat) x,xs[j]?=some x->∀(i:Nat) zs,(F x)[i]?=some (.l zs)->zs.length<=1048576) (hx:xs.length<=1048576) (hm8:m<=8) (k:Int):aI k (xs.map F)<=k+8796101410816:=by
 have h:=sC (m:=m) (xs.map F) k (fun j r hj=>by
  rw[FC] at hj;obtain⟨x,h1,rfl⟩:=FJ.1 hj
  exact⟨hm x,hl j x h1⟩)
 rw[FU] at h;have h2:xs.length*(m*1048577)<=1048576*(8*1048577):=Nat.mul_le_mul hx (Nat.mul_le_mul_right _ hm8);have h3:((xs.length*(m*1048577):Nat):Int)=(xs.length:Int)*((m:Int)*1048577):=by rw[Int.natCast_mul,Int.natCast_mul];rfl
 rw[<-h3] at h;omega
theorem kA.DH {c:Cl} (h:kA c):dN 1 c.raw<=1000000000000000:=by
 have one:∀{zs zs':List ByteArray},zs.length<=1048576->some (Fv.l zs)=some (.l zs')->zs'.length<=1048576:=fun h e=>by cases e;exact h
 have a1:=fun k=>fk (F:=ndF) (m:=7) (xs:=c.ns) (fun _=>Ft _) (fun j x hx i zs hi=>by
  rcases i with _|_|_|_|_|_|_|i <;> first|(simp[ndF] at hi;done)|exact one (h.f1 j x hx) hi) h.l1 aj k
 have a2:=fun k=>fk (F:=kdF) (m:=4) (xs:=c.ks) (fun _=>Ft _) (fun j x hx i zs hi=>by
  rcases i with _|_|_|_|i <;> (simp[kdF] at hi)) h.l2 aj k
 have a3:=fun k=>fk (F:=vdF) (m:=8) (xs:=c.vs) (fun _=>Ft _) (fun j x hx i zs hi=>by
  rcases i with _|_|_|_|_|_|_|_|i <;> first|(simp[vdF] at hi;done)|exact one (h.f3 j x hx) hi) h.l3 aj k
 have a4:=fun k=>fk (F:=xdF) (m:=5) (xs:=c.xs) (fun _=>Ft _) (fun j x hx i zs hi=>by
  rcases i with _|_|_|_|_|i <;> (simp[xdF] at hi)) h.l4 aj k
 have a5:=fun k=>fk (F:=pdF) (m:=6) (xs:=c.ps) (fun _=>Ft _) (fun j x hx i zs hi=>by
  rcases i with _|_|_|_|_|_|i <;> first|(simp[pdF] at hi;done)|exact one (h.f5 j x hx) hi) h.l5 aj k
 unfold dN Cl.raw;have b1:=a1 1;have b2:=a2 (aI 1 (c.ns.map ndF));have b3:=a3 (aI (aI 1 (c.ns.map ndF)) (c.ks.map kdF));have b4:=a4 (aI (aI (aI 1 (c.ns.map ndF)) (c.ks.map kdF)) (c.vs.map vdF));have b5:=a5 (aI (aI (aI (aI 1 (c.ns.map ndF)) (c.ks.map kdF)) (c.vs.map vdF)) (c.xs.map xdF));simp only[];omega
theorem kA.marks {c:Cl} (h:kA c):dN 1 c.raw<=1152921504606846976:=Int.le_trans h.DH (by decide)

end Rc
end Go.Proofs.YtpejepeekdjfoaaGreatDoor

namespace Go.Proofs.YtpejepeekdjfoaaGreatDoor
open Go.RowKit
namespace Ap

def bT (zs:List ByteArray) (w:World) (a:Option Addr) (len cap:Nat) (w':World):Prop:=
 ay w' a len cap zs/\(zs=[]\/∃g cur,a=some ⟨g,0,none⟩/\w.heap.size<=g/\w'.heap[g]?=some (.cells cur 9 (0,0)))/\Below w.heap.size w w'
theorem Dw {w w0:World} {base n:Nat} {v:Value} {zs:List ByteArray} (h:w.ownsRow base 9 1 v n (zs.map FK)) (hb:Below base w0 w) (hB:base=w0.heap.size) (hs:∀(j:Nat) x,zs[j]?=some x->x.size<=9223372036854775807):
  ∃a l c,v=.slice a l c/\bT zs w0 a l c w:=by
 subst hB;obtain⟨hl,h⟩:=h;have hl':zs.length=n:=by simpa using hl
 rcases h with ⟨rfl,rfl⟩|⟨g,cap,cur,rfl,hbg,hg,hnc,hcm,hsz,htk⟩
 ·obtain rfl:zs=[]:=GQ hl';exact⟨none,0,0,rfl,⟨rfl,Ft _,by omega,fun j x hx=>by simp at hx,.inl rfl⟩,.inl rfl,hb⟩
 ·refine⟨some ⟨g,0,none⟩,n,cap,rfl,⟨hl',hnc,by unfold maxLen at hcm;omega,hs,.inr ⟨g,0,rfl,ae hg,fun j x hx=>?_⟩⟩,.inr ⟨g,cur,rfl,hbg,hg⟩,hb⟩;exact yK
theorem sB {w:World} {ad:Addr} {len cap:Nat} {zs:List ByteArray} (h:ay w (some ad) len cap zs):∀j u,(zs.map FK)[j]?=some u->w.cell? (ad.add j)=some u:=by
 intro j u hu;rw[FC] at hu;obtain⟨x,hx,rfl⟩:=FJ.1 hu;rcases h.2.2.2.2 with h|⟨b,o,e,_,hc⟩
 ·subst h;simp at hx
 ·cases e;rw[FT];exact hc j x hx

theorem mj (a:Option Addr) (len cap:Nat) (zs:List ByteArray) (w:World) (hr:ay w a len cap zs) (hl:len<=8001):
  Calls Tryz.prog 99 #[.slice a len cap] w fun e w'=> ∃a' l c,e=.returned (.slice a' l c)/\bT zs w a' l c w':=by
 cases a with
 | none=>
  obtain rfl:zs=[]:=by
   rcases hr.2.2.2.2 with h|⟨b,o,e,_⟩
   ·exact h
   ·cases e
  obtain rfl:len=0:=by have:=hr.1;simpa using this.symm
  clear hr
  go_enter Tryz.func99,Tryz.ntmps99
  go_wp2
  go_ret;exact⟨_,_,_,rfl,⟨rfl,Ft _,by omega,fun j x hx=>by simp at hx,.inl rfl⟩,.inl rfl,Fw _ _⟩
 | some ad=>
  have HN:=aa (sB hr);have HZ:=aa hr.2.2.2.1;have hzl:=hr.1;clear hr;obtain⟨i0,hi,hz0,hz1,hz2⟩:=info_parts fD
  go_enter Tryz.func99,Tryz.ntmps99
  go_wp2_with (first|(at_builtin;refine wpList_append_own _ rfl _ _ 55 rfl w.heap.size 9 i0 (.string ⟨#[]⟩) 1 16 Tryz.underlying55 hi hz0 hz1 hz2 rfl aj _ 0 _ rfl (Gj w w.heap.size 9 1) ad len cap (zs.map FK) rfl ?c1 HN.out ?c3 ?c4 ?c5 (Ft _) ?_))
  case c1=>simpa using hzl
  case c3=>intro u hu;obtain⟨x,_,rfl⟩:=IM.1 hu;rfl
  case c4=>unfold maxLen;omega
  case c5=>omega
  intro v' w3 hown3 hgrow hv;have HB3:=aa ((Fw w.heap.size w).grown hgrow (Ft _) (fun k hk=>by cases hk));have HO:=aa hown3;clear hown3 hgrow hv
  go_wp2
  go_ret;obtain⟨a',l,c,rfl,h2⟩:=Dw HO.out HB3.out rfl HZ.out;exact⟨a',l,c,rfl,h2⟩

theorem bT.set {zs:List ByteArray} {w w':World} {a:Option Addr} {l p b i X:Nat} {v:Value} (h:ay w' a l p zs/\(zs=[]\/∃g cur,a=some ⟨g,0,none⟩/\X<=g/\w'.heap[g]?=some (.cells cur 9 (0,0)))/\Below w.heap.size w w') (hb:w.heap.size<=b) (hX:b<X):
  ay (w'.setCell ⟨b,i,none⟩ v) a l p zs/\(zs=[]\/∃g cur,a=some ⟨g,0,none⟩/\X<=g/\(w'.setCell ⟨b,i,none⟩ v).heap[g]?=some (.cells cur 9 (0,0)))/\Below w.heap.size w (w'.setCell ⟨b,i,none⟩ v):=by
 obtain⟨⟨h1,h2,h3,h4,h5⟩,h6,h7⟩:=h;refine⟨⟨h1,h2,h3,h4,?_⟩,?_,h7.setCell hb v⟩
 ·rcases h6 with h6|⟨g,cur,rfl,hg,hh⟩
  ·exact .inl h6
  ·rcases h5 with h5|⟨g',o,e,hl,hc⟩
   ·exact .inl h5
   ·cases e;have hs:(w'.setCell ⟨b,i,none⟩ v).heap[g]?=w'.heap[g]?:=Fp _ _ _ _ (show g≠b by omega);exact .inr ⟨g,0,rfl,by simpa[Gf] using hl,fun j x hx=>by have:=hc j x hx;simp only[He,hs] at this ⊢;exact this⟩
 ·rcases h6 with h6|⟨g,cur,rfl,hg,hh⟩
  ·exact .inl h6
  ·exact .inr ⟨g,cur,rfl,hg,(Fp _ _ _ _ (show g≠b by omega)).trans hh⟩

theorem D6 (n:ByteArray) (c:Int) (z:ByteArray) (k:ByteArray) (x:Bool) (m:ByteArray) (y:Bool) (a:Option Addr) (len cap:Nat) (zs:List ByteArray) (w:World) (hr:ay w a len cap zs) (hl:len<=8001):
  Calls Tryz.prog 52 #[.agg #[.string n,.int .i64 c,.string z,.string k,.bool x,.string m,.bool y,.slice a len cap]] w fun e w'=> ∃a' l p,e=.returned (.agg #[.string n,.int .i64 c,.string z,.string k,.bool x,.string m,.bool y,.slice a' l p])/\bT zs w a' l p w':=by
 have hown:(((w.alloc (.cells #[.string n,.int .i64 c,.string z,.string k,.bool x,.string m,.bool y,.slice a len cap] 99)).alloc (.cells #[.string ⟨#[]⟩,.int .i64 0,.string ⟨#[]⟩,.string ⟨#[]⟩,.bool false,.string ⟨#[]⟩,.bool false,.slice none 0 0] 99)).alloc (.cells #[] 9)).ownsRow (w.heap.size+1+1) 9 1 (.slice (some ⟨w.heap.size+1+1,0,none⟩) 0 0) 0 []:=⟨rfl,.inr ⟨w.heap.size+1+1,0,#[],rfl,Ft _,cS _ _ _ _,Ft _,by unfold maxLen;omega,rfl,rfl⟩⟩;have HOW:=aa hown;have hr3:=hr.below (bI w (.cells #[.string n,.int .i64 c,.string z,.string k,.bool x,.string m,.bool y,.slice a len cap] 99) (.cells #[.string ⟨#[]⟩,.int .i64 0,.string ⟨#[]⟩,.string ⟨#[]⟩,.bool false,.string ⟨#[]⟩,.bool false,.slice none 0 0] 99) (.cells #[] 9));have HZ:=aa hr.2.2.2.1;have hzl:=hr.1;have HR3:=aa hr3;clear hown hr3;obtain⟨i0,hi,hz0,hz1,hz2⟩:=info_parts fD;cases a with
 | none=>
  obtain rfl:zs=[]:=by
   rcases hr.2.2.2.2 with h|⟨b,o,e,_⟩
   ·exact h
   ·cases e
  obtain rfl:len=0:=by simpa using hzl.symm
  clear hr HOW HR3 hi hz0 hz1 hz2
  go_enter Tryz.func52,Tryz.ntmps52
  go_wp2
  exact bodyPost_ret (v:=.agg #[.string n,.int .i64 c,.string z,.string k,.bool x,.string m,.bool y,.slice (some ⟨w.heap.size+1+1,0,none⟩) 0 0]) (by simp[results,Tryz.results52,go_sem]) rfl ⟨_,_,_,rfl,⟨rfl,Ft _,by omega,fun j x hx=>by simp at hx,.inl rfl⟩,.inl rfl,bI _ _ _ _⟩
 | some ad=>
  have HN:=aa (sB HR3.out);clear hr
  go_enter Tryz.func52,Tryz.ntmps52
  go_wp2_with (first|(at_builtin;refine wpList_append_own _ rfl _ _ 55 rfl (w.heap.size+1+1) 9 i0 (.string ⟨#[]⟩) 1 16 Tryz.underlying55 hi hz0 hz1 hz2 rfl aj _ 0 _ rfl HOW.out ad len cap (zs.map FK) rfl ?c1 HN.out ?c3 ?c4 ?c5 aS ?_))
  case c1=>simpa using hzl
  case c3=>intro u hu;obtain⟨x,_,rfl⟩:=IM.1 hu;rfl
  case c4=>unfold maxLen;omega
  case c5=>omega
  intro v' w3 hown3 hgrow hv;have hb3:=(Fw (w.heap.size+1+1) _).grown hgrow aS (fun k hk=>by simp[G9] at hk;omega);have g0:=(hb3.block w.heap.size af).trans (fF _ _ _ _);have g1:=(hb3.block (w.heap.size+1) af).trans (dC _ _ _ _)
  obtain⟨a',l,p,rfl,hq⟩:∃a' l p,v'=.slice a' l p/\(ay w3 a' l p zs/\(zs=[]\/∃g cur,a'=some ⟨g,0,none⟩/\w.heap.size+1+1<=g/\w3.heap[g]?=some (.cells cur 9 (0,0)))/\Below w.heap.size w w3):=by
   have hbw:=(bI w _ _ _).trans (hb3.mono af);have ho:=hown3;obtain⟨hl1,h⟩:=ho;have hl':=hzl
   rcases h with ⟨rfl,h0⟩|⟨g,cp,cur,rfl,hbg,hg,hnc,hcm,hsz,htk⟩
   ·obtain rfl:zs=[]:=GQ af;exact⟨none,0,0,rfl,⟨rfl,Ft _,by omega,fun j x hx=>by simp at hx,.inl rfl⟩,.inl rfl,hbw⟩
   ·refine⟨some ⟨g,0,none⟩,len,cp,rfl,⟨hl',hnc,by unfold maxLen at hcm;omega,HZ.out,.inr ⟨g,0,rfl,ae hg,fun j x hx=>?_⟩⟩,.inr ⟨g,cur,rfl,hbg,hg⟩,hbw⟩;rw[FX,aw hg]
    have hj:j<len:=by have:=(Fm.1 hx).1;omega
    have e1:(cur.toList.take (len*1))[j]?=some (.string x):=by rw[htk];simp[hx]
    rw[FR,if_pos af] at e1
    simpa using e1
  have HQ:=aa hq;have d0:=ck0 g0;have d1:=ck1 g0;have d2:=ck2 g0;have d3:=ck3 g0;have d4:=ck4 g0;have d5:=ck5 g0;have d6:=ck6 g0;have d7:=ck7 g0;have df7:=av g0 7;have e0:=ck0 g1;have ef0:=av g1 0;have e1:=ck1 g1;have ef1:=av g1 1;have e2:=ck2 g1;have ef2:=av g1 2;have e3:=ck3 g1;have ef3:=av g1 3;have e4:=ck4 g1;have ef4:=av g1 4;have e5:=ck5 g1;have ef5:=av g1 5;have e6:=ck6 g1;have ef6:=av g1 6;have e7:=ck7 g1;have ef7:=av g1 7;have HQ2:=aa (bT.set (bT.set (bT.set (bT.set (bT.set (bT.set (bT.set (bT.set (bT.set HQ.out (b:=w.heap.size) (i:=7) af af (v:=.slice a' l p)) (b:=w.heap.size+1) (i:=0) af af (v:=(.string n))) (b:=w.heap.size+1) (i:=1) af af (v:=(.int .i64 c))) (b:=w.heap.size+1) (i:=2) af af (v:=(.string z))) (b:=w.heap.size+1) (i:=3) af af (v:=(.string k))) (b:=w.heap.size+1) (i:=4) af af (v:=(.bool x))) (b:=w.heap.size+1) (i:=5) af af (v:=(.string m))) (b:=w.heap.size+1) (i:=6) af af (v:=(.bool y))) (b:=w.heap.size+1) (i:=7) af af (v:=(.slice a' l p)));clear hown3 hgrow hv hb3 g0 g1 hq;go_wp2_with fail;refine bodyPost_ret (v:=.agg #[.string n,.int .i64 c,.string z,.string k,.bool x,.string m,.bool y,.slice a' l p]) (by simp[results,Tryz.results52,go_sem, *]) rfl ⟨a',l,p,rfl,HQ2.1,?_,HQ2.2.2⟩
  rcases HQ2.2.1 with h|⟨g,cur,h1,h2,h3⟩
  ·exact .inl h
  ·exact .inr ⟨g,cur,h1,by omega,h3⟩

theorem Eo (n:ByteArray) (c:Int) (z:ByteArray) (k:ByteArray) (x:Bool) (m:ByteArray) (y:Bool) (a:Option Addr) (len cap:Nat) (zs:List ByteArray) (w:World) (hr:ay w a len cap zs) (hl:len<=8001):
  Calls Tryz.prog 65 #[.agg #[.string n,.int .i64 c,.string z,.string k,.bool x,.string m,.bool y,.slice a len cap]] w fun e w'=> ∃a' l p,e=.returned (.agg #[.string n,.int .i64 c,.string z,.string k,.bool x,.string m,.bool y,.slice a' l p])/\bT zs w a' l p w':=by
 have HR:=aa (hr.below (aF w (.cells #[.string n,.int .i64 c,.string z,.string k,.bool x,.string m,.bool y,.slice a len cap] 99) (.cells #[.string ⟨#[]⟩,.int .i64 0,.string ⟨#[]⟩,.string ⟨#[]⟩,.bool false,.string ⟨#[]⟩,.bool false,.slice none 0 0] 99)));clear hr;go_enter Tryz.func65,Tryz.ntmps65;go_wp2_with fail;refine (mj a len cap zs _ HR.out hl).mono ?_;rintro e w3 ⟨a',l,p,rfl,h1,h2,hb⟩;obtain⟨g0,g1⟩:=vh;have HQ:Hid (ay w3 a' l p zs/\(zs=[]\/∃g cur,a'=some ⟨g,0,none⟩/\w.heap.size+1+1<=g/\w3.heap[g]?=some (.cells cur 9 (0,0)))/\Below w.heap.size w w3):=⟨h1,by simpa using h2,(aF w _ _).trans (hb.mono bG)⟩;have d0:=ck0 g0;have d1:=ck1 g0;have d2:=ck2 g0;have d3:=ck3 g0;have d4:=ck4 g0;have d5:=ck5 g0;have d6:=ck6 g0;have d7:=ck7 g0;have df7:=av g0 7;have e0:=ck0 g1;have ef0:=av g1 0;have e1:=ck1 g1;have ef1:=av g1 1;have e2:=ck2 g1;have ef2:=av g1 2;have e3:=ck3 g1;have ef3:=av g1 3;have e4:=ck4 g1;have ef4:=av g1 4;have e5:=ck5 g1;have ef5:=av g1 5;have e6:=ck6 g1;have ef6:=av g1 6;have e7:=ck7 g1;have ef7:=av g1 7;have HQ2:=aa (bT.set (bT.set (bT.set (bT.set (bT.set (bT.set (bT.set (bT.set (bT.set HQ.out (b:=w.heap.size) (i:=7) af af (v:=.slice a' l p)) (b:=w.heap.size+1) (i:=0) af af (v:=.string n)) (b:=w.heap.size+1) (i:=1) af af (v:=.int .i64 c)) (b:=w.heap.size+1) (i:=2) af af (v:=.string z)) (b:=w.heap.size+1) (i:=3) af af (v:=.string k)) (b:=w.heap.size+1) (i:=4) af af (v:=.bool x)) (b:=w.heap.size+1) (i:=5) af af (v:=.string m)) (b:=w.heap.size+1) (i:=6) af af (v:=.bool y)) (b:=w.heap.size+1) (i:=7) af af (v:=.slice a' l p));clear h1 h2 hb g0 g1;go_wp2_with fail;refine bodyPost_ret (v:=.agg #[.string n,.int .i64 c,.string z,.string k,.bool x,.string m,.bool y,.slice a' l p]) (by simp[results,Tryz.results65,go_sem, *]) rfl ⟨a',l,p,rfl,HQ2.1,?_,HQ2.2.2⟩;rcases HQ2.2.1 with h|⟨g,cur,h1,h2,h3⟩
 ·exact .inl h
 ·exact .inr ⟨g,cur,h1,by omega,h3⟩

end Ap
end Go.Proofs.YtpejepeekdjfoaaGreatDoor

namespace Go.Proofs.YtpejepeekdjfoaaGreatDoor
open Go.RowKit
namespace Rc
open Mk

theorem cA.fr {w:World} {a:Option Addr} {l c:Nat} {zs:List ByteArray} {S:Nat->Prop} (h:cA w a l c zs S):∃g,LFr w g S zs (.slice a l c):=by
 obtain⟨⟨h1,h2,h3,h4,h5⟩,h6⟩:=h;rcases h6 with rfl|⟨g,cur,rfl,hS,hg⟩
 ·exact⟨0,_,_,_,rfl,h1,h2,h3,h4,.inl rfl⟩
 ·refine⟨g,_,_,_,rfl,h1,h2,h3,h4,h5.imp id ?_⟩;rintro⟨b,o,e,hlt,hc⟩;cases e;exact⟨rfl,hS,cur,hg,fun j x hx=>by have:=hc j x hx;rw[aw hg,FX] at this;exact this⟩
theorem LFr.lt {w:World} {h:Nat} {S:Nat->Prop} {zs:List ByteArray} {v:Value} (k:LFr w h S zs v) (hz:zs≠[]):S h/\h<w.heap.size:=by
 obtain⟨a',l',c',h1,h2,h3,h4,h5,h6⟩:=k;rcases h6 with h6|⟨_,q2,cu,q4,_⟩
 ·exact absurd h6 hz
 ·exact⟨q2,ae q4⟩
theorem de (w:World) (vs:List Value) (T:TypeId):∀(j:Nat) u,vs[j]?=some u->(w.alloc (.cells vs.toArray T)).cell? ((⟨w.heap.size,0,none⟩:Addr).add j)=some u:=by
 intro j u hu;rw[FT,aw (heap_alloc_new w _),FX];simpa using hu
theorem aX.app {w W w':World} {S:Nat->Prop} {m:Nat} {rs:List (List Fv)} {vss:List (List Value)} {H:Nat->Nat->Nat} {base n:Nat} {T:TypeId} {v:Value} {xs:List Value} (h:aX w S m rs vss H) (hb:Below w.heap.size w W) (ho:W.ownsRow base T m v n xs) (hT:¬T=9) (hg:W.grownBy w' v.ownBlock)
  {r:List Fv} {vs:List Value} {hh:Nat} (hr:r.length=m) (hvs:vs.length=m) (hc:∀(i:Nat) f,r[i]?=some f->∃v,vs[i]?=some v/\f.Fr W hh S v) (hfr:∀(i:Nat) zs,r[i]?=some (.l zs)->zs≠[]->w.heap.size<=hh)
  (h1:∀(i i':Nat) zs zs',r[i]?=some (.l zs)->zs≠[]->r[i']?=some (.l zs')->zs'≠[]->i=i'):aX w' S m (rs++[r]) (vss++[vs]) (fun j=>if j=rs.length then fun _=>hh else H j):=
 ((h.below hb).push hr hvs hc (fun i zs a b j r' i' zs' c d e q=>by have q1:=h.lt c d e;have q2:=hfr i zs a b;omega) h1).grown ho hT hg

theorem tv {x:Nd} {i:Nat} {zs:List ByteArray} (h:(ndF x)[i]?=some (.l zs)):i=6/\zs=x.zs:=by
 rcases i with _|_|_|_|_|_|_|i
 ·cases h
 ·cases h
 ·cases h
 ·cases h
 ·cases h
 ·cases h
 ·cases h;exact⟨rfl,rfl⟩
 ·simp[ndF] at h
theorem C7 {w:World} {x:Nd} {g:Nat} {Q:Nat->Prop} {a:Option Addr} {l c:Nat} (hn:x.n.size<=9223372036854775807) (hz:x.z.size<=9223372036854775807) (hl:LFr w g Q x.zs (.slice a l c)):∀(i:Nat) f,(ndF x)[i]?=some f->∃v,[.string x.n,.string x.z,.int .i64 x.c,.int .i64 x.s,.int .i64 x.u,.bool x.d,.slice a l c][i]?=some v/\f.Fr w g Q v:=by
 intro i f h;rcases i with _|_|_|_|_|_|_|i
 ·cases h;exact⟨_,rfl,rfl,hn⟩
 ·cases h;exact⟨_,rfl,rfl,hz⟩
 ·cases h;exact⟨_,rfl,rfl⟩
 ·cases h;exact⟨_,rfl,rfl⟩
 ·cases h;exact⟨_,rfl,rfl⟩
 ·cases h;exact⟨_,rfl,rfl⟩
 ·cases h;exact⟨_,rfl,hl⟩
 ·simp[ndF] at h

theorem ru (x:Nd) (va:Option Addr) (vl vc:Nat) (w:World) (hr:ay w va vl vc x.zs) (hl:vl<=8001):
  Calls Tryz.prog 63 #[.agg #[.string x.n,.string x.z,.int .i64 x.c,.int .i64 x.s,.int .i64 x.u,.bool x.d,.slice va vl vc]] w fun e w'=> ∃a' l' c',e=.returned (.agg #[.string x.n,.string x.z,.int .i64 x.c,.int .i64 x.s,.int .i64 x.u,.bool x.d,.slice a' l' c'])/\cA w' a' l' c' x.zs (fun k=>w.heap.size<=k)/\Below w.heap.size w w':=by
 obtain⟨HR,HB⟩:=gK;clear hr;go_enter Tryz.func63,Tryz.ntmps63;go_wp2_with fail;refine (Ap.mj va vl vc x.zs _ (HR.below (HB.trans ((aF _ _ _).mono HB.size))) hl).mono ?_;rintro e w1 ⟨a',l',c',rfl,h1,h2,hb⟩;obtain⟨HA0,HA1,hbx⟩:=cH hb;have Bp:=aa HA0;have Br:=aa HA1;replace HB:=upB HB hbx;clear hb hbx HA0 HA1;have HO:Hid (cA w1 a' l' c' x.zs (fun k=>w.heap.size+1+1<=k)):=⟨h1,h2.imp id fun ⟨g,cur,e1,e2,e3⟩=>⟨g,cur,e1,by simpa using e2,e3⟩⟩;clear h1 h2;obtain⟨p0,p1,p2,p3,p4,p5,p6⟩:=cs7 Bp;obtain⟨r0,r1,r2,r3,r4,r5,r6⟩:=cs7 Br;obtain⟨fr0,fr1,fr2,fr3,fr4,fr5⟩:=gJ;have fp6:=av Bp.out 6;have fr6:=av Br.out 6;go_wp2_with fail;refine bodyPost_ret (v:=.agg #[.string x.n,.string x.z,.int .i64 x.c,.int .i64 x.s,.int .i64 x.u,.bool x.d,.slice a' l' c']) (by simp[results,Tryz.results63,go_sem, *]) rfl ⟨a',l',c',rfl,HO.aM (fun k _ s=>by have s1:w.heap.size+1+1<=k:=s;rw[Fp _ _ _ _ (show k≠w.heap.size+1 by omega),Fp _ _ _ _ (show k≠w.heap.size+1 by omega),Fp _ _ _ _ (show k≠w.heap.size+1 by omega),Fp _ _ _ _ (show k≠w.heap.size+1 by omega),Fp _ _ _ _ (show k≠w.heap.size+1 by omega),Fp _ _ _ _ (show k≠w.heap.size+1 by omega),Fp _ _ _ _ (show k≠w.heap.size+1 by omega),Fp _ _ _ _ (show k≠w.heap.size by omega)]) (fun k _ s=>by have s1:w.heap.size+1+1<=k:=s;show w.heap.size<=k;omega),sb1 (sb1 (sb1 (sb1 (sb1 (sb1 (sb1 (ah (Ft _) (HB.out))))))))⟩

theorem mx (a:Option Addr) (len cap:Nat) (xs:List Nd) (w:World) (hr:aN w a len cap 7 (xs.map ndF)) (hl:len<=8) (hs:∀(j:Nat) x,xs[j]?=some x->x.zs.length<=8001):
  Calls Tryz.prog 62 #[.slice a len cap,.func (.func 63) #[] #[]] w fun e w'=> ∃a' c',e=.returned (.slice a' len c')/\az w' a' len c' 7 57 (xs.map ndF) (fun k=>w.heap.size<=k)/\Below w.heap.size w w':=by
 have HR:=aa hr;have HS:=aa hs;have hxl:xs.length=len:=dv
 clear hr hs;obtain⟨i0,hi,hz0,hz1,hz2⟩:=info_parts my;have HI0:=aa (Fo hi (Fo hz0 (Fo hz1 hz2)));clear hi hz0 hz1 hz2;go_enter Tryz.func62,Tryz.ntmps62;go_wp2;go_loopw [5,10] (fun vo vi wr=> ∃(k:Nat) (vss:List (List Value)) (H:Nat->Nat->Nat),k<=len/\vi=.int .i64 k/\Hid (wr.ownsRow w.heap.size 57 7 vo k vss.flatten)/\Hid (aX wr (fun k=>w.heap.size<=k) 7 ((xs.take k).map ndF) vss H)/\Hid (Below w.heap.size w wr)) (fun _ vi _=>len - (intOf vi).toNat);case atStart=>exact⟨0,[],fun _ _=>0,by omega,rfl,Gj _ _ _ _,aX.nil _ _ _ _,Fw _ _⟩
 case round=>
  obtain⟨k,vss,H,hk,rfl,HO,HV,HB⟩:=hrel;have hBs:=HB.size;by_cases hlt:k<len
  ·obtain⟨b,o,x,rfl,hb,hx,hat⟩:=cB (HR.below HB.out) hlt;obtain⟨va,vl,vc,hvr,z0,z1,c0,c1,c2,c3,c4,c5,c6⟩:=aZ hat;obtain⟨hz8,HX,HT,HZz0⟩:=uX;have HZz1:=aa z1;clear hat hx hvr z0 z1;go_wp2_with fail;refine (ru x va vl vc _ (HT.below (al _ _)) hz8).mono ?_;rintro e w2 ⟨a',l',c',rfl,ho,hb2⟩;obtain⟨-,hbx⟩:=aL hb2;rw[dG] at ho;obtain⟨g,hg⟩:=ho.fr;obtain⟨HG,HX2,HO2,hs2⟩:=vf;clear ho hb2 hbx hg hb c0 c1 c2 c3 c4 c5 c6;go_wp2_with (first|(at_builtin;refine wpList_append_own _ rfl _ _ 30 rfl w.heap.size 57 i0 (.agg #[.string ⟨#[]⟩,.string ⟨#[]⟩,.int .i64 0,.int .i64 0,.int .i64 0,.bool false,.slice none 0 0]) 7 88 Tryz.underlying30 HI0.1 HI0.2.1 HI0.2.2.1 HI0.2.2.2 rfl aj _ _ _ rfl (HO2.alloc _) ⟨w2.heap.size,0,none⟩ 1 1 [.string x.n,.string x.z,.int .i64 x.c,.int .i64 x.s,.int .i64 x.u,.bool x.d,.slice a' l' c'] rfl rfl ?c1 ?c2 ?c3 ?c4 ?c5 ?_));case c1=>exact de _ _ _
   case c2=>intro u hu;simp only[Gl,GU,or_false] at hu;rcases hu with rfl|rfl|rfl|rfl|rfl|rfl|rfl <;> rfl
   case c3=>unfold maxLen;omega
   case c4=>omega
   case c5=>simp;omega
   rintro v' w3 hown3 hgrow -;have HO3:Hid (w3.ownsRow w.heap.size 57 7 v' (k+1) (vss++([[.string x.n,.string x.z,.int .i64 x.c,.int .i64 x.s,.int .i64 x.u,.bool x.d,.slice a' l' c']]:List (List Value))).flatten):=by
    exact pX
   have hb23:Below wr.heap.size wr (w2.alloc (.cells (nov x a' l' c') 57)):=HX2.trans ((al _ _).mono (Nat.le_of_lt hs2));have hV:=HV.app (r:=ndF x) (vs:=[.string x.n,.string x.z,.int .i64 x.c,.int .i64 x.s,.int .i64 x.u,.bool x.d,.slice a' l' c']) (hh:=g) hb23 (HO2.alloc _) aj hgrow rfl rfl
    (C7 HZz0.out HZz1.out (HG.aM (S':=fun k=>w.heap.size<=k) (fun cu _ q=>Fy _ _ _ (ae q)) (fun _ s=>by have s1:wr.heap.size+1<=g:=s;show w.heap.size<=g;omega)))
    (fun i zs hi hz=>by obtain⟨_,rfl⟩:=tv hi;have s1:wr.heap.size+1<=g:=(HG.lt hz).1;omega) (fun i i' zs zs' h1 _ h2 _=>(tv h1).1.trans (tv h2).1.symm)
   have e1:(xs.take (k+1)).map ndF=(xs.take k).map ndF++[ndF x]:=by rw[F6,HX.out];simp
   exact vN
  ·obtain rfl:len=k:=af
   have h5:=HV.out;rw[FF af] at h5;obtain⟨a',c',rfl,hR⟩:=h5.own HO.out (by simp[hxl]) aj (fun g hg=>(HO.lt g hg).1);have HR5:=aa hR;have hl5:(xs.map ndF).length=len:=by simpa using hxl
   exact qA

theorem s_ {x:Vd} {i:Nat} {zs:List ByteArray} (h:(vdF x)[i]?=some (.l zs)):i=7/\zs=x.zs:=by
 rcases i with _|_|_|_|_|_|_|_|i
 ·cases h
 ·cases h
 ·cases h
 ·cases h
 ·cases h
 ·cases h
 ·cases h
 ·cases h;exact⟨rfl,rfl⟩
 ·simp[vdF] at h
theorem ui {w:World} {x:Vd} {g:Nat} {Q:Nat->Prop} {a:Option Addr} {l c:Nat} (hn:x.n.size<=9223372036854775807) (hz:x.z.size<=9223372036854775807) (hk:x.k.size<=9223372036854775807) (hm:x.m.size<=9223372036854775807) (hl:LFr w g Q x.zs (.slice a l c)):∀(i:Nat) f,(vdF x)[i]?=some f->∃v,[.string x.n,.int .i64 x.c,.string x.z,.string x.k,.bool x.x,.string x.m,.bool x.y,.slice a l c][i]?=some v/\f.Fr w g Q v:=by
 intro i f h;rcases i with _|_|_|_|_|_|_|_|i
 ·cases h;exact⟨_,rfl,rfl,hn⟩
 ·cases h;exact⟨_,rfl,rfl⟩
 ·cases h;exact⟨_,rfl,rfl,hz⟩
 ·cases h;exact⟨_,rfl,rfl,hk⟩
 ·cases h;exact⟨_,rfl,rfl⟩
 ·cases h;exact⟨_,rfl,rfl,hm⟩
 ·cases h;exact⟨_,rfl,rfl⟩
 ·cases h;exact⟨_,rfl,hl⟩
 ·simp[vdF] at h

theorem rq (x:Vd) (va:Option Addr) (vl vc:Nat) (w:World) (hr:ay w va vl vc x.zs) (hl:vl<=8001):
  Calls Tryz.prog 65 #[.agg #[.string x.n,.int .i64 x.c,.string x.z,.string x.k,.bool x.x,.string x.m,.bool x.y,.slice va vl vc]] w fun e w'=> ∃a' l' c',e=.returned (.agg #[.string x.n,.int .i64 x.c,.string x.z,.string x.k,.bool x.x,.string x.m,.bool x.y,.slice a' l' c'])/\cA w' a' l' c' x.zs (fun k=>w.heap.size<=k)/\Below w.heap.size w w':=by
 refine (Ap.Eo x.n x.c x.z x.k x.x x.m x.y va vl vc x.zs w hr hl).mono ?_;rintro e w' ⟨a',l',c',rfl,h1,h2,hb⟩;exact⟨a',l',c',rfl,⟨h1,h2⟩,hb⟩

theorem mv (a:Option Addr) (len cap:Nat) (xs:List Vd) (w:World) (hr:aN w a len cap 8 (xs.map vdF)) (hl:len<=8) (hs:∀(j:Nat) x,xs[j]?=some x->x.zs.length<=8001):
  Calls Tryz.prog 64 #[.slice a len cap,.func (.func 65) #[] #[]] w fun e w'=> ∃a' c',e=.returned (.slice a' len c')/\az w' a' len c' 8 99 (xs.map vdF) (fun k=>w.heap.size<=k)/\Below w.heap.size w w':=by
 have HR:=aa hr;have HS:=aa hs;have hxl:xs.length=len:=dv
 clear hr hs;obtain⟨i0,hi,hz0,hz1,hz2⟩:=info_parts gi;have HI0:=aa (Fo hi (Fo hz0 (Fo hz1 hz2)));clear hi hz0 hz1 hz2;go_enter Tryz.func64,Tryz.ntmps64;go_wp2;go_loopw [5,10] (fun vo vi wr=> ∃(k:Nat) (vss:List (List Value)) (H:Nat->Nat->Nat),k<=len/\vi=.int .i64 k/\Hid (wr.ownsRow w.heap.size 99 8 vo k vss.flatten)/\Hid (aX wr (fun k=>w.heap.size<=k) 8 ((xs.take k).map vdF) vss H)/\Hid (Below w.heap.size w wr)) (fun _ vi _=>len - (intOf vi).toNat);case atStart=>exact⟨0,[],fun _ _=>0,by omega,rfl,Gj _ _ _ _,aX.nil _ _ _ _,Fw _ _⟩
 case round=>
  obtain⟨k,vss,H,hk,rfl,HO,HV,HB⟩:=hrel;have hBs:=HB.size;by_cases hlt:k<len
  ·obtain⟨b,o,x,rfl,hb,hx,hat⟩:=bN (HR.below HB.out) hlt;obtain⟨va,vl,vc,hvr,z0,z2,z3,z5,c0,c1,c2,c3,c4,c5,c6,c7⟩:=aK hat;obtain⟨hz8,HX,HT,HZz0⟩:=uX;have HZz2:=aa z2;have HZz3:=aa z3;have HZz5:=aa z5;clear hat hx hvr z0 z2 z3 z5;go_wp2_with fail;refine (rq x va vl vc _ (HT.below (al _ _)) hz8).mono ?_;rintro e w2 ⟨a',l',c',rfl,ho,hb2⟩;obtain⟨-,hbx⟩:=aL hb2;rw[dG] at ho;obtain⟨g,hg⟩:=ho.fr;obtain⟨HG,HX2,HO2,hs2⟩:=vf;clear ho hb2 hbx hg hb c0 c1 c2 c3 c4 c5 c6 c7;go_wp2_with (first|(at_builtin;refine wpList_append_own _ rfl _ _ 32 rfl w.heap.size 99 i0 (.agg #[.string ⟨#[]⟩,.int .i64 0,.string ⟨#[]⟩,.string ⟨#[]⟩,.bool false,.string ⟨#[]⟩,.bool false,.slice none 0 0]) 8 112 Tryz.underlying32 HI0.1 HI0.2.1 HI0.2.2.1 HI0.2.2.2 rfl aj _ _ _ rfl (HO2.alloc _) ⟨w2.heap.size,0,none⟩ 1 1 [.string x.n,.int .i64 x.c,.string x.z,.string x.k,.bool x.x,.string x.m,.bool x.y,.slice a' l' c'] rfl rfl ?c1 ?c2 ?c3 ?c4 ?c5 ?_));case c1=>exact de _ _ _
   case c2=>intro u hu;simp only[Gl,GU,or_false] at hu;rcases hu with rfl|rfl|rfl|rfl|rfl|rfl|rfl|rfl <;> rfl
   case c3=>unfold maxLen;omega
   case c4=>omega
   case c5=>simp;omega
   rintro v' w3 hown3 hgrow -;have HO3:Hid (w3.ownsRow w.heap.size 99 8 v' (k+1) (vss++([[.string x.n,.int .i64 x.c,.string x.z,.string x.k,.bool x.x,.string x.m,.bool x.y,.slice a' l' c']]:List (List Value))).flatten):=by
    exact pX
   have hb23:Below wr.heap.size wr (w2.alloc (.cells (vov x a' l' c') 99)):=HX2.trans ((al _ _).mono (Nat.le_of_lt hs2));have hV:=HV.app (r:=vdF x) (vs:=[.string x.n,.int .i64 x.c,.string x.z,.string x.k,.bool x.x,.string x.m,.bool x.y,.slice a' l' c']) (hh:=g) hb23 (HO2.alloc _) aj hgrow rfl rfl
    (ui HZz0.out HZz2.out HZz3.out HZz5.out (HG.aM (S':=fun k=>w.heap.size<=k) (fun cu _ q=>Fy _ _ _ (ae q)) (fun _ s=>by have s1:wr.heap.size+1<=g:=s;show w.heap.size<=g;omega)))
    (fun i zs hi hz=>by obtain⟨_,rfl⟩:=s_ hi;have s1:wr.heap.size+1<=g:=(HG.lt hz).1;omega) (fun i i' zs zs' h1 _ h2 _=>(s_ h1).1.trans (s_ h2).1.symm)
   have e1:(xs.take (k+1)).map vdF=(xs.take k).map vdF++[vdF x]:=by rw[F6,HX.out];simp
   exact vN
  ·obtain rfl:len=k:=af
   have h5:=HV.out;rw[FF af] at h5;obtain⟨a',c',rfl,hR⟩:=h5.own HO.out (by simp[hxl]) aj (fun g hg=>(HO.lt g hg).1);have HR5:=aa hR;have hl5:(xs.map vdF).length=len:=by simpa using hxl
   exact qA

theorem tn {x:Pd} {i:Nat} {zs:List ByteArray} (h:(pdF x)[i]?=some (.l zs)):i=3/\zs=x.zs:=by
 rcases i with _|_|_|_|_|_|i
 ·cases h
 ·cases h
 ·cases h
 ·cases h;exact⟨rfl,rfl⟩
 ·cases h
 ·cases h
 ·simp[pdF] at h
theorem C5 {w:World} {x:Pd} {g:Nat} {Q:Nat->Prop} {a:Option Addr} {l c:Nat} (hn:x.n.size<=9223372036854775807) (hz:x.z.size<=9223372036854775807) (hd:x.d.size<=9223372036854775807) (hl:LFr w g Q x.zs (.slice a l c)):∀(i:Nat) f,(pdF x)[i]?=some f->∃v,[.string x.n,.int .i64 x.c,.string x.z,.slice a l c,.string x.d,.int .i64 x.p][i]?=some v/\f.Fr w g Q v:=by
 intro i f h;rcases i with _|_|_|_|_|_|i
 ·cases h;exact⟨_,rfl,rfl,hn⟩
 ·cases h;exact⟨_,rfl,rfl⟩
 ·cases h;exact⟨_,rfl,rfl,hz⟩
 ·cases h;exact⟨_,rfl,hl⟩
 ·cases h;exact⟨_,rfl,rfl,hd⟩
 ·cases h;exact⟨_,rfl,rfl⟩
 ·simp[pdF] at h

theorem kh (x:Pd) (va:Option Addr) (vl vc:Nat) (w:World) (hr:ay w va vl vc x.zs) (hl:vl<=8001):
  Calls Tryz.prog 67 #[.agg #[.string x.n,.int .i64 x.c,.string x.z,.slice va vl vc,.string x.d,.int .i64 x.p]] w fun e w'=> ∃a' l' c',e=.returned (.agg #[.string x.n,.int .i64 x.c,.string x.z,.slice a' l' c',.string x.d,.int .i64 x.p])/\cA w' a' l' c' x.zs (fun k=>w.heap.size<=k)/\Below w.heap.size w w':=by
 obtain⟨HR,HB⟩:=gK;clear hr;go_enter Tryz.func67,Tryz.ntmps67;go_wp2_with fail;refine (Ap.mj va vl vc x.zs _ (HR.below (HB.trans ((aF _ _ _).mono HB.size))) hl).mono ?_;rintro e w1 ⟨a',l',c',rfl,h1,h2,hb⟩;obtain⟨HA0,HA1,hbx⟩:=cH hb;have Bp:=aa HA0;have Br:=aa HA1;replace HB:=upB HB hbx;clear hb hbx HA0 HA1;have HO:Hid (cA w1 a' l' c' x.zs (fun k=>w.heap.size+1+1<=k)):=⟨h1,h2.imp id fun ⟨g,cur,e1,e2,e3⟩=>⟨g,cur,e1,by simpa using e2,e3⟩⟩;clear h1 h2;obtain⟨p0,p1,p2,p3,p4,p5⟩:=cs6 Bp;obtain⟨r0,r1,r2,r3,r4,r5⟩:=cs6 Br;have fr0:=av Br.out 0;have fr1:=av Br.out 1;have fr2:=av Br.out 2;have fp3:=av Bp.out 3;have fr3:=av Br.out 3;have fr4:=av Br.out 4;have fr5:=av Br.out 5;go_wp2_with fail;refine bodyPost_ret (v:=.agg #[.string x.n,.int .i64 x.c,.string x.z,.slice a' l' c',.string x.d,.int .i64 x.p]) (by simp[results,Tryz.results67,go_sem, *]) rfl ⟨a',l',c',rfl,HO.aM (fun k _ s=>by have s1:w.heap.size+1+1<=k:=s;rw[Fp _ _ _ _ (show k≠w.heap.size+1 by omega),Fp _ _ _ _ (show k≠w.heap.size+1 by omega),Fp _ _ _ _ (show k≠w.heap.size+1 by omega),Fp _ _ _ _ (show k≠w.heap.size+1 by omega),Fp _ _ _ _ (show k≠w.heap.size+1 by omega),Fp _ _ _ _ (show k≠w.heap.size+1 by omega),Fp _ _ _ _ (show k≠w.heap.size by omega)]) (fun k _ s=>by have s1:w.heap.size+1+1<=k:=s;show w.heap.size<=k;omega),sb1 (sb1 (sb1 (sb1 (sb1 (sb1 (ah (Ft _) (HB.out)))))))⟩

theorem mw (a:Option Addr) (len cap:Nat) (xs:List Pd) (w:World) (hr:aN w a len cap 6 (xs.map pdF)) (hl:len<=8) (hs:∀(j:Nat) x,xs[j]?=some x->x.zs.length<=8001):
  Calls Tryz.prog 66 #[.slice a len cap,.func (.func 67) #[] #[]] w fun e w'=> ∃a' c',e=.returned (.slice a' len c')/\az w' a' len c' 6 64 (xs.map pdF) (fun k=>w.heap.size<=k)/\Below w.heap.size w w':=by
 have HR:=aa hr;have HS:=aa hs;have hxl:xs.length=len:=dv
 clear hr hs;obtain⟨i0,hi,hz0,hz1,hz2⟩:=info_parts iK;have HI0:=aa (Fo hi (Fo hz0 (Fo hz1 hz2)));clear hi hz0 hz1 hz2;go_enter Tryz.func66,Tryz.ntmps66;go_wp2;go_loopw [5,10] (fun vo vi wr=> ∃(k:Nat) (vss:List (List Value)) (H:Nat->Nat->Nat),k<=len/\vi=.int .i64 k/\Hid (wr.ownsRow w.heap.size 64 6 vo k vss.flatten)/\Hid (aX wr (fun k=>w.heap.size<=k) 6 ((xs.take k).map pdF) vss H)/\Hid (Below w.heap.size w wr)) (fun _ vi _=>len - (intOf vi).toNat);case atStart=>exact⟨0,[],fun _ _=>0,by omega,rfl,Gj _ _ _ _,aX.nil _ _ _ _,Fw _ _⟩
 case round=>
  obtain⟨k,vss,H,hk,rfl,HO,HV,HB⟩:=hrel;have hBs:=HB.size;by_cases hlt:k<len
  ·obtain⟨b,o,x,rfl,hb,hx,hat⟩:=bY (HR.below HB.out) hlt;obtain⟨va,vl,vc,hvr,z0,z2,z4,c0,c1,c2,c3,c4,c5⟩:=aT hat;obtain⟨hz8,HX,HT,HZz0⟩:=uX;have HZz2:=aa z2;have HZz4:=aa z4;clear hat hx hvr z0 z2 z4;go_wp2_with fail;refine (kh x va vl vc _ (HT.below (al _ _)) hz8).mono ?_;rintro e w2 ⟨a',l',c',rfl,ho,hb2⟩;obtain⟨-,hbx⟩:=aL hb2;rw[dG] at ho;obtain⟨g,hg⟩:=ho.fr;obtain⟨HG,HX2,HO2,hs2⟩:=vf;clear ho hb2 hbx hg hb c0 c1 c2 c3 c4 c5;go_wp2_with (first|(at_builtin;refine wpList_append_own _ rfl _ _ 34 rfl w.heap.size 64 i0 (.agg #[.string ⟨#[]⟩,.int .i64 0,.string ⟨#[]⟩,.slice none 0 0,.string ⟨#[]⟩,.int .i64 0]) 6 88 Tryz.underlying34 HI0.1 HI0.2.1 HI0.2.2.1 HI0.2.2.2 rfl aj _ _ _ rfl (HO2.alloc _) ⟨w2.heap.size,0,none⟩ 1 1 [.string x.n,.int .i64 x.c,.string x.z,.slice a' l' c',.string x.d,.int .i64 x.p] rfl rfl ?c1 ?c2 ?c3 ?c4 ?c5 ?_));case c1=>exact de _ _ _
   case c2=>intro u hu;simp only[Gl,GU,or_false] at hu;rcases hu with rfl|rfl|rfl|rfl|rfl|rfl <;> rfl
   case c3=>unfold maxLen;omega
   case c4=>omega
   case c5=>simp;omega
   rintro v' w3 hown3 hgrow -;have HO3:Hid (w3.ownsRow w.heap.size 64 6 v' (k+1) (vss++([[.string x.n,.int .i64 x.c,.string x.z,.slice a' l' c',.string x.d,.int .i64 x.p]]:List (List Value))).flatten):=by
    exact pX
   have hb23:Below wr.heap.size wr (w2.alloc (.cells (pov x a' l' c') 64)):=HX2.trans ((al _ _).mono (Nat.le_of_lt hs2));have hV:=HV.app (r:=pdF x) (vs:=[.string x.n,.int .i64 x.c,.string x.z,.slice a' l' c',.string x.d,.int .i64 x.p]) (hh:=g) hb23 (HO2.alloc _) aj hgrow rfl rfl
    (C5 HZz0.out HZz2.out HZz4.out (HG.aM (S':=fun k=>w.heap.size<=k) (fun cu _ q=>Fy _ _ _ (ae q)) (fun _ s=>by have s1:wr.heap.size+1<=g:=s;show w.heap.size<=g;omega)))
    (fun i zs hi hz=>by obtain⟨_,rfl⟩:=tn hi;have s1:wr.heap.size+1<=g:=(HG.lt hz).1;omega) (fun i i' zs zs' h1 _ h2 _=>(tn h1).1.trans (tn h2).1.symm)
   have e1:(xs.take (k+1)).map pdF=(xs.take k).map pdF++[pdF x]:=by rw[F6,HX.out];simp
   exact vN
  ·obtain rfl:len=k:=af
   have h5:=HV.out;rw[FF af] at h5;obtain⟨a',c',rfl,hR⟩:=h5.own HO.out (by simp[hxl]) aj (fun g hg=>(HO.lt g hg).1);have HR5:=aa hR;have hl5:(xs.map pdF).length=len:=by simpa using hxl
   exact qA

end Rc
end Go.Proofs.YtpejepeekdjfoaaGreatDoor

namespace Go.Proofs.YtpejepeekdjfoaaGreatDoor
open Go.RowKit
namespace Gi

abbrev Rs:=Option Tmp->World->World->Prop
structure Rel (R:Rs) (sp:Tmp):Prop where
 refl:∀w,R none w w
 trans:∀{a b c},R none a b->R none b c->R none a c
 size:∀{a b},R none a b->a.heap.size<=b.heap.size
 drew:∀w,R none w w.drew
 sub:∀s {a b},R s a b->R none a b
 low:∀s {a b},¬s=none->¬s=some sp->R s a b->Below a.heap.size a b
abbrev Fact:=Value->World->Nat->Nat->Prop
abbrev Ex:=Tmp->Option Tmp
def Fact.bB (R:Rs) (ex:Ex) (d:Option Tmp) (φ:Fact):Prop:=∀s,¬s=none->¬s=d->(∀t e,d=some t->ex t=some e->¬s=some e)->∀v w w' l h,φ v w l h->R s w w'->φ v w' l h
theorem Fact.cw (R:Rs) (ex:Ex) (d:Option Tmp) (c:Value):Fact.bB R ex d (fun v _ _ _=>v=c):=fun _ _ _ _ _ _ _ _ _ h _=>h

def ai (ex:Ex) (d:Option Tmp) (a0:Act) (known:List (Tmp×Fact)) (a:Act) (w:World) (lo hi:Tmp->Nat) (t:Tmp):Prop:=
 match known.lookup t with
 | some φ=>(ex t=none\/ex t=d)->φ (a.tmps.getD t undef) w (lo t) (hi t)
 | none=>a.tmps.getD t undef=a0.tmps.getD t undef

def mL (known:List (Tmp×Fact)) (lo hi:Tmp->Nat) (ts:List Tmp):Prop:=∀t∈ts,∀t'∈ts,(known.lookup t).isSome=true->(known.lookup t').isSome=true->¬t=t'->hi t<=lo t'\/hi t'<=lo t
def Obl (R:Rs) (sp:Tmp) (ex:Ex) (P:Program) (ops:Array Oper) (Q:Exit->Act->World->Prop) (W:World) (a0:Act) (known:List (Tmp×Fact)) (o:Oper) (φ:Fact):Prop:=
 ∀(a:Act) (w:World) (K:Act->World->Prop) (lo hi:Tmp->Nat),a.tmps.size=a0.tmps.size->R none W w->(o.dst=some sp->Below W.heap.size W w)->(∀t∈o.looksAt ops,ai ex o.dst a0 known a w lo hi t)->mL known lo hi (o.looksAt ops)->
  (∀v w',R o.dst w w'->φ v w' w.heap.size w'.heap.size->K (a.put o.dst v) w')->if GW o (yielded ops a.tmps)=true then o.wp P a w K Q else K (a.put o.dst undef) w

theorem Obl.plain {R:Rs} {sp:Tmp} {ex:Ex} {P:Program} {ops:Array Oper} {Q:Exit->Act->World->Prop} {W:World} {a0:Act} {known:List (Tmp×Fact)} {o:Oper} {φ:Fact} (hg:o.guard=none)
  (h:∀(a:Act) (w:World) (K:Act->World->Prop) (lo hi:Tmp->Nat),a.tmps.size=a0.tmps.size->R none W w->(o.dst=some sp->Below W.heap.size W w)->(∀t∈eM o,ai ex o.dst a0 known a w lo hi t)->mL known lo hi (eM o)->(∀v w',R o.dst w w'->φ v w' w.heap.size w'.heap.size->K (a.put o.dst v) w')->o.wp P a w K Q):Obl R sp ex P ops Q W a0 known o φ:=by
 intro a w K lo hi h1 h2 h6 h3 h5 h4;have hw:GW o (yielded ops a.tmps)=true:=by simp[GW,hg]
 rw[if_pos hw];have hs:∀t∈eM o,t∈o.looksAt ops:=fun t ht=>by unfold Oper.looksAt;exact Hk _ ht
 exact h a w K lo hi h1 h2 h6 (fun t ht=>h3 t (hs t ht)) (fun t ht t' ht'=>h5 t (hs t ht) t' (hs t' ht')) h4

def aE (a0:Act) (known:List (Tmp×Fact)) (x:Tmp->Value):Act:=known.foldr (fun p b=>b.put (some p.1) (x p.1)) a0
def EL (known:List (Tmp×Fact)) (lo hi:Tmp->Nat):Prop:=∀p∈known,∀q∈known,¬p.1=q.1->hi p.1<=lo q.1\/hi q.1<=lo p.1
def Fin (R:Rs) (ex:Ex) (P:Program) (ops:Array Oper) (Q:Exit->Act->World->Prop) (W:World) (a0:Act) (back:Option Oper) (known:List (Tmp×Fact)):Prop:=
 ∀(x:Tmp->Value) (w:World) (lo hi:Tmp->Nat),R none W w->(∀p∈known,ex p.1=none->p.2 (x p.1) w (lo p.1) (hi p.1))->EL known lo hi->eD P ops Q back (aE a0 known x) w

def kn (d:Option Tmp) (φ:Fact) (known:List (Tmp×Fact)):List (Tmp×Fact):=match d with|some t=>(t,φ) ::known|none=>known

def au (R:Rs) (sp:Tmp) (ex:Ex) (P:Program) (ops:Array Oper) (Q:Exit->Act->World->Prop) (W:World) (a0:Act) (back:Option Oper):List Oper->List (Tmp×Fact)->Prop
 | [],known=>Fin R ex P ops Q W a0 back known
 | o ::rest,known=> ∃φ:Fact,φ.bB R ex o.dst/\Obl R sp ex P ops Q W a0 known o φ/\au R sp ex P ops Q W a0 back rest (kn o.dst φ known)
theorem au.step {R:Rs} {sp:Tmp} {ex:Ex} {P:Program} {ops:Array Oper} {Q:Exit->Act->World->Prop} {W:World} {a0:Act} {back:Option Oper} {o:Oper} {rest:List Oper} {known:List (Tmp×Fact)} {t:Tmp} (φ:Fact) (hd:o.dst=some t) (hφ:φ.bB R ex (some t)) (ho:Obl R sp ex P ops Q W a0 known o φ)
  (h:au R sp ex P ops Q W a0 back rest ((t,φ) ::known)):au R sp ex P ops Q W a0 back (o ::rest) known:=⟨φ,by rw[hd];exact hφ,ho,by rw[hd];exact h⟩
theorem au.an {R:Rs} {sp:Tmp} {ex:Ex} {P:Program} {ops:Array Oper} {Q:Exit->Act->World->Prop} {W:World} {a0:Act} {back:Option Oper} {o:Oper} {rest:List Oper} {known:List (Tmp×Fact)} {t:Tmp} (c:Value) (hd:o.dst=some t) (ho:Obl R sp ex P ops Q W a0 known o (fun v _ _ _=>v=c))
  (h:au R sp ex P ops Q W a0 back rest ((t,fun v _ _ _=>v=c) ::known)):au R sp ex P ops Q W a0 back (o ::rest) known:=au.step _ hd (Fact.cw R ex _ c) ho h
theorem au.done {R:Rs} {sp:Tmp} {ex:Ex} {P:Program} {ops:Array Oper} {Q:Exit->Act->World->Prop} {W:World} {a0:Act} {back:Option Oper} {known:List (Tmp×Fact)} (h:Fin R ex P ops Q W a0 back known):au R sp ex P ops Q W a0 back [] known:=h

section
variable {R:Rs} {sp:Tmp} {ex:Ex} {P:Program} {ops:Array Oper} {Q:Exit->Act->World->Prop} {W:World} {a0:Act} {back:Option Oper}

def knAll:List (Tmp×Fact)->List Oper->List Fact->List (Tmp×Fact)
 | known,o ::l,φ ::φs=>knAll (kn o.dst φ known) l φs
 | known,_,_=>known
theorem bW (known:List (Tmp×Fact)) (φs:List Fact):knAll known [] φs=known:=by cases φs <;> rfl

theorem au.spec:∀(l:List Oper) (known:List (Tmp×Fact)),au R sp ex P ops Q W a0 back l known->∃φs:List Fact,φs.length=l.length/\
  (∀(i:Nat) (o:Oper) (φ:Fact),l[i]?=some o->φs[i]?=some φ->φ.bB R ex o.dst/\Obl R sp ex P ops Q W a0 (knAll known (l.take i) (φs.take i)) o φ)/\Fin R ex P ops Q W a0 back (knAll known l φs)
 | [],known,h=>⟨[],rfl,fun i o φ h=>by simp at h,by rw[bW];exact h⟩
 | o ::l,known,h=>by
  exact vQ

theorem iG (d:Option Tmp) (φ:Fact) (known:List (Tmp×Fact)) (t:Tmp):(kn d φ known).lookup t=if d=some t then some φ else known.lookup t:=by
 exact yE

theorem b8:∀(l:List Oper) (φs:List Fact) (known:List (Tmp×Fact)) {t:Tmp} {φ:Fact},(knAll known l φs).lookup t=some φ->
  (∃(i:Nat) (o:Oper),l[i]?=some o/\o.dst=some t/\φs[i]?=some φ)\/known.lookup t=some φ
 | [],φs,known,t,φ,h=>by rw[bW] at h;exact .inr h
 | o ::l,[],known,t,φ,h=>.inr h
 | o ::l,ψ ::φs,known,t,φ,h=>by
  exact yU
theorem b_:∀(l:List Oper) (φs:List Fact) (known:List (Tmp×Fact)) {t:Tmp},(knAll known l φs).lookup t=none->
  known.lookup t=none/\∀(i:Nat) (o:Oper) (φ:Fact),l[i]?=some o->φs[i]?=some φ->o.dst≠some t
 | [],φs,known,t,h=>by rw[bW] at h;exact⟨h,fun i o φ h=>by simp at h⟩
 | o ::l,[],known,t,h=>⟨h,fun i o φ _ h=>by simp at h⟩
 | o ::l,ψ ::φs,known,t,h=>by
  exact CG
theorem dz:∀(l:List Oper) (φs:List Fact) (known:List (Tmp×Fact)) {p:Tmp×Fact},p∈knAll known l φs->
  (∃(i:Nat) (o:Oper),l[i]?=some o/\o.dst=some p.1/\φs[i]?=some p.2)\/p∈known
 | [],φs,known,p,h=>by rw[bW] at h;exact .inr h
 | o ::l,[],known,p,h=>.inr h
 | o ::l,ψ ::φs,known,p,h=>by
  exact CB

theorem dj (a0:Act) (x:Tmp->Value):∀known,(aE a0 known x).tmps.size=a0.tmps.size
 | []=>rfl
 | p ::l=>by unfold aE;rw[List.foldr_cons,size_put];exact dj a0 x l
theorem dm (a0:Act) (x:Tmp->Value):∀known,(aE a0 known x).defers=a0.defers
 | []=>rfl
 | p ::l=>by unfold aE;rw[List.foldr_cons,eQ];exact dm a0 x l
theorem gQ (a0 a:Act) (known:List (Tmp×Fact)) (hk:∀p∈known,p.1<a0.tmps.size) (t:Tmp) (h:(∀p∈known,p.1≠t)->a.tmps.getD t undef=a0.tmps.getD t undef):
  (aE a0 known (fun t=>a.tmps.getD t undef)).tmps.getD t undef=a.tmps.getD t undef:=by
 exact CS
structure At (R:Rs) (sp:Tmp) (ex:Ex) (front:List Oper) (φs:List Fact) (W:World) (a0:Act) (listed:Array Bool) (a:Act) (w:World) (lo hi:Tmp->Nat):Prop where
 size:a.tmps.size=a0.tmps.size
 defers:a.defers=a0.defers
 below:R none W w
 pre:(∀(i:Nat) (p:Oper),front[i]?=some p->p.dst=some sp->listed.getD i false=false)->Below W.heap.size W w
 known:∀(i:Nat) (o:Oper) (φ:Fact),front[i]?=some o->φs[i]?=some φ->∀t,o.dst=some t->listed.getD i false=true->(∀e,ex t=some e->∀(i':Nat) (p':Oper),front[i']?=some p'->p'.dst=some e->listed.getD i' false=false)->φ (a.tmps.getD t undef) w (lo t) (hi t)
 top:∀(i:Nat) (o:Oper),front[i]?=some o->∀t,o.dst=some t->listed.getD i false=true->hi t<=w.heap.size
 apart:∀(i:Nat) (o:Oper) (i':Nat) (o':Oper),front[i]?=some o->front[i']?=some o'->∀t t',o.dst=some t->o'.dst=some t'->listed.getD i false=true->listed.getD i' false=true->¬t=t'->hi t<=lo t'\/hi t'<=lo t
 other:∀t,(∀(i:Nat) (o:Oper),front[i]?=some o->o.dst=some t->listed.getD i false=false)->a.tmps.getD t undef=a0.tmps.getD t undef

theorem At.step {front:List Oper} {φs:List Fact} {listed:Array Bool} {a:Act} {w w':World} {lo hi:Tmp->Nat} {j:Nat} {o:Oper} {φ:Fact} {v:Value} (hR:Rel R sp) (hds:¬o.dst=none) (h:At R sp ex front φs W a0 listed a w lo hi)
  (hn:(front.filterMap (·.dst)).Nodup) (hin:∀o∈front,∀t,o.dst=some t->t<a0.tmps.size) (hmono:∀(i:Nat) (o:Oper) (φ:Fact),front[i]?=some o->φs[i]?=some φ->φ.bB R ex o.dst)
  (ho:front[j]?=some o) (hφ:φs[j]?=some φ) (hj:j<listed.size) (hb:R o.dst w w') (hv:φ v w' w.heap.size w'.heap.size):∃lo hi,At R sp ex front φs W a0 (listed.setIfInBounds j true) (a.put o.dst v) w' lo hi:=by
 have old:∀(i:Nat) (p:Oper) t,front[i]?=some p->p.dst=some t->¬j=i->(listed.setIfInBounds j true).getD i false=true->¬o.dst=some t/\listed.getD i false=true:=fun i p t hp ht e hl=>
  ⟨fun hd=>e (eB front hn ho hp hd ht),by simpa[Fx,FL,e] using hl⟩
 refine⟨fun t=>if o.dst=some t then w.heap.size else lo t,fun t=>if o.dst=some t then w'.heap.size else hi t,(size_put _ _ _).trans h.size,(eQ _ _ _).trans h.defers,hR.trans h.below (hR.sub _ hb),fun hx=>?_,?_,?_,?_,?_⟩
 ·have hns:¬o.dst=some sp:=fun e=>by
   have:=hx j o ho e;simp[Fx,hj] at this
  have h1:=h.pre (fun i p hp hd=>by
   have h2:=hx i p hp hd
   have e:¬j=i:=fun e=>by subst e;exact hns (by rw[Fq (ho.symm.trans hp)];exact hd)
   simpa[Fx,FL,e] using h2)
  exact h1.trans ((hR.low _ hds hns hb).mono h1.size)
 ·intro i p ψ hp hψ t ht hl hx;by_cases e:j=i
  ·subst e;obtain rfl:o=p:=Fq (ho.symm.trans hp);obtain rfl:φ=ψ:=Fq (hφ.symm.trans hψ);simp only[if_pos ht];exact xH
  ·obtain⟨hne,hl'⟩:=old i p t hp ht e hl;simp only[if_neg hne];have hxo:∀e,ex t=some e->∀(i':Nat) (p':Oper),front[i']?=some p'->p'.dst=some e->¬j=i'/\listed.getD i' false=false:=fun e9 he i' p' hp' hd'=>by
    have h9:=hx e9 he i' p' hp' hd';by_cases ej:j=i'
    ·subst ej;simp[Fx,hj] at h9
    ·exact⟨ej,by simpa[Fx,FL,ej] using h9⟩
   have h1:=hmono i p ψ hp hψ o.dst hds (fun e9=>hne (e9.trans ht)) (fun t9 e9 h8 h9 hd=>by
    obtain rfl:t=t9:=Fq (ht.symm.trans h8)
    exact (hxo e9 h9 j o ho hd).1 rfl) _ _ _ _ _ (h.known i p ψ hp hψ t ht hl' (fun e9 he i' p' hp' hd'=>(hxo e9 he i' p' hp' hd').2)) hb
   exact wY
 ·intro i p hp t ht hl;by_cases e:j=i
  ·subst e;obtain rfl:o=p:=Fq (ho.symm.trans hp);simp only[if_pos ht];exact Ft _
  ·obtain⟨hne,hl'⟩:=old i p t hp ht e hl;simp only[if_neg hne];exact FA (h.top i p hp t ht hl') (hR.size (hR.sub _ hb))
 ·intro i p i' p' hp hp' t t' ht ht' hl hl' hne;by_cases e:j=i
  ·subst e;obtain rfl:o=p:=Fq (ho.symm.trans hp);by_cases e':j=i'
   ·subst e';obtain rfl:o=p':=Fq (ho.symm.trans hp');exact absurd (Fq (ht.symm.trans ht')) hne
   ·obtain⟨hne',hl''⟩:=old i' p' t' hp' ht' e' hl';simp only[if_pos ht,if_neg hne'];exact .inr (h.top i' p' hp' t' ht' hl'')
  ·obtain⟨hne1,hl1⟩:=old i p t hp ht e hl;by_cases e':j=i'
   ·subst e';obtain rfl:o=p':=Fq (ho.symm.trans hp');simp only[if_pos ht',if_neg hne1];exact .inl (h.top i p hp t ht hl1)
   ·obtain⟨hne',hl''⟩:=old i' p' t' hp' ht' e' hl';simp only[if_neg hne1,if_neg hne'];exact h.apart i p i' p' hp hp' t t' ht ht' hl1 hl'' hne
 ·exact CQ

theorem Fin.last {front:List Oper} {φs:List Fact} {listed:Array Bool} {a:Act} {w:World} {lo hi:Tmp->Nat} (hf:Fin R ex P ops Q W a0 back (knAll [] front φs)) (hlen:φs.length=front.length) (hin:∀o∈front,∀t,o.dst=some t->t<a0.tmps.size)
  (h:At R sp ex front φs W a0 listed a w lo hi) (hall:∀i,i<front.length->listed.getD i false=true):eD P ops Q back a w:=by
 have h1:=hf (fun t=>a.tmps.getD t undef) w lo hi h.below (fun p hp hpe=>by
  rcases dz front φs [] hp with ⟨i,o,h1,h2,h3⟩|h1
  ·exact h.known i o p.2 h1 h3 p.1 h2 (hall i (Fm.1 h1).1) (fun e he=>by rw[hpe] at he;cases he)
  ·simp at h1) (fun p hp q hq hne=>by
  rcases dz front φs [] hp with ⟨i,o,h1,h2,h3⟩|h1
  ·rcases dz front φs [] hq with ⟨i',o',g1,g2,g3⟩|g1
   ·exact h.apart i o i' o' h1 g1 p.1 q.1 h2 g2 (hall i (Fm.1 h1).1) (hall i' (Fm.1 g1).1) hne
   ·simp at g1
  ·simp at h1)
 exact C4

theorem bR {front:List Oper} {φs:List Fact} (hR:Rel R sp) (hds:∀o∈front,¬o.dst=none) (hops:ops=(front++back.toList).toArray) (hB:growB a0.tmps.size front back=true) (hlen:φs.length=front.length)
  (hs:∀(i:Nat) (o:Oper) (φ:Fact),front[i]?=some o->φs[i]?=some φ->φ.bB R ex o.dst/\Obl R sp ex P ops Q W a0 (knAll [] (front.take i) (φs.take i)) o φ) (hf:Fin R ex P ops Q W a0 back (knAll [] front φs)):
  ∀(fuel:Nat) (listed:Array Bool) (a:Act) (w:World),listed.size=ops.size->listed.toList.count false<=fuel->(∀o,back=some o->listed.getD front.length false=false)->(∃lo hi,At R sp ex front φs W a0 listed a w lo hi)->wpAny P .any ops Q fuel listed a w:=by
 obtain⟨hn,hin,hdep,hlt,hback⟩:=cm hB;rw[<-hops] at hdep hlt;have hsz:ops.size=front.length+back.toList.length:=by rw[hops];simp
 have hend:∀(listed:Array Bool) (a:Act) (w:World),listed.size=ops.size->(∀i,i<ops.size->listed.getD i false=true)->(∀o,back=some o->listed.getD front.length false=false)->(∃lo hi,At R sp ex front φs W a0 listed a w lo hi)->Q .normal a w:=by
  rintro listed a w hz hall hb ⟨lo,hi,h⟩;have h1:=hf.last hlen hin h (fun i hi=>hall i af);exact sx
 intro fuel;induction fuel with
 | zero=>
  intro listed a w hz hc hb h;have hall:∀i,i<ops.size->listed.getD i false=true:=fun i hi=>dn af i af;refine⟨?_,hend listed a w hz hall hb h⟩
  cases hr:Ge .any ops listed with
  | nil=>rfl
  | cons j js=>
   have hm:j∈Ge .any ops listed:=by rw[hr];simp
   obtain⟨h1,o,ho,-⟩:=mem_ready.1 hm;have hj:=(FG.1 ho).1;rw[<-bK af,hall j hj] at h1
   cases h1
 | succ fuel ih=>
  intro listed a w hz hc hb hlh;refine⟨fun hr=>hend listed a w hz (ec hz hlt hr) hb hlh,fun j hj=>?_⟩;obtain⟨lo,hi,h⟩:=hlh;obtain⟨hun,o,ho,hall⟩:=mem_ready.1 hj;have hjs:j<ops.size:=(FG.1 ho).1;have hcs:=count_set (listed:=listed) (i:=j) af hun
  by_cases hjf:j<front.length
  ·have hof:front[j]?=some o:=by rw[hops] at ho;simpa[FN hjf] using ho
   have hφ:φs[j]?=some (φs[j]'(by omega)):=Fu _;obtain⟨hm,hob⟩:=hs j o _ hof hφ
   have hfacts:∀t∈o.looksAt ops,ai ex o.dst a0 (knAll [] (front.take j) (φs.take j)) a w lo hi t:=by
    intro t ht;unfold ai
    cases hk:(knAll [] (front.take j) (φs.take j)).lookup t with
    | some φ=>
     rcases b8 _ _ _ hk with ⟨i,p,h1,h2,h3⟩|h1
     ·have hij:i<j:=by have:=(Fm.1 h1).1;simp at this;omega
      rw[FR,if_pos hij] at h1 h3;obtain⟨-,e,he,hon,hbi⟩:=hdep j o hof t ht i p h1 h2;have hl:=hall e he hbi;rw[hon] at hl;intro hex;refine h.known i p φ h1 h3 t h2 hl (fun e9 he i' p' hp' hd'=>?_)
      rcases hex with h9|h9
      ·rw[h9] at he;cases he
      ·have:i'=j:=eB front hn hp' hof hd' (h9.symm.trans he);subst this;rw[bK af];exact hun
     ·simp at h1
    | none=>
     refine h.other t (fun i p hp hd=>?_)
     exfalso
     obtain⟨hij,-⟩:=hdep j o hof t ht i p hp hd;have hi:=(Fm.1 hp).1;exact (b_ _ _ _ hk).2 i p (φs[i]'(by omega)) kX k9 hd
   have hfind:∀t∈o.looksAt ops,((knAll [] (front.take j) (φs.take j)).lookup t).isSome=true->∃(i:Nat) (p:Oper),front[i]?=some p/\p.dst=some t/\listed.getD i false=true:=by
    intro t ht hk;obtain⟨φ,hφ'⟩:=Option.isSome_iff_exists.1 hk
    rcases b8 _ _ _ hφ' with ⟨i,p,h1,h2,h3⟩|h1
    ·have hij:i<j:=by have:=(Fm.1 h1).1;simp at this;omega
     rw[FR,if_pos hij] at h1;obtain⟨-,e,he,hon,hbi⟩:=hdep j o hof t ht i p h1 h2;have hl:=hall e he hbi;rw[hon] at hl;exact⟨i,p,h1,h2,hl⟩
    ·simp at h1
   have hap:mL (knAll [] (front.take j) (φs.take j)) lo hi (o.looksAt ops):=by
    intro t ht t' ht' hk hk' hne;obtain⟨i,p,h1,h2,h3⟩:=hfind t ht hk;obtain⟨i',p',g1,g2,g3⟩:=hfind t' ht' hk';exact h.apart i p i' p' h1 g1 t t' h2 g2 h3 g3 hne
   have hpre:o.dst=some sp->Below W.heap.size W w:=fun hd=>h.pre (fun i p hp hd'=>by
    have:i=j:=eB front hn hp hof hd' hd;subst this;rw[bK af]
    exact hun)
   have h1:=hob a w (wpAny P .any ops Q fuel (listed.setIfInBounds j true)) lo hi h.size h.below hpre hfacts hap (fun v w' hbw hv=>by
    refine ih _ _ _ fO af (fun o' ho'=>?_) (h.step hR (hds o (List.mem_of_getElem? hof)) hn hin (fun i o φ h1 h2=>(hs i o φ h1 h2).1) hof hφ af hbw hv);have h2:=hb o' ho'
    have e:¬j=front.length:=af
    simpa[Fx,FL,e] using h2)
   unfold wpOp;rw[ho]
   simp only
   split
   ·rename_i hw;rw[if_pos hw] at h1;exact .inl h1
   ·rename_i hw;rw[if_neg hw] at h1;exact h1
  ·cases hk:back with
   | none=>rw[hk] at hsz;simp at hsz;omega
   | some b=>
    have hjn:j=front.length:=by rw[hk] at hsz;simp at hsz;omega
    subst hjn
    have hob:o=b:=by
     rw[hops,hk] at ho
     simp at ho
     exact ho.symm
    subst hob
    have hfl:∀i,i<front.length->listed.getD i false=true:=fun i hi=>by
     obtain⟨e,he,hon,hbi⟩:=hback o hk i hi;have:=hall e he hbi
     rwa [hon] at this
    have h1:=hf.last hlen hin h hfl;rw[hk] at h1
    have h2:=h1 (wpAny P .any ops Q fuel (listed.setIfInBounds front.length true)) (fun a' w' hq=>by
     have hr:Ge .any ops (listed.setIfInBounds front.length true)=[]:=by
      cases hr:Ge .any ops (listed.setIfInBounds front.length true) with
      | nil=>rfl
      | cons i is=>
       have hm:i∈Ge .any ops (listed.setIfInBounds front.length true):=by rw[hr];simp
       obtain⟨h3,o',ho',-⟩:=mem_ready.1 hm;have hi:=(FG.1 ho').1
       exfalso
       by_cases e:front.length=i
       ·subst e
        simp[Fx,show front.length<listed.size from by omega] at h3
       ·have h4:=hfl i sb;rw[bK af] at h4
        simp[Fx,e] at h3 h4
        rw[h3] at h4
        cases h4
     cases fuel with
     | zero=>exact⟨hr,hq⟩
     | succ fuel=>exact⟨fun _=>hq,fun i hi=>by rw[hr] at hi;cases hi⟩)
    unfold wpOp;rw[ho]
    simp only
    split
    ·rename_i hw;rw[if_pos hw] at h2;exact .inl h2
    ·rename_i hw;rw[if_neg hw] at h2;exact h2
end

theorem bo {R:Rs} {sp:Tmp} {ex:Ex} (hR:Rel R sp) {P:Program} {id:Nat} {Q:Exit->Act->World->Prop} {a0:Act} {W:World} {l:List Oper} {front:List Oper} {back:Option Oper} (hm:P.follows .mixedOrders=true) (hl:l=front++back.toList) (hds:front.all (fun o=>o.dst.isSome)=true) (hB:growB a0.tmps.size front back=true)
  (h:au R sp ex P l.toArray Q W a0 back front []):(Iy id l.toArray true).wp P Q a0 W:=by
 obtain⟨φs,hlen,hs,hf⟩:=au.spec _ _ h;refine wp_region_any hm (bR hR (fun o ho e=>by have:=List.all_eq_true.1 hds o ho;rw[e] at this;cases this) (by rw[hl]) hB hlen hs hf _ _ _ _ aS ?_ (fun o ho=>?_) ⟨fun _=>0,fun _=>0,rfl,rfl,hR.drew _,fun _=>(Fw _ _).drew,fun i o φ h1 h2 t ht hx _=>?_,fun i o h1 t ht hx=>?_,fun i o i' o' h1 h2 t t' ht ht' hx=>?_,fun t _=>rfl⟩)
 ·exact lh
 ·exact a8 _ _
 ·rw[a8] at hx;cases hx
 ·rw[a8] at hx;cases hx
 ·rw[a8] at hx;cases hx
theorem aR {R:Rs} {sp:Tmp} {ex:Ex} (hR:Rel R sp) {P:Program} {id:Nat} {Q:Exit->Act->World->Prop} {a0:Act} {W:World} {l:List Oper} {front:List Oper} {last:Oper} (hm:P.follows .mixedOrders=true) (hf:l.dropLast=front) (hb:l.getLast?=some last) (hds:front.all (fun o=>o.dst.isSome)=true) (hB:growB a0.tmps.size front (some last)=true)
  (h:au R sp ex P l.toArray Q W a0 (some last) front []):(Iy id l.toArray true).wp P Q a0 W:=by
 refine bo hR hm ?_ hds hB h;exact mg

def Bel (w w':World):Prop:=Below w.heap.size w w'
theorem Bel.rel (sp:Tmp):Rel (fun _=>Bel) sp:=⟨fun _=>Fw _ _,fun h k=>Below.trans h (Below.mono k (Ir h)),fun h=>Ir h,fun _=>(Fw _ _).drew,fun _ _ _ h=>h,fun _ _ _ _ _ h=>h⟩
end Gi
end Go.Proofs.YtpejepeekdjfoaaGreatDoor

namespace Go.Proofs.YtpejepeekdjfoaaGreatDoor
open Go.RowKit
namespace Rc
open Mk

structure Sm (c:Cl):Prop where
 n:c.ns.length<=8
 ns:∀(j:Nat) x,c.ns[j]?=some x->x.zs.length<=8001
 k:c.ks.length<=8
 v:c.vs.length<=8
 vs:∀(j:Nat) x,c.vs[j]?=some x->x.zs.length<=8001
 x:c.xs.length<=8
 p:c.ps.length<=8
 ps:∀(j:Nat) x,c.ps[j]?=some x->x.zs.length<=8001
theorem aB.sm {c:Cl} (h:aB c):Sm c:=by
 obtain⟨_,⟨⟨h1,h2,_⟩,⟨h3,_⟩,⟨h4,h5,_⟩,⟨h6,_⟩,⟨h7,h8,_⟩⟩,_⟩:=h;refine⟨by omega,fun j x hj=>?_,by omega,by omega,fun j x hj=>?_,by omega,by omega,fun j x hj=>?_⟩
 ·have:=(h2 j x hj).2.2.2.2.2.1;omega
 ·have:=(iE (h5 j x hj).2.2.2.2.2.2).1;omega
 ·have:=(h8 j x hj).2.2.2.1.1;omega

def dM (r:List Fv):List Value:=r.map fun f=>f.val.getD undef
def fq (r:List Fv):Prop:=∀(i:Nat) f,r[i]?=some f->∃v,f.val=some v
theorem Fv.Is.val {w:World} {f:Fv} {v u:Value} (h:f.Is w v) (hu:f.val=some u):v=u/\f.Fr w 0 (fun _=>False) v:=by
 cases f with
 | s t=>cases hu;exact⟨h.1,h⟩
 | i n=>cases hu;exact⟨h,h⟩
 | b x=>cases hu;exact⟨h,h⟩
 | l zs=>cases hu
theorem Fv.Fr.any {w w':World} {f:Fv} {v u:Value} {h h':Nat} {S S':Nat->Prop} (k:f.Fr w h S v) (hu:f.val=some u):f.Fr w' h' S' v:=by
 cases f with
 | l zs=>cases hu
 | _=>exact k
theorem zJ {r:List Fv} (hf:fq r) {i:Nat} {f:Fv} (hi:r[i]?=some f):∃u,f.val=some u/\(dM r)[i]?=some u:=by
 obtain⟨u,hu⟩:=hf i f hi;exact⟨u,hu,by rw[dM,FC,hi];simp[hu]⟩
theorem tS {r:List Fv} (hf:fq r) {i:Nat} {u:Value} (hi:(dM r)[i]?=some u):∃f,r[i]?=some f/\f.val=some u:=by
 rw[dM,FC] at hi;obtain⟨f,h1,h2⟩:=FJ.1 hi;obtain⟨v,hv⟩:=hf i f h1;rw[hv] at h2;exact⟨f,h1,by rw[hv];simpa using h2⟩
section
variable {w:World} {a:Option Addr} {len cap m:Nat} {rs:List (List Fv)}
theorem g_ (hm:∀(j:Nat) r,rs[j]?=some r->r.length=m):∀(j:Nat) vs,(rs.map dM)[j]?=some vs->vs.length=m:=by
 intro j vs hj;rw[FC] at hj;obtain⟨r,h1,rfl⟩:=FJ.1 hj;rw[dM,FU];exact hm j r h1
theorem lB {b o:Nat} (h:aN w (some ⟨b,o,none⟩) len cap m rs) (hm:∀(j:Nat) r,rs[j]?=some r->r.length=m/\fq r):∀(k:Nat) u,(rs.map dM).flatten[k]?=some u->w.cell? ((⟨b,o,none⟩:Addr).add k)=some u:=by
 intro k u hk;obtain⟨j,i,vs,h1,h2,rfl⟩:=g8 (g_ fun j r hj=>(hm j r hj).1) hk;rw[FC] at h1;obtain⟨r,h3,rfl⟩:=FJ.1 h1;obtain⟨f,h4,h5⟩:=tS (hm j r h3).2 h2;rcases h.2.2.2 with rfl|⟨b',o',e,_,hc⟩
 ·simp at h3
 ·cases e;obtain⟨v,h6,h7⟩:=hc j r h3 i f h4;rw[FT,<-Nat.add_assoc,h6,(h7.val h5).1]
theorem fG (h:aN w a len cap m rs) (hm:∀(j:Nat) r,rs[j]?=some r->r.length=m/\fq r) (w':World) (S:Nat->Prop):aX w' S m rs (rs.map dM) (fun _ _=>0):=by
 refine⟨by simp,g_ fun j r hj=>(hm j r hj).1,fun j r hj=>(hm j r hj).1,fun j r vs hj hv i f hi=>?_,fun j r i zs j' r' i' zs' hj hi=>?_⟩
 ·rw[FC,hj] at hv;cases hv;obtain⟨u,h1,h2⟩:=zJ (hm j r hj).2 hi;rcases h.2.2.2 with rfl|⟨b',o',e,_,hc⟩
  ·simp at hj
  ·obtain⟨v,h6,h7⟩:=hc j r hj i f hi;obtain⟨rfl,h8⟩:=h7.val h1;exact⟨v,h2,h8.any h1⟩
 ·obtain⟨v,hv⟩:=(hm j r hj).2 i _ hi;cases hv
end
theorem rW {o:Oper} {a:Act} {w:World} {K:Act->World->Prop} {Q:Exit->Act->World->Prop} (s x:Operand) (t T:TypeId) (ho:o.op=.call { callee:=.builtin .append,args:=#[s,x],argTypes:=#[t,t] }) (i:TypeInfo) (z:Value) (m bytes:Nat) (ht:Tryz.prog.underlying t=some (.slice T)) (hi:Tryz.prog.info? T=some i) (hz:i.zero=some z)
  (hsize:i.size=m) (hby:i.bytes=bytes) (hzs:z.cells.size=m) (hsz:0<m) (hT:¬T=9) (base:Nat) (v0:Value) (hs:a.eval s=v0) (hown:w.ownsRow base T m v0 0 []) (hbw:base<=w.heap.size) {ad:Addr} {len cap:Nat} {rs:List (List Fv)} (hx:a.eval x=.slice (some ad) len cap) (hr:aN w (some ad) len cap m rs) (hm:∀(j:Nat) r,rs[j]?=some r->r.length=m/\fq r) (hl:len<=8) (hb8:bytes<=1000)
  (h:∀a' c' w',az w' a' len c' m T rs (fun k=>base<=k/\k<w'.heap.size)->w.grownBy w' v0.ownBlock->K (a.put o.dst (.slice a' len c')) w'):o.wp Tryz.prog a w K Q:=by
 have hlen:((rs.map dM).flatten).length=len*m:=by rw[dr (g_ fun j r hj=>(hm j r hj).1),FU,hr.1]
 have hne:rs=[]\/∃b o,ad=(⟨b,o,none⟩:Addr):=by
  rcases hr.2.2.2 with h1|⟨b,o,e,_⟩
  ·exact .inl h1
  ·cases e;exact .inr ⟨b,o,rfl⟩
 have hnews:∀(j:Nat) u,((rs.map dM).flatten)[j]?=some u->w.cell? (ad.add j)=some u:=by
  rcases hne with rfl|⟨b,o,rfl⟩
  ·intro j u hu;simp at hu
  ·exact lB hr hm
 refine wp_append_own w s x t ho base T i z m bytes ht hi hz hsize hby hzs hsz v0 0 [] hs hown ad len cap (rs.map dM).flatten hx hlen hnews (fG hr hm w (fun _=>True)).one cD (by have:(0+len)*bytes<=8*1000:=Nat.mul_le_mul af hb8;omega) hbw ?_;intro v' w' ho' hg' _;rw[FX,IC] at ho';obtain⟨a',c',rfl,hR⟩:=(fG hr hm w' (fun k=>base<=k/\k<w'.heap.size)).own ho' hr.1.symm hT (fun g hg=>ho'.lt g hg);rw[hr.1] at hR ⊢;exact h a' c' w' hR hg'
theorem sF (x:Kd):(kdF x).length=4/\fq (kdF x):=⟨rfl,fun i f h=>by
 rcases i with _|_|_|_|i <;> first|(cases h;exact⟨_,rfl⟩)|(simp[kdF] at h)⟩
theorem rV (x:Xd):(xdF x).length=5/\fq (xdF x):=⟨rfl,fun i f h=>by
 rcases i with _|_|_|_|_|i <;> first|(cases h;exact⟨_,rfl⟩)|(simp[xdF] at h)⟩
theorem gW {α:Type} {F:α->List Fv} {m:Nat} (hF:∀x,(F x).length=m/\fq (F x)) (xs:List α):∀(j:Nat) r,(xs.map F)[j]?=some r->r.length=m/\fq r:=by
 intro j r hj;rw[FC] at hj;obtain⟨x,_,rfl⟩:=FJ.1 hj;exact hF x
def jm (B:Nat) (len m:Nat) (T:TypeId) (rs:List (List Fv)):Gi.Fact:=fun v w l h=> ∃a c,v=.slice a len c/\az w a len c m T rs (fun k=>l<=k/\k<h)/\B<=l
theorem jm.mono (ex:Gi.Ex) (s:Option Tmp) (B len m:Nat) (T:TypeId) (rs:List (List Fv)):Gi.Fact.bB (fun _=>Gi.Bel) ex s (jm B len m T rs):=by
 rintro s' _ _ _ v w w' l h ⟨a,c,h1,h2,h3⟩ hb;exact⟨a,c,h1,h2.below hb,h3⟩
def ClF (B:Nat) (c:Cl):Gi.Fact:=fun v w _ _=> ∃d:Ad,v=.agg #[.slice d.a1 d.l1 d.c1,.slice d.a2 d.l2 d.c2,.slice d.a3 d.l3 d.c3,.slice d.a4 d.l4 d.c4,.slice d.a5 d.l5 d.c5,.int .i64 c.now]/\bQ w d c.raw (fun k=>B<=k)
theorem ClF.mono (ex:Gi.Ex) (s:Option Tmp) (B:Nat) (c:Cl):Gi.Fact.bB (fun _=>Gi.Bel) ex s (ClF B c):=by
 rintro s' _ _ _ v w w' l h ⟨d,h1,h2⟩ hb;exact⟨d,h1,h2.below hb⟩

theorem iI (d:Ad) (c:Cl) (w:World) (hr:aJ w d c.raw) (hs:Sm c):
  Calls Tryz.prog 31 #[.agg #[.slice d.a1 d.l1 d.c1,.slice d.a2 d.l2 d.c2,.slice d.a3 d.l3 d.c3,.slice d.a4 d.l4 d.c4,.slice d.a5 d.l5 d.c5,.int .i64 c.now]] w fun e w'=> ∃d',e=.returned (.agg #[.slice d'.a1 d'.l1 d'.c1,.slice d'.a2 d'.l2 d'.c2,.slice d'.a3 d'.l3 d'.c3,.slice d'.a4 d'.l4 d'.c4,.slice d'.a5 d'.l5 d'.c5,.int .i64 c.now])/\bQ w' d' c.raw (fun k=>w.heap.size<=k)/\Below w.heap.size w w':=by
 have HR:=aa hr;have HS:=aa hs;have hl1:c.ns.length=d.l1:=uU
 have hl2:c.ks.length=d.l2:=by simpa using (show (c.ks.map kdF).length=d.l2 from hr.k.1)
 have hl3:c.vs.length=d.l3:=by simpa using (show (c.vs.map vdF).length=d.l3 from hr.v.1)
 have hl4:c.xs.length=d.l4:=by simpa using (show (c.xs.map xdF).length=d.l4 from hr.x.1)
 have hl5:c.ps.length=d.l5:=by simpa using (show (c.ps.map pdF).length=d.l5 from hr.p.1)
 clear hr hs;obtain⟨i2,hi2⟩:=FJ.1 rv;obtain⟨i4,hi4⟩:=FJ.1 iJ;have HI2:=aa hi2;have HI4:=aa hi4;clear hi2 hi4;obtain⟨W,hW0⟩:∃W,W=(w.alloc (.cells (clv d c.now) 36)).alloc (.cells (c6 none 0 0 none 0 0 none 0 0 none 0 0 none 0 0 0) 36):=⟨_,rfl⟩;have HB:Hid (Below w.heap.size w W):=by rw[hW0];exact aF _ _ _
 have Bk:Hid (W.heap[w.heap.size]?=some (.cells (clv d c.now) 36 (0,0))):=by rw[hW0];exact cU _ _ _
 obtain⟨Br,hWs⟩:=BK;go_enter Tryz.func31,Tryz.ntmps31;go_wp2_with fail;rw[<-hW0];clear hW0;rename_i K0 hK0;refine Gi.aR (ex:=fun _=>none) (Gi.Bel.rel 0) aq rfl rfl aq aq ?_;refine' Gi.au.an _ rfl ?_ ?_;rotate_left 1
 ·exact iA
 refine' Gi.au.an _ rfl ?_ ?_;rotate_left 1
 ·refine Gi.Obl.plain rfl ?_;intro ac wg K lo hi hsz hW hpr hf hap hK;clear hsz hap hpr;have e3:=hf 3 aj;simp[Gi.ai,Fs] at e3;exact iz
 refine Gi.au.step (jm W.heap.size d.l1 7 57 (c.ns.map ndF)) rfl (jm.mono _ _ _ _ _ _ _) ?_ ?_
 ·refine Gi.Obl.plain rfl ?_;intro ac wg K lo hi hsz hW hpr hf hap hK;clear hsz hpr hap;have e4:=hf 4 aj;simp[Gi.ai,Fs] at e4;clear hf;go_simp;refine (mx d.a1 d.l1 d.c1 c.ns _ (HR.n.below (HB.trans (Below.mono hW HB.size))) (by have:=HS.n;omega) HS.ns).mono ?_;exact qE
 refine' Gi.au.an _ rfl ?_ ?_;rotate_left 1
 ·exact iA
 refine' Gi.au.an _ rfl ?_ ?_;rotate_left 1
 ·refine Gi.Obl.plain rfl ?_;intro ac wg K lo hi hsz hW hpr hf hap hK;clear hsz hap hpr;have e6:=hf 6 aj;simp[Gi.ai,Fs] at e6;exact iz
 refine Gi.au.step (jm W.heap.size d.l2 4 102 (c.ks.map kdF)) rfl (jm.mono _ _ _ _ _ _ _) ?_ ?_
 ·refine Gi.Obl.plain rfl ?_;intro ac wg K lo hi hsz hW hpr hf hap hK;clear hsz hpr hap;have e7:=hf 7 aj;simp[Gi.ai,Fs] at e7;clear hf;cases hq:d.a2 with
  | none=>
   have h0:c.ks=[]:=by
    rcases HR.k.2.2.2 with h|⟨b,o,e,_⟩
    ·have h9:c.ks.map kdF=[]:=h
     simpa using h9
    ·rw[hq] at e;cases e
   have hl0:d.l2=0:=by rw[<-hl2,h0];rfl
   rw[hq,hl0] at e7;go_simp;refine hK _ _ (Fw _ _) ⟨none,0,by rw[hl0],?_,Ir hW⟩;rw[hl0,h0];exact az.nil _ _ _ _ _ af
  | some ad=>
   rw[hq] at e7;have hin:=HR.k.below (HB.trans (Below.mono hW HB.size));have hin2:aN wg d.a2 d.l2 d.c2 4 (c.ks.map kdF):=hin;rw[hq] at hin2
   have hz:i2.zero=some (.agg #[.string ⟨#[]⟩,.bool false,.bool false,.string ⟨#[]⟩])/\i2.size=4/\i2.bytes=40:=by have:=HI2.2;simp only[IF] at this;exact this
   refine rW _ (.tmp 7) 31 102 rfl i2 (.agg #[.string ⟨#[]⟩,.bool false,.bool false,.string ⟨#[]⟩]) 4 40 Tryz.underlying31 HI2.1 hz.1 hz.2.1 hz.2.2 rfl aj aj wg.heap.size (.slice none 0 0) rfl (Gj _ _ _ _) (Ft _) (by simpa[Iu] using e7) hin2 (gW sF _) (by have:=HS.k;omega) aj ?_;intro a' c' w' hR hg;exact hK _ _ ((Fw _ _).grown hg (Ft _) (fun k hk=>by cases hk)) ⟨a',c',rfl,hR,Ir hW⟩
 refine' Gi.au.an _ rfl ?_ ?_;rotate_left 1
 ·exact iA
 refine' Gi.au.an _ rfl ?_ ?_;rotate_left 1
 ·refine Gi.Obl.plain rfl ?_;intro ac wg K lo hi hsz hW hpr hf hap hK;clear hsz hap hpr;have e9:=hf 9 aj;simp[Gi.ai,Fs] at e9;exact iz
 refine Gi.au.step (jm W.heap.size d.l3 8 99 (c.vs.map vdF)) rfl (jm.mono _ _ _ _ _ _ _) ?_ ?_
 ·refine Gi.Obl.plain rfl ?_;intro ac wg K lo hi hsz hW hpr hf hap hK;clear hsz hpr hap;have e10:=hf 10 aj;simp[Gi.ai,Fs] at e10;clear hf;go_simp;refine (mv d.a3 d.l3 d.c3 c.vs _ (HR.v.below (HB.trans (Below.mono hW HB.size))) (by have:=HS.v;omega) HS.vs).mono ?_;exact qE
 refine' Gi.au.an _ rfl ?_ ?_;rotate_left 1
 ·exact iA
 refine' Gi.au.an _ rfl ?_ ?_;rotate_left 1
 ·refine Gi.Obl.plain rfl ?_;intro ac wg K lo hi hsz hW hpr hf hap hK;clear hsz hap hpr;have e12:=hf 12 aj;simp[Gi.ai,Fs] at e12;exact iz
 refine Gi.au.step (jm W.heap.size d.l4 5 105 (c.xs.map xdF)) rfl (jm.mono _ _ _ _ _ _ _) ?_ ?_
 ·refine Gi.Obl.plain rfl ?_;intro ac wg K lo hi hsz hW hpr hf hap hK;clear hsz hpr hap;have e13:=hf 13 aj;simp[Gi.ai,Fs] at e13;clear hf;cases hq:d.a4 with
  | none=>
   have h0:c.xs=[]:=by
    rcases HR.x.2.2.2 with h|⟨b,o,e,_⟩
    ·have h9:c.xs.map xdF=[]:=h
     simpa using h9
    ·rw[hq] at e;cases e
   have hl0:d.l4=0:=by rw[<-hl4,h0];rfl
   rw[hq,hl0] at e13;go_simp;refine hK _ _ (Fw _ _) ⟨none,0,by rw[hl0],?_,Ir hW⟩;rw[hl0,h0];exact az.nil _ _ _ _ _ af
  | some ad=>
   rw[hq] at e13;have hin:=HR.x.below (HB.trans (Below.mono hW HB.size));have hin2:aN wg d.a4 d.l4 d.c4 5 (c.xs.map xdF):=hin;rw[hq] at hin2
   have hz:i4.zero=some (.agg #[.string ⟨#[]⟩,.int .i64 0,.string ⟨#[]⟩,.bool false,.string ⟨#[]⟩])/\i4.size=5/\i4.bytes=64:=by have:=HI4.2;simp only[IF] at this;exact this
   refine rW _ (.tmp 13) 33 105 rfl i4 (.agg #[.string ⟨#[]⟩,.int .i64 0,.string ⟨#[]⟩,.bool false,.string ⟨#[]⟩]) 5 64 Tryz.underlying33 HI4.1 hz.1 hz.2.1 hz.2.2 rfl aj aj wg.heap.size (.slice none 0 0) rfl (Gj _ _ _ _) (Ft _) (by simpa[Iu] using e13) hin2 (gW rV _) (by have:=HS.x;omega) aj ?_;intro a' c' w' hR hg;exact hK _ _ ((Fw _ _).grown hg (Ft _) (fun k hk=>by cases hk)) ⟨a',c',rfl,hR,Ir hW⟩
 refine' Gi.au.an _ rfl ?_ ?_;rotate_left 1
 ·exact iA
 refine' Gi.au.an _ rfl ?_ ?_;rotate_left 1
 ·refine Gi.Obl.plain rfl ?_;intro ac wg K lo hi hsz hW hpr hf hap hK;clear hsz hap hpr;have e15:=hf 15 aj;simp[Gi.ai,Fs] at e15;exact iz
 refine Gi.au.step (jm W.heap.size d.l5 6 64 (c.ps.map pdF)) rfl (jm.mono _ _ _ _ _ _ _) ?_ ?_
 ·refine Gi.Obl.plain rfl ?_;intro ac wg K lo hi hsz hW hpr hf hap hK;clear hsz hpr hap;have e16:=hf 16 aj;simp[Gi.ai,Fs] at e16;clear hf;go_simp;refine (mw d.a5 d.l5 d.c5 c.ps _ (HR.p.below (HB.trans (Below.mono hW HB.size))) (by have:=HS.p;omega) HS.ps).mono ?_;exact qE
 refine' Gi.au.an _ rfl ?_ ?_;rotate_left 1
 ·exact iA
 refine' Gi.au.an _ rfl ?_ ?_;rotate_left 1
 ·refine Gi.Obl.plain rfl ?_;intro ac wg K lo hi hsz hW hpr hf hap hK;clear hsz hap hpr;have e18:=hf 18 aj;simp[Gi.ai,Fs] at e18;exact iz
 refine Gi.au.step (ClF W.heap.size c) rfl (ClF.mono _ _ _ _) ?_ ?_
 ·refine Gi.Obl.plain rfl ?_;intro ac wg K lo hi hsz hW hpr hf hap hK;clear hsz hpr;have e5:=hf 5 aj;simp[Gi.ai,Fs] at e5;have e8:=hf 8 aj;simp[Gi.ai,Fs] at e8;have e11:=hf 11 aj;simp[Gi.ai,Fs] at e11;have e14:=hf 14 aj;simp[Gi.ai,Fs] at e14;have e17:=hf 17 aj;simp[Gi.ai,Fs] at e17;have e19:=hf 19 aj;simp[Gi.ai,Fs] at e19;clear hf;obtain⟨a1,c1,e5,ho1,hB1⟩:=e5;obtain⟨a2,c2,e8,ho2,hB2⟩:=e8;obtain⟨a3,c3,e11,ho3,hB3⟩:=e11;obtain⟨a4,c4,e14,ho4,hB4⟩:=e14;obtain⟨a5,c5,e17,ho5,hB5⟩:=e17;have hap2:∀t∈[5,8,11,14,17],∀t'∈[5,8,11,14,17],¬t=t'->hi t<=lo t'\/hi t'<=lo t:=by
   intro t ht t' ht' hne;refine hap t ?_ t' ?_ ?_ ?_ hne
   ·simp only[Gl,GU,or_false] at ht;rcases ht with rfl|rfl|rfl|rfl|rfl <;> decide
   ·simp only[Gl,GU,or_false] at ht';rcases ht' with rfl|rfl|rfl|rfl|rfl <;> decide
   ·simp only[Gl,GU,or_false] at ht;rcases ht with rfl|rfl|rfl|rfl|rfl <;> rfl
   ·simp only[Gl,GU,or_false] at ht';rcases ht' with rfl|rfl|rfl|rfl|rfl <;> rfl
  clear hap;have q01:=hap2 5 aj 8 aj aj;have q02:=hap2 5 aj 11 aj aj;have q03:=hap2 5 aj 14 aj aj;have q04:=hap2 5 aj 17 aj aj;have q12:=hap2 8 aj 11 aj aj;have q13:=hap2 8 aj 14 aj aj;have q14:=hap2 8 aj 17 aj aj;have q23:=hap2 11 aj 14 aj aj;have q24:=hap2 11 aj 17 aj aj;have q34:=hap2 14 aj 17 aj aj;clear hap2;have hC:bQ wg ⟨a1,d.l1,c1,a2,d.l2,c2,a3,d.l3,c3,a4,d.l4,c4,a5,d.l5,c5⟩ c.raw (fun k=>W.heap.size<=k):=by
   refine⟨fun k=>if lo 5<=k/\k<hi 5 then 1 else if lo 8<=k/\k<hi 8 then 2 else if lo 11<=k/\k<hi 11 then 3 else if lo 14<=k/\k<hi 14 then 4 else 5,?_,?_,?_,?_,?_⟩
   ·exact ho1.bA (fun k _ s=>⟨by have s1:lo 5<=k:=s.1;show W.heap.size<=k;omega,by have s1:lo 5<=k:=s.1;have s2:k<hi 5:=s.2;show (if lo 5<=k/\k<hi 5 then 1 else if lo 8<=k/\k<hi 8 then 2 else if lo 11<=k/\k<hi 11 then 3 else if lo 14<=k/\k<hi 14 then 4 else 5)=1;rw[if_pos ⟨s1,s2⟩]⟩)
   ·exact ho2.bA (fun k _ s=>⟨by have s1:lo 8<=k:=s.1;show W.heap.size<=k;omega,by have s1:lo 8<=k:=s.1;have s2:k<hi 8:=s.2;show (if lo 5<=k/\k<hi 5 then 1 else if lo 8<=k/\k<hi 8 then 2 else if lo 11<=k/\k<hi 11 then 3 else if lo 14<=k/\k<hi 14 then 4 else 5)=2;rw[if_neg af];rw[if_pos ⟨s1,s2⟩]⟩)
   ·exact ho3.bA (fun k _ s=>⟨by have s1:lo 11<=k:=s.1;show W.heap.size<=k;omega,by have s1:lo 11<=k:=s.1;have s2:k<hi 11:=s.2;show (if lo 5<=k/\k<hi 5 then 1 else if lo 8<=k/\k<hi 8 then 2 else if lo 11<=k/\k<hi 11 then 3 else if lo 14<=k/\k<hi 14 then 4 else 5)=3;rw[if_neg af];rw[if_neg af];rw[if_pos ⟨s1,s2⟩]⟩)
   ·exact ho4.bA (fun k _ s=>⟨by have s1:lo 14<=k:=s.1;show W.heap.size<=k;omega,by have s1:lo 14<=k:=s.1;have s2:k<hi 14:=s.2;show (if lo 5<=k/\k<hi 5 then 1 else if lo 8<=k/\k<hi 8 then 2 else if lo 11<=k/\k<hi 11 then 3 else if lo 14<=k/\k<hi 14 then 4 else 5)=4;rw[if_neg af];rw[if_neg af];rw[if_neg af];rw[if_pos ⟨s1,s2⟩]⟩)
   ·exact ho5.bA (fun k _ s=>⟨by have s1:lo 17<=k:=s.1;show W.heap.size<=k;omega,by have s1:lo 17<=k:=s.1;have s2:k<hi 17:=s.2;show (if lo 5<=k/\k<hi 5 then 1 else if lo 8<=k/\k<hi 8 then 2 else if lo 11<=k/\k<hi 11 then 3 else if lo 14<=k/\k<hi 14 then 4 else 5)=5;rw[if_neg af];rw[if_neg af];rw[if_neg af];rw[if_neg af]⟩)
  have HC:=aa hC;clear hC ho1 ho2 ho3 ho4 ho5 q01 q02 q03 q04 q12 q13 q14 q23 q24 q34 hB1 hB2 hB3 hB4 hB5;go_simp;exact hK _ _ (Fw _ _) ⟨_,rfl,HC.out⟩
 refine Gi.au.done ?_;intro q wz lo hi hW hf hap;clear hap;simp only[FI] at hf;obtain⟨hf20,-⟩:=hf;obtain⟨d',h20,ho⟩:=hf20 cr;have HO:=aa ho;have HBz:=aa (HB.trans (Below.mono hW HB.size));have gr:=(Below.block hW _ (ae Br.out)).trans Br.out;obtain⟨r0,r1,r2,r3,r4,r5⟩:=cs6 gr;have f0:=av gr 0;have f1:=av gr 1;have f2:=av gr 2;have f3:=av gr 3;have f4:=av gr 4;have f5:=av gr 5;clear gr ho hW;intro K hK;rw[if_pos bF];simp only[Gi.aE,Gd,GO,Fz,FH,FM,h20];simp only[G3];go_simp;refine hK _ _ ?_;refine hK0 _ _ ?_;clear hK hK0 K K0;go_wp2_with fail;refine bodyPost_ret (v:=.agg #[.slice d'.a1 d'.l1 d'.c1,.slice d'.a2 d'.l2 d'.c2,.slice d'.a3 d'.l3 d'.c3,.slice d'.a4 d'.l4 d'.c4,.slice d'.a5 d'.l5 d'.c5,.int .i64 c.now]) (by simp[results,Tryz.results31,go_sem, *]) rfl ⟨d',rfl,?_,sb1 (sb1 (sb1 (sb1 (sb1 (sb1 (HBz.out))))))⟩;obtain⟨P,hP⟩:=HO.out;exact⟨P,hP.aM (fun k _ s=>by have s1:W.heap.size<=k:=s;rw[Fp _ _ _ _ (show k≠w.heap.size+1 by omega),Fp _ _ _ _ (show k≠w.heap.size+1 by omega),Fp _ _ _ _ (show k≠w.heap.size+1 by omega),Fp _ _ _ _ (show k≠w.heap.size+1 by omega),Fp _ _ _ _ (show k≠w.heap.size+1 by omega),Fp _ _ _ _ (show k≠w.heap.size+1 by omega)]) (fun k _ s=>by have s1:W.heap.size<=k:=s;show w.heap.size<=k;omega)⟩

structure Co where
 c:Cl
 n:ByteArray
 p:Int
def cl0:Cl:=⟨[],[],[],[],[],0⟩
def co0 (p:Int):Co:=⟨cl0,⟨#[]⟩,p⟩
def ad0:Ad:=⟨none,0,0,none,0,0,none,0,0,none,0,0,none,0,0⟩
theorem Dy (w:World) (S:Nat->Prop):bQ w ad0 cl0.raw S:=⟨fun _=>1,az.nil _ _ _ _ _ (by decide),az.nil _ _ _ _ _ (by decide),az.nil _ _ _ _ _ (by decide),az.nil _ _ _ _ _ (by decide),az.nil _ _ _ _ _ (by decide)⟩
def EE (Is:Co->Prop) (w:World) (e:Ending) (w':World):Prop:=∃g o,e=.returned (.agg #[.slice g.a1 g.l1 g.c1,.slice g.a2 g.l2 g.c2,.slice g.a3 g.l3 g.c3,.slice g.a4 g.l4 g.c4,.slice g.a5 g.l5 g.c5,.int .i64 o.c.now,.string o.n,.int .i64 o.p])/\Is o/\bQ w' g o.c.raw (fun k=>w.heap.size<=k)/\Below w.heap.size w w'
def Fg (Is:Co->Prop) (w:World) (e:Ending) (w':World):Prop:=∃g o,e=.returned (.agg #[.slice g.a1 g.l1 g.c1,.slice g.a2 g.l2 g.c2,.slice g.a3 g.l3 g.c3,.slice g.a4 g.l4 g.c4,.slice g.a5 g.l5 g.c5,.int .i64 o.c.now,.string o.n,.int .i64 o.p])/\Is o/\aJ w' g o.c.raw/\Below w.heap.size w w'

theorem gm (g g':Ad) (o:Co) (w:World) (hr:aJ w g o.c.raw) (hr':aJ w g' o.c.raw):
  Calls Tryz.prog 9 #[.agg #[.slice g.a1 g.l1 g.c1,.slice g.a2 g.l2 g.c2,.slice g.a3 g.l3 g.c3,.slice g.a4 g.l4 g.c4,.slice g.a5 g.l5 g.c5,.int .i64 o.c.now,.string o.n,.int .i64 o.p],.agg #[.slice g'.a1 g'.l1 g'.c1,.slice g'.a2 g'.l2 g'.c2,.slice g'.a3 g'.l3 g'.c3,.slice g'.a4 g'.l4 g'.c4,.slice g'.a5 g'.l5 g'.c5,.int .i64 o.c.now,.string o.n,.int .i64 o.p]] w fun e w'=>e=.returned (.bool true)/\Below w.heap.size w w':=by
 have HR:=aa hr;have HR':=aa hr';have HB:=aa (Fw w.heap.size w);clear hr hr';go_enter Tryz.func9,Tryz.ntmps9;go_wp2_with fail;refine (fX g g' o.c _ (HR.below (HB.trans ((aF _ _ _).mono HB.size))) (HR'.below (HB.trans ((aF _ _ _).mono HB.size)))).mono ?_;rintro e w1 ⟨rfl,hb⟩;obtain⟨HA0,HA1,hbx⟩:=cH hb;have Ba:=aa HA0;have Bb:=aa HA1;replace HB:=upB HB hbx;clear hb hbx HA0 HA1;obtain⟨a0,a1,a2,a3,a4,a5,a6,a7⟩:=cs8 Ba;obtain⟨b0,b1,b2,b3,b4,b5,b6,b7⟩:=cs8 Bb;go_wp2;go_ret;exact⟨rfl,HB.out⟩

theorem mo (g:Ad) (o:Co) (N:Int) (S:Nat->Prop) (w:World) (ho:bQ w g o.c.raw S) (hS:∀k,S k->k<w.heap.size) (hN:0<N) (hb:dN N o.c.raw<=1152921504606846976):
  Calls Tryz.prog 12 #[.agg #[.slice g.a1 g.l1 g.c1,.slice g.a2 g.l2 g.c2,.slice g.a3 g.l3 g.c3,.slice g.a4 g.l4 g.c4,.slice g.a5 g.l5 g.c5,.int .i64 o.c.now,.string o.n,.int .i64 o.p],.int .i64 N] w fun e w'=>e=.returned (.int .i64 (dN N o.c.raw))/\bQ w' g (mkC N o.c.raw) S/\aC S w w':=by
 have HO:=aa (ho.below (al w (.cells #[.slice g.a1 g.l1 g.c1,.slice g.a2 g.l2 g.c2,.slice g.a3 g.l3 g.c3,.slice g.a4 g.l4 g.c4,.slice g.a5 g.l5 g.c5,.int .i64 o.c.now,.string o.n,.int .i64 o.p] 38)));have HS:=aa hS;clear ho hS;go_enter Tryz.func12,Tryz.ntmps12;go_wp2_with fail;refine (eV g o.c N S _ HO.out (fun k s=>by have:=HS.out k s;simp;omega) hN hb).mono ?_;rintro e w1 ⟨rfl,ho,hk⟩;have HO1:=aa ho;have HK:=aa ((aC.bZ (S:=S) (al w (.cells #[.slice g.a1 g.l1 g.c1,.slice g.a2 g.l2 g.c2,.slice g.a3 g.l3 g.c3,.slice g.a4 g.l4 g.c4,.slice g.a5 g.l5 g.c5,.int .i64 o.c.now,.string o.n,.int .i64 o.p] 38))).trans hk);clear ho hk;go_wp2;go_ret;exact⟨rfl,HO1.out,HK.out⟩

theorem mA (g:Ad) (o:Co) (N:Int) (w:World) (hr:aJ w g (mkC N o.c.raw)) (hN:0<N) (hb:dN N o.c.raw<=1152921504606846976):
  Calls Tryz.prog 13 #[.agg #[.slice g.a1 g.l1 g.c1,.slice g.a2 g.l2 g.c2,.slice g.a3 g.l3 g.c3,.slice g.a4 g.l4 g.c4,.slice g.a5 g.l5 g.c5,.int .i64 o.c.now,.string o.n,.int .i64 o.p],.int .i64 N] w fun e w'=>e=.returned (.int .i64 (dN N o.c.raw))/\Below w.heap.size w w':=by
 have HR:=aa (hr.below (al w (.cells #[.slice g.a1 g.l1 g.c1,.slice g.a2 g.l2 g.c2,.slice g.a3 g.l3 g.c3,.slice g.a4 g.l4 g.c4,.slice g.a5 g.l5 g.c5,.int .i64 o.c.now,.string o.n,.int .i64 o.p] 38)));clear hr;obtain⟨M,hM⟩:∃M,M=dN N o.c.raw:=⟨_,rfl⟩;have hM0:¬M<0:=by rw[hM];have:=mn N o.c.raw;omega
 have HM:=aa hM;clear hM;go_enter Tryz.func13,Tryz.ntmps13;go_wp2_with fail;refine (jj g o.c o.c.now N _ HR.out hN hb).mono ?_;rintro e w1 ⟨rfl,hb1⟩;rw[<-HM.out];have HB:=aa (aL hb1).2;clear hb1;go_wp2;go_ret;exact⟨by rw[<-HM.out];rfl,HB.out⟩

def wo {α:Type} (nm:α->ByteArray) (t:ByteArray) (xs:List α):List α:=xs.filter fun x=> !((nm x).toList==t.toList)
theorem uh {α:Type} {nm:α->ByteArray} {t:ByteArray} {xs:List α} {k:Nat} {x:α} (h:xs[k]?=some x) (hn:((nm x).toList==t.toList)=false):wo nm t (xs.take (k+1))=wo nm t (xs.take k)++[x]:=by
 unfold wo;rw[F6,h,Hr];simp[hn]
theorem D7 {α:Type} {nm:α->ByteArray} {t:ByteArray} {xs:List α} {k:Nat} {x:α} (h:xs[k]?=some x) (hn:((nm x).toList==t.toList)=true):wo nm t (xs.take (k+1))=wo nm t (xs.take k):=by
 unfold wo;rw[F6,h,Hr];simp[hn]
theorem kP {α:Type} (nm:α->ByteArray) (t:ByteArray) (xs:List α):(wo nm t xs).length<=xs.length:=List.length_filter_le _ _
structure Sel {α β:Type} (xs ys:List α) (vss ws:List β) (k:Nat) (f:Nat->Nat):Prop where
 len:ws.length=ys.length
 y:∀j,j<ys.length->ys[j]?=xs[f j]?
 v:∀j,j<ys.length->ws[j]?=vss[f j]?
 lt:∀j,j<ys.length->f j<k
 inj:∀i j,i<ys.length->j<ys.length->f i=f j->i=j
theorem Sel.nil {α β:Type} (xs:List α) (vss:List β) (k:Nat) (f:Nat->Nat):Sel xs [] vss [] k f:=⟨rfl,fun j h=>by simp at h,fun j h=>by simp at h,fun j h=>by simp at h,fun i j h=>by simp at h⟩
theorem Sel.up {α β:Type} {xs ys:List α} {vss ws:List β} {k:Nat} {f:Nat->Nat} (h:Sel xs ys vss ws k f):Sel xs ys vss ws (k+1) f:=⟨h.len,h.y,h.v,fun j hj=>Nat.lt_succ_of_lt (h.lt j hj),h.inj⟩
theorem Sel.push {α β:Type} {xs ys:List α} {vss ws:List β} {k:Nat} {f:Nat->Nat} (h:Sel xs ys vss ws k f) {x:α} {u:β} (hx:xs[k]?=some x) (hu:vss[k]?=some u):Sel xs (ys++[x]) vss (ws++[u]) (k+1) (fun j=>if j=ys.length then k else f j):=by
 have hl:=h.len;refine⟨by simp[hl],fun j hj=>?_,fun j hj=>?_,fun j hj=>?_,fun i j hi hj e=>?_⟩
 ·by_cases e:j=ys.length
  ·subst e;simp[hx]
  ·have hj':j<ys.length:=by simp at hj;omega
   rw[FN hj',if_neg e];exact h.y j hj'
 ·by_cases e:j=ys.length
  ·subst e;rw[if_pos rfl,hu,Gh af,hl,Nat.sub_self];rfl
  ·have hj':j<ys.length:=by simp at hj;omega
   rw[FN af,if_neg e];exact h.v j hj'
 ·by_cases e:j=ys.length
  ·simp only[if_pos e];omega
  ·have hj':j<ys.length:=by simp at hj;omega
   simp only[if_neg e];have:=h.lt j hj';omega
 ·by_cases e1:i=ys.length <;> by_cases e2:j=ys.length
  ·omega
  ·have hj':j<ys.length:=by simp at hj;omega
   simp only[if_pos e1,if_neg e2] at e;have:=h.lt j hj';omega
  ·have hi':i<ys.length:=by simp at hi;omega
   simp only[if_pos e2,if_neg e1] at e;have:=h.lt i hi';omega
  ·simp only[if_neg e1,if_neg e2] at e;exact h.inj i j (by simp at hi;omega) (by simp at hj;omega) e
theorem Sel.lU {w:World} {S:Nat->Prop} {m k:Nat} {α:Type} {F:α->List Fv} {xs ys:List α} {vss ws:List (List Value)} {H:Nat->Nat->Nat} {f:Nat->Nat} (h:Sel xs ys vss ws k f) (hv:aX w S m (xs.map F) vss H):aX w S m (ys.map F) ws (fun j=>H (f j)):=
 hv.Fi f (by rw[h.len,FU]) (fun j hj=>by rw[FU] at hj;rw[FC,FC,h.y j hj]) (fun j hj=>by rw[FU] at hj;exact h.v j hj) (fun i j hi hj e=>h.inj i j (by simpa using hi) (by simpa using hj) e)
theorem um {vs:List Value} {a0 a1 a2 a3 a4:Value} (hl:vs.length=5) (h0:vs[0]?=some a0) (h1:vs[1]?=some a1) (h2:vs[2]?=some a2) (h3:vs[3]?=some a3) (h4:vs[4]?=some a4):vs=[a0,a1,a2,a3,a4]:=by
 apply IH;intro i;rcases i with _|_|_|_|_|i
 ·exact h0
 ·exact h1
 ·exact h2
 ·exact h3
 ·exact h4
 ·exact qm
theorem uk {vs:List Value} {a0 a1 a2 a3 a4 a5:Value} (hl:vs.length=6) (h0:vs[0]?=some a0) (h1:vs[1]?=some a1) (h2:vs[2]?=some a2) (h3:vs[3]?=some a3) (h4:vs[4]?=some a4) (h5:vs[5]?=some a5):vs=[a0,a1,a2,a3,a4,a5]:=by
 apply IH;intro i;rcases i with _|_|_|_|_|_|i
 ·exact h0
 ·exact h1
 ·exact h2
 ·exact h3
 ·exact h4
 ·exact h5
 ·exact qm
theorem uj {vs:List Value} {a0 a1 a2 a3 a4 a5 a6 a7:Value} (hl:vs.length=8) (h0:vs[0]?=some a0) (h1:vs[1]?=some a1) (h2:vs[2]?=some a2) (h3:vs[3]?=some a3) (h4:vs[4]?=some a4) (h5:vs[5]?=some a5) (h6:vs[6]?=some a6) (h7:vs[7]?=some a7):vs=[a0,a1,a2,a3,a4,a5,a6,a7]:=by
 apply IH;intro i;rcases i with _|_|_|_|_|_|_|_|i
 ·exact h0
 ·exact h1
 ·exact h2
 ·exact h3
 ·exact h4
 ·exact h5
 ·exact h6
 ·exact h7
 ·exact qm
theorem bP {w:World} {S:Nat->Prop} {m g:Nat} {rs:List (List Fv)} {vss:List (List Value)} {H:Nat->Nat->Nat} (hV:aX w S m rs vss H) (hc:∀(k:Nat) u,vss.flatten[k]?=some u->w.cell? ⟨g,k,none⟩=some u) {k:Nat} {vs:List Value} (hk:vss[k]?=some vs) {i:Nat} {u:Value} (hi:i<m) (hu:w.cell? ⟨g,k*m+i,none⟩=some u):vs[i]?=some u:=by
 have hl:=hV.all k vs hk;have h1:vs[i]?=some (vs[i]'(by omega)):=Fu _;have h2:=hc _ _ (fH hV.all hk h1);rw[hu] at h2;rw[h1];exact h2.symm

theorem tF (a:Option Addr) (len cap:Nat) (xs:List Pd) (t:ByteArray) (Q:Nat->Prop) (w:World) (ho:az w a len cap 6 64 (xs.map pdF) Q) (hl:len<=8):
  Calls Tryz.prog 129 #[.slice a len cap,.string t] w fun e w'=> ∃a' l' c',e=.returned (.slice a' l' c')/\az w' a' l' c' 6 64 ((wo Pd.n t xs).map pdF) (fun k=>Q k\/w.heap.size<=k)/\Below w.heap.size w w':=by
 have HR:=aa ho.row;have hxl:xs.length=len:=jI
 obtain⟨vss,H,hV,hcell⟩:=ho.lU;have HV:=aa hV;have HC:=aa hcell;have hvl:vss.length=xs.length:=by rw[hV.len,FU]
 clear ho hV hcell;obtain⟨i0,hi,hz0,hz1,hz2⟩:=info_parts iK;have HI0:=aa (Fo hi (Fo hz0 (Fo hz1 hz2)));clear hi hz0 hz1 hz2;have hmcalled:∀(v:Value) (w:World),(method 416 64 v "loop.example/g00571/impl.called").run Tryz.prog w=.ok (246,v) w:=fun _ _=>by kernel_rfl
 go_enter Tryz.func129,Tryz.ntmps129;go_wp2;go_loopw [5,10] (fun vo vi wr=> ∃(k:Nat) (ws:List (List Value)) (f:Nat->Nat),k<=len/\vi=.int .i64 k/\Hid (wr.ownsRow w.heap.size 64 6 vo (wo Pd.n t (xs.take k)).length ws.flatten)/\Hid (Sel xs (wo Pd.n t (xs.take k)) vss ws k f)/\Hid (Below w.heap.size w wr)) (fun _ vi _=>len - (intOf vi).toNat);case atStart=>exact⟨0,[],fun _=>0,by omega,rfl,Gj _ _ _ _,Sel.nil _ _ _ _,Fw _ _⟩
 case round=>
  obtain⟨k,ws,f,hk,rfl,HO,HF,HB⟩:=hrel;have hBs:=HB.size;by_cases hlt:k<len
  ·obtain⟨b,o,x,rfl,hb,hx,hat⟩:=bY HR.out hlt;obtain⟨va,vl,vc,hvr,z0,z2,z4,c0,c1,c2,c3,c4,c5⟩:=aT hat;have hvk:vss[k]?=some [.string x.n,.int .i64 x.c,.string x.z,.slice va vl vc,.string x.d,.int .i64 x.p]:=by
    have hkv:k<vss.length:=af
    have h1:=Fu hkv;have hoz:o=0:=by
     exact vC
    subst hoz;have hc2:∀(j:Nat) u,vss.flatten[j]?=some u->w.cell? ⟨b,j,none⟩=some u:=fun j u hj=>by
     obtain⟨g,e,_,h3⟩:=HC.out j u hj;cases e;exact h3
    rw[h1];refine congrArg some (uk (HV.all k _ h1) (bP HV.out hc2 h1 aj (by simpa using c0)) (bP HV.out hc2 h1 aj (by simpa using c1)) (bP HV.out hc2 h1 aj (by simpa using c2)) (bP HV.out hc2 h1 aj (by simpa using c3)) (bP HV.out hc2 h1 aj (by simpa using c4)) (bP HV.out hc2 h1 aj (by simpa using c5)))
   have HX:=aa hx;have HVK:=aa hvk;replace c0:=(ak HB.out hb).trans c0;replace c1:=(ak HB.out hb).trans c1;replace c2:=(ak HB.out hb).trans c2;replace c3:=(ak HB.out hb).trans c3;replace c4:=(ak HB.out hb).trans c4;replace c5:=(ak HB.out hb).trans c5;clear hat hx hvk hvr z0 z2 z4;have hn8:=kP Pd.n t (xs.take k);have hn9:(wo Pd.n t (xs.take k)).length<=k:=by rw[FQ] at hn8;omega
   go_wp2_with fail;refine (dU x va vl vc _).mono ?_;rintro e w1 ⟨rfl,hb1⟩;obtain⟨hn1,hbx⟩:=aL hb1;obtain⟨n0,n1,n2,n3,n4,n5⟩:=cs6 hn1;have hs1:=ae hn1;have HO1:=aa (bM HO.out hbx);have HB1:=aa (HB.trans (hbx.mono hBs));clear hb1 hbx hn1 c0 c1 c2 c3 c4 c5;cases hq:(x.n.toList==t.toList)
   ·have hq2:(x.n.toList !=t.toList)=true:=by simp[bne,hq]
    go_wp2_with (first|(at_builtin;refine wpList_append_own _ rfl _ _ 138 rfl w.heap.size 64 i0 (.agg #[.string ⟨#[]⟩,.int .i64 0,.string ⟨#[]⟩,.slice none 0 0,.string ⟨#[]⟩,.int .i64 0]) 6 88 Tryz.underlying138 HI0.1 HI0.2.1 HI0.2.2.1 HI0.2.2.2 rfl aj _ _ _ rfl (HO1.alloc _) ⟨w1.heap.size,0,none⟩ 1 1 [.string x.n,.int .i64 x.c,.string x.z,.slice va vl vc,.string x.d,.int .i64 x.p] rfl rfl ?c1 ?c2 ?c3 ?c4 ?c5 ?_));case c1=>exact de _ _ _
    case c2=>intro u hu;simp only[Gl,GU,or_false] at hu;rcases hu with rfl|rfl|rfl|rfl|rfl|rfl <;> rfl
    case c3=>unfold maxLen;omega
    case c4=>omega
    case c5=>simp;omega
    rintro v' w3 hown3 hgrow -;have HO3:Hid (w3.ownsRow w.heap.size 64 6 v' (wo Pd.n t (xs.take (k+1))).length (ws++([[.string x.n,.int .i64 x.c,.string x.z,.slice va vl vc,.string x.d,.int .i64 x.p]]:List (List Value))).flatten):=by
     exact p8
    exact vP
   ·exact vK
  ·exact wS

theorem tD (a:Option Addr) (len cap:Nat) (xs:List Xd) (t:ByteArray) (Q:Nat->Prop) (w:World) (ho:az w a len cap 5 105 (xs.map xdF) Q) (hl:len<=8):
  Calls Tryz.prog 188 #[.slice a len cap,.string t] w fun e w'=> ∃a' l' c',e=.returned (.slice a' l' c')/\az w' a' l' c' 5 105 ((wo Xd.n t xs).map xdF) (fun k=>Q k\/w.heap.size<=k)/\Below w.heap.size w w':=by
 have HR:=aa ho.row;have hxl:xs.length=len:=jI
 obtain⟨vss,H,hV,hcell⟩:=ho.lU;have HV:=aa hV;have HC:=aa hcell;have hvl:vss.length=xs.length:=by rw[hV.len,FU]
 clear ho hV hcell;obtain⟨i0,hi,hz0,hz1,hz2⟩:=info_parts iJ;have HI0:=aa (Fo hi (Fo hz0 (Fo hz1 hz2)));clear hi hz0 hz1 hz2;have hmcalled:∀(v:Value) (w:World),(method 416 105 v "loop.example/g00571/impl.called").run Tryz.prog w=.ok (254,v) w:=fun _ _=>by kernel_rfl
 go_enter Tryz.func188,Tryz.ntmps188;go_wp2;go_loopw [5,10] (fun vo vi wr=> ∃(k:Nat) (ws:List (List Value)) (f:Nat->Nat),k<=len/\vi=.int .i64 k/\Hid (wr.ownsRow w.heap.size 105 5 vo (wo Xd.n t (xs.take k)).length ws.flatten)/\Hid (Sel xs (wo Xd.n t (xs.take k)) vss ws k f)/\Hid (Below w.heap.size w wr)) (fun _ vi _=>len - (intOf vi).toNat);case atStart=>exact⟨0,[],fun _=>0,by omega,rfl,Gj _ _ _ _,Sel.nil _ _ _ _,Fw _ _⟩
 case round=>
  obtain⟨k,ws,f,hk,rfl,HO,HF,HB⟩:=hrel;have hBs:=HB.size;by_cases hlt:k<len
  ·obtain⟨b,o,x,rfl,hb,hx,hat⟩:=dF HR.out hlt;obtain⟨z0,z2,z4,c0,c1,c2,c3,c4⟩:=bw hat;have hvk:vss[k]?=some [.string x.n,.int .i64 x.z,.string x.k,.bool x.x,.string x.v]:=by
    have hkv:k<vss.length:=af
    have h1:=Fu hkv;have hoz:o=0:=by
     exact vC
    subst hoz;have hc2:∀(j:Nat) u,vss.flatten[j]?=some u->w.cell? ⟨b,j,none⟩=some u:=fun j u hj=>by
     obtain⟨g,e,_,h3⟩:=HC.out j u hj;cases e;exact h3
    rw[h1];refine congrArg some (um (HV.all k _ h1) (bP HV.out hc2 h1 aj (by simpa using c0)) (bP HV.out hc2 h1 aj (by simpa using c1)) (bP HV.out hc2 h1 aj (by simpa using c2)) (bP HV.out hc2 h1 aj (by simpa using c3)) (bP HV.out hc2 h1 aj (by simpa using c4)))
   have HX:=aa hx;have HVK:=aa hvk;replace c0:=(ak HB.out hb).trans c0;replace c1:=(ak HB.out hb).trans c1;replace c2:=(ak HB.out hb).trans c2;replace c3:=(ak HB.out hb).trans c3;replace c4:=(ak HB.out hb).trans c4;clear hat hx hvk z0 z2 z4;have hn8:=kP Xd.n t (xs.take k);have hn9:(wo Xd.n t (xs.take k)).length<=k:=by rw[FQ] at hn8;omega
   go_wp2_with fail;refine (dR x _).mono ?_;rintro e w1 ⟨rfl,hb1⟩;obtain⟨hn1,hbx⟩:=aL hb1;obtain⟨n0,n1,n2,n3,n4⟩:=cs5 hn1;have hs1:=ae hn1;have HO1:=aa (bM HO.out hbx);have HB1:=aa (HB.trans (hbx.mono hBs));clear hb1 hbx hn1 c0 c1 c2 c3 c4;cases hq:(x.n.toList==t.toList)
   ·have hq2:(x.n.toList !=t.toList)=true:=by simp[bne,hq]
    go_wp2_with (first|(at_builtin;refine wpList_append_own _ rfl _ _ 202 rfl w.heap.size 105 i0 (.agg #[.string ⟨#[]⟩,.int .i64 0,.string ⟨#[]⟩,.bool false,.string ⟨#[]⟩]) 5 64 Tryz.underlying202 HI0.1 HI0.2.1 HI0.2.2.1 HI0.2.2.2 rfl aj _ _ _ rfl (HO1.alloc _) ⟨w1.heap.size,0,none⟩ 1 1 [.string x.n,.int .i64 x.z,.string x.k,.bool x.x,.string x.v] rfl rfl ?c1 ?c2 ?c3 ?c4 ?c5 ?_));case c1=>exact de _ _ _
    case c2=>intro u hu;simp only[Gl,GU,or_false] at hu;rcases hu with rfl|rfl|rfl|rfl|rfl <;> rfl
    case c3=>unfold maxLen;omega
    case c4=>omega
    case c5=>simp;omega
    rintro v' w3 hown3 hgrow -;have HO3:Hid (w3.ownsRow w.heap.size 105 5 v' (wo Xd.n t (xs.take (k+1))).length (ws++([[.string x.n,.int .i64 x.z,.string x.k,.bool x.x,.string x.v]]:List (List Value))).flatten):=by
     exact p8
    exact vP
   ·exact vK
  ·exact wS

theorem tE (a:Option Addr) (len cap:Nat) (xs:List Vd) (t:ByteArray) (Q:Nat->Prop) (w:World) (ho:az w a len cap 8 99 (xs.map vdF) Q) (hl:len<=8):
  Calls Tryz.prog 190 #[.slice a len cap,.string t] w fun e w'=> ∃a' l' c',e=.returned (.slice a' l' c')/\az w' a' l' c' 8 99 ((wo Vd.n t xs).map vdF) (fun k=>Q k\/w.heap.size<=k)/\Below w.heap.size w w':=by
 have HR:=aa ho.row;have hxl:xs.length=len:=jI
 obtain⟨vss,H,hV,hcell⟩:=ho.lU;have HV:=aa hV;have HC:=aa hcell;have hvl:vss.length=xs.length:=by rw[hV.len,FU]
 clear ho hV hcell;obtain⟨i0,hi,hz0,hz1,hz2⟩:=info_parts gi;have HI0:=aa (Fo hi (Fo hz0 (Fo hz1 hz2)));clear hi hz0 hz1 hz2;have hmcalled:∀(v:Value) (w:World),(method 416 99 v "loop.example/g00571/impl.called").run Tryz.prog w=.ok (250,v) w:=fun _ _=>by kernel_rfl
 go_enter Tryz.func190,Tryz.ntmps190;go_wp2;go_loopw [5,10] (fun vo vi wr=> ∃(k:Nat) (ws:List (List Value)) (f:Nat->Nat),k<=len/\vi=.int .i64 k/\Hid (wr.ownsRow w.heap.size 99 8 vo (wo Vd.n t (xs.take k)).length ws.flatten)/\Hid (Sel xs (wo Vd.n t (xs.take k)) vss ws k f)/\Hid (Below w.heap.size w wr)) (fun _ vi _=>len - (intOf vi).toNat);case atStart=>exact⟨0,[],fun _=>0,by omega,rfl,Gj _ _ _ _,Sel.nil _ _ _ _,Fw _ _⟩
 case round=>
  obtain⟨k,ws,f,hk,rfl,HO,HF,HB⟩:=hrel;have hBs:=HB.size;by_cases hlt:k<len
  ·obtain⟨b,o,x,rfl,hb,hx,hat⟩:=bN HR.out hlt;obtain⟨va,vl,vc,hvr,z0,z2,z3,z5,c0,c1,c2,c3,c4,c5,c6,c7⟩:=aK hat;have hvk:vss[k]?=some [.string x.n,.int .i64 x.c,.string x.z,.string x.k,.bool x.x,.string x.m,.bool x.y,.slice va vl vc]:=by
    have hkv:k<vss.length:=af
    have h1:=Fu hkv;have hoz:o=0:=by
     exact vC
    subst hoz;have hc2:∀(j:Nat) u,vss.flatten[j]?=some u->w.cell? ⟨b,j,none⟩=some u:=fun j u hj=>by
     obtain⟨g,e,_,h3⟩:=HC.out j u hj;cases e;exact h3
    rw[h1];refine congrArg some (uj (HV.all k _ h1) (bP HV.out hc2 h1 aj (by simpa using c0)) (bP HV.out hc2 h1 aj (by simpa using c1)) (bP HV.out hc2 h1 aj (by simpa using c2)) (bP HV.out hc2 h1 aj (by simpa using c3)) (bP HV.out hc2 h1 aj (by simpa using c4)) (bP HV.out hc2 h1 aj (by simpa using c5)) (bP HV.out hc2 h1 aj (by simpa using c6)) (bP HV.out hc2 h1 aj (by simpa using c7)))
   have HX:=aa hx;have HVK:=aa hvk;replace c0:=(ak HB.out hb).trans c0;replace c1:=(ak HB.out hb).trans c1;replace c2:=(ak HB.out hb).trans c2;replace c3:=(ak HB.out hb).trans c3;replace c4:=(ak HB.out hb).trans c4;replace c5:=(ak HB.out hb).trans c5;replace c6:=(ak HB.out hb).trans c6;replace c7:=(ak HB.out hb).trans c7;clear hat hx hvk hvr z0 z2 z3 z5;have hn8:=kP Vd.n t (xs.take k);have hn9:(wo Vd.n t (xs.take k)).length<=k:=by rw[FQ] at hn8;omega
   go_wp2_with fail;refine (dS x va vl vc _).mono ?_;rintro e w1 ⟨rfl,hb1⟩;obtain⟨hn1,hbx⟩:=aL hb1;obtain⟨n0,n1,n2,n3,n4,n5,n6,n7⟩:=cs8 hn1;have hs1:=ae hn1;have HO1:=aa (bM HO.out hbx);have HB1:=aa (HB.trans (hbx.mono hBs));clear hb1 hbx hn1 c0 c1 c2 c3 c4 c5 c6 c7;cases hq:(x.n.toList==t.toList)
   ·have hq2:(x.n.toList !=t.toList)=true:=by simp[bne,hq]
    go_wp2_with (first|(at_builtin;refine wpList_append_own _ rfl _ _ 201 rfl w.heap.size 99 i0 (.agg #[.string ⟨#[]⟩,.int .i64 0,.string ⟨#[]⟩,.string ⟨#[]⟩,.bool false,.string ⟨#[]⟩,.bool false,.slice none 0 0]) 8 112 Tryz.underlying201 HI0.1 HI0.2.1 HI0.2.2.1 HI0.2.2.2 rfl aj _ _ _ rfl (HO1.alloc _) ⟨w1.heap.size,0,none⟩ 1 1 [.string x.n,.int .i64 x.c,.string x.z,.string x.k,.bool x.x,.string x.m,.bool x.y,.slice va vl vc] rfl rfl ?c1 ?c2 ?c3 ?c4 ?c5 ?_));case c1=>exact de _ _ _
    case c2=>intro u hu;simp only[Gl,GU,or_false] at hu;rcases hu with rfl|rfl|rfl|rfl|rfl|rfl|rfl|rfl <;> rfl
    case c3=>unfold maxLen;omega
    case c4=>omega
    case c5=>simp;omega
    rintro v' w3 hown3 hgrow -;have HO3:Hid (w3.ownsRow w.heap.size 99 8 v' (wo Vd.n t (xs.take (k+1))).length (ws++([[.string x.n,.int .i64 x.c,.string x.z,.string x.k,.bool x.x,.string x.m,.bool x.y,.slice va vl vc]]:List (List Value))).flatten):=by
     exact p8
    exact vP
   ·exact vK
  ·exact wS

theorem ft.E3 {w2 w3 w4:World} {d:Ad} {c:Cr} {B:Nat} {P:Nat->Nat} (h:ft w2 d c (fun k=>B<=k) P) (hB:B<=w2.heap.size) {a:Option Addr} {l cp:Nat} {rs:List (List Fv)} (hN:az w3 a l cp 6 64 rs (fun k=>((B<=k/\P k=5)/\k<w2.heap.size)\/w2.heap.size+1<=k)) (hb:Below w2.heap.size w2 w3) (hk:∀k,B<=k->¬k=w2.heap.size->w4.heap[k]?=w3.heap[k]?):bQ w4 ⟨d.a1,d.l1,d.c1,d.a2,d.l2,d.c2,d.a3,d.l3,d.c3,d.a4,d.l4,d.c4,a,l,cp⟩ ⟨c.n,c.k,c.v,c.x,rs⟩ (fun k=>B<=k):=by
 refine⟨fun k=>if w2.heap.size+1<=k then 5 else P k,?_,?_,?_,?_,?_⟩
 ·exact h.n.aM (fun k hl s=>(hk k s.1 af).trans (hb.block k hl)) (fun k hl s=>⟨s.1,by show (if w2.heap.size+1<=k then 5 else P k)=1;rw[if_neg af];exact s.2⟩)
 ·exact h.k.aM (fun k hl s=>(hk k s.1 af).trans (hb.block k hl)) (fun k hl s=>⟨s.1,by show (if w2.heap.size+1<=k then 5 else P k)=2;rw[if_neg af];exact s.2⟩)
 ·exact h.v.aM (fun k hl s=>(hk k s.1 af).trans (hb.block k hl)) (fun k hl s=>⟨s.1,by show (if w2.heap.size+1<=k then 5 else P k)=3;rw[if_neg af];exact s.2⟩)
 ·exact h.x.aM (fun k hl s=>(hk k s.1 af).trans (hb.block k hl)) (fun k hl s=>⟨s.1,by show (if w2.heap.size+1<=k then 5 else P k)=4;rw[if_neg af];exact s.2⟩)
 ·refine hN.aM (fun k _ s=>hk k (by rcases s with s|s;exact s.1.1;omega) (by rcases s with s|s <;> omega)) (fun k _ s=>?_);rcases s with s|s
  ·exact⟨s.1.1,by show (if w2.heap.size+1<=k then 5 else P k)=5;rw[if_neg af];exact s.1.2⟩
  ·exact⟨by show B<=k;omega,if_pos s⟩

def E9 (E:Nat->Addr) (Why:Nat->Prop) (ok:Prop) (w:World) (e:Ending) (w':World):Prop:=Below w.heap.size w w'/\((∃i,i<9/\Why i/\e=.returned (.iface 266 (.pointer (some (E i)))))\/(ok/\e=.returned .nilIface))
theorem tW (p:Int):dN 1 (co0 p).c.raw<=1152921504606846976:=by simp[co0,cl0,Cl.raw,dN,aI]

theorem nh {w:World} {g:Nat} {cs:Array Value} {T:TypeId} {f:Nat×Nat} (h:w.heap[g]?=some (.cells cs T f)):Below w.heap.size w (w.setRow g cs):=by
 refine⟨rfl,rfl,rfl,by simp,fun k hk=>?_⟩;by_cases e:k=g
 ·subst e;rw[setRow_heap w k cs cs T f h,h]
 ·exact setRow_other w g k cs e

theorem du {w:World} (t ty e:TypeId) (i:TypeInfo) (ht:Tryz.prog.underlying t=some (.slice e)) (hi:Tryz.prog.info? e=some i) (g cap:Nat):
  (GG #[t,t] ty #[.slice (some ⟨g,0,none⟩) 0 0,.slice none 0 cap]).run Tryz.prog w=.ok (.slice (some ⟨g,0,none⟩) 0 0) w:=by
 simp[GG,run_underlying ht,sizeOf,typeInfo,hi,Builtin.lenOf,Hs,storeCells]

theorem cA.here {w:World} {g l c:Nat} {zs:List ByteArray} {S S':Nat->Prop} (h:cA w (some ⟨g,0,none⟩) l c zs S) (hS:S' g):cA w (some ⟨g,0,none⟩) l c zs S':=
 ⟨h.1,h.2.imp id fun ⟨g',cur,e,_,hg⟩=>by cases e;exact⟨g,cur,rfl,hS,hg⟩⟩

theorem ix {w:World} {g0:Nat} {va:Option Addr} {len cap:Nat} {zs:List ByteArray} (ty:TypeId) (hg:w.heap[g0]?=some (.cells #[] 9 (0,0))) (hr:ay w va len cap zs) (hl:len<=8001):
  ∃a l c w',(GG #[55,55] ty #[.slice (some ⟨g0,0,none⟩) 0 0,.slice va len cap]).run Tryz.prog w=.ok (.slice a l c) w'/\cA w' a l c zs (fun k=>k=g0\/w.heap.size<=k)/\Below w.heap.size w w':=by
 obtain⟨i0,hi,hz0,hz1,hz2⟩:=info_parts fD;have hzl:=hr.1;rcases Hq len with h0|h0
 ·subst h0;obtain rfl:zs=[]:=GQ hzl;cases va with
  | none=>exact⟨_,_,_,_,du 55 ty 9 i0 Tryz.underlying55 hi g0 cap,⟨⟨rfl,Ft _,by omega,fun j x hx=>by simp at hx,.inl rfl⟩,.inl rfl⟩,Fw _ _⟩
  | some ad=>
   have h:=run_append_room (P:=Tryz.prog) w 55 ty 9 i0 Tryz.underlying55 hi g0 0 0 #[] hg ad 0 cap [] aS (fun j u hu=>by simp at hu) (fun u hu=>by simp at hu) af aS;exact⟨_,_,_,_,h,⟨⟨rfl,Ft _,by omega,fun j x hx=>by simp at hx,.inl rfl⟩,.inl rfl⟩,by simpa using nh hg⟩
 ·cases va with
  | none=>
   rcases hr.2.2.2.2 with h|⟨b,o,e,_⟩
   ·subst h;simp at hzl;omega
   ·cases e
  | some ad=>
   have h:=run_append_grow (P:=Tryz.prog) w 55 ty 9 i0 (.string ⟨#[]⟩) Tryz.underlying55 hi hz0 ⟨g0,0,none⟩ 0 0 [] aS (fun j u hu=>by simp at hu) ad len cap (zs.map FK) (by rw[hz1];simpa using hzl) (Ap.sB hr) af af (growslice_fits af gI);obtain⟨v',w',hr2,h2,h3,h4⟩:=run_append_own (P:=Tryz.prog) w (base:=0) 55 ty 9 i0 (.string ⟨#[]⟩) 1 16 Tryz.underlying55 hi hz0 hz1 hz2 rfl aj (.slice (some ⟨g0,0,none⟩) 0 0) 0 [] ⟨rfl,.inr ⟨g0,0,#[],rfl,H9 _,hg,Ft _,by unfold maxLen;omega,rfl,rfl⟩⟩ ad len cap (zs.map FK) (by simpa using hzl) (Ap.sB hr) (fun u hu=>by obtain⟨x,_,rfl⟩:=IM.1 hu;rfl) cD af (H9 _);rw[h] at hr2
   cases hr2
   rw[FX,IC] at h2;obtain⟨a',c',e,hT⟩:=cA.j8 h2 hr.2.2.2.1;have hbel:Below w.heap.size w (w.drew.alloc (.cells (([]:List Value).toArray++(zs.map FK).toArray++Hn (FK ⟨#[]⟩).cells (grownCap w (0+len) 0 9 - (0+len))) 9)):=⟨rfl,rfl,rfl,by simp,fun k hk=>heap_alloc_old w.drew _ (by simpa using hk)⟩;simp only[FX] at e h hbel ⊢
   cases e
   exact⟨_,_,_,_,h,hT.here (.inr (Ft _)),hbel⟩
theorem gz {ops:Array Oper} {rest:List Oper} {o:Oper} {a:Act} {w:World} {Q:Exit->Act->World->Prop} (hgd:o.guard=none) (s x:Operand) (ho:o.op=.call { callee:=.builtin .append,args:=#[s,x],argTypes:=#[55,55] }) (g0:Nat) (hs:a.eval s=.slice (some ⟨g0,0,none⟩) 0 0) (hg:w.heap[g0]?=some (.cells #[] 9 (0,0)))
  (va:Option Addr) (len cap:Nat) (hx:a.eval x=.slice va len cap) (zs:List ByteArray) (hr:ay w va len cap zs) (hl:len<=8001)
  (h:∀a' l c w',cA w' a' l c zs (fun k=>k=g0\/w.heap.size<=k)->Below w.heap.size w w'->wpList Tryz.prog ops Q rest (a.put o.dst (.slice a' l c)) w'):wpList Tryz.prog ops Q (o ::rest) a w:=by
 refine wpList_plain hgd fun K hK=>?_;obtain⟨a',l,c,w',hrun,h1,h2⟩:=ix o.type hg hr hl;unfold Oper.wp execOp;simp only[ho,resolve,invoke,builtin,Sem.run_bind,Sem.run_pure,Io,IL,Ia,List.map_nil,hs,hx,hrun];exact hK _ _ (h a' l c w' h1 h2)

theorem ji {w:World} {g0:Nat} {va:Option Addr} {len cap m bytes:Nat} {rs:List (List Fv)} (t ty T:TypeId) (i:TypeInfo) (z:Value) (ht:Tryz.prog.underlying t=some (.slice T)) (hi:Tryz.prog.info? T=some i) (hz:i.zero=some z) (hsize:i.size=m) (hby:i.bytes=bytes) (hzs:z.cells.size=m) (hsz:0<m) (hT:¬T=9) (hg:w.heap[g0]?=some (.cells #[] T (0,0)))
  (hr:aN w va len cap m rs) (hm:∀(j:Nat) r,rs[j]?=some r->r.length=m/\fq r) (hl:len<=8) (hb8:bytes<=1000):
  ∃a c w',(GG #[t,t] ty #[.slice (some ⟨g0,0,none⟩) 0 0,.slice va len cap]).run Tryz.prog w=.ok (.slice a len c) w'/\az w' a len c m T rs (fun k=>k=g0\/w.heap.size<=k)/\Below w.heap.size w w':=by
 rcases Hq len with h0|h0
 ·subst h0;obtain rfl:rs=[]:=GQ hr.1;cases va with
  | none=>exact⟨_,_,_,du t ty T i ht hi g0 cap,az.nil _ _ _ _ _ af,Fw _ _⟩
  | some ad=>
   have h:=run_append_room (P:=Tryz.prog) w t ty T i ht hi g0 0 0 #[] hg ad 0 cap [] aS (fun j u hu=>by simp at hu) (fun u hu=>by simp at hu) af aS;exact⟨_,_,_,h,az.nil _ _ _ _ _ af,by simpa using nh hg⟩
 ·have hlen:((rs.map dM).flatten).length=len*m:=by rw[dr (g_ fun j r hj=>(hm j r hj).1),FU,hr.1]
  obtain⟨ad,rfl,hnews⟩:∃ad,va=some ad/\∀(j:Nat) u,((rs.map dM).flatten)[j]?=some u->w.cell? (ad.add j)=some u:=by
   rcases hr.2.2.2 with h|⟨b,o,rfl,_⟩
   ·subst h;have:=hr.1;simp at this;omega
   ·exact⟨_,rfl,lB hr hm⟩
  have h:=run_append_grow (P:=Tryz.prog) w t ty T i z ht hi hz ⟨g0,0,none⟩ 0 0 [] aS (fun j u hu=>by simp at hu) ad len cap (rs.map dM).flatten (by rw[hsize];exact hlen) hnews af af (growslice_fits af (by rw[hby];have:(0+len)*bytes<=8*1000:=Nat.mul_le_mul af hb8;omega));obtain⟨v',w',hr2,h2,h3,h4⟩:=run_append_own (P:=Tryz.prog) w (base:=0) t ty T i z m bytes ht hi hz hsize hby hzs hsz (.slice (some ⟨g0,0,none⟩) 0 0) 0 [] ⟨by simp,.inr ⟨g0,0,#[],rfl,H9 _,hg,Ft _,by unfold maxLen;omega,by simp,by simp⟩⟩ ad len cap (rs.map dM).flatten hlen hnews (fG hr hm w (fun _=>True)).one cD (by have:(0+len)*bytes<=8*1000:=Nat.mul_le_mul af hb8;omega) (H9 _);rw[h] at hr2;cases hr2;rw[FX,IC] at h2;obtain⟨a',c',e,hR⟩:=(fG hr hm _ (fun k=>k=g0\/w.heap.size<=k)).own h2 hr.1.symm hT (fun g hg=>by simp[G9] at hg;exact .inr af);have hbel:Below w.heap.size w (w.drew.alloc (.cells (([]:List Value).toArray++((rs.map dM).flatten).toArray++Hn z.cells (grownCap w (0+len) 0 T - (0+len))) T)):=⟨rfl,rfl,rfl,by simp,fun k hk=>heap_alloc_old w.drew _ (by simpa using hk)⟩;rw[hr.1] at e hR;simp only[FX] at e h hbel hR ⊢;cases e;exact⟨_,_,_,h,hR,hbel⟩
theorem mM {o:Oper} {a:Act} {w:World} {K:Act->World->Prop} {Q:Exit->Act->World->Prop} {g0:Nat} {va:Option Addr} {len cap m bytes:Nat} {rs:List (List Fv)} (s x:Operand) (t T:TypeId) (ho:o.op=.call { callee:=.builtin .append,args:=#[s,x],argTypes:=#[t,t] }) (i:TypeInfo) (z:Value) (ht:Tryz.prog.underlying t=some (.slice T)) (hi:Tryz.prog.info? T=some i) (hz:i.zero=some z) (hsize:i.size=m) (hby:i.bytes=bytes) (hzs:z.cells.size=m) (hsz:0<m) (hT:¬T=9) (hs:a.eval s=.slice (some ⟨g0,0,none⟩) 0 0) (hg:w.heap[g0]?=some (.cells #[] T (0,0)))
  (hx:a.eval x=.slice va len cap) (hr:aN w va len cap m rs) (hm:∀(j:Nat) r,rs[j]?=some r->r.length=m/\fq r) (hl:len<=8) (hb8:bytes<=1000)
  (h:∀a' c' w',az w' a' len c' m T rs (fun k=>k=g0\/w.heap.size<=k)->Below w.heap.size w w'->K (a.put o.dst (.slice a' len c')) w'):o.wp Tryz.prog a w K Q:=by
 obtain⟨a',c',w',hrun,h1,h2⟩:=ji t o.type T i z ht hi hz hsize hby hzs hsz hT hg hr hm hl hb8;unfold Oper.wp execOp;simp only[ho,resolve,invoke,builtin,Sem.run_bind,Sem.run_pure,Io,IL,Ia,List.map_nil,hs,hx,hrun];exact h a' c' w' h1 h2

theorem r9 {w w':World} {o p:Obj} (h:Below (w.heap.size+1+1) ((w.alloc o).alloc p) w'):w'.heap[w.heap.size]?=some o/\w'.heap[w.heap.size+1]?=some p/\Below w.heap.size w w':=cH (by rw[dG,dG];exact h)
theorem fV (w:World) (n:Nat) (hn:w.heap.size=n) (vs:List Value) (T:TypeId):∀(j:Nat) u,vs[j]?=some u->(w.alloc (.cells vs.toArray T)).cell? ((⟨n,0,none⟩:Addr).add j)=some u:=by
 subst hn;exact de w vs T
theorem E2 {w:World} {b:Nat} {T:TypeId} {u0 u1 u2 u3 u4 u5 v0 v1 v2 v3 v4 v5:Value} (h:w.heap[b]?=some (.cells #[u0,u1,u2,u3,u4,u5] T (0,0))):
  ((((((w.setCell ⟨b,0,none⟩ v0).setCell ⟨b,1,none⟩ v1).setCell ⟨b,2,none⟩ v2).setCell ⟨b,3,none⟩ v3).setCell ⟨b,4,none⟩ v4).setCell ⟨b,5,none⟩ v5).heap[b]?=some (.cells #[v0,v1,v2,v3,v4,v5] T (0,0)):=
 aA (aA (aA (aA (aA (aA h v0) v1) v2) v3) v4) v5
theorem eK {w:World} {b k:Nat} {v0 v1 v2 v3 v4 v5:Value} (hk:¬k=b):
  ((((((w.setCell ⟨b,0,none⟩ v0).setCell ⟨b,1,none⟩ v1).setCell ⟨b,2,none⟩ v2).setCell ⟨b,3,none⟩ v3).setCell ⟨b,4,none⟩ v4).setCell ⟨b,5,none⟩ v5).heap[k]?=w.heap[k]?:=by
 rw[Fp _ _ _ _ hk,Fp _ _ _ _ hk,Fp _ _ _ _ hk,Fp _ _ _ _ hk,Fp _ _ _ _ hk,Fp _ _ _ _ hk]
theorem az.gp {w:World} {a:Option Addr} {len cap m:Nat} {T T':TypeId} {rs:List (List Fv)} {S:Nat->Prop} (h:az w a len cap m T rs S) {b:Nat} {cs:Array Value} (hb:w.heap[b]?=some (.cells cs T' (0,0))) (h1:¬T'=T) (h2:¬T'=9):az w a len cap m T rs (fun k=>S k/\¬k=b):=by
 obtain⟨a1,a2,a3,a4⟩:=h;refine⟨a1,a2,a3,a4.imp id ?_⟩;rintro⟨g,cur,H,e,h5⟩;refine⟨g,cur,H,e,h5.blk,⟨h5.inS,fun q=>?_⟩,h5.len,fun j r hj i f hi=>?_,h5.inj⟩
 ·subst q;have:=h5.blk;rw[hb] at this;cases this;exact h1 rfl
 ·obtain⟨v,q1,q2⟩:=h5.cell j r hj i f hi;refine⟨v,q1,?_⟩;cases f with
  | l zs=>
   obtain⟨a',l',c',k1,k2,k3,k4,k5,k6⟩:=q2;refine⟨a',l',c',k1,k2,k3,k4,k5,k6.imp id ?_⟩;rintro⟨z1,z2,z3,cu,z4,z5⟩;refine⟨z1,⟨z2,fun q=>?_⟩,z3,cu,z4,z5⟩;rw[q] at z4;rw[hb] at z4
   cases z4
   exact h2 rfl
  | _=>exact q2
theorem ot {w:World} {base n m:Nat} {T T':TypeId} {v u:Value} {xs:List Value} {b i:Nat} {cs:Array Value} (h:w.ownsRow base T m v n xs) (hb:w.heap[b]?=some (.cells cs T' (0,0))) (hT:¬T'=T):(w.setCell ⟨b,i,none⟩ u).ownsRow base T m v n xs:=by
 refine⟨h.1,h.2.imp id ?_⟩;rintro⟨g,cap,cur,h1,h2,h3,h4⟩;refine⟨g,cap,cur,h1,h2,(Fp _ _ _ _ (fun e=>?_)).trans h3,h4⟩;subst e;rw[hb] at h3;cases h3;exact hT rfl
theorem aX.set {w:World} {S:Nat->Prop} {m:Nat} {rs:List (List Fv)} {vss:List (List Value)} {H:Nat->Nat->Nat} (h:aX w S m rs vss H) {b i:Nat} {cs:Array Value} {T':TypeId} {u:Value} (hb:w.heap[b]?=some (.cells cs T' (0,0))) (hT:¬T'=9):aX (w.setCell ⟨b,i,none⟩ u) S m rs vss H:=
 h.aM (fun k cu _ q=>Fp _ _ _ _ (fun e=>by subst e;rw[hb] at q;cases q;exact hT rfl)) (fun _ _ s=>s)
theorem aC.oy {S:Nat->Prop} {W w:World} {vb:Option Nat} (hg:W.grownBy w vb) (h:∀g,vb=some g->S g):aC S W w:=⟨hg.os,hg.tape,hg.output,hg.size,fun k hk hn=>hg.block k hk (fun e=>hn (h k e.symm))⟩
theorem bu {w:World} {base n m:Nat} {T:TypeId} {v:Value} {xs:List Value} (h:w.ownsRow base T m v n xs):∃a l c,v=.slice a l c:=by
 rcases h.2 with ⟨rfl,_⟩|⟨g,cap,cur,rfl,_⟩
 ·exact⟨_,_,_,rfl⟩
 ·exact⟨_,_,_,rfl⟩
abbrev Cps (b:Nat) (X:World):Nat->Prop:=fun k=>k=b\/X.heap.size<=k
theorem rN {X wr W w5:World} {b3 k m:Nat} {T TC:TypeId} {v:Value} {xs:List Value} {cs:Array Value} (hO:wr.ownsRow X.heap.size T m v k xs) (hBo:wr.heap[b3]?=some (.cells cs TC (0,0))) (hb3:b3<X.heap.size) (hb:Below wr.heap.size wr W) (hg:W.grownBy w5 v.ownBlock):w5.heap[b3]?=some (.cells cs TC (0,0)):=
 (hg.block b3 (FE (ae hBo) hb.size) (fun e=>by have:=(hO.lt b3 e.symm).1;omega)).trans ((hb.block _ (ae hBo)).trans hBo)
theorem sN {X wr W w5:World} {b3 k m f:Nat} {T TC:TypeId} {v v':Value} {rs:List (List Fv)} {vss:List (List Value)} {H:Nat->Nat->Nat} {cs:Array Value} {r:List Fv} {vs:List Value} {hh:Nat} (hK:aC (Cps b3 X) X wr) (hO:wr.ownsRow X.heap.size T m v k vss.flatten) (hV:aX wr (fun k=>X.heap.size<=k) m rs vss H) (hBo:wr.heap[b3]?=some (.cells cs TC (0,0))) (hb3:b3<X.heap.size)
  (hb:Below wr.heap.size wr W) (hown:w5.ownsRow X.heap.size T m v' (k+1) (vss.flatten++vs)) (hg:W.grownBy w5 v.ownBlock) (hT:¬T=9) (hTC:¬TC=T) (hTS:¬TC=9) (hr:r.length=m) (hvs:vs.length=m) (hc:∀(i:Nat) f,r[i]?=some f->∃v,vs[i]?=some v/\f.Fr W hh (fun k=>X.heap.size<=k) v) (hfr:∀(i:Nat) zs,r[i]?=some (.l zs)->zs≠[]->wr.heap.size<=hh)
  (h1:∀(i i':Nat) zs zs',r[i]?=some (.l zs)->zs≠[]->r[i']?=some (.l zs')->zs'≠[]->i=i'):
  aC (Cps b3 X) X (w5.setCell ⟨b3,f,none⟩ v')/\(w5.setCell ⟨b3,f,none⟩ v').ownsRow X.heap.size T m v' (k+1) (vss++[vs]).flatten/\(∃H',aX (w5.setCell ⟨b3,f,none⟩ v') (fun k=>X.heap.size<=k) m (rs++[r]) (vss++[vs]) H')/\(w5.setCell ⟨b3,f,none⟩ v').heap[b3]?=some (.cells (cs.setIfInBounds f v') TC (0,0)):=by
 have hb5:=rN hO hBo hb3 hb hg;refine⟨?_,?_,⟨_,(hV.app hb (bM hO hb) hT hg hr hvs hc hfr h1).set hb5 hTS⟩,aA hb5 v'⟩
 ·exact ((hK.trans (aC.bZ hb)).trans (aC.oy hg (fun g e=>.inr (hO.lt g e).1))).set (.inl rfl)
 ·rw[It];refine ot ?_ hb5 hTC;simpa using hown
structure ey (w:World) (d:Ad) (c:Cr) (S:Nat->Prop):Prop where
 n:az w d.a1 d.l1 d.c1 7 57 c.n S
 k:az w d.a2 d.l2 d.c2 4 102 c.k S
 v:az w d.a3 d.l3 d.c3 8 99 c.v S
 x:az w d.a4 d.l4 d.c4 5 105 c.x S
 p:az w d.a5 d.l5 d.c5 6 64 c.p S
theorem ey.row {w:World} {d:Ad} {c:Cr} {S:Nat->Prop} (h:ey w d c S):aJ w d c:=⟨h.n.row,h.k.row,h.v.row,h.x.row,h.p.row⟩
def EmF (B:Nat) (T:TypeId):Fact:=fun v w=> ∃b,v=.slice (some ⟨b,0,none⟩) 0 0/\B<=b/\w.heap[b]?=some (.cells #[] T (0,0))
theorem EmF.mono (B:Nat) (T:TypeId):Fact.bB (EmF B T):=by
 exact qt
def RwF (B len m:Nat) (T:TypeId) (rs:List (List Fv)):Fact:=fun v w=> ∃a c,v=.slice a len c/\az w a len c m T rs (fun k=>B<=k)
theorem RwF.mono (B len m:Nat) (T:TypeId) (rs:List (List Fv)):Fact.bB (RwF B len m T rs):=by
 rintro v w w' ⟨a,c,h1,h2⟩ hb;exact⟨a,c,h1,h2.below hb⟩
def CpF (B l2 l4:Nat) (c:Cl):Fact:=fun v w=> ∃a2 c2 a4 c4,v=.agg #[.slice none 0 0,.slice a2 l2 c2,.slice none 0 0,.slice a4 l4 c4,.slice none 0 0,.int .i64 c.now]/\az w a2 l2 c2 4 102 (c.ks.map kdF) (fun k=>B<=k)/\az w a4 l4 c4 5 105 (c.xs.map xdF) (fun k=>B<=k)
theorem CpF.mono (B l2 l4:Nat) (c:Cl):Fact.bB (CpF B l2 l4 c):=by
 rintro v w w' ⟨a2,c2,a4,c4,h1,h2,h3⟩ hb;exact⟨a2,c2,a4,c4,h1,h2.below hb,h3.below hb⟩
def FrF (B:Nat):Fact:=fun v w=> ∃b,v=.pointer (some ⟨b,0,none⟩)/\B<=b/\w.heap[b]?=some (.cells #[.slice none 0 0,.slice none 0 0,.slice none 0 0,.slice none 0 0,.slice none 0 0,.int .i64 0] 36 (0,0))
theorem FrF.mono (B:Nat):Fact.bB (FrF B):=by
 exact qt

def Rv (vb:Option Nat) (sp:Tmp):Gi.Rs:=fun s w w'=>match s with
 | none=>w.grownBy w' vb
 | some t=>if t=sp then w.grownBy w' vb else Below w.heap.size w w'
theorem bS {w w':World} (vb:Option Nat) (h:Below w.heap.size w w'):w.grownBy w' vb:=⟨h.os,h.tape,h.output,h.size,fun k hk _=>h.block k hk⟩
theorem Rv.below {vb:Option Nat} {sp:Tmp} {s:Option Tmp} {w w':World} (h:Rv vb sp s w w') (h1:¬s=none) (h2:¬s=some sp):Below w.heap.size w w':=by
 cases s with
 | none=>exact absurd rfl h1
 | some t=>
  simp only[Rv] at h;rw[if_neg (fun e=>h2 (by rw[e]))] at h;exact h
theorem Rv.rel (vb:Option Nat) (sp:Tmp):Gi.Rel (Rv vb sp) sp:=by
 refine⟨fun w=>bS vb (Fw _ _),fun {a b c} h k=>?_,fun h=>World.grownBy.size h,fun w=>bS vb (Fw _ _).drew,fun s {a b} h=>?_,fun s {a b} h1 h2 h=>Rv.below h h1 h2⟩
 ·have h:World.grownBy a b vb:=h;have k:World.grownBy b c vb:=k;exact⟨k.os.trans h.os,k.tape.trans h.tape,k.output.trans h.output,FA h.size k.size,fun i hi hn=>(k.block i (FE hi h.size) hn).trans (h.block i hi hn)⟩
 ·cases s with
  | none=>exact h
  | some t=>
   show World.grownBy a b vb
   simp only[Rv] at h
   split at h
   ·exact h
   ·exact bS vb h
theorem Rv.other {vb:Option Nat} {sp t:Tmp} {w w':World} (ht:¬t=sp) (h:Below w.heap.size w w'):Rv vb sp (some t) w w':=by
 show (if t=sp then w.grownBy w' vb else Below w.heap.size w w');rw[if_neg ht];exact h
theorem Rv.this {vb:Option Nat} {sp:Tmp} {w w':World} (h:w.grownBy w' vb):Rv vb sp (some sp) w w':=by
 show (if sp=sp then w.grownBy w' vb else Below w.heap.size w w');rw[if_pos rfl];exact h
theorem yZ {w:World} {b:Nat} {vs:List Value} {T:TypeId} (h:w.heap[b]?=some (.cells vs.toArray T (0,0))):∀(j:Nat) u,vs[j]?=some u->w.cell? ((⟨b,0,none⟩:Addr).add j)=some u:=by
 intro j u hu;rw[FT,aw h,FX];simpa using hu
def TvF (B:Nat) (x:Vd):Gi.Fact:=fun u w _ _=> ∃a l c,u=.agg #[.string x.n,.int .i64 x.c,.string x.z,.string x.k,.bool x.x,.string x.m,.bool x.y,.slice a l c]/\cA w a l c x.zs (fun k=>B<=k)
def BsF (B:Nat) (x:Vd):Gi.Fact:=fun u w _ _=> ∃b a l c,u=.slice (some ⟨b,0,none⟩) 1 1/\B<=b/\w.heap[b]?=some (.cells #[.string x.n,.int .i64 x.c,.string x.z,.string x.k,.bool x.x,.string x.m,.bool x.y,.slice a l c] 99 (0,0))/\cA w a l c x.zs (fun k=>B<=k)
def ApF (B k:Nat) (rs:List (List Fv)) (vss:List (List Value)):Gi.Fact:=fun u w _ _=> ∃H' vs,w.ownsRow B 99 8 u (k+1) (vss++[vs]).flatten/\aX w (fun k=>B<=k) 8 rs (vss++[vs]) H'
theorem TvF.mono {vb:Option Nat} {sp:Tmp} {ex:Gi.Ex} {d:Option Tmp} {B:Nat} {x:Vd} (hv:∀g,vb=some g->g<B):Gi.Fact.bB (Rv vb sp) ex d (TvF B x):=by
 rintro s _ _ _ v w w' l h ⟨a,l,c,h1,h2⟩ hb;have hb:w.grownBy w' vb:=(Rv.rel vb sp).sub s hb;exact⟨a,l,c,h1,h2.aM (fun k hk s=>hb.block k hk (fun e=>by have s1:B<=k:=s;have:=hv k e.symm;omega)) (fun _ _ s=>s)⟩
theorem BsF.mono {vb:Option Nat} {sp:Tmp} {ex:Gi.Ex} {d:Option Tmp} {B:Nat} {x:Vd} (hv:∀g,vb=some g->g<B):Gi.Fact.bB (Rv vb sp) ex d (BsF B x):=by
 rintro s _ _ _ v w w' l h ⟨b,a,l,c,h1,h2,h3,h4⟩ hb;have hb:w.grownBy w' vb:=(Rv.rel vb sp).sub s hb;exact⟨b,a,l,c,h1,h2,(hb.block _ (ae h3) (fun e=>by have:=hv b e.symm;omega)).trans h3,h4.aM (fun k hk s=>hb.block k hk (fun e=>by have s1:B<=k:=s;have:=hv k e.symm;omega)) (fun _ _ s=>s)⟩
theorem ApF.mono {vb:Option Nat} {sp:Tmp} {ex:Gi.Ex} {B k:Nat} {rs:List (List Fv)} {vss:List (List Value)} :Gi.Fact.bB (Rv vb sp) ex (some sp) (ApF B k rs vss):=by
 rintro s h1 h2 _ v w w' l h ⟨H',vs,h3,h4⟩ hb;have hb:=Rv.below hb h1 h2;exact⟨H',vs,bM h3 hb,h4.below hb⟩

theorem jG (d:Ad) (c:Cl) (w:World) (hr:aJ w d c.raw) (hs:Sm c):
  Calls Tryz.prog 23 #[.agg #[.slice d.a1 d.l1 d.c1,.slice d.a2 d.l2 d.c2,.slice d.a3 d.l3 d.c3,.slice d.a4 d.l4 d.c4,.slice d.a5 d.l5 d.c5,.int .i64 c.now]] w fun e w'=> ∃d',e=.returned (.agg #[.slice d'.a1 d'.l1 d'.c1,.slice d'.a2 d'.l2 d'.c2,.slice d'.a3 d'.l3 d'.c3,.slice d'.a4 d'.l4 d'.c4,.slice d'.a5 d'.l5 d'.c5,.int .i64 c.now])/\ey w' d' c.raw (fun k=>w.heap.size<=k)/\Below w.heap.size w w':=by
 obtain⟨a1,l1,y1,a2,l2,y2,a3,l3,y3,a4,l4,y4,a5,l5,y5⟩:=d;dsimp only;obtain⟨HR,hl1,hm1,hl2,hm2,hl3,hm3,hl4,hm4,hl5,hm5⟩:=pM;clear hr;have HS:=aa hs;clear hs;obtain⟨i2,hi2⟩:=FJ.1 rv;obtain⟨i4,hi4⟩:=FJ.1 iJ;obtain⟨i1,hi1⟩:=FJ.1 my;obtain⟨i3,hi3⟩:=FJ.1 gi;obtain⟨i5,hi5⟩:=FJ.1 iK;have HI1:=aa hi1;have HI2:=aa hi2;have HI3:=aa hi3;have HI4:=aa hi4;have HI5:=aa hi5;clear hi1 hi2 hi3 hi4 hi5;obtain⟨W,hW0⟩:∃W,W=(w.alloc (.cells (c6 a1 l1 y1 a2 l2 y2 a3 l3 y3 a4 l4 y4 a5 l5 y5 c.now) 36)).alloc (.cells (c6 none 0 0 none 0 0 none 0 0 none 0 0 none 0 0 0) 36):=⟨_,rfl⟩;have HB:Hid (Below w.heap.size w W):=by rw[hW0];exact aF _ _ _
 have Bk:Hid (W.heap[w.heap.size]?=some (.cells (c6 a1 l1 y1 a2 l2 y2 a3 l3 y3 a4 l4 y4 a5 l5 y5 c.now) 36 (0,0))):=by rw[hW0];exact cU _ _ _
 obtain⟨Br,hWs⟩:=BK;go_enter Tryz.func23,Tryz.ntmps23;go_wp2_with fail;rw[<-hW0];clear hW0;rename_i K0 hK0;refine aR aq rfl rfl aq ?_;refine au.step (EmF W.heap.size 102) rfl (EmF.mono _ _) ?_ ?_
 ·exact nY
 refine' au.an _ rfl ?_ ?_;rotate_left 1
 ·exact gd
 refine' au.an _ rfl ?_ ?_;rotate_left 1
 ·refine Obl.plain rfl ?_;intro ac wg K hsz hW hf hK;clear hsz;have e10:=hf 10 aj;simp[ai,Fs] at e10;exact jV
 refine au.step (RwF W.heap.size l2 4 102 (c.ks.map kdF)) rfl (RwF.mono _ _ _ _ _) ?_ ?_
 ·refine Obl.plain rfl ?_;intro ac wg K hsz hW hf hK;clear hsz;have e9:=hf 9 aj;simp[ai,Fs] at e9;have e11:=hf 11 aj;simp[ai,Fs] at e11;clear hf;obtain⟨b0,e9,hB0,hg0⟩:=e9;have hz:i2.zero=some (.agg #[.string ⟨#[]⟩,.bool false,.bool false,.string ⟨#[]⟩])/\i2.size=4/\i2.bytes=40:=by have:=HI2.2;simp only[IF] at this;exact this
  refine mM (.tmp 9) (.tmp 11) 31 102 rfl i2 (.agg #[.string ⟨#[]⟩,.bool false,.bool false,.string ⟨#[]⟩]) Tryz.underlying31 HI2.1 hz.1 hz.2.1 hz.2.2 rfl aj aj (by simpa[Iu] using e9) hg0 (by simpa[Iu] using e11) (HR.k.below (HB.trans (hW.mono HB.size))) (gW sF _) (show l2<=8 by have:=HS.k;omega) aj ?_;exact yo
 refine au.step (EmF W.heap.size 105) rfl (EmF.mono _ _) ?_ ?_
 ·exact nY
 refine' au.an _ rfl ?_ ?_;rotate_left 1
 ·exact gd
 refine' au.an _ rfl ?_ ?_;rotate_left 1
 ·refine Obl.plain rfl ?_;intro ac wg K hsz hW hf hK;clear hsz;have e14:=hf 14 aj;simp[ai,Fs] at e14;exact jV
 refine au.step (RwF W.heap.size l4 5 105 (c.xs.map xdF)) rfl (RwF.mono _ _ _ _ _) ?_ ?_
 ·refine Obl.plain rfl ?_;intro ac wg K hsz hW hf hK;clear hsz;have e13:=hf 13 aj;simp[ai,Fs] at e13;have e15:=hf 15 aj;simp[ai,Fs] at e15;clear hf;obtain⟨b0,e13,hB0,hg0⟩:=e13;have hz:i4.zero=some (.agg #[.string ⟨#[]⟩,.int .i64 0,.string ⟨#[]⟩,.bool false,.string ⟨#[]⟩])/\i4.size=5/\i4.bytes=64:=by have:=HI4.2;simp only[IF] at this;exact this
  refine mM (.tmp 13) (.tmp 15) 33 105 rfl i4 (.agg #[.string ⟨#[]⟩,.int .i64 0,.string ⟨#[]⟩,.bool false,.string ⟨#[]⟩]) Tryz.underlying33 HI4.1 hz.1 hz.2.1 hz.2.2 rfl aj aj (by simpa[Iu] using e13) hg0 (by simpa[Iu] using e15) (HR.x.below (HB.trans (hW.mono HB.size))) (gW rV _) (show l4<=8 by have:=HS.x;omega) aj ?_;exact yo
 refine' au.an _ rfl ?_ ?_;rotate_left 1
 ·exact gd
 refine' au.an _ rfl ?_ ?_;rotate_left 1
 ·refine Obl.plain rfl ?_;intro ac wg K hsz hW hf hK;clear hsz;have e17:=hf 17 aj;simp[ai,Fs] at e17;exact jV
 refine au.step (CpF W.heap.size l2 l4 c) rfl (CpF.mono _ _ _ _) ?_ ?_
 ·refine Obl.plain rfl ?_;intro ac wg K hsz hW hf hK;clear hsz;have e12:=hf 12 aj;simp[ai,Fs] at e12;have e16:=hf 16 aj;simp[ai,Fs] at e16;have e18:=hf 18 aj;simp[ai,Fs] at e18;clear hf;obtain⟨p2,q2,e12,h12⟩:=e12;obtain⟨p4,q4,e16,h16⟩:=e16;have H12:=aa h12;have H16:=aa h16;clear h12 h16;go_simp;exact hK _ _ (Fw _ _) ⟨p2,q2,p4,q4,rfl,H12.out,H16.out⟩
 refine au.step (FrF W.heap.size) rfl (FrF.mono _) ?_ ?_
 ·exact nY
 refine au.done ?_;intro q wz hW hf;simp only[FI] at hf;obtain⟨⟨b3,h3,hb3,hg3⟩,⟨p2,q2,p4,q4,h19,hR2,hR4⟩,-⟩:=hf;obtain⟨t0,t1,t2,t3,t4,t5⟩:=cs6 hg3;have f0:=av hg3 0;have f1:=av hg3 1;have f2:=av hg3 2;have f3:=av hg3 3;have f4:=av hg3 4;have f5:=av hg3 5;have BoX:=aa (E2 (v0:=.slice none 0 0) (v1:=.slice p2 l2 q2) (v2:=.slice none 0 0) (v3:=.slice p4 l4 q4) (v4:=.slice none 0 0) (v5:=.int .i64 c.now) hg3);have HWX:Hid (Below W.heap.size W ((((((wz.setCell ⟨b3,0,none⟩ (.slice none 0 0)).setCell ⟨b3,1,none⟩ (.slice p2 l2 q2)).setCell ⟨b3,2,none⟩ (.slice none 0 0)).setCell ⟨b3,3,none⟩ (.slice p4 l4 q4)).setCell ⟨b3,4,none⟩ (.slice none 0 0)).setCell ⟨b3,5,none⟩ (.int .i64 c.now))):=ah hb3 (ah hb3 (ah hb3 (ah hb3 (ah hb3 (ah hb3 hW)))));have R2:Hid (az ((((((wz.setCell ⟨b3,0,none⟩ (.slice none 0 0)).setCell ⟨b3,1,none⟩ (.slice p2 l2 q2)).setCell ⟨b3,2,none⟩ (.slice none 0 0)).setCell ⟨b3,3,none⟩ (.slice p4 l4 q4)).setCell ⟨b3,4,none⟩ (.slice none 0 0)).setCell ⟨b3,5,none⟩ (.int .i64 c.now)) p2 l2 q2 4 102 (c.ks.map kdF) (fun k=>W.heap.size<=k/\¬k=b3)):=(hR2.gp hg3 aj aj).aM (fun k hk s=>eK s.2) (fun k _ s=>s);have R4:Hid (az ((((((wz.setCell ⟨b3,0,none⟩ (.slice none 0 0)).setCell ⟨b3,1,none⟩ (.slice p2 l2 q2)).setCell ⟨b3,2,none⟩ (.slice none 0 0)).setCell ⟨b3,3,none⟩ (.slice p4 l4 q4)).setCell ⟨b3,4,none⟩ (.slice none 0 0)).setCell ⟨b3,5,none⟩ (.int .i64 c.now)) p4 l4 q4 5 105 (c.xs.map xdF) (fun k=>W.heap.size<=k/\¬k=b3)):=(hR4.gp hg3 aj aj).aM (fun k hk s=>eK s.2) (fun k _ s=>s);clear hg3 hR2 hR4 hW;intro K hK;rw[if_pos bF];simp only[aE,Gd,GO,Fz,FH,FM,h3,h19];simp only[G3];go_simp;refine hK _ _ ?_;refine hK0 _ _ ?_;clear hK hK0 K K0;generalize ((((((wz.setCell ⟨b3,0,none⟩ (.slice none 0 0)).setCell ⟨b3,1,none⟩ (.slice p2 l2 q2)).setCell ⟨b3,2,none⟩ (.slice none 0 0)).setCell ⟨b3,3,none⟩ (.slice p4 l4 q4)).setCell ⟨b3,4,none⟩ (.slice none 0 0)).setCell ⟨b3,5,none⟩ (.int .i64 c.now))=X at BoX HWX R2 R4 ⊢;clear t0 t1 t2 t3 t4 t5 f0 f1 f2 f3 f4 f5;have HBX:=aa (HB.trans (HWX.mono HB.size));replace Bk:=aa ((HWX.block _ (ae Bk.out)).trans Bk.out);replace Br:=aa ((HWX.block _ (ae Br.out)).trans Br.out);have hb3X:=ae BoX.out;clear HB;go_wp2;go_loopw [4] (fun vi wr=> ∃(k:Nat) (vss:List (List Value)) (H:Nat->Nat->Nat) (v:Value),k<=l1/\vi=.int .i64 k/\Hid (aC (Cps b3 X) X wr)/\Hid (wr.ownsRow X.heap.size 57 7 v k vss.flatten)/\Hid (aX wr (fun k=>X.heap.size<=k) 7 ((c.ns.take k).map ndF) vss H)/\Hid (wr.heap[b3]?=some (.cells #[v,.slice p2 l2 q2,.slice none 0 0,.slice p4 l4 q4,.slice none 0 0,.int .i64 c.now] 36 (0,0)))) (fun vi _=>l1 - (intOf vi).toNat);case atStart=>exact⟨0,[],fun _ _=>0,.slice none 0 0,by omega,rfl,aC.refl _ _,Gj _ _ _ _,aX.nil _ _ _ _,BoX⟩
 case round=>
  obtain⟨k,vss,H,v,hk,rfl,HK,HO,HV,Bo⟩:=hrel;obtain⟨hXs,HBW,BkR,hKs⟩:=vt;by_cases hlt:k<l1
  ·obtain⟨b,o,x,rfl,hb0,hx,hat⟩:=cB HR.n hlt;obtain⟨va,vl,vc,hvr,z0,z1,c0,c1,c2,c3,c4,c5,c6⟩:=aZ hat;have hz8:vl<=8001:=by have h1:=hvr.1;have h2:=HS.ns k x hx;omega
   have HX:=aa hx;have HT:=aa hvr;have HZz0:=aa z0;have HZz1:=aa z1;clear hat hx hvr z0 z1;replace c0:=(ak HBW.out hb0).trans c0;replace c1:=(ak HBW.out hb0).trans c1;replace c2:=(ak HBW.out hb0).trans c2;replace c3:=(ak HBW.out hb0).trans c3;replace c4:=(ak HBW.out hb0).trans c4;replace c5:=(ak HBW.out hb0).trans c5;replace c6:=(ak HBW.out hb0).trans c6;have hbr:=FE hb0 HBW.size;have hkr:=ae BkR.out;have hor:=ae Bo.out;have hz:i1.zero=some (.agg #[.string ⟨#[]⟩,.string ⟨#[]⟩,.int .i64 0,.int .i64 0,.int .i64 0,.bool false,.slice none 0 0])/\i1.size=7/\i1.bytes=88:=by have:=HI1.2;simp only[IF] at this;exact this
   obtain⟨k0,k1,k2,k3,k4,k5⟩:=cs6 BkR;go_wp2_with (first|(at_builtin;refine gz rfl _ _ rfl (wr.heap.size+1) rfl (bE _ _ _) va vl vc rfl x.zs (HT.below (HBW.trans ((aF _ _ _).mono HBW.size))) hz8 ?_));intro a' l' c' w2 hT2 hb2;obtain⟨hn2,-,hbx⟩:=r9 hb2;obtain⟨g,hg⟩:=hT2.fr;obtain⟨hs2,hsl⟩:=BE;have hb4:Below wr.heap.size wr ((w2.setCell ⟨wr.heap.size,6,none⟩ (.slice a' l' c')).alloc (.cells (nov x a' l' c') 57)):=(ah (Ft _) hbx).alloc jJ _;have HF4:Hid (LFr ((w2.setCell ⟨wr.heap.size,6,none⟩ (.slice a' l' c')).alloc (.cells (nov x a' l' c') 57)) g (fun k=>X.heap.size<=k) x.zs (.slice a' l' c')):=hg.aM (fun cu _ q=>(Fy _ _ _ (by simp[Gf];exact ae q)).trans (Fp _ _ _ _ (fun e=>by subst e;rw[hn2] at q;cases q))) (fun _ s=>by have:=hsl _ s;show X.heap.size<=g;omega);obtain⟨HG,HB4,HO4⟩:=vA;obtain⟨n0,n1,n2,n3,n4,n5,n6⟩:=cs7 hn2;have fn3:=av hn2 3;have fn6:=av hn2 6;have bo2:=(hbx.block _ hor).trans Bo.out;obtain⟨o0,o1,o2,o3,o4,o5⟩:=cs6 bo2;clear hn2 hbx hT2 hg hb2 hsl hb4 bo2 k0 k1 k2 k3 k4 k5 c0 c1 c2 c3 c4 c5 c6;go_wp2_with (first|(at_builtin;refine wpList_append_own _ rfl _ _ 30 rfl X.heap.size 57 i1 (.agg #[.string ⟨#[]⟩,.string ⟨#[]⟩,.int .i64 0,.int .i64 0,.int .i64 0,.bool false,.slice none 0 0]) 7 88 Tryz.underlying30 HI1.1 hz.1 hz.2.1 hz.2.2 rfl aj _ _ _ rfl HO4.out ⟨w2.heap.size,0,none⟩ 1 1 [.string x.n,.string x.z,.int .i64 x.c,.int .i64 x.s,.int .i64 x.u,.bool x.d,.slice a' l' c'] rfl rfl ?c1 ?c2 ?c3 ?c4 ?c5 ?_));case c1=>exact fV _ _ (by simp[Gf]) _ _
   case c2=>intro u hu;simp only[Gl,GU,or_false] at hu;rcases hu with rfl|rfl|rfl|rfl|rfl|rfl|rfl <;> rfl
   case c3=>unfold maxLen;have:=HS.n;omega
   case c4=>have:=HS.n;omega
   case c5=>simp[Gf];omega
   rintro v' w5 hown5 hgrow -;obtain⟨v1',v2',v3',rfl⟩:=bu hown5;clear n0 n1 n2 n3 fn3 n4 n5 n6 fn6 o0 o1 o2 o3 o4 o5;have bo5:=rN HO.out Bo.out hb3X HB4.out hgrow;obtain⟨hs1,hs2',⟨H',hs3⟩,hs4⟩:=sN (f:=0) (r:=ndF x) (vs:=[.string x.n,.string x.z,.int .i64 x.c,.int .i64 x.s,.int .i64 x.u,.bool x.d,.slice a' l' c']) (hh:=g) HK.out HO.out HV.out Bo.out hb3X HB4.out hown5 hgrow aj aj aj rfl rfl (C7 HZz0.out HZz1.out HF4.out) (fun i zs hi hz=>HG.out zs (tv hi).2.symm hz) (fun i i' zs zs' h1 _ h2 _=>(tv h1).1.trans (tv h2).1.symm);have e1:(c.ns.take (k+1)).map ndF=(c.ns.take k).map ndF++[ndF x]:=by rw[F6,HX.out];simp
   exact Cw
  ·have hkl:k=l1:=af
   have h5:=HV.out;rw[FF af] at h5;obtain⟨p1,q1,hv,hR⟩:=h5.own HO.out bG aj (fun g hg=>(HO.lt g hg).1);have hl5:(c.ns.map ndF).length=l1:=by simpa using hl1
   rw[hl5] at hv hR;subst hv;have R1:=aa (hR.gp Bo.out aj aj);replace R2:=aa (R2.aM (fun k hk s=>HK.block k hk (fun q9=>by rcases q9 with q9|q9;exact s.2 q9;omega)) (fun _ _ s=>s));replace R4:=aa (R4.aM (fun k hk s=>HK.block k hk (fun q9=>by rcases q9 with q9|q9;exact s.2 q9;omega)) (fun _ _ s=>s));replace Br:=aa ((HK.block (w.heap.size+1) af (fun s=>by rcases s with s|s <;> omega)).trans Br.out);replace Bk:=BkR;replace BoX:=Bo;replace HBX:=HBW;have hb3X1:=ae BoX.out;clear BkR Bo HBW h5 hR HV HO HK hl5 hkl hk hKs hXs;generalize wr=X1 at*;obtain⟨k0,k1,k2,k3,k4,k5⟩:=cs6 Bk;go_wp2;clear k0 k1 k2 k3 k4 k5 hlt;go_loopw [6] (fun vi wr=> ∃(k:Nat) (vss:List (List Value)) (H:Nat->Nat->Nat) (v:Value),k<=l3/\vi=.int .i64 k/\Hid (aC (Cps b3 X1) X1 wr)/\Hid (wr.ownsRow X1.heap.size 99 8 v k vss.flatten)/\Hid (aX wr (fun k=>X1.heap.size<=k) 8 ((c.vs.take k).map vdF) vss H)/\Hid (wr.heap[b3]?=some (.cells #[.slice p1 l1 q1,.slice p2 l2 q2,v,.slice p4 l4 q4,.slice none 0 0,.int .i64 c.now] 36 (0,0)))) (fun vi _=>l3 - (intOf vi).toNat);case atStart=>exact⟨0,[],fun _ _=>0,.slice none 0 0,by omega,rfl,aC.refl _ _,Gj _ _ _ _,aX.nil _ _ _ _,BoX⟩
   case round=>
    obtain⟨k,vss,H,v,hk,rfl,HK,HO,HV,Bo⟩:=hrel;obtain⟨hXs,HBW,BkR,hKs⟩:=vt;by_cases hlt:k<l3
    ·obtain⟨b,o,x,rfl,hb0,hx,hat⟩:=bN HR.v hlt;obtain⟨va,vl,vc,hvr,z0,z2,z3,z5,c0,c1,c2,c3,c4,c5,c6,c7⟩:=aK hat;have hz8:vl<=8001:=by have h1:=hvr.1;have h2:=HS.vs k x hx;omega
     have HX:=aa hx;have HT:=aa hvr;have HZz0:=aa z0;have HZz2:=aa z2;have HZz3:=aa z3;have HZz5:=aa z5;clear hat hx hvr z0 z2 z3 z5;replace c0:=(ak HBW.out hb0).trans c0;replace c1:=(ak HBW.out hb0).trans c1;replace c2:=(ak HBW.out hb0).trans c2;replace c3:=(ak HBW.out hb0).trans c3;replace c4:=(ak HBW.out hb0).trans c4;replace c5:=(ak HBW.out hb0).trans c5;replace c6:=(ak HBW.out hb0).trans c6;replace c7:=(ak HBW.out hb0).trans c7;have hbr:=FE hb0 HBW.size;have hkr:=ae BkR.out;have hor:=ae Bo.out;have hz:i3.zero=some (.agg #[.string ⟨#[]⟩,.int .i64 0,.string ⟨#[]⟩,.string ⟨#[]⟩,.bool false,.string ⟨#[]⟩,.bool false,.slice none 0 0])/\i3.size=8/\i3.bytes=112:=by have:=HI3.2;simp only[IF] at this;exact this
     obtain⟨k0,k1,k2,k3,k4,k5⟩:=cs6 BkR;have hvb:=fun g hg=>(HO.lt g hg).2;go_wp2_with fail;clear k0 k1 k2 k3 k4 k5;rename_i K0 hK0;refine Gi.aR (R:=Rv v.ownBlock 59) (ex:=fun _=>none) (Rv.rel _ _) aq rfl rfl aq aq ?_;refine' Gi.au.an _ rfl ?_ ?_;rotate_left 1
     ·exact xp
     refine' Gi.au.an _ rfl ?_ ?_;rotate_left 1
     ·refine Gi.Obl.plain rfl ?_;intro ac wg K lo hi hsz hW hpr hf hap hK;clear hsz hap hpr;have hW:wr.grownBy wg v.ownBlock:=hW;have e50:=hf 50 aj;simp[Gi.ai,Fs] at e50;clear hf;obtain⟨o0,o1,o2,o3,o4,o5⟩:=cs6 ((hW.block b3 hor (fun e=>by have:=(HO.lt _ e.symm).1;omega)).trans Bo.out);exact jO
     refine' Gi.au.an _ rfl ?_ ?_;rotate_left 1
     ·refine Gi.Obl.plain rfl ?_;intro ac wg K lo hi hsz hW hpr hf hap hK;clear hsz hap hpr;have hW:wr.grownBy wg v.ownBlock:=hW;have e1:=hf 1 aj;simp[Gi.ai,Fs] at e1;clear hf;exact jO
     refine' Gi.au.an _ rfl ?_ ?_;rotate_left 1
     ·refine Gi.Obl.plain rfl ?_;intro ac wg K lo hi hsz hW hpr hf hap hK;clear hsz hap hpr;have hW:wr.grownBy wg v.ownBlock:=hW;have e52:=hf 52 aj;simp[Gi.ai,Fs] at e52;clear hf;obtain⟨k0,k1,k2,k3,k4,k5⟩:=cs6 ((hW.block w.heap.size hkr (fun e=>by have:=(HO.lt _ e.symm).1;omega)).trans BkR.out);exact jO
     refine' Gi.au.an _ rfl ?_ ?_;rotate_left 1
     ·refine Gi.Obl.plain rfl ?_;intro ac wg K lo hi hsz hW hpr hf hap hK;clear hsz hap hpr;have hW:wr.grownBy wg v.ownBlock:=hW;have e6:=hf 6 aj;simp[Gi.ai,Fs] at e6;clear hf;exact jO
     refine' Gi.au.an _ rfl ?_ ?_;rotate_left 1
     ·refine Gi.Obl.plain rfl ?_;intro ac wg K lo hi hsz hW hpr hf hap hK;clear hsz hap hpr;have hW:wr.grownBy wg v.ownBlock:=hW;have e53:=hf 53 aj;simp[Gi.ai,Fs] at e53;have e54:=hf 54 aj;simp[Gi.ai,Fs] at e54;clear hf;exact jO
     refine' Gi.au.an _ rfl ?_ ?_;rotate_left 1
     ·refine Gi.Obl.plain rfl ?_;intro ac wg K lo hi hsz hW hpr hf hap hK;clear hsz hap hpr;have hW:wr.grownBy wg v.ownBlock:=hW;have e55:=hf 55 aj;simp[Gi.ai,Fs] at e55;clear hf;have c0g:=(Gc (hW.block b hbr (fun e=>by have:=(HO.lt _ e.symm).1;omega))).trans c0;have c1g:=(Gc (hW.block b hbr (fun e=>by have:=(HO.lt _ e.symm).1;omega))).trans c1;have c2g:=(Gc (hW.block b hbr (fun e=>by have:=(HO.lt _ e.symm).1;omega))).trans c2;have c3g:=(Gc (hW.block b hbr (fun e=>by have:=(HO.lt _ e.symm).1;omega))).trans c3;have c4g:=(Gc (hW.block b hbr (fun e=>by have:=(HO.lt _ e.symm).1;omega))).trans c4;have c5g:=(Gc (hW.block b hbr (fun e=>by have:=(HO.lt _ e.symm).1;omega))).trans c5;have c6g:=(Gc (hW.block b hbr (fun e=>by have:=(HO.lt _ e.symm).1;omega))).trans c6;have c7g:=(Gc (hW.block b hbr (fun e=>by have:=(HO.lt _ e.symm).1;omega))).trans c7;exact jO
     refine Gi.au.step (TvF wr.heap.size x) rfl (TvF.mono hvb) ?_ ?_
     ·refine Gi.Obl.plain rfl ?_;intro ac wg K lo hi hsz hW hpr hf hap hK;clear hsz hap hpr;have hW:wr.grownBy wg v.ownBlock:=hW;have e56:=hf 56 aj;simp[Gi.ai,Fs] at e56;clear hf;have hBg:=HBW.grown hW HBW.size (fun g hg=>by have:=(HO.lt g hg).1;omega);go_simp;refine (Ap.D6 x.n x.c x.z x.k x.x x.m x.y va vl vc x.zs _ (HT.below hBg) hz8).mono ?_;rintro e w6 ⟨a',l',c',rfl,ho1,ho2,hb6⟩;have hws:=hW.size;exact hK _ _ (Rv.other aj hb6) ⟨a',l',c',rfl,cA.bA ⟨ho1,ho2⟩ (fun k _ s=>FA hws s)⟩
     refine Gi.au.step (BsF wr.heap.size x) rfl (BsF.mono hvb) ?_ ?_
     ·refine Gi.Obl.plain rfl ?_;intro ac wg K lo hi hsz hW hpr hf hap hK;clear hsz hap hpr;have hW:wr.grownBy wg v.ownBlock:=hW;have e57:=hf 57 aj;simp[Gi.ai,Fs] at e57;clear hf;obtain⟨a',l',c',e57,ho⟩:=e57;have HO7:=aa ho;clear ho;go_simp;exact hK _ _ (Rv.other aj (al _ _)) ⟨_,a',l',c',rfl,hW.size,FD,HO7.below (al _ _)⟩
     refine Gi.au.step (ApF X1.heap.size k ((c.vs.take (k+1)).map vdF) vss) rfl (ApF.mono) ?_ ?_
     ·refine Gi.Obl.plain rfl ?_;intro ac wg K lo hi hsz hW hpr hf hap hK;clear hsz hap;have hW:wr.grownBy wg v.ownBlock:=hW;have e51:=hf 51 aj;simp[Gi.ai,Fs] at e51;have e58:=hf 58 aj;simp[Gi.ai,Fs] at e58;clear hf;have hbW:=hpr rfl;clear hpr;obtain⟨b5,a',l',c',e58,hb5,hg5,ho5⟩:=e58;obtain⟨g,hg⟩:=ho5.fr;have hws:=hW.size;refine wp_append_own wg (.tmp 51) (.tmp 58) 32 rfl X1.heap.size 99 i3 (.agg #[.string ⟨#[]⟩,.int .i64 0,.string ⟨#[]⟩,.string ⟨#[]⟩,.bool false,.string ⟨#[]⟩,.bool false,.slice none 0 0]) 8 112 Tryz.underlying32 HI3.1 hz.1 hz.2.1 hz.2.2 rfl aj v k vss.flatten (by simpa[Iu] using e51) (bM HO.out hbW) ⟨b5,0,none⟩ 1 1 [.string x.n,.int .i64 x.c,.string x.z,.string x.k,.bool x.x,.string x.m,.bool x.y,.slice a' l' c'] (by simpa[Iu] using e58) rfl (yZ hg5) (by intro u hu;simp only[Gl,GU,or_false] at hu;rcases hu with rfl|rfl|rfl|rfl|rfl|rfl|rfl|rfl <;> rfl) (by unfold maxLen;have:=HS.v;omega) (by have:=HS.v;omega) af ?_;intro v' w' hown hgr _;have hV:=HV.app (r:=vdF x) (vs:=[.string x.n,.int .i64 x.c,.string x.z,.string x.k,.bool x.x,.string x.m,.bool x.y,.slice a' l' c']) (hh:=g) hbW (bM HO.out hbW) aj hgr rfl rfl (ui HZz0.out HZz2.out HZz3.out HZz5.out (hg.aM (S':=fun k=>X1.heap.size<=k) (fun cu _ q=>rfl) (fun _ s=>by have s1:wr.heap.size<=g:=s;show X1.heap.size<=g;omega))) (fun i zs hi hz=>by obtain⟨_,rfl⟩:=s_ hi;exact (hg.lt hz).1) (fun i i' zs zs' h1 _ h2 _=>(s_ h1).1.trans (s_ h2).1.symm);have e1:(c.vs.take (k+1)).map vdF=(c.vs.take k).map vdF++[vdF x]:=by rw[F6,HX.out];simp
      rw[<-e1] at hV;exact hK _ _ (Rv.this hgr) ⟨_,[.string x.n,.int .i64 x.c,.string x.z,.string x.k,.bool x.x,.string x.m,.bool x.y,.slice a' l' c'],by rw[It];simpa using hown,hV⟩
     refine' Gi.au.an _ rfl ?_ ?_;rotate_left 1
     ·exact xp
     refine Gi.au.done ?_;intro q wz lo hi hW hf hap;clear hap;have hW:wr.grownBy wz v.ownBlock:=hW;simp only[FI] at hf;obtain⟨h60,h59,-⟩:=hf;have h60:=h60 cr;obtain⟨H',vs',hs2,hs3⟩:=h59 cr;obtain⟨v',hv'⟩:∃v',q 59=v':=⟨_,rfl⟩;rw[hv'] at hs2;obtain⟨v1',v2',v3',rfl⟩:=bu hs2;have bo5:=(hW.block b3 hor (fun e=>by have:=(HO.lt _ e.symm).1;omega)).trans Bo.out;have HS1:=aa (((HK.trans (aC.oy hW (fun g e=>.inr (HO.lt g e).1))).set (i:=2) (v:=.slice v1' v2' v3') (.inl rfl)));have HS2:=aa (ot (i:=2) (u:=.slice v1' v2' v3') hs2 bo5 aj);have HS3:=aa (hs3.set (i:=2) (u:=.slice v1' v2' v3') bo5 aj);have HS4:=aa (aA (i:=2) bo5 (.slice v1' v2' v3'));obtain⟨o0,o1,o2,o3,o4,o5⟩:=cs6 bo5;have fo0:=av bo5 0;have fo2:=av bo5 2;have fo4:=av bo5 4;clear bo5 hs2 hs3 hW c0 c1 c2 c3 c4 c5 c6 c7;intro K hK;rw[if_pos bF];simp only[Gi.aE,Gd,GO,Fz,FH,FM,h60,hv'];simp only[G3];go_simp;refine hK _ _ ?_;refine hK0 _ _ ?_;clear hK hK0 K K0;go_wp2;exact⟨⟨k+1,_,H',_,by omega,by go_num,HS1,HS2,HS3,HS4⟩,by simp[intOf];omega⟩
    ·have hkl:k=l3:=af
     have h5:=HV.out;rw[FF af] at h5;obtain⟨p3,q3,hv,hR⟩:=h5.own HO.out bG aj (fun g hg=>(HO.lt g hg).1);have hl5:(c.vs.map vdF).length=l3:=by simpa using hl3
     rw[hl5] at hv hR;subst hv;have R3:=aa (hR.gp Bo.out aj aj);replace R2:=aa (R2.aM (fun k hk s=>HK.block k hk (fun q9=>by rcases q9 with q9|q9;exact s.2 q9;omega)) (fun _ _ s=>s));replace R4:=aa (R4.aM (fun k hk s=>HK.block k hk (fun q9=>by rcases q9 with q9|q9;exact s.2 q9;omega)) (fun _ _ s=>s));replace R1:=aa (R1.aM (fun k hk s=>HK.block k hk (fun q9=>by rcases q9 with q9|q9;exact s.2 q9;omega)) (fun _ _ s=>s));replace Br:=aa ((HK.block (w.heap.size+1) af (fun s=>by rcases s with s|s <;> omega)).trans Br.out);replace Bk:=BkR;replace BoX:=Bo;replace HBX:=HBW;have hb3X2:=ae BoX.out;clear BkR Bo HBW h5 hR HV HO HK hl5 hkl hk hKs hXs;generalize wr=X2 at*;obtain⟨k0,k1,k2,k3,k4,k5⟩:=cs6 Bk;go_wp2;clear k0 k1 k2 k3 k4 k5 hlt;go_loopw [7] (fun vi wr=> ∃(k:Nat) (vss:List (List Value)) (H:Nat->Nat->Nat) (v:Value),k<=l5/\vi=.int .i64 k/\Hid (aC (Cps b3 X2) X2 wr)/\Hid (wr.ownsRow X2.heap.size 64 6 v k vss.flatten)/\Hid (aX wr (fun k=>X2.heap.size<=k) 6 ((c.ps.take k).map pdF) vss H)/\Hid (wr.heap[b3]?=some (.cells #[.slice p1 l1 q1,.slice p2 l2 q2,.slice p3 l3 q3,.slice p4 l4 q4,v,.int .i64 c.now] 36 (0,0)))) (fun vi _=>l5 - (intOf vi).toNat);case atStart=>exact⟨0,[],fun _ _=>0,.slice none 0 0,by omega,rfl,aC.refl _ _,Gj _ _ _ _,aX.nil _ _ _ _,BoX⟩
     case round=>
      obtain⟨k,vss,H,v,hk,rfl,HK,HO,HV,Bo⟩:=hrel;obtain⟨hXs,HBW,BkR,hKs⟩:=vt;by_cases hlt:k<l5
      ·obtain⟨b,o,x,rfl,hb0,hx,hat⟩:=bY HR.p hlt;obtain⟨va,vl,vc,hvr,z0,z2,z4,c0,c1,c2,c3,c4,c5⟩:=aT hat;have hz8:vl<=8001:=by have h1:=hvr.1;have h2:=HS.ps k x hx;omega
       have HX:=aa hx;have HT:=aa hvr;have HZz0:=aa z0;have HZz2:=aa z2;have HZz4:=aa z4;clear hat hx hvr z0 z2 z4;replace c0:=(ak HBW.out hb0).trans c0;replace c1:=(ak HBW.out hb0).trans c1;replace c2:=(ak HBW.out hb0).trans c2;replace c3:=(ak HBW.out hb0).trans c3;replace c4:=(ak HBW.out hb0).trans c4;replace c5:=(ak HBW.out hb0).trans c5;have hbr:=FE hb0 HBW.size;have hkr:=ae BkR.out;have hor:=ae Bo.out;have hz:i5.zero=some (.agg #[.string ⟨#[]⟩,.int .i64 0,.string ⟨#[]⟩,.slice none 0 0,.string ⟨#[]⟩,.int .i64 0])/\i5.size=6/\i5.bytes=88:=by have:=HI5.2;simp only[IF] at this;exact this
       obtain⟨k0,k1,k2,k3,k4,k5⟩:=cs6 BkR;go_wp2_with (first|(at_builtin;refine gz rfl _ _ rfl (wr.heap.size+1) rfl (bE _ _ _) va vl vc rfl x.zs (HT.below (HBW.trans ((aF _ _ _).mono HBW.size))) hz8 ?_));intro a' l' c' w2 hT2 hb2;obtain⟨hn2,-,hbx⟩:=r9 hb2;obtain⟨g,hg⟩:=hT2.fr;obtain⟨hs2,hsl⟩:=BE;have hb4:Below wr.heap.size wr ((w2.setCell ⟨wr.heap.size,3,none⟩ (.slice a' l' c')).alloc (.cells (pov x a' l' c') 64)):=(ah (Ft _) hbx).alloc jJ _;have HF4:Hid (LFr ((w2.setCell ⟨wr.heap.size,3,none⟩ (.slice a' l' c')).alloc (.cells (pov x a' l' c') 64)) g (fun k=>X2.heap.size<=k) x.zs (.slice a' l' c')):=hg.aM (fun cu _ q=>(Fy _ _ _ (by simp[Gf];exact ae q)).trans (Fp _ _ _ _ (fun e=>by subst e;rw[hn2] at q;cases q))) (fun _ s=>by have:=hsl _ s;show X2.heap.size<=g;omega);obtain⟨HG,HB4,HO4⟩:=vA;obtain⟨n0,n1,n2,n3,n4,n5⟩:=cs6 hn2;have fn3:=av hn2 3;have bo2:=(hbx.block _ hor).trans Bo.out;obtain⟨o0,o1,o2,o3,o4,o5⟩:=cs6 bo2;clear hn2 hbx hT2 hg hb2 hsl hb4 bo2 k0 k1 k2 k3 k4 k5 c0 c1 c2 c3 c4 c5;go_wp2_with (first|(at_builtin;refine wpList_append_own _ rfl _ _ 34 rfl X2.heap.size 64 i5 (.agg #[.string ⟨#[]⟩,.int .i64 0,.string ⟨#[]⟩,.slice none 0 0,.string ⟨#[]⟩,.int .i64 0]) 6 88 Tryz.underlying34 HI5.1 hz.1 hz.2.1 hz.2.2 rfl aj _ _ _ rfl HO4.out ⟨w2.heap.size,0,none⟩ 1 1 [.string x.n,.int .i64 x.c,.string x.z,.slice a' l' c',.string x.d,.int .i64 x.p] rfl rfl ?c1 ?c2 ?c3 ?c4 ?c5 ?_));case c1=>exact fV _ _ (by simp[Gf]) _ _
       case c2=>intro u hu;simp only[Gl,GU,or_false] at hu;rcases hu with rfl|rfl|rfl|rfl|rfl|rfl <;> rfl
       case c3=>unfold maxLen;have:=HS.p;omega
       case c4=>have:=HS.p;omega
       case c5=>simp[Gf];omega
       rintro v' w5 hown5 hgrow -;obtain⟨v1',v2',v3',rfl⟩:=bu hown5;clear n0 n1 n2 n3 fn3 n4 n5 o0 o1 o2 o3 o4 o5;have bo5:=rN HO.out Bo.out hb3X2 HB4.out hgrow;obtain⟨hs1,hs2',⟨H',hs3⟩,hs4⟩:=sN (f:=4) (r:=pdF x) (vs:=[.string x.n,.int .i64 x.c,.string x.z,.slice a' l' c',.string x.d,.int .i64 x.p]) (hh:=g) HK.out HO.out HV.out Bo.out hb3X2 HB4.out hown5 hgrow aj aj aj rfl rfl (C5 HZz0.out HZz2.out HZz4.out HF4.out) (fun i zs hi hz=>HG.out zs (tn hi).2.symm hz) (fun i i' zs zs' h1 _ h2 _=>(tn h1).1.trans (tn h2).1.symm);have e1:(c.ps.take (k+1)).map pdF=(c.ps.take k).map pdF++[pdF x]:=by rw[F6,HX.out];simp
       exact Cw
      ·have hkl:k=l5:=af
       have h5:=HV.out;rw[FF af] at h5;obtain⟨p5,q5,hv,hR⟩:=h5.own HO.out bG aj (fun g hg=>(HO.lt g hg).1);have hl5:(c.ps.map pdF).length=l5:=by simpa using hl5
       rw[hl5] at hv hR;subst hv;have R5:=aa (hR.gp Bo.out aj aj);replace R2:=aa (R2.aM (fun k hk s=>HK.block k hk (fun q9=>by rcases q9 with q9|q9;exact s.2 q9;omega)) (fun _ _ s=>s));replace R4:=aa (R4.aM (fun k hk s=>HK.block k hk (fun q9=>by rcases q9 with q9|q9;exact s.2 q9;omega)) (fun _ _ s=>s));replace R1:=aa (R1.aM (fun k hk s=>HK.block k hk (fun q9=>by rcases q9 with q9|q9;exact s.2 q9;omega)) (fun _ _ s=>s));replace R3:=aa (R3.aM (fun k hk s=>HK.block k hk (fun q9=>by rcases q9 with q9|q9;exact s.2 q9;omega)) (fun _ _ s=>s));replace Br:=aa ((HK.block (w.heap.size+1) af (fun s=>by rcases s with s|s <;> omega)).trans Br.out);replace Bk:=BkR;replace BoX:=Bo;replace HBX:=HBW;clear BkR Bo HBW h5 hR HV HO HK hl5 hkl hk hKs hXs;generalize wr=X3 at*;obtain⟨k0,k1,k2,k3,k4,k5⟩:=cs6 Bk;obtain⟨o0,o1,o2,o3,o4,o5⟩:=cs6 BoX;obtain⟨r0,r1,r2,r3,r4,r5⟩:=cs6 Br;have hXs:=HBX.size;obtain⟨fr0,fr1,fr2,fr3,fr4,fr5⟩:=gJ;go_wp2;refine bodyPost_ret (v:=.agg #[.slice p1 l1 q1,.slice p2 l2 q2,.slice p3 l3 q3,.slice p4 l4 q4,.slice p5 l5 q5,.int .i64 c.now]) (by simp[results,Tryz.results23,go_sem, *]) rfl ⟨⟨p1,l1,q1,p2,l2,q2,p3,l3,q3,p4,l4,q4,p5,l5,q5⟩,rfl,⟨?_,?_,?_,?_,?_⟩,sb1 (sb1 (sb1 (sb1 (sb1 (sb1 (HBX.out))))))⟩
       ·exact (R1.aM (S':=fun k=>w.heap.size<=k) (fun k hk s=>eK (by have s1:X.heap.size<=k:=s.1;omega)) (fun k _ s=>by have s1:X.heap.size<=k:=s.1;show w.heap.size<=k;omega))
       ·exact (R2.aM (S':=fun k=>w.heap.size<=k) (fun k hk s=>eK (by have s1:W.heap.size<=k:=s.1;omega)) (fun k _ s=>by have s1:W.heap.size<=k:=s.1;show w.heap.size<=k;omega))
       ·exact (R3.aM (S':=fun k=>w.heap.size<=k) (fun k hk s=>eK (by have s1:X1.heap.size<=k:=s.1;omega)) (fun k _ s=>by have s1:X1.heap.size<=k:=s.1;show w.heap.size<=k;omega))
       ·exact (R4.aM (S':=fun k=>w.heap.size<=k) (fun k hk s=>eK (by have s1:W.heap.size<=k:=s.1;omega)) (fun k _ s=>by have s1:W.heap.size<=k:=s.1;show w.heap.size<=k;omega))
       ·exact (R5.aM (S':=fun k=>w.heap.size<=k) (fun k hk s=>eK (by have s1:X2.heap.size<=k:=s.1;omega)) (fun k _ s=>by have s1:X2.heap.size<=k:=s.1;show w.heap.size<=k;omega))

theorem ez {m:Nat} {vss:List (List Value)} (hl:∀(j:Nat) vs,vss[j]?=some vs->vs.length=m) {k:Nat} (hk:k<=vss.length):(vss.take k).flatten.length=k*m:=by
 rw[dr (m:=m) (fun j vs h=>?_),FQ,IB hk];rw[FR] at h;split at h
 ·exact hl j vs h
 ·cases h
theorem iN {m:Nat} {vss:List (List Value)} (hl:∀(j:Nat) vs,vss[j]?=some vs->vs.length=m) {k:Nat} :(vss.drop k).flatten.length=(vss.length - k)*m:=by
 rw[dr (m:=m) (fun j vs h=>?_),GJ];rw[Gw] at h;exact hl _ vs h
theorem lO {vss:List (List Value)} {k i:Nat} {u:Value} (h:(vss.take k).flatten[i]?=some u):vss.flatten[i]?=some u:=by
 have h1:vss.flatten=(vss.take k).flatten++(vss.drop k).flatten:=sg
 rw[h1,FN (Fm.1 h).1];exact h
theorem mD {m:Nat} {vss:List (List Value)} (hl:∀(j:Nat) vs,vss[j]?=some vs->vs.length=m) {k i:Nat} {u:Value} (hk:k<=vss.length) (h:(vss.drop k).flatten[i]?=some u):vss.flatten[k*m+i]?=some u:=by
 have h1:vss.flatten=(vss.take k).flatten++(vss.drop k).flatten:=sg
 rw[h1,Gh (by rw[ez hl hk];omega),ez hl hk,Nat.add_sub_cancel_left];exact h
theorem cQ {P:Value->Prop} {vss:List (List Value)} (h:∀u∈vss.flatten,P u) (k:Nat):(∀u∈(vss.take k).flatten,P u)/\∀u∈(vss.drop k).flatten,P u:=by
 have h1:vss.flatten=(vss.take k).flatten++(vss.drop k).flatten:=sg
 exact⟨fun u hu=>h u (by rw[h1];exact Hk _ hu),fun u hu=>h u (by rw[h1];exact List.mem_append_right _ hu)⟩

theorem uJ (p:Int) (w:World):
  Calls Tryz.prog 22 #[.int .i64 p] w fun e w'=>e=.returned (.agg #[.slice none 0 0,.slice none 0 0,.slice none 0 0,.slice none 0 0,.slice none 0 0,.int .i64 0,.string ⟨#[]⟩,.int .i64 p])/\Below w.heap.size w w':=by
 go_enter Tryz.func22,Tryz.ntmps22;go_wp2;exact bodyPost_ret (v:=.agg #[.slice none 0 0,.slice none 0 0,.slice none 0 0,.slice none 0 0,.slice none 0 0,.int .i64 0,.string ⟨#[]⟩,.int .i64 p]) (by simp[results,Tryz.results22,go_sem]) rfl ⟨rfl,al _ _⟩

theorem mO {α:Type} {nm:α->ByteArray} {t:ByteArray} {xs:List α} {k:Nat} {x:α} (hr:aP nm xs) (hx:xs[k]?=some x) (hn:nm x=t):wo nm t xs=xs.take k++xs.drop (k+1):=by
 have hk:k<xs.length:=(Fm.1 hx).1;have e:xs=xs.take k++x ::xs.drop (k+1):=by
  have h1:xs.drop k=x ::xs.drop (k+1):=by rw[List.drop_eq_getElem_cons hk];congr 1;exact (Fm.1 hx).2
  rw[<-h1,G5]
 have hno:∀(j:Nat) y,xs[j]?=some y->¬j=k->(!((nm y).toList==t.toList))=true:=fun j y hj hne=>by
  have:¬nm y=t:=fun q=>hne (hr.inj hj hx (q.trans hn.symm)).1;simp[bC this]
 have h1:(xs.take k).filter (fun x=> !((nm x).toList==t.toList))=xs.take k:=List.filter_eq_self.2 fun y hy=>by
  obtain⟨j,hj⟩:=FW hy;rw[FR] at hj;split at hj
  ·exact hno j y hj af
  ·cases hj
 have h2:(xs.drop (k+1)).filter (fun x=> !((nm x).toList==t.toList))=xs.drop (k+1):=List.filter_eq_self.2 fun y hy=>by
  obtain⟨j,hj⟩:=FW hy;rw[Gw] at hj;exact hno _ y hj af
 unfold wo;conv=>lhs;rw[e]
 rw[Hr,List.filter_cons,h1,h2,a9 hn];rfl

theorem iw (w:World) (t t' ty e e':TypeId) (i:TypeInfo) (ht:Tryz.prog.underlying t=some (.slice e)) (ht':Tryz.prog.underlying t'=some (.slice e')) (hi:Tryz.prog.info? e=some i) (a:Option Addr) (l c:Nat) (b:Value):(GG #[t,t'] ty #[.slice a l c,b]).run Tryz.prog w=(GG #[t,t] ty #[.slice a l c,b]).run Tryz.prog w:=by
 simp[GG,run_underlying ht,run_underlying ht',sizeOf,typeInfo,hi]
theorem bj {w:World} {ops:Array Oper} {rest:List Oper} {o:Oper} {a:Act} {Q:Exit->Act->World->Prop} (hgd:o.guard=none) (s x:Operand) (t t':TypeId)
  (ho:o.op=.call { callee:=.builtin .append,args:=#[s,x],argTypes:=#[t,t'] })
  (base:Nat) (e e':TypeId) (i:TypeInfo) (z:Value) (size bytes:Nat) (ht:Tryz.prog.underlying t=some (.slice e)) (ht':Tryz.prog.underlying t'=some (.slice e')) (hi:Tryz.prog.info? e=some i) (hz:i.zero=some z)
  (hsize:i.size=size) (hby:i.bytes=bytes) (hzs:z.cells.size=size) (hsz:0<size)
  (v:Value) (n:Nat) (xs:List Value) (hs:a.eval s=v) (hown:w.ownsRow base e size v n xs)
  (ad:Addr) (m c:Nat) (news:List Value) (hx:a.eval x=.slice (some ad) m c) (hl:news.length=m*size) (hnews:∀j u,news[j]?=some u->w.cell? (ad.add j)=some u) (h1:∀u∈news,u.oneCell'=true)
  (h63:n+m<=maxLen) (hbytes:(n+m)*bytes<=140737488355328) (hbase:base<=w.heap.size)
  (h:∀v' w',w'.ownsRow base e size v' (n+m) (xs++news)->w.grownBy w' v.ownBlock->wpList Tryz.prog ops Q rest (a.put o.dst v') w'):wpList Tryz.prog ops Q (o ::rest) a w:=by
 refine wpList_plain hgd fun K hK=>?_;obtain⟨v',w',hr,h2,h3,h4⟩:=run_append_own (P:=Tryz.prog) w base t o.type e i z size bytes ht hi hz hsize hby hzs hsz v n xs hown ad m c news hl hnews h1 h63 hbytes hbase;obtain⟨va,vl,vc,rfl⟩:∃a l c,v=.slice a l c:=by
  exact wO
 rw[<-iw w t t' o.type e e' i ht ht' hi] at hr;exact yq
theorem bp (w:World) (dT sT ty elem:TypeId) (g o dLen dCap:Nat) (a:Addr) (sLen sCap m:Nat) (cur:Array Value) (t:TypeId) (cs:List Value) (i:TypeInfo)
  (hu:Tryz.prog.underlying dT=some (.slice elem)) (hi:Tryz.prog.info? elem=some i) (hs:i.size=m)
  (hg:w.heap[g]?=some (.cells cur t (0,0))) (hn:cs.length=Nat.min sLen dLen*m)
  (hsrc:∀j v,cs[j]?=some v->w.cell? (a.add j)=some v) (hfit:o+cs.length<=cur.size) (h1:∀v∈cs,v.oneCell'=true):
  (GS #[dT,sT] ty #[.slice (some ⟨g,o,none⟩) dLen dCap,.slice (some a) sLen sCap]).run Tryz.prog w=
   .ok (goInt (Nat.min sLen dLen)) (w.setRow g (cur.toList.take o++cs++cur.toList.drop (o+cs.length)).toArray):=by
 have hl:=run_loadCells_list (P:=Tryz.prog) w a cs hsrc;have hst:=run_storeCells_at Tryz.prog g o t cs 0 cur w hg (by simpa using hfit) h1;rw[hn] at hl;simp[GS,run_underlying hu,Builtin.lenOf,Hs,sizeOf,typeInfo,hi,hs,hl,hst]
theorem bV (w:World) {ops:Array Oper} {rest:List Oper} {o:Oper} {a:Act} {Q:Exit->Act->World->Prop} (hgd:o.guard=none) (d s:Operand) (t t':TypeId)
  (ho:o.op=.call { callee:=.builtin .copy,args:=#[d,s],argTypes:=#[t,t'] }) (v u:Value) (hd:a.eval d=v) (hs:a.eval s=u) {v':Value} {w':World}
  (hr:(GS #[t,t'] o.type #[v,u]).run Tryz.prog w=.ok v' w') (h:wpList Tryz.prog ops Q rest (a.put o.dst v') w'):wpList Tryz.prog ops Q (o ::rest) a w:=by
 refine wpList_plain hgd fun K hK=>?_;unfold Oper.wp execOp;simp only[ho,resolve,invoke,builtin,Sem.run_bind,Sem.run_pure,Io,IL,Ia,List.map_nil,hd,hs,hr];exact hK _ _ h
theorem ki {a b c m:Nat} {X ys cur c1:List Value} (hX:cur.take b=X) (hc:cur.length=c) (h1:a+m<=b) (h2:b+m<=c) (hy:ys.length=m) (h:c1=cur.take (a+m)++X.drop a++cur.drop (a+m+(X.drop a).length)):(c1.take a++(ys++c1.drop (a+m))).take (b+m)=X.take a++ys++X.drop a:=by
 have hXl:X.length=b:=by rw[<-hX,FQ];omega
 have e1:c1.take a=X.take a:=by
  rw[h,G6,List.take_append_of_le_length jK,List.take_take,<-hX,List.take_take];congr 1;omega
 have e2:c1.drop (a+m)=X.drop a++cur.drop (a+m+(X.drop a).length):=by
  rw[h,G6];exact List.drop_left' jK
 rw[e1,e2,<-G6,<-G6];exact ID BC
theorem iM {a b m:Nat} {X ys R R2 S:List Value} (hX:R.take a=X.take a) (hXl:X.length=b) (h1:a<=b) (hy:ys.length=m) (h:R2=R.take a++ys++S) (T:List Value):(R2.take (a+m)++X.drop a++T).take (b+m)=X.take a++ys++X.drop a:=by
 have e1:R2.take (a+m)=X.take a++ys:=by
  rw[h,hX];exact ID (by simp only[F7,FQ];omega)
 rw[e1];exact ID BC
theorem gZ (w:World) (g:Nat) (cs:Array Value):w.grownBy (w.setRow g cs) (some g):=⟨rfl,rfl,rfl,by simp[World.setRow],fun k _ h=>setRow_other w g k cs (fun e=>h (by rw[e]))⟩
theorem cG {ops:Array Oper} {o:Oper} {a:Act} {w:World} {K:Act->World->Prop} {Q:Exit->Act->World->Prop} {E:Prop}
  (hg:o.guard=none) (d x:Operand) (dT sT:TypeId) (hop:o.op=Op.call { callee:=Callee.builtin Builtin.copy,args:=#[d,x],argTypes:=#[dT,sT] })
  (v u:Value) (hd:a.eval d=v) (hx:a.eval x=u) {v':Value} {w':World} (hr:(GS #[dT,sT] o.type #[v,u]).run Tryz.prog w=.ok v' w') (hK:K (a.put o.dst v') w'):
  if GW o (yielded ops a.tmps)=true then Oper.wp Tryz.prog o a w K Q else E:=by
 have hw:GW o (yielded ops a.tmps)=true:=by simp[GW,hg]
 rw[if_pos hw];unfold Oper.wp;simp[execOp,hop,resolve,invoke,builtin,hd,hx,hr,Result.andThen];exact hK

def br {α:Type} (p:Nat) (x:α) (xs:List α):List α:=xs.take p++[x]++xs.drop p
theorem d_ {α:Type} {p:Nat} {x:α} {xs:List α} (h:p<=xs.length):(br p x xs).length=xs.length+1:=by
 simp only[br,F7,FQ,GJ,Hb,List.length_nil];omega
theorem kl {α β:Type} (f:α->β) (p:Nat) (x:α) (xs:List α):(br p x xs).map f=br p (f x) (xs.map f):=by simp[br,List.map_take,List.map_drop]
theorem jt {α:Type} {p:Nat} {x:α} {xs:List α} (h:p<=xs.length) (j:Nat) (hj:j<xs.length+1):(br p x xs)[j]?=(xs++[x])[if j<p then j else if j=p then xs.length else j - 1]?:=by
 unfold br;by_cases h1:j<p
 ·rw[if_pos h1,G6,FN jK,FN af,FR,if_pos h1]
 ·rw[if_neg h1];by_cases h2:j=p
  ·subst h2;have hl:(xs.take j).length=j:=by rw[FQ,IB h]
   have e1:(xs.take j++[x]++xs.drop j)[j]?=some x:=by
    rw[G6,Gh af,hl,Nat.sub_self];rfl
   rw[e1,if_pos rfl];simp
  ·rw[if_neg h2,Gh (by simp only[F7,FQ,Hb,List.length_nil];omega),FN af,Gw];congr 1;simp only[F7,FQ,Hb,List.length_nil];omega
theorem iL {α:Type} {m p:Nat} {vss:List (List α)} (h:∀(j:Nat) vs,vss[j]?=some vs->vs.length=m) (hp:p<=vss.length) (vs:List α):(br p vs vss).flatten=vss.flatten.take (p*m)++vs++vss.flatten.drop (p*m):=by
 have hl:((vss.take p).flatten).length=p*m:=by
  rw[dr (m:=m) (fun j v hv=>by
   rw[FR] at hv
   split at hv
   ·exact h j v hv
   ·cases hv),FQ,IB hp]
 have e:vss.flatten=(vss.take p).flatten++(vss.drop p).flatten:=sg
 have e1:vss.flatten.take (p*m)=(vss.take p).flatten:=by rw[e];exact ID hl
 have e2:vss.flatten.drop (p*m)=(vss.drop p).flatten:=by rw[e];exact List.drop_left' hl
 rw[e1,e2];simp[br]
theorem aX.ins {w:World} {S:Nat->Prop} {m:Nat} {rs:List (List Fv)} {vss:List (List Value)} {H:Nat->Nat->Nat} (h:aX w S m rs vss H) {r:List Fv} {vs:List Value} {hh:Nat->Nat} (hr:r.length=m) (hvs:vs.length=m) (hc:∀(i:Nat) f,r[i]?=some f->∃v,vs[i]?=some v/\f.Fr w (hh i) S v)
  (hn:∀(i:Nat) zs,r[i]?=some (.l zs)->zs≠[]->∀(j:Nat) r' (i':Nat) zs',rs[j]?=some r'->r'[i']?=some (.l zs')->zs'≠[]->¬H j i'=hh i)
  (h1:∀(i i':Nat) zs zs',r[i]?=some (.l zs)->zs≠[]->r[i']?=some (.l zs')->zs'≠[]->i=i') {p:Nat} (hp:p<=rs.length):∃H',aX w S m (br p r rs) (br p vs vss) H':=by
 have hl:=h.len;have e1:(br p r rs).length=rs.length+1:=d_ hp;have e2:(br p vs vss).length=vss.length+1:=d_ af;refine⟨_,(h.push hr hvs hc hn h1).Fi (fun j=>if j<p then j else if j=p then rs.length else j - 1) af (fun j hj=>jt hp j af) (fun j hj=>?_) (fun j j' hj hj' e=>?_)⟩
 ·have:=jt (x:=vs) (xs:=vss) (p:=p) af j af;rw[hl] at this;exact this
 ·split at e <;> split at e
  ·exact e
  all_goals (try split at e) <;> (try split at e) <;> omega

end Rc
end Go.Proofs.YtpejepeekdjfoaaGreatDoor

namespace Go.Proofs.YtpejepeekdjfoaaGreatDoor
open Go.RowKit

def svB (c:Int) (z k:ByteArray) (x:Bool) (m:ByteArray) (y:Bool) (c':Int) (k':ByteArray) (x':Bool) (t:ByteArray):Bool:=
 (k.toList==k'.toList) && (x==x') && !y && m.toList.isEmpty && decide (c'<=c) && (t.toList.isEmpty || (z.toList==t.toList))

theorem Dg {a b:Bool} (h:a=b):Ending.returned (.bool a)=.returned (.bool b):=by rw[h]

theorem An (n:ByteArray) (c:Int) (z:ByteArray) (k:ByteArray) (x:Bool) (m:ByteArray) (y:Bool) (a:Option Addr) (len cap:Nat) (n':ByteArray) (c':Int) (k':ByteArray) (x':Bool) (v':ByteArray) (t:ByteArray) (w:World):
  Calls Tryz.prog 172 #[.agg #[.string n,.int .i64 c,.string z,.string k,.bool x,.string m,.bool y,.slice a len cap],.agg #[.string n',.int .i64 c',.string k',.bool x',.string v'],.string t] w fun e w'=>e=.returned (.bool (svB c z k x m y c' k' x' t))/\Below w.heap.size w w':=by
 have HB:=aa (aF w (.cells #[.string n,.int .i64 c,.string z,.string k,.bool x,.string m,.bool y,.slice a len cap] 99) (.cells #[.string n',.int .i64 c',.string k',.bool x',.string v'] 105));unfold svB;cases h0:(k.toList==k'.toList)
 ·exact lg
 cases h1:(x==x')
 ·exact lg
 cases y;case true=>
  exact lg
 cases h2:m.toList.isEmpty
 ·exact lg
 by_cases h3:c'<=c;case neg=>
  have h3':decide (c'<=c)=false:=by simpa using h3
  rw[h3'];exact lg
 have h3':decide (c'<=c)=true:=by simpa using h3
 rw[h3'];cases h4:t.toList.isEmpty
 ·cases h5:(z.toList==t.toList);all_goals (
   go_enter Tryz.func172,Tryz.ntmps172
   go_wp2_with fail;go_ret
   exact⟨rfl,HB.out⟩)
 ·exact lg

def eZ (v u:Vd):Bool:=decide (v.c<u.c) || ((v.c==u.c) && FB v.n.toList u.n.toList)
def df (sv:Vd->Bool) (acc:Option Vd) (v:Vd):Option Vd:=if (sv v && (match acc with|none=>true|some u=>eZ v u))=true then some v else acc
def dd (sv:Vd->Bool) (vs:List Vd):Option Vd:=vs.foldl (df sv) none
def svV (c':Int) (k':ByteArray) (x':Bool) (t:ByteArray) (v:Vd):Bool:=svB v.c v.z v.k v.x v.m v.y c' k' x' t
theorem eS {sv:Vd->Bool} {vs:List Vd} {i:Nat} {v:Vd} (h:vs[i]?=some v):dd sv (vs.take (i+1))=df sv (dd sv (vs.take i)) v:=by
 unfold dd;rw[F6,h];simp
def cY (sv:Vd->Bool) (vs:List Vd) (i:Nat) (r:Int):Prop:=
 (r= -1/\dd sv (vs.take i)=none)\/∃(j:Nat) (u:Vd),r=j/\j<vs.length/\vs[j]?=some u/\dd sv (vs.take i)=some u
theorem cY.no {sv:Vd->Bool} {vs:List Vd} {i:Nat} {r:Int} {v:Vd} (h:cY sv vs i r) (hv:vs[i]?=some v) (hs:sv v=false):cY sv vs (i+1) r:=by
 unfold cY;rw[eS hv];simp only[df,hs,Bool.false_and,Bool.false_eq_true,if_false];exact h
theorem cY.first {sv:Vd->Bool} {vs:List Vd} {i:Nat} {v:Vd} (h:dd sv (vs.take i)=none) (hv:vs[i]?=some v) (hs:sv v=true):cY sv vs (i+1) i:=by
 refine .inr ⟨i,v,rfl,(Fm.1 hv).1,hv,?_⟩;rw[eS hv,h];simp[df,hs]
theorem cY.new {sv:Vd->Bool} {vs:List Vd} {i:Nat} {v u:Vd} (h:dd sv (vs.take i)=some u) (hv:vs[i]?=some v) (hs:sv v=true) (hb:eZ v u=true):cY sv vs (i+1) i:=by
 refine .inr ⟨i,v,rfl,(Fm.1 hv).1,hv,?_⟩;rw[eS hv,h];simp[df,hs,hb]
theorem cY.old {sv:Vd->Bool} {vs:List Vd} {i j:Nat} {v u:Vd} (hj:vs[j]?=some u) (h:dd sv (vs.take i)=some u) (hv:vs[i]?=some v) (hb:eZ v u=false):cY sv vs (i+1) j:=by
 refine .inr ⟨j,u,rfl,(Fm.1 hj).1,hj,?_⟩;rw[eS hv,h];simp[df,hb]

theorem uC (v:Vd) (va:Option Addr) (vl vc:Nat) (n':ByteArray) (c':Int) (k':ByteArray) (x':Bool) (v':ByteArray) (t:ByteArray) (w:World) {b:Bool} (h:svV c' k' x' t v=b):
  Calls Tryz.prog 172 #[.agg #[.string v.n,.int .i64 v.c,.string v.z,.string v.k,.bool v.x,.string v.m,.bool v.y,.slice va vl vc],.agg #[.string n',.int .i64 c',.string k',.bool x',.string v'],.string t] w fun e w'=>e=.returned (.bool b)/\Below w.heap.size w w':=by
 subst h;exact An v.n v.c v.z v.k v.x v.m v.y va vl vc n' c' k' x' v' t w

theorem pE (a:Option Addr) (len cap:Nat) (vs:List Vd) (n':ByteArray) (c':Int) (k':ByteArray) (x':Bool) (v':ByteArray) (t:ByteArray) (w:World) (hr:eE w a len cap vs):
  Calls Tryz.prog 134 #[.slice a len cap,.agg #[.string n',.int .i64 c',.string k',.bool x',.string v'],.string t] w fun e w'=> ∃r:Int,e=.returned (.int .i64 r)/\cY (svV c' k' x' t) vs len r/\Below w.heap.size w w':=by
 have HR:=aa hr;have hvl:=hr.1;have hlc:=FA hr.2.1 hr.2.2.1;clear hr;go_enter Tryz.func134,Tryz.ntmps134;go_wp2;go_loopw [7,8] (fun vk vi wr=> ∃(i:Nat) (r:Int),i<=len/\vk=.int .i64 r/\vi=.int .i64 i/\Hid (cY (svV c' k' x' t) vs i r)/\Hid (wr.heap[w.heap.size]?=some (.cells #[.string n',.int .i64 c',.string k',.bool x',.string v'] 105 (0,0)))/\Hid (Below w.heap.size w wr)) (fun _ vi _=>len - (intOf vi).toNat);case atStart=>exact⟨0,-1,by omega,rfl,rfl,.inl ⟨rfl,rfl⟩,FD,al _ _⟩
 case round=>
  obtain⟨i,r,hi,rfl,rfl,HA,HG,HB⟩:=hrel;by_cases hlt:i<len;case neg=>
   obtain rfl:i=len:=af
   go_wp2;go_ret;exact⟨r,rfl,HA.out,HB.out⟩
  obtain⟨b,o,v,rfl,hb,hv,-,va,vl,vc,-,p0,p1,p2,p3,p4,p5,p6,p7⟩:=(HR.below HB.out).at hlt;have hgl:=ae HG.out;have HV:=aa hv;have hne:=Wd.ne wr;have e0:∀q:Wd wr,q.w.cell? ⟨b,o+i*8,none⟩=some (.string v.n):=fun q=>(q.cell hb).trans p0;have e1:∀q:Wd wr,q.w.cell? ⟨b,o+i*8+1,none⟩=some (.int .i64 v.c):=fun q=>(q.cell hb).trans p1;have e2:∀q:Wd wr,q.w.cell? ⟨b,o+i*8+2,none⟩=some (.string v.z):=fun q=>(q.cell hb).trans p2;have e3:∀q:Wd wr,q.w.cell? ⟨b,o+i*8+3,none⟩=some (.string v.k):=fun q=>(q.cell hb).trans p3;have e4:∀q:Wd wr,q.w.cell? ⟨b,o+i*8+4,none⟩=some (.bool v.x):=fun q=>(q.cell hb).trans p4;have e5:∀q:Wd wr,q.w.cell? ⟨b,o+i*8+5,none⟩=some (.string v.m):=fun q=>(q.cell hb).trans p5;have e6:∀q:Wd wr,q.w.cell? ⟨b,o+i*8+6,none⟩=some (.bool v.y):=fun q=>(q.cell hb).trans p6;have e7:∀q:Wd wr,q.w.cell? ⟨b,o+i*8+7,none⟩=some (.slice va vl vc):=fun q=>(q.cell hb).trans p7;have d0:∀q:Wd wr,q.w.cell? ⟨w.heap.size,0,none⟩=some (.string n'):=fun q=>q.slot HG.out rfl;have d1:∀q:Wd wr,q.w.cell? ⟨w.heap.size,1,none⟩=some (.int .i64 c'):=fun q=>q.slot HG.out rfl;have d2:∀q:Wd wr,q.w.cell? ⟨w.heap.size,2,none⟩=some (.string k'):=fun q=>q.slot HG.out rfl;have d3:∀q:Wd wr,q.w.cell? ⟨w.heap.size,3,none⟩=some (.bool x'):=fun q=>q.slot HG.out rfl;have d4:∀q:Wd wr,q.w.cell? ⟨w.heap.size,4,none⟩=some (.string v'):=fun q=>q.slot HG.out rfl;clear hv p2 p3 p4 p5 p6 p7;cases hs:svV c' k' x' t v
  ·have HF:=aa (fun q:Wd wr=>uC v va vl vc n' c' k' x' v' t q.w hs);have HS:=aa hs;clear hs p0 p1;go_wp2_with fail;refine ag aq aq ?_;repeat (go_big_quiet_step (first|(go_at_call 172;exact Calls.wide (HF.out _))|fail))
   refine wpQuiet_nil ?_;rintro _ ⟨q,rfl⟩;go_wp2_with fail;exact⟨⟨i+1,_,by omega,rfl,by go_num,HA.no HV.out HS.out,(q.b.block _ hgl).trans HG.out,HB.trans (q.b.mono HB.size)⟩,by simp[intOf];omega⟩
  have HF:=aa (fun q:Wd wr=>uC v va vl vc n' c' k' x' v' t q.w hs);have HS:=aa hs;clear hs;rcases HA.out with ⟨rfl,hn⟩|⟨j,u,rfl,hj,hu,hbu⟩
  ·have HN:=aa hn;clear hn p0 p1;go_wp2_with fail;refine ag aq aq ?_;repeat (go_big_quiet_step (first|(go_at_call 172;exact Calls.wide (HF.out _))|fail))
   refine wpQuiet_nil ?_;rintro _ ⟨q,rfl⟩;go_wp2_with fail;exact⟨⟨i+1,_,by omega,rfl,by go_num,cY.first HN.out HV.out HS.out,(q.b.block _ hgl).trans HG.out,HB.trans (q.b.mono HB.size)⟩,by simp[intOf];omega⟩
  obtain⟨b2,o2,u2,e2,hb2,hu2,-,ua,ul,uc,-,s0,s1,-,-,-,-,-,-⟩:=(HR.below HB.out).at (j:=j) af;rw[hu] at hu2;obtain rfl:=Fq hu2;cases e2;have g0:∀q:Wd wr,q.w.cell? ⟨b,o+j*8,none⟩=some (.string u.n):=fun q=>(q.cell hb).trans s0;have g1:∀q:Wd wr,q.w.cell? ⟨b,o+j*8+1,none⟩=some (.int .i64 u.c):=fun q=>(q.cell hb).trans s1;have HBU:=aa hbu;have HU:=aa hu;have hj0:¬(j:Int)<0:=af
  have hj1:decide ((j:Int)<0)=false:=aS
  have hjl:(j:Int)<len:=af
  clear hu hu2 hbu s0 s1 p0 p1 hb2;by_cases h1:v.c<u.c
  ·have q1:decide (v.c<u.c)=true:=by simpa using h1
   have HX:=aa (show eZ v u=true by simp[eZ,h1]);exact CJ
  have q1:decide (v.c<u.c)=false:=by simpa using h1
  by_cases h2:v.c=u.c;case neg=>
   have q2:(v.c==u.c)=false:=by simpa using h2
   have HX:=aa (show eZ v u=false by simp[eZ,h1,h2]);exact CK
  have q2:(v.c==u.c)=true:=by simpa using h2
  cases q3:FB v.n.toList u.n.toList
  ·have HX:=aa (show eZ v u=false by simp[eZ,h1,q3]);exact CK
  ·have HX:=aa (show eZ v u=true by simp[eZ,h2,q3]);clear h2;exact CJ

def iO (w:World) (cb zb:Nat) (n':ByteArray) (c':Int) (k':ByteArray) (x':Bool) (v':ByteArray) (t:ByteArray):Prop:=
 w.heap[cb]?=some (.cells #[.string n',.int .i64 c',.string k',.bool x',.string v'] 105 (0,0))/\w.heap[zb]?=some (.cells #[.string t] 9 (0,0))
theorem iO.below {w w1:World} {cb zb:Nat} {n':ByteArray} {c':Int} {k':ByteArray} {x':Bool} {v' t:ByteArray} (h:iO w cb zb n' c' k' x' v' t) (hb:Below w.heap.size w w1):iO w1 cb zb n' c' k' x' v' t:=
 ⟨(hb.block _ (ae h.1)).trans h.1,(hb.block _ (ae h.2)).trans h.2⟩

theorem A_ (n:ByteArray) (c:Int) (z:ByteArray) (k:ByteArray) (x:Bool) (m:ByteArray) (y:Bool) (a:Option Addr) (len cap:Nat) (cb zb:Nat) (n':ByteArray) (c':Int) (k':ByteArray) (x':Bool) (v':ByteArray) (t:ByteArray) (w:World) (hh:iO w cb zb n' c' k' x' v' t):
  Calls Tryz.prog 214 #[.agg #[.string n,.int .i64 c,.string z,.string k,.bool x,.string m,.bool y,.slice a len cap],.pointer (some ⟨cb,0,none⟩),.pointer (some ⟨zb,0,none⟩)] w fun e w'=>e=.returned (.bool (svB c z k x m y c' k' x' t))/\Below w.heap.size w w':=by
 have hh1:=hh.below (al w (.cells #[.string n,.int .i64 c,.string z,.string k,.bool x,.string m,.bool y,.slice a len cap] 99));have HB:=aa (al w (.cells #[.string n,.int .i64 c,.string z,.string k,.bool x,.string m,.bool y,.slice a len cap] 99));have c1:=aw hh1.1 1;have c2:=aw hh1.1 2;have c3:=aw hh1.1 3;have c4:=aw hh1.2 0;simp only[List.getElem?_toArray,List.getElem?_cons_succ,List.getElem?_cons_zero] at c1 c2 c3 c4;clear hh hh1;unfold svB;cases y;case true=>
  exact wL
 case false=>
  cases h2:m.toList.isEmpty
  ·skip;exact wL
  ·skip;cases h0:(k.toList==k'.toList)
   ·exact vJ
   ·cases h1:(x==x')
    ·exact vJ
    ·skip;cases h4:t.toList.isEmpty
     ·cases h5:(z.toList==t.toList)
      ·skip;exact Dl
      ·exact wN
     ·exact wN

theorem m_ (n':ByteArray) (c':Int) (k':ByteArray) (x':Bool) (v':ByteArray) (t:ByteArray) (w:World):
  Calls Tryz.prog 201 #[.agg #[.string n',.int .i64 c',.string k',.bool x',.string v'],.string t] w fun e w'=>e=.returned (.func (.func 214) #[] #[.pointer (some ⟨w.heap.size,0,none⟩),.pointer (some ⟨w.heap.size+1,0,none⟩)])/\iO w' w.heap.size (w.heap.size+1) n' c' k' x' v' t/\Below w.heap.size w w':=by
 go_enter Tryz.func201,Tryz.ntmps201;go_wp2;go_ret;exact⟨rfl,⟨cU _ _ _,bE _ _ _⟩,aF _ _ _⟩

def Vd.Ok (v:Vd):Prop:=sQ v.n v.c v.z v.k v.x v.m v.y v.zs
def vZ:Vd:=⟨⟨#[]⟩,0,⟨#[]⟩,⟨#[]⟩,false,⟨#[]⟩,false,[]⟩
def jg (vs:List Vd) (n':ByteArray) (c':Int) (k' v' t:ByteArray):Prop:=fJ n' c' k' v'/\cW t/\vs.length<=8/\∀(j:Nat) v,vs[j]?=some v->v.Ok
def mK (vs:List Vd) (n':ByteArray) (c':Int) (k':ByteArray) (x':Bool) (v':ByteArray) (t:ByteArray) (u:Vd) (p:Int):Prop:=
 ((400<vs.length\/8000<t.size)/\u=vZ/\p=2)\/(¬(400<vs.length\/8000<t.size)/\¬jg vs n' c' k' v' t/\u=vZ/\p=1)\/
 (¬(400<vs.length\/8000<t.size)/\jg vs n' c' k' v' t/\dd (svV c' k' x' t) vs=none/\u=vZ/\p=6)\/
 (¬(400<vs.length\/8000<t.size)/\jg vs n' c' k' v' t/\dd (svV c' k' x' t) vs=some u/\p=0)
def dV (vs:List Vd) (n':ByteArray) (c':Int) (k':ByteArray) (x':Bool) (v':ByteArray) (t:ByteArray) (w:World) (e:Ending) (w':World):Prop:=
 ∃u p a l c,e=.returned (.agg #[.string u.n,.int .i64 u.c,.string u.z,.string u.k,.bool u.x,.string u.m,.bool u.y,.slice a l c,.int .i64 p])/\mK vs n' c' k' x' v' t u p/\Ap.bT u.zs w a l c w'
theorem AA {w w':World} (hb:Below w.heap.size w w'):Ap.bT [] w none 0 0 w':=⟨⟨rfl,Ft _,by omega,fun j x hx=>by simp at hx,.inl rfl⟩,.inl rfl,hb⟩
theorem dV.bad {vs:List Vd} {n':ByteArray} {c':Int} {k':ByteArray} {x':Bool} {v' t:ByteArray} {w w':World} {p:Int} (h:mK vs n' c' k' x' v' t vZ p) (hb:Below w.heap.size w w'):
  dV vs n' c' k' x' v' t w (.returned (.agg #[.string ⟨#[]⟩,.int .i64 0,.string ⟨#[]⟩,.string ⟨#[]⟩,.bool false,.string ⟨#[]⟩,.bool false,.slice none 0 0,.int .i64 p])) w':=⟨vZ,p,none,0,0,rfl,h,AA hb⟩
theorem fc {w w1:World} {B b:Nat} {v0 v1 v2 v3 v4 v5 v6 v7 v8:Value} (hB:B<=b) (h:Below B w w1):
  Below B w (((((((((w1.setCell ⟨b,0,none⟩ (v0)).setCell ⟨b,1,none⟩ (v1)).setCell ⟨b,2,none⟩ (v2)).setCell ⟨b,3,none⟩ (v3)).setCell ⟨b,4,none⟩ (v4)).setCell ⟨b,5,none⟩ (v5)).setCell ⟨b,6,none⟩ (v6)).setCell ⟨b,7,none⟩ (v7)).setCell ⟨b,8,none⟩ (v8)):=
 ((((((((h.setCell (p:=⟨b,0,none⟩) hB v0).setCell (p:=⟨b,1,none⟩) hB v1).setCell (p:=⟨b,2,none⟩) hB v2).setCell (p:=⟨b,3,none⟩) hB v3).setCell (p:=⟨b,4,none⟩) hB v4).setCell (p:=⟨b,5,none⟩) hB v5).setCell (p:=⟨b,6,none⟩) hB v6).setCell (p:=⟨b,7,none⟩) hB v7).setCell (p:=⟨b,8,none⟩) hB v8
theorem yW {zs:List ByteArray} {w w':World} {a:Option Addr} {l p b X:Nat} {v0 v1 v2 v3 v4 v5 v6 v7 v8:Value} (h:ay w' a l p zs/\(zs=[]\/∃g cur,a=some ⟨g,0,none⟩/\X<=g/\w'.heap[g]?=some (.cells cur 9 (0,0)))/\Below w.heap.size w w') (hb:w.heap.size<=b) (hX:b<X):
  Ap.bT zs w a l p (((((((((w'.setCell ⟨b,0,none⟩ (v0)).setCell ⟨b,1,none⟩ (v1)).setCell ⟨b,2,none⟩ (v2)).setCell ⟨b,3,none⟩ (v3)).setCell ⟨b,4,none⟩ (v4)).setCell ⟨b,5,none⟩ (v5)).setCell ⟨b,6,none⟩ (v6)).setCell ⟨b,7,none⟩ (v7)).setCell ⟨b,8,none⟩ (v8)):=by
 have h9:=Ap.bT.set (Ap.bT.set (Ap.bT.set (Ap.bT.set (Ap.bT.set (Ap.bT.set (Ap.bT.set (Ap.bT.set (Ap.bT.set h hb hX (i:=0) (v:=v0)) hb hX (i:=1) (v:=v1)) hb hX (i:=2) (v:=v2)) hb hX (i:=3) (v:=v3)) hb hX (i:=4) (v:=v4)) hb hX (i:=5) (v:=v5)) hb hX (i:=6) (v:=v6)) hb hX (i:=7) (v:=v7)) hb hX (i:=8) (v:=v8);refine⟨h9.1,?_,h9.2.2⟩;rcases h9.2.1 with h|⟨g,cur,h1,h2,h3⟩
 ·exact .inl h
 ·exact .inr ⟨g,cur,h1,by omega,h3⟩
theorem tx {zs:List ByteArray} {x:Bool} (h:dD zs (if x=true then 1 else 6)):zs.length<=6:=by
 have:=(iE h).1;omega

def EG (n z t:ByteArray):Prop:=ie n z/\aO t/\(z=⟨#[]⟩\/z=t)

theorem zC (n:ByteArray) (x y:Bool) (z t:ByteArray) (w:World) (hn:n.size<=9223372036854775807) (hz:z.size<=9223372036854775807) (ht:t.size<=9223372036854775807):
  Calls Tryz.prog 205 #[.agg #[.string n,.bool x,.bool y,.string z],.string t] w (ar (EG n z t) w):=by
 go_enter Tryz.func205,Tryz.ntmps205;go_wp2_with fail;refine (gj n z x y _ hn hz).mono ?_;rintro e w1 ⟨r,rfl,hr,hb⟩;obtain⟨g,hb1,-⟩:=cE hb;have HB:=aa hb1;have c3:=ck3 g;clear g hb hb1;by_cases hq:r=true;case neg=>
  have HN:=aa (fun h=>hq (hr.2 h));clear hr;go_wp2_with fail;go_ret;exact⟨false,rfl,⟨fun h=>bU,fun h=>(HN.out h.1).elim⟩,HB.out⟩
 have h0:=aa (hr.1 hq);subst hq;clear hr;go_wp2_with fail;refine (a_ t _ ht).mono ?_;rintro e w2 ⟨r,rfl,hr,rfl⟩;by_cases hq:r=true;case neg=>
  have HN:=aa (fun h=>hq (hr.2 h));clear hr;go_wp2_with fail;go_ret;exact⟨false,rfl,⟨fun h=>bU,fun h=>(HN.out h.2.1).elim⟩,HB.out⟩
 have h1:=aa (hr.1 hq);subst hq;clear hr;by_cases hz0:z=⟨#[]⟩
 ·subst hz0;go_wp2_with fail;go_ret;exact⟨true,rfl,⟨fun _=>⟨h0.out,h1.out,.inl rfl⟩,fun _=>rfl⟩,HB.out⟩
 have HZ:=aa hz0;have hq9:=bc hz0;by_cases hzt:z=t
 ·have hq8:=a9 hzt;have HT:=aa hzt;clear hzt hz0;go_wp2_with fail;go_ret;exact⟨true,rfl,⟨fun _=>⟨h0.out,h1.out,.inr HT.out⟩,fun _=>rfl⟩,HB.out⟩
 ·have hq8:=bC hzt;have HT:=aa hzt;clear hzt hz0;go_wp2_with fail;go_ret;exact⟨false,rfl,⟨fun h=>bU,fun h=>(h.2.2.elim HZ.out HT.out).elim⟩,HB.out⟩

theorem lv:(Tryz.prog.info? 5).map (fun i=>(i.zero,i.size,i.bytes))=some (some (.int .u8 0),1,1):=by kernel_rfl
theorem ir:(Tryz.prog.info? 5).map (·.size)=some 1:=by kernel_rfl

theorem eu {P:Program} {w:World} (dT sT ty:TypeId) (elem:TypeId) (hu:P.underlying dT=some (.slice elem)) (hsz:(P.info? elem).map (·.size)=some 1)
  (dp:Option Addr) (dLen dCap:Nat) (t:ByteArray)
  (g off:Nat) (cur:List Value) (e:TypeId) (hg:w.heap[g]?=some (.cells cur.toArray e (0,0))) (hle:t.size<=dLen) (hpos:0<t.size->dp=some ⟨g,off,none⟩)
  (hfit:off+t.size<=cur.length) (B:Nat) (w0:World) (hb:Below B w0 w) (hBg:B<=g):
  ∃w',(GS #[dT,sT] ty #[.slice dp dLen dCap,.string t]).run P w=.ok (.int .i64 (t.size:Nat)) w'/\
   Hid (w'.heap[g]?=some (.cells (splice cur off (G4 t.data.toList)).toArray e (0,0)))/\Below B w0 w':=by
 have hlen:(G4 t.data.toList).length=t.size:=by rw[Lib.byteCells_length,<-Lib.size_eq]
 by_cases h0:t.size=0
 ·have hrun:=Lib.run_copy_empty_string (P:=P) w dT sT ty elem dp dLen dCap t hu (by rw[hsz];rfl) h0;have hc:G4 t.data.toList=[]:=GQ af;rw[h0];exact⟨w,hrun,show _=_ by rw[hc];simpa[splice] using hg,hb⟩
 ·obtain rfl:=hpos af;have hrun:=Lib.run_copy_row_string (P:=P) w dT sT ty elem g off dLen dCap t cur.toArray e hu hsz hg hle (by simpa using hfit);refine⟨_,hrun,?_,below_setRow hb hBg _⟩;show _=_;rw[setRow_heap w g _ _ e _ hg];simp[splice,hlen]

theorem oQ {w:World} {B g n:Nat} {e:TypeId} {xs:List Value} (h:w.ownsRow B e 1 (.slice (some ⟨g,0,none⟩) n n) n xs):
  w.heap[g]?=some (.cells xs.toArray e (0,0))/\xs.length=n/\B<=g:=by
 exact CD

theorem pz {Z X Y:List Value} (h:Z.length=X.length+Y.length):splice (splice Z 0 X) X.length Y=X++Y:=by
 unfold splice;have h1:List.drop (X.length+Y.length) Z=[]:=GM af;simp[<-G6,h1]

theorem oU {w:World} {g:Nat} (l:List UInt8) {n cap:Nat} (hn:l.length=n) (h:w.heap[g]?=some (.cells (G4 l).toArray 5 (0,0))):
  (convert 155 9 (.slice (some ⟨g,0,none⟩) n cap)).run Tryz.prog w=.ok (.string ⟨l.toArray⟩) w:=by
 subst hn;exact run_convert_bytes_back (P:=Tryz.prog) w 155 9 5 ⟨g,0,none⟩ cap l Tryz.underlying155 Tryz.underlying5 Tryz.underlying9 (fun j hj=>by
  rw[FT]
  simp[He,h,G4,hj])
theorem eC (s:ByteArray):(G4 s.data.toList).length=s.size:=by rw[Lib.byteCells_length,<-Lib.size_eq]
theorem oK (x:ByteArray) (w:World) (h:x.size<=1073741824):
  Calls Tryz.prog 206 #[.string x,.string ByteArray.empty] w fun e w'=>e=.returned (.string x)/\Below w.heap.size w w':=by
 obtain⟨i0,hi,hz0,hz1,hz2⟩:=info_parts lv;go_enter Tryz.func206,Tryz.ntmps206;go_wp2_with (at_make;refine wpList_make_full _ rfl _ _ 155 rfl w.heap.size 5 i0 (.int .u8 0) 1 Tryz.underlying155 hi hz0 hz1 _ _ _ _ x.size rfl rfl af af gI cD (Ft _) ?_);intro w1 hown hgrow;obtain⟨hg1,hz,-⟩:=oQ hown;obtain⟨Z,hZ⟩:∃Z,Z=(madeCells #[Value.int IntKind.u8 0] x.size).toList:=⟨_,rfl⟩;have hnx1:=(Fw _ _).grown hgrow (Ft _) (fun k hk=>by cases hk);rw[<-hZ] at hg1 hz;obtain⟨w2,hcp,HG2,hnx2⟩:=eu (P:=Tryz.prog) 155 9 3 5 Tryz.underlying155 ir (some ⟨w.heap.size,0,none⟩) x.size x.size x w.heap.size 0 Z 5 hg1 af (fun _=>rfl) af w.heap.size w hnx1 (Ft _);have hs2:splice Z 0 (G4 x.data.toList)=G4 x.data.toList:=by
  unfold splice;have h1:List.drop (0+(G4 x.data.toList).length) Z=[]:=GM (by rw[eC];omega);rw[h1];simp
 rw[hs2] at HG2;have hcp2:=Lib.run_copy_empty_string (P:=Tryz.prog) w2 155 9 3 5 (some ⟨w.heap.size,0,none⟩) 0 0 ByteArray.empty Tryz.underlying155 aq rfl;have hcv:=oU (cap:=x.size) x.data.toList (Lib.size_eq x).symm HG2.out;clear hs2 hZ hown hgrow hg1 hi hz0 hz1 hz2 HG2 hnx1;go_wp2;go_ret;exact⟨rfl,hnx2⟩

theorem oJ (x y:ByteArray) (w:World) (h:x.size+y.size<=1073741824) (hy:¬y=ByteArray.empty):
  Calls Tryz.prog 206 #[.string x,.string y] w fun e w'=>e=.returned (.string ⟨(x.data.toList++y.data.toList).toArray⟩)/\Below w.heap.size w w':=by
 obtain⟨i0,hi,hz0,hz1,hz2⟩:=info_parts lv;go_enter Tryz.func206,Tryz.ntmps206;go_wp2_with (at_make;refine wpList_make_full _ rfl _ _ 155 rfl w.heap.size 5 i0 (.int .u8 0) 1 Tryz.underlying155 hi hz0 hz1 _ _ _ _ (x.size+y.size) rfl rfl af af gI cD (Ft _) ?_);intro w1 hown hgrow;obtain⟨hg1,hz,-⟩:=oQ hown;obtain⟨Z,hZ⟩:∃Z,Z=(madeCells #[Value.int IntKind.u8 0] (x.size+y.size)).toList:=⟨_,rfl⟩;have hnx1:=(Fw _ _).grown hgrow (Ft _) (fun k hk=>by cases hk);rw[<-hZ] at hg1 hz;obtain⟨w2,hcp,HG2,hnx2⟩:=eu (P:=Tryz.prog) 155 9 3 5 Tryz.underlying155 ir (some ⟨w.heap.size,0,none⟩) (x.size+y.size) (x.size+y.size) x w.heap.size 0 Z 5 hg1 af (fun _=>rfl) af w.heap.size w hnx1 (Ft _);obtain⟨w3,hcp2,HG3,hnx3⟩:=eu (P:=Tryz.prog) 155 9 3 5 Tryz.underlying155 ir (some ⟨w.heap.size,x.size,none⟩) y.size y.size y w.heap.size x.size _ 5 HG2.out af (fun _=>rfl) (by rw[length_splice _ _ _ (by rw[eC];omega)];omega) w.heap.size w hnx2 (Ft _);have hs2:splice (splice Z 0 (G4 x.data.toList)) x.size (G4 y.data.toList)=G4 (x.data.toList++y.data.toList):=by
  have h1:=pz (Z:=Z) (X:=G4 x.data.toList) (Y:=G4 y.data.toList) (by rw[eC,eC];exact hz);rw[eC] at h1;rw[h1,Lib.byteCells_append]
 rw[hs2] at HG3;have hcv:=oU (n:=x.size+y.size) (cap:=x.size+y.size) (x.data.toList++y.data.toList) (by rw[F7,<-Lib.size_eq,<-Lib.size_eq]) HG3.out;clear hs2 hZ hown hgrow hg1 hi hz0 hz1 hz2 HG2 hnx1 HG3;go_wp2;go_ret;exact⟨rfl,hnx3⟩

theorem mF (x y:ByteArray):x++y=⟨(x.data.toList++y.data.toList).toArray⟩:=by
 apply ByteArray.ext;simp

theorem rj (x y:ByteArray) (w:World) (h:x.size+y.size<=1073741824):
  Calls Tryz.prog 206 #[.string x,.string y] w fun e w'=>e=.returned (.string (x++y))/\Below w.heap.size w w':=by
 by_cases hy:y=ByteArray.empty
 ·subst hy;have:=oK x w af;rw[show x++ByteArray.empty=x from by simp];exact this
 ·rw[mF];exact oJ x y w h hy

def aD:ByteArray:=⟨#[118,95]⟩
def ib (n' k' v' n z t:ByteArray):Prop:=k'=n/\v'=⟨#[]⟩/\(z=⟨#[]⟩\/z=t)/\n'.size<=18
def z9 (n':ByteArray) (c':Int) (k' v' n z t:ByteArray):Prop:=fJ n' c' k' v'/\ie n z/\aO t
def z6 (n0:ByteArray) (c0:Int) (z0 k0:ByteArray) (x0:Bool) (m0:ByteArray):Prop:=n0=⟨#[]⟩/\c0=0/\z0=⟨#[]⟩/\k0=⟨#[]⟩/\x0=false/\m0=⟨#[]⟩
def D2 (n':ByteArray) (c':Int) (k':ByteArray) (x':Bool) (v' n z t:ByteArray) (n0:ByteArray) (c0:Int) (z0 k0:ByteArray) (x0:Bool) (m0:ByteArray) (p0:Int):Prop:=
 (8000<t.size/\z6 n0 c0 z0 k0 x0 m0/\p0=2)\/(¬8000<t.size/\¬z9 n' c' k' v' n z t/\z6 n0 c0 z0 k0 x0 m0/\p0=1)\/
 (¬8000<t.size/\z9 n' c' k' v' n z t/\¬ib n' k' v' n z t/\z6 n0 c0 z0 k0 x0 m0/\p0=10)\/
 (¬8000<t.size/\z9 n' c' k' v' n z t/\ib n' k' v' n z t/\(n0=aD++n'/\c0=c'/\z0=t/\k0=k'/\x0=x'/\m0=n')/\p0=0)
def Bj (n':ByteArray) (c':Int) (k':ByteArray) (x':Bool) (v':ByteArray) (n z:ByteArray) (t:ByteArray) (w:World) (e:Ending) (w':World):Prop:=
 ∃n0 c0 z0 k0 x0 m0 p0,e=.returned (.agg #[.string n0,.int .i64 c0,.string z0,.string k0,.bool x0,.string m0,.bool false,.slice none 0 0,.int .i64 p0])/\D2 n' c' k' x' v' n z t n0 c0 z0 k0 x0 m0 p0/\Below w.heap.size w w'
theorem cL {w w1:World} {B b:Nat} {v0 v1 v2 v3 v4 v5 v6 v7 v8:Value} (hB:B<=b) (h:Below B w w1):
  Below B w (((((((((w1.setCell ⟨b,0,none⟩ (v0)).setCell ⟨b,1,none⟩ (v1)).setCell ⟨b,2,none⟩ (v2)).setCell ⟨b,3,none⟩ (v3)).setCell ⟨b,4,none⟩ (v4)).setCell ⟨b,5,none⟩ (v5)).setCell ⟨b,6,none⟩ (v6)).setCell ⟨b,7,none⟩ (v7)).setCell ⟨b,8,none⟩ (v8)):=
 ((((((((h.setCell (p:=⟨b,0,none⟩) hB v0).setCell (p:=⟨b,1,none⟩) hB v1).setCell (p:=⟨b,2,none⟩) hB v2).setCell (p:=⟨b,3,none⟩) hB v3).setCell (p:=⟨b,4,none⟩) hB v4).setCell (p:=⟨b,5,none⟩) hB v5).setCell (p:=⟨b,6,none⟩) hB v6).setCell (p:=⟨b,7,none⟩) hB v7).setCell (p:=⟨b,8,none⟩) hB v8
theorem zi {n':ByteArray} (h:n'.size<=18):(⟨#[118,95]⟩:ByteArray).size+n'.size<=9223372036854775807:=by rw[show (⟨#[118,95]⟩:ByteArray).size=2 from rfl];omega

theorem uF (n':ByteArray) (c':Int) (k':ByteArray) (x':Bool) (v':ByteArray) (n:ByteArray) (x:Bool) (y:Bool) (z:ByteArray) (t:ByteArray) (w:World) (hn':n'.size<=9223372036854775807) (hm:¬ib n' k' v' n z t):
  Calls Tryz.prog 135 #[.agg #[.string n',.int .i64 c',.string k',.bool x',.string v'],.agg #[.string n,.bool x,.bool y,.string z],.string t] w fun e w'=>e=.returned (.tuple #[.agg #[.string ⟨#[]⟩,.int .i64 0,.string ⟨#[]⟩,.string ⟨#[]⟩,.bool false,.string ⟨#[]⟩,.bool false,.slice none 0 0],.bool false])/\Below w.heap.size w w':=by
 have HM:=aa hm;clear hm;by_cases h0:k'=n;case neg=>
  have q0:=bC h0;clear h0;exact lk
 have q0:=a9 h0;have H0:=aa h0;clear h0;by_cases h1:v'=⟨#[]⟩;case neg=>
  have q1:=bc h1;clear h1;exact lk
 have q1:=(dP v').2 h1;have H1:=aa h1;clear h1;by_cases h3:18<n'.size
 ·by_cases h2:z=⟨#[]⟩
  ·have q2:=(dP z).2 h2;clear h2;exact lk
  ·have q2:=bc h2;by_cases h4:z=t
   ·have q4:=a9 h4;clear h4 h2;exact lk
   ·have q4:=bC h4;clear h4 h2;exact lk
 by_cases h2:z=⟨#[]⟩
 ·exact absurd ⟨H0.out,H1.out,.inl h2,by omega⟩ HM.out
 have q2:=bc h2;by_cases h4:z=t
 ·exact absurd ⟨H0.out,H1.out,.inr h4,by omega⟩ HM.out
 have q4:=bC h4;clear h4 h2;exact lk

theorem rZ (n':ByteArray) (c':Int) (k':ByteArray) (x':Bool) (v':ByteArray) (n:ByteArray) (x:Bool) (y:Bool) (z:ByteArray) (t:ByteArray) (w:World) (hm:ib n' k' v' n z t):
  Calls Tryz.prog 135 #[.agg #[.string n',.int .i64 c',.string k',.bool x',.string v'],.agg #[.string n,.bool x,.bool y,.string z],.string t] w fun e w'=>e=.returned (.tuple #[.agg #[.string (aD++n'),.int .i64 c',.string t,.string k',.bool x',.string n',.bool false,.slice none 0 0],.bool true])/\Below w.heap.size w w':=by
 obtain⟨h0,h1,h2,h3⟩:=hm;have q0:=a9 h0;have q1:=(dP v').2 h1;have q5:=zi h3;clear h0 h1;by_cases h4:z=⟨#[]⟩
 ·have q2:=(dP z).2 h4;exact yV
 ·have q2:=bc h4;have q4:=a9 (h2.resolve_left h4);exact yV

theorem lx (n':ByteArray) (c':Int) (k':ByteArray) (x':Bool) (v':ByteArray) (n:ByteArray) (x:Bool) (y:Bool) (z:ByteArray) (t:ByteArray) (w:World) (hn':n'.size<=9223372036854775807) (hk':k'.size<=9223372036854775807) (hv':v'.size<=9223372036854775807) (hn:n.size<=9223372036854775807) (hz:z.size<=9223372036854775807) (ht:t.size<=9223372036854775807):
  Calls Tryz.prog 186 #[.agg #[.string n',.int .i64 c',.string k',.bool x',.string v'],.agg #[.string n,.bool x,.bool y,.string z],.string t] w (Bj n' c' k' x' v' n z t w):=by
 by_cases hl:8000<t.size
 ·have HL:=aa hl;go_enter Tryz.func186,Tryz.ntmps186;go_wp2_with fail;refine (ke t _ hl).mono ?_;rintro e w1 ⟨rfl,rfl⟩;go_wp2_with fail;exact bodyPost_ret (v:=.agg #[.string ⟨#[]⟩,.int .i64 0,.string ⟨#[]⟩,.string ⟨#[]⟩,.bool false,.string ⟨#[]⟩,.bool false,.slice none 0 0,.int .i64 2]) (by simp[results,Tryz.results186,go_sem]) rfl ⟨_,_,_,_,_,_,_,rfl,.inl ⟨HL.out,⟨rfl,rfl,rfl,rfl,rfl,rfl⟩,rfl⟩,bI _ _ _ _⟩
 have HL:=aa hl;go_enter Tryz.func186,Tryz.ntmps186;go_wp2_with fail;refine (jo t _ hl).mono ?_;rintro e w1 ⟨rfl,rfl⟩;go_wp2_with fail;refine (eP n' c' k' x' v' _ hn' hk' hv').mono ?_;rintro e w1 ⟨r,rfl,hr,hb⟩;have g0:=(hb.block w.heap.size bG).trans (fF _ _ _ _);have g1:=(hb.block (w.heap.size+1) aS).trans (dC _ _ _ _);have g2:=(hb.block (w.heap.size+1+1) aS).trans (cS _ _ _ _);have HB:=aa ((bI w _ _ _).trans (hb.mono bG));obtain⟨HG0,HG1,HG2,d0,d1,d2,d3,d4,e0,e1,e2,e3,r0,r1,r2,r3,r4,r5,r6,r7,r8,q0,q1,q2,q3,q4,q5,q6,q7,q8⟩:=sq;clear g0 g1 g2 hb;by_cases hq:r=true;case neg=>
  have HN:=aa (fun h=>hq (hr.2 h));clear hr;go_wp2_with fail;exact bodyPost_ret (v:=.agg #[.string ⟨#[]⟩,.int .i64 0,.string ⟨#[]⟩,.string ⟨#[]⟩,.bool false,.string ⟨#[]⟩,.bool false,.slice none 0 0,.int .i64 1]) jL rfl ⟨_,_,_,_,_,_,_,rfl,.inr (.inl ⟨HL.out,fun h=>HN.out h.1,⟨rfl,rfl,rfl,rfl,rfl,rfl⟩,rfl⟩),cL af HB.out⟩
 have h0:=aa (hr.1 hq);subst hq;clear hr;go_wp2_with fail;refine (gj n z x y _ hn hz).mono ?_;rintro e w2 ⟨r,rfl,hr,hb⟩;obtain⟨g0,g1,g2,HB'⟩:=vq;clear HB HG0 HG1 HG2 d0 d1 d2 d3 d4 e0 e1 e2 e3 r0 r1 r2 r3 r4 r5 r6 r7 r8 q0 q1 q2 q3 q4 q5 q6 q7 q8;have HB:=HB';clear HB';obtain⟨HG0,HG1,HG2,d0,d1,d2,d3,d4,e0,e1,e2,e3,r0,r1,r2,r3,r4,r5,r6,r7,r8,q0,q1,q2,q3,q4,q5,q6,q7,q8⟩:=sq;clear g0 g1 g2 hb;by_cases hq:r=true;case neg=>
  have HN:=aa (fun h=>hq (hr.2 h));clear hr;go_wp2_with fail;exact bodyPost_ret (v:=.agg #[.string ⟨#[]⟩,.int .i64 0,.string ⟨#[]⟩,.string ⟨#[]⟩,.bool false,.string ⟨#[]⟩,.bool false,.slice none 0 0,.int .i64 1]) jL rfl ⟨_,_,_,_,_,_,_,rfl,.inr (.inl ⟨HL.out,fun h=>HN.out h.2.1,⟨rfl,rfl,rfl,rfl,rfl,rfl⟩,rfl⟩),cL af HB.out⟩
 have h1:=aa (hr.1 hq);subst hq;clear hr;go_wp2_with fail;refine (a_ t _ ht).mono ?_;rintro e w3 ⟨r,rfl,hr,rfl⟩;by_cases hq:r=true;case neg=>
  have HN:=aa (fun h=>hq (hr.2 h));clear hr;go_wp2_with fail;exact bodyPost_ret (v:=.agg #[.string ⟨#[]⟩,.int .i64 0,.string ⟨#[]⟩,.string ⟨#[]⟩,.bool false,.string ⟨#[]⟩,.bool false,.slice none 0 0,.int .i64 1]) jL rfl ⟨_,_,_,_,_,_,_,rfl,.inr (.inl ⟨HL.out,fun h=>HN.out h.2.2,⟨rfl,rfl,rfl,rfl,rfl,rfl⟩,rfl⟩),cL af HB.out⟩
 have h2:=aa (hr.1 hq);subst hq;clear hr;by_cases m0:k'=n;case neg=>
  have q90:=bC m0;have M0:=aa m0;clear m0;go_wp2_with fail;exact bodyPost_ret (v:=.agg #[.string ⟨#[]⟩,.int .i64 0,.string ⟨#[]⟩,.string ⟨#[]⟩,.bool false,.string ⟨#[]⟩,.bool false,.slice none 0 0,.int .i64 10]) jL rfl ⟨_,_,_,_,_,_,_,rfl,.inr (.inr (.inl ⟨HL.out,⟨h0.out,h1.out,h2.out⟩,fun h=>M0.out h.1,⟨rfl,rfl,rfl,rfl,rfl,rfl⟩,rfl⟩)),cL af HB.out⟩
 have q90:=a9 m0;have M0:=aa m0;clear m0;by_cases m1:v'=⟨#[]⟩;case neg=>
  have q91:=bc m1;have M1:=aa m1;clear m1;go_wp2_with fail;exact bodyPost_ret (v:=.agg #[.string ⟨#[]⟩,.int .i64 0,.string ⟨#[]⟩,.string ⟨#[]⟩,.bool false,.string ⟨#[]⟩,.bool false,.slice none 0 0,.int .i64 10]) jL rfl ⟨_,_,_,_,_,_,_,rfl,.inr (.inr (.inl ⟨HL.out,⟨h0.out,h1.out,h2.out⟩,fun h=>M1.out h.2.1,⟨rfl,rfl,rfl,rfl,rfl,rfl⟩,rfl⟩)),cL af HB.out⟩
 have q91:=(dP v').2 m1;have M1:=aa m1;clear m1;go_wp2_with fail;refine (zC n x y z t _ hn hz ht).mono ?_;rintro e w4 ⟨r,rfl,hr,hb⟩;obtain⟨g0,g1,g2,HB'⟩:=vq;clear HB HG0 HG1 HG2 d0 d1 d2 d3 d4 e0 e1 e2 e3 r0 r1 r2 r3 r4 r5 r6 r7 r8 q0 q1 q2 q3 q4 q5 q6 q7 q8;have HB:=HB';clear HB';obtain⟨HG0,HG1,HG2,d0,d1,d2,d3,d4,e0,e1,e2,e3,r0,r1,r2,r3,r4,r5,r6,r7,r8,q0,q1,q2,q3,q4,q5,q6,q7,q8⟩:=sq;clear g0 g1 g2 hb;by_cases hq:r=true;case neg=>
  have HN:=aa (fun h=>hq (hr.2 h));clear hr;go_wp2_with fail;exact bodyPost_ret (v:=.agg #[.string ⟨#[]⟩,.int .i64 0,.string ⟨#[]⟩,.string ⟨#[]⟩,.bool false,.string ⟨#[]⟩,.bool false,.slice none 0 0,.int .i64 10]) jL rfl ⟨_,_,_,_,_,_,_,rfl,.inr (.inr (.inl ⟨HL.out,⟨h0.out,h1.out,h2.out⟩,fun h=>HN.out ⟨h1.out,h2.out,h.2.2.1⟩,⟨rfl,rfl,rfl,rfl,rfl,rfl⟩,rfl⟩)),cL af HB.out⟩
 have M2:=aa (hr.1 hq).2.2;subst hq;clear hr;by_cases m3:18<n'.size
 ·have M3:=aa m3;go_wp2_with fail;exact bodyPost_ret (v:=.agg #[.string ⟨#[]⟩,.int .i64 0,.string ⟨#[]⟩,.string ⟨#[]⟩,.bool false,.string ⟨#[]⟩,.bool false,.slice none 0 0,.int .i64 10]) jL rfl ⟨_,_,_,_,_,_,_,rfl,.inr (.inr (.inl ⟨HL.out,⟨h0.out,h1.out,h2.out⟩,fun h=>by have h9:=h.2.2.2;have h8:=M3.out;omega,⟨rfl,rfl,rfl,rfl,rfl,rfl⟩,rfl⟩)),cL af HB.out⟩
 go_wp2_with fail;refine (rj ⟨#[118,95]⟩ n' _ (by rw[show (⟨#[118,95]⟩:ByteArray).size=2 from rfl];omega)).mono ?_;rintro e w5 ⟨rfl,hb⟩;obtain⟨g0,g1,g2,HB'⟩:=vq;clear HB HG0 HG1 HG2 d0 d1 d2 d3 d4 e0 e1 e2 e3 r0 r1 r2 r3 r4 r5 r6 r7 r8 q0 q1 q2 q3 q4 q5 q6 q7 q8;have HB:=HB';clear HB';obtain⟨HG0,HG1,HG2,d0,d1,d2,d3,d4,e0,e1,e2,e3,r0,r1,r2,r3,r4,r5,r6,r7,r8,q0,q1,q2,q3,q4,q5,q6,q7,q8⟩:=sq;clear g0 g1 g2 hb;go_wp2_with fail;exact bodyPost_ret (v:=.agg #[.string (aD++n'),.int .i64 c',.string t,.string k',.bool x',.string n',.bool false,.slice none 0 0,.int .i64 0]) (by simp[results,Tryz.results186,go_sem,aD, *]) rfl ⟨_,_,_,_,_,_,_,rfl,.inr (.inr (.inr ⟨HL.out,⟨h0.out,h1.out,h2.out⟩,⟨M0.out,M1.out,M2.out,by omega⟩,⟨rfl,rfl,rfl,rfl,rfl,rfl⟩,rfl⟩)),cL af HB.out⟩

end Go.Proofs.YtpejepeekdjfoaaGreatDoor

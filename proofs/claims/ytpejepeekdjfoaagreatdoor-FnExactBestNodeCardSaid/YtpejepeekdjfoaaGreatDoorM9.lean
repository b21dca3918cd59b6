import Derived.Test.YtpejepeekdjfoaaGreatDoorM4
import Derived.Test.YtpejepeekdjfoaaGreatDoorM8
import Derived.Lib.ItoaNum
import Derived.Laws.Cover1
import Derived.Lib.BufferWrite
import Derived.Laws.CopyOwn
import Derived.Deep.QuietTactic
import Derived.BigQuiet
import Derived.WalkSmall
import Derived.WalkKit
import Derived.WalkSpells
import Derived.OwnWalk
import Derived.Outline
import Derived.Laws.IdiomStrings
import Derived.Stop.LaidErr
import Derived.ChangeVars
import Derived.Deep.Strs
import Derived.Deep.Fields
import Derived.WideShapes
import Derived.ChangeArms
set_option maxRecDepth 100000
set_option maxHeartbeats 12800000
open And renaming intro→Fo
open Array renaming getD_eq_getD_getElem?→Fx, getElem?_push_size→FD, getElem?_eq_some_iff→FG, getElem?_setIfInBounds→FL, getElem?_range→Hk, getElem?_map→Ho
open Bool renaming and_eq_true→Gl
open Go.Act renaming put→GI
open Go.Addr renaming add_lit→FT
open Go.Builtin renaming append_→GC
open Go.Calls renaming quiet_of_same→FY
open Go.DataW renaming trod_string→GH, trod→Hc, trod_int→Hm, trod_bool→Hq
open Go.Lib renaming decDigits→G4
open Go.Region renaming wanted→GO
open Go.RowKit.Below renaming heap_setCell→Fp, refl→Fw, heap_alloc→Fy
open Go.Value renaming string→FK, oneCell'→GF
open Go.World renaming setCell→Gf
open Int renaming lt_of_lt_of_le→FO, le_trans→F8, le_refl→Hu
open List renaming getElem?_eq_some_iff→Fm, lookup→Fs, getElem?_eq_getElem→Fu, setIfInBounds_toArray→Fz, getElem?_map→FC, take_of_length_le→FF, set_cons_zero→FH, forall_mem_cons→FI, set_cons_succ→FM, getElem?_append_left→FN, replicate→FP, length_take→FQ, getElem?_take→FR, length_map→FU, mem_of_getElem?→FZ, take_add_one→F6, length_append→F7, getElem?_cons_zero→F9, foldr→Gd, mem_cons→Gj, getElem?_drop→Gm, range→Gq, all_eq_true→GA, append_nil→GD, length_drop→GG, drop_eq_getElem_cons→GU, length_cons→G0, mem_append_right→Hf
open Nat renaming le_refl→Ft, le_trans→FA, lt_of_lt_of_le→FE, le_succ→FV, zero_add→FX, add_zero→G3
open Option renaming map_eq_some_iff→FJ
open Option.some renaming inj→Fq, injEq→Gw
namespace Go.Proofs.YtpejepeekdjfoaaGreatDoor
theorem nt {p:Prop} (h:p:=by simpa[Hid] using ho):p:=h
end Go.Proofs.YtpejepeekdjfoaaGreatDoor
namespace Go.Proofs.YtpejepeekdjfoaaGreatDoor
theorem oc {p:Prop} (h:p:=by
 obtain⟨f,hf⟩:=choose_lt each;refine⟨some ⟨b,o,none⟩,len,cap,(Gq len).map f,by simpa using hcs,by simp,hl,hm',.inr ⟨b,o,rfl,hblt,fun j r hj=>?_⟩⟩;rw[FC,FC] at hj;by_cases hjl:j<len
 ·rw[List.getElem?_range hjl] at hj;obtain rfl:=Fq hj;exact hf j hjl
 ·rw[List.getElem?_eq_none bG] at hj;cases hj):p:=h
theorem n_ {p:Prop} (h:p:=by
 obtain rfl:len=k:=af
 go_wp2;go_ret;refine⟨rfl,?_,HB.out⟩;have h5:=HP.out;rw[FF af,List.drop_of_length_le aS,GD] at h5;exact h5):p:=h
theorem vR {p:Prop} (h:p:=by
 rcases hr with rfl|⟨hr0,hr1,hvl2⟩
 ·go_wp2;go_ret;exact⟨-1,rfl,.inl rfl,HB2.out⟩
 ·go_wp2;refine⟨⟨k+1,r,by omega,by go_num,by go_num,by omega,by omega,fun j x hj hx=>?_,HB2.out⟩,by simp[intOf];omega⟩;by_cases e:j=k
  ·subst e;rw[HV.out] at hx;obtain rfl:=Fq hx;rw[HT.1];exact hvl2
  ·exact HE.out j x af hx):p:=h
theorem nZ {p:Prop} (h:p:=by
 refine wpQuiet_nil ?_;rintro _ ⟨q,rfl⟩;go_wp2_with fail;exact⟨⟨k+1,by omega,by go_num,HB.trans (q.b.mono HB.size)⟩,by simp[intOf];omega⟩):p:=h
theorem fU {p:Prop} (h:p:=by
 obtain⟨h1,h2⟩:=Fm.1 hx;simpa using h2.symm):p:=h
theorem nW {p:Prop} (h:p:=by
 refine⟨congrArg (fun z=>Ending.returned (.int .i64 z)) (HN.trans (by rw[e1])),?_,HK.out⟩;have:=HS.out;rw[e2] at this;exact this):p:=h
theorem nT {p:Prop} (h:p:=by
 rw[h3] at h4;exact⟨by rw[FU,fN hZl af];simp,Ft _,by omega,.inr ⟨_,cur,H,rfl,h4⟩⟩):p:=h
theorem nS {p:Prop} (h:p:=by
 intro j r hr;rw[FC] at hr;obtain⟨x,hx,rfl⟩:=FJ.1 hr;rfl):p:=h
theorem nR {p:Prop} (h:p:=by
 exact⟨congrArg (fun z=>Ending.returned (.int .i64 z)) (HN.trans (by rw[e1])),HB.out⟩):p:=h
theorem vI {p:Prop} (h:p:=by
 obtain rfl:k=len:=af
 go_wp2;go_ret;exact⟨m,rfl,.inr ⟨hm0,hm1,by omega,fun j v hv=>HE.out j v (by have:=(Fm.1 hv).1;omega) hv⟩,HB.out⟩):p:=h
theorem nP {p:Prop} (h:p:=by
 obtain⟨k0,k1,k2,k3,k4,k5⟩:=cs6 Bk;go_wp2;go_ret;exact⟨-1,rfl,.inl rfl,HB.out⟩):p:=h
theorem CA {p:Prop} (h:p:=by
 go_wp2_with fail;refine (sK a a' len len' cap cap' zs zs _ (HR.below (aF _ _ _)) (HR'.below (aF _ _ _))).mono ?_;rintro e w1 ⟨r,rfl,hr,hb⟩;obtain rfl:r=true:=hr.2 rfl;clear hr;have HB:Hid (Below w.heap.size w w1):=(aF _ _ _).trans (hb.mono bG);go_wp2_with fail;go_ret;exact⟨rfl,HB.out⟩):p:=h
theorem Cm {p:Prop} (h:p:=by
 go_wp2_with fail;refine (rY a len cap zs _ _ (HR.below (al _ _)) af af).mono ?_;rintro e w1 ⟨r,rfl,hr,rfl⟩;rcases hr with rfl|⟨hr0,hr1,hr2⟩
 ·go_wp2;go_ret;exact⟨-1,rfl,.inl rfl,al _ _⟩
 go_wp2;go_ret;exact⟨_,rfl,.inr ⟨by omega,by omega,by omega⟩,al _ _⟩):p:=h
theorem j6 {p:Prop} (h:p:=by
 cases hi;exact⟨_,(hc 0 af).trans e0,rfl,show b0.size<=_ by omega⟩):p:=h
theorem j0 {p:Prop} (h:p:=by
 obtain rfl:k=len:=af
 go_wp2;go_ret;exact⟨rfl,HB.out⟩):p:=h
theorem yA {p:Prop} (h:p:=by
 exact aV af (aV af (aV af (aV af (aV af (aV af (aV af (aV af (aV af (HG.out)))))))))):p:=h
theorem yz {p:Prop} (h:p:=by
 exact ah af (ah af (ah af (ah af (ah af (ah af (ah af (ah af (ah af (HB.out)))))))))):p:=h
theorem yv {p:Prop} (h:p:=by
 rcases hr with rfl|⟨hr0,hr1,hvl2⟩
 ·go_wp2;go_ret;exact⟨-1,rfl,.inl rfl,HB2.out⟩
 ·go_wp2;exact⟨⟨k+1,r,by omega,by go_num,by go_num,by omega,by omega,HB2.out⟩,by simp[intOf];omega⟩):p:=h
theorem jY {p:Prop} (h:p:=by
 go_wp2;go_ret;exact⟨-1,rfl,.inl rfl,Fw _ _⟩):p:=h
theorem qp {p:Prop} (h:p:=by
 go_enter Tryz.func47,Tryz.ntmps47;go_wp2;go_ret;exact⟨-1,rfl,.inl rfl,al _ _⟩):p:=h
theorem qn {p:Prop} (h:p:=by
 cases hi;exact⟨_,(hc 2 af).trans e2,rfl,show b2.size<=_ by omega⟩):p:=h
theorem xL {p:Prop} (h:p:=by
 rw[e] at g;exact⟨_,xs[i]'(by omega),Fu hlc,by rw[g,Fu]⟩):p:=h
theorem xG {p:Prop} (h:p:=by
 obtain rfl:k=len:=af
 go_wp2;go_ret;exact⟨m,rfl,.inr ⟨hm0,hm1,by omega⟩,HB.out⟩):p:=h
theorem jX {p:Prop} (h:p:=by
 obtain⟨_,hl0,hc0⟩:=World.cells?_some k1;have:=hc0 0 af;rw[Fu af] at this;rcases Nat.lt_or_ge b w.heap.size with h1|h1
 ·exact h1
 ·simp[Addr.add,World.cell?,Array.getElem?_eq_none h1] at this):p:=h
theorem jW {p:Prop} (h:p:=by
 obtain⟨_,hl0,hc0⟩:=World.cells?_some k1;have:=hc0 0 af;rw[Fu af] at this;simpa[Addr.add] using World.cell?_spot this):p:=h
theorem qh {p:Prop} (h:p:=by
 have hgl:=ae (HS.own.choose_spec.choose_spec.1.blk);refine⟨_,_,_,rfl,HVZ.out,Ft _,by omega,HT.2.2.2.1,.inr ⟨rfl,by show w.heap.size<=_;omega,by omega,_,hG,fun j x hx=>?_⟩⟩;simp[hx]):p:=h
theorem jU {p:Prop} (h:p:=by
 rw[FC,cO hZl af,List.getElem?_replicate,if_pos hlt];rfl):p:=h
theorem jT {p:Prop} (h:p:=by
 rw[FF af,List.drop_of_length_le af,GD]):p:=h
theorem jS {p:Prop} (h:p:=by
 have:=hc0 j hj;rw[add_add,FT] at this;rw[Nat.add_assoc];exact this):p:=h
theorem jR {p:Prop} (h:p:=by
 exact⟨none,0,0,[],by simpa using hcs,rfl,Ft _,by omega,.inl rfl⟩):p:=h
theorem jQ {p:Prop} (h:p:=by
 subst h0;exact⟨some a,0,cap,[],by simpa using hcs,rfl,hl,hm',.inl rfl⟩):p:=h
theorem lX {p:Prop} (h:p:=by
 go_enter Tryz.func46,Tryz.ntmps46;go_wp2;go_ret;exact⟨-1,rfl,.inl rfl,al _ _⟩):p:=h
theorem Ce {p:Prop} (h:p:=by
 have Ck:=aa ((hk.block (w.heap.size) (ae Bk.out) (fun s=>by have s1:=s.1;have s2:=s.2;have q3:=HQ3.out;have q4:=HQ4.out;have q5:=HQ5.out;omega)).trans Bk.out);have Ca:=aa ((hk.block (w3.heap.size) (ae Ba.out) (fun s=>by have s1:=s.1;have s2:=s.2;have q3:=HQ3.out;have q4:=HQ4.out;have q5:=HQ5.out;omega)).trans Ba.out);have Cx:=aa ((hk.block (w4.heap.size) (ae Bx.out) (fun s=>by have s1:=s.1;have s2:=s.2;have q3:=HQ3.out;have q4:=HQ4.out;have q5:=HQ5.out;omega)).trans Bx.out);have Cg:=aa ((hk.block (w5.heap.size) (ae Bg.out) (fun s=>by have s1:=s.1;have s2:=s.2;have q3:=HQ3.out;have q4:=HQ4.out;have q5:=HQ5.out;omega)).trans Bg.out);exact Fo Ck (Fo Ca (Fo Cx Cg))):p:=h
theorem ld {p:Prop} (h:p:=by
 have hlm:len<=m:=by rw[hmm];split <;> omega
 have hm':cap<=9223372036854775807:=by unfold maxLen at hm;omega
 exact Fo hlm hm'):p:=h
theorem nK {p:Prop} (h:p:=by
 have hnx1:=(Fw _ _).grown hgrow (Ft _) (fun k hk=>by cases hk);have HB:Hid (Below w.heap.size w w1):=hnx1;exact Fo hnx1 HB):p:=h
theorem fQ {p:Prop} (h:p:=by
 have HR:=aa hr;have hvl:xs.length=len:=dv
 exact Fo HR hvl):p:=h
theorem B5 {p:Prop} (h:p:=by
 have hfx:(xs.map pdF)[i]?=some (pdF x):=by rw[FC,hx];rfl
 have HF:=aa hfx;have hbd:mkN n (pdF x)<=1152921504606846976:=by rw[HN.out];exact F8 (kd hfx N) HBd.out
 have hbd':n+5+x.zs.length<=1152921504606846976:=by simpa[mkN,mkN1,pdF,Int.add_assoc,Int.add_comm,Int.add_left_comm] using hbd
 exact Fo hfx (Fo HF (Fo hbd hbd'))):p:=h
theorem nJ {p:Prop} (h:p:=by
 have HA0:=aa (HA.below hb q0.b);have HB0:=upB HB q0.b;have hb0:=FE hb q0.b.size;exact Fo HA0 (Fo HB0 hb0)):p:=h
theorem nI {p:Prop} (h:p:=by
 have HA1:=aa (HA.below hb q1.b);have HB1:=upB HB q1.b;have hb1:=FE hb q1.b.size;exact Fo HA1 (Fo HB1 hb1)):p:=h
theorem BU {p:Prop} (h:p:=by
 have hfx:(xs.map ndF)[i]?=some (ndF x):=by rw[FC,hx];rfl
 have HF:=aa hfx;have hbd:mkN n (ndF x)<=1152921504606846976:=by rw[HN.out];exact F8 (kd hfx N) HBd.out
 have hbd':n+6+x.zs.length<=1152921504606846976:=by simpa[mkN,mkN1,ndF,Int.add_assoc] using hbd
 exact Fo hfx (Fo HF (Fo hbd hbd'))):p:=h
theorem BT {p:Prop} (h:p:=by
 have hfx:(xs.map vdF)[i]?=some (vdF x):=by rw[FC,hx];rfl
 have HF:=aa hfx;have hbd:mkN n (vdF x)<=1152921504606846976:=by rw[HN.out];exact F8 (kd hfx N) HBd.out
 have hbd':n+7+x.zs.length<=1152921504606846976:=by simpa[mkN,mkN1,vdF,Int.add_assoc] using hbd
 exact Fo hfx (Fo HF (Fo hbd hbd'))):p:=h
theorem BS {p:Prop} (h:p:=by
 have hfx:(xs.map kdF)[i]?=some (kdF x):=by rw[FC,hx];rfl
 have HF:=aa hfx;have hbd:mkN n (kdF x)<=1152921504606846976:=by rw[HN.out];exact F8 (kd hfx N) HBd.out
 have hbd':n+3+1<=1152921504606846976:=by simpa[mkN,mkN1,kdF,Int.add_assoc] using hbd
 exact Fo hfx (Fo HF (Fo hbd hbd'))):p:=h
theorem BR {p:Prop} (h:p:=by
 have hfx:(xs.map xdF)[i]?=some (xdF x):=by rw[FC,hx];rfl
 have HF:=aa hfx;have hbd:mkN n (xdF x)<=1152921504606846976:=by rw[HN.out];exact F8 (kd hfx N) HBd.out
 have hbd':n+4+1<=1152921504606846976:=by simpa[mkN,mkN1,xdF,Int.add_assoc] using hbd
 exact Fo hfx (Fo HF (Fo hbd hbd'))):p:=h
theorem BL {p:Prop} (h:p:=by
 have HG:=aa hG;have HB:Hid (Below w.heap.size w w1):=(bI _ _ _ _).trans (hb.mono af);have c20:=ck0 g2;have c10:=ck0 g1;have f10:=av g1 0;have c21:=ck1 g2;have c11:=ck1 g1;have f11:=av g1 1;have c22:=ck2 g2;have c12:=ck2 g1;have f12:=av g1 2;have c23:=ck3 g2;have c13:=ck3 g1;have f13:=av g1 3;have c24:=ck4 g2;have c14:=ck4 g1;have f14:=av g1 4;have c25:=ck5 g2;have c15:=ck5 g1;have f15:=av g1 5;have c26:=ck6 g2;exact Fo HG (Fo HB (Fo c20 (Fo c10 (Fo f10 (Fo c21 (Fo c11 (Fo f11 (Fo c22 (Fo c12 (Fo f12 (Fo c23 (Fo c13 (Fo f13 (Fo c24 (Fo c14 (Fo f14 (Fo c25 (Fo c15 (Fo f15 c26)))))))))))))))))))):p:=h
theorem vd {p:Prop} (h:p:=by
 have HT:=aa hvr;have hvl2:vl<=1048576:=by have:=HF.out k v hv;rw[hvr.1] at this;exact this
 have hvz:=hvr.1;have HVZ:=aa hvz;exact Fo HT (Fo hvl2 (Fo hvz HVZ))):p:=h
theorem nB {p:Prop} (h:p:=by
 have HR:=aa hr;have HR':=aa hr';have hlc:=FA hr.2.1 hr.2.2.1;exact Fo HR (Fo HR' hlc)):p:=h
theorem uY {p:Prop} (h:p:=by
 have h1:=(((H1.out).dt (i:=0) rfl _ (bH af)).iu (i:=1) rfl _).below hb;have H2:=aa h1;exact Fo h1 H2):p:=h
end Go.Proofs.YtpejepeekdjfoaaGreatDoor
namespace Go.Proofs.YtpejepeekdjfoaaGreatDoor

theorem tV {k:Nat} (h:k<10):(UInt8.ofNat (48+k)).toNat=48+k:=by
 rw[UInt8.toNat_ofNat'];omega
theorem sM {u k:Nat} (h:u<10 ^ (k+1)):(G4 u).length<=k+1:=by
 induction k generalizing u with
 | zero=>rw[G4,dif_pos iR];simp
 | succ k ih=>
  rw[G4]
  split
  ·simp
  ·rw[F7];have:=@ih (u / 10) (by rw[Nat.pow_succ] at h;omega)
   simp;omega
theorem zR (u:Nat) (h:0<u) (r:List UInt8):(if u / 10=0 then [] else G4 (u / 10))++(UInt8.ofNat (48+u % 10) ::r)=G4 u++r:=by
 conv=>rhs;rw[G4]
 split
 ·rename_i h1;rw[dif_pos af,Nat.mod_eq_of_lt af];rfl
 ·rename_i h1;rw[dif_neg af];simp

end Go.Proofs.YtpejepeekdjfoaaGreatDoor

namespace Go.Proofs.YtpejepeekdjfoaaGreatDoor
open Go.RowKit

def Ew (left:Int) (p:Prop) (w:World) (e:Ending) (w':World):Prop:=∃r:Int,e=.returned (.int .i64 r)/\(r= -1\/(0<=r/\r<=left/\p))/\w=w'

theorem rY (a:Option Addr) (len cap:Nat) (zs:List ByteArray) (left:Int) (w:World) (hr:ay w a len cap zs) (h0:0<=left) (h1:left<=1048576):
  Calls Tryz.prog 84 #[.slice a len cap,.int .i64 left] w (Ew left ((len:Int)<=left) w):=by
 have HR:Hid (ay w a len cap zs):=hr;have hlc:=FA hr.2.1 hr.2.2.1;clear hr;by_cases hl:left<(len:Int)
 ·go_enter Tryz.func84,Tryz.ntmps84;go_wp2;go_ret;exact⟨-1,rfl,.inl rfl,rfl⟩
 go_enter Tryz.func84,Tryz.ntmps84;go_wp2;go_loop [1,5] (fun l i=> ∃(k:Nat) (m:Int),k<=len/\l=.int .i64 m/\i=.int .i64 k/\0<=m/\m<=left) (fun _ i=>len - (intOf i).toNat);case atStart=>exact⟨0,left - len,by omega,by go_num,rfl,by omega,by omega⟩
 case round=>
  obtain⟨k,m,hk,rfl,rfl,hm0,hm1⟩:=hrel;by_cases hlt:k<len
  ·obtain⟨b,o,x,rfl,hb,hx,hc,hsz⟩:=HR.at hlt;by_cases hs:m<(x.size:Int)
   ·go_wp2;go_ret;exact⟨-1,rfl,.inl rfl,rfl⟩
   ·go_wp2;exact⟨⟨k+1,m - x.size,by omega,by go_num,by go_num,by omega,by omega⟩,by simp[intOf];omega⟩
  ·go_wp2;go_ret;exact⟨m,rfl,.inr ⟨hm0,hm1,by omega⟩,rfl⟩

theorem take_set {α:Type} {zs Z:List α} {k:Nat} {x:α} (h:zs[k]?=some x) (hk:k<zs.length) (hZ:Z.length=zs.length):
  ((zs.take k++Z.drop k).toArray.setIfInBounds k x)=(zs.take (k+1)++Z.drop (k+1)).toArray:=by
 apply Array.ext';have hl:(zs.take k).length=k:=by rw[FQ];omega
 have hd:Z.drop k=Z[k]'(by omega) ::Z.drop (k+1):=GU af;rw[F6,h,hd];simp only[Fz,List.set_append,hl,Nat.lt_irrefl,if_false,Nat.sub_self,FH,Option.toList_some,List.append_assoc,List.singleton_append]

theorem tR {w:World} {B g n:Nat} {e:TypeId} {xs:List Value} (h:w.ownsRow B e 1 (.slice (some ⟨g,0,none⟩) n n) n xs):
  w.heap[g]?=some (.cells xs.toArray e (0,0))/\xs.length=n/\B<=g:=by
 exact CD

theorem lN (a:Option Addr) (len cap:Nat) (zs:List ByteArray) (w:World) (hr:ay w a len cap zs) (hl:len<=1048576):
  Calls Tryz.prog 86 #[.slice a len cap] w fun e w'=>e=.returned (.slice (some ⟨w.heap.size,0,none⟩) len len)/\w'.heap[w.heap.size]?=some (.cells (zs.map FK).toArray 9 (0,0))/\Below w.heap.size w w':=by
 have HR:Hid (ay w a len cap zs):=hr;have hzl:=hr.1;clear hr;obtain⟨i0,hi,hz0,hz1,hz2⟩:=info_parts fD;go_enter Tryz.func86,Tryz.ntmps86;go_wp2_with (at_make;refine wpList_make_full _ rfl _ _ 55 rfl w.heap.size 9 i0 (.string ⟨#[]⟩) 1 Tryz.underlying55 hi hz0 hz1 _ _ _ _ len rfl rfl af af gI cD (Ft _) ?_);intro w1 hown hgrow;obtain⟨hg1,hz,-⟩:=tR hown;obtain⟨Z,hZ⟩:∃Z,Z=(madeCells #[FK ⟨#[]⟩] len).toList:=⟨_,rfl⟩;have hnx1:=(Fw _ _).grown hgrow (Ft _) (fun k hk=>by cases hk);rw[<-hZ] at hg1 hz;have HG:Hid (w1.heap[w.heap.size]?=some (.cells (((zs.map FK).take 0++Z.drop 0)).toArray 9 (0,0))):=by simpa[Hid] using hg1
 have HB:Hid (Below w.heap.size w w1):=hnx1;clear hZ hown hgrow hg1 hi hz0 hz1 hz2 hnx1;go_wp2;go_loopw [4] (fun i wr=> ∃k:Nat,k<=len/\i=.int .i64 k/\Hid (wr.heap[w.heap.size]?=some (.cells (((zs.map FK).take k++Z.drop k)).toArray 9 (0,0)))/\Hid (Below w.heap.size w wr)) (fun i _=>len - (intOf i).toNat);case atStart=>exact⟨0,by omega,rfl,HG,HB⟩
 case round=>
  obtain⟨k,hk,rfl,HG,HB⟩:=hrel;by_cases hlt:k<len
  ·obtain⟨b,o,x,rfl,hb,hx,hc,hsz⟩:=(HR.below HB.out).at hlt;have hlz:(zs.map FK).length=len:=by simp[hzl]
   have hcl:(((zs.map FK).take k++Z.drop k)).length=len:=by rw[F7,FQ,GG,hlz,hz];omega
   have hcw:wr.cell? ⟨w.heap.size,k,none⟩=some ((((zs.map FK).take k++Z.drop k))[k]'(by omega)):=by
    simp only[World.cell?,HG.out];simp
   have hfw:wr.frozen? ⟨w.heap.size,k,none⟩=false:=by simp[World.frozen?,HG.out]
   go_wp2;refine⟨⟨k+1,by omega,by go_num,?_,HB.setCell (Ft _) _⟩,by simp[intOf];omega⟩;show _=_;rw[aA HG.out,take_set (by simp[hx]) af af]
  ·obtain rfl:k=len:=af
   go_wp2;go_ret;refine⟨rfl,?_,HB.out⟩;rw[HG.out,FF (by simp[hzl]),List.drop_eq_nil_of_le af,GD]

theorem sK (a a':Option Addr) (len len' cap cap':Nat) (zs zs':List ByteArray) (w:World) (hr:ay w a len cap zs) (hr':ay w a' len' cap' zs'):
  Calls Tryz.prog 100 #[.slice a len cap,.slice a' len' cap'] w (ar (zs=zs') w):=by
 have HR:Hid (ay w a len cap zs):=hr;have HR':Hid (ay w a' len' cap' zs'):=hr';have hlc:=FA hr.2.1 hr.2.2.1;have hlc':=FA hr'.2.1 hr'.2.2.1;have hzl:=hr.1;have hzl':=hr'.1;clear hr hr';by_cases hne:len=len'
 ·subst hne;go_enter Tryz.func100,Tryz.ntmps100;go_wp2;go_loopw [5] (fun i wr=> ∃k:Nat,k<=len/\i=.int .i64 k/\Hid (∀j,j<k->zs[j]?=zs'[j]?)/\Hid (Below w.heap.size w wr)) (fun i _=>len - (intOf i).toNat);case atStart=>exact⟨0,by omega,rfl,fun j hj=>by omega,Fw _ _⟩
  case round=>
   obtain⟨k,hk,rfl,HE,HB⟩:=hrel;by_cases hlt:k<len
   ·obtain⟨b,o,x,rfl,hb,hx,hc,hsz⟩:=(HR.below HB.out).at hlt;obtain⟨b',o',x',rfl,hb',hx',hc',hsz'⟩:=(HR'.below HB.out).at hlt;by_cases hxx:x=x'
    ·have hq:(x.toList==x'.toList)=true:=by rw[hxx];simp
     go_wp2;go_quiet (fail);go_wp2;refine⟨⟨k+1,by omega,by go_num,fun j hj=>?_,below_drewN HB.out _⟩,by simp[intOf];omega⟩;by_cases e:j=k
     ·subst e;rw[hx,hx',hxx]
     ·exact HE.out j af
    ·have hq:=bC hxx;go_wp2;go_quiet (fail);go_wp2;go_ret;refine⟨false,rfl,⟨fun h=>bU,fun h=>?_⟩,below_drewN HB.out _⟩;subst h;rw[hx] at hx';exact absurd (Fq hx') hxx
   ·obtain rfl:k=len:=af
    go_wp2;go_ret;refine⟨true,rfl,⟨fun _=>List.ext_getElem? fun j=>?_,fun _=>rfl⟩,HB.out⟩;by_cases hj:j<zs.length
    ·exact HE.out j af
    ·rw[List.getElem?_eq_none af,List.getElem?_eq_none af]
 ·have hne':¬(len:Int)=len':=af
  go_enter Tryz.func100,Tryz.ntmps100;go_wp2;go_ret;exact⟨false,rfl,⟨fun h=>bU,fun h=>absurd (congrArg List.length h) af⟩,Fw _ _⟩

theorem aV {w1:World} {b i k:Nat} {v:Value} {o:Option Obj} (hk:k≠b) (h:w1.heap[k]?=o):(w1.setCell ⟨b,i,none⟩ v).heap[k]?=o:=by rw[Fp _ _ _ _ hk];exact h
def SzB (left:Int) (p:Prop) (w:World) (e:Ending) (w':World):Prop:=∃r:Int,e=.returned (.int .i64 r)/\(r= -1\/(0<=r/\r<=left/\p))/\Below w.heap.size w w'
theorem mU (n:ByteArray) (x:Bool) (y:Bool) (z:ByteArray) (left:Int) (w:World) (hn:n.size<=9223372036854775807) (hz:z.size<=9223372036854775807) (h0:0<=left) (h1:left<=1048576):
  Calls Tryz.prog 45 #[.agg #[.string n,.bool x,.bool y,.string z],.int .i64 left] w (SzB left True w):=by
 by_cases h9n:left<(n.size:Int)
 ·go_enter Tryz.func45,Tryz.ntmps45;go_wp2;go_ret;exact⟨-1,rfl,.inl rfl,al _ _⟩
 by_cases h9z:left<(n.size:Int)+(z.size:Int)
 ·go_enter Tryz.func45,Tryz.ntmps45;go_wp2;go_ret;exact⟨-1,rfl,.inl rfl,al _ _⟩
 go_enter Tryz.func45,Tryz.ntmps45;go_wp2;go_ret;exact⟨_,rfl,.inr ⟨by omega,by omega,trivial⟩,al _ _⟩

theorem mS (n:ByteArray) (x:Bool) (y:Bool) (z:ByteArray) (w:World):
  Calls Tryz.prog 54 #[.agg #[.string n,.bool x,.bool y,.string z]] w fun e w'=>e=.returned (.agg #[.string n,.bool x,.bool y,.string z])/\Below w.heap.size w w':=by
 go_enter Tryz.func54,Tryz.ntmps54;go_wp2;exact bodyPost_ret (v:=.agg #[.string n,.bool x,.bool y,.string z]) (by simp[results,Tryz.results54,go_sem]) rfl ⟨rfl,bI _ _ _ _⟩

theorem mV (n:ByteArray) (z:Int) (k:ByteArray) (x:Bool) (v:ByteArray) (left:Int) (w:World) (hn:n.size<=9223372036854775807) (hk:k.size<=9223372036854775807) (hv:v.size<=9223372036854775807) (h0:0<=left) (h1:left<=1048576):
  Calls Tryz.prog 47 #[.agg #[.string n,.int .i64 z,.string k,.bool x,.string v],.int .i64 left] w (SzB left True w):=by
 by_cases h9n:left<(n.size:Int)
 ·exact qp
 by_cases h9k:left<(n.size:Int)+(k.size:Int)
 ·exact qp
 by_cases h9v:left<(n.size:Int)+(k.size:Int)+(v.size:Int)
 ·exact qp
 go_enter Tryz.func47,Tryz.ntmps47;go_wp2;go_ret;exact⟨_,rfl,.inr ⟨by omega,by omega,trivial⟩,al _ _⟩

theorem mT (n:ByteArray) (z:Int) (k:ByteArray) (x:Bool) (v:ByteArray) (w:World):
  Calls Tryz.prog 56 #[.agg #[.string n,.int .i64 z,.string k,.bool x,.string v]] w fun e w'=>e=.returned (.agg #[.string n,.int .i64 z,.string k,.bool x,.string v])/\Below w.heap.size w w':=by
 go_enter Tryz.func56,Tryz.ntmps56;go_wp2;exact bodyPost_ret (v:=.agg #[.string n,.int .i64 z,.string k,.bool x,.string v]) (by simp[results,Tryz.results56,go_sem]) rfl ⟨rfl,bI _ _ _ _⟩

theorem pw (n:ByteArray) (z:ByteArray) (c:Int) (s:Int) (u:Int) (d:Bool) (a:Option Addr) (len cap:Nat) (zs:List ByteArray) (left:Int) (w:World) (hn:n.size<=9223372036854775807) (hz:z.size<=9223372036854775807) (hr:ay w a len cap zs) (h0:0<=left) (h1:left<=1048576):
  Calls Tryz.prog 44 #[.agg #[.string n,.string z,.int .i64 c,.int .i64 s,.int .i64 u,.bool d,.slice a len cap],.int .i64 left] w (SzB left (len<=1048576) w):=by
 have HR:Hid (ay w a len cap zs):=hr;clear hr;by_cases h9n:left<(n.size:Int)
 ·go_enter Tryz.func44,Tryz.ntmps44;go_wp2;go_ret;exact⟨-1,rfl,.inl rfl,al _ _⟩
 by_cases h9z:left<(n.size:Int)+(z.size:Int)
 ·go_enter Tryz.func44,Tryz.ntmps44;go_wp2;go_ret;exact⟨-1,rfl,.inl rfl,al _ _⟩
 go_enter Tryz.func44,Tryz.ntmps44;exact Cm

theorem po (n:ByteArray) (z:ByteArray) (c:Int) (s:Int) (u:Int) (d:Bool) (a:Option Addr) (len cap:Nat) (zs:List ByteArray) (w:World) (hr:ay w a len cap zs) (hl:len<=1048576):
  Calls Tryz.prog 53 #[.agg #[.string n,.string z,.int .i64 c,.int .i64 s,.int .i64 u,.bool d,.slice a len cap]] w fun e w'=>e=.returned (.agg #[.string n,.string z,.int .i64 c,.int .i64 s,.int .i64 u,.bool d,.slice (some ⟨w.heap.size+1+1+1,0,none⟩) len len])/\w'.heap[w.heap.size+1+1+1]?=some (.cells (zs.map FK).toArray 9 (0,0))/\Below w.heap.size w w':=by
 have HR:Hid (ay w a len cap zs):=hr;clear hr;go_enter Tryz.func53,Tryz.ntmps53;go_wp2_with fail;refine (lN a len cap zs _ (HR.below (bI _ _ _ _)) hl).mono ?_;rintro e w1 ⟨rfl,hG,hb⟩;have hsz:(((w.alloc (.cells #[.string n,.string z,.int .i64 c,.int .i64 s,.int .i64 u,.bool d,.slice a len cap] 85)).alloc (.cells #[.string ⟨#[]⟩,.string ⟨#[]⟩,.int .i64 0,.int .i64 0,.int .i64 0,.bool false,.slice none 0 0] 57)).alloc (.cells #[.string n,.string z,.int .i64 c,.int .i64 s,.int .i64 u,.bool d,.slice none 0 0] 57)).heap.size=w.heap.size+1+1+1:=aS
 rw[hsz] at hG hb ⊢;have g1:w1.heap[w.heap.size+1]?=some (.cells #[.string ⟨#[]⟩,.string ⟨#[]⟩,.int .i64 0,.int .i64 0,.int .i64 0,.bool false,.slice none 0 0] 57 (0,0)):=by rw[hb.block _ af];exact dC _ _ _ _
 have g2:w1.heap[w.heap.size+1+1]?=some (.cells #[.string n,.string z,.int .i64 c,.int .i64 s,.int .i64 u,.bool d,.slice none 0 0] 57 (0,0)):=by rw[hb.block _ af];exact cS _ _ _ _
 obtain⟨HG,HB,c20,c10,f10,c21,c11,f11,c22,c12,f12,c23,c13,f13,c24,c14,f14,c25,c15,f15,c26⟩:=BL;have f26:=av g2 6;have c16:=ck6 g1;have f16:=av g1 6;clear g1 g2 hG hb hsz;go_wp2;refine bodyPost_ret (v:=.agg #[.string n,.string z,.int .i64 c,.int .i64 s,.int .i64 u,.bool d,.slice (some ⟨w.heap.size+1+1+1,0,none⟩) len len]) (by simp[results,Tryz.results53,go_sem, *]) rfl ⟨rfl,?_,?_⟩
 ·exact aV af (aV af (aV af (aV af (aV af (aV af (aV af (aV af (HG.out))))))))
 ·exact ah af (ah af (ah af (ah af (ah af (ah af (ah af (ah af (HB.out))))))))

theorem rM (n:ByteArray) (z:ByteArray) (c:Int) (s:Int) (u:Int) (d:Bool) (a:Option Addr) (len cap:Nat) (zs:List ByteArray) (a':Option Addr) (len' cap':Nat) (w:World) (hr:ay w a len cap zs) (hr':ay w a' len' cap' zs):
  Calls Tryz.prog 68 #[.agg #[.string n,.string z,.int .i64 c,.int .i64 s,.int .i64 u,.bool d,.slice a len cap],.agg #[.string n,.string z,.int .i64 c,.int .i64 s,.int .i64 u,.bool d,.slice a' len' cap']] w fun e w'=>e=.returned (.bool true)/\Below w.heap.size w w':=by
 have HR:Hid (ay w a len cap zs):=hr;have HR':Hid (ay w a' len' cap' zs):=hr';clear hr hr';go_enter Tryz.func68,Tryz.ntmps68;exact CA

theorem lQ (n:ByteArray) (c:Int) (z:ByteArray) (k:ByteArray) (x:Bool) (m:ByteArray) (y:Bool) (a:Option Addr) (len cap:Nat) (zs:List ByteArray) (left:Int) (w:World) (hn:n.size<=9223372036854775807) (hz:z.size<=9223372036854775807) (hk:k.size<=9223372036854775807) (hm:m.size<=9223372036854775807) (hr:ay w a len cap zs) (h0:0<=left) (h1:left<=1048576):
  Calls Tryz.prog 46 #[.agg #[.string n,.int .i64 c,.string z,.string k,.bool x,.string m,.bool y,.slice a len cap],.int .i64 left] w (SzB left (len<=1048576) w):=by
 have HR:Hid (ay w a len cap zs):=hr;clear hr;by_cases h9n:left<(n.size:Int)
 ·exact lX
 by_cases h9z:left<(n.size:Int)+(z.size:Int)
 ·exact lX
 by_cases h9k:left<(n.size:Int)+(z.size:Int)+(k.size:Int)
 ·exact lX
 by_cases h9m:left<(n.size:Int)+(z.size:Int)+(k.size:Int)+(m.size:Int)
 ·exact lX
 go_enter Tryz.func46,Tryz.ntmps46;exact Cm

theorem lM (n:ByteArray) (c:Int) (z:ByteArray) (k:ByteArray) (x:Bool) (m:ByteArray) (y:Bool) (a:Option Addr) (len cap:Nat) (zs:List ByteArray) (w:World) (hr:ay w a len cap zs) (hl:len<=1048576):
  Calls Tryz.prog 55 #[.agg #[.string n,.int .i64 c,.string z,.string k,.bool x,.string m,.bool y,.slice a len cap]] w fun e w'=>e=.returned (.agg #[.string n,.int .i64 c,.string z,.string k,.bool x,.string m,.bool y,.slice (some ⟨w.heap.size+1+1+1,0,none⟩) len len])/\w'.heap[w.heap.size+1+1+1]?=some (.cells (zs.map FK).toArray 9 (0,0))/\Below w.heap.size w w':=by
 have HR:Hid (ay w a len cap zs):=hr;clear hr;go_enter Tryz.func55,Tryz.ntmps55;go_wp2_with fail;refine (lN a len cap zs _ (HR.below (bI _ _ _ _)) hl).mono ?_;rintro e w1 ⟨rfl,hG,hb⟩;have hsz:(((w.alloc (.cells #[.string n,.int .i64 c,.string z,.string k,.bool x,.string m,.bool y,.slice a len cap] 91)).alloc (.cells #[.string ⟨#[]⟩,.int .i64 0,.string ⟨#[]⟩,.string ⟨#[]⟩,.bool false,.string ⟨#[]⟩,.bool false,.slice none 0 0] 99)).alloc (.cells #[.string n,.int .i64 c,.string z,.string k,.bool x,.string m,.bool y,.slice none 0 0] 99)).heap.size=w.heap.size+1+1+1:=aS
 rw[hsz] at hG hb ⊢;have g1:w1.heap[w.heap.size+1]?=some (.cells #[.string ⟨#[]⟩,.int .i64 0,.string ⟨#[]⟩,.string ⟨#[]⟩,.bool false,.string ⟨#[]⟩,.bool false,.slice none 0 0] 99 (0,0)):=by rw[hb.block _ af];exact dC _ _ _ _
 have g2:w1.heap[w.heap.size+1+1]?=some (.cells #[.string n,.int .i64 c,.string z,.string k,.bool x,.string m,.bool y,.slice none 0 0] 99 (0,0)):=by rw[hb.block _ af];exact cS _ _ _ _
 obtain⟨HG,HB,c20,c10,f10,c21,c11,f11,c22,c12,f12,c23,c13,f13,c24,c14,f14,c25,c15,f15,c26⟩:=BL;have c16:=ck6 g1;have f16:=av g1 6;have c27:=ck7 g2;have f27:=av g2 7;have c17:=ck7 g1;have f17:=av g1 7;clear g1 g2 hG hb hsz;go_wp2;refine bodyPost_ret (v:=.agg #[.string n,.int .i64 c,.string z,.string k,.bool x,.string m,.bool y,.slice (some ⟨w.heap.size+1+1+1,0,none⟩) len len]) (by simp[results,Tryz.results55,go_sem, *]) rfl ⟨rfl,?_,?_⟩
 ·exact yA
 ·exact yz

theorem mC (n:ByteArray) (c:Int) (z:ByteArray) (k:ByteArray) (x:Bool) (m:ByteArray) (y:Bool) (a:Option Addr) (len cap:Nat) (zs:List ByteArray) (a':Option Addr) (len' cap':Nat) (w:World) (hr:ay w a len cap zs) (hr':ay w a' len' cap' zs):
  Calls Tryz.prog 70 #[.agg #[.string n,.int .i64 c,.string z,.string k,.bool x,.string m,.bool y,.slice a len cap],.agg #[.string n,.int .i64 c,.string z,.string k,.bool x,.string m,.bool y,.slice a' len' cap']] w fun e w'=>e=.returned (.bool true)/\Below w.heap.size w w':=by
 have HR:Hid (ay w a len cap zs):=hr;have HR':Hid (ay w a' len' cap' zs):=hr';clear hr hr';go_enter Tryz.func70,Tryz.ntmps70;exact CA

theorem tf (n:ByteArray) (c:Int) (z:ByteArray) (a:Option Addr) (len cap:Nat) (zs:List ByteArray) (d:ByteArray) (p:Int) (left:Int) (w:World) (hn:n.size<=9223372036854775807) (hz:z.size<=9223372036854775807) (hd:d.size<=9223372036854775807) (hr:ay w a len cap zs) (h0:0<=left) (h1:left<=1048576):
  Calls Tryz.prog 48 #[.agg #[.string n,.int .i64 c,.string z,.slice a len cap,.string d,.int .i64 p],.int .i64 left] w (SzB left (len<=1048576) w):=by
 have HR:Hid (ay w a len cap zs):=hr;clear hr;by_cases h9n:left<(n.size:Int)
 ·go_enter Tryz.func48,Tryz.ntmps48;go_wp2;go_ret;exact⟨-1,rfl,.inl rfl,al _ _⟩
 by_cases h9z:left<(n.size:Int)+(z.size:Int)
 ·go_enter Tryz.func48,Tryz.ntmps48;go_wp2;go_ret;exact⟨-1,rfl,.inl rfl,al _ _⟩
 go_enter Tryz.func48,Tryz.ntmps48;go_wp2_with fail;refine (rY a len cap zs _ _ (HR.below (al _ _)) af af).mono ?_;rintro e w1 ⟨r,rfl,hr,rfl⟩;rcases hr with rfl|⟨hr0,hr1,hr2⟩
 ·go_wp2;go_ret;exact⟨-1,rfl,.inl rfl,al _ _⟩
 by_cases h9d:r<(d.size:Int)
 ·go_wp2;go_ret;exact⟨-1,rfl,.inl rfl,al _ _⟩
 go_wp2;go_ret;exact⟨_,rfl,.inr ⟨by omega,by omega,by omega⟩,al _ _⟩

theorem td (n:ByteArray) (c:Int) (z:ByteArray) (a:Option Addr) (len cap:Nat) (zs:List ByteArray) (d:ByteArray) (p:Int) (w:World) (hr:ay w a len cap zs) (hl:len<=1048576):
  Calls Tryz.prog 57 #[.agg #[.string n,.int .i64 c,.string z,.slice a len cap,.string d,.int .i64 p]] w fun e w'=>e=.returned (.agg #[.string n,.int .i64 c,.string z,.slice (some ⟨w.heap.size+1+1+1,0,none⟩) len len,.string d,.int .i64 p])/\w'.heap[w.heap.size+1+1+1]?=some (.cells (zs.map FK).toArray 9 (0,0))/\Below w.heap.size w w':=by
 have HR:Hid (ay w a len cap zs):=hr;clear hr;go_enter Tryz.func57,Tryz.ntmps57;go_wp2_with fail;refine (lN a len cap zs _ (HR.below (bI _ _ _ _)) hl).mono ?_;rintro e w1 ⟨rfl,hG,hb⟩;have hsz:(((w.alloc (.cells #[.string n,.int .i64 c,.string z,.slice a len cap,.string d,.int .i64 p] 96)).alloc (.cells #[.string ⟨#[]⟩,.int .i64 0,.string ⟨#[]⟩,.slice none 0 0,.string ⟨#[]⟩,.int .i64 0] 64)).alloc (.cells #[.string n,.int .i64 c,.string z,.slice none 0 0,.string ⟨#[]⟩,.int .i64 0] 64)).heap.size=w.heap.size+1+1+1:=aS
 rw[hsz] at hG hb ⊢;have g0:w1.heap[w.heap.size]?=some (.cells #[.string n,.int .i64 c,.string z,.slice a len cap,.string d,.int .i64 p] 96 (0,0)):=by rw[hb.block _ af];exact fF _ _ _ _
 have g1:w1.heap[w.heap.size+1]?=some (.cells #[.string ⟨#[]⟩,.int .i64 0,.string ⟨#[]⟩,.slice none 0 0,.string ⟨#[]⟩,.int .i64 0] 64 (0,0)):=by rw[hb.block _ af];exact dC _ _ _ _
 have g2:w1.heap[w.heap.size+1+1]?=some (.cells #[.string n,.int .i64 c,.string z,.slice none 0 0,.string ⟨#[]⟩,.int .i64 0] 64 (0,0)):=by rw[hb.block _ af];exact cS _ _ _ _
 have HG:=aa hG;have HB:Hid (Below w.heap.size w w1):=(bI _ _ _ _).trans (hb.mono af);have c04:=ck4 g0;have c05:=ck5 g0;have c20:=ck0 g2;have c10:=ck0 g1;have f10:=av g1 0;have c21:=ck1 g2;have c11:=ck1 g1;have f11:=av g1 1;have c22:=ck2 g2;have c12:=ck2 g1;have f12:=av g1 2;have c23:=ck3 g2;have f23:=av g2 3;have c13:=ck3 g1;have f13:=av g1 3;have c24:=ck4 g2;have f24:=av g2 4;have c14:=ck4 g1;have f14:=av g1 4;have c25:=ck5 g2;have f25:=av g2 5;have c15:=ck5 g1;have f15:=av g1 5;clear g0 g1 g2 hG hb hsz;go_wp2;refine bodyPost_ret (v:=.agg #[.string n,.int .i64 c,.string z,.slice (some ⟨w.heap.size+1+1+1,0,none⟩) len len,.string d,.int .i64 p]) (by simp[results,Tryz.results57,go_sem, *]) rfl ⟨rfl,?_,?_⟩
 ·exact yA
 ·exact yz

theorem tU (n:ByteArray) (c:Int) (z:ByteArray) (a:Option Addr) (len cap:Nat) (zs:List ByteArray) (d:ByteArray) (p:Int) (a':Option Addr) (len' cap':Nat) (w:World) (hr:ay w a len cap zs) (hr':ay w a' len' cap' zs):
  Calls Tryz.prog 72 #[.agg #[.string n,.int .i64 c,.string z,.slice a len cap,.string d,.int .i64 p],.agg #[.string n,.int .i64 c,.string z,.slice a' len' cap',.string d,.int .i64 p]] w fun e w'=>e=.returned (.bool true)/\Below w.heap.size w w':=by
 have HR:Hid (ay w a len cap zs):=hr;have HR':Hid (ay w a' len' cap' zs):=hr';clear hr hr';go_enter Tryz.func72,Tryz.ntmps72;go_wp2_with fail;refine (sK a a' len len' cap cap' zs zs _ (HR.below (aF _ _ _)) (HR'.below (aF _ _ _))).mono ?_;rintro e w1 ⟨r,rfl,hr,hb⟩;obtain rfl:r=true:=hr.2 rfl;clear hr;have HB:Hid (Below w.heap.size w w1):=(aF _ _ _).trans (hb.mono bG);obtain⟨g0,g1⟩:=vg;have c04:=ck4 g0;have c05:=ck5 g0;have c14:=ck4 g1;have c15:=ck5 g1;clear g0 g1 hb;go_wp2_with fail;go_ret;exact⟨rfl,HB.out⟩

/-! The cells of a block, at once; what stands behind a callee that came up over new blocks. -/
namespace Mk

def ky (u n:Nat) (r:ByteArray):Prop:=n<=u/\(if n=0 then [] else G4 n)++r.data.toList=G4 u

def dgB (n:Nat):UInt8:=UInt8.ofNat (48+n % 10)
theorem ky.len {u n:Nat} {r:ByteArray} (h:ky u n r) (h1:u<=9223372036854775807):r.size<=19:=by
 have h2:=congrArg List.length h.2;have h3:=sM (u:=u) (k:=18) af;rw[F7] at h2;rw[Lib.size_eq];omega
theorem ky.step {u n:Nat} {r:ByteArray} (h:ky u n r) (hn:¬n=0):ky u (n / 10) (⟨#[dgB n]⟩++r):=by
 obtain⟨h1,h2⟩:=h;refine⟨by omega,?_⟩;rw[if_neg hn] at h2;rw[<-h2,<-zR n af];simp[dgB]

theorem zS (w:World) (n:Nat):(convert 155 9 (.slice (some ⟨w.heap.size,0,none⟩) 1 1)).run Tryz.prog (w.alloc (.cells #[.int .u8 (48+(n:Int) % 10)] 5))=.ok (.string ⟨#[dgB n]⟩) (w.alloc (.cells #[.int .u8 (48+(n:Int) % 10)] 5)):=
 run_convert_bytes_back (P:=Tryz.prog) _ 155 9 5 ⟨w.heap.size,0,none⟩ 1 [UInt8.ofNat (48+n % 10)] Tryz.underlying155 Tryz.underlying5 Tryz.underlying9 (fun j hj=>by
  simp at hj;subst hj;simp[Addr.add];have:=tV (k:=n % 10) af;omega)

def bm (u:Nat):ByteArray:=⟨#[109]⟩++⟨(G4 u).toArray⟩

theorem gV (u:Nat) (w:World) (h0:0<u) (h1:u<=1152921504606846976):
  Calls Tryz.prog 73 #[.int .i64 u] w fun e w'=>e=.returned (.string (bm u))/\Below w.heap.size w w':=by
 go_enter Tryz.func73,Tryz.ntmps73;go_wp2;go_loopw [0,3] (fun vn vr wr=> ∃(n:Nat) (r:ByteArray),vn=.int .i64 n/\vr=.string r/\ky u n r/\Below w.heap.size w wr) (fun vn _ _=>(intOf vn).toNat);case atStart=>exact⟨u,_,rfl,rfl,⟨Ft _,by rw[if_neg af];simp⟩,Fw _ _⟩
 case round=>
  obtain⟨n,r,rfl,rfl,hd,hb⟩:=hrel;have hle:=FA hd.1 h1;have hr:=hd.len af;have hr2:(⟨#[dgB n]⟩:ByteArray).size+r.size<=9223372036854775807:=by rw[show (⟨#[dgB n]⟩:ByteArray).size=1 from rfl];omega
  have HD:Hid (ky u n r):=hd;clear hd h1;by_cases hn:n=0
  ·have hn1:¬(0:Int)<n:=af
   have hr3:(⟨#[109]⟩:ByteArray).size+r.size<=9223372036854775807:=by rw[show (⟨#[109]⟩:ByteArray).size=1 from rfl];omega
   go_wp2;go_ret;refine⟨?_,hb⟩;have:=HD.2;rw[if_pos hn] at this;unfold bm;rw[<-this];rfl
  ·have hn1:(0:Int)<n:=af
   have hcv:=zS wr n;have hmd:(0:Int)<=(n:Int) % 10:=af
   go_wp2;go_roundw;case rel=>
    refine⟨n / 10,_,by go_num,rfl,HD.step hn,?_⟩;exact hb.alloc (by have:=hb.size;omega) _
   case measure=>simp[intOf];omega

structure Kept (g:Nat) (w w':World):Prop where
 os:w'.os=w.os
 tape:w'.tape=w.tape
 output:w'.output=w.output
 size:w.heap.size<=w'.heap.size
 block:∀k,k<w.heap.size->¬k=g->w'.heap[k]?=w.heap[k]?
theorem Kept.bZ {g:Nat} {w w':World} (h:Below w.heap.size w w'):Kept g w w':=⟨h.os,h.tape,h.output,h.size,fun k hk _=>h.block k hk⟩
theorem Kept.trans {g:Nat} {a b c:World} (h:Kept g a b) (k:Kept g b c):Kept g a c:=⟨k.os.trans h.os,k.tape.trans h.tape,k.output.trans h.output,FA h.size k.size,fun i hi hn=>(k.block i (FE hi h.size) hn).trans (h.block i hi hn)⟩
theorem Kept.set {g i:Nat} {w w':World} {v:Value} (h:Kept g w w'):Kept g w (w'.setCell ⟨g,i,none⟩ v):=
 ⟨h.os,h.tape,h.output,by simpa[Gf] using h.size,fun k hk hn=>(Fp _ _ _ _ hn).trans (h.block k hk hn)⟩
def zZ (k n:Nat) (cur:Array Value):Prop:=∀j,j<n->cur[j]?=some (.string (bm (k+j)))
def Bi (g k len n:Nat) (w:World) (e:Ending) (w':World):Prop:=
 e=.returned (.int .i64 ((k+len:Nat):Int))/\Kept g w w'/\∃cur,w'.heap[g]?=some (.cells cur 9 (0,0))/\zZ k len cur/\cur.size=n

theorem C8 (k i:Nat) (h0:0<k) (h1:k+i<=1152921504606846976) (w:World):Calls Tryz.prog 73 #[.int .i64 ((k:Int)+(i:Int))] w fun e w'=>e=.returned (.string (bm (k+i)))/\Below w.heap.size w w':=by
 have h:=gV (k+i) w af h1;rw[Int.natCast_add] at h;exact h

theorem tz (g len cap k:Nat) (cur:Array Value) (w:World) (hg:w.heap[g]?=some (.cells cur 9 (0,0))) (hl:len<=cur.size) (hk:0<k) (hk2:k+len<=1152921504606846976):
  Calls Tryz.prog 74 #[.slice (some ⟨g,0,none⟩) len cap,.int .i64 k] w (Bi g k len cur.size w):=by
 have HG:=aa hg;clear hg;go_enter Tryz.func74,Tryz.ntmps74;go_wp2;go_loopw [1,5] (fun vk vi wr=> ∃(i:Nat) (cu:Array Value),i<=len/\vk=.int .i64 ((k+i:Nat):Int)/\vi=.int .i64 i/\cu.size=cur.size/\Hid (wr.heap[g]?=some (.cells cu 9 (0,0)))/\Hid (zZ k i cu)/\Hid (Kept g w wr)) (fun _ vi _=>len - (intOf vi).toNat);case atStart=>exact⟨0,cur,by omega,by simp,rfl,rfl,HG,fun j hj=>by omega,Kept.bZ (Fw _ _)⟩
 case round=>
  obtain⟨i,cu,hi,rfl,rfl,hcs,HC,HM,HK⟩:=hrel;by_cases hlt:i<len
  ·have HT:=aa (C8 k i af af);go_wp2_with fail;refine (HT.out _).mono ?_;rintro e w2 ⟨rfl,hb2⟩;have g2:=(hb2.block g (ae HC.out)).trans HC.out;have hcl:w2.cell? ⟨g,i,none⟩=some (cu[i]'(by omega)):=by rw[aw g2];exact Array.getElem?_eq_getElem _
   have hfr:w2.frozen? ⟨g,i,none⟩=false:=by simp[World.frozen?,g2]
   have HG2:=aa g2;have HK2:=aa (HK.trans (Kept.bZ (g:=g) hb2));clear hb2 g2;go_wp2_with fail;refine⟨⟨i+1,cu.setIfInBounds i (.string (bm (k+i))),by omega,by go_num,by go_num,by simp[hcs],?_,?_,HK2.set⟩,by simp[intOf];omega⟩
   ·exact aA HG2.out _
   ·intro j hj;rw[FL];by_cases e:i=j
    ·subst e;rw[if_pos rfl,if_pos af]
    ·rw[if_neg e];exact HM.out j af
  ·obtain rfl:i=len:=af
   go_wp2;go_ret;exact⟨rfl,HK.out,cu,HC.out,HM.out,hcs⟩

theorem tQ (a:Option Addr) (len cap k:Nat) (zs:List ByteArray) (w:World) (hr:ay w a len cap zs) (hk:0<k) (hk2:k+len<=1152921504606846976) (hz:∀(j:Nat) x,zs[j]?=some x->x=bm (k+j)):
  Calls Tryz.prog 101 #[.slice a len cap,.int .i64 k] w fun e w'=>e=.returned (.int .i64 ((k+len:Nat):Int))/\Below w.heap.size w w':=by
 have HR:=aa hr;have HZ:=aa hz;clear hr hz;go_enter Tryz.func101,Tryz.ntmps101;go_wp2;go_loopw [1,5] (fun vk vi wr=> ∃(i:Nat),i<=len/\vk=.int .i64 ((k+i:Nat):Int)/\vi=.int .i64 i/\Hid (Below w.heap.size w wr)) (fun _ vi _=>len - (intOf vi).toNat);case atStart=>exact⟨0,by omega,by simp,rfl,Fw _ _⟩
 case round=>
  obtain⟨i,hi,rfl,rfl,HB⟩:=hrel;by_cases hlt:i<len
  ·obtain⟨b,o,x,rfl,hb,hx,hc,-⟩:=(HR.below HB.out).at hlt;obtain rfl:=HZ.out i x hx;have HT:=aa (C8 k i af af);have hb':=aa hb;go_wp2_with fail;have hne:=Wd.ne wr;have cc:∀q:Wd wr,q.w.cell? ⟨b,o+i,none⟩=some (.string (bm (k+i))):=fun q=>(q.cell hb'.out).trans hc;refine ag aq aq ?_;repeat (go_big_quiet_step (first|(go_at_call 73;exact Calls.wide (HT.out _))|fail))
   refine wpQuiet_nil ?_;rintro _ ⟨q,rfl⟩;go_wp2_with fail;exact⟨⟨i+1,by omega,by go_num,by go_num,HB.trans (q.b.mono HB.size)⟩,by simp[intOf];omega⟩
  ·obtain rfl:i=len:=af
   go_wp2;go_ret;exact⟨rfl,HB.out⟩

theorem qY (a:Option Addr) (cap:Nat) (u:Int) (w:World):
  Calls Tryz.prog 74 #[.slice a 0 cap,.int .i64 u] w fun e w'=>e=.returned (.int .i64 u)/\Below w.heap.size w w':=by
 go_enter Tryz.func74,Tryz.ntmps74;go_wp2;go_loopw [1,5] (fun vk vi wr=>vk=.int .i64 u/\vi=.int .i64 0/\wr=w) (fun _ vi _=>(intOf vi).toNat);case atStart=>exact⟨rfl,rfl,rfl⟩
 case round=>
  obtain⟨rfl,rfl,rfl⟩:=hrel;go_wp2;go_ret;exact⟨rfl,Fw _ _⟩

theorem bH {u:Nat} (h:u<=1152921504606846976):(bm u).size<=9223372036854775807:=by
 have h3:=sM (u:=u) (k:=18) af;unfold bm;rw[ByteArray.size_append];have:(⟨(G4 u).toArray⟩:ByteArray).size=(G4 u).length:=by simp[ByteArray.size]
 rw[this,show (⟨#[109]⟩:ByteArray).size=1 from rfl];omega
end Mk
end Go.Proofs.YtpejepeekdjfoaaGreatDoor

namespace Go.Proofs.YtpejepeekdjfoaaGreatDoor
open Go.RowKit
namespace Rc
open Mk

theorem aC.kept {S:Nat->Prop} {g:Nat} {w w1 w2:World} (h:aC S w w1) (h1:S g) (k:Kept g w1 w2):aC S w w2:=
 h.trans ⟨k.os,k.tape,k.output,k.size,fun i hi hn=>k.block i hi (fun e=>hn (e ▸ h1))⟩
theorem az.kept {w w':World} {a:Option Addr} {len cap m:Nat} {T:TypeId} {rs:List (List Fv)} {S S':Nat->Prop} (h:az w a len cap m T rs S) (hb:aC S' w w') (hd:∀k,S k->¬S' k):az w' a len cap m T rs S:=h.aM (fun k hk s=>hb.block k hk (hd k s)) (fun _ _ s=>s)
section
variable {g m:Nat} {T:TypeId} {S N:Nat->Prop} {w wr w2:World} {rs:List (List Fv)} {j:Nat} {r:List Fv}
theorem StJ.below (h:StJ g m T S N w wr rs j r) (hb:Below wr.heap.size wr w2):StJ g m T S N w w2 rs j r:=by
 obtain⟨⟨cur,H,h1,hN⟩,h2,h3⟩:=h;exact⟨⟨cur,H,h1.aM (fun k hk _=>hb.block k hk) (fun _ _ s=>s),hN⟩,h2.below hb,h3⟩
theorem StJ.fresh (h:StJ g m T S N w wr rs j r) (hb:Below wr.heap.size wr w2):StJ g m T S (fun k=>wr.heap.size<=k) w w2 rs j r:=by
 obtain⟨⟨cur,H,h1,hN⟩,h2,h3⟩:=h;refine⟨⟨cur,H,h1.aM (fun k hk _=>hb.block k hk) (fun _ _ s=>s),fun j' r' i' zs hj hi hz hk=>?_⟩,h2.below hb,h3⟩;obtain⟨v,h4,a,len,cap,rfl,h5,h6,h7,h8,h9⟩:=h1.cell j' r' hj i' _ hi;rcases h9 with h9|⟨q1,q2,q3,cu,q4,q5⟩
 ·exact hz h9
 ·have:=ae q4;omega
theorem StJ.slice (h:StJ g m T S N w wr rs j r) {i:Nat} {zs:List ByteArray} (hi:r[i]?=some (.l zs)):∃a len cap,wr.cell? ⟨g,j*m+i,none⟩=some (.slice a len cap)/\zs.length=len:=by
 obtain⟨⟨cur,H,h1,hN⟩,h2,h3⟩:=h;obtain⟨v,h4,a,len,cap,rfl,h5,-⟩:=h1.cell j r (by rw[dQ h3,if_pos rfl]) i _ hi;exact⟨a,len,cap,(aw h1.blk _).trans h4,h5⟩
theorem StJ.De (h:StJ g m T S N w wr rs j r) {i:Nat} {old:Fv} (hi:r[i]?=some old) {b:Nat} (zs:List ByteArray) {len cap:Nat} (hb:zs≠[]->N b) (hv:oY wr b S g zs (.slice (some ⟨b,0,none⟩) len cap)):
  StJ g m T S (fun k=>N k/\¬k=b) w (wr.setCell ⟨g,j*m+i,none⟩ (.slice (some ⟨b,0,none⟩) len cap)) rs j (r.set i (.l zs)):=by
 have hget:=h.get;obtain⟨⟨cur,H,h1,hN⟩,h2,h3⟩:=h;have hil:i<r.length:=(Fm.1 hi).1;have hrm:=h1.len j r hget;obtain⟨v0,hc0,-⟩:=h1.cell j r hget i _ hi;have hin:j*m+i<cur.size:=(FG.1 hc0).1;have hH:∀j' i',¬(j'=j/\i'=i)->(if j'=j/\i'=i then b else H j' i')=H j' i':=fun j' i' hn=>if_neg hn;refine⟨⟨cur.setIfInBounds (j*m+i) (.slice (some ⟨b,0,none⟩) len cap),fun j' i'=>if j'=j/\i'=i then b else H j' i',⟨aA h1.blk _,h1.inS,lT h3 h1.len,fun j' r' hj' i' f' hi'=>?_,fun j' r' i' zs' j2 r2 i2 zs2 hj' hi' hz' hj2 hi2 hz2 hHH=>?_⟩,fun j' r' i' zs' hj' hi' hz'=>?_⟩,h2.set h1.inS,h3⟩
 ·rcases eH h3 hil hj' hi' with ⟨rfl,rfl,rfl⟩|⟨hne,r0,q1,q2⟩
  ·refine⟨_,by rw[Array.getElem?_setIfInBounds_self_of_lt hin],?_⟩;rw[if_pos ⟨rfl,rfl⟩];exact Fv.Own.bD (u:=.l zs) hv
  ·obtain⟨v',k1,k2⟩:=h1.cell j' r0 q1 i' f' q2;have hil':i'<r0.length:=(Fm.1 q2).1;have hrm':=h1.len j' r0 q1;refine⟨v',?_,?_⟩
   ·exact yi
   ·rw[if_neg hne];exact k2.bD
 ·try simp only[] at hHH
  rcases eH h3 hil hj' hi' with ⟨rfl,rfl,e1⟩|⟨hne,r0,q1,q2⟩
  ·rcases eH h3 hil hj2 hi2 with ⟨rfl,rfl,e2⟩|⟨hne2,r3,q3,q4⟩
   ·exact⟨rfl,rfl⟩
   ·rw[if_pos ⟨rfl,rfl⟩,if_neg hne2] at hHH;cases e1;exact absurd (hHH ▸ hb hz') (hN _ _ _ _ q3 q4 hz2)
  ·rcases eH h3 hil hj2 hi2 with ⟨rfl,rfl,e2⟩|⟨hne2,r3,q3,q4⟩
   ·rw[if_neg hne,if_pos ⟨rfl,rfl⟩] at hHH;cases e2;exact absurd (hHH ▸ hb hz2) (hN _ _ _ _ q1 q2 hz')
   ·rw[if_neg hne,if_neg hne2] at hHH;exact h1.inj _ _ _ _ _ _ _ _ q1 q2 hz' q3 q4 hz2 hHH
 ·try simp only[]
  rcases eH h3 hil hj' hi' with ⟨rfl,rfl,e1⟩|⟨hne,r0,q1,q2⟩
  ·rw[if_pos ⟨rfl,rfl⟩];exact fun q=>q.2 rfl
  ·rw[if_neg hne];exact fun q=>hN _ _ _ _ q1 q2 hz' q.1
end

def dI (u:Int) (l:Nat):List ByteArray:=(Gq l).map fun j=>bm (u.toNat+j)
theorem aY (u:Int) (l:Nat):(dI u l).length=l:=by simp[dI]
theorem iF {u:Int} {l j:Nat} {y:ByteArray} (h:(dI u l)[j]?=some y):y=bm (u.toNat+j)/\j<l:=by
 have hj:j<l:=by have:=(Fm.1 h).1;rw[aY] at this;exact this
 unfold dI at h;rw[FC,List.getElem?_range hj] at h;simp at h;exact⟨h.symm,hj⟩
theorem StJ.zh {g m:Nat} {T:TypeId} {S N:Nat->Prop} {w wr:World} {rs:List (List Fv)} {j:Nat} {r:List Fv} (h:StJ g m T S N w wr rs j r) {i:Nat} {zs:List ByteArray} (hi:r[i]?=some (.l zs)) {a:Option Addr} {l c:Nat} (hc:wr.cell? ⟨g,j*m+i,none⟩=some (.slice a l c)) (u:Int) (hu0:0<u) (hu1:u+l<=1152921504606846976):
  Calls Tryz.prog 74 #[.slice a l c,.int .i64 u] wr fun e w'=>e=.returned (.int .i64 (u+l))/\StJ g m T S N w w' rs j (r.set i (.l (dI u l))):=by
 have hget:=h.get;have hst:=h;obtain⟨⟨cur,H,h1,hN⟩,h2,h3⟩:=h;have hil:i<r.length:=(Fm.1 hi).1;obtain⟨v0,hc0,a',l',c',rfl,k2,k3,k4,k5,k6⟩:=h1.cell j r hget i _ hi;rw[aw h1.blk,hc0] at hc;cases hc;obtain⟨n,rfl⟩:∃n:Nat,u=n:=⟨u.toNat,by omega⟩;by_cases hz:zs=[]
 ·subst hz;obtain rfl:l=0:=by simpa using k2.symm
  refine (qY a c n wr).mono ?_;rintro e w' ⟨rfl,hb⟩;refine⟨by simp,?_⟩;have:dI (n:Int) 0=[]:=rfl;rw[this,m9 hi];exact hst.below hb
 rcases k6 with k6|⟨q1,q2,q3,cu,q4,q5⟩
 ·exact absurd k6 hz
 subst q1;have hls:l<=cu.size:=by
  rcases Nat.eq_zero_or_pos l with e|e
  ·omega
  ·have hx:zs[l - 1]?=some (zs[l - 1]'(by omega)):=Fu _;have:=(FG.1 (q5 _ _ hx)).1;omega
 refine (tz (H j i) l c n cu wr q4 hls af af).mono ?_;rintro e w' ⟨rfl,hk,cu',hg',hm,hsz⟩;refine⟨by simp,?_⟩;have back:∀(j':Nat) r' (i':Nat) zs',(rs.set j (r.set i (.l (dI (n:Int) l))))[j']?=some r'->r'[i']?=some (.l zs')->zs'≠[]->∃r0 zs0,(rs.set j r)[j']?=some r0/\r0[i']?=some (.l zs0)/\zs0≠[]:=by
  intro j' r' i' zs' hj' hi' hz';rcases eH h3 hil hj' hi' with ⟨rfl,rfl,e⟩|⟨_,r0,p1,p2⟩
  ·exact⟨r,zs,hget,hi,hz⟩
  ·exact⟨r0,zs',p1,p2,hz'⟩
 refine⟨⟨cur,H,⟨(hk.block _ (ae h1.blk) (fun e=>q3 e.symm)).trans h1.blk,h1.inS,lT h3 h1.len,fun j' r' hj' i' f' hi'=>?_,fun j' r' i' zs' j2 r2 i2 zs2 hj' hi' hz' hj2 hi2 hz2 hH=>?_⟩,fun j' r' i' zs' hj' hi' hz'=>?_⟩,h2.kept q2 hk,h3⟩
 ·rcases eH h3 hil hj' hi' with ⟨rfl,rfl,rfl⟩|⟨hne,r0,p1,p2⟩
  ·refine⟨_,hc0,_,_,_,rfl,aY _ _,k3,k4,fun t x hx=>?_,.inr ⟨rfl,q2,q3,cu',hg',fun t x hx=>?_⟩⟩
   ·obtain⟨rfl,ht⟩:=iF hx;exact bH bG
   ·obtain⟨rfl,ht⟩:=iF hx;have:=hm t ht;simpa using this
  ·obtain⟨v',p3,p4⟩:=h1.cell j' r0 p1 i' f' p2;refine⟨v',p3,?_⟩;cases f' with
   | l zs'=>
    obtain⟨a',l',c',e1,e2,e3,e4,e5,e6⟩:=p4;refine⟨a',l',c',e1,e2,e3,e4,e5,?_⟩
    by_cases hz':zs'=[]
    ·exact .inl hz'
    rcases e6 with e6|⟨z1,z2,z3,cz,z4,z5⟩
    ·exact .inl e6
    ·refine .inr ⟨z1,z2,z3,cz,(hk.block _ (ae z4) (fun e=>hne (h1.inj _ _ _ _ _ _ _ _ p1 p2 hz' hget hi hz e))).trans z4,z5⟩
   | _=>exact p4
 ·obtain⟨r0,z0,b1,b2,b5⟩:=back j' r' i' zs' hj' hi' hz';obtain⟨r3,z3,b3,b4,b6⟩:=back j2 r2 i2 zs2 hj2 hi2 hz2;exact h1.inj j' r0 i' z0 j2 r3 i2 z3 b1 b2 b5 b3 b4 b6 hH
 ·obtain⟨r0,z0,b1,b2,b5⟩:=back j' r' i' zs' hj' hi' hz';exact hN j' r0 i' z0 b1 b2 b5

theorem StJ.jh {g m:Nat} {T:TypeId} {S N:Nat->Prop} {w wr:World} {rs:List (List Fv)} {j:Nat} {r:List Fv} (h:StJ g m T S N w wr rs j r) {i:Nat} {old:Fv} (hi:r[i]?=some old) (t:Bool):StJ g m T S N w (wr.setCell ⟨g,j*m+i,none⟩ (.bool t)) rs j (r.set i (.b t)):=h.set hi (.b t) rfl trivial
theorem cC {w:World} {g i j:Nat} {v:Value} (h:¬i=j):(w.setCell ⟨g,i,none⟩ v).cell? ⟨g,j,none⟩=w.cell? ⟨g,j,none⟩:=by
 cases hg:w.heap[g]? with
 | none=>
  have hs:(w.setCell ⟨g,i,none⟩ v).heap[g]?=none:=by
   have h1:=Array.getElem?_eq_none_iff.1 hg;exact Array.getElem?_eq_none_iff.2 (by simpa[Gf] using h1)
  simp[World.cell?,hg,hs]
 | some o=>
  cases o with
  | cells cs t fr=>
   have:=aA (i:=i) hg v;simp only[World.cell?,hg,this]
   simp[Array.getElem?_setIfInBounds_ne h]
  | _=>simp[World.cell?,Gf,Array.getElem?_modify,hg]

theorem cn (u:Int) (w:World) (h0:0<u) (h1:u<=1152921504606846976):Calls Tryz.prog 73 #[.int .i64 u] w fun e w'=>e=.returned (.string (bm u.toNat))/\Below w.heap.size w w':=by
 obtain⟨n,rfl⟩:∃n:Nat,u=n:=⟨u.toNat,by omega⟩;exact gV n w af af

theorem zH (a:Option Addr) (len cap:Nat) (u:Int) (w:World) (hr:ay w a len cap (dI u len)) (h0:0<u) (h1:u+len<=1152921504606846976):
  Calls Tryz.prog 101 #[.slice a len cap,.int .i64 u] w fun e w'=>e=.returned (.int .i64 (u+len))/\Below w.heap.size w w':=by
 obtain⟨n,rfl⟩:∃n:Nat,u=n:=⟨u.toNat,by omega⟩;refine (tQ a len cap n _ w hr af af (fun j x hx=>?_)).mono ?_
 ·have:=(iF hx).1;simpa using this
 ·rintro e w' ⟨rfl,hb⟩;exact⟨by simp,hb⟩

def mkF (k:Int):Fv->Fv
 | .s _=>.s (bm k.toNat)
 | .i _=>.i k
 | .b _=>.b (k % 3==0)
 | .l zs=>.l (dI k zs.length)
def mkN1 (k:Int):Fv->Int
 | .l zs=>k+zs.length
 | _=>k+1
def mkR:Int->List Fv->List Fv
 | _,[]=> []
 | k,f ::r=>mkF k f ::mkR (mkN1 k f) r
def mkN:Int->List Fv->Int
 | k,[]=>k
 | k,f ::r=>mkN (mkN1 k f) r
def mkRs:Int->List (List Fv)->List (List Fv)
 | _,[]=> []
 | k,r ::rs=>mkR k r ::mkRs (mkN k r) rs
def aI:Int->List (List Fv)->Int
 | k,[]=>k
 | k,r ::rs=>aI (mkN k r) rs
theorem bL:∀(rs:List (List Fv)) (k:Int),(mkRs k rs).length=rs.length
 | [],_=>rfl
 | r ::rs,k=>by simp[mkRs,bL rs]
theorem eL:∀(rs:List (List Fv)) (k:Int) (i:Nat),(mkRs k rs)[i]?=(rs[i]?).map (mkR (aI k (rs.take i)))
 | [],_,_=>by simp[mkRs]
 | r ::rs,k,0=>by simp[mkRs,aI]
 | r ::rs,k,i+1=>by simp[mkRs,aI,eL rs]
theorem fh:∀(rs ts:List (List Fv)) (k:Int),aI k (rs++ts)=aI (aI k rs) ts
 | [],_,_=>rfl
 | r ::rs,ts,k=>by simp[aI,fh rs]
theorem cy {rs:List (List Fv)} {i:Nat} {r:List Fv} (h:rs[i]?=some r) (k:Int):aI k (rs.take (i+1))=mkN (aI k (rs.take i)) r:=by
 rw[F6,h,fh];rfl
theorem AN (f:Fv) (k:Int):k<=mkN1 k f:=by
 cases f <;> simp[mkN1] <;> omega
theorem y_:∀(r:List Fv) (k:Int),k<=mkN k r
 | [],_=>Hu _
 | f ::r,k=>F8 (AN f k) (y_ r _)
theorem aH:∀(rs:List (List Fv)) (k:Int),k<=aI k rs
 | [],_=>Hu _
 | r ::rs,k=>F8 (y_ r k) (aH rs _)
theorem kd {rs:List (List Fv)} {i:Nat} {r:List Fv} (h:rs[i]?=some r) (k:Int):mkN (aI k (rs.take i)) r<=aI k rs:=by
 rw[<-cy h];have h2:=fh (rs.take (i+1)) (rs.drop (i+1)) k;rw[List.take_append_drop] at h2;rw[h2];exact aH _ _
theorem cF {α:Type} {A B:List α} {i:Nat} {x:α} (hl:A.length=B.length) (hi:A[i]?=some x):(A.take i++B.drop i).set i x=A.take (i+1)++B.drop (i+1):=by
 have hlt:i<A.length:=(Fm.1 hi).1;have h1:(A.take i).length=i:=by rw[FQ];omega
 have hd:B.drop i=B[i]'(by omega) ::B.drop (i+1):=GU af;rw[F6,hi,hd];simp only[List.set_append,h1,Nat.lt_irrefl,if_false,Nat.sub_self,FH,Option.toList_some,List.append_assoc,List.singleton_append]
theorem cO {α:Type} {A B:List α} {i:Nat} (hl:A.length=B.length) (hi:i<=A.length):(A.take i++B.drop i)[i]?=B[i]?:=by
 have h1:(A.take i).length=i:=by rw[FQ];omega
 rw[List.getElem?_append_right af,h1,Nat.sub_self,Gm,G3]
theorem fN {α:Type} {A B:List α} {i:Nat} (hl:A.length=B.length) (hi:i<=A.length):(A.take i++B.drop i).length=B.length:=by
 rw[F7,FQ,GG];omega
theorem az.ow {g len cap m:Nat} {T:TypeId} {S N:Nat->Prop} {w wr:World} {rs:List (List Fv)} {k:Int} {i:Nat} {r r':List Fv} (h:StJ g m T S N w wr ((mkRs k rs).take i++rs.drop i) i r') (hl:rs.length=len) (hm:(mkRs k rs).length=rs.length) (hc:len<=cap) (hc2:cap<=9223372036854775807) (hi:rs[i]?=some r) (e:r'=mkR (aI k (rs.take i)) r):az wr (some ⟨g,0,none⟩) len cap m T ((mkRs k rs).take (i+1)++rs.drop (i+1)) S:=by
 subst e;have hlt:i<rs.length:=(Fm.1 hi).1;have h1:(mkRs k rs)[i]?=some (mkR (aI k (rs.take i)) r):=by rw[eL,hi];rfl
 obtain⟨⟨cur,H,h2,-⟩,-,-⟩:=h;rw[cF hm h1] at h2;exact⟨by rw[fN hm af];exact hl,hc,hc2,.inr ⟨g,cur,H,rfl,h2⟩⟩

theorem uz (a:Option Addr) (len cap:Nat) (xs:List Nd) (left:Int) (w:World) (hr:aN w a len cap 7 (xs.map ndF)) (h0:0<=left) (h1:left<=1048576):
  Calls Tryz.prog 16 #[.slice a len cap,.int .i64 left] w (SzB left (len<=1048576/\∀(j:Nat) x,xs[j]?=some x->x.zs.length<=1048576) w):=by
 obtain⟨HR,hvl⟩:=fQ;have hlc:=FA hr.2.1 hr.2.2.1;clear hr;by_cases hl:left<(len:Int)
 ·go_enter Tryz.func16,Tryz.ntmps16;exact jY
 go_enter Tryz.func16,Tryz.ntmps16;go_wp2;go_loopw [1,5] (fun l i wr=> ∃(k:Nat) (m:Int),k<=len/\l=.int .i64 m/\i=.int .i64 k/\0<=m/\m<=left/\Hid (∀(j:Nat) x,j<k->xs[j]?=some x->x.zs.length<=1048576)/\Hid (Below w.heap.size w wr)) (fun _ i _=>len - (intOf i).toNat);case atStart=>exact⟨0,left - len,by omega,by go_num,rfl,by omega,by omega,fun j v hj=>by omega,Fw _ _⟩
 case round=>
  obtain⟨k,m,hk,rfl,rfl,hm0,hm1,HE,HB⟩:=hrel;by_cases hlt:k<len
  ·obtain⟨b,o,v,rfl,hb,hv,hat⟩:=cB (HR.below HB.out) hlt;obtain⟨va,vl,vc,hvr,z0,z1,c0,c1,c2,c3,c4,c5,c6⟩:=aZ hat;have Hz0:=aa z0;have Hz1:=aa z1;have HV:=aa hv;have HT:=aa hvr;clear hvr;clear hat hv z0 z1;go_wp2_with fail;refine (pw v.n v.z v.c v.s v.u v.d va vl vc v.zs m _ Hz0.out Hz1.out HT.out hm0 af).mono ?_;rintro e w2 ⟨r,rfl,hr,hb2⟩;have HB2:=upB HB hb2;clear hb2 c0 c1 c2 c3 c4 c5 c6;exact vR
  ·exact vI

theorem zN (a a':Option Addr) (len len' cap cap':Nat) (xs:List Nd) (w:World) (hr:aN w a len cap 7 (xs.map ndF)) (hr':aN w a' len' cap' 7 (xs.map ndF)):
  Calls Tryz.prog 32 #[.slice a len cap,.slice a' len' cap'] w fun e w'=>e=.returned (.bool true)/\Below w.heap.size w w':=by
 obtain rfl:len=len':=hr.1.symm.trans hr'.1;obtain⟨HR,HR',hlc⟩:=nB;clear hr hr';go_enter Tryz.func32,Tryz.ntmps32;go_wp2;go_loopw [5] (fun i wr=> ∃k:Nat,k<=len/\i=.int .i64 k/\Hid (Below w.heap.size w wr)) (fun i _=>len - (intOf i).toNat);case atStart=>exact⟨0,by omega,rfl,Fw _ _⟩
 case round=>
  obtain⟨k,hk,rfl,HB⟩:=hrel;by_cases hlt:k<len
  ·obtain⟨b,o,v,rfl,hb,hv,hat⟩:=cB (HR.below HB.out) hlt;obtain⟨b',o',v',rfl,hb',hv',hat'⟩:=cB (HR'.below HB.out) hlt;rw[hv] at hv';obtain rfl:=Fq hv';clear hv hv';obtain⟨va,vl,vc,hvr,-,-,c0,c1,c2,c3,c4,c5,c6⟩:=aZ hat;obtain⟨va',vl',vc',hvr',-,-,d0,d1,d2,d3,d4,d5,d6⟩:=aZ hat';clear hat hat';have HT:=aa hvr;have HT':=aa hvr';clear hvr hvr';have HE:=aa (fun q:Wd wr=>rM v.n v.z v.c v.s v.u v.d va vl vc v.zs va' vl' vc' q.w (HT.below q.b) (HT'.below q.b));have hne:=Wd.ne wr;have e0:∀q:Wd wr,q.w.cell? ⟨b,o+k*7,none⟩=some (.string v.n):=fun q=>(q.cell hb).trans c0;have e1:∀q:Wd wr,q.w.cell? ⟨b,o+k*7+1,none⟩=some (.string v.z):=fun q=>(q.cell hb).trans c1;have e2:∀q:Wd wr,q.w.cell? ⟨b,o+k*7+2,none⟩=some (.int .i64 v.c):=fun q=>(q.cell hb).trans c2;have e3:∀q:Wd wr,q.w.cell? ⟨b,o+k*7+3,none⟩=some (.int .i64 v.s):=fun q=>(q.cell hb).trans c3;have e4:∀q:Wd wr,q.w.cell? ⟨b,o+k*7+4,none⟩=some (.int .i64 v.u):=fun q=>(q.cell hb).trans c4;have e5:∀q:Wd wr,q.w.cell? ⟨b,o+k*7+5,none⟩=some (.bool v.d):=fun q=>(q.cell hb).trans c5;have e6:∀q:Wd wr,q.w.cell? ⟨b,o+k*7+6,none⟩=some (.slice va vl vc):=fun q=>(q.cell hb).trans c6;have f0:∀q:Wd wr,q.w.cell? ⟨b',o'+k*7,none⟩=some (.string v.n):=fun q=>(q.cell hb').trans d0;have f1:∀q:Wd wr,q.w.cell? ⟨b',o'+k*7+1,none⟩=some (.string v.z):=fun q=>(q.cell hb').trans d1;have f2:∀q:Wd wr,q.w.cell? ⟨b',o'+k*7+2,none⟩=some (.int .i64 v.c):=fun q=>(q.cell hb').trans d2;have f3:∀q:Wd wr,q.w.cell? ⟨b',o'+k*7+3,none⟩=some (.int .i64 v.s):=fun q=>(q.cell hb').trans d3;have f4:∀q:Wd wr,q.w.cell? ⟨b',o'+k*7+4,none⟩=some (.int .i64 v.u):=fun q=>(q.cell hb').trans d4;have f5:∀q:Wd wr,q.w.cell? ⟨b',o'+k*7+5,none⟩=some (.bool v.d):=fun q=>(q.cell hb').trans d5;have f6:∀q:Wd wr,q.w.cell? ⟨b',o'+k*7+6,none⟩=some (.slice va' vl' vc'):=fun q=>(q.cell hb').trans d6;clear c0 c1 c2 c3 c4 c5 c6 d0 d1 d2 d3 d4 d5 d6;go_wp2_with fail;refine ag aq aq ?_;repeat (go_big_quiet_step (first|(go_at_call 68;exact Calls.wide (HE.out _))|fail))
   exact nZ
  ·exact j0

theorem qW (a:Option Addr) (len cap:Nat) (xs:List Nd) (N:Int) (S:Nat->Prop) (w:World) (ho:az w a len cap 7 57 (xs.map ndF) S) (hN:0<N) (hb:aI N (xs.map ndF)<=1152921504606846976) (hl:len<=9223372036854775807):
  Calls Tryz.prog 37 #[.slice a len cap,.int .i64 N] w fun e w'=>e=.returned (.int .i64 (aI N (xs.map ndF)))/\az w' a len cap 7 57 (mkRs N (xs.map ndF)) S/\aC S w w':=by
 have hxl:=ho.1;have hcp:=ho.2.1;have hcm:=ho.2.2.1;have hml:(mkRs N (xs.map ndF)).length=(xs.map ndF).length:=bL _ _;have HO:Hid (az w a len cap 7 57 ((mkRs N (xs.map ndF)).take 0++(xs.map ndF).drop 0) S):=nt
 have HBd:=aa hb;clear ho hb;go_enter Tryz.func37,Tryz.ntmps37;go_wp2;go_loopw [1,5] (fun vk vi wr=> ∃(i:Nat) (n:Int),i<=len/\vk=.int .i64 n/\vi=.int .i64 i/\Hid (n=aI N ((xs.map ndF).take i))/\0<n/\Hid (az wr a len cap 7 57 ((mkRs N (xs.map ndF)).take i++(xs.map ndF).drop i) S)/\Hid (aC S w wr)) (fun _ vi _=>len - (intOf vi).toNat);case atStart=>exact⟨0,N,by omega,rfl,rfl,rfl,hN,HO,aC.refl _ _⟩
 case round=>
  obtain⟨i,n,hi,rfl,rfl,HN,hn0,HS,HK⟩:=hrel;clear HO;by_cases hlt:i<len
  ·obtain⟨x,hx⟩:∃x,xs[i]?=some x:=⟨_,Fu (by simpa using (show i<(xs.map ndF).length by omega))⟩;obtain⟨hfx,HF,hbd,hbd'⟩:=BU;obtain⟨g,rfl,hs⟩:=HS.st HK.out ((cO hml af).trans hfx);have H0:Hid (StJ g 7 57 S (fun _=>False) w wr ((mkRs N (xs.map ndF)).take i++(xs.map ndF).drop i) i [.s x.n,.s x.z,.i x.c,.i x.s,.i x.u,.b x.d,.l x.zs]):=hs;clear hs hbd hx hfx HS HK;go_wp2_with fail;refine (cn _ _ af af).mono ?_;rintro e w1 ⟨rfl,hb⟩;have h1:=(H0.out).below hb;have H1:=aa h1;obtain⟨p0,c0⟩:=h1.cell (i:=0) rfl;have f0:=h1.cI (i*7);rw[G3] at c0;clear h1 hb H0;go_wp2_with fail;refine (cn _ _ af af).mono ?_;rintro e w2 ⟨rfl,hb⟩;have h1:=((H1.out).dt (i:=0) rfl _ (bH af)).below hb;have H2:=aa h1;obtain⟨p1,c1⟩:=h1.cell (i:=1) rfl;have f1:=h1.cI (i*7+1);obtain⟨p2,c2⟩:=h1.cell (i:=2) rfl;have f2:=h1.cI (i*7+2);obtain⟨p3,c3⟩:=h1.cell (i:=3) rfl;have f3:=h1.cI (i*7+3);obtain⟨p4,c4⟩:=h1.cell (i:=4) rfl;have f4:=h1.cI (i*7+4);obtain⟨p5,c5⟩:=h1.cell (i:=5) rfl;have f5:=h1.cI (i*7+5);obtain⟨la,ll,lc,cl,hll⟩:=h1.slice (i:=6) rfl;clear h1 hb H1 c0 f0;go_wp2_with fail;refine (((((((H2.out).dt (i:=1) rfl _ (bH af)).iu (i:=2) rfl _).iu (i:=3) rfl _).iu (i:=4) rfl _).jh (i:=5) rfl _).zh (i:=6) rfl ((cC af).trans ((cC af).trans ((cC af).trans ((cC af).trans ((cC af).trans (cl)))))) _ af af).mono ?_;rintro e w3 ⟨rfl,h1⟩;have H3:=aa h1;clear h1 cl H2 c1 f1 c2 f2 c3 f3 c4 f4 c5 f5;go_wp2_with fail;have HZ:=aa (H3.out);clear H3;refine⟨⟨i+1,mkN n (ndF x),by omega,?_,by go_num,?_,?_,?_,HZ.kept⟩,by simp[intOf];omega⟩
   ·simp[mkN,mkN1,ndF,hll,Int.add_assoc]
   ·rw[cy HF.out,<-HN.out];rfl
   ·simp[mkN,mkN1,ndF];omega
   ·refine az.ow HZ.out hxl hml hcp hcm HF.out ?_;rw[<-HN.out];simp[mkR,mkF,mkN1,ndF,hll]
  ·obtain rfl:i=len:=af
   go_wp2;go_ret;have e1:(xs.map ndF).take i=xs.map ndF:=FF af;have e2:(mkRs N (xs.map ndF)).take i++(xs.map ndF).drop i=mkRs N (xs.map ndF):=by
    exact jT
   exact nW

theorem rF (a:Option Addr) (len cap:Nat) (xs:List Nd) (N:Int) (w:World) (ho:aN w a len cap 7 (mkRs N (xs.map ndF))) (hN:0<N) (hb:aI N (xs.map ndF)<=1152921504606846976) (hl:len<=9223372036854775807):
  Calls Tryz.prog 75 #[.slice a len cap,.int .i64 N] w fun e w'=>e=.returned (.int .i64 (aI N (xs.map ndF)))/\Below w.heap.size w w':=by
 have hxl:(xs.map ndF).length=len:=by rw[<-bL (xs.map ndF) N];exact ho.1
 have HR:=aa ho;have HBd:=aa hb;clear ho hb;go_enter Tryz.func75,Tryz.ntmps75;go_wp2;go_loopw [1,5] (fun vk vi wr=> ∃(i:Nat) (n:Int),i<=len/\vk=.int .i64 n/\vi=.int .i64 i/\Hid (n=aI N ((xs.map ndF).take i))/\0<n/\Hid (Below w.heap.size w wr)) (fun _ vi _=>len - (intOf vi).toNat);case atStart=>exact⟨0,N,by omega,rfl,rfl,rfl,hN,Fw _ _⟩
 case round=>
  obtain⟨i,n,hi,rfl,rfl,HN,hn0,HB⟩:=hrel;by_cases hlt:i<len
  ·obtain⟨x,hx⟩:∃x,xs[i]?=some x:=⟨_,Fu (by simpa using (show i<(xs.map ndF).length by omega))⟩;obtain⟨hfx,HF,hbd,hbd'⟩:=BU;obtain⟨b,o,r,rfl,hb,hr,hat⟩:=(HR.below HB.out).at hlt;rw[eL,hfx,<-HN.out] at hr;obtain rfl:=Fq hr;have HA:Hid (RAt wr b (o+i*7) (ndF ⟨bm (n).toNat,bm (n+1).toNat,n+1+1,n+1+1+1,n+1+1+1+1,(n+1+1+1+1+1) % 3==0,dI (n+1+1+1+1+1+1) x.zs.length⟩)):=hat;clear hat hr hbd hx hfx;obtain⟨va,vl,vc,hvr,-,-,c0,c1,c2,c3,c4,c5,c6⟩:=aZ HA.out;have HL:=aa hvr;have hvl:=hvr.1;rw[aY] at hvl;clear hvr;clear HL hvl;have hne0:=Wd.ne wr;have e0:∀q:Wd wr,q.w.cell? ⟨b,o+i*7,none⟩=some (.string (bm (n).toNat)):=fun q=>(q.cell hb).trans c0;have HT:=aa (fun v:World=>cn (n) v af af);clear c0;go_wp2_with fail;refine ag aq aq ?_;repeat (go_big_quiet_step (first|(go_at_call 73;exact Calls.wide (HT.out _))|fail))
   refine wpQuiet_nil ?_;rintro _ ⟨q0,rfl⟩;clear e0 HT hne0 c1 c2 c3 c4 c5 c6;obtain⟨HA0,HB0,hb0⟩:=nJ;clear HA HB hb;have HA:=HA0;have HB:=HB0;have hb:=hb0;clear HA0 HB0 hb0;obtain⟨va,vl,vc,hvr,-,-,c0,c1,c2,c3,c4,c5,c6⟩:=aZ HA.out;have HL:=aa hvr;have hvl1:=hvr.1;rw[aY] at hvl1;clear hvr;clear c0 c2 c3 c4 c5 c6;clear HL hvl1;have hne1:=Wd.ne q0.w;have e1:∀q:Wd q0.w,q.w.cell? ⟨b,o+i*7+1,none⟩=some (.string (bm (n+1).toNat)):=fun q=>(q.cell hb).trans c1;have HT:=aa (fun v:World=>cn (n+1) v af af);clear c1;go_wp2_with fail;refine ag aq aq ?_;repeat (go_big_quiet_step (first|(go_at_call 73;exact Calls.wide (HT.out _))|fail))
   refine wpQuiet_nil ?_;rintro _ ⟨q1,rfl⟩;clear e1 HT hne1;obtain⟨HA1,HB1,hb1⟩:=nI;clear HA HB hb;have HA:=HA1;have HB:=HB1;have hb:=hb1;clear HA1 HB1 hb1;obtain⟨va,vl,vc,hvr,-,-,c0,c1,c2,c3,c4,c5,c6⟩:=aZ HA.out;have HL:=aa hvr;have hvl2:=hvr.1;rw[aY] at hvl2;clear hvr;clear c0 c1;subst hvl2;go_wp2_with fail;refine (zH va _ vc _ _ (by exact HL.out) af af).mono ?_;rintro e w2 ⟨rfl,hbq⟩;have HA2:=aa (HA.below hb hbq);have HB2:=upB HB hbq;have hb2:=FE hb hbq.size;clear HA HB hb HL c6 hbq;have HA:=HA2;have HB:=HB2;have hb:=hb2;clear HA2 HB2 hb2;go_wp2_with fail;refine⟨⟨i+1,mkN n (ndF x),by omega,?_,by go_num,?_,?_,HB.out⟩,by simp[intOf];omega⟩
   ·simp[mkN,mkN1,ndF,Int.add_assoc]
   ·rw[cy HF.out,<-HN.out];rfl
   ·simp[mkN,mkN1,ndF];omega
  ·obtain rfl:i=len:=af
   go_wp2;go_ret;have e1:(xs.map ndF).take i=xs.map ndF:=FF af;exact nR

theorem uA (a:Option Addr) (len cap:Nat) (xs:List Kd) (left:Int) (w:World) (hr:aN w a len cap 4 (xs.map kdF)) (h0:0<=left) (h1:left<=1048576):
  Calls Tryz.prog 17 #[.slice a len cap,.int .i64 left] w (SzB left (len<=1048576) w):=by
 obtain⟨HR,hvl⟩:=fQ;have hlc:=FA hr.2.1 hr.2.2.1;clear hr;by_cases hl:left<(len:Int)
 ·go_enter Tryz.func17,Tryz.ntmps17;exact jY
 go_enter Tryz.func17,Tryz.ntmps17;go_wp2;go_loopw [1,5] (fun l i wr=> ∃(k:Nat) (m:Int),k<=len/\l=.int .i64 m/\i=.int .i64 k/\0<=m/\m<=left/\Hid (Below w.heap.size w wr)) (fun _ i _=>len - (intOf i).toNat);case atStart=>exact⟨0,left - len,by omega,by go_num,rfl,by omega,by omega,Fw _ _⟩
 case round=>
  obtain⟨k,m,hk,rfl,rfl,hm0,hm1,HB⟩:=hrel;by_cases hlt:k<len
  ·obtain⟨b,o,v,rfl,hb,hv,hat⟩:=eW (HR.below HB.out) hlt;obtain⟨z0,z3,c0,c1,c2,c3⟩:=cf hat;have Hz0:=aa z0;have Hz3:=aa z3;clear hat hv z0 z3;go_wp2_with fail;refine (mU v.n v.x v.y v.z m _ Hz0.out Hz3.out hm0 af).mono ?_;rintro e w2 ⟨r,rfl,hr,hb2⟩;have HB2:=upB HB hb2;clear hb2 c0 c1 c2 c3;exact yv
  ·exact xG

theorem oS (n:ByteArray) (x:Bool) (y:Bool) (z:ByteArray) (w:World):
  Calls Tryz.prog 69 #[.agg #[.string n,.bool x,.bool y,.string z],.agg #[.string n,.bool x,.bool y,.string z]] w fun e w'=>e=.returned (.bool true)/\Below w.heap.size w w':=by
 go_enter Tryz.func69,Tryz.ntmps69;go_wp2;go_ret;exact⟨rfl,aF _ _ _⟩

theorem zO (a a':Option Addr) (len len' cap cap':Nat) (xs:List Kd) (w:World) (hr:aN w a len cap 4 (xs.map kdF)) (hr':aN w a' len' cap' 4 (xs.map kdF)):
  Calls Tryz.prog 33 #[.slice a len cap,.slice a' len' cap'] w fun e w'=>e=.returned (.bool true)/\Below w.heap.size w w':=by
 obtain rfl:len=len':=hr.1.symm.trans hr'.1;obtain⟨HR,HR',hlc⟩:=nB;clear hr hr';go_enter Tryz.func33,Tryz.ntmps33;go_wp2;go_loopw [5] (fun i wr=> ∃k:Nat,k<=len/\i=.int .i64 k/\Hid (Below w.heap.size w wr)) (fun i _=>len - (intOf i).toNat);case atStart=>exact⟨0,by omega,rfl,Fw _ _⟩
 case round=>
  obtain⟨k,hk,rfl,HB⟩:=hrel;by_cases hlt:k<len
  ·obtain⟨b,o,v,rfl,hb,hv,hat⟩:=eW (HR.below HB.out) hlt;obtain⟨b',o',v',rfl,hb',hv',hat'⟩:=eW (HR'.below HB.out) hlt;rw[hv] at hv';obtain rfl:=Fq hv';clear hv hv';obtain⟨-,-,c0,c1,c2,c3⟩:=cf hat;obtain⟨-,-,d0,d1,d2,d3⟩:=cf hat';clear hat hat';have HE:=aa (fun q:Wd wr=>oS v.n v.x v.y v.z q.w);have hne:=Wd.ne wr;have e0:∀q:Wd wr,q.w.cell? ⟨b,o+k*4,none⟩=some (.string v.n):=fun q=>(q.cell hb).trans c0;have e1:∀q:Wd wr,q.w.cell? ⟨b,o+k*4+1,none⟩=some (.bool v.x):=fun q=>(q.cell hb).trans c1;have e2:∀q:Wd wr,q.w.cell? ⟨b,o+k*4+2,none⟩=some (.bool v.y):=fun q=>(q.cell hb).trans c2;have e3:∀q:Wd wr,q.w.cell? ⟨b,o+k*4+3,none⟩=some (.string v.z):=fun q=>(q.cell hb).trans c3;have f0:∀q:Wd wr,q.w.cell? ⟨b',o'+k*4,none⟩=some (.string v.n):=fun q=>(q.cell hb').trans d0;have f1:∀q:Wd wr,q.w.cell? ⟨b',o'+k*4+1,none⟩=some (.bool v.x):=fun q=>(q.cell hb').trans d1;have f2:∀q:Wd wr,q.w.cell? ⟨b',o'+k*4+2,none⟩=some (.bool v.y):=fun q=>(q.cell hb').trans d2;have f3:∀q:Wd wr,q.w.cell? ⟨b',o'+k*4+3,none⟩=some (.string v.z):=fun q=>(q.cell hb').trans d3;clear c0 c1 c2 c3 d0 d1 d2 d3;go_wp2_with fail;refine ag aq aq ?_;repeat (go_big_quiet_step (first|(go_at_call 69;exact Calls.wide (HE.out _))|fail))
   exact nZ
  ·exact j0

theorem qX (a:Option Addr) (len cap:Nat) (xs:List Kd) (N:Int) (S:Nat->Prop) (w:World) (ho:az w a len cap 4 102 (xs.map kdF) S) (hN:0<N) (hb:aI N (xs.map kdF)<=1152921504606846976) (hl:len<=9223372036854775807):
  Calls Tryz.prog 38 #[.slice a len cap,.int .i64 N] w fun e w'=>e=.returned (.int .i64 (aI N (xs.map kdF)))/\az w' a len cap 4 102 (mkRs N (xs.map kdF)) S/\aC S w w':=by
 have hxl:=ho.1;have hcp:=ho.2.1;have hcm:=ho.2.2.1;have hml:(mkRs N (xs.map kdF)).length=(xs.map kdF).length:=bL _ _;have HO:Hid (az w a len cap 4 102 ((mkRs N (xs.map kdF)).take 0++(xs.map kdF).drop 0) S):=nt
 have HBd:=aa hb;clear ho hb;go_enter Tryz.func38,Tryz.ntmps38;go_wp2;go_loopw [1,5] (fun vk vi wr=> ∃(i:Nat) (n:Int),i<=len/\vk=.int .i64 n/\vi=.int .i64 i/\Hid (n=aI N ((xs.map kdF).take i))/\0<n/\Hid (az wr a len cap 4 102 ((mkRs N (xs.map kdF)).take i++(xs.map kdF).drop i) S)/\Hid (aC S w wr)) (fun _ vi _=>len - (intOf vi).toNat);case atStart=>exact⟨0,N,by omega,rfl,rfl,rfl,hN,HO,aC.refl _ _⟩
 case round=>
  obtain⟨i,n,hi,rfl,rfl,HN,hn0,HS,HK⟩:=hrel;clear HO;by_cases hlt:i<len
  ·obtain⟨x,hx⟩:∃x,xs[i]?=some x:=⟨_,Fu (by simpa using (show i<(xs.map kdF).length by omega))⟩;obtain⟨hfx,HF,hbd,hbd'⟩:=BS;obtain⟨g,rfl,hs⟩:=HS.st HK.out ((cO hml af).trans hfx);have H0:Hid (StJ g 4 102 S (fun _=>False) w wr ((mkRs N (xs.map kdF)).take i++(xs.map kdF).drop i) i [.s x.n,.b x.x,.b x.y,.s x.z]):=hs;clear hs hbd hx hfx HS HK;go_wp2_with fail;refine (cn _ _ af af).mono ?_;rintro e w1 ⟨rfl,hb⟩;have h1:=(H0.out).below hb;have H1:=aa h1;obtain⟨p0,c0⟩:=h1.cell (i:=0) rfl;have f0:=h1.cI (i*4);rw[G3] at c0;obtain⟨p1,c1⟩:=h1.cell (i:=1) rfl;have f1:=h1.cI (i*4+1);obtain⟨p2,c2⟩:=h1.cell (i:=2) rfl;have f2:=h1.cI (i*4+2);clear h1 hb H0;go_wp2_with fail;refine (cn _ _ af af).mono ?_;rintro e w2 ⟨rfl,hb⟩;have h1:=((((H1.out).dt (i:=0) rfl _ (bH af)).jh (i:=1) rfl _).jh (i:=2) rfl _).below hb;have H2:=aa h1;obtain⟨p3,c3⟩:=h1.cell (i:=3) rfl;have f3:=h1.cI (i*4+3);clear h1 hb H1 c0 f0 c1 f1 c2 f2;go_wp2_with fail;have HZ:=aa ((H2.out).dt (i:=3) rfl (bm (n+1+1+1).toNat) (bH af));clear H2;refine⟨⟨i+1,mkN n (kdF x),by omega,?_,by go_num,?_,?_,?_,HZ.kept⟩,by simp[intOf];omega⟩
   ·simp[mkN,mkN1,kdF,Int.add_assoc]
   ·rw[cy HF.out,<-HN.out];rfl
   ·simp[mkN,mkN1,kdF];omega
   ·refine az.ow HZ.out hxl hml hcp hcm HF.out ?_;rw[<-HN.out];simp[mkR,mkF,mkN1,kdF]
  ·obtain rfl:i=len:=af
   go_wp2;go_ret;have e1:(xs.map kdF).take i=xs.map kdF:=FF af;have e2:(mkRs N (xs.map kdF)).take i++(xs.map kdF).drop i=mkRs N (xs.map kdF):=by
    exact jT
   exact nW

theorem rG (a:Option Addr) (len cap:Nat) (xs:List Kd) (N:Int) (w:World) (ho:aN w a len cap 4 (mkRs N (xs.map kdF))) (hN:0<N) (hb:aI N (xs.map kdF)<=1152921504606846976) (hl:len<=9223372036854775807):
  Calls Tryz.prog 76 #[.slice a len cap,.int .i64 N] w fun e w'=>e=.returned (.int .i64 (aI N (xs.map kdF)))/\Below w.heap.size w w':=by
 have hxl:(xs.map kdF).length=len:=by rw[<-bL (xs.map kdF) N];exact ho.1
 have HR:=aa ho;have HBd:=aa hb;clear ho hb;go_enter Tryz.func76,Tryz.ntmps76;go_wp2;go_loopw [1,5] (fun vk vi wr=> ∃(i:Nat) (n:Int),i<=len/\vk=.int .i64 n/\vi=.int .i64 i/\Hid (n=aI N ((xs.map kdF).take i))/\0<n/\Hid (Below w.heap.size w wr)) (fun _ vi _=>len - (intOf vi).toNat);case atStart=>exact⟨0,N,by omega,rfl,rfl,rfl,hN,Fw _ _⟩
 case round=>
  obtain⟨i,n,hi,rfl,rfl,HN,hn0,HB⟩:=hrel;by_cases hlt:i<len
  ·obtain⟨x,hx⟩:∃x,xs[i]?=some x:=⟨_,Fu (by simpa using (show i<(xs.map kdF).length by omega))⟩;obtain⟨hfx,HF,hbd,hbd'⟩:=BS;obtain⟨b,o,r,rfl,hb,hr,hat⟩:=(HR.below HB.out).at hlt;rw[eL,hfx,<-HN.out] at hr;obtain rfl:=Fq hr;have HA:Hid (RAt wr b (o+i*4) (kdF ⟨bm (n).toNat,(n+1) % 3==0,(n+1+1) % 3==0,bm (n+1+1+1).toNat⟩)):=hat;clear hat hr hbd hx hfx;obtain⟨-,-,c0,c1,c2,c3⟩:=cf HA.out;have hne0:=Wd.ne wr;have e0:∀q:Wd wr,q.w.cell? ⟨b,o+i*4,none⟩=some (.string (bm (n).toNat)):=fun q=>(q.cell hb).trans c0;have HT:=aa (fun v:World=>cn (n) v af af);clear c0;go_wp2_with fail;refine ag aq aq ?_;repeat (go_big_quiet_step (first|(go_at_call 73;exact Calls.wide (HT.out _))|fail))
   refine wpQuiet_nil ?_;rintro _ ⟨q0,rfl⟩;clear e0 HT hne0 c1 c2 c3;obtain⟨HA0,HB0,hb0⟩:=nJ;clear HA HB hb;have HA:=HA0;have HB:=HB0;have hb:=hb0;clear HA0 HB0 hb0;obtain⟨-,-,c0,c1,c2,c3⟩:=cf HA.out;clear c0;have hne1:=Wd.ne q0.w;have e3:∀q:Wd q0.w,q.w.cell? ⟨b,o+i*4+3,none⟩=some (.string (bm (n+1+1+1).toNat)):=fun q=>(q.cell hb).trans c3;have HT:=aa (fun v:World=>cn (n+1+1+1) v af af);clear c3;go_wp2_with fail;refine ag aq aq ?_;repeat (go_big_quiet_step (first|(go_at_call 73;exact Calls.wide (HT.out _))|fail))
   refine wpQuiet_nil ?_;rintro _ ⟨q1,rfl⟩;clear e3 HT hne1 c1 c2;obtain⟨HA1,HB1,hb1⟩:=nI;clear HA HB hb;have HA:=HA1;have HB:=HB1;have hb:=hb1;clear HA1 HB1 hb1;obtain⟨-,-,c0,c1,c2,c3⟩:=cf HA.out;clear c0 c1 c2 c3;go_wp2_with fail;refine⟨⟨i+1,mkN n (kdF x),by omega,?_,by go_num,?_,?_,HB.out⟩,by simp[intOf];omega⟩
   ·simp[mkN,mkN1,kdF,Int.add_assoc]
   ·rw[cy HF.out,<-HN.out];rfl
   ·simp[mkN,mkN1,kdF];omega
  ·obtain rfl:i=len:=af
   go_wp2;go_ret;have e1:(xs.map kdF).take i=xs.map kdF:=FF af;exact nR

theorem ux (a:Option Addr) (len cap:Nat) (xs:List Vd) (left:Int) (w:World) (hr:aN w a len cap 8 (xs.map vdF)) (h0:0<=left) (h1:left<=1048576):
  Calls Tryz.prog 18 #[.slice a len cap,.int .i64 left] w (SzB left (len<=1048576/\∀(j:Nat) x,xs[j]?=some x->x.zs.length<=1048576) w):=by
 obtain⟨HR,hvl⟩:=fQ;have hlc:=FA hr.2.1 hr.2.2.1;clear hr;by_cases hl:left<(len:Int)
 ·go_enter Tryz.func18,Tryz.ntmps18;exact jY
 go_enter Tryz.func18,Tryz.ntmps18;go_wp2;go_loopw [1,5] (fun l i wr=> ∃(k:Nat) (m:Int),k<=len/\l=.int .i64 m/\i=.int .i64 k/\0<=m/\m<=left/\Hid (∀(j:Nat) x,j<k->xs[j]?=some x->x.zs.length<=1048576)/\Hid (Below w.heap.size w wr)) (fun _ i _=>len - (intOf i).toNat);case atStart=>exact⟨0,left - len,by omega,by go_num,rfl,by omega,by omega,fun j v hj=>by omega,Fw _ _⟩
 case round=>
  obtain⟨k,m,hk,rfl,rfl,hm0,hm1,HE,HB⟩:=hrel;by_cases hlt:k<len
  ·obtain⟨b,o,v,rfl,hb,hv,hat⟩:=bN (HR.below HB.out) hlt;obtain⟨va,vl,vc,hvr,z0,z2,z3,z5,c0,c1,c2,c3,c4,c5,c6,c7⟩:=aK hat;have Hz0:=aa z0;have Hz2:=aa z2;have Hz3:=aa z3;have Hz5:=aa z5;have HV:=aa hv;have HT:=aa hvr;clear hvr;clear hat hv z0 z2 z3 z5;go_wp2_with fail;refine (lQ v.n v.c v.z v.k v.x v.m v.y va vl vc v.zs m _ Hz0.out Hz2.out Hz3.out Hz5.out HT.out hm0 af).mono ?_;rintro e w2 ⟨r,rfl,hr,hb2⟩;have HB2:=upB HB hb2;clear hb2 c0 c1 c2 c3 c4 c5 c6 c7;exact vR
  ·exact vI

theorem zL (a a':Option Addr) (len len' cap cap':Nat) (xs:List Vd) (w:World) (hr:aN w a len cap 8 (xs.map vdF)) (hr':aN w a' len' cap' 8 (xs.map vdF)):
  Calls Tryz.prog 34 #[.slice a len cap,.slice a' len' cap'] w fun e w'=>e=.returned (.bool true)/\Below w.heap.size w w':=by
 obtain rfl:len=len':=hr.1.symm.trans hr'.1;obtain⟨HR,HR',hlc⟩:=nB;clear hr hr';go_enter Tryz.func34,Tryz.ntmps34;go_wp2;go_loopw [5] (fun i wr=> ∃k:Nat,k<=len/\i=.int .i64 k/\Hid (Below w.heap.size w wr)) (fun i _=>len - (intOf i).toNat);case atStart=>exact⟨0,by omega,rfl,Fw _ _⟩
 case round=>
  obtain⟨k,hk,rfl,HB⟩:=hrel;by_cases hlt:k<len
  ·obtain⟨b,o,v,rfl,hb,hv,hat⟩:=bN (HR.below HB.out) hlt;obtain⟨b',o',v',rfl,hb',hv',hat'⟩:=bN (HR'.below HB.out) hlt;rw[hv] at hv';obtain rfl:=Fq hv';clear hv hv';obtain⟨va,vl,vc,hvr,-,-,-,-,c0,c1,c2,c3,c4,c5,c6,c7⟩:=aK hat;obtain⟨va',vl',vc',hvr',-,-,-,-,d0,d1,d2,d3,d4,d5,d6,d7⟩:=aK hat';clear hat hat';have HT:=aa hvr;have HT':=aa hvr';clear hvr hvr';have HE:=aa (fun q:Wd wr=>mC v.n v.c v.z v.k v.x v.m v.y va vl vc v.zs va' vl' vc' q.w (HT.below q.b) (HT'.below q.b));have hne:=Wd.ne wr;have e0:∀q:Wd wr,q.w.cell? ⟨b,o+k*8,none⟩=some (.string v.n):=fun q=>(q.cell hb).trans c0;have e1:∀q:Wd wr,q.w.cell? ⟨b,o+k*8+1,none⟩=some (.int .i64 v.c):=fun q=>(q.cell hb).trans c1;have e2:∀q:Wd wr,q.w.cell? ⟨b,o+k*8+2,none⟩=some (.string v.z):=fun q=>(q.cell hb).trans c2;have e3:∀q:Wd wr,q.w.cell? ⟨b,o+k*8+3,none⟩=some (.string v.k):=fun q=>(q.cell hb).trans c3;have e4:∀q:Wd wr,q.w.cell? ⟨b,o+k*8+4,none⟩=some (.bool v.x):=fun q=>(q.cell hb).trans c4;have e5:∀q:Wd wr,q.w.cell? ⟨b,o+k*8+5,none⟩=some (.string v.m):=fun q=>(q.cell hb).trans c5;have e6:∀q:Wd wr,q.w.cell? ⟨b,o+k*8+6,none⟩=some (.bool v.y):=fun q=>(q.cell hb).trans c6;have e7:∀q:Wd wr,q.w.cell? ⟨b,o+k*8+7,none⟩=some (.slice va vl vc):=fun q=>(q.cell hb).trans c7;have f0:∀q:Wd wr,q.w.cell? ⟨b',o'+k*8,none⟩=some (.string v.n):=fun q=>(q.cell hb').trans d0;have f1:∀q:Wd wr,q.w.cell? ⟨b',o'+k*8+1,none⟩=some (.int .i64 v.c):=fun q=>(q.cell hb').trans d1;have f2:∀q:Wd wr,q.w.cell? ⟨b',o'+k*8+2,none⟩=some (.string v.z):=fun q=>(q.cell hb').trans d2;have f3:∀q:Wd wr,q.w.cell? ⟨b',o'+k*8+3,none⟩=some (.string v.k):=fun q=>(q.cell hb').trans d3;have f4:∀q:Wd wr,q.w.cell? ⟨b',o'+k*8+4,none⟩=some (.bool v.x):=fun q=>(q.cell hb').trans d4;have f5:∀q:Wd wr,q.w.cell? ⟨b',o'+k*8+5,none⟩=some (.string v.m):=fun q=>(q.cell hb').trans d5;have f6:∀q:Wd wr,q.w.cell? ⟨b',o'+k*8+6,none⟩=some (.bool v.y):=fun q=>(q.cell hb').trans d6;have f7:∀q:Wd wr,q.w.cell? ⟨b',o'+k*8+7,none⟩=some (.slice va' vl' vc'):=fun q=>(q.cell hb').trans d7;clear c0 c1 c2 c3 c4 c5 c6 c7 d0 d1 d2 d3 d4 d5 d6 d7;go_wp2_with fail;refine ag aq aq ?_;repeat (go_big_quiet_step (first|(go_at_call 70;exact Calls.wide (HE.out _))|fail))
   exact nZ
  ·exact j0

theorem qU (a:Option Addr) (len cap:Nat) (xs:List Vd) (N:Int) (S:Nat->Prop) (w:World) (ho:az w a len cap 8 99 (xs.map vdF) S) (hN:0<N) (hb:aI N (xs.map vdF)<=1152921504606846976) (hl:len<=9223372036854775807):
  Calls Tryz.prog 39 #[.slice a len cap,.int .i64 N] w fun e w'=>e=.returned (.int .i64 (aI N (xs.map vdF)))/\az w' a len cap 8 99 (mkRs N (xs.map vdF)) S/\aC S w w':=by
 have hxl:=ho.1;have hcp:=ho.2.1;have hcm:=ho.2.2.1;have hml:(mkRs N (xs.map vdF)).length=(xs.map vdF).length:=bL _ _;have HO:Hid (az w a len cap 8 99 ((mkRs N (xs.map vdF)).take 0++(xs.map vdF).drop 0) S):=nt
 have HBd:=aa hb;clear ho hb;go_enter Tryz.func39,Tryz.ntmps39;go_wp2;go_loopw [1,5] (fun vk vi wr=> ∃(i:Nat) (n:Int),i<=len/\vk=.int .i64 n/\vi=.int .i64 i/\Hid (n=aI N ((xs.map vdF).take i))/\0<n/\Hid (az wr a len cap 8 99 ((mkRs N (xs.map vdF)).take i++(xs.map vdF).drop i) S)/\Hid (aC S w wr)) (fun _ vi _=>len - (intOf vi).toNat);case atStart=>exact⟨0,N,by omega,rfl,rfl,rfl,hN,HO,aC.refl _ _⟩
 case round=>
  obtain⟨i,n,hi,rfl,rfl,HN,hn0,HS,HK⟩:=hrel;clear HO;by_cases hlt:i<len
  ·obtain⟨x,hx⟩:∃x,xs[i]?=some x:=⟨_,Fu (by simpa using (show i<(xs.map vdF).length by omega))⟩;obtain⟨hfx,HF,hbd,hbd'⟩:=BT;obtain⟨g,rfl,hs⟩:=HS.st HK.out ((cO hml af).trans hfx);have H0:Hid (StJ g 8 99 S (fun _=>False) w wr ((mkRs N (xs.map vdF)).take i++(xs.map vdF).drop i) i [.s x.n,.i x.c,.s x.z,.s x.k,.b x.x,.s x.m,.b x.y,.l x.zs]):=hs;clear hs hbd hx hfx HS HK;go_wp2_with fail;refine (cn _ _ af af).mono ?_;rintro e w1 ⟨rfl,hb⟩;have h1:=(H0.out).below hb;have H1:=aa h1;obtain⟨p0,c0⟩:=h1.cell (i:=0) rfl;have f0:=h1.cI (i*8);rw[G3] at c0;obtain⟨p1,c1⟩:=h1.cell (i:=1) rfl;have f1:=h1.cI (i*8+1);clear h1 hb H0;go_wp2_with fail;refine (cn _ _ af af).mono ?_;rintro e w2 ⟨rfl,hb⟩;obtain⟨h1,H2⟩:=uY;obtain⟨p2,c2⟩:=h1.cell (i:=2) rfl;have f2:=h1.cI (i*8+2);clear h1 hb H1 c0 f0 c1 f1;go_wp2_with fail;refine (cn _ _ af af).mono ?_;rintro e w3 ⟨rfl,hb⟩;have h1:=((H2.out).dt (i:=2) rfl _ (bH af)).below hb;have H3:=aa h1;obtain⟨p3,c3⟩:=h1.cell (i:=3) rfl;have f3:=h1.cI (i*8+3);obtain⟨p4,c4⟩:=h1.cell (i:=4) rfl;have f4:=h1.cI (i*8+4);clear h1 hb H2 c2 f2;go_wp2_with fail;refine (cn _ _ af af).mono ?_;rintro e w4 ⟨rfl,hb⟩;have h1:=(((H3.out).dt (i:=3) rfl _ (bH af)).jh (i:=4) rfl _).below hb;have H4:=aa h1;obtain⟨p5,c5⟩:=h1.cell (i:=5) rfl;have f5:=h1.cI (i*8+5);obtain⟨p6,c6⟩:=h1.cell (i:=6) rfl;have f6:=h1.cI (i*8+6);obtain⟨la,ll,lc,cl,hll⟩:=h1.slice (i:=7) rfl;clear h1 hb H3 c3 f3 c4 f4;go_wp2_with fail;refine ((((H4.out).dt (i:=5) rfl _ (bH af)).jh (i:=6) rfl _).zh (i:=7) rfl ((cC af).trans ((cC af).trans (cl))) _ af af).mono ?_;rintro e w5 ⟨rfl,h1⟩;have H5:=aa h1;clear h1 cl H4 c5 f5 c6 f6;go_wp2_with fail;have HZ:=aa (H5.out);clear H5;refine⟨⟨i+1,mkN n (vdF x),by omega,?_,by go_num,?_,?_,?_,HZ.kept⟩,by simp[intOf];omega⟩
   ·simp[mkN,mkN1,vdF,hll,Int.add_assoc]
   ·rw[cy HF.out,<-HN.out];rfl
   ·simp[mkN,mkN1,vdF];omega
   ·refine az.ow HZ.out hxl hml hcp hcm HF.out ?_;rw[<-HN.out];simp[mkR,mkF,mkN1,vdF,hll]
  ·obtain rfl:i=len:=af
   go_wp2;go_ret;have e1:(xs.map vdF).take i=xs.map vdF:=FF af;have e2:(mkRs N (xs.map vdF)).take i++(xs.map vdF).drop i=mkRs N (xs.map vdF):=by
    exact jT
   exact nW

theorem rD (a:Option Addr) (len cap:Nat) (xs:List Vd) (N:Int) (w:World) (ho:aN w a len cap 8 (mkRs N (xs.map vdF))) (hN:0<N) (hb:aI N (xs.map vdF)<=1152921504606846976) (hl:len<=9223372036854775807):
  Calls Tryz.prog 77 #[.slice a len cap,.int .i64 N] w fun e w'=>e=.returned (.int .i64 (aI N (xs.map vdF)))/\Below w.heap.size w w':=by
 have hxl:(xs.map vdF).length=len:=by rw[<-bL (xs.map vdF) N];exact ho.1
 have HR:=aa ho;have HBd:=aa hb;clear ho hb;go_enter Tryz.func77,Tryz.ntmps77;go_wp2;go_loopw [1,5] (fun vk vi wr=> ∃(i:Nat) (n:Int),i<=len/\vk=.int .i64 n/\vi=.int .i64 i/\Hid (n=aI N ((xs.map vdF).take i))/\0<n/\Hid (Below w.heap.size w wr)) (fun _ vi _=>len - (intOf vi).toNat);case atStart=>exact⟨0,N,by omega,rfl,rfl,rfl,hN,Fw _ _⟩
 case round=>
  obtain⟨i,n,hi,rfl,rfl,HN,hn0,HB⟩:=hrel;by_cases hlt:i<len
  ·obtain⟨x,hx⟩:∃x,xs[i]?=some x:=⟨_,Fu (by simpa using (show i<(xs.map vdF).length by omega))⟩;obtain⟨hfx,HF,hbd,hbd'⟩:=BT;obtain⟨b,o,r,rfl,hb,hr,hat⟩:=(HR.below HB.out).at hlt;rw[eL,hfx,<-HN.out] at hr;obtain rfl:=Fq hr;have HA:Hid (RAt wr b (o+i*8) (vdF ⟨bm (n).toNat,n+1,bm (n+1+1).toNat,bm (n+1+1+1).toNat,(n+1+1+1+1) % 3==0,bm (n+1+1+1+1+1).toNat,(n+1+1+1+1+1+1) % 3==0,dI (n+1+1+1+1+1+1+1) x.zs.length⟩)):=hat;clear hat hr hbd hx hfx;obtain⟨va,vl,vc,hvr,-,-,-,-,c0,c1,c2,c3,c4,c5,c6,c7⟩:=aK HA.out;have HL:=aa hvr;have hvl:=hvr.1;rw[aY] at hvl;clear hvr;clear HL hvl;have hne0:=Wd.ne wr;have e0:∀q:Wd wr,q.w.cell? ⟨b,o+i*8,none⟩=some (.string (bm (n).toNat)):=fun q=>(q.cell hb).trans c0;have HT:=aa (fun v:World=>cn (n) v af af);clear c0;go_wp2_with fail;refine ag aq aq ?_;repeat (go_big_quiet_step (first|(go_at_call 73;exact Calls.wide (HT.out _))|fail))
   refine wpQuiet_nil ?_;rintro _ ⟨q0,rfl⟩;clear e0 HT hne0 c1 c2 c3 c4 c5 c6 c7;obtain⟨HA0,HB0,hb0⟩:=nJ;clear HA HB hb;have HA:=HA0;have HB:=HB0;have hb:=hb0;clear HA0 HB0 hb0;obtain⟨va,vl,vc,hvr,-,-,-,-,c0,c1,c2,c3,c4,c5,c6,c7⟩:=aK HA.out;have HL:=aa hvr;have hvl1:=hvr.1;rw[aY] at hvl1;clear hvr;clear c0 c3 c4 c5 c6 c7;clear HL hvl1;have hne1:=Wd.ne q0.w;have e2:∀q:Wd q0.w,q.w.cell? ⟨b,o+i*8+2,none⟩=some (.string (bm (n+1+1).toNat)):=fun q=>(q.cell hb).trans c2;have HT:=aa (fun v:World=>cn (n+1+1) v af af);clear c2;go_wp2_with fail;refine ag aq aq ?_;repeat (go_big_quiet_step (first|(go_at_call 73;exact Calls.wide (HT.out _))|fail))
   refine wpQuiet_nil ?_;rintro _ ⟨q1,rfl⟩;clear e2 HT hne1 c1;obtain⟨HA1,HB1,hb1⟩:=nI;clear HA HB hb;have HA:=HA1;have HB:=HB1;have hb:=hb1;clear HA1 HB1 hb1;obtain⟨va,vl,vc,hvr,-,-,-,-,c0,c1,c2,c3,c4,c5,c6,c7⟩:=aK HA.out;have HL:=aa hvr;have hvl2:=hvr.1;rw[aY] at hvl2;clear hvr;clear c0 c1 c2 c4 c5 c6 c7;clear HL hvl2;have hne2:=Wd.ne q1.w;have e3:∀q:Wd q1.w,q.w.cell? ⟨b,o+i*8+3,none⟩=some (.string (bm (n+1+1+1).toNat)):=fun q=>(q.cell hb).trans c3;have HT:=aa (fun v:World=>cn (n+1+1+1) v af af);clear c3;go_wp2_with fail;refine ag aq aq ?_;repeat (go_big_quiet_step (first|(go_at_call 73;exact Calls.wide (HT.out _))|fail))
   refine wpQuiet_nil ?_;rintro _ ⟨q2,rfl⟩;clear e3 HT hne2;have HA2:=aa (HA.below hb q2.b);have HB2:=upB HB q2.b;have hb2:=FE hb q2.b.size;clear HA HB hb;have HA:=HA2;have HB:=HB2;have hb:=hb2;clear HA2 HB2 hb2;obtain⟨va,vl,vc,hvr,-,-,-,-,c0,c1,c2,c3,c4,c5,c6,c7⟩:=aK HA.out;have HL:=aa hvr;have hvl3:=hvr.1;rw[aY] at hvl3;clear hvr;clear c0 c1 c2 c3 c6 c7;clear HL hvl3;have hne3:=Wd.ne q2.w;have e5:∀q:Wd q2.w,q.w.cell? ⟨b,o+i*8+5,none⟩=some (.string (bm (n+1+1+1+1+1).toNat)):=fun q=>(q.cell hb).trans c5;have HT:=aa (fun v:World=>cn (n+1+1+1+1+1) v af af);clear c5;go_wp2_with fail;refine ag aq aq ?_;repeat (go_big_quiet_step (first|(go_at_call 73;exact Calls.wide (HT.out _))|fail))
   refine wpQuiet_nil ?_;rintro _ ⟨q3,rfl⟩;clear e5 HT hne3 c4;have HA3:=aa (HA.below hb q3.b);have HB3:=upB HB q3.b;have hb3:=FE hb q3.b.size;clear HA HB hb;have HA:=HA3;have HB:=HB3;have hb:=hb3;clear HA3 HB3 hb3;obtain⟨va,vl,vc,hvr,-,-,-,-,c0,c1,c2,c3,c4,c5,c6,c7⟩:=aK HA.out;have HL:=aa hvr;have hvl4:=hvr.1;rw[aY] at hvl4;clear hvr;clear c0 c1 c2 c3 c4 c5;subst hvl4;go_wp2_with fail;refine (zH va _ vc _ _ (by exact HL.out) af af).mono ?_;rintro e w4 ⟨rfl,hbq⟩;have HA4:=aa (HA.below hb hbq);have HB4:=upB HB hbq;have hb4:=FE hb hbq.size;clear HA HB hb HL c7 hbq;have HA:=HA4;have HB:=HB4;have hb:=hb4;clear HA4 HB4 hb4;go_wp2_with fail;refine⟨⟨i+1,mkN n (vdF x),by omega,?_,by go_num,?_,?_,HB.out⟩,by simp[intOf];omega⟩
   ·simp[mkN,mkN1,vdF,Int.add_assoc]
   ·rw[cy HF.out,<-HN.out];rfl
   ·simp[mkN,mkN1,vdF];omega
  ·obtain rfl:i=len:=af
   go_wp2;go_ret;have e1:(xs.map vdF).take i=xs.map vdF:=FF af;exact nR

theorem uw (a:Option Addr) (len cap:Nat) (xs:List Xd) (left:Int) (w:World) (hr:aN w a len cap 5 (xs.map xdF)) (h0:0<=left) (h1:left<=1048576):
  Calls Tryz.prog 19 #[.slice a len cap,.int .i64 left] w (SzB left (len<=1048576) w):=by
 obtain⟨HR,hvl⟩:=fQ;have hlc:=FA hr.2.1 hr.2.2.1;clear hr;by_cases hl:left<(len:Int)
 ·go_enter Tryz.func19,Tryz.ntmps19;exact jY
 go_enter Tryz.func19,Tryz.ntmps19;go_wp2;go_loopw [1,5] (fun l i wr=> ∃(k:Nat) (m:Int),k<=len/\l=.int .i64 m/\i=.int .i64 k/\0<=m/\m<=left/\Hid (Below w.heap.size w wr)) (fun _ i _=>len - (intOf i).toNat);case atStart=>exact⟨0,left - len,by omega,by go_num,rfl,by omega,by omega,Fw _ _⟩
 case round=>
  obtain⟨k,m,hk,rfl,rfl,hm0,hm1,HB⟩:=hrel;by_cases hlt:k<len
  ·obtain⟨b,o,v,rfl,hb,hv,hat⟩:=dF (HR.below HB.out) hlt;obtain⟨z0,z2,z4,c0,c1,c2,c3,c4⟩:=bw hat;have Hz0:=aa z0;have Hz2:=aa z2;have Hz4:=aa z4;clear hat hv z0 z2 z4;go_wp2_with fail;refine (mV v.n v.z v.k v.x v.v m _ Hz0.out Hz2.out Hz4.out hm0 af).mono ?_;rintro e w2 ⟨r,rfl,hr,hb2⟩;have HB2:=upB HB hb2;clear hb2 c0 c1 c2 c3 c4;exact yv
  ·exact xG

theorem oT (n:ByteArray) (z:Int) (k:ByteArray) (x:Bool) (v:ByteArray) (w:World):
  Calls Tryz.prog 71 #[.agg #[.string n,.int .i64 z,.string k,.bool x,.string v],.agg #[.string n,.int .i64 z,.string k,.bool x,.string v]] w fun e w'=>e=.returned (.bool true)/\Below w.heap.size w w':=by
 go_enter Tryz.func71,Tryz.ntmps71;go_wp2;go_ret;exact⟨rfl,aF _ _ _⟩

theorem zK (a a':Option Addr) (len len' cap cap':Nat) (xs:List Xd) (w:World) (hr:aN w a len cap 5 (xs.map xdF)) (hr':aN w a' len' cap' 5 (xs.map xdF)):
  Calls Tryz.prog 35 #[.slice a len cap,.slice a' len' cap'] w fun e w'=>e=.returned (.bool true)/\Below w.heap.size w w':=by
 obtain rfl:len=len':=hr.1.symm.trans hr'.1;obtain⟨HR,HR',hlc⟩:=nB;clear hr hr';go_enter Tryz.func35,Tryz.ntmps35;go_wp2;go_loopw [5] (fun i wr=> ∃k:Nat,k<=len/\i=.int .i64 k/\Hid (Below w.heap.size w wr)) (fun i _=>len - (intOf i).toNat);case atStart=>exact⟨0,by omega,rfl,Fw _ _⟩
 case round=>
  obtain⟨k,hk,rfl,HB⟩:=hrel;by_cases hlt:k<len
  ·obtain⟨b,o,v,rfl,hb,hv,hat⟩:=dF (HR.below HB.out) hlt;obtain⟨b',o',v',rfl,hb',hv',hat'⟩:=dF (HR'.below HB.out) hlt;rw[hv] at hv';obtain rfl:=Fq hv';clear hv hv';obtain⟨-,-,-,c0,c1,c2,c3,c4⟩:=bw hat;obtain⟨-,-,-,d0,d1,d2,d3,d4⟩:=bw hat';clear hat hat';have HE:=aa (fun q:Wd wr=>oT v.n v.z v.k v.x v.v q.w);have hne:=Wd.ne wr;have e0:∀q:Wd wr,q.w.cell? ⟨b,o+k*5,none⟩=some (.string v.n):=fun q=>(q.cell hb).trans c0;have e1:∀q:Wd wr,q.w.cell? ⟨b,o+k*5+1,none⟩=some (.int .i64 v.z):=fun q=>(q.cell hb).trans c1;have e2:∀q:Wd wr,q.w.cell? ⟨b,o+k*5+2,none⟩=some (.string v.k):=fun q=>(q.cell hb).trans c2;have e3:∀q:Wd wr,q.w.cell? ⟨b,o+k*5+3,none⟩=some (.bool v.x):=fun q=>(q.cell hb).trans c3;have e4:∀q:Wd wr,q.w.cell? ⟨b,o+k*5+4,none⟩=some (.string v.v):=fun q=>(q.cell hb).trans c4;have f0:∀q:Wd wr,q.w.cell? ⟨b',o'+k*5,none⟩=some (.string v.n):=fun q=>(q.cell hb').trans d0;have f1:∀q:Wd wr,q.w.cell? ⟨b',o'+k*5+1,none⟩=some (.int .i64 v.z):=fun q=>(q.cell hb').trans d1;have f2:∀q:Wd wr,q.w.cell? ⟨b',o'+k*5+2,none⟩=some (.string v.k):=fun q=>(q.cell hb').trans d2;have f3:∀q:Wd wr,q.w.cell? ⟨b',o'+k*5+3,none⟩=some (.bool v.x):=fun q=>(q.cell hb').trans d3;have f4:∀q:Wd wr,q.w.cell? ⟨b',o'+k*5+4,none⟩=some (.string v.v):=fun q=>(q.cell hb').trans d4;clear c0 c1 c2 c3 c4 d0 d1 d2 d3 d4;go_wp2_with fail;refine ag aq aq ?_;repeat (go_big_quiet_step (first|(go_at_call 71;exact Calls.wide (HE.out _))|fail))
   exact nZ
  ·exact j0

theorem qT (a:Option Addr) (len cap:Nat) (xs:List Xd) (N:Int) (S:Nat->Prop) (w:World) (ho:az w a len cap 5 105 (xs.map xdF) S) (hN:0<N) (hb:aI N (xs.map xdF)<=1152921504606846976) (hl:len<=9223372036854775807):
  Calls Tryz.prog 40 #[.slice a len cap,.int .i64 N] w fun e w'=>e=.returned (.int .i64 (aI N (xs.map xdF)))/\az w' a len cap 5 105 (mkRs N (xs.map xdF)) S/\aC S w w':=by
 have hxl:=ho.1;have hcp:=ho.2.1;have hcm:=ho.2.2.1;have hml:(mkRs N (xs.map xdF)).length=(xs.map xdF).length:=bL _ _;have HO:Hid (az w a len cap 5 105 ((mkRs N (xs.map xdF)).take 0++(xs.map xdF).drop 0) S):=nt
 have HBd:=aa hb;clear ho hb;go_enter Tryz.func40,Tryz.ntmps40;go_wp2;go_loopw [1,5] (fun vk vi wr=> ∃(i:Nat) (n:Int),i<=len/\vk=.int .i64 n/\vi=.int .i64 i/\Hid (n=aI N ((xs.map xdF).take i))/\0<n/\Hid (az wr a len cap 5 105 ((mkRs N (xs.map xdF)).take i++(xs.map xdF).drop i) S)/\Hid (aC S w wr)) (fun _ vi _=>len - (intOf vi).toNat);case atStart=>exact⟨0,N,by omega,rfl,rfl,rfl,hN,HO,aC.refl _ _⟩
 case round=>
  obtain⟨i,n,hi,rfl,rfl,HN,hn0,HS,HK⟩:=hrel;clear HO;by_cases hlt:i<len
  ·obtain⟨x,hx⟩:∃x,xs[i]?=some x:=⟨_,Fu (by simpa using (show i<(xs.map xdF).length by omega))⟩;obtain⟨hfx,HF,hbd,hbd'⟩:=BR;obtain⟨g,rfl,hs⟩:=HS.st HK.out ((cO hml af).trans hfx);have H0:Hid (StJ g 5 105 S (fun _=>False) w wr ((mkRs N (xs.map xdF)).take i++(xs.map xdF).drop i) i [.s x.n,.i x.z,.s x.k,.b x.x,.s x.v]):=hs;clear hs hbd hx hfx HS HK;go_wp2_with fail;refine (cn _ _ af af).mono ?_;rintro e w1 ⟨rfl,hb⟩;have h1:=(H0.out).below hb;have H1:=aa h1;obtain⟨p0,c0⟩:=h1.cell (i:=0) rfl;have f0:=h1.cI (i*5);rw[G3] at c0;obtain⟨p1,c1⟩:=h1.cell (i:=1) rfl;have f1:=h1.cI (i*5+1);clear h1 hb H0;go_wp2_with fail;refine (cn _ _ af af).mono ?_;rintro e w2 ⟨rfl,hb⟩;obtain⟨h1,H2⟩:=uY;obtain⟨p2,c2⟩:=h1.cell (i:=2) rfl;have f2:=h1.cI (i*5+2);obtain⟨p3,c3⟩:=h1.cell (i:=3) rfl;have f3:=h1.cI (i*5+3);clear h1 hb H1 c0 f0 c1 f1;go_wp2_with fail;refine (cn _ _ af af).mono ?_;rintro e w3 ⟨rfl,hb⟩;have h1:=(((H2.out).dt (i:=2) rfl _ (bH af)).jh (i:=3) rfl _).below hb;have H3:=aa h1;obtain⟨p4,c4⟩:=h1.cell (i:=4) rfl;have f4:=h1.cI (i*5+4);clear h1 hb H2 c2 f2 c3 f3;go_wp2_with fail;have HZ:=aa ((H3.out).dt (i:=4) rfl (bm (n+1+1+1+1).toNat) (bH af));clear H3;refine⟨⟨i+1,mkN n (xdF x),by omega,?_,by go_num,?_,?_,?_,HZ.kept⟩,by simp[intOf];omega⟩
   ·simp[mkN,mkN1,xdF,Int.add_assoc]
   ·rw[cy HF.out,<-HN.out];rfl
   ·simp[mkN,mkN1,xdF];omega
   ·refine az.ow HZ.out hxl hml hcp hcm HF.out ?_;rw[<-HN.out];simp[mkR,mkF,mkN1,xdF]
  ·obtain rfl:i=len:=af
   go_wp2;go_ret;have e1:(xs.map xdF).take i=xs.map xdF:=FF af;have e2:(mkRs N (xs.map xdF)).take i++(xs.map xdF).drop i=mkRs N (xs.map xdF):=by
    exact jT
   exact nW

theorem rC (a:Option Addr) (len cap:Nat) (xs:List Xd) (N:Int) (w:World) (ho:aN w a len cap 5 (mkRs N (xs.map xdF))) (hN:0<N) (hb:aI N (xs.map xdF)<=1152921504606846976) (hl:len<=9223372036854775807):
  Calls Tryz.prog 78 #[.slice a len cap,.int .i64 N] w fun e w'=>e=.returned (.int .i64 (aI N (xs.map xdF)))/\Below w.heap.size w w':=by
 have hxl:(xs.map xdF).length=len:=by rw[<-bL (xs.map xdF) N];exact ho.1
 have HR:=aa ho;have HBd:=aa hb;clear ho hb;go_enter Tryz.func78,Tryz.ntmps78;go_wp2;go_loopw [1,5] (fun vk vi wr=> ∃(i:Nat) (n:Int),i<=len/\vk=.int .i64 n/\vi=.int .i64 i/\Hid (n=aI N ((xs.map xdF).take i))/\0<n/\Hid (Below w.heap.size w wr)) (fun _ vi _=>len - (intOf vi).toNat);case atStart=>exact⟨0,N,by omega,rfl,rfl,rfl,hN,Fw _ _⟩
 case round=>
  obtain⟨i,n,hi,rfl,rfl,HN,hn0,HB⟩:=hrel;by_cases hlt:i<len
  ·obtain⟨x,hx⟩:∃x,xs[i]?=some x:=⟨_,Fu (by simpa using (show i<(xs.map xdF).length by omega))⟩;obtain⟨hfx,HF,hbd,hbd'⟩:=BR;obtain⟨b,o,r,rfl,hb,hr,hat⟩:=(HR.below HB.out).at hlt;rw[eL,hfx,<-HN.out] at hr;obtain rfl:=Fq hr;have HA:Hid (RAt wr b (o+i*5) (xdF ⟨bm (n).toNat,n+1,bm (n+1+1).toNat,(n+1+1+1) % 3==0,bm (n+1+1+1+1).toNat⟩)):=hat;clear hat hr hbd hx hfx;obtain⟨-,-,-,c0,c1,c2,c3,c4⟩:=bw HA.out;have hne0:=Wd.ne wr;have e0:∀q:Wd wr,q.w.cell? ⟨b,o+i*5,none⟩=some (.string (bm (n).toNat)):=fun q=>(q.cell hb).trans c0;have HT:=aa (fun v:World=>cn (n) v af af);clear c0;go_wp2_with fail;refine ag aq aq ?_;repeat (go_big_quiet_step (first|(go_at_call 73;exact Calls.wide (HT.out _))|fail))
   refine wpQuiet_nil ?_;rintro _ ⟨q0,rfl⟩;clear e0 HT hne0 c1 c2 c3 c4;obtain⟨HA0,HB0,hb0⟩:=nJ;clear HA HB hb;have HA:=HA0;have HB:=HB0;have hb:=hb0;clear HA0 HB0 hb0;obtain⟨-,-,-,c0,c1,c2,c3,c4⟩:=bw HA.out;clear c0 c3 c4;have hne1:=Wd.ne q0.w;have e2:∀q:Wd q0.w,q.w.cell? ⟨b,o+i*5+2,none⟩=some (.string (bm (n+1+1).toNat)):=fun q=>(q.cell hb).trans c2;have HT:=aa (fun v:World=>cn (n+1+1) v af af);clear c2;go_wp2_with fail;refine ag aq aq ?_;repeat (go_big_quiet_step (first|(go_at_call 73;exact Calls.wide (HT.out _))|fail))
   refine wpQuiet_nil ?_;rintro _ ⟨q1,rfl⟩;clear e2 HT hne1 c1;obtain⟨HA1,HB1,hb1⟩:=nI;clear HA HB hb;have HA:=HA1;have HB:=HB1;have hb:=hb1;clear HA1 HB1 hb1;obtain⟨-,-,-,c0,c1,c2,c3,c4⟩:=bw HA.out;clear c0 c1 c2;have hne2:=Wd.ne q1.w;have e4:∀q:Wd q1.w,q.w.cell? ⟨b,o+i*5+4,none⟩=some (.string (bm (n+1+1+1+1).toNat)):=fun q=>(q.cell hb).trans c4;have HT:=aa (fun v:World=>cn (n+1+1+1+1) v af af);clear c4;go_wp2_with fail;refine ag aq aq ?_;repeat (go_big_quiet_step (first|(go_at_call 73;exact Calls.wide (HT.out _))|fail))
   refine wpQuiet_nil ?_;rintro _ ⟨q2,rfl⟩;clear e4 HT hne2 c3;have HA2:=aa (HA.below hb q2.b);have HB2:=upB HB q2.b;have hb2:=FE hb q2.b.size;clear HA HB hb;have HA:=HA2;have HB:=HB2;have hb:=hb2;clear HA2 HB2 hb2;obtain⟨-,-,-,c0,c1,c2,c3,c4⟩:=bw HA.out;clear c0 c1 c2 c3 c4;go_wp2_with fail;refine⟨⟨i+1,mkN n (xdF x),by omega,?_,by go_num,?_,?_,HB.out⟩,by simp[intOf];omega⟩
   ·simp[mkN,mkN1,xdF,Int.add_assoc]
   ·rw[cy HF.out,<-HN.out];rfl
   ·simp[mkN,mkN1,xdF];omega
  ·obtain rfl:i=len:=af
   go_wp2;go_ret;have e1:(xs.map xdF).take i=xs.map xdF:=FF af;exact nR

theorem uy (a:Option Addr) (len cap:Nat) (xs:List Pd) (left:Int) (w:World) (hr:aN w a len cap 6 (xs.map pdF)) (h0:0<=left) (h1:left<=1048576):
  Calls Tryz.prog 20 #[.slice a len cap,.int .i64 left] w (SzB left (len<=1048576/\∀(j:Nat) x,xs[j]?=some x->x.zs.length<=1048576) w):=by
 obtain⟨HR,hvl⟩:=fQ;have hlc:=FA hr.2.1 hr.2.2.1;clear hr;by_cases hl:left<(len:Int)
 ·go_enter Tryz.func20,Tryz.ntmps20;exact jY
 go_enter Tryz.func20,Tryz.ntmps20;go_wp2;go_loopw [1,5] (fun l i wr=> ∃(k:Nat) (m:Int),k<=len/\l=.int .i64 m/\i=.int .i64 k/\0<=m/\m<=left/\Hid (∀(j:Nat) x,j<k->xs[j]?=some x->x.zs.length<=1048576)/\Hid (Below w.heap.size w wr)) (fun _ i _=>len - (intOf i).toNat);case atStart=>exact⟨0,left - len,by omega,by go_num,rfl,by omega,by omega,fun j v hj=>by omega,Fw _ _⟩
 case round=>
  obtain⟨k,m,hk,rfl,rfl,hm0,hm1,HE,HB⟩:=hrel;by_cases hlt:k<len
  ·obtain⟨b,o,v,rfl,hb,hv,hat⟩:=bY (HR.below HB.out) hlt;obtain⟨va,vl,vc,hvr,z0,z2,z4,c0,c1,c2,c3,c4,c5⟩:=aT hat;have Hz0:=aa z0;have Hz2:=aa z2;have Hz4:=aa z4;have HV:=aa hv;have HT:=aa hvr;clear hvr;clear hat hv z0 z2 z4;go_wp2_with fail;refine (tf v.n v.c v.z va vl vc v.zs v.d v.p m _ Hz0.out Hz2.out Hz4.out HT.out hm0 af).mono ?_;rintro e w2 ⟨r,rfl,hr,hb2⟩;have HB2:=upB HB hb2;clear hb2 c0 c1 c2 c3 c4 c5;exact vR
  ·exact vI

theorem zM (a a':Option Addr) (len len' cap cap':Nat) (xs:List Pd) (w:World) (hr:aN w a len cap 6 (xs.map pdF)) (hr':aN w a' len' cap' 6 (xs.map pdF)):
  Calls Tryz.prog 36 #[.slice a len cap,.slice a' len' cap'] w fun e w'=>e=.returned (.bool true)/\Below w.heap.size w w':=by
 obtain rfl:len=len':=hr.1.symm.trans hr'.1;obtain⟨HR,HR',hlc⟩:=nB;clear hr hr';go_enter Tryz.func36,Tryz.ntmps36;go_wp2;go_loopw [5] (fun i wr=> ∃k:Nat,k<=len/\i=.int .i64 k/\Hid (Below w.heap.size w wr)) (fun i _=>len - (intOf i).toNat);case atStart=>exact⟨0,by omega,rfl,Fw _ _⟩
 case round=>
  obtain⟨k,hk,rfl,HB⟩:=hrel;by_cases hlt:k<len
  ·obtain⟨b,o,v,rfl,hb,hv,hat⟩:=bY (HR.below HB.out) hlt;obtain⟨b',o',v',rfl,hb',hv',hat'⟩:=bY (HR'.below HB.out) hlt;rw[hv] at hv';obtain rfl:=Fq hv';clear hv hv';obtain⟨va,vl,vc,hvr,-,-,-,c0,c1,c2,c3,c4,c5⟩:=aT hat;obtain⟨va',vl',vc',hvr',-,-,-,d0,d1,d2,d3,d4,d5⟩:=aT hat';clear hat hat';have HT:=aa hvr;have HT':=aa hvr';clear hvr hvr';have HE:=aa (fun q:Wd wr=>tU v.n v.c v.z va vl vc v.zs v.d v.p va' vl' vc' q.w (HT.below q.b) (HT'.below q.b));have hne:=Wd.ne wr;have e0:∀q:Wd wr,q.w.cell? ⟨b,o+k*6,none⟩=some (.string v.n):=fun q=>(q.cell hb).trans c0;have e1:∀q:Wd wr,q.w.cell? ⟨b,o+k*6+1,none⟩=some (.int .i64 v.c):=fun q=>(q.cell hb).trans c1;have e2:∀q:Wd wr,q.w.cell? ⟨b,o+k*6+2,none⟩=some (.string v.z):=fun q=>(q.cell hb).trans c2;have e3:∀q:Wd wr,q.w.cell? ⟨b,o+k*6+3,none⟩=some (.slice va vl vc):=fun q=>(q.cell hb).trans c3;have e4:∀q:Wd wr,q.w.cell? ⟨b,o+k*6+4,none⟩=some (.string v.d):=fun q=>(q.cell hb).trans c4;have e5:∀q:Wd wr,q.w.cell? ⟨b,o+k*6+5,none⟩=some (.int .i64 v.p):=fun q=>(q.cell hb).trans c5;have f0:∀q:Wd wr,q.w.cell? ⟨b',o'+k*6,none⟩=some (.string v.n):=fun q=>(q.cell hb').trans d0;have f1:∀q:Wd wr,q.w.cell? ⟨b',o'+k*6+1,none⟩=some (.int .i64 v.c):=fun q=>(q.cell hb').trans d1;have f2:∀q:Wd wr,q.w.cell? ⟨b',o'+k*6+2,none⟩=some (.string v.z):=fun q=>(q.cell hb').trans d2;have f3:∀q:Wd wr,q.w.cell? ⟨b',o'+k*6+3,none⟩=some (.slice va' vl' vc'):=fun q=>(q.cell hb').trans d3;have f4:∀q:Wd wr,q.w.cell? ⟨b',o'+k*6+4,none⟩=some (.string v.d):=fun q=>(q.cell hb').trans d4;have f5:∀q:Wd wr,q.w.cell? ⟨b',o'+k*6+5,none⟩=some (.int .i64 v.p):=fun q=>(q.cell hb').trans d5;clear c0 c1 c2 c3 c4 c5 d0 d1 d2 d3 d4 d5;go_wp2_with fail;refine ag aq aq ?_;repeat (go_big_quiet_step (first|(go_at_call 72;exact Calls.wide (HE.out _))|fail))
   exact nZ
  ·exact j0

theorem qV (a:Option Addr) (len cap:Nat) (xs:List Pd) (N:Int) (S:Nat->Prop) (w:World) (ho:az w a len cap 6 64 (xs.map pdF) S) (hN:0<N) (hb:aI N (xs.map pdF)<=1152921504606846976) (hl:len<=9223372036854775807):
  Calls Tryz.prog 41 #[.slice a len cap,.int .i64 N] w fun e w'=>e=.returned (.int .i64 (aI N (xs.map pdF)))/\az w' a len cap 6 64 (mkRs N (xs.map pdF)) S/\aC S w w':=by
 have hxl:=ho.1;have hcp:=ho.2.1;have hcm:=ho.2.2.1;have hml:(mkRs N (xs.map pdF)).length=(xs.map pdF).length:=bL _ _;have HO:Hid (az w a len cap 6 64 ((mkRs N (xs.map pdF)).take 0++(xs.map pdF).drop 0) S):=nt
 have HBd:=aa hb;clear ho hb;go_enter Tryz.func41,Tryz.ntmps41;go_wp2;go_loopw [1,5] (fun vk vi wr=> ∃(i:Nat) (n:Int),i<=len/\vk=.int .i64 n/\vi=.int .i64 i/\Hid (n=aI N ((xs.map pdF).take i))/\0<n/\Hid (az wr a len cap 6 64 ((mkRs N (xs.map pdF)).take i++(xs.map pdF).drop i) S)/\Hid (aC S w wr)) (fun _ vi _=>len - (intOf vi).toNat);case atStart=>exact⟨0,N,by omega,rfl,rfl,rfl,hN,HO,aC.refl _ _⟩
 case round=>
  obtain⟨i,n,hi,rfl,rfl,HN,hn0,HS,HK⟩:=hrel;clear HO;by_cases hlt:i<len
  ·obtain⟨x,hx⟩:∃x,xs[i]?=some x:=⟨_,Fu (by simpa using (show i<(xs.map pdF).length by omega))⟩;obtain⟨hfx,HF,hbd,hbd'⟩:=B5;obtain⟨g,rfl,hs⟩:=HS.st HK.out ((cO hml af).trans hfx);have H0:Hid (StJ g 6 64 S (fun _=>False) w wr ((mkRs N (xs.map pdF)).take i++(xs.map pdF).drop i) i [.s x.n,.i x.c,.s x.z,.l x.zs,.s x.d,.i x.p]):=hs;clear hs hbd hx hfx HS HK;go_wp2_with fail;refine (cn _ _ af af).mono ?_;rintro e w1 ⟨rfl,hb⟩;have h1:=(H0.out).below hb;have H1:=aa h1;obtain⟨p0,c0⟩:=h1.cell (i:=0) rfl;have f0:=h1.cI (i*6);rw[G3] at c0;obtain⟨p1,c1⟩:=h1.cell (i:=1) rfl;have f1:=h1.cI (i*6+1);clear h1 hb H0;go_wp2_with fail;refine (cn _ _ af af).mono ?_;rintro e w2 ⟨rfl,hb⟩;obtain⟨h1,H2⟩:=uY;obtain⟨p2,c2⟩:=h1.cell (i:=2) rfl;have f2:=h1.cI (i*6+2);obtain⟨la,ll,lc,cl,hll⟩:=h1.slice (i:=3) rfl;clear h1 hb H1 c0 f0 c1 f1;go_wp2_with fail;refine (((H2.out).dt (i:=2) rfl _ (bH af)).zh (i:=3) rfl ((cC af).trans (cl)) _ af af).mono ?_;rintro e w3 ⟨rfl,h1⟩;have H3:=aa h1;clear h1 cl H2 c2 f2;go_wp2_with fail;refine (cn _ _ af af).mono ?_;rintro e w4 ⟨rfl,hb⟩;have h1:=(H3.out).below hb;have H4:=aa h1;obtain⟨p4,c4⟩:=h1.cell (i:=4) rfl;have f4:=h1.cI (i*6+4);obtain⟨p5,c5⟩:=h1.cell (i:=5) rfl;have f5:=h1.cI (i*6+5);clear h1 hb H3;go_wp2_with fail;have HZ:=aa (((H4.out).dt (i:=4) rfl (bm (n+1+1+1+ll).toNat) (bH af)).iu (i:=5) rfl (n+1+1+1+ll+1));clear H4;refine⟨⟨i+1,mkN n (pdF x),by omega,?_,by go_num,?_,?_,?_,HZ.kept⟩,by simp[intOf];omega⟩
   ·simp[mkN,mkN1,pdF,hll,Int.add_assoc]
   ·rw[cy HF.out,<-HN.out];rfl
   ·simp[mkN,mkN1,pdF];omega
   ·refine az.ow HZ.out hxl hml hcp hcm HF.out ?_;rw[<-HN.out];simp[mkR,mkF,mkN1,pdF,hll]
  ·obtain rfl:i=len:=af
   go_wp2;go_ret;have e1:(xs.map pdF).take i=xs.map pdF:=FF af;have e2:(mkRs N (xs.map pdF)).take i++(xs.map pdF).drop i=mkRs N (xs.map pdF):=by
    exact jT
   exact nW

theorem rE (a:Option Addr) (len cap:Nat) (xs:List Pd) (N:Int) (w:World) (ho:aN w a len cap 6 (mkRs N (xs.map pdF))) (hN:0<N) (hb:aI N (xs.map pdF)<=1152921504606846976) (hl:len<=9223372036854775807):
  Calls Tryz.prog 79 #[.slice a len cap,.int .i64 N] w fun e w'=>e=.returned (.int .i64 (aI N (xs.map pdF)))/\Below w.heap.size w w':=by
 have hxl:(xs.map pdF).length=len:=by rw[<-bL (xs.map pdF) N];exact ho.1
 have HR:=aa ho;have HBd:=aa hb;clear ho hb;go_enter Tryz.func79,Tryz.ntmps79;go_wp2;go_loopw [1,5] (fun vk vi wr=> ∃(i:Nat) (n:Int),i<=len/\vk=.int .i64 n/\vi=.int .i64 i/\Hid (n=aI N ((xs.map pdF).take i))/\0<n/\Hid (Below w.heap.size w wr)) (fun _ vi _=>len - (intOf vi).toNat);case atStart=>exact⟨0,N,by omega,rfl,rfl,rfl,hN,Fw _ _⟩
 case round=>
  obtain⟨i,n,hi,rfl,rfl,HN,hn0,HB⟩:=hrel;by_cases hlt:i<len
  ·obtain⟨x,hx⟩:∃x,xs[i]?=some x:=⟨_,Fu (by simpa using (show i<(xs.map pdF).length by omega))⟩;obtain⟨hfx,HF,hbd,hbd'⟩:=B5;obtain⟨b,o,r,rfl,hb,hr,hat⟩:=(HR.below HB.out).at hlt;rw[eL,hfx,<-HN.out] at hr;obtain rfl:=Fq hr;have HA:Hid (RAt wr b (o+i*6) (pdF ⟨bm (n).toNat,n+1,bm (n+1+1).toNat,dI (n+1+1+1) x.zs.length,bm (n+1+1+1+x.zs.length).toNat,n+1+1+1+x.zs.length+1⟩)):=hat;clear hat hr hbd hx hfx;obtain⟨va,vl,vc,hvr,-,-,-,c0,c1,c2,c3,c4,c5⟩:=aT HA.out;have HL:=aa hvr;have hvl:=hvr.1;rw[aY] at hvl;clear hvr;clear HL hvl;have hne0:=Wd.ne wr;have e0:∀q:Wd wr,q.w.cell? ⟨b,o+i*6,none⟩=some (.string (bm (n).toNat)):=fun q=>(q.cell hb).trans c0;have HT:=aa (fun v:World=>cn (n) v af af);clear c0;go_wp2_with fail;refine ag aq aq ?_;repeat (go_big_quiet_step (first|(go_at_call 73;exact Calls.wide (HT.out _))|fail))
   refine wpQuiet_nil ?_;rintro _ ⟨q0,rfl⟩;clear e0 HT hne0 c1 c2 c3 c4 c5;obtain⟨HA0,HB0,hb0⟩:=nJ;clear HA HB hb;have HA:=HA0;have HB:=HB0;have hb:=hb0;clear HA0 HB0 hb0;obtain⟨va,vl,vc,hvr,-,-,-,c0,c1,c2,c3,c4,c5⟩:=aT HA.out;have HL:=aa hvr;have hvl1:=hvr.1;rw[aY] at hvl1;clear hvr;clear c0 c3 c4 c5;clear HL hvl1;have hne1:=Wd.ne q0.w;have e2:∀q:Wd q0.w,q.w.cell? ⟨b,o+i*6+2,none⟩=some (.string (bm (n+1+1).toNat)):=fun q=>(q.cell hb).trans c2;have HT:=aa (fun v:World=>cn (n+1+1) v af af);clear c2;go_wp2_with fail;refine ag aq aq ?_;repeat (go_big_quiet_step (first|(go_at_call 73;exact Calls.wide (HT.out _))|fail))
   refine wpQuiet_nil ?_;rintro _ ⟨q1,rfl⟩;clear e2 HT hne1 c1;obtain⟨HA1,HB1,hb1⟩:=nI;clear HA HB hb;have HA:=HA1;have HB:=HB1;have hb:=hb1;clear HA1 HB1 hb1;obtain⟨va,vl,vc,hvr,-,-,-,c0,c1,c2,c3,c4,c5⟩:=aT HA.out;have HL:=aa hvr;have hvl2:=hvr.1;rw[aY] at hvl2;clear hvr;clear c0 c1 c2 c4 c5;subst hvl2;go_wp2_with fail;refine (zH va _ vc _ _ (by exact HL.out) af af).mono ?_;rintro e w2 ⟨rfl,hbq⟩;have HA2:=aa (HA.below hb hbq);have HB2:=upB HB hbq;have hb2:=FE hb hbq.size;clear HA HB hb HL c3 hbq;have HA:=HA2;have HB:=HB2;have hb:=hb2;clear HA2 HB2 hb2;obtain⟨va,vl,vc,hvr,-,-,-,c0,c1,c2,c3,c4,c5⟩:=aT HA.out;have HL:=aa hvr;have hvl3:=hvr.1;rw[aY] at hvl3;clear hvr;clear HL;clear c0 c1 c2 c3 c5;clear hvl3;have hne3:=Wd.ne w2;have e4:∀q:Wd w2,q.w.cell? ⟨b,o+i*6+4,none⟩=some (.string (bm (n+1+1+1+x.zs.length).toNat)):=fun q=>(q.cell hb).trans c4;have HT:=aa (fun v:World=>cn (n+1+1+1+x.zs.length) v af af);clear c4;go_wp2_with fail;refine ag aq aq ?_;repeat (go_big_quiet_step (first|(go_at_call 73;exact Calls.wide (HT.out _))|fail))
   refine wpQuiet_nil ?_;rintro _ ⟨q3,rfl⟩;clear e4 HT hne3;have HA3:=aa (HA.below hb q3.b);have HB3:=upB HB q3.b;have hb3:=FE hb q3.b.size;clear HA HB hb;have HA:=HA3;have HB:=HB3;have hb:=hb3;clear HA3 HB3 hb3;obtain⟨va,vl,vc,hvr,-,-,-,c0,c1,c2,c3,c4,c5⟩:=aT HA.out;have HL:=aa hvr;have hvl4:=hvr.1;rw[aY] at hvl4;clear hvr;clear c0 c1 c2 c3 c4;clear HL hvl4;go_wp2_with fail;refine⟨⟨i+1,mkN n (pdF x),by omega,?_,by go_num,?_,?_,HB.out⟩,by simp[intOf];omega⟩
   ·simp[mkN,mkN1,pdF,Int.add_assoc]
   ·rw[cy HF.out,<-HN.out];rfl
   ·simp[mkN,mkN1,pdF];omega
  ·obtain rfl:i=len:=af
   go_wp2;go_ret;have e1:(xs.map pdF).take i=xs.map pdF:=FF af;exact nR

def mkC (N:Int) (c:Cr):Cr:=⟨mkRs N c.n,mkRs (aI N c.n) c.k,mkRs (aI (aI N c.n) c.k) c.v,mkRs (aI (aI (aI N c.n) c.k) c.v) c.x,mkRs (aI (aI (aI (aI N c.n) c.k) c.v) c.x) c.p⟩
def dN (N:Int) (c:Cr):Int:=(aI (aI (aI (aI (aI N c.n) c.k) c.v) c.x) c.p)
theorem mn (N:Int) (c:Cr):N<=dN N c:=F8 (aH _ _) (F8 (aH _ _) (F8 (aH _ _) (F8 (aH _ _) (aH _ _))))
theorem zf (N:Int) (c:Cr):aI N c.n<=dN N c:=(F8 (F8 (F8 (F8 (Hu _) (aH _ _)) (aH _ _)) (aH _ _)) (aH _ _))
theorem zg (N:Int) (c:Cr):aI (aI N c.n) c.k<=dN N c:=(F8 (F8 (F8 (Hu _) (aH _ _)) (aH _ _)) (aH _ _))
theorem zd (N:Int) (c:Cr):aI (aI (aI N c.n) c.k) c.v<=dN N c:=(F8 (F8 (Hu _) (aH _ _)) (aH _ _))
theorem za (N:Int) (c:Cr):aI (aI (aI (aI N c.n) c.k) c.v) c.x<=dN N c:=(F8 (Hu _) (aH _ _))
theorem ze (N:Int) (c:Cr):aI (aI (aI (aI (aI N c.n) c.k) c.v) c.x) c.p<=dN N c:=(Hu _)

theorem fX (d d':Ad) (c:Cl) (w:World) (hr:aJ w d c.raw) (hr':aJ w d' c.raw):
  Calls Tryz.prog 10 #[.agg #[.slice d.a1 d.l1 d.c1,.slice d.a2 d.l2 d.c2,.slice d.a3 d.l3 d.c3,.slice d.a4 d.l4 d.c4,.slice d.a5 d.l5 d.c5,.int .i64 c.now],.agg #[.slice d'.a1 d'.l1 d'.c1,.slice d'.a2 d'.l2 d'.c2,.slice d'.a3 d'.l3 d'.c3,.slice d'.a4 d'.l4 d'.c4,.slice d'.a5 d'.l5 d'.c5,.int .i64 c.now]] w fun e w'=>e=.returned (.bool true)/\Below w.heap.size w w':=by
 have HR:=aa (hr.below (aF w (.cells (clv d c.now) 36) (.cells (clv d' c.now) 36)));have HR':=aa (hr'.below (aF w (.cells (clv d c.now) 36) (.cells (clv d' c.now) 36)));have HB0:=aa (aF w (.cells (clv d c.now) 36) (.cells (clv d' c.now) 36));have HG0:=aa (cU w (.cells (clv d c.now) 36) (.cells (clv d' c.now) 36));have HG1:=aa (bE w (.cells (clv d c.now) 36) (.cells (clv d' c.now) 36));clear hr hr';go_enter Tryz.func10,Tryz.ntmps10;go_wp2_with fail;refine (zN d.a1 d'.a1 d.l1 d'.l1 d.c1 d'.c1 c.ns _ HR.n HR'.n).mono ?_;rintro e w1 ⟨rfl,hb⟩;have HR1:=aa (HR.below hb);have HR'1:=aa (HR'.below hb);have HB1:=aa (HB0.trans (hb.mono (HB0.size)));have HG01:=upK HG0 hb;have HG11:=upK HG1 hb;clear hb HR HR' HB0 HG0 HG1;have HR:=HR1;have HR':=HR'1;have HG0:=HG01;have HG1:=HG11;clear HR1 HR'1 HG01 HG11;have c0:=ck1 HG0;have c1:=ck1 HG1;go_wp2_with fail;refine (zO d.a2 d'.a2 d.l2 d'.l2 d.c2 d'.c2 c.ks _ HR.k HR'.k).mono ?_;rintro e w2 ⟨rfl,hb⟩;have HR2:=aa (HR.below hb);have HR'2:=aa (HR'.below hb);have HB2:=aa (HB1.trans (hb.mono (HB1.size)));have HG02:=upK HG0 hb;have HG12:=upK HG1 hb;clear hb HR HR' HB1 HG0 HG1 c0 c1;have HR:=HR2;have HR':=HR'2;have HG0:=HG02;have HG1:=HG12;clear HR2 HR'2 HG02 HG12;have c0:=ck2 HG0;have c1:=ck2 HG1;go_wp2_with fail;refine (zL d.a3 d'.a3 d.l3 d'.l3 d.c3 d'.c3 c.vs _ HR.v HR'.v).mono ?_;rintro e w3 ⟨rfl,hb⟩;have HR3:=aa (HR.below hb);have HR'3:=aa (HR'.below hb);have HB3:=aa (HB2.trans (hb.mono (HB2.size)));have HG03:=upK HG0 hb;have HG13:=upK HG1 hb;clear hb HR HR' HB2 HG0 HG1 c0 c1;have HR:=HR3;have HR':=HR'3;have HG0:=HG03;have HG1:=HG13;clear HR3 HR'3 HG03 HG13;have c0:=ck3 HG0;have c1:=ck3 HG1;go_wp2_with fail;refine (zK d.a4 d'.a4 d.l4 d'.l4 d.c4 d'.c4 c.xs _ HR.x HR'.x).mono ?_;rintro e w4 ⟨rfl,hb⟩;have HR4:=aa (HR.below hb);have HR'4:=aa (HR'.below hb);have HB4:=aa (HB3.trans (hb.mono (HB3.size)));have HG04:=upK HG0 hb;have HG14:=upK HG1 hb;clear hb HR HR' HB3 HG0 HG1 c0 c1;have HR:=HR4;have HR':=HR'4;have HG0:=HG04;have HG1:=HG14;clear HR4 HR'4 HG04 HG14;have c0:=ck4 HG0;have c1:=ck4 HG1;go_wp2_with fail;refine (zM d.a5 d'.a5 d.l5 d'.l5 d.c5 d'.c5 c.ps _ HR.p HR'.p).mono ?_;rintro e w5 ⟨rfl,hb⟩;have HR5:=aa (HR.below hb);have HR'5:=aa (HR'.below hb);have HB5:=aa (HB4.trans (hb.mono (HB4.size)));have HG05:=upK HG0 hb;have HG15:=upK HG1 hb;clear hb HR HR' HB4 HG0 HG1 c0 c1;have HR:=HR5;have HR':=HR'5;have HG0:=HG05;have HG1:=HG15;clear HR5 HR'5 HG05 HG15;have c0:=ck5 HG0;have c1:=ck5 HG1;go_wp2;go_ret;exact⟨rfl,HB5.out⟩

theorem eV (d:Ad) (c:Cl) (N:Int) (S:Nat->Prop) (w:World) (ho:bQ w d c.raw S) (hS:∀k,S k->k<w.heap.size) (hN:0<N) (hb:dN N c.raw<=1152921504606846976):
  Calls Tryz.prog 11 #[.agg #[.slice d.a1 d.l1 d.c1,.slice d.a2 d.l2 d.c2,.slice d.a3 d.l3 d.c3,.slice d.a4 d.l4 d.c4,.slice d.a5 d.l5 d.c5,.int .i64 c.now],.int .i64 N] w fun e w'=>e=.returned (.int .i64 (dN N c.raw))/\bQ w' d (mkC N c.raw) S/\aC S w w':=by
 obtain⟨P,ho⟩:=ho;have h1:=ho.aM (w':=w.alloc (.cells (clv d c.now) 36)) (fun k hk _=>(al w _).block k hk) (fun _ _ s=>s);have O1:=aa h1.n;have O2:=aa h1.k;have O3:=aa h1.v;have O4:=aa h1.x;have O5:=aa h1.p;have HK0:Hid (aC S w (w.alloc (.cells (clv d c.now) 36))):=aC.bZ (al w _);have HG0:Hid ((w.alloc (.cells (clv d c.now) 36)).heap[w.heap.size]?=some (.cells (clv d c.now) 36 (0,0))):=FD;have hnn:¬S w.heap.size:=fun s=>Nat.lt_irrefl _ (hS _ s);have HNN:=aa hnn;have HBd:=aa hb;clear ho h1 hS hnn hb;go_enter Tryz.func11,Tryz.ntmps11;go_wp2_with fail;refine (qW d.a1 d.l1 d.c1 c.ns (N) _ _ (by exact O1.out) hN (F8 (zf N c.raw) HBd.out) (FA O1.2.1 O1.2.2.1)).mono ?_;rintro e w1 ⟨rfl,ho,hk⟩;have M1:=aa ho;have O21:=aa (O2.kept hk (fun k s q=>by have h1:=s.2;have h2:=q.2;omega));have O31:=aa (O3.kept hk (fun k s q=>by have h1:=s.2;have h2:=q.2;omega));have O41:=aa (O4.kept hk (fun k s q=>by have h1:=s.2;have h2:=q.2;omega));have O51:=aa (O5.kept hk (fun k s q=>by have h1:=s.2;have h2:=q.2;omega));have HK1:=aa (HK0.trans (hk.mono (fun _ s=>s.1)));have HG1:=aa ((hk.block _ (ae HG0.out) (fun s=>HNN.out s.1)).trans HG0.out);clear ho hk HK0 HG0 O1 O2 O3 O4 O5;have O2:=O21;clear O21;have O3:=O31;clear O31;have O4:=O41;clear O41;have O5:=O51;clear O51;have c0:=ck1 HG1;go_wp2_with fail;refine (qX d.a2 d.l2 d.c2 c.ks (aI N (c.ns.map ndF)) _ _ (by exact O2.out) (FO hN (aH _ _)) (F8 (zg N c.raw) HBd.out) (FA O2.2.1 O2.2.2.1)).mono ?_;rintro e w2 ⟨rfl,ho,hk⟩;have M2:=aa ho;have M12:=aa (M1.kept hk (fun k s q=>by have h1:=s.2;have h2:=q.2;omega));have O32:=aa (O3.kept hk (fun k s q=>by have h1:=s.2;have h2:=q.2;omega));have O42:=aa (O4.kept hk (fun k s q=>by have h1:=s.2;have h2:=q.2;omega));have O52:=aa (O5.kept hk (fun k s q=>by have h1:=s.2;have h2:=q.2;omega));have HK2:=aa (HK1.trans (hk.mono (fun _ s=>s.1)));have HG2:=aa ((hk.block _ (ae HG1.out) (fun s=>HNN.out s.1)).trans HG1.out);clear ho hk HK1 HG1 M1 O2 O3 O4 O5 c0;have M1:=M12;clear M12;have O3:=O32;clear O32;have O4:=O42;clear O42;have O5:=O52;clear O52;have c0:=ck2 HG2;go_wp2_with fail;refine (qU d.a3 d.l3 d.c3 c.vs (aI (aI N (c.ns.map ndF)) (c.ks.map kdF)) _ _ (by exact O3.out) (FO (FO hN (aH _ _)) (aH _ _)) (F8 (zd N c.raw) HBd.out) (FA O3.2.1 O3.2.2.1)).mono ?_;rintro e w3 ⟨rfl,ho,hk⟩;have M3:=aa ho;have M13:=aa (M1.kept hk (fun k s q=>by have h1:=s.2;have h2:=q.2;omega));have M23:=aa (M2.kept hk (fun k s q=>by have h1:=s.2;have h2:=q.2;omega));have O43:=aa (O4.kept hk (fun k s q=>by have h1:=s.2;have h2:=q.2;omega));have O53:=aa (O5.kept hk (fun k s q=>by have h1:=s.2;have h2:=q.2;omega));have HK3:=aa (HK2.trans (hk.mono (fun _ s=>s.1)))
 have HG3:=aa ((hk.block _ (ae HG2.out) (fun s=>HNN.out s.1)).trans HG2.out);clear ho hk HK2 HG2 M1 M2 O3 O4 O5 c0;have M1:=M13;clear M13;have M2:=M23;clear M23;have O4:=O43;clear O43;have O5:=O53;clear O53;have c0:=ck3 HG3;go_wp2_with fail;refine (qT d.a4 d.l4 d.c4 c.xs (aI (aI (aI N (c.ns.map ndF)) (c.ks.map kdF)) (c.vs.map vdF)) _ _ (by exact O4.out) (FO (FO (FO hN (aH _ _)) (aH _ _)) (aH _ _)) (F8 (za N c.raw) HBd.out) (FA O4.2.1 O4.2.2.1)).mono ?_;rintro e w4 ⟨rfl,ho,hk⟩;have M4:=aa ho;have M14:=aa (M1.kept hk (fun k s q=>by have h1:=s.2;have h2:=q.2;omega));have M24:=aa (M2.kept hk (fun k s q=>by have h1:=s.2;have h2:=q.2;omega));have M34:=aa (M3.kept hk (fun k s q=>by have h1:=s.2;have h2:=q.2;omega));have O54:=aa (O5.kept hk (fun k s q=>by have h1:=s.2;have h2:=q.2;omega));have HK4:=aa (HK3.trans (hk.mono (fun _ s=>s.1)));have HG4:=aa ((hk.block _ (ae HG3.out) (fun s=>HNN.out s.1)).trans HG3.out);clear ho hk HK3 HG3 M1 M2 M3 O4 O5 c0;have M1:=M14;clear M14;have M2:=M24;clear M24;have M3:=M34;clear M34;have O5:=O54;clear O54;have c0:=ck4 HG4;go_wp2_with fail;refine (qV d.a5 d.l5 d.c5 c.ps (aI (aI (aI (aI N (c.ns.map ndF)) (c.ks.map kdF)) (c.vs.map vdF)) (c.xs.map xdF)) _ _ (by exact O5.out) (FO (FO (FO (FO hN (aH _ _)) (aH _ _)) (aH _ _)) (aH _ _)) (F8 (ze N c.raw) HBd.out) (FA O5.2.1 O5.2.2.1)).mono ?_;rintro e w5 ⟨rfl,ho,hk⟩;have M5:=aa ho;have M15:=aa (M1.kept hk (fun k s q=>by have h1:=s.2;have h2:=q.2;omega));have M25:=aa (M2.kept hk (fun k s q=>by have h1:=s.2;have h2:=q.2;omega));have M35:=aa (M3.kept hk (fun k s q=>by have h1:=s.2;have h2:=q.2;omega));have M45:=aa (M4.kept hk (fun k s q=>by have h1:=s.2;have h2:=q.2;omega));have HK5:=aa (HK4.trans (hk.mono (fun _ s=>s.1)));clear ho hk HK4 HG4 M1 M2 M3 M4 O5 c0;have M1:=M15;clear M15;have M2:=M25;clear M25;have M3:=M35;clear M35;have M4:=M45;clear M45;go_wp2_with fail;go_ret;exact⟨rfl,⟨P,M1.out,M2.out,M3.out,M4.out,M5.out⟩,HK5.out⟩

theorem jj (d:Ad) (c:Cl) (now N:Int) (w:World) (hr:aJ w d (mkC N c.raw)) (hN:0<N) (hb:dN N c.raw<=1152921504606846976):
  Calls Tryz.prog 42 #[.agg #[.slice d.a1 d.l1 d.c1,.slice d.a2 d.l2 d.c2,.slice d.a3 d.l3 d.c3,.slice d.a4 d.l4 d.c4,.slice d.a5 d.l5 d.c5,.int .i64 now],.int .i64 N] w fun e w'=>e=.returned (.int .i64 (dN N c.raw))/\Below w.heap.size w w':=by
 have HR:=aa (hr.below (al w (.cells (clv d now) 36)));have HB0:=aa (al w (.cells (clv d now) 36));have HG0:Hid ((w.alloc (.cells (clv d now) 36)).heap[w.heap.size]?=some (.cells (clv d now) 36 (0,0))):=FD;have HBd:=aa hb;clear hr hb;have p1:¬aI N (c.ns.map ndF)<0:=Int.not_lt.2 (Int.le_of_lt (FO hN (aH _ _)));have p2:¬aI (aI N (c.ns.map ndF)) (c.ks.map kdF)<0:=Int.not_lt.2 (Int.le_of_lt (FO (FO hN (aH _ _)) (aH _ _)));have p3:¬aI (aI (aI N (c.ns.map ndF)) (c.ks.map kdF)) (c.vs.map vdF)<0:=Int.not_lt.2 (Int.le_of_lt (FO (FO (FO hN (aH _ _)) (aH _ _)) (aH _ _)));have p4:¬aI (aI (aI (aI N (c.ns.map ndF)) (c.ks.map kdF)) (c.vs.map vdF)) (c.xs.map xdF)<0:=Int.not_lt.2 (Int.le_of_lt (FO (FO (FO (FO hN (aH _ _)) (aH _ _)) (aH _ _)) (aH _ _)));have p5:¬aI (aI (aI (aI (aI N (c.ns.map ndF)) (c.ks.map kdF)) (c.vs.map vdF)) (c.xs.map xdF)) (c.ps.map pdF)<0:=Int.not_lt.2 (Int.le_of_lt (FO (FO (FO (FO (FO hN (aH _ _)) (aH _ _)) (aH _ _)) (aH _ _)) (aH _ _)));go_enter Tryz.func42,Tryz.ntmps42;go_wp2_with fail;refine (rF d.a1 d.l1 d.c1 c.ns (N) _ (by exact HR.n) hN (F8 (zf N c.raw) HBd.out) (FA HR.n.2.1 HR.n.2.2.1)).mono ?_;rintro e w1 ⟨rfl,hb⟩;have HR1:=aa (HR.below hb);have HB1:=aa (HB0.trans (hb.mono (HB0.size)));have HG1:=upK HG0 hb;clear hb HR HB0 HG0;have HR:=HR1;clear HR1;have c0:=ck1 HG1;go_wp2_with fail;refine (rG d.a2 d.l2 d.c2 c.ks (aI N (c.ns.map ndF)) _ (by exact HR.k) (FO hN (aH _ _)) (F8 (zg N c.raw) HBd.out) (FA HR.k.2.1 HR.k.2.2.1)).mono ?_;rintro e w2 ⟨rfl,hb⟩;have HR2:=aa (HR.below hb);have HB2:=aa (HB1.trans (hb.mono (HB1.size)));have HG2:=upK HG1 hb;clear hb HR HB1 HG1 c0;have HR:=HR2;clear HR2;have c0:=ck2 HG2;go_wp2_with fail;refine (rD d.a3 d.l3 d.c3 c.vs (aI (aI N (c.ns.map ndF)) (c.ks.map kdF)) _ (by exact HR.v) (FO (FO hN (aH _ _)) (aH _ _)) (F8 (zd N c.raw) HBd.out) (FA HR.v.2.1 HR.v.2.2.1)).mono ?_;rintro e w3 ⟨rfl,hb⟩;have HR3:=aa (HR.below hb);have HB3:=aa (HB2.trans (hb.mono (HB2.size)));have HG3:=upK HG2 hb;clear hb HR HB2 HG2 c0;have HR:=HR3;clear HR3;have c0:=ck3 HG3;go_wp2_with fail;refine (rC d.a4 d.l4 d.c4 c.xs (aI (aI (aI N (c.ns.map ndF)) (c.ks.map kdF)) (c.vs.map vdF)) _ (by exact HR.x) (FO (FO (FO hN (aH _ _)) (aH _ _)) (aH _ _)) (F8 (za N c.raw) HBd.out) (FA HR.x.2.1 HR.x.2.2.1)).mono ?_
 rintro e w4 ⟨rfl,hb⟩;have HR4:=aa (HR.below hb);have HB4:=aa (HB3.trans (hb.mono (HB3.size)));have HG4:=upK HG3 hb;clear hb HR HB3 HG3 c0;have HR:=HR4;clear HR4;have c0:=ck4 HG4;go_wp2_with fail;refine (rE d.a5 d.l5 d.c5 c.ps (aI (aI (aI (aI N (c.ns.map ndF)) (c.ks.map kdF)) (c.vs.map vdF)) (c.xs.map xdF)) _ (by exact HR.p) (FO (FO (FO (FO hN (aH _ _)) (aH _ _)) (aH _ _)) (aH _ _)) (F8 (ze N c.raw) HBd.out) (FA HR.p.2.1 HR.p.2.2.1)).mono ?_;rintro e w5 ⟨rfl,hb⟩;have HR5:=aa (HR.below hb);have HB5:=aa (HB4.trans (hb.mono (HB4.size)));clear hb HR HB4 HG4 c0;have HR:=HR5;clear HR5;go_wp2_with fail;go_ret;exact⟨rfl,HB5.out⟩

def ndZ:Nd:=⟨⟨#[]⟩,⟨#[]⟩,0,0,0,false,[]⟩

theorem DL {w:World} {g len:Nat} (h:w.heap[g]?=some (.cells (madeCells #[.string ⟨#[]⟩,.string ⟨#[]⟩,.int .i64 0,.int .i64 0,.int .i64 0,.bool false,.slice none 0 0] (len*7)) 57 (0,0))) (hl:len<=1048576) (S:Nat->Prop) (hS:S g):
  az w (some ⟨g,0,none⟩) len len 7 57 ((FP len ndZ).map ndF) S:=by
 refine⟨by simp,Ft _,by omega,.inr ⟨g,_,fun _ _=>0,rfl,h,hS,?_,?_,?_⟩⟩
 ·exact nS
 ·intro j r hr i f hi;rw[FC] at hr;obtain⟨x,hx,rfl⟩:=FJ.1 hr;have hj:j<len:=by have:=(Fm.1 hx).1;simpa using this
  obtain rfl:x=ndZ:=by
   exact fU
  have him:i<7:=(Fm.1 hi).1;have hlt:j*7+i<len*7:=af
  have hcell:(madeCells #[.string ⟨#[]⟩,.string ⟨#[]⟩,.int .i64 0,.int .i64 0,.int .i64 0,.bool false,.slice none 0 0] (len*7))[j*7+i]?=some (#[.string ⟨#[]⟩,.string ⟨#[]⟩,.int .i64 0,.int .i64 0,.int .i64 0,.bool false,.slice none 0 0][i]!):=by
   unfold madeCells;rw[Ho,Hk];rw[if_pos hlt];have:(j*7+i) % 7=i:=af
   simp[this]
  refine⟨_,hcell,?_⟩;rcases i with _|_|_|_|_|_|_|i
  ·cases hi;exact⟨rfl,by decide⟩
  ·cases hi;exact⟨rfl,by decide⟩
  ·cases hi;exact rfl
  ·cases hi;exact rfl
  ·cases hi;exact rfl
  ·cases hi;exact rfl
  ·cases hi;exact⟨none,0,0,rfl,rfl,Ft _,by decide,fun j x hx=>by simp[ndZ] at hx,.inl rfl⟩
  ·omega
 ·intro j r i zs j' r' i' zs' hr hi hz;exfalso;rw[FC] at hr;obtain⟨x,hx,rfl⟩:=FJ.1 hr;obtain rfl:x=ndZ:=by
   exact fU
  have him:i<7:=(Fm.1 hi).1;rcases i with _|_|_|_|_|_|_|i
  ·cases hi
  ·cases hi
  ·cases hi
  ·cases hi
  ·cases hi
  ·cases hi
  ·cases hi;exact hz rfl
  ·omega

theorem uu (a:Option Addr) (len cap:Nat) (xs:List Nd) (w:World) (hr:aN w a len cap 7 (xs.map ndF)) (hl:len<=1048576) (hf:∀(j:Nat) x,xs[j]?=some x->x.zs.length<=1048576):
  Calls Tryz.prog 24 #[.slice a len cap] w fun e w'=>e=.returned (.slice (some ⟨w.heap.size,0,none⟩) len len)/\az w' (some ⟨w.heap.size,0,none⟩) len len 7 57 (xs.map ndF) (fun k=>w.heap.size<=k)/\Below w.heap.size w w':=by
 obtain⟨HR,hvl⟩:=fQ;have HF:=aa hf;clear hr hf;obtain⟨i0,hi,hz0,hz1,hz2⟩:=info_parts my;go_enter Tryz.func24,Tryz.ntmps24;go_wp2_with (at_make;refine wpList_make_full _ rfl _ _ 30 rfl w.heap.size 57 i0 (.agg #[.string ⟨#[]⟩,.string ⟨#[]⟩,.int .i64 0,.int .i64 0,.int .i64 0,.bool false,.slice none 0 0]) 7 Tryz.underlying30 hi hz0 hz1 _ _ _ _ len rfl rfl af af gI cD (Ft _) ?_);intro w1 hown hgrow;obtain⟨hnx1,HB⟩:=nK;have hc1:w1.heap[w.heap.size]?=some (.cells (madeCells #[.string ⟨#[]⟩,.string ⟨#[]⟩,.int .i64 0,.int .i64 0,.int .i64 0,.bool false,.slice none 0 0] (len*7)) 57 (0,0)):=by
  obtain⟨h1,h2⟩:=hown;rcases h2 with ⟨h3,_⟩|⟨g',cap',cur,hv,hB,hh,_,_,hsz,htk⟩
  ·cases h3
  ·simp only[Value.slice.injEq,Gw,Addr.mk.injEq] at hv;obtain⟨⟨rfl,_,_⟩,_,rfl⟩:=hv;rw[FF (by simp[hsz])] at htk;have:cur=madeCells #[.string ⟨#[]⟩,.string ⟨#[]⟩,.int .i64 0,.int .i64 0,.int .i64 0,.bool false,.slice none 0 0] (len*7):=by apply Array.ext';simpa using htk
   rw[this] at hh;simpa using hh
 have HP:Hid (az w1 (some ⟨w.heap.size,0,none⟩) len len 7 57 ((xs.take 0++(FP len ndZ).drop 0).map ndF) (fun k=>w.heap.size<=k)):=by
  have:=DL hc1 hl (fun k=>w.heap.size<=k) (Ft _);simpa[Hid] using this
 have hZl:xs.length=(FP len ndZ).length:=by simpa using hvl
 clear hown hgrow hi hz0 hz1 hz2 hnx1 hc1;go_wp2;go_loopw [4] (fun i wr=> ∃k:Nat,k<=len/\i=.int .i64 k/\Hid (az wr (some ⟨w.heap.size,0,none⟩) len len 7 57 ((xs.take k++(FP len ndZ).drop k).map ndF) (fun k=>w.heap.size<=k))/\Hid (Below w.heap.size w wr)) (fun i _=>len - (intOf i).toNat);case atStart=>exact⟨0,by omega,rfl,HP,HB⟩
 case round=>
  obtain⟨k,hk,rfl,HP,HB⟩:=hrel;by_cases hlt:k<len
  ·obtain⟨b,o,v,rfl,hb,hv,hat⟩:=cB (HR.below HB.out) hlt;obtain⟨va,vl,vc,hvr,z0,z1,c0,c1,c2,c3,c4,c5,c6⟩:=aZ hat;have HV:=aa hv;have Hz0:=aa z0;have Hz1:=aa z1;obtain⟨HT,hvl2,hvz,HVZ⟩:=vd;clear hvr hvz;clear hat hv z0 z1;have hzk:((xs.take k++(FP len ndZ).drop k).map ndF)[k]?=some (ndF ndZ):=by
    exact jU
   obtain⟨g,hg,hs⟩:=HP.st (aC.refl _ _) hzk;cases hg;have HS:=aa hs;clear hs hzk HP;go_wp2_with fail;refine (po v.n v.z v.c v.s v.u v.d va vl vc v.zs _ HT.out hvl2).mono ?_;rintro e w2 ⟨rfl,hG,hb2⟩;have HB2:=upB HB hb2;have h1:StJ w.heap.size 7 57 (fun k=>w.heap.size<=k) (fun k=>wr.heap.size<=k) wr w2 ((xs.take k++(FP len ndZ).drop k).map ndF) k [.s ndZ.n,.s ndZ.z,.i ndZ.c,.i ndZ.s,.i ndZ.u,.b ndZ.d,.l ndZ.zs]:=HS.fresh hb2;have hL:oY w2 (wr.heap.size+1+1+1) (fun k=>w.heap.size<=k) w.heap.size v.zs (.slice (some ⟨wr.heap.size+1+1+1,0,none⟩) vl vl):=by
    exact qh
   have HL:=aa hL;clear hG hL;obtain⟨q0,e0⟩:=h1.cell (i:=0) rfl;have f0:=h1.cI (k*7);obtain⟨q1,e1⟩:=h1.cell (i:=1) rfl;have f1:=h1.cI (k*7+1);obtain⟨q2,e2⟩:=h1.cell (i:=2) rfl;have f2:=h1.cI (k*7+2);obtain⟨q3,e3⟩:=h1.cell (i:=3) rfl;have f3:=h1.cI (k*7+3);obtain⟨q4,e4⟩:=h1.cell (i:=4) rfl;have f4:=h1.cI (k*7+4);obtain⟨q5,e5⟩:=h1.cell (i:=5) rfl;have f5:=h1.cI (k*7+5);obtain⟨q6,e6⟩:=h1.cell (i:=6) rfl;have f6:=h1.cI (k*7+6);rw[G3] at e0;have HZ:=aa ((((((((h1).dt (i:=0) rfl v.n Hz0.out).dt (i:=1) rfl v.z Hz1.out).iu (i:=2) rfl v.c).iu (i:=3) rfl v.s).iu (i:=4) rfl v.u).jh (i:=5) rfl v.d).De (i:=6) rfl v.zs (fun _=>by show wr.heap.size<=_;omega) (Fv.Own.bD (u:=.l v.zs) (Fv.Own.bD (u:=.l v.zs) (Fv.Own.bD (u:=.l v.zs) (Fv.Own.bD (u:=.l v.zs) (Fv.Own.bD (u:=.l v.zs) (Fv.Own.bD (u:=.l v.zs) (HL.out))))))));clear h1 hb2 c0 c1 c2 c3 c4 c5 c6 hb;go_wp2_with fail;refine⟨⟨k+1,by omega,by go_num,?_,ah (Ft _) (ah (Ft _) (ah (Ft _) (ah (Ft _) (ah (Ft _) (ah (Ft _) (ah (Ft _) (HB2.out)))))))⟩,by simp[intOf];omega⟩;obtain⟨⟨cur,H,h2,-⟩,-,-⟩:=HZ.out;have h3:(((xs.take k++(FP len ndZ).drop k).map ndF).set k (ndF v))=(xs.take (k+1)++(FP len ndZ).drop (k+1)).map ndF:=by
    rw[<-List.map_set,cF hZl HV.out]
   have h4:dK _ w.heap.size 7 57 (((xs.take k++(FP len ndZ).drop k).map ndF).set k (ndF v)) (fun k=>w.heap.size<=k) cur H:=h2;exact nT
  ·exact n_

def kdZ:Kd:=⟨⟨#[]⟩,false,false,⟨#[]⟩⟩

theorem DM {w:World} {g len:Nat} (h:w.heap[g]?=some (.cells (madeCells #[.string ⟨#[]⟩,.bool false,.bool false,.string ⟨#[]⟩] (len*4)) 102 (0,0))) (hl:len<=1048576) (S:Nat->Prop) (hS:S g):
  az w (some ⟨g,0,none⟩) len len 4 102 ((FP len kdZ).map kdF) S:=by
 refine⟨by simp,Ft _,by omega,.inr ⟨g,_,fun _ _=>0,rfl,h,hS,?_,?_,?_⟩⟩
 ·exact nS
 ·intro j r hr i f hi;rw[FC] at hr;obtain⟨x,hx,rfl⟩:=FJ.1 hr;have hj:j<len:=by have:=(Fm.1 hx).1;simpa using this
  obtain rfl:x=kdZ:=by
   exact fU
  have him:i<4:=(Fm.1 hi).1;have hlt:j*4+i<len*4:=af
  have hcell:(madeCells #[.string ⟨#[]⟩,.bool false,.bool false,.string ⟨#[]⟩] (len*4))[j*4+i]?=some (#[.string ⟨#[]⟩,.bool false,.bool false,.string ⟨#[]⟩][i]!):=by
   unfold madeCells;rw[Ho,Hk];rw[if_pos hlt];have:(j*4+i) % 4=i:=af
   simp[this]
  refine⟨_,hcell,?_⟩;rcases i with _|_|_|_|i
  ·cases hi;exact⟨rfl,by decide⟩
  ·cases hi;exact rfl
  ·cases hi;exact rfl
  ·cases hi;exact⟨rfl,by decide⟩
  ·omega
 ·intro j r i zs j' r' i' zs' hr hi hz;exfalso;rw[FC] at hr;obtain⟨x,hx,rfl⟩:=FJ.1 hr;obtain rfl:x=kdZ:=by
   exact fU
  have him:i<4:=(Fm.1 hi).1;rcases i with _|_|_|_|i
  ·cases hi
  ·cases hi
  ·cases hi
  ·cases hi
  ·omega

theorem uv (a:Option Addr) (len cap:Nat) (xs:List Kd) (w:World) (hr:aN w a len cap 4 (xs.map kdF)) (hl:len<=1048576):
  Calls Tryz.prog 25 #[.slice a len cap] w fun e w'=>e=.returned (.slice (some ⟨w.heap.size,0,none⟩) len len)/\az w' (some ⟨w.heap.size,0,none⟩) len len 4 102 (xs.map kdF) (fun k=>w.heap.size<=k)/\Below w.heap.size w w':=by
 obtain⟨HR,hvl⟩:=fQ;skip;clear hr;obtain⟨i0,hi,hz0,hz1,hz2⟩:=info_parts rv;go_enter Tryz.func25,Tryz.ntmps25;go_wp2_with (at_make;refine wpList_make_full _ rfl _ _ 31 rfl w.heap.size 102 i0 (.agg #[.string ⟨#[]⟩,.bool false,.bool false,.string ⟨#[]⟩]) 4 Tryz.underlying31 hi hz0 hz1 _ _ _ _ len rfl rfl af af gI cD (Ft _) ?_);intro w1 hown hgrow;obtain⟨hnx1,HB⟩:=nK;have hc1:w1.heap[w.heap.size]?=some (.cells (madeCells #[.string ⟨#[]⟩,.bool false,.bool false,.string ⟨#[]⟩] (len*4)) 102 (0,0)):=by
  obtain⟨h1,h2⟩:=hown;rcases h2 with ⟨h3,_⟩|⟨g',cap',cur,hv,hB,hh,_,_,hsz,htk⟩
  ·cases h3
  ·simp only[Value.slice.injEq,Gw,Addr.mk.injEq] at hv;obtain⟨⟨rfl,_,_⟩,_,rfl⟩:=hv;rw[FF (by simp[hsz])] at htk;have:cur=madeCells #[.string ⟨#[]⟩,.bool false,.bool false,.string ⟨#[]⟩] (len*4):=by apply Array.ext';simpa using htk
   rw[this] at hh;simpa using hh
 have HP:Hid (az w1 (some ⟨w.heap.size,0,none⟩) len len 4 102 ((xs.take 0++(FP len kdZ).drop 0).map kdF) (fun k=>w.heap.size<=k)):=by
  have:=DM hc1 hl (fun k=>w.heap.size<=k) (Ft _);simpa[Hid] using this
 have hZl:xs.length=(FP len kdZ).length:=by simpa using hvl
 clear hown hgrow hi hz0 hz1 hz2 hnx1 hc1;go_wp2;go_loopw [4] (fun i wr=> ∃k:Nat,k<=len/\i=.int .i64 k/\Hid (az wr (some ⟨w.heap.size,0,none⟩) len len 4 102 ((xs.take k++(FP len kdZ).drop k).map kdF) (fun k=>w.heap.size<=k))/\Hid (Below w.heap.size w wr)) (fun i _=>len - (intOf i).toNat);case atStart=>exact⟨0,by omega,rfl,HP,HB⟩
 case round=>
  obtain⟨k,hk,rfl,HP,HB⟩:=hrel;by_cases hlt:k<len
  ·obtain⟨b,o,v,rfl,hb,hv,hat⟩:=eW (HR.below HB.out) hlt;obtain⟨z0,z3,c0,c1,c2,c3⟩:=cf hat;have HV:=aa hv;have Hz0:=aa z0;have Hz3:=aa z3;clear hat hv z0 z3;have hzk:((xs.take k++(FP len kdZ).drop k).map kdF)[k]?=some (kdF kdZ):=by
    exact jU
   obtain⟨g,hg,hs⟩:=HP.st (aC.refl _ _) hzk;cases hg;have HS:=aa hs;clear hs hzk HP;go_wp2_with fail;refine (mS v.n v.x v.y v.z _).mono ?_;rintro e w2 ⟨rfl,hb2⟩;have HB2:=upB HB hb2;have h1:StJ w.heap.size 4 102 (fun k=>w.heap.size<=k) (fun k=>wr.heap.size<=k) wr w2 ((xs.take k++(FP len kdZ).drop k).map kdF) k [.s kdZ.n,.b kdZ.x,.b kdZ.y,.s kdZ.z]:=HS.fresh hb2;obtain⟨q0,e0⟩:=h1.cell (i:=0) rfl;have f0:=h1.cI (k*4);obtain⟨q1,e1⟩:=h1.cell (i:=1) rfl;have f1:=h1.cI (k*4+1);obtain⟨q2,e2⟩:=h1.cell (i:=2) rfl;have f2:=h1.cI (k*4+2);obtain⟨q3,e3⟩:=h1.cell (i:=3) rfl;have f3:=h1.cI (k*4+3);rw[G3] at e0;have HZ:=aa (((((h1).dt (i:=0) rfl v.n Hz0.out).jh (i:=1) rfl v.x).jh (i:=2) rfl v.y).dt (i:=3) rfl v.z Hz3.out);clear h1 hb2 c0 c1 c2 c3 hb;go_wp2_with fail;refine⟨⟨k+1,by omega,by go_num,?_,ah (Ft _) (ah (Ft _) (ah (Ft _) (ah (Ft _) (HB2.out))))⟩,by simp[intOf];omega⟩;obtain⟨⟨cur,H,h2,-⟩,-,-⟩:=HZ.out;have h3:(((xs.take k++(FP len kdZ).drop k).map kdF).set k (kdF v))=(xs.take (k+1)++(FP len kdZ).drop (k+1)).map kdF:=by
    rw[<-List.map_set,cF hZl HV.out]
   have h4:dK _ w.heap.size 4 102 (((xs.take k++(FP len kdZ).drop k).map kdF).set k (kdF v)) (fun k=>w.heap.size<=k) cur H:=h2;exact nT
  ·exact n_

def vdZ:Vd:=⟨⟨#[]⟩,0,⟨#[]⟩,⟨#[]⟩,false,⟨#[]⟩,false,[]⟩

theorem DJ {w:World} {g len:Nat} (h:w.heap[g]?=some (.cells (madeCells #[.string ⟨#[]⟩,.int .i64 0,.string ⟨#[]⟩,.string ⟨#[]⟩,.bool false,.string ⟨#[]⟩,.bool false,.slice none 0 0] (len*8)) 99 (0,0))) (hl:len<=1048576) (S:Nat->Prop) (hS:S g):
  az w (some ⟨g,0,none⟩) len len 8 99 ((FP len vdZ).map vdF) S:=by
 refine⟨by simp,Ft _,by omega,.inr ⟨g,_,fun _ _=>0,rfl,h,hS,?_,?_,?_⟩⟩
 ·exact nS
 ·intro j r hr i f hi;rw[FC] at hr;obtain⟨x,hx,rfl⟩:=FJ.1 hr;have hj:j<len:=by have:=(Fm.1 hx).1;simpa using this
  obtain rfl:x=vdZ:=by
   exact fU
  have him:i<8:=(Fm.1 hi).1;have hlt:j*8+i<len*8:=af
  have hcell:(madeCells #[.string ⟨#[]⟩,.int .i64 0,.string ⟨#[]⟩,.string ⟨#[]⟩,.bool false,.string ⟨#[]⟩,.bool false,.slice none 0 0] (len*8))[j*8+i]?=some (#[.string ⟨#[]⟩,.int .i64 0,.string ⟨#[]⟩,.string ⟨#[]⟩,.bool false,.string ⟨#[]⟩,.bool false,.slice none 0 0][i]!):=by
   unfold madeCells;rw[Ho,Hk];rw[if_pos hlt];have:(j*8+i) % 8=i:=af
   simp[this]
  refine⟨_,hcell,?_⟩;rcases i with _|_|_|_|_|_|_|_|i
  ·cases hi;exact⟨rfl,by decide⟩
  ·cases hi;exact rfl
  ·cases hi;exact⟨rfl,by decide⟩
  ·cases hi;exact⟨rfl,by decide⟩
  ·cases hi;exact rfl
  ·cases hi;exact⟨rfl,by decide⟩
  ·cases hi;exact rfl
  ·cases hi;exact⟨none,0,0,rfl,rfl,Ft _,by decide,fun j x hx=>by simp[vdZ] at hx,.inl rfl⟩
  ·omega
 ·intro j r i zs j' r' i' zs' hr hi hz;exfalso;rw[FC] at hr;obtain⟨x,hx,rfl⟩:=FJ.1 hr;obtain rfl:x=vdZ:=by
   exact fU
  have him:i<8:=(Fm.1 hi).1;rcases i with _|_|_|_|_|_|_|_|i
  ·cases hi
  ·cases hi
  ·cases hi
  ·cases hi
  ·cases hi
  ·cases hi
  ·cases hi
  ·cases hi;exact hz rfl
  ·omega

theorem uq (a:Option Addr) (len cap:Nat) (xs:List Vd) (w:World) (hr:aN w a len cap 8 (xs.map vdF)) (hl:len<=1048576) (hf:∀(j:Nat) x,xs[j]?=some x->x.zs.length<=1048576):
  Calls Tryz.prog 26 #[.slice a len cap] w fun e w'=>e=.returned (.slice (some ⟨w.heap.size,0,none⟩) len len)/\az w' (some ⟨w.heap.size,0,none⟩) len len 8 99 (xs.map vdF) (fun k=>w.heap.size<=k)/\Below w.heap.size w w':=by
 obtain⟨HR,hvl⟩:=fQ;have HF:=aa hf;clear hr hf;obtain⟨i0,hi,hz0,hz1,hz2⟩:=info_parts gi;go_enter Tryz.func26,Tryz.ntmps26;go_wp2_with (at_make;refine wpList_make_full _ rfl _ _ 32 rfl w.heap.size 99 i0 (.agg #[.string ⟨#[]⟩,.int .i64 0,.string ⟨#[]⟩,.string ⟨#[]⟩,.bool false,.string ⟨#[]⟩,.bool false,.slice none 0 0]) 8 Tryz.underlying32 hi hz0 hz1 _ _ _ _ len rfl rfl af af gI cD (Ft _) ?_);intro w1 hown hgrow;obtain⟨hnx1,HB⟩:=nK;have hc1:w1.heap[w.heap.size]?=some (.cells (madeCells #[.string ⟨#[]⟩,.int .i64 0,.string ⟨#[]⟩,.string ⟨#[]⟩,.bool false,.string ⟨#[]⟩,.bool false,.slice none 0 0] (len*8)) 99 (0,0)):=by
  obtain⟨h1,h2⟩:=hown;rcases h2 with ⟨h3,_⟩|⟨g',cap',cur,hv,hB,hh,_,_,hsz,htk⟩
  ·cases h3
  ·simp only[Value.slice.injEq,Gw,Addr.mk.injEq] at hv;obtain⟨⟨rfl,_,_⟩,_,rfl⟩:=hv;rw[FF (by simp[hsz])] at htk;have:cur=madeCells #[.string ⟨#[]⟩,.int .i64 0,.string ⟨#[]⟩,.string ⟨#[]⟩,.bool false,.string ⟨#[]⟩,.bool false,.slice none 0 0] (len*8):=by apply Array.ext';simpa using htk
   rw[this] at hh;simpa using hh
 have HP:Hid (az w1 (some ⟨w.heap.size,0,none⟩) len len 8 99 ((xs.take 0++(FP len vdZ).drop 0).map vdF) (fun k=>w.heap.size<=k)):=by
  have:=DJ hc1 hl (fun k=>w.heap.size<=k) (Ft _);simpa[Hid] using this
 have hZl:xs.length=(FP len vdZ).length:=by simpa using hvl
 clear hown hgrow hi hz0 hz1 hz2 hnx1 hc1;go_wp2;go_loopw [4] (fun i wr=> ∃k:Nat,k<=len/\i=.int .i64 k/\Hid (az wr (some ⟨w.heap.size,0,none⟩) len len 8 99 ((xs.take k++(FP len vdZ).drop k).map vdF) (fun k=>w.heap.size<=k))/\Hid (Below w.heap.size w wr)) (fun i _=>len - (intOf i).toNat);case atStart=>exact⟨0,by omega,rfl,HP,HB⟩
 case round=>
  obtain⟨k,hk,rfl,HP,HB⟩:=hrel;by_cases hlt:k<len
  ·obtain⟨b,o,v,rfl,hb,hv,hat⟩:=bN (HR.below HB.out) hlt;obtain⟨va,vl,vc,hvr,z0,z2,z3,z5,c0,c1,c2,c3,c4,c5,c6,c7⟩:=aK hat;have HV:=aa hv;have Hz0:=aa z0;have Hz2:=aa z2;have Hz3:=aa z3;have Hz5:=aa z5;obtain⟨HT,hvl2,hvz,HVZ⟩:=vd;clear hvr hvz;clear hat hv z0 z2 z3 z5;have hzk:((xs.take k++(FP len vdZ).drop k).map vdF)[k]?=some (vdF vdZ):=by
    exact jU
   obtain⟨g,hg,hs⟩:=HP.st (aC.refl _ _) hzk;cases hg;have HS:=aa hs;clear hs hzk HP;go_wp2_with fail;refine (lM v.n v.c v.z v.k v.x v.m v.y va vl vc v.zs _ HT.out hvl2).mono ?_;rintro e w2 ⟨rfl,hG,hb2⟩;have HB2:=upB HB hb2;have h1:StJ w.heap.size 8 99 (fun k=>w.heap.size<=k) (fun k=>wr.heap.size<=k) wr w2 ((xs.take k++(FP len vdZ).drop k).map vdF) k [.s vdZ.n,.i vdZ.c,.s vdZ.z,.s vdZ.k,.b vdZ.x,.s vdZ.m,.b vdZ.y,.l vdZ.zs]:=HS.fresh hb2;have hL:oY w2 (wr.heap.size+1+1+1) (fun k=>w.heap.size<=k) w.heap.size v.zs (.slice (some ⟨wr.heap.size+1+1+1,0,none⟩) vl vl):=by
    exact qh
   have HL:=aa hL;clear hG hL;obtain⟨q0,e0⟩:=h1.cell (i:=0) rfl;have f0:=h1.cI (k*8);obtain⟨q1,e1⟩:=h1.cell (i:=1) rfl;have f1:=h1.cI (k*8+1);obtain⟨q2,e2⟩:=h1.cell (i:=2) rfl;have f2:=h1.cI (k*8+2);obtain⟨q3,e3⟩:=h1.cell (i:=3) rfl;have f3:=h1.cI (k*8+3);obtain⟨q4,e4⟩:=h1.cell (i:=4) rfl;have f4:=h1.cI (k*8+4);obtain⟨q5,e5⟩:=h1.cell (i:=5) rfl;have f5:=h1.cI (k*8+5);obtain⟨q6,e6⟩:=h1.cell (i:=6) rfl;have f6:=h1.cI (k*8+6);obtain⟨q7,e7⟩:=h1.cell (i:=7) rfl;have f7:=h1.cI (k*8+7);rw[G3] at e0;have HZ:=aa (((((((((h1).dt (i:=0) rfl v.n Hz0.out).iu (i:=1) rfl v.c).dt (i:=2) rfl v.z Hz2.out).dt (i:=3) rfl v.k Hz3.out).jh (i:=4) rfl v.x).dt (i:=5) rfl v.m Hz5.out).jh (i:=6) rfl v.y).De (i:=7) rfl v.zs (fun _=>by show wr.heap.size<=_;omega) (Fv.Own.bD (u:=.l v.zs) (Fv.Own.bD (u:=.l v.zs) (Fv.Own.bD (u:=.l v.zs) (Fv.Own.bD (u:=.l v.zs) (Fv.Own.bD (u:=.l v.zs) (Fv.Own.bD (u:=.l v.zs) (Fv.Own.bD (u:=.l v.zs) (HL.out)))))))));clear h1 hb2 c0 c1 c2 c3 c4 c5 c6 c7 hb;go_wp2_with fail;refine⟨⟨k+1,by omega,by go_num,?_,ah (Ft _) (ah (Ft _) (ah (Ft _) (ah (Ft _) (ah (Ft _) (ah (Ft _) (ah (Ft _) (ah (Ft _) (HB2.out))))))))⟩,by simp[intOf];omega⟩;obtain⟨⟨cur,H,h2,-⟩,-,-⟩:=HZ.out;have h3:(((xs.take k++(FP len vdZ).drop k).map vdF).set k (vdF v))=(xs.take (k+1)++(FP len vdZ).drop (k+1)).map vdF:=by
    rw[<-List.map_set,cF hZl HV.out]
   have h4:dK _ w.heap.size 8 99 (((xs.take k++(FP len vdZ).drop k).map vdF).set k (vdF v)) (fun k=>w.heap.size<=k) cur H:=h2;exact nT
  ·exact n_

def xdZ:Xd:=⟨⟨#[]⟩,0,⟨#[]⟩,false,⟨#[]⟩⟩

theorem DI {w:World} {g len:Nat} (h:w.heap[g]?=some (.cells (madeCells #[.string ⟨#[]⟩,.int .i64 0,.string ⟨#[]⟩,.bool false,.string ⟨#[]⟩] (len*5)) 105 (0,0))) (hl:len<=1048576) (S:Nat->Prop) (hS:S g):
  az w (some ⟨g,0,none⟩) len len 5 105 ((FP len xdZ).map xdF) S:=by
 refine⟨by simp,Ft _,by omega,.inr ⟨g,_,fun _ _=>0,rfl,h,hS,?_,?_,?_⟩⟩
 ·exact nS
 ·intro j r hr i f hi;rw[FC] at hr;obtain⟨x,hx,rfl⟩:=FJ.1 hr;have hj:j<len:=by have:=(Fm.1 hx).1;simpa using this
  obtain rfl:x=xdZ:=by
   exact fU
  have him:i<5:=(Fm.1 hi).1;have hlt:j*5+i<len*5:=af
  have hcell:(madeCells #[.string ⟨#[]⟩,.int .i64 0,.string ⟨#[]⟩,.bool false,.string ⟨#[]⟩] (len*5))[j*5+i]?=some (#[.string ⟨#[]⟩,.int .i64 0,.string ⟨#[]⟩,.bool false,.string ⟨#[]⟩][i]!):=by
   unfold madeCells;rw[Ho,Hk];rw[if_pos hlt];have:(j*5+i) % 5=i:=af
   simp[this]
  refine⟨_,hcell,?_⟩;rcases i with _|_|_|_|_|i
  ·cases hi;exact⟨rfl,by decide⟩
  ·cases hi;exact rfl
  ·cases hi;exact⟨rfl,by decide⟩
  ·cases hi;exact rfl
  ·cases hi;exact⟨rfl,by decide⟩
  ·omega
 ·intro j r i zs j' r' i' zs' hr hi hz;exfalso;rw[FC] at hr;obtain⟨x,hx,rfl⟩:=FJ.1 hr;obtain rfl:x=xdZ:=by
   exact fU
  have him:i<5:=(Fm.1 hi).1;rcases i with _|_|_|_|_|i
  ·cases hi
  ·cases hi
  ·cases hi
  ·cases hi
  ·cases hi
  ·omega

theorem uo (a:Option Addr) (len cap:Nat) (xs:List Xd) (w:World) (hr:aN w a len cap 5 (xs.map xdF)) (hl:len<=1048576):
  Calls Tryz.prog 27 #[.slice a len cap] w fun e w'=>e=.returned (.slice (some ⟨w.heap.size,0,none⟩) len len)/\az w' (some ⟨w.heap.size,0,none⟩) len len 5 105 (xs.map xdF) (fun k=>w.heap.size<=k)/\Below w.heap.size w w':=by
 obtain⟨HR,hvl⟩:=fQ;skip;clear hr;obtain⟨i0,hi,hz0,hz1,hz2⟩:=info_parts iJ;go_enter Tryz.func27,Tryz.ntmps27;go_wp2_with (at_make;refine wpList_make_full _ rfl _ _ 33 rfl w.heap.size 105 i0 (.agg #[.string ⟨#[]⟩,.int .i64 0,.string ⟨#[]⟩,.bool false,.string ⟨#[]⟩]) 5 Tryz.underlying33 hi hz0 hz1 _ _ _ _ len rfl rfl af af gI cD (Ft _) ?_);intro w1 hown hgrow;obtain⟨hnx1,HB⟩:=nK;have hc1:w1.heap[w.heap.size]?=some (.cells (madeCells #[.string ⟨#[]⟩,.int .i64 0,.string ⟨#[]⟩,.bool false,.string ⟨#[]⟩] (len*5)) 105 (0,0)):=by
  obtain⟨h1,h2⟩:=hown;rcases h2 with ⟨h3,_⟩|⟨g',cap',cur,hv,hB,hh,_,_,hsz,htk⟩
  ·cases h3
  ·simp only[Value.slice.injEq,Gw,Addr.mk.injEq] at hv;obtain⟨⟨rfl,_,_⟩,_,rfl⟩:=hv;rw[FF (by simp[hsz])] at htk;have:cur=madeCells #[.string ⟨#[]⟩,.int .i64 0,.string ⟨#[]⟩,.bool false,.string ⟨#[]⟩] (len*5):=by apply Array.ext';simpa using htk
   rw[this] at hh;simpa using hh
 have HP:Hid (az w1 (some ⟨w.heap.size,0,none⟩) len len 5 105 ((xs.take 0++(FP len xdZ).drop 0).map xdF) (fun k=>w.heap.size<=k)):=by
  have:=DI hc1 hl (fun k=>w.heap.size<=k) (Ft _);simpa[Hid] using this
 have hZl:xs.length=(FP len xdZ).length:=by simpa using hvl
 clear hown hgrow hi hz0 hz1 hz2 hnx1 hc1;go_wp2;go_loopw [4] (fun i wr=> ∃k:Nat,k<=len/\i=.int .i64 k/\Hid (az wr (some ⟨w.heap.size,0,none⟩) len len 5 105 ((xs.take k++(FP len xdZ).drop k).map xdF) (fun k=>w.heap.size<=k))/\Hid (Below w.heap.size w wr)) (fun i _=>len - (intOf i).toNat);case atStart=>exact⟨0,by omega,rfl,HP,HB⟩
 case round=>
  obtain⟨k,hk,rfl,HP,HB⟩:=hrel;by_cases hlt:k<len
  ·obtain⟨b,o,v,rfl,hb,hv,hat⟩:=dF (HR.below HB.out) hlt;obtain⟨z0,z2,z4,c0,c1,c2,c3,c4⟩:=bw hat;have HV:=aa hv;have Hz0:=aa z0;have Hz2:=aa z2;have Hz4:=aa z4;clear hat hv z0 z2 z4;have hzk:((xs.take k++(FP len xdZ).drop k).map xdF)[k]?=some (xdF xdZ):=by
    exact jU
   obtain⟨g,hg,hs⟩:=HP.st (aC.refl _ _) hzk;cases hg;have HS:=aa hs;clear hs hzk HP;go_wp2_with fail;refine (mT v.n v.z v.k v.x v.v _).mono ?_;rintro e w2 ⟨rfl,hb2⟩;have HB2:=upB HB hb2;have h1:StJ w.heap.size 5 105 (fun k=>w.heap.size<=k) (fun k=>wr.heap.size<=k) wr w2 ((xs.take k++(FP len xdZ).drop k).map xdF) k [.s xdZ.n,.i xdZ.z,.s xdZ.k,.b xdZ.x,.s xdZ.v]:=HS.fresh hb2;obtain⟨q0,e0⟩:=h1.cell (i:=0) rfl;have f0:=h1.cI (k*5);obtain⟨q1,e1⟩:=h1.cell (i:=1) rfl;have f1:=h1.cI (k*5+1);obtain⟨q2,e2⟩:=h1.cell (i:=2) rfl;have f2:=h1.cI (k*5+2);obtain⟨q3,e3⟩:=h1.cell (i:=3) rfl;have f3:=h1.cI (k*5+3);obtain⟨q4,e4⟩:=h1.cell (i:=4) rfl;have f4:=h1.cI (k*5+4);rw[G3] at e0;have HZ:=aa ((((((h1).dt (i:=0) rfl v.n Hz0.out).iu (i:=1) rfl v.z).dt (i:=2) rfl v.k Hz2.out).jh (i:=3) rfl v.x).dt (i:=4) rfl v.v Hz4.out);clear h1 hb2 c0 c1 c2 c3 c4 hb;go_wp2_with fail;refine⟨⟨k+1,by omega,by go_num,?_,ah (Ft _) (ah (Ft _) (ah (Ft _) (ah (Ft _) (ah (Ft _) (HB2.out)))))⟩,by simp[intOf];omega⟩;obtain⟨⟨cur,H,h2,-⟩,-,-⟩:=HZ.out;have h3:(((xs.take k++(FP len xdZ).drop k).map xdF).set k (xdF v))=(xs.take (k+1)++(FP len xdZ).drop (k+1)).map xdF:=by
    rw[<-List.map_set,cF hZl HV.out]
   have h4:dK _ w.heap.size 5 105 (((xs.take k++(FP len xdZ).drop k).map xdF).set k (xdF v)) (fun k=>w.heap.size<=k) cur H:=h2;exact nT
  ·exact n_

def pdZ:Pd:=⟨⟨#[]⟩,0,⟨#[]⟩,[],⟨#[]⟩,0⟩

theorem DK {w:World} {g len:Nat} (h:w.heap[g]?=some (.cells (madeCells #[.string ⟨#[]⟩,.int .i64 0,.string ⟨#[]⟩,.slice none 0 0,.string ⟨#[]⟩,.int .i64 0] (len*6)) 64 (0,0))) (hl:len<=1048576) (S:Nat->Prop) (hS:S g):
  az w (some ⟨g,0,none⟩) len len 6 64 ((FP len pdZ).map pdF) S:=by
 refine⟨by simp,Ft _,by omega,.inr ⟨g,_,fun _ _=>0,rfl,h,hS,?_,?_,?_⟩⟩
 ·exact nS
 ·intro j r hr i f hi;rw[FC] at hr;obtain⟨x,hx,rfl⟩:=FJ.1 hr;have hj:j<len:=by have:=(Fm.1 hx).1;simpa using this
  obtain rfl:x=pdZ:=by
   exact fU
  have him:i<6:=(Fm.1 hi).1;have hlt:j*6+i<len*6:=af
  have hcell:(madeCells #[.string ⟨#[]⟩,.int .i64 0,.string ⟨#[]⟩,.slice none 0 0,.string ⟨#[]⟩,.int .i64 0] (len*6))[j*6+i]?=some (#[.string ⟨#[]⟩,.int .i64 0,.string ⟨#[]⟩,.slice none 0 0,.string ⟨#[]⟩,.int .i64 0][i]!):=by
   unfold madeCells;rw[Ho,Hk];rw[if_pos hlt];have:(j*6+i) % 6=i:=af
   simp[this]
  refine⟨_,hcell,?_⟩;rcases i with _|_|_|_|_|_|i
  ·cases hi;exact⟨rfl,by decide⟩
  ·cases hi;exact rfl
  ·cases hi;exact⟨rfl,by decide⟩
  ·cases hi;exact⟨none,0,0,rfl,rfl,Ft _,by decide,fun j x hx=>by simp[pdZ] at hx,.inl rfl⟩
  ·cases hi;exact⟨rfl,by decide⟩
  ·cases hi;exact rfl
  ·omega
 ·intro j r i zs j' r' i' zs' hr hi hz;exfalso;rw[FC] at hr;obtain⟨x,hx,rfl⟩:=FJ.1 hr;obtain rfl:x=pdZ:=by
   exact fU
  have him:i<6:=(Fm.1 hi).1;rcases i with _|_|_|_|_|_|i
  ·cases hi
  ·cases hi
  ·cases hi
  ·cases hi;exact hz rfl
  ·cases hi
  ·cases hi
  ·omega

theorem ur (a:Option Addr) (len cap:Nat) (xs:List Pd) (w:World) (hr:aN w a len cap 6 (xs.map pdF)) (hl:len<=1048576) (hf:∀(j:Nat) x,xs[j]?=some x->x.zs.length<=1048576):
  Calls Tryz.prog 28 #[.slice a len cap] w fun e w'=>e=.returned (.slice (some ⟨w.heap.size,0,none⟩) len len)/\az w' (some ⟨w.heap.size,0,none⟩) len len 6 64 (xs.map pdF) (fun k=>w.heap.size<=k)/\Below w.heap.size w w':=by
 obtain⟨HR,hvl⟩:=fQ;have HF:=aa hf;clear hr hf;obtain⟨i0,hi,hz0,hz1,hz2⟩:=info_parts iK;go_enter Tryz.func28,Tryz.ntmps28;go_wp2_with (at_make;refine wpList_make_full _ rfl _ _ 34 rfl w.heap.size 64 i0 (.agg #[.string ⟨#[]⟩,.int .i64 0,.string ⟨#[]⟩,.slice none 0 0,.string ⟨#[]⟩,.int .i64 0]) 6 Tryz.underlying34 hi hz0 hz1 _ _ _ _ len rfl rfl af af gI cD (Ft _) ?_);intro w1 hown hgrow;obtain⟨hnx1,HB⟩:=nK;have hc1:w1.heap[w.heap.size]?=some (.cells (madeCells #[.string ⟨#[]⟩,.int .i64 0,.string ⟨#[]⟩,.slice none 0 0,.string ⟨#[]⟩,.int .i64 0] (len*6)) 64 (0,0)):=by
  obtain⟨h1,h2⟩:=hown;rcases h2 with ⟨h3,_⟩|⟨g',cap',cur,hv,hB,hh,_,_,hsz,htk⟩
  ·cases h3
  ·simp only[Value.slice.injEq,Gw,Addr.mk.injEq] at hv;obtain⟨⟨rfl,_,_⟩,_,rfl⟩:=hv;rw[FF (by simp[hsz])] at htk;have:cur=madeCells #[.string ⟨#[]⟩,.int .i64 0,.string ⟨#[]⟩,.slice none 0 0,.string ⟨#[]⟩,.int .i64 0] (len*6):=by apply Array.ext';simpa using htk
   rw[this] at hh;simpa using hh
 have HP:Hid (az w1 (some ⟨w.heap.size,0,none⟩) len len 6 64 ((xs.take 0++(FP len pdZ).drop 0).map pdF) (fun k=>w.heap.size<=k)):=by
  have:=DK hc1 hl (fun k=>w.heap.size<=k) (Ft _);simpa[Hid] using this
 have hZl:xs.length=(FP len pdZ).length:=by simpa using hvl
 clear hown hgrow hi hz0 hz1 hz2 hnx1 hc1;go_wp2;go_loopw [4] (fun i wr=> ∃k:Nat,k<=len/\i=.int .i64 k/\Hid (az wr (some ⟨w.heap.size,0,none⟩) len len 6 64 ((xs.take k++(FP len pdZ).drop k).map pdF) (fun k=>w.heap.size<=k))/\Hid (Below w.heap.size w wr)) (fun i _=>len - (intOf i).toNat);case atStart=>exact⟨0,by omega,rfl,HP,HB⟩
 case round=>
  obtain⟨k,hk,rfl,HP,HB⟩:=hrel;by_cases hlt:k<len
  ·obtain⟨b,o,v,rfl,hb,hv,hat⟩:=bY (HR.below HB.out) hlt;obtain⟨va,vl,vc,hvr,z0,z2,z4,c0,c1,c2,c3,c4,c5⟩:=aT hat;have HV:=aa hv;have Hz0:=aa z0;have Hz2:=aa z2;have Hz4:=aa z4;obtain⟨HT,hvl2,hvz,HVZ⟩:=vd;clear hvr hvz;clear hat hv z0 z2 z4;have hzk:((xs.take k++(FP len pdZ).drop k).map pdF)[k]?=some (pdF pdZ):=by
    exact jU
   obtain⟨g,hg,hs⟩:=HP.st (aC.refl _ _) hzk;cases hg;have HS:=aa hs;clear hs hzk HP;go_wp2_with fail;refine (td v.n v.c v.z va vl vc v.zs v.d v.p _ HT.out hvl2).mono ?_;rintro e w2 ⟨rfl,hG,hb2⟩;have HB2:=upB HB hb2;have h1:StJ w.heap.size 6 64 (fun k=>w.heap.size<=k) (fun k=>wr.heap.size<=k) wr w2 ((xs.take k++(FP len pdZ).drop k).map pdF) k [.s pdZ.n,.i pdZ.c,.s pdZ.z,.l pdZ.zs,.s pdZ.d,.i pdZ.p]:=HS.fresh hb2;have hL:oY w2 (wr.heap.size+1+1+1) (fun k=>w.heap.size<=k) w.heap.size v.zs (.slice (some ⟨wr.heap.size+1+1+1,0,none⟩) vl vl):=by
    exact qh
   have HL:=aa hL;clear hG hL;obtain⟨q0,e0⟩:=h1.cell (i:=0) rfl;have f0:=h1.cI (k*6);obtain⟨q1,e1⟩:=h1.cell (i:=1) rfl;have f1:=h1.cI (k*6+1);obtain⟨q2,e2⟩:=h1.cell (i:=2) rfl;have f2:=h1.cI (k*6+2);obtain⟨q3,e3⟩:=h1.cell (i:=3) rfl;have f3:=h1.cI (k*6+3);obtain⟨q4,e4⟩:=h1.cell (i:=4) rfl;have f4:=h1.cI (k*6+4);obtain⟨q5,e5⟩:=h1.cell (i:=5) rfl;have f5:=h1.cI (k*6+5);rw[G3] at e0;have HZ:=aa (((((((h1).dt (i:=0) rfl v.n Hz0.out).iu (i:=1) rfl v.c).dt (i:=2) rfl v.z Hz2.out).De (i:=3) rfl v.zs (fun _=>by show wr.heap.size<=_;omega) (Fv.Own.bD (u:=.l v.zs) (Fv.Own.bD (u:=.l v.zs) (Fv.Own.bD (u:=.l v.zs) (HL.out))))).dt (i:=4) rfl v.d Hz4.out).iu (i:=5) rfl v.p);clear h1 hb2 c0 c1 c2 c3 c4 c5 hb;go_wp2_with fail;refine⟨⟨k+1,by omega,by go_num,?_,ah (Ft _) (ah (Ft _) (ah (Ft _) (ah (Ft _) (ah (Ft _) (ah (Ft _) (HB2.out))))))⟩,by simp[intOf];omega⟩;obtain⟨⟨cur,H,h2,-⟩,-,-⟩:=HZ.out;have h3:(((xs.take k++(FP len pdZ).drop k).map pdF).set k (pdF v))=(xs.take (k+1)++(FP len pdZ).drop (k+1)).map pdF:=by
    rw[<-List.map_set,cF hZl HV.out]
   have h4:dK _ w.heap.size 6 64 (((xs.take k++(FP len pdZ).drop k).map pdF).set k (pdF v)) (fun k=>w.heap.size<=k) cur H:=h2;exact nT
  ·exact n_

structure kA (c:Cl):Prop where
 l1:c.ns.length<=1048576
 f1:∀(j:Nat) x,c.ns[j]?=some x->x.zs.length<=1048576
 l2:c.ks.length<=1048576
 l3:c.vs.length<=1048576
 f3:∀(j:Nat) x,c.vs[j]?=some x->x.zs.length<=1048576
 l4:c.xs.length<=1048576
 l5:c.ps.length<=1048576
 f5:∀(j:Nat) x,c.ps[j]?=some x->x.zs.length<=1048576

theorem kG (d:Ad) (c:Cl) (w:World) (hr:aJ w d c.raw):
  Calls Tryz.prog 5 #[.agg #[.slice d.a1 d.l1 d.c1,.slice d.a2 d.l2 d.c2,.slice d.a3 d.l3 d.c3,.slice d.a4 d.l4 d.c4,.slice d.a5 d.l5 d.c5,.int .i64 c.now],.int .i64 1048576] w (SzB 1048576 (kA c) w):=by
 obtain⟨HR,HB⟩:=gK;clear hr;go_enter Tryz.func5,Tryz.ntmps5;go_wp2_with fail;refine (uz d.a1 d.l1 d.c1 c.ns 1048576 _ (HR.n.below (HB.trans ((al _ _).mono HB.size))) af af).mono ?_;rintro e w1 ⟨r1,rfl,hi,hb⟩;obtain⟨HA0,hbx⟩:=aL hb;have Bk:=aa HA0;replace HB:=upB HB hbx;clear hb hbx HA0;rcases hi with rfl|⟨hr10,hr11,hz1⟩
 ·exact nP
 have HZ1:=aa hz1;clear hz1;obtain⟨k0,k1,k2,k3,k4,k5⟩:=cs6 Bk;go_wp2_with fail;refine (uA d.a2 d.l2 d.c2 c.ks r1 _ (HR.k.below HB.out) af af).mono ?_;rintro e w2 ⟨r2,rfl,hi,hb⟩;clear k0 k1 k2 k3 k4 k5;replace Bk:=upK Bk hb;replace HB:=upB HB hb;clear hb;rcases hi with rfl|⟨hr20,hr21,hz2⟩
 ·exact nP
 have HZ2:=aa hz2;clear hz2;obtain⟨k0,k1,k2,k3,k4,k5⟩:=cs6 Bk;go_wp2_with fail;refine (ux d.a3 d.l3 d.c3 c.vs r2 _ (HR.v.below HB.out) af af).mono ?_;rintro e w3 ⟨r3,rfl,hi,hb⟩;clear k0 k1 k2 k3 k4 k5;replace Bk:=upK Bk hb;replace HB:=upB HB hb;clear hb;rcases hi with rfl|⟨hr30,hr31,hz3⟩
 ·exact nP
 have HZ3:=aa hz3;clear hz3;obtain⟨k0,k1,k2,k3,k4,k5⟩:=cs6 Bk;go_wp2_with fail;refine (uw d.a4 d.l4 d.c4 c.xs r3 _ (HR.x.below HB.out) af af).mono ?_;rintro e w4 ⟨r4,rfl,hi,hb⟩;clear k0 k1 k2 k3 k4 k5;replace Bk:=upK Bk hb;replace HB:=upB HB hb;clear hb;rcases hi with rfl|⟨hr40,hr41,hz4⟩
 ·exact nP
 have HZ4:=aa hz4;clear hz4;obtain⟨k0,k1,k2,k3,k4,k5⟩:=cs6 Bk;go_wp2_with fail;refine (uy d.a5 d.l5 d.c5 c.ps r4 _ (HR.p.below HB.out) af af).mono ?_;rintro e w5 ⟨r5,rfl,hi,hb⟩;clear k0 k1 k2 k3 k4 k5;replace Bk:=upK Bk hb;replace HB:=upB HB hb;clear hb;rcases hi with rfl|⟨hr50,hr51,hz5⟩
 ·exact nP
 have HZ5:=aa hz5;clear hz5;go_wp2;go_ret;refine⟨r5,rfl,.inr ⟨by omega,by omega,?_⟩,HB.out⟩;have e1:c.ns.length=d.l1:=by simpa using (show (c.ns.map ndF).length=d.l1 from HR.n.1)
 have e2:c.ks.length=d.l2:=by simpa using (show (c.ks.map kdF).length=d.l2 from HR.k.1)
 have e3:c.vs.length=d.l3:=by simpa using (show (c.vs.map vdF).length=d.l3 from HR.v.1)
 have e4:c.xs.length=d.l4:=by simpa using (show (c.xs.map xdF).length=d.l4 from HR.x.1)
 have e5:c.ps.length=d.l5:=by simpa using (show (c.ps.map pdF).length=d.l5 from HR.p.1)
 exact⟨by rw[e1];exact HZ1.1,HZ1.2,by rw[e2];exact HZ2.out,by rw[e3];exact HZ3.1,HZ3.2,by rw[e4];exact HZ4.out,by rw[e5];exact HZ5.1,HZ5.2⟩

theorem dB (d:Ad) (c:Cl) (w:World) (hr:aJ w d c.raw) (hf:kA c):
  Calls Tryz.prog 7 #[.agg #[.slice d.a1 d.l1 d.c1,.slice d.a2 d.l2 d.c2,.slice d.a3 d.l3 d.c3,.slice d.a4 d.l4 d.c4,.slice d.a5 d.l5 d.c5,.int .i64 c.now]] w fun e w'=> ∃d':Ad,e=.returned (.agg #[.slice d'.a1 d'.l1 d'.c1,.slice d'.a2 d'.l2 d'.c2,.slice d'.a3 d'.l3 d'.c3,.slice d'.a4 d'.l4 d'.c4,.slice d'.a5 d'.l5 d'.c5,.int .i64 c.now])/\bQ w' d' c.raw (fun k=>w.heap.size<=k)/\Below w.heap.size w w':=by
 have HR:=aa hr;have HF:=aa hf;have e1:c.ns.length=d.l1:=uU
 have hL1:d.l1<=1048576:=by rw[<-e1];exact hf.l1
 have e2:c.ks.length=d.l2:=by simpa using (show (c.ks.map kdF).length=d.l2 from hr.k.1)
 have hL2:d.l2<=1048576:=by rw[<-e2];exact hf.l2
 have e3:c.vs.length=d.l3:=by simpa using (show (c.vs.map vdF).length=d.l3 from hr.v.1)
 have hL3:d.l3<=1048576:=by rw[<-e3];exact hf.l3
 have e4:c.xs.length=d.l4:=by simpa using (show (c.xs.map xdF).length=d.l4 from hr.x.1)
 have hL4:d.l4<=1048576:=by rw[<-e4];exact hf.l4
 have e5:c.ps.length=d.l5:=by simpa using (show (c.ps.map pdF).length=d.l5 from hr.p.1)
 have hL5:d.l5<=1048576:=by rw[<-e5];exact hf.l5
 clear hr hf e1 e2 e3 e4 e5;obtain⟨X0,hX0⟩:∃X,X=((w.alloc (.cells (clv d c.now) 28)).alloc (.cells (clo6 none 0 0 none 0 0 none 0 0 none 0 0 none 0 0 0) 36)).alloc (.cells (clo6 none 0 0 none 0 0 none 0 0 none 0 0 none 0 0 0) 36):=⟨_,rfl⟩;have B0:Hid (Below w.heap.size w X0):=by rw[hX0];exact bI _ _ _ _
 have bx0:Hid (X0.heap[w.heap.size]?=some (.cells (clv d c.now) 28 (0,0))):=by rw[hX0];exact fF _ _ _ _
 have br0:Hid (X0.heap[w.heap.size+1]?=some (.cells (clo6 none 0 0 none 0 0 none 0 0 none 0 0 none 0 0 0) 36 (0,0))):=by rw[hX0];exact dC _ _ _ _
 have bl0:Hid (X0.heap[w.heap.size+1+1]?=some (.cells (clo6 none 0 0 none 0 0 none 0 0 none 0 0 none 0 0 0) 36 (0,0))):=by rw[hX0];exact cS _ _ _ _
 have hs0:=ae bl0.out;go_enter Tryz.func7,Tryz.ntmps7;go_wp2_with fail;rw[<-hX0];clear hX0;refine (uu d.a1 d.l1 d.c1 c.ns _ (HR.n.below B0.out) hL1 HF.f1).mono ?_;rintro e w1 ⟨rfl,ho,hb⟩;have hsz1:=hb.size;have gx:=(hb.block _ (ae bx0.out)).trans bx0.out;have gr:=(hb.block _ (ae br0.out)).trans br0.out;have gl:=(hb.block _ (ae bl0.out)).trans bl0.out;have gB:=B0.trans (hb.mono B0.size);have P1:=aa ho;clear ho hb bx0 br0 bl0 B0;have pl:=ck0 gl;have fl:=av gl 0;have px:=ck1 gx;obtain⟨X1,hX1⟩:∃X,X=w1.setCell ⟨w.heap.size+1+1,0,none⟩ (.slice (some ⟨X0.heap.size,0,none⟩) d.l1 d.l1):=⟨_,rfl⟩;have hxa1:X1.heap.size<=w1.heap.size:=by rw[hX1];simp[Gf]
 have hxb1:w1.heap.size<=X1.heap.size:=by rw[hX1];simp[Gf]
 have bx1:Hid (X1.heap[w.heap.size]?=some (.cells (clv d c.now) 28 (0,0))):=by rw[hX1];exact aV af gx
 have br1:Hid (X1.heap[w.heap.size+1]?=some (.cells (clo6 none 0 0 none 0 0 none 0 0 none 0 0 none 0 0 0) 36 (0,0))):=by rw[hX1];exact aV af gr
 have bl1:Hid (X1.heap[w.heap.size+1+1]?=some (.cells (clo6 (some ⟨X0.heap.size,0,none⟩) d.l1 d.l1 none 0 0 none 0 0 none 0 0 none 0 0 0) 36 (0,0))):=by rw[hX1];have:=aA (i:=0) gl (.slice (some ⟨X0.heap.size,0,none⟩) d.l1 d.l1);simpa[Hid] using this
 have B1:Hid (Below w.heap.size w X1):=by rw[hX1];exact ah af gB
 have O1:=aa (P1.aM (w':=X1) (fun k hk s=>by rw[hX1];exact Fp _ _ _ _ (show k≠w.heap.size+1+1 by have h9:X0.heap.size<=k:=s;omega)) (fun k hk s=>(⟨s,hk⟩:X0.heap.size<=k/\k<w1.heap.size)));clear gx gr gl gB P1;go_wp2_with fail;rw[<-hX1];clear hX1;clear pl fl px;refine (uv d.a2 d.l2 d.c2 c.ks _ (HR.k.below B1.out) hL2).mono ?_;rintro e w2 ⟨rfl,ho,hb⟩;have hsz2:=hb.size;have gx:=(hb.block _ (ae bx1.out)).trans bx1.out;have gr:=(hb.block _ (ae br1.out)).trans br1.out;have gl:=(hb.block _ (ae bl1.out)).trans bl1.out;have gB:=B1.trans (hb.mono B1.size);have P2:=aa ho;have Q1:=aa (O1.below hb);clear ho hb bx1 br1 bl1 B1 O1;have pl:=ck1 gl;have fl:=av gl 1;have px:=ck2 gx;obtain⟨X2,hX2⟩:∃X,X=w2.setCell ⟨w.heap.size+1+1,1,none⟩ (.slice (some ⟨X1.heap.size,0,none⟩) d.l2 d.l2):=⟨_,rfl⟩;have hxa2:X2.heap.size<=w2.heap.size:=by rw[hX2];simp[Gf]
 have hxb2:w2.heap.size<=X2.heap.size:=by rw[hX2];simp[Gf]
 have bx2:Hid (X2.heap[w.heap.size]?=some (.cells (clv d c.now) 28 (0,0))):=by rw[hX2];exact aV af gx
 have br2:Hid (X2.heap[w.heap.size+1]?=some (.cells (clo6 none 0 0 none 0 0 none 0 0 none 0 0 none 0 0 0) 36 (0,0))):=by rw[hX2];exact aV af gr
 have bl2:Hid (X2.heap[w.heap.size+1+1]?=some (.cells (clo6 (some ⟨X0.heap.size,0,none⟩) d.l1 d.l1 (some ⟨X1.heap.size,0,none⟩) d.l2 d.l2 none 0 0 none 0 0 none 0 0 0) 36 (0,0))):=by rw[hX2];have:=aA (i:=1) gl (.slice (some ⟨X1.heap.size,0,none⟩) d.l2 d.l2);simpa[Hid] using this
 have B2:Hid (Below w.heap.size w X2):=by rw[hX2];exact ah af gB
 have O1:=aa (Q1.aM (w':=X2) (fun k hk s=>by rw[hX2];exact Fp _ _ _ _ (show k≠w.heap.size+1+1 by have h9:X0.heap.size<=k:=s.1;omega)) (fun k hk s=>s));have O2:=aa (P2.aM (w':=X2) (fun k hk s=>by rw[hX2];exact Fp _ _ _ _ (show k≠w.heap.size+1+1 by have h9:X1.heap.size<=k:=s;omega)) (fun k hk s=>(⟨s,hk⟩:X1.heap.size<=k/\k<w2.heap.size)));clear gx gr gl gB P2 Q1;go_wp2_with fail;rw[<-hX2];clear hX2;clear pl fl px;refine (uq d.a3 d.l3 d.c3 c.vs _ (HR.v.below B2.out) hL3 HF.f3).mono ?_;rintro e w3 ⟨rfl,ho,hb⟩;have hsz3:=hb.size;have gx:=(hb.block _ (ae bx2.out)).trans bx2.out;have gr:=(hb.block _ (ae br2.out)).trans br2.out;have gl:=(hb.block _ (ae bl2.out)).trans bl2.out;have gB:=B2.trans (hb.mono B2.size);have P3:=aa ho;have Q1:=aa (O1.below hb);have Q2:=aa (O2.below hb);clear ho hb bx2 br2 bl2 B2 O1 O2;have pl:=ck2 gl;have fl:=av gl 2;have px:=ck3 gx;obtain⟨X3,hX3⟩:∃X,X=w3.setCell ⟨w.heap.size+1+1,2,none⟩ (.slice (some ⟨X2.heap.size,0,none⟩) d.l3 d.l3):=⟨_,rfl⟩;have hxa3:X3.heap.size<=w3.heap.size:=by rw[hX3];simp[Gf]
 have hxb3:w3.heap.size<=X3.heap.size:=by rw[hX3];simp[Gf]
 have bx3:Hid (X3.heap[w.heap.size]?=some (.cells (clv d c.now) 28 (0,0))):=by rw[hX3];exact aV af gx
 have br3:Hid (X3.heap[w.heap.size+1]?=some (.cells (clo6 none 0 0 none 0 0 none 0 0 none 0 0 none 0 0 0) 36 (0,0))):=by rw[hX3];exact aV af gr
 have bl3:Hid (X3.heap[w.heap.size+1+1]?=some (.cells (clo6 (some ⟨X0.heap.size,0,none⟩) d.l1 d.l1 (some ⟨X1.heap.size,0,none⟩) d.l2 d.l2 (some ⟨X2.heap.size,0,none⟩) d.l3 d.l3 none 0 0 none 0 0 0) 36 (0,0))):=by rw[hX3];have:=aA (i:=2) gl (.slice (some ⟨X2.heap.size,0,none⟩) d.l3 d.l3);simpa[Hid] using this
 have B3:Hid (Below w.heap.size w X3):=by rw[hX3];exact ah af gB
 have O1:=aa (Q1.aM (w':=X3) (fun k hk s=>by rw[hX3];exact Fp _ _ _ _ (show k≠w.heap.size+1+1 by have h9:X0.heap.size<=k:=s.1;omega)) (fun k hk s=>s));have O2:=aa (Q2.aM (w':=X3) (fun k hk s=>by rw[hX3];exact Fp _ _ _ _ (show k≠w.heap.size+1+1 by have h9:X1.heap.size<=k:=s.1;omega)) (fun k hk s=>s));have O3:=aa (P3.aM (w':=X3) (fun k hk s=>by rw[hX3];exact Fp _ _ _ _ (show k≠w.heap.size+1+1 by have h9:X2.heap.size<=k:=s;omega)) (fun k hk s=>(⟨s,hk⟩:X2.heap.size<=k/\k<w3.heap.size)));clear gx gr gl gB P3 Q1 Q2;go_wp2_with fail;rw[<-hX3];clear hX3;clear pl fl px;refine (uo d.a4 d.l4 d.c4 c.xs _ (HR.x.below B3.out) hL4).mono ?_;rintro e w4 ⟨rfl,ho,hb⟩;have hsz4:=hb.size;have gx:=(hb.block _ (ae bx3.out)).trans bx3.out;have gr:=(hb.block _ (ae br3.out)).trans br3.out;have gl:=(hb.block _ (ae bl3.out)).trans bl3.out;have gB:=B3.trans (hb.mono B3.size);have P4:=aa ho;have Q1:=aa (O1.below hb);have Q2:=aa (O2.below hb);have Q3:=aa (O3.below hb);clear ho hb bx3 br3 bl3 B3 O1 O2 O3;have pl:=ck3 gl;have fl:=av gl 3;have px:=ck4 gx;obtain⟨X4,hX4⟩:∃X,X=w4.setCell ⟨w.heap.size+1+1,3,none⟩ (.slice (some ⟨X3.heap.size,0,none⟩) d.l4 d.l4):=⟨_,rfl⟩;have hxa4:X4.heap.size<=w4.heap.size:=by rw[hX4];simp[Gf]
 have hxb4:w4.heap.size<=X4.heap.size:=by rw[hX4];simp[Gf]
 have bx4:Hid (X4.heap[w.heap.size]?=some (.cells (clv d c.now) 28 (0,0))):=by rw[hX4];exact aV af gx
 have br4:Hid (X4.heap[w.heap.size+1]?=some (.cells (clo6 none 0 0 none 0 0 none 0 0 none 0 0 none 0 0 0) 36 (0,0))):=by rw[hX4];exact aV af gr
 have bl4:Hid (X4.heap[w.heap.size+1+1]?=some (.cells (clo6 (some ⟨X0.heap.size,0,none⟩) d.l1 d.l1 (some ⟨X1.heap.size,0,none⟩) d.l2 d.l2 (some ⟨X2.heap.size,0,none⟩) d.l3 d.l3 (some ⟨X3.heap.size,0,none⟩) d.l4 d.l4 none 0 0 0) 36 (0,0))):=by rw[hX4];have:=aA (i:=3) gl (.slice (some ⟨X3.heap.size,0,none⟩) d.l4 d.l4);simpa[Hid] using this
 have B4:Hid (Below w.heap.size w X4):=by rw[hX4];exact ah af gB
 have O1:=aa (Q1.aM (w':=X4) (fun k hk s=>by rw[hX4];exact Fp _ _ _ _ (show k≠w.heap.size+1+1 by have h9:X0.heap.size<=k:=s.1;omega)) (fun k hk s=>s));have O2:=aa (Q2.aM (w':=X4) (fun k hk s=>by rw[hX4];exact Fp _ _ _ _ (show k≠w.heap.size+1+1 by have h9:X1.heap.size<=k:=s.1;omega)) (fun k hk s=>s));have O3:=aa (Q3.aM (w':=X4) (fun k hk s=>by rw[hX4];exact Fp _ _ _ _ (show k≠w.heap.size+1+1 by have h9:X2.heap.size<=k:=s.1;omega)) (fun k hk s=>s));have O4:=aa (P4.aM (w':=X4) (fun k hk s=>by rw[hX4];exact Fp _ _ _ _ (show k≠w.heap.size+1+1 by have h9:X3.heap.size<=k:=s;omega)) (fun k hk s=>(⟨s,hk⟩:X3.heap.size<=k/\k<w4.heap.size)));clear gx gr gl gB P4 Q1 Q2 Q3;go_wp2_with fail;rw[<-hX4];clear hX4;clear pl fl px;refine (ur d.a5 d.l5 d.c5 c.ps _ (HR.p.below B4.out) hL5 HF.f5).mono ?_;rintro e w5 ⟨rfl,ho,hb⟩;have gx:=(hb.block _ (ae bx4.out)).trans bx4.out;have gr:=(hb.block _ (ae br4.out)).trans br4.out;have gl:=(hb.block _ (ae bl4.out)).trans bl4.out;have gB:=B4.trans (hb.mono B4.size);have P5:=aa ho;have Q1:=aa (O1.below hb);have Q2:=aa (O2.below hb);have Q3:=aa (O3.below hb);have Q4:=aa (O4.below hb);clear ho hb bx4 br4 bl4 B4 O1 O2 O3 O4;have l4:=ck4 gl;have l5:=ck5 gl;have l0:=ck0 gl;have l1:=ck1 gl;have l2:=ck2 gl;have l3:=ck3 gl;have r0:=ck0 gr;have fr0:=av gr 0;have r1:=ck1 gr;have fr1:=av gr 1;have r2:=ck2 gr;have fr2:=av gr 2;have r3:=ck3 gr;have fr3:=av gr 3;have fl4:=av gl 4;have r4:=ck4 gr;have fr4:=av gr 4;have fl5:=av gl 5;have r5:=ck5 gr;have fr5:=av gr 5;have px:=ck5 gx;have GB:=aa gB;clear gx gr gl gB;go_wp2;refine bodyPost_ret (v:=.agg #[.slice (some ⟨X0.heap.size,0,none⟩) d.l1 d.l1,.slice (some ⟨X1.heap.size,0,none⟩) d.l2 d.l2,.slice (some ⟨X2.heap.size,0,none⟩) d.l3 d.l3,.slice (some ⟨X3.heap.size,0,none⟩) d.l4 d.l4,.slice (some ⟨X4.heap.size,0,none⟩) d.l5 d.l5,.int .i64 c.now]) (by simp[results,Tryz.results7,go_sem, *]) rfl ⟨⟨some ⟨X0.heap.size,0,none⟩,d.l1,d.l1,some ⟨X1.heap.size,0,none⟩,d.l2,d.l2,some ⟨X2.heap.size,0,none⟩,d.l3,d.l3,some ⟨X3.heap.size,0,none⟩,d.l4,d.l4,some ⟨X4.heap.size,0,none⟩,d.l5,d.l5⟩,rfl,?_,sb1 (sb1 (sb1 (sb1 (sb1 (sb1 (sb2 (sb2 (GB.out))))))))⟩;have same:∀k,w.heap.size+1+1<k->((((((((w5.setCell ⟨w.heap.size+1+1,4,none⟩ (.slice (some ⟨X4.heap.size,0,none⟩) d.l5 d.l5)).setCell ⟨w.heap.size+1+1,5,none⟩ (.int .i64 c.now)).setCell ⟨w.heap.size+1,0,none⟩ (.slice (some ⟨X0.heap.size,0,none⟩) d.l1 d.l1)).setCell ⟨w.heap.size+1,1,none⟩ (.slice (some ⟨X1.heap.size,0,none⟩) d.l2 d.l2)).setCell ⟨w.heap.size+1,2,none⟩ (.slice (some ⟨X2.heap.size,0,none⟩) d.l3 d.l3)).setCell ⟨w.heap.size+1,3,none⟩ (.slice (some ⟨X3.heap.size,0,none⟩) d.l4 d.l4)).setCell ⟨w.heap.size+1,4,none⟩ (.slice (some ⟨X4.heap.size,0,none⟩) d.l5 d.l5)).setCell ⟨w.heap.size+1,5,none⟩ (.int .i64 c.now)).heap[k]?=w5.heap[k]?:=fun k hk=>by
  rw[Fp _ _ _ _ (show k≠w.heap.size+1 by omega),Fp _ _ _ _ (show k≠w.heap.size+1 by omega),Fp _ _ _ _ (show k≠w.heap.size+1 by omega),Fp _ _ _ _ (show k≠w.heap.size+1 by omega),Fp _ _ _ _ (show k≠w.heap.size+1 by omega),Fp _ _ _ _ (show k≠w.heap.size+1 by omega),Fp _ _ _ _ (show k≠w.heap.size+1+1 by omega),Fp _ _ _ _ (show k≠w.heap.size+1+1 by omega)]
 refine⟨fun k=>if k<w1.heap.size then 1 else if k<w2.heap.size then 2 else if k<w3.heap.size then 3 else if k<w4.heap.size then 4 else 5,?_,?_,?_,?_,?_⟩
 ·refine Q1.aM (fun k hk s=>same k (by have h9:X0.heap.size<=k:=s.1;omega)) (fun k hk s=>⟨?_,?_⟩)
  ·have h9:=s.1;show w.heap.size<=k;omega
  ·have h9:=s.1;have h8:=s.2;show (if k<w1.heap.size then 1 else if k<w2.heap.size then 2 else if k<w3.heap.size then 3 else if k<w4.heap.size then 4 else 5)=1;rw[if_pos h8]
 ·refine Q2.aM (fun k hk s=>same k (by have h9:X1.heap.size<=k:=s.1;omega)) (fun k hk s=>⟨?_,?_⟩)
  ·have h9:=s.1;show w.heap.size<=k;omega
  ·have h9:=s.1;have h8:=s.2;show (if k<w1.heap.size then 1 else if k<w2.heap.size then 2 else if k<w3.heap.size then 3 else if k<w4.heap.size then 4 else 5)=2;rw[if_neg af];rw[if_pos h8]
 ·refine Q3.aM (fun k hk s=>same k (by have h9:X2.heap.size<=k:=s.1;omega)) (fun k hk s=>⟨?_,?_⟩)
  ·have h9:=s.1;show w.heap.size<=k;omega
  ·have h9:=s.1;have h8:=s.2;show (if k<w1.heap.size then 1 else if k<w2.heap.size then 2 else if k<w3.heap.size then 3 else if k<w4.heap.size then 4 else 5)=3;rw[if_neg af];rw[if_neg af];rw[if_pos h8]
 ·refine Q4.aM (fun k hk s=>same k (by have h9:X3.heap.size<=k:=s.1;omega)) (fun k hk s=>⟨?_,?_⟩)
  ·have h9:=s.1;show w.heap.size<=k;omega
  ·have h9:=s.1;have h8:=s.2;show (if k<w1.heap.size then 1 else if k<w2.heap.size then 2 else if k<w3.heap.size then 3 else if k<w4.heap.size then 4 else 5)=4;rw[if_neg af];rw[if_neg af];rw[if_neg af];rw[if_pos h8]
 ·refine P5.aM (fun k hk s=>same k (by have h9:X4.heap.size<=k:=s;omega)) (fun k hk s=>⟨?_,?_⟩)
  ·have h9:=s;show w.heap.size<=k;omega
  ·have h9:=s;show (if k<w1.heap.size then 1 else if k<w2.heap.size then 2 else if k<w3.heap.size then 3 else if k<w4.heap.size then 4 else 5)=5;rw[if_neg af];rw[if_neg af];rw[if_neg af];rw[if_neg af];skip

theorem Bw.kept {y W W':World} {S:Nat->Prop} (h:Bw y W) (hk:aC S W W') (hs:∀k,S k->y.heap.size<=k):Bw y W':=Below.trans h (hk.low (Below.size h) hs)
theorem Bw.le {y W:World} (h:Bw y W):y.heap.size<=W.heap.size:=Below.size h

theorem y9:∀(r:List Fv) (k:Int),(∀(i:Nat) zs,r[i]?=some (.l zs)->zs.length<=1048576)->mkN k r<=k+r.length*1048577
 | [],k,_=>by simp[mkN]
 | f ::r,k,h=>by
  have h1:=y9 r (mkN1 k f) (fun i zs hi=>h (i+1) zs (by simpa using hi));have h2:mkN1 k f<=k+1048577:=by
   cases f with
   | l zs=>have:=h 0 zs rfl;simp only[mkN1];omega
   | _=>simp only[mkN1];omega
  simp only[mkN,G0];omega
theorem sC {m:Nat} :∀(rs:List (List Fv)) (k:Int),(∀(j:Nat) r,rs[j]?=some r->r.length<=m/\∀(i:Nat) zs,r[i]?=some (.l zs)->zs.length<=1048576)->aI k rs<=k+rs.length*(m*1048577)
 | [],k,_=>by simp[aI]
 | r ::rs,k,h=>by
  have h1:=sC rs (mkN k r) (fun j r' hj=>h (j+1) r' (by simpa using hj));obtain⟨h2,h3⟩:=h 0 r rfl;have h4:=y9 r k h3;have h5:r.length*1048577<=m*1048577:=Nat.mul_le_mul_right _ h2;have h6:((rs.length+1:Nat):Int)*(m*1048577)=rs.length*(m*1048577)+m*1048577:=by
   rw[Int.natCast_add];simp[Int.add_mul]
  simp only[aI,G0];rw[h6];omega
theorem fk {α:Type} {F:α->List Fv} {xs:List α} {m:Nat} (hm:∀x,(F x).length<=m) (hl:∀(j:Nat) x,xs[j]?=some x->∀(i:Nat) zs,(F x)[i]?=some (.l zs)->zs.length<=1048576) (hx:xs.length<=1048576) (hm8:m<=8) (k:Int):aI k (xs.map F)<=k+8796101410816:=by
 have h:=sC (m:=m) (xs.map F) k (fun j r hj=>by
  rw[FC] at hj;obtain⟨x,h1,rfl⟩:=FJ.1 hj
  exact⟨hm x,hl j x h1⟩)
 rw[FU] at h;have h2:xs.length*(m*1048577)<=1048576*(8*1048577):=Nat.mul_le_mul hx (Nat.mul_le_mul_right _ hm8);have h3:((xs.length*(m*1048577):Nat):Int)=(xs.length:Int)*((m:Int)*1048577):=by rw[Int.natCast_mul,Int.natCast_mul];rfl
 rw[<-h3] at h;omega
theorem kA.DH {c:Cl} (h:kA c):dN 1 c.raw<=1000000000000000:=by
 have one:∀{zs zs':List ByteArray},zs.length<=1048576->some (Fv.l zs)=some (.l zs')->zs'.length<=1048576:=fun h e=>by cases e;exact h
 have a1:=fun k=>fk (F:=ndF) (m:=7) (xs:=c.ns) (fun _=>Ft _) (fun j x hx i zs hi=>by
  rcases i with _|_|_|_|_|_|_|i <;> first|(simp[ndF] at hi;done)|exact one (h.f1 j x hx) hi) h.l1 aj k
 have a2:=fun k=>fk (F:=kdF) (m:=4) (xs:=c.ks) (fun _=>Ft _) (fun j x hx i zs hi=>by
  rcases i with _|_|_|_|i <;> (simp[kdF] at hi)) h.l2 aj k
 have a3:=fun k=>fk (F:=vdF) (m:=8) (xs:=c.vs) (fun _=>Ft _) (fun j x hx i zs hi=>by
  rcases i with _|_|_|_|_|_|_|_|i <;> first|(simp[vdF] at hi;done)|exact one (h.f3 j x hx) hi) h.l3 aj k
 have a4:=fun k=>fk (F:=xdF) (m:=5) (xs:=c.xs) (fun _=>Ft _) (fun j x hx i zs hi=>by
  rcases i with _|_|_|_|_|i <;> (simp[xdF] at hi)) h.l4 aj k
 have a5:=fun k=>fk (F:=pdF) (m:=6) (xs:=c.ps) (fun _=>Ft _) (fun j x hx i zs hi=>by
  rcases i with _|_|_|_|_|_|i <;> first|(simp[pdF] at hi;done)|exact one (h.f5 j x hx) hi) h.l5 aj k
 unfold dN Cl.raw;have b1:=a1 1;have b2:=a2 (aI 1 (c.ns.map ndF));have b3:=a3 (aI (aI 1 (c.ns.map ndF)) (c.ks.map kdF));have b4:=a4 (aI (aI (aI 1 (c.ns.map ndF)) (c.ks.map kdF)) (c.vs.map vdF));have b5:=a5 (aI (aI (aI (aI 1 (c.ns.map ndF)) (c.ks.map kdF)) (c.vs.map vdF)) (c.xs.map xdF));simp only[];omega
theorem kA.marks {c:Cl} (h:kA c):dN 1 c.raw<=1152921504606846976:=F8 h.DH (by decide)

theorem gm (g g':Ad) (o:Co) (w:World) (hr:aJ w g o.c.raw) (hr':aJ w g' o.c.raw):
  Calls Tryz.prog 9 #[.agg #[.slice g.a1 g.l1 g.c1,.slice g.a2 g.l2 g.c2,.slice g.a3 g.l3 g.c3,.slice g.a4 g.l4 g.c4,.slice g.a5 g.l5 g.c5,.int .i64 o.c.now,.string o.n,.int .i64 o.p],.agg #[.slice g'.a1 g'.l1 g'.c1,.slice g'.a2 g'.l2 g'.c2,.slice g'.a3 g'.l3 g'.c3,.slice g'.a4 g'.l4 g'.c4,.slice g'.a5 g'.l5 g'.c5,.int .i64 o.c.now,.string o.n,.int .i64 o.p]] w fun e w'=>e=.returned (.bool true)/\Below w.heap.size w w':=by
 have HR:=aa hr;have HR':=aa hr';have HB:=aa (Fw w.heap.size w);clear hr hr';go_enter Tryz.func9,Tryz.ntmps9;go_wp2_with fail;refine (fX g g' o.c _ (HR.below (HB.trans ((aF _ _ _).mono HB.size))) (HR'.below (HB.trans ((aF _ _ _).mono HB.size)))).mono ?_;rintro e w1 ⟨rfl,hb⟩;obtain⟨HA0,HA1,hbx⟩:=cH hb;have Ba:=aa HA0;have Bb:=aa HA1;replace HB:=upB HB hbx;clear hb hbx HA0 HA1;obtain⟨a0,a1,a2,a3,a4,a5,a6,a7⟩:=cs8 Ba;obtain⟨b0,b1,b2,b3,b4,b5,b6,b7⟩:=cs8 Bb;go_wp2;go_ret;exact⟨rfl,HB.out⟩

theorem mo (g:Ad) (o:Co) (N:Int) (S:Nat->Prop) (w:World) (ho:bQ w g o.c.raw S) (hS:∀k,S k->k<w.heap.size) (hN:0<N) (hb:dN N o.c.raw<=1152921504606846976):
  Calls Tryz.prog 12 #[.agg #[.slice g.a1 g.l1 g.c1,.slice g.a2 g.l2 g.c2,.slice g.a3 g.l3 g.c3,.slice g.a4 g.l4 g.c4,.slice g.a5 g.l5 g.c5,.int .i64 o.c.now,.string o.n,.int .i64 o.p],.int .i64 N] w fun e w'=>e=.returned (.int .i64 (dN N o.c.raw))/\bQ w' g (mkC N o.c.raw) S/\aC S w w':=by
 have HO:=aa (ho.below (al w (.cells #[.slice g.a1 g.l1 g.c1,.slice g.a2 g.l2 g.c2,.slice g.a3 g.l3 g.c3,.slice g.a4 g.l4 g.c4,.slice g.a5 g.l5 g.c5,.int .i64 o.c.now,.string o.n,.int .i64 o.p] 38)));have HS:=aa hS;clear ho hS;go_enter Tryz.func12,Tryz.ntmps12;go_wp2_with fail;refine (eV g o.c N S _ HO.out (fun k s=>by have:=HS.out k s;simp;omega) hN hb).mono ?_;rintro e w1 ⟨rfl,ho,hk⟩;have HO1:=aa ho;have HK:=aa ((aC.bZ (S:=S) (al w (.cells #[.slice g.a1 g.l1 g.c1,.slice g.a2 g.l2 g.c2,.slice g.a3 g.l3 g.c3,.slice g.a4 g.l4 g.c4,.slice g.a5 g.l5 g.c5,.int .i64 o.c.now,.string o.n,.int .i64 o.p] 38))).trans hk);clear ho hk;go_wp2;go_ret;exact⟨rfl,HO1.out,HK.out⟩

theorem mA (g:Ad) (o:Co) (N:Int) (w:World) (hr:aJ w g (mkC N o.c.raw)) (hN:0<N) (hb:dN N o.c.raw<=1152921504606846976):
  Calls Tryz.prog 13 #[.agg #[.slice g.a1 g.l1 g.c1,.slice g.a2 g.l2 g.c2,.slice g.a3 g.l3 g.c3,.slice g.a4 g.l4 g.c4,.slice g.a5 g.l5 g.c5,.int .i64 o.c.now,.string o.n,.int .i64 o.p],.int .i64 N] w fun e w'=>e=.returned (.int .i64 (dN N o.c.raw))/\Below w.heap.size w w':=by
 have HR:=aa (hr.below (al w (.cells #[.slice g.a1 g.l1 g.c1,.slice g.a2 g.l2 g.c2,.slice g.a3 g.l3 g.c3,.slice g.a4 g.l4 g.c4,.slice g.a5 g.l5 g.c5,.int .i64 o.c.now,.string o.n,.int .i64 o.p] 38)));clear hr;obtain⟨M,hM⟩:∃M,M=dN N o.c.raw:=⟨_,rfl⟩;have hM0:¬M<0:=by rw[hM];have:=mn N o.c.raw;omega
 have HM:=aa hM;clear hM;go_enter Tryz.func13,Tryz.ntmps13;go_wp2_with fail;refine (jj g o.c o.c.now N _ HR.out hN hb).mono ?_;rintro e w1 ⟨rfl,hb1⟩;rw[<-HM.out];have HB:=aa (aL hb1).2;clear hb1;go_wp2;go_ret;exact⟨by rw[<-HM.out];rfl,HB.out⟩

theorem tW (p:Int):dN 1 (co0 p).c.raw<=1152921504606846976:=by simp[co0,cl0,Cl.raw,dN,aI]

theorem mB {c:Cl} {t:ByteArray} {x:Pd} (hr:aB c) (h:c.ps[pl Pd.n c.ps t]?=some x) (hn:x.n=t):hit Pd.n c.ps t=true:=(cN hr.2.1.2.2.2.2.2.2 h hn).2

theorem kO.same {c:Cl} {i:Nat} {p:Pd} {b b':Nat} {n n':Nd} (h:kO c i p b n) (h':kO c i p b' n'):b=b'/\n=n':=by
 have h1:=h.2.2 b' n' h'.1 h'.2.1;have h2:=h'.2.2 b n h.1 h.2.1;obtain rfl:b=b':=af
 exact⟨rfl,Fq (h.1.symm.trans h'.1)⟩
theorem fp.not {c:Cl} {i:Nat} {p:Pd} {b:Nat} {n:Nd} (h:fp c i p) (h':kO c i p b n):False:=h b n h'.1 h'.2.1
theorem kB.cases {c:Cl} {t:ByteArray} {i:Nat} (h:kB c t i):(i=0/\8000<t.size)\/(i=1/\¬8000<t.size/\¬aB c)\/(i=2/\¬8000<t.size/\aB c/\hit Pd.n c.ps t=false)\/(i=8/\¬8000<t.size/\aB c/\∃x,c.ps[pl Pd.n c.ps t]?=some x/\x.n=t/\¬x.p=0)\/(i=7/\¬8000<t.size/\aB c/\∃x,c.ps[pl Pd.n c.ps t]?=some x/\x.n=t/\x.p=0/\fp c (pl Pd.n c.ps t) x):=by
 rcases i with _|_|_|_|_|_|_|_|_|i;all_goals first
  | exact False.elim h
  | exact .inl ⟨rfl,h⟩
  | exact .inr (.inl ⟨rfl,h⟩)
  | exact .inr (.inr (.inl ⟨rfl,h⟩))
  | exact .inr (.inr (.inr (.inl ⟨rfl,h⟩)))
  | exact .inr (.inr (.inr (.inr ⟨rfl,h⟩)))
theorem Ab.same {R:Cl->Nat->Pd->Nd->Cl->Prop} (hR:∀c i p n c1 c2,aB c->aO n.z->R c i p n c1->R c i p n c2->c1=c2) {c:Cl} {t:ByteArray} {o o':Co} (h:Ab R c t o) (h':Ab R c t o'):o=o':=by
 rcases h with ⟨i,a,rfl⟩|⟨a1,a2,x,b,n,c1,a3,a4,a5,a6,a7,rfl⟩ <;> rcases h' with ⟨i',b0,rfl⟩|⟨b1,b2,x',b',n',c2,b3,b4,b5,b6,b7,rfl⟩
 ·rcases a.cases with ⟨rfl,a1⟩|⟨rfl,a1,a2⟩|⟨rfl,a1,a2,a3⟩|⟨rfl,a1,a2,x,a3,a4,a5⟩|⟨rfl,a1,a2,x,a3,a4,a5,a6⟩ <;> rcases b0.cases with ⟨rfl,b1⟩|⟨rfl,b1,b2⟩|⟨rfl,b1,b2,b3⟩|⟨rfl,b1,b2,y,b3,b4,b5⟩|⟨rfl,b1,b2,y,b3,b4,b5,b6⟩
  all_goals first
   | rfl
   | exact absurd a1 b1
   | exact absurd b1 a1
   | exact absurd a2 b2
   | exact absurd b2 a2
   | exact absurd (mB b2 b3 b4) (by rw[a3];decide)
   | exact absurd (mB a2 a3 a4) (by rw[b3];decide)
   | (rw[a3] at b3;obtain rfl:=Fq b3;first|exact absurd a5 b5|exact absurd b5 a5)
 ·rcases a.cases with ⟨rfl,a1⟩|⟨rfl,a1,a2⟩|⟨rfl,a1,a2,a3⟩|⟨rfl,a1,a2,x,a3,a4,a5⟩|⟨rfl,a1,a2,x,a3,a4,a5,a6⟩;all_goals first
   | exact absurd a1 b1
   | exact absurd b2 a2
   | exact absurd (mB b2 b3 b4) (by rw[a3];decide)
   | (rw[a3] at b3;obtain rfl:=Fq b3;first|exact absurd b5 a5|exact (a6.not b6).elim)
 ·rcases b0.cases with ⟨rfl,b1⟩|⟨rfl,b1,b2⟩|⟨rfl,b1,b2,b3⟩|⟨rfl,b1,b2,y,b3,b4,b5⟩|⟨rfl,b1,b2,y,b3,b4,b5,b6⟩;all_goals first
   | exact absurd b1 a1
   | exact absurd a2 b2
   | exact absurd (mB a2 a3 a4) (by rw[b3];decide)
   | (rw[a3] at b3;obtain rfl:=Fq b3;first|exact absurd a5 b5|exact (b6.not a6).elim)
 ·rw[a3] at b3;obtain rfl:=Fq b3;obtain⟨rfl,rfl⟩:=a6.same b6;rw[hR c _ _ _ _ _ a2 (a2.2.1.1.2.1 _ _ a6.1).2.1 a7 b7]
theorem dE.same {c:Cl} {t:ByteArray} {o o':Co} (h:dE c t o) (h':dE c t o'):o=o':=Ab.same (fun _ _ _ _ _ _ _ _ h1 h2=>h1.trans h2.symm) h h'
theorem dE.marks {c:Cl} {t:ByteArray} {o:Co} (h:dE c t o) (hf:kA c):dN 1 o.c.raw<=1152921504606846976:=by
 rcases h with ⟨i,_,rfl⟩|⟨_,_,x,b,n,c',_,_,_,_,rfl,rfl⟩
 ·exact tW _
 ·exact hf.marks
end Rc
end Go.Proofs.YtpejepeekdjfoaaGreatDoor

namespace Go.Proofs.YtpejepeekdjfoaaGreatDoor
open Go.RowKit Rc Mk

def et (c:Cl):Fact:=fun v w=> ∃d:Ad,v=.agg #[.slice d.a1 d.l1 d.c1,.slice d.a2 d.l2 d.c2,.slice d.a3 d.l3 d.c3,.slice d.a4 d.l4 d.c4,.slice d.a5 d.l5 d.c5,.int .i64 c.now]/\aJ w d c.raw
theorem et.mono (c:Cl):Fact.bB (et c):=by
 exact qj

set_option linter.unusedVariables false in
theorem kL (d:Ad) (c:Cl) (t:ByteArray) (E:Nat->Addr) (w:World) (hr:aJ w d c.raw) (ht:t.size<=maxLen) (hG:Ers w E):
  Calls Tryz.prog 3 #[.agg #[.slice d.a1 d.l1 d.c1,.slice d.a2 d.l2 d.c2,.slice d.a3 d.l3 d.c3,.slice d.a4 d.l4 d.c4,.slice d.a5 d.l5 d.c5,.int .i64 c.now],.string t] w fun e w'=>e=.returned (.bool true)/\Below w.heap.size w w':=by
 obtain⟨HR,HE,HB⟩:=k_;clear hr hG;by_cases hlongt:1048576<t.size
 ·go_enter Tryz.func3,Tryz.ntmps3;go_wp2;go_ret;exact⟨rfl,al _ _⟩
 go_enter Tryz.func3,Tryz.ntmps3;go_wp2_with fail;refine (kG d c _ (HR.below (HB.trans ((al _ _).mono HB.size)))).mono ?_;rintro e w1 ⟨r,rfl,hi,hb⟩;obtain⟨HA0,hbx⟩:=aL hb;have Bk:=aa HA0;replace HB:=upB HB hbx;clear hb hbx HA0;rcases hi with rfl|⟨hr0,-,hft⟩
 ·obtain⟨k0,k1,k2,k3,k4,k5⟩:=cs6 Bk;go_wp2;go_ret;exact⟨rfl,HB.out⟩
 have HF:=aa hft;clear hft;obtain⟨k0,k1,k2,k3,k4,k5⟩:=cs6 Bk;go_wp2_with fail;refine (dB d c _ (HR.below HB.out) HF.out).mono ?_;rintro e w2 ⟨d1,rfl,ho,hb⟩;clear k0 k1 k2 k3 k4 k5;replace Bk:=upK Bk hb;replace HB:=upB HB hb;clear hb;have HO:=aa ho.row;clear ho;go_wp2_with fail;refine (pD d1 c t _ HO.out).mono ?_;rintro e w3 ⟨dg0,o,rfl,hI,ho,hb⟩;have R0:=aa ho;have HIS:=aa hI;clear ho hI HO;replace Bk:=upK Bk hb;replace HB:=upB HB hb;clear hb;have HY:=aa (Bw.refl w3);have HQ3:=aa (show w.heap.size<w3.heap.size from ae Bk.out);obtain⟨k0,k1,k2,k3,k4,k5⟩:=cs6 Bk;have ltk_3:=ae Bk.out;go_wp2_with fail;refine (dB d c _ (HR.below (HB.trans ((al _ _).mono HB.size))) HF.out).mono ?_;rintro e w4 ⟨d2,rfl,ho,hb⟩;clear k0 k1 k2 k3 k4 k5 ltk_3;obtain⟨HA0,hbx⟩:=aL hb;replace Bk:=upK Bk hbx;have Ba:=aa HA0;replace HY:=aa (HY.below hbx);replace HB:=upB HB hbx;clear hb hbx HA0;have HQ4:Hid (w3.heap.size+1<=w4.heap.size):=by have:=HY.le;have:=ae Ba.out;show w3.heap.size+1<=_;omega
 have HO2:=aa (ho.bA (S':=fun k=>w3.heap.size+1<=k/\k<w4.heap.size) (fun k hk s=>⟨(show w3.heap.size+1<=k by simpa using s),hk⟩));clear ho;obtain⟨k0,k1,k2,k3,k4,k5⟩:=cs6 Bk;obtain⟨a0,a1,a2,a3,a4,a5,a6,a7⟩:=cs8 Ba;go_wp2_with fail;have HOX:=aa (HO2.below (al w4 (.cells (clv d2 c.now) 36)));refine (ko d2 c t E _ HOX.row (HE.below (HB.trans ((al _ _).mono HB.size)))).mono ?_;rintro e w5 ⟨dg1,o1,rfl,hI,ho,hb⟩;clear HOX;obtain rfl:=HIS.same hI;clear hI;clear k0 k1 k2 k3 k4 k5 a0 a1 a2 a3 a4 a5 a6 a7;obtain⟨HA0,hbx⟩:=aL hb;replace Bk:=upK Bk hbx;replace Ba:=upK Ba hbx;have Bx:=aa HA0;replace HY:=aa (HY.below hbx);replace HO2:=aa (HO2.below hbx);replace HB:=upB HB hbx;clear hb hbx HA0;have HQ5:Hid (w4.heap.size<w5.heap.size):=ae Bx.out;have HO1:=aa (ho.bA (S':=fun k=>w4.heap.size+1<=k/\k<w5.heap.size) (fun k hk s=>⟨(show w4.heap.size+1<=k by simpa using s),hk⟩));clear ho;have hlz:dN 1 o.c.raw<=1152921504606846976:=HIS.marks HF.out;have HH:=aa (fun (W:World) (hr:aJ W dg1 (mkC 1 o.c.raw))=>mA dg1 o 1 W hr aj hlz);obtain⟨M,hM⟩:∃M:Int,M=dN 1 o.c.raw:=⟨_,rfl⟩;have hM0:(0:Int)<M:=by rw[hM];have:=mn 1 o.c.raw;omega
 rw[<-hM] at HH;have HMM:=aa hM;clear hM;obtain⟨k0,k1,k2,k3,k4,k5⟩:=cs6 Bk;obtain⟨a0,a1,a2,a3,a4,a5,a6,a7⟩:=cs8 Ba;have lta_5:=ae Ba.out;obtain⟨x0,x1,x2,x3,x4,x5⟩:=cs6 Bx;go_wp2_with fail;refine (gm dg1 dg0 o _ (HO1.row.below (al _ _)) (R0.below (HY.below (al _ _)).out)).mono ?_;rintro e w6 ⟨rfl,hb⟩;clear k0 k1 k2 k3 k4 k5 a0 a1 a2 a3 a4 a5 a6 a7 lta_5 x0 x1 x2 x3 x4 x5;obtain⟨HA0,hbx⟩:=aL hb;replace Bk:=upK Bk hbx;replace Ba:=upK Ba hbx;replace Bx:=upK Bx hbx;have Bg:=aa HA0;replace HY:=aa (HY.below hbx);replace HO2:=aa (HO2.below hbx);replace HO1:=aa (HO1.below hbx);replace HB:=upB HB hbx;clear hb hbx HA0;obtain⟨W,hW0⟩:∃W,W=w6:=⟨_,rfl⟩;rw[<-hW0] at HB HY HO2 HO1 Bk Ba Bx Bg;go_wp2_with fail;rw[<-hW0];clear hW0;rename_i K0 hK0;refine bo (back:=none) aq (GD _).symm aq ?_;refine' au.an _ rfl ?_ ?_;rotate_left 1
 ·refine Obl.plain rfl ?_;intro ac wg K hsz hW hf hK;clear hsz;have e7:=hf 7 aj;simp[ai,Fs] at e7;clear hf;obtain⟨k0,k1,k2,k3,k4,k5⟩:=cs6 ((hW.block _ (ae Bx.out)).trans Bx.out);exact aU
 refine' au.an _ rfl ?_ ?_;rotate_left 1
 ·exact vX
 refine au.step (et c) rfl (et.mono c) ?_ ?_
 ·refine Obl.plain rfl ?_;intro ac wg K hsz hW hf hK;clear hsz;have e35:=hf 35 aj;simp[ai,Fs] at e35;clear hf;go_simp;refine (dB d c _ (HR.below (HB.trans (hW.mono HB.size))) HF.out).mono ?_;rintro e w6 ⟨d3,rfl,ho,hb6⟩;exact hK _ _ hb6 ⟨d3,rfl,ho.row⟩
 refine' au.an (.bool true) rfl ?_ ?_
 ·refine Obl.plain rfl ?_;intro ac wg K hsz hW hf hK;clear hsz;have e34:=hf 34 aj;simp[ai,Fs] at e34;have e36:=hf 36 aj;simp[ai,Fs] at e36;obtain⟨d3,e36,hrow⟩:=e36;clear hf;go_simp;refine (fX d2 d3 c _ (HO2.row.below hW) hrow).mono ?_;rintro e w6 ⟨rfl,hb6⟩;exact hK _ _ hb6 rfl
 refine' au.an _ rfl ?_ ?_;rotate_left 1
 ·exact xf
 refine au.done ?_;intro q wz hW hf;simp only[FI] at hf;obtain⟨h38,-⟩:=hf;have hb:=hW;refine hK0 _ _ ?_;simp only[aE,Gd,GI,Fz,FH,FM,h38];clear hK0;replace Bk:=upK Bk hb;replace Ba:=upK Ba hb;replace Bx:=upK Bx hb;replace Bg:=upK Bg hb;replace HY:=aa (HY.below hb);replace HO2:=aa (HO2.below hb);replace HO1:=aa (HO1.below hb);replace HB:=upB HB hb;clear hb;clear hW;obtain⟨rk,hrk⟩:∃r:Int,r=dN 1 c.raw:=⟨_,rfl⟩;have hrk0:decide (rk<0)=false:=by rw[decide_eq_false_iff_not,hrk];have:=mn 1 c.raw;omega
 obtain⟨k0,k1,k2,k3,k4,k5⟩:=cs6 Bk;obtain⟨a0,a1,a2,a3,a4,a5,a6,a7⟩:=cs8 Ba;obtain⟨x0,x1,x2,x3,x4,x5⟩:=cs6 Bx;obtain⟨g0,g1,g2,g3,g4,g5,g6,g7⟩:=cs8 Bg;have ltg_7:=ae Bg.out;go_wp2_with fail;refine (eV d2 c 1 _ wz HO2.out (fun k s=>by have s2:=s.2;have q9:=HY.le;have q8:=ae Bx.out;have q3:=HQ3.out;have q4:=HQ4.out;have q5:=HQ5.out;omega) aj HF.marks).mono ?_;rintro e w8 ⟨rfl,ho,hk⟩;clear k0 k1 k2 k3 k4 k5 a0 a1 a2 a3 a4 a5 a6 a7 x0 x1 x2 x3 x4 x5 g0 g1 g2 g3 g4 g5 g6 g7 ltg_7;obtain⟨Ck,Ca,Cx,Cg⟩:=Ce;have HB8:=aa (HB.trans (hk.low (X:=w.heap.size) HB.size (fun k s=>by have s1:=s.1;have q3:=HQ3.out;have q4:=HQ4.out;have q5:=HQ5.out;omega)));have CHY:=aa (HY.kept hk (fun k s=>by have s1:=s.1;have q3:=HQ3.out;have q4:=HQ4.out;have q5:=HQ5.out;omega));have CHO1:=aa (HO1.kept hk (fun k s s'=>by have s1:=s.1;have s2:=s.2;have t1:=s'.1;have t2:=s'.2;have q3:=HQ3.out;have q4:=HQ4.out;have q5:=HQ5.out;omega));clear HB HY hk HO2 HO1 Bk Ba Bx Bg;have HB:=HB8;clear HB8;have HY:=CHY;clear CHY;have HO1:=CHO1;clear CHO1;have Bk:=Ck;clear Ck;have Ba:=Ca;clear Ca;have Bx:=Cx;clear Cx;have Bg:=Cg;clear Cg;clear ho;rw[<-hrk];clear hrk;obtain⟨k0,k1,k2,k3,k4,k5⟩:=cs6 Bk;obtain⟨a0,a1,a2,a3,a4,a5,a6,a7⟩:=cs8 Ba;obtain⟨x0,x1,x2,x3,x4,x5⟩:=cs6 Bx;obtain⟨g0,g1,g2,g3,g4,g5,g6,g7⟩:=cs8 Bg;go_wp2_with fail;refine (gm dg1 dg0 o _ (HO1.row) (R0.below HY.out)).mono ?_;rintro e w9 ⟨rfl,hb⟩;clear k0 k1 k2 k3 k4 k5 a0 a1 a2 a3 a4 a5 a6 a7 x0 x1 x2 x3 x4 x5 g0 g1 g2 g3 g4 g5 g6 g7;replace Bk:=upK Bk hb;replace Ba:=upK Ba hb;replace Bx:=upK Bx hb;replace Bg:=upK Bg hb;replace HY:=aa (HY.below hb);replace HO1:=aa (HO1.below hb);replace HB:=upB HB hb;clear hb;clear hrk0;obtain⟨k0,k1,k2,k3,k4,k5⟩:=cs6 Bk;obtain⟨a0,a1,a2,a3,a4,a5,a6,a7⟩:=cs8 Ba;obtain⟨x0,x1,x2,x3,x4,x5⟩:=cs6 Bx;obtain⟨g0,g1,g2,g3,g4,g5,g6,g7⟩:=cs8 Bg;have ltg_9:=ae Bg.out;go_wp2_with fail;refine (mo dg1 o 1 _ _ HO1.out (fun k s=>by have s2:=s.2;have q9:=HB.size;have q8:=HY.le;have q7:=ae Bg.out;have q3:=HQ3.out;have q4:=HQ4.out;have q5:=HQ5.out; omega) aj hlz).mono ?_;rintro e w10 ⟨rfl,ho,hk⟩;clear k0 k1 k2 k3 k4 k5 a0 a1 a2 a3 a4 a5 a6 a7 x0 x1 x2 x3 x4 x5 g0 g1 g2 g3 g4 g5 g6 g7 ltg_9;obtain⟨Ck,Ca,Cx,Cg⟩:=Ce;have HB10:=aa (HB.trans (hk.low (X:=w.heap.size) HB.size (fun k s=>by have s1:=s.1;have q3:=HQ3.out;have q4:=HQ4.out;have q5:=HQ5.out;omega)));have CHY:=aa (HY.kept hk (fun k s=>by have s1:=s.1;have q3:=HQ3.out;have q4:=HQ4.out;have q5:=HQ5.out;omega));clear HB HY hk HO1 Bk Ba Bx Bg;have HB:=HB10;clear HB10;have HY:=CHY;clear CHY;have Bk:=Ck;clear Ck;have Ba:=Ca;clear Ca;have Bx:=Cx;clear Cx;have Bg:=Cg;clear Cg;have HM1:=aa ho;clear ho;rw[<-HMM.out];obtain⟨k0,k1,k2,k3,k4,k5⟩:=cs6 Bk;obtain⟨a0,a1,a2,a3,a4,a5,a6,a7⟩:=cs8 Ba;obtain⟨x0,x1,x2,x3,x4,x5⟩:=cs6 Bx;obtain⟨g0,g1,g2,g3,g4,g5,g6,g7⟩:=cs8 Bg
 go_wp2_with fail;refine (HH.out _ HM1.row).mono ?_;rintro e w11 ⟨rfl,hb⟩;clear k0 k1 k2 k3 k4 k5 a0 a1 a2 a3 a4 a5 a6 a7 x0 x1 x2 x3 x4 x5 g0 g1 g2 g3 g4 g5 g6 g7;replace Bk:=upK Bk hb;replace Ba:=upK Ba hb;replace Bx:=upK Bx hb;replace Bg:=upK Bg hb;replace HY:=aa (HY.below hb);replace HM1:=aa (HM1.below hb);replace HB:=upB HB hb;clear hb;obtain⟨k0,k1,k2,k3,k4,k5⟩:=cs6 Bk;go_wp2_with fail;refine (dB d c _ (HR.below HB.out) HF.out).mono ?_;rintro e w12 ⟨d4,rfl,ho,hb⟩;clear k0 k1 k2 k3 k4 k5;replace Bk:=upK Bk hb;replace Ba:=upK Ba hb;replace Bx:=upK Bx hb;replace Bg:=upK Bg hb;replace HY:=aa (HY.below hb);replace HM1:=aa (HM1.below hb);replace HB:=upB HB hb;clear hb;have HO:=aa ho.row;clear ho;go_wp2_with fail;refine (ko d4 c t E _ HO.out (HE.below HB.out)).mono ?_;rintro e w13 ⟨dg2,o2,rfl,hI,ho,hb⟩;obtain rfl:=HIS.same hI;clear hI HO;have HR2:=aa ho.row;clear ho;replace Bk:=upK Bk hb;replace Ba:=upK Ba hb;replace Bx:=upK Bx hb;replace Bg:=upK Bg hb;replace HY:=aa (HY.below hb);replace HM1:=aa (HM1.below hb);replace HB:=upB HB hb;clear hb;obtain⟨k0,k1,k2,k3,k4,k5⟩:=cs6 Bk;obtain⟨a0,a1,a2,a3,a4,a5,a6,a7⟩:=cs8 Ba;have lta_13:=ae Ba.out;obtain⟨x0,x1,x2,x3,x4,x5⟩:=cs6 Bx;obtain⟨g0,g1,g2,g3,g4,g5,g6,g7⟩:=cs8 Bg;go_wp2_with fail;refine (gm dg2 dg0 o _ (HR2.below (al _ _)) (R0.below (HY.below (al _ _)).out)).mono ?_;rintro e w14 ⟨rfl,hb⟩;clear k0 k1 k2 k3 k4 k5 a0 a1 a2 a3 a4 a5 a6 a7 lta_13 x0 x1 x2 x3 x4 x5 g0 g1 g2 g3 g4 g5 g6 g7;obtain⟨HA0,hbx⟩:=aL hb;replace Bk:=upK Bk hbx;replace Ba:=upK Ba hbx;replace Bx:=upK Bx hbx;replace Bg:=upK Bg hbx;have Bh:=aa HA0;replace HY:=aa (HY.below hbx);replace HM1:=aa (HM1.below hbx);replace HB:=upB HB hbx;clear hb hbx HA0;obtain⟨k0,k1,k2,k3,k4,k5⟩:=cs6 Bk;obtain⟨g0,g1,g2,g3,g4,g5,g6,g7⟩:=cs8 Bg;go_wp2_with fail;refine (HH.out _ HM1.row).mono ?_;rintro e w15 ⟨rfl,hb⟩;clear k0 k1 k2 k3 k4 k5 g0 g1 g2 g3 g4 g5 g6 g7;replace Bk:=upK Bk hb;replace Ba:=upK Ba hb;replace Bx:=upK Bx hb;replace Bg:=upK Bg hb;replace Bh:=upK Bh hb;replace HY:=aa (HY.below hb);replace HM1:=aa (HM1.below hb);replace HB:=upB HB hb;clear hb;go_wp2_with fail;go_ret;exact⟨rfl,HB.out⟩

set_option linter.unusedVariables false in
theorem fj (a1:Option Addr) (l1 y1:Nat) (ns:List Nd) (a2:Option Addr) (l2 y2:Nat) (ks:List Kd) (a3:Option Addr) (l3 y3:Nat) (vs:List Vd) (a4:Option Addr) (l4 y4:Nat) (xs:List Xd) (a5:Option Addr) (l5 y5:Nat) (ps:List Pd) (now:Int) (t:ByteArray) (w:World)
  (h1:aN w a1 l1 y1 7 (ns.map ndF)) (h2:aN w a2 l2 y2 4 (ks.map kdF)) (h3:aN w a3 l3 y3 8 (vs.map vdF)) (h4:aN w a4 l4 y4 5 (xs.map xdF)) (h5:aN w a5 l5 y5 6 (ps.map pdF)) (_:(Lit.int .i64 now).wf=true) (ht:t.size<=maxLen) (hG:∃E,Ers w E):
  Calls Tryz.prog 3 #[.agg #[.slice a1 l1 y1,.slice a2 l2 y2,.slice a3 l3 y3,.slice a4 l4 y4,.slice a5 l5 y5,.int .i64 now],.string t] w fun e w'=>e=.returned (.bool true)/\Below w.heap.size w w':=
 by obtain⟨E,hG⟩:=hG;exact kL ⟨a1,l1,y1,a2,l2,y2,a3,l3,y3,a4,l4,y4,a5,l5,y5⟩ ⟨ns,ks,vs,xs,ps,now⟩ t E w ⟨h1,h2,h3,h4,h5⟩ ht hG

end Go.Proofs.YtpejepeekdjfoaaGreatDoor

namespace Go.Proofs.YtpejepeekdjfoaaGreatDoor
open Go.RowKit
namespace Rc

theorem mN: "*" ++ "errors.errorString" = "*errors.errorString":=by decide
theorem EN (u:TypeId) (h:Tryz.prog.typeName? 3 u=some "*errors.errorString"):u=266:=
 typeName_ptr_named (nm:= "errors.errorString") (by rw[mN];kernel_rfl) aq aj u (by rw[mN];exact h)

theorem re {P:Program} {W:World} {nm:String} {ti tp te ts:TypeId} {ms:Array (String×TypeId)} {f:Field} (hi:P.underlying ti=some (.interface ms)) (hrow:∀u,P.typeName? 3 u=some nm->u=tp)
  (hp:P.underlying tp=some (.pointer te)) (he:P.underlying te=some (.struct #[f])) (hft:f.type=ts) (hfo:f.offset=0) (hs:P.underlying ts=some .string) (hc:P.cellsOf te=1) (hcs:P.cellsOf ts=1):
  ∀(l:List (String×List UInt8)) (ps:List MemPlace),(∀x∈l,∃g,P.globalNamed x.1=some g/\(P.globals[g]?).map (·.type)=some ti)->
   DataW.LaidVars P W (l.map fun x=>(x.1,.iface nm (.ptr (.agg [.lit (.string x.2)])))) ps->ps.Nodup->
   (∀b off,MemPlace.cell b off∈ps->(∃c t,W.heap[b]?=some (.cells c t (0,0)))/\∀u v,W.cell? ⟨b,off,none⟩=some (.iface u v)->Value.okWide P W .any 0 u v)->
   ∃E:Nat->Addr,(∀(i:Nat) x,l[i]?=some x->W.var? P x.1=some #[.iface tp (.pointer (some (E i)))]/\MemPlace.cell (E i).block (E i).off∈ps)/\∀i j,i<l.length->j<l.length->E i=E j->i=j
 | [],ps,_,_,_,_=>⟨fun _=>⟨0,0,none⟩,fun i x h=>by simp at h,fun i j h=>by simp at h⟩
 | x ::l,ps,hT,hv,hnd,hrows=>by
  obtain⟨g,t,cs,fuel,p,q,hg,ht,hvar,hd,hq,rfl⟩:=hv;obtain⟨g',hg',ht'⟩:=hT x aS;obtain rfl:=Fq (hg.symm.trans hg');obtain rfl:=Fq (ht.symm.trans ht');have hsub:∀{y},y∈q->y∈MemPlace.row ⟨g,0,none⟩ cs.size++p++q:=fun h=>Hf _ h;obtain⟨E,hE1,hE2⟩:=re hi hrow hp he hft hfo hs hc hcs l q (fun y hy=>hT y (by simp[hy])) hq (List.Nodup.sublist (List.sublist_append_right _ _) hnd) (fun b off hm=>hrows b off (hsub hm));obtain⟨l0⟩:=cs;have ok0:∀u v,l0=[.iface u v]->Value.okWide P W .any 0 u v:=fun u v e=>by
   subst e;exact (hrows g 0 (by simp[MemPlace.row])).2 u v (by simpa using World.var?_cell hg hvar 0)
  obtain⟨a0,s0,rfl,hc0,hs0,hz0,rfl⟩:=errorString_of_trod hi hrow hp he hft hfo hs hc hcs hd ok0;have ha:MemPlace.cell a0.block a0.off∈MemPlace.row a0 1:=by simp[MemPlace.row]
  have hdis:∀i,i<l.length->¬E i=a0:=fun i hi' e=>by
   have h1:=(hE1 i _ (Fu hi')).2;rw[e] at h1;have h2:=(List.nodup_append.1 hnd).2.2 _ (Hf _ ha) _ h1;exact h2 rfl
  refine⟨fun i=>match i with|0=>a0|i+1=>E i,fun i y hy=>?_,fun i j hi' hj' e=>?_⟩
  ·cases i with
   | zero=>
    obtain rfl:x=y:=by simpa using hy
    exact⟨hvar,List.mem_append_left _ (Hf _ ha)⟩
   | succ i=>
    obtain⟨h1,h2⟩:=hE1 i y (by simpa using hy);exact⟨h1,hsub h2⟩
  ·cases i with
   | zero=>cases j with
    | zero=>rfl
    | succ j=>exact absurd e.symm (hdis j (by simpa using hj'))
   | succ i=>cases j with
    | zero=>exact absurd e (hdis i (by simpa using hi'))
    | succ j=>rw[hE2 i j (by simpa using hi') (by simpa using hj') e]

theorem mQ {H:Type} {enc:TypeId×Value->H} {P:Program} {w:World} {sp:Nat->Bool} :∀(ns:List String) (gs:List (DataW H)) (ps:List MemPlace),DataW.TrodVars enc P w sp ns gs ps->gs.length=ns.length
 | [],[],_,_=>rfl
 | [],_ ::_,_,h=>h.elim
 | _ ::_,[],_,h=>h.elim
 | _ ::ns,_ ::gs,_,h=>by
  obtain⟨_,_,_,_,_,q,_,_,_,_,h1,_⟩:=h;simp[mQ ns gs q h1]
theorem Fk {α:Type} :∀{l:List α},l.length=10->∃a b c d e f g h i j,l=[a,b,c,d,e,f,g,h,i,j]
 | [a,b,c,d,e,f,g,h,i,j],_=>⟨a,b,c,d,e,f,g,h,i,j,rfl⟩

end Rc
end Go.Proofs.YtpejepeekdjfoaaGreatDoor

namespace Go.Proofs.YtpejepeekdjfoaaGreatDoor
open Go.RowKit Go.ChangeShapes Go.WideShapes Go.Deep

theorem Ei {α:Type} {l:List α} (h:l.length=6):∃x0 x1 x2 x3 x4 x5,l=[x0,x1,x2,x3,x4,x5]:=by
 match l,h with
 | [x0,x1,x2,x3,x4,x5],_=>exact⟨_,_,_,_,_,_,rfl⟩
section
variable {H:Type} {enc:TypeId×Value->H} {P:Program} {w:World} {base:Nat} {spare:Nat->Bool} {held:Bool}

theorem tq {r:Reach} {b0:Nat} {t:TypeId} {fs:Array Field} {v:Value} {d:DataW H} {p:List MemPlace} (hs:P.underlying t=some (.struct fs)) (hone:oneCellFields P fs=true) (hC:P.cellsOf t=fs.size)
  (hv:Value.okWide P w r b0 t v) (h:DataW.Trod enc P w base spare held t v d p):
  ∃(cs:List Value) (n:Nat),v=.agg cs.toArray/\cs.length=fs.size/\∀(i:Nat) (f:Field),fs[i]?=some f->∃c y,cs[i]?=some c/\Hc enc P w base spare held n f.type [c]=some y:=by
 obtain⟨cs,rfl,hsz⟩:=okWide_struct hs hv;obtain⟨fuel,hf⟩:=h;obtain⟨xs,n,_,hx,hl,hlen,hf'⟩:=DataW.trod_struct hs hf;refine⟨cs.toList,n,rfl,by rw[Array.length_toList];exact hsz.trans hC,fun i f hi=>?_⟩;obtain⟨o,k⟩:=hone_of hone i f hi;have hlt:i<fs.size:=(FG.1 hi).1;have hlc:i<cs.toList.length:=by rw[Array.length_toList,hsz,hC];exact hlt
 have g:=hf' i f hi;rw[o,k] at g;have e:((Value.agg cs).cells.toList.drop i).take 1=[cs.toList[i]'hlc]:=by
  show (cs.toList.drop i).take 1=_;rw[GU hlc];rfl
 exact xL

theorem fe {t e:TypeId} {n:Nat} {c:Value} {y:DataW H×List MemPlace} (ht:P.underlying t=some (.slice e)) (he:P.underlying e=some .string) (hc:P.cellsOf e=1)
  (h:Hc enc P w base spare held n t [c]=some y):∃a len cap zs,c=.slice a len cap/\ay w a len cap zs:=by
 rcases open_strs ht he hc h with ⟨hcs,_⟩|⟨a,len,cap,m,Sx,hcs,hb,hl,hm,hmm,_,hx⟩
 ·exact⟨none,0,0,[],by simpa using hcs,rfl,Ft _,by omega,fun j x hx=>by simp at hx,Or.inl rfl⟩
 ·obtain⟨hlm,hm'⟩:=ld;refine⟨some a,len,cap,(Gq len).map Sx,by simpa using hcs,by simp,hl,hm',fun j x hj=>?_,?_⟩
  ·rw[FC] at hj;by_cases hjl:j<len
   ·rw[List.getElem?_range hjl] at hj;obtain rfl:=Fq hj;have:=(hx j af).2;unfold maxLen at this;omega
   ·exact vG
  ·by_cases h0:len=0
   ·subst h0;exact Or.inl rfl
   right;obtain⟨b,o,spot⟩:=a;have h0':=(hx 0 af).1;have hspot:spot=none:=by simpa[Addr.add] using World.cell?_spot h0'
   subst hspot;refine⟨b,o,rfl,?_,fun j x hj=>?_⟩
   ·rw[FT] at h0';rcases Nat.lt_or_ge b w.heap.size with h1|h1
    ·exact h1
    ·simp[World.cell?,Array.getElem?_eq_none h1] at h0'
   ·rw[FC] at hj;by_cases hjl:j<len
    ·rw[List.getElem?_range hjl] at hj;obtain rfl:=Fq hj;have:=(hx j af).1;rw[FT] at this;exact this
    ·exact vG
end

section
variable {H:Type} {enc:TypeId×Value->H} {w:World} {base:Nat} {spare:Nat->Bool} {held:Bool}

theorem eA {P:Program} {n:Nat} {t:TypeId} {fs:Array Field} {cs:List Value} {x:DataW H×List MemPlace} (hs:P.underlying t=some (.struct fs)) (hone:oneCellFields P fs=true) (hC:P.cellsOf t=fs.size)
  (h:Hc enc P w base spare held n t cs=some x):
  ∃(n:Nat),cs.length=fs.size/\∀(i:Nat) (f:Field),fs[i]?=some f->∃c y,cs[i]?=some c/\Hc enc P w base spare held n f.type [c]=some y:=by
 obtain⟨xs,n,_,hx,hl,hlen,hf'⟩:=DataW.trod_struct hs h;refine⟨n,hl.trans hC,fun i f hi=>?_⟩;obtain⟨o,k⟩:=hone_of hone i f hi;have hlt:i<fs.size:=(FG.1 hi).1;have hlc:i<cs.length:=by rw[hl,hC];exact hlt
 have g:=hf' i f hi;rw[o,k] at g;have e:(cs.drop i).take 1=[cs[i]'hlc]:=by
  rw[GU hlc];rfl
 exact xL

end

end Go.Proofs.YtpejepeekdjfoaaGreatDoor

namespace Go.Proofs.YtpejepeekdjfoaaGreatDoor
open Go.RowKit Go.ChangeShapes Go.WideShapes Go.Deep
namespace Rc

section
variable {H:Type} {enc:TypeId×Value->H} {w:World} {base:Nat} {spare:Nat->Bool} {held:Bool}

theorem qS {b o n:Nat} {cs:List Value} {x:DataW H×List MemPlace} (hc:∀i,i<7->w.cell? ⟨b,o+i,none⟩=cs[i]?) (h:Hc enc Tryz.prog w base spare held n 85 cs=some x):∃v:Nd,RAt w b o (ndF v):=by
 obtain⟨m,hl,hf⟩:=eA Tryz.underlying85 aq aq h;obtain⟨c0,y0,e0,t0⟩:=hf 0 _ rfl;obtain⟨b0,q0,-,s0⟩:=GH Tryz.underlying9 t0;obtain rfl:c0=.string b0:=by simpa using q0
 obtain⟨c1,y1,e1,t1⟩:=hf 1 _ rfl;obtain⟨b1,q1,-,s1⟩:=GH Tryz.underlying9 t1;obtain rfl:c1=.string b1:=by simpa using q1
 obtain⟨c2,y2,e2,t2⟩:=hf 2 _ rfl;obtain⟨b2,q2,-,s2⟩:=Hm Tryz.underlying2 t2;obtain rfl:c2=.int .i64 b2:=by simpa using q2
 obtain⟨c3,y3,e3,t3⟩:=hf 3 _ rfl;obtain⟨b3,q3,-,s3⟩:=Hm Tryz.underlying2 t3;obtain rfl:c3=.int .i64 b3:=by simpa using q3
 obtain⟨c4,y4,e4,t4⟩:=hf 4 _ rfl;obtain⟨b4,q4,-,s4⟩:=Hm Tryz.underlying2 t4;obtain rfl:c4=.int .i64 b4:=by simpa using q4
 obtain⟨c5,y5,e5,t5⟩:=hf 5 _ rfl;obtain⟨b5,q5,-⟩:=Hq Tryz.underlying4 t5;obtain rfl:c5=.bool b5:=by simpa using q5
 obtain⟨c6,y6,e6,t6⟩:=hf 6 _ rfl;obtain⟨b6,l6,p6,zz,rfl,r6⟩:=fe Tryz.underlying55 Tryz.underlying9 aq t6;unfold maxLen at s0 s1;refine⟨⟨b0,b1,b2,b3,b4,b5,zz⟩,fun i f hi=>?_⟩;rcases i with _|_|_|_|_|_|_|i
 ·exact j6
 ·cases hi;exact⟨_,(hc 1 af).trans e1,rfl,show b1.size<=_ by omega⟩
 ·cases hi;exact⟨_,(hc 2 af).trans e2,rfl⟩
 ·cases hi;exact⟨_,(hc 3 af).trans e3,rfl⟩
 ·cases hi;exact⟨_,(hc 4 af).trans e4,rfl⟩
 ·cases hi;exact⟨_,(hc 5 af).trans e5,rfl⟩
 ·cases hi;exact⟨_,(hc 6 af).trans e6,b6,l6,p6,rfl,r6⟩
 ·first|(cases hi;done)|(simp[ndF] at hi;done)

theorem Ah {n:Nat} {c:Value} {y:DataW H×List MemPlace} (h:Hc enc Tryz.prog w base spare held n 22 [c]=some y):∃a len cap,∃xs:List Nd,c=.slice a len cap/\aN w a len cap 7 (xs.map ndF):=by
 rcases open_slice Tryz.underlying22 h with ⟨hcs,_⟩|⟨a,len,cap,m,n',D,Pl,hcs,hb,hl,hm,hmm,_,hx⟩
 ·exact jR
 obtain⟨hlm,hm'⟩:=ld;have hce:Tryz.prog.cellsOf 85=7:=aq
 rw[hce] at hx;by_cases h0:len=0
 ·exact jQ
 obtain⟨b,o,spot⟩:=a;obtain⟨cs0,k1,k2⟩:=hx 0 af;have hspot:spot=none:=by
  exact jW
 subst hspot;have hblt:b<w.heap.size:=by
  exact jX
 have each:∀i,i<len->∃v:Nd,RAt w b (o+i*7) (ndF v):=fun i hi=>by
  obtain⟨cs,k1,k2⟩:=hx i af;obtain⟨_,hl0,hc0⟩:=World.cells?_some k1;refine qS (fun j hj=>?_) k2;exact jS
 have hin:Inhabited Nd:=⟨⟨⟨#[]⟩,⟨#[]⟩,0,0,0,false,[]⟩⟩;exact oc

theorem rh {b o n:Nat} {cs:List Value} {x:DataW H×List MemPlace} (hc:∀i,i<4->w.cell? ⟨b,o+i,none⟩=cs[i]?) (h:Hc enc Tryz.prog w base spare held n 88 cs=some x):∃v:Kd,RAt w b o (kdF v):=by
 obtain⟨m,hl,hf⟩:=eA Tryz.underlying88 aq aq h;obtain⟨c0,y0,e0,t0⟩:=hf 0 _ rfl;obtain⟨b0,q0,-,s0⟩:=GH Tryz.underlying9 t0;obtain rfl:c0=.string b0:=by simpa using q0
 obtain⟨c1,y1,e1,t1⟩:=hf 1 _ rfl;obtain⟨b1,q1,-⟩:=Hq Tryz.underlying4 t1;obtain rfl:c1=.bool b1:=by simpa using q1
 obtain⟨c2,y2,e2,t2⟩:=hf 2 _ rfl;obtain⟨b2,q2,-⟩:=Hq Tryz.underlying4 t2;obtain rfl:c2=.bool b2:=by simpa using q2
 obtain⟨c3,y3,e3,t3⟩:=hf 3 _ rfl;obtain⟨b3,q3,-,s3⟩:=GH Tryz.underlying9 t3;obtain rfl:c3=.string b3:=by simpa using q3
 unfold maxLen at s0 s3;refine⟨⟨b0,b1,b2,b3⟩,fun i f hi=>?_⟩;rcases i with _|_|_|_|i
 ·exact j6
 ·cases hi;exact⟨_,(hc 1 af).trans e1,rfl⟩
 ·cases hi;exact⟨_,(hc 2 af).trans e2,rfl⟩
 ·cases hi;exact⟨_,(hc 3 af).trans e3,rfl,show b3.size<=_ by omega⟩
 ·first|(cases hi;done)|(simp[kdF] at hi;done)

theorem Ai {n:Nat} {c:Value} {y:DataW H×List MemPlace} (h:Hc enc Tryz.prog w base spare held n 23 [c]=some y):∃a len cap,∃xs:List Kd,c=.slice a len cap/\aN w a len cap 4 (xs.map kdF):=by
 rcases open_slice Tryz.underlying23 h with ⟨hcs,_⟩|⟨a,len,cap,m,n',D,Pl,hcs,hb,hl,hm,hmm,_,hx⟩
 ·exact jR
 obtain⟨hlm,hm'⟩:=ld;have hce:Tryz.prog.cellsOf 88=4:=aq
 rw[hce] at hx;by_cases h0:len=0
 ·exact jQ
 obtain⟨b,o,spot⟩:=a;obtain⟨cs0,k1,k2⟩:=hx 0 af;have hspot:spot=none:=by
  exact jW
 subst hspot;have hblt:b<w.heap.size:=by
  exact jX
 have each:∀i,i<len->∃v:Kd,RAt w b (o+i*4) (kdF v):=fun i hi=>by
  obtain⟨cs,k1,k2⟩:=hx i af;obtain⟨_,hl0,hc0⟩:=World.cells?_some k1;refine rh (fun j hj=>?_) k2;exact jS
 have hin:Inhabited Kd:=⟨⟨⟨#[]⟩,false,false,⟨#[]⟩⟩⟩;exact oc

theorem pj {b o n:Nat} {cs:List Value} {x:DataW H×List MemPlace} (hc:∀i,i<8->w.cell? ⟨b,o+i,none⟩=cs[i]?) (h:Hc enc Tryz.prog w base spare held n 91 cs=some x):∃v:Vd,RAt w b o (vdF v):=by
 obtain⟨m,hl,hf⟩:=eA Tryz.underlying91 aq aq h;obtain⟨c0,y0,e0,t0⟩:=hf 0 _ rfl;obtain⟨b0,q0,-,s0⟩:=GH Tryz.underlying9 t0;obtain rfl:c0=.string b0:=by simpa using q0
 obtain⟨c1,y1,e1,t1⟩:=hf 1 _ rfl;obtain⟨b1,q1,-,s1⟩:=Hm Tryz.underlying2 t1;obtain rfl:c1=.int .i64 b1:=by simpa using q1
 obtain⟨c2,y2,e2,t2⟩:=hf 2 _ rfl;obtain⟨b2,q2,-,s2⟩:=GH Tryz.underlying9 t2;obtain rfl:c2=.string b2:=by simpa using q2
 obtain⟨c3,y3,e3,t3⟩:=hf 3 _ rfl;obtain⟨b3,q3,-,s3⟩:=GH Tryz.underlying9 t3;obtain rfl:c3=.string b3:=by simpa using q3
 obtain⟨c4,y4,e4,t4⟩:=hf 4 _ rfl;obtain⟨b4,q4,-⟩:=Hq Tryz.underlying4 t4;obtain rfl:c4=.bool b4:=by simpa using q4
 obtain⟨c5,y5,e5,t5⟩:=hf 5 _ rfl;obtain⟨b5,q5,-,s5⟩:=GH Tryz.underlying9 t5;obtain rfl:c5=.string b5:=by simpa using q5
 obtain⟨c6,y6,e6,t6⟩:=hf 6 _ rfl;obtain⟨b6,q6,-⟩:=Hq Tryz.underlying4 t6;obtain rfl:c6=.bool b6:=by simpa using q6
 obtain⟨c7,y7,e7,t7⟩:=hf 7 _ rfl;obtain⟨b7,l7,p7,zz,rfl,r7⟩:=fe Tryz.underlying55 Tryz.underlying9 aq t7;unfold maxLen at s0 s2 s3 s5;refine⟨⟨b0,b1,b2,b3,b4,b5,b6,zz⟩,fun i f hi=>?_⟩;rcases i with _|_|_|_|_|_|_|_|i
 ·exact j6
 ·cases hi;exact⟨_,(hc 1 af).trans e1,rfl⟩
 ·exact qn
 ·cases hi;exact⟨_,(hc 3 af).trans e3,rfl,show b3.size<=_ by omega⟩
 ·cases hi;exact⟨_,(hc 4 af).trans e4,rfl⟩
 ·cases hi;exact⟨_,(hc 5 af).trans e5,rfl,show b5.size<=_ by omega⟩
 ·cases hi;exact⟨_,(hc 6 af).trans e6,rfl⟩
 ·cases hi;exact⟨_,(hc 7 af).trans e7,b7,l7,p7,rfl,r7⟩
 ·first|(cases hi;done)|(simp[vdF] at hi;done)

theorem Af {n:Nat} {c:Value} {y:DataW H×List MemPlace} (h:Hc enc Tryz.prog w base spare held n 24 [c]=some y):∃a len cap,∃xs:List Vd,c=.slice a len cap/\aN w a len cap 8 (xs.map vdF):=by
 rcases open_slice Tryz.underlying24 h with ⟨hcs,_⟩|⟨a,len,cap,m,n',D,Pl,hcs,hb,hl,hm,hmm,_,hx⟩
 ·exact jR
 obtain⟨hlm,hm'⟩:=ld;have hce:Tryz.prog.cellsOf 91=8:=aq
 rw[hce] at hx;by_cases h0:len=0
 ·exact jQ
 obtain⟨b,o,spot⟩:=a;obtain⟨cs0,k1,k2⟩:=hx 0 af;have hspot:spot=none:=by
  exact jW
 subst hspot;have hblt:b<w.heap.size:=by
  exact jX
 have each:∀i,i<len->∃v:Vd,RAt w b (o+i*8) (vdF v):=fun i hi=>by
  obtain⟨cs,k1,k2⟩:=hx i af;obtain⟨_,hl0,hc0⟩:=World.cells?_some k1;refine pj (fun j hj=>?_) k2;exact jS
 have hin:Inhabited Vd:=⟨⟨⟨#[]⟩,0,⟨#[]⟩,⟨#[]⟩,false,⟨#[]⟩,false,[]⟩⟩;exact oc

theorem pb {b o n:Nat} {cs:List Value} {x:DataW H×List MemPlace} (hc:∀i,i<5->w.cell? ⟨b,o+i,none⟩=cs[i]?) (h:Hc enc Tryz.prog w base spare held n 94 cs=some x):∃v:Xd,RAt w b o (xdF v):=by
 obtain⟨m,hl,hf⟩:=eA Tryz.underlying94 aq aq h;obtain⟨c0,y0,e0,t0⟩:=hf 0 _ rfl;obtain⟨b0,q0,-,s0⟩:=GH Tryz.underlying9 t0;obtain rfl:c0=.string b0:=by simpa using q0
 obtain⟨c1,y1,e1,t1⟩:=hf 1 _ rfl;obtain⟨b1,q1,-,s1⟩:=Hm Tryz.underlying2 t1;obtain rfl:c1=.int .i64 b1:=by simpa using q1
 obtain⟨c2,y2,e2,t2⟩:=hf 2 _ rfl;obtain⟨b2,q2,-,s2⟩:=GH Tryz.underlying9 t2;obtain rfl:c2=.string b2:=by simpa using q2
 obtain⟨c3,y3,e3,t3⟩:=hf 3 _ rfl;obtain⟨b3,q3,-⟩:=Hq Tryz.underlying4 t3;obtain rfl:c3=.bool b3:=by simpa using q3
 obtain⟨c4,y4,e4,t4⟩:=hf 4 _ rfl;obtain⟨b4,q4,-,s4⟩:=GH Tryz.underlying9 t4;obtain rfl:c4=.string b4:=by simpa using q4
 unfold maxLen at s0 s2 s4;refine⟨⟨b0,b1,b2,b3,b4⟩,fun i f hi=>?_⟩;rcases i with _|_|_|_|_|i
 ·exact j6
 ·cases hi;exact⟨_,(hc 1 af).trans e1,rfl⟩
 ·exact qn
 ·cases hi;exact⟨_,(hc 3 af).trans e3,rfl⟩
 ·cases hi;exact⟨_,(hc 4 af).trans e4,rfl,show b4.size<=_ by omega⟩
 ·first|(cases hi;done)|(simp[xdF] at hi;done)

theorem Ae {n:Nat} {c:Value} {y:DataW H×List MemPlace} (h:Hc enc Tryz.prog w base spare held n 25 [c]=some y):∃a len cap,∃xs:List Xd,c=.slice a len cap/\aN w a len cap 5 (xs.map xdF):=by
 rcases open_slice Tryz.underlying25 h with ⟨hcs,_⟩|⟨a,len,cap,m,n',D,Pl,hcs,hb,hl,hm,hmm,_,hx⟩
 ·exact jR
 obtain⟨hlm,hm'⟩:=ld;have hce:Tryz.prog.cellsOf 94=5:=aq
 rw[hce] at hx;by_cases h0:len=0
 ·exact jQ
 obtain⟨b,o,spot⟩:=a;obtain⟨cs0,k1,k2⟩:=hx 0 af;have hspot:spot=none:=by
  exact jW
 subst hspot;have hblt:b<w.heap.size:=by
  exact jX
 have each:∀i,i<len->∃v:Xd,RAt w b (o+i*5) (xdF v):=fun i hi=>by
  obtain⟨cs,k1,k2⟩:=hx i af;obtain⟨_,hl0,hc0⟩:=World.cells?_some k1;refine pb (fun j hj=>?_) k2;exact jS
 have hin:Inhabited Xd:=⟨⟨⟨#[]⟩,0,⟨#[]⟩,false,⟨#[]⟩⟩⟩;exact oc

theorem qN {b o n:Nat} {cs:List Value} {x:DataW H×List MemPlace} (hc:∀i,i<6->w.cell? ⟨b,o+i,none⟩=cs[i]?) (h:Hc enc Tryz.prog w base spare held n 96 cs=some x):∃v:Pd,RAt w b o (pdF v):=by
 obtain⟨m,hl,hf⟩:=eA Tryz.underlying96 aq aq h;obtain⟨c0,y0,e0,t0⟩:=hf 0 _ rfl;obtain⟨b0,q0,-,s0⟩:=GH Tryz.underlying9 t0;obtain rfl:c0=.string b0:=by simpa using q0
 obtain⟨c1,y1,e1,t1⟩:=hf 1 _ rfl;obtain⟨b1,q1,-,s1⟩:=Hm Tryz.underlying2 t1;obtain rfl:c1=.int .i64 b1:=by simpa using q1
 obtain⟨c2,y2,e2,t2⟩:=hf 2 _ rfl;obtain⟨b2,q2,-,s2⟩:=GH Tryz.underlying9 t2;obtain rfl:c2=.string b2:=by simpa using q2
 obtain⟨c3,y3,e3,t3⟩:=hf 3 _ rfl;obtain⟨b3,l3,p3,zz,rfl,r3⟩:=fe Tryz.underlying55 Tryz.underlying9 aq t3;obtain⟨c4,y4,e4,t4⟩:=hf 4 _ rfl;obtain⟨b4,q4,-,s4⟩:=GH Tryz.underlying9 t4;obtain rfl:c4=.string b4:=by simpa using q4
 obtain⟨c5,y5,e5,t5⟩:=hf 5 _ rfl;obtain⟨b5,q5,-,s5⟩:=Hm Tryz.underlying2 t5;obtain rfl:c5=.int .i64 b5:=by simpa using q5
 unfold maxLen at s0 s2 s4;refine⟨⟨b0,b1,b2,zz,b4,b5⟩,fun i f hi=>?_⟩;rcases i with _|_|_|_|_|_|i
 ·exact j6
 ·cases hi;exact⟨_,(hc 1 af).trans e1,rfl⟩
 ·exact qn
 ·cases hi;exact⟨_,(hc 3 af).trans e3,b3,l3,p3,rfl,r3⟩
 ·cases hi;exact⟨_,(hc 4 af).trans e4,rfl,show b4.size<=_ by omega⟩
 ·cases hi;exact⟨_,(hc 5 af).trans e5,rfl⟩
 ·first|(cases hi;done)|(simp[pdF] at hi;done)

theorem Ag {n:Nat} {c:Value} {y:DataW H×List MemPlace} (h:Hc enc Tryz.prog w base spare held n 26 [c]=some y):∃a len cap,∃xs:List Pd,c=.slice a len cap/\aN w a len cap 6 (xs.map pdF):=by
 rcases open_slice Tryz.underlying26 h with ⟨hcs,_⟩|⟨a,len,cap,m,n',D,Pl,hcs,hb,hl,hm,hmm,_,hx⟩
 ·exact jR
 obtain⟨hlm,hm'⟩:=ld;have hce:Tryz.prog.cellsOf 96=6:=aq
 rw[hce] at hx;by_cases h0:len=0
 ·exact jQ
 obtain⟨b,o,spot⟩:=a;obtain⟨cs0,k1,k2⟩:=hx 0 af;have hspot:spot=none:=by
  exact jW
 subst hspot;have hblt:b<w.heap.size:=by
  exact jX
 have each:∀i,i<len->∃v:Pd,RAt w b (o+i*6) (pdF v):=fun i hi=>by
  obtain⟨cs,k1,k2⟩:=hx i af;obtain⟨_,hl0,hc0⟩:=World.cells?_some k1;refine qN (fun j hj=>?_) k2;exact jS
 have hin:Inhabited Pd:=⟨⟨⟨#[]⟩,0,⟨#[]⟩,[],⟨#[]⟩,0⟩⟩;exact oc

end

end Rc
end Go.Proofs.YtpejepeekdjfoaaGreatDoor

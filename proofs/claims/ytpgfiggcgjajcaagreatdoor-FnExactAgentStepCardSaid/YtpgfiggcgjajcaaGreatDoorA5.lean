import Derived.Test.YtpgfiggcgjajcaaGreatDoorA4
import Derived.Deep.Cut
import Derived.Deep.CutRange
import Derived.Laws.StructEq
import Derived.Stop.LaidErr
import Derived.ChangeVars
import Derived.Deep.Strs
import Derived.Deep.Fields
import Derived.WideShapes
import Derived.ChangeArms
/-
 Whether a pod of a node has a disk, as the program asks it.
-/
set_option maxRecDepth 100000
set_option maxHeartbeats 12800000
namespace Go.Proofs.YtpgfiggcgjajcaaGreatDoor
open Go.RowKit
namespace Rc
open Mk

def PwHeld (W : World) (nb vb : Nat) (t : ByteArray) (v : Vd) (ua : Option Addr) (ul uc : Nat) : Prop:=W.heap[nb]? = some (.cells #[.string t] 9 (0,0)) ∧ W.heap[vb]? = some (.cells #[.string v.n,.int .i64 v.c,.string v.z,.string v.k,.bool v.x,.string v.m,.bool v.y,.slice ua ul uc] 105 (0,0))
theorem PwHeld.below {W W' : World} {nb vb : Nat} {t : ByteArray} {v : Vd} {ua : Option Addr} {ul uc : Nat} (h : PwHeld W nb vb t v ua ul uc) (hb : Below W.heap.size W W') : PwHeld W' nb vb t v ua ul uc :=
 ⟨(hb.block _ (lt_of_some h.1)).trans h.1,(hb.block _ (lt_of_some h.2)).trans h.2⟩
def Wants (p : Pd) (t m : ByteArray) : Prop:=p.d = t ∧ InL p.zs m

theorem pw1_any (p : Pd) (va : Option Addr) (vl vc nb vb : Nat) (t : ByteArray) (v : Vd) (ua : Option Addr) (ul uc : Nat) (w : World) (hr : TxRow w va vl vc p.zs) (hh : PwHeld w nb vb t v ua ul uc) :
  Calls Tryz.prog 91 #[.agg #[.string p.n,.int .i64 p.c,.string p.z,.slice va vl vc,.string p.d,.int .i64 p.p],.pointer (some ⟨nb,0,none⟩),.pointer (some ⟨vb,0,none⟩)] w (BoolB (Wants p t v.m) w):=by
 have HR:=hidK hr;obtain ⟨h1,h2⟩:=hh;have n0:=cs1 h1;have hnl:=lt_of_some h1;obtain ⟨v0,v1,v2,v3,v4,v5,v6,v7⟩:=cs8 h2;have hvl:=lt_of_some h2;clear hr h1 h2
 by_cases he : p.d = t
 ·have hq:=tl_yes he;have HE:=hidK he;clear he
  go_enter Tryz.func91,Tryz.ntmps91
  go_wp2_with fail;refine (icontains_any va vl vc p.zs v.m _ (HR.out.below (below1 _ _))).mono ?_;rintro e w1 ⟨r,rfl,hi,hb⟩;have HB:=hidK ((below1 w _).trans (hb.mono (by simp)));clear hb
  go_wp2
  go_ret;exact ⟨r,rfl,⟨fun h => ⟨HE.out,hi.1 h⟩,fun h => hi.2 h.2⟩,HB.out⟩
 ·have hq:=tl_no he;have HE:=hidK he;clear he
  go_enter Tryz.func91,Tryz.ntmps91
  go_wp2
  go_ret;exact BoolB.f (fun h => HE.out h.1) (below1 _ _)

theorem pwx_any (a : Option Addr) (len cap : Nat) (ps : List Pd) (nb vb : Nat) (t : ByteArray) (v : Vd) (ua : Option Addr) (ul uc : Nat) (w : World) (hr : RRow w a len cap 6 (ps.map pdF)) (hh : PwHeld w nb vb t v ua ul uc) :
  Calls Tryz.prog 112 #[.slice a len cap,.func (.func 91) #[] #[.pointer (some ⟨nb,0,none⟩),.pointer (some ⟨vb,0,none⟩)]] w fun e w' => (∃ r : Int,e = .returned (.int .i64 r) ∧ ((0 ≤ r ∧ ∃ (j : Nat) (p : Pd),ps[j]? = some p ∧ Wants p t v.m) ∨ (r = -1 ∧ ∀ (j : Nat) (p : Pd),ps[j]? = some p → ¬ Wants p t v.m))) ∧ Below w.heap.size w w':=by
 have HR:=hidK hr;have HH:=hidK hh;have hlc : len ≤ 9223372036854775807:=Nat.le_trans hr.2.1 hr.2.2.1
 have hxl : ps.length = len:=by simpa using hr.1
 clear hr hh
 go_enter Tryz.func112,Tryz.ntmps112
 go_wp2
 go_loopw [8] (fun i wr => ∃ k : Nat,k ≤ len ∧ i = .int .i64 k ∧ Hid (∀ (j : Nat) p,j < k → ps[j]? = some p → ¬ Wants p t v.m) ∧ Hid (Below w.heap.size w wr)) (fun i _ => len - (intOf i).toNat)
 case atStart => exact ⟨0,by omega,rfl,fun _ _ h => absurd h (by omega),Below.refl _ _⟩
 case round =>
  obtain ⟨k,hk,rfl,HE,HB⟩:=hrel
  by_cases hlt : k < len
  ·obtain ⟨b,o,p,rfl,hb,hx,hat⟩:=pd_at (HR.out.below HB.out) hlt;obtain ⟨va,vl,vc,hvr,z0,z2,z4,c0,c1,c2,c3,c4,c5⟩:=pd_cells hat;have HX:=hidK hx;have HV:=hidK hvr;clear hat hx hvr z0 z2 z4;go_wp2_with fail;refine (pw1_any p va vl vc nb vb t v ua ul uc _ HV.out (HH.out.below HB.out)).mono ?_;rintro e w1 ⟨r,rfl,hi,hb1⟩;have HI:=hidK hi;have HB1:=upB HB hb1;clear hi hb1 c0 c1 c2 c3 c4 c5
   cases r
   ·go_wp2
    refine ⟨⟨k + 1,by omega,by go_num,fun j z hj hz => ?_,HB1.out⟩,by simp [intOf];omega⟩
    by_cases e : j = k
    ·subst e;rw [HX.out] at hz;obtain rfl:=Option.some.inj hz;exact fun q => (by have:=HI.out.2 q;cases this)
    ·exact HE.out j z (by omega) hz
   ·go_wp2
    go_ret;exact ⟨⟨k,rfl,.inl ⟨by omega,k,p,HX.out,HI.out.1 (by first | trivial | rfl)⟩⟩,HB1.out⟩
  ·obtain rfl : len = k:=by omega
   go_wp2
   go_ret;exact ⟨⟨-1,rfl,.inr ⟨rfl,fun j p hj => HE.out j p (by have:=(List.getElem?_eq_some_iff.1 hj).1;omega) hj⟩⟩,HB.out⟩

theorem pwc_any (a : Option Addr) (len cap : Nat) (ps : List Pd) (nb vb : Nat) (t : ByteArray) (v : Vd) (ua : Option Addr) (ul uc : Nat) (w : World) (hr : RRow w a len cap 6 (ps.map pdF)) (hh : PwHeld w nb vb t v ua ul uc) :
  Calls Tryz.prog 90 #[.slice a len cap,.func (.func 91) #[] #[.pointer (some ⟨nb,0,none⟩),.pointer (some ⟨vb,0,none⟩)]] w (BoolB (∃ (j : Nat) (p : Pd),ps[j]? = some p ∧ Wants p t v.m) w):=by
 have HR:=hidK hr;have HH:=hidK hh;clear hr hh
 go_enter Tryz.func90,Tryz.ntmps90
 go_wp2_with fail;refine (pwx_any a len cap ps nb vb t v ua ul uc _ HR.out HH.out).mono ?_;rintro e w1 ⟨⟨r,rfl,hi⟩,hb⟩;have HB:=hidK hb;clear hb
 rcases hi with ⟨h0,h1⟩ | ⟨rfl,h1⟩
 ·have H1:=hidK h1;clear h1
  go_wp2
  go_ret;exact BoolB.t H1.out HB.out
 ·have H1:=hidK h1;clear h1
  go_wp2
  go_ret;exact BoolB.f (fun ⟨j,p,h2,h3⟩ => H1.out j p h2 h3) HB.out

theorem ipw_any (d : Ad) (c : Cl) (v : Vd) (ua : Option Addr) (ul uc : Nat) (t : ByteArray) (w : World) (hr : ClRow w d c.raw) :
  Calls Tryz.prog 66 #[.agg #[.slice d.a1 d.l1 d.c1,.slice d.a2 d.l2 d.c2,.slice d.a3 d.l3 d.c3,.slice d.a4 d.l4 d.c4,.slice d.a5 d.l5 d.c5,.int .i64 c.now],.agg #[.string v.n,.int .i64 v.c,.string v.z,.string v.k,.bool v.x,.string v.m,.bool v.y,.slice ua ul uc],.string t] w (BoolB (∃ (j : Nat) (p : Pd),c.ps[j]? = some p ∧ Wants p t v.m) w):=by
 have HR:=hidK hr;have HB:=hidK (Below.refl w.heap.size w);clear hr
 go_enter Tryz.func66,Tryz.ntmps66
 go_wp2_with fail;refine (pwc_any d.a5 d.l5 d.c5 c.ps (w.heap.size + 1 + 1) (w.heap.size + 1) t v ua ul uc _ (HR.out.p.below (HB.out.trans ((below3 _ _ _ _).mono HB.out.size))) ⟨heap3_2 _ _ _ _,heap3_1 _ _ _ _⟩).mono ?_;rintro e w1 ⟨r,rfl,hi,hb⟩;obtain ⟨HA0,HA1,HA2,hbx⟩:=slots3 hb;have Bk:=hidK HA0;have Bv:=hidK HA1;have Bn:=hidK HA2;replace HB:=upB HB hbx;clear hb hbx HA0 HA1 HA2;have HI:=hidK hi;clear hi
 go_wp2
 go_ret;exact ⟨r,rfl,HI.out,HB.out⟩

def inB (zs : List ByteArray) (t : ByteArray) : Bool:=zs.any fun z => z.toList == t.toList
theorem inB_iff {zs : List ByteArray} {t : ByteArray} : inB zs t = true ↔ InL zs t:=by
 unfold inB;rw [List.any_eq_true]
 constructor
 ·rintro ⟨z,hz,he⟩;obtain ⟨j,hj⟩:=List.getElem?_of_mem hz;exact ⟨j,by rw [hj,tl_inj he]⟩
 ·rintro ⟨j,hj⟩;exact ⟨t,List.mem_of_getElem? hj,tl_yes rfl⟩
def wantB (c : Cl) (t m : ByteArray) : Bool:=c.ps.any fun p => (p.d.toList == t.toList) && inB p.zs m
theorem wantB_iff {c : Cl} {t m : ByteArray} : wantB c t m = true ↔ ∃ (j : Nat) (p : Pd),c.ps[j]? = some p ∧ Wants p t m:=by
 unfold wantB;rw [List.any_eq_true]
 constructor
 ·rintro ⟨p,hp,he⟩;obtain ⟨j,hj⟩:=List.getElem?_of_mem hp;rw [Bool.and_eq_true] at he;exact ⟨j,p,hj,tl_inj he.1,inB_iff.1 he.2⟩
 ·rintro ⟨j,p,hj,h1,h2⟩;exact ⟨p,List.mem_of_getElem? hj,by rw [Bool.and_eq_true];exact ⟨tl_yes h1,inB_iff.2 h2⟩⟩

def mntB (c : Cl) (t : ByteArray) (v : Vd) : Bool:=inB v.zs t && wantB c t v.m
def mntL (c : Cl) (t : ByteArray) (vs : List Vd) : List ByteArray:=(vs.filter (mntB c t)).map Vd.n
theorem mnt_yes {c : Cl} {t : ByteArray} {xs : List Vd} {k : Nat} {x : Vd} (h : xs[k]? = some x) (hv : mntB c t x = true) : mntL c t (xs.take (k + 1)) = mntL c t (xs.take k) ++ [x.n]:=by
 unfold mntL;rw [List.take_add_one,h,List.filter_append,List.map_append]
 simp [hv]
theorem mnt_no {c : Cl} {t : ByteArray} {xs : List Vd} {k : Nat} {x : Vd} (h : xs[k]? = some x) (hv : mntB c t x = false) : mntL c t (xs.take (k + 1)) = mntL c t (xs.take k):=by
 unfold mntL;rw [List.take_add_one,h,List.filter_append,List.map_append]
 simp [hv]
theorem mnt_size {c : Cl} {t : ByteArray} {w : World} {a : Option Addr} {len cap : Nat} {xs : List Vd} (h : RRow w a len cap 8 (xs.map vdF)) (j : Nat) (z : ByteArray) (hz : (mntL c t xs)[j]? = some z) : z.size ≤ 9223372036854775807:=by
 have hm:=List.mem_of_getElem? hz;obtain ⟨x,hx,rfl⟩:=List.mem_map.1 hm;obtain ⟨i,hi⟩:=List.getElem?_of_mem ((List.mem_filter.1 hx).1)
 have hl : xs.length = len:=by simpa using h.1
 obtain ⟨b,o,y,-,-,hy,hat⟩:=vd_at h (j:=i) (by have:=(List.getElem?_eq_some_iff.1 hi).1;omega);rw [hi] at hy
 cases hy
 obtain ⟨_,_,_,_,z0,_⟩:=vd_cells hat;exact z0
theorem mntL_few (c : Cl) (t : ByteArray) : (mntL c t c.vs).length ≤ c.vs.length:=by
 unfold mntL;rw [List.length_map];exact List.length_filter_le _ _
def untilN (c : Cl) : Int:=if c.now + 10 < 1000000 then c.now + 10 else 1000000
def mntN (c : Cl) (n : Nd) : List ByteArray:=if c.now < n.u then mntL c n.n c.vs else []
def stepN (c : Cl) (n : Nd) : Nd:=⟨n.n,n.z,n.c,n.s,untilN c,n.d,mntN c n⟩
def PhIs (c : Cl) (n : Nd) (f : Pd → Int) : Prop:=∀ p,(f p = 2 ∧ c.now < n.u ∧ AllS c p (stepN c n)) ∨ (f p = 1 ∧ ¬ (c.now < n.u ∧ AllS c p (stepN c n)))
theorem PhIs.ex (c : Cl) (n : Nd) : ∃ f,PhIs c n f:=by
 classical
 refine ⟨fun p => if c.now < n.u ∧ AllS c p (stepN c n) then 2 else 1,fun p => ?_⟩
 by_cases h : c.now < n.u ∧ AllS c p (stepN c n)
 ·exact .inl ⟨if_pos h,h⟩
 ·exact .inr ⟨if_neg h,h⟩
theorem PhIs.uniq {c : Cl} {n : Nd} {f g : Pd → Int} (h : PhIs c n f) (h' : PhIs c n g) : f = g:=by
 funext p
 rcases h p with ⟨a,b⟩ | ⟨a,b⟩ <;> rcases h' p with ⟨a',b'⟩ | ⟨a',b'⟩
 ·rw [a,a']
 ·exact absurd b b'
 ·exact absurd b' b
 ·rw [a,a']
def stepC (c : Cl) (t : ByteArray) (n : Nd) (f : Pd → Int) : Cl:=⟨c.ns.set (pl Nd.n c.ns t) (stepN c n),c.ks,c.vs,c.xs,c.ps.map (phF t f),c.now⟩
def AgIs (c : Cl) (t : ByteArray) (o : Co) : Prop:=(∃ i,AskNWhy c t i ∧ o = co0 (codeOf i)) ∨ ∃ n,AskNOk c t n ∧ ((n.d = true ∧ o = co0 (codeOf 8)) ∨ (n.d = false ∧ ∃ f,PhIs c n f ∧ o = ⟨stepC c t n f,⟨#[]⟩,0⟩))
theorem AgIs.same {c : Cl} {t : ByteArray} {o o' : Co} (h : AgIs c t o) (h' : AgIs c t o') : o = o':=by
 rcases h with ⟨i,a,rfl⟩ | ⟨n,a,h⟩ <;> rcases h' with ⟨j,b,rfl⟩ | ⟨m,b,h'⟩
 ·rw [a.uniq b]
 ·exact (b.no a).elim
 ·exact (a.no b).elim
 ·obtain rfl:=a.uniq b
  rcases h with ⟨h1,rfl⟩ | ⟨h1,f,hf,rfl⟩ <;> rcases h' with ⟨h2,rfl⟩ | ⟨h2,g,hg,rfl⟩
  ·rfl
  ·rw [h1] at h2;cases h2
  ·rw [h1] at h2;cases h2
  ·rw [hf.uniq hg]
theorem phF_zs (t : ByteArray) (f : Pd → Int) (p : Pd) : (phF t f p).zs = p.zs:=by unfold phF;split <;> rfl
theorem AgIs.marks {c : Cl} {t : ByteArray} {o : Co} (h : AgIs c t o) (hf : ClFit c) : mkCn 1 o.c.raw ≤ 1152921504606846976:=by
 rcases h with ⟨i,_,rfl⟩ | ⟨n,a,⟨_,rfl⟩ | ⟨_,f,_,rfl⟩⟩
 ·exact co0_marks _
 ·exact co0_marks _
 ·refine ClFit.marks (c:=stepC c t n f) ⟨?_,fun j y hy => ?_,hf.l2,hf.l3,hf.f3,hf.l4,?_,fun j y hy => ?_⟩
  ·show (c.ns.set _ _).length ≤ _
   rw [List.length_set];exact hf.l1
  ·have hy' : (c.ns.set (pl Nd.n c.ns t) (stepN c n))[j]? = some y:=hy;rw [get_set (List.getElem?_eq_some_iff.1 a.2.2.1).1] at hy'
   split at hy'
   ·obtain rfl:=Option.some.inj hy';have h8 : (c.vs.length : Int) ≤ 8:=a.2.1.2.1.2.2.1.1;have h9:=mntL_few c n.n
    show (mntN c n).length ≤ _
    unfold mntN
    split
    ·omega
    ·simp
   ·exact hf.f1 j y hy'
  ·show (c.ps.map _).length ≤ _
   rw [List.length_map];exact hf.l5
  ·have hy' : (c.ps.map (phF t f))[j]? = some y:=hy;rw [List.getElem?_map,Option.map_eq_some_iff] at hy';obtain ⟨p,h1,rfl⟩:=hy';rw [phF_zs];exact hf.f5 j p h1
theorem step_eq {c : Cl} {t : ByteArray} {n : Nd} {f : Pd → Int} (h : AskNOk c t n) : phC (putN c (stepN c n)) (stepN c n).n f = stepC c t n f:=by
 have e : n.n = t:=h.2.2.2;have h1:=putN_set (m:=stepN c n) h.2.1 h.2.2.1 rfl;unfold phC stepC;rw [h1]
 show (⟨_,_,_,_,c.ps.map (phF n.n f),_⟩ : Cl) = _
 rw [e]
theorem RightI.bds {c : Cl} {p : Pd} {k : Nat} (h : RightI c) (hp : c.ps[k]? = some p) (hd : ¬ p.d = ⟨#[]⟩) : ∀ (j : Nat) t,p.zs[j]? = some t → ∃ v,IsBd c t v:=by
 have h1:=(placed_iff h.2.1 ((bound_iff h.2.1).1 h.2.2.1)).1 h.2.2.2.1;obtain ⟨_,b,_⟩:=h1.1 k p hp;intro j t ht;obtain ⟨v,_,_,e3,_⟩:=(b j t ht).2.resolve_left hd;exact ⟨v,e3⟩
theorem NameOk.ne {x : ByteArray} (h : NameOk x) : ¬ x = ⟨#[]⟩:=fun e => by
 rw [e] at h;have h8:=h.1
 revert h8
 decide

theorem ilive_any (u now : Int) (w : World) :
  Calls Tryz.prog 64 #[.agg #[.int .i64 u,.int .i64 now]] w fun e w' => e = .returned (.bool (decide (now < u))) ∧ Below w.heap.size w w':=by
 go_enter Tryz.func64,Tryz.ntmps64
 go_wp2
 go_ret;exact ⟨rfl,below1 _ _⟩

theorem irenew_any (u now : Int) (w : World) (h0 : 0 ≤ now) (h1 : now ≤ 1000000) :
  Calls Tryz.prog 32 #[.agg #[.int .i64 u,.int .i64 now]] w fun e w' => e = .returned (.int .i64 (if now + 10 < 1000000 then now + 10 else 1000000)) ∧ Below w.heap.size w w':=by
 by_cases hl : now + 10 < 1000000
 ·rw [if_pos hl]
  have hl2 : ¬ 1000000 < now + 10:=by omega
  go_enter Tryz.func32,Tryz.ntmps32
  go_wp2
  go_ret;exact ⟨rfl,below1 _ _⟩
 ·rw [if_neg hl]
  by_cases he : now + 10 = 1000000
  ·have hl2 : ¬ 1000000 < now + 10:=by omega
   go_enter Tryz.func32,Tryz.ntmps32
   go_wp2
   go_ret;exact ⟨rfl,below1 _ _⟩
  ·have hl2 : 1000000 < now + 10:=by omega
   go_enter Tryz.func32,Tryz.ntmps32
   go_wp2
   go_ret;exact ⟨rfl,below1 _ _⟩

theorem ihasM_any (d : Ad) (c : Cl) (m : Nd) (ma : Option Addr) (ml mc : Nat) (u0 now0 : Int) (t : ByteArray) (v : Vd) (w : World) (hr : ClRow w d c.raw) (hm : TxRow w ma ml mc m.zs) (hT : RightI c) (hv : IsBd c t v) :
  Calls Tryz.prog 96 #[.agg #[.int .i64 u0,.int .i64 now0,.string m.n,.string m.z,.int .i64 m.c,.int .i64 m.s,.int .i64 m.u,.bool m.d,.slice ma ml mc,.slice d.a1 d.l1 d.c1,.slice d.a2 d.l2 d.c2,.slice d.a3 d.l3 d.c3,.slice d.a4 d.l4 d.c4,.slice d.a5 d.l5 d.c5,.int .i64 c.now],.string t] w (BoolB (InL m.zs v.n) w):=by
 have HR:=hidK hr;have HM:=hidK hm;have HT:=hidK hT;have HV:=hidK hv;have hzl : m.zs.length = ml:=hm.1;have hlm : ml ≤ 9223372036854775807:=Nat.le_trans hm.2.1 hm.2.2.1;have HB:=hidK (Below.refl w.heap.size w);clear hr hm hT hv
 go_enter Tryz.func96,Tryz.ntmps96
 go_wp2_with fail;refine (ibd_any d c t w _ HR.out (HB.out.trans ((below1 _ _).mono HB.out.size)) HT.out.2.1.2.2.2.1.2.2 HT.out.2.1.2.2.1.2.2 HT.out.2.1.ne).mono ?_;rintro e w1 ⟨hb,hf⟩;obtain ⟨HA0,hbx⟩:=slots1 hb;have Bg:=hidK HA0;replace HB:=upB HB hbx;clear hb hbx HA0
 rcases hf with ⟨v9,va,vl,vc,hbd,rfl,-⟩ | ⟨hno,rfl⟩
 rotate_left
 ·exact absurd HV.out (hno v)
 obtain rfl:=IsBd.inj HT.out.2.1.2.2.2.1.2.2 HT.out.2.1.2.2.1.2.2 hbd HV.out;clear hbd;obtain ⟨g0,g1,g2,g3,g4,g5,g6,g7,g8,g9,g10,g11,g12,g13,g14⟩:=cs15 Bg.out;have ltg:=lt_of_some Bg.out
 go_wp2
 have hg1 : w.heap.size < w1.heap.size:=ltg;clear g0 g1 g2 g3 g4 g5 g6 g7 g8 g9 g10 g11 g12 g13 g14 ltg;obtain ⟨V,hV⟩ : ∃ V,V = w1.alloc (.cells #[.string v9.n,.int .i64 v9.c,.string v9.z,.string v9.k,.bool v9.x,.string v9.m,.bool v9.y,.slice va vl vc] 105):=⟨_,rfl⟩;have BgV:=hidK ((Below.heap_alloc w1 (.cells #[.string v9.n,.int .i64 v9.c,.string v9.z,.string v9.k,.bool v9.x,.string v9.m,.bool v9.y,.slice va vl vc] 105) _ (lt_of_some Bg.out)).trans Bg.out);have BvV:=hidK (heap_alloc_new w1 (.cells #[.string v9.n,.int .i64 v9.c,.string v9.z,.string v9.k,.bool v9.x,.string v9.m,.bool v9.y,.slice va vl vc] 105));have HBV:=hidK (HB.out.trans ((below1 w1 (.cells #[.string v9.n,.int .i64 v9.c,.string v9.z,.string v9.k,.bool v9.x,.string v9.m,.bool v9.y,.slice va vl vc] 105)).mono HB.out.size));rw [← hV] at BgV BvV HBV ⊢;clear hV Bg HB
 go_loopw [19] (fun vi wr => ∃ k : Nat,k ≤ ml ∧ vi = .int .i64 k ∧ Hid (∀ (j : Nat),j < k → ¬ m.zs[j]? = some v9.n) ∧ Hid (Below V.heap.size V wr)) (fun vi _ => ml - (intOf vi).toNat)
 case atStart => exact ⟨0,by omega,rfl,fun j h => by omega,Below.refl _ _⟩
 case round =>
  obtain ⟨k,hk,rfl,HI,HL⟩:=hrel;have Bg:=upK BgV HL.out;have Bv:=upK BvV HL.out;have HB:=hidK (HBV.out.trans (HL.out.mono HBV.out.size));have hLs:=HL.out.size
  by_cases hlt : k < ml
  ·have hk1 : (k : Int) < ml:=by omega
   have hk0 : ¬ (k : Int) < 0:=by omega
   obtain ⟨z,hz⟩ : ∃ z,m.zs[k]? = some z:=⟨_,List.getElem?_eq_getElem (by omega)⟩;obtain ⟨-,-,-,-,h5⟩:=HM.out.below HB.out
   rcases h5 with h5 | ⟨bm,om,rfl,hbm,hcm⟩
   ·rw [h5] at hz;cases hz
   have hcz:=hcm k z hz;have HZ:=hidK hz;clear hz hcm
   by_cases he : z = v9.n
   ·have HE:=hidK he;have hq:=tl_yes he;clear he;go_wp2_with fail;have Gg:=Bg;have Gv:=Bv;have HW:=HB;have g8:=fun q : Wd wr => q.slot (o:=8) Gg.out rfl;have v0:=fun q : Wd wr => q.slot (o:=0) Gv.out rfl;have mz:=fun q : Wd wr => (q.cell hbm).trans hcz;have hne0:=Wd.ne wr;go_wp2_with fail;refine wp_region_wide (by kernel_rfl) (by kernel_rfl) ?_
    repeat (go_big_quiet_step (first | fail))
    refine wpQuiet_nil ?_;rintro _ ⟨q1,rfl⟩;have HB31:=upB HW q1.b;have Cg:=upK Gg q1.b;have Cv:=upK Gv q1.b;clear hne0 HW HB g8 v0 mz Gg Gv Bg Bv hcz hbm;have HB:=HB31;clear HB31;have Bg:=Cg;clear Cg;have Bv:=Cv;clear Cv
    go_wp2
    go_ret;exact BoolB.t ⟨k,by rw [HZ.out,HE.out]⟩ HB.out
   have HE:=hidK he;have hq:=tl_no he;clear he;go_wp2_with fail;have Gg:=Bg;have Gv:=Bv;have HW:=HB;have g8:=fun q : Wd wr => q.slot (o:=8) Gg.out rfl;have v0:=fun q : Wd wr => q.slot (o:=0) Gv.out rfl;have mz:=fun q : Wd wr => (q.cell hbm).trans hcz;have hne0:=Wd.ne wr;go_wp2_with fail;refine wp_region_wide (by kernel_rfl) (by kernel_rfl) ?_
   repeat (go_big_quiet_step (first | fail))
   refine wpQuiet_nil ?_;rintro _ ⟨q1,rfl⟩;have HB31:=upB HW q1.b;have Cg:=upK Gg q1.b;have Cv:=upK Gv q1.b;clear hne0 HW HB g8 v0 mz Gg Gv Bg Bv hcz hbm;have HB:=HB31;clear HB31;have Bg:=Cg;clear Cg;have Bv:=Cv;clear Cv
   go_wp2
   refine ⟨⟨k + 1,by omega,by go_num,fun j hj hz => ?_,HL.out.trans (q1.b.mono hLs)⟩,by simp [intOf];omega⟩
   by_cases e : j = k
   ·subst e;rw [HZ.out] at hz;exact HE.out (Option.some.inj hz)
   ·exact HI.out j (by omega) hz
  have hk1 : ¬ (k : Int) < ml:=by omega
  go_wp2
  go_ret;exact BoolB.f (fun ⟨j,hj⟩ => HI.out j (by have:=(List.getElem?_eq_some_iff.1 hj).1;omega) hj) HB.out

theorem iphA_any (d : Ad) (c : Cl) (m : Nd) (ma : Option Addr) (ml mc : Nat) (u0 now0 : Int) (p : Pd) (pa : Option Addr) (pq pc : Nat) (r : Int) (w : World) (hr : ClRow w d c.raw) (hm : TxRow w ma ml mc m.zs) (hp : TxRow w pa pq pc p.zs) (hT : RightI c) (hd : m.d = false) (hbd : ∀ (j : Nat) t,p.zs[j]? = some t → ∃ v,IsBd c t v) (hr2 : (r = 2 ∧ now0 < u0 ∧ AllS c p m) ∨ (r = 1 ∧ ¬ (now0 < u0 ∧ AllS c p m))) :
  Calls Tryz.prog 68 #[.agg #[.int .i64 u0,.int .i64 now0,.string m.n,.string m.z,.int .i64 m.c,.int .i64 m.s,.int .i64 m.u,.bool m.d,.slice ma ml mc,.slice d.a1 d.l1 d.c1,.slice d.a2 d.l2 d.c2,.slice d.a3 d.l3 d.c3,.slice d.a4 d.l4 d.c4,.slice d.a5 d.l5 d.c5,.int .i64 c.now],.agg #[.string p.n,.int .i64 p.c,.string p.z,.slice pa pq pc,.string p.d,.int .i64 p.p]] w fun e w' => e = .returned (.int .i64 r) ∧ Below w.heap.size w w':=by
 rw [hd];have HR:=hidK hr;have HM:=hidK hm;have HP:=hidK hp;have HT:=hidK hT;have HD:=hidK hd;have HBD:=hidK hbd;have HRR:=hidK hr2;have hpl : p.zs.length = pq:=hp.1;have hlm : pq ≤ 9223372036854775807:=Nat.le_trans hp.2.1 hp.2.2.1;have HB:=hidK (Below.refl w.heap.size w);clear hr hm hp hT hbd hr2 hd
 go_enter Tryz.func68,Tryz.ntmps68
 go_wp2_with fail;obtain ⟨q,hq⟩ : ∃ q,q = decide (now0 < u0):=⟨_,rfl⟩;have HQ:=hidK hq;clear hq;have hg:=ilive_any u0 now0 ((w.alloc (.cells #[.int .i64 u0,.int .i64 now0,.string m.n,.string m.z,.int .i64 m.c,.int .i64 m.s,.int .i64 m.u,.bool false,.slice ma ml mc,.slice d.a1 d.l1 d.c1,.slice d.a2 d.l2 d.c2,.slice d.a3 d.l3 d.c3,.slice d.a4 d.l4 d.c4,.slice d.a5 d.l5 d.c5,.int .i64 c.now] 70)).alloc (.cells #[.string p.n,.int .i64 p.c,.string p.z,.slice pa pq pc,.string p.d,.int .i64 p.p] 107));rw [← HQ.out] at hg;refine (hg).mono ?_;rintro e w1 ⟨rfl,hb⟩;obtain ⟨HA0,HA1,hbx⟩:=slots2 hb;have Bg:=hidK HA0;have Bp:=hidK HA1;replace HB:=upB HB hbx;clear hb hbx HA0 HA1;clear hg
 cases q
 ·go_wp2
  go_ret;refine ⟨?_,HB.out⟩
  rcases HRR.out with ⟨_,h1,_⟩ | ⟨h1,_⟩
  ·exact absurd h1 (of_decide_eq_false HQ.out.symm)
  ·rw [h1];rfl
 obtain ⟨p0,p1,p2,p3,p4,p5⟩:=cs6 Bp.out;have ltp_1:=lt_of_some Bp.out
 go_wp2
 clear p0 p1 p2 p3 p4 p5 ltp_1;have HLV:=hidK (of_decide_eq_true HQ.out.symm);have hp1 : w.heap.size + 1 < w1.heap.size:=lt_of_some Bp.out
 go_loopw [19] (fun vi wr => ∃ k : Nat,k ≤ pq ∧ vi = .int .i64 k ∧ Hid (∀ (j : Nat) t,j < k → p.zs[j]? = some t → ∃ v,IsBd c t v ∧ InL m.zs v.n) ∧ Hid (Below w1.heap.size w1 wr)) (fun vi _ => pq - (intOf vi).toNat)
 case atStart => exact ⟨0,by omega,rfl,fun j t h => by omega,Below.refl _ _⟩
 case round =>
  obtain ⟨k,hk,rfl,HI,HL⟩:=hrel;replace Bg:=hidK ((HL.out.block _ (lt_of_some Bg.out)).trans Bg.out);replace Bp:=hidK ((HL.out.block _ (lt_of_some Bp.out)).trans Bp.out);replace HB:=hidK (HB.out.trans (HL.out.mono HB.out.size));have hLs:=HL.out.size
  by_cases hlt : k < pq
  ·have hk1 : (k : Int) < pq:=by omega
   have hk0 : ¬ (k : Int) < 0:=by omega
   obtain ⟨z,hz⟩ : ∃ z,p.zs[k]? = some z:=⟨_,List.getElem?_eq_getElem (by omega)⟩;obtain ⟨v,hv⟩:=HBD.out k z hz;obtain ⟨-,-,-,-,h5⟩:=HP.out.below HB.out
   rcases h5 with h5 | ⟨bm,om,rfl,hbm,hcm⟩
   ·rw [h5] at hz;cases hz
   have hcz:=hcm k z hz;have HZ:=hidK hz;have HV:=hidK hv;clear hz hcm hv;obtain ⟨g0,g1,g2,g3,g4,g5,g6,g7,g8,g9,g10,g11,g12,g13,g14⟩:=cs15 Bg.out;have ltg:=lt_of_some Bg.out;go_wp2_with fail;have hg:=ihasM_any d c m ma ml mc u0 now0 z v wr (HR.out.below HB.out) (HM.out.below HB.out) HT.out HV.out;rw [HD.out] at hg;refine hg.mono ?_;rintro e w2 ⟨q,rfl,hi,hb⟩;clear hg g0 g1 g2 g3 g4 g5 g6 g7 g8 g9 g10 g11 g12 g13 g14;have HH:=hidK hi;clear hi
   cases q
   ·go_wp2
    go_ret;refine ⟨?_,HB.out.trans (hb.mono HB.out.size)⟩
    rcases HRR.out with ⟨_,_,h1⟩ | ⟨h1,_⟩
    ·obtain ⟨v9,h2,h3⟩:=h1 k z HZ.out;obtain rfl:=IsBd.inj HT.out.2.1.2.2.2.1.2.2 HT.out.2.1.2.2.1.2.2 h2 HV.out;have h4:=HH.out.2 h3
     cases h4
    ·rw [h1];rfl
   go_wp2
   refine ⟨⟨k + 1,by omega,by go_num,fun j t hj ht => ?_,HL.out.trans (hb.mono hLs)⟩,by simp [intOf];omega⟩
   by_cases e : j = k
   ·subst e;rw [HZ.out] at ht;obtain rfl:=Option.some.inj ht;exact ⟨v,HV.out,HH.out.1 (by first | trivial | rfl)⟩
   ·exact HI.out j t (by omega) ht
  have hk1 : ¬ (k : Int) < pq:=by omega
  go_wp2
  go_ret;refine ⟨?_,HB.out⟩
  rcases HRR.out with ⟨h1,_⟩ | ⟨_,h1⟩
  ·rw [h1];rfl
  ·exact absurd ⟨HLV.out,fun j t ht => HI.out j t (by have:=(List.getElem?_eq_some_iff.1 ht).1;omega) ht⟩ h1

theorem iwants_any (d : Ad) (c : Cl) (t : ByteArray) (n : Nd) (ma : Option Addr) (ml mc : Nat) (u0 now0 : Int) (zs : List ByteArray) (w : World) (hr : ClRow w d c.raw) (h8 : c.vs.length ≤ 8) (hzs : (now0 < u0 ∧ zs = mntL c t c.vs) ∨ (¬ now0 < u0 ∧ zs = [])) :
  Calls Tryz.prog 31 #[.agg #[.int .i64 u0,.int .i64 now0,.string t,.string n.z,.int .i64 n.c,.int .i64 n.s,.int .i64 n.u,.bool n.d,.slice ma ml mc,.slice d.a1 d.l1 d.c1,.slice d.a2 d.l2 d.c2,.slice d.a3 d.l3 d.c3,.slice d.a4 d.l4 d.c4,.slice d.a5 d.l5 d.c5,.int .i64 c.now]] w fun e w' => ∃ a l q,e = .returned (.slice a l q) ∧ TOwn w' a l q zs (fun k => w.heap.size ≤ k) ∧ Below w.heap.size w w':=by
 obtain ⟨a1,l1,y1,a2,l2,y2,a3,l3,y3,a4,l4,y4,a5,l5,y5⟩:=d;dsimp only;have HR:=hidK hr
 have hl1 : c.ns.length = l1:=by simpa using (show (c.ns.map ndF).length = l1 from hr.n.1)
 have hm1 : l1 ≤ 9223372036854775807:=Nat.le_trans hr.n.2.1 hr.n.2.2.1
 have hl2 : c.ks.length = l2:=by simpa using (show (c.ks.map kdF).length = l2 from hr.k.1)
 have hm2 : l2 ≤ 9223372036854775807:=Nat.le_trans hr.k.2.1 hr.k.2.2.1
 have hl3 : c.vs.length = l3:=by simpa using (show (c.vs.map vdF).length = l3 from hr.v.1)
 have hm3 : l3 ≤ 9223372036854775807:=Nat.le_trans hr.v.2.1 hr.v.2.2.1
 have hl4 : c.xs.length = l4:=by simpa using (show (c.xs.map xdF).length = l4 from hr.x.1)
 have hm4 : l4 ≤ 9223372036854775807:=Nat.le_trans hr.x.2.1 hr.x.2.2.1
 have hl5 : c.ps.length = l5:=by simpa using (show (c.ps.map pdF).length = l5 from hr.p.1)
 have hm5 : l5 ≤ 9223372036854775807:=Nat.le_trans hr.p.2.1 hr.p.2.2.1;clear hr;have HB:=hidK (Below.refl w.heap.size w);have HZS:=hidK hzs;clear hzs;obtain ⟨i0,hi,hz0,hz1,hz2⟩:=info_parts infoStr;have HI0:=hidK (And.intro hi (And.intro hz0 (And.intro hz1 hz2)));clear hi hz0 hz1 hz2
 have h83 : l3 ≤ 8:=by omega
 go_enter Tryz.func31,Tryz.ntmps31
 go_wp2_with fail;obtain ⟨q,hq⟩ : ∃ q,q = decide (now0 < u0):=⟨_,rfl⟩;have HQ:=hidK hq;clear hq;have hg:=ilive_any u0 now0 (w.alloc (.cells #[.int .i64 u0,.int .i64 now0,.string t,.string n.z,.int .i64 n.c,.int .i64 n.s,.int .i64 n.u,.bool n.d,.slice ma ml mc,.slice a1 l1 y1,.slice a2 l2 y2,.slice a3 l3 y3,.slice a4 l4 y4,.slice a5 l5 y5,.int .i64 c.now] 70));rw [← HQ.out] at hg;refine (hg).mono ?_;rintro e w1 ⟨rfl,hb⟩;obtain ⟨HA0,hbx⟩:=slots1 hb;have Bk:=hidK HA0;replace HB:=upB HB hbx;clear hb hbx HA0;clear hg
 cases q
 ·have hz9 : zs = []:=by rcases HZS.out with ⟨h1,_⟩ | ⟨_,h1⟩;exact absurd h1 (of_decide_eq_false HQ.out.symm);exact h1
  subst hz9
  go_wp2
  go_ret;refine ⟨_,_,_,rfl,?_,HB.out⟩;exact ⟨⟨rfl,Nat.le_refl _,by decide,fun j x hx => by simp at hx,.inl rfl⟩,.inl rfl⟩
 have hz9 : zs = mntL c t c.vs:=by rcases HZS.out with ⟨_,h1⟩ | ⟨h1,_⟩;exact h1;have h2:=of_decide_eq_true (show decide (now0 < u0) = true from HQ.out.symm);omega
 subst hz9;have hq1 : w.heap.size < w1.heap.size:=lt_of_some Bk.out;obtain ⟨k0,k1,k2,k3,k4,k5,k6,k7,k8,k9,k10,k11,k12,k13,k14⟩:=cs15 Bk.out;have ltk:=lt_of_some Bk.out
 go_wp2
 clear k0 k1 k2 k3 k4 k5 k6 k7 k8 k9 k10 k11 k12 k13 k14 ltk
 go_loopw [3,14] (fun vo vi wr => ∃ k m9 : Nat,k ≤ l3 ∧ m9 ≤ k ∧ vi = .int .i64 k ∧ Hid (wr.ownsRow (w.heap.size + 1) 9 1 vo m9 ((mntL c t (c.vs.take k)).map Value.string)) ∧ Hid (Below w.heap.size w wr) ∧ Hid (wr.heap[w.heap.size]? = some (.cells #[.int .i64 u0,.int .i64 now0,.string t,.string n.z,.int .i64 n.c,.int .i64 n.s,.int .i64 n.u,.bool n.d,.slice ma ml mc,.slice a1 l1 y1,.slice a2 l2 y2,.slice a3 l3 y3,.slice a4 l4 y4,.slice a5 l5 y5,.int .i64 c.now] 70 (0,0)))) (fun _ vi _ => l3 - (intOf vi).toNat)
 case atStart => exact ⟨0,0,by omega,by omega,rfl,World.ownsRow_nil _ _ _ _,HB,Bk⟩
 case round =>
  obtain ⟨k,m9,hk,hm9,rfl,HO,HB,Bk⟩:=hrel;have hBs:=HB.out.size
  by_cases hlt : k < l3
  ·obtain ⟨b,o,v,rfl,hb,hx,hat⟩:=vd_at (HR.out.v.below HB.out) hlt;obtain ⟨va,vl,vc,hvr,z0,z2,z3,z5,c0,c1,c2,c3,c4,c5,c6,c7⟩:=vd_cells hat;have HXv:=hidK hx;have HTv:=hidK hvr;have HZv0:=hidK z0;have HZv2:=hidK z2;have HZv3:=hidK z3;have HZv5:=hidK z5;clear hat hx z0 z2 z3 z5 hvr;obtain ⟨k0,k1,k2,k3,k4,k5,k6,k7,k8,k9,k10,k11,k12,k13,k14⟩:=cs15 Bk.out;have ltk:=lt_of_some Bk.out;have HY:=hidK (Bw.refl wr);go_wp2_with fail;clear k0 k1 k2 k3 k4 k5 k6 k7 k8 k9 k10 k11 k12 k13 k14 ltk;refine (icontains_any va vl vc v.zs t _ (HTv.out.below (below1 _ _))).mono ?_;rintro e w2 ⟨r,rfl,hi,hb⟩;obtain ⟨HA0,hbx⟩:=slots1 hb;replace Bk:=upK Bk hbx;have Bg:=hidK HA0;replace HY:=hidK (HY.out.below hbx);replace HB:=upB HB hbx;clear hb hbx HA0;have HI:=hidK hi;clear hi c0 c1 c2 c3 c4 c5 c6 c7
   cases r
   ·have hon : mntB c t v = false:=by unfold mntB;rw [Bool.and_eq_false_iff];exact .inl (by cases h : inB v.zs t;rfl;(have:=HI.out.2 (inB_iff.1 h);cases this))
    have HO3:=hidK (owns_below HO.out HY.out.out);rw [← mnt_no HXv.out hon] at HO3;obtain ⟨k0,k1,k2,k3,k4,k5,k6,k7,k8,k9,k10,k11,k12,k13,k14⟩:=cs15 Bk.out;have ltk:=lt_of_some Bk.out;obtain ⟨g0,g1,g2,g3,g4,g5,g6,g7⟩:=cs8 Bg.out;have ltg_41:=lt_of_some Bg.out
    go_wp2
    exact ⟨⟨k + 1,m9,by omega,by omega,by go_num,HO3,HB,Bk⟩,by simp [intOf];omega⟩
   obtain ⟨k0,k1,k2,k3,k4,k5,k6,k7,k8,k9,k10,k11,k12,k13,k14⟩:=cs15 Bk.out;have ltk:=lt_of_some Bk.out;obtain ⟨g0,g1,g2,g3,g4,g5,g6,g7⟩:=cs8 Bg.out;have ltg_41:=lt_of_some Bg.out;go_wp2_with fail;clear k0 k1 k2 k3 k4 k5 k6 k7 k8 k9 k10 k11 k12 k13 k14 ltk;refine (ipw_any ⟨a1,l1,y1,a2,l2,y2,(some ⟨b,o,none⟩),l3,y3,a4,l4,y4,a5,l5,y5⟩ c v va vl vc t _ (HR.out.below HB.out)).mono ?_;rintro e w3 ⟨r,rfl,hi2,hb⟩;clear g0 g1 g2 g3 g4 g5 g6 g7 ltg_41;replace Bk:=upK Bk hb;replace Bg:=upK Bg hb;replace HY:=hidK (HY.out.below hb);replace HB:=upB HB hb;clear hb;have HI2:=hidK hi2;clear hi2
   cases r
   ·have hon : mntB c t v = false:=by unfold mntB;rw [Bool.and_eq_false_iff];exact .inr (by cases h : wantB c t v.m;rfl;(have:=HI2.out.2 (wantB_iff.1 h);cases this))
    have HO3:=hidK (owns_below HO.out HY.out.out);rw [← mnt_no HXv.out hon] at HO3;obtain ⟨k0,k1,k2,k3,k4,k5,k6,k7,k8,k9,k10,k11,k12,k13,k14⟩:=cs15 Bk.out;have ltk:=lt_of_some Bk.out;obtain ⟨g0,g1,g2,g3,g4,g5,g6,g7⟩:=cs8 Bg.out;have ltg_42:=lt_of_some Bg.out
    go_wp2
    exact ⟨⟨k + 1,m9,by omega,by omega,by go_num,HO3,HB,Bk⟩,by simp [intOf];omega⟩
   have hon : mntB c t v = true:=by unfold mntB;rw [inB_iff.2 (HI.out.1 (by first | trivial | rfl)),wantB_iff.2 (HI2.out.1 (by first | trivial | rfl))];rfl
   have HO1:=hidK (owns_below HO.out HY.out.out);have hBs1:=HB.out.size;have hwl:=HY.out.le;obtain ⟨k0,k1,k2,k3,k4,k5,k6,k7,k8,k9,k10,k11,k12,k13,k14⟩:=cs15 Bk.out;have ltk:=lt_of_some Bk.out;obtain ⟨g0,g1,g2,g3,g4,g5,g6,g7⟩:=cs8 Bg.out;have ltg_42:=lt_of_some Bg.out
   go_wp2_with (first | (at_builtin;refine wpList_append_own _ rfl _ _ 54 rfl (w.heap.size + 1) 9 i0 (.string ⟨#[]⟩) 1 16 Tryz.underlying54 HI0.out.1 HI0.out.2.1 HI0.out.2.2.1 HI0.out.2.2.2 rfl (by decide) _ _ _ rfl (HO1.out.alloc _) ⟨w3.heap.size,0,none⟩ 1 1 [.string v.n] rfl rfl ?c1 ?c2 ?c3 ?c4 ?c5 ?_))
   case c1 =>
    intro j u hu
    cases j with
    | zero =>
     simp only [List.getElem?_cons_zero,Option.some.injEq] at hu;subst hu;rw [Addr.add_lit];exact cellK (heap_alloc_new _ _) 0
    | succ j => simp at hu
   case c2 => intro u hu;rw [List.mem_singleton.1 hu];rfl
   case c3 => unfold maxLen;omega
   case c4 => omega
   case c5 => simp;omega
   rintro v' w4 hown3 hgrow -
   have HO3 : Hid (w4.ownsRow (w.heap.size + 1) 9 1 v' (m9 + 1) ((mntL c t (c.vs.take (k + 1))).map Value.string)):=by
    show World.ownsRow _ _ _ _ _ _ _
    rw [mnt_yes HXv.out hon,List.map_append];exact hown3
   have HB3:=hidK ((HB.out.trans ((below1 w3 _).mono hBs1)).grown hgrow (by simp;omega) (fun g hg => by have:=(HO1.out.lt g hg).1;omega))
   have Bk3 : Hid (w4.heap[w.heap.size]? = some (.cells #[.int .i64 u0,.int .i64 now0,.string t,.string n.z,.int .i64 n.c,.int .i64 n.s,.int .i64 n.u,.bool n.d,.slice ma ml mc,.slice a1 l1 y1,.slice a2 l2 y2,.slice (some ⟨b,o,none⟩) l3 y3,.slice a4 l4 y4,.slice a5 l5 y5,.int .i64 c.now] 70 (0,0))):=by
    exact (hgrow.block _ (by simp;omega) (fun e => by have:=(HO1.out.lt _ e.symm).1;omega)).trans ((Below.heap_alloc _ _ _ (lt_of_some Bk.out)).trans Bk.out)
   clear hown3 hgrow
   go_wp2
   exact ⟨⟨k + 1,m9 + 1,by omega,by omega,by go_num,HO3,HB3,Bk3⟩,by simp [intOf];omega⟩
  ·have hkl : k = l3:=by omega
   have HO3:=HO;rw [List.take_of_length_le (by omega)] at HO3;obtain ⟨a',p',rfl,hT⟩:=TOwn.of_row HO3.out (mnt_size HR.out.v);have HTO:=hidK hT;clear HO3 hT HO
   go_wp2
   go_ret;exact ⟨_,_,_,rfl,HTO.out.into (fun k _ s => by have : w.heap.size + 1 ≤ k:=s;show w.heap.size ≤ k;omega),HB.out⟩

def AskNI (c : Cl) (t : ByteArray) (E : Nat → Addr) (w0 w : World) (e : Ending) (w' : World) : Prop :=
 Below w.heap.size w w' ∧ ((∃ i,i < 9 ∧ AskNWhy c t i ∧ e = .returned (.tuple #[.agg #[.string ⟨#[]⟩,.string ⟨#[]⟩,.int .i64 0,.int .i64 0,.int .i64 0,.bool false,.slice none 0 0],.iface 208 (.pointer (some (E i)))])) ∨
  (∃ (x : Nd) (va : Option Addr) (vl vc : Nat),AskNOk c t x ∧ e = .returned (.tuple #[.agg #[.string x.n,.string x.z,.int .i64 x.c,.int .i64 x.s,.int .i64 x.u,.bool x.d,.slice va vl vc],.nilIface]) ∧ TxRow w0 va vl vc x.zs))

theorem iaskNE_any (d : Ad) (c : Cl) (t : ByteArray) (E : Nat → Addr) (w0 : World) (w : World) (hr0 : ClRow w0 d c.raw) (hb0 : Below w0.heap.size w0 w) (hG : Ers w E) :
  Calls Tryz.prog 86 #[.agg #[.slice d.a1 d.l1 d.c1,.slice d.a2 d.l2 d.c2,.slice d.a3 d.l3 d.c3,.slice d.a4 d.l4 d.c4,.slice d.a5 d.l5 d.c5,.int .i64 c.now],.string t] w (AskNI c t E w0 w):=by
 have HR0:=hidK hr0;have HB0:=hidK hb0;have HR:=hidK (hr0.below hb0);have HE:=hidK hG;have HB:=hidK (Below.refl w.heap.size w);clear hr0 hb0 hG
 by_cases hl : 8000 < t.size
 ·have ev:=(HE.out.below (below2 w (.cells #[.slice d.a1 d.l1 d.c1,.slice d.a2 d.l2 d.c2,.slice d.a3 d.l3 d.c3,.slice d.a4 d.l4 d.c4,.slice d.a5 d.l5 d.c5,.int .i64 c.now] 36) (.cells #[.string ⟨#[]⟩,.string ⟨#[]⟩,.int .i64 0,.int .i64 0,.int .i64 0,.bool false,.slice none 0 0] 56))).v0
  go_enter Tryz.func86,Tryz.ntmps86
  go_wp2_with fail;refine (long_yes t _ hl).mono ?_;rintro e w1 ⟨rfl,rfl⟩
  go_wp2
  go_region
  go_wp2
  exact bodyPost_ret (v:=.tuple #[.agg #[.string ⟨#[]⟩,.string ⟨#[]⟩,.int .i64 0,.int .i64 0,.int .i64 0,.bool false,.slice none 0 0],.iface 208 (.pointer (some (E 0)))]) (by simp [results,Tryz.results86,go_sem, *]) rfl ⟨Below.drewn (below2 _ _ _),.inl ⟨0,by decide,hl,rfl⟩⟩
 go_enter Tryz.func86,Tryz.ntmps86
 go_wp2_with fail;refine (long_no t _ hl).mono ?_;rintro e w1 ⟨rfl,rfl⟩;go_wp2_with fail;refine (iright_any d c _ (HR.out.below (HB.out.trans ((below2 _ _ _).mono HB.out.size))) (HE.out.below (HB.out.trans ((below2 _ _ _).mono HB.out.size))).ens).mono ?_;rintro e w1 ⟨r,rfl,hi,hb⟩;obtain ⟨HA0,HA1,hbx⟩:=slots2 hb;have Bk:=hidK HA0;have Br:=hidK HA1;replace HB:=upB HB hbx;clear hb hbx HA0 HA1;have HI:=hidK hi;clear hi
 cases r
 ·obtain ⟨k0,k1,k2,k3,k4,k5⟩:=cs6 Bk.out;have ltk_1:=lt_of_some Bk.out;obtain ⟨r0,r1,r2,r3,r4,r5,r6⟩:=cs7 Br.out;have ltr_1:=lt_of_some Br.out;have fr0:=froK Br.out 0;have fr1:=froK Br.out 1;have fr2:=froK Br.out 2;have fr3:=froK Br.out 3;have fr4:=froK Br.out 4;have fr5:=froK Br.out 5;have fr6:=froK Br.out 6;have ev:=(HE.out.below HB.out).v1;have evl:=cell_lt HE.out.v1
  have evn : ¬ 8 = w.heap.size + 1:=by omega
  go_wp2
  go_region
  go_wp2
  exact bodyPost_ret (v:=.tuple #[.agg #[.string ⟨#[]⟩,.string ⟨#[]⟩,.int .i64 0,.int .i64 0,.int .i64 0,.bool false,.slice none 0 0],.iface 208 (.pointer (some (E 1)))]) (by simp [results,Tryz.results86,go_sem, *]) rfl ⟨Below.drewn (sb1 (sb1 (sb1 (sb1 (sb1 (sb1 (sb1 (HB.out)))))))),.inl ⟨1,by decide,⟨hl,fun h => (by have:=HI.out.2 h;cases this)⟩,rfl⟩⟩
 have HT:=hidK (HI.out.1 (by first | trivial | rfl));clear HI;obtain ⟨k0,k1,k2,k3,k4,k5⟩:=cs6 Bk.out;have ltk_1:=lt_of_some Bk.out;go_wp2_with fail;refine (thend_any d c.now c.ns t w0 _ HR0.out.n (HB0.out.trans (HB.out.mono HB0.out.size))).mono ?_;rintro e w2 ⟨hb,hf⟩;clear k0 k1 k2 k3 k4 k5 ltk_1;replace Bk:=upK Bk hb;replace Br:=upK Br hb;replace HB:=upB HB hb;clear hb
 rcases hf with ⟨hh,x,va,vl,vc,hx,hn,rfl,z0,z1,hvr⟩ | ⟨hh,rfl⟩
 ·have HX:=hidK (And.intro hx (And.intro hn hvr));clear hx hn z0 z1 hh hvr;obtain ⟨k0,k1,k2,k3,k4,k5⟩:=cs6 Bk.out;have ltk_2:=lt_of_some Bk.out;obtain ⟨r0,r1,r2,r3,r4,r5,r6⟩:=cs7 Br.out;have ltr_2:=lt_of_some Br.out;have fr0:=froK Br.out 0;have fr1:=froK Br.out 1;have fr2:=froK Br.out 2;have fr3:=froK Br.out 3;have fr4:=froK Br.out 4;have fr5:=froK Br.out 5;have fr6:=froK Br.out 6;have hrl : w.heap.size + 1 < w2.heap.size:=lt_of_some Br.out
  go_wp2
  exact bodyPost_ret (v:=.tuple #[.agg #[.string x.n,.string x.z,.int .i64 x.c,.int .i64 x.s,.int .i64 x.u,.bool x.d,.slice va vl vc],.nilIface]) (by simp [results,Tryz.results86,go_sem, *]) rfl ⟨Below.alloc (sb1 (sb1 (sb1 (sb1 (sb1 (sb1 (sb1 (HB.out)))))))) (by simp [World.setCell];have:=HB.out.size;omega) _,.inr ⟨x,va,vl,vc,⟨hl,HT.out,HX.out.1,HX.out.2.1⟩,rfl,HX.out.2.2⟩⟩
 ·have HH:=hidK hh;clear hh;obtain ⟨k0,k1,k2,k3,k4,k5⟩:=cs6 Bk.out;have ltk_2:=lt_of_some Bk.out;obtain ⟨r0,r1,r2,r3,r4,r5,r6⟩:=cs7 Br.out;have ltr_2:=lt_of_some Br.out;have fr0:=froK Br.out 0;have fr1:=froK Br.out 1;have fr2:=froK Br.out 2;have fr3:=froK Br.out 3;have fr4:=froK Br.out 4;have fr5:=froK Br.out 5;have fr6:=froK Br.out 6;have ev:=(HE.out.below HB.out).v2;have evl:=cell_lt HE.out.v2
  have evn : ¬ 2 = w.heap.size + 1:=by omega
  have evl2 : 2 < w2.heap.size:=cell_lt ev;have hrl : w.heap.size + 1 < w2.heap.size:=lt_of_some Br.out
  go_wp2
  go_region
  go_wp2
  exact bodyPost_ret (v:=.tuple #[.agg #[.string ⟨#[]⟩,.string ⟨#[]⟩,.int .i64 0,.int .i64 0,.int .i64 0,.bool false,.slice none 0 0],.iface 208 (.pointer (some (E 2)))]) (by simp [results,Tryz.results86,go_sem, *]) rfl ⟨Below.drewn (Below.alloc (sb1 (sb1 (sb1 (sb1 (sb1 (sb1 (sb1 (HB.out)))))))) (by simp [World.setCell];have:=HB.out.size;omega) _),.inl ⟨2,by decide,⟨hl,HT.out,HH.out⟩,rfl⟩⟩

end Rc
end Go.Proofs.YtpgfiggcgjajcaaGreatDoor

namespace Go.Proofs.YtpgfiggcgjajcaaGreatDoor
open Go.RowKit
namespace Gs

section
variable {SR : World → World → Prop} {t4 : Tmp} {Ψ : Fact} {P : Program} {ops : Array Oper} {Q : Exit → Act → World → Prop} {W : World} {a0 : Act} {back : Option Oper}
theorem all_listed {listed : Array Bool} (hs : listed.size = ops.size) (hlt : ∀ (j : Nat) o,ops[j]? = some o → ∀ e ∈ o.after,Region.binds .any e = true → e.on < j) (hr : Region.ready .any ops listed = []) : ∀ i,i < ops.size → listed.getD i false = true:=by
 intro i
 induction i using Nat.strongRecOn with
 | _ i ih =>
  intro hi
  cases hb : listed.getD i false with
  | true => rfl
  | false =>
   have ho : ops[i]? = some ops[i]:=Array.getElem?_eq_getElem hi;have hm : i ∈ Region.ready .any ops listed:=mem_ready.2 ⟨by rw [← getD_ft (by omega)];exact hb,_,ho,fun e he hbe => ih e.on (hlt i _ ho e he hbe) (Nat.lt_trans (hlt i _ ho e he hbe) hi)⟩;rw [hr] at hm
   cases hm

structure At (t4 : Tmp) (Ψ : Fact) (front : List Oper) (φs : List Fact) (W : World) (a0 : Act) (listed : Array Bool) (a : Act) (w : World) : Prop where
 old : Go.Proofs.YtpgfiggcgjajcaaGreatDoor.At front φs W a0 listed a w
 sto : ∀ (i : Nat) (o : Oper),front[i]? = some o → o.dst = none → listed.getD i false = true → Ψ (a.tmps.getD t4 undef) w ∧ ∀ (i' : Nat) (p : Oper),front[i']? = some p → p.dst = some t4 → listed.getD i' false = true

theorem set_true {listed : Array Bool} {i j : Nat} (h : listed.getD i false = true) : (listed.setIfInBounds j true).getD i false = true:=by
 by_cases e : j = i
 ·subst e;simp only [Array.getD_eq_getD_getElem?,Array.getElem?_setIfInBounds]
  split
  ·split
   ·rfl
   ·simp [Array.getD_eq_getD_getElem?] at h
    next hx =>
     have : listed[j]? = none:=Array.getElem?_eq_none_iff.2 (by omega);rw [this] at h
     cases h
  ·contradiction
 ·simpa [Array.getD_eq_getD_getElem?,Array.getElem?_setIfInBounds,e] using h
theorem set_of_ne {listed : Array Bool} {i j : Nat} (e : ¬ j = i) (h : (listed.setIfInBounds j true).getD i false = true) : listed.getD i false = true:=by
 simpa [Array.getD_eq_getD_getElem?,Array.getElem?_setIfInBounds,e] using h

end
structure Form (W w w' : World) : Prop where
 low : Below W.heap.size w w'
 form : ∀ (k : Nat) (cs : Array Value) (T : TypeId),w.heap[k]? = some (.cells cs T (0,0)) → ∃ cs',cs'.size = cs.size ∧ w'.heap[k]? = some (.cells cs' T (0,0))
end Gs
namespace Gt

def growB (n : Nat) (front : List Oper) (back : Option Oper) : Bool :=
 let ops:=(front ++ back.toList).toArray
 decide ((front.filterMap (·.dst)).Nodup) && front.all (fun o => match o.dst with | some t => decide (t < n) | none => true) &&
 (List.range front.length).all (fun j => match front[j]? with
  | some o => (o.looksAt ops).all (fun t => (List.range front.length).all fun i => match front[i]? with
    | some p => p.dst != some t || (decide (i < j) && o.after.any fun e => e.on == i && Region.binds .any e)
    | none => true)
  | none => true) &&
 (List.range ops.size).all (fun j => match ops[j]? with | some o => o.after.all (fun e => decide (e.on < j)) | none => true) &&
 (match back with | some o => (List.range front.length).all (fun i => o.after.any fun e => Region.binds .any e && (e.on == i || match front[e.on]? with | some p => p.after.any (fun e' => e'.on == i && Region.binds .any e') | none => false)) | none => true)

section
variable {P : Program} {ops : Array Oper} {Q : Exit → Act → World → Prop} {W : World} {a0 : Act} {back : Option Oper}
theorem growB_spec {n : Nat} {front : List Oper} {back : Option Oper} (h : growB n front back = true) :
  (front.filterMap (·.dst)).Nodup ∧ (∀ o ∈ front,∀ t,o.dst = some t → t < n) ∧
  (∀ (j : Nat) (o : Oper),front[j]? = some o → ∀ t ∈ o.looksAt (front ++ back.toList).toArray,∀ (i : Nat) (p : Oper),front[i]? = some p → p.dst = some t → i < j ∧ ∃ e ∈ o.after,e.on = i ∧ Region.binds .any e = true) ∧
  (∀ (j : Nat) o,(front ++ back.toList).toArray[j]? = some o → ∀ e ∈ o.after,e.on < j) ∧
  (∀ o,back = some o → ∀ i,i < front.length → ∃ e ∈ o.after,Region.binds .any e = true ∧ (e.on = i ∨ ∃ p,front[e.on]? = some p ∧ ∃ e' ∈ p.after,e'.on = i ∧ Region.binds .any e' = true)):=by
 unfold growB at h;simp only [Bool.and_eq_true,decide_eq_true_eq] at h;obtain ⟨⟨⟨⟨h1,h2⟩,h3⟩,h4⟩,h5⟩:=h;refine ⟨h1,?_,?_,?_,?_⟩
 ·intro o ho t ht;have:=List.all_eq_true.1 h2 o ho;rw [ht] at this
  simpa using this
 ·intro j o ho t ht i p hp hd;have hj : j < front.length:=(List.getElem?_eq_some_iff.1 ho).1;have hi : i < front.length:=(List.getElem?_eq_some_iff.1 hp).1;have:=List.all_eq_true.1 h3 j (List.mem_range.2 hj);rw [ho] at this;have:=List.all_eq_true.1 this t ht;have:=List.all_eq_true.1 this i (List.mem_range.2 hi);rw [hp] at this;simp only [hd,bne_self_eq_false,Bool.false_or,Bool.and_eq_true,decide_eq_true_eq] at this;obtain ⟨h6,h7⟩:=this;obtain ⟨k,hk,hx⟩:=Array.any_eq_true.1 h7;simp only [Bool.and_eq_true,beq_iff_eq] at hx;exact ⟨h6,_,Array.getElem_mem hk,hx.1,hx.2⟩
 ·intro j o ho e he;have hj : j < (front ++ back.toList).toArray.size:=(Array.getElem?_eq_some_iff.1 ho).1;have:=List.all_eq_true.1 h4 j (List.mem_range.2 hj);rw [ho] at this;have:=Array.all_eq_true.1 this;obtain ⟨k,hk,rfl⟩:=Array.mem_iff_getElem.1 he
  simpa using this k hk
 ·intro o ho i hi;subst ho;have:=List.all_eq_true.1 h5 i (List.mem_range.2 hi);obtain ⟨k,hk,hx⟩:=Array.any_eq_true.1 this;simp only [Bool.and_eq_true,Bool.or_eq_true,beq_iff_eq] at hx;refine ⟨_,Array.getElem_mem hk,hx.1,hx.2.imp id fun h9 => ?_⟩
  split at h9
  ·next p hp =>
   obtain ⟨k',hk',hx'⟩:=Array.any_eq_true.1 h9;simp only [Bool.and_eq_true,beq_iff_eq] at hx';exact ⟨p,hp,_,Array.getElem_mem hk',hx'.1,hx'.2⟩
  ·cases h9

structure Ac (front : List Oper) (φs : List Fact) (W : World) (a0 : Act) (listed : Array Bool) (a : Act) (w : World) : Prop where
 old : At front φs W a0 listed a w
 cl : ∀ (j : Nat) (o : Oper),front[j]? = some o → listed.getD j false = true → ∀ e ∈ o.after,Region.binds .any e = true → listed.getD e.on false = true
theorem wpAny_grow {front : List Oper} {φs : List Fact} (hops : ops = (front ++ back.toList).toArray) (hB : growB a0.tmps.size front back = true) (hlen : φs.length = front.length)
  (hs : ∀ (i : Nat) (o : Oper) (φ : Fact),front[i]? = some o → φs[i]? = some φ → φ.Mono ∧ Obl P ops Q W a0 (knAll [] (front.take i) (φs.take i)) o φ) (hf : Fin P ops Q W a0 back (knAll [] front φs)) :
  ∀ (fuel : Nat) (listed : Array Bool) (a : Act) (w : World),listed.size = ops.size → listed.toList.count false ≤ fuel → (∀ o,back = some o → listed.getD front.length false = false) → Ac front φs W a0 listed a w → wpAny P .any ops Q fuel listed a w:=by
 obtain ⟨hn,hin,hdep,hlt,hback⟩:=growB_spec hB;rw [← hops] at hdep hlt
 have hsz : ops.size = front.length + back.toList.length:=by rw [hops];simp
 -- all have come up
 have hend : ∀ (listed : Array Bool) (a : Act) (w : World),listed.size = ops.size → (∀ i,i < ops.size → listed.getD i false = true) → (∀ o,back = some o → listed.getD front.length false = false) → Ac front φs W a0 listed a w → Q .normal a w:=by
  intro listed a w hz hall hb h;have h1:=Fin.last hf hlen hin h.old (fun i hi => hall i (by omega))
  cases hk : back with
  | none => rw [hk] at h1;exact h1
  | some o =>
   have h2:=hb o hk;rw [hall _ (by rw [hsz,hk];simp)] at h2
   cases h2
 intro fuel
 induction fuel with
 | zero =>
  intro listed a w hz hc hb h;have hall : ∀ i,i < ops.size → listed.getD i false = true:=fun i hi => no_false (by omega) i (by omega);refine ⟨?_,hend listed a w hz hall hb h⟩
  cases hr : Region.ready .any ops listed with
  | nil => rfl
  | cons j js =>
   have hm : j ∈ Region.ready .any ops listed:=by rw [hr];simp
   obtain ⟨h1,o,ho,-⟩:=mem_ready.1 hm;have hj:=(Array.getElem?_eq_some_iff.1 ho).1;rw [← getD_ft (by omega),hall j hj] at h1
   cases h1
 | succ fuel ih =>
  intro listed a w hz hc hb h;refine ⟨fun hr => hend listed a w hz (all_listed hz hlt hr) hb h,fun j hj => ?_⟩;obtain ⟨hun,o,ho,hall⟩:=mem_ready.1 hj;have hjs : j < ops.size:=(Array.getElem?_eq_some_iff.1 ho).1;have hcs:=count_set (listed:=listed) (i:=j) (by omega) hun
  by_cases hjf : j < front.length
  ·have hof : front[j]? = some o:=by rw [hops] at ho;simpa [List.getElem?_append_left hjf] using ho
   have hφ : φs[j]? = some (φs[j]'(by omega)):=List.getElem?_eq_getElem _;obtain ⟨hm,hob⟩:=hs j o _ hof hφ
   have hfacts : ∀ t ∈ o.looksAt ops,slotFact a0 (knAll [] (front.take j) (φs.take j)) a w t:=by
    intro t ht;unfold slotFact
    cases hk : (knAll [] (front.take j) (φs.take j)).lookup t with
    | some φ =>
     rcases lookup_some _ _ _ hk with ⟨i,p,h1,h2,h3⟩ | h1
     ·have hij : i < j:=by have:=(List.getElem?_eq_some_iff.1 h1).1;simp at this;omega
      rw [List.getElem?_take,if_pos hij] at h1 h3;obtain ⟨-,e,he,hon,hbi⟩:=hdep j o hof t ht i p h1 h2;have hl:=hall e he hbi;rw [hon] at hl;exact h.old.known i p φ h1 h3 t h2 hl
     ·simp at h1
    | none =>
     refine h.old.other t (fun i p hp hd => ?_)
     exfalso
     obtain ⟨hij,-⟩:=hdep j o hof t ht i p hp hd;have hi:=(List.getElem?_eq_some_iff.1 hp).1;exact (lookup_none _ _ _ hk).2 i p (φs[i]'(by omega)) (by rw [List.getElem?_take,if_pos hij];exact hp) (by rw [List.getElem?_take,if_pos hij];exact List.getElem?_eq_getElem _) hd
   have h1:=hob a w (wpAny P .any ops Q fuel (listed.setIfInBounds j true)) h.old.size h.old.below hfacts (fun v w' hbw hv => by
    refine ih _ _ _ (by simpa using hz) (by omega) (fun o' ho' => ?_) ⟨h.old.step hn hin (fun i o φ h1 h2 => (hs i o φ h1 h2).1) hof hφ (by omega) hbw hv,fun j' o' ho' hl e he hbe => (by
     by_cases ej : j = j'
     ·subst ej;obtain rfl : o = o':=Option.some.inj (hof.symm.trans ho');exact Gs.set_true (hall e he hbe)
     ·exact Gs.set_true (h.cl j' o' ho' (Gs.set_of_ne ej hl) e he hbe))⟩
    have h2:=hb o' ho'
    have e : ¬ j = front.length:=by omega
    simpa [Array.getD_eq_getD_getElem?,Array.getElem?_setIfInBounds,e] using h2)
   unfold wpOp;rw [ho]
   simp only
   split
   ·rename_i hw;rw [if_pos hw] at h1;exact .inl h1
   ·rename_i hw;rw [if_neg hw] at h1;exact h1
  ·cases hk : back with
   | none => rw [hk] at hsz;simp at hsz;omega
   | some b =>
    have hjn : j = front.length:=by rw [hk] at hsz;simp at hsz;omega
    subst hjn
    have hob : o = b:=by
     rw [hops,hk] at ho
     simp at ho
     exact ho.symm
    subst hob
    have hfl : ∀ i,i < front.length → listed.getD i false = true:=fun i hi => by
     obtain ⟨e,he,hbi,hon⟩:=hback o hk i hi;have hl:=hall e he hbi
     rcases hon with hon | ⟨p,hp,e',he',hon,hbi'⟩
     ·rwa [hon] at hl
     ·have:=h.cl e.on p hp hl e' he' hbi'
      rwa [hon] at this
    have h1:=Fin.last hf hlen hin h.old hfl;rw [hk] at h1
    have h2:=h1 (wpAny P .any ops Q fuel (listed.setIfInBounds front.length true)) (fun a' w' hq => by
     have hr : Region.ready .any ops (listed.setIfInBounds front.length true) = []:=by
      cases hr : Region.ready .any ops (listed.setIfInBounds front.length true) with
      | nil => rfl
      | cons i is =>
       have hm : i ∈ Region.ready .any ops (listed.setIfInBounds front.length true):=by rw [hr];simp
       obtain ⟨h3,o',ho',-⟩:=mem_ready.1 hm;have hi:=(Array.getElem?_eq_some_iff.1 ho').1
       exfalso
       by_cases e : front.length = i
       ·subst e
        simp [Array.getD_eq_getD_getElem?,show front.length < listed.size from by omega] at h3
       ·have h4:=hfl i (by rw [hk] at hsz;simp at hsz;omega);rw [getD_ft (by omega)] at h4
        simp [Array.getD_eq_getD_getElem?,e] at h3 h4
        rw [h3] at h4
        cases h4
     cases fuel with
     | zero => exact ⟨hr,hq⟩
     | succ fuel => exact ⟨fun _ => hq,fun i hi => by rw [hr] at hi;cases hi⟩)
    unfold wpOp;rw [ho]
    simp only
    split
    ·rename_i hw;rw [if_pos hw] at h2;exact .inl h2
    ·rename_i hw;rw [if_neg hw] at h2;exact h2
end
theorem wp_region_grow_last {P : Program} {id : Nat} {Q : Exit → Act → World → Prop} {a0 : Act} {W : World} {l : List Oper} {front : List Oper} {last : Oper} (hm : P.follows .mixedOrders = true) (hf : l.dropLast = front) (hb : l.getLast? = some last) (hB : growB a0.tmps.size front (some last) = true)
  (h : Grow P l.toArray Q W a0 (some last) front []) : (Code.region id l.toArray true).wp P Q a0 W:=by
 obtain ⟨φs,hlen,hs,hfi⟩:=Grow.spec _ _ h
 have hl : l = front ++ (some last).toList:=by
  obtain ⟨l',rfl⟩:=List.getLast?_eq_some_iff.1 hb;rw [← hf]
  simp
 refine wp_region_any hm (wpAny_grow (by rw [hl]) hB hlen hs hfi _ _ _ _ (by simp) ?_ (fun o ho => ?_) ⟨⟨rfl,rfl,(Below.refl _ _).drew,fun i o φ h1 h2 t ht hx => ?_,fun t _ => rfl⟩,fun j o h1 hx => ?_⟩)
 ·have:=List.count_le_length (a:=false) (l:=(Array.replicate l.toArray.size false).toList)
  simp at this ⊢
 ·exact repl_false _ _
 ·rw [repl_false] at hx;cases hx
 ·rw [repl_false] at hx;cases hx
end Gt
namespace Gu

def waits (front : List Oper) (i : Nat) : Nat → Array Edge → Bool
 | 0,after => after.any fun e => Region.binds .any e && e.on == i
 | f + 1,after => after.any fun e => Region.binds .any e && (e.on == i || match front[e.on]? with | some p => waits front i f p.after | none => false)
theorem waits_spec {front : List Oper} {i : Nat} {listed : Array Bool} (hc : ∀ (j : Nat) (o : Oper),front[j]? = some o → listed.getD j false = true → ∀ e ∈ o.after,Region.binds .any e = true → listed.getD e.on false = true) : ∀ (f : Nat) (after : Array Edge),waits front i f after = true → (∀ e ∈ after,Region.binds .any e = true → listed.getD e.on false = true) → listed.getD i false = true
 | 0,after,h,ha => by
  obtain ⟨k,hk,hx⟩:=Array.any_eq_true.1 h;simp only [Bool.and_eq_true,beq_iff_eq] at hx;have:=ha _ (Array.getElem_mem hk) hx.1
  rwa [hx.2] at this
 | f + 1,after,h,ha => by
  obtain ⟨k,hk,hx⟩:=Array.any_eq_true.1 h;simp only [Bool.and_eq_true,Bool.or_eq_true,beq_iff_eq] at hx;have h1:=ha _ (Array.getElem_mem hk) hx.1
  rcases hx.2 with h2 | h2
  ·rwa [h2] at h1
  ·split at h2
   ·next p hp => exact waits_spec hc f p.after h2 (fun e he hb => hc _ p hp h1 e he hb)
   ·cases h2
def lastTwo (P : Program) (ops : Array Oper) (Q : Exit → Act → World → Prop) (s t : Oper) (a : Act) (w : World) : Prop :=
 ∀ K : Act → World → Prop,(∀ a' w',(∀ K' : Act → World → Prop,(∀ a w,Q .normal a w → K' a w) → if Region.wanted t (yielded ops a'.tmps) = true then t.wp P a' w' K' Q else K' (a'.put t.dst undef) w') → K a' w') → if Region.wanted s (yielded ops a.tmps) = true then s.wp P a w K Q else K (a.put s.dst undef) w
def Fin (P : Program) (ops : Array Oper) (Q : Exit → Act → World → Prop) (W : World) (a0 : Act) (s t : Oper) (known : List (Tmp × Fact)) : Prop :=
 ∀ (x : Tmp → Value) (w : World),Below W.heap.size W w → (∀ p ∈ known,p.2 (x p.1) w) → lastTwo P ops Q s t (putsAll a0 known x) w
def Grow (P : Program) (ops : Array Oper) (Q : Exit → Act → World → Prop) (W : World) (a0 : Act) (s t : Oper) : List Oper → List (Tmp × Fact) → Prop
 | [],known => Fin P ops Q W a0 s t known
 | o :: rest,known => ∃ φ : Fact,φ.Mono ∧ Obl P ops Q W a0 known o φ ∧ Grow P ops Q W a0 s t rest (kn o.dst φ known)
section
variable {P : Program} {ops : Array Oper} {Q : Exit → Act → World → Prop} {W : World} {a0 : Act} {s t : Oper}
theorem Grow.step {o : Oper} {rest : List Oper} {known : List (Tmp × Fact)} {d : Tmp} (φ : Fact) (hd : o.dst = some d) (hφ : φ.Mono) (ho : Obl P ops Q W a0 known o φ)
  (h : Grow P ops Q W a0 s t rest ((d,φ) :: known)) : Grow P ops Q W a0 s t (o :: rest) known:=⟨φ,hφ,ho,(by rw [hd];exact h)⟩
theorem Grow.stepC {o : Oper} {rest : List Oper} {known : List (Tmp × Fact)} {d : Tmp} (c : Value) (hd : o.dst = some d) (ho : Obl P ops Q W a0 known o (fun v _ => v = c))
  (h : Grow P ops Q W a0 s t rest ((d,fun v _ => v = c) :: known)) : Grow P ops Q W a0 s t (o :: rest) known:=Grow.step _ hd (Fact.mono_eq c) ho h
theorem Grow.done {known : List (Tmp × Fact)} (h : Fin P ops Q W a0 s t known) : Grow P ops Q W a0 s t [] known:=h
theorem Grow.spec : ∀ (l : List Oper) (known : List (Tmp × Fact)),Grow P ops Q W a0 s t l known → ∃ φs : List Fact,φs.length = l.length ∧
  (∀ (i : Nat) (o : Oper) (φ : Fact),l[i]? = some o → φs[i]? = some φ → φ.Mono ∧ Obl P ops Q W a0 (knAll known (l.take i) (φs.take i)) o φ) ∧ Fin P ops Q W a0 s t (knAll known l φs)
 | [],known,h => ⟨[],rfl,fun i o φ h => by simp at h,by rw [knAll_nil];exact h⟩
 | o :: l,known,h => by
  obtain ⟨φ,hφ,ho,hr⟩:=h;obtain ⟨φs,hl,hs,hf⟩:=Grow.spec l _ hr;refine ⟨φ :: φs,by simp [hl],?_,hf⟩;intro i o' φ' h1 h2
  cases i with
  | zero =>
   simp only [List.getElem?_cons_zero,Option.some.injEq] at h1 h2;subst h1;subst h2;exact ⟨hφ,ho⟩
  | succ i =>
   simp only [List.getElem?_cons_succ] at h1 h2
   simpa [knAll] using hs i o' φ' h1 h2
def growB (n : Nat) (front : List Oper) (s t : Oper) : Bool :=
 let ops:=(front ++ [s,t]).toArray
 decide ((front.filterMap (·.dst)).Nodup) && front.all (fun o => match o.dst with | some d => decide (d < n) | none => true) &&
 (List.range front.length).all (fun j => match front[j]? with
  | some o => (o.looksAt ops).all (fun d => (List.range front.length).all fun i => match front[i]? with
    | some p => p.dst != some d || (decide (i < j) && o.after.any fun e => e.on == i && Region.binds .any e)
    | none => true)
  | none => true) &&
 (List.range ops.size).all (fun j => match ops[j]? with | some o => o.after.all (fun e => !Region.binds .any e || decide (e.on < j)) | none => true) &&
 (List.range front.length).all (fun i => waits front i 12 s.after) && t.after.any (fun e => Region.binds .any e && e.on == front.length)
theorem growB_spec {n : Nat} {front : List Oper} (h : growB n front s t = true) :
  (front.filterMap (·.dst)).Nodup ∧ (∀ o ∈ front,∀ d,o.dst = some d → d < n) ∧
  (∀ (j : Nat) (o : Oper),front[j]? = some o → ∀ d ∈ o.looksAt (front ++ [s,t]).toArray,∀ (i : Nat) (p : Oper),front[i]? = some p → p.dst = some d → i < j ∧ ∃ e ∈ o.after,e.on = i ∧ Region.binds .any e = true) ∧
  (∀ (j : Nat) o,(front ++ [s,t]).toArray[j]? = some o → ∀ e ∈ o.after,Region.binds .any e = true → e.on < j) ∧
  (∀ i,i < front.length → waits front i 12 s.after = true) ∧ ∃ e ∈ t.after,Region.binds .any e = true ∧ e.on = front.length:=by
 unfold growB at h;simp only [Bool.and_eq_true,decide_eq_true_eq] at h;obtain ⟨⟨⟨⟨⟨h1,h2⟩,h3⟩,h4⟩,h5⟩,h6⟩:=h;refine ⟨h1,?_,?_,?_,?_,?_⟩
 ·intro o ho d hd;have:=List.all_eq_true.1 h2 o ho;rw [hd] at this
  simpa using this
 ·intro j o ho d hd i p hp hpd;have hj : j < front.length:=(List.getElem?_eq_some_iff.1 ho).1;have hi : i < front.length:=(List.getElem?_eq_some_iff.1 hp).1;have:=List.all_eq_true.1 h3 j (List.mem_range.2 hj);rw [ho] at this;have:=List.all_eq_true.1 this d hd;have:=List.all_eq_true.1 this i (List.mem_range.2 hi);rw [hp] at this;simp only [hpd,bne_self_eq_false,Bool.false_or,Bool.and_eq_true,decide_eq_true_eq] at this;obtain ⟨h6,h7⟩:=this;obtain ⟨k,hk,hx⟩:=Array.any_eq_true.1 h7;simp only [Bool.and_eq_true,beq_iff_eq] at hx;exact ⟨h6,_,Array.getElem_mem hk,hx.1,hx.2⟩
 ·intro j o ho e he hbe;have hj : j < (front ++ [s,t]).toArray.size:=(Array.getElem?_eq_some_iff.1 ho).1;have:=List.all_eq_true.1 h4 j (List.mem_range.2 hj);rw [ho] at this;have:=Array.all_eq_true.1 this;obtain ⟨k,hk,rfl⟩:=Array.mem_iff_getElem.1 he;have h9:=this k hk;rw [hbe] at h9
  simpa using h9
 ·intro i hi;exact List.all_eq_true.1 h5 i (List.mem_range.2 hi)
 ·obtain ⟨k,hk,hx⟩:=Array.any_eq_true.1 h6;simp only [Bool.and_eq_true,beq_iff_eq] at hx;exact ⟨_,Array.getElem_mem hk,hx.1,hx.2⟩
theorem Fin.last {front : List Oper} {φs : List Fact} {listed : Array Bool} {a : Act} {w : World} (hf : Fin P ops Q W a0 s t (knAll [] front φs)) (hlen : φs.length = front.length) (hin : ∀ o ∈ front,∀ d,o.dst = some d → d < a0.tmps.size)
  (h : At front φs W a0 listed a w) (hall : ∀ i,i < front.length → listed.getD i false = true) : lastTwo P ops Q s t a w:=by
 have h9 : ∃ x,a = putsAll a0 (knAll [] front φs) x ∧ ∀ p ∈ knAll [] front φs,p.2 (x p.1) w:=Go.Proofs.YtpgfiggcgjajcaaGreatDoor.Fin.last (P:=P) (ops:=ops) (Q:=fun _ a' w' => ∃ x,a' = putsAll a0 (knAll [] front φs) x ∧ ∀ p ∈ knAll [] front φs,p.2 (x p.1) w') (back:=none) (fun x _ _ h2 => ⟨x,rfl,h2⟩) hlen hin h hall;obtain ⟨x,e,h2⟩:=h9;have h3:=hf x w h.below h2;rw [← e] at h3;exact h3
theorem run_op {fuel : Nat} {listed : Array Bool} {a : Act} {w : World} {j : Nat} {o : Oper} (ho : ops[j]? = some o) (h1 : if Region.wanted o (yielded ops a.tmps) = true then o.wp P a w (wpAny P .any ops Q fuel (listed.setIfInBounds j true)) Q else wpAny P .any ops Q fuel (listed.setIfInBounds j true) (a.put o.dst undef) w) : wpOp P ops Q j (wpAny P .any ops Q fuel (listed.setIfInBounds j true)) a w:=by
 unfold wpOp;rw [ho]
 simp only
 split
 ·rename_i hw;rw [if_pos hw] at h1;exact .inl h1
 ·rename_i hw;rw [if_neg hw] at h1;exact h1
theorem none_ready {listed : Array Bool} (hz : listed.size = ops.size) (hall : ∀ i,i < ops.size → listed.getD i false = true) : Region.ready .any ops listed = []:=by
 cases hr : Region.ready .any ops listed with
 | nil => rfl
 | cons j js =>
  have hm : j ∈ Region.ready .any ops listed:=by rw [hr];simp
  obtain ⟨h1,o,ho,-⟩:=mem_ready.1 hm;have hj:=(Array.getElem?_eq_some_iff.1 ho).1;rw [← getD_ft (by omega),hall j hj] at h1
  cases h1
theorem fin_any {fuel : Nat} {listed : Array Bool} {a : Act} {w : World} (hz : listed.size = ops.size) (hall : ∀ i,i < ops.size → listed.getD i false = true) (hq : Q .normal a w) : wpAny P .any ops Q fuel listed a w:=by
 have hr:=none_ready hz hall
 cases fuel with
 | zero => exact ⟨hr,hq⟩
 | succ fuel => exact ⟨fun _ => hq,fun i hi => by rw [hr] at hi;cases hi⟩
theorem wpAny_grow {front : List Oper} {φs : List Fact} (hops : ops = (front ++ [s,t]).toArray) (hB : growB a0.tmps.size front s t = true) (hlen : φs.length = front.length)
  (hs : ∀ (i : Nat) (o : Oper) (φ : Fact),front[i]? = some o → φs[i]? = some φ → φ.Mono ∧ Obl P ops Q W a0 (knAll [] (front.take i) (φs.take i)) o φ) (hf : Fin P ops Q W a0 s t (knAll [] front φs)) :
  ∀ (fuel : Nat) (listed : Array Bool) (a : Act) (w : World),listed.size = ops.size → listed.toList.count false ≤ fuel → listed.getD front.length false = false → listed.getD (front.length + 1) false = false → Gt.Ac front φs W a0 listed a w → wpAny P .any ops Q fuel listed a w:=by
 obtain ⟨hn,hin,hdep,hlt,hwait,e2,he2,hb2,hon2⟩:=growB_spec hB;rw [← hops] at hdep hlt
 have hsz : ops.size = front.length + 2:=by rw [hops];simp
 have hos : ops[front.length]? = some s:=by rw [hops];simp
 have hot : ops[front.length + 1]? = some t:=by rw [hops];simp
 intro fuel
 induction fuel with
 | zero =>
  intro listed a w hz hc hb hb' h;have h9:=no_false (by omega : listed.toList.count false = 0) front.length (by omega);rw [hb] at h9
  cases h9
 | succ fuel ih =>
  intro listed a w hz hc hb hb' h;refine ⟨fun hr => ?_,fun j hj => ?_⟩
  ·have h9:=Gs.all_listed hz hlt hr front.length (by omega);rw [hb] at h9
   cases h9
  obtain ⟨hun,o,ho,hall⟩:=mem_ready.1 hj;have hjs : j < ops.size:=(Array.getElem?_eq_some_iff.1 ho).1;have hcs:=count_set (listed:=listed) (i:=j) (by omega) hun
  by_cases hjf : j < front.length
  ·have hof : front[j]? = some o:=by rw [hops] at ho;simpa [List.getElem?_append_left hjf] using ho
   have hφ : φs[j]? = some (φs[j]'(by omega)):=List.getElem?_eq_getElem _;obtain ⟨hm,hob⟩:=hs j o _ hof hφ
   have hfacts : ∀ t ∈ o.looksAt ops,slotFact a0 (knAll [] (front.take j) (φs.take j)) a w t:=by
    intro t ht;unfold slotFact
    cases hk : (knAll [] (front.take j) (φs.take j)).lookup t with
    | some φ =>
     rcases lookup_some _ _ _ hk with ⟨i,p,h1,h2,h3⟩ | h1
     ·have hij : i < j:=by have:=(List.getElem?_eq_some_iff.1 h1).1;simp at this;omega
      rw [List.getElem?_take,if_pos hij] at h1 h3;obtain ⟨-,e,he,hon,hbi⟩:=hdep j o hof t ht i p h1 h2;have hl:=hall e he hbi;rw [hon] at hl;exact h.old.known i p φ h1 h3 t h2 hl
     ·simp at h1
    | none =>
     refine h.old.other t (fun i p hp hd => ?_)
     exfalso
     obtain ⟨hij,-⟩:=hdep j o hof t ht i p hp hd;have hi:=(List.getElem?_eq_some_iff.1 hp).1;exact (lookup_none _ _ _ hk).2 i p (φs[i]'(by omega)) (by rw [List.getElem?_take,if_pos hij];exact hp) (by rw [List.getElem?_take,if_pos hij];exact List.getElem?_eq_getElem _) hd
   have hkeep : ∀ i,¬ j = i → listed.getD i false = false → (listed.setIfInBounds j true).getD i false = false:=fun i e h2 => by
    simpa [Array.getD_eq_getD_getElem?,Array.getElem?_setIfInBounds,e] using h2
   exact run_op ho (hob a w _ h.old.size h.old.below hfacts (fun v w' hbw hv => ih _ _ _ (by simpa using hz) (by omega) (hkeep _ (by omega) hb) (hkeep _ (by omega) hb') ⟨h.old.step hn hin (fun i o φ h1 h2 => (hs i o φ h1 h2).1) hof hφ (by omega) hbw hv,fun j' o' ho' hl e he hbe => (by
     by_cases ej : j = j'
     ·subst ej;obtain rfl : o = o':=Option.some.inj (hof.symm.trans ho');exact Gs.set_true (hall e he hbe)
     ·exact Gs.set_true (h.cl j' o' ho' (Gs.set_of_ne ej hl) e he hbe))⟩))
  ·by_cases hj1 : j = front.length
   ·subst hj1;obtain rfl : s = o:=Option.some.inj (hos.symm.trans ho);have hfl : ∀ i,i < front.length → listed.getD i false = true:=fun i hi => waits_spec h.cl 12 s.after (hwait i hi) (fun e he hbe => hall e he hbe);refine run_op ho (Fin.last hf hlen hin h.old hfl _ (fun a' w' ht => ?_))
    have hz2 : (listed.setIfInBounds front.length true).size = ops.size:=by simpa using hz
    have hl2 : ∀ i,i < front.length + 1 → (listed.setIfInBounds front.length true).getD i false = true:=fun i hi => by
     by_cases e : front.length = i
     ·subst e
      simp [Array.getD_eq_getD_getElem?,show front.length < listed.size from by omega]
     ·exact Gs.set_true (hfl i (by omega))
    have hu2 : (listed.setIfInBounds front.length true).getD (front.length + 1) false = false:=by
     have e : ¬ front.length = front.length + 1:=by omega
     simpa [Array.getD_eq_getD_getElem?,Array.getElem?_setIfInBounds,e] using hb'
    cases fuel with
    | zero =>
     have h9:=no_false (by omega : (listed.setIfInBounds front.length true).toList.count false = 0) (front.length + 1) (by omega);rw [hu2] at h9
     cases h9
    | succ fuel =>
     refine ⟨fun hr => ?_,fun i hi => ?_⟩
     ·have h9:=Gs.all_listed hz2 hlt hr (front.length + 1) (by omega);rw [hu2] at h9
      cases h9
     ·obtain ⟨hun2,o2,ho2,-⟩:=mem_ready.1 hi;have his : i < ops.size:=(Array.getElem?_eq_some_iff.1 ho2).1
      have hie : i = front.length + 1:=Classical.byContradiction fun e => by
       have h9:=hl2 i (by omega);rw [getD_ft (by omega)] at h9;rw [h9] at hun2
       cases hun2
      subst hie;obtain rfl : t = o2:=Option.some.inj (hot.symm.trans ho2);refine run_op ho2 (ht _ (fun a3 w3 hq => fin_any (by simpa using hz2) (fun i hi => ?_) hq))
      by_cases e : front.length + 1 = i
      ·subst e
       simp [Array.getD_eq_getD_getElem?,show front.length + 1 < listed.size from by omega]
      ·exact Gs.set_true (hl2 i (by omega))
   ·obtain rfl : j = front.length + 1:=by omega
    obtain rfl : t = o:=Option.some.inj (hot.symm.trans ho);have h9:=hall e2 he2 hb2;rw [hon2,getD_ft (by omega)] at h9;rw [getD_ft (by omega)] at hb;rw [hb] at h9
    cases h9
end
theorem wp_region_grow_two {P : Program} {id : Nat} {Q : Exit → Act → World → Prop} {a0 : Act} {W : World} {l : List Oper} {front : List Oper} {s t : Oper} (hm : P.follows .mixedOrders = true) (hfr : l.dropLast.dropLast = front) (hss : l.dropLast.getLast? = some s) (htt : l.getLast? = some t) (hB : growB a0.tmps.size front s t = true)
  (h : Grow P l.toArray Q W a0 s t front []) : (Code.region id l.toArray true).wp P Q a0 W:=by
 have hl : l = front ++ [s,t]:=by
  obtain ⟨l',rfl⟩:=List.getLast?_eq_some_iff.1 htt;rw [List.dropLast_concat] at hfr hss;obtain ⟨l2,rfl⟩:=List.getLast?_eq_some_iff.1 hss;rw [List.dropLast_concat] at hfr;rw [← hfr]
  simp
 obtain ⟨φs,hlen,hs,hfi⟩:=Grow.spec _ _ h;refine wp_region_any hm (wpAny_grow (by rw [hl]) hB hlen hs hfi _ _ _ _ (by simp) ?_ ?_ ?_ ⟨⟨rfl,rfl,(Below.refl _ _).drew,fun i o φ h1 h2 d hd hx => ?_,fun d _ => rfl⟩,fun j o h1 hx => ?_⟩)
 ·have:=List.count_le_length (a:=false) (l:=(Array.replicate l.toArray.size false).toList)
  simp at this ⊢
 ·exact repl_false _ _
 ·exact repl_false _ _
 ·rw [repl_false] at hx;cases hx
 ·rw [repl_false] at hx;cases hx
end Gu
end Go.Proofs.YtpgfiggcgjajcaaGreatDoor

namespace Go.Proofs.YtpgfiggcgjajcaaGreatDoor
open Go.RowKit
namespace Rc
open Mk

def WrkI (c : Cl) (d : Ad) (t : ByteArray) (E : Nat → Addr) (w0 w : World) (e : Ending) (w' : World) : Prop :=
 Below w.heap.size w w' ∧ ((∃ i,i < 9 ∧ AskNWhy c t i ∧ e = .returned (.tuple #[.agg #[.int .i64 0,.int .i64 0,.string ⟨#[]⟩,.string ⟨#[]⟩,.int .i64 0,.int .i64 0,.int .i64 0,.bool false,.slice none 0 0,.slice none 0 0,.slice none 0 0,.slice none 0 0,.slice none 0 0,.slice none 0 0,.int .i64 0],.iface 208 (.pointer (some (E i)))])) ∨ (∃ (n : Nd) (va : Option Addr) (vl vc : Nat),AskNOk c t n ∧ e = .returned (.tuple #[.agg #[.int .i64 n.u,.int .i64 c.now,.string n.n,.string n.z,.int .i64 n.c,.int .i64 n.s,.int .i64 n.u,.bool n.d,.slice va vl vc,.slice d.a1 d.l1 d.c1,.slice d.a2 d.l2 d.c2,.slice d.a3 d.l3 d.c3,.slice d.a4 d.l4 d.c4,.slice d.a5 d.l5 d.c5,.int .i64 c.now],.nilIface]) ∧ TxRow w0 va vl vc n.zs))
def WinI (c : Cl) (d : Ad) (t : ByteArray) (x : Bool) (E : Nat → Addr) (w0 w : World) (e : Ending) (w' : World) : Prop :=
 Below w.heap.size w w' ∧ ((∃ i,i < 9 ∧ AskNWhy c t i ∧ e = .returned (.tuple #[.agg #[.int .i64 0,.int .i64 0,.string ⟨#[]⟩,.string ⟨#[]⟩,.int .i64 0,.int .i64 0,.int .i64 0,.bool false,.slice none 0 0,.slice none 0 0,.slice none 0 0,.slice none 0 0,.slice none 0 0,.slice none 0 0,.int .i64 0],.iface 208 (.pointer (some (E i)))])) ∨ (∃ (n : Nd) (va : Option Addr) (vl vc : Nat),AskNOk c t n ∧ ((¬ n.d = x ∧ e = .returned (.tuple #[.agg #[.int .i64 n.u,.int .i64 c.now,.string n.n,.string n.z,.int .i64 n.c,.int .i64 n.s,.int .i64 n.u,.bool n.d,.slice va vl vc,.slice d.a1 d.l1 d.c1,.slice d.a2 d.l2 d.c2,.slice d.a3 d.l3 d.c3,.slice d.a4 d.l4 d.c4,.slice d.a5 d.l5 d.c5,.int .i64 c.now],.iface 208 (.pointer (some (E 8)))])) ∨ (n.d = x ∧ e = .returned (.tuple #[.agg #[.int .i64 n.u,.int .i64 c.now,.string n.n,.string n.z,.int .i64 n.c,.int .i64 n.s,.int .i64 n.u,.bool n.d,.slice va vl vc,.slice d.a1 d.l1 d.c1,.slice d.a2 d.l2 d.c2,.slice d.a3 d.l3 d.c3,.slice d.a4 d.l4 d.c4,.slice d.a5 d.l5 d.c5,.int .i64 c.now],.nilIface]) ∧ TxRow w0 va vl vc n.zs))))

theorem ileaseW_any (d : Ad) (now : Int) (n : Nd) (va : Option Addr) (vl vc : Nat) (w : World) :
  Calls Tryz.prog 87 #[.agg #[.slice d.a1 d.l1 d.c1,.slice d.a2 d.l2 d.c2,.slice d.a3 d.l3 d.c3,.slice d.a4 d.l4 d.c4,.slice d.a5 d.l5 d.c5,.int .i64 now],.agg #[.string n.n,.string n.z,.int .i64 n.c,.int .i64 n.s,.int .i64 n.u,.bool n.d,.slice va vl vc]] w fun e w' => e = .returned (.agg #[.int .i64 n.u,.int .i64 now]) ∧ Below w.heap.size w w':=by
 go_enter Tryz.func87,Tryz.ntmps87
 go_wp2
 exact bodyPost_ret (v:=.agg #[.int .i64 n.u,.int .i64 now]) (by simp [results,Tryz.results87,go_sem]) rfl ⟨rfl,below3 _ _ _ _⟩

theorem iwrkE_any (d : Ad) (c : Cl) (t : ByteArray) (E : Nat → Addr) (w0 : World) (w : World) (hr0 : ClRow w0 d c.raw) (hb0 : Below w0.heap.size w0 w) (hG : Ers w E) :
  Calls Tryz.prog 62 #[.agg #[.slice d.a1 d.l1 d.c1,.slice d.a2 d.l2 d.c2,.slice d.a3 d.l3 d.c3,.slice d.a4 d.l4 d.c4,.slice d.a5 d.l5 d.c5,.int .i64 c.now],.string t] w (WrkI c d t E w0 w):=by
 have HR0:=hidK hr0;have HB0:=hidK hb0;have HE:=hidK hG;have HB:=hidK (Below.refl w.heap.size w);clear hr0 hb0 hG
 go_enter Tryz.func62,Tryz.ntmps62
 go_wp2_with fail;refine (iaskNE_any d c t E w0 _ HR0.out (HB0.out.trans ((HB.out.trans ((below2 _ _ _).mono HB.out.size)).mono HB0.out.size)) (HE.out.below (HB.out.trans ((below2 _ _ _).mono HB.out.size)))).mono ?_;rintro e w1 ⟨hb,hf⟩;obtain ⟨HA0,HA1,hbx⟩:=slots2 hb;have Bk:=hidK HA0;have Br:=hidK HA1;replace HB:=upB HB hbx;clear hb hbx HA0 HA1
 rcases hf with ⟨i,hi8,hwhy,rfl⟩ | ⟨n,va,vl,vc,hok,rfl,hvr⟩
 ·have HWY:=hidK hwhy;clear hwhy;obtain ⟨r0,r1,r2,r3,r4,r5,r6,r7,r8,r9,r10,r11,r12,r13,r14⟩:=cs15 Br.out;have fr0:=froK Br.out 0;have fr1:=froK Br.out 1;have fr2:=froK Br.out 2;have fr3:=froK Br.out 3;have fr4:=froK Br.out 4;have fr5:=froK Br.out 5;have fr6:=froK Br.out 6;have fr7:=froK Br.out 7;have fr8:=froK Br.out 8;have fr9:=froK Br.out 9;have fr10:=froK Br.out 10;have fr11:=froK Br.out 11;have fr12:=froK Br.out 12;have fr13:=froK Br.out 13;have fr14:=froK Br.out 14;have hrl : w.heap.size + 1 < w1.heap.size:=lt_of_some Br.out;have hkl : w.heap.size < w1.heap.size:=lt_of_some Bk.out
  have hn1 : ¬ w.heap.size + 1 = w1.heap.size:=by omega
  have hn2 : ¬ w1.heap.size = w.heap.size + 1:=by omega
  go_wp2
  exact bodyPost_ret (v:=.tuple #[.agg #[.int .i64 0,.int .i64 0,.string ⟨#[]⟩,.string ⟨#[]⟩,.int .i64 0,.int .i64 0,.int .i64 0,.bool false,.slice none 0 0,.slice none 0 0,.slice none 0 0,.slice none 0 0,.slice none 0 0,.slice none 0 0,.int .i64 0],.iface 208 (.pointer (some (E i)))]) (by simp [results,Tryz.results62,go_sem, *]) rfl ⟨Below.alloc (sb1 (sb1 (sb1 (sb1 (sb1 (sb1 (sb1 (sb1 (sb1 (sb1 (sb1 (sb1 (sb1 (sb1 (sb1 (HB.out)))))))))))))))) (by simp [World.setCell];have:=HB.out.size;omega) _,.inl ⟨i,hi8,HWY.out,rfl⟩⟩
 have HOK:=hidK hok;have HVR:=hidK hvr;clear hok hvr;go_wp2_with fail;obtain ⟨W,hW0⟩ : ∃ W,W = w1.alloc (.cells #[.string n.n,.string n.z,.int .i64 n.c,.int .i64 n.s,.int .i64 n.u,.bool n.d,.slice va vl vc] 56):=⟨_,rfl⟩;have BkW:=hidK ((Below.heap_alloc w1 (.cells #[.string n.n,.string n.z,.int .i64 n.c,.int .i64 n.s,.int .i64 n.u,.bool n.d,.slice va vl vc] 56) _ (lt_of_some Bk.out)).trans Bk.out);have BrW:=hidK ((Below.heap_alloc w1 (.cells #[.string n.n,.string n.z,.int .i64 n.c,.int .i64 n.s,.int .i64 n.u,.bool n.d,.slice va vl vc] 56) _ (lt_of_some Br.out)).trans Br.out);have BnW:=hidK (heap_alloc_new w1 (.cells #[.string n.n,.string n.z,.int .i64 n.c,.int .i64 n.s,.int .i64 n.u,.bool n.d,.slice va vl vc] 56));have HBX:=hidK (HB.out.trans ((below1 w1 (.cells #[.string n.n,.string n.z,.int .i64 n.c,.int .i64 n.s,.int .i64 n.u,.bool n.d,.slice va vl vc] 56)).mono HB.out.size));rw [← hW0] at BkW BrW BnW HBX ⊢;clear hW0 Bk Br HB;rename_i K0 hK0;refine Gu.wp_region_grow_two (by kernel_rfl) rfl rfl rfl (by kernel_rfl) ?_;refine' Gu.Grow.stepC _ rfl ?_ ?_;rotate_left 1
 ·refine Obl.plain rfl ?_;intro ac wg K hsz hW hf hK;clear hsz;have e2:=hf 2 (by decide)
  simp [slotFact,List.lookup] at e2
  clear hf;obtain ⟨k0,k1,k2,k3,k4,k5⟩:=cs6 ((hW.block _ (lt_of_some BkW.out)).trans BkW.out);go_simp;refine hK _ _ (Below.refl _ _) ?_;with_reducible rfl
 refine' Gu.Grow.stepC _ rfl ?_ ?_;rotate_left 1
 ·refine Obl.plain rfl ?_;intro ac wg K hsz hW hf hK;clear hsz;have e6:=hf 6 (by decide)
  simp [slotFact,List.lookup] at e6
  clear hf;obtain ⟨n0,n1,n2,n3,n4,n5,n6⟩:=cs7 ((hW.block _ (lt_of_some BnW.out)).trans BnW.out);go_simp;refine hK _ _ (Below.refl _ _) ?_;with_reducible rfl
 refine Gu.Grow.step (fun v _ => v = .agg #[.int .i64 n.u,.int .i64 c.now]) rfl (Fact.mono_eq _) ?_ ?_
 ·refine Obl.plain rfl ?_;intro ac wg K hsz hW hf hK;clear hsz;have e18:=hf 18 (by decide)
  simp [slotFact,List.lookup] at e18
  have e19:=hf 19 (by decide)
  simp [slotFact,List.lookup] at e19
  clear hf;go_simp;refine (ileaseW_any d c.now n va vl vc _).mono ?_;rintro e w6 ⟨rfl,hb6⟩;exact hK _ _ hb6 rfl
 refine' Gu.Grow.stepC _ rfl ?_ ?_;rotate_left 1
 ·refine Obl.plain rfl ?_;intro ac wg K hsz hW hf hK;clear hsz;have e6:=hf 6 (by decide)
  simp [slotFact,List.lookup] at e6
  clear hf;obtain ⟨n0,n1,n2,n3,n4,n5,n6⟩:=cs7 ((hW.block _ (lt_of_some BnW.out)).trans BnW.out);go_simp;refine hK _ _ (Below.refl _ _) ?_;with_reducible rfl
 refine' Gu.Grow.stepC _ rfl ?_ ?_;rotate_left 1
 ·refine Obl.plain rfl ?_;intro ac wg K hsz hW hf hK;clear hsz;have e2:=hf 2 (by decide)
  simp [slotFact,List.lookup] at e2
  clear hf;obtain ⟨k0,k1,k2,k3,k4,k5⟩:=cs6 ((hW.block _ (lt_of_some BkW.out)).trans BkW.out);go_simp;refine hK _ _ (Below.refl _ _) ?_;with_reducible rfl
 refine' Gu.Grow.stepC _ rfl ?_ ?_;rotate_left 1
 ·refine Obl.plain rfl ?_;intro ac wg K hsz hW hf hK;clear hsz;have e20:=hf 20 (by decide)
  simp [slotFact,List.lookup] at e20
  have e21:=hf 21 (by decide)
  simp [slotFact,List.lookup] at e21
  have e22:=hf 22 (by decide)
  simp [slotFact,List.lookup] at e22
  clear hf;go_simp;refine hK _ _ (Below.refl _ _) ?_;with_reducible rfl
 refine Gu.Grow.done ?_;intro q wz hW hf;simp only [List.forall_mem_cons] at hf;obtain ⟨h23,h22,h21,h20,h19,h18,-⟩:=hf;have HWZ:=hidK hW;have Br6:=upK BrW hW;clear hW;obtain ⟨r0,r1,r2,r3,r4,r5,r6,r7,r8,r9,r10,r11,r12,r13,r14⟩:=cs15 Br6.out;have fr0:=froK Br6.out 0;have fr1:=froK Br6.out 1;have fr2:=froK Br6.out 2;have fr3:=froK Br6.out 3;have fr4:=froK Br6.out 4;have fr5:=froK Br6.out 5;have fr6:=froK Br6.out 6;have fr7:=froK Br6.out 7;have fr8:=froK Br6.out 8;have fr9:=froK Br6.out 9;have fr10:=froK Br6.out 10;have fr11:=froK Br6.out 11;have fr12:=froK Br6.out 12;have fr13:=froK Br6.out 13;have fr14:=froK Br6.out 14;have hrl:=lt_of_some Br6.out;intro K hK;rw [if_pos (by rfl)];simp only [putsAll,List.foldr,Act.put,List.setIfInBounds_toArray,List.set_cons_zero,List.set_cons_succ,h23,h22,h21,h20,h19,h18];go_simp;refine hK _ _ ?_;clear hK K;intro K hK;rw [if_pos (by rfl)];go_simp;refine hK _ _ ?_;refine hK0 _ _ ?_;clear hK hK0 K K0
 go_wp2
 exact bodyPost_ret (v:=.tuple #[.agg #[.int .i64 n.u,.int .i64 c.now,.string n.n,.string n.z,.int .i64 n.c,.int .i64 n.s,.int .i64 n.u,.bool n.d,.slice va vl vc,.slice d.a1 d.l1 d.c1,.slice d.a2 d.l2 d.c2,.slice d.a3 d.l3 d.c3,.slice d.a4 d.l4 d.c4,.slice d.a5 d.l5 d.c5,.int .i64 c.now],.nilIface]) (by simp [results,Tryz.results62,go_sem, *]) rfl ⟨sb1 (sb1 (sb1 (sb1 (sb1 (sb1 (sb1 (sb1 (sb1 (sb1 (sb1 (sb1 (sb1 (sb1 (sb1 (HBX.out.trans (HWZ.out.mono HBX.out.size)))))))))))))))),.inr ⟨n,va,vl,vc,HOK.out,rfl,HVR.out⟩⟩

theorem iwin_any (d : Ad) (c : Cl) (t : ByteArray) (x : Bool) (E : Nat → Addr) (w0 : World) (w : World) (hr0 : ClRow w0 d c.raw) (hb0 : Below w0.heap.size w0 w) (hG : Ers w E) :
  Calls Tryz.prog 29 #[.agg #[.slice d.a1 d.l1 d.c1,.slice d.a2 d.l2 d.c2,.slice d.a3 d.l3 d.c3,.slice d.a4 d.l4 d.c4,.slice d.a5 d.l5 d.c5,.int .i64 c.now],.string t,.bool x] w (WinI c d t x E w0 w):=by
 have HR0:=hidK hr0;have HB0:=hidK hb0;have HE:=hidK hG;have HB:=hidK (Below.refl w.heap.size w);clear hr0 hb0 hG
 go_enter Tryz.func29,Tryz.ntmps29
 go_wp2_with fail;refine (iwrkE_any d c t E w0 _ HR0.out (HB0.out.trans ((HB.out.trans ((below2 _ _ _).mono HB.out.size)).mono HB0.out.size)) (HE.out.below (HB.out.trans ((below2 _ _ _).mono HB.out.size)))).mono ?_;rintro e w1 ⟨hb,hf⟩;obtain ⟨HA0,HA1,hbx⟩:=slots2 hb;have Bk:=hidK HA0;have Br:=hidK HA1;replace HB:=upB HB hbx;clear hb hbx HA0 HA1
 rcases hf with ⟨i,hi8,hwhy,rfl⟩ | ⟨n,va,vl,vc,hok,rfl,hvr⟩
 ·have HWY:=hidK hwhy;clear hwhy;obtain ⟨r0,r1,r2,r3,r4,r5,r6,r7,r8,r9,r10,r11,r12,r13,r14⟩:=cs15 Br.out;have fr0:=froK Br.out 0;have fr1:=froK Br.out 1;have fr2:=froK Br.out 2;have fr3:=froK Br.out 3;have fr4:=froK Br.out 4;have fr5:=froK Br.out 5;have fr6:=froK Br.out 6;have fr7:=froK Br.out 7;have fr8:=froK Br.out 8;have fr9:=froK Br.out 9;have fr10:=froK Br.out 10;have fr11:=froK Br.out 11;have fr12:=froK Br.out 12;have fr13:=froK Br.out 13;have fr14:=froK Br.out 14;have hrl : w.heap.size + 1 < w1.heap.size:=lt_of_some Br.out;have hkl : w.heap.size < w1.heap.size:=lt_of_some Bk.out
  have hn1 : ¬ w.heap.size + 1 = w1.heap.size:=by omega
  have hn2 : ¬ w1.heap.size = w.heap.size + 1:=by omega
  go_wp2
  exact bodyPost_ret (v:=.tuple #[.agg #[.int .i64 0,.int .i64 0,.string ⟨#[]⟩,.string ⟨#[]⟩,.int .i64 0,.int .i64 0,.int .i64 0,.bool false,.slice none 0 0,.slice none 0 0,.slice none 0 0,.slice none 0 0,.slice none 0 0,.slice none 0 0,.int .i64 0],.iface 208 (.pointer (some (E i)))]) (by simp [results,Tryz.results29,go_sem, *]) rfl ⟨Below.alloc (sb1 (sb1 (sb1 (sb1 (sb1 (sb1 (sb1 (sb1 (sb1 (sb1 (sb1 (sb1 (sb1 (sb1 (sb1 (HB.out)))))))))))))))) (by simp [World.setCell];have:=HB.out.size;omega) _,.inl ⟨i,hi8,HWY.out,rfl⟩⟩
 have HOK:=hidK hok;have HVR:=hidK hvr;clear hok hvr;have ev:=(HE.out.below HB.out).v8;have evl:=cell_lt ev
 by_cases hd : n.d = x
 rotate_left
 ·have HD:=hidK hd
  have hdb : (n.d == x) = false:=by simpa using hd
  clear hd;obtain ⟨r0,r1,r2,r3,r4,r5,r6,r7,r8,r9,r10,r11,r12,r13,r14⟩:=cs15 Br.out;have fr0:=froK Br.out 0;have fr1:=froK Br.out 1;have fr2:=froK Br.out 2;have fr3:=froK Br.out 3;have fr4:=froK Br.out 4;have fr5:=froK Br.out 5;have fr6:=froK Br.out 6;have fr7:=froK Br.out 7;have fr8:=froK Br.out 8;have fr9:=froK Br.out 9;have fr10:=froK Br.out 10;have fr11:=froK Br.out 11;have fr12:=froK Br.out 12;have fr13:=froK Br.out 13;have fr14:=froK Br.out 14;have hrl : w.heap.size + 1 < w1.heap.size:=lt_of_some Br.out;have hkl : w.heap.size < w1.heap.size:=lt_of_some Bk.out
  have hn1 : ¬ w.heap.size + 1 = w1.heap.size:=by omega
  have hn2 : ¬ w1.heap.size = w.heap.size + 1:=by omega
  go_wp2
  exact bodyPost_ret (v:=.tuple #[.agg #[.int .i64 n.u,.int .i64 c.now,.string n.n,.string n.z,.int .i64 n.c,.int .i64 n.s,.int .i64 n.u,.bool n.d,.slice va vl vc,.slice d.a1 d.l1 d.c1,.slice d.a2 d.l2 d.c2,.slice d.a3 d.l3 d.c3,.slice d.a4 d.l4 d.c4,.slice d.a5 d.l5 d.c5,.int .i64 c.now],.iface 208 (.pointer (some (E 8)))]) (by simp [results,Tryz.results29,go_sem, *]) rfl ⟨Below.alloc (sb1 (sb1 (sb1 (sb1 (sb1 (sb1 (sb1 (sb1 (sb1 (sb1 (sb1 (sb1 (sb1 (sb1 (sb1 (HB.out)))))))))))))))) (by simp [World.setCell];have:=HB.out.size;omega) _,.inr ⟨n,va,vl,vc,HOK.out,.inl ⟨HD.out,rfl⟩⟩⟩
 have HD:=hidK hd
 have hdb : (n.d == x) = true:=by simpa using hd
 clear hd;obtain ⟨r0,r1,r2,r3,r4,r5,r6,r7,r8,r9,r10,r11,r12,r13,r14⟩:=cs15 Br.out;have fr0:=froK Br.out 0;have fr1:=froK Br.out 1;have fr2:=froK Br.out 2;have fr3:=froK Br.out 3;have fr4:=froK Br.out 4;have fr5:=froK Br.out 5;have fr6:=froK Br.out 6;have fr7:=froK Br.out 7;have fr8:=froK Br.out 8;have fr9:=froK Br.out 9;have fr10:=froK Br.out 10;have fr11:=froK Br.out 11;have fr12:=froK Br.out 12;have fr13:=froK Br.out 13;have fr14:=froK Br.out 14;have hrl : w.heap.size + 1 < w1.heap.size:=lt_of_some Br.out;have hkl : w.heap.size < w1.heap.size:=lt_of_some Bk.out
 have hn1 : ¬ w.heap.size + 1 = w1.heap.size:=by omega
 have hn2 : ¬ w1.heap.size = w.heap.size + 1:=by omega
 go_wp2
 exact bodyPost_ret (v:=.tuple #[.agg #[.int .i64 n.u,.int .i64 c.now,.string n.n,.string n.z,.int .i64 n.c,.int .i64 n.s,.int .i64 n.u,.bool n.d,.slice va vl vc,.slice d.a1 d.l1 d.c1,.slice d.a2 d.l2 d.c2,.slice d.a3 d.l3 d.c3,.slice d.a4 d.l4 d.c4,.slice d.a5 d.l5 d.c5,.int .i64 c.now],.nilIface]) (by simp [results,Tryz.results29,go_sem, *]) rfl ⟨Below.alloc (sb1 (sb1 (sb1 (sb1 (sb1 (sb1 (sb1 (sb1 (sb1 (sb1 (sb1 (sb1 (sb1 (sb1 (sb1 (HB.out)))))))))))))))) (by simp [World.setCell];have:=HB.out.size;omega) _,.inr ⟨n,va,vl,vc,HOK.out,.inr ⟨HD.out,rfl,HVR.out⟩⟩⟩

theorem iphs_any (d : Ad) (c : Cl) (n : Nd) (ma : Option Addr) (ml mc : Nat) (u0 now0 : Int) (f : Pd → Int) (w : World) (hr : ClRow w d c.raw) (hs : Sm c) (hx : TxRow w ma ml mc n.zs) (hvl : ml ≤ 8001) (z0 : n.n.size ≤ 9223372036854775807) (z1 : n.z.size ≤ 9223372036854775807) (hf : ∀ (k : Nat) (p : Pd) (pa : Option Addr) (pq pc : Nat) (W : World),c.ps[k]? = some p → p.d = n.n → Below w.heap.size w W → TxRow W pa pq pc p.zs → Calls Tryz.prog 68 #[.agg #[.int .i64 u0,.int .i64 now0,.string n.n,.string n.z,.int .i64 n.c,.int .i64 n.s,.int .i64 n.u,.bool n.d,.slice ma ml mc,.slice d.a1 d.l1 d.c1,.slice d.a2 d.l2 d.c2,.slice d.a3 d.l3 d.c3,.slice d.a4 d.l4 d.c4,.slice d.a5 d.l5 d.c5,.int .i64 c.now],.agg #[.string p.n,.int .i64 p.c,.string p.z,.slice pa pq pc,.string p.d,.int .i64 p.p]] W fun e W' => e = .returned (.int .i64 (f p)) ∧ Below W.heap.size W W') :
  Calls Tryz.prog 33 #[.agg #[.int .i64 u0,.int .i64 now0,.string n.n,.string n.z,.int .i64 n.c,.int .i64 n.s,.int .i64 n.u,.bool n.d,.slice ma ml mc,.slice d.a1 d.l1 d.c1,.slice d.a2 d.l2 d.c2,.slice d.a3 d.l3 d.c3,.slice d.a4 d.l4 d.c4,.slice d.a5 d.l5 d.c5,.int .i64 c.now]] w fun e w' => ∃ d',e = .returned (.agg #[.slice d'.a1 d'.l1 d'.c1,.slice d'.a2 d'.l2 d'.c2,.slice d'.a3 d'.l3 d'.c3,.slice d'.a4 d'.l4 d'.c4,.slice d'.a5 d'.l5 d'.c5,.int .i64 c.now]) ∧ ClOwn w' d' (phC (putN c n) n.n f).raw (fun k => w.heap.size ≤ k) ∧ Below w.heap.size w w':=by
 have HR:=hidK hr;have HX:=hidK hx;have HF:=hidK hf;have HB:=hidK (Below.refl w.heap.size w);clear hr hx hf
 go_enter Tryz.func33,Tryz.ntmps33
 go_wp2_with fail;refine (irec_any d c n ma ml mc u0 now0 _ (HR.out.below (HB.out.trans ((below2 _ _ _).mono HB.out.size))) hs (HX.out.below (HB.out.trans ((below2 _ _ _).mono HB.out.size))) hvl z0 z1).mono ?_;rintro e w1 ⟨d',rfl,ho,hb⟩;have HQ2:=hidK hb.size;simp only [size1] at HQ2 ho;obtain ⟨HA0,HA1,hbx⟩:=slots2 hb;have Bg:=hidK HA0;have Br:=hidK HA1;replace HB:=upB HB hbx;clear hb hbx HA0 HA1;obtain ⟨P,hP⟩:=ho;obtain ⟨x1,m1,n1,x2,m2,n2,x3,m3,n3,x4,m4,n4,x5,m5,n5⟩:=d';have HP:=hidK hP;have hq2 : w.heap.size + 1 + 1 ≤ w1.heap.size:=HQ2.out
 have hpl : c.ps.length = m5:=by have h6 : (c.ps.map pdF).length = m5:=hP.p.1;rw [List.length_map] at h6;exact h6
 have hlm : m5 ≤ 9223372036854775807:=Nat.le_trans hP.p.2.1 hP.p.2.2.1;clear hP
 have HO0 : Hid (ROwn (w1.alloc (.cells #[.slice x1 m1 n1,.slice x2 m2 n2,.slice x3 m3 n3,.slice x4 m4 n4,.slice x5 m5 n5,.int .i64 c.now] 36)) x5 m5 n5 6 107 ((mpL (phF n.n f) c.ps 0).map pdF) (fun k => (w.heap.size + 1 + 1 ≤ k ∧ P k = 5) ∧ k < w1.heap.size)):=by
  show ROwn _ _ _ _ _ _ _ _
  rw [mpL_zero];exact (HP.out.p.into (S':=(fun k => (w.heap.size + 1 + 1 ≤ k ∧ P k = 5) ∧ k < w1.heap.size)) (fun k hk s => ⟨s,hk⟩)).below (below1 w1 (.cells #[.slice x1 m1 n1,.slice x2 m2 n2,.slice x3 m3 n3,.slice x4 m4 n4,.slice x5 m5 n5,.int .i64 c.now] 36))
 have hnb : ∀ k,¬ ((w.heap.size + 1 + 1 ≤ k ∧ P k = 5) ∧ k < w1.heap.size) → ¬ (0 < m5 ∧ x5 = some ⟨k,0,none⟩):=fun k h1 h2 => by
  rcases HP.out.p.2.2.2 with h9 | ⟨g9,c9,H9,e9,h9⟩
  ·have h8:=HP.out.p.1;have h7:=h2.1;rw [h9] at h8
   simp at h8
   omega
  ·have h7:=h2.2;rw [show x5 = some ⟨g9,0,none⟩ from e9] at h7
   cases h7
   exact h1 ⟨h9.inS,lt_of_some h9.blk⟩
 have HNB:=hidK hnb;have HBV:=hidK (HB.out.trans ((below1 w1 (.cells #[.slice x1 m1 n1,.slice x2 m2 n2,.slice x3 m3 n3,.slice x4 m4 n4,.slice x5 m5 n5,.int .i64 c.now] 36)).mono HB.out.size));have BgV:=hidK ((Below.heap_alloc w1 (.cells #[.slice x1 m1 n1,.slice x2 m2 n2,.slice x3 m3 n3,.slice x4 m4 n4,.slice x5 m5 n5,.int .i64 c.now] 36) _ (lt_of_some Bg.out)).trans Bg.out);have BrV:=hidK ((Below.heap_alloc w1 (.cells #[.slice x1 m1 n1,.slice x2 m2 n2,.slice x3 m3 n3,.slice x4 m4 n4,.slice x5 m5 n5,.int .i64 c.now] 36) _ (lt_of_some Br.out)).trans Br.out);have BoV:=hidK (heap_alloc_new w1 (.cells #[.slice x1 m1 n1,.slice x2 m2 n2,.slice x3 m3 n3,.slice x4 m4 n4,.slice x5 m5 n5,.int .i64 c.now] 36));clear hnb
 go_wp2
 obtain ⟨V,hV⟩ : ∃ V,V = (w1.alloc (.cells #[.slice x1 m1 n1,.slice x2 m2 n2,.slice x3 m3 n3,.slice x4 m4 n4,.slice x5 m5 n5,.int .i64 c.now] 36)):=⟨_,rfl⟩
 have hvs : V.heap.size = w1.heap.size + 1:=by rw [hV];exact size1 _ _
 rw [← hV] at HO0 HBV BgV BrV BoV ⊢;have HVE:=hidK hV;clear hV Bg Br
 go_loopw [11] (fun vi wr => ∃ k : Nat,k ≤ m5 ∧ vi = .int .i64 k ∧ Hid (ROwn wr x5 m5 n5 6 107 ((mpL (phF n.n f) c.ps k).map pdF) (fun k => (w.heap.size + 1 + 1 ≤ k ∧ P k = 5) ∧ k < w1.heap.size)) ∧ Hid (KeptS (fun k => 0 < m5 ∧ x5 = some ⟨k,0,none⟩) V wr)) (fun vi _ => m5 - (intOf vi).toNat)
 case atStart => exact ⟨0,by omega,rfl,HO0,KeptS.refl _ _⟩
 case round =>
  obtain ⟨k,hk,rfl,HO,HK⟩:=hrel;clear HO0;have hks:=HK.out.size;have Bg:=hidK ((HK.out.block _ (lt_of_some BgV.out) (HNB.out _ (fun h => by have:=h.1.1;omega))).trans BgV.out);have Br:=hidK ((HK.out.block _ (lt_of_some BrV.out) (HNB.out _ (fun h => by have:=h.1.1;omega))).trans BrV.out);have Bo:=hidK ((HK.out.block _ (lt_of_some BoV.out) (HNB.out _ (fun h => by have:=h.2;omega))).trans BoV.out);have HB:=hidK (HBV.out.trans (HK.out.low (X:=w.heap.size) HBV.out.size (fun k s => Classical.byContradiction fun hk => HNB.out k (fun h => by have:=h.1.1;omega) s)));clear BgV BrV BoV
  by_cases hlt : k < m5
  ·obtain ⟨x,hx0⟩ : ∃ x,c.ps[k]? = some x:=⟨_,List.getElem?_eq_getElem (by omega)⟩;have HX0:=hidK hx0
   have hLk : ((mpL (phF n.n f) c.ps k).map pdF)[k]? = some (pdF x):=by rw [List.getElem?_map,mpL_at (by omega),hx0];rfl
   obtain ⟨g,hg,hS2⟩:=HO.out.st (KeptS.refl (fun k => (w.heap.size + 1 + 1 ≤ k ∧ P k = 5) ∧ k < w1.heap.size) wr) hLk;subst hg;obtain ⟨b2,o2,x2',hae,hbl,hx2,hat⟩:=pd_at HO.out.row hlt
   cases hae
   rw [mpL_at (by omega),hx0] at hx2;obtain rfl:=Option.some.inj hx2;obtain ⟨pa,pq,pc,hpr,-,-,-,c0,c1,c2,c3,c4,c5⟩:=pd_cells hat;have HPR:=hidK hpr
   have hgS : (w.heap.size + 1 + 1 ≤ g ∧ P g = 5) ∧ g < w1.heap.size:=by obtain ⟨⟨cur,H,h1,_⟩,_⟩:=hS2;exact h1.inS
   obtain ⟨⟨hg1,hg3⟩,hg2⟩:=hgS;rw [Nat.zero_add] at c0 c1 c2 c3 c4 c5;have HC5:=hidK c5;have HFR:=hidK (hS2.fro (k * 6 + 5))
   have hk1 : (k : Int) < m5:=by omega
   have hk0 : ¬ (k : Int) < 0:=by omega
   clear hat hx2 hx0 hS2 hLk hpr;have hol:=lt_of_some Bo.out;have hgl:=lt_of_some Bg.out;obtain ⟨g0,g1,g2,g3,g4,g5,g6,g7,g8,g9,g10,g11,g12,g13,g14⟩:=cs15 Bg.out
   by_cases he : x.d = n.n
   ·have HHE:=hidK he;have hq:=tl_yes he;clear he;go_wp2_with fail;obtain ⟨W,hW0⟩ : ∃ W,W = wr.alloc (.cells #[.string x.n,.int .i64 x.c,.string x.z,.slice pa pq pc,.string x.d,.int .i64 x.p] 107):=⟨_,rfl⟩;have BgW:=hidK ((Below.heap_alloc wr (.cells #[.string x.n,.int .i64 x.c,.string x.z,.slice pa pq pc,.string x.d,.int .i64 x.p] 107) _ (lt_of_some Bg.out)).trans Bg.out);have BoW:=hidK ((Below.heap_alloc wr (.cells #[.string x.n,.int .i64 x.c,.string x.z,.slice pa pq pc,.string x.d,.int .i64 x.p] 107) _ (lt_of_some Bo.out)).trans Bo.out);have BpW:=hidK (heap_alloc_new wr (.cells #[.string x.n,.int .i64 x.c,.string x.z,.slice pa pq pc,.string x.d,.int .i64 x.p] 107));have HBW:=hidK (below1 wr (.cells #[.string x.n,.int .i64 x.c,.string x.z,.slice pa pq pc,.string x.d,.int .i64 x.p] 107));rw [← hW0] at BgW BoW BpW HBW ⊢;clear hW0 c0 c1 c2 c3 c4 c5 g0 g1 g2 g3 g4 g5 g6 g7 g8 g9 g10 g11 g12 g13 g14;rename_i K0 hK0;refine Gt.wp_region_grow_last (by kernel_rfl) rfl rfl (by kernel_rfl) ?_;refine' Grow.stepC _ rfl ?_ ?_;rotate_left 1
    ·refine Obl.plain rfl ?_;intro ac wg K hsz hW hf hK;clear hsz;have e3:=hf 3 (by decide)
     simp [slotFact,List.lookup] at e3
     clear hf;go_simp;refine hK _ _ (Below.refl _ _) ?_;with_reducible rfl
    refine' Grow.stepC _ rfl ?_ ?_;rotate_left 1
    ·refine Obl.plain rfl ?_;intro ac wg K hsz hW hf hK;clear hsz;have e22:=hf 22 (by decide)
     simp [slotFact,List.lookup] at e22
     clear hf;obtain ⟨o0,o1,o2,o3,o4,o5⟩:=cs6 ((hW.block _ (lt_of_some BoW.out)).trans BoW.out);go_simp;refine hK _ _ (Below.refl _ _) ?_;with_reducible rfl
    refine' Grow.stepC _ rfl ?_ ?_;rotate_left 1
    ·refine Obl.plain rfl ?_;intro ac wg K hsz hW hf hK;clear hsz;have e4:=hf 4 (by decide)
     simp [slotFact,List.lookup] at e4
     clear hf;go_simp;refine hK _ _ (Below.refl _ _) ?_;with_reducible rfl
    refine' Grow.stepC _ rfl ?_ ?_;rotate_left 1
    ·refine Obl.plain rfl ?_;intro ac wg K hsz hW hf hK;clear hsz;have e1:=hf 1 (by decide)
     simp [slotFact,List.lookup] at e1
     clear hf;obtain ⟨g0,g1,g2,g3,g4,g5,g6,g7,g8,g9,g10,g11,g12,g13,g14⟩:=cs15 ((hW.block _ (lt_of_some BgW.out)).trans BgW.out);go_simp;refine hK _ _ (Below.refl _ _) ?_;with_reducible rfl
    refine' Grow.stepC _ rfl ?_ ?_;rotate_left 1
    ·refine Obl.plain rfl ?_;intro ac wg K hsz hW hf hK;clear hsz;have e5:=hf 5 (by decide)
     simp [slotFact,List.lookup] at e5
     clear hf;obtain ⟨p0,p1,p2,p3,p4,p5⟩:=cs6 ((hW.block _ (lt_of_some BpW.out)).trans BpW.out);go_simp;refine hK _ _ (Below.refl _ _) ?_;with_reducible rfl
    refine Grow.step (fun v _ => v = .int .i64 (f x)) rfl (Fact.mono_eq _) ?_ ?_
    ·refine Obl.plain rfl ?_;intro ac wg K hsz hW hf hK;clear hsz;have e25:=hf 25 (by decide)
     simp [slotFact,List.lookup] at e25
     have e26:=hf 26 (by decide)
     simp [slotFact,List.lookup] at e26
     clear hf;go_simp;refine (HF.out k x pa pq pc _ HX0.out HHE.out (HB.out.trans ((HBW.out.trans (hW.mono HBW.out.size)).mono HB.out.size)) (HPR.out.below (HBW.out.trans (hW.mono HBW.out.size)))).mono ?_;rintro e w6 ⟨rfl,hb6⟩;exact hK _ _ hb6 rfl
    refine' Grow.stepC _ rfl ?_ ?_;rotate_left 1
    ·refine Obl.plain rfl ?_;intro ac wg K hsz hW hf hK;clear hsz;have e23:=hf 23 (by decide)
     simp [slotFact,List.lookup] at e23
     have e24:=hf 24 (by decide)
     simp [slotFact,List.lookup] at e24
     clear hf;go_simp;refine hK _ _ (Below.refl _ _) ?_;with_reducible rfl
    refine' Grow.stepC _ rfl ?_ ?_;rotate_left 1
    ·refine Obl.plain rfl ?_;intro ac wg K hsz hW hf hK;clear hsz;have e28:=hf 28 (by decide)
     simp [slotFact,List.lookup] at e28
     clear hf;go_simp;refine hK _ _ (Below.refl _ _) ?_;with_reducible rfl
    refine Grow.done ?_;intro q wz hW hf;simp only [List.forall_mem_cons] at hf;obtain ⟨h29,h28,h27,h26,h25,h24,h23,h22,-⟩:=hf;have HWZ:=upB HBW hW
    have hfz : wz.frozen? ⟨g,k * 6 + 5,none⟩ = false:=by
     have h8:=HFR.out;simp only [World.frozen?,HWZ.out.block g (by omega)] at h8 ⊢;exact h8
    have hcz : wz.cell? ⟨g,k * 6 + 5,none⟩ = some (.int .i64 x.p):=(cell_below HWZ.out (by omega)).trans HC5.out;intro K hK;rw [if_pos (by rfl)];simp only [putsAll,List.foldr,Act.put,List.setIfInBounds_toArray,List.set_cons_zero,List.set_cons_succ,h29,h28,h27,h26,h25,h24,h23,h22];simp only [List.getLast];go_simp;refine hK _ _ ?_;refine hK0 _ _ ?_;clear hK hK0 K K0;clear hfz hcz;have HR2:=hidK (ROwn.setPh HO.out HWZ.out HX0.out (phF_yes (f:=f) HHE.out));have HK2:=hidK ((HK.out.below HWZ.out).set (g:=g) (i:=k * 6 + 5) (v:=.int .i64 (f x)) ⟨by omega,rfl⟩)
    go_wp2
    exact ⟨⟨k + 1,by omega,by go_num,HR2,HK2⟩,by simp [intOf];omega⟩
   have HHE:=hidK he;have hq:=tl_no he;clear he
   go_wp2
   refine ⟨⟨k + 1,by omega,by go_num,?_,HK.out.below (below1 wr (.cells #[.string x.n,.int .i64 x.c,.string x.z,.slice pa pq pc,.string x.d,.int .i64 x.p] 107))⟩,by simp [intOf];omega⟩
   show ROwn _ _ _ _ _ _ _ _
   rw [mpL_same HX0.out (phF_no HHE.out)];exact HO.out.below (below1 wr (.cells #[.string x.n,.int .i64 x.c,.string x.z,.slice pa pq pc,.string x.d,.int .i64 x.p] 107))
  have hk1 : ¬ (k : Int) < m5:=by omega
  have HO2:=HO;rw [mpL_end (by omega)] at HO2;obtain ⟨r0,r1,r2,r3,r4,r5⟩:=cs6 Br.out;have fr0:=froK Br.out 0;have fr1:=froK Br.out 1;have fr2:=froK Br.out 2;have fr3:=froK Br.out 3;have fr4:=froK Br.out 4;have fr5:=froK Br.out 5;obtain ⟨o0,o1,o2,o3,o4,o5⟩:=cs6 Bo.out;have hrl:=lt_of_some Br.out;have hol:=lt_of_some Bo.out
  have hne : ¬ w.heap.size + 1 = w1.heap.size:=by omega
  have hne2 : ¬ w1.heap.size = w.heap.size + 1:=by omega
  go_wp2
  refine bodyPost_ret (v:=.agg #[.slice x1 m1 n1,.slice x2 m2 n2,.slice x3 m3 n3,.slice x4 m4 n4,.slice x5 m5 n5,.int .i64 c.now]) (by simp [results,Tryz.results33,go_sem, *]) rfl ⟨⟨x1,m1,n1,x2,m2,n2,x3,m3,n3,x4,m4,n4,x5,m5,n5⟩,rfl,?_,sb1 (sb1 (sb1 (sb1 (sb1 (sb1 (HB.out))))))⟩;have h9:=HP.out.put5K (w3:=wr) (w4:=((((((wr.setCell ⟨w.heap.size + 1,0,none⟩ (.slice x1 m1 n1)).setCell ⟨w.heap.size + 1,1,none⟩ (.slice x2 m2 n2)).setCell ⟨w.heap.size + 1,2,none⟩ (.slice x3 m3 n3)).setCell ⟨w.heap.size + 1,3,none⟩ (.slice x4 m4 n4)).setCell ⟨w.heap.size + 1,4,none⟩ (.slice x5 m5 n5)).setCell ⟨w.heap.size + 1,5,none⟩ (.int .i64 c.now))) HO2.out (fun k h1 h2 => (HK.out.block k (by omega) (HNB.out k (fun h => h2 h.1.2))).trans (by rw [HVE.out];exact Below.heap_alloc _ _ _ h1)) (fun k h1 h2 => by rw [Below.heap_setCell _ _ _ _ (show k ≠ w.heap.size + 1 by omega),Below.heap_setCell _ _ _ _ (show k ≠ w.heap.size + 1 by omega),Below.heap_setCell _ _ _ _ (show k ≠ w.heap.size + 1 by omega),Below.heap_setCell _ _ _ _ (show k ≠ w.heap.size + 1 by omega),Below.heap_setCell _ _ _ _ (show k ≠ w.heap.size + 1 by omega),Below.heap_setCell _ _ _ _ (show k ≠ w.heap.size + 1 by omega)]);exact h9.into (fun k _ s => by have s1 : w.heap.size + 1 + 1 ≤ k:=s;show w.heap.size ≤ k;omega)

theorem iagent_any (d : Ad) (c : Cl) (t : ByteArray) (E : Nat → Addr) (w : World) (hr : ClRow w d c.raw) (hG : Ers w E) :
  Calls Tryz.prog 7 #[.agg #[.slice d.a1 d.l1 d.c1,.slice d.a2 d.l2 d.c2,.slice d.a3 d.l3 d.c3,.slice d.a4 d.l4 d.c4,.slice d.a5 d.l5 d.c5,.int .i64 c.now],.string t] w (OutI (AgIs c t) w):=by
 have HR:=hidK hr;have HE:=hidK hG;have HB:=hidK (Below.refl w.heap.size w);clear hr hG
 go_enter Tryz.func7,Tryz.ntmps7
 go_wp2_with fail;refine (iwin_any d c t false E w _ HR.out (HB.out.trans ((below2 _ _ _).mono HB.out.size)) (HE.out.below (HB.out.trans ((below2 _ _ _).mono HB.out.size)))).mono ?_;rintro e w1 ⟨hb,hf⟩;obtain ⟨HA0,HA1,hbx⟩:=slots2 hb;have Bk:=hidK HA0;have Br:=hidK HA1;replace HB:=upB HB hbx;clear hb hbx HA0 HA1
 rcases hf with ⟨i,hi8,hwhy,rfl⟩ | ⟨n,va,vl,vc,hok,hf⟩
 ·obtain ⟨k0,k1,k2,k3,k4,k5⟩:=cs6 Bk.out;have ltk_1:=lt_of_some Bk.out;have HV : Hid (AgIs c t (co0 (codeOf i))):=.inl ⟨i,hwhy,rfl⟩;obtain ⟨cc,hcc⟩ : ∃ cc,cc = codeOf i:=⟨_,rfl⟩;rw [← hcc] at HV;clear hwhy;go_wp2_with fail;refine (refused_any E i cc hcc _ (HE.out.below (HB.out.trans ((below1 _ _).mono HB.out.size))) (by first | decide | omega)).mono ?_;rintro e w2 ⟨rfl,hb⟩;clear k0 k1 k2 k3 k4 k5 ltk_1;obtain ⟨HA0,hbx⟩:=slots1 hb;replace Bk:=upK Bk hbx;replace Br:=upK Br hbx;have Bg:=hidK HA0;replace HB:=upB HB hbx;clear hb hbx HA0;clear hcc;obtain ⟨r0,r1,r2,r3,r4,r5,r6,r7⟩:=cs8 Br.out;have ltr_2:=lt_of_some Br.out;have fr0:=froK Br.out 0;have fr1:=froK Br.out 1;have fr2:=froK Br.out 2;have fr3:=froK Br.out 3;have fr4:=froK Br.out 4;have fr5:=froK Br.out 5;have fr6:=froK Br.out 6;have fr7:=froK Br.out 7;have hrl : w.heap.size + 1 < w2.heap.size:=lt_of_some Br.out
  go_wp2
  exact bodyPost_ret (v:=.agg #[.slice none 0 0,.slice none 0 0,.slice none 0 0,.slice none 0 0,.slice none 0 0,.int .i64 0,.string ⟨#[]⟩,.int .i64 cc]) (by simp [results,Tryz.results7,go_sem, *]) rfl ⟨ad0,co0 cc,rfl,HV.out,own0 _ _,sb1 (sb1 (sb1 (sb1 (sb1 (sb1 (sb1 (sb1 (HB.out))))))))⟩
 have HOK:=hidK hok;clear hok;have HT : Hid (RightI c):=HOK.out.2.1;have HQ1 : Hid (w.heap.size + 1 < w1.heap.size):=lt_of_some Br.out
 rcases hf with ⟨hd,rfl⟩ | ⟨hd,rfl,hvr⟩
 ·have hd2 : n.d = true:=by cases h : n.d <;> simp_all
  obtain ⟨k0,k1,k2,k3,k4,k5⟩:=cs6 Bk.out;have ltk_1:=lt_of_some Bk.out;have HV : Hid (AgIs c t (co0 (codeOf 8))):=.inr ⟨n,HOK.out,.inl ⟨hd2,rfl⟩⟩;obtain ⟨cc,hcc⟩ : ∃ cc,cc = codeOf 8:=⟨_,rfl⟩;rw [← hcc] at HV;clear hd hd2;go_wp2_with fail;refine (refused_any E 8 cc hcc _ (HE.out.below (HB.out.trans ((below1 _ _).mono HB.out.size))) (by first | decide | omega)).mono ?_;rintro e w2 ⟨rfl,hb⟩;clear k0 k1 k2 k3 k4 k5 ltk_1;obtain ⟨HA0,hbx⟩:=slots1 hb;replace Bk:=upK Bk hbx;replace Br:=upK Br hbx;have Bg:=hidK HA0;replace HB:=upB HB hbx;clear hb hbx HA0;clear hcc;obtain ⟨r0,r1,r2,r3,r4,r5,r6,r7⟩:=cs8 Br.out;have ltr_2:=lt_of_some Br.out;have fr0:=froK Br.out 0;have fr1:=froK Br.out 1;have fr2:=froK Br.out 2;have fr3:=froK Br.out 3;have fr4:=froK Br.out 4;have fr5:=froK Br.out 5;have fr6:=froK Br.out 6;have fr7:=froK Br.out 7;have hrl : w.heap.size + 1 < w2.heap.size:=lt_of_some Br.out
  go_wp2
  exact bodyPost_ret (v:=.agg #[.slice none 0 0,.slice none 0 0,.slice none 0 0,.slice none 0 0,.slice none 0 0,.int .i64 0,.string ⟨#[]⟩,.int .i64 cc]) (by simp [results,Tryz.results7,go_sem, *]) rfl ⟨ad0,co0 cc,rfl,HV.out,own0 _ _,sb1 (sb1 (sb1 (sb1 (sb1 (sb1 (sb1 (sb1 (HB.out))))))))⟩
 have HD:=hidK hd;have HVR:=hidK hvr;obtain ⟨f,hf⟩:=PhIs.ex c n;have HF:=hidK hf;have HV : Hid (AgIs c t ⟨stepC c t n f,⟨#[]⟩,0⟩):=.inr ⟨n,HOK.out,.inr ⟨hd,f,hf,rfl⟩⟩;have hno:=HT.out.2.1.1.2.1 _ n HOK.out.2.2.1
 have z0 : n.n.size ≤ 9223372036854775807:=by have h1:=hno.1.2.1;omega
 have z1 : n.z.size ≤ 9223372036854775807:=by have h1:=hno.2.1.2.1;omega
 have hnow:=HT.out.1;obtain ⟨hn0,hn1⟩:=hnow;rw [hd];clear hno hd hvr hf;have hq1:=HQ1.out
 have hv8 : c.vs.length ≤ 8:=by have:=HT.out.2.1.2.2.1.1;omega
 have hsv : (w1.alloc (.cells #[.int .i64 n.u,.int .i64 c.now,.string n.n,.string n.z,.int .i64 n.c,.int .i64 n.s,.int .i64 n.u,.bool false,.slice va vl vc,.slice d.a1 d.l1 d.c1,.slice d.a2 d.l2 d.c2,.slice d.a3 d.l3 d.c3,.slice d.a4 d.l4 d.c4,.slice d.a5 d.l5 d.c5,.int .i64 c.now] 70)).heap.size = w1.heap.size + 1:=size1 _ _;have HKG : Hid ((w1.alloc (.cells #[.int .i64 n.u,.int .i64 c.now,.string n.n,.string n.z,.int .i64 n.c,.int .i64 n.s,.int .i64 n.u,.bool false,.slice va vl vc,.slice d.a1 d.l1 d.c1,.slice d.a2 d.l2 d.c2,.slice d.a3 d.l3 d.c3,.slice d.a4 d.l4 d.c4,.slice d.a5 d.l5 d.c5,.int .i64 c.now] 70)).heap[w1.heap.size]? = some (.cells #[.int .i64 n.u,.int .i64 c.now,.string n.n,.string n.z,.int .i64 n.c,.int .i64 n.s,.int .i64 n.u,.bool false,.slice va vl vc,.slice d.a1 d.l1 d.c1,.slice d.a2 d.l2 d.c2,.slice d.a3 d.l3 d.c3,.slice d.a4 d.l4 d.c4,.slice d.a5 d.l5 d.c5,.int .i64 c.now] 70 (0,0))):=heap_alloc_new w1 (.cells #[.int .i64 n.u,.int .i64 c.now,.string n.n,.string n.z,.int .i64 n.c,.int .i64 n.s,.int .i64 n.u,.bool false,.slice va vl vc,.slice d.a1 d.l1 d.c1,.slice d.a2 d.l2 d.c2,.slice d.a3 d.l3 d.c3,.slice d.a4 d.l4 d.c4,.slice d.a5 d.l5 d.c5,.int .i64 c.now] 70)
 have HKR : Hid ((w1.alloc (.cells #[.int .i64 n.u,.int .i64 c.now,.string n.n,.string n.z,.int .i64 n.c,.int .i64 n.s,.int .i64 n.u,.bool false,.slice va vl vc,.slice d.a1 d.l1 d.c1,.slice d.a2 d.l2 d.c2,.slice d.a3 d.l3 d.c3,.slice d.a4 d.l4 d.c4,.slice d.a5 d.l5 d.c5,.int .i64 c.now] 70)).heap[w.heap.size + 1]? = some (.cells #[.slice none 0 0,.slice none 0 0,.slice none 0 0,.slice none 0 0,.slice none 0 0,.int .i64 0,.string ⟨#[]⟩,.int .i64 0] 38 (0,0))):=(Below.heap_alloc w1 (.cells #[.int .i64 n.u,.int .i64 c.now,.string n.n,.string n.z,.int .i64 n.c,.int .i64 n.s,.int .i64 n.u,.bool false,.slice va vl vc,.slice d.a1 d.l1 d.c1,.slice d.a2 d.l2 d.c2,.slice d.a3 d.l3 d.c3,.slice d.a4 d.l4 d.c4,.slice d.a5 d.l5 d.c5,.int .i64 c.now] 70) _ (lt_of_some Br.out)).trans Br.out;have HBV:=hidK (HB.out.trans ((below1 w1 (.cells #[.int .i64 n.u,.int .i64 c.now,.string n.n,.string n.z,.int .i64 n.c,.int .i64 n.s,.int .i64 n.u,.bool false,.slice va vl vc,.slice d.a1 d.l1 d.c1,.slice d.a2 d.l2 d.c2,.slice d.a3 d.l3 d.c3,.slice d.a4 d.l4 d.c4,.slice d.a5 d.l5 d.c5,.int .i64 c.now] 70)).mono HB.out.size));obtain ⟨V,hV⟩ : ∃ V,V = (w1.alloc (.cells #[.int .i64 n.u,.int .i64 c.now,.string n.n,.string n.z,.int .i64 n.c,.int .i64 n.s,.int .i64 n.u,.bool false,.slice va vl vc,.slice d.a1 d.l1 d.c1,.slice d.a2 d.l2 d.c2,.slice d.a3 d.l3 d.c3,.slice d.a4 d.l4 d.c4,.slice d.a5 d.l5 d.c5,.int .i64 c.now] 70)):=⟨_,rfl⟩;rw [← hV] at HKG HKR HBV hsv
 have hc1 : ∀ W,Below V.heap.size V W → Calls Tryz.prog 31 #[.agg #[.int .i64 n.u,.int .i64 c.now,.string n.n,.string n.z,.int .i64 n.c,.int .i64 n.s,.int .i64 n.u,.bool false,.slice va vl vc,.slice d.a1 d.l1 d.c1,.slice d.a2 d.l2 d.c2,.slice d.a3 d.l3 d.c3,.slice d.a4 d.l4 d.c4,.slice d.a5 d.l5 d.c5,.int .i64 c.now]] W fun e W2 => ∃ sa sl sq,e = .returned (.slice sa sl sq) ∧ Hid (TOwn W2 sa sl sq (mntN c n) (fun k => w1.heap.size + 1 ≤ k)) ∧ Hid (Below V.heap.size V W2) ∧ Hid (W2.heap[w1.heap.size]? = some (.cells #[.int .i64 n.u,.int .i64 c.now,.string n.n,.string n.z,.int .i64 n.c,.int .i64 n.s,.int .i64 n.u,.bool false,.slice va vl vc,.slice d.a1 d.l1 d.c1,.slice d.a2 d.l2 d.c2,.slice d.a3 d.l3 d.c3,.slice d.a4 d.l4 d.c4,.slice d.a5 d.l5 d.c5,.int .i64 c.now] 70 (0,0))) ∧ Hid (W2.heap[w.heap.size + 1]? = some (.cells #[.slice none 0 0,.slice none 0 0,.slice none 0 0,.slice none 0 0,.slice none 0 0,.int .i64 0,.string ⟨#[]⟩,.int .i64 0] 38 (0,0))):=fun W hb => by
  have hg:=iwants_any d c n.n n va vl vc n.u c.now (mntN c n) W (HR.out.below (HBV.out.trans (hb.mono HBV.out.size))) hv8 (by unfold mntN;by_cases h : c.now < n.u;exact .inl ⟨h,if_pos h⟩;exact .inr ⟨h,if_neg h⟩);rw [HD.out] at hg;refine hg.mono ?_;rintro e W2 ⟨sa,sl,sq,rfl,ho,hb2⟩;have hb3:=hb.trans (hb2.mono hb.size);exact ⟨sa,sl,sq,rfl,ho.into (fun k _ s => by have s1 : W.heap.size ≤ k:=s;have s2:=hb.size;show w1.heap.size + 1 ≤ k;omega),hb3,(hb3.block _ (lt_of_some HKG.out)).trans HKG.out,(hb3.block _ (lt_of_some HKR.out)).trans HKR.out⟩
 have hc2 : ∀ W,Below V.heap.size V W → Calls Tryz.prog 32 #[.agg #[.int .i64 n.u,.int .i64 c.now]] W fun e W3 => e = .returned (.int .i64 (untilN c)) ∧ Hid (Below W.heap.size W W3) ∧ Hid (W3.heap[w1.heap.size]? = some (.cells #[.int .i64 n.u,.int .i64 c.now,.string n.n,.string n.z,.int .i64 n.c,.int .i64 n.s,.int .i64 n.u,.bool false,.slice va vl vc,.slice d.a1 d.l1 d.c1,.slice d.a2 d.l2 d.c2,.slice d.a3 d.l3 d.c3,.slice d.a4 d.l4 d.c4,.slice d.a5 d.l5 d.c5,.int .i64 c.now] 70 (0,0))) ∧ Hid (W3.heap[w.heap.size + 1]? = some (.cells #[.slice none 0 0,.slice none 0 0,.slice none 0 0,.slice none 0 0,.slice none 0 0,.int .i64 0,.string ⟨#[]⟩,.int .i64 0] 38 (0,0))):=fun W hb => by
  refine (irenew_any n.u c.now W hn0 hn1).mono ?_;rintro e W3 ⟨rfl,hb2⟩;have hb3:=hb.trans (hb2.mono hb.size);exact ⟨rfl,hb2,(hb3.block _ (lt_of_some HKG.out)).trans HKG.out,(hb3.block _ (lt_of_some HKR.out)).trans HKR.out⟩
 have C1:=hidK hc1;have C2:=hidK hc2;clear hc1 hc2
 have mixed : Tryz.prog.follows .mixedOrders = true:=by kernel_rfl
 go_wp2_with fail;rw [← hV];have HVE:=hidK hV;clear hV;obtain ⟨g0,g1,g2,g3,g4,g5,g6,g7,g8,g9,g10,g11,g12,g13,g14⟩:=cs15 HKG.out;have hgl:=lt_of_some HKG.out
 go_cut [19] from 17 to 25 (fun s wx => s = .pointer (some ⟨w1.heap.size,0,none⟩) ∧ Hid (∃ sa sl sq,wx.heap[w1.heap.size]? = some (.cells #[.int .i64 n.u,.int .i64 c.now,.string n.n,.string n.z,.int .i64 n.c,.int .i64 n.s,.int .i64 (untilN c),.bool false,.slice sa sl sq,.slice d.a1 d.l1 d.c1,.slice d.a2 d.l2 d.c2,.slice d.a3 d.l3 d.c3,.slice d.a4 d.l4 d.c4,.slice d.a5 d.l5 d.c5,.int .i64 c.now] 70 (0,0)) ∧ TOwn wx sa sl sq (mntN c n) (fun k => w1.heap.size + 1 ≤ k) ∧ Below w.heap.size w wx ∧ Hid (wx.heap[w.heap.size + 1]? = some (.cells #[.slice none 0 0,.slice none 0 0,.slice none 0 0,.slice none 0 0,.slice none 0 0,.int .i64 0,.string ⟨#[]⟩,.int .i64 0] 38 (0,0))) ∧ w1.heap.size + 1 ≤ wx.heap.size))
 case first =>
  go_region_with (first
   | (go_at_call 31;refine (C1.out _ (by first | exact Below.refl _ _ | exact Below.drewn (Below.refl _ _) | exact Below.drewn (Below.drewn (Below.refl _ _)))).mono ?_;rintro e w2 ⟨sa,sl,sq,rfl,HO2,HB2,HG2,HR2⟩;obtain ⟨a0,a1,a2,a3,a4,a5,a6,a7,a8,a9,a10,a11,a12,a13,a14⟩:=cs15 HG2.out)
   | (go_at_call 32;refine (C2.out w2 HB2.out).mono ?_;rintro e w3 ⟨rfl,HB3,HG3,HR3⟩;obtain ⟨b0,b1,b2,b3,b4,b5,b6,b7,b8,b9,b10,b11,b12,b13,b14⟩:=cs15 HG3.out;have hgl3:=lt_of_some HG3.out;have fr6:=froK HG3.out 6;have fr8:=froK HG3.out 8))
  all_goals (
   go_wp2_with fail
   go_meet
   refine ⟨rfl,sa,sl,sq,?_,?_,?_,?_,?_⟩
   ·exact block_set (block_set HG3.out _) _
   ·have ho3:=HO2.out.below HB3.out;exact ho3.keep (fun k hk s => by have s1 : w1.heap.size + 1 ≤ k:=s;rw [Below.heap_setCell _ _ _ _ (show k ≠ w1.heap.size by omega),Below.heap_setCell _ _ _ _ (show k ≠ w1.heap.size by omega)]) (fun _ _ s => s)
   ·exact (set_below (show w.heap.size ≤ w1.heap.size by omega) (set_below (show w.heap.size ≤ w1.heap.size by omega) (HBV.out.trans ((HB2.out.trans (HB3.out.mono HB2.out.size)).mono HBV.out.size))))
   ·exact (Below.heap_setCell _ _ _ _ (show w.heap.size + 1 ≠ w1.heap.size by omega)).trans ((Below.heap_setCell _ _ _ _ (show w.heap.size + 1 ≠ w1.heap.size by omega)).trans HR3.out)
   ·have h1:=HB2.out.size;have h2:=HB3.out.size
    simp [World.setCell]
    omega)
 case rest =>
  obtain ⟨hs19,HRX⟩:=hcut;obtain ⟨sa,sl,sq,hbg,hto,hbw,hkr,hsz⟩:=HRX.out;have Bg:=hidK hbg;have HTO:=hidK hto;have HBC:=hidK hbw;clear HRX hbg hto hbw g0 g1 g2 g3 g4 g5 g6 g7 g8 g9 g10 g11 g12 g13 g14 C1 C2 HKG HKR;obtain ⟨g0,g1,g2,g3,g4,g5,g6,g7,g8,g9,g10,g11,g12,g13,g14⟩:=cs15 Bg.out;have hgl2:=lt_of_some Bg.out
  have hvl : sl ≤ 8001:=by
   have h1:=HTO.out.row.1
   have h2 : (mntN c n).length ≤ 8:=by
    unfold mntN
    split
    ·have:=mntL_few c n.n;omega
    ·simp
   omega
  go_wp2_with fail;clear g0 g1 g2 g3 g4 g5 g6 g7 g8 g9 g10 g11 g12 g13 g14
  have hph : ∀ (k : Nat) (p : Pd) (pa : Option Addr) (pq pc : Nat) (W : World),c.ps[k]? = some p → p.d = n.n → Below wc.heap.size wc W → TxRow W pa pq pc p.zs → Calls Tryz.prog 68 #[.agg #[.int .i64 n.u,.int .i64 c.now,.string n.n,.string n.z,.int .i64 n.c,.int .i64 n.s,.int .i64 (untilN c),.bool false,.slice sa sl sq,.slice d.a1 d.l1 d.c1,.slice d.a2 d.l2 d.c2,.slice d.a3 d.l3 d.c3,.slice d.a4 d.l4 d.c4,.slice d.a5 d.l5 d.c5,.int .i64 c.now],.agg #[.string p.n,.int .i64 p.c,.string p.z,.slice pa pq pc,.string p.d,.int .i64 p.p]] W fun e W' => e = .returned (.int .i64 (f p)) ∧ Below W.heap.size W W':=fun k p pa pq pc W hk hpd hb hp => by
   have hne : ¬ p.d = ⟨#[]⟩:=by rw [hpd];exact NameOk.ne (HT.out.2.1.1.2.1 _ n HOK.out.2.2.1).1
   have hg:=iphA_any d c (stepN c n) sa sl sq n.u c.now p pa pq pc (f p) W (HR.out.below (HBC.out.trans (hb.mono HBC.out.size))) (HTO.out.row.below hb) hp HT.out HD.out (HT.out.bds hk hne) (HF.out p);have e : (stepN c n).d = false:=HD.out;rw [e] at hg;exact hg
  have hg:=iphs_any d c (stepN c n) sa sl sq n.u c.now f wc (HR.out.below HBC.out) HT.out.sm HTO.out.row hvl z0 z1 (by have e : (stepN c n).d = false:=HD.out;rw [e];exact hph);have e : (stepN c n).d = false:=HD.out;rw [e] at hg;refine hg.mono ?_;clear hg hph e;rintro e w5 ⟨d',rfl,ho,hb⟩;rw [step_eq HOK.out] at ho;have HO:=hidK ho;have Br5:=hidK ((hb.block (w.heap.size + 1) (by omega)).trans hkr.out);have HB5:=upB HBC hb
  have hw1 : w.heap.size ≤ w1.heap.size:=by omega
  clear hb ho hkr;obtain ⟨r0,r1,r2,r3,r4,r5,r6,r7⟩:=cs8 Br5.out;have fr0:=froK Br5.out 0;have fr1:=froK Br5.out 1;have fr2:=froK Br5.out 2;have fr3:=froK Br5.out 3;have fr4:=froK Br5.out 4;have fr5:=froK Br5.out 5;have fr6:=froK Br5.out 6;have fr7:=froK Br5.out 7;have hrl:=lt_of_some Br5.out
  go_wp2
  refine bodyPost_ret (v:=.agg #[.slice d'.a1 d'.l1 d'.c1,.slice d'.a2 d'.l2 d'.c2,.slice d'.a3 d'.l3 d'.c3,.slice d'.a4 d'.l4 d'.c4,.slice d'.a5 d'.l5 d'.c5,.int .i64 c.now,.string ⟨#[]⟩,.int .i64 0]) (by simp [results,Tryz.results7,go_sem, *]) rfl ⟨d',⟨stepC c t n f,⟨#[]⟩,0⟩,rfl,HV.out,?_,sb1 (sb1 (sb1 (sb1 (sb1 (sb1 (sb1 (sb1 (HB5.out))))))))⟩;obtain ⟨P,hP⟩:=HO.out;exact ⟨P,hP.keep (w':=((((((((w5.setCell ⟨w.heap.size + 1,0,none⟩ (.slice d'.a1 d'.l1 d'.c1)).setCell ⟨w.heap.size + 1,1,none⟩ (.slice d'.a2 d'.l2 d'.c2)).setCell ⟨w.heap.size + 1,2,none⟩ (.slice d'.a3 d'.l3 d'.c3)).setCell ⟨w.heap.size + 1,3,none⟩ (.slice d'.a4 d'.l4 d'.c4)).setCell ⟨w.heap.size + 1,4,none⟩ (.slice d'.a5 d'.l5 d'.c5)).setCell ⟨w.heap.size + 1,5,none⟩ (.int .i64 c.now)).setCell ⟨w.heap.size + 1,6,none⟩ (.string ⟨#[]⟩)).setCell ⟨w.heap.size + 1,7,none⟩ (.int .i64 0))) (fun k hk s => by have s1 : wc.heap.size ≤ k:=s;rw [Below.heap_setCell _ _ _ _ (show k ≠ w.heap.size + 1 by omega),Below.heap_setCell _ _ _ _ (show k ≠ w.heap.size + 1 by omega),Below.heap_setCell _ _ _ _ (show k ≠ w.heap.size + 1 by omega),Below.heap_setCell _ _ _ _ (show k ≠ w.heap.size + 1 by omega),Below.heap_setCell _ _ _ _ (show k ≠ w.heap.size + 1 by omega),Below.heap_setCell _ _ _ _ (show k ≠ w.heap.size + 1 by omega),Below.heap_setCell _ _ _ _ (show k ≠ w.heap.size + 1 by omega),Below.heap_setCell _ _ _ _ (show k ≠ w.heap.size + 1 by omega)]) (fun k _ s => by have s1 : wc.heap.size ≤ k:=s;show w.heap.size ≤ k;omega)⟩

def BegN (c : Cl) (t : ByteArray) (w : World) (e : Ending) (w' : World) : Prop:=Below w.heap.size w w' ∧ ((∃ i p,AskNWhy c t i ∧ p = codeOf i ∧ ¬ p = 0 ∧ e = .returned (.tuple #[.int .i64 0,.int .i64 p])) ∨ ∃ (j : Nat) (n : Nd),c.ns[j]? = some n ∧ AskNOk c t n ∧ e = .returned (.tuple #[.int .i64 j,.int .i64 0]))

theorem sbegN_any (d : Ad) (c : Cl) (t : ByteArray) (w : World) (hr : ClRow w d c.raw) :
  Calls Tryz.prog 18 #[.agg #[.slice d.a1 d.l1 d.c1,.slice d.a2 d.l2 d.c2,.slice d.a3 d.l3 d.c3,.slice d.a4 d.l4 d.c4,.slice d.a5 d.l5 d.c5,.int .i64 c.now],.string t] w (BegN c t w):=by
 have HR:=hidK hr;have HB:=hidK (Below.refl w.heap.size w);clear hr
 go_enter Tryz.func18,Tryz.ntmps18
 go_wp2_with fail;refine (sbeg_any d c t _ (HR.out.below (HB.out.trans ((below1 _ _).mono HB.out.size)))).mono ?_;rintro e w1 ⟨p,rfl,hp,hb⟩;obtain ⟨HA0,hbx⟩:=slots1 hb;have Bk:=hidK HA0;replace HB:=upB HB hbx;clear hb hbx HA0
 have hp0 : (¬ p = 0 ∧ ∃ i,AskNWhy c t i ∧ p = codeOf i) ∨ (p = 0 ∧ ¬ 8000 < t.size ∧ RightI c):=by
  rcases hp with ⟨h1,rfl⟩ | ⟨h1,h2,rfl⟩ | ⟨h1,h2,rfl⟩
  ·exact .inl ⟨by decide,0,h1,rfl⟩
  ·exact .inl ⟨by decide,1,⟨h1,h2⟩,rfl⟩
  ·exact .inr ⟨rfl,h1,h2⟩
 clear hp
 rcases hp0 with ⟨hp0,i,hw,hpi⟩ | ⟨rfl,hl,hT⟩
 ·have HP:=hidK (And.intro hw (And.intro hpi hp0))
  have hp1 : (p == 0) = false:=by simpa using hp0
  clear hw hpi hp0;obtain ⟨k0,k1,k2,k3,k4,k5⟩:=cs6 Bk.out;have ltk_1:=lt_of_some Bk.out
  go_wp2
  exact bodyPost_ret (v:=.tuple #[.int .i64 0,.int .i64 p]) (by simp [results,Tryz.results18,go_sem]) rfl ⟨HB.out,.inl ⟨i,p,HP.out.1,HP.out.2.1,HP.out.2.2,rfl⟩⟩
 have HT:=hidK hT;clear hT;obtain ⟨k0,k1,k2,k3,k4,k5⟩:=cs6 Bk.out;have ltk_1:=lt_of_some Bk.out;go_wp2_with fail;refine (sxnd_any d c.now c.ns t _ (HR.out.n.below HB.out)).mono ?_;rintro e w2 ⟨hb,hf⟩;clear k0 k1 k2 k3 k4 k5 ltk_1;replace Bk:=upK Bk hb;replace HB:=upB HB hb;clear hb
 rcases hf with ⟨j,n,hn,hnn,rfl⟩ | ⟨hno,rfl⟩
 ·have hj0 : ¬ (j : Int) < 0:=by omega
  have HN:=hidK (And.intro hn hnn);clear hn hnn;obtain ⟨k0,k1,k2,k3,k4,k5⟩:=cs6 Bk.out;have ltk_2:=lt_of_some Bk.out
  go_wp2
  exact bodyPost_ret (v:=.tuple #[.int .i64 j,.int .i64 0]) (by simp [results,Tryz.results18,go_sem]) rfl ⟨HB.out,.inr ⟨j,n,HN.out.1,⟨hl,HT.out,by rw [(hit_at HT.out.2.1.1.2.2 HN.out.1 HN.out.2).1];exact HN.out.1,HN.out.2⟩,rfl⟩⟩
 have HN:=hidK hno;clear hno;obtain ⟨k0,k1,k2,k3,k4,k5⟩:=cs6 Bk.out;have ltk_2:=lt_of_some Bk.out
 go_wp2
 exact bodyPost_ret (v:=.tuple #[.int .i64 0,.int .i64 6]) (by simp [results,Tryz.results18,go_sem]) rfl ⟨HB.out,.inl ⟨2,6,⟨hl,HT.out,hit_no HN.out⟩,rfl,by decide,rfl⟩⟩

structure Qd where
 n : ByteArray
 d : ByteArray

def qdF (x : Qd) : List Fv:=[.s x.n,.s x.d]
theorem qd_cells {w : World} {b o : Nat} {x : Qd} (h : RAt w b o (qdF x)) : x.n.size ≤ 9223372036854775807 ∧ x.d.size ≤ 9223372036854775807 ∧ w.cell? ⟨b,o,none⟩ = some (.string x.n) ∧ w.cell? ⟨b,o + 1,none⟩ = some (.string x.d):=by
 obtain ⟨v0,h0,rfl,z0⟩:=h 0 _ rfl;obtain ⟨v1,h1,rfl,z1⟩:=h 1 _ rfl;exact ⟨z0,z1,h0,h1⟩
theorem qd_at {w : World} {a : Option Addr} {len cap : Nat} {xs : List Qd} (h : RRow w a len cap 2 (xs.map qdF)) {j : Nat} (hj : j < len) :
  ∃ b o x,a = some ⟨b,o,none⟩ ∧ b < w.heap.size ∧ xs[j]? = some x ∧ RAt w b (o + j * 2) (qdF x):=by
 obtain ⟨b,o,r,h1,h2,h3,h4⟩:=h.at hj;rw [List.getElem?_map] at h3;obtain ⟨x,h5,rfl⟩:=Option.map_eq_some_iff.1 h3;exact ⟨b,o,x,h1,h2,h5,h4⟩

def lessQ (a b : Qd) : Bool:=Op.bytesLess a.n.toList b.n.toList || ((a.n.toList == b.n.toList) && Op.bytesLess a.d.toList b.d.toList)
theorem lessQ_trans {a b c : Qd} (h : lessQ a b = true) (k : lessQ b c = true) : lessQ a c = true:=by
 unfold lessQ at h k ⊢;simp only [Bool.or_eq_true,Bool.and_eq_true] at h k ⊢
 rcases h with h | ⟨h1,h2⟩
 ·rcases k with k | ⟨k1,k2⟩
  ·exact .inl (less_trans _ _ _ h k)
  ·rw [← tl_inj k1];exact .inl h
 ·rw [tl_inj h1]
  rcases k with k | ⟨k1,k2⟩
  ·exact .inl k
  ·exact .inr ⟨k1,less_trans _ _ _ h2 k2⟩
theorem less_tot {x t : ByteArray} (h : Op.bytesLess x.toList t.toList = false) (hn : ¬ x = t) : Op.bytesLess t.toList x.toList = true:=by
 have h1:=less_tri x.toList t.toList;rw [h] at h1;have h2 : (t.toList == x.toList) = false:=tl_no (fun e => hn e.symm);rw [h2] at h1
 simpa using h1
theorem lessQ_tot {a b : Qd} (h : lessQ a b = false) (hn : ¬ a = b) : lessQ b a = true:=by
 unfold lessQ at h ⊢;simp only [Bool.or_eq_false_iff,Bool.and_eq_false_iff] at h;simp only [Bool.or_eq_true,Bool.and_eq_true]
 by_cases e : a.n = b.n
 ·refine .inr ⟨tl_yes e.symm,?_⟩;have h2 : Op.bytesLess a.d.toList b.d.toList = false:=h.2.resolve_left (fun h3 => by rw [tl_yes e] at h3;cases h3);exact less_tot h2 (fun e2 => hn (by obtain ⟨a1,a2⟩:=a;obtain ⟨b1,b2⟩:=b;cases e;cases e2;rfl))
 ·exact .inl (less_tot h.1 e)
def RQ (zs : List Qd) : Prop:=zs.Pairwise fun a b => lessQ a b = true
def PutQ (t : Qd) (zs zs' : List Qd) : Prop:=(t ∈ zs ∧ zs' = zs) ∨ ∃ k,k ≤ zs.length ∧ zs' = zs.take k ++ [t] ++ zs.drop k ∧ (∀ (j : Nat) y,j < k → zs[j]? = some y → lessQ y t = true) ∧ ∀ y,zs[k]? = some y → lessQ t y = true
theorem PutQ.mem {t : Qd} {zs zs' : List Qd} (h : PutQ t zs zs') (s : Qd) : s ∈ zs' ↔ s ∈ zs ∨ s = t:=by
 rcases h with ⟨h,rfl⟩ | ⟨k,_,rfl,_,_⟩
 ·exact ⟨.inl,fun h1 => h1.elim id (fun e => e ▸ h)⟩
 ·have h1 : s ∈ zs ↔ s ∈ zs.take k ∨ s ∈ zs.drop k:=by rw [← List.mem_append,List.take_append_drop]
  rw [List.mem_append,List.mem_append,List.mem_singleton,h1]
  constructor
  ·rintro ((h | h) | h)
   ·exact .inl (.inl h)
   ·exact .inr h
   ·exact .inl (.inr h)
  ·rintro ((h | h) | h)
   ·exact .inl (.inl h)
   ·exact .inr h
   ·exact .inl (.inr h)
theorem PutQ.len {t : Qd} {zs zs' : List Qd} (h : PutQ t zs zs') : zs'.length ≤ zs.length + 1:=by
 rcases h with ⟨_,rfl⟩ | ⟨k,hk,rfl,_,_⟩
 ·omega
 ·simp only [List.length_append,List.length_take,List.length_drop,List.length_singleton]
  omega
theorem PutQ.ris {t : Qd} {zs zs' : List Qd} (h : PutQ t zs zs') (hr : RQ zs) : RQ zs':=by
 rcases h with ⟨_,rfl⟩ | ⟨k,hk,rfl,hlt,hgt⟩
 ·exact hr
 ·have h1 : RQ (zs.take k ++ zs.drop k):=by rw [List.take_append_drop];exact hr
  obtain ⟨h2,h3,h4⟩:=List.pairwise_append.1 h1
  have h5 : ∀ a ∈ zs.take k,lessQ a t = true:=fun a ha => by
   obtain ⟨j,hj⟩:=List.getElem?_of_mem ha;rw [List.getElem?_take] at hj
   split at hj
   ·next hjk => exact hlt j a hjk hj
   ·cases hj
  have h6 : ∀ a ∈ zs.drop k,lessQ t a = true:=fun a ha => by
   cases hd : zs.drop k with
   | nil => rw [hd] at ha;cases ha
   | cons b r =>
    have hb : zs[k]? = some b:=by rw [← Nat.add_zero k,← List.getElem?_drop,hd];rfl
    have h7:=hgt b hb;rw [hd] at ha h3
    rcases List.mem_cons.1 ha with rfl | ha
    ·exact h7
    ·exact lessQ_trans h7 ((List.pairwise_cons.1 h3).1 a ha)
  refine List.pairwise_append.2 ⟨List.pairwise_append.2 ⟨h2,List.pairwise_singleton _ _,fun a ha b hb => ?_⟩,h3,fun a ha b hb => ?_⟩
  ·rw [List.mem_singleton.1 hb];exact h5 a ha
  ·rcases List.mem_append.1 ha with ha | ha
   ·exact lessQ_trans (h5 a ha) (h6 b hb)
   ·rw [List.mem_singleton.1 ha];exact h6 b hb

theorem run_append_empty {w : World} {base : Nat} {t ty e : TypeId} {i : TypeInfo} {size : Nat} (ht : Tryz.prog.underlying t = some (.slice e)) (hi : Tryz.prog.info? e = some i) {v : Value} {n : Nat} {xs : List Value} (hown : w.ownsRow base e size v n xs) (ax : Option Addr) (cx : Nat) :
  (Builtin.append_ #[t,t] ty #[v,.slice ax 0 cx]).run Tryz.prog w = .ok v w:=by
 rcases hown.2 with ⟨rfl,rfl⟩ | ⟨g,cap,cur,rfl,_,_,hnc,_⟩
 ·cases ax <;> simp [Builtin.append_,run_underlying ht,sizeOf,typeInfo,hi,Builtin.lenOf,Builtin.firstCells,loadCells,loadCellsFrom]
 ·cases ax <;> simp [Builtin.append_,run_underlying ht,sizeOf,typeInfo,hi,Builtin.lenOf,Builtin.firstCells,hnc,storeCells,loadCells,loadCellsFrom]
theorem wpList_append_any {w : World} {ops : Array Oper} {rest : List Oper} {o : Oper} {a : Act} {Q : Exit → Act → World → Prop} (hgd : o.guard = none) (s x : Operand) (t : TypeId)
  (ho : o.op = .call { callee:=.builtin .append,args:=#[s,x],argTypes:=#[t,t] })
  (base : Nat) (e : TypeId) (i : TypeInfo) (z : Value) (size bytes : Nat) (ht : Tryz.prog.underlying t = some (.slice e)) (hi : Tryz.prog.info? e = some i) (hz : i.zero = some z)
  (hsize : i.size = size) (hby : i.bytes = bytes) (hzs : z.cells.size = size) (hsz : 0 < size)
  (v : Value) (n : Nat) (xs : List Value) (hs : a.eval s = v) (hown : w.ownsRow base e size v n xs)
  (ax : Option Addr) (l c : Nat) (news : List Value) (hx : a.eval x = .slice ax l c) (hl : news.length = l * size) (hnews : ∀ (j : Nat) u,news[j]? = some u → ∃ ad : Addr,ax = some ad ∧ w.cell? (ad.add j) = some u) (h1 : ∀ u ∈ news,u.oneCell' = true)
  (h63 : n + l ≤ maxLen) (hbytes : (n + l) * bytes ≤ 140737488355328) (hbase : base ≤ w.heap.size)
  (h : ∀ v' w',w'.ownsRow base e size v' (n + l) (xs ++ news) → w.grownBy w' v.ownBlock → wpList Tryz.prog ops Q rest (a.put o.dst v') w') : wpList Tryz.prog ops Q (o :: rest) a w:=by
 rcases news with _ | ⟨u,news⟩
 ·have hl0 : l = 0:=by
   rcases Nat.eq_zero_or_pos l with e | e
   ·exact e
   ·have:=Nat.mul_pos e hsz
    simp at hl
    omega
  subst hl0;refine wpList_plain hgd fun K hK => ?_;have hr:=run_append_empty (ty:=o.type) ht hi hown ax c;unfold Oper.wp execOp;simp only [ho,resolve,invoke,builtin,Sem.run_bind,Sem.run_pure,Result.andThen_ok,List.map_toArray,List.map_cons,List.map_nil,hs,hx,hr];exact hK _ _ (h v w (by simpa using hown) (World.grownBy.refl _ _))
 ·obtain ⟨ad,rfl,_⟩:=hnews 0 u rfl
  exact wpList_append_two hgd s x t t ho base e e i z size bytes ht ht hi hz hsize hby hzs hsz v n xs hs hown ad l c (u :: news) hx hl (fun j y hy => by
   obtain ⟨ad',e,h2⟩:=hnews j y hy
   cases e
   exact h2) h1 h63 hbytes hbase h

theorem infoqd : (Tryz.prog.info? 112).map (fun i => (i.zero,i.size,i.bytes)) = some (some (.agg #[.string ⟨#[]⟩,.string ⟨#[]⟩]),2,32):=by kernel_rfl
theorem slessQ_any (a b : Qd) (w : World) :
  Calls Tryz.prog 106 #[.agg #[.string a.n,.string a.d],.agg #[.string b.n,.string b.d]] w fun e w' => e = .returned (.bool (lessQ a b)) ∧ Below w.heap.size w w':=by
 obtain ⟨r,hr⟩ : ∃ r,r = lessQ a b:=⟨_,rfl⟩;rw [← hr]
 have hr2 : (Op.bytesLess a.n.toList b.n.toList = true ∧ r = true) ∨ (Op.bytesLess a.n.toList b.n.toList = false ∧ (a.n.toList == b.n.toList) = false ∧ r = false) ∨ (Op.bytesLess a.n.toList b.n.toList = false ∧ (a.n.toList == b.n.toList) = true ∧ Op.bytesLess a.d.toList b.d.toList = r):=by
  unfold lessQ at hr
  cases h1 : Op.bytesLess a.n.toList b.n.toList
  ·cases h2 : (a.n.toList == b.n.toList)
   ·rw [h1,h2] at hr;exact .inr (.inl ⟨rfl,rfl,hr⟩)
   ·rw [h1,h2] at hr;exact .inr (.inr ⟨rfl,rfl,by rw [hr];simp⟩)
  ·rw [h1] at hr;exact .inl ⟨rfl,hr⟩
 clear hr
 rcases hr2 with ⟨h1,rfl⟩ | ⟨h1,h2,rfl⟩ | ⟨h1,h2,h3⟩
 all_goals (
  go_enter Tryz.func106,Tryz.ntmps106
  go_wp2
  go_ret
  first | exact ⟨rfl,below2 _ _ _⟩ | exact ⟨by rw [h3],below2 _ _ _⟩)

theorem eqQ (a b c d : ByteArray) (w : World) : (Op.equalIn 10000 112 (.agg #[.string a,.string b]) (.agg #[.string c,.string d])).run Tryz.prog w = .ok ((a.toList == c.toList) && (b.toList == d.toList)) w:=by
 have u3:=Tryz.underlying9
 have hS : Tryz.prog.underlying 112 = some (.struct (Tryz.prog.fieldsOf 112)):=by kernel_rfl
 have hp : Tryz.prog.stoodInHeld 112 = false:=by kernel_rfl
 rw [show (10000 : Nat) = 9999 + 1 from rfl,run_equalIn_agg w 9999 112 _ _ hS hp];simp only [Program.fieldsOf,Tryz.underlying112];go_simp
 by_cases h1 : a.toList = c.toList
 ·by_cases h2 : b.toList = d.toList <;> simp [h1,h2]
 ·simp [h1]
theorem qd_ins {w w4 : World} {v4 : Value} {base n j : Nat} {xs : List Qd} {x : Qd} {vss : List (List Value)} {H : Nat → Nat → Nat} {Q : Nat → Prop} (hV : VRecs w Q 2 (xs.map qdF) vss H) (hxl : xs.length = n) (hjn : j ≤ n) (hB4 : Below w.heap.size w w4) (hx1 : x.n.size ≤ 9223372036854775807) (hx2 : x.d.size ≤ 9223372036854775807) (hQ : ∀ k,base ≤ k → Q k)
  (ho4 : w4.ownsRow base 112 2 v4 (n + 1) (inAt j [.string x.n,.string x.d] vss).flatten) : ∃ a' c',v4 = .slice a' (n + 1) c' ∧ ROwn w4 a' (n + 1) c' 2 112 ((inAt j x xs).map qdF) Q:=by
 obtain ⟨H4,hV5⟩:=(hV.below hB4).ins (p:=j) (r:=qdF x) (vs:=[.string x.n,.string x.d]) (hh:=fun _ => 0) rfl rfl (fun i f hf => by
  rcases i with _ | _ | i <;> simp [qdF] at hf <;> subst hf
  ·exact ⟨_,rfl,rfl,hx1⟩
  ·exact ⟨_,rfl,rfl,hx2⟩) (fun i zs h hz => by rcases i with _ | _ | i <;> simp [qdF] at h) (fun i i2 zs zs2 h => by rcases i with _ | _ | i <;> simp [qdF] at h) (by rw [List.length_map];omega)
 have h45 : VRecs w4 Q 2 ((inAt j x xs).map qdF) (inAt j [.string x.n,.string x.d] vss) H4:=by rw [inAt_map];exact hV5
 have hle : ((inAt j x xs).map qdF).length = n + 1:=by rw [List.length_map,inAt_len (by omega),hxl]
 obtain ⟨a',c',e,hR⟩:=h45.own ho4 hle.symm (by decide) (fun g hg => hQ g (ho4.lt g hg).1);rw [hle] at e hR;exact ⟨a',c',e,hR⟩
theorem slessQ_is (a b : Qd) (w : World) (r : Bool) (h : lessQ a b = r) : Calls Tryz.prog 106 #[.agg #[.string a.n,.string a.d],.agg #[.string b.n,.string b.d]] w fun e w' => e = .returned (.bool r) ∧ Below w.heap.size w w':=by
 rw [← h];exact slessQ_any a b w

def PutQAns (t : Qd) (zs : List Qd) (B : Nat) (w : World) (e : Ending) (w' : World) : Prop:=∃ a' l' c' zs',e = .returned (.slice a' l' c') ∧ ROwn w' a' l' c' 2 112 (zs'.map qdF) (fun k => B ≤ k) ∧ PutQ t zs zs' ∧ Below w.heap.size w w'

theorem sputQ_any (a : Option Addr) (len cap : Nat) (zs : List Qd) (x : Qd) (B : Nat) (w : World) (ho : ROwn w a len cap 2 112 (zs.map qdF) (fun k => B ≤ k)) (hB : B ≤ w.heap.size) (hl : len ≤ 64) (hx1 : x.n.size ≤ 9223372036854775807) (hx2 : x.d.size ≤ 9223372036854775807) :
  Calls Tryz.prog 84 #[.slice a len cap,.agg #[.string x.n,.string x.d]] w (PutQAns x zs B w):=by
 have hll : zs.length = len:=by simpa using ho.1
 have hlc : len ≤ cap:=ho.2.1;have hcm : cap ≤ 9223372036854775807:=ho.2.2.1;have HR:=hidK ho.row;have HOW0:=hidK ho;obtain ⟨vss,H,hV,hcell⟩:=ho.recs
 have hvl : vss.length = len:=by rw [hV.len,List.length_map,hll]
 have HC : Hid (∀ (j : Nat) u,vss.flatten[j]? = some u → ∃ b,a = some ⟨b,0,none⟩ ∧ w.cell? ⟨b,j,none⟩ = some u):=fun j u hj => by
  obtain ⟨b,e,_,h3⟩:=hcell j u hj;exact ⟨b,e,h3⟩
 have HVA:=hidK hV.all;have HV1:=hidK hV.one;have HFIN : Hid (∀ (w4 : World) v4 base k,k ≤ len → w.heap.size ≤ base → Below w.heap.size w w4 → w4.ownsRow base 112 2 v4 (len + 1) (inAt k [.string x.n,.string x.d] vss).flatten → ∃ a' c',v4 = .slice a' (len + 1) c' ∧ ROwn w4 a' (len + 1) c' 2 112 ((inAt k x zs).map qdF) (fun k => B ≤ k)):=fun w4 v4 base k hk hbs hB4 ho4 => qd_ins hV hll hk hB4 hx1 hx2 (fun k hk => by omega) ho4;obtain ⟨i5,hi5',hz0,hz1,hz2⟩:=info_parts infoqd;have HI0:=hidK (And.intro hi5' (And.intro hz0 (And.intro hz1 hz2)));clear hi5' hz0 hz1 hz2 hV hcell ho
 go_enter Tryz.func84,Tryz.ntmps84
 go_wp2
 go_loopw [5] (fun vi wr => ∃ k : Nat,k ≤ len ∧ vi = .int .i64 k ∧ Hid (∀ (j : Nat) y,j < k → zs[j]? = some y → lessQ y x = true) ∧ Hid (Below (w.heap.size + 1) (w.alloc (.cells #[.string x.n,.string x.d] 112)) wr)) (fun vi _ => len - (intOf vi).toNat)
 case atStart => exact ⟨0,by omega,rfl,fun j y hj => by omega,Below.refl _ _⟩
 case round =>
  obtain ⟨k,hk,rfl,HE,HL⟩:=hrel
  have hLs : w.heap.size + 1 ≤ wr.heap.size:=by have:=HL.out.size;simpa using this
  have HB:=hidK ((below1 w (.cells #[.string x.n,.string x.d] 112)).trans (HL.out.mono (by omega)));have Bx:=hidK ((HL.out.block w.heap.size (by omega)).trans (heap_alloc_new w (.cells #[.string x.n,.string x.d] 112)))
  by_cases hlt : k < len
  ·obtain ⟨b,o,y,rfl,hb,hx,hat⟩:=qd_at (HR.out.below HB.out) hlt;obtain ⟨-,-,hc0,hc1⟩:=qd_cells hat;have HXy:=hidK hx;have hbw : b < wr.heap.size:=hb;have HC0:=hidK hc0;have HC1:=hidK hc1;have HBW:=hidK hbw
   have hk1 : (k : Int) < len:=by omega
   have hk2 : decide ((k : Int) < len) = true:=by simp;omega
   clear hb hat hx
   cases hless : lessQ y x
   ·have HLS:=hidK hless;clear hless;have Gx:=Bx;have HW:=HB;obtain ⟨x0,x1⟩:=sl2 Gx;have yn:=fun q : Wd wr => (q.cell hbw).trans hc0;have yd:=fun q : Wd wr => (q.cell hbw).trans hc1;have hne0:=Wd.ne wr;have HC0:=hidK (fun q : Wd wr => slessQ_is y x q.w false HLS.out);go_wp2_with fail;refine wp_region_wide (by kernel_rfl) (by kernel_rfl) ?_
    repeat (go_big_quiet_step (first | (go_at_call 106;exact Calls.wide (HC0.out _)) | fail))
    refine wpQuiet_nil ?_;rintro _ ⟨q2,rfl⟩;have HB1:=upB HW q2.b;have Cx:=upK Gx q2.b;clear hne0 HW HB HC0 x0 x1 yn yd Gx Bx hc0 hc1 hbw;have HB:=HB1;clear HB1;have Bx:=Cx;clear Cx;have hbw : b < q2.w.heap.size:=Nat.lt_of_lt_of_le HBW.out q2.b.size;have hc0:=(q2.cell HBW.out).trans HC0.out;have hc1:=(q2.cell HBW.out).trans HC1.out
    by_cases he : y = x
    ·have HP : Hid (PutQ x zs zs):=.inl ⟨he ▸ List.mem_of_getElem? HXy.out,rfl⟩;have hq1 : (y.n.toList == x.n.toList) = true:=tl_yes (by rw [he]);have hq2 : (y.d.toList == x.d.toList) = true:=tl_yes (by rw [he])
     have hn1 : y.n = x.n:=by rw [he]
     have hn2 : y.d = x.d:=by rw [he]
     clear he
     have hqe : ∀ W : World,(Op.equalIn 10000 112 (.agg #[.string y.n,.string y.d]) (.agg #[.string x.n,.string x.d])).run Tryz.prog W = .ok true W:=fun W => by rw [eqQ,hq1,hq2];rfl
     clear hn1 hn2;have Gx:=Bx;have HW:=HB;obtain ⟨x0,x1⟩:=sl2 Gx;have yn:=fun q : Wd q2.w => (q.cell hbw).trans hc0;have yd:=fun q : Wd q2.w => (q.cell hbw).trans hc1;have hne0:=Wd.ne q2.w;go_wp2_with fail;refine wp_region_wide (by kernel_rfl) (by kernel_rfl) ?_
     repeat (go_big_quiet_step (first | fail))
     refine wpQuiet_nil ?_;rintro _ ⟨q3,rfl⟩;have HB2:=upB HW q3.b;have Cx:=upK Gx q3.b;clear hne0 HW HB x0 x1 yn yd Gx Bx hc0 hc1 hbw hqe;have HB:=HB2;clear HB2;have Bx:=Cx;clear Cx
     go_wp2
     go_ret;exact ⟨_,_,_,_,rfl,HOW0.out.below HB.out,HP.out,HB.out⟩
    have HP : Hid (PutQ x zs (inAt k x zs)):=.inr ⟨k,by omega,rfl,HE.out,fun z hz => by rw [HXy.out] at hz;cases hz;exact lessQ_tot HLS.out he⟩
    have hq1 : ((y.n.toList == x.n.toList) && (y.d.toList == x.d.toList)) = false:=by
     cases h1 : (y.n.toList == x.n.toList)
     ·rfl
     ·cases h2 : (y.d.toList == x.d.toList)
      ·rfl
      ·exact absurd (by have e1:=tl_inj h1;have e2:=tl_inj h2;obtain ⟨y1,y2⟩:=y;obtain ⟨x1,x2⟩:=x;cases e1;cases e2;rfl) he
    have hqe : ∀ W : World,(Op.equalIn 10000 112 (.agg #[.string y.n,.string y.d]) (.agg #[.string x.n,.string x.d])).run Tryz.prog W = .ok false W:=fun W => by rw [eqQ,hq1]
    clear he;have Gx:=Bx;have HW:=HB;obtain ⟨x0,x1⟩:=sl2 Gx;have yn:=fun q : Wd q2.w => (q.cell hbw).trans hc0;have yd:=fun q : Wd q2.w => (q.cell hbw).trans hc1;have hne0:=Wd.ne q2.w;go_wp2_with fail;refine wp_region_wide (by kernel_rfl) (by kernel_rfl) ?_
    repeat (go_big_quiet_step (first | fail))
    refine wpQuiet_nil ?_;rintro _ ⟨q3,rfl⟩;have HB2:=upB HW q3.b;have Cx:=upK Gx q3.b;clear hne0 HW HB x0 x1 yn yd Gx Bx hc0 hc1 hbw hqe;have HB:=HB2;clear HB2;have Bx:=Cx;clear Cx;clear hq1
    have HCQ : Hid (∀ (j : Nat) u,vss.flatten[j]? = some u → ∃ b9,(some ⟨b,o,none⟩ : Option Addr) = some ⟨b9,0,none⟩ ∧ b9 < q3.w.heap.size ∧ q3.w.cell? ⟨b9,j,none⟩ = some u):=fun j u hj => by
     obtain ⟨b,e,h3⟩:=HC.out j u hj;exact ⟨b,e,Nat.lt_of_lt_of_le (cell_lt h3) HB.out.size,(cell_below HB.out (cell_lt h3)).trans h3⟩
    have HOW : Hid ((q3.w.alloc (.cells #[] 112)).ownsRow q3.w.heap.size 112 2 (.slice (some ⟨q3.w.heap.size,0,none⟩) 0 0) 0 []):=World.ownsRow_made q3.w #[] 0 (Nat.le_refl _) (Nat.zero_le _) (by simp)
    have hik : (k : Int) ≤ cap:=by omega
    have hkn : k ≤ cap:=by omega
    have hcap : ¬ cap = k:=by omega
    all_goals (
     go_wp2_with (first | (at_builtin;refine wpList_append_any rfl _ _ 109 rfl q3.w.heap.size 112 i5 (.agg #[.string ⟨#[]⟩,.string ⟨#[]⟩]) 2 32 Tryz.underlying109 HI0.out.1 HI0.out.2.1 HI0.out.2.2.1 HI0.out.2.2.2 rfl (by decide) _ _ _ rfl (HOW.out) _ k _ (vss.take k).flatten rfl (take_flat HVA.out (by omega)) (fun j u hu => by obtain ⟨g,e,hgl,h3⟩:=HCQ.out _ _ (take_at hu);cases e <;> exact ⟨_,rfl,by simp only [Addr.add_lit,Nat.zero_add];exact (cell_below (below1 q3.w _) hgl).trans h3⟩) (mem_take_one HV1.out k).1 (by unfold maxLen;omega) (by omega) (by simp) ?_))
     intro v5 w5 hown5 hgr5
     replace hown5 : w5.ownsRow q3.w.heap.size 112 2 v5 k (vss.take k).flatten:=by simpa using hown5
     have hb5 : Below q3.w.heap.size q3.w w5:=(below1 q3.w (.cells #[] 112)).grown hgr5 (by simp) (fun g hg => by simp [Value.ownBlock] at hg;omega);obtain ⟨s1,s2,s3,rfl⟩:=owns_slice hown5;have HO5:=hidK hown5;have H5:=hidK hb5;have hs6:=hb5.size;have Bx5:=upK Bx hb5;obtain ⟨x0,x1⟩:=cs2 Bx5.out;have hxl:=lt_of_some Bx5.out;clear hown5 hgr5 hb5 HOW
     go_wp2_with (first | (at_builtin;refine wpList_append_any rfl _ _ 109 rfl q3.w.heap.size 112 i5 (.agg #[.string ⟨#[]⟩,.string ⟨#[]⟩]) 2 32 Tryz.underlying109 HI0.out.1 HI0.out.2.1 HI0.out.2.2.1 HI0.out.2.2.2 rfl (by decide) _ _ _ rfl (HO5.out.alloc _) _ 1 _ [.string x.n,.string x.d] rfl rfl (fun j u hu => ⟨_,rfl,by rw [Addr.add_lit,Nat.zero_add,cellK (heap_alloc_new w5 _)];simpa using hu⟩) (by simp [Value.oneCell']) (by unfold maxLen;omega) (by omega) (by simp;omega) ?_))
     intro v6 w6 hown6 hgr6;have hb6 : Below q3.w.heap.size q3.w w6:=(H5.out.alloc H5.out.size _).grown hgr6 (by simp;omega) (fun g hg => (HO5.out.lt g hg).1);obtain ⟨r1,r2,r3,rfl⟩:=owns_slice hown6;have HO6:=hidK hown6;have H6:=hidK hb6;have hs7:=hb6.size;clear hown6 hgr6 hb6 x0 x1 hxl
     go_wp2_with (first | (at_builtin;refine wpList_append_any rfl _ _ 109 rfl q3.w.heap.size 112 i5 (.agg #[.string ⟨#[]⟩,.string ⟨#[]⟩]) 2 32 Tryz.underlying109 HI0.out.1 HI0.out.2.1 HI0.out.2.2.1 HI0.out.2.2.2 rfl (by decide) _ _ _ rfl (HO6.out) _ (len - k) _ (vss.drop k).flatten rfl (by rw [drop_flat HVA.out,hvl]) (fun j u hu => by first | (rw [List.drop_eq_nil_of_le (by omega)] at hu;simp at hu;done) | (obtain ⟨g,e,hgl,h3⟩:=HCQ.out _ _ (drop_at HVA.out (by omega) hu);cases e <;> exact ⟨_,rfl,by simp only [Addr.add_lit,Nat.zero_add];exact (cell_below H6.out hgl).trans h3⟩)) (mem_take_one HV1.out k).2 (by unfold maxLen;omega) (by omega) (by omega) ?_))
     intro v7 w7 hown7 hgr7;have hb7 : Below q3.w.heap.size q3.w w7:=H6.out.grown hgr7 (by omega) (fun g hg => (HO6.out.lt g hg).1)
     replace hown7 : w7.ownsRow q3.w.heap.size 112 2 v7 (len + 1) (inAt k [.string x.n,.string x.d] vss).flatten:=by
      have e9 : k + 1 + (len - k) = len + 1:=by omega
      try rw [e9] at hown7
      simpa [inAt] using hown7
     have HB7:=upB HB hb7;obtain ⟨a',c',rfl,hR⟩:=HFIN.out w7 v7 q3.w.heap.size k (by omega) HB.out.size HB7.out hown7;have HR7:=hidK hR;clear hown7 hgr7 hb7 hR hik hkn hcap
     go_wp2
     go_ret
     exact ⟨a',_,c',_,rfl,HR7.out,HP.out,HB7.out⟩)
   ·have HLS:=hidK hless;clear hless;have Gx:=Bx;have HW:=HB;obtain ⟨x0,x1⟩:=sl2 Gx;have yn:=fun q : Wd wr => (q.cell hbw).trans hc0;have yd:=fun q : Wd wr => (q.cell hbw).trans hc1;have hne0:=Wd.ne wr;have HC0:=hidK (fun q : Wd wr => slessQ_is y x q.w true HLS.out);go_wp2_with fail;refine wp_region_wide (by kernel_rfl) (by kernel_rfl) ?_
    repeat (go_big_quiet_step (first | (go_at_call 106;exact Calls.wide (HC0.out _)) | fail))
    refine wpQuiet_nil ?_;rintro _ ⟨q2,rfl⟩;have HB1:=upB HW q2.b;have Cx:=upK Gx q2.b;clear hne0 HW HB HC0 x0 x1 yn yd Gx Bx hc0 hc1 hbw;have HB:=HB1;clear HB1;have Bx:=Cx;clear Cx
    go_wp2
    refine ⟨⟨k + 1,by omega,by go_num,fun j z hj hz => ?_,HL.out.trans (q2.b.mono (by omega))⟩,by simp [intOf];omega⟩
    by_cases e : j = k
    ·subst e;rw [HXy.out] at hz;obtain rfl:=Option.some.inj hz;exact HLS.out
    ·exact HE.out j z (by omega) hz
  ·have hk1 : ¬ (k : Int) < len:=by omega
   have hk2 : decide ((k : Int) < len) = false:=by simp;omega
   have HP : Hid (PutQ x zs (inAt k x zs)):=.inr ⟨k,by omega,rfl,HE.out,fun z hz => by have:=(List.getElem?_eq_some_iff.1 hz).1;omega⟩;have Gx:=Bx;have HW:=HB;obtain ⟨x0,x1⟩:=sl2 Gx;have hne0:=Wd.ne wr;go_wp2_with fail;refine wp_region_wide (by kernel_rfl) (by kernel_rfl) ?_
   repeat (go_big_quiet_step (first | fail))
   refine wpQuiet_nil ?_;rintro _ ⟨q2,rfl⟩;have HB1:=upB HW q2.b;have Cx:=upK Gx q2.b;clear hne0 HW HB x0 x1 Gx Bx;have HB:=HB1;clear HB1;have Bx:=Cx;clear Cx;have Gx:=Bx;have HW:=HB;obtain ⟨x0,x1⟩:=sl2 Gx;have hne0:=Wd.ne q2.w;go_wp2_with fail;refine wp_region_wide (by kernel_rfl) (by kernel_rfl) ?_
   repeat (go_big_quiet_step (first | fail))
   refine wpQuiet_nil ?_;rintro _ ⟨q3,rfl⟩;have HB2:=upB HW q3.b;have Cx:=upK Gx q3.b;clear hne0 HW HB x0 x1 Gx Bx;have HB:=HB2;clear HB2;have Bx:=Cx;clear Cx
   have HCQ : Hid (∀ (j : Nat) u,vss.flatten[j]? = some u → ∃ b9,a = some ⟨b9,0,none⟩ ∧ b9 < q3.w.heap.size ∧ q3.w.cell? ⟨b9,j,none⟩ = some u):=fun j u hj => by
    obtain ⟨b,e,h3⟩:=HC.out j u hj;exact ⟨b,e,Nat.lt_of_lt_of_le (cell_lt h3) HB.out.size,(cell_below HB.out (cell_lt h3)).trans h3⟩
   have HOW : Hid ((q3.w.alloc (.cells #[] 112)).ownsRow q3.w.heap.size 112 2 (.slice (some ⟨q3.w.heap.size,0,none⟩) 0 0) 0 []):=World.ownsRow_made q3.w #[] 0 (Nat.le_refl _) (Nat.zero_le _) (by simp)
   have hik : (k : Int) ≤ cap:=by omega
   have hkn : k ≤ cap:=by omega
   rcases a with _ | ⟨b2,f2,sp⟩
   ·have hl0 : len = 0:=Classical.byContradiction fun hne0 => by
     have h1 : vss[0]? = some (vss[0]'(by omega)):=List.getElem?_eq_getElem _
     have h2 : 0 < (vss[0]'(by omega)).length:=by rw [HVA.out 0 _ h1];decide
     obtain ⟨g,e,_⟩:=HCQ.out _ _ (flat_at HVA.out h1 (List.getElem?_eq_getElem h2))
     cases e
    obtain rfl : k = 0:=by omega
    subst hl0
    by_cases hcap : cap = 0
    all_goals (
     go_wp2_with (first | (at_builtin;refine wpList_append_any rfl _ _ 109 rfl q3.w.heap.size 112 i5 (.agg #[.string ⟨#[]⟩,.string ⟨#[]⟩]) 2 32 Tryz.underlying109 HI0.out.1 HI0.out.2.1 HI0.out.2.2.1 HI0.out.2.2.2 rfl (by decide) _ _ _ rfl (HOW.out) _ 0 _ (vss.take 0).flatten rfl (take_flat HVA.out (by omega)) (fun j u hu => by obtain ⟨g,e,hgl,h3⟩:=HCQ.out _ _ (take_at hu);cases e <;> exact ⟨_,rfl,by simp only [Addr.add_lit,Nat.zero_add];exact (cell_below (below1 q3.w _) hgl).trans h3⟩) (mem_take_one HV1.out 0).1 (by unfold maxLen;omega) (by omega) (by simp) ?_))
     intro v5 w5 hown5 hgr5
     replace hown5 : w5.ownsRow q3.w.heap.size 112 2 v5 0 (vss.take 0).flatten:=by simpa using hown5
     have hb5 : Below q3.w.heap.size q3.w w5:=(below1 q3.w (.cells #[] 112)).grown hgr5 (by simp) (fun g hg => by simp [Value.ownBlock] at hg;omega);obtain ⟨s1,s2,s3,rfl⟩:=owns_slice hown5;have HO5:=hidK hown5;have H5:=hidK hb5;have hs6:=hb5.size;have Bx5:=upK Bx hb5;obtain ⟨x0,x1⟩:=cs2 Bx5.out;have hxl:=lt_of_some Bx5.out;clear hown5 hgr5 hb5 HOW
     go_wp2_with (first | (at_builtin;refine wpList_append_any rfl _ _ 109 rfl q3.w.heap.size 112 i5 (.agg #[.string ⟨#[]⟩,.string ⟨#[]⟩]) 2 32 Tryz.underlying109 HI0.out.1 HI0.out.2.1 HI0.out.2.2.1 HI0.out.2.2.2 rfl (by decide) _ _ _ rfl (HO5.out.alloc _) _ 1 _ [.string x.n,.string x.d] rfl rfl (fun j u hu => ⟨_,rfl,by rw [Addr.add_lit,Nat.zero_add,cellK (heap_alloc_new w5 _)];simpa using hu⟩) (by simp [Value.oneCell']) (by unfold maxLen;omega) (by omega) (by simp;omega) ?_))
     intro v6 w6 hown6 hgr6;have hb6 : Below q3.w.heap.size q3.w w6:=(H5.out.alloc H5.out.size _).grown hgr6 (by simp;omega) (fun g hg => (HO5.out.lt g hg).1);obtain ⟨r1,r2,r3,rfl⟩:=owns_slice hown6;have HO6:=hidK hown6;have H6:=hidK hb6;have hs7:=hb6.size;clear hown6 hgr6 hb6 x0 x1 hxl
     go_wp2_with (first | (at_builtin;refine wpList_append_any rfl _ _ 109 rfl q3.w.heap.size 112 i5 (.agg #[.string ⟨#[]⟩,.string ⟨#[]⟩]) 2 32 Tryz.underlying109 HI0.out.1 HI0.out.2.1 HI0.out.2.2.1 HI0.out.2.2.2 rfl (by decide) _ _ _ rfl (HO6.out) _ (0 - 0) _ (vss.drop 0).flatten rfl (by rw [drop_flat HVA.out,hvl]) (fun j u hu => by first | (rw [List.drop_eq_nil_of_le (by omega)] at hu;simp at hu;done) | (obtain ⟨g,e,hgl,h3⟩:=HCQ.out _ _ (drop_at HVA.out (by omega) hu);cases e <;> exact ⟨_,rfl,by simp only [Addr.add_lit,Nat.zero_add];exact (cell_below H6.out hgl).trans h3⟩)) (mem_take_one HV1.out 0).2 (by unfold maxLen;omega) (by omega) (by omega) ?_))
     intro v7 w7 hown7 hgr7;have hb7 : Below q3.w.heap.size q3.w w7:=H6.out.grown hgr7 (by omega) (fun g hg => (HO6.out.lt g hg).1)
     replace hown7 : w7.ownsRow q3.w.heap.size 112 2 v7 (0 + 1) (inAt 0 [.string x.n,.string x.d] vss).flatten:=by
      have e9 : 0 + 1 + (0 - 0) = 0 + 1:=by omega
      try rw [e9] at hown7
      simpa [inAt] using hown7
     have HB7:=upB HB hb7;obtain ⟨a',c',rfl,hR⟩:=HFIN.out w7 v7 q3.w.heap.size 0 (by omega) HB.out.size HB7.out hown7;have HR7:=hidK hR;clear hown7 hgr7 hb7 hR hik hkn hcap
     go_wp2
     go_ret
     exact ⟨a',_,c',_,rfl,HR7.out,HP.out,HB7.out⟩)
   by_cases hcap : cap = k
   all_goals (
    go_wp2_with (first | (at_builtin;refine wpList_append_any rfl _ _ 109 rfl q3.w.heap.size 112 i5 (.agg #[.string ⟨#[]⟩,.string ⟨#[]⟩]) 2 32 Tryz.underlying109 HI0.out.1 HI0.out.2.1 HI0.out.2.2.1 HI0.out.2.2.2 rfl (by decide) _ _ _ rfl (HOW.out) _ k _ (vss.take k).flatten rfl (take_flat HVA.out (by omega)) (fun j u hu => by obtain ⟨g,e,hgl,h3⟩:=HCQ.out _ _ (take_at hu);cases e <;> exact ⟨_,rfl,by simp only [Addr.add_lit,Nat.zero_add];exact (cell_below (below1 q3.w _) hgl).trans h3⟩) (mem_take_one HV1.out k).1 (by unfold maxLen;omega) (by omega) (by simp) ?_))
    intro v5 w5 hown5 hgr5
    replace hown5 : w5.ownsRow q3.w.heap.size 112 2 v5 k (vss.take k).flatten:=by simpa using hown5
    have hb5 : Below q3.w.heap.size q3.w w5:=(below1 q3.w (.cells #[] 112)).grown hgr5 (by simp) (fun g hg => by simp [Value.ownBlock] at hg;omega);obtain ⟨s1,s2,s3,rfl⟩:=owns_slice hown5;have HO5:=hidK hown5;have H5:=hidK hb5;have hs6:=hb5.size;have Bx5:=upK Bx hb5;obtain ⟨x0,x1⟩:=cs2 Bx5.out;have hxl:=lt_of_some Bx5.out;clear hown5 hgr5 hb5 HOW
    go_wp2_with (first | (at_builtin;refine wpList_append_any rfl _ _ 109 rfl q3.w.heap.size 112 i5 (.agg #[.string ⟨#[]⟩,.string ⟨#[]⟩]) 2 32 Tryz.underlying109 HI0.out.1 HI0.out.2.1 HI0.out.2.2.1 HI0.out.2.2.2 rfl (by decide) _ _ _ rfl (HO5.out.alloc _) _ 1 _ [.string x.n,.string x.d] rfl rfl (fun j u hu => ⟨_,rfl,by rw [Addr.add_lit,Nat.zero_add,cellK (heap_alloc_new w5 _)];simpa using hu⟩) (by simp [Value.oneCell']) (by unfold maxLen;omega) (by omega) (by simp;omega) ?_))
    intro v6 w6 hown6 hgr6;have hb6 : Below q3.w.heap.size q3.w w6:=(H5.out.alloc H5.out.size _).grown hgr6 (by simp;omega) (fun g hg => (HO5.out.lt g hg).1);obtain ⟨r1,r2,r3,rfl⟩:=owns_slice hown6;have HO6:=hidK hown6;have H6:=hidK hb6;have hs7:=hb6.size;clear hown6 hgr6 hb6 x0 x1 hxl
    go_wp2_with (first | (at_builtin;refine wpList_append_any rfl _ _ 109 rfl q3.w.heap.size 112 i5 (.agg #[.string ⟨#[]⟩,.string ⟨#[]⟩]) 2 32 Tryz.underlying109 HI0.out.1 HI0.out.2.1 HI0.out.2.2.1 HI0.out.2.2.2 rfl (by decide) _ _ _ rfl (HO6.out) _ (len - k) _ (vss.drop k).flatten rfl (by rw [drop_flat HVA.out,hvl]) (fun j u hu => by first | (rw [List.drop_eq_nil_of_le (by omega)] at hu;simp at hu;done) | (obtain ⟨g,e,hgl,h3⟩:=HCQ.out _ _ (drop_at HVA.out (by omega) hu);cases e <;> exact ⟨_,rfl,by simp only [Addr.add_lit,Nat.zero_add];exact (cell_below H6.out hgl).trans h3⟩)) (mem_take_one HV1.out k).2 (by unfold maxLen;omega) (by omega) (by omega) ?_))
    intro v7 w7 hown7 hgr7;have hb7 : Below q3.w.heap.size q3.w w7:=H6.out.grown hgr7 (by omega) (fun g hg => (HO6.out.lt g hg).1)
    replace hown7 : w7.ownsRow q3.w.heap.size 112 2 v7 (len + 1) (inAt k [.string x.n,.string x.d] vss).flatten:=by
     have e9 : k + 1 + (len - k) = len + 1:=by omega
     try rw [e9] at hown7
     simpa [inAt] using hown7
    have HB7:=upB HB hb7;obtain ⟨a',c',rfl,hR⟩:=HFIN.out w7 v7 q3.w.heap.size k (by omega) HB.out.size HB7.out hown7;have HR7:=hidK hR;clear hown7 hgr7 hb7 hR hik hkn hcap
    go_wp2
    go_ret
    exact ⟨a',_,c',_,rfl,HR7.out,HP.out,HB7.out⟩)

def Wn (c : Cl) (k : Nat) (q : Qd) : Prop:=∃ (j : Nat) (p : Pd),j < k ∧ c.ps[j]? = some p ∧ ¬ p.d = ⟨#[]⟩ ∧ ∃ (i : Nat) (t : ByteArray) (v : Vd),p.zs[i]? = some t ∧ IsBd c t v ∧ q = ⟨v.n,p.d⟩
def Wc (c : Cl) (p : Pd) (k : Nat) (q : Qd) : Prop:=∃ (i : Nat) (t : ByteArray) (v : Vd),i < k ∧ p.zs[i]? = some t ∧ IsBd c t v ∧ q = ⟨v.n,p.d⟩
def WanAns (c : Cl) (B : Nat) (w : World) (e : Ending) (w' : World) : Prop:=∃ a' l' c' zs',e = .returned (.slice a' l' c') ∧ ROwn w' a' l' c' 2 112 (zs'.map qdF) (fun k => B ≤ k) ∧ RQ zs' ∧ (∀ q,q ∈ zs' ↔ Wn c c.ps.length q) ∧ zs'.length ≤ 24 ∧ Below w.heap.size w w'

def PqF (t : Qd) (zs : List Qd) (B : Nat) : Fact:=fun v w => ∃ a' l' c' zs',v = .slice a' l' c' ∧ ROwn w a' l' c' 2 112 (zs'.map qdF) (fun k => B ≤ k) ∧ PutQ t zs zs'
theorem PqF.mono {t : Qd} {zs : List Qd} {B : Nat} : Fact.Mono (PqF t zs B):=by
 rintro v w w' ⟨a',l',c',zs',h1,h2,h3⟩ hb;exact ⟨a',l',c',zs',h1,h2.below hb,h3⟩
theorem IsBd.nameQ {c : Cl} {t : ByteArray} {v v' : Vd} (hx : RisBy Xd.n c.xs) (h : IsBd c t v) (h' : IsBd c t v') : v.n = v'.n:=by
 obtain ⟨i,j,x,h1,h2,h3,h4⟩:=h;obtain ⟨i',j',x',k1,k2,k3,k4⟩:=h';obtain ⟨_,rfl⟩:=hx.inj h1 k1 (h2.trans k2.symm);rw [h4,k4]
theorem sbindQ_yes (d : Ad) (c : Cl) (t : ByteArray) (w : World) (hr : ClRow w d c.raw) (hT : RightI c) {j : Nat} {v : Vd} (hv : c.vs[j]? = some v) (hb : IsBd c t v) :
  Calls Tryz.prog 83 #[.agg #[.slice d.a1 d.l1 d.c1,.slice d.a2 d.l2 d.c2,.slice d.a3 d.l3 d.c3,.slice d.a4 d.l4 d.c4,.slice d.a5 d.l5 d.c5,.int .i64 c.now],.string t] w fun e w' => e = .returned (.int .i64 j) ∧ Below w.heap.size w w':=by
 refine (sbind_any d c t w hr hT.2.1.2.2.2.1.2.2 hT.2.1.2.2.1.2.2 (fun j v hv e => by have h9:=(hT.2.1.2.2.1.2.1 j v hv).1;rw [e] at h9;have h8:=h9.1;revert h8;decide)).mono ?_;rintro e w' ⟨hb2,⟨j',v',h1,h2,rfl⟩ | ⟨hno,rfl⟩⟩
 ·obtain ⟨rfl,_⟩:=hT.2.1.2.2.1.2.2.inj h1 hv (h2.nameQ hT.2.1.2.2.2.1.2.2 hb);exact ⟨rfl,hb2⟩
 ·exact absurd hb (hno v)
theorem Wc.step {c : Cl} {p : Pd} {k : Nat} {t : ByteArray} {v : Vd} {q : Qd} (hx : RisBy Xd.n c.xs) (ht : p.zs[k]? = some t) (hb : IsBd c t v) : Wc c p (k + 1) q ↔ Wc c p k q ∨ q = ⟨v.n,p.d⟩:=by
 constructor
 ·rintro ⟨i,t',v',h1,h2,h3,rfl⟩
  by_cases e : i = k
  ·subst e;rw [ht] at h2;obtain rfl:=Option.some.inj h2;exact .inr (by rw [h3.nameQ hx hb])
  ·exact .inl ⟨i,t',v',by omega,h2,h3,rfl⟩
 ·rintro (⟨i,t',v',h1,h2,h3,rfl⟩ | rfl)
  ·exact ⟨i,t',v',by omega,h2,h3,rfl⟩
  ·exact ⟨k,t,v,by omega,ht,hb,rfl⟩
theorem Wn.yes {c : Cl} {k : Nat} {p : Pd} {q : Qd} (hp : c.ps[k]? = some p) (hd : ¬ p.d = ⟨#[]⟩) : Wn c (k + 1) q ↔ Wn c k q ∨ Wc c p p.zs.length q:=by
 constructor
 ·rintro ⟨j,p',h1,h2,h3,i,t,v,h4,h5,h6⟩
  by_cases e : j = k
  ·subst e;rw [hp] at h2;obtain rfl:=Option.some.inj h2;exact .inr ⟨i,t,v,(List.getElem?_eq_some_iff.1 h4).1,h4,h5,h6⟩
  ·exact .inl ⟨j,p',by omega,h2,h3,i,t,v,h4,h5,h6⟩
 ·rintro (⟨j,p',h1,h2,h3,h4⟩ | ⟨i,t,v,_,h4,h5,h6⟩)
  ·exact ⟨j,p',by omega,h2,h3,h4⟩
  ·exact ⟨k,p,by omega,hp,hd,i,t,v,h4,h5,h6⟩
theorem Wn.no {c : Cl} {k : Nat} {p : Pd} {q : Qd} (hp : c.ps[k]? = some p) (hd : p.d = ⟨#[]⟩) : Wn c (k + 1) q ↔ Wn c k q:=by
 constructor
 ·rintro ⟨j,p',h1,h2,h3,h4⟩
  by_cases e : j = k
  ·subst e;rw [hp] at h2;obtain rfl:=Option.some.inj h2;exact absurd hd h3
  ·exact ⟨j,p',by omega,h2,h3,h4⟩
 ·rintro ⟨j,p',h1,h2,h3,h4⟩;exact ⟨j,p',by omega,h2,h3,h4⟩

theorem swan_any (d : Ad) (c : Cl) (w : World) (hr : ClRow w d c.raw) (hT : RightI c) :
  Calls Tryz.prog 54 #[.agg #[.slice d.a1 d.l1 d.c1,.slice d.a2 d.l2 d.c2,.slice d.a3 d.l3 d.c3,.slice d.a4 d.l4 d.c4,.slice d.a5 d.l5 d.c5,.int .i64 c.now]] w (WanAns c (w.heap.size + 1) w):=by
 obtain ⟨a1,l1,y1,a2,l2,y2,a3,l3,y3,a4,l4,y4,a5,l5,y5⟩:=d;dsimp only;have HR:=hidK hr
 have hl1 : c.ns.length = l1:=by simpa using (show (c.ns.map ndF).length = l1 from hr.n.1)
 have hm1 : l1 ≤ 9223372036854775807:=Nat.le_trans hr.n.2.1 hr.n.2.2.1
 have hl2 : c.ks.length = l2:=by simpa using (show (c.ks.map kdF).length = l2 from hr.k.1)
 have hm2 : l2 ≤ 9223372036854775807:=Nat.le_trans hr.k.2.1 hr.k.2.2.1
 have hl3 : c.vs.length = l3:=by simpa using (show (c.vs.map vdF).length = l3 from hr.v.1)
 have hm3 : l3 ≤ 9223372036854775807:=Nat.le_trans hr.v.2.1 hr.v.2.2.1
 have hl4 : c.xs.length = l4:=by simpa using (show (c.xs.map xdF).length = l4 from hr.x.1)
 have hm4 : l4 ≤ 9223372036854775807:=Nat.le_trans hr.x.2.1 hr.x.2.2.1
 have hl5 : c.ps.length = l5:=by simpa using (show (c.ps.map pdF).length = l5 from hr.p.1)
 have hm5 : l5 ≤ 9223372036854775807:=Nat.le_trans hr.p.2.1 hr.p.2.2.1;clear hr;have HT:=hidK hT;clear hT
 have h58 : c.ps.length ≤ 8:=by have:=HT.out.sm.p;omega
 go_enter Tryz.func54,Tryz.ntmps54
 go_wp2
 go_loopw [3,4] (fun vo vi wr => ∃ (k : Nat) (ca : Option Addr) (cl cc : Nat) (ys : List Qd),k ≤ l5 ∧ vi = .int .i64 k ∧ vo = .slice ca cl cc ∧ Hid (ROwn wr ca cl cc 2 112 (ys.map qdF) (fun j => w.heap.size + 1 ≤ j) ∧ RQ ys ∧ (∀ q,q ∈ ys ↔ Wn c k q) ∧ ys.length ≤ 3 * k) ∧ Hid (Below (w.heap.size + 1) (w.alloc (.cells #[.slice a1 l1 y1,.slice a2 l2 y2,.slice a3 l3 y3,.slice a4 l4 y4,.slice a5 l5 y5,.int .i64 c.now] 36)) wr)) (fun _ vi _ => l5 - (intOf vi).toNat)
 case atStart => exact ⟨0,_,0,0,[],by omega,rfl,rfl,⟨⟨rfl,Nat.le_refl _,by omega,.inl rfl⟩,List.Pairwise.nil,fun q => ⟨fun h => by simp at h,fun ⟨j,p,h,_⟩ => by omega⟩,by simp⟩,by first | exact Below.refl _ _ | exact (below1 _ _).mono (by simp)⟩
 case round =>
  obtain ⟨k,ca,cl,cc,ys,hk,rfl,rfl,HQ,HL⟩:=hrel;have Bk:=hidK ((HL.out.block w.heap.size (by omega)).trans (heap_alloc_new w (.cells #[.slice a1 l1 y1,.slice a2 l2 y2,.slice a3 l3 y3,.slice a4 l4 y4,.slice a5 l5 y5,.int .i64 c.now] 36)));have HB:=hidK ((below1 w (.cells #[.slice a1 l1 y1,.slice a2 l2 y2,.slice a3 l3 y3,.slice a4 l4 y4,.slice a5 l5 y5,.int .i64 c.now] 36)).trans (HL.out.mono (by omega)))
  have hLs : w.heap.size + 1 ≤ wr.heap.size:=by have h8:=HL.out.size;rw [size1] at h8;exact h8
  by_cases hlt : k < l5
  ·obtain ⟨b,o,x,rfl,hb,hx,hat⟩:=pd_at (HR.out.p.below HB.out) hlt;obtain ⟨va,vl,vc,hvr,z0,z2,z4,c0,c1,c2,c3,c4,c5⟩:=pd_cells hat;have HXx:=hidK hx;have HTx:=hidK hvr;have HZx0:=hidK z0;have HZx2:=hidK z2;have HZx4:=hidK z4;clear hat hx z0 z2 z4 hvr;have hbw:=hb;clear hb
   have hk1 : (k : Int) < l5:=by omega
   obtain ⟨W1,hW1⟩ : ∃ W1,W1 = wr:=⟨_,rfl⟩;subst hW1;have hxz : x.zs.length = vl:=HTx.out.1
   have hv3 : vl ≤ 3:=by have h9 : (x.zs.length : Int) ≤ 3:=(HT.out.2.1.2.2.2.2.2.1 k x HXx.out).2.2.2.1.1;omega
   obtain ⟨k0,k1,k2,k3,k4,k5⟩:=cs6 Bk.out;have ltk_0:=lt_of_some Bk.out
   go_wp2
   clear k0 k1 k2 k3 k4 k5 ltk_0;clear c0 c1 c2 c3 c4 c5 hbw
   go_loopw [3,6] (fun vo vi wr => ∃ (n : Nat) (ca : Option Addr) (cl cc : Nat) (ys : List Qd),n ≤ vl ∧ (x.d = ⟨#[]⟩ → n = 0) ∧ vi = .int .i64 n ∧ vo = .slice ca cl cc ∧ Hid (ROwn wr ca cl cc 2 112 (ys.map qdF) (fun j => w.heap.size + 1 ≤ j) ∧ RQ ys ∧ (∀ q,q ∈ ys ↔ Wn c k q ∨ Wc c x n q) ∧ ys.length ≤ 3 * k + n) ∧ Hid (Below (W1.heap.size + 1) (W1.alloc (.cells #[.string x.n,.int .i64 x.c,.string x.z,.slice va vl vc,.string x.d,.int .i64 x.p] 107)) wr)) (fun _ vi _ => vl - (intOf vi).toNat)
   case atStart => exact ⟨0,_,_,_,ys,by omega,fun _ => rfl,rfl,rfl,⟨HQ.out.1.below (below1 _ _),HQ.out.2.1,fun q => by rw [HQ.out.2.2.1];exact ⟨.inl,fun h => h.elim id (fun ⟨i,t,v,h,_⟩ => by omega)⟩,by have:=HQ.out.2.2.2;omega⟩,Below.refl _ _⟩
   case round =>
    clear HQ;obtain ⟨n,ca,cl,cc,ys,hn,hn0,rfl,rfl,HQ,HL2⟩:=hrel;have hbP : Below W1.heap.size W1 wr:=(below1 W1 (.cells #[.string x.n,.int .i64 x.c,.string x.z,.slice va vl vc,.string x.d,.int .i64 x.p] 107)).trans (HL2.out.mono (by omega));have Bp:=hidK ((HL2.out.block W1.heap.size (by omega)).trans (heap_alloc_new W1 (.cells #[.string x.n,.int .i64 x.c,.string x.z,.slice va vl vc,.string x.d,.int .i64 x.p] 107)));replace Bk:=upK Bk hbP;replace HB:=upB HB hbP;have HBP:=hidK hbP;have hs2:=hbP.size
    have hyl : ys.length = cl:=by have h9 : (ys.map qdF).length = cl:=HQ.out.1.1;rw [List.length_map] at h9;exact h9
    have hyb:=HQ.out.2.2.2;clear hbP
    by_cases he : x.d = ⟨#[]⟩
    ·obtain rfl:=hn0 he;have hq:=isE_y he;have HHE:=hidK he;clear he;obtain ⟨p0,p1,p2,p3,p4,p5⟩:=cs6 Bp.out;have ltp_0:=lt_of_some Bp.out
     go_wp2
     all_goals (
      refine ⟨⟨k + 1,ca,cl,cc,ys,by omega,by go_num,rfl,⟨HQ.out.1,HQ.out.2.1,fun q => ?_,by omega⟩,HL.out.trans (HBP.out.mono (by omega))⟩,by simp [intOf];omega⟩;rw [HQ.out.2.2.1,Wn.no HXx.out HHE.out]
      exact ⟨fun h => h.elim id (fun ⟨i,t,v,h,_⟩ => by omega),.inl⟩)
    have hq:=isE_no he;have HHE:=hidK he;clear he hn0
    by_cases hlt2 : n < vl
    ·have hk3 : (n : Int) < vl:=by omega
     obtain ⟨b2,o2,t,rfl,hb2,hx2,hc2,hsz2⟩:=(HTx.out.below HBP.out).at hlt2;have HXT:=hidK hx2
     obtain ⟨v,hbd⟩ : ∃ v,IsBd c t v:=by
      obtain ⟨i9,n9,_,_,_,h9⟩:=(HT.out.2.2.2.1.1 k x HXx.out).2.resolve_left HHE.out;obtain ⟨v,hv,_⟩:=h9 n t hx2;exact ⟨v,hv⟩
     obtain ⟨i9,j,x9,h91,h92,hv,h94⟩:=hbd;have hbd : IsBd c t v:=⟨i9,j,x9,h91,h92,hv,h94⟩;have HVJ:=hidK hv;have HBD:=hidK hbd;clear h91 h92 h94 hbd hx2 hsz2
     have hj3 : j < l3:=by have:=(List.getElem?_eq_some_iff.1 hv).1;omega
     obtain ⟨b3,o3,y,rfl,hb3,hy,hat⟩:=vd_at (HR.out.v.below HB.out) hj3;rw [hv] at hy;obtain rfl:=Option.some.inj hy;obtain ⟨ya,yl,yc,-,hz0,-,-,-,hc3,-,-,-,-,-,-,-⟩:=vd_cells hat;have HTC:=hidK (And.intro hb2 hc2);have HVC:=hidK (And.intro hb3 hc3);have HZ0:=hidK hz0;have HZD : Hid (x.d.size ≤ 9223372036854775807):=HZx4.out;clear hv hy hat hb2 hc2 hb3 hc3 hz0;obtain ⟨k0,k1,k2,k3,k4,k5⟩:=cs6 Bk.out;have ltk_0:=lt_of_some Bk.out;obtain ⟨p0,p1,p2,p3,p4,p5⟩:=cs6 Bp.out;have ltp_0:=lt_of_some Bp.out;go_wp2_with fail;clear k0 k1 k2 k3 k4 k5 ltk_0 p0 p1 p2 p3 p4 p5 ltp_0;rename_i K0 hK0;refine wp_region_grow_last (by kernel_rfl) rfl rfl (by kernel_rfl) ?_;refine' Grow.stepC _ rfl ?_ ?_;rotate_left 1
     ·refine Obl.plain rfl ?_;intro ac wg K hsz hW hf hK;clear hsz;have e3:=hf 3 (by decide)
      simp [slotFact,List.lookup] at e3
      clear hf;go_simp;refine hK _ _ (Below.refl _ _) ?_;with_reducible rfl
     refine' Grow.stepC _ rfl ?_ ?_;rotate_left 1
     ·refine Obl.plain rfl ?_;intro ac wg K hsz hW hf hK;clear hsz;have e1:=hf 1 (by decide)
      simp [slotFact,List.lookup] at e1
      clear hf;go_simp;refine hK _ _ (Below.refl _ _) ?_;with_reducible rfl
     refine' Grow.stepC _ rfl ?_ ?_;rotate_left 1
     ·refine Obl.plain rfl ?_;intro ac wg K hsz hW hf hK;clear hsz;have e33:=hf 33 (by decide)
      simp [slotFact,List.lookup] at e33
      clear hf;obtain ⟨k0,k1,k2,k3,k4,k5⟩:=cs6 ((hW.block _ (lt_of_some Bk.out)).trans Bk.out);go_simp;refine hK _ _ (Below.refl _ _) ?_;with_reducible rfl
     refine' Grow.stepC _ rfl ?_ ?_;rotate_left 1
     ·refine Obl.plain rfl ?_;intro ac wg K hsz hW hf hK;clear hsz;have e1:=hf 1 (by decide)
      simp [slotFact,List.lookup] at e1
      clear hf;obtain ⟨k0,k1,k2,k3,k4,k5⟩:=cs6 ((hW.block _ (lt_of_some Bk.out)).trans Bk.out);go_simp;refine hK _ _ (Below.refl _ _) ?_;with_reducible rfl
     refine' Grow.stepC _ rfl ?_ ?_;rotate_left 1
     ·refine Obl.plain rfl ?_;intro ac wg K hsz hW hf hK;clear hsz;have e5:=hf 5 (by decide)
      simp [slotFact,List.lookup] at e5
      clear hf;go_simp;refine hK _ _ (Below.refl _ _) ?_;with_reducible rfl
     refine' Grow.stepC _ rfl ?_ ?_;rotate_left 1
     ·refine Obl.plain rfl ?_;intro ac wg K hsz hW hf hK;clear hsz;have e36:=hf 36 (by decide)
      simp [slotFact,List.lookup] at e36
      clear hf;obtain ⟨p0,p1,p2,p3,p4,p5⟩:=cs6 ((hW.block _ (lt_of_some Bp.out)).trans Bp.out);go_simp;refine hK _ _ (Below.refl _ _) ?_;with_reducible rfl
     refine' Grow.stepC _ rfl ?_ ?_;rotate_left 1
     ·refine Obl.plain rfl ?_;intro ac wg K hsz hW hf hK;clear hsz;have e6:=hf 6 (by decide)
      simp [slotFact,List.lookup] at e6
      clear hf;go_simp;refine hK _ _ (Below.refl _ _) ?_;with_reducible rfl
     refine' Grow.stepC _ rfl ?_ ?_;rotate_left 1
     ·refine Obl.plain rfl ?_;intro ac wg K hsz hW hf hK;clear hsz;have e37:=hf 37 (by decide)
      simp [slotFact,List.lookup] at e37
      have e38:=hf 38 (by decide)
      simp [slotFact,List.lookup] at e38
      clear hf;go_simp;refine hK _ _ (Below.refl _ _) ?_;with_reducible rfl
     refine' Grow.stepC _ rfl ?_ ?_;rotate_left 1
     ·refine Obl.plain rfl ?_;intro ac wg K hsz hW hf hK;clear hsz;have e39:=hf 39 (by decide)
      simp [slotFact,List.lookup] at e39
      clear hf;have tc:=(cell_below hW HTC.out.1).trans HTC.out.2;go_simp;refine hK _ _ (Below.refl _ _) ?_;with_reducible rfl
     refine' Grow.stepC (.int .i64 j) rfl ?_ ?_
     ·refine Obl.plain rfl ?_;intro ac wg K hsz hW hf hK;clear hsz;have e35:=hf 35 (by decide)
      simp [slotFact,List.lookup] at e35
      have e40:=hf 40 (by decide)
      simp [slotFact,List.lookup] at e40
      clear hf;go_simp;refine (sbindQ_yes ⟨a1,l1,y1,a2,l2,y2,(some ⟨b3,o3,none⟩),l3,y3,a4,l4,y4,(some ⟨b,o,none⟩),l5,y5⟩ c t _ (HR.out.below (HB.out.trans (hW.mono HB.out.size))) HT.out HVJ.out HBD.out).mono ?_;rintro e w6 ⟨rfl,hb6⟩;exact hK _ _ hb6 rfl
     refine' Grow.stepC _ rfl ?_ ?_;rotate_left 1
     ·refine Obl.plain rfl ?_;intro ac wg K hsz hW hf hK;clear hsz;have e34:=hf 34 (by decide)
      simp [slotFact,List.lookup] at e34
      have e41:=hf 41 (by decide)
      simp [slotFact,List.lookup] at e41
      clear hf
      have hj0 : ¬ (j : Int) < 0:=by omega
      have hj2 : (j : Int) < l3:=by omega
      go_simp;refine hK _ _ (Below.refl _ _) ?_;with_reducible rfl
     refine' Grow.stepC _ rfl ?_ ?_;rotate_left 1
     ·refine Obl.plain rfl ?_;intro ac wg K hsz hW hf hK;clear hsz;have e42:=hf 42 (by decide)
      simp [slotFact,List.lookup] at e42
      clear hf;go_simp;refine hK _ _ (Below.refl _ _) ?_;with_reducible rfl
     refine' Grow.stepC _ rfl ?_ ?_;rotate_left 1
     ·refine Obl.plain rfl ?_;intro ac wg K hsz hW hf hK;clear hsz;have e43:=hf 43 (by decide)
      simp [slotFact,List.lookup] at e43
      clear hf;have vc9:=(cell_below hW HVC.out.1).trans HVC.out.2;go_simp;refine hK _ _ (Below.refl _ _) ?_;with_reducible rfl
     refine' Grow.stepC _ rfl ?_ ?_;rotate_left 1
     ·refine Obl.plain rfl ?_;intro ac wg K hsz hW hf hK;clear hsz;have e5:=hf 5 (by decide)
      simp [slotFact,List.lookup] at e5
      clear hf;go_simp;refine hK _ _ (Below.refl _ _) ?_;with_reducible rfl
     refine' Grow.stepC _ rfl ?_ ?_;rotate_left 1
     ·refine Obl.plain rfl ?_;intro ac wg K hsz hW hf hK;clear hsz;have e45:=hf 45 (by decide)
      simp [slotFact,List.lookup] at e45
      clear hf;obtain ⟨p0,p1,p2,p3,p4,p5⟩:=cs6 ((hW.block _ (lt_of_some Bp.out)).trans Bp.out);go_simp;refine hK _ _ (Below.refl _ _) ?_;with_reducible rfl
     refine' Grow.stepC _ rfl ?_ ?_;rotate_left 1
     ·refine Obl.plain rfl ?_;intro ac wg K hsz hW hf hK;clear hsz;have e44:=hf 44 (by decide)
      simp [slotFact,List.lookup] at e44
      have e46:=hf 46 (by decide)
      simp [slotFact,List.lookup] at e46
      clear hf;go_simp;refine hK _ _ (Below.refl _ _) ?_;with_reducible rfl
     refine Grow.step (PqF ⟨v.n,x.d⟩ ys (w.heap.size + 1)) rfl (PqF.mono) ?_ ?_
     ·refine Obl.plain rfl ?_;intro ac wg K hsz hW hf hK;clear hsz;have e32:=hf 32 (by decide)
      simp [slotFact,List.lookup] at e32
      have e47:=hf 47 (by decide)
      simp [slotFact,List.lookup] at e47
      clear hf;go_simp;refine (sputQ_any ca cl cc ys ⟨v.n,x.d⟩ (w.heap.size + 1) _ (HQ.out.1.below hW) (by have:=hW.size;omega) (by omega) HZ0.out HZD.out).mono ?_;rintro e w6 ⟨sa,sl,sc,zs2,rfl,ho2,hp2,hb6⟩;exact hK _ _ hb6 ⟨sa,sl,sc,zs2,rfl,ho2,hp2⟩
     refine Grow.done ?_;intro q w5 hW hf;simp only [List.forall_mem_cons] at hf;obtain ⟨⟨sa,sl,sc,zs2,h48,ho2,hp2⟩,-⟩:=hf;have HP2:=hidK hp2;have HO2:=hidK ho2;have HW2:=hidK hW;clear hp2 ho2;intro K hK;rw [if_pos (by rfl)];simp only [putsAll,List.foldr,Act.put,List.setIfInBounds_toArray,List.set_cons_zero,List.set_cons_succ,h48];simp only [List.getLast];go_simp;refine hK _ _ ?_;refine hK0 _ _ ?_;clear hK hK0 K K0
     go_wp2
     refine ⟨⟨n + 1,sa,sl,sc,zs2,by omega,fun e => absurd e HHE.out,by go_num,rfl,⟨HO2.out,HP2.out.ris HQ.out.2.1,fun q => ?_,by have h9:=HP2.out.len;omega⟩,HL2.out.trans (HW2.out.mono (by have h8:=HL2.out.size;rw [size1] at h8;exact h8))⟩,by simp [intOf];omega⟩;rw [HP2.out.mem,HQ.out.2.2.1,Wc.step HT.out.2.1.2.2.2.1.2.2 HXT.out HBD.out,or_assoc]
    have hk3 : ¬ (n : Int) < vl:=by omega
    have hnv : n = vl:=by omega
    obtain ⟨p0,p1,p2,p3,p4,p5⟩:=cs6 Bp.out;have ltp_0:=lt_of_some Bp.out
    go_wp2
    refine ⟨⟨k + 1,ca,cl,cc,ys,by omega,by go_num,rfl,⟨HQ.out.1,HQ.out.2.1,fun q => ?_,by omega⟩,HL.out.trans (HBP.out.mono (by omega))⟩,by simp [intOf];omega⟩;rw [HQ.out.2.2.1,Wn.yes HXx.out HHE.out,hxz,hnv]
  have hk1 : ¬ (k : Int) < l5:=by omega
  have hkl : k = l5:=by omega
  obtain ⟨k0,k1,k2,k3,k4,k5⟩:=cs6 Bk.out;have ltk_0:=lt_of_some Bk.out
  go_wp2
  go_ret;exact ⟨_,_,_,ys,rfl,HQ.out.1,HQ.out.2.1,by rw [hl5,← hkl];exact HQ.out.2.2.1,by have:=HQ.out.2.2.2;omega,HB.out⟩

def RT (zs : List ByteArray) : Prop:=zs.Pairwise fun a b => Op.bytesLess a.toList b.toList = true
def Put (t : ByteArray) (zs zs' : List ByteArray) : Prop:=(t ∈ zs ∧ zs' = zs) ∨ ∃ k,k ≤ zs.length ∧ zs' = zs.take k ++ [t] ++ zs.drop k ∧ (∀ (j : Nat) y,j < k → zs[j]? = some y → Op.bytesLess y.toList t.toList = true) ∧ ∀ y,zs[k]? = some y → Op.bytesLess t.toList y.toList = true
theorem Put.len {t : ByteArray} {zs zs' : List ByteArray} (h : Put t zs zs') : zs'.length ≤ zs.length + 1:=by
 rcases h with ⟨_,rfl⟩ | ⟨k,hk,rfl,_,_⟩
 ·omega
 ·simp only [List.length_append,List.length_take,List.length_drop,List.length_singleton]
  omega
theorem RT.ext : ∀ {xs ys : List ByteArray},RT xs → RT ys → (∀ s,s ∈ xs ↔ s ∈ ys) → xs = ys
 | [],[],_,_,_ => rfl
 | [],b :: ys,_,_,h => by have:=(h b).2 (List.mem_cons_self ..);cases this
 | a :: xs,[],_,_,h => by have:=(h a).1 (List.mem_cons_self ..);cases this
 | a :: xs,b :: ys,hx,hy,h => by
  obtain ⟨x1,x2⟩:=List.pairwise_cons.1 hx;obtain ⟨y1,y2⟩:=List.pairwise_cons.1 hy
  have hab : a = b:=by
   rcases List.mem_cons.1 ((h a).1 (List.mem_cons_self ..)) with e | ha
   ·exact e
   ·rcases List.mem_cons.1 ((h b).2 (List.mem_cons_self ..)) with e | hb
    ·exact e.symm
    ·have h9:=less_trans _ _ _ (y1 a ha) (x1 b hb);rw [less_irr] at h9
     cases h9
  subst hab
  have ne : ∀ {l : List ByteArray},(∀ s ∈ l,Op.bytesLess a.toList s.toList = true) → ∀ s ∈ l,¬ s = a:=fun hl s hs e => by
   have h9:=hl s hs;rw [e,less_irr] at h9
   cases h9
  rw [RT.ext x2 y2 (fun s => ⟨fun hs => (List.mem_cons.1 ((h s).1 (List.mem_cons_of_mem _ hs))).resolve_left (ne x1 s hs),fun hs => (List.mem_cons.1 ((h s).2 (List.mem_cons_of_mem _ hs))).resolve_left (ne y1 s hs)⟩)]

theorem shas_is (a : Option Addr) (len cap : Nat) (zs : List ByteArray) (t : ByteArray) (w : World) (hr : TxRow w a len cap zs) (r : Bool) (h : r = true ↔ InL zs t) :
  Calls Tryz.prog 55 #[.slice a len cap,.string t] w fun e w' => e = .returned (.bool r) ∧ Below w.heap.size w w':=by
 refine (shas_any a len cap zs t w hr).mono ?_;rintro e w' ⟨r',rfl,h',hb⟩
 have e : r' = r:=by
  cases r <;> cases r'
  ·rfl
  ·exact (h.2 (h'.1 rfl)).symm
  ·exact h'.2 (h.1 rfl)
  ·rfl
 rw [e];exact ⟨rfl,hb⟩
def mwB (c : Cl) (t : ByteArray) (q : Qd) : Bool:=(q.d.toList == t.toList) && c.vs.any fun v => (v.n.toList == q.n.toList) && inB v.zs t
def mwL (c : Cl) (t : ByteArray) (qs : List Qd) : List ByteArray:=(qs.filter (mwB c t)).map Qd.n
theorem mw_yes {c : Cl} {t : ByteArray} {xs : List Qd} {k : Nat} {x : Qd} (h : xs[k]? = some x) (hv : mwB c t x = true) : mwL c t (xs.take (k + 1)) = mwL c t (xs.take k) ++ [x.n]:=by
 unfold mwL;rw [List.take_add_one,h,List.filter_append,List.map_append]
 simp [hv]
theorem mw_no {c : Cl} {t : ByteArray} {xs : List Qd} {k : Nat} {x : Qd} (h : xs[k]? = some x) (hv : mwB c t x = false) : mwL c t (xs.take (k + 1)) = mwL c t (xs.take k):=by
 unfold mwL;rw [List.take_add_one,h,List.filter_append,List.map_append]
 simp [hv]
theorem mw_size {c : Cl} {t : ByteArray} {w : World} {a : Option Addr} {len cap : Nat} {xs : List Qd} (h : RRow w a len cap 2 (xs.map qdF)) (j : Nat) (z : ByteArray) (hz : (mwL c t xs)[j]? = some z) : z.size ≤ 9223372036854775807:=by
 have hm:=List.mem_of_getElem? hz;obtain ⟨x,hx,rfl⟩:=List.mem_map.1 hm;obtain ⟨i,hi⟩:=List.getElem?_of_mem ((List.mem_filter.1 hx).1)
 have hl : xs.length = len:=by simpa using h.1
 obtain ⟨b,o,y,-,-,hy,hat⟩:=qd_at h (j:=i) (by have:=(List.getElem?_eq_some_iff.1 hi).1;omega);rw [hi] at hy
 cases hy
 exact (qd_cells hat).1
theorem mw_hit {c : Cl} {t : ByteArray} {q : Qd} {i : Nat} {v : Vd} (hv : RisBy Vd.n c.vs) (hi : c.vs[i]? = some v) (hn : v.n = q.n) (hd : q.d = t) : mwB c t q = true ↔ InL v.zs t:=by
 unfold mwB;rw [tl_yes hd,Bool.true_and,List.any_eq_true]
 constructor
 ·rintro ⟨v',hm,he⟩;obtain ⟨i',hi'⟩:=List.getElem?_of_mem hm;rw [Bool.and_eq_true] at he;obtain ⟨_,rfl⟩:=hv.inj hi' hi ((tl_inj he.1).trans hn.symm);exact inB_iff.1 he.2
 ·intro h;exact ⟨v,List.mem_of_getElem? hi,by rw [Bool.and_eq_true];exact ⟨tl_yes hn,inB_iff.2 h⟩⟩
theorem mw_off {c : Cl} {t : ByteArray} {q : Qd} (hd : ¬ q.d = t) : mwB c t q = false:=by unfold mwB;rw [tl_no hd];rfl
theorem RisBy.rtM {α : Type} {nm : α → ByteArray} {xs : List α} (h : RisBy nm xs) : RT (xs.map nm):=by
 unfold RT;rw [List.pairwise_iff_getElem];intro i j hi hj hij;rw [List.getElem_map,List.getElem_map];rw [List.length_map] at hi hj;exact h.lt hij (List.getElem?_eq_getElem hi) (List.getElem?_eq_getElem hj)
theorem mntL.rt {c : Cl} {t : ByteArray} (h : RisBy Vd.n c.vs) : RT (mntL c t c.vs):=List.Pairwise.sublist (List.filter_sublist.map _) h.rtM
theorem mwL.rt {c : Cl} {t : ByteArray} {qs : List Qd} (h : RQ qs) : RT (mwL c t qs):=by
 unfold mwL RT;rw [List.pairwise_map];refine List.Pairwise.imp_of_mem ?_ (List.Pairwise.filter _ h);intro a b ha hb hab;have e1:=(List.mem_filter.1 ha).2;have e2:=(List.mem_filter.1 hb).2;unfold mwB at e1 e2;rw [Bool.and_eq_true] at e1 e2;unfold lessQ at hab;rw [Bool.or_eq_true,Bool.and_eq_true] at hab
 rcases hab with h1 | ⟨_,h1⟩
 ·exact h1
 ·rw [tl_inj e1.1,tl_inj e2.1,less_irr] at h1
  cases h1
theorem mnt_same {c : Cl} {t : ByteArray} {ws : List Qd} (hT : RightI c) (ht : ¬ t = ⟨#[]⟩) (hr : RQ ws) (hm : ∀ q,q ∈ ws ↔ Wn c c.ps.length q) : mwL c t ws = mntL c t c.vs:=by
 have hv:=hT.2.1.2.2.1.2.2;have hx:=hT.2.1.2.2.2.1.2.2;refine (mwL.rt hr).ext (mntL.rt hv) (fun s => ?_);unfold mwL mntL;rw [List.mem_map,List.mem_map]
 constructor
 ·rintro ⟨q,hq,rfl⟩;obtain ⟨hq1,hq2⟩:=List.mem_filter.1 hq;obtain ⟨j,p,_,hp,_,k,cl,v,hk,hb,rfl⟩:=(hm q).1 hq1
  have hpd : p.d = t:=by unfold mwB at hq2;rw [Bool.and_eq_true] at hq2;exact tl_inj hq2.1
  obtain ⟨i,jv,x,h1,h2,h3,h4⟩:=hb;have hon:=(mw_hit (q:=⟨v.n,p.d⟩) hv h3 rfl hpd).1 hq2
  have hne : ¬ x.v = ⟨#[]⟩:=by rw [← h4];exact NameOk.ne (hT.2.1.2.2.1.2.1 jv v h3).1
  obtain ⟨i',j',x',v',k1,k2,k3,k4,k5,k6,_⟩:=(hT.2.2.1.2 i x h1).2.resolve_left hne;obtain ⟨_,rfl⟩:=hv.inj k3 h3 (k4.trans h4.symm);refine ⟨v',List.mem_filter.2 ⟨List.mem_of_getElem? h3,?_⟩,rfl⟩;unfold mntB;rw [Bool.and_eq_true];refine ⟨inB_iff.2 hon,wantB_iff.2 ⟨j,p,hp,hpd,k,?_⟩⟩;rw [hk,k6,h2]
 ·rintro ⟨v,h1,rfl⟩;obtain ⟨h2,h3⟩:=List.mem_filter.1 h1;obtain ⟨jv,hj⟩:=List.getElem?_of_mem h2;unfold mntB at h3;rw [Bool.and_eq_true] at h3;obtain ⟨j,p,hp,hd,k,hk⟩:=wantB_iff.1 h3.2;have hz:=(hT.2.1.2.2.2.2.2.1 j p hp).2.2.2.1.2;have hne : ¬ v.m = ⟨#[]⟩:=NameOk.ne (hz k v.m hk).1;obtain ⟨i',j',x',v',k1,k2,k3,k4,k5,k6,_⟩:=(hT.2.2.1.1 jv v hj).2.resolve_left hne;refine ⟨⟨v.n,p.d⟩,List.mem_filter.2 ⟨(hm _).2 ⟨j,p,(List.getElem?_eq_some_iff.1 hp).1,hp,by rw [hd];exact ht,k,v.m,v,hk,⟨i',jv,x',k1,k2,hj,k5.symm⟩,rfl⟩,?_⟩,rfl⟩;exact (mw_hit (q:=⟨v.n,p.d⟩) hv hj rfl hd).2 (inB_iff.1 h3.1)
theorem wn_vol {c : Cl} {k : Nat} {q : Qd} (h : Wn c k q) : ∃ (i : Nat) (v : Vd),c.vs[i]? = some v ∧ v.n = q.n:=by
 obtain ⟨j,p,_,_,_,i,t,v,_,⟨i2,j2,x,_,_,h3,_⟩,rfl⟩:=h;exact ⟨j2,v,h3,rfl⟩

theorem smnt_any (d : Ad) (c : Cl) (n : Nd) (na : Option Addr) (nl nc : Nat) (w : World) (hr : ClRow w d c.raw) (hT : RightI c) (ht : ¬ n.n = ⟨#[]⟩) :
  Calls Tryz.prog 23 #[.agg #[.slice d.a1 d.l1 d.c1,.slice d.a2 d.l2 d.c2,.slice d.a3 d.l3 d.c3,.slice d.a4 d.l4 d.c4,.slice d.a5 d.l5 d.c5,.int .i64 c.now],.agg #[.string n.n,.string n.z,.int .i64 n.c,.int .i64 n.s,.int .i64 n.u,.bool n.d,.slice na nl nc]] w fun e w' => ∃ a l q,e = .returned (.slice a l q) ∧ TOwn w' a l q (mntL c n.n c.vs) (fun k => w.heap.size ≤ k) ∧ Below w.heap.size w w':=by
 obtain ⟨a1,l1,y1,a2,l2,y2,a3,l3,y3,a4,l4,y4,a5,l5,y5⟩:=d;dsimp only;have HR:=hidK hr
 have hl1 : c.ns.length = l1:=by simpa using (show (c.ns.map ndF).length = l1 from hr.n.1)
 have hm1 : l1 ≤ 9223372036854775807:=Nat.le_trans hr.n.2.1 hr.n.2.2.1
 have hl2 : c.ks.length = l2:=by simpa using (show (c.ks.map kdF).length = l2 from hr.k.1)
 have hm2 : l2 ≤ 9223372036854775807:=Nat.le_trans hr.k.2.1 hr.k.2.2.1
 have hl3 : c.vs.length = l3:=by simpa using (show (c.vs.map vdF).length = l3 from hr.v.1)
 have hm3 : l3 ≤ 9223372036854775807:=Nat.le_trans hr.v.2.1 hr.v.2.2.1
 have hl4 : c.xs.length = l4:=by simpa using (show (c.xs.map xdF).length = l4 from hr.x.1)
 have hm4 : l4 ≤ 9223372036854775807:=Nat.le_trans hr.x.2.1 hr.x.2.2.1
 have hl5 : c.ps.length = l5:=by simpa using (show (c.ps.map pdF).length = l5 from hr.p.1)
 have hm5 : l5 ≤ 9223372036854775807:=Nat.le_trans hr.p.2.1 hr.p.2.2.1;clear hr;have HT:=hidK hT;have HNE:=hidK ht;have HB:=hidK (Below.refl w.heap.size w);obtain ⟨i0,hi,hz0,hz1,hz2⟩:=info_parts infoStr;have HI0:=hidK (And.intro hi (And.intro hz0 (And.intro hz1 hz2)));clear hi hz0 hz1 hz2 hT ht
 go_enter Tryz.func23,Tryz.ntmps23
 go_wp2_with fail;refine (swan_any ⟨a1,l1,y1,a2,l2,y2,a3,l3,y3,a4,l4,y4,a5,l5,y5⟩ c _ (HR.out.below (HB.out.trans ((below2 _ _ _).mono HB.out.size))) HT.out).mono ?_;rintro e w1 ⟨wa,wl,wc,ws,rfl,ho,hrq,hmem,hle,hb⟩;obtain ⟨HA0,HA1,hbx⟩:=slots2 hb;have Bk:=hidK HA0;have Bn:=hidK HA1;replace HB:=upB HB hbx;clear hb hbx HA0 HA1;have HER:=hidK ho.row
 have hwl : ws.length = wl:=by simpa using ho.row.1
 have HES:=hidK (And.intro hrq hmem)
 have hw24 : wl ≤ 24:=by omega
 have hn1 : w.heap.size + 1 < w1.heap.size:=lt_of_some Bn.out;clear ho hrq hmem
 go_wp2
 have BeV:=hidK (heap_alloc_new w1 (.cells #[] 9));have HB1:=HB;have Bk1:=Bk;have Bn1:=Bn;clear HB Bk Bn
 go_loopw [6,7] (fun vo vi wr => ∃ k m9 : Nat,k ≤ wl ∧ m9 ≤ k ∧ vi = .int .i64 k ∧ Hid (wr.ownsRow (w1.heap.size) 9 1 vo m9 ((mwL c n.n (ws.take k)).map Value.string)) ∧ Hid (Below w1.heap.size w1 wr)) (fun _ vi _ => wl - (intOf vi).toNat)
 case atStart => exact ⟨0,0,by omega,by omega,rfl,⟨rfl,.inr ⟨w1.heap.size,0,#[],rfl,Nat.le_refl _,BeV.out,Nat.le_refl _,by unfold maxLen;omega,rfl,rfl⟩⟩,below1 _ _⟩
 case round =>
  obtain ⟨k,m9,hk,hm9,rfl,HO,HL⟩:=hrel;have hLs:=HL.out.size;have Bk:=upK Bk1 HL.out;have Bn:=upK Bn1 HL.out;have HB:=hidK (HB1.out.trans (HL.out.mono HB1.out.size));clear BeV
  by_cases hlt : k < wl
  ·have hk1 : (k : Int) < wl:=by omega
   have hk0 : ¬ (k : Int) < 0:=by omega
   obtain ⟨b,o,y,rfl,hbl,hy,hat⟩:=qd_at (HER.out.below HL.out) hlt;obtain ⟨-,-,hc0,hc1⟩:=qd_cells hat;have HY0:=hidK hy;obtain ⟨i,v,hv,hvn⟩:=wn_vol ((HES.out.2 y).1 (List.mem_of_getElem? hy));have HV:=hidK (And.intro hv hvn)
   have hi3 : i < l3:=by have:=(List.getElem?_eq_some_iff.1 hv).1;omega
   have hii : (i : Int) < l3:=by omega
   have hi0 : ¬ (i : Int) < 0:=by omega
   obtain ⟨b3,o3,v',rfl,hb3,hx3,hat3⟩:=vd_at (HR.out.v.below HB.out) hi3;rw [hv] at hx3;obtain rfl:=Option.some.inj hx3;obtain ⟨va,vl,vc,hvr,-,-,-,-,-,-,-,-,-,-,-,hc7⟩:=vd_cells hat3;have HVR:=hidK hvr;clear hat hy hv hvn hat3 hx3 hvr
   by_cases he : y.d = n.n
   rotate_left
   ·have hq:=tl_no he;have hon : mwB c n.n y = false:=mw_off he;have HON:=hidK hon;clear hon;obtain ⟨k0,k1,k2,k3,k4,k5⟩:=cs6 Bk.out;have ltk_40:=lt_of_some Bk.out;obtain ⟨n0,n1,n2,n3,n4,n5,n6⟩:=cs7 Bn.out;have ltn_40:=lt_of_some Bn.out;go_wp2_with fail;clear k0 k1 k2 k3 k4 k5 ltk_40 n0 n1 n2 n3 n4 n5 n6 ltn_40;have Gk:=Bk;have Gn:=Bn;have HW:=HB;obtain ⟨k0,k1,k2,k3,k4,k5⟩:=sl6 Gk;have n0:=fun q : Wd wr => q.slot (o:=0) Gn.out rfl;have yd:=fun q : Wd wr => (q.cell hbl).trans hc1;have hne0:=Wd.ne wr;go_wp2_with fail;refine wp_region_wide (by kernel_rfl) (by kernel_rfl) ?_
    repeat (go_big_quiet_step (first | fail))
    refine wpQuiet_nil ?_;rintro _ ⟨q1,rfl⟩;have HB41:=upB HW q1.b;have Ck:=upK Gk q1.b;have Cn:=upK Gn q1.b;clear hne0 HW HB k0 k1 k2 k3 k4 k5 n0 yd Gk Gn Bk Bn hbl hc0 hc1 hb3 hc7 hq;have HB:=HB41;clear HB41;have Bk:=Ck;clear Ck;have Bn:=Cn;clear Cn;have HO3:=hidK (owns_below HO.out q1.b);rw [← mw_no HY0.out HON.out] at HO3
    go_wp2
    exact ⟨⟨k + 1,m9,by omega,by omega,by go_num,HO3,HL.out.trans (q1.b.mono hLs)⟩,by simp [intOf];omega⟩
   have hq:=tl_yes he;have HIF:=hidK (mw_hit (q:=y) HT.out.2.1.2.2.1.2.2 HV.out.1 HV.out.2 he);clear he
   by_cases hin : InL v.zs n.n
   rotate_left
   ·have HIN:=hidK hin;clear hin
    have hon : mwB c n.n y = false:=by cases h : mwB c n.n y;rfl;exact absurd (HIF.out.1 h) HIN.out
    have HON:=hidK hon;clear hon;obtain ⟨k0,k1,k2,k3,k4,k5⟩:=cs6 Bk.out;have ltk_40:=lt_of_some Bk.out;obtain ⟨n0,n1,n2,n3,n4,n5,n6⟩:=cs7 Bn.out;have ltn_40:=lt_of_some Bn.out;go_wp2_with fail;clear k0 k1 k2 k3 k4 k5 ltk_40 n0 n1 n2 n3 n4 n5 n6 ltn_40;have Gk:=Bk;have Gn:=Bn;have HW:=HB;obtain ⟨k0,k1,k2,k3,k4,k5⟩:=sl6 Gk;have n0:=fun q : Wd wr => q.slot (o:=0) Gn.out rfl;have yd:=fun q : Wd wr => (q.cell hbl).trans hc1;have von:=fun q : Wd wr => (q.cell hb3).trans hc7;have hne0:=Wd.ne wr;have HC0:=hidK (fun q : Wd wr => sxvd_hit ⟨a1,l1,y1,a2,l2,y2,(some ⟨b3,o3,none⟩),l3,y3,a4,l4,y4,a5,l5,y5⟩ c.now c.vs y.n q.w (HR.out.v.below (HW.out.trans (q.b.mono HW.out.size))) HT.out.2.1.2.2.1.2.2 HV.out.1 HV.out.2);have HC1:=hidK (fun q : Wd wr => shas_is va vl vc v.zs n.n q.w (HVR.out.below q.b) false (⟨fun h => (by cases h),fun h => absurd h HIN.out⟩));go_wp2_with fail;refine wp_region_wide (by kernel_rfl) (by kernel_rfl) ?_
    repeat (go_big_quiet_step (first | (go_at_call 56;exact Calls.wide (HC0.out _)) | (go_at_call 55;exact Calls.wide (HC1.out _)) | fail))
    refine wpQuiet_nil ?_;rintro _ ⟨q1,rfl⟩;have HB41:=upB HW q1.b;have Ck:=upK Gk q1.b;have Cn:=upK Gn q1.b;clear hne0 HW HB HC0 HC1 k0 k1 k2 k3 k4 k5 n0 yd von Gk Gn Bk Bn hbl hc0 hc1 hb3 hc7 hq;have HB:=HB41;clear HB41;have Bk:=Ck;clear Ck;have Bn:=Cn;clear Cn;have HO3:=hidK (owns_below HO.out q1.b);rw [← mw_no HY0.out HON.out] at HO3
    go_wp2
    exact ⟨⟨k + 1,m9,by omega,by omega,by go_num,HO3,HL.out.trans (q1.b.mono hLs)⟩,by simp [intOf];omega⟩
   have HON:=hidK (HIF.out.2 hin);have HIN:=hidK hin;clear hin;obtain ⟨k0,k1,k2,k3,k4,k5⟩:=cs6 Bk.out;have ltk_40:=lt_of_some Bk.out;obtain ⟨n0,n1,n2,n3,n4,n5,n6⟩:=cs7 Bn.out;have ltn_40:=lt_of_some Bn.out;go_wp2_with fail;clear k0 k1 k2 k3 k4 k5 ltk_40 n0 n1 n2 n3 n4 n5 n6 ltn_40;have Gk:=Bk;have Gn:=Bn;have HW:=HB;obtain ⟨k0,k1,k2,k3,k4,k5⟩:=sl6 Gk;have n0:=fun q : Wd wr => q.slot (o:=0) Gn.out rfl;have yd:=fun q : Wd wr => (q.cell hbl).trans hc1;have von:=fun q : Wd wr => (q.cell hb3).trans hc7;have hne0:=Wd.ne wr;have HC0:=hidK (fun q : Wd wr => sxvd_hit ⟨a1,l1,y1,a2,l2,y2,(some ⟨b3,o3,none⟩),l3,y3,a4,l4,y4,a5,l5,y5⟩ c.now c.vs y.n q.w (HR.out.v.below (HW.out.trans (q.b.mono HW.out.size))) HT.out.2.1.2.2.1.2.2 HV.out.1 HV.out.2);have HC1:=hidK (fun q : Wd wr => shas_is va vl vc v.zs n.n q.w (HVR.out.below q.b) true (⟨fun _ => HIN.out,fun _ => rfl⟩));go_wp2_with fail;refine wp_region_wide (by kernel_rfl) (by kernel_rfl) ?_
   repeat (go_big_quiet_step (first | (go_at_call 56;exact Calls.wide (HC0.out _)) | (go_at_call 55;exact Calls.wide (HC1.out _)) | fail))
   refine wpQuiet_nil ?_;rintro _ ⟨q1,rfl⟩;have HB41:=upB HW q1.b;have Ck:=upK Gk q1.b;have Cn:=upK Gn q1.b;clear hne0 HW HB HC0 HC1 k0 k1 k2 k3 k4 k5 n0 yd von Gk Gn Bk Bn hbl hc0 hc1 hb3 hc7 hq;have HB:=HB41;clear HB41;have Bk:=Ck;clear Ck;have Bn:=Cn;clear Cn;have HO1:=hidK (owns_below HO.out q1.b);have hqs:=q1.b.size
   go_wp2_with (first | (at_builtin;refine wpList_append_own _ rfl _ _ 54 rfl (w1.heap.size) 9 i0 (.string ⟨#[]⟩) 1 16 Tryz.underlying54 HI0.out.1 HI0.out.2.1 HI0.out.2.2.1 HI0.out.2.2.2 rfl (by decide) _ _ _ rfl (HO1.out.alloc _) ⟨q1.w.heap.size,0,none⟩ 1 1 [.string y.n] rfl rfl ?c1 ?c2 ?c3 ?c4 ?c5 ?_))
   case c1 =>
    intro j u hu
    cases j with
    | zero =>
     simp only [List.getElem?_cons_zero,Option.some.injEq] at hu;subst hu;rw [Addr.add_lit];exact cellK (heap_alloc_new _ _) 0
    | succ j => simp at hu
   case c2 => intro u hu;rw [List.mem_singleton.1 hu];rfl
   case c3 => unfold maxLen;omega
   case c4 => omega
   case c5 => simp;omega
   rintro v' w4 hown3 hgrow -
   have HO3 : Hid (w4.ownsRow (w1.heap.size) 9 1 v' (m9 + 1) ((mwL c n.n (ws.take (k + 1))).map Value.string)):=by
    show World.ownsRow _ _ _ _ _ _ _
    rw [mw_yes HY0.out HON.out,List.map_append];exact hown3
   have HL3:=hidK (((HL.out.trans (q1.b.mono hLs)).trans ((below1 q1.w _).mono (Nat.le_trans hLs hqs))).grown hgrow (by simp;omega) (fun g hg => by have:=(HO1.out.lt g hg).1;omega));clear hown3 hgrow
   go_wp2
   exact ⟨⟨k + 1,m9 + 1,by omega,by omega,by go_num,HO3,HL3⟩,by simp [intOf];omega⟩
  have hk1 : ¬ (k : Int) < wl:=by omega
  have HO3:=HO;rw [List.take_of_length_le (by omega)] at HO3;obtain ⟨a',p',rfl,hT⟩:=TOwn.of_row HO3.out (mw_size HER.out);rw [mnt_same HT.out HNE.out HES.out.1 HES.out.2] at hT;have HTO:=hidK hT;clear HO3 hT HO
  go_wp2
  go_ret;exact ⟨_,_,_,rfl,HTO.out.into (fun k _ s => by have s1 : w1.heap.size ≤ k:=s;show w.heap.size ≤ k;omega),HB.out⟩

theorem sall_is (d : Ad) (c : Cl) (p : Pd) (pa : Option Addr) (pl pc : Nat) (j1 : Nat) (n : Nd) (w : World) (hr : ClRow w d c.raw) (hn : RisBy Nd.n c.ns) (hx : RisBy Xd.n c.xs) (hv : RisBy Vd.n c.vs) (hne : ∀ (j : Nat) v,c.vs[j]? = some v → ¬ v.n = ⟨#[]⟩) (hp : TxRow w pa pl pc p.zs) (hj1 : c.ns[j1]? = some n) (hnn : n.n = p.d) (hbd : ∀ (j : Nat) t,p.zs[j]? = some t → ∃ v,IsBd c t v) (r : Bool) (h : r = true ↔ AllS c p n) :
  Calls Tryz.prog 53 #[.agg #[.slice d.a1 d.l1 d.c1,.slice d.a2 d.l2 d.c2,.slice d.a3 d.l3 d.c3,.slice d.a4 d.l4 d.c4,.slice d.a5 d.l5 d.c5,.int .i64 c.now],.agg #[.string p.n,.int .i64 p.c,.string p.z,.slice pa pl pc,.string p.d,.int .i64 p.p]] w fun e w' => e = .returned (.bool r) ∧ Below w.heap.size w w':=by
 refine (sall_any d c p pa pl pc j1 n w hr hn hx hv hne hp hj1 hnn hbd).mono ?_;rintro e w' ⟨r',rfl,h',hb⟩
 have e : r' = r:=by
  cases r <;> cases r'
  ·rfl
  ·exact (h.2 (h'.1 rfl)).symm
  ·exact h'.2 (h.1 rfl)
  ·rfl
 rw [e];exact ⟨rfl,hb⟩
def PhAnsT (a : Option Addr) (l cp : Nat) (t : ByteArray) (f : Pd → Int) (ps : List Pd) (S : Nat → Prop) (w : World) (e : Ending) (w' : World) : Prop:=(∃ v,e = .returned v) ∧ ROwn w' a l cp 6 107 ((ps.map (phF t f)).map pdF) S ∧ KeptS (fun k => 0 < l ∧ a = some ⟨k,0,none⟩) w w'
theorem ROwn.setP {wr wz : World} {g l cp k : Nat} {L : List Pd} {x : Pd} {S : Nat → Prop} (hO : ROwn wr (some ⟨g,0,none⟩) l cp 6 107 (L.map pdF) S) (hb : Below wr.heap.size wr wz) (hx : L[k]? = some x) (v : Int) : ROwn (wz.setCell ⟨g,k * 6 + 5,none⟩ (.int .i64 v)) (some ⟨g,0,none⟩) l cp 6 107 ((L.set k ⟨x.n,x.c,x.z,x.zs,x.d,v⟩).map pdF) S:=by
 have hLk : (L.map pdF)[k]? = some (pdF x):=by rw [List.getElem?_map,hx];rfl
 obtain ⟨g',e,hS⟩:=(hO.below hb).st (KeptS.refl S wz) hLk
 cases e
 obtain ⟨⟨cur2,H2,h3,_⟩,_,_⟩:=hS.setI (i:=5) rfl v;rw [List.map_set];exact ⟨by rw [List.length_set];exact hO.1,hO.2.1,hO.2.2.1,.inr ⟨g,cur2,H2,rfl,h3⟩⟩
theorem ROwn.atP {wr : World} {g l cp k : Nat} {L : List Pd} {x : Pd} {S : Nat → Prop} (hO : ROwn wr (some ⟨g,0,none⟩) l cp 6 107 (L.map pdF) S) (hx : L[k]? = some x) : g < wr.heap.size ∧ wr.frozen? ⟨g,k * 6 + 5,none⟩ = false:=by
 have hLk : (L.map pdF)[k]? = some (pdF x):=by rw [List.getElem?_map,hx];rfl
 obtain ⟨g',e,hS⟩:=hO.st (KeptS.refl S wr) hLk
 cases e
 refine ⟨?_,hS.fro _⟩;obtain ⟨⟨cur,H,h1,_⟩,_⟩:=hS;exact lt_of_some h1.blk

theorem sphT_any (b : Nat) (a1 : Option Addr) (l1 y1 : Nat) (a2 : Option Addr) (l2 y2 : Nat) (a3 : Option Addr) (l3 y3 : Nat) (a4 : Option Addr) (l4 y4 : Nat) (a5 : Option Addr) (l5 y5 : Nat) (now : Int) (t : ByteArray) (ns : List Nd) (ks : List Kd) (vs : List Vd) (xs : List Xd) (ps : List Pd) (m : Nd) (j1 : Nat) (f : Pd → Int) (S Q : Nat → Prop) (w : World) (hb : w.heap[b]? = some (.cells #[.slice a1 l1 y1,.slice a2 l2 y2,.slice a3 l3 y3,.slice a4 l4 y4,.slice a5 l5 y5,.int .i64 now] 36 (0,0))) (ho : ROwn w a5 l5 y5 6 107 (ps.map pdF) S) (hS : ∀ g,0 < l5 → a5 = some ⟨g,0,none⟩ → ¬ g = b) (q1 : ROwn w a1 l1 y1 7 56 (ns.map ndF) Q) (q2 : ROwn w a2 l2 y2 4 115 (ks.map kdF) Q) (q3 : ROwn w a3 l3 y3 8 105 (vs.map vdF) Q) (q4 : ROwn w a4 l4 y4 5 118 (xs.map xdF) Q) (rn : RisBy Nd.n ns) (rx : RisBy Xd.n xs) (rv : RisBy Vd.n vs) (hne : ∀ (j : Nat) v,vs[j]? = some v → ¬ v.n = ⟨#[]⟩) (hm : ns[j1]? = some m) (hmn : m.n = t) (hbd : ∀ (k : Nat) p,ps[k]? = some p → p.d = t → ∀ (j : Nat) s,p.zs[j]? = some s → ∃ v,IsBd ⟨ns,ks,vs,xs,ps,now⟩ s v) (hf : ∀ (k : Nat) p,ps[k]? = some p → p.d = t → (f p = 2 ∧ AllS ⟨ns,ks,vs,xs,ps,now⟩ p m) ∨ (f p = 1 ∧ ¬ AllS ⟨ns,ks,vs,xs,ps,now⟩ p m)) :
  Calls Tryz.prog 22 #[.pointer (some ⟨b,0,none⟩),.string t,.bool true] w (PhAnsT a5 l5 y5 t f ps S w):=by
 have hpl : ps.length = l5:=by simpa using ho.1
 have hlm : l5 ≤ 9223372036854775807:=Nat.le_trans ho.2.1 ho.2.2.1;have Bc:=hidK hb;have HOW:=hidK ho
 have HO0 : Hid (ROwn w a5 l5 y5 6 107 ((mpL (phF t f) ps 0).map pdF) S):=by show ROwn _ _ _ _ _ _ _ _;rw [mpL_zero];exact ho
 have HQ:=hidK (And.intro q1 (And.intro q2 (And.intro q3 q4)));have HRI:=hidK (And.intro rn (And.intro rx (And.intro rv hne)));have HM:=hidK (And.intro hm hmn);have HBD:=hidK hbd;have HF:=hidK hf;have HSB:=hidK hS;clear hb ho q1 q2 q3 q4 rn rx rv hne hm hmn hbd hf hS
 go_enter Tryz.func22,Tryz.ntmps22
 go_wp2
 go_loopw [6] (fun vi wr => ∃ k : Nat,k ≤ l5 ∧ vi = .int .i64 k ∧ Hid (ROwn wr a5 l5 y5 6 107 ((mpL (phF t f) ps k).map pdF) S) ∧ Hid (KeptS (fun k => 0 < l5 ∧ a5 = some ⟨k,0,none⟩) w wr)) (fun vi _ => l5 - (intOf vi).toNat)
 case atStart => exact ⟨0,by omega,rfl,HO0,KeptS.refl _ _⟩
 case round =>
  obtain ⟨k,hk,rfl,HO,HK⟩:=hrel;clear HO0;have Bc2:=hidK ((HK.out.block _ (lt_of_some Bc.out) (fun h => HSB.out _ h.1 h.2 rfl)).trans Bc.out)
  by_cases hlt : k < l5
  ·obtain ⟨x,hx0⟩ : ∃ x,ps[k]? = some x:=⟨_,List.getElem?_eq_getElem (by omega)⟩;have HX0:=hidK hx0;have HXL : Hid ((mpL (phF t f) ps k)[k]? = some x):=(mpL_at (by omega)).trans hx0
   have hLk : ((mpL (phF t f) ps k).map pdF)[k]? = some (pdF x):=by rw [List.getElem?_map,HXL.out];rfl
   obtain ⟨g,hg,hS2⟩:=HO.out.st (KeptS.refl S wr) hLk;subst hg;obtain ⟨b2,o2,x2',hae,hbl,hx2,hat⟩:=pd_at HO.out.row hlt
   cases hae
   rw [HXL.out] at hx2;obtain rfl:=Option.some.inj hx2;obtain ⟨pa,pq,pc,-,-,-,-,-,-,-,-,c4,c5⟩:=pd_cells hat;have hf5:=hS2.fro (k * 6 + 5);have hneg : ¬ g = b:=HSB.out g (by omega) rfl;have hneg2 : ¬ b = g:=fun e => hneg e.symm;rw [Nat.zero_add] at c4 c5
   have hk1 : (k : Int) < l5:=by omega
   clear hat hx2 hx0 hS2 hLk;obtain ⟨k0,k1,k2,k3,k4,k5⟩:=cs6 Bc2.out;have ltc:=lt_of_some Bc2.out
   by_cases he : x.d = t
   rotate_left
   ·have hq:=tl_no he;have HHE:=hidK he;clear he
    go_wp2
    refine ⟨⟨k + 1,by omega,by go_num,?_,HK.out⟩,by simp [intOf];omega⟩
    show ROwn _ _ _ _ _ _ _ _
    rw [mpL_same HX0.out (phF_no HHE.out)];exact HO.out
   have hq:=tl_yes he;have HHE:=hidK he;clear he;go_wp2_with fail;have hP1:=ROwn.setP HO.out (Below.refl _ _) HXL.out 1;have hK1 : KeptS (fun k => 0 < l5 ∧ (some ⟨g,0,none⟩ : Option Addr) = some ⟨k,0,none⟩) w (wr.setCell ⟨g,k * 6 + 5,none⟩ (.int .i64 1)):=HK.out.set ⟨by omega,rfl⟩;have hB1 : (wr.setCell ⟨g,k * 6 + 5,none⟩ (.int .i64 1)).heap[b]? = some (.cells #[.slice a1 l1 y1,.slice a2 l2 y2,.slice a3 l3 y3,.slice a4 l4 y4,.slice (some ⟨g,0,none⟩) l5 y5,.int .i64 now] 36 (0,0)):=(Below.heap_setCell _ _ _ _ hneg2).trans Bc2.out;clear k0 k1 k2 k3 k4 k5 c4 c5 hf5 ltc;obtain ⟨W,hW0⟩ : ∃ W,W = (wr.setCell ⟨g,k * 6 + 5,none⟩ (.int .i64 1)):=⟨_,rfl⟩;rw [← hW0] at hP1 hK1 hB1 ⊢;clear hW0;have f1:=HQ.out.1.beside HOW.out hK1 (by decide);have f2:=HQ.out.2.1.beside HOW.out hK1 (by decide);have f3:=HQ.out.2.2.1.beside HOW.out hK1 (by decide);have f4:=HQ.out.2.2.2.beside HOW.out hK1 (by decide);have HCW : Hid (ClRow W ⟨a1,l1,y1,a2,l2,y2,a3,l3,y3,a4,l4,y4,some ⟨g,0,none⟩,l5,y5⟩ (⟨ns,ks,vs,xs,((mpL (phF t f) ps k).set k (⟨x.n,x.c,x.z,x.zs,x.d,1⟩ : Pd)),now⟩ : Cl).raw):=⟨f1.row,f2.row,f3.row,f4.row,hP1.row⟩;have HP1:=hidK hP1;have HK1:=hidK hK1;have Bc3:=hidK hB1
   have hLx : ((mpL (phF t f) ps k).set k (⟨x.n,x.c,x.z,x.zs,x.d,1⟩ : Pd))[k]? = some (⟨x.n,x.c,x.z,x.zs,x.d,1⟩ : Pd):=by rw [get_set (List.getElem?_eq_some_iff.1 HXL.out).1,if_pos rfl]
   have HLX:=hidK hLx;obtain ⟨b2,o2,x3,hae,hbl2,hx3,hat⟩:=pd_at hP1.row hlt
   cases hae
   rw [hLx] at hx3;obtain rfl:=Option.some.inj hx3;obtain ⟨pa,pq,pc,hpr,-,-,-,c0,c1,c2,c3,c4,c5⟩:=pd_cells hat;rw [Nat.zero_add] at c0 c1 c2 c3 c4 c5;have HPR:=hidK hpr;clear f1 f2 f3 f4 hP1 hK1 hB1 hLx hat hx3 hpr
   rcases HF.out k x HX0.out HHE.out with ⟨hf1,hf2⟩ | ⟨hf1,hf2⟩
   ·have HFX:=hidK hf1;have HFA:=hidK hf2;clear hf1 hf2;have k0:=fun q : Wd W => q.slot (o:=0) Bc3.out rfl;have k1:=fun q : Wd W => q.slot (o:=1) Bc3.out rfl;have k2:=fun q : Wd W => q.slot (o:=2) Bc3.out rfl;have k3:=fun q : Wd W => q.slot (o:=3) Bc3.out rfl;have k4:=fun q : Wd W => q.slot (o:=4) Bc3.out rfl;have k5:=fun q : Wd W => q.slot (o:=5) Bc3.out rfl;have p0 : ∀ q : Wd W,q.w.cell? ⟨g,k * 6,none⟩ = some (.string x.n):=fun q => (q.cell hbl2).trans c0;have p1 : ∀ q : Wd W,q.w.cell? ⟨g,k * 6 + 1,none⟩ = some (.int .i64 x.c):=fun q => (q.cell hbl2).trans c1;have p2 : ∀ q : Wd W,q.w.cell? ⟨g,k * 6 + 2,none⟩ = some (.string x.z):=fun q => (q.cell hbl2).trans c2;have p3 : ∀ q : Wd W,q.w.cell? ⟨g,k * 6 + 3,none⟩ = some (.slice pa pq pc):=fun q => (q.cell hbl2).trans c3;have p4 : ∀ q : Wd W,q.w.cell? ⟨g,k * 6 + 4,none⟩ = some (.string x.d):=fun q => (q.cell hbl2).trans c4;have p5 : ∀ q : Wd W,q.w.cell? ⟨g,k * 6 + 5,none⟩ = some (.int .i64 1):=fun q => (q.cell hbl2).trans c5;have HC0:=hidK (fun q : Wd W => sall_is ⟨a1,l1,y1,a2,l2,y2,a3,l3,y3,a4,l4,y4,some ⟨g,0,none⟩,l5,y5⟩ (⟨ns,ks,vs,xs,((mpL (phF t f) ps k).set k (⟨x.n,x.c,x.z,x.zs,x.d,1⟩ : Pd)),now⟩ : Cl) (⟨x.n,x.c,x.z,x.zs,x.d,1⟩ : Pd) pa pq pc j1 m q.w (HCW.out.below q.b) HRI.out.1 HRI.out.2.1 HRI.out.2.2.1 HRI.out.2.2.2 (HPR.out.below q.b) HM.out.1 (HM.out.2.trans HHE.out.symm) (HBD.out k x HX0.out HHE.out) true (⟨fun _ => HFA.out,fun _ => rfl⟩));have hne0:=Wd.ne W;clear c0 c1 c2 c3 c4 c5;refine wp_region_wide (by kernel_rfl) (by kernel_rfl) ?_
    repeat (go_big_quiet_step (first | (go_at_call 53;exact Calls.wide (HC0.out _)) | fail))
    refine wpQuiet_nil ?_;rintro _ ⟨q1,rfl⟩;clear hne0 HC0 k0 p0 k1 p1 k2 p2 k3 p3 k4 p4 k5 p5;have Bc4:=upK Bc3 q1.b;obtain ⟨k0,k1,k2,k3,k4,k5⟩:=cs6 Bc4.out;have ltc:=lt_of_some Bc4.out;obtain ⟨hgl,hfz⟩:=ROwn.atP (HP1.out.below q1.b) HLX.out
    have c5 : q1.w.cell? ⟨g,k * 6 + 5,none⟩ = some (.int .i64 1):=by
     obtain ⟨b3,o3,x3,hae,_,hx3,hat⟩:=pd_at (HP1.out.below q1.b).row hlt
     cases hae
     rw [HLX.out] at hx3;obtain rfl:=Option.some.inj hx3;obtain ⟨_,_,_,_,-,-,-,-,-,-,-,-,c5⟩:=pd_cells hat;rw [Nat.zero_add] at c5;exact c5
    go_wp2
    have hR:=ROwn.setP HP1.out q1.b HLX.out 2;rw [List.set_set] at hR
    have hR2 : ROwn (q1.w.setCell ⟨g,k * 6 + 5,none⟩ (.int .i64 2)) (some ⟨g,0,none⟩) l5 y5 6 107 ((mpL (phF t f) ps (k + 1)).map pdF) S:=by
     rw [mpL_step HX0.out,phF_yes HHE.out,HFX.out];exact hR
    have hK2 : KeptS (fun k => 0 < l5 ∧ (some ⟨g,0,none⟩ : Option Addr) = some ⟨k,0,none⟩) w (q1.w.setCell ⟨g,k * 6 + 5,none⟩ (.int .i64 2)):=(HK1.out.below q1.b).set ⟨by omega,rfl⟩;exact ⟨⟨k + 1,by omega,by go_num,hR2,hK2⟩,by simp [intOf];omega⟩
   have HFX:=hidK hf1;have HFA:=hidK hf2;clear hf1 hf2;have k0:=fun q : Wd W => q.slot (o:=0) Bc3.out rfl;have k1:=fun q : Wd W => q.slot (o:=1) Bc3.out rfl;have k2:=fun q : Wd W => q.slot (o:=2) Bc3.out rfl;have k3:=fun q : Wd W => q.slot (o:=3) Bc3.out rfl;have k4:=fun q : Wd W => q.slot (o:=4) Bc3.out rfl;have k5:=fun q : Wd W => q.slot (o:=5) Bc3.out rfl;have p0 : ∀ q : Wd W,q.w.cell? ⟨g,k * 6,none⟩ = some (.string x.n):=fun q => (q.cell hbl2).trans c0;have p1 : ∀ q : Wd W,q.w.cell? ⟨g,k * 6 + 1,none⟩ = some (.int .i64 x.c):=fun q => (q.cell hbl2).trans c1;have p2 : ∀ q : Wd W,q.w.cell? ⟨g,k * 6 + 2,none⟩ = some (.string x.z):=fun q => (q.cell hbl2).trans c2;have p3 : ∀ q : Wd W,q.w.cell? ⟨g,k * 6 + 3,none⟩ = some (.slice pa pq pc):=fun q => (q.cell hbl2).trans c3;have p4 : ∀ q : Wd W,q.w.cell? ⟨g,k * 6 + 4,none⟩ = some (.string x.d):=fun q => (q.cell hbl2).trans c4;have p5 : ∀ q : Wd W,q.w.cell? ⟨g,k * 6 + 5,none⟩ = some (.int .i64 1):=fun q => (q.cell hbl2).trans c5;have HC0:=hidK (fun q : Wd W => sall_is ⟨a1,l1,y1,a2,l2,y2,a3,l3,y3,a4,l4,y4,some ⟨g,0,none⟩,l5,y5⟩ (⟨ns,ks,vs,xs,((mpL (phF t f) ps k).set k (⟨x.n,x.c,x.z,x.zs,x.d,1⟩ : Pd)),now⟩ : Cl) (⟨x.n,x.c,x.z,x.zs,x.d,1⟩ : Pd) pa pq pc j1 m q.w (HCW.out.below q.b) HRI.out.1 HRI.out.2.1 HRI.out.2.2.1 HRI.out.2.2.2 (HPR.out.below q.b) HM.out.1 (HM.out.2.trans HHE.out.symm) (HBD.out k x HX0.out HHE.out) false (⟨fun h => (by cases h),fun h => absurd h HFA.out⟩));have hne0:=Wd.ne W;clear c0 c1 c2 c3 c4 c5;refine wp_region_wide (by kernel_rfl) (by kernel_rfl) ?_
   repeat (go_big_quiet_step (first | (go_at_call 53;exact Calls.wide (HC0.out _)) | fail))
   refine wpQuiet_nil ?_;rintro _ ⟨q1,rfl⟩;clear hne0 HC0 k0 p0 k1 p1 k2 p2 k3 p3 k4 p4 k5 p5
   go_wp2
   have hR2 : ROwn W (some ⟨g,0,none⟩) l5 y5 6 107 ((mpL (phF t f) ps (k + 1)).map pdF) S:=by
    rw [mpL_step HX0.out,phF_yes HHE.out,HFX.out];exact HP1.out
   exact ⟨⟨k + 1,by omega,by go_num,hR2.below q1.b,HK1.out.below q1.b⟩,by simp [intOf];omega⟩
  have hk1 : ¬ (k : Int) < l5:=by omega
  obtain ⟨k0,k1,k2,k3,k4,k5⟩:=cs6 Bc2.out;have ltc:=lt_of_some Bc2.out
  go_wp2
  have HO2:=HO;rw [mpL_end (by omega)] at HO2;exact bodyPost_ret (v:=.tuple #[]) (by simp [results,Tryz.results22,go_sem]) rfl ⟨⟨_,rfl⟩,HO2.out,HK.out⟩

theorem smin_any (c : Cl) (w : World) (h0 : 0 ≤ c.now) (h1 : c.now ≤ 1000000) :
  Calls Tryz.prog 21 #[.int .i64 1000000,.int .i64 (c.now + 10)] w fun e w' => e = .returned (.int .i64 (untilN c)) ∧ Below w.heap.size w w':=by
 unfold untilN
 by_cases hl : c.now + 10 < 1000000
 ·rw [if_pos hl]
  have hl2 : ¬ 1000000 < c.now + 10:=by omega
  go_enter Tryz.func21,Tryz.ntmps21
  go_wp2
  go_ret;exact ⟨rfl,Below.refl _ _⟩
 ·rw [if_neg hl]
  by_cases he : c.now + 10 = 1000000
  ·rw [he]
   go_enter Tryz.func21,Tryz.ntmps21
   go_wp2
   go_ret;exact ⟨rfl,Below.refl _ _⟩
  ·have hl2 : 1000000 < c.now + 10:=by omega
   go_enter Tryz.func21,Tryz.ntmps21
   go_wp2
   go_ret;exact ⟨rfl,Below.refl _ _⟩

theorem StJ.setE {g m : Nat} {T : TypeId} {S N : Nat → Prop} {w wr : World} {rs : List (List Fv)} {j : Nat} {r : List Fv} (h : StJ g m T S N w wr rs j r) {i : Nat} {old : Fv} (hi : r[i]? = some old) (a : Option Addr) (q : Nat) (hq : q ≤ 9223372036854775807) : StJ g m T S N w (wr.setCell ⟨g,j * m + i,none⟩ (.slice a 0 q)) rs j (r.set i (.l [])):=by
 have hget:=h.get;obtain ⟨⟨cur,H,h1,hN⟩,h2,h3⟩:=h;have hil : i < r.length:=(List.getElem?_eq_some_iff.1 hi).1;have hrm : r.length = m:=h1.len j r hget;obtain ⟨v0,hc0,-⟩:=h1.cell j r hget i _ hi;have hin : j * m + i < cur.size:=(Array.getElem?_eq_some_iff.1 hc0).1
 have back : ∀ (j' : Nat) r' (i' : Nat) zs',(rs.set j (r.set i (.l [])))[j']? = some r' → r'[i']? = some (.l zs') → zs' ≠ [] → ∃ r0,(rs.set j r)[j']? = some r0 ∧ r0[i']? = some (.l zs'):=by
  intro j' r' i' zs' hj' hi' hz
  rcases set_at h3 hil hj' hi' with ⟨_,_,e⟩ | ⟨_,q⟩
  ·cases e;exact absurd rfl hz
  ·exact q
 refine ⟨⟨cur.setIfInBounds (j * m + i) (.slice a 0 q),H,⟨block_set h1.blk _,h1.inS,set_len h3 h1.len,fun j' r' hj' i' f' hi' => ?_,fun j' r' i' zs' j2 r2 i2 zs2 hj' hi' hz' hj2 hi2 hz2 hH => ?_⟩,fun j' r' i' zs' hj' hi' hz' => ?_⟩,h2.set h1.inS,h3⟩
 ·rcases set_at h3 hil hj' hi' with ⟨rfl,rfl,rfl⟩ | ⟨hne,r0,q1,q2⟩
  ·exact ⟨_,by rw [Array.getElem?_setIfInBounds_self_of_lt hin],⟨a,0,q,rfl,rfl,Nat.zero_le _,hq,fun j x hx => by simp at hx,.inl rfl⟩⟩
  ·obtain ⟨v',k1,k2⟩:=h1.cell j' r0 q1 i' f' q2;have hil' : i' < r0.length:=(List.getElem?_eq_some_iff.1 q2).1;have hrm':=h1.len j' r0 q1;refine ⟨v',?_,k2.set_cell⟩;rw [Array.getElem?_setIfInBounds_ne (fun e2 => hne (by have:=idx_inj (by omega) (by omega) e2;exact ⟨this.1.symm,this.2.symm⟩))];exact k1
 ·obtain ⟨r0,b1,b2⟩:=back j' r' i' zs' hj' hi' hz';obtain ⟨r3,b3,b4⟩:=back j2 r2 i2 zs2 hj2 hi2 hz2;exact h1.inj j' r0 i' zs' j2 r3 i2 zs2 b1 b2 hz' b3 b4 hz2 hH
 ·obtain ⟨r0,b1,b2⟩:=back j' r' i' zs' hj' hi' hz';exact hN j' r0 i' zs' b1 b2 hz'
theorem StJ.setO {g m : Nat} {T : TypeId} {S : Nat → Prop} {w wr : World} {rs : List (List Fv)} {j B : Nat} {r : List Fv} (h : StJ g m T S (fun k => B ≤ k) w wr rs j r) {i : Nat} {old : Fv} (hi : r[i]? = some old) {a : Option Addr} {l q : Nat} {zs : List ByteArray} (ht : TOwn wr a l q zs (fun k => B ≤ k)) (hS : ∀ k,B ≤ k → k < wr.heap.size → S k) (hg : g < B) : ∃ cur H,ROwnAt (wr.setCell ⟨g,j * m + i,none⟩ (.slice a l q)) g m T (rs.set j (r.set i (.l zs))) S cur H:=by
 obtain ⟨⟨h1,h2,h3,h4,h5⟩,h6⟩:=ht
 by_cases hz : zs = []
 ·subst hz;obtain rfl : l = 0:=h1.symm;obtain ⟨⟨cur,H,h7,_⟩,_⟩:=h.setE hi a q h3;exact ⟨cur,H,h7⟩
 ·obtain ⟨gm,cur,rfl,hm,hb⟩:=h6.resolve_left hz;have hm1 : B ≤ gm:=hm;have hgl:=lt_of_some hb;obtain ⟨b,o,e,hlt,hc⟩:=h5.resolve_left hz
  cases e
  obtain ⟨⟨cur2,H,h7,_⟩,_⟩:=h.setL (b:=gm) hi zs (fun _ => hm1) ⟨_,l,q,rfl,h1,h2,h3,h4,.inr ⟨rfl,hS gm hm1 hgl,by omega,cur,hb,fun k x hx => by have h8:=hc k x hx;rw [Nat.zero_add,cellK hb] at h8;exact h8⟩⟩;exact ⟨cur2,H,h7⟩

theorem RisBy.setSame {α : Type} {nm : α → ByteArray} {xs : List α} {k : Nat} {x y : α} (h : RisBy nm xs) (hx : xs[k]? = some x) (e : nm y = nm x) : RisBy nm (xs.set k y):=by
 have hk : k < xs.length:=(List.getElem?_eq_some_iff.1 hx).1
 have key : ∀ (j : Nat) a,(xs.set k y)[j]? = some a → ∃ a',xs[j]? = some a' ∧ nm a = nm a':=fun j a ha => by
  rw [get_set hk] at ha
  split at ha
  ·rename_i e2;subst e2;obtain rfl:=Option.some.inj ha;exact ⟨x,hx,e⟩
  ·exact ⟨a,ha,rfl⟩
 intro j a b ha hb;obtain ⟨a',h1,h2⟩:=key _ a ha;obtain ⟨b',h3,h4⟩:=key _ b hb;rw [h2,h4];exact h j a' b' h1 h3

theorem sagent_any (d : Ad) (c : Cl) (t : ByteArray) (w : World) (hr : ClRow w d c.raw) :
  Calls Tryz.prog 5 #[.agg #[.slice d.a1 d.l1 d.c1,.slice d.a2 d.l2 d.c2,.slice d.a3 d.l3 d.c3,.slice d.a4 d.l4 d.c4,.slice d.a5 d.l5 d.c5,.int .i64 c.now],.string t] w (OutS (AgIs c t) w):=by
 obtain ⟨a1,l1,y1,a2,l2,y2,a3,l3,y3,a4,l4,y4,a5,l5,y5⟩:=d;dsimp only;have HR:=hidK hr
 have hl1 : c.ns.length = l1:=by simpa using (show (c.ns.map ndF).length = l1 from hr.n.1)
 have hm1 : l1 ≤ 9223372036854775807:=Nat.le_trans hr.n.2.1 hr.n.2.2.1
 have hl2 : c.ks.length = l2:=by simpa using (show (c.ks.map kdF).length = l2 from hr.k.1)
 have hm2 : l2 ≤ 9223372036854775807:=Nat.le_trans hr.k.2.1 hr.k.2.2.1
 have hl3 : c.vs.length = l3:=by simpa using (show (c.vs.map vdF).length = l3 from hr.v.1)
 have hm3 : l3 ≤ 9223372036854775807:=Nat.le_trans hr.v.2.1 hr.v.2.2.1
 have hl4 : c.xs.length = l4:=by simpa using (show (c.xs.map xdF).length = l4 from hr.x.1)
 have hm4 : l4 ≤ 9223372036854775807:=Nat.le_trans hr.x.2.1 hr.x.2.2.1
 have hl5 : c.ps.length = l5:=by simpa using (show (c.ps.map pdF).length = l5 from hr.p.1)
 have hm5 : l5 ≤ 9223372036854775807:=Nat.le_trans hr.p.2.1 hr.p.2.2.1;clear hr;have HB:=hidK (Below.refl w.heap.size w)
 go_enter Tryz.func5,Tryz.ntmps5
 go_wp2_with fail;refine (sbegN_any ⟨a1,l1,y1,a2,l2,y2,a3,l3,y3,a4,l4,y4,a5,l5,y5⟩ c t _ (HR.out.below (HB.out.trans ((below2 _ _ _).mono HB.out.size)))).mono ?_;rintro e w1 ⟨hb,hf⟩;obtain ⟨HA0,HA1,hbx⟩:=slots2 hb;have Bk:=hidK HA0;have Br:=hidK HA1;replace HB:=upB HB hbx;clear hb hbx HA0 HA1
 rcases hf with ⟨i,p,hw,hpi,hp0,rfl⟩ | ⟨j,n,hn,hok,rfl⟩
 ·have HV : Hid (AgIs c t (co0 p)):=.inl ⟨i,hw,by rw [hpi]⟩
  have hp1 : (p == 0) = false:=by simpa using hp0
  clear hw hpi hp0;obtain ⟨k0,k1,k2,k3,k4,k5⟩:=cs6 Bk.out;have ltk_1:=lt_of_some Bk.out;go_wp2_with fail;refine (sill_any p _).mono ?_;rintro e w2 ⟨rfl,hb⟩;clear k0 k1 k2 k3 k4 k5 ltk_1;replace Bk:=upK Bk hb;replace Br:=upK Br hb;replace HB:=upB HB hb;clear hb;obtain ⟨r0,r1,r2,r3,r4,r5,r6,r7⟩:=cs8 Br.out;have ltr_2:=lt_of_some Br.out;have fr0:=froK Br.out 0;have fr1:=froK Br.out 1;have fr2:=froK Br.out 2;have fr3:=froK Br.out 3;have fr4:=froK Br.out 4;have fr5:=froK Br.out 5;have fr6:=froK Br.out 6;have fr7:=froK Br.out 7;have hrl : w.heap.size + 1 < w2.heap.size:=lt_of_some Br.out
  go_wp2
  exact bodyPost_ret (v:=.agg #[.slice none 0 0,.slice none 0 0,.slice none 0 0,.slice none 0 0,.slice none 0 0,.int .i64 0,.string ⟨#[]⟩,.int .i64 p]) (by simp [results,Tryz.results5,go_sem, *]) rfl ⟨ad0,co0 p,rfl,HV.out,(own0 _ (fun _ => True)).row,sb1 (sb1 (sb1 (sb1 (sb1 (sb1 (sb1 (sb1 (HB.out))))))))⟩
 have HNJ:=hidK hn;have HOK:=hidK hok;clear hn hok;have HT : Hid (RightI c):=HOK.out.2.1
 have hj1 : j < l1:=by have:=(List.getElem?_eq_some_iff.1 HNJ.out).1;omega
 have hj2 : (j : Int) < l1:=by omega
 have hj0 : ¬ (j : Int) < 0:=by omega
 obtain ⟨b,o,y,rfl,hbl,hy,hat⟩:=nd_at (HR.out.n.below HB.out) hj1;rw [HNJ.out] at hy;obtain rfl:=Option.some.inj hy;obtain ⟨ua,ul,uc,-,-,-,hd0,hd1,hd2,hd3,hd4,hd5,hd6⟩:=nd_cells hat;clear hat hy
 cases hd : n.d
 rotate_left
 ·have HV : Hid (AgIs c t (co0 10)):=.inr ⟨n,HOK.out,.inl ⟨hd,rfl⟩⟩;rw [hd] at hd5;clear hd;obtain ⟨k0,k1,k2,k3,k4,k5⟩:=cs6 Bk.out;have ltk_1:=lt_of_some Bk.out;go_wp2_with fail;refine (sill_any 10 _).mono ?_;rintro e w2 ⟨rfl,hb⟩;clear k0 k1 k2 k3 k4 k5 ltk_1;obtain ⟨HA0,hbx⟩:=slots1 hb;replace Bk:=upK Bk hbx;replace Br:=upK Br hbx;have Bn:=hidK HA0;replace HB:=upB HB hbx;clear hb hbx HA0;obtain ⟨r0,r1,r2,r3,r4,r5,r6,r7⟩:=cs8 Br.out;have ltr_2:=lt_of_some Br.out;have fr0:=froK Br.out 0;have fr1:=froK Br.out 1;have fr2:=froK Br.out 2;have fr3:=froK Br.out 3;have fr4:=froK Br.out 4;have fr5:=froK Br.out 5;have fr6:=froK Br.out 6;have fr7:=froK Br.out 7;have hrl : w.heap.size + 1 < w2.heap.size:=lt_of_some Br.out
  go_wp2
  exact bodyPost_ret (v:=.agg #[.slice none 0 0,.slice none 0 0,.slice none 0 0,.slice none 0 0,.slice none 0 0,.int .i64 0,.string ⟨#[]⟩,.int .i64 10]) (by simp [results,Tryz.results5,go_sem, *]) rfl ⟨ad0,co0 10,rfl,HV.out,(own0 _ (fun _ => True)).row,sb1 (sb1 (sb1 (sb1 (sb1 (sb1 (sb1 (sb1 (HB.out))))))))⟩
 obtain ⟨f,hf⟩:=PhIs.ex c n;have HF:=hidK hf;have HV : Hid (AgIs c t ⟨stepC c t n f,⟨#[]⟩,0⟩):=.inr ⟨n,HOK.out,.inr ⟨hd,f,hf,rfl⟩⟩;rw [hd] at hd5;have HD:=hidK hd;clear hd hf;have HQ1 : Hid (w.heap.size + 1 < w1.heap.size):=lt_of_some Br.out;obtain ⟨hn0,hn1⟩:=HT.out.1;obtain ⟨k0,k1,k2,k3,k4,k5⟩:=cs6 Bk.out;have ltk_1:=lt_of_some Bk.out;go_wp2_with fail;refine (scopyC_any ⟨(some ⟨b,o,none⟩),l1,y1,a2,l2,y2,a3,l3,y3,a4,l4,y4,a5,l5,y5⟩ c _ (HR.out.below (HB.out.trans ((below1 _ _).mono HB.out.size))) HT.out.sm).mono ?_;rintro e w3 ⟨d',rfl,ho,hb⟩;clear hd0 hd1 hd2 hd3 hd4 hd5 hd6 hbl;have HQ2:=hidK hb.size;rw [size1] at HQ2 ho;clear k0 k1 k2 k3 k4 k5 ltk_1;obtain ⟨HA0,hbx⟩:=slots1 hb;replace Bk:=upK Bk hbx;replace Br:=upK Br hbx;have Bn:=hidK HA0;replace HB:=upB HB hbx;clear hb hbx HA0;obtain ⟨x1,m1,n1,x2,m2,n2,x3,m3,n3,x4,m4,n4,x5,m5,n5⟩:=d'
 have hm1 : m1 = l1:=by have h6 : (c.ns.map ndF).length = m1:=ho.n.1;rw [List.length_map] at h6;omega
 subst hm1;have hq1 : w.heap.size + 1 < w1.heap.size:=HQ1.out;have hq2 : w1.heap.size + 1 ≤ w3.heap.size:=HQ2.out;have inS : ∀ {a l cp m T rs},ROwn w3 a l cp m T rs (fun k => w1.heap.size + 1 ≤ k) → ROwn w3 a l cp m T rs (fun k => w1.heap.size ≤ k ∧ ¬ k = w3.heap.size):=fun h => h.into (fun k hk s => ⟨by have s1 : w1.heap.size + 1 ≤ k:=s;omega,by omega⟩);obtain ⟨g,hga,hS⟩:=(inS ho.n).st (KeptS.refl _ w3) (i:=j) (r:=ndF n) (show (c.ns.map ndF)[j]? = some (ndF n) by rw [List.getElem?_map,HNJ.out];rfl);have hga' : x1 = some ⟨g,0,none⟩:=hga;subst hga'
 have HG0 : Hid (w1.heap.size + 1 ≤ g):=by
  rcases ho.n.2.2.2 with h9 | ⟨g9,c9,H9,e9,h9⟩
  ·have h8 : (c.ns.map ndF)[j]? = some (ndF n):=by rw [List.getElem?_map,HNJ.out];rfl
   have h7 : c.ns.map ndF = []:=h9;rw [h7] at h8;cases h8
  ·cases e9;exact h9.inS
 obtain ⟨curg,hg1,hg2,hgb⟩ : ∃ curg,w1.heap.size ≤ g ∧ g < w3.heap.size ∧ w3.heap[g]? = some (.cells curg 56 (0,0)):=by
  obtain ⟨⟨cur,H,h1,_⟩,_⟩:=hS;exact ⟨cur,h1.inS.1,lt_of_some h1.blk,h1.blk⟩
 have HGB:=hidK hgb;have HG1 : Hid (w1.heap.size + 1 ≤ g):=HG0.out;have HST:=hidK hS;have HOC:=hidK (And.intro (inS ho.k) (And.intro (inS ho.v) (And.intro (inS ho.x) (inS ho.p))));have HNN : Hid (ROwn w3 (some ⟨g,0,none⟩) m1 n1 7 56 (c.ns.map ndF) (fun k => w1.heap.size ≤ k ∧ ¬ k = w3.heap.size)):=inS ho.n;clear hS ho hga inS hgb;go_wp2_with fail;obtain ⟨W,hW0⟩ : ∃ W,W = (w3.alloc (.cells #[.slice (some ⟨g,0,none⟩) m1 n1,.slice x2 m2 n2,.slice x3 m3 n3,.slice x4 m4 n4,.slice x5 m5 n5,.int .i64 c.now] 36)):=⟨_,rfl⟩;have BkW:=hidK ((Below.heap_alloc w3 (.cells #[.slice (some ⟨g,0,none⟩) m1 n1,.slice x2 m2 n2,.slice x3 m3 n3,.slice x4 m4 n4,.slice x5 m5 n5,.int .i64 c.now] 36) _ (lt_of_some Bk.out)).trans Bk.out);have BrW:=hidK ((Below.heap_alloc w3 (.cells #[.slice (some ⟨g,0,none⟩) m1 n1,.slice x2 m2 n2,.slice x3 m3 n3,.slice x4 m4 n4,.slice x5 m5 n5,.int .i64 c.now] 36) _ (lt_of_some Br.out)).trans Br.out);have BnW:=hidK ((Below.heap_alloc w3 (.cells #[.slice (some ⟨g,0,none⟩) m1 n1,.slice x2 m2 n2,.slice x3 m3 n3,.slice x4 m4 n4,.slice x5 m5 n5,.int .i64 c.now] 36) _ (lt_of_some Bn.out)).trans Bn.out);have BoW:=hidK (heap_alloc_new w3 (.cells #[.slice (some ⟨g,0,none⟩) m1 n1,.slice x2 m2 n2,.slice x3 m3 n3,.slice x4 m4 n4,.slice x5 m5 n5,.int .i64 c.now] 36));have HWW:=hidK (below1 w3 (.cells #[.slice (some ⟨g,0,none⟩) m1 n1,.slice x2 m2 n2,.slice x3 m3 n3,.slice x4 m4 n4,.slice x5 m5 n5,.int .i64 c.now] 36));have HBW:=hidK (HB.out.trans ((below1 w3 (.cells #[.slice (some ⟨g,0,none⟩) m1 n1,.slice x2 m2 n2,.slice x3 m3 n3,.slice x4 m4 n4,.slice x5 m5 n5,.int .i64 c.now] 36)).mono HB.out.size));rw [← hW0] at BkW BrW BnW BoW HWW HBW ⊢;clear hW0 Bk Br Bn HB;rename_i K0 hK0;refine Gt.wp_region_grow_last (by kernel_rfl) rfl rfl (by kernel_rfl) ?_;refine' Grow.stepC _ rfl ?_ ?_;rotate_left 1
 ·refine Obl.plain rfl ?_;intro ac wg K hsz hW hf hK;clear hsz;have e8:=hf 8 (by decide)
  simp [slotFact,List.lookup] at e8
  clear hf;go_simp;refine hK _ _ (Below.refl _ _) ?_;with_reducible rfl
 refine' Grow.stepC _ rfl ?_ ?_;rotate_left 1
 ·refine Obl.plain rfl ?_;intro ac wg K hsz hW hf hK;clear hsz;have e30:=hf 30 (by decide)
  simp [slotFact,List.lookup] at e30
  clear hf;obtain ⟨o0,o1,o2,o3,o4,o5⟩:=cs6 ((hW.block _ (lt_of_some BoW.out)).trans BoW.out);go_simp;refine hK _ _ (Below.refl _ _) ?_;with_reducible rfl
 refine' Grow.stepC _ rfl ?_ ?_;rotate_left 1
 ·refine Obl.plain rfl ?_;intro ac wg K hsz hW hf hK;clear hsz;have e5:=hf 5 (by decide)
  simp [slotFact,List.lookup] at e5
  clear hf;go_simp;refine hK _ _ (Below.refl _ _) ?_;with_reducible rfl
 refine' Grow.stepC _ rfl ?_ ?_;rotate_left 1
 ·refine Obl.plain rfl ?_;intro ac wg K hsz hW hf hK;clear hsz;have e2:=hf 2 (by decide)
  simp [slotFact,List.lookup] at e2
  clear hf;go_simp;refine hK _ _ (Below.refl _ _) ?_;with_reducible rfl
 refine' Grow.stepC _ rfl ?_ ?_;rotate_left 1
 ·refine Obl.plain rfl ?_;intro ac wg K hsz hW hf hK;clear hsz;have e33:=hf 33 (by decide)
  simp [slotFact,List.lookup] at e33
  clear hf;obtain ⟨k0,k1,k2,k3,k4,k5⟩:=cs6 ((hW.block _ (lt_of_some BkW.out)).trans BkW.out);go_simp;refine hK _ _ (Below.refl _ _) ?_;with_reducible rfl
 refine' Grow.stepC (.int .i64 (c.now + 10)) rfl ?_ ?_
 ·refine Obl.plain rfl ?_;intro ac wg K hsz hW hf hK;clear hsz;have e34:=hf 34 (by decide)
  simp [slotFact,List.lookup] at e34
  clear hf
  have hwr : IntKind.i64.wrap (c.now + 10) = c.now + 10:=by rw [IntKind.wrap_i64];omega
  go_simp;refine hK _ _ (Below.refl _ _) ?_;with_reducible rfl
 refine Grow.step (fun v _ => v = .int .i64 (untilN c)) rfl (Fact.mono_eq _) ?_ ?_
 ·refine Obl.plain rfl ?_;intro ac wg K hsz hW hf hK;clear hsz;have e35:=hf 35 (by decide)
  simp [slotFact,List.lookup] at e35
  clear hf;go_simp;refine (smin_any c _ hn0 hn1).mono ?_;rintro e w6 ⟨rfl,hb6⟩;exact hK _ _ hb6 rfl
 refine' Grow.stepC _ rfl ?_ ?_;rotate_left 1
 ·refine Obl.plain rfl ?_;intro ac wg K hsz hW hf hK;clear hsz;have e31:=hf 31 (by decide)
  simp [slotFact,List.lookup] at e31
  have e32:=hf 32 (by decide)
  simp [slotFact,List.lookup] at e32
  clear hf;go_simp;refine hK _ _ (Below.refl _ _) ?_;with_reducible rfl
 refine' Grow.stepC _ rfl ?_ ?_;rotate_left 1
 ·refine Obl.plain rfl ?_;intro ac wg K hsz hW hf hK;clear hsz;have e37:=hf 37 (by decide)
  simp [slotFact,List.lookup] at e37
  clear hf;go_simp;refine hK _ _ (Below.refl _ _) ?_;with_reducible rfl
 refine Grow.done ?_;intro q wy hW hf;simp only [List.forall_mem_cons] at hf;obtain ⟨h38,h37,h36,h35,h34,h33,h32,h31,h30,-⟩:=hf;have HWY:=upB HWW hW;have HBY:=upB HBW hW;have Bk2:=upK BkW hW;have Br2:=upK BrW hW;have Bn2:=upK BnW hW;have Bo2:=upK BoW hW;obtain ⟨v9,hcz⟩:=(HST.out.below HWY.out).cell (i:=4) rfl;have hfz:=(HST.out.below HWY.out).fro (j * 7 + 4);intro K hK;rw [if_pos (by rfl)];simp only [putsAll,List.foldr,Act.put,List.setIfInBounds_toArray,List.set_cons_zero,List.set_cons_succ,h38,h37,h36,h35,h34,h33,h32,h31,h30];simp only [List.getLast];go_simp;refine hK _ _ ?_;refine hK0 _ _ ?_;clear hK hK0 K K0;have hST4:=(HST.out.below HWY.out).setI (i:=4) rfl (untilN c);have past : ∀ {a l cp m T rs},ROwn w3 a l cp m T rs (fun k => w1.heap.size ≤ k ∧ ¬ k = w3.heap.size) → ¬ 56 = T → ROwn (wy.setCell ⟨g,j * 7 + 4,none⟩ (.int .i64 (untilN c))) a l cp m T rs (fun k => w1.heap.size ≤ k ∧ ¬ k = w3.heap.size):=fun h hT => (h.away HGB.out hT (by decide)).keep (fun k hk s => (Below.heap_setCell _ _ _ _ s.2).trans (HWY.out.block k hk)) (fun _ _ s => s.1);have f2:=past HOC.out.1 (by decide);have f3:=past HOC.out.2.1 (by decide);have f4:=past HOC.out.2.2.1 (by decide);have f5:=past HOC.out.2.2.2 (by decide);have hk4 : (wy.setCell ⟨g,j * 7 + 4,none⟩ (.int .i64 (untilN c))).heap[w.heap.size]? = _:=(Below.heap_setCell _ _ _ _ (show w.heap.size ≠ g by omega)).trans Bk2.out;have hr4 : (wy.setCell ⟨g,j * 7 + 4,none⟩ (.int .i64 (untilN c))).heap[w.heap.size + 1]? = _:=(Below.heap_setCell _ _ _ _ (show w.heap.size + 1 ≠ g by omega)).trans Br2.out
 have hgn : ¬ w1.heap.size = g:=by have:=HG1.out;omega
 have hn4 : (wy.setCell ⟨g,j * 7 + 4,none⟩ (.int .i64 (untilN c))).heap[w1.heap.size]? = _:=(Below.heap_setCell _ _ _ _ (show w1.heap.size ≠ g from hgn)).trans Bn2.out;have ho4 : (wy.setCell ⟨g,j * 7 + 4,none⟩ (.int .i64 (untilN c))).heap[w3.heap.size]? = _:=(Below.heap_setCell _ _ _ _ (show w3.heap.size ≠ g by omega)).trans Bo2.out;have hb4 : Below w.heap.size w (wy.setCell ⟨g,j * 7 + 4,none⟩ (.int .i64 (untilN c))):=set_below (show w.heap.size ≤ g by omega) HBY.out
 have hs4 : (wy.setCell ⟨g,j * 7 + 4,none⟩ (.int .i64 (untilN c))).heap.size = wy.heap.size:=by simp
 clear hcz hfz past;obtain ⟨W4,hW4⟩ : ∃ W4,W4 = (wy.setCell ⟨g,j * 7 + 4,none⟩ (.int .i64 (untilN c))):=⟨_,rfl⟩;rw [← hW4] at hST4 f2 f3 f4 f5 hk4 hr4 hn4 ho4 hb4 hs4 ⊢;have HST4:=hidK hST4;have HF4:=hidK (And.intro f2 (And.intro f3 (And.intro f4 f5)));have Bk4:=hidK hk4;have Br4:=hidK hr4;have Bn4:=hidK hn4;have Bo4:=hidK ho4;have HB4:=hidK hb4;have hsz4 : w3.heap.size < W4.heap.size:=lt_of_some ho4;clear hW4 hST4 f2 f3 f4 f5 hk4 hr4 hn4 ho4 hb4 hs4 Bk2 Br2 Bn2 Bo2 HBY HWY HBW HWW BkW BrW BnW BoW;obtain ⟨k0,k1,k2,k3,k4,k5⟩:=cs6 Bk4.out;obtain ⟨n0,n1',n2',n3',n4',n5',n6'⟩:=cs7 Bn4.out;obtain ⟨o0,o1,o2,o3,o4,o5⟩:=cs6 Bo4.out;have ltk:=lt_of_some Bk4.out;have ltn:=lt_of_some Bn4.out;have lto:=lt_of_some Bo4.out
 by_cases hlv : c.now < n.u
 rotate_left
 ·have HMN : Hid (mntN c n = []):=if_neg hlv
  have HF1E : Hid (f = fun _ => 1):=by
   show f = _
   funext p
   rcases HF.out p with ⟨_,h1,_⟩ | ⟨h1,_⟩
   ·exact absurd h1 hlv
   ·exact h1
  have hlv2 : n.u ≤ c.now:=by omega
  obtain ⟨v6,hc6⟩:=HST4.out.cell (i:=6) rfl;have hf6:=HST4.out.fro (j * 7 + 6)
  have hne1 : ¬ g = w3.heap.size:=by omega
  have hne2 : ¬ w3.heap.size = g:=by omega
  go_wp2_with fail;clear k0 k1 k2 k3 k4 k5 n0 n1' n2' n3' n4' n5' n6' o0 o1 o2 o3 o4 o5 hc6 hf6
  have HGB0 : Hid (∃ cur,W4.heap[g]? = some (.cells cur 56 (0,0))):=by obtain ⟨⟨cur,H,h1,_⟩,_⟩:=HST4.out;exact ⟨cur,h1.blk⟩
  obtain ⟨cur4,hcur4⟩:=HGB0.out;clear HGB0;have HGB0:=hidK hcur4;clear hcur4;have HFX:=hidK HF4.out;have BrX:=Br4;have BoX:=Bo4;have HBX:=HB4
  obtain ⟨cur6,H6,hat6⟩ : ∃ cur H,ROwnAt (W4.setCell ⟨g,j * 7 + 6,none⟩ (.slice none 0 0)) g 7 56 ((c.ns.map ndF).set j (((ndF n).set 4 (.i (untilN c))).set 6 (.l []))) (fun k => w1.heap.size ≤ k ∧ ¬ k = w3.heap.size) cur H:=by obtain ⟨⟨cur,H,h1,_⟩,_⟩:=HST4.out.setE (i:=6) rfl none 0 (by decide);exact ⟨cur,H,h1⟩
  have hns : (c.ns.map ndF).set j (((ndF n).set 4 (.i (untilN c))).set 6 (.l [])) = (stepC c t n f).raw.n:=by
   show _ = (c.ns.set (pl Nd.n c.ns t) (stepN c n)).map ndF
   rw [(hit_at HT.out.2.1.1.2.2 HNJ.out HOK.out.2.2.2).1,List.map_set]
   show _ = (c.ns.map ndF).set j (ndF (stepN c n))
   unfold stepN;rw [show mntN c n = [] from HMN.out]
   rfl
  have f1 : ROwn (W4.setCell ⟨g,j * 7 + 6,none⟩ (.slice none 0 0)) (some ⟨g,0,none⟩) m1 n1 7 56 (stepC c t n f).raw.n (fun k => w1.heap.size ≤ k ∧ ¬ k = w3.heap.size):=by
   rw [← hns];exact ⟨by rw [List.length_set];exact HNN.out.1,HNN.out.2.1,HNN.out.2.2.1,.inr ⟨g,cur6,H6,rfl,hat6⟩⟩
  have past : ∀ {a l cp m T rs},ROwn W4 a l cp m T rs (fun k => w1.heap.size ≤ k ∧ ¬ k = w3.heap.size) → ¬ 56 = T → ROwn (W4.setCell ⟨g,j * 7 + 6,none⟩ (.slice none 0 0)) a l cp m T rs (fun k => w1.heap.size ≤ k ∧ ¬ k = w3.heap.size):=fun h hT => (h.away HGB0.out hT (by decide)).keep (fun k hk s => Below.heap_setCell _ _ _ _ s.2) (fun _ _ s => s.1);have f2:=past HFX.out.1 (by decide);have f3:=past HFX.out.2.1 (by decide);have f4:=past HFX.out.2.2.1 (by decide);have f5:=past HFX.out.2.2.2 (by decide);have hr6 : (W4.setCell ⟨g,j * 7 + 6,none⟩ (.slice none 0 0)).heap[w.heap.size + 1]? = _:=(Below.heap_setCell _ _ _ _ (show w.heap.size + 1 ≠ g by omega)).trans BrX.out;have ho6 : (W4.setCell ⟨g,j * 7 + 6,none⟩ (.slice none 0 0)).heap[w3.heap.size]? = _:=(Below.heap_setCell _ _ _ _ (show w3.heap.size ≠ g by omega)).trans BoX.out;have hb6 : Below w.heap.size w (W4.setCell ⟨g,j * 7 + 6,none⟩ (.slice none 0 0)):=set_below (show w.heap.size ≤ g by omega) HBX.out;obtain ⟨W6,hW6⟩ : ∃ W6,W6 = (W4.setCell ⟨g,j * 7 + 6,none⟩ (.slice none 0 0)):=⟨_,rfl⟩;rw [← hW6] at f1 f2 f3 f4 f5 hr6 ho6 hb6 ⊢;have HF1:=hidK f1;have HF6:=hidK (And.intro f2 (And.intro f3 (And.intro f4 f5)));have Br6:=hidK hr6;have Bo6:=hidK ho6;have HB6:=hidK hb6;clear hW6 f1 f2 f3 f4 f5 hr6 ho6 hb6 past hat6 hns
  have nb : ∀ k,¬ (w1.heap.size ≤ k ∧ ¬ k = w3.heap.size) → ¬ (0 < m5 ∧ x5 = some ⟨k,0,none⟩):=fun k h1 h2 => by
   rcases HF6.out.2.2.2.2.2.2 with h9 | ⟨g9,c9,H9,e9,h9⟩
   ·have h8:=HF6.out.2.2.2.1;have h7:=h2.1;rw [h9] at h8
    simp at h8
    omega
   ·have h7:=h2.2;rw [h7] at e9
    cases e9
    exact h1 h9.inS
  refine (sphase_any w3.heap.size (some ⟨g,0,none⟩) x2 x3 x4 x5 m1 n1 m2 n2 m3 n3 m4 n4 m5 n5 c.now t c.ps (fun k => w1.heap.size ≤ k ∧ ¬ k = w3.heap.size) _ Bo6.out HF6.out.2.2.2 (fun g5 e0 e5 e => nb g5 (fun h => h.2 e) ⟨e0,e5⟩)).mono ?_;rintro e w7 ⟨⟨v,rfl⟩,hP,hK⟩;have Bo7:=hidK ((hK.block _ (lt_of_some Bo6.out) (nb _ (by omega))).trans Bo6.out);have Br7:=hidK ((hK.block _ (lt_of_some Br6.out) (nb _ (by omega))).trans Br6.out);have g1:=HF1.out.beside HF6.out.2.2.2 hK (by decide);have g2:=HF6.out.1.beside HF6.out.2.2.2 hK (by decide);have g3:=HF6.out.2.1.beside HF6.out.2.2.2 hK (by decide);have g4:=HF6.out.2.2.1.beside HF6.out.2.2.2 hK (by decide)
  have hps : (stepC c t n f).raw.p = (c.ps.map (ph1 t)).map pdF:=by
   show (c.ps.map (phF t f)).map pdF = _
   rw [HF1E.out,phF_one]
  rw [← hps] at hP;have HG:=hidK (And.intro g1 (And.intro g2 (And.intro g3 (And.intro g4 hP))));have HB7 : Hid (Below w.heap.size w w7):=HB6.out.trans (hK.low (X:=w.heap.size) HB6.out.size (fun k s => Classical.byContradiction fun hk => nb k (by omega) s));clear g1 g2 g3 g4 hP hK nb HF1 HF6 Bo6 Br6 HB6;obtain ⟨o0,o1,o2,o3,o4,o5⟩:=cs6 Bo7.out;obtain ⟨r0,r1,r2,r3,r4,r5,r6,r7⟩:=cs8 Br7.out;have fr0:=froK Br7.out 0;have fr1:=froK Br7.out 1;have fr2:=froK Br7.out 2;have fr3:=froK Br7.out 3;have fr4:=froK Br7.out 4;have fr5:=froK Br7.out 5;have fr6:=froK Br7.out 6;have fr7:=froK Br7.out 7;have hol:=lt_of_some Bo7.out;have hrl:=lt_of_some Br7.out
  have hne5 : ¬ w.heap.size + 1 = w3.heap.size:=by omega
  have hne6 : ¬ w3.heap.size = w.heap.size + 1:=by omega
  go_wp2
  refine bodyPost_ret (v:=.agg #[.slice (some ⟨g,0,none⟩) m1 n1,.slice x2 m2 n2,.slice x3 m3 n3,.slice x4 m4 n4,.slice x5 m5 n5,.int .i64 c.now,.string ⟨#[]⟩,.int .i64 0]) (by simp [results,Tryz.results5,go_sem, *]) rfl ⟨⟨some ⟨g,0,none⟩,m1,n1,x2,m2,n2,x3,m3,n3,x4,m4,n4,x5,m5,n5⟩,⟨stepC c t n f,⟨#[]⟩,0⟩,rfl,HV.out,?_,sb1 (sb1 (sb1 (sb1 (sb1 (sb1 (sb1 (sb1 (HB7.out))))))))⟩
  have hk4 : ∀ k,k < w7.heap.size → w1.heap.size ≤ k ∧ ¬ k = w3.heap.size → ((((((((w7.setCell ⟨w.heap.size + 1,0,none⟩ (.slice (some ⟨g,0,none⟩) m1 n1)).setCell ⟨w.heap.size + 1,1,none⟩ (.slice x2 m2 n2)).setCell ⟨w.heap.size + 1,2,none⟩ (.slice x3 m3 n3)).setCell ⟨w.heap.size + 1,3,none⟩ (.slice x4 m4 n4)).setCell ⟨w.heap.size + 1,4,none⟩ (.slice x5 m5 n5)).setCell ⟨w.heap.size + 1,5,none⟩ (.int .i64 c.now)).setCell ⟨w.heap.size + 1,6,none⟩ (.string ⟨#[]⟩)).setCell ⟨w.heap.size + 1,7,none⟩ (.int .i64 0)).heap[k]? = w7.heap[k]?:=fun k _ h1 => by rw [Below.heap_setCell _ _ _ _ (show k ≠ w.heap.size + 1 by omega),Below.heap_setCell _ _ _ _ (show k ≠ w.heap.size + 1 by omega),Below.heap_setCell _ _ _ _ (show k ≠ w.heap.size + 1 by omega),Below.heap_setCell _ _ _ _ (show k ≠ w.heap.size + 1 by omega),Below.heap_setCell _ _ _ _ (show k ≠ w.heap.size + 1 by omega),Below.heap_setCell _ _ _ _ (show k ≠ w.heap.size + 1 by omega),Below.heap_setCell _ _ _ _ (show k ≠ w.heap.size + 1 by omega),Below.heap_setCell _ _ _ _ (show k ≠ w.heap.size + 1 by omega)]
  exact ⟨(HG.out.1.keep hk4 (fun _ _ s => s)).row,(HG.out.2.1.keep hk4 (fun _ _ s => s)).row,(HG.out.2.2.1.keep hk4 (fun _ _ s => s)).row,(HG.out.2.2.2.1.keep hk4 (fun _ _ s => s)).row,(HG.out.2.2.2.2.keep hk4 (fun _ _ s => s)).row⟩
 have HMN : Hid (mntN c n = mntL c n.n c.vs):=if_pos hlv;have HLV:=hidK hlv
 have hlv2 : ¬ n.u ≤ c.now:=by omega
 go_wp2_with fail;have hg9:=smnt_any ⟨(some ⟨b,o,none⟩),m1,y1,a2,l2,y2,a3,l3,y3,a4,l4,y4,a5,l5,y5⟩ c n ua ul uc W4 (HR.out.below HB4.out) HT.out (NameOk.ne (HT.out.2.1.1.2.1 _ n HOK.out.2.2.1).1);rw [HD.out] at hg9;refine hg9.mono ?_;clear hg9;rintro e W5 ⟨sa,sl,sq,rfl,hto,hb5⟩;clear k0 k1 k2 k3 k4 k5 n0 n1' n2' n3' n4' n5' n6' o0 o1 o2 o3 o4 o5;have HTO:=hidK hto
 have hsl : sl ≤ 8:=by have h1:=hto.1.1;have h2:=mntL_few c n.n;have h3 : (c.vs.length : Int) ≤ 8:=HT.out.2.1.2.2.1.1;omega
 have hsl2 : ¬ 8 < (sl : Int):=by omega
 have HST5:=hidK (HST4.out.fresh hb5);have HFX : Hid _:=hidK (And.intro (HF4.out.1.below hb5) (And.intro (HF4.out.2.1.below hb5) (And.intro (HF4.out.2.2.1.below hb5) (HF4.out.2.2.2.below hb5))));have BrX:=upK Br4 hb5;have BoX:=upK Bo4 hb5;have HBX:=upB HB4 hb5;have hs5:=hb5.size
 obtain ⟨cur4,hcur4⟩ : ∃ cur,W5.heap[g]? = some (.cells cur 56 (0,0)):=by obtain ⟨⟨cur,H,h1,_⟩,_⟩:=HST5.out;exact ⟨cur,h1.blk⟩
 have HGB0:=hidK hcur4;obtain ⟨v6,hc6⟩:=HST5.out.cell (i:=6) rfl;have hf6:=HST5.out.fro (j * 7 + 6)
 have hne1 : ¬ g = w3.heap.size:=by omega
 have hne2 : ¬ w3.heap.size = g:=by omega
 obtain ⟨o0,o1,o2,o3,o4,o5⟩:=cs6 BoX.out;have lto5:=lt_of_some BoX.out;clear hb5 hto hcur4;go_wp2_with fail;clear o0 o1 o2 o3 o4 o5 hc6 hf6;obtain ⟨cur6,H6,hat6⟩ : ∃ cur H,ROwnAt (W5.setCell ⟨g,j * 7 + 6,none⟩ (.slice sa sl sq)) g 7 56 ((c.ns.map ndF).set j (((ndF n).set 4 (.i (untilN c))).set 6 (.l (mntL c n.n c.vs)))) (fun k => w1.heap.size ≤ k ∧ ¬ k = w3.heap.size) cur H:=HST5.out.setO (i:=6) rfl (HTO.out) (fun k h1 h2 => ⟨by omega,by omega⟩) (by omega)
 have hns : (c.ns.map ndF).set j (((ndF n).set 4 (.i (untilN c))).set 6 (.l (mntL c n.n c.vs))) = (stepC c t n f).raw.n:=by
  show _ = (c.ns.set (pl Nd.n c.ns t) (stepN c n)).map ndF
  rw [(hit_at HT.out.2.1.1.2.2 HNJ.out HOK.out.2.2.2).1,List.map_set]
  show _ = (c.ns.map ndF).set j (ndF (stepN c n))
  unfold stepN;rw [show mntN c n = (mntL c n.n c.vs) from HMN.out]
  rfl
 have f1 : ROwn (W5.setCell ⟨g,j * 7 + 6,none⟩ (.slice sa sl sq)) (some ⟨g,0,none⟩) m1 n1 7 56 (stepC c t n f).raw.n (fun k => w1.heap.size ≤ k ∧ ¬ k = w3.heap.size):=by
  rw [← hns];exact ⟨by rw [List.length_set];exact HNN.out.1,HNN.out.2.1,HNN.out.2.2.1,.inr ⟨g,cur6,H6,rfl,hat6⟩⟩
 have past : ∀ {a l cp m T rs},ROwn W5 a l cp m T rs (fun k => w1.heap.size ≤ k ∧ ¬ k = w3.heap.size) → ¬ 56 = T → ROwn (W5.setCell ⟨g,j * 7 + 6,none⟩ (.slice sa sl sq)) a l cp m T rs (fun k => w1.heap.size ≤ k ∧ ¬ k = w3.heap.size):=fun h hT => (h.away HGB0.out hT (by decide)).keep (fun k hk s => Below.heap_setCell _ _ _ _ s.2) (fun _ _ s => s.1);have f2:=past HFX.out.1 (by decide);have f3:=past HFX.out.2.1 (by decide);have f4:=past HFX.out.2.2.1 (by decide);have f5:=past HFX.out.2.2.2 (by decide);have hr6 : (W5.setCell ⟨g,j * 7 + 6,none⟩ (.slice sa sl sq)).heap[w.heap.size + 1]? = _:=(Below.heap_setCell _ _ _ _ (show w.heap.size + 1 ≠ g by omega)).trans BrX.out;have ho6 : (W5.setCell ⟨g,j * 7 + 6,none⟩ (.slice sa sl sq)).heap[w3.heap.size]? = _:=(Below.heap_setCell _ _ _ _ (show w3.heap.size ≠ g by omega)).trans BoX.out;have hb6 : Below w.heap.size w (W5.setCell ⟨g,j * 7 + 6,none⟩ (.slice sa sl sq)):=set_below (show w.heap.size ≤ g by omega) HBX.out;obtain ⟨W6,hW6⟩ : ∃ W6,W6 = (W5.setCell ⟨g,j * 7 + 6,none⟩ (.slice sa sl sq)):=⟨_,rfl⟩;rw [← hW6] at f1 f2 f3 f4 f5 hr6 ho6 hb6 ⊢;have HF1:=hidK f1;have HF6:=hidK (And.intro f2 (And.intro f3 (And.intro f4 f5)));have Br6:=hidK hr6;have Bo6:=hidK ho6;have HB6:=hidK hb6;clear hW6 f1 f2 f3 f4 f5 hr6 ho6 hb6 past hat6 hns
 have nb : ∀ k,¬ (w1.heap.size ≤ k ∧ ¬ k = w3.heap.size) → ¬ (0 < m5 ∧ x5 = some ⟨k,0,none⟩):=fun k h1 h2 => by
  rcases HF6.out.2.2.2.2.2.2 with h9 | ⟨g9,c9,H9,e9,h9⟩
  ·have h8:=HF6.out.2.2.2.1;have h7:=h2.1;rw [h9] at h8
   simp at h8
   omega
  ·have h7:=h2.2;rw [h7] at e9
   cases e9
   exact h1 h9.inS
 have hnm : (c.ns.set (pl Nd.n c.ns t) (stepN c n))[j]? = some (stepN c n):=by
  rw [(hit_at HT.out.2.1.1.2.2 HNJ.out HOK.out.2.2.2).1,get_set (List.getElem?_eq_some_iff.1 HNJ.out).1,if_pos rfl]
 have hnr : RisBy Nd.n (c.ns.set (pl Nd.n c.ns t) (stepN c n)):=by
  rw [(hit_at HT.out.2.1.1.2.2 HNJ.out HOK.out.2.2.2).1];exact HT.out.2.1.1.2.2.setSame HNJ.out rfl
 refine (sphT_any w3.heap.size (some ⟨g,0,none⟩) m1 n1 x2 m2 n2 x3 m3 n3 x4 m4 n4 x5 m5 n5 c.now t (c.ns.set (pl Nd.n c.ns t) (stepN c n)) c.ks c.vs c.xs c.ps (stepN c n) j f (fun k => w1.heap.size ≤ k ∧ ¬ k = w3.heap.size) (fun k => w1.heap.size ≤ k ∧ ¬ k = w3.heap.size) _ Bo6.out HF6.out.2.2.2 (fun g5 e0 e5 e => nb g5 (fun h => h.2 e) ⟨e0,e5⟩) HF1.out HF6.out.1 HF6.out.2.1 HF6.out.2.2.1 hnr HT.out.2.1.2.2.2.1.2.2 HT.out.2.1.2.2.1.2.2 HT.out.2.1.ne hnm HOK.out.2.2.2 (fun k p hp hd => HT.out.bds hp (by rw [hd,← HOK.out.2.2.2];exact NameOk.ne (HT.out.2.1.1.2.1 _ n HOK.out.2.2.1).1)) (fun k p hp hd => (HF.out p).imp (fun h => ⟨h.1,h.2.2⟩) (fun h => ⟨h.1,fun h9 => h.2 ⟨HLV.out,h9⟩⟩))).mono ?_;rintro e w7 ⟨⟨v,rfl⟩,hP,hK⟩;have Bo7:=hidK ((hK.block _ (lt_of_some Bo6.out) (nb _ (by omega))).trans Bo6.out);have Br7:=hidK ((hK.block _ (lt_of_some Br6.out) (nb _ (by omega))).trans Br6.out);have g1:=HF1.out.beside HF6.out.2.2.2 hK (by decide);have g2:=HF6.out.1.beside HF6.out.2.2.2 hK (by decide);have g3:=HF6.out.2.1.beside HF6.out.2.2.2 hK (by decide);have g4:=HF6.out.2.2.1.beside HF6.out.2.2.2 hK (by decide);have hps : (stepC c t n f).raw.p = (c.ps.map (phF t f)).map pdF:=rfl;rw [← hps] at hP;have HG:=hidK (And.intro g1 (And.intro g2 (And.intro g3 (And.intro g4 hP))));have HB7 : Hid (Below w.heap.size w w7):=HB6.out.trans (hK.low (X:=w.heap.size) HB6.out.size (fun k s => Classical.byContradiction fun hk => nb k (by omega) s));clear g1 g2 g3 g4 hP hK nb HF1 HF6 Bo6 Br6 HB6;obtain ⟨o0,o1,o2,o3,o4,o5⟩:=cs6 Bo7.out;obtain ⟨r0,r1,r2,r3,r4,r5,r6,r7⟩:=cs8 Br7.out;have fr0:=froK Br7.out 0;have fr1:=froK Br7.out 1;have fr2:=froK Br7.out 2;have fr3:=froK Br7.out 3;have fr4:=froK Br7.out 4;have fr5:=froK Br7.out 5;have fr6:=froK Br7.out 6;have fr7:=froK Br7.out 7;have hol:=lt_of_some Bo7.out;have hrl:=lt_of_some Br7.out
 have hne5 : ¬ w.heap.size + 1 = w3.heap.size:=by omega
 have hne6 : ¬ w3.heap.size = w.heap.size + 1:=by omega
 go_wp2
 refine bodyPost_ret (v:=.agg #[.slice (some ⟨g,0,none⟩) m1 n1,.slice x2 m2 n2,.slice x3 m3 n3,.slice x4 m4 n4,.slice x5 m5 n5,.int .i64 c.now,.string ⟨#[]⟩,.int .i64 0]) (by simp [results,Tryz.results5,go_sem, *]) rfl ⟨⟨some ⟨g,0,none⟩,m1,n1,x2,m2,n2,x3,m3,n3,x4,m4,n4,x5,m5,n5⟩,⟨stepC c t n f,⟨#[]⟩,0⟩,rfl,HV.out,?_,sb1 (sb1 (sb1 (sb1 (sb1 (sb1 (sb1 (sb1 (HB7.out))))))))⟩
 have hk4 : ∀ k,k < w7.heap.size → w1.heap.size ≤ k ∧ ¬ k = w3.heap.size → ((((((((w7.setCell ⟨w.heap.size + 1,0,none⟩ (.slice (some ⟨g,0,none⟩) m1 n1)).setCell ⟨w.heap.size + 1,1,none⟩ (.slice x2 m2 n2)).setCell ⟨w.heap.size + 1,2,none⟩ (.slice x3 m3 n3)).setCell ⟨w.heap.size + 1,3,none⟩ (.slice x4 m4 n4)).setCell ⟨w.heap.size + 1,4,none⟩ (.slice x5 m5 n5)).setCell ⟨w.heap.size + 1,5,none⟩ (.int .i64 c.now)).setCell ⟨w.heap.size + 1,6,none⟩ (.string ⟨#[]⟩)).setCell ⟨w.heap.size + 1,7,none⟩ (.int .i64 0)).heap[k]? = w7.heap[k]?:=fun k _ h1 => by rw [Below.heap_setCell _ _ _ _ (show k ≠ w.heap.size + 1 by omega),Below.heap_setCell _ _ _ _ (show k ≠ w.heap.size + 1 by omega),Below.heap_setCell _ _ _ _ (show k ≠ w.heap.size + 1 by omega),Below.heap_setCell _ _ _ _ (show k ≠ w.heap.size + 1 by omega),Below.heap_setCell _ _ _ _ (show k ≠ w.heap.size + 1 by omega),Below.heap_setCell _ _ _ _ (show k ≠ w.heap.size + 1 by omega),Below.heap_setCell _ _ _ _ (show k ≠ w.heap.size + 1 by omega),Below.heap_setCell _ _ _ _ (show k ≠ w.heap.size + 1 by omega)]
 exact ⟨(HG.out.1.keep hk4 (fun _ _ s => s)).row,(HG.out.2.1.keep hk4 (fun _ _ s => s)).row,(HG.out.2.2.1.keep hk4 (fun _ _ s => s)).row,(HG.out.2.2.2.1.keep hk4 (fun _ _ s => s)).row,(HG.out.2.2.2.2.keep hk4 (fun _ _ s => s)).row⟩

end Rc
end Go.Proofs.YtpgfiggcgjajcaaGreatDoor

namespace Go.Proofs.YtpgfiggcgjajcaaGreatDoor
open Go.RowKit Rc Mk

def AgentStepClV (c : Cl) : Fact:=fun v w => ∃ d : Ad,v = .agg #[.slice d.a1 d.l1 d.c1,.slice d.a2 d.l2 d.c2,.slice d.a3 d.l3 d.c3,.slice d.a4 d.l4 d.c4,.slice d.a5 d.l5 d.c5,.int .i64 c.now] ∧ ClRow w d c.raw
theorem AgentStepClV.mono (c : Cl) : Fact.Mono (AgentStepClV c):=by
 rintro v w w' ⟨d,h1,h2⟩ hb;exact ⟨d,h1,h2.below hb⟩

set_option linter.unusedVariables false in
theorem agentStep_walk (d : Ad) (c : Cl) (t : ByteArray) (E : Nat → Addr) (w : World) (hr : ClRow w d c.raw) (ht : t.size ≤ maxLen) (hG : Ers w E) :
  Calls Tryz.prog 3 #[.agg #[.slice d.a1 d.l1 d.c1,.slice d.a2 d.l2 d.c2,.slice d.a3 d.l3 d.c3,.slice d.a4 d.l4 d.c4,.slice d.a5 d.l5 d.c5,.int .i64 c.now],.string t] w fun e w' => e = .returned (.bool true) ∧ Below w.heap.size w w':=by
 have HR:=hidK hr;have HE:=hidK hG;have HB:=hidK (Below.refl w.heap.size w);clear hr hG
 by_cases hlongt : 1048576 < t.size
 ·go_enter Tryz.func3,Tryz.ntmps3
  go_wp2
  go_ret;exact ⟨rfl,below1 _ _⟩
 go_enter Tryz.func3,Tryz.ntmps3
 go_wp2_with fail;refine (szCluster_any d c _ (HR.out.below (HB.out.trans ((below1 _ _).mono HB.out.size)))).mono ?_;rintro e w1 ⟨r,rfl,hi,hb⟩;obtain ⟨HA0,hbx⟩:=slots1 hb;have Bk:=hidK HA0;replace HB:=upB HB hbx;clear hb hbx HA0
 rcases hi with rfl | ⟨hr0,-,hft⟩
 ·obtain ⟨k0,k1,k2,k3,k4,k5⟩:=cs6 Bk.out;have ltk_1:=lt_of_some Bk.out
  go_wp2
  go_ret;exact ⟨rfl,HB.out⟩
 have HF:=hidK hft;clear hft;obtain ⟨k0,k1,k2,k3,k4,k5⟩:=cs6 Bk.out;have ltk_1:=lt_of_some Bk.out;go_wp2_with fail;refine (toCluster_any d c _ (HR.out.below HB.out) HF.out).mono ?_;rintro e w2 ⟨d1,rfl,ho,hb⟩;clear k0 k1 k2 k3 k4 k5 ltk_1;replace Bk:=upK Bk hb;replace HB:=upB HB hb;clear hb;have HO:=hidK ho.row;clear ho;go_wp2_with fail;refine (sagent_any d1 c t _ HO.out).mono ?_;rintro e w3 ⟨dg0,o,rfl,hI,ho,hb⟩;have R0:=hidK ho;have HIS:=hidK hI;clear ho hI HO;replace Bk:=upK Bk hb;replace HB:=upB HB hb;clear hb;have HY:=hidK (Bw.refl w3);have HQ3:=hidK (show w.heap.size < w3.heap.size from lt_of_some Bk.out);obtain ⟨k0,k1,k2,k3,k4,k5⟩:=cs6 Bk.out;have ltk_3:=lt_of_some Bk.out;go_wp2_with fail;refine (toCluster_any d c _ (HR.out.below (HB.out.trans ((below1 _ _).mono HB.out.size))) HF.out).mono ?_;rintro e w4 ⟨d2,rfl,ho,hb⟩;clear k0 k1 k2 k3 k4 k5 ltk_3;obtain ⟨HA0,hbx⟩:=slots1 hb;replace Bk:=upK Bk hbx;have Ba:=hidK HA0;replace HY:=hidK (HY.out.below hbx);replace HB:=upB HB hbx;clear hb hbx HA0
 have HQ4 : Hid (w3.heap.size + 1 ≤ w4.heap.size):=by have:=HY.out.le;have:=lt_of_some Ba.out;show w3.heap.size + 1 ≤ _;omega
 have HO2:=hidK (ho.into (S':=fun k => w3.heap.size + 1 ≤ k ∧ k < w4.heap.size) (fun k hk s => ⟨(show w3.heap.size + 1 ≤ k by simpa using s),hk⟩));clear ho;obtain ⟨k0,k1,k2,k3,k4,k5⟩:=cs6 Bk.out;have ltk_4:=lt_of_some Bk.out;obtain ⟨a0,a1,a2,a3,a4,a5,a6,a7⟩:=cs8 Ba.out;have lta_4:=lt_of_some Ba.out;go_wp2_with fail;have HOX:=hidK (HO2.out.below (below1 w4 (.cells #[.slice d2.a1 d2.l1 d2.c1,.slice d2.a2 d2.l2 d2.c2,.slice d2.a3 d2.l3 d2.c3,.slice d2.a4 d2.l4 d2.c4,.slice d2.a5 d2.l5 d2.c5,.int .i64 c.now] 36)));refine (iagent_any d2 c t E _ HOX.out.row (HE.out.below (HB.out.trans ((below1 _ _).mono HB.out.size)))).mono ?_;rintro e w5 ⟨dg1,o1,rfl,hI,ho,hb⟩;clear HOX;obtain rfl:=HIS.out.same hI;clear hI;clear k0 k1 k2 k3 k4 k5 ltk_4 a0 a1 a2 a3 a4 a5 a6 a7 lta_4;obtain ⟨HA0,hbx⟩:=slots1 hb;replace Bk:=upK Bk hbx;replace Ba:=upK Ba hbx;have Bx:=hidK HA0;replace HY:=hidK (HY.out.below hbx);replace HO2:=hidK (HO2.out.below hbx);replace HB:=upB HB hbx;clear hb hbx HA0;have HQ5 : Hid (w4.heap.size < w5.heap.size):=lt_of_some Bx.out;have HO1:=hidK (ho.into (S':=fun k => w4.heap.size + 1 ≤ k ∧ k < w5.heap.size) (fun k hk s => ⟨(show w4.heap.size + 1 ≤ k by simpa using s),hk⟩));clear ho;have hlz : mkCn 1 o.c.raw ≤ 1152921504606846976:=HIS.out.marks HF.out;have HH:=hidK (fun (W : World) (hr : ClRow W dg1 (mkC 1 o.c.raw)) => heldCout_any dg1 o 1 W hr (by decide) hlz);obtain ⟨M,hM⟩ : ∃ M : Int,M = mkCn 1 o.c.raw:=⟨_,rfl⟩
 have hM0 : (0 : Int) < M:=by rw [hM];have:=mkCn_ge 1 o.c.raw;omega
 rw [← hM] at HH;have HMM:=hidK hM;clear hM;obtain ⟨k0,k1,k2,k3,k4,k5⟩:=cs6 Bk.out;have ltk_5:=lt_of_some Bk.out;obtain ⟨a0,a1,a2,a3,a4,a5,a6,a7⟩:=cs8 Ba.out;have lta_5:=lt_of_some Ba.out;obtain ⟨x0,x1,x2,x3,x4,x5⟩:=cs6 Bx.out;have ltx_5:=lt_of_some Bx.out;go_wp2_with fail;refine (eqCout_any dg1 dg0 o _ (HO1.out.row.below (below1 _ _)) (R0.out.below (HY.out.below (below1 _ _)).out)).mono ?_;rintro e w6 ⟨rfl,hb⟩;clear k0 k1 k2 k3 k4 k5 ltk_5 a0 a1 a2 a3 a4 a5 a6 a7 lta_5 x0 x1 x2 x3 x4 x5 ltx_5;obtain ⟨HA0,hbx⟩:=slots1 hb;replace Bk:=upK Bk hbx;replace Ba:=upK Ba hbx;replace Bx:=upK Bx hbx;have Bg:=hidK HA0;replace HY:=hidK (HY.out.below hbx);replace HO2:=hidK (HO2.out.below hbx);replace HO1:=hidK (HO1.out.below hbx);replace HB:=upB HB hbx;clear hb hbx HA0;obtain ⟨W,hW0⟩ : ∃ W,W = w6:=⟨_,rfl⟩;rw [← hW0] at HB HY HO2 HO1 Bk Ba Bx Bg;go_wp2_with fail;rw [← hW0];clear hW0;rename_i K0 hK0;refine wp_region_grow (back:=none) (by kernel_rfl) (List.append_nil _).symm (by kernel_rfl) ?_;refine' Grow.stepC _ rfl ?_ ?_;rotate_left 1
 ·refine Obl.plain rfl ?_;intro ac wg K hsz hW hf hK;clear hsz;have e7:=hf 7 (by decide)
  simp [slotFact,List.lookup] at e7
  clear hf;obtain ⟨k0,k1,k2,k3,k4,k5⟩:=cs6 ((hW.block _ (lt_of_some Bx.out)).trans Bx.out);go_simp;refine hK _ _ (Below.refl _ _) ?_;with_reducible rfl
 refine' Grow.stepC _ rfl ?_ ?_;rotate_left 1
 ·refine Obl.plain rfl ?_;intro ac wg K hsz hW hf hK;clear hsz;have e2:=hf 2 (by decide)
  simp [slotFact,List.lookup] at e2
  clear hf;obtain ⟨k0,k1,k2,k3,k4,k5⟩:=cs6 ((hW.block _ (lt_of_some Bk.out)).trans Bk.out);go_simp;refine hK _ _ (Below.refl _ _) ?_;with_reducible rfl
 refine Grow.step (AgentStepClV c) rfl (AgentStepClV.mono c) ?_ ?_
 ·refine Obl.plain rfl ?_;intro ac wg K hsz hW hf hK;clear hsz;have e35:=hf 35 (by decide)
  simp [slotFact,List.lookup] at e35
  clear hf;go_simp;refine (toCluster_any d c _ (HR.out.below (HB.out.trans (hW.mono HB.out.size))) HF.out).mono ?_;rintro e w6 ⟨d3,rfl,ho,hb6⟩;exact hK _ _ hb6 ⟨d3,rfl,ho.row⟩
 refine' Grow.stepC (.bool true) rfl ?_ ?_
 ·refine Obl.plain rfl ?_;intro ac wg K hsz hW hf hK;clear hsz;have e34:=hf 34 (by decide)
  simp [slotFact,List.lookup] at e34
  have e36:=hf 36 (by decide)
  simp [slotFact,List.lookup] at e36
  obtain ⟨d3,e36,hrow⟩:=e36;clear hf;go_simp;refine (eqCluster_any d2 d3 c _ (HO2.out.row.below hW) hrow).mono ?_;rintro e w6 ⟨rfl,hb6⟩;exact hK _ _ hb6 rfl
 refine' Grow.stepC _ rfl ?_ ?_;rotate_left 1
 ·refine Obl.plain rfl ?_;intro ac wg K hsz hW hf hK;clear hsz;have e37:=hf 37 (by decide)
  simp [slotFact,List.lookup] at e37
  clear hf;go_simp;refine hK _ _ (Below.refl _ _) ?_;with_reducible rfl
 refine Grow.done ?_;intro q wz hW hf;simp only [List.forall_mem_cons] at hf;obtain ⟨h38,-⟩:=hf;have hb:=hW;refine hK0 _ _ ?_;simp only [putsAll,List.foldr,Act.put,List.setIfInBounds_toArray,List.set_cons_zero,List.set_cons_succ,h38];clear hK0;replace Bk:=upK Bk hb;replace Ba:=upK Ba hb;replace Bx:=upK Bx hb;replace Bg:=upK Bg hb;replace HY:=hidK (HY.out.below hb);replace HO2:=hidK (HO2.out.below hb);replace HO1:=hidK (HO1.out.below hb);replace HB:=upB HB hb;clear hb;clear hW;obtain ⟨rk,hrk⟩ : ∃ r : Int,r = mkCn 1 c.raw:=⟨_,rfl⟩
 have hrk0 : decide (rk < 0) = false:=by rw [decide_eq_false_iff_not,hrk];have:=mkCn_ge 1 c.raw;omega
 obtain ⟨k0,k1,k2,k3,k4,k5⟩:=cs6 Bk.out;have ltk_7:=lt_of_some Bk.out;obtain ⟨a0,a1,a2,a3,a4,a5,a6,a7⟩:=cs8 Ba.out;have lta_7:=lt_of_some Ba.out;obtain ⟨x0,x1,x2,x3,x4,x5⟩:=cs6 Bx.out;have ltx_7:=lt_of_some Bx.out;obtain ⟨g0,g1,g2,g3,g4,g5,g6,g7⟩:=cs8 Bg.out;have ltg_7:=lt_of_some Bg.out;go_wp2_with fail;refine (markCluster_any d2 c 1 _ wz HO2.out (fun k s => by have s2:=s.2;have q9:=HY.out.le;have q8:=lt_of_some Bx.out;have q3:=HQ3.out;have q4:=HQ4.out;have q5:=HQ5.out;omega) (by decide) HF.out.marks).mono ?_;rintro e w8 ⟨rfl,ho,hk⟩;clear k0 k1 k2 k3 k4 k5 ltk_7 a0 a1 a2 a3 a4 a5 a6 a7 lta_7 x0 x1 x2 x3 x4 x5 ltx_7 g0 g1 g2 g3 g4 g5 g6 g7 ltg_7;have Ck:=hidK ((hk.block (w.heap.size) (lt_of_some Bk.out) (fun s => by have s1:=s.1;have s2:=s.2;have q3:=HQ3.out;have q4:=HQ4.out;have q5:=HQ5.out;omega)).trans Bk.out);have Ca:=hidK ((hk.block (w3.heap.size) (lt_of_some Ba.out) (fun s => by have s1:=s.1;have s2:=s.2;have q3:=HQ3.out;have q4:=HQ4.out;have q5:=HQ5.out;omega)).trans Ba.out);have Cx:=hidK ((hk.block (w4.heap.size) (lt_of_some Bx.out) (fun s => by have s1:=s.1;have s2:=s.2;have q3:=HQ3.out;have q4:=HQ4.out;have q5:=HQ5.out;omega)).trans Bx.out);have Cg:=hidK ((hk.block (w5.heap.size) (lt_of_some Bg.out) (fun s => by have s1:=s.1;have s2:=s.2;have q3:=HQ3.out;have q4:=HQ4.out;have q5:=HQ5.out;omega)).trans Bg.out);have HB8:=hidK (HB.out.trans (hk.low (X:=w.heap.size) HB.out.size (fun k s => by have s1:=s.1;have q3:=HQ3.out;have q4:=HQ4.out;have q5:=HQ5.out;omega)));have CHY:=hidK (HY.out.kept hk (fun k s => by have s1:=s.1;have q3:=HQ3.out;have q4:=HQ4.out;have q5:=HQ5.out;omega));have CHO1:=hidK (HO1.out.kept hk (fun k s s' => by have s1:=s.1;have s2:=s.2;have t1:=s'.1;have t2:=s'.2;have q3:=HQ3.out;have q4:=HQ4.out;have q5:=HQ5.out;omega))
 clear HB HY hk HO2 HO1 Bk Ba Bx Bg;have HB:=HB8;clear HB8;have HY:=CHY;clear CHY;have HO1:=CHO1;clear CHO1;have Bk:=Ck;clear Ck;have Ba:=Ca;clear Ca;have Bx:=Cx;clear Cx;have Bg:=Cg;clear Cg;clear ho;rw [← hrk];clear hrk;obtain ⟨k0,k1,k2,k3,k4,k5⟩:=cs6 Bk.out;have ltk_8:=lt_of_some Bk.out;obtain ⟨a0,a1,a2,a3,a4,a5,a6,a7⟩:=cs8 Ba.out;have lta_8:=lt_of_some Ba.out;obtain ⟨x0,x1,x2,x3,x4,x5⟩:=cs6 Bx.out;have ltx_8:=lt_of_some Bx.out;obtain ⟨g0,g1,g2,g3,g4,g5,g6,g7⟩:=cs8 Bg.out;have ltg_8:=lt_of_some Bg.out;go_wp2_with fail;refine (eqCout_any dg1 dg0 o _ (HO1.out.row) (R0.out.below HY.out.out)).mono ?_;rintro e w9 ⟨rfl,hb⟩;clear k0 k1 k2 k3 k4 k5 ltk_8 a0 a1 a2 a3 a4 a5 a6 a7 lta_8 x0 x1 x2 x3 x4 x5 ltx_8 g0 g1 g2 g3 g4 g5 g6 g7 ltg_8;replace Bk:=upK Bk hb;replace Ba:=upK Ba hb;replace Bx:=upK Bx hb;replace Bg:=upK Bg hb;replace HY:=hidK (HY.out.below hb);replace HO1:=hidK (HO1.out.below hb);replace HB:=upB HB hb;clear hb;clear hrk0;obtain ⟨k0,k1,k2,k3,k4,k5⟩:=cs6 Bk.out;have ltk_9:=lt_of_some Bk.out;obtain ⟨a0,a1,a2,a3,a4,a5,a6,a7⟩:=cs8 Ba.out;have lta_9:=lt_of_some Ba.out;obtain ⟨x0,x1,x2,x3,x4,x5⟩:=cs6 Bx.out;have ltx_9:=lt_of_some Bx.out;obtain ⟨g0,g1,g2,g3,g4,g5,g6,g7⟩:=cs8 Bg.out;have ltg_9:=lt_of_some Bg.out;go_wp2_with fail;refine (markCout_any dg1 o 1 _ _ HO1.out (fun k s => by have s2:=s.2;have q9:=HB.out.size;have q8:=HY.out.le;have q7:=lt_of_some Bg.out;have q3:=HQ3.out;have q4:=HQ4.out;have q5:=HQ5.out; omega) (by decide) hlz).mono ?_;rintro e w10 ⟨rfl,ho,hk⟩;clear k0 k1 k2 k3 k4 k5 ltk_9 a0 a1 a2 a3 a4 a5 a6 a7 lta_9 x0 x1 x2 x3 x4 x5 ltx_9 g0 g1 g2 g3 g4 g5 g6 g7 ltg_9;have Ck:=hidK ((hk.block (w.heap.size) (lt_of_some Bk.out) (fun s => by have s1:=s.1;have s2:=s.2;have q3:=HQ3.out;have q4:=HQ4.out;have q5:=HQ5.out;omega)).trans Bk.out)
 have Ca:=hidK ((hk.block (w3.heap.size) (lt_of_some Ba.out) (fun s => by have s1:=s.1;have s2:=s.2;have q3:=HQ3.out;have q4:=HQ4.out;have q5:=HQ5.out;omega)).trans Ba.out);have Cx:=hidK ((hk.block (w4.heap.size) (lt_of_some Bx.out) (fun s => by have s1:=s.1;have s2:=s.2;have q3:=HQ3.out;have q4:=HQ4.out;have q5:=HQ5.out;omega)).trans Bx.out);have Cg:=hidK ((hk.block (w5.heap.size) (lt_of_some Bg.out) (fun s => by have s1:=s.1;have s2:=s.2;have q3:=HQ3.out;have q4:=HQ4.out;have q5:=HQ5.out;omega)).trans Bg.out);have HB10:=hidK (HB.out.trans (hk.low (X:=w.heap.size) HB.out.size (fun k s => by have s1:=s.1;have q3:=HQ3.out;have q4:=HQ4.out;have q5:=HQ5.out;omega)));have CHY:=hidK (HY.out.kept hk (fun k s => by have s1:=s.1;have q3:=HQ3.out;have q4:=HQ4.out;have q5:=HQ5.out;omega));clear HB HY hk HO1 Bk Ba Bx Bg;have HB:=HB10;clear HB10;have HY:=CHY;clear CHY;have Bk:=Ck;clear Ck;have Ba:=Ca;clear Ca;have Bx:=Cx;clear Cx;have Bg:=Cg;clear Cg;have HM1:=hidK ho;clear ho;rw [← HMM.out];obtain ⟨k0,k1,k2,k3,k4,k5⟩:=cs6 Bk.out;have ltk_10:=lt_of_some Bk.out;obtain ⟨a0,a1,a2,a3,a4,a5,a6,a7⟩:=cs8 Ba.out;have lta_10:=lt_of_some Ba.out;obtain ⟨x0,x1,x2,x3,x4,x5⟩:=cs6 Bx.out;have ltx_10:=lt_of_some Bx.out;obtain ⟨g0,g1,g2,g3,g4,g5,g6,g7⟩:=cs8 Bg.out;have ltg_10:=lt_of_some Bg.out;go_wp2_with fail;refine (HH.out _ HM1.out.row).mono ?_;rintro e w11 ⟨rfl,hb⟩;clear k0 k1 k2 k3 k4 k5 ltk_10 a0 a1 a2 a3 a4 a5 a6 a7 lta_10 x0 x1 x2 x3 x4 x5 ltx_10 g0 g1 g2 g3 g4 g5 g6 g7 ltg_10;replace Bk:=upK Bk hb;replace Ba:=upK Ba hb;replace Bx:=upK Bx hb;replace Bg:=upK Bg hb;replace HY:=hidK (HY.out.below hb);replace HM1:=hidK (HM1.out.below hb);replace HB:=upB HB hb;clear hb;obtain ⟨k0,k1,k2,k3,k4,k5⟩:=cs6 Bk.out;have ltk_11:=lt_of_some Bk.out;go_wp2_with fail
 refine (toCluster_any d c _ (HR.out.below HB.out) HF.out).mono ?_;rintro e w12 ⟨d4,rfl,ho,hb⟩;clear k0 k1 k2 k3 k4 k5 ltk_11;replace Bk:=upK Bk hb;replace Ba:=upK Ba hb;replace Bx:=upK Bx hb;replace Bg:=upK Bg hb;replace HY:=hidK (HY.out.below hb);replace HM1:=hidK (HM1.out.below hb);replace HB:=upB HB hb;clear hb;have HO:=hidK ho.row;clear ho;go_wp2_with fail;refine (iagent_any d4 c t E _ HO.out (HE.out.below HB.out)).mono ?_;rintro e w13 ⟨dg2,o2,rfl,hI,ho,hb⟩;obtain rfl:=HIS.out.same hI;clear hI HO;have HR2:=hidK ho.row;clear ho;replace Bk:=upK Bk hb;replace Ba:=upK Ba hb;replace Bx:=upK Bx hb;replace Bg:=upK Bg hb;replace HY:=hidK (HY.out.below hb);replace HM1:=hidK (HM1.out.below hb);replace HB:=upB HB hb;clear hb;obtain ⟨k0,k1,k2,k3,k4,k5⟩:=cs6 Bk.out;have ltk_13:=lt_of_some Bk.out;obtain ⟨a0,a1,a2,a3,a4,a5,a6,a7⟩:=cs8 Ba.out;have lta_13:=lt_of_some Ba.out;obtain ⟨x0,x1,x2,x3,x4,x5⟩:=cs6 Bx.out;have ltx_13:=lt_of_some Bx.out;obtain ⟨g0,g1,g2,g3,g4,g5,g6,g7⟩:=cs8 Bg.out;have ltg_13:=lt_of_some Bg.out;go_wp2_with fail;refine (eqCout_any dg2 dg0 o _ (HR2.out.below (below1 _ _)) (R0.out.below (HY.out.below (below1 _ _)).out)).mono ?_;rintro e w14 ⟨rfl,hb⟩;clear k0 k1 k2 k3 k4 k5 ltk_13 a0 a1 a2 a3 a4 a5 a6 a7 lta_13 x0 x1 x2 x3 x4 x5 ltx_13 g0 g1 g2 g3 g4 g5 g6 g7 ltg_13;obtain ⟨HA0,hbx⟩:=slots1 hb;replace Bk:=upK Bk hbx;replace Ba:=upK Ba hbx;replace Bx:=upK Bx hbx;replace Bg:=upK Bg hbx;have Bh:=hidK HA0;replace HY:=hidK (HY.out.below hbx);replace HM1:=hidK (HM1.out.below hbx);replace HB:=upB HB hbx;clear hb hbx HA0;obtain ⟨k0,k1,k2,k3,k4,k5⟩:=cs6 Bk.out;have ltk_14:=lt_of_some Bk.out;obtain ⟨g0,g1,g2,g3,g4,g5,g6,g7⟩:=cs8 Bg.out;have ltg_14:=lt_of_some Bg.out;go_wp2_with fail;refine (HH.out _ HM1.out.row).mono ?_;rintro e w15 ⟨rfl,hb⟩
 clear k0 k1 k2 k3 k4 k5 ltk_14 g0 g1 g2 g3 g4 g5 g6 g7 ltg_14;replace Bk:=upK Bk hb;replace Ba:=upK Ba hb;replace Bx:=upK Bx hb;replace Bg:=upK Bg hb;replace Bh:=upK Bh hb;replace HY:=hidK (HY.out.below hb);replace HM1:=hidK (HM1.out.below hb);replace HB:=upB HB hb;clear hb;go_wp2_with fail;go_ret;exact ⟨rfl,HB.out⟩

set_option linter.unusedVariables false in
theorem fnExactAgentStep_walk (a1 : Option Addr) (l1 y1 : Nat) (ns : List Nd) (a2 : Option Addr) (l2 y2 : Nat) (ks : List Kd) (a3 : Option Addr) (l3 y3 : Nat) (vs : List Vd) (a4 : Option Addr) (l4 y4 : Nat) (xs : List Xd) (a5 : Option Addr) (l5 y5 : Nat) (ps : List Pd) (now : Int) (t : ByteArray) (w : World)
  (h1 : RRow w a1 l1 y1 7 (ns.map ndF)) (h2 : RRow w a2 l2 y2 4 (ks.map kdF)) (h3 : RRow w a3 l3 y3 8 (vs.map vdF)) (h4 : RRow w a4 l4 y4 5 (xs.map xdF)) (h5 : RRow w a5 l5 y5 6 (ps.map pdF)) (_ : (Lit.int .i64 now).wf = true) (ht : t.size ≤ maxLen) (hG : ∃ E,Ers w E) :
  Calls Tryz.prog 3 #[.agg #[.slice a1 l1 y1,.slice a2 l2 y2,.slice a3 l3 y3,.slice a4 l4 y4,.slice a5 l5 y5,.int .i64 now],.string t] w fun e w' => e = .returned (.bool true) ∧ Below w.heap.size w w' :=
 by obtain ⟨E,hG⟩:=hG;exact agentStep_walk ⟨a1,l1,y1,a2,l2,y2,a3,l3,y3,a4,l4,y4,a5,l5,y5⟩ ⟨ns,ks,vs,xs,ps,now⟩ t E w ⟨h1,h2,h3,h4,h5⟩ ht hG

end Go.Proofs.YtpgfiggcgjajcaaGreatDoor

namespace Go.Proofs.YtpgfiggcgjajcaaGreatDoor
open Go.RowKit
namespace Rc

theorem wordStar : "*" ++ "errors.errorString" = "*errors.errorString":=by decide
theorem wordRow (u : TypeId) (h : Tryz.prog.typeName? 3 u = some "*errors.errorString") : u = 208 :=
 typeName_ptr_named (nm:= "errors.errorString") (by rw [wordStar];kernel_rfl) (by kernel_rfl) (by decide) u (by rw [wordStar];exact h)

theorem laid_words {P : Program} {W : World} {nm : String} {ti tp te ts : TypeId} {ms : Array (String × TypeId)} {f : Field} (hi : P.underlying ti = some (.interface ms)) (hrow : ∀ u,P.typeName? 3 u = some nm → u = tp)
  (hp : P.underlying tp = some (.pointer te)) (he : P.underlying te = some (.struct #[f])) (hft : f.type = ts) (hfo : f.offset = 0) (hs : P.underlying ts = some .string) (hc : P.cellsOf te = 1) (hcs : P.cellsOf ts = 1) :
  ∀ (l : List (String × List UInt8)) (ps : List MemPlace),(∀ x ∈ l,∃ g,P.globalNamed x.1 = some g ∧ (P.globals[g]?).map (·.type) = some ti) →
   DataW.LaidVars P W (l.map fun x => (x.1,.iface nm (.ptr (.agg [.lit (.string x.2)])))) ps → ps.Nodup →
   (∀ b off,MemPlace.cell b off ∈ ps → (∃ c t,W.heap[b]? = some (.cells c t (0,0))) ∧ ∀ u v,W.cell? ⟨b,off,none⟩ = some (.iface u v) → Value.okWide P W .any 0 u v) →
   ∃ E : Nat → Addr,(∀ (i : Nat) x,l[i]? = some x → W.var? P x.1 = some #[.iface tp (.pointer (some (E i)))] ∧ MemPlace.cell (E i).block (E i).off ∈ ps) ∧ ∀ i j,i < l.length → j < l.length → E i = E j → i = j
 | [],ps,_,_,_,_ => ⟨fun _ => ⟨0,0,none⟩,fun i x h => by simp at h,fun i j h => by simp at h⟩
 | x :: l,ps,hT,hv,hnd,hrows => by
  obtain ⟨g,t,cs,fuel,p,q,hg,ht,hvar,hd,hq,rfl⟩:=hv;obtain ⟨g',hg',ht'⟩:=hT x (by simp);obtain rfl:=Option.some.inj (hg.symm.trans hg');obtain rfl:=Option.some.inj (ht.symm.trans ht');have hsub : ∀ {y},y ∈ q → y ∈ MemPlace.row ⟨g,0,none⟩ cs.size ++ p ++ q:=fun h => List.mem_append_right _ h;obtain ⟨E,hE1,hE2⟩:=laid_words hi hrow hp he hft hfo hs hc hcs l q (fun y hy => hT y (by simp [hy])) hq (List.Nodup.sublist (List.sublist_append_right _ _) hnd) (fun b off hm => hrows b off (hsub hm));obtain ⟨l0⟩:=cs
  have ok0 : ∀ u v,l0 = [.iface u v] → Value.okWide P W .any 0 u v:=fun u v e => by
   subst e;exact (hrows g 0 (by simp [MemPlace.row])).2 u v (by simpa using World.var?_cell hg hvar 0)
  obtain ⟨a0,s0,rfl,hc0,hs0,hz0,rfl⟩:=errorString_of_trod hi hrow hp he hft hfo hs hc hcs hd ok0
  have ha : MemPlace.cell a0.block a0.off ∈ MemPlace.row a0 1:=by simp [MemPlace.row]
  have hdis : ∀ i,i < l.length → ¬ E i = a0:=fun i hi' e => by
   have h1:=(hE1 i _ (List.getElem?_eq_getElem hi')).2;rw [e] at h1;have h2:=(List.nodup_append.1 hnd).2.2 _ (List.mem_append_right _ ha) _ h1;exact h2 rfl
  refine ⟨fun i => match i with | 0 => a0 | i + 1 => E i,fun i y hy => ?_,fun i j hi' hj' e => ?_⟩
  ·cases i with
   | zero =>
    obtain rfl : x = y:=by simpa using hy
    exact ⟨hvar,List.mem_append_left _ (List.mem_append_right _ ha)⟩
   | succ i =>
    obtain ⟨h1,h2⟩:=hE1 i y (by simpa using hy);exact ⟨h1,hsub h2⟩
  ·cases i with
   | zero => cases j with
    | zero => rfl
    | succ j => exact absurd e.symm (hdis j (by simpa using hj'))
   | succ i => cases j with
    | zero => exact absurd e (hdis i (by simpa using hi'))
    | succ j => rw [hE2 i j (by simpa using hi') (by simpa using hj') e]

theorem vars_length {H : Type} {enc : TypeId × Value → H} {P : Program} {w : World} {sp : Nat → Bool} : ∀ (ns : List String) (gs : List (DataW H)) (ps : List MemPlace),DataW.TrodVars enc P w sp ns gs ps → gs.length = ns.length
 | [],[],_,_ => rfl
 | [],_ :: _,_,h => h.elim
 | _ :: _,[],_,h => h.elim
 | _ :: ns,_ :: gs,_,h => by
  obtain ⟨_,_,_,_,_,q,_,_,_,_,h1,_⟩:=h
  simp [vars_length ns gs q h1]
theorem len9 {α : Type} : ∀ {l : List α},l.length = 9 → ∃ a b c d e f g h i,l = [a,b,c,d,e,f,g,h,i]
 | [a,b,c,d,e,f,g,h,i],_ => ⟨a,b,c,d,e,f,g,h,i,rfl⟩

end Rc
end Go.Proofs.YtpgfiggcgjajcaaGreatDoor

namespace Go.Proofs.YtpgfiggcgjajcaaGreatDoor
open Go.RowKit Go.ChangeShapes Go.WideShapes Go.Deep

theorem list6 {α : Type} {l : List α} (h : l.length = 6) : ∃ x0 x1 x2 x3 x4 x5,l = [x0,x1,x2,x3,x4,x5]:=by
 match l,h with
 | [x0,x1,x2,x3,x4,x5],_ => exact ⟨_,_,_,_,_,_,rfl⟩
section
variable {H : Type} {enc : TypeId × Value → H} {P : Program} {w : World} {base : Nat} {spare : Nat → Bool} {held : Bool}

theorem open_aggN {r : Reach} {b0 : Nat} {t : TypeId} {fs : Array Field} {v : Value} {d : DataW H} {p : List MemPlace} (hs : P.underlying t = some (.struct fs)) (hone : oneCellFields P fs = true) (hC : P.cellsOf t = fs.size)
  (hv : Value.okWide P w r b0 t v) (h : DataW.Trod enc P w base spare held t v d p) :
  ∃ (cs : List Value) (n : Nat),v = .agg cs.toArray ∧ cs.length = fs.size ∧ ∀ (i : Nat) (f : Field),fs[i]? = some f → ∃ c y,cs[i]? = some c ∧ DataW.trod enc P w base spare held n f.type [c] = some y:=by
 obtain ⟨cs,rfl,hsz⟩:=okWide_struct hs hv;obtain ⟨fuel,hf⟩:=h;obtain ⟨xs,n,_,hx,hl,hlen,hf'⟩:=DataW.trod_struct hs hf;refine ⟨cs.toList,n,rfl,by rw [Array.length_toList];exact hsz.trans hC,fun i f hi => ?_⟩;obtain ⟨o,k⟩:=hone_of hone i f hi;have hlt : i < fs.size:=(Array.getElem?_eq_some_iff.1 hi).1
 have hlc : i < cs.toList.length:=by rw [Array.length_toList,hsz,hC];exact hlt
 have g:=hf' i f hi;rw [o,k] at g
 have e : ((Value.agg cs).cells.toList.drop i).take 1 = [cs.toList[i]'hlc]:=by
  show (cs.toList.drop i).take 1 = _
  rw [List.drop_eq_getElem_cons hlc]
  rfl
 rw [e] at g;exact ⟨_,xs[i]'(by omega),List.getElem?_eq_getElem hlc,by rw [g,List.getElem?_eq_getElem]⟩

theorem row_of_trod {t e : TypeId} {n : Nat} {c : Value} {y : DataW H × List MemPlace} (ht : P.underlying t = some (.slice e)) (he : P.underlying e = some .string) (hc : P.cellsOf e = 1)
  (h : DataW.trod enc P w base spare held n t [c] = some y) : ∃ a len cap zs,c = .slice a len cap ∧ TxRow w a len cap zs:=by
 rcases open_strs ht he hc h with ⟨hcs,_⟩ | ⟨a,len,cap,m,Sx,hcs,hb,hl,hm,hmm,_,hx⟩
 ·exact ⟨none,0,0,[],by simpa using hcs,rfl,Nat.le_refl _,by omega,fun j x hx => by simp at hx,Or.inl rfl⟩
 ·have hlm : len ≤ m:=by rw [hmm];split <;> omega
  have hm' : cap ≤ 9223372036854775807:=by unfold maxLen at hm;omega
  refine ⟨some a,len,cap,(List.range len).map Sx,by simpa using hcs,by simp,hl,hm',fun j x hj => ?_,?_⟩
  ·rw [List.getElem?_map] at hj
   by_cases hjl : j < len
   ·rw [List.getElem?_range hjl] at hj;obtain rfl:=Option.some.inj hj;have:=(hx j (by omega)).2;unfold maxLen at this
    omega
   ·rw [List.getElem?_eq_none (by simp;omega)] at hj
    cases hj
  ·by_cases h0 : len = 0
   ·subst h0;exact Or.inl rfl
   right
   obtain ⟨b,o,spot⟩:=a;have h0':=(hx 0 (by omega)).1
   have hspot : spot = none:=by simpa [Addr.add] using World.cell?_spot h0'
   subst hspot;refine ⟨b,o,rfl,?_,fun j x hj => ?_⟩
   ·rw [Addr.add_lit] at h0'
    rcases Nat.lt_or_ge b w.heap.size with h1 | h1
    ·exact h1
    ·simp [World.cell?,Array.getElem?_eq_none h1] at h0'
   ·rw [List.getElem?_map] at hj
    by_cases hjl : j < len
    ·rw [List.getElem?_range hjl] at hj;obtain rfl:=Option.some.inj hj;have:=(hx j (by omega)).1;rw [Addr.add_lit] at this;exact this
    ·rw [List.getElem?_eq_none (by simp;omega)] at hj
     cases hj
end

section
variable {H : Type} {enc : TypeId × Value → H} {w : World} {base : Nat} {spare : Nat → Bool} {held : Bool}

theorem open_aggC {P : Program} {n : Nat} {t : TypeId} {fs : Array Field} {cs : List Value} {x : DataW H × List MemPlace} (hs : P.underlying t = some (.struct fs)) (hone : oneCellFields P fs = true) (hC : P.cellsOf t = fs.size)
  (h : DataW.trod enc P w base spare held n t cs = some x) :
  ∃ (n : Nat),cs.length = fs.size ∧ ∀ (i : Nat) (f : Field),fs[i]? = some f → ∃ c y,cs[i]? = some c ∧ DataW.trod enc P w base spare held n f.type [c] = some y:=by
 obtain ⟨xs,n,_,hx,hl,hlen,hf'⟩:=DataW.trod_struct hs h;refine ⟨n,hl.trans hC,fun i f hi => ?_⟩;obtain ⟨o,k⟩:=hone_of hone i f hi;have hlt : i < fs.size:=(Array.getElem?_eq_some_iff.1 hi).1
 have hlc : i < cs.length:=by rw [hl,hC];exact hlt
 have g:=hf' i f hi;rw [o,k] at g
 have e : (cs.drop i).take 1 = [cs[i]'hlc]:=by
  rw [List.drop_eq_getElem_cons hlc]
  rfl
 rw [e] at g;exact ⟨_,xs[i]'(by omega),List.getElem?_eq_getElem hlc,by rw [g,List.getElem?_eq_getElem]⟩

end

end Go.Proofs.YtpgfiggcgjajcaaGreatDoor
